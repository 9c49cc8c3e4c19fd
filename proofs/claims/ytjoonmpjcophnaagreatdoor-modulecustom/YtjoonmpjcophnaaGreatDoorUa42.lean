/- PlE, PsC, PlF, PsD, PlG, PcB, PsF, PlH, PcC, PsG, PlI, PcD, PsH, PlJ, PpB, PcG, PsI, PlK, PsJ. -/
import Derived.Test.YtjoonmpjcophnaaGreatDoorUa38
import Derived.Test.YtjoonmpjcophnaaGreatDoorUa39
import Derived.Test.YtjoonmpjcophnaaGreatDoorUa40
namespace Go.Proofs.YtjoonmpjcophnaaGreatDoor
open Go.RowKit

theorem szP99 : (Tryz.prog.info? 99).map (·.size) = some 3 := by kernel_rfl
theorem mkP99 (m : Nat) (hm : m ≤ 4096) : ∃ Z : Array Value, ∀ w, (Instr.makeSlice 27 (.int .i64 (m : Int)) (.int .i64 (m : Int))).run Tryz.prog w = .ok (.slice (some ⟨w.heap.size, 0, none⟩) m m) (w.alloc (.cells (madeCells Z (m * 3)) 99)) :=
  ⟨_, fun w => make_runK 27 99 3 Tryz.underlying27 (i := (Tryz.prog.info? 99).getD default) (z := (((Tryz.prog.info? 99).getD default).zero).getD default) (by kernel_rfl) (by kernel_rfl) (by kernel_rfl) (by kernel_rfl) m hm w⟩
section
variable {c : Nat} {a : Option Addr} {len cap k : Nat} {xs : List Int} {e : Int} {W : World} {sat : Bool} {q : Nat}
set_option maxHeartbeats 4000000 in
set_option maxRecDepth 100000 in
theorem list115_any {J : World → Prop} (h : Cs c a len cap xs k e W) (hJ : J W) (HJ : ∀ w w' l, J w → Fr l w w' → (∀ i ∈ l, i = c ∨ W.heap.size ≤ i) → J w')
    (HO : ∀ k e w, W.heap.size ≤ w.heap.size → Cs c a len cap xs k e w → J w → Calls Tryz.prog 111 #[.pointer (some ⟨c, 0, none⟩)] w fun r w' => ∃ y cs k' e', r = .returned (.agg cs.toArray) ∧ Rd rTable xs k e y k' e' ∧ eLim.rep' w' (fun b => w.heap.size ≤ b) e' y cs ∧ Cs c a len cap xs k' e' w' ∧ J w' ∧ Fr [c] w w') :
    Calls Tryz.prog 115 #[.pointer (some ⟨c, 0, none⟩), .func (.func 111) #[.pointer (some ⟨c, 0, none⟩)] #[]] W fun r W' => ∃ L g k' e', r = .returned (.slice (some ⟨g, 0, none⟩) L.length L.length) ∧ Rd (rList rTable) xs k e L k' e' ∧ (e' = 0 → Sls eLim W' (fun b => W.heap.size ≤ b) L (.slice (some ⟨g, 0, none⟩) L.length L.length)) ∧ Cs c a len cap xs k' e' W' ∧ J W' ∧ Fr [c] W W' := by
  have HX := hide (p_count h)
  have hcl := h.1.lt
  have HAl : Hid (∀ p, a = some p → 0 < len → p.block < W.heap.size) := hide h.2.1.lt
  have HJ0 := hide hJ
  have HJs := hide HJ
  have HOs := hide HO
  clear h hJ HJ HO
  go_enter Tryz.func115, Tryz.ntmps115
  go_wp2_with fail
  refine (unhide HX).mono ?_
  rintro _ w1 ⟨m, k1, e1, rfl, hD, hm, hC, hF⟩
  have HD := hide hD
  have HC := hide hC
  have HF := hide hF
  have hsz := hF.size
  have HJ1 := hide ((unhide HJs) _ _ _ (unhide HJ0) hF (by simp))
  clear hD hC hF HX HJ0
  obtain ⟨Z, hmk⟩ := mkP99 m hm
  go_wp2_with fail
  clear hmk
  have hb := below1 w1 (.cells (madeCells Z (m * 3)) 99)
  have HM := hide (Prw.made (E := eLim) w1 m W.heap.size Z 99 e1 hsz)
  change Hid (Prw eLim w1.heap.size m W.heap.size [] e1 (w1.alloc (.cells (madeCells Z (m * 3)) 99))) at HM
  have HC := hide ((unhide HC).bel hb)
  have HF := hide ((unhide HF).bel hb)
  have HJ1 := hide ((unhide HJs) _ _ _ (unhide HJ1) (Fr.of hb []) (by simp))
  have hsz2 : (w1.alloc (.cells (madeCells Z (m * 3)) 99)).heap.size = w1.heap.size + 1 := by simp
  clear hb
  generalize w1.alloc (.cells (madeCells Z (m * 3)) 99) = w2 at *
  go_loopw [12] (fun v12 wr => ∃ (L : List _) (k2 : Nat) (e2 : Int), L.length ≤ m ∧ v12 = .int .i64 (L.length : Int) ∧ Prw eLim w1.heap.size m W.heap.size L e2 wr ∧ Cs c a len cap xs k2 e2 wr ∧ J wr ∧ Fr [c] W wr ∧ w1.heap.size < wr.heap.size ∧ (∀ s k' e', Rd (repR rTable (m - L.length)) xs k2 e2 s k' e' → Rd (rList rTable) xs k e (id (L ++ s)) k' e')) (fun v12 _ => m - (intOf v12).toNat)
  case atStart =>
    refine ⟨[], k1, e1, Nat.zero_le _, rfl, unhide HM, unhide HC, unhide HJ1, unhide HF, by omega, fun s k' e' hs => (unhide HD).bd ?_⟩
    rw [show ((m : Int)).toNat = m by omega]
    exact hs
  case round =>
    obtain ⟨L, k2, e2, hi, rfl, hP, hC, hJ, hF, hlg, hK⟩ := hrel
    clear HM HC HJ1 HF HD
    by_cases hlt : L.length < m
    · have hi' : (L.length : Int) < (m : Int) := by omega
      have HX := hide (unhide HOs k2 e2 _ hF.size hC hJ)
      have HP := hide hP
      have HF := hide hF
      have HK := hide hK
      clear hP hC hJ hF hK
      go_wp2_with fail
      refine (unhide HX).mono ?_
      rintro _ w3 ⟨y, cs, k3, e3, rfl, hD, hy, hC, hJ, hF2⟩
      have hsz3 := hF2.size
      have hsW := (unhide HF).size
      have h0 := hD.zero
      have HP2 := hide ((unhide HP).fr hF2 (by simp; omega) (by simp; omega) h0)
      have HF3 := hide ((unhide HF).trans hF2)
      have HKn := hide (Rd.more2 id (n := m - (L.length + 1)) (by rw [show m - (L.length + 1) + 1 = m - L.length by omega]; exact unhide HK) hD)
      have hcl2 : cs.length = 3 := hy.len
      have hone := hy.one
      have HY := hide hy
      have HC2 := hide hC
      have HJ2 := hide hJ
      clear hD hy hC hJ hF2 HX HP HF HK
      go_wp2_with ((refine wpList_storeA rfl 99 (.tmp 19) (.tmp 18) rfl rfl (g := w1.heap.size) (off := L.length * 3) (cs := cs) rfl rfl (by rw [hcl2]; exact szP99) (fun j hj => (unhide HP2).spare hlt (show j < 3 by omega)) hone ?_))
      have hFg := fr_cells w1.heap.size cs (L.length * 3) w3
      have hl1 : (L ++ [y]).length = L.length + 1 := by simp
      refine ⟨⟨L ++ [y], k3, e3, by omega, by rw [hl1]; go_num, (unhide HP2).put hlt hcl2 (fun q => q) (fun q => (unhide HY).rep q (fun b _ hb => ⟨by omega, by omega⟩)), (unhide HC2).fr hFg (by simp; omega) (fun p hp hl => by have := unhide HAl p hp hl; simp; omega), unhide HJs _ _ _ (unhide HJ2) hFg (by simp; omega), (unhide HF3).thenL hFg (by simp; omega), by have := hFg.size; omega, by rw [hl1]; exact unhide HKn⟩, by simp [intOf]; omega⟩
    · obtain rfl : m = L.length := by omega
      have HP := hide hP
      have HC := hide hC
      have HJ2 := hide hJ
      have HF := hide hF
      have HK := hide (Rd.fin id hK (.inl (by omega)))
      clear hP hC hF hJ hK
      go_wp2_with fail
      go_ret
      exact ⟨L, w1.heap.size, k2, e2, rfl, unhide HK, fun q => by subst q; exact (unhide HP).sls, unhide HC, unhide HJ2, unhide HF⟩
end
end Go.Proofs.YtjoonmpjcophnaaGreatDoor
namespace Go.Proofs.YtjoonmpjcophnaaGreatDoor
open Go.RowKit

section
variable {c : Nat} {a : Option Addr} {len cap k : Nat} {xs : List Int} {e : Int} {W : World} {sat : Bool}
set_option maxHeartbeats 4000000 in
set_option maxRecDepth 100000 in
theorem sub81_any (h : Cs c a len cap xs k e W) (hm : Mk W) (hc : 4 ≤ c) : Calls Tryz.prog 81 #[.agg #[.pointer (some ⟨c, 0, none⟩), .bool sat]] W fun r W' => ∃ L g k' e', r = .returned (.slice (some ⟨g, 0, none⟩) L.length L.length) ∧ Rd (rList rTable) xs k e L k' e' ∧ (e' = 0 → Sls eLim W' (fun b => W.heap.size ≤ b) L (.slice (some ⟨g, 0, none⟩) L.length L.length)) ∧ Cs c a len cap xs k' e' W' ∧ Mk W' ∧ Fr [c] W W' := by
  have hcl := h.1.lt
  have hb := below1 W (.cells #[.pointer (some ⟨c, 0, none⟩), .bool sat] 68)
  have HV := vr_new [.pointer (some ⟨c, 0, none⟩), .bool sat] 68 W
  have hq : W.heap.size < (W.alloc (.cells #[.pointer (some ⟨c, 0, none⟩), .bool sat] 68)).heap.size := by simp
  have hB : Tab (W.alloc (.cells #[.pointer (some ⟨c, 0, none⟩), .bool sat] 68)) W.heap.size [.pointer (some ⟨c, 0, none⟩), .bool sat] := HV.tab
  have HF0 := hide (Fr.of hb [c])
  have HX := hide (list115_any (h.bel hb) (J := fun w => Mk w ∧ Tab w W.heap.size [.pointer (some ⟨c, 0, none⟩), .bool sat] ∧ W.heap.size < w.heap.size) ⟨hm.below hb, hB, hq⟩ (fun w w' l hJ hf hl => ⟨hJ.1.fr hf (fun i hi => by rcases hl i hi with q | q <;> omega), hJ.2.1.fr hf (fun hi => by rcases hl _ hi with q | q <;> omega), Nat.lt_of_lt_of_le hJ.2.2 hf.size⟩)
    (fun k e w hw hC hJ => (p_table hC).mono (by rintro _ w' ⟨y, k1, e1, rfl, hD, hC2, hF⟩; exact ⟨y, [.int .u32 y.1, .int .u32 y.2.1, .bool y.2.2], k1, e1, rfl, hD, El.rep'.of rfl _, hC2, ⟨hJ.1.fr hF (by simp; omega), hJ.2.1.fr hF (by simp; omega), Nat.lt_of_lt_of_le hJ.2.2 hF.size⟩, hF⟩)))
  clear h hm hb HV hB
  go_enter Tryz.func81, Tryz.ntmps81
  go_wp2_with fail
  refine (unhide HX).mono ?_
  rintro _ w1 ⟨L, g, k1, e1, rfl, hD, hS, hC, hJ, hF⟩
  have HD := hide hD
  have HS := hide hS
  have HC := hide hC
  have HM := hide hJ.1
  have HF := hide ((unhide HF0).trans hF)
  clear hD hS hC hJ hF
  go_wp2_with fail
  go_ret
  exact ⟨L, g, k1, e1, rfl, unhide HD, fun q => (unhide HS q).mono (fun b _ hb => by omega), unhide HC, unhide HM, unhide HF⟩
end
end Go.Proofs.YtjoonmpjcophnaaGreatDoor
namespace Go.Proofs.YtjoonmpjcophnaaGreatDoor
open Go.RowKit

section
variable {c : Nat} {a : Option Addr} {len cap k : Nat} {xs : List Int} {e : Int} {W : World} {sat : Bool} {q : Nat}
set_option maxHeartbeats 4000000 in
set_option maxRecDepth 100000 in
theorem list115b_any {J : World → Prop} (h : Cs c a len cap xs k e W) (hJ : J W) (HJ : ∀ w w' l, J w → Fr l w w' → (∀ i ∈ l, i = c ∨ W.heap.size ≤ i) → J w')
    (HO : ∀ k e w, W.heap.size ≤ w.heap.size → Cs c a len cap xs k e w → J w → Calls Tryz.prog 112 #[.pointer (some ⟨c, 0, none⟩)] w fun r w' => ∃ y cs k' e', r = .returned (.agg cs.toArray) ∧ Rd rLimits xs k e y k' e' ∧ eLim.rep' w' (fun b => w.heap.size ≤ b) e' y cs ∧ Cs c a len cap xs k' e' w' ∧ J w' ∧ Fr [c] w w') :
    Calls Tryz.prog 115 #[.pointer (some ⟨c, 0, none⟩), .func (.func 112) #[.pointer (some ⟨c, 0, none⟩)] #[]] W fun r W' => ∃ L g k' e', r = .returned (.slice (some ⟨g, 0, none⟩) L.length L.length) ∧ Rd (rList rLimits) xs k e L k' e' ∧ (e' = 0 → Sls eLim W' (fun b => W.heap.size ≤ b) L (.slice (some ⟨g, 0, none⟩) L.length L.length)) ∧ Cs c a len cap xs k' e' W' ∧ J W' ∧ Fr [c] W W' := by
  have HX := hide (p_count h)
  have hcl := h.1.lt
  have HAl : Hid (∀ p, a = some p → 0 < len → p.block < W.heap.size) := hide h.2.1.lt
  have HJ0 := hide hJ
  have HJs := hide HJ
  have HOs := hide HO
  clear h hJ HJ HO
  go_enter Tryz.func115, Tryz.ntmps115
  go_wp2_with fail
  refine (unhide HX).mono ?_
  rintro _ w1 ⟨m, k1, e1, rfl, hD, hm, hC, hF⟩
  have HD := hide hD
  have HC := hide hC
  have HF := hide hF
  have hsz := hF.size
  have HJ1 := hide ((unhide HJs) _ _ _ (unhide HJ0) hF (by simp))
  clear hD hC hF HX HJ0
  obtain ⟨Z, hmk⟩ := mkP99 m hm
  go_wp2_with fail
  clear hmk
  have hb := below1 w1 (.cells (madeCells Z (m * 3)) 99)
  have HM := hide (Prw.made (E := eLim) w1 m W.heap.size Z 99 e1 hsz)
  change Hid (Prw eLim w1.heap.size m W.heap.size [] e1 (w1.alloc (.cells (madeCells Z (m * 3)) 99))) at HM
  have HC := hide ((unhide HC).bel hb)
  have HF := hide ((unhide HF).bel hb)
  have HJ1 := hide ((unhide HJs) _ _ _ (unhide HJ1) (Fr.of hb []) (by simp))
  have hsz2 : (w1.alloc (.cells (madeCells Z (m * 3)) 99)).heap.size = w1.heap.size + 1 := by simp
  clear hb
  generalize w1.alloc (.cells (madeCells Z (m * 3)) 99) = w2 at *
  go_loopw [12] (fun v12 wr => ∃ (L : List _) (k2 : Nat) (e2 : Int), L.length ≤ m ∧ v12 = .int .i64 (L.length : Int) ∧ Prw eLim w1.heap.size m W.heap.size L e2 wr ∧ Cs c a len cap xs k2 e2 wr ∧ J wr ∧ Fr [c] W wr ∧ w1.heap.size < wr.heap.size ∧ (∀ s k' e', Rd (repR rLimits (m - L.length)) xs k2 e2 s k' e' → Rd (rList rLimits) xs k e (id (L ++ s)) k' e')) (fun v12 _ => m - (intOf v12).toNat)
  case atStart =>
    refine ⟨[], k1, e1, Nat.zero_le _, rfl, unhide HM, unhide HC, unhide HJ1, unhide HF, by omega, fun s k' e' hs => (unhide HD).bd ?_⟩
    rw [show ((m : Int)).toNat = m by omega]
    exact hs
  case round =>
    obtain ⟨L, k2, e2, hi, rfl, hP, hC, hJ, hF, hlg, hK⟩ := hrel
    clear HM HC HJ1 HF HD
    by_cases hlt : L.length < m
    · have hi' : (L.length : Int) < (m : Int) := by omega
      have HX := hide (unhide HOs k2 e2 _ hF.size hC hJ)
      have HP := hide hP
      have HF := hide hF
      have HK := hide hK
      clear hP hC hJ hF hK
      go_wp2_with fail
      refine (unhide HX).mono ?_
      rintro _ w3 ⟨y, cs, k3, e3, rfl, hD, hy, hC, hJ, hF2⟩
      have hsz3 := hF2.size
      have hsW := (unhide HF).size
      have h0 := hD.zero
      have HP2 := hide ((unhide HP).fr hF2 (by simp; omega) (by simp; omega) h0)
      have HF3 := hide ((unhide HF).trans hF2)
      have HKn := hide (Rd.more2 id (n := m - (L.length + 1)) (by rw [show m - (L.length + 1) + 1 = m - L.length by omega]; exact unhide HK) hD)
      have hcl2 : cs.length = 3 := hy.len
      have hone := hy.one
      have HY := hide hy
      have HC2 := hide hC
      have HJ2 := hide hJ
      clear hD hy hC hJ hF2 HX HP HF HK
      go_wp2_with ((refine wpList_storeA rfl 99 (.tmp 19) (.tmp 18) rfl rfl (g := w1.heap.size) (off := L.length * 3) (cs := cs) rfl rfl (by rw [hcl2]; exact szP99) (fun j hj => (unhide HP2).spare hlt (show j < 3 by omega)) hone ?_))
      have hFg := fr_cells w1.heap.size cs (L.length * 3) w3
      have hl1 : (L ++ [y]).length = L.length + 1 := by simp
      refine ⟨⟨L ++ [y], k3, e3, by omega, by rw [hl1]; go_num, (unhide HP2).put hlt hcl2 (fun q => q) (fun q => (unhide HY).rep q (fun b _ hb => ⟨by omega, by omega⟩)), (unhide HC2).fr hFg (by simp; omega) (fun p hp hl => by have := unhide HAl p hp hl; simp; omega), unhide HJs _ _ _ (unhide HJ2) hFg (by simp; omega), (unhide HF3).thenL hFg (by simp; omega), by have := hFg.size; omega, by rw [hl1]; exact unhide HKn⟩, by simp [intOf]; omega⟩
    · obtain rfl : m = L.length := by omega
      have HP := hide hP
      have HC := hide hC
      have HJ2 := hide hJ
      have HF := hide hF
      have HK := hide (Rd.fin id hK (.inl (by omega)))
      clear hP hC hF hJ hK
      go_wp2_with fail
      go_ret
      exact ⟨L, w1.heap.size, k2, e2, rfl, unhide HK, fun q => by subst q; exact (unhide HP).sls, unhide HC, unhide HJ2, unhide HF⟩
end
end Go.Proofs.YtjoonmpjcophnaaGreatDoor
namespace Go.Proofs.YtjoonmpjcophnaaGreatDoor
open Go.RowKit

section
variable {c : Nat} {a : Option Addr} {len cap k : Nat} {xs : List Int} {e : Int} {W : World} {sat : Bool}
set_option maxHeartbeats 4000000 in
set_option maxRecDepth 100000 in
theorem sub82_any (h : Cs c a len cap xs k e W) (hm : Mk W) (hc : 4 ≤ c) : Calls Tryz.prog 82 #[.agg #[.pointer (some ⟨c, 0, none⟩), .bool sat]] W fun r W' => ∃ L g k' e', r = .returned (.slice (some ⟨g, 0, none⟩) L.length L.length) ∧ Rd (rList rLimits) xs k e L k' e' ∧ (e' = 0 → Sls eLim W' (fun b => W.heap.size ≤ b) L (.slice (some ⟨g, 0, none⟩) L.length L.length)) ∧ Cs c a len cap xs k' e' W' ∧ Mk W' ∧ Fr [c] W W' := by
  have hcl := h.1.lt
  have hb := below1 W (.cells #[.pointer (some ⟨c, 0, none⟩), .bool sat] 68)
  have HV := vr_new [.pointer (some ⟨c, 0, none⟩), .bool sat] 68 W
  have hq : W.heap.size < (W.alloc (.cells #[.pointer (some ⟨c, 0, none⟩), .bool sat] 68)).heap.size := by simp
  have hB : Tab (W.alloc (.cells #[.pointer (some ⟨c, 0, none⟩), .bool sat] 68)) W.heap.size [.pointer (some ⟨c, 0, none⟩), .bool sat] := HV.tab
  have HF0 := hide (Fr.of hb [c])
  have HX := hide (list115b_any (h.bel hb) (J := fun w => Mk w ∧ Tab w W.heap.size [.pointer (some ⟨c, 0, none⟩), .bool sat] ∧ W.heap.size < w.heap.size) ⟨hm.below hb, hB, hq⟩ (fun w w' l hJ hf hl => ⟨hJ.1.fr hf (fun i hi => by rcases hl i hi with q | q <;> omega), hJ.2.1.fr hf (fun hi => by rcases hl _ hi with q | q <;> omega), Nat.lt_of_lt_of_le hJ.2.2 hf.size⟩)
    (fun k e w hw hC hJ => (p_limits hC).mono (by rintro _ w' ⟨y, k1, e1, rfl, hD, hC2, hF⟩; exact ⟨y, [.int .u32 y.1, .int .u32 y.2.1, .bool y.2.2], k1, e1, rfl, hD, El.rep'.of rfl _, hC2, ⟨hJ.1.fr hF (by simp; omega), hJ.2.1.fr hF (by simp; omega), Nat.lt_of_lt_of_le hJ.2.2 hF.size⟩, hF⟩)))
  clear h hm hb HV hB
  go_enter Tryz.func82, Tryz.ntmps82
  go_wp2_with fail
  refine (unhide HX).mono ?_
  rintro _ w1 ⟨L, g, k1, e1, rfl, hD, hS, hC, hJ, hF⟩
  have HD := hide hD
  have HS := hide hS
  have HC := hide hC
  have HM := hide hJ.1
  have HF := hide ((unhide HF0).trans hF)
  clear hD hS hC hJ hF
  go_wp2_with fail
  go_ret
  exact ⟨L, g, k1, e1, rfl, unhide HD, fun q => (unhide HS q).mono (fun b _ hb => by omega), unhide HC, unhide HM, unhide HF⟩
end
end Go.Proofs.YtjoonmpjcophnaaGreatDoor
namespace Go.Proofs.YtjoonmpjcophnaaGreatDoor
open Go.RowKit

theorem szP115 : (Tryz.prog.info? 115).map (·.size) = some 3 := by kernel_rfl
theorem mkP115 (m : Nat) (hm : m ≤ 4096) : ∃ Z : Array Value, ∀ w, (Instr.makeSlice 28 (.int .i64 (m : Int)) (.int .i64 (m : Int))).run Tryz.prog w = .ok (.slice (some ⟨w.heap.size, 0, none⟩) m m) (w.alloc (.cells (madeCells Z (m * 3)) 115)) :=
  ⟨_, fun w => make_runK 28 115 3 Tryz.underlying28 (i := (Tryz.prog.info? 115).getD default) (z := (((Tryz.prog.info? 115).getD default).zero).getD default) (by kernel_rfl) (by kernel_rfl) (by kernel_rfl) (by kernel_rfl) m hm w⟩
section
variable {c : Nat} {a : Option Addr} {len cap k : Nat} {xs : List Int} {e : Int} {W : World} {sat : Bool} {q : Nat}
set_option maxHeartbeats 4000000 in
set_option maxRecDepth 100000 in
theorem list116_any {J : World → Prop} (h : Cs c a len cap xs k e W) (hJ : J W) (HJ : ∀ w w' l, J w → Fr l w w' → (∀ i ∈ l, i = c ∨ W.heap.size ≤ i) → J w')
    (HO : ∀ k e w, W.heap.size ≤ w.heap.size → Cs c a len cap xs k e w → J w → Calls Tryz.prog 117 #[.pointer (some ⟨q, 0, none⟩)] w fun r w' => ∃ y cs k' e', r = .returned (.agg cs.toArray) ∧ Rd (rCe sat) xs k e y k' e' ∧ eCe.rep' w' (fun b => w.heap.size ≤ b) e' y cs ∧ Cs c a len cap xs k' e' w' ∧ J w' ∧ Fr [c] w w') :
    Calls Tryz.prog 116 #[.pointer (some ⟨c, 0, none⟩), .func (.func 117) #[] #[.pointer (some ⟨q, 0, none⟩)]] W fun r W' => ∃ L g k' e', r = .returned (.slice (some ⟨g, 0, none⟩) L.length L.length) ∧ Rd (rList (rCe sat)) xs k e L k' e' ∧ (e' = 0 → Sls eCe W' (fun b => W.heap.size ≤ b) L (.slice (some ⟨g, 0, none⟩) L.length L.length)) ∧ Cs c a len cap xs k' e' W' ∧ J W' ∧ Fr [c] W W' := by
  have HX := hide (p_count h)
  have hcl := h.1.lt
  have HAl : Hid (∀ p, a = some p → 0 < len → p.block < W.heap.size) := hide h.2.1.lt
  have HJ0 := hide hJ
  have HJs := hide HJ
  have HOs := hide HO
  clear h hJ HJ HO
  go_enter Tryz.func116, Tryz.ntmps116
  go_wp2_with fail
  refine (unhide HX).mono ?_
  rintro _ w1 ⟨m, k1, e1, rfl, hD, hm, hC, hF⟩
  have HD := hide hD
  have HC := hide hC
  have HF := hide hF
  have hsz := hF.size
  have HJ1 := hide ((unhide HJs) _ _ _ (unhide HJ0) hF (by simp))
  clear hD hC hF HX HJ0
  obtain ⟨Z, hmk⟩ := mkP115 m hm
  go_wp2_with fail
  clear hmk
  have hb := below1 w1 (.cells (madeCells Z (m * 3)) 115)
  have HM := hide (Prw.made (E := eCe) w1 m W.heap.size Z 115 e1 hsz)
  change Hid (Prw eCe w1.heap.size m W.heap.size [] e1 (w1.alloc (.cells (madeCells Z (m * 3)) 115))) at HM
  have HC := hide ((unhide HC).bel hb)
  have HF := hide ((unhide HF).bel hb)
  have HJ1 := hide ((unhide HJs) _ _ _ (unhide HJ1) (Fr.of hb []) (by simp))
  have hsz2 : (w1.alloc (.cells (madeCells Z (m * 3)) 115)).heap.size = w1.heap.size + 1 := by simp
  clear hb
  generalize w1.alloc (.cells (madeCells Z (m * 3)) 115) = w2 at *
  go_loopw [12] (fun v12 wr => ∃ (L : List _) (k2 : Nat) (e2 : Int), L.length ≤ m ∧ v12 = .int .i64 (L.length : Int) ∧ Prw eCe w1.heap.size m W.heap.size L e2 wr ∧ Cs c a len cap xs k2 e2 wr ∧ J wr ∧ Fr [c] W wr ∧ w1.heap.size < wr.heap.size ∧ (∀ s k' e', Rd (repR (rCe sat) (m - L.length)) xs k2 e2 s k' e' → Rd (rList (rCe sat)) xs k e (id (L ++ s)) k' e')) (fun v12 _ => m - (intOf v12).toNat)
  case atStart =>
    refine ⟨[], k1, e1, Nat.zero_le _, rfl, unhide HM, unhide HC, unhide HJ1, unhide HF, by omega, fun s k' e' hs => (unhide HD).bd ?_⟩
    rw [show ((m : Int)).toNat = m by omega]
    exact hs
  case round =>
    obtain ⟨L, k2, e2, hi, rfl, hP, hC, hJ, hF, hlg, hK⟩ := hrel
    clear HM HC HJ1 HF HD
    by_cases hlt : L.length < m
    · have hi' : (L.length : Int) < (m : Int) := by omega
      have HX := hide (unhide HOs k2 e2 _ hF.size hC hJ)
      have HP := hide hP
      have HF := hide hF
      have HK := hide hK
      clear hP hC hJ hF hK
      go_wp2_with fail
      refine (unhide HX).mono ?_
      rintro _ w3 ⟨y, cs, k3, e3, rfl, hD, hy, hC, hJ, hF2⟩
      have hsz3 := hF2.size
      have hsW := (unhide HF).size
      have h0 := hD.zero
      have HP2 := hide ((unhide HP).fr hF2 (by simp; omega) (by simp; omega) h0)
      have HF3 := hide ((unhide HF).trans hF2)
      have HKn := hide (Rd.more2 id (n := m - (L.length + 1)) (by rw [show m - (L.length + 1) + 1 = m - L.length by omega]; exact unhide HK) hD)
      have hcl2 : cs.length = 3 := hy.len
      have hone := hy.one
      have HY := hide hy
      have HC2 := hide hC
      have HJ2 := hide hJ
      clear hD hy hC hJ hF2 HX HP HF HK
      go_wp2_with ((refine wpList_storeA rfl 115 (.tmp 19) (.tmp 18) rfl rfl (g := w1.heap.size) (off := L.length * 3) (cs := cs) rfl rfl (by rw [hcl2]; exact szP115) (fun j hj => (unhide HP2).spare hlt (show j < 3 by omega)) hone ?_))
      have hFg := fr_cells w1.heap.size cs (L.length * 3) w3
      have hl1 : (L ++ [y]).length = L.length + 1 := by simp
      refine ⟨⟨L ++ [y], k3, e3, by omega, by rw [hl1]; go_num, (unhide HP2).put hlt hcl2 (fun q => q) (fun q => (unhide HY).rep q (fun b _ hb => ⟨by omega, by omega⟩)), (unhide HC2).fr hFg (by simp; omega) (fun p hp hl => by have := unhide HAl p hp hl; simp; omega), unhide HJs _ _ _ (unhide HJ2) hFg (by simp; omega), (unhide HF3).thenL hFg (by simp; omega), by have := hFg.size; omega, by rw [hl1]; exact unhide HKn⟩, by simp [intOf]; omega⟩
    · obtain rfl : m = L.length := by omega
      have HP := hide hP
      have HC := hide hC
      have HJ2 := hide hJ
      have HF := hide hF
      have HK := hide (Rd.fin id hK (.inl (by omega)))
      clear hP hC hF hJ hK
      go_wp2_with fail
      go_ret
      exact ⟨L, w1.heap.size, k2, e2, rfl, unhide HK, fun q => by subst q; exact (unhide HP).sls, unhide HC, unhide HJ2, unhide HF⟩
end
end Go.Proofs.YtjoonmpjcophnaaGreatDoor
namespace Go.Proofs.YtjoonmpjcophnaaGreatDoor
open Go.RowKit

section
variable {c : Nat} {a : Option Addr} {len cap k : Nat} {xs : List Int} {e : Int} {W : World} {sat : Bool} {q : Nat}
set_option maxHeartbeats 4000000 in
set_option maxRecDepth 100000 in
theorem clos117_any (h : Cs c a len cap xs k e W) (hm : Mk W) (hc : 4 ≤ c) (hB : Tab W q [.pointer (some ⟨c, 0, none⟩), .bool sat]) (hql : q < W.heap.size) (hqc : q ≠ c) :
    Calls Tryz.prog 117 #[.pointer (some ⟨q, 0, none⟩)] W fun r W' => ∃ y cs k' e', r = .returned (.agg cs.toArray) ∧ Rd (rCe sat) xs k e y k' e' ∧ eCe.rep' W' (fun b => W.heap.size ≤ b) e' y cs ∧ Cs c a len cap xs k' e' W' ∧ Mk W' ∧ Tab W' q [.pointer (some ⟨c, 0, none⟩), .bool sat] ∧ Fr [c] W W' := by
  have hcl := h.1.lt
  have HAl : ∀ p, a = some p → 0 < len → p.block < W.heap.size := h.2.1.lt
  have hb := below1 W (.cells #[.int .u8 0, .bool false, .slice none 0 0] 115)
  have HR : Hid (Room W.heap.size 3 (W.alloc (.cells #[.int .u8 0, .bool false, .slice none 0 0] 115)).drew) := hide ((room_cells (cs := [.int .u8 0, .bool false, .slice none 0 0]) W 3 (by decide)).drew)
  have H := hide ((h.bel hb).drew)
  have HM := hide ((hm.below hb).below ((Below.refl _ _).drew))
  have HF := hide ((Fr.of hb [c]).drew)
  have HB := hide ((hB.below hb).below ((Below.refl _ _).drew))
  have hs0 : W.heap.size < (W.alloc (.cells #[.int .u8 0, .bool false, .slice none 0 0] 115)).drew.heap.size := by simp [go_sem]
  clear h hm hB hb
  go_enter Tryz.func117, Tryz.ntmps117
  go_wp2_with fail
  refine wp_region_held_drew (S := fun w' => w'.cell? ⟨q, 0, none⟩ = some (.pointer (some ⟨c, 0, none⟩)) ∧ w'.cell? ⟨q, 1, none⟩ = some (.bool sat) ∧ Room W.heap.size 3 w') (by kernel_rfl) ?_ (fun hHeld => ?_)
  · (try dsimp only)
    exact ⟨(unhide HB) 0 _ rfl, (unhide HB) 1 _ rfl, unhide HR⟩
  refine lst0 7 (by kernel_rfl) ?_
  refine tkA 0 2 1 ?_
  refine tkA 1 3 3 ?_
  refine tkA 3 5 11 ?_
  refine rdA 2 15 (fun Kk hKk => ?_)
  go_simp
  refine (p_global (unhide H)).mono ?_
  rintro _ w1 ⟨y1, z1, k1, e1, rfl, hD, hC, hF⟩
  have HD1 := hide hD
  have HB := hide ((unhide HB).fr hF (by simp; omega))
  have HR := hide ((unhide HR).fr hF (by simp; omega))
  have H := hide hC
  have HM := hide ((unhide HM).fr hF (by simp; omega))
  have hs1 := hF.size
  have HF := hide ((unhide HF).trans hF)
  clear hC hD hF
  (try go_wp2_with fail)
  refine hKk.out _ _ ?_ (fun hHeld => ?_)
  · (try dsimp only)
    exact ⟨(unhide HB) 0 _ rfl, (unhide HB) 1 _ rfl, unhide HR⟩
  clear hKk Kk
  (try simp only [List.setIfInBounds_toArray, List.set_cons_zero, List.set_cons_succ])
  refine rdA 4 31 (fun Kk hKk => ?_)
  go_simp
  refine (p_expr (unhide H) (unhide HM) hc).mono ?_
  rintro _ w2 ⟨p2, q2, s2, T2, k2, e2, rfl, hD, hT, hC, hM, hF⟩
  have HD2 := hide hD
  have HT2 := hide (fun q => (hT q).mono (fun b _ hb => (show W.heap.size < b by omega)))
  have HB := hide ((unhide HB).fr hF (by simp; omega))
  have HR := hide ((unhide HR).fr hF (by simp; omega))
  have H := hide hC
  have HM := hide hM
  have hs2 := hF.size
  have HF := hide ((unhide HF).trans hF)
  clear hC hD hF hM hT
  (try go_wp2_with fail)
  refine hKk.out _ _ ?_ (fun hHeld => ?_)
  · (try dsimp only)
    exact ⟨(unhide HB) 0 _ rfl, (unhide HB) 1 _ rfl, unhide HR⟩
  clear hKk Kk
  (try simp only [List.setIfInBounds_toArray, List.set_cons_zero, List.set_cons_succ])
  refine tkA 5 7 63 ?_
  refine rdA 6 127 (fun Kk hKk => ?_)
  obtain ⟨⟨u0, r0⟩, g0⟩ := unhide HR 0 (by decide)
  obtain ⟨⟨u1, r1⟩, g1⟩ := unhide HR 1 (by decide)
  obtain ⟨⟨u2, r2⟩, g2⟩ := unhide HR 2 (by decide)
  have fZ : Fr [W.heap.size] w2 (((w2.setCell ⟨W.heap.size, 0, none⟩ (.int .u8 y1)).setCell ⟨W.heap.size, 1, none⟩ (.bool z1)).setCell ⟨W.heap.size, 2, none⟩ (.slice p2 q2 s2)) := (((Fr.refl _ _).place 0 _).place 1 _).place 2 _
  go_simp
  refine hKk.out _ _ ?_ (fun hHeld => ?_)
  · (try dsimp only)
    exact ⟨((unhide HB).fr fZ (by simp; omega)) 0 _ rfl, ((unhide HB).fr fZ (by simp; omega)) 1 _ rfl, (((unhide HR).set 0 _).set 1 _).set 2 _⟩
  clear hKk Kk
  (try simp only [List.setIfInBounds_toArray, List.set_cons_zero, List.set_cons_succ])
  refine wpAnyH_done (by kernel_rfl) ?_ _
  have HV : Hid (Vr W.heap.size 3 [.int .u8 y1, .bool z1, .slice p2 q2 s2] _) := hide (vr_fill3 w2 (unhide HR) (by omega))
  have j0 := (unhide HV).tab 0 _ rfl
  have j1 := (unhide HV).tab 1 _ rfl
  have j2 := (unhide HV).tab 2 _ rfl
  clear r0 g0
  clear r1 g1
  clear r2 g2
  have hsz := (show Fr [W.heap.size] w2 (((w2.setCell ⟨W.heap.size, 0, none⟩ (.int .u8 y1)).setCell ⟨W.heap.size, 1, none⟩ (.bool z1)).setCell ⟨W.heap.size, 2, none⟩ (.slice p2 q2 s2)) from fZ).size
  generalize (((w2.setCell ⟨W.heap.size, 0, none⟩ (.int .u8 y1)).setCell ⟨W.heap.size, 1, none⟩ (.bool z1)).setCell ⟨W.heap.size, 2, none⟩ (.slice p2 q2 s2)) = wz at *
  go_wp2_with fail
  refine bodyPost_ret (v := .agg #[.int .u8 y1, .bool z1, .slice p2 q2 s2]) (by simp [results, Tryz.results117, go_sem, j0, j1, j2]) rfl ?_
  refine ⟨(y1, z1, T2), [.int .u8 y1, .bool z1, .slice p2 q2 s2], _, _, rfl, rd_ce2 (unhide HD1) (unhide HD2), ⟨rfl, by simp [Value.oneCell'], fun q => ?_⟩, (unhide H).fr fZ (by simp; omega) (fun p hp hl => by have := HAl p hp hl; simp; omega), (unhide HM).fr fZ (by simp; omega), (unhide HB).fr fZ (by simp; omega), (unhide HF).thenL fZ (by simp)⟩
  exact ⟨_, _, rfl, rfl, ((unhide HT2 q).fr fZ (by simp)).mono (fun b _ hb => by omega)⟩
end
end Go.Proofs.YtjoonmpjcophnaaGreatDoor
namespace Go.Proofs.YtjoonmpjcophnaaGreatDoor
open Go.RowKit

section
variable {c : Nat} {a : Option Addr} {len cap k : Nat} {xs : List Int} {e : Int} {W : World} {sat : Bool}
set_option maxHeartbeats 4000000 in
set_option maxRecDepth 100000 in
theorem sub83_any (h : Cs c a len cap xs k e W) (hm : Mk W) (hc : 4 ≤ c) : Calls Tryz.prog 83 #[.agg #[.pointer (some ⟨c, 0, none⟩), .bool sat]] W fun r W' => ∃ L g k' e', r = .returned (.slice (some ⟨g, 0, none⟩) L.length L.length) ∧ Rd (rList (rCe sat)) xs k e L k' e' ∧ (e' = 0 → Sls eCe W' (fun b => W.heap.size ≤ b) L (.slice (some ⟨g, 0, none⟩) L.length L.length)) ∧ Cs c a len cap xs k' e' W' ∧ Mk W' ∧ Fr [c] W W' := by
  have hcl := h.1.lt
  have hb := below1 W (.cells #[.pointer (some ⟨c, 0, none⟩), .bool sat] 68)
  have HV := vr_new [.pointer (some ⟨c, 0, none⟩), .bool sat] 68 W
  have hq : W.heap.size < (W.alloc (.cells #[.pointer (some ⟨c, 0, none⟩), .bool sat] 68)).heap.size := by simp
  have hB : Tab (W.alloc (.cells #[.pointer (some ⟨c, 0, none⟩), .bool sat] 68)) W.heap.size [.pointer (some ⟨c, 0, none⟩), .bool sat] := HV.tab
  have HF0 := hide (Fr.of hb [c])
  have HX := hide (list116_any (q := W.heap.size) (h.bel hb) (J := fun w => Mk w ∧ Tab w W.heap.size [.pointer (some ⟨c, 0, none⟩), .bool sat] ∧ W.heap.size < w.heap.size) ⟨hm.below hb, hB, hq⟩ (fun w w' l hJ hf hl => ⟨hJ.1.fr hf (fun i hi => by rcases hl i hi with q | q <;> omega), hJ.2.1.fr hf (fun hi => by rcases hl _ hi with q | q <;> omega), Nat.lt_of_lt_of_le hJ.2.2 hf.size⟩)
    (fun k e w hw hC hJ => (clos117_any hC hJ.1 hc hJ.2.1 hJ.2.2 (by omega)).mono (by rintro _ w' ⟨y, cs, k1, e1, rfl, hD, hR, hC2, hM2, hB2, hF⟩; exact ⟨y, cs, k1, e1, rfl, hD, hR, hC2, ⟨hM2, hB2, Nat.lt_of_lt_of_le hJ.2.2 hF.size⟩, hF⟩)))
  clear h hm hb HV hB
  go_enter Tryz.func83, Tryz.ntmps83
  go_wp2_with fail
  refine (unhide HX).mono ?_
  rintro _ w1 ⟨L, g, k1, e1, rfl, hD, hS, hC, hJ, hF⟩
  have HD := hide hD
  have HS := hide hS
  have HC := hide hC
  have HM := hide hJ.1
  have HF := hide ((unhide HF0).trans hF)
  clear hD hS hC hJ hF
  go_wp2_with fail
  go_ret
  exact ⟨L, g, k1, e1, rfl, unhide HD, fun q => (unhide HS q).mono (fun b _ hb => by omega), unhide HC, unhide HM, unhide HF⟩
end
end Go.Proofs.YtjoonmpjcophnaaGreatDoor
namespace Go.Proofs.YtjoonmpjcophnaaGreatDoor
open Go.RowKit

theorem szP108 : (Tryz.prog.info? 108).map (·.size) = some 3 := by kernel_rfl
theorem mkP108 (m : Nat) (hm : m ≤ 4096) : ∃ Z : Array Value, ∀ w, (Instr.makeSlice 29 (.int .i64 (m : Int)) (.int .i64 (m : Int))).run Tryz.prog w = .ok (.slice (some ⟨w.heap.size, 0, none⟩) m m) (w.alloc (.cells (madeCells Z (m * 3)) 108)) :=
  ⟨_, fun w => make_runK 29 108 3 Tryz.underlying29 (i := (Tryz.prog.info? 108).getD default) (z := (((Tryz.prog.info? 108).getD default).zero).getD default) (by kernel_rfl) (by kernel_rfl) (by kernel_rfl) (by kernel_rfl) m hm w⟩
section
variable {c : Nat} {a : Option Addr} {len cap k : Nat} {xs : List Int} {e : Int} {W : World} {sat : Bool} {q : Nat}
set_option maxHeartbeats 4000000 in
set_option maxRecDepth 100000 in
theorem list119_any {J : World → Prop} (h : Cs c a len cap xs k e W) (hJ : J W) (HJ : ∀ w w' l, J w → Fr l w w' → (∀ i ∈ l, i = c ∨ W.heap.size ≤ i) → J w')
    (HO : ∀ k e w, W.heap.size ≤ w.heap.size → Cs c a len cap xs k e w → J w → Calls Tryz.prog 120 #[.pointer (some ⟨q, 0, none⟩)] w fun r w' => ∃ y cs k' e', r = .returned (.agg cs.toArray) ∧ Rd rEx xs k e y k' e' ∧ eEx.rep' w' (fun b => w.heap.size ≤ b) e' y cs ∧ Cs c a len cap xs k' e' w' ∧ J w' ∧ Fr [c] w w') :
    Calls Tryz.prog 119 #[.pointer (some ⟨c, 0, none⟩), .func (.func 120) #[] #[.pointer (some ⟨q, 0, none⟩)]] W fun r W' => ∃ L g k' e', r = .returned (.slice (some ⟨g, 0, none⟩) L.length L.length) ∧ Rd (rList rEx) xs k e L k' e' ∧ (e' = 0 → Sls eEx W' (fun b => W.heap.size ≤ b) L (.slice (some ⟨g, 0, none⟩) L.length L.length)) ∧ Cs c a len cap xs k' e' W' ∧ J W' ∧ Fr [c] W W' := by
  have HX := hide (p_count h)
  have hcl := h.1.lt
  have HAl : Hid (∀ p, a = some p → 0 < len → p.block < W.heap.size) := hide h.2.1.lt
  have HJ0 := hide hJ
  have HJs := hide HJ
  have HOs := hide HO
  clear h hJ HJ HO
  go_enter Tryz.func119, Tryz.ntmps119
  go_wp2_with fail
  refine (unhide HX).mono ?_
  rintro _ w1 ⟨m, k1, e1, rfl, hD, hm, hC, hF⟩
  have HD := hide hD
  have HC := hide hC
  have HF := hide hF
  have hsz := hF.size
  have HJ1 := hide ((unhide HJs) _ _ _ (unhide HJ0) hF (by simp))
  clear hD hC hF HX HJ0
  obtain ⟨Z, hmk⟩ := mkP108 m hm
  go_wp2_with fail
  clear hmk
  have hb := below1 w1 (.cells (madeCells Z (m * 3)) 108)
  have HM := hide (Prw.made (E := eEx) w1 m W.heap.size Z 108 e1 hsz)
  change Hid (Prw eEx w1.heap.size m W.heap.size [] e1 (w1.alloc (.cells (madeCells Z (m * 3)) 108))) at HM
  have HC := hide ((unhide HC).bel hb)
  have HF := hide ((unhide HF).bel hb)
  have HJ1 := hide ((unhide HJs) _ _ _ (unhide HJ1) (Fr.of hb []) (by simp))
  have hsz2 : (w1.alloc (.cells (madeCells Z (m * 3)) 108)).heap.size = w1.heap.size + 1 := by simp
  clear hb
  generalize w1.alloc (.cells (madeCells Z (m * 3)) 108) = w2 at *
  go_loopw [12] (fun v12 wr => ∃ (L : List _) (k2 : Nat) (e2 : Int), L.length ≤ m ∧ v12 = .int .i64 (L.length : Int) ∧ Prw eEx w1.heap.size m W.heap.size L e2 wr ∧ Cs c a len cap xs k2 e2 wr ∧ J wr ∧ Fr [c] W wr ∧ w1.heap.size < wr.heap.size ∧ (∀ s k' e', Rd (repR rEx (m - L.length)) xs k2 e2 s k' e' → Rd (rList rEx) xs k e (id (L ++ s)) k' e')) (fun v12 _ => m - (intOf v12).toNat)
  case atStart =>
    refine ⟨[], k1, e1, Nat.zero_le _, rfl, unhide HM, unhide HC, unhide HJ1, unhide HF, by omega, fun s k' e' hs => (unhide HD).bd ?_⟩
    rw [show ((m : Int)).toNat = m by omega]
    exact hs
  case round =>
    obtain ⟨L, k2, e2, hi, rfl, hP, hC, hJ, hF, hlg, hK⟩ := hrel
    clear HM HC HJ1 HF HD
    by_cases hlt : L.length < m
    · have hi' : (L.length : Int) < (m : Int) := by omega
      have HX := hide (unhide HOs k2 e2 _ hF.size hC hJ)
      have HP := hide hP
      have HF := hide hF
      have HK := hide hK
      clear hP hC hJ hF hK
      go_wp2_with fail
      refine (unhide HX).mono ?_
      rintro _ w3 ⟨y, cs, k3, e3, rfl, hD, hy, hC, hJ, hF2⟩
      have hsz3 := hF2.size
      have hsW := (unhide HF).size
      have h0 := hD.zero
      have HP2 := hide ((unhide HP).fr hF2 (by simp; omega) (by simp; omega) h0)
      have HF3 := hide ((unhide HF).trans hF2)
      have HKn := hide (Rd.more2 id (n := m - (L.length + 1)) (by rw [show m - (L.length + 1) + 1 = m - L.length by omega]; exact unhide HK) hD)
      have hcl2 : cs.length = 3 := hy.len
      have hone := hy.one
      have HY := hide hy
      have HC2 := hide hC
      have HJ2 := hide hJ
      clear hD hy hC hJ hF2 HX HP HF HK
      go_wp2_with ((refine wpList_storeA rfl 108 (.tmp 19) (.tmp 18) rfl rfl (g := w1.heap.size) (off := L.length * 3) (cs := cs) rfl rfl (by rw [hcl2]; exact szP108) (fun j hj => (unhide HP2).spare hlt (show j < 3 by omega)) hone ?_))
      have hFg := fr_cells w1.heap.size cs (L.length * 3) w3
      have hl1 : (L ++ [y]).length = L.length + 1 := by simp
      refine ⟨⟨L ++ [y], k3, e3, by omega, by rw [hl1]; go_num, (unhide HP2).put hlt hcl2 (fun q => q) (fun q => (unhide HY).rep q (fun b _ hb => ⟨by omega, by omega⟩)), (unhide HC2).fr hFg (by simp; omega) (fun p hp hl => by have := unhide HAl p hp hl; simp; omega), unhide HJs _ _ _ (unhide HJ2) hFg (by simp; omega), (unhide HF3).thenL hFg (by simp; omega), by have := hFg.size; omega, by rw [hl1]; exact unhide HKn⟩, by simp [intOf]; omega⟩
    · obtain rfl : m = L.length := by omega
      have HP := hide hP
      have HC := hide hC
      have HJ2 := hide hJ
      have HF := hide hF
      have HK := hide (Rd.fin id hK (.inl (by omega)))
      clear hP hC hF hJ hK
      go_wp2_with fail
      go_ret
      exact ⟨L, w1.heap.size, k2, e2, rfl, unhide HK, fun q => by subst q; exact (unhide HP).sls, unhide HC, unhide HJ2, unhide HF⟩
end
end Go.Proofs.YtjoonmpjcophnaaGreatDoor
namespace Go.Proofs.YtjoonmpjcophnaaGreatDoor
open Go.RowKit

section
variable {c : Nat} {a : Option Addr} {len cap k : Nat} {xs : List Int} {e : Int} {W : World} {sat : Bool} {q : Nat}
set_option maxHeartbeats 4000000 in
set_option maxRecDepth 100000 in
theorem clos120_any (h : Cs c a len cap xs k e W) (hm : Mk W) (hc : 4 ≤ c) (hB : Tab W q [.pointer (some ⟨c, 0, none⟩), .bool sat]) (hql : q < W.heap.size) (hqc : q ≠ c) :
    Calls Tryz.prog 120 #[.pointer (some ⟨q, 0, none⟩)] W fun r W' => ∃ y cs k' e', r = .returned (.agg cs.toArray) ∧ Rd rEx xs k e y k' e' ∧ eEx.rep' W' (fun b => W.heap.size ≤ b) e' y cs ∧ Cs c a len cap xs k' e' W' ∧ Mk W' ∧ Tab W' q [.pointer (some ⟨c, 0, none⟩), .bool sat] ∧ Fr [c] W W' := by
  have hcl := h.1.lt
  have HAl : ∀ p, a = some p → 0 < len → p.block < W.heap.size := h.2.1.lt
  have hb := below1 W (.cells #[.string ByteArray.empty, .int .i64 0, .int .u32 0] 108)
  have HR : Hid (Room W.heap.size 3 (W.alloc (.cells #[.string ByteArray.empty, .int .i64 0, .int .u32 0] 108)).drew) := hide ((room_cells (cs := [.string ByteArray.empty, .int .i64 0, .int .u32 0]) W 3 (by decide)).drew)
  have H := hide ((h.bel hb).drew)
  have HM := hide ((hm.below hb).below ((Below.refl _ _).drew))
  have HF := hide ((Fr.of hb [c]).drew)
  have HB := hide ((hB.below hb).below ((Below.refl _ _).drew))
  have hs0 : W.heap.size < (W.alloc (.cells #[.string ByteArray.empty, .int .i64 0, .int .u32 0] 108)).drew.heap.size := by simp [go_sem]
  clear h hm hB hb
  go_enter Tryz.func120, Tryz.ntmps120
  go_wp2_with fail
  refine wp_region_held_drew (S := fun w' => w'.cell? ⟨q, 0, none⟩ = some (.pointer (some ⟨c, 0, none⟩)) ∧ w'.cell? ⟨q, 1, none⟩ = some (.bool sat) ∧ Room W.heap.size 3 w') (by kernel_rfl) ?_ (fun hHeld => ?_)
  · (try dsimp only)
    exact ⟨(unhide HB) 0 _ rfl, (unhide HB) 1 _ rfl, unhide HR⟩
  refine lst0 10 (by kernel_rfl) ?_
  refine tkA 0 2 1 ?_
  refine tkA 1 3 3 ?_
  refine tkA 3 5 11 ?_
  refine tkA 5 7 43 ?_
  refine tkA 6 8 107 ?_
  refine rdA 2 111 (fun Kk hKk => ?_)
  go_simp
  refine (p_name (unhide H)).mono ?_
  rintro _ w1 ⟨y1, k1, e1, rfl, hD, hC, hF⟩
  have HD1 := hide hD
  have HB := hide ((unhide HB).fr hF (by simp; omega))
  have HR := hide ((unhide HR).fr hF (by simp; omega))
  have H := hide hC
  have HM := hide ((unhide HM).fr hF (by simp; omega))
  have hs1 := hF.size
  have HF := hide ((unhide HF).trans hF)
  clear hC hD hF
  (try go_wp2_with fail)
  refine hKk.out _ _ ?_ (fun hHeld => ?_)
  · (try dsimp only)
    exact ⟨(unhide HB) 0 _ rfl, (unhide HB) 1 _ rfl, unhide HR⟩
  clear hKk Kk
  (try simp only [List.setIfInBounds_toArray, List.set_cons_zero, List.set_cons_succ])
  refine rdA 4 127 (fun Kk hKk => ?_)
  go_simp
  refine (p_kind (unhide H)).mono ?_
  rintro _ w2 ⟨y2, k2, e2, rfl, hD, hlt2, -, hC, hF⟩
  have HD2 := hide hD
  have HB := hide ((unhide HB).fr hF (by simp; omega))
  have HR := hide ((unhide HR).fr hF (by simp; omega))
  have H := hide hC
  have HM := hide ((unhide HM).fr hF (by simp; omega))
  have hs2 := hF.size
  have HF := hide ((unhide HF).trans hF)
  clear hC hD hF
  (try go_wp2_with fail)
  refine hKk.out _ _ ?_ (fun hHeld => ?_)
  · (try dsimp only)
    exact ⟨(unhide HB) 0 _ rfl, (unhide HB) 1 _ rfl, unhide HR⟩
  clear hKk Kk
  (try simp only [List.setIfInBounds_toArray, List.set_cons_zero, List.set_cons_succ])
  refine rdA 7 255 (fun Kk hKk => ?_)
  go_simp
  refine (p_u32 (unhide H)).mono ?_
  rintro _ w3 ⟨y3, k3, e3, rfl, hD, hlt3, hC, hF⟩
  have HD3 := hide hD
  have HB := hide ((unhide HB).fr hF (by simp; omega))
  have HR := hide ((unhide HR).fr hF (by simp; omega))
  have H := hide hC
  have HM := hide ((unhide HM).fr hF (by simp; omega))
  have hs3 := hF.size
  have HF := hide ((unhide HF).trans hF)
  clear hC hD hF
  (try go_wp2_with fail)
  refine hKk.out _ _ ?_ (fun hHeld => ?_)
  · (try dsimp only)
    exact ⟨(unhide HB) 0 _ rfl, (unhide HB) 1 _ rfl, unhide HR⟩
  clear hKk Kk
  (try simp only [List.setIfInBounds_toArray, List.set_cons_zero, List.set_cons_succ])
  refine tkA 8 10 511 ?_
  refine rdA 9 1023 (fun Kk hKk => ?_)
  obtain ⟨⟨u0, r0⟩, g0⟩ := unhide HR 0 (by decide)
  obtain ⟨⟨u1, r1⟩, g1⟩ := unhide HR 1 (by decide)
  obtain ⟨⟨u2, r2⟩, g2⟩ := unhide HR 2 (by decide)
  have fZ : Fr [W.heap.size] w3 (((w3.setCell ⟨W.heap.size, 0, none⟩ (.string (strOfNums y1))).setCell ⟨W.heap.size, 1, none⟩ (.int .i64 y2)).setCell ⟨W.heap.size, 2, none⟩ (.int .u32 y3)) := (((Fr.refl _ _).place 0 _).place 1 _).place 2 _
  go_simp
  refine hKk.out _ _ ?_ (fun hHeld => ?_)
  · (try dsimp only)
    exact ⟨((unhide HB).fr fZ (by simp; omega)) 0 _ rfl, ((unhide HB).fr fZ (by simp; omega)) 1 _ rfl, (((unhide HR).set 0 _).set 1 _).set 2 _⟩
  clear hKk Kk
  (try simp only [List.setIfInBounds_toArray, List.set_cons_zero, List.set_cons_succ])
  refine wpAnyH_done (by kernel_rfl) ?_ _
  have HV : Hid (Vr W.heap.size 3 [.string (strOfNums y1), .int .i64 y2, .int .u32 y3] _) := hide (vr_fill3 w3 (unhide HR) (by omega))
  have j0 := (unhide HV).tab 0 _ rfl
  have j1 := (unhide HV).tab 1 _ rfl
  have j2 := (unhide HV).tab 2 _ rfl
  clear r0 g0
  clear r1 g1
  clear r2 g2
  have hsz := (show Fr [W.heap.size] w3 (((w3.setCell ⟨W.heap.size, 0, none⟩ (.string (strOfNums y1))).setCell ⟨W.heap.size, 1, none⟩ (.int .i64 y2)).setCell ⟨W.heap.size, 2, none⟩ (.int .u32 y3)) from fZ).size
  generalize (((w3.setCell ⟨W.heap.size, 0, none⟩ (.string (strOfNums y1))).setCell ⟨W.heap.size, 1, none⟩ (.int .i64 y2)).setCell ⟨W.heap.size, 2, none⟩ (.int .u32 y3)) = wz at *
  go_wp2_with fail
  refine bodyPost_ret (v := .agg #[.string (strOfNums y1), .int .i64 y2, .int .u32 y3]) (by simp [results, Tryz.results120, go_sem, j0, j1, j2]) rfl ?_
  refine ⟨(y1, y2, y3), [.string (strOfNums y1), .int .i64 y2, .int .u32 y3], _, _, rfl, rd_ex2 (unhide HD1) (unhide HD2) (unhide HD3), ⟨rfl, by simp [Value.oneCell'], fun q => ?_⟩, (unhide H).fr fZ (by simp; omega) (fun p hp hl => by have := HAl p hp hl; simp; omega), (unhide HM).fr fZ (by simp; omega), (unhide HB).fr fZ (by simp; omega), (unhide HF).thenL fZ (by simp)⟩
  exact rfl
end
end Go.Proofs.YtjoonmpjcophnaaGreatDoor
namespace Go.Proofs.YtjoonmpjcophnaaGreatDoor
open Go.RowKit

section
variable {c : Nat} {a : Option Addr} {len cap k : Nat} {xs : List Int} {e : Int} {W : World} {sat : Bool}
set_option maxHeartbeats 4000000 in
set_option maxRecDepth 100000 in
theorem sub84_any (h : Cs c a len cap xs k e W) (hm : Mk W) (hc : 4 ≤ c) : Calls Tryz.prog 84 #[.agg #[.pointer (some ⟨c, 0, none⟩), .bool sat]] W fun r W' => ∃ L g k' e', r = .returned (.slice (some ⟨g, 0, none⟩) L.length L.length) ∧ Rd (rList rEx) xs k e L k' e' ∧ (e' = 0 → Sls eEx W' (fun b => W.heap.size ≤ b) L (.slice (some ⟨g, 0, none⟩) L.length L.length)) ∧ Cs c a len cap xs k' e' W' ∧ Mk W' ∧ Fr [c] W W' := by
  have hcl := h.1.lt
  have hb := below1 W (.cells #[.pointer (some ⟨c, 0, none⟩), .bool sat] 68)
  have HV := vr_new [.pointer (some ⟨c, 0, none⟩), .bool sat] 68 W
  have hq : W.heap.size < (W.alloc (.cells #[.pointer (some ⟨c, 0, none⟩), .bool sat] 68)).heap.size := by simp
  have hB : Tab (W.alloc (.cells #[.pointer (some ⟨c, 0, none⟩), .bool sat] 68)) W.heap.size [.pointer (some ⟨c, 0, none⟩), .bool sat] := HV.tab
  have HF0 := hide (Fr.of hb [c])
  have HX := hide (list119_any (q := W.heap.size) (h.bel hb) (J := fun w => Mk w ∧ Tab w W.heap.size [.pointer (some ⟨c, 0, none⟩), .bool sat] ∧ W.heap.size < w.heap.size) ⟨hm.below hb, hB, hq⟩ (fun w w' l hJ hf hl => ⟨hJ.1.fr hf (fun i hi => by rcases hl i hi with q | q <;> omega), hJ.2.1.fr hf (fun hi => by rcases hl _ hi with q | q <;> omega), Nat.lt_of_lt_of_le hJ.2.2 hf.size⟩)
    (fun k e w hw hC hJ => (clos120_any hC hJ.1 hc hJ.2.1 hJ.2.2 (by omega)).mono (by rintro _ w' ⟨y, cs, k1, e1, rfl, hD, hR, hC2, hM2, hB2, hF⟩; exact ⟨y, cs, k1, e1, rfl, hD, hR, hC2, ⟨hM2, hB2, Nat.lt_of_lt_of_le hJ.2.2 hF.size⟩, hF⟩)))
  clear h hm hb HV hB
  go_enter Tryz.func84, Tryz.ntmps84
  go_wp2_with fail
  refine (unhide HX).mono ?_
  rintro _ w1 ⟨L, g, k1, e1, rfl, hD, hS, hC, hJ, hF⟩
  have HD := hide hD
  have HS := hide hS
  have HC := hide hC
  have HM := hide hJ.1
  have HF := hide ((unhide HF0).trans hF)
  clear hD hS hC hJ hF
  go_wp2_with fail
  go_ret
  exact ⟨L, g, k1, e1, rfl, unhide HD, fun q => (unhide HS q).mono (fun b _ hb => by omega), unhide HC, unhide HM, unhide HF⟩
end
end Go.Proofs.YtjoonmpjcophnaaGreatDoor
namespace Go.Proofs.YtjoonmpjcophnaaGreatDoor
open Go.RowKit

theorem szP119 : (Tryz.prog.info? 119).map (·.size) = some 3 := by kernel_rfl
theorem mkP119 (m : Nat) (hm : m ≤ 4096) : ∃ Z : Array Value, ∀ w, (Instr.makeSlice 31 (.int .i64 (m : Int)) (.int .i64 (m : Int))).run Tryz.prog w = .ok (.slice (some ⟨w.heap.size, 0, none⟩) m m) (w.alloc (.cells (madeCells Z (m * 3)) 119)) :=
  ⟨_, fun w => make_runK 31 119 3 Tryz.underlying31 (i := (Tryz.prog.info? 119).getD default) (z := (((Tryz.prog.info? 119).getD default).zero).getD default) (by kernel_rfl) (by kernel_rfl) (by kernel_rfl) (by kernel_rfl) m hm w⟩
section
variable {c : Nat} {a : Option Addr} {len cap k : Nat} {xs : List Int} {e : Int} {W : World} {sat : Bool} {q : Nat}
set_option maxHeartbeats 4000000 in
set_option maxRecDepth 100000 in
theorem list121_any {J : World → Prop} (h : Cs c a len cap xs k e W) (hJ : J W) (HJ : ∀ w w' l, J w → Fr l w w' → (∀ i ∈ l, i = c ∨ W.heap.size ≤ i) → J w')
    (HO : ∀ k e w, W.heap.size ≤ w.heap.size → Cs c a len cap xs k e w → J w → Calls Tryz.prog 122 #[.pointer (some ⟨q, 0, none⟩)] w fun r w' => ∃ y cs k' e', r = .returned (.agg cs.toArray) ∧ Rd (rEm sat) xs k e y k' e' ∧ eEm.rep' w' (fun b => w.heap.size ≤ b) e' y cs ∧ Cs c a len cap xs k' e' w' ∧ J w' ∧ Fr [c] w w') :
    Calls Tryz.prog 121 #[.pointer (some ⟨c, 0, none⟩), .func (.func 122) #[] #[.pointer (some ⟨q, 0, none⟩)]] W fun r W' => ∃ L g k' e', r = .returned (.slice (some ⟨g, 0, none⟩) L.length L.length) ∧ Rd (rList (rEm sat)) xs k e L k' e' ∧ (e' = 0 → Sls eEm W' (fun b => W.heap.size ≤ b) L (.slice (some ⟨g, 0, none⟩) L.length L.length)) ∧ Cs c a len cap xs k' e' W' ∧ J W' ∧ Fr [c] W W' := by
  have HX := hide (p_count h)
  have hcl := h.1.lt
  have HAl : Hid (∀ p, a = some p → 0 < len → p.block < W.heap.size) := hide h.2.1.lt
  have HJ0 := hide hJ
  have HJs := hide HJ
  have HOs := hide HO
  clear h hJ HJ HO
  go_enter Tryz.func121, Tryz.ntmps121
  go_wp2_with fail
  refine (unhide HX).mono ?_
  rintro _ w1 ⟨m, k1, e1, rfl, hD, hm, hC, hF⟩
  have HD := hide hD
  have HC := hide hC
  have HF := hide hF
  have hsz := hF.size
  have HJ1 := hide ((unhide HJs) _ _ _ (unhide HJ0) hF (by simp))
  clear hD hC hF HX HJ0
  obtain ⟨Z, hmk⟩ := mkP119 m hm
  go_wp2_with fail
  clear hmk
  have hb := below1 w1 (.cells (madeCells Z (m * 3)) 119)
  have HM := hide (Prw.made (E := eEm) w1 m W.heap.size Z 119 e1 hsz)
  change Hid (Prw eEm w1.heap.size m W.heap.size [] e1 (w1.alloc (.cells (madeCells Z (m * 3)) 119))) at HM
  have HC := hide ((unhide HC).bel hb)
  have HF := hide ((unhide HF).bel hb)
  have HJ1 := hide ((unhide HJs) _ _ _ (unhide HJ1) (Fr.of hb []) (by simp))
  have hsz2 : (w1.alloc (.cells (madeCells Z (m * 3)) 119)).heap.size = w1.heap.size + 1 := by simp
  clear hb
  generalize w1.alloc (.cells (madeCells Z (m * 3)) 119) = w2 at *
  go_loopw [12] (fun v12 wr => ∃ (L : List _) (k2 : Nat) (e2 : Int), L.length ≤ m ∧ v12 = .int .i64 (L.length : Int) ∧ Prw eEm w1.heap.size m W.heap.size L e2 wr ∧ Cs c a len cap xs k2 e2 wr ∧ J wr ∧ Fr [c] W wr ∧ w1.heap.size < wr.heap.size ∧ (∀ s k' e', Rd (repR (rEm sat) (m - L.length)) xs k2 e2 s k' e' → Rd (rList (rEm sat)) xs k e (id (L ++ s)) k' e')) (fun v12 _ => m - (intOf v12).toNat)
  case atStart =>
    refine ⟨[], k1, e1, Nat.zero_le _, rfl, unhide HM, unhide HC, unhide HJ1, unhide HF, by omega, fun s k' e' hs => (unhide HD).bd ?_⟩
    rw [show ((m : Int)).toNat = m by omega]
    exact hs
  case round =>
    obtain ⟨L, k2, e2, hi, rfl, hP, hC, hJ, hF, hlg, hK⟩ := hrel
    clear HM HC HJ1 HF HD
    by_cases hlt : L.length < m
    · have hi' : (L.length : Int) < (m : Int) := by omega
      have HX := hide (unhide HOs k2 e2 _ hF.size hC hJ)
      have HP := hide hP
      have HF := hide hF
      have HK := hide hK
      clear hP hC hJ hF hK
      go_wp2_with fail
      refine (unhide HX).mono ?_
      rintro _ w3 ⟨y, cs, k3, e3, rfl, hD, hy, hC, hJ, hF2⟩
      have hsz3 := hF2.size
      have hsW := (unhide HF).size
      have h0 := hD.zero
      have HP2 := hide ((unhide HP).fr hF2 (by simp; omega) (by simp; omega) h0)
      have HF3 := hide ((unhide HF).trans hF2)
      have HKn := hide (Rd.more2 id (n := m - (L.length + 1)) (by rw [show m - (L.length + 1) + 1 = m - L.length by omega]; exact unhide HK) hD)
      have hcl2 : cs.length = 3 := hy.len
      have hone := hy.one
      have HY := hide hy
      have HC2 := hide hC
      have HJ2 := hide hJ
      clear hD hy hC hJ hF2 HX HP HF HK
      go_wp2_with ((refine wpList_storeA rfl 119 (.tmp 19) (.tmp 18) rfl rfl (g := w1.heap.size) (off := L.length * 3) (cs := cs) rfl rfl (by rw [hcl2]; exact szP119) (fun j hj => (unhide HP2).spare hlt (show j < 3 by omega)) hone ?_))
      have hFg := fr_cells w1.heap.size cs (L.length * 3) w3
      have hl1 : (L ++ [y]).length = L.length + 1 := by simp
      refine ⟨⟨L ++ [y], k3, e3, by omega, by rw [hl1]; go_num, (unhide HP2).put hlt hcl2 (fun q => q) (fun q => (unhide HY).rep q (fun b _ hb => ⟨by omega, by omega⟩)), (unhide HC2).fr hFg (by simp; omega) (fun p hp hl => by have := unhide HAl p hp hl; simp; omega), unhide HJs _ _ _ (unhide HJ2) hFg (by simp; omega), (unhide HF3).thenL hFg (by simp; omega), by have := hFg.size; omega, by rw [hl1]; exact unhide HKn⟩, by simp [intOf]; omega⟩
    · obtain rfl : m = L.length := by omega
      have HP := hide hP
      have HC := hide hC
      have HJ2 := hide hJ
      have HF := hide hF
      have HK := hide (Rd.fin id hK (.inl (by omega)))
      clear hP hC hF hJ hK
      go_wp2_with fail
      go_ret
      exact ⟨L, w1.heap.size, k2, e2, rfl, unhide HK, fun q => by subst q; exact (unhide HP).sls, unhide HC, unhide HJ2, unhide HF⟩
end
end Go.Proofs.YtjoonmpjcophnaaGreatDoor
namespace Go.Proofs.YtjoonmpjcophnaaGreatDoor
open Go.RowKit

theorem p_u32s {c : Nat} {a : Option Addr} {len cap k : Nat} {xs : List Int} {e : Int} {W : World} {sat : Bool} (h : Cs c a len cap xs k e W) (hm : Mk W) (hc : 4 ≤ c) : Calls Tryz.prog 80 #[.agg #[.pointer (some ⟨c, 0, none⟩), .bool sat]] W fun r W' => ∃ L g k' e', r = .returned (.slice (some ⟨g, 0, none⟩) L.length L.length) ∧ Rd (rList (rU 32)) xs k e L k' e' ∧ (e' = 0 → Slc W' (fun b => W.heap.size ≤ b) L.length (uCells L) (.slice (some ⟨g, 0, none⟩) L.length L.length)) ∧ Cs c a len cap xs k' e' W' ∧ Mk W' ∧ Fr [c] W W' :=
  (sub80_any h hm hc).mono (by rintro _ w ⟨L, g, k1, e1, rfl, hD, hS, -, hC, hM, hF⟩; exact ⟨L, g, k1, e1, rfl, hD, fun _ => hS.uP, hC, hM, hF⟩)
section
variable {c : Nat} {a : Option Addr} {len cap k : Nat} {xs : List Int} {e : Int} {W : World} {sat : Bool} {q : Nat}
set_option maxHeartbeats 4000000 in
set_option maxRecDepth 100000 in
theorem clos122_any (h : Cs c a len cap xs k e W) (hm : Mk W) (hc : 4 ≤ c) (hB : Tab W q [.pointer (some ⟨c, 0, none⟩), .bool sat]) (hql : q < W.heap.size) (hqc : q ≠ c) :
    Calls Tryz.prog 122 #[.pointer (some ⟨q, 0, none⟩)] W fun r W' => ∃ y cs k' e', r = .returned (.agg cs.toArray) ∧ Rd (rEm sat) xs k e y k' e' ∧ eEm.rep' W' (fun b => W.heap.size ≤ b) e' y cs ∧ Cs c a len cap xs k' e' W' ∧ Mk W' ∧ Tab W' q [.pointer (some ⟨c, 0, none⟩), .bool sat] ∧ Fr [c] W W' := by
  have hcl := h.1.lt
  have HAl : ∀ p, a = some p → 0 < len → p.block < W.heap.size := h.2.1.lt
  have hb := below1 W (.cells #[.int .u32 0, .slice none 0 0, .slice none 0 0] 119)
  have HR : Hid (Room W.heap.size 3 (W.alloc (.cells #[.int .u32 0, .slice none 0 0, .slice none 0 0] 119)).drew) := hide ((room_cells (cs := [.int .u32 0, .slice none 0 0, .slice none 0 0]) W 3 (by decide)).drew)
  have H := hide ((h.bel hb).drew)
  have HM := hide ((hm.below hb).below ((Below.refl _ _).drew))
  have HF := hide ((Fr.of hb [c]).drew)
  have HB := hide ((hB.below hb).below ((Below.refl _ _).drew))
  have hs0 : W.heap.size < (W.alloc (.cells #[.int .u32 0, .slice none 0 0, .slice none 0 0] 119)).drew.heap.size := by simp [go_sem]
  clear h hm hB hb
  go_enter Tryz.func122, Tryz.ntmps122
  go_wp2_with fail
  refine wp_region_held_drew (S := fun w' => w'.cell? ⟨q, 0, none⟩ = some (.pointer (some ⟨c, 0, none⟩)) ∧ w'.cell? ⟨q, 1, none⟩ = some (.bool sat) ∧ Room W.heap.size 3 w') (by kernel_rfl) ?_ (fun hHeld => ?_)
  · (try dsimp only)
    exact ⟨(unhide HB) 0 _ rfl, (unhide HB) 1 _ rfl, unhide HR⟩
  refine lst0 9 (by kernel_rfl) ?_
  refine tkA 0 2 1 ?_
  refine tkA 1 3 3 ?_
  refine tkA 3 5 11 ?_
  refine tkA 5 7 43 ?_
  refine rdA 2 47 (fun Kk hKk => ?_)
  go_simp
  refine (p_u32 (unhide H)).mono ?_
  rintro _ w1 ⟨y1, k1, e1, rfl, hD, hlt1, hC, hF⟩
  have HD1 := hide hD
  have HB := hide ((unhide HB).fr hF (by simp; omega))
  have HR := hide ((unhide HR).fr hF (by simp; omega))
  have H := hide hC
  have HM := hide ((unhide HM).fr hF (by simp; omega))
  have hs1 := hF.size
  have HF := hide ((unhide HF).trans hF)
  clear hC hD hF
  (try go_wp2_with fail)
  refine hKk.out _ _ ?_ (fun hHeld => ?_)
  · (try dsimp only)
    exact ⟨(unhide HB) 0 _ rfl, (unhide HB) 1 _ rfl, unhide HR⟩
  clear hKk Kk
  (try simp only [List.setIfInBounds_toArray, List.set_cons_zero, List.set_cons_succ])
  refine rdA 4 63 (fun Kk hKk => ?_)
  go_simp
  refine (p_expr (unhide H) (unhide HM) hc).mono ?_
  rintro _ w2 ⟨p2, q2, s2, T2, k2, e2, rfl, hD, hT, hC, hM, hF⟩
  have HD2 := hide hD
  have HT2 := hide (fun q => (hT q).mono (fun b _ hb => (show W.heap.size < b by omega)))
  have HB := hide ((unhide HB).fr hF (by simp; omega))
  have HR := hide ((unhide HR).fr hF (by simp; omega))
  have H := hide hC
  have HM := hide hM
  have hs2 := hF.size
  have HF := hide ((unhide HF).trans hF)
  clear hC hD hF hM hT
  (try go_wp2_with fail)
  refine hKk.out _ _ ?_ (fun hHeld => ?_)
  · (try dsimp only)
    exact ⟨(unhide HB) 0 _ rfl, (unhide HB) 1 _ rfl, unhide HR⟩
  clear hKk Kk
  (try simp only [List.setIfInBounds_toArray, List.set_cons_zero, List.set_cons_succ])
  refine rdA 6 127 (fun Kk hKk => ?_)
  go_simp
  refine (p_u32s (unhide H) (unhide HM) hc).mono ?_
  rintro _ w3 ⟨L3, g3, k3, e3, rfl, hD, hT, hC, hM, hF⟩
  have HD3 := hide hD
  have HT3 := hide (fun q => (hT q).mono (fun b _ hb => (show W.heap.size < b by omega)))
  have HT2 := hide (fun q => (unhide HT2 q).fr hF (by simp; omega))
  have HB := hide ((unhide HB).fr hF (by simp; omega))
  have HR := hide ((unhide HR).fr hF (by simp; omega))
  have H := hide hC
  have HM := hide hM
  have hs3 := hF.size
  have HF := hide ((unhide HF).trans hF)
  clear hC hD hF hM hT
  (try go_wp2_with fail)
  refine hKk.out _ _ ?_ (fun hHeld => ?_)
  · (try dsimp only)
    exact ⟨(unhide HB) 0 _ rfl, (unhide HB) 1 _ rfl, unhide HR⟩
  clear hKk Kk
  (try simp only [List.setIfInBounds_toArray, List.set_cons_zero, List.set_cons_succ])
  refine tkA 7 9 255 ?_
  refine rdA 8 511 (fun Kk hKk => ?_)
  obtain ⟨⟨u0, r0⟩, g0⟩ := unhide HR 0 (by decide)
  obtain ⟨⟨u1, r1⟩, g1⟩ := unhide HR 1 (by decide)
  obtain ⟨⟨u2, r2⟩, g2⟩ := unhide HR 2 (by decide)
  have fZ : Fr [W.heap.size] w3 (((w3.setCell ⟨W.heap.size, 0, none⟩ (.int .u32 y1)).setCell ⟨W.heap.size, 1, none⟩ (.slice p2 q2 s2)).setCell ⟨W.heap.size, 2, none⟩ (.slice (some ⟨g3, 0, none⟩) L3.length L3.length)) := (((Fr.refl _ _).place 0 _).place 1 _).place 2 _
  go_simp
  refine hKk.out _ _ ?_ (fun hHeld => ?_)
  · (try dsimp only)
    exact ⟨((unhide HB).fr fZ (by simp; omega)) 0 _ rfl, ((unhide HB).fr fZ (by simp; omega)) 1 _ rfl, (((unhide HR).set 0 _).set 1 _).set 2 _⟩
  clear hKk Kk
  (try simp only [List.setIfInBounds_toArray, List.set_cons_zero, List.set_cons_succ])
  refine wpAnyH_done (by kernel_rfl) ?_ _
  have HV : Hid (Vr W.heap.size 3 [.int .u32 y1, .slice p2 q2 s2, .slice (some ⟨g3, 0, none⟩) L3.length L3.length] _) := hide (vr_fill3 w3 (unhide HR) (by omega))
  have j0 := (unhide HV).tab 0 _ rfl
  have j1 := (unhide HV).tab 1 _ rfl
  have j2 := (unhide HV).tab 2 _ rfl
  clear r0 g0
  clear r1 g1
  clear r2 g2
  have hsz := (show Fr [W.heap.size] w3 (((w3.setCell ⟨W.heap.size, 0, none⟩ (.int .u32 y1)).setCell ⟨W.heap.size, 1, none⟩ (.slice p2 q2 s2)).setCell ⟨W.heap.size, 2, none⟩ (.slice (some ⟨g3, 0, none⟩) L3.length L3.length)) from fZ).size
  generalize (((w3.setCell ⟨W.heap.size, 0, none⟩ (.int .u32 y1)).setCell ⟨W.heap.size, 1, none⟩ (.slice p2 q2 s2)).setCell ⟨W.heap.size, 2, none⟩ (.slice (some ⟨g3, 0, none⟩) L3.length L3.length)) = wz at *
  go_wp2_with fail
  refine bodyPost_ret (v := .agg #[.int .u32 y1, .slice p2 q2 s2, .slice (some ⟨g3, 0, none⟩) L3.length L3.length]) (by simp [results, Tryz.results122, go_sem, j0, j1, j2]) rfl ?_
  refine ⟨(y1, T2, L3), [.int .u32 y1, .slice p2 q2 s2, .slice (some ⟨g3, 0, none⟩) L3.length L3.length], _, _, rfl, rd_em2 (unhide HD1) (unhide HD2) (unhide HD3), ⟨rfl, by simp [Value.oneCell'], fun q => ?_⟩, (unhide H).fr fZ (by simp; omega) (fun p hp hl => by have := HAl p hp hl; simp; omega), (unhide HM).fr fZ (by simp; omega), (unhide HB).fr fZ (by simp; omega), (unhide HF).thenL fZ (by simp)⟩
  exact ⟨_, _, rfl, ((unhide HT2 ((unhide HD3).zero q)).fr fZ (by simp)).mono (fun b _ hb => by omega), ((unhide HT3 q).fr fZ (by simp)).mono (fun b _ hb => by omega)⟩
end
end Go.Proofs.YtjoonmpjcophnaaGreatDoor
namespace Go.Proofs.YtjoonmpjcophnaaGreatDoor
open Go.RowKit

section
variable {c : Nat} {a : Option Addr} {len cap k : Nat} {xs : List Int} {e : Int} {W : World} {sat : Bool}
set_option maxHeartbeats 4000000 in
set_option maxRecDepth 100000 in
theorem sub85_any (h : Cs c a len cap xs k e W) (hm : Mk W) (hc : 4 ≤ c) : Calls Tryz.prog 85 #[.agg #[.pointer (some ⟨c, 0, none⟩), .bool sat]] W fun r W' => ∃ L g k' e', r = .returned (.slice (some ⟨g, 0, none⟩) L.length L.length) ∧ Rd (rList (rEm sat)) xs k e L k' e' ∧ (e' = 0 → Sls eEm W' (fun b => W.heap.size ≤ b) L (.slice (some ⟨g, 0, none⟩) L.length L.length)) ∧ Cs c a len cap xs k' e' W' ∧ Mk W' ∧ Fr [c] W W' := by
  have hcl := h.1.lt
  have hb := below1 W (.cells #[.pointer (some ⟨c, 0, none⟩), .bool sat] 68)
  have HV := vr_new [.pointer (some ⟨c, 0, none⟩), .bool sat] 68 W
  have hq : W.heap.size < (W.alloc (.cells #[.pointer (some ⟨c, 0, none⟩), .bool sat] 68)).heap.size := by simp
  have hB : Tab (W.alloc (.cells #[.pointer (some ⟨c, 0, none⟩), .bool sat] 68)) W.heap.size [.pointer (some ⟨c, 0, none⟩), .bool sat] := HV.tab
  have HF0 := hide (Fr.of hb [c])
  have HX := hide (list121_any (q := W.heap.size) (h.bel hb) (J := fun w => Mk w ∧ Tab w W.heap.size [.pointer (some ⟨c, 0, none⟩), .bool sat] ∧ W.heap.size < w.heap.size) ⟨hm.below hb, hB, hq⟩ (fun w w' l hJ hf hl => ⟨hJ.1.fr hf (fun i hi => by rcases hl i hi with q | q <;> omega), hJ.2.1.fr hf (fun hi => by rcases hl _ hi with q | q <;> omega), Nat.lt_of_lt_of_le hJ.2.2 hf.size⟩)
    (fun k e w hw hC hJ => (clos122_any hC hJ.1 hc hJ.2.1 hJ.2.2 (by omega)).mono (by rintro _ w' ⟨y, cs, k1, e1, rfl, hD, hR, hC2, hM2, hB2, hF⟩; exact ⟨y, cs, k1, e1, rfl, hD, hR, hC2, ⟨hM2, hB2, Nat.lt_of_lt_of_le hJ.2.2 hF.size⟩, hF⟩)))
  clear h hm hb HV hB
  go_enter Tryz.func85, Tryz.ntmps85
  go_wp2_with fail
  refine (unhide HX).mono ?_
  rintro _ w1 ⟨L, g, k1, e1, rfl, hD, hS, hC, hJ, hF⟩
  have HD := hide hD
  have HS := hide hS
  have HC := hide hC
  have HM := hide hJ.1
  have HF := hide ((unhide HF0).trans hF)
  clear hD hS hC hJ hF
  go_wp2_with fail
  go_ret
  exact ⟨L, g, k1, e1, rfl, unhide HD, fun q => (unhide HS q).mono (fun b _ hb => by omega), unhide HC, unhide HM, unhide HF⟩
end
end Go.Proofs.YtjoonmpjcophnaaGreatDoor
namespace Go.Proofs.YtjoonmpjcophnaaGreatDoor
open Go.RowKit

theorem szP112 : (Tryz.prog.info? 112).map (·.size) = some 3 := by kernel_rfl
theorem mkP112 (m : Nat) (hm : m ≤ 4096) : ∃ Z : Array Value, ∀ w, (Instr.makeSlice 26 (.int .i64 (m : Int)) (.int .i64 (m : Int))).run Tryz.prog w = .ok (.slice (some ⟨w.heap.size, 0, none⟩) m m) (w.alloc (.cells (madeCells Z (m * 3)) 112)) :=
  ⟨_, fun w => make_runK 26 112 3 Tryz.underlying26 (i := (Tryz.prog.info? 112).getD default) (z := (((Tryz.prog.info? 112).getD default).zero).getD default) (by kernel_rfl) (by kernel_rfl) (by kernel_rfl) (by kernel_rfl) m hm w⟩
section
variable {c : Nat} {a : Option Addr} {len cap k : Nat} {xs : List Int} {e : Int} {W : World} {sat : Bool} {q : Nat}
set_option maxHeartbeats 4000000 in
set_option maxRecDepth 100000 in
theorem list123_any {J : World → Prop} (h : Cs c a len cap xs k e W) (hJ : J W) (HJ : ∀ w w' l, J w → Fr l w w' → (∀ i ∈ l, i = c ∨ W.heap.size ≤ i) → J w')
    (HO : ∀ k e w, W.heap.size ≤ w.heap.size → Cs c a len cap xs k e w → J w → Calls Tryz.prog 124 #[.pointer (some ⟨q, 0, none⟩)] w fun r w' => ∃ y cs k' e', r = .returned (.agg cs.toArray) ∧ Rd (rPc (0, [], .nil) (rFn sat)) xs k e y k' e' ∧ eFn.rep' w' (fun b => w.heap.size ≤ b) e' y cs ∧ Cs c a len cap xs k' e' w' ∧ J w' ∧ Fr [c] w w') :
    Calls Tryz.prog 123 #[.pointer (some ⟨c, 0, none⟩), .func (.func 124) #[] #[.pointer (some ⟨q, 0, none⟩)]] W fun r W' => ∃ L g k' e', r = .returned (.slice (some ⟨g, 0, none⟩) L.length L.length) ∧ Rd (rList (rPc (0, [], .nil) (rFn sat))) xs k e L k' e' ∧ (e' = 0 → Sls eFn W' (fun b => W.heap.size ≤ b) L (.slice (some ⟨g, 0, none⟩) L.length L.length)) ∧ Prw eFn g L.length W.heap.size L e' W' ∧ g < W'.heap.size ∧ Cs c a len cap xs k' e' W' ∧ J W' ∧ Fr [c] W W' := by
  have HX := hide (p_count h)
  have hcl := h.1.lt
  have HAl : Hid (∀ p, a = some p → 0 < len → p.block < W.heap.size) := hide h.2.1.lt
  have HJ0 := hide hJ
  have HJs := hide HJ
  have HOs := hide HO
  clear h hJ HJ HO
  go_enter Tryz.func123, Tryz.ntmps123
  go_wp2_with fail
  refine (unhide HX).mono ?_
  rintro _ w1 ⟨m, k1, e1, rfl, hD, hm, hC, hF⟩
  have HD := hide hD
  have HC := hide hC
  have HF := hide hF
  have hsz := hF.size
  have HJ1 := hide ((unhide HJs) _ _ _ (unhide HJ0) hF (by simp))
  clear hD hC hF HX HJ0
  obtain ⟨Z, hmk⟩ := mkP112 m hm
  go_wp2_with fail
  clear hmk
  have hb := below1 w1 (.cells (madeCells Z (m * 3)) 112)
  have HM := hide (Prw.made (E := eFn) w1 m W.heap.size Z 112 e1 hsz)
  change Hid (Prw eFn w1.heap.size m W.heap.size [] e1 (w1.alloc (.cells (madeCells Z (m * 3)) 112))) at HM
  have HC := hide ((unhide HC).bel hb)
  have HF := hide ((unhide HF).bel hb)
  have HJ1 := hide ((unhide HJs) _ _ _ (unhide HJ1) (Fr.of hb []) (by simp))
  have hsz2 : (w1.alloc (.cells (madeCells Z (m * 3)) 112)).heap.size = w1.heap.size + 1 := by simp
  clear hb
  generalize w1.alloc (.cells (madeCells Z (m * 3)) 112) = w2 at *
  go_loopw [12] (fun v12 wr => ∃ (L : List _) (k2 : Nat) (e2 : Int), L.length ≤ m ∧ v12 = .int .i64 (L.length : Int) ∧ Prw eFn w1.heap.size m W.heap.size L e2 wr ∧ Cs c a len cap xs k2 e2 wr ∧ J wr ∧ Fr [c] W wr ∧ w1.heap.size < wr.heap.size ∧ (∀ s k' e', Rd (repR (rPc (0, [], .nil) (rFn sat)) (m - L.length)) xs k2 e2 s k' e' → Rd (rList (rPc (0, [], .nil) (rFn sat))) xs k e (id (L ++ s)) k' e')) (fun v12 _ => m - (intOf v12).toNat)
  case atStart =>
    refine ⟨[], k1, e1, Nat.zero_le _, rfl, unhide HM, unhide HC, unhide HJ1, unhide HF, by omega, fun s k' e' hs => (unhide HD).bd ?_⟩
    rw [show ((m : Int)).toNat = m by omega]
    exact hs
  case round =>
    obtain ⟨L, k2, e2, hi, rfl, hP, hC, hJ, hF, hlg, hK⟩ := hrel
    clear HM HC HJ1 HF HD
    by_cases hlt : L.length < m
    · have hi' : (L.length : Int) < (m : Int) := by omega
      have HX := hide (unhide HOs k2 e2 _ hF.size hC hJ)
      have HP := hide hP
      have HF := hide hF
      have HK := hide hK
      clear hP hC hJ hF hK
      go_wp2_with fail
      refine (unhide HX).mono ?_
      rintro _ w3 ⟨y, cs, k3, e3, rfl, hD, hy, hC, hJ, hF2⟩
      have hsz3 := hF2.size
      have hsW := (unhide HF).size
      have h0 := hD.zero
      have HP2 := hide ((unhide HP).fr hF2 (by simp; omega) (by simp; omega) h0)
      have HF3 := hide ((unhide HF).trans hF2)
      have HKn := hide (Rd.more2 id (n := m - (L.length + 1)) (by rw [show m - (L.length + 1) + 1 = m - L.length by omega]; exact unhide HK) hD)
      have hcl2 : cs.length = 3 := hy.len
      have hone := hy.one
      have HY := hide hy
      have HC2 := hide hC
      have HJ2 := hide hJ
      clear hD hy hC hJ hF2 HX HP HF HK
      go_wp2_with ((refine wpList_storeA rfl 112 (.tmp 19) (.tmp 18) rfl rfl (g := w1.heap.size) (off := L.length * 3) (cs := cs) rfl rfl (by rw [hcl2]; exact szP112) (fun j hj => (unhide HP2).spare hlt (show j < 3 by omega)) hone ?_))
      have hFg := fr_cells w1.heap.size cs (L.length * 3) w3
      have hl1 : (L ++ [y]).length = L.length + 1 := by simp
      refine ⟨⟨L ++ [y], k3, e3, by omega, by rw [hl1]; go_num, (unhide HP2).put hlt hcl2 (fun q => q) (fun q => (unhide HY).rep q (fun b _ hb => ⟨by omega, by omega⟩)), (unhide HC2).fr hFg (by simp; omega) (fun p hp hl => by have := unhide HAl p hp hl; simp; omega), unhide HJs _ _ _ (unhide HJ2) hFg (by simp; omega), (unhide HF3).thenL hFg (by simp; omega), by have := hFg.size; omega, by rw [hl1]; exact unhide HKn⟩, by simp [intOf]; omega⟩
    · obtain rfl : m = L.length := by omega
      have HP := hide hP
      have HC := hide hC
      have HJ2 := hide hJ
      have HF := hide hF
      have HK := hide (Rd.fin id hK (.inl (by omega)))
      clear hP hC hF hJ hK
      go_wp2_with fail
      go_ret
      exact ⟨L, w1.heap.size, k2, e2, rfl, unhide HK, fun q => by subst q; exact (unhide HP).sls, unhide HP, hlg, unhide HC, unhide HJ2, unhide HF⟩
end
end Go.Proofs.YtjoonmpjcophnaaGreatDoor
namespace Go.Proofs.YtjoonmpjcophnaaGreatDoor
open Go.RowKit

section
variable {c : Nat} {a : Option Addr} {len cap k : Nat} {xs : List Int} {e : Int} {W : World} {sat : Bool} {fb : Nat}
set_option maxHeartbeats 8000000 in
set_option maxRecDepth 100000 in
theorem part_b {A : Type} {F : Rr A} {z : A} {J J2 : World → Prop} {OO : A → Int → Nat → World → Prop} {l : List Nat} (h : Cs c a len cap xs k e W) (hlc : c ∉ l) (hla : ∀ p, a = some p → 0 < len → p.block ∉ l) (hll : ∀ i ∈ l, i < W.heap.size) (hJ : J W)
    (HJ : ∀ w w' l', J w → Fr l' w w' → (∀ i ∈ l', i = c ∨ W.heap.size ≤ i) → J w') (HJ2 : ∀ w w' l', J2 w → Fr l' w w' → (∀ i ∈ l', i = c ∨ W.heap.size ≤ i) → J2 w') (HJJ : ∀ w, J w → J2 w)
    (HOm : ∀ y e B B' w, OO y e B w → B' ≤ B → OO y e B' w)
    (HOs : ∀ y e1 e2 B w w' l', OO y e1 B w → W.heap.size ≤ B → (e2 = 0 → e1 = 0) → Fr l' w w' → (∀ i ∈ l', i = c ∨ W.heap.size ≤ i ∧ i < B) → OO y e2 B w')
    (HO : e = 0 → ∀ c2 a2 cap2 ys w, W.heap.size < c2 → (∀ p, a2 = some p → 0 < ys.length → W.heap.size < p.block) → Cs c2 a2 ys.length cap2 ys 0 0 w → J w → W.heap.size ≤ w.heap.size → Calls Tryz.prog 125 #[.agg #[.pointer (some ⟨c2, 0, none⟩), .bool sat], .pointer (some ⟨fb, 0, none⟩)] w fun r w' => ∃ y k2 e2, r = .returned (.tuple #[]) ∧ Rd F ys 0 0 y k2 e2 ∧ OO y e2 w.heap.size w' ∧ Cs c2 a2 ys.length cap2 ys k2 e2 w' ∧ J2 w' ∧ Fr (c2 :: l) w w') :
    Calls Tryz.prog 48 #[.agg #[.pointer (some ⟨c, 0, none⟩), .bool sat], .func (.func 125) #[] #[.pointer (some ⟨fb, 0, none⟩)]] W fun r W' => ∃ y k' e', r = .returned (.tuple #[]) ∧ Rd (rPc z F) xs k e y k' e' ∧ (OO y e' W.heap.size W' ∨ e' ≠ 0 ∧ J W') ∧ J2 W' ∧ Cs c a len cap xs k' e' W' ∧ Fr (c :: l) W W' := by
  have hcl := h.1.lt
  have HAl : Hid (∀ p, a = some p → 0 < len → p.block < W.heap.size) := hide h.2.1.lt
  have hb := below1 W (.cells #[.pointer (some ⟨c, 0, none⟩), .bool sat] 68)
  have HV : Vr W.heap.size 2 [.pointer (some ⟨c, 0, none⟩), .bool sat] (W.alloc (.cells #[.pointer (some ⟨c, 0, none⟩), .bool sat] 68)) := vr_new [.pointer (some ⟨c, 0, none⟩), .bool sat] 68 W
  have hd := (Below.refl (W.alloc (.cells #[.pointer (some ⟨c, 0, none⟩), .bool sat] 68)).heap.size (W.alloc (.cells #[.pointer (some ⟨c, 0, none⟩), .bool sat] 68))).drew
  have H := hide ((h.bel hb).bel hd)
  have HF := hide ((Fr.of hb [c]).bel hd)
  have HB := hide (HV.fr (Fr.of hd []) (by simp))
  have HJ1 := hide (HJ _ _ _ hJ ((Fr.of hb []).bel hd) (by simp))
  have HLl := hide (And.intro hlc (And.intro hla hll))
  have HJs := hide HJ
  have HJ2s := hide HJ2
  have HJJs := hide HJJ
  have HOms := hide HOm
  have HOss := hide HOs
  have HOO := hide HO
  clear h hb HV hd HJ HJ2 HJJ HOm HOs HO hlc hla hll hJ
  go_enter Tryz.func48, Tryz.ntmps48
  go_wp2_with fail
  refine wp_region_held_drew (S := fun w' => w'.cell? ⟨W.heap.size, 0, none⟩ = some (.pointer (some ⟨c, 0, none⟩)) ∧ w'.cell? ⟨W.heap.size, 1, none⟩ = some (.bool sat)) (by kernel_rfl) ?_ (fun hHeld => ?_)
  · (try dsimp only)
    exact ⟨(unhide HB).tab 0 _ rfl, (unhide HB).tab 1 _ rfl⟩
  generalize (W.alloc (.cells #[.pointer (some ⟨c, 0, none⟩), .bool sat] 68)).drew = w0 at *
  refine lst0 7 (by kernel_rfl) ?_
  refine tkA 0 6 1 ?_
  refine tkA 1 7 3 ?_
  refine tkA 2 8 7 ?_
  refine tkA 3 9 15 ?_
  refine rdA 4 31 (fun Kk hKk => ?_)
  go_simp
  refine (p_u32 (unhide H)).mono ?_
  rintro _ w1 ⟨z1, k1, e1, rfl, hD, hlt1, hC, hF⟩
  have HD1 := hide hD
  have HB := hide ((unhide HB).fr hF (by simp; omega))
  have H1 := hide hC
  have HJ1 := hide (unhide HJs _ _ _ (unhide HJ1) hF (by simp))
  have HF := hide ((unhide HF).trans hF)
  clear hC hD hF H
  obtain ⟨n, rfl⟩ := Int.eq_ofNat_of_zero_le hlt1.1
  (try go_wp2_with fail)
  refine hKk.out _ _ ?_ (fun hHeld => ?_)
  · (try dsimp only)
    exact ⟨(unhide HB).tab 0 _ rfl, (unhide HB).tab 1 _ rfl⟩
  clear hKk Kk
  (try simp only [List.setIfInBounds_toArray, List.set_cons_zero, List.set_cons_succ])
  refine rdA 5 63 (fun Kk hKk => ?_)
  go_simp
  refine (p_take2 (unhide H1) (by omega)).mono ?_
  rintro _ w2 ⟨x1, x2, x3, y, k2, e2, rfl, hD, hS, hby, hyl, hC, hF⟩
  have hx2 : y.length = x2 := hS.1
  have HD2 := hide (rd_bytes (unhide HD1) hD)
  have HS := hide hS
  have HBy := hide hby
  have HB := hide ((unhide HB).fr hF (by simp; omega))
  have H2 := hide hC
  have HJ1 := hide (unhide HJs _ _ _ (unhide HJ1) hF (by simp))
  have HF := hide ((unhide HF).trans hF)
  clear hC hD hF H1 HD1 hS hby
  (try go_wp2_with fail)
  refine hKk.out _ _ ?_ (fun hHeld => ?_)
  · (try dsimp only)
    exact ⟨(unhide HB).tab 0 _ rfl, (unhide HB).tab 1 _ rfl⟩
  clear hKk Kk
  (try simp only [List.setIfInBounds_toArray, List.set_cons_zero, List.set_cons_succ])
  refine tkA 6 4 127 ?_
  refine wpAnyH_done (by kernel_rfl) ?_ _
  have q0 := (unhide HB).tab 0 _ rfl
  have q1 := (unhide HB).tab 1 _ rfl
  go_wp2_with fail
  clear q0 q1
  refine (p_failed (unhide H2)).mono ?_
  rintro _ w3 ⟨rfl, hF⟩
  have HS := hide ((unhide HS).fr hF (by simp))
  have HB := hide ((unhide HB).fr hF (by simp))
  have H2 := hide ((unhide H2).fr hF (by simp) (by simp))
  have HJ1 := hide (unhide HJs _ _ _ (unhide HJ1) hF (by simp))
  have HF := hide ((unhide HF).thenL hF (by simp))
  clear hF
  by_cases he : e2 = 0
  · subst he
    have hbl := (unhide HB).lt
    have q0 := (unhide HB).tab 0 _ rfl
    have q1 := (unhide HB).tab 1 _ rfl
    go_wp2_with fail
    go_cut [5] (fun v5 wx => ∃ (ib c2 : Nat) (y1 : Option Addr) (y3 : Nat), v5 = .pointer (some ⟨ib, 0, none⟩) ∧ w3.heap.size ≤ ib ∧ w3.heap.size ≤ c2 ∧ (∀ p, y1 = some p → 0 < x2 → w3.heap.size ≤ p.block) ∧ ib ≠ c2 ∧ Vr ib 2 [.pointer (some ⟨c2, 0, none⟩), .bool sat] wx ∧ Cs c2 y1 x2 y3 y 0 0 wx ∧ Fr [] w3 wx)
    case first =>
      refine wp_region_held_drew (S := fun w' => w'.cell? ⟨W.heap.size, 0, none⟩ = some (.pointer (some ⟨c, 0, none⟩)) ∧ w'.cell? ⟨W.heap.size, 1, none⟩ = some (.bool sat)) (by kernel_rfl) ?_ (fun hHeld => ?_)
      · (try dsimp only)
        exact ⟨q0, q1⟩
      refine wo_start (l := []) (N := w3.heap.size) (i1 := 5) (d1 := 5) (v1 := #[.pointer none, .bool false]) (t1 := 68) (f := 1) (n := 5) (T := fun w' => Fr [] w3 w') (by kernel_rfl) (by kernel_rfl) (fun _ _ _ _ _ h => h) (fun _ _ h hb => ⟨(Fr.of hb []).keep h.1 (by simp), (Fr.of hb []).keep h.2 (by simp)⟩) (fun _ _ h hf => ⟨hf.keep h.1 (by simp), hf.keep h.2 (by simp)⟩) (by simp) ?_ (fun _ _ h hb => h.bel hb) hHeld ((Fr.refl [] w3).drew) (by simp [go_sem]) ?_
      · intro a w K h
        unfold wpOp
        go_simp
        exact Or.inl h
      clear hHeld q0 q1
      refine woA 0 14 ?_
      refine woA 2 16 ?_
      refine woA 3 17 ?_
      refine wo_call (c := 1) (o := { dst := some 15, op := _, type := _, pos := _, after := _, guard := _ }) rfl (by kernel_rfl) (by kernel_rfl) (fun u hSu hTu Kk hKk => ?_)
      go_simp
      refine (new_own ((unhide HS).fr hTu (by simp)) (by omega) (unhide HBy)).mono ?_
      rintro _ w4 ⟨c2, y1, y3, rfl, hC2, hc2, hy1, hF4⟩
      have hsu := hTu.size
      have HTn : Hid ((fun w' => Fr [] w3 w' ∧ Cs c2 y1 x2 y3 y 0 0 w') w4) := hide ⟨hTu.trans hF4, hC2⟩
      have HFn := hide hF4
      clear hC2 hF4 hTu hSu
      (try go_wp2_with fail)
      refine hKk.out _ _ (fun w' => Fr [] w3 w' ∧ Cs c2 y1 x2 y3 y 0 0 w') (unhide HFn) (fun _ _ h hb => ⟨h.1.bel hb, h.2.bel hb⟩) (unhide HTn) ?_
      clear hKk Kk HTn HFn
      (try simp only [Act.put, List.setIfInBounds_toArray, List.set_cons_zero, List.set_cons_succ])
      refine woA 4 18 ?_
      refine wo_fin (by kernel_rfl) (fun wf b1 hSu hTu k1' => ?_)
      (try simp only [Act.put, List.setIfInBounds_toArray, List.set_cons_zero, List.set_cons_succ])
      unfold ptr
      refine lstM 7 63 (by kernel_rfl) ?_
      refine rdA 6 127 (fun Kk hKk => ?_)
      rw [if_pos (by rfl)]
      have hrm := k1'.room
      have hbase := k1'.base
      have hbc : b1 ≠ c2 := fun q => by
        have h1 := k1'.cell 0
        have h2 := hTu.2.1.1
        rw [q, h2] at h1
        injection h1 with h1
        cases h1
      have hVr := vr_cells (cs := [.pointer (some ⟨c2, 0, none⟩), .bool sat]) (n := 2) hrm k1'.size rfl
      have hFw := fr_cells b1 [.pointer (some ⟨c2, 0, none⟩), .bool sat] 0 wf
      have hy1f : ∀ p, y1 = some p → 0 < x2 → p.block ∉ [b1] := fun p hp hx hm => by
        simp at hm
        have h2 := hTu.2.2.1.2.2.2
        rcases h2 with ⟨q1, q2, q3⟩ | ⟨b, off, q1, q2⟩
        · rw [q1] at hp; cases hp
        · rw [q1] at hp
          injection hp with hp
          subst hp
          have h3 := q2 0 hx
          have h1 := k1'.cell (off + 0)
          rw [show b1 = b from hm.symm, h3] at h1
          rcases off with _ | _ | off
          · injection h1 with h1; cases h1
          · injection h1 with h1; cases h1
          · cases h1
      refine oper_storeA (gb := b1) (off := 0) (cs := [.pointer (some ⟨c2, 0, none⟩), .bool sat]) (by rfl) (by rfl) szP68 (fun j hj => by rw [Nat.zero_add]; exact hrm j hj) (by simp [Value.oneCell']) ?_
      generalize wf.setCells b1 0 [.pointer (some ⟨c2, 0, none⟩), .bool sat] = wx at *
      refine hKk.out _ _ ?_ (fun hHeld => ?_)
      · (try dsimp only)
        exact ⟨hFw.keep hSu.1 (by simp; omega), hFw.keep hSu.2 (by simp; omega)⟩
      clear hKk Kk
      (try simp only [List.setIfInBounds_toArray, List.set_cons_zero, List.set_cons_succ])
      refine wpAnyH_done (by kernel_rfl) ?_ _
      have HT := hide (And.intro (hTu.2.fr hFw (by simpa using fun q => hbc q.symm) hy1f) (hTu.1.thenL hFw (fun i hi => by simp at hi; omega)))
      have HVr := hide hVr
      clear hTu hSu hVr hFw hrm hHeld
      go_wp2_with fail
      go_meet
      exact ⟨b1, c2, y1, y3, rfl, hbase, by omega, fun p hp hx => Nat.le_trans hsu (hy1 p hp hx), hbc, unhide HVr, unhide HT⟩
    case rest =>
      rename World => wx
      obtain ⟨ib, c2, y1, y3, rfl, hib, hc2, hy1, hne, hI, hC2, hF3⟩ := hcut
      have he0 : e = 0 := (unhide HD2).zero rfl
      have hJ3 := unhide HJs _ _ _ (unhide HJ1) hF3 (by simp)
      have hs3 := hF3.size
      subst hx2
      have HX := hide (unhide HOO he0 c2 y1 y3 y wx (by omega) (fun p hp hl => by have := hy1 p hp hl; omega) hC2 hJ3 (by omega))
      obtain ⟨hlc, hla, hll⟩ := unhide HLl
      have hc2x := hC2.1.lt
      have hibx := hI.lt
      have HI := hide hI
      have HB := hide ((unhide HB).fr hF3 (by simp))
      have H2 := hide ((unhide H2).fr hF3 (by simp) (by simp))
      have HF := hide ((unhide HF).thenL hF3 (by simp))
      have nl : ∀ i, W.heap.size ≤ i → i ∉ l := fun i hi hm => by have := hll i hm; omega
      clear hI hC2 hF3 hJ3 HJ1 HS HOO HBy q0 q1
      have t0 := (unhide HI).tab 0 _ rfl
      have t1 := (unhide HI).tab 1 _ rfl
      go_wp2_with fail
      clear t0 t1
      refine (unhide HX).mono ?_
      rintro _ w5 ⟨y', k5, e5, rfl, hD, hO, hC5, hJ5, hF5⟩
      have HD5 := hide hD
      have HOy := hide hO
      have HC2 := hide hC5
      have HJ2 := hide hJ5
      have HI := hide ((unhide HI).fr hF5 (by simp only [List.mem_cons, not_or]; exact ⟨hne, nl _ (by omega)⟩))
      have HB := hide ((unhide HB).fr hF5 (by simp only [List.mem_cons, not_or]; exact ⟨by omega, nl _ (by omega)⟩))
      have H2 := hide ((unhide H2).fr hF5 (by simp only [List.mem_cons, not_or]; exact ⟨by omega, hlc⟩) (fun p hp hl => by have := unhide HAl p hp hl; simp only [List.mem_cons, not_or]; exact ⟨by omega, hla p hp hl⟩))
      have HF := hide ((unhide HF).mono (l' := c :: l) (by simp) |>.thenL hF5 (fun i hi => by
        rcases List.mem_cons.1 hi with rfl | hi
        · exact .inr (by omega)
        · exact .inl (List.mem_cons_of_mem _ hi)))
      have hs5 := hF5.size
      clear hD hO hC5 hJ5 hF5 HX
      have t0 := (unhide HI).tab 0 _ rfl
      go_wp2_with fail
      clear t0
      refine (left2_any (unhide HC2)).mono ?_
      rintro _ w6 ⟨rfl, hF⟩
      have H2 := hide ((unhide H2).fr hF (by simp) (by simp))
      have HC2 := hide ((unhide HC2).fr hF (by simp) (by simp))
      have HJ2 := hide (unhide HJ2s _ _ _ (unhide HJ2) hF (by simp))
      have HOy := hide (unhide HOss _ _ _ _ _ _ _ (unhide HOy) (by omega) (fun q => q) hF (by simp))
      have HB := hide ((unhide HB).fr hF (by simp))
      have HI := hide ((unhide HI).fr hF (by simp))
      have HF := hide ((unhide HF).thenL hF (by simp))
      clear hF
      by_cases hk : k5 < y.length
      · have hk' : (0 : Int) < (y.length : Int) - (k5 : Int) := by omega
        have t0 := (unhide HI).tab 0 _ rfl
        go_wp2_with fail
        clear t0
        refine (Fail_any (unhide HC2)).mono ?_
        rintro _ w7 ⟨rfl, hC, hF⟩
        obtain ⟨e6, hE6⟩ : ∃ e6, (if e5 = 0 then (105 : Int) else e5) = e6 := ⟨_, rfl⟩
        rw [hE6] at hC
        have HE6 := hide hE6
        clear hE6
        have H2 := hide ((unhide H2).fr hF (by simp; omega) (fun p hp hl => by have := unhide HAl p hp hl; simp; omega))
        have HC2 := hide hC
        have HJ2 := hide (unhide HJ2s _ _ _ (unhide HJ2) hF (by simp; omega))
        have HOy := hide (unhide HOss _ _ _ _ _ _ _ (unhide HOy) (by omega) (fun q => q) hF (by simp; omega))
        have HB := hide ((unhide HB).fr hF (by simp; omega))
        have HI := hide ((unhide HI).fr hF (by simpa using hne))
        have HF := hide ((unhide HF).thenL hF (fun i hi => by simp at hi; exact .inr (by omega)))
        clear hC hF
        go_wp2_with fail
        refine wp_region_held_drew (S := fun w' => w'.cell? ⟨W.heap.size, 0, none⟩ = some (.pointer (some ⟨c, 0, none⟩)) ∧ w'.cell? ⟨ib, 0, none⟩ = some (.pointer (some ⟨c2, 0, none⟩))) (by kernel_rfl) ?_ (fun hHeld => ?_)
        · (try dsimp only)
          exact ⟨(unhide HB).tab 0 _ rfl, (unhide HI).tab 0 _ rfl⟩
        refine lst0 6 (by kernel_rfl) ?_
        refine tkA 0 29 1 ?_
        refine tkA 1 30 3 ?_
        refine tkA 2 31 7 ?_
        refine tkA 3 32 15 ?_
        have hdr : Fr [] w7 w7.drew := (Fr.refl [] w7).drew
        have H2 := hide ((unhide H2).fr hdr (by simp) (by simp))
        have HC2 := hide ((unhide HC2).fr hdr (by simp) (by simp))
        have HJ2 := hide (unhide HJ2s _ _ _ (unhide HJ2) hdr (by simp))
        have HOy := hide (unhide HOss _ _ _ _ _ _ _ (unhide HOy) (by omega) (fun q => q) hdr (by simp))
        have HB := hide ((unhide HB).fr hdr (by simp))
        have HI := hide ((unhide HI).fr hdr (by simp))
        have HF := hide ((unhide HF).thenL hdr (by simp))
        clear hdr
        generalize w7.drew = wv at *
        refine rdA 4 31 (fun Kk hKk => ?_)
        go_simp
        refine (err_any (unhide HC2)).mono ?_
        rintro _ _ ⟨rfl, rfl⟩
        (try go_wp2_with fail)
        refine hKk.out _ _ ?_ (fun hHeld => ?_)
        · (try dsimp only)
          exact ⟨(unhide HB).tab 0 _ rfl, (unhide HI).tab 0 _ rfl⟩
        clear hKk Kk
        (try simp only [List.setIfInBounds_toArray, List.set_cons_zero, List.set_cons_succ])
        refine rdA 5 63 (fun Kk hKk => ?_)
        go_simp
        refine (Fail_any (unhide H2)).mono ?_
        rintro _ w9 ⟨rfl, hC, hF⟩
        rw [if_pos rfl] at hC
        have HJ2 := hide (unhide HJ2s _ _ _ (unhide HJ2) hF (by simp))
        have HOy := hide (unhide HOss _ _ (doneE 0 e5 k5 y.length) _ _ _ _ (unhide HOy) (by omega) (fun q => (doneE_z q).2) hF (by simp))
        have HB := hide ((unhide HB).fr hF (by simp; omega))
        have HI := hide ((unhide HI).fr hF (by simp; omega))
        have HF := hide ((unhide HF).thenL hF (by simp))
        have H2 := hide hC
        clear hC hF
        (try go_wp2_with fail)
        refine hKk.out _ _ ?_ (fun hHeld => ?_)
        · (try dsimp only)
          exact ⟨(unhide HB).tab 0 _ rfl, (unhide HI).tab 0 _ rfl⟩
        clear hKk Kk
        (try simp only [List.setIfInBounds_toArray, List.set_cons_zero, List.set_cons_succ])
        refine wpAnyH_done (by kernel_rfl) ?_ _
        go_wp2_with fail
        rw [show e6 = doneE 0 e5 k5 y.length by rw [← unhide HE6]; exact (done_more e5 hk)] at H2
        refine bodyPost_end (results_none rfl _ _ _) rfl ?_
        exact ⟨y', k2, doneE 0 e5 k5 y.length, rfl, (unhide HD2).pc (unhide HD5), Or.inl (unhide HOms _ _ _ _ _ (unhide HOy) (by omega)), unhide HJ2, unhide H2, unhide HF⟩
      · have hk' : ¬ (0 : Int) < (y.length : Int) - (k5 : Int) := by omega
        go_wp2_with fail
        refine wp_region_held_drew (S := fun w' => w'.cell? ⟨W.heap.size, 0, none⟩ = some (.pointer (some ⟨c, 0, none⟩)) ∧ w'.cell? ⟨ib, 0, none⟩ = some (.pointer (some ⟨c2, 0, none⟩))) (by kernel_rfl) ?_ (fun hHeld => ?_)
        · (try dsimp only)
          exact ⟨(unhide HB).tab 0 _ rfl, (unhide HI).tab 0 _ rfl⟩
        refine lst0 6 (by kernel_rfl) ?_
        refine tkA 0 29 1 ?_
        refine tkA 1 30 3 ?_
        refine tkA 2 31 7 ?_
        refine tkA 3 32 15 ?_
        have hdr : Fr [] w6 w6.drew := (Fr.refl [] w6).drew
        have H2 := hide ((unhide H2).fr hdr (by simp) (by simp))
        have HC2 := hide ((unhide HC2).fr hdr (by simp) (by simp))
        have HJ2 := hide (unhide HJ2s _ _ _ (unhide HJ2) hdr (by simp))
        have HOy := hide (unhide HOss _ _ _ _ _ _ _ (unhide HOy) (by omega) (fun q => q) hdr (by simp))
        have HB := hide ((unhide HB).fr hdr (by simp))
        have HI := hide ((unhide HI).fr hdr (by simp))
        have HF := hide ((unhide HF).thenL hdr (by simp))
        clear hdr
        generalize w6.drew = wv at *
        refine rdA 4 31 (fun Kk hKk => ?_)
        go_simp
        refine (err_any (unhide HC2)).mono ?_
        rintro _ _ ⟨rfl, rfl⟩
        (try go_wp2_with fail)
        refine hKk.out _ _ ?_ (fun hHeld => ?_)
        · (try dsimp only)
          exact ⟨(unhide HB).tab 0 _ rfl, (unhide HI).tab 0 _ rfl⟩
        clear hKk Kk
        (try simp only [List.setIfInBounds_toArray, List.set_cons_zero, List.set_cons_succ])
        refine rdA 5 63 (fun Kk hKk => ?_)
        go_simp
        refine (Fail_any (unhide H2)).mono ?_
        rintro _ w9 ⟨rfl, hC, hF⟩
        rw [if_pos rfl] at hC
        have HJ2 := hide (unhide HJ2s _ _ _ (unhide HJ2) hF (by simp))
        have HOy := hide (unhide HOss _ _ (doneE 0 e5 k5 y.length) _ _ _ _ (unhide HOy) (by omega) (fun q => (doneE_z q).2) hF (by simp))
        have HB := hide ((unhide HB).fr hF (by simp; omega))
        have HI := hide ((unhide HI).fr hF (by simp; omega))
        have HF := hide ((unhide HF).thenL hF (by simp))
        have H2 := hide hC
        clear hC hF
        (try go_wp2_with fail)
        refine hKk.out _ _ ?_ (fun hHeld => ?_)
        · (try dsimp only)
          exact ⟨(unhide HB).tab 0 _ rfl, (unhide HI).tab 0 _ rfl⟩
        clear hKk Kk
        (try simp only [List.setIfInBounds_toArray, List.set_cons_zero, List.set_cons_succ])
        refine wpAnyH_done (by kernel_rfl) ?_ _
        go_wp2_with fail
        rw [show e5 = doneE 0 e5 k5 y.length from done_less e5 hk] at H2
        refine bodyPost_end (results_none rfl _ _ _) rfl ?_
        exact ⟨y', k2, doneE 0 e5 k5 y.length, rfl, (unhide HD2).pc (unhide HD5), Or.inl (unhide HOms _ _ _ _ _ (unhide HOy) (by omega)), unhide HJ2, unhide H2, unhide HF⟩
  · have hne : (e2 != 0) = true := by simpa using he
    go_wp2_with fail
    refine bodyPost_ret (v := .tuple #[]) (results_none rfl _ _ _) rfl ?_
    exact ⟨z, k2, e2, rfl, (unhide HD2).bd (Rd.err _ he), Or.inr ⟨he, unhide HJ1⟩, unhide HJJs _ (unhide HJ1), unhide H2, (unhide HF).mono (by simp)⟩
end
end Go.Proofs.YtjoonmpjcophnaaGreatDoor
namespace Go.Proofs.YtjoonmpjcophnaaGreatDoor
open Go.RowKit

section
variable {c : Nat} {a : Option Addr} {len cap k : Nat} {xs : List Int} {e : Int} {W : World} {sat : Bool} {fb q : Nat}
theorem szP112c : (Tryz.prog.info? 112).map (·.size) = some ([(default : Value), default, default] : List Value).length := by kernel_rfl
theorem rd_fn {k k1 k2 : Nat} {e e1 e2 : Int} {L : List Int} {T : Fo} (h1 : Rd rLoc xs k e L k1 e1) (h2 : Rd (rExp sat) xs k1 e1 T k2 e2) : Rd (rFn sat) xs k e (0, L, T) k2 e2 := h1.bd (h2.bd (Rd.giv (0, L, T) _ _ _))
set_option maxHeartbeats 4000000 in
set_option maxRecDepth 100000 in
theorem clos125_any (h : Cs c a len cap xs k e W) (hm : Mk W) (hc : 4 ≤ c) (hf4 : 4 ≤ fb) (hr : Room fb 3 W) (hfl : fb < W.heap.size) (hfc : fb ≠ c) (hfa : ∀ p, a = some p → 0 < len → p.block ≠ fb) :
    Calls Tryz.prog 125 #[.agg #[.pointer (some ⟨c, 0, none⟩), .bool sat], .pointer (some ⟨fb, 0, none⟩)] W fun r W' => ∃ (y : Fn) (cs : List Value) (k' : Nat) (e' : Int), r = .returned (.tuple #[]) ∧ Rd (rFn sat) xs k e y k' e' ∧ eFn.rep' W' (fun b => W.heap.size ≤ b) e' y cs ∧ Vr fb 3 cs W' ∧ Cs c a len cap xs k' e' W' ∧ Mk W' ∧ Fr [c, fb] W W' := by
  have hcl := h.1.lt
  have HAl : ∀ p, a = some p → 0 < len → p.block < W.heap.size := h.2.1.lt
  have hb := below1 W (.cells #[.pointer (some ⟨c, 0, none⟩), .bool sat] 68)
  have HV : Vr W.heap.size 2 [.pointer (some ⟨c, 0, none⟩), .bool sat] (W.alloc (.cells #[.pointer (some ⟨c, 0, none⟩), .bool sat] 68)) := vr_new [.pointer (some ⟨c, 0, none⟩), .bool sat] 68 W
  have HB := hide (HV.tab.below ((Below.refl _ _).drew))
  have HR := hide ((hr.below hb).drew)
  have H := hide ((h.bel hb).drew)
  have HM := hide ((hm.below hb).below ((Below.refl _ _).drew))
  have HF := hide ((Fr.of hb [c]).drew)
  have hs0 : W.heap.size < (W.alloc (.cells #[.pointer (some ⟨c, 0, none⟩), .bool sat] 68)).drew.heap.size := by simp [go_sem]
  clear h hm hr hb HV
  go_enter Tryz.func125, Tryz.ntmps125
  go_wp2_with fail
  refine wp_region_held_drew (S := fun w' => w'.cell? ⟨W.heap.size, 0, none⟩ = some (.pointer (some ⟨c, 0, none⟩)) ∧ w'.cell? ⟨W.heap.size, 1, none⟩ = some (.bool sat) ∧ Room fb 3 w') (by kernel_rfl) ?_ (fun hHeld => ?_)
  · (try dsimp only)
    exact ⟨(unhide HB) 0 _ rfl, (unhide HB) 1 _ rfl, unhide HR⟩
  refine lst0 7 (by kernel_rfl) ?_
  refine tkA 0 3 1 ?_
  refine tkA 1 4 3 ?_
  refine tkA 3 6 11 ?_
  refine rdA 2 15 (fun Kk hKk => ?_)
  go_simp
  refine (p_locals (unhide H) (unhide HM) hc).mono ?_
  rintro _ w1 ⟨L1, p1, s1, k1, e1, rfl, hD, hT, hC, hM, hF⟩
  have HD1 := hide hD
  have HT1 := hide (fun q => (hT q).mono (fun b _ hb => (show W.heap.size < b by omega)))
  have HB := hide ((unhide HB).fr hF (by simp; omega))
  have HR := hide ((unhide HR).fr hF (by simp; omega))
  have H := hide hC
  have HM := hide hM
  have hs1 := hF.size
  have HF := hide ((unhide HF).trans hF)
  clear hC hD hF hM hT
  (try go_wp2_with fail)
  refine hKk.out _ _ ?_ (fun hHeld => ?_)
  · (try dsimp only)
    exact ⟨(unhide HB) 0 _ rfl, (unhide HB) 1 _ rfl, unhide HR⟩
  clear hKk Kk
  (try simp only [List.setIfInBounds_toArray, List.set_cons_zero, List.set_cons_succ])
  refine rdA 4 31 (fun Kk hKk => ?_)
  go_simp
  refine (p_expr (unhide H) (unhide HM) hc).mono ?_
  rintro _ w2 ⟨p2, q2, s2, T2, k2, e2, rfl, hD, hT, hC, hM, hF⟩
  have HD2 := hide hD
  have HT2 := hide (fun q => (hT q).mono (fun b _ hb => (show W.heap.size < b by omega)))
  have HT1 := hide (fun q => (unhide HT1 q).fr hF (by simp; omega))
  have HB := hide ((unhide HB).fr hF (by simp; omega))
  have HR := hide ((unhide HR).fr hF (by simp; omega))
  have H := hide hC
  have HM := hide hM
  have hs2 := hF.size
  have HF := hide ((unhide HF).trans hF)
  clear hC hD hF hM hT
  (try go_wp2_with fail)
  refine hKk.out _ _ ?_ (fun hHeld => ?_)
  · (try dsimp only)
    exact ⟨(unhide HB) 0 _ rfl, (unhide HB) 1 _ rfl, unhide HR⟩
  clear hKk Kk
  (try simp only [List.setIfInBounds_toArray, List.set_cons_zero, List.set_cons_succ])
  refine tkA 5 8 63 ?_
  refine rdA 6 127 (fun Kk hKk => ?_)
  obtain ⟨⟨u0, r0⟩, g0⟩ := unhide HR 0 (by decide)
  obtain ⟨⟨u1, r1⟩, g1⟩ := unhide HR 1 (by decide)
  obtain ⟨⟨u2, r2⟩, g2⟩ := unhide HR 2 (by decide)
  have fZ : Fr [fb] w2 (((w2.setCell ⟨fb, 0, none⟩ (.int .u32 0)).setCell ⟨fb, 1, none⟩ (.slice p1 L1.length s1)).setCell ⟨fb, 2, none⟩ (.slice p2 q2 s2)) := (((Fr.refl _ _).place 0 _).place 1 _).place 2 _
  go_simp
  refine hKk.out _ _ ?_ (fun hHeld => ?_)
  · (try dsimp only)
    exact ⟨((unhide HB).fr fZ (by simp; omega)) 0 _ rfl, ((unhide HB).fr fZ (by simp; omega)) 1 _ rfl, (((unhide HR).set 0 _).set 1 _).set 2 _⟩
  clear hKk Kk
  (try simp only [List.setIfInBounds_toArray, List.set_cons_zero, List.set_cons_succ])
  refine wpAnyH_done (by kernel_rfl) ?_ _
  have HV : Hid (Vr fb 3 [.int .u32 0, .slice p1 L1.length s1, .slice p2 q2 s2] _) := hide (vr_fill3 w2 (unhide HR) (by omega))
  clear r0 g0 r1 g1 r2 g2
  generalize (((w2.setCell ⟨fb, 0, none⟩ (.int .u32 0)).setCell ⟨fb, 1, none⟩ (.slice p1 L1.length s1)).setCell ⟨fb, 2, none⟩ (.slice p2 q2 s2)) = wz at *
  go_wp2_with fail
  refine bodyPost_end (results_none rfl _ _ _) rfl ?_
  refine ⟨(0, L1, T2), [.int .u32 0, .slice p1 L1.length s1, .slice p2 q2 s2], _, _, rfl, rd_fn (unhide HD1) (unhide HD2), ⟨rfl, by simp [Value.oneCell'], fun q => ?_⟩, unhide HV, (unhide H).fr fZ (by simp; omega) (fun p hp hl => by have := hfa p hp hl; simp; omega), (unhide HM).fr fZ (by simp; omega), ((unhide HF).mono (by simp)).thenL fZ (by simp)⟩
  exact ⟨_, _, rfl, ((unhide HT1 ((unhide HD2).zero q)).fr fZ (by simp; omega)).mono (fun b _ hb => by omega), ((unhide HT2 q).fr fZ (by simp; omega)).mono (fun b _ hb => by omega)⟩
set_option maxHeartbeats 4000000 in
set_option maxRecDepth 100000 in
theorem clos124_any (h : Cs c a len cap xs k e W) (hm : Mk W) (hc : 4 ≤ c) (hB : Tab W q [.pointer (some ⟨c, 0, none⟩), .bool sat]) (hql : q < W.heap.size) (hqc : q ≠ c) :
    Calls Tryz.prog 124 #[.pointer (some ⟨q, 0, none⟩)] W fun r W' => ∃ y cs k' e', r = .returned (.agg (List.toArray cs)) ∧ Rd (rPc (0, [], .nil) (rFn sat)) xs k e y k' e' ∧ eFn.rep' W' (fun b => W.heap.size ≤ b) e' y cs ∧ Cs c a len cap xs k' e' W' ∧ Mk W' ∧ Tab W' q [.pointer (some ⟨c, 0, none⟩), .bool sat] ∧ Fr [c] W W' := by
  have hcl := h.1.lt
  have HAl : ∀ p, a = some p → 0 < len → p.block < W.heap.size := h.2.1.lt
  have hb := below2 W (.cells #[.int .u32 0, .slice none 0 0, .slice none 0 0] 112) (.cells #[.int .u32 0, .slice none 0 0, .slice none 0 0] 112)
  have HR : Hid (Vr W.heap.size 3 [.int .u32 0, .slice none 0 0, .slice none 0 0] ((W.alloc (.cells #[.int .u32 0, .slice none 0 0, .slice none 0 0] 112)).alloc (.cells #[.int .u32 0, .slice none 0 0, .slice none 0 0] 112))) := hide ((vr_new [.int .u32 0, .slice none 0 0, .slice none 0 0] 112 W).fr (Fr.of (below1 _ _) []) (by simp))
  have hv : Vr (W.alloc (.cells #[.int .u32 0, .slice none 0 0, .slice none 0 0] 112)).heap.size 3 [.int .u32 0, .slice none 0 0, .slice none 0 0] ((W.alloc (.cells #[.int .u32 0, .slice none 0 0, .slice none 0 0] 112)).alloc (.cells #[.int .u32 0, .slice none 0 0, .slice none 0 0] 112)) := vr_new [.int .u32 0, .slice none 0 0, .slice none 0 0] 112 (W.alloc (.cells #[.int .u32 0, .slice none 0 0, .slice none 0 0] 112))
  have hz1 : (W.alloc (.cells #[.int .u32 0, .slice none 0 0, .slice none 0 0] 112)).heap.size = W.heap.size + 1 := by simp
  rw [hz1] at hv
  have hsz : ((W.alloc (.cells #[.int .u32 0, .slice none 0 0, .slice none 0 0] 112)).alloc (.cells #[.int .u32 0, .slice none 0 0, .slice none 0 0] 112)).heap.size = W.heap.size + 2 := by simp
  have H := hide (h.bel hb)
  have HM := hide (hm.below hb)
  have HF := hide (Fr.of hb [c])
  have HB := hide (hB.below hb)
  have HV := hide hv
  clear h hm hB hb hv hz1
  have b0 := (unhide HB) 0 _ rfl
  have b1 := (unhide HB) 1 _ rfl
  go_enter Tryz.func124, Tryz.ntmps124
  go_wp2_with fail
  clear b0 b1
  generalize (W.alloc (.cells #[.int .u32 0, .slice none 0 0, .slice none 0 0] 112)).alloc (.cells #[.int .u32 0, .slice none 0 0, .slice none 0 0] 112) = w0 at *
  refine (part_b (fb := W.heap.size + 1) (F := rFn sat) (z := (0, [], .nil)) (J := fun w => Mk w ∧ Vr (W.heap.size + 1) 3 [.int .u32 0, .slice none 0 0, .slice none 0 0] w) (J2 := fun w => Mk w ∧ ∃ cs : List Value, Vr (W.heap.size + 1) 3 cs w ∧ cs.length = 3 ∧ ∀ u ∈ cs, u.oneCell' = true) (OO := fun y e B w => ∃ cs, Vr (W.heap.size + 1) 3 cs w ∧ eFn.rep' w (fun b => B ≤ b) e y cs) (l := [W.heap.size + 1])
    (unhide H) (by simp; omega) (fun p hp hl => by have := HAl p hp hl; simp; omega) (by simp; omega) ⟨unhide HM, unhide HV⟩
    (fun w w' l' hJ hf hl => ⟨hJ.1.fr hf (fun i hi => by rcases hl i hi with q | q <;> omega), hJ.2.fr hf (fun hi => by rcases hl _ hi with q | q <;> omega)⟩)
    (fun w w' l' hJ hf hl => ⟨hJ.1.fr hf (fun i hi => by rcases hl i hi with q | q <;> omega), by obtain ⟨cs, h1, h2⟩ := hJ.2; exact ⟨cs, h1.fr hf (fun hi => by rcases hl _ hi with q | q <;> omega), h2⟩⟩)
    (fun w hJ => ⟨hJ.1, _, hJ.2, rfl, by simp [Value.oneCell']⟩)
    (fun y e B B' w h hB => by obtain ⟨cs, h1, h2⟩ := h; exact ⟨cs, h1, h2.mono (fun b _ hb => by omega)⟩)
    (fun y e1 e2 B w w' l' h hB he hf hl => by obtain ⟨cs, h1, h2⟩ := h; exact ⟨cs, h1.fr hf (fun hi => by rcases hl _ hi with q | q <;> omega), h2.fr hf (fun i hi hp => by rcases hl i hi with q | q <;> omega) he⟩)
    (fun _ c2 a2 cap2 ys w hc2 ha2 hC hJ hw => (clos125_any hC hJ.1 (by omega) (by omega) hJ.2.room hJ.2.lt (by omega) (fun p hp hl => by have := ha2 p hp hl; omega)).mono (by
      rintro _ w' ⟨y, cs, k', e', rfl, hD, hR, hV, hC2, hM2, hF⟩
      exact ⟨y, k', e', rfl, hD, ⟨cs, hV, hR⟩, hC2, ⟨hM2, cs, hV, hR.len, hR.one⟩, hF⟩))).mono ?_
  rintro _ w1 ⟨y, k1, e1, rfl, hD, hO, hJ, hC, hF⟩
  have hcs : ∃ cs : List Value, Vr (W.heap.size + 1) 3 cs w1 ∧ eFn.rep' w1 (fun b => W.heap.size + 2 ≤ b) e1 y cs := by
    rcases hO with ⟨cs, h1, h2⟩ | ⟨he, h1⟩
    · exact ⟨cs, h1, h2.mono (fun b _ hb => by omega)⟩
    · exact ⟨_, h1.2, rfl, by simp [Value.oneCell'], fun q => absurd q he⟩
  obtain ⟨cs, hv1, hr1⟩ := hcs
  have hl3 := hr1.len
  obtain ⟨v0, v1, v2, rfl⟩ : ∃ v0 v1 v2, cs = [v0, v1, v2] := by
    match cs, hl3 with
    | [v0, v1, v2], _ => exact ⟨v0, v1, v2, rfl⟩
  have o0 := hr1.one v0 (by simp)
  have o1 := hr1.one v1 (by simp)
  have o2 := hr1.one v2 (by simp)
  have HD := hide hD
  have HC := hide hC
  have HM := hide hJ.1
  have HX := hide hr1
  have HV := hide hv1
  have HR := hide ((unhide HR).fr hF (by simp; omega))
  have HB := hide ((unhide HB).fr hF (by simp; omega))
  have HF := hide ((unhide HF).thenL hF (by simp))
  clear hD hO hJ hC hF hr1 hv1 hl3 H
  have t0 := (unhide HV).tab 0 _ rfl
  have t1 := (unhide HV).tab 1 _ rfl
  have t2 := (unhide HV).tab 2 _ rfl
  have hX := vr_cells (cs := [v0, v1, v2]) (unhide HR).room (unhide HR).lt rfl
  have fZ := fr_cells W.heap.size [v0, v1, v2] 0 w1
  have HZ := hide fZ
  have HXv := hide hX
  clear hX fZ
  go_wp2_with ((refine wpList_storeA rfl 112 (.tmp 1) (.tmp 6) rfl rfl (g := W.heap.size) (off := 0) (cs := [v0, v1, v2]) rfl rfl szP112c (fun j hj => by rw [Nat.zero_add]; exact (unhide HR).room j hj) (fun u hu => (unhide HX).one u hu) ?_))
  generalize w1.setCells W.heap.size 0 [v0, v1, v2] = wz at *
  have z0 := (unhide HXv).tab 0 _ rfl
  have z1 := (unhide HXv).tab 1 _ rfl
  have z2 := (unhide HXv).tab 2 _ rfl
  refine bodyPost_ret (v := .agg #[v0, v1, v2]) (by simp [results, Tryz.results124, go_sem, z0, z1, z2]) rfl ?_
  exact ⟨y, [v0, v1, v2], k1, e1, rfl, unhide HD, ((unhide HX).fr (unhide HZ) (by simp) (fun q => q)).mono (fun b _ hb => by omega), (unhide HC).fr (unhide HZ) (by simp; omega) (fun p hp hl => by have := HAl p hp hl; simp; omega), (unhide HM).fr (unhide HZ) (by simp; omega), (unhide HB).fr (unhide HZ) (by simp; omega), (unhide HF).thenL (unhide HZ) (by simp)⟩
end
end Go.Proofs.YtjoonmpjcophnaaGreatDoor
namespace Go.Proofs.YtjoonmpjcophnaaGreatDoor
open Go.RowKit

section
variable {c : Nat} {a : Option Addr} {len cap k : Nat} {xs : List Int} {e : Int} {W : World} {sat : Bool}
set_option maxHeartbeats 4000000 in
set_option maxRecDepth 100000 in
theorem sub86_any (h : Cs c a len cap xs k e W) (hm : Mk W) (hc : 4 ≤ c) : Calls Tryz.prog 86 #[.agg #[.pointer (some ⟨c, 0, none⟩), .bool sat]] W fun r W' => ∃ L g k' e', r = .returned (.slice (some ⟨g, 0, none⟩) L.length L.length) ∧ Rd (rList (rPc (0, [], .nil) (rFn sat))) xs k e L k' e' ∧ (e' = 0 → Sls eFn W' (fun b => W.heap.size ≤ b) L (.slice (some ⟨g, 0, none⟩) L.length L.length)) ∧ Prw eFn g L.length W.heap.size L e' W' ∧ g < W'.heap.size ∧ Cs c a len cap xs k' e' W' ∧ Mk W' ∧ Fr [c] W W' := by
  have hcl := h.1.lt
  have hb := below1 W (.cells #[.pointer (some ⟨c, 0, none⟩), .bool sat] 68)
  have HV := vr_new [.pointer (some ⟨c, 0, none⟩), .bool sat] 68 W
  have hq : W.heap.size < (W.alloc (.cells #[.pointer (some ⟨c, 0, none⟩), .bool sat] 68)).heap.size := by simp
  have hB : Tab (W.alloc (.cells #[.pointer (some ⟨c, 0, none⟩), .bool sat] 68)) W.heap.size [.pointer (some ⟨c, 0, none⟩), .bool sat] := HV.tab
  have HF0 := hide (Fr.of hb [c])
  have HX := hide (list123_any (q := W.heap.size) (h.bel hb) (J := fun w => Mk w ∧ Tab w W.heap.size [.pointer (some ⟨c, 0, none⟩), .bool sat] ∧ W.heap.size < w.heap.size) ⟨hm.below hb, hB, hq⟩ (fun w w' l hJ hf hl => ⟨hJ.1.fr hf (fun i hi => by rcases hl i hi with q | q <;> omega), hJ.2.1.fr hf (fun hi => by rcases hl _ hi with q | q <;> omega), Nat.lt_of_lt_of_le hJ.2.2 hf.size⟩)
    (fun k e w hw hC hJ => (clos124_any hC hJ.1 hc hJ.2.1 hJ.2.2 (by omega)).mono (by rintro _ w' ⟨y, cs, k1, e1, rfl, hD, hR, hC2, hM2, hB2, hF⟩; exact ⟨y, cs, k1, e1, rfl, hD, hR, hC2, ⟨hM2, hB2, Nat.lt_of_lt_of_le hJ.2.2 hF.size⟩, hF⟩)))
  clear h hm hb HV hB
  go_enter Tryz.func86, Tryz.ntmps86
  go_wp2_with fail
  refine (unhide HX).mono ?_
  rintro _ w1 ⟨L, g, k1, e1, rfl, hD, hS, hP, hg, hC, hJ, hF⟩
  have HD := hide hD
  have HS := hide hS
  have HC := hide hC
  have HP := hide (hP.lower (B' := W.heap.size) (by omega))
  have HM := hide hJ.1
  have HF := hide ((unhide HF0).trans hF)
  clear hD hS hC hJ hF hP
  go_wp2_with fail
  go_ret
  exact ⟨L, g, k1, e1, rfl, unhide HD, fun q => (unhide HS q).mono (fun b _ hb => by omega), unhide HP, hg, unhide HC, unhide HM, unhide HF⟩
end
end Go.Proofs.YtjoonmpjcophnaaGreatDoor
namespace Go.Proofs.YtjoonmpjcophnaaGreatDoor
open Go.RowKit

theorem szP121 : (Tryz.prog.info? 121).map (·.size) = some 3 := by kernel_rfl
theorem mkP121 (m : Nat) (hm : m ≤ 4096) : ∃ Z : Array Value, ∀ w, (Instr.makeSlice 32 (.int .i64 (m : Int)) (.int .i64 (m : Int))).run Tryz.prog w = .ok (.slice (some ⟨w.heap.size, 0, none⟩) m m) (w.alloc (.cells (madeCells Z (m * 3)) 121)) :=
  ⟨_, fun w => make_runK 32 121 3 Tryz.underlying32 (i := (Tryz.prog.info? 121).getD default) (z := (((Tryz.prog.info? 121).getD default).zero).getD default) (by kernel_rfl) (by kernel_rfl) (by kernel_rfl) (by kernel_rfl) m hm w⟩
section
variable {c : Nat} {a : Option Addr} {len cap k : Nat} {xs : List Int} {e : Int} {W : World} {sat : Bool} {q : Nat}
set_option maxHeartbeats 4000000 in
set_option maxRecDepth 100000 in
theorem list126_any {J : World → Prop} (h : Cs c a len cap xs k e W) (hJ : J W) (HJ : ∀ w w' l, J w → Fr l w w' → (∀ i ∈ l, i = c ∨ W.heap.size ≤ i) → J w')
    (HO : ∀ k e w, W.heap.size ≤ w.heap.size → Cs c a len cap xs k e w → J w → Calls Tryz.prog 127 #[.pointer (some ⟨q, 0, none⟩)] w fun r w' => ∃ y cs k' e', r = .returned (.agg cs.toArray) ∧ Rd (rDa sat) xs k e y k' e' ∧ eDa.rep' w' (fun b => w.heap.size ≤ b) e' y cs ∧ Cs c a len cap xs k' e' w' ∧ J w' ∧ Fr [c] w w') :
    Calls Tryz.prog 126 #[.pointer (some ⟨c, 0, none⟩), .func (.func 127) #[] #[.pointer (some ⟨q, 0, none⟩)]] W fun r W' => ∃ L g k' e', r = .returned (.slice (some ⟨g, 0, none⟩) L.length L.length) ∧ Rd (rList (rDa sat)) xs k e L k' e' ∧ (e' = 0 → Sls eDa W' (fun b => W.heap.size ≤ b) L (.slice (some ⟨g, 0, none⟩) L.length L.length)) ∧ Cs c a len cap xs k' e' W' ∧ J W' ∧ Fr [c] W W' := by
  have HX := hide (p_count h)
  have hcl := h.1.lt
  have HAl : Hid (∀ p, a = some p → 0 < len → p.block < W.heap.size) := hide h.2.1.lt
  have HJ0 := hide hJ
  have HJs := hide HJ
  have HOs := hide HO
  clear h hJ HJ HO
  go_enter Tryz.func126, Tryz.ntmps126
  go_wp2_with fail
  refine (unhide HX).mono ?_
  rintro _ w1 ⟨m, k1, e1, rfl, hD, hm, hC, hF⟩
  have HD := hide hD
  have HC := hide hC
  have HF := hide hF
  have hsz := hF.size
  have HJ1 := hide ((unhide HJs) _ _ _ (unhide HJ0) hF (by simp))
  clear hD hC hF HX HJ0
  obtain ⟨Z, hmk⟩ := mkP121 m hm
  go_wp2_with fail
  clear hmk
  have hb := below1 w1 (.cells (madeCells Z (m * 3)) 121)
  have HM := hide (Prw.made (E := eDa) w1 m W.heap.size Z 121 e1 hsz)
  change Hid (Prw eDa w1.heap.size m W.heap.size [] e1 (w1.alloc (.cells (madeCells Z (m * 3)) 121))) at HM
  have HC := hide ((unhide HC).bel hb)
  have HF := hide ((unhide HF).bel hb)
  have HJ1 := hide ((unhide HJs) _ _ _ (unhide HJ1) (Fr.of hb []) (by simp))
  have hsz2 : (w1.alloc (.cells (madeCells Z (m * 3)) 121)).heap.size = w1.heap.size + 1 := by simp
  clear hb
  generalize w1.alloc (.cells (madeCells Z (m * 3)) 121) = w2 at *
  go_loopw [12] (fun v12 wr => ∃ (L : List _) (k2 : Nat) (e2 : Int), L.length ≤ m ∧ v12 = .int .i64 (L.length : Int) ∧ Prw eDa w1.heap.size m W.heap.size L e2 wr ∧ Cs c a len cap xs k2 e2 wr ∧ J wr ∧ Fr [c] W wr ∧ w1.heap.size < wr.heap.size ∧ (∀ s k' e', Rd (repR (rDa sat) (m - L.length)) xs k2 e2 s k' e' → Rd (rList (rDa sat)) xs k e (id (L ++ s)) k' e')) (fun v12 _ => m - (intOf v12).toNat)
  case atStart =>
    refine ⟨[], k1, e1, Nat.zero_le _, rfl, unhide HM, unhide HC, unhide HJ1, unhide HF, by omega, fun s k' e' hs => (unhide HD).bd ?_⟩
    rw [show ((m : Int)).toNat = m by omega]
    exact hs
  case round =>
    obtain ⟨L, k2, e2, hi, rfl, hP, hC, hJ, hF, hlg, hK⟩ := hrel
    clear HM HC HJ1 HF HD
    by_cases hlt : L.length < m
    · have hi' : (L.length : Int) < (m : Int) := by omega
      have HX := hide (unhide HOs k2 e2 _ hF.size hC hJ)
      have HP := hide hP
      have HF := hide hF
      have HK := hide hK
      clear hP hC hJ hF hK
      go_wp2_with fail
      refine (unhide HX).mono ?_
      rintro _ w3 ⟨y, cs, k3, e3, rfl, hD, hy, hC, hJ, hF2⟩
      have hsz3 := hF2.size
      have hsW := (unhide HF).size
      have h0 := hD.zero
      have HP2 := hide ((unhide HP).fr hF2 (by simp; omega) (by simp; omega) h0)
      have HF3 := hide ((unhide HF).trans hF2)
      have HKn := hide (Rd.more2 id (n := m - (L.length + 1)) (by rw [show m - (L.length + 1) + 1 = m - L.length by omega]; exact unhide HK) hD)
      have hcl2 : cs.length = 3 := hy.len
      have hone := hy.one
      have HY := hide hy
      have HC2 := hide hC
      have HJ2 := hide hJ
      clear hD hy hC hJ hF2 HX HP HF HK
      go_wp2_with ((refine wpList_storeA rfl 121 (.tmp 19) (.tmp 18) rfl rfl (g := w1.heap.size) (off := L.length * 3) (cs := cs) rfl rfl (by rw [hcl2]; exact szP121) (fun j hj => (unhide HP2).spare hlt (show j < 3 by omega)) hone ?_))
      have hFg := fr_cells w1.heap.size cs (L.length * 3) w3
      have hl1 : (L ++ [y]).length = L.length + 1 := by simp
      refine ⟨⟨L ++ [y], k3, e3, by omega, by rw [hl1]; go_num, (unhide HP2).put hlt hcl2 (fun q => q) (fun q => (unhide HY).rep q (fun b _ hb => ⟨by omega, by omega⟩)), (unhide HC2).fr hFg (by simp; omega) (fun p hp hl => by have := unhide HAl p hp hl; simp; omega), unhide HJs _ _ _ (unhide HJ2) hFg (by simp; omega), (unhide HF3).thenL hFg (by simp; omega), by have := hFg.size; omega, by rw [hl1]; exact unhide HKn⟩, by simp [intOf]; omega⟩
    · obtain rfl : m = L.length := by omega
      have HP := hide hP
      have HC := hide hC
      have HJ2 := hide hJ
      have HF := hide hF
      have HK := hide (Rd.fin id hK (.inl (by omega)))
      clear hP hC hF hJ hK
      go_wp2_with fail
      go_ret
      exact ⟨L, w1.heap.size, k2, e2, rfl, unhide HK, fun q => by subst q; exact (unhide HP).sls, unhide HC, unhide HJ2, unhide HF⟩
end
end Go.Proofs.YtjoonmpjcophnaaGreatDoor
namespace Go.Proofs.YtjoonmpjcophnaaGreatDoor
open Go.RowKit

section
variable {c : Nat} {a : Option Addr} {len cap k : Nat} {xs : List Int} {e : Int} {W : World} {sat : Bool}
set_option maxHeartbeats 4000000 in
set_option maxRecDepth 100000 in
theorem sub87_any (h : Cs c a len cap xs k e W) (hm : Mk W) (hc : 4 ≤ c) : Calls Tryz.prog 87 #[.agg #[.pointer (some ⟨c, 0, none⟩), .bool sat]] W fun r W' => ∃ L g k' e', r = .returned (.slice (some ⟨g, 0, none⟩) L.length L.length) ∧ Rd (rList (rDa sat)) xs k e L k' e' ∧ (e' = 0 → Sls eDa W' (fun b => W.heap.size ≤ b) L (.slice (some ⟨g, 0, none⟩) L.length L.length)) ∧ Cs c a len cap xs k' e' W' ∧ Mk W' ∧ Fr [c] W W' := by
  have hcl := h.1.lt
  have hb := below1 W (.cells #[.pointer (some ⟨c, 0, none⟩), .bool sat] 68)
  have HV := vr_new [.pointer (some ⟨c, 0, none⟩), .bool sat] 68 W
  have hq : W.heap.size < (W.alloc (.cells #[.pointer (some ⟨c, 0, none⟩), .bool sat] 68)).heap.size := by simp
  have hB : Tab (W.alloc (.cells #[.pointer (some ⟨c, 0, none⟩), .bool sat] 68)) W.heap.size [.pointer (some ⟨c, 0, none⟩), .bool sat] := HV.tab
  have HF0 := hide (Fr.of hb [c])
  have HX := hide (list126_any (q := W.heap.size) (h.bel hb) (J := fun w => Mk w ∧ Tab w W.heap.size [.pointer (some ⟨c, 0, none⟩), .bool sat] ∧ W.heap.size < w.heap.size) ⟨hm.below hb, hB, hq⟩ (fun w w' l hJ hf hl => ⟨hJ.1.fr hf (fun i hi => by rcases hl i hi with q | q <;> omega), hJ.2.1.fr hf (fun hi => by rcases hl _ hi with q | q <;> omega), Nat.lt_of_lt_of_le hJ.2.2 hf.size⟩)
    (fun k e w hw hC hJ => (clos127_any hC hJ.1 hc hJ.2.1 hJ.2.2 (by omega)).mono (by rintro _ w' ⟨y, cs, k1, e1, rfl, hD, hR, hC2, hM2, hB2, hF⟩; exact ⟨y, cs, k1, e1, rfl, hD, hR, hC2, ⟨hM2, hB2, Nat.lt_of_lt_of_le hJ.2.2 hF.size⟩, hF⟩)))
  clear h hm hb HV hB
  go_enter Tryz.func87, Tryz.ntmps87
  go_wp2_with fail
  refine (unhide HX).mono ?_
  rintro _ w1 ⟨L, g, k1, e1, rfl, hD, hS, hC, hJ, hF⟩
  have HD := hide hD
  have HS := hide hS
  have HC := hide hC
  have HM := hide hJ.1
  have HF := hide ((unhide HF0).trans hF)
  clear hD hS hC hJ hF
  go_wp2_with fail
  go_ret
  exact ⟨L, g, k1, e1, rfl, unhide HD, fun q => (unhide HS q).mono (fun b _ hb => by omega), unhide HC, unhide HM, unhide HF⟩
end
end Go.Proofs.YtjoonmpjcophnaaGreatDoor
