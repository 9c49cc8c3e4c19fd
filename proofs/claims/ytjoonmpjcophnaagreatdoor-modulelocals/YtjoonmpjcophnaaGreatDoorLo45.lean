/- PlB, PsA, PsE, PlD, PsB, PlE, PsC, PlF, PsD, PlG, PcB, PsF, PlH, PcC, PsG, PpC. -/
import Derived.Test.YtjoonmpjcophnaaGreatDoorLo41
import Derived.Test.YtjoonmpjcophnaaGreatDoorLo44
namespace Go.Proofs.YtjoonmpjcophnaaGreatDoor
open Go.RowKit

theorem szP96 : (Tryz.prog.info? 96).map (·.size) = some 2 := by kernel_rfl
theorem mkP96 (m : Nat) (hm : m ≤ 4096) : ∃ Z : Array Value, ∀ w, (Instr.makeSlice 24 (.int .i64 (m : Int)) (.int .i64 (m : Int))).run Tryz.prog w = .ok (.slice (some ⟨w.heap.size, 0, none⟩) m m) (w.alloc (.cells (madeCells Z (m * 2)) 96)) :=
  ⟨_, fun w => make_runK 24 96 2 Tryz.underlying24 (i := (Tryz.prog.info? 96).getD default) (z := (((Tryz.prog.info? 96).getD default).zero).getD default) (by kernel_rfl) (by kernel_rfl) (by kernel_rfl) (by kernel_rfl) m hm w⟩
section
variable {c : Nat} {a : Option Addr} {len cap k : Nat} {xs : List Int} {e : Int} {W : World} {sat : Bool} {q : Nat}
set_option maxHeartbeats 4000000 in
set_option maxRecDepth 100000 in
theorem list106_any {J : World → Prop} (h : Cs c a len cap xs k e W) (hJ : J W) (HJ : ∀ w w' l, J w → Fr l w w' → (∀ i ∈ l, i = c ∨ W.heap.size ≤ i) → J w')
    (HO : ∀ k e w, W.heap.size ≤ w.heap.size → Cs c a len cap xs k e w → J w → Calls Tryz.prog 107 #[.pointer (some ⟨c, 0, none⟩)] w fun r w' => ∃ y cs k' e', r = .returned (.agg cs.toArray) ∧ Rd rFunc xs k e y k' e' ∧ eTy.rep' w' (fun b => w.heap.size ≤ b) e' y cs ∧ Cs c a len cap xs k' e' w' ∧ J w' ∧ Fr [c] w w') :
    Calls Tryz.prog 106 #[.pointer (some ⟨c, 0, none⟩), .func (.func 107) #[.pointer (some ⟨c, 0, none⟩)] #[]] W fun r W' => ∃ L g k' e', r = .returned (.slice (some ⟨g, 0, none⟩) L.length L.length) ∧ Rd (rList rFunc) xs k e L k' e' ∧ (e' = 0 → Sls eTy W' (fun b => W.heap.size ≤ b) L (.slice (some ⟨g, 0, none⟩) L.length L.length)) ∧ Cs c a len cap xs k' e' W' ∧ J W' ∧ Fr [c] W W' := by
  have HX := hide (p_count h)
  have hcl := h.1.lt
  have HAl : Hid (∀ p, a = some p → 0 < len → p.block < W.heap.size) := hide h.2.1.lt
  have HJ0 := hide hJ
  have HJs := hide HJ
  have HOs := hide HO
  clear h hJ HJ HO
  go_enter Tryz.func106, Tryz.ntmps106
  go_wp2_with fail
  refine (unhide HX).mono ?_
  rintro _ w1 ⟨m, k1, e1, rfl, hD, hm, hC, hF⟩
  have HD := hide hD
  have HC := hide hC
  have HF := hide hF
  have hsz := hF.size
  have HJ1 := hide ((unhide HJs) _ _ _ (unhide HJ0) hF (by simp))
  clear hD hC hF HX HJ0
  obtain ⟨Z, hmk⟩ := mkP96 m hm
  go_wp2_with fail
  clear hmk
  have hb := below1 w1 (.cells (madeCells Z (m * 2)) 96)
  have HM := hide (Prw.made (E := eTy) w1 m W.heap.size Z 96 e1 hsz)
  change Hid (Prw eTy w1.heap.size m W.heap.size [] e1 (w1.alloc (.cells (madeCells Z (m * 2)) 96))) at HM
  have HC := hide ((unhide HC).bel hb)
  have HF := hide ((unhide HF).bel hb)
  have HJ1 := hide ((unhide HJs) _ _ _ (unhide HJ1) (Fr.of hb []) (by simp))
  have hsz2 : (w1.alloc (.cells (madeCells Z (m * 2)) 96)).heap.size = w1.heap.size + 1 := by simp
  clear hb
  generalize w1.alloc (.cells (madeCells Z (m * 2)) 96) = w2 at *
  go_loopw [12] (fun v12 wr => ∃ (L : List _) (k2 : Nat) (e2 : Int), L.length ≤ m ∧ v12 = .int .i64 (L.length : Int) ∧ Prw eTy w1.heap.size m W.heap.size L e2 wr ∧ Cs c a len cap xs k2 e2 wr ∧ J wr ∧ Fr [c] W wr ∧ w1.heap.size < wr.heap.size ∧ (∀ s k' e', Rd (repR rFunc (m - L.length)) xs k2 e2 s k' e' → Rd (rList rFunc) xs k e (id (L ++ s)) k' e')) (fun v12 _ => m - (intOf v12).toNat)
  case atStart =>
    refine ⟨[], k1, e1, Nat.zero_le _, rfl, unhide HM, unhide HC, unhide HJ1, unhide HF, by omega, fun s k' e' hs => (unhide HD).bd ?_⟩
    rw [show ((m : Int)).toNat = m by omega]
    exact hs
  case round =>
    obtain ⟨L, k2, e2, hi, rfl, hP, hC, hJ, hF, hlg, hK⟩ := hrel
    clear HM HC HJ1 HF HD
    by_cases hlt : L.length < m
    · have hi' : (L.length : Int) < (m : Int) := by omega
      have HX := hide (unhide HOs k2 e2 _ hF.size hC hJ)
      have HP := hide hP
      have HF := hide hF
      have HK := hide hK
      clear hP hC hJ hF hK
      go_wp2_with fail
      refine (unhide HX).mono ?_
      rintro _ w3 ⟨y, cs, k3, e3, rfl, hD, hy, hC, hJ, hF2⟩
      have hsz3 := hF2.size
      have hsW := (unhide HF).size
      have h0 := hD.zero
      have HP2 := hide ((unhide HP).fr hF2 (by simp; omega) (by simp; omega) h0)
      have HF3 := hide ((unhide HF).trans hF2)
      have HKn := hide (Rd.more2 id (n := m - (L.length + 1)) (by rw [show m - (L.length + 1) + 1 = m - L.length by omega]; exact unhide HK) hD)
      have hcl2 : cs.length = 2 := hy.len
      have hone := hy.one
      have HY := hide hy
      have HC2 := hide hC
      have HJ2 := hide hJ
      clear hD hy hC hJ hF2 HX HP HF HK
      go_wp2_with ((refine wpList_storeA rfl 96 (.tmp 19) (.tmp 18) rfl rfl (g := w1.heap.size) (off := L.length * 2) (cs := cs) rfl rfl (by rw [hcl2]; exact szP96) (fun j hj => (unhide HP2).spare hlt (show j < 2 by omega)) hone ?_))
      have hFg := fr_cells w1.heap.size cs (L.length * 2) w3
      have hl1 : (L ++ [y]).length = L.length + 1 := by simp
      refine ⟨⟨L ++ [y], k3, e3, by omega, by rw [hl1]; go_num, (unhide HP2).put hlt hcl2 (fun q => q) (fun q => (unhide HY).rep q (fun b _ hb => ⟨by omega, by omega⟩)), (unhide HC2).fr hFg (by simp; omega) (fun p hp hl => by have := unhide HAl p hp hl; simp; omega), unhide HJs _ _ _ (unhide HJ2) hFg (by simp; omega), (unhide HF3).thenL hFg (by simp; omega), by have := hFg.size; omega, by rw [hl1]; exact unhide HKn⟩, by simp [intOf]; omega⟩
    · obtain rfl : m = L.length := by omega
      have HP := hide hP
      have HC := hide hC
      have HJ2 := hide hJ
      have HF := hide hF
      have HK := hide (Rd.fin id hK (.inl (by omega)))
      clear hP hC hF hJ hK
      go_wp2_with fail
      go_ret
      exact ⟨L, w1.heap.size, k2, e2, rfl, unhide HK, fun q => by subst q; exact (unhide HP).sls, unhide HC, unhide HJ2, unhide HF⟩
end
end Go.Proofs.YtjoonmpjcophnaaGreatDoor
namespace Go.Proofs.YtjoonmpjcophnaaGreatDoor
open Go.RowKit

section
variable {c : Nat} {a : Option Addr} {len cap k : Nat} {xs : List Int} {e : Int} {W : World} {sat : Bool}
set_option maxHeartbeats 4000000 in
set_option maxRecDepth 100000 in
theorem sub78_any (h : Cs c a len cap xs k e W) (hm : Mk W) (hc : 4 ≤ c) : Calls Tryz.prog 78 #[.agg #[.pointer (some ⟨c, 0, none⟩), .bool sat]] W fun r W' => ∃ L g k' e', r = .returned (.slice (some ⟨g, 0, none⟩) L.length L.length) ∧ Rd (rList rFunc) xs k e L k' e' ∧ (e' = 0 → Sls eTy W' (fun b => W.heap.size ≤ b) L (.slice (some ⟨g, 0, none⟩) L.length L.length)) ∧ Cs c a len cap xs k' e' W' ∧ Mk W' ∧ Fr [c] W W' := by
  have hcl := h.1.lt
  have hb := below1 W (.cells #[.pointer (some ⟨c, 0, none⟩), .bool sat] 68)
  have HV := vr_new [.pointer (some ⟨c, 0, none⟩), .bool sat] 68 W
  have hq : W.heap.size < (W.alloc (.cells #[.pointer (some ⟨c, 0, none⟩), .bool sat] 68)).heap.size := by simp
  have hB : Tab (W.alloc (.cells #[.pointer (some ⟨c, 0, none⟩), .bool sat] 68)) W.heap.size [.pointer (some ⟨c, 0, none⟩), .bool sat] := HV.tab
  have HF0 := hide (Fr.of hb [c])
  have HX := hide (list106_any (h.bel hb) (J := fun w => Mk w ∧ Tab w W.heap.size [.pointer (some ⟨c, 0, none⟩), .bool sat] ∧ W.heap.size < w.heap.size) ⟨hm.below hb, hB, hq⟩ (fun w w' l hJ hf hl => ⟨hJ.1.fr hf (fun i hi => by rcases hl i hi with q | q <;> omega), hJ.2.1.fr hf (fun hi => by rcases hl _ hi with q | q <;> omega), Nat.lt_of_lt_of_le hJ.2.2 hf.size⟩)
    (fun k e w hw hC hJ => (p_func hC).mono (by rintro _ w' ⟨y, v1, v2, k1, e1, rfl, hD, hR, hC2, hF⟩; exact ⟨y, [v1, v2], k1, e1, rfl, hD, El.rep'.of hR _, hC2, ⟨hJ.1.fr hF (by simp; omega), hJ.2.1.fr hF (by simp; omega), Nat.lt_of_lt_of_le hJ.2.2 hF.size⟩, hF⟩)))
  clear h hm hb HV hB
  go_enter Tryz.func78, Tryz.ntmps78
  go_wp2_with fail
  refine (unhide HX).mono ?_
  rintro _ w1 ⟨L, g, k1, e1, rfl, hD, hS, hC, hJ, hF⟩
  have HD := hide hD
  have HS := hide hS
  have HC := hide hC
  have HM := hide hJ.1
  have HF := hide ((unhide HF0).trans hF)
  clear hD hS hC hJ hF
  go_wp2_with fail
  go_ret
  exact ⟨L, g, k1, e1, rfl, unhide HD, fun q => (unhide HS q).mono (fun b _ hb => by omega), unhide HC, unhide HM, unhide HF⟩
end
end Go.Proofs.YtjoonmpjcophnaaGreatDoor
namespace Go.Proofs.YtjoonmpjcophnaaGreatDoor
open Go.RowKit

section
variable {c : Nat} {a : Option Addr} {len cap k : Nat} {xs : List Int} {e : Int} {W : World} {sat : Bool}
set_option maxHeartbeats 4000000 in
set_option maxRecDepth 100000 in
theorem sub79_any (h : Cs c a len cap xs k e W) (hm : Mk W) (hc : 4 ≤ c) : Calls Tryz.prog 79 #[.agg #[.pointer (some ⟨c, 0, none⟩), .bool sat]] W fun r W' => ∃ L g k' e', r = .returned (.slice (some ⟨g, 0, none⟩) L.length L.length) ∧ Rd (rList rImp) xs k e L k' e' ∧ (e' = 0 → Sls eIm W' (fun b => W.heap.size ≤ b) L (.slice (some ⟨g, 0, none⟩) L.length L.length)) ∧ Cs c a len cap xs k' e' W' ∧ Mk W' ∧ Fr [c] W W' := by
  have hcl := h.1.lt
  have hb := below1 W (.cells #[.pointer (some ⟨c, 0, none⟩), .bool sat] 68)
  have HV := vr_new [.pointer (some ⟨c, 0, none⟩), .bool sat] 68 W
  have hq : W.heap.size < (W.alloc (.cells #[.pointer (some ⟨c, 0, none⟩), .bool sat] 68)).heap.size := by simp
  have hB : Tab (W.alloc (.cells #[.pointer (some ⟨c, 0, none⟩), .bool sat] 68)) W.heap.size [.pointer (some ⟨c, 0, none⟩), .bool sat] := HV.tab
  have HF0 := hide (Fr.of hb [c])
  have HX := hide (list108_any (q := W.heap.size) (h.bel hb) (J := fun w => Mk w ∧ Tab w W.heap.size [.pointer (some ⟨c, 0, none⟩), .bool sat] ∧ W.heap.size < w.heap.size) ⟨hm.below hb, hB, hq⟩ (fun w w' l hJ hf hl => ⟨hJ.1.fr hf (fun i hi => by rcases hl i hi with q | q <;> omega), hJ.2.1.fr hf (fun hi => by rcases hl _ hi with q | q <;> omega), Nat.lt_of_lt_of_le hJ.2.2 hf.size⟩)
    (fun k e w hw hC hJ => (clos109_any hC hJ.1 hc hJ.2.1 hJ.2.2 (by omega)).mono (by rintro _ w' ⟨y, cs, k1, e1, rfl, hD, hR, hC2, hM2, hB2, hF⟩; exact ⟨y, cs, k1, e1, rfl, hD, hR, hC2, ⟨hM2, hB2, Nat.lt_of_lt_of_le hJ.2.2 hF.size⟩, hF⟩)))
  clear h hm hb HV hB
  go_enter Tryz.func79, Tryz.ntmps79
  go_wp2_with fail
  refine (unhide HX).mono ?_
  rintro _ w1 ⟨L, g, k1, e1, rfl, hD, hS, hC, hJ, hF⟩
  have HD := hide hD
  have HS := hide hS
  have HC := hide hC
  have HM := hide hJ.1
  have HF := hide ((unhide HF0).trans hF)
  clear hD hS hC hJ hF
  go_wp2_with fail
  go_ret
  exact ⟨L, g, k1, e1, rfl, unhide HD, fun q => (unhide HS q).mono (fun b _ hb => by omega), unhide HC, unhide HM, unhide HF⟩
end
end Go.Proofs.YtjoonmpjcophnaaGreatDoor
namespace Go.Proofs.YtjoonmpjcophnaaGreatDoor
open Go.RowKit

theorem mkP30 (m : Nat) (hm : m ≤ 4096) : ∃ Z : Array Value, ∀ w, (Instr.makeSlice 69 (.int .i64 (m : Int)) (.int .i64 (m : Int))).run Tryz.prog w = .ok (.slice (some ⟨w.heap.size, 0, none⟩) m m) (w.alloc (.cells (madeCells Z (m)) 30)) :=
  ⟨_, fun w => by have h := make_runK 69 30 1 Tryz.underlying69 (i := (Tryz.prog.info? 30).getD default) (z := (((Tryz.prog.info? 30).getD default).zero).getD default) (by kernel_rfl) (by kernel_rfl) (by kernel_rfl) (by kernel_rfl) m hm w; rw [Nat.mul_one] at h; exact h⟩
section
variable {c : Nat} {a : Option Addr} {len cap k : Nat} {xs : List Int} {e : Int} {W : World} {sat : Bool} {q : Nat}
set_option maxHeartbeats 4000000 in
set_option maxRecDepth 100000 in
theorem list114_any {J : World → Prop} (h : Cs c a len cap xs k e W) (hJ : J W) (HJ : ∀ w w' l, J w → Fr l w w' → (∀ i ∈ l, i = c ∨ W.heap.size ≤ i) → J w')
    (HO : ∀ k e w, W.heap.size ≤ w.heap.size → Cs c a len cap xs k e w → J w → Calls Tryz.prog 38 #[.pointer (some ⟨c, 0, none⟩)] w fun r w' => ∃ y cs k' e', (r = .returned (.int .u32 y) ∧ cs = [.int .u32 y]) ∧ Rd (rU 32) xs k e y k' e' ∧ eU.rep' w' (fun b => w.heap.size ≤ b) 0 y cs ∧ Cs c a len cap xs k' e' w' ∧ J w' ∧ Fr [c] w w') :
    Calls Tryz.prog 114 #[.pointer (some ⟨c, 0, none⟩), .func (.func 38) #[.pointer (some ⟨c, 0, none⟩)] #[]] W fun r W' => ∃ L g k' e', r = .returned (.slice (some ⟨g, 0, none⟩) L.length L.length) ∧ Rd (rList (rU 32)) xs k e L k' e' ∧ Sls eU W' (fun b => W.heap.size ≤ b) L (.slice (some ⟨g, 0, none⟩) L.length L.length) ∧ L.length ≤ 4096 ∧ Cs c a len cap xs k' e' W' ∧ J W' ∧ Fr [c] W W' := by
  have HX := hide (p_count h)
  have hcl := h.1.lt
  have HAl : Hid (∀ p, a = some p → 0 < len → p.block < W.heap.size) := hide h.2.1.lt
  have HJ0 := hide hJ
  have HJs := hide HJ
  have HOs := hide HO
  clear h hJ HJ HO
  go_enter Tryz.func114, Tryz.ntmps114
  go_wp2_with fail
  refine (unhide HX).mono ?_
  rintro _ w1 ⟨m, k1, e1, rfl, hD, hm, hC, hF⟩
  have HD := hide hD
  have HC := hide hC
  have HF := hide hF
  have hsz := hF.size
  have HJ1 := hide ((unhide HJs) _ _ _ (unhide HJ0) hF (by simp))
  clear hD hC hF HX HJ0
  obtain ⟨Z, hmk⟩ := mkP30 m hm
  go_wp2_with fail
  clear hmk
  have hb := below1 w1 (.cells (madeCells Z (m)) 30)
  have HM := hide (Prw.made (E := eU) w1 m W.heap.size Z 30 0 hsz)
  rw [show m * eU.k = m from Nat.mul_one m] at HM
  change Hid (Prw eU w1.heap.size m W.heap.size [] 0 (w1.alloc (.cells (madeCells Z (m)) 30))) at HM
  have HC := hide ((unhide HC).bel hb)
  have HF := hide ((unhide HF).bel hb)
  have HJ1 := hide ((unhide HJs) _ _ _ (unhide HJ1) (Fr.of hb []) (by simp))
  have hsz2 : (w1.alloc (.cells (madeCells Z (m)) 30)).heap.size = w1.heap.size + 1 := by simp
  clear hb
  generalize w1.alloc (.cells (madeCells Z (m)) 30) = w2 at *
  go_loopw [12] (fun v12 wr => ∃ (L : List _) (k2 : Nat) (e2 : Int), L.length ≤ m ∧ v12 = .int .i64 (L.length : Int) ∧ Prw eU w1.heap.size m W.heap.size L 0 wr ∧ Cs c a len cap xs k2 e2 wr ∧ J wr ∧ Fr [c] W wr ∧ w1.heap.size < wr.heap.size ∧ (∀ s k' e', Rd (repR (rU 32) (m - L.length)) xs k2 e2 s k' e' → Rd (rList (rU 32)) xs k e (id (L ++ s)) k' e')) (fun v12 _ => m - (intOf v12).toNat)
  case atStart =>
    refine ⟨[], k1, e1, Nat.zero_le _, rfl, unhide HM, unhide HC, unhide HJ1, unhide HF, by omega, fun s k' e' hs => (unhide HD).bd ?_⟩
    rw [show ((m : Int)).toNat = m by omega]
    exact hs
  case round =>
    obtain ⟨L, k2, e2, hi, rfl, hP, hC, hJ, hF, hlg, hK⟩ := hrel
    clear HM HC HJ1 HF HD
    by_cases hlt : L.length < m
    · have hi' : (L.length : Int) < (m : Int) := by omega
      have HX := hide (unhide HOs k2 e2 _ hF.size hC hJ)
      have HP := hide hP
      have HF := hide hF
      have HK := hide hK
      clear hP hC hJ hF hK
      go_wp2_with fail
      refine (unhide HX).mono ?_
      rintro _ w3 ⟨y, cs, k3, e3, ⟨rfl, rfl⟩, hD, hy, hC, hJ, hF2⟩
      have hsz3 := hF2.size
      have hsW := (unhide HF).size
      have HP2 := hide ((unhide HP).fr hF2 (by simp; omega) (by simp; omega) (fun q => q))
      have HF3 := hide ((unhide HF).trans hF2)
      have HKn := hide (Rd.more2 id (n := m - (L.length + 1)) (by rw [show m - (L.length + 1) + 1 = m - L.length by omega]; exact unhide HK) hD)
      have hcl2 : ([.int .u32 y] : List Value).length = 1 := hy.len
      have hone := hy.one
      have HY := hide hy
      have HC2 := hide hC
      have HJ2 := hide hJ
      clear hD hy hC hJ hF2 HX HP HF HK
      obtain ⟨⟨u0, r0⟩, g0⟩ := (unhide HP2).spare hlt (j := 0) (show 0 < 1 by omega)
      have r0 : w3.cell? ⟨w1.heap.size, L.length, none⟩ = some u0 := by rw [← r0]; congr 2; exact (Nat.mul_one _).symm
      have g0 : w3.frozen? ⟨w1.heap.size, L.length, none⟩ = false := by rw [← g0]; congr 2; exact (Nat.mul_one _).symm
      go_wp2_with fail
      clear r0 g0
      have hFg : Fr [w1.heap.size] w3 (w3.setCell ⟨w1.heap.size, L.length, none⟩ (.int .u32 y)) := (Fr.refl _ _).place _ _
      have hPn := (unhide HP2).put hlt hcl2 (fun q => q) (fun q => (unhide HY).rep q (fun b _ hb => ⟨by omega, by omega⟩))
      rw [show L.length * eU.k = L.length from Nat.mul_one _] at hPn
      have hl1 : (L ++ [y]).length = L.length + 1 := by simp
      refine ⟨⟨L ++ [y], k3, e3, by omega, by rw [hl1]; go_num, hPn, (unhide HC2).fr hFg (by simp; omega) (fun p hp hl => by have := unhide HAl p hp hl; simp; omega), unhide HJs _ _ _ (unhide HJ2) hFg (by simp; omega), (unhide HF3).thenL hFg (by simp; omega), by have := hFg.size; omega, by rw [hl1]; exact unhide HKn⟩, by simp [intOf]; omega⟩
    · obtain rfl : m = L.length := by omega
      have HP := hide hP
      have HC := hide hC
      have HJ2 := hide hJ
      have HF := hide hF
      have HK := hide (Rd.fin id hK (.inl (by omega)))
      clear hP hC hF hJ hK
      go_wp2_with fail
      go_ret
      exact ⟨L, w1.heap.size, k2, e2, rfl, unhide HK, (unhide HP).sls, hm, unhide HC, unhide HJ2, unhide HF⟩
end
end Go.Proofs.YtjoonmpjcophnaaGreatDoor
namespace Go.Proofs.YtjoonmpjcophnaaGreatDoor
open Go.RowKit

section
variable {c : Nat} {a : Option Addr} {len cap k : Nat} {xs : List Int} {e : Int} {W : World} {sat : Bool}
set_option maxHeartbeats 4000000 in
set_option maxRecDepth 100000 in
theorem sub80_any (h : Cs c a len cap xs k e W) (hm : Mk W) (hc : 4 ≤ c) : Calls Tryz.prog 80 #[.agg #[.pointer (some ⟨c, 0, none⟩), .bool sat]] W fun r W' => ∃ L g k' e', r = .returned (.slice (some ⟨g, 0, none⟩) L.length L.length) ∧ Rd (rList (rU 32)) xs k e L k' e' ∧ Sls eU W' (fun b => W.heap.size ≤ b) L (.slice (some ⟨g, 0, none⟩) L.length L.length) ∧ L.length ≤ 4096 ∧ Cs c a len cap xs k' e' W' ∧ Mk W' ∧ Fr [c] W W' := by
  have hcl := h.1.lt
  have hb := below1 W (.cells #[.pointer (some ⟨c, 0, none⟩), .bool sat] 68)
  have HV := vr_new [.pointer (some ⟨c, 0, none⟩), .bool sat] 68 W
  have hq : W.heap.size < (W.alloc (.cells #[.pointer (some ⟨c, 0, none⟩), .bool sat] 68)).heap.size := by simp
  have hB : Tab (W.alloc (.cells #[.pointer (some ⟨c, 0, none⟩), .bool sat] 68)) W.heap.size [.pointer (some ⟨c, 0, none⟩), .bool sat] := HV.tab
  have HF0 := hide (Fr.of hb [c])
  have HX := hide (list114_any (h.bel hb) (J := fun w => Mk w ∧ Tab w W.heap.size [.pointer (some ⟨c, 0, none⟩), .bool sat] ∧ W.heap.size < w.heap.size) ⟨hm.below hb, hB, hq⟩ (fun w w' l hJ hf hl => ⟨hJ.1.fr hf (fun i hi => by rcases hl i hi with q | q <;> omega), hJ.2.1.fr hf (fun hi => by rcases hl _ hi with q | q <;> omega), Nat.lt_of_lt_of_le hJ.2.2 hf.size⟩)
    (fun k e w hw hC hJ => (p_u32 hC).mono (by rintro _ w' ⟨y, k1, e1, rfl, hD, -, hC2, hF⟩; exact ⟨y, [.int .u32 y], k1, e1, ⟨rfl, rfl⟩, hD, El.rep'.of rfl _, hC2, ⟨hJ.1.fr hF (by simp; omega), hJ.2.1.fr hF (by simp; omega), Nat.lt_of_lt_of_le hJ.2.2 hF.size⟩, hF⟩)))
  clear h hm hb HV hB
  go_enter Tryz.func80, Tryz.ntmps80
  go_wp2_with fail
  refine (unhide HX).mono ?_
  rintro _ w1 ⟨L, g, k1, e1, rfl, hD, hS, hlen, hC, hJ, hF⟩
  have HD := hide hD
  have HS := hide hS
  have HC := hide hC
  have HM := hide hJ.1
  have HF := hide ((unhide HF0).trans hF)
  clear hD hS hC hJ hF
  go_wp2_with fail
  go_ret
  exact ⟨L, g, k1, e1, rfl, unhide HD, (unhide HS).mono (fun b _ hb => by omega), hlen, unhide HC, unhide HM, unhide HF⟩
end
end Go.Proofs.YtjoonmpjcophnaaGreatDoor
namespace Go.Proofs.YtjoonmpjcophnaaGreatDoor
open Go.RowKit

theorem szP99 : (Tryz.prog.info? 99).map (·.size) = some 3 := by kernel_rfl
theorem mkP99 (m : Nat) (hm : m ≤ 4096) : ∃ Z : Array Value, ∀ w, (Instr.makeSlice 27 (.int .i64 (m : Int)) (.int .i64 (m : Int))).run Tryz.prog w = .ok (.slice (some ⟨w.heap.size, 0, none⟩) m m) (w.alloc (.cells (madeCells Z (m * 3)) 99)) :=
  ⟨_, fun w => make_runK 27 99 3 Tryz.underlying27 (i := (Tryz.prog.info? 99).getD default) (z := (((Tryz.prog.info? 99).getD default).zero).getD default) (by kernel_rfl) (by kernel_rfl) (by kernel_rfl) (by kernel_rfl) m hm w⟩
section
variable {c : Nat} {a : Option Addr} {len cap k : Nat} {xs : List Int} {e : Int} {W : World} {sat : Bool} {q : Nat}
set_option maxHeartbeats 4000000 in
set_option maxRecDepth 100000 in
theorem list115_any {J : World → Prop} (h : Cs c a len cap xs k e W) (hJ : J W) (HJ : ∀ w w' l, J w → Fr l w w' → (∀ i ∈ l, i = c ∨ W.heap.size ≤ i) → J w')
    (HO : ∀ k e w, W.heap.size ≤ w.heap.size → Cs c a len cap xs k e w → J w → Calls Tryz.prog 111 #[.pointer (some ⟨c, 0, none⟩)] w fun r w' => ∃ y cs k' e', r = .returned (.agg cs.toArray) ∧ Rd rTable xs k e y k' e' ∧ eLim.rep' w' (fun b => w.heap.size ≤ b) e' y cs ∧ Cs c a len cap xs k' e' w' ∧ J w' ∧ Fr [c] w w') :
    Calls Tryz.prog 115 #[.pointer (some ⟨c, 0, none⟩), .func (.func 111) #[.pointer (some ⟨c, 0, none⟩)] #[]] W fun r W' => ∃ L g k' e', r = .returned (.slice (some ⟨g, 0, none⟩) L.length L.length) ∧ Rd (rList rTable) xs k e L k' e' ∧ (e' = 0 → Sls eLim W' (fun b => W.heap.size ≤ b) L (.slice (some ⟨g, 0, none⟩) L.length L.length)) ∧ Cs c a len cap xs k' e' W' ∧ J W' ∧ Fr [c] W W' := by
  have HX := hide (p_count h)
  have hcl := h.1.lt
  have HAl : Hid (∀ p, a = some p → 0 < len → p.block < W.heap.size) := hide h.2.1.lt
  have HJ0 := hide hJ
  have HJs := hide HJ
  have HOs := hide HO
  clear h hJ HJ HO
  go_enter Tryz.func115, Tryz.ntmps115
  go_wp2_with fail
  refine (unhide HX).mono ?_
  rintro _ w1 ⟨m, k1, e1, rfl, hD, hm, hC, hF⟩
  have HD := hide hD
  have HC := hide hC
  have HF := hide hF
  have hsz := hF.size
  have HJ1 := hide ((unhide HJs) _ _ _ (unhide HJ0) hF (by simp))
  clear hD hC hF HX HJ0
  obtain ⟨Z, hmk⟩ := mkP99 m hm
  go_wp2_with fail
  clear hmk
  have hb := below1 w1 (.cells (madeCells Z (m * 3)) 99)
  have HM := hide (Prw.made (E := eLim) w1 m W.heap.size Z 99 e1 hsz)
  change Hid (Prw eLim w1.heap.size m W.heap.size [] e1 (w1.alloc (.cells (madeCells Z (m * 3)) 99))) at HM
  have HC := hide ((unhide HC).bel hb)
  have HF := hide ((unhide HF).bel hb)
  have HJ1 := hide ((unhide HJs) _ _ _ (unhide HJ1) (Fr.of hb []) (by simp))
  have hsz2 : (w1.alloc (.cells (madeCells Z (m * 3)) 99)).heap.size = w1.heap.size + 1 := by simp
  clear hb
  generalize w1.alloc (.cells (madeCells Z (m * 3)) 99) = w2 at *
  go_loopw [12] (fun v12 wr => ∃ (L : List _) (k2 : Nat) (e2 : Int), L.length ≤ m ∧ v12 = .int .i64 (L.length : Int) ∧ Prw eLim w1.heap.size m W.heap.size L e2 wr ∧ Cs c a len cap xs k2 e2 wr ∧ J wr ∧ Fr [c] W wr ∧ w1.heap.size < wr.heap.size ∧ (∀ s k' e', Rd (repR rTable (m - L.length)) xs k2 e2 s k' e' → Rd (rList rTable) xs k e (id (L ++ s)) k' e')) (fun v12 _ => m - (intOf v12).toNat)
  case atStart =>
    refine ⟨[], k1, e1, Nat.zero_le _, rfl, unhide HM, unhide HC, unhide HJ1, unhide HF, by omega, fun s k' e' hs => (unhide HD).bd ?_⟩
    rw [show ((m : Int)).toNat = m by omega]
    exact hs
  case round =>
    obtain ⟨L, k2, e2, hi, rfl, hP, hC, hJ, hF, hlg, hK⟩ := hrel
    clear HM HC HJ1 HF HD
    by_cases hlt : L.length < m
    · have hi' : (L.length : Int) < (m : Int) := by omega
      have HX := hide (unhide HOs k2 e2 _ hF.size hC hJ)
      have HP := hide hP
      have HF := hide hF
      have HK := hide hK
      clear hP hC hJ hF hK
      go_wp2_with fail
      refine (unhide HX).mono ?_
      rintro _ w3 ⟨y, cs, k3, e3, rfl, hD, hy, hC, hJ, hF2⟩
      have hsz3 := hF2.size
      have hsW := (unhide HF).size
      have h0 := hD.zero
      have HP2 := hide ((unhide HP).fr hF2 (by simp; omega) (by simp; omega) h0)
      have HF3 := hide ((unhide HF).trans hF2)
      have HKn := hide (Rd.more2 id (n := m - (L.length + 1)) (by rw [show m - (L.length + 1) + 1 = m - L.length by omega]; exact unhide HK) hD)
      have hcl2 : cs.length = 3 := hy.len
      have hone := hy.one
      have HY := hide hy
      have HC2 := hide hC
      have HJ2 := hide hJ
      clear hD hy hC hJ hF2 HX HP HF HK
      go_wp2_with ((refine wpList_storeA rfl 99 (.tmp 19) (.tmp 18) rfl rfl (g := w1.heap.size) (off := L.length * 3) (cs := cs) rfl rfl (by rw [hcl2]; exact szP99) (fun j hj => (unhide HP2).spare hlt (show j < 3 by omega)) hone ?_))
      have hFg := fr_cells w1.heap.size cs (L.length * 3) w3
      have hl1 : (L ++ [y]).length = L.length + 1 := by simp
      refine ⟨⟨L ++ [y], k3, e3, by omega, by rw [hl1]; go_num, (unhide HP2).put hlt hcl2 (fun q => q) (fun q => (unhide HY).rep q (fun b _ hb => ⟨by omega, by omega⟩)), (unhide HC2).fr hFg (by simp; omega) (fun p hp hl => by have := unhide HAl p hp hl; simp; omega), unhide HJs _ _ _ (unhide HJ2) hFg (by simp; omega), (unhide HF3).thenL hFg (by simp; omega), by have := hFg.size; omega, by rw [hl1]; exact unhide HKn⟩, by simp [intOf]; omega⟩
    · obtain rfl : m = L.length := by omega
      have HP := hide hP
      have HC := hide hC
      have HJ2 := hide hJ
      have HF := hide hF
      have HK := hide (Rd.fin id hK (.inl (by omega)))
      clear hP hC hF hJ hK
      go_wp2_with fail
      go_ret
      exact ⟨L, w1.heap.size, k2, e2, rfl, unhide HK, fun q => by subst q; exact (unhide HP).sls, unhide HC, unhide HJ2, unhide HF⟩
end
end Go.Proofs.YtjoonmpjcophnaaGreatDoor
namespace Go.Proofs.YtjoonmpjcophnaaGreatDoor
open Go.RowKit

section
variable {c : Nat} {a : Option Addr} {len cap k : Nat} {xs : List Int} {e : Int} {W : World} {sat : Bool}
set_option maxHeartbeats 4000000 in
set_option maxRecDepth 100000 in
theorem sub81_any (h : Cs c a len cap xs k e W) (hm : Mk W) (hc : 4 ≤ c) : Calls Tryz.prog 81 #[.agg #[.pointer (some ⟨c, 0, none⟩), .bool sat]] W fun r W' => ∃ L g k' e', r = .returned (.slice (some ⟨g, 0, none⟩) L.length L.length) ∧ Rd (rList rTable) xs k e L k' e' ∧ (e' = 0 → Sls eLim W' (fun b => W.heap.size ≤ b) L (.slice (some ⟨g, 0, none⟩) L.length L.length)) ∧ Cs c a len cap xs k' e' W' ∧ Mk W' ∧ Fr [c] W W' := by
  have hcl := h.1.lt
  have hb := below1 W (.cells #[.pointer (some ⟨c, 0, none⟩), .bool sat] 68)
  have HV := vr_new [.pointer (some ⟨c, 0, none⟩), .bool sat] 68 W
  have hq : W.heap.size < (W.alloc (.cells #[.pointer (some ⟨c, 0, none⟩), .bool sat] 68)).heap.size := by simp
  have hB : Tab (W.alloc (.cells #[.pointer (some ⟨c, 0, none⟩), .bool sat] 68)) W.heap.size [.pointer (some ⟨c, 0, none⟩), .bool sat] := HV.tab
  have HF0 := hide (Fr.of hb [c])
  have HX := hide (list115_any (h.bel hb) (J := fun w => Mk w ∧ Tab w W.heap.size [.pointer (some ⟨c, 0, none⟩), .bool sat] ∧ W.heap.size < w.heap.size) ⟨hm.below hb, hB, hq⟩ (fun w w' l hJ hf hl => ⟨hJ.1.fr hf (fun i hi => by rcases hl i hi with q | q <;> omega), hJ.2.1.fr hf (fun hi => by rcases hl _ hi with q | q <;> omega), Nat.lt_of_lt_of_le hJ.2.2 hf.size⟩)
    (fun k e w hw hC hJ => (p_table hC).mono (by rintro _ w' ⟨y, k1, e1, rfl, hD, hC2, hF⟩; exact ⟨y, [.int .u32 y.1, .int .u32 y.2.1, .bool y.2.2], k1, e1, rfl, hD, El.rep'.of rfl _, hC2, ⟨hJ.1.fr hF (by simp; omega), hJ.2.1.fr hF (by simp; omega), Nat.lt_of_lt_of_le hJ.2.2 hF.size⟩, hF⟩)))
  clear h hm hb HV hB
  go_enter Tryz.func81, Tryz.ntmps81
  go_wp2_with fail
  refine (unhide HX).mono ?_
  rintro _ w1 ⟨L, g, k1, e1, rfl, hD, hS, hC, hJ, hF⟩
  have HD := hide hD
  have HS := hide hS
  have HC := hide hC
  have HM := hide hJ.1
  have HF := hide ((unhide HF0).trans hF)
  clear hD hS hC hJ hF
  go_wp2_with fail
  go_ret
  exact ⟨L, g, k1, e1, rfl, unhide HD, fun q => (unhide HS q).mono (fun b _ hb => by omega), unhide HC, unhide HM, unhide HF⟩
end
end Go.Proofs.YtjoonmpjcophnaaGreatDoor
namespace Go.Proofs.YtjoonmpjcophnaaGreatDoor
open Go.RowKit

section
variable {c : Nat} {a : Option Addr} {len cap k : Nat} {xs : List Int} {e : Int} {W : World} {sat : Bool} {q : Nat}
set_option maxHeartbeats 4000000 in
set_option maxRecDepth 100000 in
theorem list115b_any {J : World → Prop} (h : Cs c a len cap xs k e W) (hJ : J W) (HJ : ∀ w w' l, J w → Fr l w w' → (∀ i ∈ l, i = c ∨ W.heap.size ≤ i) → J w')
    (HO : ∀ k e w, W.heap.size ≤ w.heap.size → Cs c a len cap xs k e w → J w → Calls Tryz.prog 112 #[.pointer (some ⟨c, 0, none⟩)] w fun r w' => ∃ y cs k' e', r = .returned (.agg cs.toArray) ∧ Rd rLimits xs k e y k' e' ∧ eLim.rep' w' (fun b => w.heap.size ≤ b) e' y cs ∧ Cs c a len cap xs k' e' w' ∧ J w' ∧ Fr [c] w w') :
    Calls Tryz.prog 115 #[.pointer (some ⟨c, 0, none⟩), .func (.func 112) #[.pointer (some ⟨c, 0, none⟩)] #[]] W fun r W' => ∃ L g k' e', r = .returned (.slice (some ⟨g, 0, none⟩) L.length L.length) ∧ Rd (rList rLimits) xs k e L k' e' ∧ (e' = 0 → Sls eLim W' (fun b => W.heap.size ≤ b) L (.slice (some ⟨g, 0, none⟩) L.length L.length)) ∧ Cs c a len cap xs k' e' W' ∧ J W' ∧ Fr [c] W W' := by
  have HX := hide (p_count h)
  have hcl := h.1.lt
  have HAl : Hid (∀ p, a = some p → 0 < len → p.block < W.heap.size) := hide h.2.1.lt
  have HJ0 := hide hJ
  have HJs := hide HJ
  have HOs := hide HO
  clear h hJ HJ HO
  go_enter Tryz.func115, Tryz.ntmps115
  go_wp2_with fail
  refine (unhide HX).mono ?_
  rintro _ w1 ⟨m, k1, e1, rfl, hD, hm, hC, hF⟩
  have HD := hide hD
  have HC := hide hC
  have HF := hide hF
  have hsz := hF.size
  have HJ1 := hide ((unhide HJs) _ _ _ (unhide HJ0) hF (by simp))
  clear hD hC hF HX HJ0
  obtain ⟨Z, hmk⟩ := mkP99 m hm
  go_wp2_with fail
  clear hmk
  have hb := below1 w1 (.cells (madeCells Z (m * 3)) 99)
  have HM := hide (Prw.made (E := eLim) w1 m W.heap.size Z 99 e1 hsz)
  change Hid (Prw eLim w1.heap.size m W.heap.size [] e1 (w1.alloc (.cells (madeCells Z (m * 3)) 99))) at HM
  have HC := hide ((unhide HC).bel hb)
  have HF := hide ((unhide HF).bel hb)
  have HJ1 := hide ((unhide HJs) _ _ _ (unhide HJ1) (Fr.of hb []) (by simp))
  have hsz2 : (w1.alloc (.cells (madeCells Z (m * 3)) 99)).heap.size = w1.heap.size + 1 := by simp
  clear hb
  generalize w1.alloc (.cells (madeCells Z (m * 3)) 99) = w2 at *
  go_loopw [12] (fun v12 wr => ∃ (L : List _) (k2 : Nat) (e2 : Int), L.length ≤ m ∧ v12 = .int .i64 (L.length : Int) ∧ Prw eLim w1.heap.size m W.heap.size L e2 wr ∧ Cs c a len cap xs k2 e2 wr ∧ J wr ∧ Fr [c] W wr ∧ w1.heap.size < wr.heap.size ∧ (∀ s k' e', Rd (repR rLimits (m - L.length)) xs k2 e2 s k' e' → Rd (rList rLimits) xs k e (id (L ++ s)) k' e')) (fun v12 _ => m - (intOf v12).toNat)
  case atStart =>
    refine ⟨[], k1, e1, Nat.zero_le _, rfl, unhide HM, unhide HC, unhide HJ1, unhide HF, by omega, fun s k' e' hs => (unhide HD).bd ?_⟩
    rw [show ((m : Int)).toNat = m by omega]
    exact hs
  case round =>
    obtain ⟨L, k2, e2, hi, rfl, hP, hC, hJ, hF, hlg, hK⟩ := hrel
    clear HM HC HJ1 HF HD
    by_cases hlt : L.length < m
    · have hi' : (L.length : Int) < (m : Int) := by omega
      have HX := hide (unhide HOs k2 e2 _ hF.size hC hJ)
      have HP := hide hP
      have HF := hide hF
      have HK := hide hK
      clear hP hC hJ hF hK
      go_wp2_with fail
      refine (unhide HX).mono ?_
      rintro _ w3 ⟨y, cs, k3, e3, rfl, hD, hy, hC, hJ, hF2⟩
      have hsz3 := hF2.size
      have hsW := (unhide HF).size
      have h0 := hD.zero
      have HP2 := hide ((unhide HP).fr hF2 (by simp; omega) (by simp; omega) h0)
      have HF3 := hide ((unhide HF).trans hF2)
      have HKn := hide (Rd.more2 id (n := m - (L.length + 1)) (by rw [show m - (L.length + 1) + 1 = m - L.length by omega]; exact unhide HK) hD)
      have hcl2 : cs.length = 3 := hy.len
      have hone := hy.one
      have HY := hide hy
      have HC2 := hide hC
      have HJ2 := hide hJ
      clear hD hy hC hJ hF2 HX HP HF HK
      go_wp2_with ((refine wpList_storeA rfl 99 (.tmp 19) (.tmp 18) rfl rfl (g := w1.heap.size) (off := L.length * 3) (cs := cs) rfl rfl (by rw [hcl2]; exact szP99) (fun j hj => (unhide HP2).spare hlt (show j < 3 by omega)) hone ?_))
      have hFg := fr_cells w1.heap.size cs (L.length * 3) w3
      have hl1 : (L ++ [y]).length = L.length + 1 := by simp
      refine ⟨⟨L ++ [y], k3, e3, by omega, by rw [hl1]; go_num, (unhide HP2).put hlt hcl2 (fun q => q) (fun q => (unhide HY).rep q (fun b _ hb => ⟨by omega, by omega⟩)), (unhide HC2).fr hFg (by simp; omega) (fun p hp hl => by have := unhide HAl p hp hl; simp; omega), unhide HJs _ _ _ (unhide HJ2) hFg (by simp; omega), (unhide HF3).thenL hFg (by simp; omega), by have := hFg.size; omega, by rw [hl1]; exact unhide HKn⟩, by simp [intOf]; omega⟩
    · obtain rfl : m = L.length := by omega
      have HP := hide hP
      have HC := hide hC
      have HJ2 := hide hJ
      have HF := hide hF
      have HK := hide (Rd.fin id hK (.inl (by omega)))
      clear hP hC hF hJ hK
      go_wp2_with fail
      go_ret
      exact ⟨L, w1.heap.size, k2, e2, rfl, unhide HK, fun q => by subst q; exact (unhide HP).sls, unhide HC, unhide HJ2, unhide HF⟩
end
end Go.Proofs.YtjoonmpjcophnaaGreatDoor
namespace Go.Proofs.YtjoonmpjcophnaaGreatDoor
open Go.RowKit

section
variable {c : Nat} {a : Option Addr} {len cap k : Nat} {xs : List Int} {e : Int} {W : World} {sat : Bool}
set_option maxHeartbeats 4000000 in
set_option maxRecDepth 100000 in
theorem sub82_any (h : Cs c a len cap xs k e W) (hm : Mk W) (hc : 4 ≤ c) : Calls Tryz.prog 82 #[.agg #[.pointer (some ⟨c, 0, none⟩), .bool sat]] W fun r W' => ∃ L g k' e', r = .returned (.slice (some ⟨g, 0, none⟩) L.length L.length) ∧ Rd (rList rLimits) xs k e L k' e' ∧ (e' = 0 → Sls eLim W' (fun b => W.heap.size ≤ b) L (.slice (some ⟨g, 0, none⟩) L.length L.length)) ∧ Cs c a len cap xs k' e' W' ∧ Mk W' ∧ Fr [c] W W' := by
  have hcl := h.1.lt
  have hb := below1 W (.cells #[.pointer (some ⟨c, 0, none⟩), .bool sat] 68)
  have HV := vr_new [.pointer (some ⟨c, 0, none⟩), .bool sat] 68 W
  have hq : W.heap.size < (W.alloc (.cells #[.pointer (some ⟨c, 0, none⟩), .bool sat] 68)).heap.size := by simp
  have hB : Tab (W.alloc (.cells #[.pointer (some ⟨c, 0, none⟩), .bool sat] 68)) W.heap.size [.pointer (some ⟨c, 0, none⟩), .bool sat] := HV.tab
  have HF0 := hide (Fr.of hb [c])
  have HX := hide (list115b_any (h.bel hb) (J := fun w => Mk w ∧ Tab w W.heap.size [.pointer (some ⟨c, 0, none⟩), .bool sat] ∧ W.heap.size < w.heap.size) ⟨hm.below hb, hB, hq⟩ (fun w w' l hJ hf hl => ⟨hJ.1.fr hf (fun i hi => by rcases hl i hi with q | q <;> omega), hJ.2.1.fr hf (fun hi => by rcases hl _ hi with q | q <;> omega), Nat.lt_of_lt_of_le hJ.2.2 hf.size⟩)
    (fun k e w hw hC hJ => (p_limits hC).mono (by rintro _ w' ⟨y, k1, e1, rfl, hD, hC2, hF⟩; exact ⟨y, [.int .u32 y.1, .int .u32 y.2.1, .bool y.2.2], k1, e1, rfl, hD, El.rep'.of rfl _, hC2, ⟨hJ.1.fr hF (by simp; omega), hJ.2.1.fr hF (by simp; omega), Nat.lt_of_lt_of_le hJ.2.2 hF.size⟩, hF⟩)))
  clear h hm hb HV hB
  go_enter Tryz.func82, Tryz.ntmps82
  go_wp2_with fail
  refine (unhide HX).mono ?_
  rintro _ w1 ⟨L, g, k1, e1, rfl, hD, hS, hC, hJ, hF⟩
  have HD := hide hD
  have HS := hide hS
  have HC := hide hC
  have HM := hide hJ.1
  have HF := hide ((unhide HF0).trans hF)
  clear hD hS hC hJ hF
  go_wp2_with fail
  go_ret
  exact ⟨L, g, k1, e1, rfl, unhide HD, fun q => (unhide HS q).mono (fun b _ hb => by omega), unhide HC, unhide HM, unhide HF⟩
end
end Go.Proofs.YtjoonmpjcophnaaGreatDoor
namespace Go.Proofs.YtjoonmpjcophnaaGreatDoor
open Go.RowKit

theorem szP115 : (Tryz.prog.info? 115).map (·.size) = some 3 := by kernel_rfl
theorem mkP115 (m : Nat) (hm : m ≤ 4096) : ∃ Z : Array Value, ∀ w, (Instr.makeSlice 28 (.int .i64 (m : Int)) (.int .i64 (m : Int))).run Tryz.prog w = .ok (.slice (some ⟨w.heap.size, 0, none⟩) m m) (w.alloc (.cells (madeCells Z (m * 3)) 115)) :=
  ⟨_, fun w => make_runK 28 115 3 Tryz.underlying28 (i := (Tryz.prog.info? 115).getD default) (z := (((Tryz.prog.info? 115).getD default).zero).getD default) (by kernel_rfl) (by kernel_rfl) (by kernel_rfl) (by kernel_rfl) m hm w⟩
section
variable {c : Nat} {a : Option Addr} {len cap k : Nat} {xs : List Int} {e : Int} {W : World} {sat : Bool} {q : Nat}
set_option maxHeartbeats 4000000 in
set_option maxRecDepth 100000 in
theorem list116_any {J : World → Prop} (h : Cs c a len cap xs k e W) (hJ : J W) (HJ : ∀ w w' l, J w → Fr l w w' → (∀ i ∈ l, i = c ∨ W.heap.size ≤ i) → J w')
    (HO : ∀ k e w, W.heap.size ≤ w.heap.size → Cs c a len cap xs k e w → J w → Calls Tryz.prog 117 #[.pointer (some ⟨q, 0, none⟩)] w fun r w' => ∃ y cs k' e', r = .returned (.agg cs.toArray) ∧ Rd (rCe sat) xs k e y k' e' ∧ eCe.rep' w' (fun b => w.heap.size ≤ b) e' y cs ∧ Cs c a len cap xs k' e' w' ∧ J w' ∧ Fr [c] w w') :
    Calls Tryz.prog 116 #[.pointer (some ⟨c, 0, none⟩), .func (.func 117) #[] #[.pointer (some ⟨q, 0, none⟩)]] W fun r W' => ∃ L g k' e', r = .returned (.slice (some ⟨g, 0, none⟩) L.length L.length) ∧ Rd (rList (rCe sat)) xs k e L k' e' ∧ (e' = 0 → Sls eCe W' (fun b => W.heap.size ≤ b) L (.slice (some ⟨g, 0, none⟩) L.length L.length)) ∧ Cs c a len cap xs k' e' W' ∧ J W' ∧ Fr [c] W W' := by
  have HX := hide (p_count h)
  have hcl := h.1.lt
  have HAl : Hid (∀ p, a = some p → 0 < len → p.block < W.heap.size) := hide h.2.1.lt
  have HJ0 := hide hJ
  have HJs := hide HJ
  have HOs := hide HO
  clear h hJ HJ HO
  go_enter Tryz.func116, Tryz.ntmps116
  go_wp2_with fail
  refine (unhide HX).mono ?_
  rintro _ w1 ⟨m, k1, e1, rfl, hD, hm, hC, hF⟩
  have HD := hide hD
  have HC := hide hC
  have HF := hide hF
  have hsz := hF.size
  have HJ1 := hide ((unhide HJs) _ _ _ (unhide HJ0) hF (by simp))
  clear hD hC hF HX HJ0
  obtain ⟨Z, hmk⟩ := mkP115 m hm
  go_wp2_with fail
  clear hmk
  have hb := below1 w1 (.cells (madeCells Z (m * 3)) 115)
  have HM := hide (Prw.made (E := eCe) w1 m W.heap.size Z 115 e1 hsz)
  change Hid (Prw eCe w1.heap.size m W.heap.size [] e1 (w1.alloc (.cells (madeCells Z (m * 3)) 115))) at HM
  have HC := hide ((unhide HC).bel hb)
  have HF := hide ((unhide HF).bel hb)
  have HJ1 := hide ((unhide HJs) _ _ _ (unhide HJ1) (Fr.of hb []) (by simp))
  have hsz2 : (w1.alloc (.cells (madeCells Z (m * 3)) 115)).heap.size = w1.heap.size + 1 := by simp
  clear hb
  generalize w1.alloc (.cells (madeCells Z (m * 3)) 115) = w2 at *
  go_loopw [12] (fun v12 wr => ∃ (L : List _) (k2 : Nat) (e2 : Int), L.length ≤ m ∧ v12 = .int .i64 (L.length : Int) ∧ Prw eCe w1.heap.size m W.heap.size L e2 wr ∧ Cs c a len cap xs k2 e2 wr ∧ J wr ∧ Fr [c] W wr ∧ w1.heap.size < wr.heap.size ∧ (∀ s k' e', Rd (repR (rCe sat) (m - L.length)) xs k2 e2 s k' e' → Rd (rList (rCe sat)) xs k e (id (L ++ s)) k' e')) (fun v12 _ => m - (intOf v12).toNat)
  case atStart =>
    refine ⟨[], k1, e1, Nat.zero_le _, rfl, unhide HM, unhide HC, unhide HJ1, unhide HF, by omega, fun s k' e' hs => (unhide HD).bd ?_⟩
    rw [show ((m : Int)).toNat = m by omega]
    exact hs
  case round =>
    obtain ⟨L, k2, e2, hi, rfl, hP, hC, hJ, hF, hlg, hK⟩ := hrel
    clear HM HC HJ1 HF HD
    by_cases hlt : L.length < m
    · have hi' : (L.length : Int) < (m : Int) := by omega
      have HX := hide (unhide HOs k2 e2 _ hF.size hC hJ)
      have HP := hide hP
      have HF := hide hF
      have HK := hide hK
      clear hP hC hJ hF hK
      go_wp2_with fail
      refine (unhide HX).mono ?_
      rintro _ w3 ⟨y, cs, k3, e3, rfl, hD, hy, hC, hJ, hF2⟩
      have hsz3 := hF2.size
      have hsW := (unhide HF).size
      have h0 := hD.zero
      have HP2 := hide ((unhide HP).fr hF2 (by simp; omega) (by simp; omega) h0)
      have HF3 := hide ((unhide HF).trans hF2)
      have HKn := hide (Rd.more2 id (n := m - (L.length + 1)) (by rw [show m - (L.length + 1) + 1 = m - L.length by omega]; exact unhide HK) hD)
      have hcl2 : cs.length = 3 := hy.len
      have hone := hy.one
      have HY := hide hy
      have HC2 := hide hC
      have HJ2 := hide hJ
      clear hD hy hC hJ hF2 HX HP HF HK
      go_wp2_with ((refine wpList_storeA rfl 115 (.tmp 19) (.tmp 18) rfl rfl (g := w1.heap.size) (off := L.length * 3) (cs := cs) rfl rfl (by rw [hcl2]; exact szP115) (fun j hj => (unhide HP2).spare hlt (show j < 3 by omega)) hone ?_))
      have hFg := fr_cells w1.heap.size cs (L.length * 3) w3
      have hl1 : (L ++ [y]).length = L.length + 1 := by simp
      refine ⟨⟨L ++ [y], k3, e3, by omega, by rw [hl1]; go_num, (unhide HP2).put hlt hcl2 (fun q => q) (fun q => (unhide HY).rep q (fun b _ hb => ⟨by omega, by omega⟩)), (unhide HC2).fr hFg (by simp; omega) (fun p hp hl => by have := unhide HAl p hp hl; simp; omega), unhide HJs _ _ _ (unhide HJ2) hFg (by simp; omega), (unhide HF3).thenL hFg (by simp; omega), by have := hFg.size; omega, by rw [hl1]; exact unhide HKn⟩, by simp [intOf]; omega⟩
    · obtain rfl : m = L.length := by omega
      have HP := hide hP
      have HC := hide hC
      have HJ2 := hide hJ
      have HF := hide hF
      have HK := hide (Rd.fin id hK (.inl (by omega)))
      clear hP hC hF hJ hK
      go_wp2_with fail
      go_ret
      exact ⟨L, w1.heap.size, k2, e2, rfl, unhide HK, fun q => by subst q; exact (unhide HP).sls, unhide HC, unhide HJ2, unhide HF⟩
end
end Go.Proofs.YtjoonmpjcophnaaGreatDoor
namespace Go.Proofs.YtjoonmpjcophnaaGreatDoor
open Go.RowKit

section
variable {c : Nat} {a : Option Addr} {len cap k : Nat} {xs : List Int} {e : Int} {W : World} {sat : Bool} {q : Nat}
set_option maxHeartbeats 4000000 in
set_option maxRecDepth 100000 in
theorem clos117_any (h : Cs c a len cap xs k e W) (hm : Mk W) (hc : 4 ≤ c) (hB : Tab W q [.pointer (some ⟨c, 0, none⟩), .bool sat]) (hql : q < W.heap.size) (hqc : q ≠ c) :
    Calls Tryz.prog 117 #[.pointer (some ⟨q, 0, none⟩)] W fun r W' => ∃ y cs k' e', r = .returned (.agg cs.toArray) ∧ Rd (rCe sat) xs k e y k' e' ∧ eCe.rep' W' (fun b => W.heap.size ≤ b) e' y cs ∧ Cs c a len cap xs k' e' W' ∧ Mk W' ∧ Tab W' q [.pointer (some ⟨c, 0, none⟩), .bool sat] ∧ Fr [c] W W' := by
  have hcl := h.1.lt
  have HAl : ∀ p, a = some p → 0 < len → p.block < W.heap.size := h.2.1.lt
  have hb := below1 W (.cells #[.int .u8 0, .bool false, .slice none 0 0] 115)
  have HR : Hid (Room W.heap.size 3 (W.alloc (.cells #[.int .u8 0, .bool false, .slice none 0 0] 115)).drew) := hide ((room_cells (cs := [.int .u8 0, .bool false, .slice none 0 0]) W 3 (by decide)).drew)
  have H := hide ((h.bel hb).drew)
  have HM := hide ((hm.below hb).below ((Below.refl _ _).drew))
  have HF := hide ((Fr.of hb [c]).drew)
  have HB := hide ((hB.below hb).below ((Below.refl _ _).drew))
  have hs0 : W.heap.size < (W.alloc (.cells #[.int .u8 0, .bool false, .slice none 0 0] 115)).drew.heap.size := by simp [go_sem]
  clear h hm hB hb
  go_enter Tryz.func117, Tryz.ntmps117
  go_wp2_with fail
  refine wp_region_held_drew (S := fun w' => w'.cell? ⟨q, 0, none⟩ = some (.pointer (some ⟨c, 0, none⟩)) ∧ w'.cell? ⟨q, 1, none⟩ = some (.bool sat) ∧ Room W.heap.size 3 w') (by kernel_rfl) ?_ (fun hHeld => ?_)
  · (try dsimp only)
    exact ⟨(unhide HB) 0 _ rfl, (unhide HB) 1 _ rfl, unhide HR⟩
  refine lst0 7 (by kernel_rfl) ?_
  refine tkA 0 2 1 ?_
  refine tkA 1 3 3 ?_
  refine tkA 3 5 11 ?_
  refine rdA 2 15 (fun Kk hKk => ?_)
  go_simp
  refine (p_global (unhide H)).mono ?_
  rintro _ w1 ⟨y1, z1, k1, e1, rfl, hD, hC, hF⟩
  have HD1 := hide hD
  have HB := hide ((unhide HB).fr hF (by simp; omega))
  have HR := hide ((unhide HR).fr hF (by simp; omega))
  have H := hide hC
  have HM := hide ((unhide HM).fr hF (by simp; omega))
  have hs1 := hF.size
  have HF := hide ((unhide HF).trans hF)
  clear hC hD hF
  (try go_wp2_with fail)
  refine hKk.out _ _ ?_ (fun hHeld => ?_)
  · (try dsimp only)
    exact ⟨(unhide HB) 0 _ rfl, (unhide HB) 1 _ rfl, unhide HR⟩
  clear hKk Kk
  (try simp only [List.setIfInBounds_toArray, List.set_cons_zero, List.set_cons_succ])
  refine rdA 4 31 (fun Kk hKk => ?_)
  go_simp
  refine (p_expr (unhide H) (unhide HM) hc).mono ?_
  rintro _ w2 ⟨p2, q2, s2, T2, k2, e2, rfl, hD, hT, hC, hM, hF⟩
  have HD2 := hide hD
  have HT2 := hide (fun q => (hT q).mono (fun b _ hb => (show W.heap.size < b by omega)))
  have HB := hide ((unhide HB).fr hF (by simp; omega))
  have HR := hide ((unhide HR).fr hF (by simp; omega))
  have H := hide hC
  have HM := hide hM
  have hs2 := hF.size
  have HF := hide ((unhide HF).trans hF)
  clear hC hD hF hM hT
  (try go_wp2_with fail)
  refine hKk.out _ _ ?_ (fun hHeld => ?_)
  · (try dsimp only)
    exact ⟨(unhide HB) 0 _ rfl, (unhide HB) 1 _ rfl, unhide HR⟩
  clear hKk Kk
  (try simp only [List.setIfInBounds_toArray, List.set_cons_zero, List.set_cons_succ])
  refine tkA 5 7 63 ?_
  refine rdA 6 127 (fun Kk hKk => ?_)
  obtain ⟨⟨u0, r0⟩, g0⟩ := unhide HR 0 (by decide)
  obtain ⟨⟨u1, r1⟩, g1⟩ := unhide HR 1 (by decide)
  obtain ⟨⟨u2, r2⟩, g2⟩ := unhide HR 2 (by decide)
  have fZ : Fr [W.heap.size] w2 (((w2.setCell ⟨W.heap.size, 0, none⟩ (.int .u8 y1)).setCell ⟨W.heap.size, 1, none⟩ (.bool z1)).setCell ⟨W.heap.size, 2, none⟩ (.slice p2 q2 s2)) := (((Fr.refl _ _).place 0 _).place 1 _).place 2 _
  go_simp
  refine hKk.out _ _ ?_ (fun hHeld => ?_)
  · (try dsimp only)
    exact ⟨((unhide HB).fr fZ (by simp; omega)) 0 _ rfl, ((unhide HB).fr fZ (by simp; omega)) 1 _ rfl, (((unhide HR).set 0 _).set 1 _).set 2 _⟩
  clear hKk Kk
  (try simp only [List.setIfInBounds_toArray, List.set_cons_zero, List.set_cons_succ])
  refine wpAnyH_done (by kernel_rfl) ?_ _
  have HV : Hid (Vr W.heap.size 3 [.int .u8 y1, .bool z1, .slice p2 q2 s2] _) := hide (vr_fill3 w2 (unhide HR) (by omega))
  have j0 := (unhide HV).tab 0 _ rfl
  have j1 := (unhide HV).tab 1 _ rfl
  have j2 := (unhide HV).tab 2 _ rfl
  clear r0 g0
  clear r1 g1
  clear r2 g2
  have hsz := (show Fr [W.heap.size] w2 (((w2.setCell ⟨W.heap.size, 0, none⟩ (.int .u8 y1)).setCell ⟨W.heap.size, 1, none⟩ (.bool z1)).setCell ⟨W.heap.size, 2, none⟩ (.slice p2 q2 s2)) from fZ).size
  generalize (((w2.setCell ⟨W.heap.size, 0, none⟩ (.int .u8 y1)).setCell ⟨W.heap.size, 1, none⟩ (.bool z1)).setCell ⟨W.heap.size, 2, none⟩ (.slice p2 q2 s2)) = wz at *
  go_wp2_with fail
  refine bodyPost_ret (v := .agg #[.int .u8 y1, .bool z1, .slice p2 q2 s2]) (by simp [results, Tryz.results117, go_sem, j0, j1, j2]) rfl ?_
  refine ⟨(y1, z1, T2), [.int .u8 y1, .bool z1, .slice p2 q2 s2], _, _, rfl, rd_ce2 (unhide HD1) (unhide HD2), ⟨rfl, by simp [Value.oneCell'], fun q => ?_⟩, (unhide H).fr fZ (by simp; omega) (fun p hp hl => by have := HAl p hp hl; simp; omega), (unhide HM).fr fZ (by simp; omega), (unhide HB).fr fZ (by simp; omega), (unhide HF).thenL fZ (by simp)⟩
  exact ⟨_, _, rfl, rfl, ((unhide HT2 q).fr fZ (by simp)).mono (fun b _ hb => by omega)⟩
end
end Go.Proofs.YtjoonmpjcophnaaGreatDoor
namespace Go.Proofs.YtjoonmpjcophnaaGreatDoor
open Go.RowKit

section
variable {c : Nat} {a : Option Addr} {len cap k : Nat} {xs : List Int} {e : Int} {W : World} {sat : Bool}
set_option maxHeartbeats 4000000 in
set_option maxRecDepth 100000 in
theorem sub83_any (h : Cs c a len cap xs k e W) (hm : Mk W) (hc : 4 ≤ c) : Calls Tryz.prog 83 #[.agg #[.pointer (some ⟨c, 0, none⟩), .bool sat]] W fun r W' => ∃ L g k' e', r = .returned (.slice (some ⟨g, 0, none⟩) L.length L.length) ∧ Rd (rList (rCe sat)) xs k e L k' e' ∧ (e' = 0 → Sls eCe W' (fun b => W.heap.size ≤ b) L (.slice (some ⟨g, 0, none⟩) L.length L.length)) ∧ Cs c a len cap xs k' e' W' ∧ Mk W' ∧ Fr [c] W W' := by
  have hcl := h.1.lt
  have hb := below1 W (.cells #[.pointer (some ⟨c, 0, none⟩), .bool sat] 68)
  have HV := vr_new [.pointer (some ⟨c, 0, none⟩), .bool sat] 68 W
  have hq : W.heap.size < (W.alloc (.cells #[.pointer (some ⟨c, 0, none⟩), .bool sat] 68)).heap.size := by simp
  have hB : Tab (W.alloc (.cells #[.pointer (some ⟨c, 0, none⟩), .bool sat] 68)) W.heap.size [.pointer (some ⟨c, 0, none⟩), .bool sat] := HV.tab
  have HF0 := hide (Fr.of hb [c])
  have HX := hide (list116_any (q := W.heap.size) (h.bel hb) (J := fun w => Mk w ∧ Tab w W.heap.size [.pointer (some ⟨c, 0, none⟩), .bool sat] ∧ W.heap.size < w.heap.size) ⟨hm.below hb, hB, hq⟩ (fun w w' l hJ hf hl => ⟨hJ.1.fr hf (fun i hi => by rcases hl i hi with q | q <;> omega), hJ.2.1.fr hf (fun hi => by rcases hl _ hi with q | q <;> omega), Nat.lt_of_lt_of_le hJ.2.2 hf.size⟩)
    (fun k e w hw hC hJ => (clos117_any hC hJ.1 hc hJ.2.1 hJ.2.2 (by omega)).mono (by rintro _ w' ⟨y, cs, k1, e1, rfl, hD, hR, hC2, hM2, hB2, hF⟩; exact ⟨y, cs, k1, e1, rfl, hD, hR, hC2, ⟨hM2, hB2, Nat.lt_of_lt_of_le hJ.2.2 hF.size⟩, hF⟩)))
  clear h hm hb HV hB
  go_enter Tryz.func83, Tryz.ntmps83
  go_wp2_with fail
  refine (unhide HX).mono ?_
  rintro _ w1 ⟨L, g, k1, e1, rfl, hD, hS, hC, hJ, hF⟩
  have HD := hide hD
  have HS := hide hS
  have HC := hide hC
  have HM := hide hJ.1
  have HF := hide ((unhide HF0).trans hF)
  clear hD hS hC hJ hF
  go_wp2_with fail
  go_ret
  exact ⟨L, g, k1, e1, rfl, unhide HD, fun q => (unhide HS q).mono (fun b _ hb => by omega), unhide HC, unhide HM, unhide HF⟩
end
end Go.Proofs.YtjoonmpjcophnaaGreatDoor
namespace Go.Proofs.YtjoonmpjcophnaaGreatDoor
open Go.RowKit

theorem szP108 : (Tryz.prog.info? 108).map (·.size) = some 3 := by kernel_rfl
theorem mkP108 (m : Nat) (hm : m ≤ 4096) : ∃ Z : Array Value, ∀ w, (Instr.makeSlice 29 (.int .i64 (m : Int)) (.int .i64 (m : Int))).run Tryz.prog w = .ok (.slice (some ⟨w.heap.size, 0, none⟩) m m) (w.alloc (.cells (madeCells Z (m * 3)) 108)) :=
  ⟨_, fun w => make_runK 29 108 3 Tryz.underlying29 (i := (Tryz.prog.info? 108).getD default) (z := (((Tryz.prog.info? 108).getD default).zero).getD default) (by kernel_rfl) (by kernel_rfl) (by kernel_rfl) (by kernel_rfl) m hm w⟩
section
variable {c : Nat} {a : Option Addr} {len cap k : Nat} {xs : List Int} {e : Int} {W : World} {sat : Bool} {q : Nat}
set_option maxHeartbeats 4000000 in
set_option maxRecDepth 100000 in
theorem list119_any {J : World → Prop} (h : Cs c a len cap xs k e W) (hJ : J W) (HJ : ∀ w w' l, J w → Fr l w w' → (∀ i ∈ l, i = c ∨ W.heap.size ≤ i) → J w')
    (HO : ∀ k e w, W.heap.size ≤ w.heap.size → Cs c a len cap xs k e w → J w → Calls Tryz.prog 120 #[.pointer (some ⟨q, 0, none⟩)] w fun r w' => ∃ y cs k' e', r = .returned (.agg cs.toArray) ∧ Rd rEx xs k e y k' e' ∧ eEx.rep' w' (fun b => w.heap.size ≤ b) e' y cs ∧ Cs c a len cap xs k' e' w' ∧ J w' ∧ Fr [c] w w') :
    Calls Tryz.prog 119 #[.pointer (some ⟨c, 0, none⟩), .func (.func 120) #[] #[.pointer (some ⟨q, 0, none⟩)]] W fun r W' => ∃ L g k' e', r = .returned (.slice (some ⟨g, 0, none⟩) L.length L.length) ∧ Rd (rList rEx) xs k e L k' e' ∧ (e' = 0 → Sls eEx W' (fun b => W.heap.size ≤ b) L (.slice (some ⟨g, 0, none⟩) L.length L.length)) ∧ Cs c a len cap xs k' e' W' ∧ J W' ∧ Fr [c] W W' := by
  have HX := hide (p_count h)
  have hcl := h.1.lt
  have HAl : Hid (∀ p, a = some p → 0 < len → p.block < W.heap.size) := hide h.2.1.lt
  have HJ0 := hide hJ
  have HJs := hide HJ
  have HOs := hide HO
  clear h hJ HJ HO
  go_enter Tryz.func119, Tryz.ntmps119
  go_wp2_with fail
  refine (unhide HX).mono ?_
  rintro _ w1 ⟨m, k1, e1, rfl, hD, hm, hC, hF⟩
  have HD := hide hD
  have HC := hide hC
  have HF := hide hF
  have hsz := hF.size
  have HJ1 := hide ((unhide HJs) _ _ _ (unhide HJ0) hF (by simp))
  clear hD hC hF HX HJ0
  obtain ⟨Z, hmk⟩ := mkP108 m hm
  go_wp2_with fail
  clear hmk
  have hb := below1 w1 (.cells (madeCells Z (m * 3)) 108)
  have HM := hide (Prw.made (E := eEx) w1 m W.heap.size Z 108 e1 hsz)
  change Hid (Prw eEx w1.heap.size m W.heap.size [] e1 (w1.alloc (.cells (madeCells Z (m * 3)) 108))) at HM
  have HC := hide ((unhide HC).bel hb)
  have HF := hide ((unhide HF).bel hb)
  have HJ1 := hide ((unhide HJs) _ _ _ (unhide HJ1) (Fr.of hb []) (by simp))
  have hsz2 : (w1.alloc (.cells (madeCells Z (m * 3)) 108)).heap.size = w1.heap.size + 1 := by simp
  clear hb
  generalize w1.alloc (.cells (madeCells Z (m * 3)) 108) = w2 at *
  go_loopw [12] (fun v12 wr => ∃ (L : List _) (k2 : Nat) (e2 : Int), L.length ≤ m ∧ v12 = .int .i64 (L.length : Int) ∧ Prw eEx w1.heap.size m W.heap.size L e2 wr ∧ Cs c a len cap xs k2 e2 wr ∧ J wr ∧ Fr [c] W wr ∧ w1.heap.size < wr.heap.size ∧ (∀ s k' e', Rd (repR rEx (m - L.length)) xs k2 e2 s k' e' → Rd (rList rEx) xs k e (id (L ++ s)) k' e')) (fun v12 _ => m - (intOf v12).toNat)
  case atStart =>
    refine ⟨[], k1, e1, Nat.zero_le _, rfl, unhide HM, unhide HC, unhide HJ1, unhide HF, by omega, fun s k' e' hs => (unhide HD).bd ?_⟩
    rw [show ((m : Int)).toNat = m by omega]
    exact hs
  case round =>
    obtain ⟨L, k2, e2, hi, rfl, hP, hC, hJ, hF, hlg, hK⟩ := hrel
    clear HM HC HJ1 HF HD
    by_cases hlt : L.length < m
    · have hi' : (L.length : Int) < (m : Int) := by omega
      have HX := hide (unhide HOs k2 e2 _ hF.size hC hJ)
      have HP := hide hP
      have HF := hide hF
      have HK := hide hK
      clear hP hC hJ hF hK
      go_wp2_with fail
      refine (unhide HX).mono ?_
      rintro _ w3 ⟨y, cs, k3, e3, rfl, hD, hy, hC, hJ, hF2⟩
      have hsz3 := hF2.size
      have hsW := (unhide HF).size
      have h0 := hD.zero
      have HP2 := hide ((unhide HP).fr hF2 (by simp; omega) (by simp; omega) h0)
      have HF3 := hide ((unhide HF).trans hF2)
      have HKn := hide (Rd.more2 id (n := m - (L.length + 1)) (by rw [show m - (L.length + 1) + 1 = m - L.length by omega]; exact unhide HK) hD)
      have hcl2 : cs.length = 3 := hy.len
      have hone := hy.one
      have HY := hide hy
      have HC2 := hide hC
      have HJ2 := hide hJ
      clear hD hy hC hJ hF2 HX HP HF HK
      go_wp2_with ((refine wpList_storeA rfl 108 (.tmp 19) (.tmp 18) rfl rfl (g := w1.heap.size) (off := L.length * 3) (cs := cs) rfl rfl (by rw [hcl2]; exact szP108) (fun j hj => (unhide HP2).spare hlt (show j < 3 by omega)) hone ?_))
      have hFg := fr_cells w1.heap.size cs (L.length * 3) w3
      have hl1 : (L ++ [y]).length = L.length + 1 := by simp
      refine ⟨⟨L ++ [y], k3, e3, by omega, by rw [hl1]; go_num, (unhide HP2).put hlt hcl2 (fun q => q) (fun q => (unhide HY).rep q (fun b _ hb => ⟨by omega, by omega⟩)), (unhide HC2).fr hFg (by simp; omega) (fun p hp hl => by have := unhide HAl p hp hl; simp; omega), unhide HJs _ _ _ (unhide HJ2) hFg (by simp; omega), (unhide HF3).thenL hFg (by simp; omega), by have := hFg.size; omega, by rw [hl1]; exact unhide HKn⟩, by simp [intOf]; omega⟩
    · obtain rfl : m = L.length := by omega
      have HP := hide hP
      have HC := hide hC
      have HJ2 := hide hJ
      have HF := hide hF
      have HK := hide (Rd.fin id hK (.inl (by omega)))
      clear hP hC hF hJ hK
      go_wp2_with fail
      go_ret
      exact ⟨L, w1.heap.size, k2, e2, rfl, unhide HK, fun q => by subst q; exact (unhide HP).sls, unhide HC, unhide HJ2, unhide HF⟩
end
end Go.Proofs.YtjoonmpjcophnaaGreatDoor
namespace Go.Proofs.YtjoonmpjcophnaaGreatDoor
open Go.RowKit

section
variable {c : Nat} {a : Option Addr} {len cap k : Nat} {xs : List Int} {e : Int} {W : World} {sat : Bool} {q : Nat}
set_option maxHeartbeats 4000000 in
set_option maxRecDepth 100000 in
theorem clos120_any (h : Cs c a len cap xs k e W) (hm : Mk W) (hc : 4 ≤ c) (hB : Tab W q [.pointer (some ⟨c, 0, none⟩), .bool sat]) (hql : q < W.heap.size) (hqc : q ≠ c) :
    Calls Tryz.prog 120 #[.pointer (some ⟨q, 0, none⟩)] W fun r W' => ∃ y cs k' e', r = .returned (.agg cs.toArray) ∧ Rd rEx xs k e y k' e' ∧ eEx.rep' W' (fun b => W.heap.size ≤ b) e' y cs ∧ Cs c a len cap xs k' e' W' ∧ Mk W' ∧ Tab W' q [.pointer (some ⟨c, 0, none⟩), .bool sat] ∧ Fr [c] W W' := by
  have hcl := h.1.lt
  have HAl : ∀ p, a = some p → 0 < len → p.block < W.heap.size := h.2.1.lt
  have hb := below1 W (.cells #[.string ByteArray.empty, .int .i64 0, .int .u32 0] 108)
  have HR : Hid (Room W.heap.size 3 (W.alloc (.cells #[.string ByteArray.empty, .int .i64 0, .int .u32 0] 108)).drew) := hide ((room_cells (cs := [.string ByteArray.empty, .int .i64 0, .int .u32 0]) W 3 (by decide)).drew)
  have H := hide ((h.bel hb).drew)
  have HM := hide ((hm.below hb).below ((Below.refl _ _).drew))
  have HF := hide ((Fr.of hb [c]).drew)
  have HB := hide ((hB.below hb).below ((Below.refl _ _).drew))
  have hs0 : W.heap.size < (W.alloc (.cells #[.string ByteArray.empty, .int .i64 0, .int .u32 0] 108)).drew.heap.size := by simp [go_sem]
  clear h hm hB hb
  go_enter Tryz.func120, Tryz.ntmps120
  go_wp2_with fail
  refine wp_region_held_drew (S := fun w' => w'.cell? ⟨q, 0, none⟩ = some (.pointer (some ⟨c, 0, none⟩)) ∧ w'.cell? ⟨q, 1, none⟩ = some (.bool sat) ∧ Room W.heap.size 3 w') (by kernel_rfl) ?_ (fun hHeld => ?_)
  · (try dsimp only)
    exact ⟨(unhide HB) 0 _ rfl, (unhide HB) 1 _ rfl, unhide HR⟩
  refine lst0 10 (by kernel_rfl) ?_
  refine tkA 0 2 1 ?_
  refine tkA 1 3 3 ?_
  refine tkA 3 5 11 ?_
  refine tkA 5 7 43 ?_
  refine tkA 6 8 107 ?_
  refine rdA 2 111 (fun Kk hKk => ?_)
  go_simp
  refine (p_name (unhide H)).mono ?_
  rintro _ w1 ⟨y1, k1, e1, rfl, hD, hC, hF⟩
  have HD1 := hide hD
  have HB := hide ((unhide HB).fr hF (by simp; omega))
  have HR := hide ((unhide HR).fr hF (by simp; omega))
  have H := hide hC
  have HM := hide ((unhide HM).fr hF (by simp; omega))
  have hs1 := hF.size
  have HF := hide ((unhide HF).trans hF)
  clear hC hD hF
  (try go_wp2_with fail)
  refine hKk.out _ _ ?_ (fun hHeld => ?_)
  · (try dsimp only)
    exact ⟨(unhide HB) 0 _ rfl, (unhide HB) 1 _ rfl, unhide HR⟩
  clear hKk Kk
  (try simp only [List.setIfInBounds_toArray, List.set_cons_zero, List.set_cons_succ])
  refine rdA 4 127 (fun Kk hKk => ?_)
  go_simp
  refine (p_kind (unhide H)).mono ?_
  rintro _ w2 ⟨y2, k2, e2, rfl, hD, hlt2, -, hC, hF⟩
  have HD2 := hide hD
  have HB := hide ((unhide HB).fr hF (by simp; omega))
  have HR := hide ((unhide HR).fr hF (by simp; omega))
  have H := hide hC
  have HM := hide ((unhide HM).fr hF (by simp; omega))
  have hs2 := hF.size
  have HF := hide ((unhide HF).trans hF)
  clear hC hD hF
  (try go_wp2_with fail)
  refine hKk.out _ _ ?_ (fun hHeld => ?_)
  · (try dsimp only)
    exact ⟨(unhide HB) 0 _ rfl, (unhide HB) 1 _ rfl, unhide HR⟩
  clear hKk Kk
  (try simp only [List.setIfInBounds_toArray, List.set_cons_zero, List.set_cons_succ])
  refine rdA 7 255 (fun Kk hKk => ?_)
  go_simp
  refine (p_u32 (unhide H)).mono ?_
  rintro _ w3 ⟨y3, k3, e3, rfl, hD, hlt3, hC, hF⟩
  have HD3 := hide hD
  have HB := hide ((unhide HB).fr hF (by simp; omega))
  have HR := hide ((unhide HR).fr hF (by simp; omega))
  have H := hide hC
  have HM := hide ((unhide HM).fr hF (by simp; omega))
  have hs3 := hF.size
  have HF := hide ((unhide HF).trans hF)
  clear hC hD hF
  (try go_wp2_with fail)
  refine hKk.out _ _ ?_ (fun hHeld => ?_)
  · (try dsimp only)
    exact ⟨(unhide HB) 0 _ rfl, (unhide HB) 1 _ rfl, unhide HR⟩
  clear hKk Kk
  (try simp only [List.setIfInBounds_toArray, List.set_cons_zero, List.set_cons_succ])
  refine tkA 8 10 511 ?_
  refine rdA 9 1023 (fun Kk hKk => ?_)
  obtain ⟨⟨u0, r0⟩, g0⟩ := unhide HR 0 (by decide)
  obtain ⟨⟨u1, r1⟩, g1⟩ := unhide HR 1 (by decide)
  obtain ⟨⟨u2, r2⟩, g2⟩ := unhide HR 2 (by decide)
  have fZ : Fr [W.heap.size] w3 (((w3.setCell ⟨W.heap.size, 0, none⟩ (.string (strOfNums y1))).setCell ⟨W.heap.size, 1, none⟩ (.int .i64 y2)).setCell ⟨W.heap.size, 2, none⟩ (.int .u32 y3)) := (((Fr.refl _ _).place 0 _).place 1 _).place 2 _
  go_simp
  refine hKk.out _ _ ?_ (fun hHeld => ?_)
  · (try dsimp only)
    exact ⟨((unhide HB).fr fZ (by simp; omega)) 0 _ rfl, ((unhide HB).fr fZ (by simp; omega)) 1 _ rfl, (((unhide HR).set 0 _).set 1 _).set 2 _⟩
  clear hKk Kk
  (try simp only [List.setIfInBounds_toArray, List.set_cons_zero, List.set_cons_succ])
  refine wpAnyH_done (by kernel_rfl) ?_ _
  have HV : Hid (Vr W.heap.size 3 [.string (strOfNums y1), .int .i64 y2, .int .u32 y3] _) := hide (vr_fill3 w3 (unhide HR) (by omega))
  have j0 := (unhide HV).tab 0 _ rfl
  have j1 := (unhide HV).tab 1 _ rfl
  have j2 := (unhide HV).tab 2 _ rfl
  clear r0 g0
  clear r1 g1
  clear r2 g2
  have hsz := (show Fr [W.heap.size] w3 (((w3.setCell ⟨W.heap.size, 0, none⟩ (.string (strOfNums y1))).setCell ⟨W.heap.size, 1, none⟩ (.int .i64 y2)).setCell ⟨W.heap.size, 2, none⟩ (.int .u32 y3)) from fZ).size
  generalize (((w3.setCell ⟨W.heap.size, 0, none⟩ (.string (strOfNums y1))).setCell ⟨W.heap.size, 1, none⟩ (.int .i64 y2)).setCell ⟨W.heap.size, 2, none⟩ (.int .u32 y3)) = wz at *
  go_wp2_with fail
  refine bodyPost_ret (v := .agg #[.string (strOfNums y1), .int .i64 y2, .int .u32 y3]) (by simp [results, Tryz.results120, go_sem, j0, j1, j2]) rfl ?_
  refine ⟨(y1, y2, y3), [.string (strOfNums y1), .int .i64 y2, .int .u32 y3], _, _, rfl, rd_ex2 (unhide HD1) (unhide HD2) (unhide HD3), ⟨rfl, by simp [Value.oneCell'], fun q => ?_⟩, (unhide H).fr fZ (by simp; omega) (fun p hp hl => by have := HAl p hp hl; simp; omega), (unhide HM).fr fZ (by simp; omega), (unhide HB).fr fZ (by simp; omega), (unhide HF).thenL fZ (by simp)⟩
  exact rfl
end
end Go.Proofs.YtjoonmpjcophnaaGreatDoor
namespace Go.Proofs.YtjoonmpjcophnaaGreatDoor
open Go.RowKit

section
variable {c : Nat} {a : Option Addr} {len cap k : Nat} {xs : List Int} {e : Int} {W : World} {sat : Bool}
set_option maxHeartbeats 4000000 in
set_option maxRecDepth 100000 in
theorem sub84_any (h : Cs c a len cap xs k e W) (hm : Mk W) (hc : 4 ≤ c) : Calls Tryz.prog 84 #[.agg #[.pointer (some ⟨c, 0, none⟩), .bool sat]] W fun r W' => ∃ L g k' e', r = .returned (.slice (some ⟨g, 0, none⟩) L.length L.length) ∧ Rd (rList rEx) xs k e L k' e' ∧ (e' = 0 → Sls eEx W' (fun b => W.heap.size ≤ b) L (.slice (some ⟨g, 0, none⟩) L.length L.length)) ∧ Cs c a len cap xs k' e' W' ∧ Mk W' ∧ Fr [c] W W' := by
  have hcl := h.1.lt
  have hb := below1 W (.cells #[.pointer (some ⟨c, 0, none⟩), .bool sat] 68)
  have HV := vr_new [.pointer (some ⟨c, 0, none⟩), .bool sat] 68 W
  have hq : W.heap.size < (W.alloc (.cells #[.pointer (some ⟨c, 0, none⟩), .bool sat] 68)).heap.size := by simp
  have hB : Tab (W.alloc (.cells #[.pointer (some ⟨c, 0, none⟩), .bool sat] 68)) W.heap.size [.pointer (some ⟨c, 0, none⟩), .bool sat] := HV.tab
  have HF0 := hide (Fr.of hb [c])
  have HX := hide (list119_any (q := W.heap.size) (h.bel hb) (J := fun w => Mk w ∧ Tab w W.heap.size [.pointer (some ⟨c, 0, none⟩), .bool sat] ∧ W.heap.size < w.heap.size) ⟨hm.below hb, hB, hq⟩ (fun w w' l hJ hf hl => ⟨hJ.1.fr hf (fun i hi => by rcases hl i hi with q | q <;> omega), hJ.2.1.fr hf (fun hi => by rcases hl _ hi with q | q <;> omega), Nat.lt_of_lt_of_le hJ.2.2 hf.size⟩)
    (fun k e w hw hC hJ => (clos120_any hC hJ.1 hc hJ.2.1 hJ.2.2 (by omega)).mono (by rintro _ w' ⟨y, cs, k1, e1, rfl, hD, hR, hC2, hM2, hB2, hF⟩; exact ⟨y, cs, k1, e1, rfl, hD, hR, hC2, ⟨hM2, hB2, Nat.lt_of_lt_of_le hJ.2.2 hF.size⟩, hF⟩)))
  clear h hm hb HV hB
  go_enter Tryz.func84, Tryz.ntmps84
  go_wp2_with fail
  refine (unhide HX).mono ?_
  rintro _ w1 ⟨L, g, k1, e1, rfl, hD, hS, hC, hJ, hF⟩
  have HD := hide hD
  have HS := hide hS
  have HC := hide hC
  have HM := hide hJ.1
  have HF := hide ((unhide HF0).trans hF)
  clear hD hS hC hJ hF
  go_wp2_with fail
  go_ret
  exact ⟨L, g, k1, e1, rfl, unhide HD, fun q => (unhide HS q).mono (fun b _ hb => by omega), unhide HC, unhide HM, unhide HF⟩
end
end Go.Proofs.YtjoonmpjcophnaaGreatDoor
namespace Go.Proofs.YtjoonmpjcophnaaGreatDoor
theorem done_more {k n : Nat} (e5 : Int) (hk : k < n) : (if e5 = 0 then (105 : Int) else e5) = doneE 0 e5 k n := by
  by_cases q : e5 = 0 <;> simp [doneE, q, hk]
theorem done_less {k n : Nat} (e5 : Int) (hk : ¬ k < n) : e5 = doneE 0 e5 k n := by
  by_cases q : e5 = 0 <;> simp [doneE, q, hk]
theorem szP68 : (Tryz.prog.info? 68).map (·.size) = some 2 := by kernel_rfl
end Go.Proofs.YtjoonmpjcophnaaGreatDoor
