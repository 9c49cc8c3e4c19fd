/- MdK, PdB, PdC, PpS, PdD, PdE, PdF, PdG. -/
import Derived.Test.YtjoonmpjcophnaaGreatDoorUa38
import Derived.Test.YtjoonmpjcophnaaGreatDoorUa39
import Derived.Test.YtjoonmpjcophnaaGreatDoorUa40
import Derived.Test.YtjoonmpjcophnaaGreatDoorUa42
namespace Go.Proofs.YtjoonmpjcophnaaGreatDoor
open Go.RowKit

section
variable {c sb : Nat} {a : Option Addr} {len cap k : Nat} {xs : List Int} {e : Int} {W : World} {sat : Bool}
theorem rd_rest {k1 k3 : Nat} {e1 e3 : Int} {yy : List Int} (hx : xs.length = len) (h : Rd (rP (len - k1)) xs k1 e1 yy k3 e3) (s : St) : Rd (fun l : List Int => (s, l.length, (0 : Int))) xs k1 e1 s k3 e3 := by
  have hl : (xs.drop k1).length = len - k1 := by rw [List.length_drop, hx]
  refine ⟨h.dead, fun he => ?_, fun _ _ => rfl⟩
  obtain ⟨h1, h2⟩ := h.live he
  rw [rP_ok (by rw [hl]; exact Nat.le_refl _)] at h1 h2
  exact ⟨by rw [hl]; exact h1, h2⟩
theorem rd_sec0 {k1 k3 : Nat} {e1 e3 : Int} {y : List Int} {s : St} (h1 : Rd rName xs k e y k1 e1) (h2 : Rd (fun l : List Int => (s, l.length, (0 : Int))) xs k1 e1 s k3 e3) : Rd (rSec sat 0 s) xs k e s k3 e3 := by
  have := Rd.bd (z := s) (g := fun _ => fun l : List Int => (s, l.length, (0 : Int))) h1 h2
  simpa [rSec] using this
end
end Go.Proofs.YtjoonmpjcophnaaGreatDoor
namespace Go.Proofs.YtjoonmpjcophnaaGreatDoor
open Go.RowKit

section
variable {c db : Nat} {a : Option Addr} {len cap k : Nat} {xs : List Int} {e : Int} {W : World} {sat : Bool} {vs : List Value}
set_option maxHeartbeats 4000000 in
set_option maxRecDepth 100000 in
theorem sec_1 (h : Cs c a len cap xs k e W) (hm : Mk W) (hc : 4 ≤ c) (hd4 : 4 ≤ db) (hv : Vr db 12 vs W) (hdc : db ≠ c) (hda : ∀ p, a = some p → 0 < len → p.block ≠ db) :
    Calls Tryz.prog 50 #[.agg #[.pointer (some ⟨c, 0, none⟩), .bool sat], .int .u8 1, .pointer (some ⟨db, 0, none⟩)] W fun r W' => ∃ L v k' e', r = .returned (.tuple #[]) ∧ Rd (rList rFunc) xs k e L k' e' ∧ Vr db 12 (vs.set 0 v) W' ∧ (e' = 0 → Sls eTy W' (fun b => W.heap.size ≤ b) L v) ∧ v.oneCell' = true ∧ Cs c a len cap xs k' e' W' ∧ Mk W' ∧ Fr [c, db] W W' := by
  have hcl := h.1.lt
  have hdl := hv.lt
  have hb := below1 W (.cells #[.pointer (some ⟨c, 0, none⟩), .bool sat] 68)
  have HX := hide (sub78_any (sat := sat) (h.bel hb) (hm.below hb) hc)
  have HF0 := hide (Fr.of hb [c])
  have HV := hide (hv.fr (Fr.of hb []) (by simp))
  have q0 : (W.alloc (.cells #[.pointer (some ⟨c, 0, none⟩), .bool sat] 68)).cell? ⟨W.heap.size, 0, none⟩ = some (.pointer (some ⟨c, 0, none⟩)) := by simp [go_sem]
  have q1 : (W.alloc (.cells #[.pointer (some ⟨c, 0, none⟩), .bool sat] 68)).cell? ⟨W.heap.size, 1, none⟩ = some (.bool sat) := by simp [go_sem]
  clear h hm hb hv
  go_enter Tryz.func50, Tryz.ntmps50
  go_wp2_with fail
  clear q0 q1
  refine (unhide HX).mono ?_
  rintro _ w1 ⟨L, g, k1, e1, rfl, hD, hS, hC, hM, hF⟩
  have HV := hide ((unhide HV).fr hF (by simp; omega))
  have HF := hide ((unhide HF0).trans hF)
  have HD := hide hD
  have HS := hide hS
  have HC := hide hC
  have HM := hide hM
  clear hD hS hC hM hF
  obtain ⟨⟨u, hu⟩, hz⟩ := (unhide HV).room 0 (by decide)
  go_wp2_with fail
  have fA : Fr [db] w1 (w1.setCell ⟨db, 0, none⟩ (.slice (some ⟨g, 0, none⟩) L.length L.length)) := (Fr.refl _ _).place _ _
  refine bodyPost_end (results_none rfl _ _ _) rfl ?_
  exact ⟨L, .slice (some ⟨g, 0, none⟩) L.length L.length, k1, e1, rfl, unhide HD, (unhide HV).set 0 _, fun q => ((unhide HS q).mono (P' := fun b => W.heap.size ≤ b ∧ b ≠ db) (fun b _ hb => by simp at hb; omega)).fr2 fA (by simp) |>.mono (fun b _ hb => hb.1), rfl, (unhide HC).fr fA (by simp; omega) (fun p hp hl => by have := hda p hp hl; simpa using this), (unhide HM).fr fA (by simp; omega), ((unhide HF).mono (by simp)).thenL fA (by simp)⟩
set_option maxHeartbeats 4000000 in
set_option maxRecDepth 100000 in
theorem sec_2 (h : Cs c a len cap xs k e W) (hm : Mk W) (hc : 4 ≤ c) (hd4 : 4 ≤ db) (hv : Vr db 12 vs W) (hdc : db ≠ c) (hda : ∀ p, a = some p → 0 < len → p.block ≠ db) :
    Calls Tryz.prog 50 #[.agg #[.pointer (some ⟨c, 0, none⟩), .bool sat], .int .u8 2, .pointer (some ⟨db, 0, none⟩)] W fun r W' => ∃ L v k' e', r = .returned (.tuple #[]) ∧ Rd (rList rImp) xs k e L k' e' ∧ Vr db 12 (vs.set 1 v) W' ∧ (e' = 0 → Sls eIm W' (fun b => W.heap.size ≤ b) L v) ∧ v.oneCell' = true ∧ Cs c a len cap xs k' e' W' ∧ Mk W' ∧ Fr [c, db] W W' := by
  have hcl := h.1.lt
  have hdl := hv.lt
  have hb := below1 W (.cells #[.pointer (some ⟨c, 0, none⟩), .bool sat] 68)
  have HX := hide (sub79_any (sat := sat) (h.bel hb) (hm.below hb) hc)
  have HF0 := hide (Fr.of hb [c])
  have HV := hide (hv.fr (Fr.of hb []) (by simp))
  have q0 : (W.alloc (.cells #[.pointer (some ⟨c, 0, none⟩), .bool sat] 68)).cell? ⟨W.heap.size, 0, none⟩ = some (.pointer (some ⟨c, 0, none⟩)) := by simp [go_sem]
  have q1 : (W.alloc (.cells #[.pointer (some ⟨c, 0, none⟩), .bool sat] 68)).cell? ⟨W.heap.size, 1, none⟩ = some (.bool sat) := by simp [go_sem]
  clear h hm hb hv
  go_enter Tryz.func50, Tryz.ntmps50
  go_wp2_with fail
  clear q0 q1
  refine (unhide HX).mono ?_
  rintro _ w1 ⟨L, g, k1, e1, rfl, hD, hS, hC, hM, hF⟩
  have HV := hide ((unhide HV).fr hF (by simp; omega))
  have HF := hide ((unhide HF0).trans hF)
  have HD := hide hD
  have HS := hide hS
  have HC := hide hC
  have HM := hide hM
  clear hD hS hC hM hF
  obtain ⟨⟨u, hu⟩, hz⟩ := (unhide HV).room 1 (by decide)
  go_wp2_with fail
  have fA : Fr [db] w1 (w1.setCell ⟨db, 1, none⟩ (.slice (some ⟨g, 0, none⟩) L.length L.length)) := (Fr.refl _ _).place _ _
  refine bodyPost_end (results_none rfl _ _ _) rfl ?_
  exact ⟨L, .slice (some ⟨g, 0, none⟩) L.length L.length, k1, e1, rfl, unhide HD, (unhide HV).set 1 _, fun q => ((unhide HS q).mono (P' := fun b => W.heap.size ≤ b ∧ b ≠ db) (fun b _ hb => by simp at hb; omega)).fr2 fA (by simp) |>.mono (fun b _ hb => hb.1), rfl, (unhide HC).fr fA (by simp; omega) (fun p hp hl => by have := hda p hp hl; simpa using this), (unhide HM).fr fA (by simp; omega), ((unhide HF).mono (by simp)).thenL fA (by simp)⟩
set_option maxHeartbeats 4000000 in
set_option maxRecDepth 100000 in
theorem sec_3 (h : Cs c a len cap xs k e W) (hm : Mk W) (hc : 4 ≤ c) (hd4 : 4 ≤ db) (hv : Vr db 12 vs W) (hdc : db ≠ c) (hda : ∀ p, a = some p → 0 < len → p.block ≠ db) :
    Calls Tryz.prog 50 #[.agg #[.pointer (some ⟨c, 0, none⟩), .bool sat], .int .u8 3, .pointer (some ⟨db, 0, none⟩)] W fun r W' => ∃ L v k' e', r = .returned (.tuple #[]) ∧ Rd (rList (rU 32)) xs k e L k' e' ∧ Vr db 12 (vs.set 11 v) W' ∧ Sls eU W' (fun b => W.heap.size ≤ b) L v ∧ L.length ≤ 4096 ∧ Cs c a len cap xs k' e' W' ∧ Mk W' ∧ Fr [c, db] W W' := by
  have hcl := h.1.lt
  have hdl := hv.lt
  have hb := below1 W (.cells #[.pointer (some ⟨c, 0, none⟩), .bool sat] 68)
  have HX := hide (sub80_any (sat := sat) (h.bel hb) (hm.below hb) hc)
  have HF0 := hide (Fr.of hb [c])
  have HV := hide (hv.fr (Fr.of hb []) (by simp))
  have q0 : (W.alloc (.cells #[.pointer (some ⟨c, 0, none⟩), .bool sat] 68)).cell? ⟨W.heap.size, 0, none⟩ = some (.pointer (some ⟨c, 0, none⟩)) := by simp [go_sem]
  have q1 : (W.alloc (.cells #[.pointer (some ⟨c, 0, none⟩), .bool sat] 68)).cell? ⟨W.heap.size, 1, none⟩ = some (.bool sat) := by simp [go_sem]
  clear h hm hb hv
  go_enter Tryz.func50, Tryz.ntmps50
  go_wp2_with fail
  clear q0 q1
  refine (unhide HX).mono ?_
  rintro _ w1 ⟨L, g, k1, e1, rfl, hD, hS, hlen, hC, hM, hF⟩
  have HV := hide ((unhide HV).fr hF (by simp; omega))
  have HF := hide ((unhide HF0).trans hF)
  have HD := hide hD
  have HS := hide hS
  have HC := hide hC
  have HM := hide hM
  clear hD hS hC hM hF
  obtain ⟨⟨u, hu⟩, hz⟩ := (unhide HV).room 11 (by decide)
  go_wp2_with fail
  have fA : Fr [db] w1 (w1.setCell ⟨db, 11, none⟩ (.slice (some ⟨g, 0, none⟩) L.length L.length)) := (Fr.refl _ _).place _ _
  refine bodyPost_end (results_none rfl _ _ _) rfl ?_
  exact ⟨L, .slice (some ⟨g, 0, none⟩) L.length L.length, k1, e1, rfl, unhide HD, (unhide HV).set 11 _, ((unhide HS).mono (P' := fun b => W.heap.size ≤ b ∧ b ≠ db) (fun b _ hb => by simp at hb; omega)).fr2 fA (by simp) |>.mono (fun b _ hb => hb.1), hlen, (unhide HC).fr fA (by simp; omega) (fun p hp hl => by have := hda p hp hl; simpa using this), (unhide HM).fr fA (by simp; omega), ((unhide HF).mono (by simp)).thenL fA (by simp)⟩
set_option maxHeartbeats 4000000 in
set_option maxRecDepth 100000 in
theorem sec_4 (h : Cs c a len cap xs k e W) (hm : Mk W) (hc : 4 ≤ c) (hd4 : 4 ≤ db) (hv : Vr db 12 vs W) (hdc : db ≠ c) (hda : ∀ p, a = some p → 0 < len → p.block ≠ db) :
    Calls Tryz.prog 50 #[.agg #[.pointer (some ⟨c, 0, none⟩), .bool sat], .int .u8 4, .pointer (some ⟨db, 0, none⟩)] W fun r W' => ∃ L v k' e', r = .returned (.tuple #[]) ∧ Rd (rList rTable) xs k e L k' e' ∧ Vr db 12 (vs.set 3 v) W' ∧ (e' = 0 → Sls eLim W' (fun b => W.heap.size ≤ b) L v) ∧ v.oneCell' = true ∧ Cs c a len cap xs k' e' W' ∧ Mk W' ∧ Fr [c, db] W W' := by
  have hcl := h.1.lt
  have hdl := hv.lt
  have hb := below1 W (.cells #[.pointer (some ⟨c, 0, none⟩), .bool sat] 68)
  have HX := hide (sub81_any (sat := sat) (h.bel hb) (hm.below hb) hc)
  have HF0 := hide (Fr.of hb [c])
  have HV := hide (hv.fr (Fr.of hb []) (by simp))
  have q0 : (W.alloc (.cells #[.pointer (some ⟨c, 0, none⟩), .bool sat] 68)).cell? ⟨W.heap.size, 0, none⟩ = some (.pointer (some ⟨c, 0, none⟩)) := by simp [go_sem]
  have q1 : (W.alloc (.cells #[.pointer (some ⟨c, 0, none⟩), .bool sat] 68)).cell? ⟨W.heap.size, 1, none⟩ = some (.bool sat) := by simp [go_sem]
  clear h hm hb hv
  go_enter Tryz.func50, Tryz.ntmps50
  go_wp2_with fail
  clear q0 q1
  refine (unhide HX).mono ?_
  rintro _ w1 ⟨L, g, k1, e1, rfl, hD, hS, hC, hM, hF⟩
  have HV := hide ((unhide HV).fr hF (by simp; omega))
  have HF := hide ((unhide HF0).trans hF)
  have HD := hide hD
  have HS := hide hS
  have HC := hide hC
  have HM := hide hM
  clear hD hS hC hM hF
  obtain ⟨⟨u, hu⟩, hz⟩ := (unhide HV).room 3 (by decide)
  go_wp2_with fail
  have fA : Fr [db] w1 (w1.setCell ⟨db, 3, none⟩ (.slice (some ⟨g, 0, none⟩) L.length L.length)) := (Fr.refl _ _).place _ _
  refine bodyPost_end (results_none rfl _ _ _) rfl ?_
  exact ⟨L, .slice (some ⟨g, 0, none⟩) L.length L.length, k1, e1, rfl, unhide HD, (unhide HV).set 3 _, fun q => ((unhide HS q).mono (P' := fun b => W.heap.size ≤ b ∧ b ≠ db) (fun b _ hb => by simp at hb; omega)).fr2 fA (by simp) |>.mono (fun b _ hb => hb.1), rfl, (unhide HC).fr fA (by simp; omega) (fun p hp hl => by have := hda p hp hl; simpa using this), (unhide HM).fr fA (by simp; omega), ((unhide HF).mono (by simp)).thenL fA (by simp)⟩
set_option maxHeartbeats 4000000 in
set_option maxRecDepth 100000 in
theorem sec_5 (h : Cs c a len cap xs k e W) (hm : Mk W) (hc : 4 ≤ c) (hd4 : 4 ≤ db) (hv : Vr db 12 vs W) (hdc : db ≠ c) (hda : ∀ p, a = some p → 0 < len → p.block ≠ db) :
    Calls Tryz.prog 50 #[.agg #[.pointer (some ⟨c, 0, none⟩), .bool sat], .int .u8 5, .pointer (some ⟨db, 0, none⟩)] W fun r W' => ∃ L v k' e', r = .returned (.tuple #[]) ∧ Rd (rList rLimits) xs k e L k' e' ∧ Vr db 12 (vs.set 4 v) W' ∧ (e' = 0 → Sls eLim W' (fun b => W.heap.size ≤ b) L v) ∧ v.oneCell' = true ∧ Cs c a len cap xs k' e' W' ∧ Mk W' ∧ Fr [c, db] W W' := by
  have hcl := h.1.lt
  have hdl := hv.lt
  have hb := below1 W (.cells #[.pointer (some ⟨c, 0, none⟩), .bool sat] 68)
  have HX := hide (sub82_any (sat := sat) (h.bel hb) (hm.below hb) hc)
  have HF0 := hide (Fr.of hb [c])
  have HV := hide (hv.fr (Fr.of hb []) (by simp))
  have q0 : (W.alloc (.cells #[.pointer (some ⟨c, 0, none⟩), .bool sat] 68)).cell? ⟨W.heap.size, 0, none⟩ = some (.pointer (some ⟨c, 0, none⟩)) := by simp [go_sem]
  have q1 : (W.alloc (.cells #[.pointer (some ⟨c, 0, none⟩), .bool sat] 68)).cell? ⟨W.heap.size, 1, none⟩ = some (.bool sat) := by simp [go_sem]
  clear h hm hb hv
  go_enter Tryz.func50, Tryz.ntmps50
  go_wp2_with fail
  clear q0 q1
  refine (unhide HX).mono ?_
  rintro _ w1 ⟨L, g, k1, e1, rfl, hD, hS, hC, hM, hF⟩
  have HV := hide ((unhide HV).fr hF (by simp; omega))
  have HF := hide ((unhide HF0).trans hF)
  have HD := hide hD
  have HS := hide hS
  have HC := hide hC
  have HM := hide hM
  clear hD hS hC hM hF
  obtain ⟨⟨u, hu⟩, hz⟩ := (unhide HV).room 4 (by decide)
  go_wp2_with fail
  have fA : Fr [db] w1 (w1.setCell ⟨db, 4, none⟩ (.slice (some ⟨g, 0, none⟩) L.length L.length)) := (Fr.refl _ _).place _ _
  refine bodyPost_end (results_none rfl _ _ _) rfl ?_
  exact ⟨L, .slice (some ⟨g, 0, none⟩) L.length L.length, k1, e1, rfl, unhide HD, (unhide HV).set 4 _, fun q => ((unhide HS q).mono (P' := fun b => W.heap.size ≤ b ∧ b ≠ db) (fun b _ hb => by simp at hb; omega)).fr2 fA (by simp) |>.mono (fun b _ hb => hb.1), rfl, (unhide HC).fr fA (by simp; omega) (fun p hp hl => by have := hda p hp hl; simpa using this), (unhide HM).fr fA (by simp; omega), ((unhide HF).mono (by simp)).thenL fA (by simp)⟩
set_option maxHeartbeats 4000000 in
set_option maxRecDepth 100000 in
theorem sec_6 (h : Cs c a len cap xs k e W) (hm : Mk W) (hc : 4 ≤ c) (hd4 : 4 ≤ db) (hv : Vr db 12 vs W) (hdc : db ≠ c) (hda : ∀ p, a = some p → 0 < len → p.block ≠ db) :
    Calls Tryz.prog 50 #[.agg #[.pointer (some ⟨c, 0, none⟩), .bool sat], .int .u8 6, .pointer (some ⟨db, 0, none⟩)] W fun r W' => ∃ L v k' e', r = .returned (.tuple #[]) ∧ Rd (rList (rCe sat)) xs k e L k' e' ∧ Vr db 12 (vs.set 5 v) W' ∧ (e' = 0 → Sls eCe W' (fun b => W.heap.size ≤ b) L v) ∧ v.oneCell' = true ∧ Cs c a len cap xs k' e' W' ∧ Mk W' ∧ Fr [c, db] W W' := by
  have hcl := h.1.lt
  have hdl := hv.lt
  have hb := below1 W (.cells #[.pointer (some ⟨c, 0, none⟩), .bool sat] 68)
  have HX := hide (sub83_any (sat := sat) (h.bel hb) (hm.below hb) hc)
  have HF0 := hide (Fr.of hb [c])
  have HV := hide (hv.fr (Fr.of hb []) (by simp))
  have q0 : (W.alloc (.cells #[.pointer (some ⟨c, 0, none⟩), .bool sat] 68)).cell? ⟨W.heap.size, 0, none⟩ = some (.pointer (some ⟨c, 0, none⟩)) := by simp [go_sem]
  have q1 : (W.alloc (.cells #[.pointer (some ⟨c, 0, none⟩), .bool sat] 68)).cell? ⟨W.heap.size, 1, none⟩ = some (.bool sat) := by simp [go_sem]
  clear h hm hb hv
  go_enter Tryz.func50, Tryz.ntmps50
  go_wp2_with fail
  clear q0 q1
  refine (unhide HX).mono ?_
  rintro _ w1 ⟨L, g, k1, e1, rfl, hD, hS, hC, hM, hF⟩
  have HV := hide ((unhide HV).fr hF (by simp; omega))
  have HF := hide ((unhide HF0).trans hF)
  have HD := hide hD
  have HS := hide hS
  have HC := hide hC
  have HM := hide hM
  clear hD hS hC hM hF
  obtain ⟨⟨u, hu⟩, hz⟩ := (unhide HV).room 5 (by decide)
  go_wp2_with fail
  have fA : Fr [db] w1 (w1.setCell ⟨db, 5, none⟩ (.slice (some ⟨g, 0, none⟩) L.length L.length)) := (Fr.refl _ _).place _ _
  refine bodyPost_end (results_none rfl _ _ _) rfl ?_
  exact ⟨L, .slice (some ⟨g, 0, none⟩) L.length L.length, k1, e1, rfl, unhide HD, (unhide HV).set 5 _, fun q => ((unhide HS q).mono (P' := fun b => W.heap.size ≤ b ∧ b ≠ db) (fun b _ hb => by simp at hb; omega)).fr2 fA (by simp) |>.mono (fun b _ hb => hb.1), rfl, (unhide HC).fr fA (by simp; omega) (fun p hp hl => by have := hda p hp hl; simpa using this), (unhide HM).fr fA (by simp; omega), ((unhide HF).mono (by simp)).thenL fA (by simp)⟩
set_option maxHeartbeats 4000000 in
set_option maxRecDepth 100000 in
theorem sec_7 (h : Cs c a len cap xs k e W) (hm : Mk W) (hc : 4 ≤ c) (hd4 : 4 ≤ db) (hv : Vr db 12 vs W) (hdc : db ≠ c) (hda : ∀ p, a = some p → 0 < len → p.block ≠ db) :
    Calls Tryz.prog 50 #[.agg #[.pointer (some ⟨c, 0, none⟩), .bool sat], .int .u8 7, .pointer (some ⟨db, 0, none⟩)] W fun r W' => ∃ L v k' e', r = .returned (.tuple #[]) ∧ Rd (rList rEx) xs k e L k' e' ∧ Vr db 12 (vs.set 6 v) W' ∧ (e' = 0 → Sls eEx W' (fun b => W.heap.size ≤ b) L v) ∧ v.oneCell' = true ∧ Cs c a len cap xs k' e' W' ∧ Mk W' ∧ Fr [c, db] W W' := by
  have hcl := h.1.lt
  have hdl := hv.lt
  have hb := below1 W (.cells #[.pointer (some ⟨c, 0, none⟩), .bool sat] 68)
  have HX := hide (sub84_any (sat := sat) (h.bel hb) (hm.below hb) hc)
  have HF0 := hide (Fr.of hb [c])
  have HV := hide (hv.fr (Fr.of hb []) (by simp))
  have q0 : (W.alloc (.cells #[.pointer (some ⟨c, 0, none⟩), .bool sat] 68)).cell? ⟨W.heap.size, 0, none⟩ = some (.pointer (some ⟨c, 0, none⟩)) := by simp [go_sem]
  have q1 : (W.alloc (.cells #[.pointer (some ⟨c, 0, none⟩), .bool sat] 68)).cell? ⟨W.heap.size, 1, none⟩ = some (.bool sat) := by simp [go_sem]
  clear h hm hb hv
  go_enter Tryz.func50, Tryz.ntmps50
  go_wp2_with fail
  clear q0 q1
  refine (unhide HX).mono ?_
  rintro _ w1 ⟨L, g, k1, e1, rfl, hD, hS, hC, hM, hF⟩
  have HV := hide ((unhide HV).fr hF (by simp; omega))
  have HF := hide ((unhide HF0).trans hF)
  have HD := hide hD
  have HS := hide hS
  have HC := hide hC
  have HM := hide hM
  clear hD hS hC hM hF
  obtain ⟨⟨u, hu⟩, hz⟩ := (unhide HV).room 6 (by decide)
  go_wp2_with fail
  have fA : Fr [db] w1 (w1.setCell ⟨db, 6, none⟩ (.slice (some ⟨g, 0, none⟩) L.length L.length)) := (Fr.refl _ _).place _ _
  refine bodyPost_end (results_none rfl _ _ _) rfl ?_
  exact ⟨L, .slice (some ⟨g, 0, none⟩) L.length L.length, k1, e1, rfl, unhide HD, (unhide HV).set 6 _, fun q => ((unhide HS q).mono (P' := fun b => W.heap.size ≤ b ∧ b ≠ db) (fun b _ hb => by simp at hb; omega)).fr2 fA (by simp) |>.mono (fun b _ hb => hb.1), rfl, (unhide HC).fr fA (by simp; omega) (fun p hp hl => by have := hda p hp hl; simpa using this), (unhide HM).fr fA (by simp; omega), ((unhide HF).mono (by simp)).thenL fA (by simp)⟩
set_option maxHeartbeats 4000000 in
set_option maxRecDepth 100000 in
theorem sec_9 (h : Cs c a len cap xs k e W) (hm : Mk W) (hc : 4 ≤ c) (hd4 : 4 ≤ db) (hv : Vr db 12 vs W) (hdc : db ≠ c) (hda : ∀ p, a = some p → 0 < len → p.block ≠ db) :
    Calls Tryz.prog 50 #[.agg #[.pointer (some ⟨c, 0, none⟩), .bool sat], .int .u8 9, .pointer (some ⟨db, 0, none⟩)] W fun r W' => ∃ L v k' e', r = .returned (.tuple #[]) ∧ Rd (rList (rEm sat)) xs k e L k' e' ∧ Vr db 12 (vs.set 9 v) W' ∧ (e' = 0 → Sls eEm W' (fun b => W.heap.size ≤ b) L v) ∧ v.oneCell' = true ∧ Cs c a len cap xs k' e' W' ∧ Mk W' ∧ Fr [c, db] W W' := by
  have hcl := h.1.lt
  have hdl := hv.lt
  have hb := below1 W (.cells #[.pointer (some ⟨c, 0, none⟩), .bool sat] 68)
  have HX := hide (sub85_any (sat := sat) (h.bel hb) (hm.below hb) hc)
  have HF0 := hide (Fr.of hb [c])
  have HV := hide (hv.fr (Fr.of hb []) (by simp))
  have q0 : (W.alloc (.cells #[.pointer (some ⟨c, 0, none⟩), .bool sat] 68)).cell? ⟨W.heap.size, 0, none⟩ = some (.pointer (some ⟨c, 0, none⟩)) := by simp [go_sem]
  have q1 : (W.alloc (.cells #[.pointer (some ⟨c, 0, none⟩), .bool sat] 68)).cell? ⟨W.heap.size, 1, none⟩ = some (.bool sat) := by simp [go_sem]
  clear h hm hb hv
  go_enter Tryz.func50, Tryz.ntmps50
  go_wp2_with fail
  clear q0 q1
  refine (unhide HX).mono ?_
  rintro _ w1 ⟨L, g, k1, e1, rfl, hD, hS, hC, hM, hF⟩
  have HV := hide ((unhide HV).fr hF (by simp; omega))
  have HF := hide ((unhide HF0).trans hF)
  have HD := hide hD
  have HS := hide hS
  have HC := hide hC
  have HM := hide hM
  clear hD hS hC hM hF
  obtain ⟨⟨u, hu⟩, hz⟩ := (unhide HV).room 9 (by decide)
  go_wp2_with fail
  have fA : Fr [db] w1 (w1.setCell ⟨db, 9, none⟩ (.slice (some ⟨g, 0, none⟩) L.length L.length)) := (Fr.refl _ _).place _ _
  refine bodyPost_end (results_none rfl _ _ _) rfl ?_
  exact ⟨L, .slice (some ⟨g, 0, none⟩) L.length L.length, k1, e1, rfl, unhide HD, (unhide HV).set 9 _, fun q => ((unhide HS q).mono (P' := fun b => W.heap.size ≤ b ∧ b ≠ db) (fun b _ hb => by simp at hb; omega)).fr2 fA (by simp) |>.mono (fun b _ hb => hb.1), rfl, (unhide HC).fr fA (by simp; omega) (fun p hp hl => by have := hda p hp hl; simpa using this), (unhide HM).fr fA (by simp; omega), ((unhide HF).mono (by simp)).thenL fA (by simp)⟩
set_option maxHeartbeats 4000000 in
set_option maxRecDepth 100000 in
theorem sec_10 (h : Cs c a len cap xs k e W) (hm : Mk W) (hc : 4 ≤ c) (hd4 : 4 ≤ db) (hv : Vr db 12 vs W) (hdc : db ≠ c) (hda : ∀ p, a = some p → 0 < len → p.block ≠ db) :
    Calls Tryz.prog 50 #[.agg #[.pointer (some ⟨c, 0, none⟩), .bool sat], .int .u8 10, .pointer (some ⟨db, 0, none⟩)] W fun r W' => ∃ L g k' e', r = .returned (.tuple #[]) ∧ Rd (rList (rPc (0, [], .nil) (rFn sat))) xs k e L k' e' ∧ Vr db 12 (vs.set 2 (.slice (some ⟨g, 0, none⟩) L.length L.length)) W' ∧ Prw eFn g L.length W.heap.size L e' W' ∧ g < W'.heap.size ∧ Cs c a len cap xs k' e' W' ∧ Mk W' ∧ Fr [c, db] W W' := by
  have hcl := h.1.lt
  have hdl := hv.lt
  have hb := below1 W (.cells #[.pointer (some ⟨c, 0, none⟩), .bool sat] 68)
  have HX := hide (sub86_any (sat := sat) (h.bel hb) (hm.below hb) hc)
  have HF0 := hide (Fr.of hb [c])
  have HV := hide (hv.fr (Fr.of hb []) (by simp))
  have q0 : (W.alloc (.cells #[.pointer (some ⟨c, 0, none⟩), .bool sat] 68)).cell? ⟨W.heap.size, 0, none⟩ = some (.pointer (some ⟨c, 0, none⟩)) := by simp [go_sem]
  have q1 : (W.alloc (.cells #[.pointer (some ⟨c, 0, none⟩), .bool sat] 68)).cell? ⟨W.heap.size, 1, none⟩ = some (.bool sat) := by simp [go_sem]
  clear h hm hb hv
  go_enter Tryz.func50, Tryz.ntmps50
  go_wp2_with fail
  clear q0 q1
  refine (unhide HX).mono ?_
  rintro _ w1 ⟨L, g, k1, e1, rfl, hD, hS, hP, hg, hC, hM, hF⟩
  have HV := hide ((unhide HV).fr hF (by simp; omega))
  have HF := hide ((unhide HF0).trans hF)
  have HD := hide hD
  have HS := hide (hP.lower (B' := W.heap.size) (by simp))
  have HC := hide hC
  have HM := hide hM
  clear hD hS hP hC hM hF
  obtain ⟨⟨u, hu⟩, hz⟩ := (unhide HV).room 2 (by decide)
  go_wp2_with fail
  have fA : Fr [db] w1 (w1.setCell ⟨db, 2, none⟩ (.slice (some ⟨g, 0, none⟩) L.length L.length)) := (Fr.refl _ _).place _ _
  refine bodyPost_end (results_none rfl _ _ _) rfl ?_
  exact ⟨L, g, k1, e1, rfl, unhide HD, (unhide HV).set 2 _, (unhide HS).fr fA (by have := (unhide HS).lo; simp; omega) (by simp; omega) (fun q => q), Nat.lt_of_lt_of_le hg fA.size, (unhide HC).fr fA (by simp; omega) (fun p hp hl => by have := hda p hp hl; simpa using this), (unhide HM).fr fA (by simp; omega), ((unhide HF).mono (by simp)).thenL fA (by simp)⟩
set_option maxHeartbeats 4000000 in
set_option maxRecDepth 100000 in
theorem sec_11 (h : Cs c a len cap xs k e W) (hm : Mk W) (hc : 4 ≤ c) (hd4 : 4 ≤ db) (hv : Vr db 12 vs W) (hdc : db ≠ c) (hda : ∀ p, a = some p → 0 < len → p.block ≠ db) :
    Calls Tryz.prog 50 #[.agg #[.pointer (some ⟨c, 0, none⟩), .bool sat], .int .u8 11, .pointer (some ⟨db, 0, none⟩)] W fun r W' => ∃ L v k' e', r = .returned (.tuple #[]) ∧ Rd (rList (rDa sat)) xs k e L k' e' ∧ Vr db 12 (vs.set 10 v) W' ∧ (e' = 0 → Sls eDa W' (fun b => W.heap.size ≤ b) L v) ∧ v.oneCell' = true ∧ Cs c a len cap xs k' e' W' ∧ Mk W' ∧ Fr [c, db] W W' := by
  have hcl := h.1.lt
  have hdl := hv.lt
  have hb := below1 W (.cells #[.pointer (some ⟨c, 0, none⟩), .bool sat] 68)
  have HX := hide (sub87_any (sat := sat) (h.bel hb) (hm.below hb) hc)
  have HF0 := hide (Fr.of hb [c])
  have HV := hide (hv.fr (Fr.of hb []) (by simp))
  have q0 : (W.alloc (.cells #[.pointer (some ⟨c, 0, none⟩), .bool sat] 68)).cell? ⟨W.heap.size, 0, none⟩ = some (.pointer (some ⟨c, 0, none⟩)) := by simp [go_sem]
  have q1 : (W.alloc (.cells #[.pointer (some ⟨c, 0, none⟩), .bool sat] 68)).cell? ⟨W.heap.size, 1, none⟩ = some (.bool sat) := by simp [go_sem]
  clear h hm hb hv
  go_enter Tryz.func50, Tryz.ntmps50
  go_wp2_with fail
  clear q0 q1
  refine (unhide HX).mono ?_
  rintro _ w1 ⟨L, g, k1, e1, rfl, hD, hS, hC, hM, hF⟩
  have HV := hide ((unhide HV).fr hF (by simp; omega))
  have HF := hide ((unhide HF0).trans hF)
  have HD := hide hD
  have HS := hide hS
  have HC := hide hC
  have HM := hide hM
  clear hD hS hC hM hF
  obtain ⟨⟨u, hu⟩, hz⟩ := (unhide HV).room 10 (by decide)
  go_wp2_with fail
  have fA : Fr [db] w1 (w1.setCell ⟨db, 10, none⟩ (.slice (some ⟨g, 0, none⟩) L.length L.length)) := (Fr.refl _ _).place _ _
  refine bodyPost_end (results_none rfl _ _ _) rfl ?_
  exact ⟨L, .slice (some ⟨g, 0, none⟩) L.length L.length, k1, e1, rfl, unhide HD, (unhide HV).set 10 _, fun q => ((unhide HS q).mono (P' := fun b => W.heap.size ≤ b ∧ b ≠ db) (fun b _ hb => by simp at hb; omega)).fr2 fA (by simp) |>.mono (fun b _ hb => hb.1), rfl, (unhide HC).fr fA (by simp; omega) (fun p hp hl => by have := hda p hp hl; simpa using this), (unhide HM).fr fA (by simp; omega), ((unhide HF).mono (by simp)).thenL fA (by simp)⟩
set_option maxHeartbeats 4000000 in
set_option maxRecDepth 100000 in
theorem sec_8 (h : Cs c a len cap xs k e W) (hm : Mk W) (hd4 : 4 ≤ db) (hc : 4 ≤ c) (hv : Vr db 12 vs W) (hdc : db ≠ c) (hda : ∀ p, a = some p → 0 < len → p.block ≠ db) :
    Calls Tryz.prog 50 #[.agg #[.pointer (some ⟨c, 0, none⟩), .bool sat], .int .u8 8, .pointer (some ⟨db, 0, none⟩)] W fun r W' => ∃ y k' e', r = .returned (.tuple #[]) ∧ Rd (rU 32) xs k e y k' e' ∧ Vr db 12 ((vs.set 7 (.bool true)).set 8 (.int .u32 y)) W' ∧ Cs c a len cap xs k' e' W' ∧ Mk W' ∧ Fr [c, db] W W' := by
  have hcl := h.1.lt
  have hdl := hv.lt
  have hb := below1 W (.cells #[.pointer (some ⟨c, 0, none⟩), .bool sat] 68)
  have HX := hide (p_u32 (h.bel hb))
  have HF0 := hide (Fr.of hb [c])
  have HM0 := hide (hm.below hb)
  have HV := hide (hv.fr (Fr.of hb []) (by simp))
  have q0 : (W.alloc (.cells #[.pointer (some ⟨c, 0, none⟩), .bool sat] 68)).cell? ⟨W.heap.size, 0, none⟩ = some (.pointer (some ⟨c, 0, none⟩)) := by simp [go_sem]
  clear h hm hb hv
  go_enter Tryz.func50, Tryz.ntmps50
  go_wp2_with fail
  clear q0
  refine (unhide HX).mono ?_
  rintro _ w1 ⟨y, k1, e1, rfl, hD, -, hC, hF⟩
  have HV := hide ((unhide HV).fr hF (by simp; omega))
  have HM := hide ((unhide HM0).fr hF (by simp; omega))
  have HF := hide ((unhide HF0).trans hF)
  have HD := hide hD
  have HC := hide hC
  clear hD hC hF
  obtain ⟨⟨u7, hu7⟩, hz7⟩ := (unhide HV).room 7 (by decide)
  obtain ⟨⟨u8, hu8⟩, hz8⟩ := (unhide HV).room 8 (by decide)
  go_wp2_with fail
  have fA : Fr [db] w1 ((w1.setCell ⟨db, 7, none⟩ (.bool true)).setCell ⟨db, 8, none⟩ (.int .u32 y)) := ((Fr.refl _ _).place _ _).place _ _
  refine bodyPost_end (results_none rfl _ _ _) rfl ?_
  exact ⟨y, k1, e1, rfl, unhide HD, ((unhide HV).set 7 _).set 8 _, (unhide HC).fr fA (by simp; omega) (fun p hp hl => by have := hda p hp hl; simpa using this), (unhide HM).fr fA (by simp; omega), ((unhide HF).mono (by simp)).thenL fA (by simp)⟩
set_option maxHeartbeats 4000000 in
set_option maxRecDepth 100000 in
theorem custom_any (h : Cs c a len cap xs k e W) : Calls Tryz.prog 77 #[.agg #[.pointer (some ⟨c, 0, none⟩), .bool sat]] W fun r W' => ∃ k' e', r = .returned (.tuple #[]) ∧ (∀ s, Rd (rSec sat 0 s) xs k e s k' e') ∧ Cs c a len cap xs k' e' W' ∧ Fr [c] W W' := by
  have hcl := h.1.lt
  have hx := h.2.1.1
  have hlen := h.2.2.2.2.2
  have hb := below1 W (.cells #[.pointer (some ⟨c, 0, none⟩), .bool sat] 68)
  have HX := hide (p_name (h.bel hb))
  have HF0 := hide (Fr.of hb [c])
  have HB := hide ((vr_new [.pointer (some ⟨c, 0, none⟩), .bool sat] 68 W).tab)
  change Hid (Tab (W.alloc (.cells #[.pointer (some ⟨c, 0, none⟩), .bool sat] 68)) W.heap.size [.pointer (some ⟨c, 0, none⟩), .bool sat]) at HB
  clear h hb
  have q0 := (unhide HB) 0 _ rfl
  go_enter Tryz.func77, Tryz.ntmps77
  go_wp2_with fail
  clear q0
  refine (unhide HX).mono ?_
  rintro _ w1 ⟨y, k1, e1, rfl, hD, hC, hF⟩
  have HD := hide hD
  have HC := hide hC
  have HB := hide ((unhide HB).fr hF (by simp; omega))
  have HF := hide ((unhide HF0).trans hF)
  have hk := hC.2.2.2.2.1
  clear hD hC hF
  go_wp2_with fail
  refine wp_region_held_drew (S := fun w' => w'.cell? ⟨W.heap.size, 0, none⟩ = some (.pointer (some ⟨c, 0, none⟩))) (by kernel_rfl) ?_ (fun hHeld => ?_)
  · (try dsimp only)
    exact (unhide HB) 0 _ rfl
  have hdr : Fr [] w1 w1.drew := (Fr.refl [] w1).drew
  have HC := hide ((unhide HC).fr hdr (by simp) (by simp))
  have HB := hide ((unhide HB).fr hdr (by simp))
  have HF := hide ((unhide HF).thenL hdr (by simp))
  clear hdr
  generalize w1.drew = wv at *
  refine lst0 7 (by kernel_rfl) ?_
  refine tkA 0 5 1 ?_
  refine tkA 1 6 3 ?_
  refine tkA 2 7 7 ?_
  refine tkA 3 8 15 ?_
  refine rdA 4 31 (fun Kk hKk => ?_)
  go_simp
  refine (left2_any (unhide HC)).mono ?_
  rintro _ w2 ⟨rfl, hF⟩
  have HC := hide ((unhide HC).fr hF (by simp) (by simp))
  have HB := hide ((unhide HB).fr hF (by simp))
  have HF := hide ((unhide HF).thenL hF (by simp))
  clear hF
  have hlk : (len : Int) - (k1 : Int) = ((len - k1 : Nat) : Int) := by omega
  rw [hlk]
  have hw : IntKind.u32.wrap ((len - k1 : Nat) : Int) = ((len - k1 : Nat) : Int) := u32_id (by omega) (by omega)
  generalize hn : len - k1 = n at *
  (try go_wp2_with fail)
  refine hKk.out _ _ ?_ (fun hHeld => ?_)
  · (try dsimp only)
    exact (unhide HB) 0 _ rfl
  clear hKk Kk
  (try simp only [List.setIfInBounds_toArray, List.set_cons_zero, List.set_cons_succ])
  refine tkA 5 10 63 ?_
  refine rdA 6 127 (fun Kk hKk => ?_)
  go_simp
  refine (p_take2 (n := n) (unhide HC) (by omega)).mono ?_
  rintro _ w3 ⟨x1, x2, x3, yy, k3, e3, rfl, hD3, -, -, -, hC, hF⟩
  have HD3 := hide hD3
  have HC := hide hC
  have HB := hide ((unhide HB).fr hF (by simp; omega))
  have HF := hide ((unhide HF).trans hF)
  clear hC hF hD3
  (try go_wp2_with fail)
  refine hKk.out _ _ ?_ (fun hHeld => ?_)
  · (try dsimp only)
    exact (unhide HB) 0 _ rfl
  clear hKk Kk
  (try simp only [List.setIfInBounds_toArray, List.set_cons_zero, List.set_cons_succ])
  refine wpAnyH_done (by kernel_rfl) ?_ _
  go_wp2_with fail
  refine bodyPost_end (results_none rfl _ _ _) rfl ?_
  exact ⟨k3, e3, rfl, fun s => rd_sec0 (unhide HD) (rd_rest hx (by rw [hn]; exact unhide HD3) s), unhide HC, unhide HF⟩
set_option maxHeartbeats 4000000 in
set_option maxRecDepth 100000 in
theorem sec_0 (h : Cs c a len cap xs k e W) (hm : Mk W) (hc : 4 ≤ c) (hv : Vr db 12 vs W) (hdc : db ≠ c) :
    Calls Tryz.prog 50 #[.agg #[.pointer (some ⟨c, 0, none⟩), .bool sat], .int .u8 0, .pointer (some ⟨db, 0, none⟩)] W fun r W' => ∃ k' e', r = .returned (.tuple #[]) ∧ (∀ s, Rd (rSec sat 0 s) xs k e s k' e') ∧ Vr db 12 vs W' ∧ Cs c a len cap xs k' e' W' ∧ Mk W' ∧ Fr [c] W W' := by
  have hcl := h.1.lt
  have hdl := hv.lt
  have hb := below1 W (.cells #[.pointer (some ⟨c, 0, none⟩), .bool sat] 68)
  have HX := hide (custom_any (sat := sat) (h.bel hb))
  have HF0 := hide (Fr.of hb [c])
  have HM0 := hide (hm.below hb)
  have HV := hide (hv.fr (Fr.of hb []) (by simp))
  have q0 : (W.alloc (.cells #[.pointer (some ⟨c, 0, none⟩), .bool sat] 68)).cell? ⟨W.heap.size, 0, none⟩ = some (.pointer (some ⟨c, 0, none⟩)) := by simp [go_sem]
  have q1 : (W.alloc (.cells #[.pointer (some ⟨c, 0, none⟩), .bool sat] 68)).cell? ⟨W.heap.size, 1, none⟩ = some (.bool sat) := by simp [go_sem]
  clear h hm hb hv
  go_enter Tryz.func50, Tryz.ntmps50
  go_wp2_with fail
  clear q0 q1
  refine (unhide HX).mono ?_
  rintro _ w1 ⟨k1, e1, rfl, hD, hC, hF⟩
  have HV := hide ((unhide HV).fr hF (by simp; omega))
  have HM := hide ((unhide HM0).fr hF (by simp; omega))
  have HF := hide ((unhide HF0).trans hF)
  have HD := hide hD
  have HC := hide hC
  clear hD hC hF
  go_wp2_with fail
  refine bodyPost_end (results_none rfl _ _ _) rfl ?_
  exact ⟨k1, e1, rfl, unhide HD, unhide HV, unhide HC, unhide HM, unhide HF⟩
end
end Go.Proofs.YtjoonmpjcophnaaGreatDoor
namespace Go.Proofs.YtjoonmpjcophnaaGreatDoor
open Go.RowKit

/-- The functions' row: it can be written; what it leads to lies elsewhere. -/
structure Fx (w : World) (P : Nat → Prop) (g : Nat) (e : Int) (L : List Fn) (v : Value) : Prop where
  ex : (v = .slice none 0 0 ∧ L = []) ∨ (v = .slice (some ⟨g, 0, none⟩) L.length L.length ∧ P g ∧ g < w.heap.size ∧ Room g (L.length * 3) w ∧ (e = 0 → ∃ cs, Els eFn w (fun b => P b ∧ b ≠ g) L cs ∧ ∀ j u, cs[j]? = some u → w.cell? ⟨g, j, none⟩ = some u))
theorem Fx.fr {w w' : World} {P : Nat → Prop} {g : Nat} {e e' : Int} {L : List Fn} {v : Value} {l : List Nat} (h : Fx w P g e L v) (hf : Fr l w w') (hl : ∀ i ∈ l, ¬ P i) (he : e' = 0 → e = 0) : Fx w' P g e' L v := by
  rcases h.ex with h | ⟨h1, h2, h3, h4, h5⟩
  · exact ⟨.inl h⟩
  · have hn : g ∉ l := fun hm => hl g hm h2
    refine ⟨.inr ⟨h1, h2, Nat.lt_of_lt_of_le h3 hf.size, h4.fr hf hn, fun q => ?_⟩⟩
    obtain ⟨cs, a, b⟩ := h5 (he q)
    exact ⟨cs, a.fr hf (fun i hi hp => hl i hi hp.1), fun j u hj => hf.keep (b j u hj) hn⟩
theorem Fx.mono {w : World} {P P' : Nat → Prop} {g : Nat} {e : Int} {L : List Fn} {v : Value} (h : Fx w P g e L v) (k : ∀ b, b < w.heap.size → P b → P' b) : Fx w P' g e L v := by
  rcases h.ex with h | ⟨h1, h2, h3, h4, h5⟩
  · exact ⟨.inl h⟩
  · refine ⟨.inr ⟨h1, k g h3 h2, h3, h4, fun q => ?_⟩⟩
    obtain ⟨cs, a, b⟩ := h5 q
    exact ⟨cs, a.mono (fun b hb hp => ⟨k b hb hp.1, hp.2⟩), b⟩
/-- A draft. -/
structure DS (w : World) (P : Nat → Prop) (g : Nat) (e : Int) (s : St) (vs : List Value) : Prop where
  len : vs.length = 12
  one : ∀ u ∈ vs, u.oneCell' = true
  glt : g < w.heap.size
  fns : ∃ L v, vs[2]? = some v ∧ Fx w P g e L v ∧ (e = 0 → L = s.1.funcs)
  fty : ∃ T v, vs[11]? = some v ∧ Sls eU w (fun b => P b ∧ b ≠ g) T v ∧ T.length ≤ 4096 ∧ (e = 0 → T = s.2)
  rest : e = 0 → Dr w (fun b => P b ∧ b ≠ g) ({ s.1 with funcs := [] }, s.2) (vs.set 2 (.slice none 0 0))
theorem DS.fr {w w' : World} {P : Nat → Prop} {g : Nat} {e e' : Int} {s : St} {vs : List Value} {l : List Nat} (h : DS w P g e s vs) (hf : Fr l w w') (hl : ∀ i ∈ l, ¬ P i) (he : e' = 0 → e = 0) : DS w' P g e' s vs := by
  obtain ⟨L, v, a, b, c⟩ := h.fns
  obtain ⟨T, u, a', b', d', c'⟩ := h.fty
  exact ⟨h.len, h.one, Nat.lt_of_lt_of_le h.glt hf.size, ⟨L, v, a, b.fr hf hl he, fun q => c (he q)⟩, ⟨T, u, a', b'.fr2 hf (fun i hi hp => hl i hi hp.1), d', fun q => c' (he q)⟩, fun q => (h.rest (he q)).fr hf (fun i hi hp => hl i hi hp.1)⟩
theorem DS.mono {w : World} {P P' : Nat → Prop} {g : Nat} {e : Int} {s : St} {vs : List Value} (h : DS w P g e s vs) (k : ∀ b, b < w.heap.size → P b → P' b) : DS w P' g e s vs := by
  obtain ⟨L, v, a, b, c⟩ := h.fns
  obtain ⟨T, u, a', b', d', c'⟩ := h.fty
  exact ⟨h.len, h.one, h.glt, ⟨L, v, a, b.mono k, c⟩, ⟨T, u, a', b'.mono (fun b hb hp => ⟨k b hb hp.1, hp.2⟩), d', c'⟩, fun q => (h.rest q).mono (fun b hb hp => ⟨k b hb hp.1, hp.2⟩)⟩
theorem DS.bad {w : World} {P : Nat → Prop} {g : Nat} {e e' : Int} {s s' : St} {vs : List Value} (h : DS w P g e s vs) (he : e' ≠ 0) : DS w P g e' s' vs := by
  obtain ⟨L, v, a, b, -⟩ := h.fns
  obtain ⟨T, u, a', b', d', -⟩ := h.fty
  refine ⟨h.len, h.one, h.glt, ⟨L, v, a, ⟨?_⟩, fun q => absurd q he⟩, ⟨T, u, a', b', d', fun q => absurd q he⟩, fun q => absurd q he⟩
  rcases b.ex with h | ⟨h1, h2, h3, h4, _⟩
  · exact .inl h
  · exact .inr ⟨h1, h2, h3, h4, fun q => absurd q he⟩
theorem ds0 (w : World) (P : Nat → Prop) {g : Nat} (hg : g < w.heap.size) : DS w P g 0 (mo0, []) nil12 :=
  ⟨rfl, by simp [nil12, Value.oneCell'], hg, ⟨[], _, rfl, ⟨.inl ⟨rfl, rfl⟩⟩, fun _ => rfl⟩, ⟨[], _, rfl, sls_nil _ _, Nat.zero_le _, fun _ => rfl⟩, fun _ => dr0 w _⟩
theorem one_set {vs : List Value} {j : Nat} {v : Value} (h : ∀ u ∈ vs, u.oneCell' = true) (hv : v.oneCell' = true) : ∀ u ∈ vs.set j v, u.oneCell' = true := fun u hu => by
  rcases List.mem_or_eq_of_mem_set hu with q | q
  · exact h u q
  · rw [q]; exact hv
theorem Sls.one {α : Type} {E : El α} {w : World} {P : Nat → Prop} {xs : List α} {v : Value} (h : Sls E w P xs v) : v.oneCell' = true := by
  obtain ⟨_, _, h⟩ := h
  exact h.one
section
variable {w : World} {P : Nat → Prop} {g : Nat} {e : Int} {s : St} {vs : List Value} {v : Value}
theorem DS.set_types {L} (h : DS w P g e s vs) (hs : e = 0 → s.1.types = []) (h1 : v.oneCell' = true) (hv : e = 0 → Sls eTy w (fun b => P b ∧ b ≠ g) L v) : DS w P g e ({ s.1 with types := s.1.types ++ L }, s.2) (vs.set 0 v) := by
  obtain ⟨Lf, u, a, b, c⟩ := h.fns
  obtain ⟨T, u', a', b', d', c'⟩ := h.fty
  refine ⟨by rw [List.length_set]; exact h.len, one_set h.one h1, h.glt, ⟨Lf, u, by rw [List.getElem?_set_ne (by decide)]; exact a, b, c⟩, ⟨T, u', by rw [List.getElem?_set_ne (by decide)]; exact a', b', d', c'⟩, fun q => ?_⟩
  rw [List.set_comm _ _ (by decide)]
  exact (h.rest q).set_types (hs q) (hv q)
theorem DS.set_imps {L} (h : DS w P g e s vs) (hs : e = 0 → s.1.imps = []) (h1 : v.oneCell' = true) (hv : e = 0 → Sls eIm w (fun b => P b ∧ b ≠ g) L v) : DS w P g e ({ s.1 with imps := s.1.imps ++ L }, s.2) (vs.set 1 v) := by
  obtain ⟨Lf, u, a, b, c⟩ := h.fns
  obtain ⟨T, u', a', b', d', c'⟩ := h.fty
  refine ⟨by rw [List.length_set]; exact h.len, one_set h.one h1, h.glt, ⟨Lf, u, by rw [List.getElem?_set_ne (by decide)]; exact a, b, c⟩, ⟨T, u', by rw [List.getElem?_set_ne (by decide)]; exact a', b', d', c'⟩, fun q => ?_⟩
  rw [List.set_comm _ _ (by decide)]
  exact (h.rest q).set_imps (hs q) (hv q)
theorem DS.set_tabs {L} (h : DS w P g e s vs) (hs : e = 0 → s.1.tabs = []) (h1 : v.oneCell' = true) (hv : e = 0 → Sls eLim w (fun b => P b ∧ b ≠ g) L v) : DS w P g e ({ s.1 with tabs := s.1.tabs ++ L }, s.2) (vs.set 3 v) := by
  obtain ⟨Lf, u, a, b, c⟩ := h.fns
  obtain ⟨T, u', a', b', d', c'⟩ := h.fty
  refine ⟨by rw [List.length_set]; exact h.len, one_set h.one h1, h.glt, ⟨Lf, u, by rw [List.getElem?_set_ne (by decide)]; exact a, b, c⟩, ⟨T, u', by rw [List.getElem?_set_ne (by decide)]; exact a', b', d', c'⟩, fun q => ?_⟩
  rw [List.set_comm _ _ (by decide)]
  exact (h.rest q).set_tabs (hs q) (hv q)
theorem DS.set_mems {L} (h : DS w P g e s vs) (hs : e = 0 → s.1.mems = []) (h1 : v.oneCell' = true) (hv : e = 0 → Sls eLim w (fun b => P b ∧ b ≠ g) L v) : DS w P g e ({ s.1 with mems := s.1.mems ++ L }, s.2) (vs.set 4 v) := by
  obtain ⟨Lf, u, a, b, c⟩ := h.fns
  obtain ⟨T, u', a', b', d', c'⟩ := h.fty
  refine ⟨by rw [List.length_set]; exact h.len, one_set h.one h1, h.glt, ⟨Lf, u, by rw [List.getElem?_set_ne (by decide)]; exact a, b, c⟩, ⟨T, u', by rw [List.getElem?_set_ne (by decide)]; exact a', b', d', c'⟩, fun q => ?_⟩
  rw [List.set_comm _ _ (by decide)]
  exact (h.rest q).set_mems (hs q) (hv q)
theorem DS.set_globs {L} (h : DS w P g e s vs) (hs : e = 0 → s.1.globs = []) (h1 : v.oneCell' = true) (hv : e = 0 → Sls eCe w (fun b => P b ∧ b ≠ g) L v) : DS w P g e ({ s.1 with globs := s.1.globs ++ L }, s.2) (vs.set 5 v) := by
  obtain ⟨Lf, u, a, b, c⟩ := h.fns
  obtain ⟨T, u', a', b', d', c'⟩ := h.fty
  refine ⟨by rw [List.length_set]; exact h.len, one_set h.one h1, h.glt, ⟨Lf, u, by rw [List.getElem?_set_ne (by decide)]; exact a, b, c⟩, ⟨T, u', by rw [List.getElem?_set_ne (by decide)]; exact a', b', d', c'⟩, fun q => ?_⟩
  rw [List.set_comm _ _ (by decide)]
  exact (h.rest q).set_globs (hs q) (hv q)
theorem DS.set_exps {L} (h : DS w P g e s vs) (hs : e = 0 → s.1.exps = []) (h1 : v.oneCell' = true) (hv : e = 0 → Sls eEx w (fun b => P b ∧ b ≠ g) L v) : DS w P g e ({ s.1 with exps := s.1.exps ++ L }, s.2) (vs.set 6 v) := by
  obtain ⟨Lf, u, a, b, c⟩ := h.fns
  obtain ⟨T, u', a', b', d', c'⟩ := h.fty
  refine ⟨by rw [List.length_set]; exact h.len, one_set h.one h1, h.glt, ⟨Lf, u, by rw [List.getElem?_set_ne (by decide)]; exact a, b, c⟩, ⟨T, u', by rw [List.getElem?_set_ne (by decide)]; exact a', b', d', c'⟩, fun q => ?_⟩
  rw [List.set_comm _ _ (by decide)]
  exact (h.rest q).set_exps (hs q) (hv q)
theorem DS.set_elems {L} (h : DS w P g e s vs) (hs : e = 0 → s.1.elems = []) (h1 : v.oneCell' = true) (hv : e = 0 → Sls eEm w (fun b => P b ∧ b ≠ g) L v) : DS w P g e ({ s.1 with elems := s.1.elems ++ L }, s.2) (vs.set 9 v) := by
  obtain ⟨Lf, u, a, b, c⟩ := h.fns
  obtain ⟨T, u', a', b', d', c'⟩ := h.fty
  refine ⟨by rw [List.length_set]; exact h.len, one_set h.one h1, h.glt, ⟨Lf, u, by rw [List.getElem?_set_ne (by decide)]; exact a, b, c⟩, ⟨T, u', by rw [List.getElem?_set_ne (by decide)]; exact a', b', d', c'⟩, fun q => ?_⟩
  rw [List.set_comm _ _ (by decide)]
  exact (h.rest q).set_elems (hs q) (hv q)
theorem DS.set_datas {L} (h : DS w P g e s vs) (hs : e = 0 → s.1.datas = []) (h1 : v.oneCell' = true) (hv : e = 0 → Sls eDa w (fun b => P b ∧ b ≠ g) L v) : DS w P g e ({ s.1 with datas := s.1.datas ++ L }, s.2) (vs.set 10 v) := by
  obtain ⟨Lf, u, a, b, c⟩ := h.fns
  obtain ⟨T, u', a', b', d', c'⟩ := h.fty
  refine ⟨by rw [List.length_set]; exact h.len, one_set h.one h1, h.glt, ⟨Lf, u, by rw [List.getElem?_set_ne (by decide)]; exact a, b, c⟩, ⟨T, u', by rw [List.getElem?_set_ne (by decide)]; exact a', b', d', c'⟩, fun q => ?_⟩
  rw [List.set_comm _ _ (by decide)]
  exact (h.rest q).set_datas (hs q) (hv q)
theorem DS.set_fty {L : List Int} (h : DS w P g e s vs) (hLl : L.length ≤ 4096) (hv : Sls eU w (fun b => P b ∧ b ≠ g) L v) : DS w P g e (s.1, L) (vs.set 11 v) := by
  obtain ⟨Lf, u, a, b, c⟩ := h.fns
  refine ⟨by rw [List.length_set]; exact h.len, one_set h.one hv.one, h.glt, ⟨Lf, u, by rw [List.getElem?_set_ne (by decide)]; exact a, b, c⟩, ⟨L, v, by rw [List.getElem?_set_self (by rw [h.len]; decide)], hv, hLl, fun _ => rfl⟩, fun q => ?_⟩
  rw [List.set_comm _ _ (by decide)]
  exact (h.rest q).set_fty hv
theorem DS.set_start (h : DS w P g e s vs) (y : Int) : DS w P g e ({ s.1 with starts := true, start := y }, s.2) ((vs.set 7 (.bool true)).set 8 (.int .u32 y)) := by
  obtain ⟨Lf, u, a, b, c⟩ := h.fns
  obtain ⟨T, u', a', b', d', c'⟩ := h.fty
  refine ⟨by rw [List.length_set, List.length_set]; exact h.len, one_set (one_set h.one rfl) rfl, h.glt, ⟨Lf, u, by rw [List.getElem?_set_ne (by decide), List.getElem?_set_ne (by decide)]; exact a, b, c⟩, ⟨T, u', by rw [List.getElem?_set_ne (by decide), List.getElem?_set_ne (by decide)]; exact a', b', d', c'⟩, fun q => ?_⟩
  rw [List.set_comm _ _ (by decide), List.set_comm _ _ (show (7 : Nat) ≠ 2 by decide)]
  exact (h.rest q).set_start y
theorem DS.set_funcs {L : List Fn} {B g' : Nat} (h : DS w (fun b => P b ∧ b < B) g e s vs) (hs : e = 0 → s.1.funcs = []) (hg : B ≤ g') (hl : g' < w.heap.size) (hp : Prw eFn g' L.length B L e w) : DS w (fun b => P b ∧ b < B ∨ B ≤ b) g' e ({ s.1 with funcs := s.1.funcs ++ L }, s.2) (vs.set 2 (.slice (some ⟨g', 0, none⟩) L.length L.length)) := by
  obtain ⟨T, u', a', b', d', c'⟩ := h.fty
  refine ⟨by rw [List.length_set]; exact h.len, one_set h.one rfl, hl, ⟨L, _, by rw [List.getElem?_set_self (by rw [h.len]; decide)], ⟨.inr ⟨rfl, .inr hg, hl, hp.room, fun q => ?_⟩⟩, fun q => by rw [hs q]; rfl⟩, ⟨T, u', by rw [List.getElem?_set_ne (by decide)]; exact a', b'.mono (fun b _ hb => ⟨.inl hb.1, by have := hb.1.2; omega⟩), d', c'⟩, fun q => ?_⟩
  · obtain ⟨cs, h1, h2⟩ := hp.cells q
    exact ⟨cs, h1.mono (fun b _ hb => ⟨.inr hb.1, hb.2⟩), h2⟩
  · rw [List.set_set]
    exact (h.rest q).mono (fun b _ hb => ⟨.inl hb.1, by have := hb.1.2; omega⟩)
end
section
variable {c db : Nat} {a : Option Addr} {len cap k : Nat} {xs : List Int} {e : Int} {W : World} {sat : Bool} {vs : List Value} {g : Nat} {P : Nat → Prop} {s : St} {hi n : Int}
set_option maxHeartbeats 4000000 in
set_option maxRecDepth 100000 in
theorem sect_any (h : Cs c a len cap xs k e W) (hm : Mk W) (hc : 4 ≤ c) (hd4 : 4 ≤ db) (hv : Vr db 12 vs W) (hdc : db ≠ c) (hda : ∀ p, a = some p → 0 < len → p.block ≠ db)
    (hD : DS W P g 0 s vs) (hPc : ¬ P c) (hPd : ¬ P db) (hN : Non hi s) (h0 : 0 ≤ n) (h11 : n ≤ 11) (hn : n = 0 ∨ hi < n) :
    Calls Tryz.prog 50 #[.agg #[.pointer (some ⟨c, 0, none⟩), .bool sat], .int .u8 n, .pointer (some ⟨db, 0, none⟩)] W fun r W' => ∃ s' vs' g' k' e', r = .returned (.tuple #[]) ∧ Rd (rSec sat n s) xs k e s' k' e' ∧ Vr db 12 vs' W' ∧ DS W' (fun b => P b ∧ b < W.heap.size ∨ W.heap.size ≤ b) g' e' s' vs' ∧ Cs c a len cap xs k' e' W' ∧ Mk W' ∧ Fr [c, db] W W' := by
  have hg := hD.glt
  have hD1 : DS W (fun b => P b ∧ b < W.heap.size) g 0 s vs := hD.mono (fun b hb hp => ⟨hp, hb⟩)
  have hno : ∀ i ∈ [c, db], ¬ (fun b => P b ∧ b < W.heap.size) i := fun i hi hp => by
    simp at hi
    rcases hi with rfl | rfl
    · exact hPc hp.1
    · exact hPd hp.1
  by_cases q0 : n = 0
  · subst q0
    refine (sec_0 (sat := sat) h hm hc hv hdc).mono ?_
    rintro _ w' ⟨k', e', rfl, hR, hV, hC, hM, hF⟩
    exact ⟨s, vs, g, k', e', rfl, hR s, hV, (hD1.fr (hF.mono (l' := [c, db]) (by simp)) hno (fun _ => rfl)).mono (fun b _ hb => .inl hb), hC, hM, hF.mono (by simp)⟩
  by_cases q1 : n = 1
  · subst q1
    refine (sec_1 (sat := sat) h hm hc hd4 hv hdc hda).mono ?_
    rintro _ w' ⟨L, v, k', e', rfl, hR, hV, hS, h1, hC, hM, hF⟩
    exact ⟨_, _, g, k', e', rfl, rd_sec1 hR, hV, ((hD1.fr hF hno (fun _ => rfl)).mono (fun b _ hb => .inl hb)).set_types (fun _ => hN.types (by omega)) h1 (fun q => (hS q).mono (fun b _ hb => ⟨.inr hb, by omega⟩)), hC, hM, hF⟩
  by_cases q2 : n = 2
  · subst q2
    refine (sec_2 (sat := sat) h hm hc hd4 hv hdc hda).mono ?_
    rintro _ w' ⟨L, v, k', e', rfl, hR, hV, hS, h1, hC, hM, hF⟩
    exact ⟨_, _, g, k', e', rfl, rd_sec2 hR, hV, ((hD1.fr hF hno (fun _ => rfl)).mono (fun b _ hb => .inl hb)).set_imps (fun _ => hN.imps (by omega)) h1 (fun q => (hS q).mono (fun b _ hb => ⟨.inr hb, by omega⟩)), hC, hM, hF⟩
  by_cases q3 : n = 3
  · subst q3
    refine (sec_3 (sat := sat) h hm hc hd4 hv hdc hda).mono ?_
    rintro _ w' ⟨L, v, k', e', rfl, hR, hV, hS, hlen, hC, hM, hF⟩
    exact ⟨_, _, g, k', e', rfl, rd_sec3 hR, hV, ((hD1.fr hF hno (fun _ => rfl)).mono (fun b _ hb => .inl hb)).set_fty hlen (hS.mono (fun b _ hb => ⟨.inr hb, by omega⟩)), hC, hM, hF⟩
  by_cases q4 : n = 4
  · subst q4
    refine (sec_4 (sat := sat) h hm hc hd4 hv hdc hda).mono ?_
    rintro _ w' ⟨L, v, k', e', rfl, hR, hV, hS, h1, hC, hM, hF⟩
    exact ⟨_, _, g, k', e', rfl, rd_sec4 hR, hV, ((hD1.fr hF hno (fun _ => rfl)).mono (fun b _ hb => .inl hb)).set_tabs (fun _ => hN.tabs (by omega)) h1 (fun q => (hS q).mono (fun b _ hb => ⟨.inr hb, by omega⟩)), hC, hM, hF⟩
  by_cases q5 : n = 5
  · subst q5
    refine (sec_5 (sat := sat) h hm hc hd4 hv hdc hda).mono ?_
    rintro _ w' ⟨L, v, k', e', rfl, hR, hV, hS, h1, hC, hM, hF⟩
    exact ⟨_, _, g, k', e', rfl, rd_sec5 hR, hV, ((hD1.fr hF hno (fun _ => rfl)).mono (fun b _ hb => .inl hb)).set_mems (fun _ => hN.mems (by omega)) h1 (fun q => (hS q).mono (fun b _ hb => ⟨.inr hb, by omega⟩)), hC, hM, hF⟩
  by_cases q6 : n = 6
  · subst q6
    refine (sec_6 (sat := sat) h hm hc hd4 hv hdc hda).mono ?_
    rintro _ w' ⟨L, v, k', e', rfl, hR, hV, hS, h1, hC, hM, hF⟩
    exact ⟨_, _, g, k', e', rfl, rd_sec6 hR, hV, ((hD1.fr hF hno (fun _ => rfl)).mono (fun b _ hb => .inl hb)).set_globs (fun _ => hN.globs (by omega)) h1 (fun q => (hS q).mono (fun b _ hb => ⟨.inr hb, by omega⟩)), hC, hM, hF⟩
  by_cases q7 : n = 7
  · subst q7
    refine (sec_7 (sat := sat) h hm hc hd4 hv hdc hda).mono ?_
    rintro _ w' ⟨L, v, k', e', rfl, hR, hV, hS, h1, hC, hM, hF⟩
    exact ⟨_, _, g, k', e', rfl, rd_sec7 hR, hV, ((hD1.fr hF hno (fun _ => rfl)).mono (fun b _ hb => .inl hb)).set_exps (fun _ => hN.exps (by omega)) h1 (fun q => (hS q).mono (fun b _ hb => ⟨.inr hb, by omega⟩)), hC, hM, hF⟩
  by_cases q8 : n = 8
  · subst q8
    refine (sec_8 (sat := sat) h hm hd4 hc hv hdc hda).mono ?_
    rintro _ w' ⟨y, k', e', rfl, hR, hV, hC, hM, hF⟩
    exact ⟨_, _, g, k', e', rfl, rd_sec8 hR, hV, ((hD1.fr hF hno (fun _ => rfl)).mono (fun b _ hb => .inl hb)).set_start y, hC, hM, hF⟩
  by_cases q9 : n = 9
  · subst q9
    refine (sec_9 (sat := sat) h hm hc hd4 hv hdc hda).mono ?_
    rintro _ w' ⟨L, v, k', e', rfl, hR, hV, hS, h1, hC, hM, hF⟩
    exact ⟨_, _, g, k', e', rfl, rd_sec9 hR, hV, ((hD1.fr hF hno (fun _ => rfl)).mono (fun b _ hb => .inl hb)).set_elems (fun _ => hN.elems (by omega)) h1 (fun q => (hS q).mono (fun b _ hb => ⟨.inr hb, by omega⟩)), hC, hM, hF⟩
  by_cases q10 : n = 10
  · subst q10
    refine (sec_10 (sat := sat) h hm hc hd4 hv hdc hda).mono ?_
    rintro _ w' ⟨L, g', k', e', rfl, hR, hV, hP, hgl, hC, hM, hF⟩
    exact ⟨_, _, g', k', e', rfl, rd_sec10 hR, hV, (hD1.fr hF hno (fun _ => rfl)).set_funcs (fun _ => hN.funcs (by omega)) hP.lo hgl hP, hC, hM, hF⟩
  obtain rfl : n = 11 := by omega
  refine (sec_11 (sat := sat) h hm hc hd4 hv hdc hda).mono ?_
  rintro _ w' ⟨L, v, k', e', rfl, hR, hV, hS, h1, hC, hM, hF⟩
  exact ⟨_, _, g, k', e', rfl, rd_sec11 hR, hV, ((hD1.fr hF hno (fun _ => rfl)).mono (fun b _ hb => .inl hb)).set_datas (fun _ => hN.datas (by omega)) h1 (fun q => (hS q).mono (fun b _ hb => ⟨.inr hb, by omega⟩)), hC, hM, hF⟩
end
end Go.Proofs.YtjoonmpjcophnaaGreatDoor
namespace Go.Proofs.YtjoonmpjcophnaaGreatDoor
open Go.RowKit

section
variable {c : Nat} {a : Option Addr} {len cap k : Nat} {xs : List Int} {e : Int} {W : World} {sat : Bool} {nb db : Nat}
set_option maxHeartbeats 8000000 in
set_option maxRecDepth 100000 in
theorem part_s {A : Type} {F : Rr A} {z : A} {J J2 : World → Prop} {OO : A → Int → Nat → World → Prop} {l : List Nat} (h : Cs c a len cap xs k e W) (hlc : c ∉ l) (hla : ∀ p, a = some p → 0 < len → p.block ∉ l) (hll : ∀ i ∈ l, i < W.heap.size) (hJ : J W)
    (HJ : ∀ w w' l', J w → Fr l' w w' → (∀ i ∈ l', i = c ∨ W.heap.size ≤ i) → J w') (HJ2 : ∀ w w' l', J2 w → Fr l' w w' → (∀ i ∈ l', i = c ∨ W.heap.size ≤ i) → J2 w') (HJJ : ∀ w, J w → J2 w)
    (HOm : ∀ y e B B' w, OO y e B w → B' ≤ B → OO y e B' w)
    (HOs : ∀ y e1 e2 B w w' l', OO y e1 B w → W.heap.size ≤ B → (e2 = 0 → e1 = 0) → Fr l' w w' → (∀ i ∈ l', i = c ∨ W.heap.size ≤ i ∧ i < B) → OO y e2 B w')
    (HO : e = 0 → ∀ c2 a2 cap2 ys w, W.heap.size < c2 → (∀ p, a2 = some p → 0 < ys.length → W.heap.size < p.block) → Cs c2 a2 ys.length cap2 ys 0 0 w → J w → W.heap.size ≤ w.heap.size → Calls Tryz.prog 49 #[.agg #[.pointer (some ⟨c2, 0, none⟩), .bool sat], .pointer (some ⟨nb, 0, none⟩), .pointer (some ⟨db, 0, none⟩)] w fun r w' => ∃ y k2 e2, r = .returned (.tuple #[]) ∧ Rd F ys 0 0 y k2 e2 ∧ OO y e2 w.heap.size w' ∧ Cs c2 a2 ys.length cap2 ys k2 e2 w' ∧ J2 w' ∧ Fr (c2 :: l) w w') :
    Calls Tryz.prog 48 #[.agg #[.pointer (some ⟨c, 0, none⟩), .bool sat], .func (.func 49) #[] #[.pointer (some ⟨nb, 0, none⟩), .pointer (some ⟨db, 0, none⟩)]] W fun r W' => ∃ y k' e', r = .returned (.tuple #[]) ∧ Rd (rPc z F) xs k e y k' e' ∧ (OO y e' W.heap.size W' ∨ e' ≠ 0 ∧ J W') ∧ J2 W' ∧ Cs c a len cap xs k' e' W' ∧ Fr (c :: l) W W' := by
  have hcl := h.1.lt
  have HAl : Hid (∀ p, a = some p → 0 < len → p.block < W.heap.size) := hide h.2.1.lt
  have hb := below1 W (.cells #[.pointer (some ⟨c, 0, none⟩), .bool sat] 68)
  have HV : Vr W.heap.size 2 [.pointer (some ⟨c, 0, none⟩), .bool sat] (W.alloc (.cells #[.pointer (some ⟨c, 0, none⟩), .bool sat] 68)) := vr_new [.pointer (some ⟨c, 0, none⟩), .bool sat] 68 W
  have hd := (Below.refl (W.alloc (.cells #[.pointer (some ⟨c, 0, none⟩), .bool sat] 68)).heap.size (W.alloc (.cells #[.pointer (some ⟨c, 0, none⟩), .bool sat] 68))).drew
  have H := hide ((h.bel hb).bel hd)
  have HF := hide ((Fr.of hb [c]).bel hd)
  have HB := hide (HV.fr (Fr.of hd []) (by simp))
  have HJ1 := hide (HJ _ _ _ hJ ((Fr.of hb []).bel hd) (by simp))
  have HLl := hide (And.intro hlc (And.intro hla hll))
  have HJs := hide HJ
  have HJ2s := hide HJ2
  have HJJs := hide HJJ
  have HOms := hide HOm
  have HOss := hide HOs
  have HOO := hide HO
  clear h hb HV hd HJ HJ2 HJJ HOm HOs HO hlc hla hll hJ
  go_enter Tryz.func48, Tryz.ntmps48
  go_wp2_with fail
  refine wp_region_held_drew (S := fun w' => w'.cell? ⟨W.heap.size, 0, none⟩ = some (.pointer (some ⟨c, 0, none⟩)) ∧ w'.cell? ⟨W.heap.size, 1, none⟩ = some (.bool sat)) (by kernel_rfl) ?_ (fun hHeld => ?_)
  · (try dsimp only)
    exact ⟨(unhide HB).tab 0 _ rfl, (unhide HB).tab 1 _ rfl⟩
  generalize (W.alloc (.cells #[.pointer (some ⟨c, 0, none⟩), .bool sat] 68)).drew = w0 at *
  refine lst0 7 (by kernel_rfl) ?_
  refine tkA 0 6 1 ?_
  refine tkA 1 7 3 ?_
  refine tkA 2 8 7 ?_
  refine tkA 3 9 15 ?_
  refine rdA 4 31 (fun Kk hKk => ?_)
  go_simp
  refine (p_u32 (unhide H)).mono ?_
  rintro _ w1 ⟨z1, k1, e1, rfl, hD, hlt1, hC, hF⟩
  have HD1 := hide hD
  have HB := hide ((unhide HB).fr hF (by simp; omega))
  have H1 := hide hC
  have HJ1 := hide (unhide HJs _ _ _ (unhide HJ1) hF (by simp))
  have HF := hide ((unhide HF).trans hF)
  clear hC hD hF H
  obtain ⟨n, rfl⟩ := Int.eq_ofNat_of_zero_le hlt1.1
  (try go_wp2_with fail)
  refine hKk.out _ _ ?_ (fun hHeld => ?_)
  · (try dsimp only)
    exact ⟨(unhide HB).tab 0 _ rfl, (unhide HB).tab 1 _ rfl⟩
  clear hKk Kk
  (try simp only [List.setIfInBounds_toArray, List.set_cons_zero, List.set_cons_succ])
  refine rdA 5 63 (fun Kk hKk => ?_)
  go_simp
  refine (p_take2 (unhide H1) (by omega)).mono ?_
  rintro _ w2 ⟨x1, x2, x3, y, k2, e2, rfl, hD, hS, hby, hyl, hC, hF⟩
  have hx2 : y.length = x2 := hS.1
  have HD2 := hide (rd_bytes (unhide HD1) hD)
  have HS := hide hS
  have HBy := hide hby
  have HB := hide ((unhide HB).fr hF (by simp; omega))
  have H2 := hide hC
  have HJ1 := hide (unhide HJs _ _ _ (unhide HJ1) hF (by simp))
  have HF := hide ((unhide HF).trans hF)
  clear hC hD hF H1 HD1 hS hby
  (try go_wp2_with fail)
  refine hKk.out _ _ ?_ (fun hHeld => ?_)
  · (try dsimp only)
    exact ⟨(unhide HB).tab 0 _ rfl, (unhide HB).tab 1 _ rfl⟩
  clear hKk Kk
  (try simp only [List.setIfInBounds_toArray, List.set_cons_zero, List.set_cons_succ])
  refine tkA 6 4 127 ?_
  refine wpAnyH_done (by kernel_rfl) ?_ _
  have q0 := (unhide HB).tab 0 _ rfl
  have q1 := (unhide HB).tab 1 _ rfl
  go_wp2_with fail
  clear q0 q1
  refine (p_failed (unhide H2)).mono ?_
  rintro _ w3 ⟨rfl, hF⟩
  have HS := hide ((unhide HS).fr hF (by simp))
  have HB := hide ((unhide HB).fr hF (by simp))
  have H2 := hide ((unhide H2).fr hF (by simp) (by simp))
  have HJ1 := hide (unhide HJs _ _ _ (unhide HJ1) hF (by simp))
  have HF := hide ((unhide HF).thenL hF (by simp))
  clear hF
  by_cases he : e2 = 0
  · subst he
    have hbl := (unhide HB).lt
    have q0 := (unhide HB).tab 0 _ rfl
    have q1 := (unhide HB).tab 1 _ rfl
    go_wp2_with fail
    go_cut [5] (fun v5 wx => ∃ (ib c2 : Nat) (y1 : Option Addr) (y3 : Nat), v5 = .pointer (some ⟨ib, 0, none⟩) ∧ w3.heap.size ≤ ib ∧ w3.heap.size ≤ c2 ∧ (∀ p, y1 = some p → 0 < x2 → w3.heap.size ≤ p.block) ∧ ib ≠ c2 ∧ Vr ib 2 [.pointer (some ⟨c2, 0, none⟩), .bool sat] wx ∧ Cs c2 y1 x2 y3 y 0 0 wx ∧ Fr [] w3 wx)
    case first =>
      refine wp_region_held_drew (S := fun w' => w'.cell? ⟨W.heap.size, 0, none⟩ = some (.pointer (some ⟨c, 0, none⟩)) ∧ w'.cell? ⟨W.heap.size, 1, none⟩ = some (.bool sat)) (by kernel_rfl) ?_ (fun hHeld => ?_)
      · (try dsimp only)
        exact ⟨q0, q1⟩
      refine wo_start (l := []) (N := w3.heap.size) (i1 := 5) (d1 := 5) (v1 := #[.pointer none, .bool false]) (t1 := 68) (f := 1) (n := 5) (T := fun w' => Fr [] w3 w') (by kernel_rfl) (by kernel_rfl) (fun _ _ _ _ _ h => h) (fun _ _ h hb => ⟨(Fr.of hb []).keep h.1 (by simp), (Fr.of hb []).keep h.2 (by simp)⟩) (fun _ _ h hf => ⟨hf.keep h.1 (by simp), hf.keep h.2 (by simp)⟩) (by simp) ?_ (fun _ _ h hb => h.bel hb) hHeld ((Fr.refl [] w3).drew) (by simp [go_sem]) ?_
      · intro a w K h
        unfold wpOp
        go_simp
        exact Or.inl h
      clear hHeld q0 q1
      refine woA 0 14 ?_
      refine woA 2 16 ?_
      refine woA 3 17 ?_
      refine wo_call (c := 1) (o := { dst := some 15, op := _, type := _, pos := _, after := _, guard := _ }) rfl (by kernel_rfl) (by kernel_rfl) (fun u hSu hTu Kk hKk => ?_)
      go_simp
      refine (new_own ((unhide HS).fr hTu (by simp)) (by omega) (unhide HBy)).mono ?_
      rintro _ w4 ⟨c2, y1, y3, rfl, hC2, hc2, hy1, hF4⟩
      have hsu := hTu.size
      have HTn : Hid ((fun w' => Fr [] w3 w' ∧ Cs c2 y1 x2 y3 y 0 0 w') w4) := hide ⟨hTu.trans hF4, hC2⟩
      have HFn := hide hF4
      clear hC2 hF4 hTu hSu
      (try go_wp2_with fail)
      refine hKk.out _ _ (fun w' => Fr [] w3 w' ∧ Cs c2 y1 x2 y3 y 0 0 w') (unhide HFn) (fun _ _ h hb => ⟨h.1.bel hb, h.2.bel hb⟩) (unhide HTn) ?_
      clear hKk Kk HTn HFn
      (try simp only [Act.put, List.setIfInBounds_toArray, List.set_cons_zero, List.set_cons_succ])
      refine woA 4 18 ?_
      refine wo_fin (by kernel_rfl) (fun wf b1 hSu hTu k1' => ?_)
      (try simp only [Act.put, List.setIfInBounds_toArray, List.set_cons_zero, List.set_cons_succ])
      unfold ptr
      refine lstM 7 63 (by kernel_rfl) ?_
      refine rdA 6 127 (fun Kk hKk => ?_)
      rw [if_pos (by rfl)]
      have hrm := k1'.room
      have hbase := k1'.base
      have hbc : b1 ≠ c2 := fun q => by
        have h1 := k1'.cell 0
        have h2 := hTu.2.1.1
        rw [q, h2] at h1
        injection h1 with h1
        cases h1
      have hVr := vr_cells (cs := [.pointer (some ⟨c2, 0, none⟩), .bool sat]) (n := 2) hrm k1'.size rfl
      have hFw := fr_cells b1 [.pointer (some ⟨c2, 0, none⟩), .bool sat] 0 wf
      have hy1f : ∀ p, y1 = some p → 0 < x2 → p.block ∉ [b1] := fun p hp hx hm => by
        simp at hm
        have h2 := hTu.2.2.1.2.2.2
        rcases h2 with ⟨q1, q2, q3⟩ | ⟨b, off, q1, q2⟩
        · rw [q1] at hp; cases hp
        · rw [q1] at hp
          injection hp with hp
          subst hp
          have h3 := q2 0 hx
          have h1 := k1'.cell (off + 0)
          rw [show b1 = b from hm.symm, h3] at h1
          rcases off with _ | _ | off
          · injection h1 with h1; cases h1
          · injection h1 with h1; cases h1
          · cases h1
      refine oper_storeA (gb := b1) (off := 0) (cs := [.pointer (some ⟨c2, 0, none⟩), .bool sat]) (by rfl) (by rfl) szP68 (fun j hj => by rw [Nat.zero_add]; exact hrm j hj) (by simp [Value.oneCell']) ?_
      generalize wf.setCells b1 0 [.pointer (some ⟨c2, 0, none⟩), .bool sat] = wx at *
      refine hKk.out _ _ ?_ (fun hHeld => ?_)
      · (try dsimp only)
        exact ⟨hFw.keep hSu.1 (by simp; omega), hFw.keep hSu.2 (by simp; omega)⟩
      clear hKk Kk
      (try simp only [List.setIfInBounds_toArray, List.set_cons_zero, List.set_cons_succ])
      refine wpAnyH_done (by kernel_rfl) ?_ _
      have HT := hide (And.intro (hTu.2.fr hFw (by simpa using fun q => hbc q.symm) hy1f) (hTu.1.thenL hFw (fun i hi => by simp at hi; omega)))
      have HVr := hide hVr
      clear hTu hSu hVr hFw hrm hHeld
      go_wp2_with fail
      go_meet
      exact ⟨b1, c2, y1, y3, rfl, hbase, by omega, fun p hp hx => Nat.le_trans hsu (hy1 p hp hx), hbc, unhide HVr, unhide HT⟩
    case rest =>
      rename World => wx
      obtain ⟨ib, c2, y1, y3, rfl, hib, hc2, hy1, hne, hI, hC2, hF3⟩ := hcut
      have he0 : e = 0 := (unhide HD2).zero rfl
      have hJ3 := unhide HJs _ _ _ (unhide HJ1) hF3 (by simp)
      have hs3 := hF3.size
      subst hx2
      have HX := hide (unhide HOO he0 c2 y1 y3 y wx (by omega) (fun p hp hl => by have := hy1 p hp hl; omega) hC2 hJ3 (by omega))
      obtain ⟨hlc, hla, hll⟩ := unhide HLl
      have hc2x := hC2.1.lt
      have hibx := hI.lt
      have HI := hide hI
      have HB := hide ((unhide HB).fr hF3 (by simp))
      have H2 := hide ((unhide H2).fr hF3 (by simp) (by simp))
      have HF := hide ((unhide HF).thenL hF3 (by simp))
      have nl : ∀ i, W.heap.size ≤ i → i ∉ l := fun i hi hm => by have := hll i hm; omega
      clear hI hC2 hF3 hJ3 HJ1 HS HOO HBy q0 q1
      have t0 := (unhide HI).tab 0 _ rfl
      have t1 := (unhide HI).tab 1 _ rfl
      go_wp2_with fail
      clear t0 t1
      refine (unhide HX).mono ?_
      rintro _ w5 ⟨y', k5, e5, rfl, hD, hO, hC5, hJ5, hF5⟩
      have HD5 := hide hD
      have HOy := hide hO
      have HC2 := hide hC5
      have HJ2 := hide hJ5
      have HI := hide ((unhide HI).fr hF5 (by simp only [List.mem_cons, not_or]; exact ⟨hne, nl _ (by omega)⟩))
      have HB := hide ((unhide HB).fr hF5 (by simp only [List.mem_cons, not_or]; exact ⟨by omega, nl _ (by omega)⟩))
      have H2 := hide ((unhide H2).fr hF5 (by simp only [List.mem_cons, not_or]; exact ⟨by omega, hlc⟩) (fun p hp hl => by have := unhide HAl p hp hl; simp only [List.mem_cons, not_or]; exact ⟨by omega, hla p hp hl⟩))
      have HF := hide ((unhide HF).mono (l' := c :: l) (by simp) |>.thenL hF5 (fun i hi => by
        rcases List.mem_cons.1 hi with rfl | hi
        · exact .inr (by omega)
        · exact .inl (List.mem_cons_of_mem _ hi)))
      have hs5 := hF5.size
      clear hD hO hC5 hJ5 hF5 HX
      have t0 := (unhide HI).tab 0 _ rfl
      go_wp2_with fail
      clear t0
      refine (left2_any (unhide HC2)).mono ?_
      rintro _ w6 ⟨rfl, hF⟩
      have H2 := hide ((unhide H2).fr hF (by simp) (by simp))
      have HC2 := hide ((unhide HC2).fr hF (by simp) (by simp))
      have HJ2 := hide (unhide HJ2s _ _ _ (unhide HJ2) hF (by simp))
      have HOy := hide (unhide HOss _ _ _ _ _ _ _ (unhide HOy) (by omega) (fun q => q) hF (by simp))
      have HB := hide ((unhide HB).fr hF (by simp))
      have HI := hide ((unhide HI).fr hF (by simp))
      have HF := hide ((unhide HF).thenL hF (by simp))
      clear hF
      by_cases hk : k5 < y.length
      · have hk' : (0 : Int) < (y.length : Int) - (k5 : Int) := by omega
        have t0 := (unhide HI).tab 0 _ rfl
        go_wp2_with fail
        clear t0
        refine (Fail_any (unhide HC2)).mono ?_
        rintro _ w7 ⟨rfl, hC, hF⟩
        obtain ⟨e6, hE6⟩ : ∃ e6, (if e5 = 0 then (105 : Int) else e5) = e6 := ⟨_, rfl⟩
        rw [hE6] at hC
        have HE6 := hide hE6
        clear hE6
        have H2 := hide ((unhide H2).fr hF (by simp; omega) (fun p hp hl => by have := unhide HAl p hp hl; simp; omega))
        have HC2 := hide hC
        have HJ2 := hide (unhide HJ2s _ _ _ (unhide HJ2) hF (by simp; omega))
        have HOy := hide (unhide HOss _ _ _ _ _ _ _ (unhide HOy) (by omega) (fun q => q) hF (by simp; omega))
        have HB := hide ((unhide HB).fr hF (by simp; omega))
        have HI := hide ((unhide HI).fr hF (by simpa using hne))
        have HF := hide ((unhide HF).thenL hF (fun i hi => by simp at hi; exact .inr (by omega)))
        clear hC hF
        go_wp2_with fail
        refine wp_region_held_drew (S := fun w' => w'.cell? ⟨W.heap.size, 0, none⟩ = some (.pointer (some ⟨c, 0, none⟩)) ∧ w'.cell? ⟨ib, 0, none⟩ = some (.pointer (some ⟨c2, 0, none⟩))) (by kernel_rfl) ?_ (fun hHeld => ?_)
        · (try dsimp only)
          exact ⟨(unhide HB).tab 0 _ rfl, (unhide HI).tab 0 _ rfl⟩
        refine lst0 6 (by kernel_rfl) ?_
        refine tkA 0 29 1 ?_
        refine tkA 1 30 3 ?_
        refine tkA 2 31 7 ?_
        refine tkA 3 32 15 ?_
        have hdr : Fr [] w7 w7.drew := (Fr.refl [] w7).drew
        have H2 := hide ((unhide H2).fr hdr (by simp) (by simp))
        have HC2 := hide ((unhide HC2).fr hdr (by simp) (by simp))
        have HJ2 := hide (unhide HJ2s _ _ _ (unhide HJ2) hdr (by simp))
        have HOy := hide (unhide HOss _ _ _ _ _ _ _ (unhide HOy) (by omega) (fun q => q) hdr (by simp))
        have HB := hide ((unhide HB).fr hdr (by simp))
        have HI := hide ((unhide HI).fr hdr (by simp))
        have HF := hide ((unhide HF).thenL hdr (by simp))
        clear hdr
        generalize w7.drew = wv at *
        refine rdA 4 31 (fun Kk hKk => ?_)
        go_simp
        refine (err_any (unhide HC2)).mono ?_
        rintro _ _ ⟨rfl, rfl⟩
        (try go_wp2_with fail)
        refine hKk.out _ _ ?_ (fun hHeld => ?_)
        · (try dsimp only)
          exact ⟨(unhide HB).tab 0 _ rfl, (unhide HI).tab 0 _ rfl⟩
        clear hKk Kk
        (try simp only [List.setIfInBounds_toArray, List.set_cons_zero, List.set_cons_succ])
        refine rdA 5 63 (fun Kk hKk => ?_)
        go_simp
        refine (Fail_any (unhide H2)).mono ?_
        rintro _ w9 ⟨rfl, hC, hF⟩
        rw [if_pos rfl] at hC
        have HJ2 := hide (unhide HJ2s _ _ _ (unhide HJ2) hF (by simp))
        have HOy := hide (unhide HOss _ _ (doneE 0 e5 k5 y.length) _ _ _ _ (unhide HOy) (by omega) (fun q => (doneE_z q).2) hF (by simp))
        have HB := hide ((unhide HB).fr hF (by simp; omega))
        have HI := hide ((unhide HI).fr hF (by simp; omega))
        have HF := hide ((unhide HF).thenL hF (by simp))
        have H2 := hide hC
        clear hC hF
        (try go_wp2_with fail)
        refine hKk.out _ _ ?_ (fun hHeld => ?_)
        · (try dsimp only)
          exact ⟨(unhide HB).tab 0 _ rfl, (unhide HI).tab 0 _ rfl⟩
        clear hKk Kk
        (try simp only [List.setIfInBounds_toArray, List.set_cons_zero, List.set_cons_succ])
        refine wpAnyH_done (by kernel_rfl) ?_ _
        go_wp2_with fail
        rw [show e6 = doneE 0 e5 k5 y.length by rw [← unhide HE6]; exact (done_more e5 hk)] at H2
        refine bodyPost_end (results_none rfl _ _ _) rfl ?_
        exact ⟨y', k2, doneE 0 e5 k5 y.length, rfl, (unhide HD2).pc (unhide HD5), Or.inl (unhide HOms _ _ _ _ _ (unhide HOy) (by omega)), unhide HJ2, unhide H2, unhide HF⟩
      · have hk' : ¬ (0 : Int) < (y.length : Int) - (k5 : Int) := by omega
        go_wp2_with fail
        refine wp_region_held_drew (S := fun w' => w'.cell? ⟨W.heap.size, 0, none⟩ = some (.pointer (some ⟨c, 0, none⟩)) ∧ w'.cell? ⟨ib, 0, none⟩ = some (.pointer (some ⟨c2, 0, none⟩))) (by kernel_rfl) ?_ (fun hHeld => ?_)
        · (try dsimp only)
          exact ⟨(unhide HB).tab 0 _ rfl, (unhide HI).tab 0 _ rfl⟩
        refine lst0 6 (by kernel_rfl) ?_
        refine tkA 0 29 1 ?_
        refine tkA 1 30 3 ?_
        refine tkA 2 31 7 ?_
        refine tkA 3 32 15 ?_
        have hdr : Fr [] w6 w6.drew := (Fr.refl [] w6).drew
        have H2 := hide ((unhide H2).fr hdr (by simp) (by simp))
        have HC2 := hide ((unhide HC2).fr hdr (by simp) (by simp))
        have HJ2 := hide (unhide HJ2s _ _ _ (unhide HJ2) hdr (by simp))
        have HOy := hide (unhide HOss _ _ _ _ _ _ _ (unhide HOy) (by omega) (fun q => q) hdr (by simp))
        have HB := hide ((unhide HB).fr hdr (by simp))
        have HI := hide ((unhide HI).fr hdr (by simp))
        have HF := hide ((unhide HF).thenL hdr (by simp))
        clear hdr
        generalize w6.drew = wv at *
        refine rdA 4 31 (fun Kk hKk => ?_)
        go_simp
        refine (err_any (unhide HC2)).mono ?_
        rintro _ _ ⟨rfl, rfl⟩
        (try go_wp2_with fail)
        refine hKk.out _ _ ?_ (fun hHeld => ?_)
        · (try dsimp only)
          exact ⟨(unhide HB).tab 0 _ rfl, (unhide HI).tab 0 _ rfl⟩
        clear hKk Kk
        (try simp only [List.setIfInBounds_toArray, List.set_cons_zero, List.set_cons_succ])
        refine rdA 5 63 (fun Kk hKk => ?_)
        go_simp
        refine (Fail_any (unhide H2)).mono ?_
        rintro _ w9 ⟨rfl, hC, hF⟩
        rw [if_pos rfl] at hC
        have HJ2 := hide (unhide HJ2s _ _ _ (unhide HJ2) hF (by simp))
        have HOy := hide (unhide HOss _ _ (doneE 0 e5 k5 y.length) _ _ _ _ (unhide HOy) (by omega) (fun q => (doneE_z q).2) hF (by simp))
        have HB := hide ((unhide HB).fr hF (by simp; omega))
        have HI := hide ((unhide HI).fr hF (by simp; omega))
        have HF := hide ((unhide HF).thenL hF (by simp))
        have H2 := hide hC
        clear hC hF
        (try go_wp2_with fail)
        refine hKk.out _ _ ?_ (fun hHeld => ?_)
        · (try dsimp only)
          exact ⟨(unhide HB).tab 0 _ rfl, (unhide HI).tab 0 _ rfl⟩
        clear hKk Kk
        (try simp only [List.setIfInBounds_toArray, List.set_cons_zero, List.set_cons_succ])
        refine wpAnyH_done (by kernel_rfl) ?_ _
        go_wp2_with fail
        rw [show e5 = doneE 0 e5 k5 y.length from done_less e5 hk] at H2
        refine bodyPost_end (results_none rfl _ _ _) rfl ?_
        exact ⟨y', k2, doneE 0 e5 k5 y.length, rfl, (unhide HD2).pc (unhide HD5), Or.inl (unhide HOms _ _ _ _ _ (unhide HOy) (by omega)), unhide HJ2, unhide H2, unhide HF⟩
  · have hne : (e2 != 0) = true := by simpa using he
    go_wp2_with fail
    refine bodyPost_ret (v := .tuple #[]) (results_none rfl _ _ _) rfl ?_
    exact ⟨z, k2, e2, rfl, (unhide HD2).bd (Rd.err _ he), Or.inr ⟨he, unhide HJ1⟩, unhide HJJs _ (unhide HJ1), unhide H2, (unhide HF).mono (by simp)⟩
end
end Go.Proofs.YtjoonmpjcophnaaGreatDoor
namespace Go.Proofs.YtjoonmpjcophnaaGreatDoor
open Go.RowKit

section
variable {c db nb : Nat} {a : Option Addr} {len cap k : Nat} {xs : List Int} {e : Int} {W : World} {sat : Bool} {vs : List Value} {g : Nat} {P : Nat → Prop} {s : St} {hi n : Int}
set_option maxHeartbeats 4000000 in
set_option maxRecDepth 100000 in
theorem clos49_any (h : Cs c a len cap xs k e W) (hm : Mk W) (hc : 4 ≤ c) (hd4 : 4 ≤ db) (hv : Vr db 12 vs W) (hdc : db ≠ c) (hda : ∀ p, a = some p → 0 < len → p.block ≠ db)
    (hD : DS W P g 0 s vs) (hPc : ¬ P c) (hPd : ¬ P db) (hN : Non hi s) (h0 : 0 ≤ n) (h11 : n ≤ 11) (hn : n = 0 ∨ hi < n) (hnb : Bx nb (.int .u8 n) W) :
    Calls Tryz.prog 49 #[.agg #[.pointer (some ⟨c, 0, none⟩), .bool sat], .pointer (some ⟨nb, 0, none⟩), .pointer (some ⟨db, 0, none⟩)] W fun r W' => ∃ s' vs' g' k' e', r = .returned (.tuple #[]) ∧ Rd (rSec sat n s) xs k e s' k' e' ∧ Vr db 12 vs' W' ∧ DS W' (fun b => P b ∧ b < W.heap.size ∨ W.heap.size ≤ b) g' e' s' vs' ∧ Cs c a len cap xs k' e' W' ∧ Mk W' ∧ Fr [c, db] W W' := by
  have hb := below1 W (.cells #[.pointer (some ⟨c, 0, none⟩), .bool sat] 68)
  have hf := Fr.of hb []
  have HX := hide (sect_any (sat := sat) (h.bel hb) (hm.below hb) hc hd4 (hv.fr hf (by simp)) hdc hda (hD.fr hf (by simp) (fun _ => rfl)) hPc hPd hN h0 h11 hn)
  have HF0 := hide (Fr.of hb [c, db])
  have q0 : (W.alloc (.cells #[.pointer (some ⟨c, 0, none⟩), .bool sat] 68)).cell? ⟨W.heap.size, 0, none⟩ = some (.pointer (some ⟨c, 0, none⟩)) := by simp [go_sem]
  have q1 : (W.alloc (.cells #[.pointer (some ⟨c, 0, none⟩), .bool sat] 68)).cell? ⟨W.heap.size, 1, none⟩ = some (.bool sat) := by simp [go_sem]
  have q2 := hnb.bel hb
  unfold Bx at q2
  clear h hm hb hv hD hN hf hnb hn
  go_enter Tryz.func49, Tryz.ntmps49
  go_wp2_with fail
  clear q0 q1 q2
  refine (unhide HX).mono ?_
  rintro _ w1 ⟨s', vs', g', k', e', rfl, hR, hV, hD, hC, hM, hF⟩
  have HR := hide hR
  have HV := hide hV
  have HD := hide hD
  have HC := hide hC
  have HM := hide hM
  have HF := hide ((unhide HF0).trans hF)
  clear hR hV hD hC hM hF
  go_wp2_with fail
  refine bodyPost_end (results_none rfl _ _ _) rfl ?_
  exact ⟨s', vs', g', k', e', rfl, unhide HR, unhide HV, (unhide HD).mono (fun b _ hb => by
    simp only [World.alloc, Array.size_push] at hb
    rcases hb with hb | hb
    · by_cases q : b < W.heap.size
      · exact .inl ⟨hb.1, q⟩
      · exact .inr (by omega)
    · exact .inr (by omega)), unhide HC, unhide HM, unhide HF⟩
set_option maxHeartbeats 4000000 in
theorem psec_any (h : Cs c a len cap xs k e W) (hm : Mk W) (hc : 4 ≤ c) (hd4 : 4 ≤ db) (hv : Vr db 12 vs W) (hdc : db ≠ c) (hda : ∀ p, a = some p → 0 < len → p.block ≠ db)
    (hD : DS W P g 0 s vs) (hPc : ¬ P c) (hPd : ¬ P db) (hN : e = 0 → Non hi s ∧ 0 ≤ n ∧ n ≤ 11 ∧ (n = 0 ∨ hi < n)) (hnb : Bx nb (.int .u8 n) W) (hnl : nb < W.heap.size) (hnc : nb ≠ c) :
    Calls Tryz.prog 48 #[.agg #[.pointer (some ⟨c, 0, none⟩), .bool sat], .func (.func 49) #[] #[.pointer (some ⟨nb, 0, none⟩), .pointer (some ⟨db, 0, none⟩)]] W fun r W' => ∃ s' vs' g' k' e', r = .returned (.tuple #[]) ∧ Rd (rPc s (rSec sat n s)) xs k e s' k' e' ∧ Vr db 12 vs' W' ∧ DS W' (fun b => P b ∧ b < W.heap.size ∨ W.heap.size ≤ b) g' e' s' vs' ∧ Cs c a len cap xs k' e' W' ∧ Mk W' ∧ Fr [c, db] W W' := by
  have hdl := hv.lt
  have hcl := h.1.lt
  refine (part_s (nb := nb) (db := db) (F := rSec sat n s) (z := s) (J := fun w => Mk w ∧ Vr db 12 vs w ∧ DS w (fun b => P b ∧ b < W.heap.size) g 0 s vs ∧ Bx nb (.int .u8 n) w) (J2 := Mk) (OO := fun y e B w => ∃ vs' g', Vr db 12 vs' w ∧ DS w (fun b => P b ∧ b < W.heap.size ∨ B ≤ b) g' e y vs') (l := [db])
    h (by simpa using fun q => hdc q.symm) (fun p hp hl => by have := hda p hp hl; simpa using this) (by simpa using hdl) ⟨hm, hv, hD.mono (fun b hb hp => ⟨hp, hb⟩), hnb⟩
    (fun w w' l' hJ hf hl => ⟨hJ.1.fr hf (fun i hi => by rcases hl i hi with q | q <;> omega), hJ.2.1.fr hf (fun hi => by rcases hl _ hi with q | q <;> omega), hJ.2.2.1.fr hf (fun i hi hp => by
      rcases hl i hi with q | q
      · rw [q] at hp; exact hPc hp.1
      · have := hp.2; omega) (fun q => q), hJ.2.2.2.fr hf (fun hi => by rcases hl _ hi with q | q <;> omega)⟩)
    (fun w w' l' hJ hf hl => hJ.fr hf (fun i hi => by rcases hl i hi with q | q <;> omega))
    (fun w hJ => hJ.1)
    (fun y e B B' w hO hB => by obtain ⟨vs', g', h1, h2⟩ := hO; exact ⟨vs', g', h1, h2.mono (fun b _ hb => hb.imp id (fun q => by omega))⟩)
    (fun y e1 e2 B w w' l' hO hB he hf hl => by
      obtain ⟨vs', g', h1, h2⟩ := hO
      refine ⟨vs', g', h1.fr hf (fun hi => by rcases hl _ hi with q | q <;> omega), h2.fr hf (fun i hi hp => ?_) he⟩
      rcases hl i hi with q | q
      · rw [q] at hp
        rcases hp with hp | hp
        · exact hPc hp.1
        · omega
      · rcases hp with hp | hp
        · have := hp.2; omega
        · omega)
    (fun he c2 a2 cap2 ys w hc2 ha2 hC hJ hw => (clos49_any (nb := nb) (P := fun b => P b ∧ b < W.heap.size) hC hJ.1 (by omega) hd4 hJ.2.1 (by omega) (fun p hp hl => by have := ha2 p hp hl; omega) hJ.2.2.1 (fun q => by have := q.2; omega) (fun q => hPd q.1) (hN he).1 (hN he).2.1 (hN he).2.2.1 (hN he).2.2.2 hJ.2.2.2).mono (by
      rintro _ w' ⟨s', vs', g', k', e', rfl, hR, hV, hD, hC2, hM2, hF⟩
      exact ⟨s', k', e', rfl, hR, ⟨vs', g', hV, hD.mono (fun b _ hb => hb.imp (fun q => q.1) id)⟩, hC2, hM2, hF⟩))).mono ?_
  rintro _ w1 ⟨y, k1, e1, rfl, hR, hO, hM, hC, hF⟩
  rcases hO with ⟨vs', g', hV, hD'⟩ | ⟨he, hJ⟩
  · exact ⟨y, vs', g', k1, e1, rfl, hR, hV, hD', hC, hM, hF⟩
  · exact ⟨y, vs, g, k1, e1, rfl, hR, hJ.2.1, (hJ.2.2.1.mono (fun b _ hb => .inl hb)).bad he, hC, hM, hF⟩
end
end Go.Proofs.YtjoonmpjcophnaaGreatDoor
namespace Go.Proofs.YtjoonmpjcophnaaGreatDoor
open Go.RowKit

theorem szP71 : (Tryz.prog.info? 71).map (·.size) = some 12 := by kernel_rfl
theorem results_cellP {fn : Func} {t ty : Nat} {p : Addr} {v : Value} {w : World} {P : Program} (hr : fn.results = #[.cell t ty]) (tmps : Array Value) (ht : tmps[t]? = some (.pointer (some p))) (hv : (loadVar ty p).run P w = .ok v w) :
    (results fn tmps).run P w = .ok v w := by
  simp [results, hr, ht, asAddr, hv]
/-- How much is still to be read, at most. -/
def mz (c len : Nat) (w : World) : Nat := if intOf ((w.cell? ⟨c, 2, none⟩).getD undef) = 0 then len + 1 - (intOf ((w.cell? ⟨c, 1, none⟩).getD undef)).toNat else 0
theorem mz_cs {c : Nat} {a : Option Addr} {len cap k : Nat} {xs : List Int} {e : Int} {w : World} (h : Cs c a len cap xs k e w) : mz c len w = if e = 0 then len + 1 - k else 0 := by
  unfold mz
  rw [h.1.2.1, h.1.2.2.1]
  by_cases h0 : e = 0 <;> simp [intOf, h0]
section
variable {xs : List Int} {k k3 : Nat} {e3 : Int} {sat : Bool} {n : Int} {s : St} {hi : Int}
theorem rd_byte_live (h : Rd rB xs k 0 n k3 e3) (hk : k < xs.length) : k3 = k + 1 ∧ e3 = 0 := by
  obtain ⟨h1, h2⟩ := h.live rfl
  cases hx : xs.drop k with
  | nil => have := congrArg List.length hx; rw [List.length_drop, List.length_nil] at this; omega
  | cons x r => rw [hx] at h1 h2; exact ⟨h1, h2⟩
theorem rd_all_end (hk : k = xs.length) (e : Int) : Rd (rAll sat hi s) xs k e s k e := by
  have hx : xs.drop k = [] := by rw [hk, List.drop_length]
  have h0 : rAll sat hi s [] = (s, 0, 0) := by
    unfold rAll rMod
    rw [if_pos rfl]
  exact ⟨fun _ => ⟨rfl, rfl⟩, fun h => by rw [hx, h0]; exact ⟨rfl, h⟩, fun _ _ => by rw [hx, h0]⟩
theorem rd_all_step {s' s'' : St} {k4 k5 : Nat} {e4 e5 : Int} (hk : k < xs.length) (h1 : Rd rB xs k 0 n k3 e3) (h2 : Rd (stp1 sat hi s n) xs k3 e3 s' k4 e4) (h3 : Rd (rAll sat (max hi n) s') xs k4 e4 s'' k5 e5) : Rd (rAll sat hi s) xs k 0 s'' k5 e5 := by
  refine Rd.of_eq (h1.bd (z := s) (g := fun n => bd s (stp1 sat hi s n) fun s' => rAll sat (max hi n) s') (h2.bd h3)) ?_
  cases hx : xs.drop k with
  | nil => have := congrArg List.length hx; rw [List.length_drop, List.length_nil] at this; omega
  | cons x r => exact all_cons _ _ _ _ _
theorem rd_stp_bad (hb : 11 < n ∨ 0 < n ∧ n ≤ hi) : Rd (stp1 sat hi s n) xs k 0 s k 104 := by
  unfold stp1
  rw [if_pos hb]
  exact ⟨fun h => absurd rfl h, fun _ => ⟨rfl, rfl⟩, fun _ h => absurd h (by decide)⟩
theorem rd_stp_good {s' : St} {e k' e'} (hb : ¬ (11 < n ∨ 0 < n ∧ n ≤ hi)) (h : Rd (rPc s (rSec sat n s)) xs k e s' k' e') : Rd (stp1 sat hi s n) xs k e s' k' e' := by
  unfold stp1
  rw [if_neg hb]
  exact h
theorem Non.rd {s' : St} {k' : Nat} {e' : Int} (h : Non hi s) (h0 : 0 ≤ n) (h11 : n ≤ 11) (hn : n = 0 ∨ hi < n) (hR : Rd (rPc s (rSec sat n s)) xs k 0 s' k' e') (he : e' = 0) : Non (max hi n) s' := by
  subst he
  have hv := hR.val rfl rfl
  have he := (hR.live rfl).2
  unfold rPc at hv he
  obtain ⟨h1, h2, h3⟩ := bd_inv he.symm
  rw [h3] at hv
  rw [hv]
  exact h.sec h0 h11 hn (alone_inv h2).1
end
section
variable {c : Nat} {a : Option Addr} {len cap k : Nat} {xs : List Int} {W : World} {sat : Bool}
set_option maxHeartbeats 16000000 in
set_option maxRecDepth 100000 in
theorem sections_any (h : Cs c a len cap xs 0 0 W) (hm : Mk W) (hc : 4 ≤ c) : Calls Tryz.prog 18 #[.agg #[.pointer (some ⟨c, 0, none⟩), .bool sat]] W fun r W' => ∃ vs s g k' e', r = .returned (.agg (List.toArray vs)) ∧ Rd (rAll sat 0 (mo0, [])) xs 0 0 s k' e' ∧ DS W' (fun b => W.heap.size + 2 < b) g e' s vs ∧ Cs c a len cap xs k' e' W' ∧ Mk W' ∧ Fr [c] W W' := by
  have hcl := h.1.lt
  have hxl := h.2.1.1
  have HAl : Hid (∀ p, a = some p → 0 < len → p.block < W.heap.size) := hide h.2.1.lt
  have hb : Below W.heap.size W (((W.alloc (.cells #[.pointer (some ⟨c, 0, none⟩), .bool sat] 68)).alloc (.cells #[.slice none 0 0, .slice none 0 0, .slice none 0 0, .slice none 0 0, .slice none 0 0, .slice none 0 0, .slice none 0 0, .bool false, .int .u32 0, .slice none 0 0, .slice none 0 0, .slice none 0 0] 71)).alloc (.cells #[.slice none 0 0, .slice none 0 0, .slice none 0 0, .slice none 0 0, .slice none 0 0, .slice none 0 0, .slice none 0 0, .bool false, .int .u32 0, .slice none 0 0, .slice none 0 0, .slice none 0 0] 71)) := balloc (below2 W _ _) _
  have hf := Fr.of hb [c]
  have s1 : (W.alloc (.cells #[.pointer (some ⟨c, 0, none⟩), .bool sat] 68)).heap.size = W.heap.size + 1 := by simp
  have s2 : ((W.alloc (.cells #[.pointer (some ⟨c, 0, none⟩), .bool sat] 68)).alloc (.cells #[.slice none 0 0, .slice none 0 0, .slice none 0 0, .slice none 0 0, .slice none 0 0, .slice none 0 0, .slice none 0 0, .bool false, .int .u32 0, .slice none 0 0, .slice none 0 0, .slice none 0 0] 71)).heap.size = W.heap.size + 2 := by simp
  have HB : Hid (Tab (((W.alloc (.cells #[.pointer (some ⟨c, 0, none⟩), .bool sat] 68)).alloc (.cells #[.slice none 0 0, .slice none 0 0, .slice none 0 0, .slice none 0 0, .slice none 0 0, .slice none 0 0, .slice none 0 0, .bool false, .int .u32 0, .slice none 0 0, .slice none 0 0, .slice none 0 0] 71)).alloc (.cells #[.slice none 0 0, .slice none 0 0, .slice none 0 0, .slice none 0 0, .slice none 0 0, .slice none 0 0, .slice none 0 0, .bool false, .int .u32 0, .slice none 0 0, .slice none 0 0, .slice none 0 0] 71)) W.heap.size [.pointer (some ⟨c, 0, none⟩), .bool sat]) := hide (((vr_new [.pointer (some ⟨c, 0, none⟩), .bool sat] 68 W).tab.below (below1 _ _)).below (below1 _ _))
  have hR0 := (vr_new [.slice none 0 0, .slice none 0 0, .slice none 0 0, .slice none 0 0, .slice none 0 0, .slice none 0 0, .slice none 0 0, .bool false, .int .u32 0, .slice none 0 0, .slice none 0 0, .slice none 0 0] 71 (W.alloc (.cells #[.pointer (some ⟨c, 0, none⟩), .bool sat] 68))).fr (Fr.of (below1 _ (.cells #[.slice none 0 0, .slice none 0 0, .slice none 0 0, .slice none 0 0, .slice none 0 0, .slice none 0 0, .slice none 0 0, .bool false, .int .u32 0, .slice none 0 0, .slice none 0 0, .slice none 0 0] 71)) []) (by simp)
  rw [s1] at hR0
  have HR : Hid (Vr (W.heap.size + 1) 12 nil12 (((W.alloc (.cells #[.pointer (some ⟨c, 0, none⟩), .bool sat] 68)).alloc (.cells #[.slice none 0 0, .slice none 0 0, .slice none 0 0, .slice none 0 0, .slice none 0 0, .slice none 0 0, .slice none 0 0, .bool false, .int .u32 0, .slice none 0 0, .slice none 0 0, .slice none 0 0] 71)).alloc (.cells #[.slice none 0 0, .slice none 0 0, .slice none 0 0, .slice none 0 0, .slice none 0 0, .slice none 0 0, .slice none 0 0, .bool false, .int .u32 0, .slice none 0 0, .slice none 0 0, .slice none 0 0] 71))) := hide hR0
  have hV0 := vr_new [.slice none 0 0, .slice none 0 0, .slice none 0 0, .slice none 0 0, .slice none 0 0, .slice none 0 0, .slice none 0 0, .bool false, .int .u32 0, .slice none 0 0, .slice none 0 0, .slice none 0 0] 71 ((W.alloc (.cells #[.pointer (some ⟨c, 0, none⟩), .bool sat] 68)).alloc (.cells #[.slice none 0 0, .slice none 0 0, .slice none 0 0, .slice none 0 0, .slice none 0 0, .slice none 0 0, .slice none 0 0, .bool false, .int .u32 0, .slice none 0 0, .slice none 0 0, .slice none 0 0] 71))
  rw [s2] at hV0
  have HV : Hid (Vr (W.heap.size + 2) 12 nil12 (((W.alloc (.cells #[.pointer (some ⟨c, 0, none⟩), .bool sat] 68)).alloc (.cells #[.slice none 0 0, .slice none 0 0, .slice none 0 0, .slice none 0 0, .slice none 0 0, .slice none 0 0, .slice none 0 0, .bool false, .int .u32 0, .slice none 0 0, .slice none 0 0, .slice none 0 0] 71)).alloc (.cells #[.slice none 0 0, .slice none 0 0, .slice none 0 0, .slice none 0 0, .slice none 0 0, .slice none 0 0, .slice none 0 0, .bool false, .int .u32 0, .slice none 0 0, .slice none 0 0, .slice none 0 0] 71))) := hide hV0
  have HC := hide (h.bel hb)
  have HM := hide (hm.below hb)
  have HF := hide hf
  have hs3 : ((((W.alloc (.cells #[.pointer (some ⟨c, 0, none⟩), .bool sat] 68)).alloc (.cells #[.slice none 0 0, .slice none 0 0, .slice none 0 0, .slice none 0 0, .slice none 0 0, .slice none 0 0, .slice none 0 0, .bool false, .int .u32 0, .slice none 0 0, .slice none 0 0, .slice none 0 0] 71)).alloc (.cells #[.slice none 0 0, .slice none 0 0, .slice none 0 0, .slice none 0 0, .slice none 0 0, .slice none 0 0, .slice none 0 0, .bool false, .int .u32 0, .slice none 0 0, .slice none 0 0, .slice none 0 0] 71))).heap.size = W.heap.size + 3 := by simp
  clear h hm hb hf hR0 hV0 s1 s2
  go_enter Tryz.func18, Tryz.ntmps18
  go_wp2_with fail
  generalize (((W.alloc (.cells #[.pointer (some ⟨c, 0, none⟩), .bool sat] 68)).alloc (.cells #[.slice none 0 0, .slice none 0 0, .slice none 0 0, .slice none 0 0, .slice none 0 0, .slice none 0 0, .slice none 0 0, .bool false, .int .u32 0, .slice none 0 0, .slice none 0 0, .slice none 0 0] 71)).alloc (.cells #[.slice none 0 0, .slice none 0 0, .slice none 0 0, .slice none 0 0, .slice none 0 0, .slice none 0 0, .slice none 0 0, .bool false, .int .u32 0, .slice none 0 0, .slice none 0 0, .slice none 0 0] 71)) = w0 at *
  go_loopw [4] (fun v4 wr => ∃ (hi : Int) (s : St) (vs : List Value) (g k2 : Nat) (e2 : Int), v4 = .int .u8 hi ∧ (e2 = 0 → Non hi s ∧ hi ≤ 11) ∧ Vr (W.heap.size + 2) 12 vs wr ∧ DS wr (fun b => W.heap.size + 2 < b) g e2 s vs ∧ Tab wr W.heap.size [.pointer (some ⟨c, 0, none⟩), .bool sat] ∧ Vr (W.heap.size + 1) 12 nil12 wr ∧ Cs c a len cap xs k2 e2 wr ∧ Mk wr ∧ Fr [c] W wr ∧ (∀ s' k' e', Rd (rAll sat hi s) xs k2 e2 s' k' e' → Rd (rAll sat 0 (mo0, [])) xs 0 0 s' k' e')) (fun _ w => mz c len w)
  case atStart =>
    exact ⟨0, (mo0, []), nil12, W.heap.size + 2, 0, 0, rfl, fun _ => ⟨non0, by decide⟩, unhide HV, ds0 _ _ (by omega), unhide HB, unhide HR, unhide HC, unhide HM, unhide HF, fun _ _ _ h => h⟩
  case round =>
    obtain ⟨hi, s, vs, g, k2, e2, rfl, hN, hV, hD, hB, hR, hC, hM, hF, hK⟩ := hrel
    have hmz := mz_cs hC
    have HN := hide hN
    have HV := hide hV
    have HD := hide hD
    have HB := hide hB
    have HR := hide hR
    have HC := hide hC
    have HM := hide hM
    have HF := hide hF
    have HK := hide hK
    have hsw := hR.lt
    have hkl := hC.2.2.2.2.1
    clear hN hV hD hB hR hC hM hF hK
    rename World => wr
    have q0 := (unhide HB) 0 _ rfl
    go_wp2_with fail
    clear q0
    refine (left2_any (unhide HC)).mono ?_
    rintro _ w1 ⟨rfl, hF1⟩
    have HV := hide ((unhide HV).fr hF1 (by simp))
    have HD := hide ((unhide HD).fr hF1 (by simp) (fun q => q))
    have HB := hide ((unhide HB).fr hF1 (by simp))
    have HR := hide ((unhide HR).fr hF1 (by simp))
    have HC := hide ((unhide HC).fr hF1 (by simp) (by simp))
    have HM := hide ((unhide HM).fr hF1 (by simp))
    have HF := hide ((unhide HF).thenL hF1 (by simp))
    clear hF1
    by_cases hk : k2 < len
    · have hk' : (0 : Int) < (len : Int) - (k2 : Int) := by omega
      have q0 := (unhide HB) 0 _ rfl
      have q1 := (unhide HB) 1 _ rfl
      go_wp2_with fail
      clear q0 q1
      refine (p_failed (unhide HC)).mono ?_
      rintro _ w2 ⟨rfl, hF1⟩
      have HV := hide ((unhide HV).fr hF1 (by simp))
      have HD := hide ((unhide HD).fr hF1 (by simp) (fun q => q))
      have HB := hide ((unhide HB).fr hF1 (by simp))
      have HR := hide ((unhide HR).fr hF1 (by simp))
      have HC := hide ((unhide HC).fr hF1 (by simp) (by simp))
      have HM := hide ((unhide HM).fr hF1 (by simp))
      have HF := hide ((unhide HF).thenL hF1 (by simp))
      clear hF1
      by_cases he : e2 = 0
      · subst he
        rw [if_pos rfl] at hmz
        obtain ⟨hNon, h11⟩ := unhide HN rfl
        have q0 := (unhide HB) 0 _ rfl
        go_wp2_with fail
        clear q0
        refine (p_byte (unhide HC)).mono ?_
        rintro _ w3 ⟨n, k3, e3, rfl, hDb, hlt, hC3, hF3⟩
        obtain ⟨hk3, he3⟩ := rd_byte_live hDb (by omega)
        subst hk3
        subst he3
        have HDb := hide hDb
        have hs5 : W.heap.size + 2 < w3.heap.size := Nat.lt_of_lt_of_le (unhide HV).lt hF3.size
        have hb := below1 w3 (.cells #[.int .u8 n] 5)
        have hfa := hF3.thenL (Fr.of hb []) (by simp)
        have HV := hide ((unhide HV).fr hfa (by simp; omega))
        have HD := hide ((unhide HD).fr hfa (by simp; omega) (fun q => q))
        have HB := hide ((unhide HB).fr hfa (by simp; omega))
        have HR := hide ((unhide HR).fr hfa (by simp; omega))
        have HC := hide (hC3.bel hb)
        have HM := hide ((unhide HM).fr hfa (by simp; omega))
        have HF := hide ((unhide HF).trans hfa)
        have HNb : Hid (Bx w3.heap.size (.int .u8 n) (w3.alloc (.cells #[.int .u8 n] 5))) := hide (by unfold Bx; simp [go_sem])
        have hs4 : w3.heap.size < (w3.alloc (.cells #[.int .u8 n] 5)).heap.size := by simp
        have HNn := hide hNon
        clear hDb hC3 hF3 hb hfa hNon
        by_cases hn0 : n = 0
        · subst hn0
          have hz : max hi 0 = hi := by have := (unhide HNn).pos; omega
          have w0q := (unhide HNb)
          unfold Bx at w0q
          have q0 := (unhide HB) 0 _ rfl
          have q1 := (unhide HB) 1 _ rfl
          go_wp2_with fail
          clear q0 q1 w0q
          refine (psec_any (n := 0) (hi := hi) (s := s) (P := fun b => W.heap.size + 2 < b) (nb := w3.heap.size) (unhide HC) (unhide HM) hc (by omega) (unhide HV) (by omega) (fun p hp hl => by have := unhide HAl p hp hl; omega) (unhide HD) (by omega) (by omega) (fun _ => ⟨unhide HNn, by omega, by omega, by omega⟩) (unhide HNb) hs4 (by omega)).mono ?_
          rintro _ w5 ⟨s', vs', g', k5, e5, rfl, hR5, hV5, hD5, hC5, hM5, hF5⟩
          have HV := hide hV5
          have HD := hide (hD5.mono (P' := fun b => W.heap.size + 2 < b) (fun b _ hb => by rcases hb with hb | hb; exact hb.1; omega))
          have HB := hide ((unhide HB).fr hF5 (by simp; omega))
          have HR := hide ((unhide HR).fr hF5 (by simp; omega))
          have HC := hide hC5
          have HM := hide hM5
          have HF := hide ((unhide HF).thenL hF5 (by simp))
          have HR5 := hide hR5
          have hmz5 := mz_cs hC5
          have hk5 := hC5.2.2.2.2.1
          clear hV5 hD5 hC5 hM5 hF5 hR5
          go_wp2_with fail
          refine ⟨⟨hi, s', vs', g', k5, e5, rfl, fun q => ⟨hz ▸ (unhide HNn).rd (by omega) (by omega) (by omega) (unhide HR5) q, by omega⟩, unhide HV, unhide HD, unhide HB, unhide HR, unhide HC, unhide HM, unhide HF, fun s2 k' e' hr => unhide HK _ _ _ (rd_all_step (by omega) (unhide HDb) (rd_stp_good (by omega) (unhide HR5)) (by rw [hz]; exact hr))⟩, ?_⟩
          rw [hmz, hmz5]
          have hkk := ((unhide HR5).live rfl).1
          split <;> omega
        · have hn0' : (n != 0) = true := by simpa using hn0
          by_cases hb1 : n ≤ hi
          · have w0q := (unhide HNb)
            unfold Bx at w0q
            have q0 := (unhide HB) 0 _ rfl
            have q1 := (unhide HB) 1 _ rfl
            go_wp2_with fail
            refine (Fail_any (unhide HC)).mono ?_
            rintro _ w4 ⟨rfl, hC4, hF4⟩
            rw [if_pos rfl] at hC4
            have HV := hide ((unhide HV).fr hF4 (by simp; omega))
            have HD := hide ((unhide HD).fr hF4 (by simp; omega) (fun q => q))
            have HB := hide ((unhide HB).fr hF4 (by simp; omega))
            have HR := hide ((unhide HR).fr hF4 (by simp; omega))
            have HC := hide hC4
            have HM := hide ((unhide HM).fr hF4 (by simp; omega))
            have HF := hide ((unhide HF).trans hF4)
            have HNb := hide ((unhide HNb).fr hF4 (by simp; omega))
            have hs4 := Nat.lt_of_lt_of_le hs4 hF4.size
            clear hC4 hF4 q0 q1 w0q
            have w0q := (unhide HNb)
            unfold Bx at w0q
            have q0 := (unhide HB) 0 _ rfl
            have q1 := (unhide HB) 1 _ rfl
            go_wp2_with fail
            clear q0 q1 w0q
            refine (psec_any (n := n) (hi := hi) (s := s) (P := fun b => W.heap.size + 2 < b) (nb := w3.heap.size) (unhide HC) (unhide HM) hc (by omega) (unhide HV) (by omega) (fun p hp hl => by have := unhide HAl p hp hl; omega) (unhide HD) (by omega) (by omega) (fun q => absurd q (by decide)) (unhide HNb) hs4 (by omega)).mono ?_
            rintro _ w5 ⟨s', vs', g', k5, e5, rfl, hR5, hV5, hD5, hC5, hM5, hF5⟩
            have HV := hide hV5
            have HD := hide (hD5.mono (P' := fun b => W.heap.size + 2 < b) (fun b _ hb => by rcases hb with hb | hb; exact hb.1; omega))
            have HB := hide ((unhide HB).fr hF5 (by simp; omega))
            have HR := hide ((unhide HR).fr hF5 (by simp; omega))
            have HC := hide hC5
            have HM := hide hM5
            have HF := hide ((unhide HF).thenL hF5 (by simp))
            have HR5 := hide hR5
            have hmz5 := mz_cs hC5
            have hk5 := hC5.2.2.2.2.1
            clear hV5 hD5 hC5 hM5 hF5 hR5
            go_wp2_with fail
            obtain ⟨rfl, rfl⟩ := (unhide HR5).dead (by decide)
            refine ⟨⟨n, s', vs', g', _, _, rfl, fun q => absurd q (by decide), unhide HV, unhide HD, unhide HB, unhide HR, unhide HC, unhide HM, unhide HF, fun s2 k' e' hr => by
              obtain ⟨rfl, rfl⟩ := hr.dead (by decide)
              exact unhide HK _ _ _ (rd_all_step (by omega) (unhide HDb) (rd_stp_bad (by omega)) (Rd.err _ (by decide)))⟩, ?_⟩
            rw [hmz, hmz5, if_neg (by decide)]
            omega
          · by_cases hb2 : 11 < n
            · have w0q := (unhide HNb)
              unfold Bx at w0q
              have q0 := (unhide HB) 0 _ rfl
              have q1 := (unhide HB) 1 _ rfl
              go_wp2_with fail
              refine (Fail_any (unhide HC)).mono ?_
              rintro _ w4 ⟨rfl, hC4, hF4⟩
              rw [if_pos rfl] at hC4
              have HV := hide ((unhide HV).fr hF4 (by simp; omega))
              have HD := hide ((unhide HD).fr hF4 (by simp; omega) (fun q => q))
              have HB := hide ((unhide HB).fr hF4 (by simp; omega))
              have HR := hide ((unhide HR).fr hF4 (by simp; omega))
              have HC := hide hC4
              have HM := hide ((unhide HM).fr hF4 (by simp; omega))
              have HF := hide ((unhide HF).trans hF4)
              have HNb := hide ((unhide HNb).fr hF4 (by simp; omega))
              have hs4 := Nat.lt_of_lt_of_le hs4 hF4.size
              clear hC4 hF4 q0 q1 w0q
              have w0q := (unhide HNb)
              unfold Bx at w0q
              have q0 := (unhide HB) 0 _ rfl
              have q1 := (unhide HB) 1 _ rfl
              go_wp2_with fail
              clear q0 q1 w0q
              refine (psec_any (n := n) (hi := hi) (s := s) (P := fun b => W.heap.size + 2 < b) (nb := w3.heap.size) (unhide HC) (unhide HM) hc (by omega) (unhide HV) (by omega) (fun p hp hl => by have := unhide HAl p hp hl; omega) (unhide HD) (by omega) (by omega) (fun q => absurd q (by decide)) (unhide HNb) hs4 (by omega)).mono ?_
              rintro _ w5 ⟨s', vs', g', k5, e5, rfl, hR5, hV5, hD5, hC5, hM5, hF5⟩
              have HV := hide hV5
              have HD := hide (hD5.mono (P' := fun b => W.heap.size + 2 < b) (fun b _ hb => by rcases hb with hb | hb; exact hb.1; omega))
              have HB := hide ((unhide HB).fr hF5 (by simp; omega))
              have HR := hide ((unhide HR).fr hF5 (by simp; omega))
              have HC := hide hC5
              have HM := hide hM5
              have HF := hide ((unhide HF).thenL hF5 (by simp))
              have HR5 := hide hR5
              have hmz5 := mz_cs hC5
              have hk5 := hC5.2.2.2.2.1
              clear hV5 hD5 hC5 hM5 hF5 hR5
              go_wp2_with fail
              obtain ⟨rfl, rfl⟩ := (unhide HR5).dead (by decide)
              refine ⟨⟨n, s', vs', g', _, _, rfl, fun q => absurd q (by decide), unhide HV, unhide HD, unhide HB, unhide HR, unhide HC, unhide HM, unhide HF, fun s2 k' e' hr => by
                obtain ⟨rfl, rfl⟩ := hr.dead (by decide)
                exact unhide HK _ _ _ (rd_all_step (by omega) (unhide HDb) (rd_stp_bad (by omega)) (Rd.err _ (by decide)))⟩, ?_⟩
              rw [hmz, hmz5, if_neg (by decide)]
              omega
            · have hz : max hi n = n := by omega
              have w0q := (unhide HNb)
              unfold Bx at w0q
              have q0 := (unhide HB) 0 _ rfl
              have q1 := (unhide HB) 1 _ rfl
              go_wp2_with fail
              clear q0 q1 w0q
              refine (psec_any (n := n) (hi := hi) (s := s) (P := fun b => W.heap.size + 2 < b) (nb := w3.heap.size) (unhide HC) (unhide HM) hc (by omega) (unhide HV) (by omega) (fun p hp hl => by have := unhide HAl p hp hl; omega) (unhide HD) (by omega) (by omega) (fun _ => ⟨unhide HNn, by omega, by omega, by omega⟩) (unhide HNb) hs4 (by omega)).mono ?_
              rintro _ w5 ⟨s', vs', g', k5, e5, rfl, hR5, hV5, hD5, hC5, hM5, hF5⟩
              have HV := hide hV5
              have HD := hide (hD5.mono (P' := fun b => W.heap.size + 2 < b) (fun b _ hb => by rcases hb with hb | hb; exact hb.1; omega))
              have HB := hide ((unhide HB).fr hF5 (by simp; omega))
              have HR := hide ((unhide HR).fr hF5 (by simp; omega))
              have HC := hide hC5
              have HM := hide hM5
              have HF := hide ((unhide HF).thenL hF5 (by simp))
              have HR5 := hide hR5
              have hmz5 := mz_cs hC5
              have hk5 := hC5.2.2.2.2.1
              clear hV5 hD5 hC5 hM5 hF5 hR5
              go_wp2_with fail
              refine ⟨⟨n, s', vs', g', k5, e5, rfl, fun q => ⟨hz ▸ (unhide HNn).rd (by omega) (by omega) (by omega) (unhide HR5) q, by omega⟩, unhide HV, unhide HD, unhide HB, unhide HR, unhide HC, unhide HM, unhide HF, fun s2 k' e' hr => unhide HK _ _ _ (rd_all_step (by omega) (unhide HDb) (rd_stp_good (by omega) (unhide HR5)) (by rw [hz]; exact hr))⟩, ?_⟩
              rw [hmz, hmz5]
              have hkk := ((unhide HR5).live rfl).1
              split <;> omega
      · have hne : (e2 != 0) = true := by simpa using he
        clear hmz
        have hX := vr_cells (cs := vs) (unhide HR).room (unhide HR).lt (unhide HD).len
        have fZ := fr_cells (W.heap.size + 1) vs 0 w2
        have HZ := hide fZ
        have HXv := hide hX
        clear hX fZ
        have q0 := (unhide HB) 0 _ rfl
        have q1 := (unhide HB) 1 _ rfl
        go_wp2_with (first | (refine wpList_load_tab rfl 71 (.tmp 3) rfl (W.heap.size + 2) rfl vs _ (unhide HV).tab Tryz.underlying71 rfl (by rw [(unhide HD).len]; exact szP71) ?_) | (refine wpList_storeA rfl 71 (.tmp 2) (.tmp 34) rfl rfl (g := W.heap.size + 1) (off := 0) (cs := vs) rfl rfl (by rw [(unhide HD).len]; exact szP71) (fun j hj => by rw [Nat.zero_add]; exact (unhide HR).room j (by have := (unhide HD).len; omega)) (unhide HD).one ?_))
        generalize w2.setCells (W.heap.size + 1) 0 vs = wz at *
        refine bodyPost_ret (v := .agg vs.toArray) ?_ rfl ?_
        · exact results_cellP Tryz.results18 _ rfl (load_tab (unhide HXv).tab Tryz.underlying71 rfl (by rw [(unhide HD).len]; exact szP71))
        · exact ⟨vs, s, g, k2, e2, rfl, unhide HK _ _ _ (Rd.err s he), (unhide HD).fr (unhide HZ) (by simp) (fun q => q), (unhide HC).fr (unhide HZ) (by simp; omega) (fun p hp hl => by have := unhide HAl p hp hl; simp; omega), (unhide HM).fr (unhide HZ) (by simp; omega), (unhide HF).thenL (unhide HZ) (by simp)⟩
    · have hk' : decide ((0 : Int) < (len : Int) - (k2 : Int)) = false := decide_eq_false (by omega)
      clear hmz
      have hX := vr_cells (cs := vs) (unhide HR).room (unhide HR).lt (unhide HD).len
      have fZ := fr_cells (W.heap.size + 1) vs 0 w1
      have HZ := hide fZ
      have HXv := hide hX
      clear hX fZ
      have q0 := (unhide HB) 0 _ rfl
      have q1 := (unhide HB) 1 _ rfl
      go_wp2_with (first | (refine wpList_load_tab rfl 71 (.tmp 3) rfl (W.heap.size + 2) rfl vs _ (unhide HV).tab Tryz.underlying71 rfl (by rw [(unhide HD).len]; exact szP71) ?_) | (refine wpList_storeA rfl 71 (.tmp 2) (.tmp 34) rfl rfl (g := W.heap.size + 1) (off := 0) (cs := vs) rfl rfl (by rw [(unhide HD).len]; exact szP71) (fun j hj => by rw [Nat.zero_add]; exact (unhide HR).room j (by have := (unhide HD).len; omega)) (unhide HD).one ?_))
      generalize w1.setCells (W.heap.size + 1) 0 vs = wz at *
      refine bodyPost_ret (v := .agg vs.toArray) ?_ rfl ?_
      · exact results_cellP Tryz.results18 _ rfl (load_tab (unhide HXv).tab Tryz.underlying71 rfl (by rw [(unhide HD).len]; exact szP71))
      · exact ⟨vs, s, g, k2, e2, rfl, unhide HK _ _ _ (rd_all_end (by omega) e2), (unhide HD).fr (unhide HZ) (by simp) (fun q => q), (unhide HC).fr (unhide HZ) (by simp; omega) (fun p hp hl => by have := unhide HAl p hp hl; simp; omega), (unhide HM).fr (unhide HZ) (by simp; omega), (unhide HF).thenL (unhide HZ) (by simp)⟩
end
end Go.Proofs.YtjoonmpjcophnaaGreatDoor
namespace Go.Proofs.YtjoonmpjcophnaaGreatDoor
open Go.RowKit

theorem els_set {w : World} {P : Nat → Prop} {t : Int} : ∀ {L : List Fn} {cs : List Value} {i : Nat} {f : Fn}, Els eFn w P L cs → L[i]? = some f → Els eFn w P (L.set i (t, f.2)) (cs.set (i * 3) (.int .u32 t))
  | [], _, _, _, _, h => by cases h
  | x :: L, cs, 0, f, ⟨c, r, hc, ⟨v1, v2, h1, h2, h3⟩, hr⟩, h => by
    injection h with h
    subst h
    subst h1
    subst hc
    exact ⟨[.int .u32 t, v1, v2], r, rfl, ⟨v1, v2, rfl, h2, h3⟩, hr⟩
  | x :: L, cs, i + 1, f, ⟨c, r, hc, ⟨v1, v2, h1, h2, h3⟩, hr⟩, h => by
    subst h1
    subst hc
    have ih := els_set (t := t) (i := i) (f := f) hr h
    refine ⟨[.int .u32 x.1, v1, v2], r.set (i * 3) (.int .u32 t), ?_, ⟨v1, v2, rfl, h2, h3⟩, ih⟩
    rw [show (i + 1) * 3 = i * 3 + 3 by omega]
    rfl
theorem set_next : ∀ {T : List Int} {L : List Fn} {i : Nat} {t : Int}, T[i]? = some t → i < L.length → ∃ f, (setTypes (T.take i) L)[i]? = some f ∧ setTypes (T.take (i + 1)) L = (setTypes (T.take i) L).set i (t, f.2)
  | [], _, _, _, h, _ => by cases h
  | _ :: _, [], _, _, _, h => by cases h
  | t0 :: T, f0 :: L, 0, t, h, _ => by
    injection h with h
    subst h
    refine ⟨f0, rfl, ?_⟩
    show (t0, f0.2) :: setTypes (T.take 0) L = _
    rw [List.take_zero]
    cases L <;> rfl
  | t0 :: T, f0 :: L, i + 1, t, h, hl => by
    obtain ⟨f, h1, h2⟩ := set_next (T := T) (L := L) (i := i) (t := t) h (by simpa using hl)
    refine ⟨f, h1, ?_⟩
    show (t0, f0.2) :: setTypes (T.take (i + 1)) L = _
    rw [h2]
    rfl
/-- The functions' row, its types set so far. -/
structure Ft (w : World) (P : Nat → Prop) (g n : Nat) (e : Int) (L : List Fn) : Prop where
  room : Room g (n * 3) w
  cells : e = 0 → ∃ cs, Els eFn w (fun b => P b ∧ b ≠ g) L cs ∧ ∀ j u, cs[j]? = some u → w.cell? ⟨g, j, none⟩ = some u
theorem Ft.put {w : World} {P : Nat → Prop} {g n i : Nat} {e : Int} {L0 : List Fn} {T : List Int} {t : Int} (h : Ft w P g n e (setTypes (T.take i) L0)) (hT : T[i]? = some t) (hi : i < L0.length) : Ft (w.setCell ⟨g, i * 3, none⟩ (.int .u32 t)) P g n e (setTypes (T.take (i + 1)) L0) := by
  obtain ⟨f, h1, h2⟩ := set_next hT hi
  refine ⟨h.room.set _ _, fun q => ?_⟩
  obtain ⟨cs, a, b⟩ := h.cells q
  have hf : Fr [g] w (w.setCell ⟨g, i * 3, none⟩ (.int .u32 t)) := (Fr.refl _ _).place _ _
  rw [h2]
  refine ⟨cs.set (i * 3) (.int .u32 t), els_set (a.fr hf (by simp)) h1, fun j u hj => ?_⟩
  by_cases hj3 : j = i * 3
  · subst hj3
    have hlt : i * 3 < cs.length := by
      have := (List.getElem?_eq_some_iff.1 hj).1
      rwa [List.length_set] at this
    rw [List.getElem?_set_self hlt] at hj
    injection hj with hj
    subst hj
    exact World.cell?_setCell_same _ _ _ (b _ _ (List.getElem?_eq_getElem hlt))
  · rw [List.getElem?_set_ne (by omega)] at hj
    rw [World.cell?_setCell_other _ _ _ _ (fun hh => by injection hh with _ hh; omega)]
    exact b j u hj
theorem set_nil : ∀ (T : List Int), setTypes T [] = []
  | [] => rfl
  | _ :: _ => rfl
/-- A module's cells, of a draft's. -/
theorem Dr.mor {w : World} {P P' : Nat → Prop} {s : St} {vs : List Value} {L : List Fn} (h : Dr w P' ({ s.1 with funcs := [] }, s.2) (vs.set 2 (.slice none 0 0))) (hl : vs.length = 12) (k : ∀ b, b < w.heap.size → P' b → P b) {v2 : Value} (hv : vs[2]? = some v2) (hS : Sls eFn w P L v2) : MoR w P { s.1 with funcs := L } (vs.take 11) := by
  obtain ⟨v0, v1, u2, v3, v4, v5, v6, v9, v10, v11, hh, a, b, c, d, e, f, g', i, j, m⟩ := h.ex
  have e0 : vs = [v0, v1, v2, v3, v4, v5, v6, .bool s.1.starts, .int .u32 s.1.start, v9, v10, v11] := by
    match vs, hl with
    | [w0, w1, w2, w3, w4, w5, w6, w7, w8, w9, w10, w11], _ =>
      injection hv with hv
      subst hv
      simp only [List.set_cons_succ, List.set_cons_zero, List.cons.injEq, and_true] at hh
      obtain ⟨rfl, rfl, rfl, rfl, rfl, rfl, rfl, rfl, rfl, rfl, rfl, rfl⟩ := hh
      rfl
  subst e0
  exact ⟨⟨v0, v1, v2, v3, v4, v5, v6, v9, v10, rfl, a.mono k, b.mono k, hS, d.mono k, e.mono k, f.mono k, g'.mono k, i.mono k, j.mono k⟩⟩
theorem Ft.sls {w : World} {P : Nat → Prop} {g n : Nat} {L : List Fn} (h : Ft w P g n 0 L) (hn : L.length = n) (hg : P g) : Sls eFn w P L (.slice (some ⟨g, 0, none⟩) n n) := by
  obtain ⟨cs, h1, h2⟩ := h.cells rfl
  refine ⟨cs, h1.mono (fun b _ hb => hb.1), some ⟨g, 0, none⟩, n, by rw [hn], by omega, ?_, ?_⟩
  · have := h1.len
    constructor
    · intro h0
      rw [h0, Nat.zero_mul] at this
      exact List.length_eq_zero_iff.1 this
    · intro h0
      rw [h0, List.length_nil] at this
      have hk : eFn.k = 3 := rfl
      rw [hk] at this
      omega
  · exact .inr ⟨g, 0, rfl, fun _ => hg, fun j u hj => by rw [Nat.zero_add]; exact h2 j u hj⟩
section
variable {db g : Nat} {P : Nat → Prop} {W : World} {s : St} {vs : List Value} {e : Int}
set_option maxHeartbeats 8000000 in
set_option maxRecDepth 100000 in
theorem complete_any (hv : Vr db 12 vs W) (hD : DS W P g e s vs) (hPd : ¬ P db) : Calls Tryz.prog 19 #[.pointer (some ⟨db, 0, none⟩)] W fun r W' => ∃ (b : Bool) (l : List Nat), r = .returned (.bool b) ∧ (e = 0 → b = decide (s.2.length = s.1.funcs.length)) ∧ (b = true → e = 0 → MoR W' P { s.1 with funcs := setTypes s.2 s.1.funcs } (vs.take 11)) ∧ Vr db 12 vs W' ∧ Fr l W W' ∧ ∀ i ∈ l, P i := by
  obtain ⟨L, v2, h2, hX, hL⟩ := hD.fns
  obtain ⟨T, v11, h11, hS, hTl, hT⟩ := hD.fty
  obtain ⟨a11, c11, rfl, -, hSo⟩ := hS.open
  obtain ⟨p2, s2, rfl⟩ : ∃ p2 s2, v2 = .slice p2 L.length s2 := by
    rcases hX.ex with ⟨h, h'⟩ | ⟨h, _⟩
    · exact ⟨none, 0, by rw [h, h']; rfl⟩
    · exact ⟨_, _, h⟩
  have z2 := hv.tab 2 _ h2
  have z11 := hv.tab 11 _ h11
  have hlb : e = 0 → s.2.length = T.length ∧ s.1.funcs.length = L.length := fun q => ⟨by rw [hT q], by rw [hL q]⟩
  have HV := hide hv
  have HD := hide hD
  have HSo := hide hSo
  have HX := hide hX
  have HLT := hide (And.intro hL hT)
  have HH2 := hide h2
  have Hlb := hide hlb
  clear hv hD hS hSo hX hL hT h2 h11 hlb
  go_enter Tryz.func19, Tryz.ntmps19
  go_wp2_with fail
  refine wp_region_held_drew (S := fun w' => w'.cell? ⟨db, 2, none⟩ = some (.slice p2 L.length s2) ∧ w'.cell? ⟨db, 11, none⟩ = some (.slice a11 T.length c11)) (by kernel_rfl) ?_ (fun hHeld => ?_)
  · (try dsimp only)
    exact ⟨z2, z11⟩
  refine lst0 12 (by kernel_rfl) ?_
  refine tkA 0 5 1 ?_
  refine tkA 1 6 3 ?_
  refine tkA 2 7 7 ?_
  refine tkA 3 8 15 ?_
  refine tkA 4 9 31 ?_
  refine tkA 5 10 63 ?_
  refine tkA 6 11 127 ?_
  refine tkA 7 12 255 ?_
  refine tkA 8 13 511 ?_
  refine tkA 9 14 1023 ?_
  refine tkA 10 15 2047 ?_
  refine tkA 11 16 4095 ?_
  refine wpAnyH_done (by kernel_rfl) ?_ _
  have hdr : Fr [] W W.drew := (Fr.refl [] W).drew
  have HV := hide ((unhide HV).fr hdr (by simp))
  have HD := hide ((unhide HD).fr hdr (by simp) (fun q => q))
  have HX := hide ((unhide HX).fr hdr (by simp) (fun q => q))
  have HF := hide hdr
  have z2 : W.drew.cell? ⟨db, 2, none⟩ = some (.slice p2 L.length s2) := z2
  have z11 : W.drew.cell? ⟨db, 11, none⟩ = some (.slice a11 T.length c11) := z11
  have HSo : Hid (T.length = 0 ∨ ∃ b off, a11 = some ⟨b, off, none⟩ ∧ (P b ∧ b ≠ g) ∧ ∀ i x, T[i]? = some x → ∃ c, eU.rep W (fun b => P b ∧ b ≠ g) x c ∧ ∀ j, j < eU.k → W.drew.cell? ⟨b, off + i * eU.k + j, none⟩ = c[j]?) := HSo
  clear hdr hHeld
  generalize W.drew = w0 at *
  by_cases hne : T.length = L.length
  · have hne' : ((T.length : Int) != (L.length : Int)) = false := by simp [hne]
    have hne2 : (T.length : Int) = (L.length : Int) := by omega
    rcases (unhide HX).ex with ⟨hnil, hL0⟩ | ⟨hrow, hPg, hgl, hroom, hcells⟩
    · subst hL0
      obtain rfl : T = [] := List.length_eq_zero_iff.1 hne
      have h2n : vs[2]? = some (.slice none 0 0) := by rw [unhide HH2, hnil]
      have H2n := hide h2n
      clear hnil h2n
      go_wp2_with fail
      go_loopw [22] (fun v22 wr => v22 = .int .i64 0 ∧ wr = w0) (fun _ _ => 0)
      case atStart => exact ⟨rfl, rfl⟩
      case round =>
        obtain ⟨rfl, rfl⟩ := hrel
        go_wp2_with fail
        go_ret
        refine ⟨true, [], rfl, fun q => by rw [(unhide Hlb q).1, (unhide Hlb q).2]; rfl, fun _ q => ?_, unhide HV, unhide HF, by simp⟩
        subst q
        have h1 := (unhide HLT).1 rfl
        rw [← h1, set_nil]
        exact ((unhide HD).rest rfl).mor (unhide HD).len (fun b _ hb => hb.1) (unhide H2n) (sls_nil _ _)
    · injection hrow with hr1 hr2 hr3
      subst hr1
      subst hr3
      have hdg : db ≠ g := fun q => hPd (q ▸ hPg)
      have HFt : Hid (Ft w0 P g L.length e (setTypes (T.take 0) L)) := hide ⟨hroom, fun q => by
        rw [List.take_zero, show setTypes [] L = L by cases L <;> rfl]
        exact hcells q⟩
      clear hroom hcells
      go_wp2_with fail
      clear z2 z11
      go_loopw [22] (fun v22 wr => ∃ i : Nat, i ≤ T.length ∧ v22 = .int .i64 (i : Int) ∧ Ft wr P g L.length e (setTypes (T.take i) L) ∧ Fr [g] w0 wr) (fun v22 _ => T.length - (intOf v22).toNat)
      case atStart => exact ⟨0, Nat.zero_le _, rfl, unhide HFt, Fr.refl _ _⟩
      case round =>
        obtain ⟨i, hi, rfl, hFt, hFr⟩ := hrel
        clear HFt
        have hV := (unhide HV).fr hFr (by simpa using hdg)
        have z2 := hV.tab 2 _ (unhide HH2)
        by_cases hlt : i < T.length
        · have hi' : (i : Int) < (T.length : Int) := by omega
          have hi2 : (i : Int) < (L.length : Int) := by omega
          have hi3 : (0 : Int) ≤ (i : Int) := by omega
          have hi4 : i < L.length := by omega
          rcases unhide HSo with h0 | ⟨b1, o1, rfl, ⟨hb1, hb2⟩, k1⟩
          · omega
          have hx := List.getElem?_eq_getElem hlt
          obtain ⟨_, rfl, k1⟩ := k1 i T[i] hx
          have g10 := hFr.keep (k1 0 (by decide)) (by simpa using hb2)
          change wr.cell? ⟨b1, o1 + i * 1, none⟩ = some (.int .u32 T[i]) at g10
          rw [Nat.mul_one] at g10
          have HFt := hide (hFt.put hx hi4)
          obtain ⟨⟨u, r0⟩, gz⟩ := hFt.room (i * 3) (by omega)
          generalize T[i] = t at *
          have HFr := hide hFr
          clear k1 hFt hFr hV hx
          go_wp2_with fail
          exact ⟨⟨i + 1, by omega, by go_num, unhide HFt, (unhide HFr).place _ _⟩, by simp [intOf]; omega⟩
        · obtain rfl : i = T.length := by omega
          rw [List.take_length] at hFt
          have HFt := hide hFt
          have HFr := hide hFr
          have HVn := hide hV
          clear hFt hFr hV
          go_wp2_with fail
          go_ret
          refine ⟨true, [g], rfl, fun q => by rw [(unhide Hlb q).1, (unhide Hlb q).2, decide_eq_true hne], fun _ q => ?_, unhide HVn, ((unhide HF).mono (by simp)).trans (unhide HFr), by simpa using hPg⟩
          subst q
          have h1 := (unhide HLT).1 rfl
          have h2 := (unhide HLT).2 rfl
          rw [← h1, ← h2]
          exact (((unhide HD).rest rfl).fr (unhide HFr) (by simp)).mor (unhide HD).len (fun b _ hb => hb.1) (unhide HH2) ((unhide HFt).sls (set_len _ _) hPg)
  · have hne' : ((T.length : Int) != (L.length : Int)) = true := by simp; omega
    go_wp2_with fail
    go_ret
    exact ⟨false, [], rfl, fun q => by rw [(unhide Hlb q).1, (unhide Hlb q).2, decide_eq_false hne], fun q => (by cases q), unhide HV, unhide HF, by simp⟩
end
end Go.Proofs.YtjoonmpjcophnaaGreatDoor
namespace Go.Proofs.YtjoonmpjcophnaaGreatDoor
open Go.RowKit

theorem str_eq {xs ys : List Int} (hx : Byt xs) (hy : Byt ys) : ((strOfNums xs).toList == (strOfNums ys).toList) = decide (xs = ys) := by
  rw [ByteArray.toList_eq, ByteArray.toList_eq, strOfNums_data, strOfNums_data]
  by_cases h : xs = ys
  · rw [h]; simp
  · rw [decide_eq_false h]
    apply beq_eq_false_iff_ne.2
    intro hh
    refine h ?_
    apply List.ext_getElem?
    intro i
    have hi := congrArg (fun l => l[i]?) hh
    simp only [List.getElem?_map] at hi
    cases h1 : xs[i]? with
    | none =>
      rw [h1] at hi
      cases h2 : ys[i]? with
      | none => rfl
      | some y => rw [h2] at hi; cases hi
    | some x =>
      rw [h1] at hi
      cases h2 : ys[i]? with
      | none => rw [h2] at hi; cases hi
      | some y =>
        rw [h2] at hi
        simp only [Option.map_some, Option.some.injEq] at hi
        have bx := hx x (List.mem_of_getElem? h1)
        have by' := hy y (List.mem_of_getElem? h2)
        have := congrArg UInt8.toNat hi
        rw [UInt8.toNat_ofNat', UInt8.toNat_ofNat'] at this
        congr 1
        omega
section
variable {W : World}
set_option maxHeartbeats 2000000 in
set_option maxRecDepth 100000 in
theorem equal_any {a1 a2 : Option Addr} {l1 l2 c1 c2 : Nat} {xs ys : List Int} (h1 : Sl W a1 l1 c1 xs) (h2 : Sl W a2 l2 c2 ys) (hx : Byt xs) (hy : Byt ys) : Calls Tryz.prog 45 #[.slice a1 l1 c1, .slice a2 l2 c2] W fun r W' => r = .returned (.bool (decide (xs = ys))) ∧ W' = W := by
  have r1 := conv_run h1
  have r2 := conv_run h2
  have HE := hide (str_eq hx hy)
  clear h1 h2 hx hy
  go_enter Tryz.func45, Tryz.ntmps45
  go_wp2_with fail
  go_ret
  exact ⟨by rw [← unhide HE]; rfl, rfl⟩
theorem byt_magic : Byt magic := fun x hx => by
  simp only [magic, List.mem_cons, List.not_mem_nil, or_false] at hx
  rcases hx with rfl | rfl | rfl | rfl | rfl | rfl | rfl | rfl <;> decide
set_option maxHeartbeats 2000000 in
set_option maxRecDepth 100000 in
theorem prefix_any {a : Option Addr} {len cap mb : Nat} {xs : List Int} (h : Sl W a len cap xs) (hx : Byt xs) (h2 : Sl W (some ⟨mb, 0, none⟩) 8 8 magic) : Calls Tryz.prog 17 #[.slice a len cap, .slice (some ⟨mb, 0, none⟩) 8 8] W fun r W' => r = .returned (.bool (decide (xs.take 8 = magic))) ∧ W' = W := by
  have hl := h.1
  have hc := h.2.1
  by_cases h8 : 8 ≤ len
  · rcases h.2.2.2 with ⟨-, h0, -⟩ | ⟨b, off, rfl, h4⟩
    · omega
    · have hs : Sl W (some ⟨b, off, none⟩) 8 cap (xs.take 8) := ⟨by rw [List.length_take]; omega, by omega, by omega, .inr ⟨b, off, rfl, fun j hj => by rw [h4 j (by omega), List.getD_eq_getElem?_getD, List.getD_eq_getElem?_getD, List.getElem?_take, if_pos hj]⟩⟩
      have HX := hide (equal_any hs h2 (byt_take hx 8) byt_magic)
      have h8' : (8 : Int) ≤ (len : Int) := by omega
      have h9 : ¬ (len : Int) < 8 := by omega
      have h10 : 8 ≤ cap := by omega
      clear h h2 hs hx h4
      go_enter Tryz.func17, Tryz.ntmps17
      go_wp2_with fail
      refine (unhide HX).mono ?_
      rintro _ w ⟨rfl, rfl⟩
      go_wp2_with fail
      go_ret
      exact ⟨rfl, rfl⟩
  · have hd : decide (xs.take 8 = magic) = false := decide_eq_false (fun q => by
      have := congrArg List.length q
      rw [List.length_take, show magic.length = 8 from rfl] at this
      omega)
    have HD := hide hd
    have h8' : decide ((8 : Int) ≤ (len : Int)) = false := decide_eq_false (by omega)
    clear h h2 hx hd
    go_enter Tryz.func17, Tryz.ntmps17
    go_wp2_with fail
    go_ret
    exact ⟨by rw [unhide HD]; rfl, rfl⟩
end
end Go.Proofs.YtjoonmpjcophnaaGreatDoor
