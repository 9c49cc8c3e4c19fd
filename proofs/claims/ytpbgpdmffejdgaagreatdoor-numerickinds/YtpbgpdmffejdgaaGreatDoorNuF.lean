/- Apply by groups of opcodes. -/
import Derived.Test.YtpbgpdmffejdgaaGreatDoorNuB
import Derived.Test.YtpbgpdmffejdgaaGreatDoorNuE
import Derived.Test.YtpbgpdmffejdgaaGreatDoorInK
namespace Go.Proofs.YtpbgpdmffejdgaaGreatDoor
open Go.RowKit

/-- What Apply answers. -/
def Ap (op a b r t : Int) : Prop := Cm 13 #[.int .i64 op, .int .u64 a, .int .u64 b] (.tuple #[.int .u64 r, .int .i64 t])
theorem wm_32 : Wm 32 32 2147483648 4294967296 := Or.inl ⟨rfl, rfl, rfl, rfl⟩
theorem wm_64 : Wm 64 64 9223372036854775808 18446744073709551616 := Or.inr ⟨rfl, rfl, rfl, rfl⟩
theorem wid {t w : Int} (h : t = 127 ∨ t = 126 ∨ t = 125 ∨ t = 124) (e : wdT t = w) : Ct 33 #[.int .u8 t] (.int .i64 w) := e ▸ width_l h
theorem ap_aski {op k w a b : Int} {n : Nat} {H M : Int} {so : Bool} (kw : Wm w n H M) (ha : Rg a) (hb : Rg b) (h : op - 69 = k ∧ w = 32 ∨ op - 80 = k ∧ w = 64) (k0 : 0 ≤ k) (k1 : k < 11) (HQ : Cm 35 #[.int .i64 k, .int .i64 w, .int .u64 (a % M), .int .u64 (b % M)] (.bool so)) : Ap op a b (if so then 1 else 0) 0 := by
  rcases h with ⟨h, rfl⟩ | ⟨h, rfl⟩
  · have HF := find_0 (op := op) (by omega) (by omega)
    rw [h] at HF
    exact app_w HF (types_0 _ _ _ _).m (wid (w := 32) (by decide) rfl) (wid (w := 32) (by decide) rfl) (cut_K kw ha) (cut_K kw hb) (Or.inl ⟨rfl, rfl, so, HQ, truth_l so⟩)
  · have HF := find_1 (op := op) (by omega) (by omega)
    rw [h] at HF
    exact app_w HF (types_0 _ _ _ _).m (wid (w := 64) (by decide) rfl) (wid (w := 32) (by decide) rfl) (cut_K kw ha) (cut_K kw hb) (Or.inl ⟨rfl, rfl, so, HQ, truth_l so⟩)
theorem ap_askf {op k w a b : Int} {n : Nat} {H M : Int} {so : Bool} (kw : Wm w n H M) (ha : Rg a) (hb : Rg b) (h : op - 91 = k ∧ w = 32 ∨ op - 97 = k ∧ w = 64) (k0 : 0 ≤ k) (k1 : k < 6) (HQ : Cm 36 #[.int .i64 k, .int .i64 w, .int .u64 (a % M), .int .u64 (b % M)] (.bool so)) : Ap op a b (if so then 1 else 0) 0 := by
  rcases h with ⟨h, rfl⟩ | ⟨h, rfl⟩
  · have HF := find_2 (op := op) (by omega) (by omega)
    rw [h] at HF
    exact app_w HF (types_1 _ _ _ _).m (wid (w := 32) (by decide) rfl) (wid (w := 32) (by decide) rfl) (cut_K kw ha) (cut_K kw hb) (Or.inr (Or.inl ⟨rfl, rfl, so, HQ, truth_l so⟩))
  · have HF := find_3 (op := op) (by omega) (by omega)
    rw [h] at HF
    exact app_w HF (types_1 _ _ _ _).m (wid (w := 64) (by decide) rfl) (wid (w := 32) (by decide) rfl) (cut_K kw ha) (cut_K kw hb) (Or.inr (Or.inl ⟨rfl, rfl, so, HQ, truth_l so⟩))
theorem ap_makei {op k w a b : Int} {n : Nat} {H M : Int} {r t : Int} (kw : Wm w n H M) (ha : Rg a) (hb : Rg b) (h : op - 103 = k ∧ w = 32 ∨ op - 121 = k ∧ w = 64) (k0 : 0 ≤ k) (k1 : k < 18) (HQ : Cm 37 #[.int .i64 k, .int .i64 w, .int .u64 (a % M), .int .u64 (b % M)] (.tuple #[.int .u64 r, .int .i64 t])) : Ap op a b r t := by
  rcases h with ⟨h, rfl⟩ | ⟨h, rfl⟩
  · have HF := find_4 (op := op) (by omega) (by omega)
    rw [h] at HF
    exact app_w HF (types_2 _ _ _ _).m (wid (w := 32) (by decide) rfl) (wid (w := 32) (by decide) rfl) (cut_K kw ha) (cut_K kw hb) (Or.inr (Or.inr (Or.inl ⟨rfl, HQ⟩)))
  · have HF := find_5 (op := op) (by omega) (by omega)
    rw [h] at HF
    exact app_w HF (types_2 _ _ _ _).m (wid (w := 64) (by decide) rfl) (wid (w := 64) (by decide) rfl) (cut_K kw ha) (cut_K kw hb) (Or.inr (Or.inr (Or.inl ⟨rfl, HQ⟩)))
theorem ap_makef {op k w a b : Int} {n : Nat} {H M : Int} {r : Int} (kw : Wm w n H M) (ha : Rg a) (hb : Rg b) (h : op - 139 = k ∧ w = 32 ∨ op - 153 = k ∧ w = 64) (k0 : 0 ≤ k) (k1 : k < 14) (HQ : Cm 38 #[.int .i64 k, .int .i64 w, .int .u64 (a % M), .int .u64 (b % M)] (.int .u64 r)) : Ap op a b r 0 := by
  rcases h with ⟨h, rfl⟩ | ⟨h, rfl⟩
  · have HF := find_6 (op := op) (by omega) (by omega)
    rw [h] at HF
    exact app_w HF (types_3 _ _ _ _).m (wid (w := 32) (by decide) rfl) (wid (w := 32) (by decide) rfl) (cut_K kw ha) (cut_K kw hb) (Or.inr (Or.inr (Or.inr (Or.inl ⟨rfl, rfl, HQ⟩))))
  · have HF := find_7 (op := op) (by omega) (by omega)
    rw [h] at HF
    exact app_w HF (types_3 _ _ _ _).m (wid (w := 64) (by decide) rfl) (wid (w := 64) (by decide) rfl) (cut_K kw ha) (cut_K kw hb) (Or.inr (Or.inr (Or.inr (Or.inl ⟨rfl, rfl, HQ⟩))))
theorem ap_chg {op w v a b ti tu r t : Int} {k n : Nat} {H M : Int} (hx : cL[k * 2]? = some (.int .u8 ti)) (hy : cL[k * 2 + 1]? = some (.int .u8 tu)) (h1 : ti = 127 ∨ ti = 126 ∨ ti = 125 ∨ ti = 124) (h2 : tu = 127 ∨ tu = 126 ∨ tu = 125 ∨ tu = 124) (hw : wdT ti = w) (hv : wdT tu = v) (kw : Wm w n H M) (ha : Rg a) (hb : Rg b) (h : op - 167 = (k : Int)) (hk : k < 25) (HQ : Cm 39 #[.int .i64 (k : Int), .int .i64 w, .int .i64 v, .int .u64 (a % M)] (.tuple #[.int .u64 r, .int .i64 t])) : Ap op a b r t := by
  have HF := find_8 (op := op) (by omega) (by omega)
  rw [h] at HF
  exact app_w HF (types_4 _ _ _ hk hx hy) (wid h1 hw) (wid h2 hv) (cut_K kw ha) (cut_K kw hb) (Or.inr (Or.inr (Or.inr (Or.inr (Or.inl ⟨rfl, HQ⟩)))))
theorem ap_stop {op w v a b ti tu r t : Int} {k n : Nat} {H M : Int} (hx : sL[k * 2]? = some (.int .u8 ti)) (hy : sL[k * 2 + 1]? = some (.int .u8 tu)) (h1 : ti = 127 ∨ ti = 126 ∨ ti = 125 ∨ ti = 124) (h2 : tu = 127 ∨ tu = 126 ∨ tu = 125 ∨ tu = 124) (hw : wdT ti = w) (hv : wdT tu = v) (kw : Wm w n H M) (ha : Rg a) (hb : Rg b) (h : op - 64512 = (k : Int)) (hk : k < 8) (ht : t = 0) (HQ : Cm 40 #[.int .i64 (k : Int), .int .i64 w, .int .i64 v, .int .u64 (a % M)] (.int .u64 r)) : Ap op a b r t := by
  have HF := find_9 (op := op) (by omega) (by omega)
  rw [h] at HF
  exact app_w HF (types_5 _ _ _ hk hx hy) (wid h1 hw) (wid h2 hv) (cut_K kw ha) (cut_K kw hb) (Or.inr (Or.inr (Or.inr (Or.inr (Or.inr ⟨rfl, ht, HQ⟩)))))
theorem find_none {op : Int} (h : op < 69 ∨ (192 ≤ op ∧ op < 64512) ∨ (64520 ≤ op ∧ op ≤ 9223372036854775807)) : Cm 24 #[.int .i64 op] (.tuple #[.agg #[.int .i64 0, .int .i64 0, .int .i64 0, .int .u8 0], .int .i64 0, .bool false]) := by
  rcases h with h | ⟨h, h'⟩ | ⟨h, h'⟩
  · exact find_lo h
  · exact find_mi h h'
  · exact find_hi h h'
theorem ap_none {op a b : Int} (h : op < 69 ∨ (192 ≤ op ∧ op < 64512) ∨ (64520 ≤ op ∧ op ≤ 9223372036854775807)) : Ap op a b 0 0 := app_no (find_none h)
end Go.Proofs.YtpbgpdmffejdgaaGreatDoor
