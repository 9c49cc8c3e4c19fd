/- InK, NuF, LawN0, LawN1, NuG, NuQ. -/
import Derived.Test.YtpbgpdmffejdgabGreatDoorS01
import Derived.Test.YtpbgpdmffejdgabGreatDoorS09
import Derived.Test.YtpbgpdmffejdgabGreatDoorS11
import Derived.Test.YtpbgpdmffejdgabGreatDoorS15
import Derived.Test.YtpbgpdmffejdgabGreatDoorS22
import Derived.Test.YtpbgpdmffejdgabGreatDoorS23
import Derived.Test.YtpbgpdmffejdgabGreatDoorS26
import Derived.Test.YtpbgpdmffejdgabGreatDoorS36
import Derived.Laws.Bits128
import Derived.Laws.BitsAllLaws
import Derived.Laws.Bits64b
import Derived.LoopN
namespace Go.Proofs.YtpbgpdmffejdgabGreatDoor
open Go.RowKit

/-- A width, its number of bits, half of its room and the whole. -/
def Wm (w : Int) (n : Nat) (H M : Int) : Prop := (w = 32 ∧ n = 32 ∧ H = 2147483648 ∧ M = 4294967296) ∨ (w = 64 ∧ n = 64 ∧ H = 9223372036854775808 ∧ M = 18446744073709551616)
def No (w : Int) : Prop := ¬ w = 32 ∧ ¬ w = 64
theorem Wm.kd {w H M : Int} {n : Nat} (k : Wm w n H M) : ∃ e f P Q b, Kd w e f P Q b ∧ P * Q = H := by
  rcases k with ⟨rfl, -, rfl, -⟩ | ⟨rfl, -, rfl, -⟩
  · exact ⟨_, _, _, _, _, Or.inl ⟨rfl, rfl, rfl, rfl, rfl, rfl⟩, rfl⟩
  · exact ⟨_, _, _, _, _, Or.inr ⟨rfl, rfl, rfl, rfl, rfl, rfl⟩, rfl⟩
theorem Wm.two {w H M : Int} {n : Nat} (k : Wm w n H M) : M = 2 * H ∧ M = ((2 ^ n : Nat) : Int) ∧ w = (n : Int) ∧ 32 ≤ n ∧ n ≤ 64 ∧ 0 < M ∧ M ≤ 18446744073709551616 := by
  rcases k with ⟨rfl, rfl, rfl, rfl⟩ | ⟨rfl, rfl, rfl, rfl⟩ <;> decide +kernel
theorem Wm.half {w H M : Int} {n : Nat} (k : Wm w n H M) : H = ((2 ^ (n - 1) : Nat) : Int) := by
  rcases k with ⟨rfl, rfl, rfl, rfl⟩ | ⟨rfl, rfl, rfl, rfl⟩ <;> decide +kernel
theorem No.wd {w : Int} (h : No w) : Wd w 0 0 1 1 (-1) := Or.inr (Or.inr ⟨h, rfl, rfl, rfl, rfl, rfl⟩)
theorem Wm.cut {w H M : Int} {n : Nat} (k : Wm w n H M) (a : Int) : 0 ≤ a % M ∧ a % M < M := ⟨Int.emod_nonneg _ (by have := k.two; omega), Int.emod_lt_of_pos _ k.two.2.2.2.2.2.1⟩
def Rg (a : Int) : Prop := 0 ≤ a ∧ a < 18446744073709551616
theorem Wm.rg {w H M : Int} {n : Nat} (k : Wm w n H M) (a : Int) : Rg (a % M) := ⟨(k.cut a).1, Int.lt_of_lt_of_le (k.cut a).2 k.two.2.2.2.2.2.2⟩
theorem cut_K {w H M : Int} {n : Nat} (k : Wm w n H M) {a : Int} (ha : Rg a) : Ct 11 #[.int .i64 w, .int .u64 a] (.int .u64 (a % M)) := by
  obtain ⟨e, f, P, Q, b, kd, hH⟩ := k.kd
  have h := fun W => cut_any a kd.wd W ha.1 ha.2
  rw [show cutN f P Q a = a % M by unfold cutN; rw [if_neg kd.f0, hH, k.two.1]] at h
  exact hide h
theorem d2 {y q : Nat} (h : y / 2 = q) : (y : Int) / 2 = q := by omega
theorem d4 {y q : Nat} (h : y / 4 = q) : (y : Int) / 4 = q := by omega
end Go.Proofs.YtpbgpdmffejdgabGreatDoor
namespace Go.Proofs.YtpbgpdmffejdgabGreatDoor
open Go.RowKit

/-- What Apply answers. -/
def Ap (op a b r t : Int) : Prop := Cm 4 #[.int .i64 op, .int .u64 a, .int .u64 b] (.tuple #[.int .u64 r, .int .i64 t])
theorem wm_32 : Wm 32 32 2147483648 4294967296 := Or.inl ⟨rfl, rfl, rfl, rfl⟩
theorem wm_64 : Wm 64 64 9223372036854775808 18446744073709551616 := Or.inr ⟨rfl, rfl, rfl, rfl⟩
theorem wid {t w : Int} (h : t = 127 ∨ t = 126 ∨ t = 125 ∨ t = 124) (e : wdT t = w) : Ct 10 #[.int .u8 t] (.int .i64 w) := e ▸ width_l h
theorem ap_makef {op k w a b : Int} {n : Nat} {H M : Int} {r : Int} (kw : Wm w n H M) (ha : Rg a) (hb : Rg b) (h : op - 139 = k ∧ w = 32 ∨ op - 153 = k ∧ w = 64) (k0 : 0 ≤ k) (k1 : k < 14) (HQ : Cm 16 #[.int .i64 k, .int .i64 w, .int .u64 (a % M), .int .u64 (b % M)] (.int .u64 r)) : Ap op a b r 0 := by
  rcases h with ⟨h, rfl⟩ | ⟨h, rfl⟩
  · have HF := find_6 (op := op) (by omega) (by omega)
    rw [h] at HF
    exact app_w HF (types_3 _ _ _ _).m (wid (w := 32) (by decide) rfl) (wid (w := 32) (by decide) rfl) (cut_K kw ha) (cut_K kw hb) (Or.inr (Or.inr (Or.inr (Or.inl ⟨rfl, rfl, HQ⟩))))
  · have HF := find_7 (op := op) (by omega) (by omega)
    rw [h] at HF
    exact app_w HF (types_3 _ _ _ _).m (wid (w := 64) (by decide) rfl) (wid (w := 64) (by decide) rfl) (cut_K kw ha) (cut_K kw hb) (Or.inr (Or.inr (Or.inr (Or.inl ⟨rfl, rfl, HQ⟩))))
theorem ap_chg {op w v a b ti tu r t : Int} {k n : Nat} {H M : Int} (hx : cL[k * 2]? = some (.int .u8 ti)) (hy : cL[k * 2 + 1]? = some (.int .u8 tu)) (h1 : ti = 127 ∨ ti = 126 ∨ ti = 125 ∨ ti = 124) (h2 : tu = 127 ∨ tu = 126 ∨ tu = 125 ∨ tu = 124) (hw : wdT ti = w) (hv : wdT tu = v) (kw : Wm w n H M) (ha : Rg a) (hb : Rg b) (h : op - 167 = (k : Int)) (hk : k < 25) (HQ : Cm 17 #[.int .i64 (k : Int), .int .i64 w, .int .i64 v, .int .u64 (a % M)] (.tuple #[.int .u64 r, .int .i64 t])) : Ap op a b r t := by
  have HF := find_8 (op := op) (by omega) (by omega)
  rw [h] at HF
  exact app_w HF (types_4 _ _ _ hk hx hy) (wid h1 hw) (wid h2 hv) (cut_K kw ha) (cut_K kw hb) (Or.inr (Or.inr (Or.inr (Or.inr (Or.inl ⟨rfl, HQ⟩)))))
theorem find_none {op : Int} (h : op < 69 ∨ (192 ≤ op ∧ op < 64512) ∨ (64520 ≤ op ∧ op ≤ 9223372036854775807)) : Cm 8 #[.int .i64 op] (.tuple #[.agg #[.int .i64 0, .int .i64 0, .int .i64 0, .int .u8 0], .int .i64 0, .bool false]) := by
  rcases h with h | ⟨h, h'⟩ | ⟨h, h'⟩
  · exact find_lo h
  · exact find_mi h h'
  · exact find_hi h h'
end Go.Proofs.YtpbgpdmffejdgabGreatDoor
namespace Go.Proofs.YtpbgpdmffejdgabGreatDoor
open Go.RowKit

set_option maxHeartbeats 4000000 in
set_option maxRecDepth 100000 in
theorem tnans_0 {op a b r c : Int} {z p q : Bool} (H0 : Ap 146 2139095041 0 2143289344 0) (HK : Cm 5 #[.int .i64 op] (.tuple #[.int .u8 125, .int .i64 c, .int .u8 125, .bool true])) (n139 : (op == 139) = false) (n140 : (op == 140) = false) (n152 : (op == 152) = false) (n153 : (op == 153) = false) (n154 : (op == 154) = false) (n166 : (op == 166) = false) (H1 : Ap op a b r 0) (HI : Ct 6 #[.int .i64 32, .int .u64 r] (.bool z)) (HN : Ct 7 #[.int .i64 32] (.int .u64 2143289344)) (HA : Ct 6 #[.int .i64 32, .int .u64 a] (.bool p)) (HC : Ct 6 #[.int .i64 32, .int .u64 b] (.bool q))
    (hc : c = 1 ∨ c = 2) (hz : z = true → (r == 2143289344) = true ∧ (r != 2143289344) = false) (hp : p = true ∨ c = 2 ∧ q = true → (r == 2143289344) = true) : Cm 3 #[.int .i64 op, .int .u64 a, .int .u64 b] (.bool true) := by
  refine hide (fun W m => ?_)
  rcases hc with rfl | rfl <;> cases z <;> cases p <;> cases q
  all_goals
    have HM := hide m
    have HB := hide (Below.refl W.heap.size W)
    try obtain ⟨hz, hz'⟩ := hz rfl
    try have hp := hp (by decide)
    go_enter Tryz.func3, Tryz.ntmps3
    go_wp2_with fail
    refine (unhide H0 _ (unhide HM)).mono ?_
    rintro _ w1 ⟨rfl, hb⟩
    have HB := hide (bthen (unhide HB) hb)
    have HM := hide ((unhide HM).below hb)
    clear hb
    go_wp2_with fail
    refine (unhide HK _ (unhide HM)).mono ?_
    rintro _ w2 ⟨rfl, hb⟩
    have HB := hide (bthen (unhide HB) hb)
    have HM := hide ((unhide HM).below hb)
    clear hb
    go_wp2_with fail
    refine (unhide H1 _ (unhide HM)).mono ?_
    rintro _ w3 ⟨rfl, hb⟩
    have HB := hide (bthen (unhide HB) hb)
    have HM := hide ((unhide HM).below hb)
    clear hb
    go_wp2_with fail
    refine (unhide HI _).mono ?_
    rintro _ w4 ⟨rfl, hb⟩
    have HB := hide (bthen (unhide HB) hb)
    have HM := hide ((unhide HM).below hb)
    clear hb
    go_wp2_with fail
    try
      refine (unhide HN _).mono ?_
      rintro _ w5 ⟨rfl, hb⟩
      have HB := hide (bthen (unhide HB) hb)
      have HM := hide ((unhide HM).below hb)
      clear hb
      go_wp2_with fail
    refine (unhide HA _).mono ?_
    rintro _ w6 ⟨rfl, hb⟩
    have HB := hide (bthen (unhide HB) hb)
    have HM := hide ((unhide HM).below hb)
    clear hb
    go_wp2_with fail
    try
      refine (unhide HC _).mono ?_
      rintro _ w7 ⟨rfl, hb⟩
      have HB := hide (bthen (unhide HB) hb)
      have HM := hide ((unhide HM).below hb)
      clear hb
      go_wp2_with fail
    try
      refine (unhide HN _).mono ?_
      rintro _ w8 ⟨rfl, hb⟩
      have HB := hide (bthen (unhide HB) hb)
      have HM := hide ((unhide HM).below hb)
      clear hb
      go_wp2_with fail
    go_ret
    exact ⟨by first | rfl | simp, unhide HB⟩
end Go.Proofs.YtpbgpdmffejdgabGreatDoor
namespace Go.Proofs.YtpbgpdmffejdgabGreatDoor
open Go.RowKit

set_option maxHeartbeats 4000000 in
set_option maxRecDepth 100000 in
theorem tnans_1 {op a b r c : Int} {z p q : Bool} (H0 : Ap 146 2139095041 0 2143289344 0) (HK : Cm 5 #[.int .i64 op] (.tuple #[.int .u8 124, .int .i64 c, .int .u8 124, .bool true])) (n139 : (op == 139) = false) (n140 : (op == 140) = false) (n152 : (op == 152) = false) (n153 : (op == 153) = false) (n154 : (op == 154) = false) (n166 : (op == 166) = false) (H1 : Ap op a b r 0) (HI : Ct 6 #[.int .i64 64, .int .u64 r] (.bool z)) (HN : Ct 7 #[.int .i64 64] (.int .u64 9221120237041090560)) (HA : Ct 6 #[.int .i64 64, .int .u64 a] (.bool p)) (HC : Ct 6 #[.int .i64 64, .int .u64 b] (.bool q))
    (hc : c = 1 ∨ c = 2) (hz : z = true → (r == 9221120237041090560) = true ∧ (r != 9221120237041090560) = false) (hp : p = true ∨ c = 2 ∧ q = true → (r == 9221120237041090560) = true) : Cm 3 #[.int .i64 op, .int .u64 a, .int .u64 b] (.bool true) := by
  refine hide (fun W m => ?_)
  rcases hc with rfl | rfl <;> cases z <;> cases p <;> cases q
  all_goals
    have HM := hide m
    have HB := hide (Below.refl W.heap.size W)
    try obtain ⟨hz, hz'⟩ := hz rfl
    try have hp := hp (by decide)
    go_enter Tryz.func3, Tryz.ntmps3
    go_wp2_with fail
    refine (unhide H0 _ (unhide HM)).mono ?_
    rintro _ w1 ⟨rfl, hb⟩
    have HB := hide (bthen (unhide HB) hb)
    have HM := hide ((unhide HM).below hb)
    clear hb
    go_wp2_with fail
    refine (unhide HK _ (unhide HM)).mono ?_
    rintro _ w2 ⟨rfl, hb⟩
    have HB := hide (bthen (unhide HB) hb)
    have HM := hide ((unhide HM).below hb)
    clear hb
    go_wp2_with fail
    refine (unhide H1 _ (unhide HM)).mono ?_
    rintro _ w3 ⟨rfl, hb⟩
    have HB := hide (bthen (unhide HB) hb)
    have HM := hide ((unhide HM).below hb)
    clear hb
    go_wp2_with fail
    refine (unhide HI _).mono ?_
    rintro _ w4 ⟨rfl, hb⟩
    have HB := hide (bthen (unhide HB) hb)
    have HM := hide ((unhide HM).below hb)
    clear hb
    go_wp2_with fail
    try
      refine (unhide HN _).mono ?_
      rintro _ w5 ⟨rfl, hb⟩
      have HB := hide (bthen (unhide HB) hb)
      have HM := hide ((unhide HM).below hb)
      clear hb
      go_wp2_with fail
    refine (unhide HA _).mono ?_
    rintro _ w6 ⟨rfl, hb⟩
    have HB := hide (bthen (unhide HB) hb)
    have HM := hide ((unhide HM).below hb)
    clear hb
    go_wp2_with fail
    try
      refine (unhide HC _).mono ?_
      rintro _ w7 ⟨rfl, hb⟩
      have HB := hide (bthen (unhide HB) hb)
      have HM := hide ((unhide HM).below hb)
      clear hb
      go_wp2_with fail
    try
      refine (unhide HN _).mono ?_
      rintro _ w8 ⟨rfl, hb⟩
      have HB := hide (bthen (unhide HB) hb)
      have HM := hide ((unhide HM).below hb)
      clear hb
      go_wp2_with fail
    go_ret
    exact ⟨by first | rfl | simp, unhide HB⟩
end Go.Proofs.YtpbgpdmffejdgabGreatDoor
namespace Go.Proofs.YtpbgpdmffejdgabGreatDoor
open Go.RowKit

theorem Kd.wm {w e f P Q b : Int} (k : Kd w e f P Q b) : Wm w w.toNat (P * Q) (2 * (P * Q)) := by
  rcases k with ⟨rfl, rfl, rfl, rfl, rfl, rfl⟩ | ⟨rfl, rfl, rfl, rfl, rfl, rfl⟩
  · exact wm_32
  · exact wm_64
theorem apf_ceil {op w e f P Q c a b : Int} (k : Kd w e f P Q c) (ha : Rg a) (hb : Rg b) (h : op - 139 = 2 ∧ w = 32 ∨ op - 153 = 2 ∧ w = 64) : Ap op a b (makeB f P Q c 1 (a % (2 * (P * Q)))) 0 :=
  ap_makef k.wm ha hb h (by decide) (by decide) (makef_w (Or.inr (Or.inr (Or.inl ⟨rfl, (show Ct _ _ _ from hide fun W => ceil_any k W (k.wm.rg a).1 (k.wm.rg a).2).m⟩))))
theorem apf_floor {op w e f P Q c a b : Int} (k : Kd w e f P Q c) (ha : Rg a) (hb : Rg b) (h : op - 139 = 3 ∧ w = 32 ∨ op - 153 = 3 ∧ w = 64) : Ap op a b (makeB f P Q c 2 (a % (2 * (P * Q)))) 0 :=
  ap_makef k.wm ha hb h (by decide) (by decide) (makef_w (Or.inr (Or.inr (Or.inr (Or.inl ⟨rfl, (show Ct _ _ _ from hide fun W => floor_any k W (k.wm.rg a).1 (k.wm.rg a).2).m⟩)))))
theorem apf_trunc {op w e f P Q c a b : Int} (k : Kd w e f P Q c) (ha : Rg a) (hb : Rg b) (h : op - 139 = 4 ∧ w = 32 ∨ op - 153 = 4 ∧ w = 64) : Ap op a b (makeB f P Q c 3 (a % (2 * (P * Q)))) 0 :=
  ap_makef k.wm ha hb h (by decide) (by decide) (makef_w (Or.inr (Or.inr (Or.inr (Or.inr (Or.inl ⟨rfl, (show Ct _ _ _ from hide fun W => trunc_any k W (k.wm.rg a).1 (k.wm.rg a).2).m⟩))))))
theorem apf_near {op w e f P Q c a b : Int} (k : Kd w e f P Q c) (ha : Rg a) (hb : Rg b) (h : op - 139 = 5 ∧ w = 32 ∨ op - 153 = 5 ∧ w = 64) : Ap op a b (makeB f P Q c 4 (a % (2 * (P * Q)))) 0 :=
  ap_makef k.wm ha hb h (by decide) (by decide) (makef_w (Or.inr (Or.inr (Or.inr (Or.inr (Or.inr (Or.inl ⟨rfl, (show Ct _ _ _ from hide fun W => near_any k W (k.wm.rg a).1 (k.wm.rg a).2).m⟩)))))))
theorem apf_add {op w e f P Q c a b : Int} (k : Kd w e f P Q c) (ha : Rg a) (hb : Rg b) (h : op - 139 = 7 ∧ w = 32 ∨ op - 153 = 7 ∧ w = 64) : Ap op a b (addB f P Q c (a % (2 * (P * Q))) (b % (2 * (P * Q)))) 0 :=
  ap_makef k.wm ha hb h (by decide) (by decide) (makef_w (Or.inr (Or.inr (Or.inr (Or.inr (Or.inr (Or.inr (Or.inr (Or.inl ⟨rfl, (show Ct _ _ _ from hide fun W => sumAdd_any k W (k.wm.rg a).1 (k.wm.rg a).2 (k.wm.rg b).1 (k.wm.rg b).2).m⟩)))))))))
theorem apf_sub {op w e f P Q c a b : Int} (k : Kd w e f P Q c) (ha : Rg a) (hb : Rg b) (h : op - 139 = 8 ∧ w = 32 ∨ op - 153 = 8 ∧ w = 64) : Ap op a b (subB f P Q c (a % (2 * (P * Q))) (b % (2 * (P * Q)))) 0 :=
  ap_makef k.wm ha hb h (by decide) (by decide) (makef_w (Or.inr (Or.inr (Or.inr (Or.inr (Or.inr (Or.inr (Or.inr (Or.inr (Or.inl ⟨rfl, (show Ct _ _ _ from hide fun W => sumSub_any k W (k.wm.rg a).1 (k.wm.rg a).2 (k.wm.rg b).1 (k.wm.rg b).2).m⟩))))))))))
theorem apf_mul {op w e f P Q c a b : Int} (k : Kd w e f P Q c) (ha : Rg a) (hb : Rg b) (h : op - 139 = 9 ∧ w = 32 ∨ op - 153 = 9 ∧ w = 64) : Ap op a b (mulB f P Q c (a % (2 * (P * Q))) (b % (2 * (P * Q)))) 0 :=
  ap_makef k.wm ha hb h (by decide) (by decide) (makef_w (Or.inr (Or.inr (Or.inr (Or.inr (Or.inr (Or.inr (Or.inr (Or.inr (Or.inr (Or.inl ⟨rfl, (show Ct _ _ _ from hide fun W => mul_any' k W (k.wm.rg a).1 (k.wm.rg a).2 (k.wm.rg b).1 (k.wm.rg b).2).m⟩)))))))))))
theorem apf_div {op w e f P Q c a b : Int} (k : Kd w e f P Q c) (ha : Rg a) (hb : Rg b) (h : op - 139 = 10 ∧ w = 32 ∨ op - 153 = 10 ∧ w = 64) : Ap op a b (divB f P Q c (a % (2 * (P * Q))) (b % (2 * (P * Q)))) 0 :=
  ap_makef k.wm ha hb h (by decide) (by decide) (makef_w (Or.inr (Or.inr (Or.inr (Or.inr (Or.inr (Or.inr (Or.inr (Or.inr (Or.inr (Or.inr (Or.inl ⟨rfl, (show Ct _ _ _ from hide fun W => div_any k W (k.wm.rg a).1 (k.wm.rg a).2 (k.wm.rg b).1 (k.wm.rg b).2).m⟩))))))))))))
theorem apf_min {op w e f P Q c a b : Int} (k : Kd w e f P Q c) (ha : Rg a) (hb : Rg b) (h : op - 139 = 11 ∧ w = 32 ∨ op - 153 = 11 ∧ w = 64) : Ap op a b (pickB f P Q (-1) true (a % (2 * (P * Q))) (b % (2 * (P * Q)))) 0 :=
  ap_makef k.wm ha hb h (by decide) (by decide) (makef_w (Or.inr (Or.inr (Or.inr (Or.inr (Or.inr (Or.inr (Or.inr (Or.inr (Or.inr (Or.inr (Or.inr (Or.inl ⟨rfl, (show Ct _ _ _ from hide fun W => min_any k W (k.wm.rg a).1 (k.wm.rg a).2 (k.wm.rg b).1 (k.wm.rg b).2).m⟩)))))))))))))
theorem apf_max {op w e f P Q c a b : Int} (k : Kd w e f P Q c) (ha : Rg a) (hb : Rg b) (h : op - 139 = 12 ∧ w = 32 ∨ op - 153 = 12 ∧ w = 64) : Ap op a b (pickB f P Q 1 false (a % (2 * (P * Q))) (b % (2 * (P * Q)))) 0 :=
  ap_makef k.wm ha hb h (by decide) (by decide) (makef_w (Or.inr (Or.inr (Or.inr (Or.inr (Or.inr (Or.inr (Or.inr (Or.inr (Or.inr (Or.inr (Or.inr (Or.inr (Or.inl ⟨rfl, (show Ct _ _ _ from hide fun W => max_any k W (k.wm.rg a).1 (k.wm.rg a).2 (k.wm.rg b).1 (k.wm.rg b).2).m⟩))))))))))))))
theorem apf_sqrt {op w e f P Q c a b : Int} (k : Kd w e f P Q c) (ha : Rg a) (hb : Rg b) {d : Nat} (hd : IsR f P Q c (a % (2 * (P * Q))) d) (h : op - 139 = 6 ∧ w = 32 ∨ op - 153 = 6 ∧ w = 64) : Ap op a b (sqB f P Q (a % (2 * (P * Q))) d) 0 :=
  ap_makef k.wm ha hb h (by decide) (by decide) (makef_w (Or.inr (Or.inr (Or.inr (Or.inr (Or.inr (Or.inr (Or.inl ⟨rfl, (show Ct _ _ _ from hide fun W => sqrt_any k W (k.wm.rg a).1 (k.wm.rg a).2 hd).m⟩))))))))
end Go.Proofs.YtpbgpdmffejdgabGreatDoor
namespace Go.Proofs.YtpbgpdmffejdgabGreatDoor
open Go.RowKit

/-- What is a float: the canonical NaN, or one that is no NaN. -/
def Fl (f P Q r : Int) : Prop := r = nanB f P Q ∨ ∃ n c, 0 ≤ c ∧ c ≤ top P Q ∧ r = fl f P Q n c
theorem Fl.cut {w e f P Q b r : Int} (k : Kd w e f P Q b) (h : Fl f P Q r) : cutN f P Q r = r ∧ 0 ≤ r := by
  rcases h with rfl | ⟨n, c, c0, c1, rfl⟩
  · obtain ⟨h1, h2, h3, h4, h5⟩ := nan_facts k
    exact ⟨h4, h1⟩
  · obtain ⟨h1, h2, h3, h4, h5, h6⟩ := fl_facts k n c0 c1
    exact ⟨h5, h1⟩
theorem Fl.rng {w e f P Q b r : Int} (k : Kd w e f P Q b) (h : Fl f P Q r) : 0 ≤ r ∧ r < 2 * (P * Q) := by
  obtain ⟨h1, h2⟩ := h.cut k
  rw [cut_kd k] at h1
  have := k.wm.two
  exact ⟨h2, by rw [← h1]; exact Int.emod_lt_of_pos _ (by omega)⟩
theorem fl_rd {w e f P Q b : Int} (k : Kd w e f P Q b) (n : Bool) (m : Nat) : Fl f P Q (rd f P Q b n m) := Or.inr ⟨n, _, (lid_top k _).1, (lid_top k _).2, rfl⟩
theorem fl_inf {w e f P Q b : Int} (k : Kd w e f P Q b) (n : Bool) : Fl f P Q (put f P Q n (Q - 1) 0) := Or.inr ⟨n, _, Int.le_of_lt (top_pos k), Int.le_refl _, put_inf k n⟩
theorem fl_zero {w e f P Q b : Int} (k : Kd w e f P Q b) (n : Bool) : Fl f P Q (put f P Q n 0 0) := Or.inr ⟨n, 0, Int.le_refl _, Int.le_of_lt (top_pos k), put_nought n⟩
theorem fl_cut {w e f P Q b x : Int} (k : Kd w e f P Q b) (h : oK P Q x ≠ 3) : Fl f P Q (cutN f P Q x) := by
  refine Or.inr ⟨_, _, ?_, ?_, cut_fl k h⟩
  · omega
  · rcases kind_oc k x with ⟨h', _⟩ | ⟨_, h', _⟩ | ⟨_, _, h', _⟩ | ⟨_, h', _⟩
    · exact absurd h' h
    · omega
    · omega
    · have := top_pos k
      omega
theorem fl_add {w e f P Q b : Int} (k : Kd w e f P Q b) (x y : Int) : Fl f P Q (addB f P Q b x y) := by
  rcases add_form k (oN P Q x) (oN P Q y) (oK P Q x) (oK P Q y) (oM f P Q b x) (oM f P Q b y) with h | ⟨n, c, h0, h1, h⟩
  · exact Or.inl h
  · exact Or.inr ⟨n, c, h0, h1, h⟩
theorem fl_sub {w e f P Q b : Int} (k : Kd w e f P Q b) (x y : Int) : Fl f P Q (subB f P Q b x y) := by
  rcases add_form k (oN P Q x) (!oN P Q y) (oK P Q x) (oK P Q y) (oM f P Q b x) (oM f P Q b y) with h | ⟨n, c, h0, h1, h⟩
  · exact Or.inl h
  · exact Or.inr ⟨n, c, h0, h1, h⟩
theorem fl_mul {w e f P Q b : Int} (k : Kd w e f P Q b) (x y : Int) : Fl f P Q (mulB f P Q b x y) := by
  rcases mul_form k (oK P Q x) (oK P Q y) (oM f P Q b x) (oM f P Q b y) with h | ⟨c, h0, h1, h⟩
  · exact Or.inl (h _ _)
  · exact Or.inr ⟨_, c, h0, h1, h _ _⟩
theorem fl_div {w e f P Q b : Int} (k : Kd w e f P Q b) (x y : Int) : Fl f P Q (divB f P Q b x y) := by
  rcases div_form k (oK P Q x) (oK P Q y) (oM f P Q b x) (oM f P Q b y) with h | ⟨c, h0, h1, h⟩
  · exact Or.inl (h _ _)
  · exact Or.inr ⟨_, c, h0, h1, h _ _⟩
theorem fl_sq {w e f P Q b x : Int} {c : Nat} (k : Kd w e f P Q b) (hc : IsR f P Q b x c) : Fl f P Q (sqB f P Q x c) := by
  unfold sqB
  split
  · exact fl_zero k _
  · rename_i h0
    split
    · exact Or.inl rfl
    · rename_i h3
      split
      · exact fl_inf k _
      · rename_i h2
        have h1 : oK P Q x = 1 := by rcases kind_oc k x with ⟨h, _⟩ | ⟨h, _⟩ | ⟨h, _⟩ | ⟨h, _⟩ <;> first | exact h | (exfalso; simp_all)
        exact Or.inr ⟨false, c, by omega, Int.le_of_lt (root_in k h1 (hc h1)).2, rfl⟩
theorem fl_pick {w e f P Q b : Int} (k : Kd w e f P Q b) (t : Int) (n : Bool) (x y : Int) : Fl f P Q (pickB f P Q t n x y) := by
  unfold pickB
  rcases cmpB_ways P Q x y with ⟨h, -⟩ | ⟨hx, hy, -⟩
  · rw [if_pos h]
    exact Or.inl rfl
  · split
    · exact Or.inl rfl
    · split
      · exact fl_cut k hx
      · exact fl_cut k hy
theorem fl_make {w e f P Q b : Int} (k : Kd w e f P Q b) (way x : Int) : Fl f P Q (makeB f P Q b way x) := by
  unfold makeB
  split
  · exact Or.inl rfl
  · rename_i h
    split
    · exact fl_cut k h
    · exact fl_rd k _ _
theorem fl_turn {w e f P Q b : Int} (k : Kd w e f P Q b) (n : Bool) (K : Int) (M : Nat) : Fl f P Q (turnB f P Q b n K M) := by
  unfold turnB
  split
  · exact Or.inl rfl
  · split
    · exact fl_inf k _
    · exact fl_rd k _ _
end Go.Proofs.YtpbgpdmffejdgabGreatDoor
