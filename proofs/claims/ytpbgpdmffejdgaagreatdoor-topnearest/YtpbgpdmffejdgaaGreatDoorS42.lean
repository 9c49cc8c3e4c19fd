/- LawK3. -/
import Derived.Test.YtpbgpdmffejdgaaGreatDoorS41
namespace Go.Proofs.YtpbgpdmffejdgaaGreatDoor
open Go.RowKit

def Kq3 (op ti tu _r t : Int) : Prop :=
  (ti = 124 ∧ tu = 125 ∧ 178 ≤ op ∧ op ≤ 65000 ∧ t = 0) ∨
  (ti = 127 ∧ tu = 124 ∧ 178 ≤ op ∧ op ≤ 65000 ∧ t = 0) ∨
  (ti = 126 ∧ tu = 124 ∧ 178 ≤ op ∧ op ≤ 65000 ∧ t = 0) ∨
  (ti = 125 ∧ tu = 124 ∧ 178 ≤ op ∧ op ≤ 65000 ∧ t = 0) ∨
  (ti = 125 ∧ tu = 127 ∧ 178 ≤ op ∧ op ≤ 65000 ∧ t = 0) ∨
  (ti = 124 ∧ tu = 126 ∧ 178 ≤ op ∧ op ≤ 65000 ∧ t = 0) ∨
  (ti = 124 ∧ tu = 127 ∧ 178 ≤ op ∧ op ≤ 65000 ∧ t = 0) ∨
  (ti = 125 ∧ tu = 126 ∧ 178 ≤ op ∧ op ≤ 65000 ∧ t = 0)
set_option maxHeartbeats 4000000 in
set_option maxRecDepth 100000 in
theorem keeps_w3 {op a b r t ti c tu p q : Int} (HA : Cm 9 #[] (.bool true)) (H1 : Ap op a b r t) (HK : Cm 10 #[.int .i64 op] (.tuple #[.int .u8 ti, .int .i64 c, .int .u8 tu, .bool true])) (hp : bits .xor .u64 a 1099511627776 = p) (hq : bits .xor .u64 b 9223372036854775808 = q) (H2 : ti = 127 ∨ ti = 125 → Ap op p q r t) (hr : tu = 127 ∨ tu = 125 → r / 4294967296 = 0) (hc : op ≤ 102 → r ≤ 1) (HQ : Kq3 op ti tu r t) :
    Cm 5 #[.int .i64 op, .int .u64 a, .int .u64 b] (.bool true) := by
  refine hide (fun W m => ?_)
  have HM := hide m
  clear m
  have HB := hide (Below.refl W.heap.size W)
  go_enter Tryz.func5, Tryz.ntmps5
  go_wp2_with fail
  refine (unhide HA _ (unhide HM)).mono ?_
  rintro _ w1 ⟨rfl, hb⟩
  have HB := hide (bthen (unhide HB) hb)
  have HM := hide ((unhide HM).below hb)
  clear hb
  go_wp2_with fail
  refine (unhide H1 _ (unhide HM)).mono ?_
  rintro _ w2 ⟨rfl, hb⟩
  have HB := hide (bthen (unhide HB) hb)
  have HM := hide ((unhide HM).below hb)
  clear hb
  go_wp2_with fail
  refine (unhide HK _ (unhide HM)).mono ?_
  rintro _ w3 ⟨rfl, hb⟩
  have HB := hide (bthen (unhide HB) hb)
  have HM := hide ((unhide HM).below hb)
  clear hb
  skip
  have HZ := HB
  have HN := HM
  have H2 := hide H2
  have hr := hide hr
  have hc := hide hc
  unfold Kq3 at HQ
  rcases HQ with ⟨rfl, rfl, l0, l1, rfl⟩ | ⟨rfl, rfl, l0, l1, rfl⟩ | ⟨rfl, rfl, l0, l1, rfl⟩ | ⟨rfl, rfl, l0, l1, rfl⟩ | ⟨rfl, rfl, l0, l1, rfl⟩ | ⟨rfl, rfl, l0, l1, rfl⟩ | ⟨rfl, rfl, l0, l1, rfl⟩ | ⟨rfl, rfl, l0, l1, rfl⟩
  all_goals
    try have hr := unhide hr (by decide)
    try have hc := unhide hc (by omega)
    first | have t0 : 69 ≤ op := by omega
          | have t0 : ¬ 69 ≤ op := by omega
    first | have t1 : op ≤ 102 := by omega
          | have t1 : ¬ op ≤ 102 := by omega
    first | have t2 : 109 ≤ op := by omega
          | have t2 : ¬ 109 ≤ op := by omega
    first | have t3 : op ≤ 112 := by omega
          | have t3 : ¬ op ≤ 112 := by omega
    first | have t4 : 127 ≤ op := by omega
          | have t4 : ¬ 127 ≤ op := by omega
    first | have t5 : op ≤ 130 := by omega
          | have t5 : ¬ op ≤ 130 := by omega
    first | have t6 : 168 ≤ op := by omega
          | have t6 : ¬ 168 ≤ op := by omega
    first | have t7 : op ≤ 171 := by omega
          | have t7 : ¬ op ≤ 171 := by omega
    first | have t8 : 174 ≤ op := by omega
          | have t8 : ¬ 174 ≤ op := by omega
    first | have t9 : op ≤ 177 := by omega
          | have t9 : ¬ op ≤ 177 := by omega
    clear l0 l1
    go_wp2_with fail
    try
      refine (unhide (unhide H2 (by decide)) _ (unhide HN)).mono ?_
      rintro _ w4 ⟨rfl, hb⟩
      have HZ := hide (bthen (unhide HZ) hb)
      clear hb
      go_wp2_with fail
    go_ret
    exact ⟨by simp_all, unhide HZ⟩
end Go.Proofs.YtpbgpdmffejdgaaGreatDoor
