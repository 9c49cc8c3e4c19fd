/- ScD. -/
import Derived.Test.YtjoonmpjcophnaaGreatDoorUa13
namespace Go.Proofs.YtjoonmpjcophnaaGreatDoor
open Go.RowKit

set_option maxHeartbeats 1000000 in
set_option maxRecDepth 100000 in
theorem dead_byte {c : Nat} {a : Option Addr} {len cap k : Nat} {e : Int} {W : World} {F : Value} (h : Cu c a len cap k e W) (he : e ≠ 0) : Calls Tryz.prog 98 #[.pointer (some ⟨c, 0, none⟩), F] W fun r W' => r = .returned (.int .u8 0) ∧ Fr [] W W' := by
  have HF := hide (failed_any h)
  have d : (e != 0) = true := bne_iff_ne.2 he
  rw [d] at HF
  clear h he d
  go_enter Tryz.func98, Tryz.ntmps98
  go_wp2_with fail
  refine (unhide HF).mono ?_
  rintro _ w1 ⟨rfl, rfl⟩
  go_wp2_with fail
  go_ret
  exact ⟨rfl, Fr.refl _ _⟩
set_option maxHeartbeats 1000000 in
set_option maxRecDepth 100000 in
theorem dead_uint64 {c : Nat} {a : Option Addr} {len cap k : Nat} {e : Int} {W : World} {F : Value} (h : Cu c a len cap k e W) (he : e ≠ 0) : Calls Tryz.prog 94 #[.pointer (some ⟨c, 0, none⟩), F] W fun r W' => r = .returned (.int .u64 0) ∧ Fr [] W W' := by
  have HF := hide (failed_any h)
  have d : (e != 0) = true := bne_iff_ne.2 he
  rw [d] at HF
  clear h he d
  go_enter Tryz.func94, Tryz.ntmps94
  go_wp2_with fail
  refine (unhide HF).mono ?_
  rintro _ w1 ⟨rfl, rfl⟩
  go_wp2_with fail
  go_ret
  exact ⟨rfl, Fr.refl _ _⟩
set_option maxHeartbeats 1000000 in
set_option maxRecDepth 100000 in
theorem nil_sbyte {F : Value} {W : World} : Calls Tryz.prog 132 #[.pointer none, F] W fun r W' => r = .returned (.slice none 0 0) ∧ Fr [] W W' := by
  go_enter Tryz.func132, Tryz.ntmps132
  go_wp2_with fail
  go_ret
  exact ⟨rfl, Fr.refl _ _⟩
set_option maxHeartbeats 1000000 in
set_option maxRecDepth 100000 in
theorem dead_sbyte {c : Nat} {a : Option Addr} {len cap k : Nat} {e : Int} {W : World} {F : Value} (h : Cu c a len cap k e W) (he : e ≠ 0) : Calls Tryz.prog 132 #[.pointer (some ⟨c, 0, none⟩), F] W fun r W' => r = .returned (.slice none 0 0) ∧ Fr [] W W' := by
  have HF := hide (failed_any h)
  have d : (e != 0) = true := bne_iff_ne.2 he
  rw [d] at HF
  clear h he d
  go_enter Tryz.func132, Tryz.ntmps132
  go_wp2_with fail
  refine (unhide HF).mono ?_
  rintro _ w1 ⟨rfl, rfl⟩
  go_wp2_with fail
  go_ret
  exact ⟨rfl, Fr.refl _ _⟩
set_option maxHeartbeats 1000000 in
set_option maxRecDepth 100000 in
theorem dead_string {c : Nat} {a : Option Addr} {len cap k : Nat} {e : Int} {W : World} {F : Value} (h : Cu c a len cap k e W) (he : e ≠ 0) : Calls Tryz.prog 135 #[.pointer (some ⟨c, 0, none⟩), F] W fun r W' => r = .returned (.string ByteArray.empty) ∧ Fr [] W W' := by
  have HF := hide (failed_any h)
  have d : (e != 0) = true := bne_iff_ne.2 he
  rw [d] at HF
  clear h he d
  go_enter Tryz.func135, Tryz.ntmps135
  go_wp2_with fail
  refine (unhide HF).mono ?_
  rintro _ w1 ⟨rfl, rfl⟩
  go_wp2_with fail
  go_ret
  exact ⟨rfl, Fr.refl _ _⟩
set_option maxHeartbeats 1000000 in
set_option maxRecDepth 100000 in
theorem dead_int {c : Nat} {a : Option Addr} {len cap k : Nat} {e : Int} {W : World} {F : Value} (h : Cu c a len cap k e W) (he : e ≠ 0) : Calls Tryz.prog 92 #[.pointer (some ⟨c, 0, none⟩), F] W fun r W' => r = .returned (.int .i64 0) ∧ Fr [] W W' := by
  have HF := hide (failed_any h)
  have d : (e != 0) = true := bne_iff_ne.2 he
  rw [d] at HF
  clear h he d
  go_enter Tryz.func92, Tryz.ntmps92
  go_wp2_with fail
  refine (unhide HF).mono ?_
  rintro _ w1 ⟨rfl, rfl⟩
  go_wp2_with fail
  go_ret
  exact ⟨rfl, Fr.refl _ _⟩
set_option maxHeartbeats 1000000 in
set_option maxRecDepth 100000 in
theorem read_62 {c : Nat} {a : Option Addr} {len cap k k1 : Nat} {xs : List Int} {e1 : Int} {W : World} {p1 p2 p3 : Nat} {B : World → Prop} {V : Nat → Value → World → Prop}
    (HG : Hid (∀ W, Cs c a len cap xs k 0 W → B W → Calls Tryz.prog 99 #[.pointer (some ⟨p1, 0, none⟩), .pointer (some ⟨p2, 0, none⟩), .pointer (some ⟨p3, 0, none⟩)] W fun r W' => ∃ v, r = .returned v ∧ V W.heap.size v W' ∧ Cs c a len cap xs k1 e1 W' ∧ Fr [c] W W'))
    (h : Cs c a len cap xs k 0 W) (HB : Hid (B W)) :
    Calls Tryz.prog 98 #[.pointer (some ⟨c, 0, none⟩), .func (.func 99) #[] #[.pointer (some ⟨p1, 0, none⟩), .pointer (some ⟨p2, 0, none⟩), .pointer (some ⟨p3, 0, none⟩)]] W fun r W' => ∃ v, r = .returned v ∧ Got (.int .u8 0) e1 (V W.heap.size) v W' ∧ Cs c a len cap xs (back e1 k1 k) e1 W' ∧ Fr [c] W W' := by
  have HD := hide (fun k e W => failed_any (c := c) (a := a) (len := len) (cap := cap) (k := k) (e := e) (W := W))
  have h1 := h.1.2.1
  have hk := hide h.2.2.2.2.1
  have H := hide h
  clear h
  go_enter Tryz.func98, Tryz.ntmps98
  go_wp2_with fail
  refine (unhide HD k 0 _ (unhide H).1).mono ?_
  rintro _ w1 ⟨rfl, rfl⟩
  go_wp2_with fail
  refine (unhide HG _ (unhide H) (unhide HB)).mono ?_
  rintro _ w2 ⟨v, rfl, hV, hC, hF⟩
  have HV := hide hV
  have HC := hide hC
  have HF := hide hF
  clear hV hC hF h1
  go_wp2_with fail
  refine (unhide HD k1 e1 _ (unhide HC).1).mono ?_
  rintro _ w3 ⟨rfl, rfl⟩
  by_cases he : e1 = 0
  · subst he
    go_wp2_with fail
    go_ret
    exact ⟨v, rfl, Got.ok (unhide HV), unhide HC, unhide HF⟩
  · have d : (e1 != 0) = true := bne_iff_ne.2 he
    obtain ⟨q0, q1, q2, qz⟩ := (unhide HC).1
    have f1 := qz 1 (by decide)
    clear qz q0 q2
    go_wp2_with fail
    go_ret
    exact ⟨_, rfl, Got.no he, by rw [back_e he]; exact (unhide HC).place k (unhide hk), (unhide HF).place _ _⟩
set_option maxHeartbeats 1000000 in
set_option maxRecDepth 100000 in
theorem read_83 {c : Nat} {a : Option Addr} {len cap k k1 : Nat} {xs : List Int} {e1 : Int} {W : World} {p1 p2 p3 : Nat} {B : World → Prop} {V : Nat → Value → World → Prop}
    (HG : Hid (∀ W, Cs c a len cap xs k 0 W → B W → Calls Tryz.prog 95 #[.pointer (some ⟨p1, 0, none⟩), .pointer (some ⟨p2, 0, none⟩), .pointer (some ⟨p3, 0, none⟩)] W fun r W' => ∃ v, r = .returned v ∧ V W.heap.size v W' ∧ Cs c a len cap xs k1 e1 W' ∧ Fr [c] W W'))
    (h : Cs c a len cap xs k 0 W) (HB : Hid (B W)) :
    Calls Tryz.prog 94 #[.pointer (some ⟨c, 0, none⟩), .func (.func 95) #[] #[.pointer (some ⟨p1, 0, none⟩), .pointer (some ⟨p2, 0, none⟩), .pointer (some ⟨p3, 0, none⟩)]] W fun r W' => ∃ v, r = .returned v ∧ Got (.int .u64 0) e1 (V W.heap.size) v W' ∧ Cs c a len cap xs (back e1 k1 k) e1 W' ∧ Fr [c] W W' := by
  have HD := hide (fun k e W => failed_any (c := c) (a := a) (len := len) (cap := cap) (k := k) (e := e) (W := W))
  have h1 := h.1.2.1
  have hk := hide h.2.2.2.2.1
  have H := hide h
  clear h
  go_enter Tryz.func94, Tryz.ntmps94
  go_wp2_with fail
  refine (unhide HD k 0 _ (unhide H).1).mono ?_
  rintro _ w1 ⟨rfl, rfl⟩
  go_wp2_with fail
  refine (unhide HG _ (unhide H) (unhide HB)).mono ?_
  rintro _ w2 ⟨v, rfl, hV, hC, hF⟩
  have HV := hide hV
  have HC := hide hC
  have HF := hide hF
  clear hV hC hF h1
  go_wp2_with fail
  refine (unhide HD k1 e1 _ (unhide HC).1).mono ?_
  rintro _ w3 ⟨rfl, rfl⟩
  by_cases he : e1 = 0
  · subst he
    go_wp2_with fail
    go_ret
    exact ⟨v, rfl, Got.ok (unhide HV), unhide HC, unhide HF⟩
  · have d : (e1 != 0) = true := bne_iff_ne.2 he
    obtain ⟨q0, q1, q2, qz⟩ := (unhide HC).1
    have f1 := qz 1 (by decide)
    clear qz q0 q2
    go_wp2_with fail
    go_ret
    exact ⟨_, rfl, Got.no he, by rw [back_e he]; exact (unhide HC).place k (unhide hk), (unhide HF).place _ _⟩
set_option maxHeartbeats 1000000 in
set_option maxRecDepth 100000 in
theorem read_88 {c : Nat} {a : Option Addr} {len cap k k1 : Nat} {xs : List Int} {e1 : Int} {W : World} {p1 p2 : Nat} {B : World → Prop} {V : Nat → Value → World → Prop}
    (HG : Hid (∀ W, Cs c a len cap xs k 0 W → B W → Calls Tryz.prog 133 #[.pointer (some ⟨p1, 0, none⟩), .pointer (some ⟨p2, 0, none⟩)] W fun r W' => ∃ v, r = .returned v ∧ V W.heap.size v W' ∧ Cs c a len cap xs k1 e1 W' ∧ Fr [c] W W'))
    (h : Cs c a len cap xs k 0 W) (HB : Hid (B W)) :
    Calls Tryz.prog 132 #[.pointer (some ⟨c, 0, none⟩), .func (.func 133) #[] #[.pointer (some ⟨p1, 0, none⟩), .pointer (some ⟨p2, 0, none⟩)]] W fun r W' => ∃ v, r = .returned v ∧ Got (.slice none 0 0) e1 (V W.heap.size) v W' ∧ Cs c a len cap xs (back e1 k1 k) e1 W' ∧ Fr [c] W W' := by
  have HD := hide (fun k e W => failed_any (c := c) (a := a) (len := len) (cap := cap) (k := k) (e := e) (W := W))
  have h1 := h.1.2.1
  have hk := hide h.2.2.2.2.1
  have H := hide h
  clear h
  go_enter Tryz.func132, Tryz.ntmps132
  go_wp2_with fail
  refine (unhide HD k 0 _ (unhide H).1).mono ?_
  rintro _ w1 ⟨rfl, rfl⟩
  go_wp2_with fail
  refine (unhide HG _ (unhide H) (unhide HB)).mono ?_
  rintro _ w2 ⟨v, rfl, hV, hC, hF⟩
  have HV := hide hV
  have HC := hide hC
  have HF := hide hF
  clear hV hC hF h1
  go_wp2_with fail
  refine (unhide HD k1 e1 _ (unhide HC).1).mono ?_
  rintro _ w3 ⟨rfl, rfl⟩
  by_cases he : e1 = 0
  · subst he
    go_wp2_with fail
    go_ret
    exact ⟨v, rfl, Got.ok (unhide HV), unhide HC, unhide HF⟩
  · have d : (e1 != 0) = true := bne_iff_ne.2 he
    obtain ⟨q0, q1, q2, qz⟩ := (unhide HC).1
    have f1 := qz 1 (by decide)
    clear qz q0 q2
    go_wp2_with fail
    go_ret
    exact ⟨_, rfl, Got.no he, by rw [back_e he]; exact (unhide HC).place k (unhide hk), (unhide HF).place _ _⟩
set_option maxHeartbeats 1000000 in
set_option maxRecDepth 100000 in
theorem read_81 {c : Nat} {a : Option Addr} {len cap k k1 : Nat} {xs : List Int} {e1 : Int} {W : World} {p1 p2 : Nat} {B : World → Prop} {V : Nat → Value → World → Prop}
    (HG : Hid (∀ W, Cs c a len cap xs k 0 W → B W → Calls Tryz.prog 165 #[.pointer (some ⟨p1, 0, none⟩), .pointer (some ⟨p2, 0, none⟩)] W fun r W' => ∃ v, r = .returned v ∧ V W.heap.size v W' ∧ Cs c a len cap xs k1 e1 W' ∧ Fr [c] W W'))
    (h : Cs c a len cap xs k 0 W) (HB : Hid (B W)) :
    Calls Tryz.prog 132 #[.pointer (some ⟨c, 0, none⟩), .func (.func 165) #[] #[.pointer (some ⟨p1, 0, none⟩), .pointer (some ⟨p2, 0, none⟩)]] W fun r W' => ∃ v, r = .returned v ∧ Got (.slice none 0 0) e1 (V W.heap.size) v W' ∧ Cs c a len cap xs (back e1 k1 k) e1 W' ∧ Fr [c] W W' := by
  have HD := hide (fun k e W => failed_any (c := c) (a := a) (len := len) (cap := cap) (k := k) (e := e) (W := W))
  have h1 := h.1.2.1
  have hk := hide h.2.2.2.2.1
  have H := hide h
  clear h
  go_enter Tryz.func132, Tryz.ntmps132
  go_wp2_with fail
  refine (unhide HD k 0 _ (unhide H).1).mono ?_
  rintro _ w1 ⟨rfl, rfl⟩
  go_wp2_with fail
  refine (unhide HG _ (unhide H) (unhide HB)).mono ?_
  rintro _ w2 ⟨v, rfl, hV, hC, hF⟩
  have HV := hide hV
  have HC := hide hC
  have HF := hide hF
  clear hV hC hF h1
  go_wp2_with fail
  refine (unhide HD k1 e1 _ (unhide HC).1).mono ?_
  rintro _ w3 ⟨rfl, rfl⟩
  by_cases he : e1 = 0
  · subst he
    go_wp2_with fail
    go_ret
    exact ⟨v, rfl, Got.ok (unhide HV), unhide HC, unhide HF⟩
  · have d : (e1 != 0) = true := bne_iff_ne.2 he
    obtain ⟨q0, q1, q2, qz⟩ := (unhide HC).1
    have f1 := qz 1 (by decide)
    clear qz q0 q2
    go_wp2_with fail
    go_ret
    exact ⟨_, rfl, Got.no he, by rw [back_e he]; exact (unhide HC).place k (unhide hk), (unhide HF).place _ _⟩
set_option maxHeartbeats 1000000 in
set_option maxRecDepth 100000 in
theorem read_74 {c : Nat} {a : Option Addr} {len cap k k1 : Nat} {xs : List Int} {e1 : Int} {W : World} {p1 : Nat} {B : World → Prop} {V : Nat → Value → World → Prop}
    (HG : Hid (∀ W, Cs c a len cap xs k 0 W → B W → Calls Tryz.prog 136 #[.pointer (some ⟨p1, 0, none⟩)] W fun r W' => ∃ v, r = .returned v ∧ V W.heap.size v W' ∧ Cs c a len cap xs k1 e1 W' ∧ Fr [c] W W'))
    (h : Cs c a len cap xs k 0 W) (HB : Hid (B W)) :
    Calls Tryz.prog 135 #[.pointer (some ⟨c, 0, none⟩), .func (.func 136) #[] #[.pointer (some ⟨p1, 0, none⟩)]] W fun r W' => ∃ v, r = .returned v ∧ Got (.string ByteArray.empty) e1 (V W.heap.size) v W' ∧ Cs c a len cap xs (back e1 k1 k) e1 W' ∧ Fr [c] W W' := by
  have HD := hide (fun k e W => failed_any (c := c) (a := a) (len := len) (cap := cap) (k := k) (e := e) (W := W))
  have h1 := h.1.2.1
  have hk := hide h.2.2.2.2.1
  have H := hide h
  clear h
  go_enter Tryz.func135, Tryz.ntmps135
  go_wp2_with fail
  refine (unhide HD k 0 _ (unhide H).1).mono ?_
  rintro _ w1 ⟨rfl, rfl⟩
  go_wp2_with fail
  refine (unhide HG _ (unhide H) (unhide HB)).mono ?_
  rintro _ w2 ⟨v, rfl, hV, hC, hF⟩
  have HV := hide hV
  have HC := hide hC
  have HF := hide hF
  clear hV hC hF h1
  go_wp2_with fail
  refine (unhide HD k1 e1 _ (unhide HC).1).mono ?_
  rintro _ w3 ⟨rfl, rfl⟩
  by_cases he : e1 = 0
  · subst he
    go_wp2_with fail
    go_ret
    exact ⟨v, rfl, Got.ok (unhide HV), unhide HC, unhide HF⟩
  · have d : (e1 != 0) = true := bne_iff_ne.2 he
    obtain ⟨q0, q1, q2, qz⟩ := (unhide HC).1
    have f1 := qz 1 (by decide)
    clear qz q0 q2
    go_wp2_with fail
    go_ret
    exact ⟨_, rfl, Got.no he, by rw [back_e he]; exact (unhide HC).place k (unhide hk), (unhide HF).place _ _⟩
set_option maxHeartbeats 1000000 in
set_option maxRecDepth 100000 in
theorem read_78 {c : Nat} {a : Option Addr} {len cap k k1 : Nat} {xs : List Int} {e1 : Int} {W : World} {p1 : Nat} {B : World → Prop} {V : Nat → Value → World → Prop}
    (HG : Hid (∀ W, Cs c a len cap xs k 0 W → B W → Calls Tryz.prog 93 #[.pointer (some ⟨p1, 0, none⟩)] W fun r W' => ∃ v, r = .returned v ∧ V W.heap.size v W' ∧ Cs c a len cap xs k1 e1 W' ∧ Fr [c] W W'))
    (h : Cs c a len cap xs k 0 W) (HB : Hid (B W)) :
    Calls Tryz.prog 92 #[.pointer (some ⟨c, 0, none⟩), .func (.func 93) #[] #[.pointer (some ⟨p1, 0, none⟩)]] W fun r W' => ∃ v, r = .returned v ∧ Got (.int .i64 0) e1 (V W.heap.size) v W' ∧ Cs c a len cap xs (back e1 k1 k) e1 W' ∧ Fr [c] W W' := by
  have HD := hide (fun k e W => failed_any (c := c) (a := a) (len := len) (cap := cap) (k := k) (e := e) (W := W))
  have h1 := h.1.2.1
  have hk := hide h.2.2.2.2.1
  have H := hide h
  clear h
  go_enter Tryz.func92, Tryz.ntmps92
  go_wp2_with fail
  refine (unhide HD k 0 _ (unhide H).1).mono ?_
  rintro _ w1 ⟨rfl, rfl⟩
  go_wp2_with fail
  refine (unhide HG _ (unhide H) (unhide HB)).mono ?_
  rintro _ w2 ⟨v, rfl, hV, hC, hF⟩
  have HV := hide hV
  have HC := hide hC
  have HF := hide hF
  clear hV hC hF h1
  go_wp2_with fail
  refine (unhide HD k1 e1 _ (unhide HC).1).mono ?_
  rintro _ w3 ⟨rfl, rfl⟩
  by_cases he : e1 = 0
  · subst he
    go_wp2_with fail
    go_ret
    exact ⟨v, rfl, Got.ok (unhide HV), unhide HC, unhide HF⟩
  · have d : (e1 != 0) = true := bne_iff_ne.2 he
    obtain ⟨q0, q1, q2, qz⟩ := (unhide HC).1
    have f1 := qz 1 (by decide)
    clear qz q0 q2
    go_wp2_with fail
    go_ret
    exact ⟨_, rfl, Got.no he, by rw [back_e he]; exact (unhide HC).place k (unhide hk), (unhide HF).place _ _⟩
end Go.Proofs.YtjoonmpjcophnaaGreatDoor
