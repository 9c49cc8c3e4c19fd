/- ScF. -/
import Derived.Test.YtjoonmpjcophnaaGreatDoorUa22
namespace Go.Proofs.YtjoonmpjcophnaaGreatDoor
open Go.RowKit

theorem below3 (w : World) (o1 o2 o3 : Obj) : Below w.heap.size w (((w.alloc o1).alloc o2).alloc o3) := (below2 w o1 o2).alloc (by simp; omega) _
set_option maxHeartbeats 1000000 in
set_option maxRecDepth 100000 in
theorem piece_nil {z : Int} {W : World} : Calls Tryz.prog 104 #[.pointer none, .int .u32 z] W fun r W' => r = .returned (.slice none 0 0) ∧ Fr [] W W' := by
  have HN := hide (fun F W => nil_sbyte (F := F) (W := W))
  go_enter Tryz.func104, Tryz.ntmps104
  go_wp2_with fail
  refine (unhide HN _ _).mono ?_
  rintro _ w1 ⟨rfl, hF⟩
  go_wp2_with fail
  go_ret
  exact ⟨rfl, (Fr.of (below2 _ _ _) []).trans hF⟩
set_option maxHeartbeats 1000000 in
set_option maxRecDepth 100000 in
theorem piece_dead {c : Nat} {a : Option Addr} {len cap k : Nat} {xs : List Int} {e : Int} {z : Int} {W : World} (h : Cs c a len cap xs k e W) (he : e ≠ 0) : Calls Tryz.prog 104 #[.pointer (some ⟨c, 0, none⟩), .int .u32 z] W fun r W' => r = .returned (.slice none 0 0) ∧ Cs c a len cap xs k e W' ∧ Fr [c] W W' := by
  have HN := hide (fun F W h => dead_sbyte (c := c) (a := a) (len := len) (cap := cap) (k := k) (e := e) (F := F) (W := W) h he)
  have H := hide h
  clear h he
  go_enter Tryz.func104, Tryz.ntmps104
  go_wp2_with fail
  refine (unhide HN _ _ ((unhide H).bel (below2 _ _ _)).1).mono ?_
  rintro _ w1 ⟨rfl, hF⟩
  go_wp2_with fail
  go_ret
  exact ⟨rfl, (unhide H).bel ((Fr.of (below2 _ _ _) []).trans hF).nil, ((Fr.of (below2 _ _ _) []).trans hF).mono (by simp)⟩
set_option maxHeartbeats 1000000 in
set_option maxRecDepth 100000 in
theorem piece_live {c : Nat} {a : Option Addr} {len cap k : Nat} {xs : List Int} {k1 : Nat} {e1 : Int} {z : Int} {W : World} {V : Nat → Value → World → Prop}
    (HG : Hid (∀ W q0 q1, q0 ≠ c → q1 ≠ c → Cs c a len cap xs k 0 W → (Bx q0 (.pointer (some ⟨c, 0, none⟩)) W ∧ Bx q1 (.int .u32 z) W) → Calls Tryz.prog 133 #[.pointer (some ⟨q0, 0, none⟩), .pointer (some ⟨q1, 0, none⟩)] W fun r W' => ∃ v, r = .returned v ∧ V W.heap.size v W' ∧ Cs c a len cap xs k1 e1 W' ∧ Fr [c] W W'))
    (h : Cs c a len cap xs k 0 W) : Calls Tryz.prog 104 #[.pointer (some ⟨c, 0, none⟩), .int .u32 z] W fun r W' => ∃ v, r = .returned v ∧ Got (.slice none 0 0) e1 (V (W.heap.size + 2)) v W' ∧ Cs c a len cap xs (back e1 k1 k) e1 W' ∧ Fr [c] W W' := by
  have hcl := h.1.lt
  have H := hide (h.bel (below2 W (.cells #[.pointer (some ⟨c, 0, none⟩)] 53) (.cells #[.int .u32 z] 30)))
  have HF := hide (Fr.of (below2 W (.cells #[.pointer (some ⟨c, 0, none⟩)] 53) (.cells #[.int .u32 z] 30)) [c])
  have HB : Hid (Bx (W.heap.size) (.pointer (some ⟨c, 0, none⟩)) ((W.alloc (.cells #[.pointer (some ⟨c, 0, none⟩)] 53)).alloc (.cells #[.int .u32 z] 30)) ∧ Bx (W.heap.size + 1) (.int .u32 z) ((W.alloc (.cells #[.pointer (some ⟨c, 0, none⟩)] 53)).alloc (.cells #[.int .u32 z] 30))) := hide (by simp [Bx, go_sem])
  have HS : Hid (((W.alloc (.cells #[.pointer (some ⟨c, 0, none⟩)] 53)).alloc (.cells #[.int .u32 z] 30)).heap.size = W.heap.size + 2) := hide (by simp)
  have ne0 : Hid (W.heap.size ≠ c) := hide (by omega)
  have ne1 : Hid (W.heap.size + 1 ≠ c) := hide (by omega)
  clear h
  go_enter Tryz.func104, Tryz.ntmps104
  go_wp2_with fail
  refine (read_88 (B := fun W' => Bx (W.heap.size) (.pointer (some ⟨c, 0, none⟩)) W' ∧ Bx (W.heap.size + 1) (.int .u32 z) W') (V := V) (hide fun W' hC hB => unhide HG W' _ _ (unhide ne0) (unhide ne1) hC hB) (unhide H) (hide (unhide HB))).mono ?_
  rintro _ w1 ⟨v, rfl, hV, hC, hF⟩
  rw [unhide HS] at hV
  have HV := hide hV
  have HC := hide hC
  have HF := hide ((unhide HF).trans hF)
  clear hV hC hF
  go_wp2_with fail
  go_ret
  exact ⟨_, rfl, unhide HV, unhide HC, unhide HF⟩
set_option maxHeartbeats 1000000 in
set_option maxRecDepth 100000 in
theorem number_dead {c : Nat} {a : Option Addr} {len cap k : Nat} {xs : List Int} {e : Int} {z : Int} {f0 : Nat} {W : World} (h : Cs c a len cap xs k e W) (he : e ≠ 0) : Calls Tryz.prog 66 #[.pointer (some ⟨c, 0, none⟩), .int .i64 z, .func (.func f0) #[] #[]] W fun r W' => r = .returned (.int .u64 0) ∧ Cs c a len cap xs k e W' ∧ Fr [c] W W' := by
  have HN := hide (fun F W h => dead_uint64 (c := c) (a := a) (len := len) (cap := cap) (k := k) (e := e) (F := F) (W := W) h he)
  have H := hide h
  clear h he
  go_enter Tryz.func66, Tryz.ntmps66
  go_wp2_with fail
  refine (unhide HN _ _ ((unhide H).bel (below3 _ _ _ _)).1).mono ?_
  rintro _ w1 ⟨rfl, hF⟩
  go_wp2_with fail
  go_ret
  exact ⟨rfl, (unhide H).bel ((Fr.of (below3 _ _ _ _) []).trans hF).nil, ((Fr.of (below3 _ _ _ _) []).trans hF).mono (by simp)⟩
set_option maxHeartbeats 1000000 in
set_option maxRecDepth 100000 in
theorem number_live {c : Nat} {a : Option Addr} {len cap k : Nat} {xs : List Int} {k1 : Nat} {e1 : Int} {z : Int} {f0 : Nat} {W : World} {V : Nat → Value → World → Prop}
    (HG : Hid (∀ W q0 q1 q2, q0 ≠ c → q1 ≠ c → q2 ≠ c → Cs c a len cap xs k 0 W → (Bx q2 (.func (.func f0) #[] #[]) W ∧ Bx q0 (.pointer (some ⟨c, 0, none⟩)) W ∧ Bx q1 (.int .i64 z) W) → Calls Tryz.prog 95 #[.pointer (some ⟨q2, 0, none⟩), .pointer (some ⟨q0, 0, none⟩), .pointer (some ⟨q1, 0, none⟩)] W fun r W' => ∃ v, r = .returned v ∧ V W.heap.size v W' ∧ Cs c a len cap xs k1 e1 W' ∧ Fr [c] W W'))
    (h : Cs c a len cap xs k 0 W) : Calls Tryz.prog 66 #[.pointer (some ⟨c, 0, none⟩), .int .i64 z, .func (.func f0) #[] #[]] W fun r W' => ∃ v, r = .returned v ∧ Got (.int .u64 0) e1 (V (W.heap.size + 3)) v W' ∧ Cs c a len cap xs (back e1 k1 k) e1 W' ∧ Fr [c] W W' := by
  have hcl := h.1.lt
  have H := hide (h.bel (below3 W (.cells #[.pointer (some ⟨c, 0, none⟩)] 53) (.cells #[.int .i64 z] 3) (.cells #[.func (.func f0) #[] #[]] 162)))
  have HF := hide (Fr.of (below3 W (.cells #[.pointer (some ⟨c, 0, none⟩)] 53) (.cells #[.int .i64 z] 3) (.cells #[.func (.func f0) #[] #[]] 162)) [c])
  have HB : Hid (Bx (W.heap.size + 2) (.func (.func f0) #[] #[]) (((W.alloc (.cells #[.pointer (some ⟨c, 0, none⟩)] 53)).alloc (.cells #[.int .i64 z] 3)).alloc (.cells #[.func (.func f0) #[] #[]] 162)) ∧ Bx (W.heap.size) (.pointer (some ⟨c, 0, none⟩)) (((W.alloc (.cells #[.pointer (some ⟨c, 0, none⟩)] 53)).alloc (.cells #[.int .i64 z] 3)).alloc (.cells #[.func (.func f0) #[] #[]] 162)) ∧ Bx (W.heap.size + 1) (.int .i64 z) (((W.alloc (.cells #[.pointer (some ⟨c, 0, none⟩)] 53)).alloc (.cells #[.int .i64 z] 3)).alloc (.cells #[.func (.func f0) #[] #[]] 162))) := hide (by simp [Bx, go_sem])
  have HS : Hid ((((W.alloc (.cells #[.pointer (some ⟨c, 0, none⟩)] 53)).alloc (.cells #[.int .i64 z] 3)).alloc (.cells #[.func (.func f0) #[] #[]] 162)).heap.size = W.heap.size + 3) := hide (by simp)
  have ne0 : Hid (W.heap.size ≠ c) := hide (by omega)
  have ne1 : Hid (W.heap.size + 1 ≠ c) := hide (by omega)
  have ne2 : Hid (W.heap.size + 2 ≠ c) := hide (by omega)
  clear h
  go_enter Tryz.func66, Tryz.ntmps66
  go_wp2_with fail
  refine (read_83 (B := fun W' => Bx (W.heap.size + 2) (.func (.func f0) #[] #[]) W' ∧ Bx (W.heap.size) (.pointer (some ⟨c, 0, none⟩)) W' ∧ Bx (W.heap.size + 1) (.int .i64 z) W') (V := V) (hide fun W' hC hB => unhide HG W' _ _ _ (unhide ne0) (unhide ne1) (unhide ne2) hC hB) (unhide H) (hide (unhide HB))).mono ?_
  rintro _ w1 ⟨v, rfl, hV, hC, hF⟩
  rw [unhide HS] at hV
  have HV := hide hV
  have HC := hide hC
  have HF := hide ((unhide HF).trans hF)
  clear hV hC hF
  go_wp2_with fail
  go_ret
  exact ⟨_, rfl, unhide HV, unhide HC, unhide HF⟩
set_option maxHeartbeats 1000000 in
set_option maxRecDepth 100000 in
theorem oneOf_dead {c : Nat} {a : Option Addr} {len cap k : Nat} {xs : List Int} {e : Int} {z : Int} {l1 : Option Addr} {l2 l3 : Nat} {W : World} (h : Cs c a len cap xs k e W) (he : e ≠ 0) : Calls Tryz.prog 68 #[.pointer (some ⟨c, 0, none⟩), .int .i64 z, .slice l1 l2 l3] W fun r W' => r = .returned (.int .u8 0) ∧ Cs c a len cap xs k e W' ∧ Fr [c] W W' := by
  have HN := hide (fun F W h => dead_byte (c := c) (a := a) (len := len) (cap := cap) (k := k) (e := e) (F := F) (W := W) h he)
  have H := hide h
  clear h he
  go_enter Tryz.func68, Tryz.ntmps68
  go_wp2_with fail
  refine (unhide HN _ _ ((unhide H).bel (below3 _ _ _ _)).1).mono ?_
  rintro _ w1 ⟨rfl, hF⟩
  go_wp2_with fail
  go_ret
  exact ⟨rfl, (unhide H).bel ((Fr.of (below3 _ _ _ _) []).trans hF).nil, ((Fr.of (below3 _ _ _ _) []).trans hF).mono (by simp)⟩
set_option maxHeartbeats 1000000 in
set_option maxRecDepth 100000 in
theorem oneOf_live {c : Nat} {a : Option Addr} {len cap k : Nat} {xs : List Int} {k1 : Nat} {e1 : Int} {z : Int} {l1 : Option Addr} {l2 l3 : Nat} {W : World} {V : Nat → Value → World → Prop}
    {J : World → Prop} (hJ : ∀ w w', J w → Below w.heap.size w w' → J w')
    (HG : Hid (∀ W q0 q1 q2, J W → q0 ≠ c → q1 ≠ c → q2 ≠ c → Cs c a len cap xs k 0 W → (Bx q0 (.pointer (some ⟨c, 0, none⟩)) W ∧ Bx q2 (.slice l1 l2 l3) W ∧ Bx q1 (.int .i64 z) W) → Calls Tryz.prog 99 #[.pointer (some ⟨q0, 0, none⟩), .pointer (some ⟨q2, 0, none⟩), .pointer (some ⟨q1, 0, none⟩)] W fun r W' => ∃ v, r = .returned v ∧ V W.heap.size v W' ∧ Cs c a len cap xs k1 e1 W' ∧ Fr [c] W W'))
    (HJ : J W) (h : Cs c a len cap xs k 0 W) : Calls Tryz.prog 68 #[.pointer (some ⟨c, 0, none⟩), .int .i64 z, .slice l1 l2 l3] W fun r W' => ∃ v, r = .returned v ∧ Got (.int .u8 0) e1 (V (W.heap.size + 3)) v W' ∧ Cs c a len cap xs (back e1 k1 k) e1 W' ∧ Fr [c] W W' := by
  have hcl := h.1.lt
  have H := hide (h.bel (below3 W (.cells #[.pointer (some ⟨c, 0, none⟩)] 53) (.cells #[.int .i64 z] 35) (.cells #[.slice l1 l2 l3] 22)))
  have HF := hide (Fr.of (below3 W (.cells #[.pointer (some ⟨c, 0, none⟩)] 53) (.cells #[.int .i64 z] 35) (.cells #[.slice l1 l2 l3] 22)) [c])
  have HB : Hid (Bx (W.heap.size) (.pointer (some ⟨c, 0, none⟩)) (((W.alloc (.cells #[.pointer (some ⟨c, 0, none⟩)] 53)).alloc (.cells #[.int .i64 z] 35)).alloc (.cells #[.slice l1 l2 l3] 22)) ∧ Bx (W.heap.size + 2) (.slice l1 l2 l3) (((W.alloc (.cells #[.pointer (some ⟨c, 0, none⟩)] 53)).alloc (.cells #[.int .i64 z] 35)).alloc (.cells #[.slice l1 l2 l3] 22)) ∧ Bx (W.heap.size + 1) (.int .i64 z) (((W.alloc (.cells #[.pointer (some ⟨c, 0, none⟩)] 53)).alloc (.cells #[.int .i64 z] 35)).alloc (.cells #[.slice l1 l2 l3] 22))) := hide (by simp [Bx, go_sem])
  have HS : Hid ((((W.alloc (.cells #[.pointer (some ⟨c, 0, none⟩)] 53)).alloc (.cells #[.int .i64 z] 35)).alloc (.cells #[.slice l1 l2 l3] 22)).heap.size = W.heap.size + 3) := hide (by simp)
  have ne0 : Hid (W.heap.size ≠ c) := hide (by omega)
  have ne1 : Hid (W.heap.size + 1 ≠ c) := hide (by omega)
  have ne2 : Hid (W.heap.size + 2 ≠ c) := hide (by omega)
  have HJ := hide HJ
  clear h
  go_enter Tryz.func68, Tryz.ntmps68
  go_wp2_with fail
  refine (read_62 (B := fun W' => J W' ∧ Bx (W.heap.size) (.pointer (some ⟨c, 0, none⟩)) W' ∧ Bx (W.heap.size + 2) (.slice l1 l2 l3) W' ∧ Bx (W.heap.size + 1) (.int .i64 z) W') (V := V) (hide fun W' hC hB => unhide HG W' _ _ _ hB.1 (unhide ne0) (unhide ne1) (unhide ne2) hC hB.2) (unhide H) (hide ⟨hJ _ _ (unhide HJ) (below3 W (.cells #[.pointer (some ⟨c, 0, none⟩)] 53) (.cells #[.int .i64 z] 35) (.cells #[.slice l1 l2 l3] 22)), unhide HB⟩)).mono ?_
  rintro _ w1 ⟨v, rfl, hV, hC, hF⟩
  rw [unhide HS] at hV
  have HV := hide hV
  have HC := hide hC
  have HF := hide ((unhide HF).trans hF)
  clear hV hC hF
  go_wp2_with fail
  go_ret
  exact ⟨_, rfl, unhide HV, unhide HC, unhide HF⟩
set_option maxHeartbeats 1000000 in
set_option maxRecDepth 100000 in
theorem list_dead {c : Nat} {a : Option Addr} {len cap k : Nat} {xs : List Int} {e : Int} {f0 : Nat} {ps : Array Value} {W : World} (h : Cs c a len cap xs k e W) (he : e ≠ 0) : Calls Tryz.prog 156 #[.pointer (some ⟨c, 0, none⟩), .func (.func f0) #[] ps] W fun r W' => r = .returned (.slice none 0 0) ∧ Cs c a len cap xs k e W' ∧ Fr [c] W W' := by
  have HN := hide (fun F W h => dead_sbyte (c := c) (a := a) (len := len) (cap := cap) (k := k) (e := e) (F := F) (W := W) h he)
  have H := hide h
  clear h he
  go_enter Tryz.func156, Tryz.ntmps156
  go_wp2_with fail
  refine (unhide HN _ _ ((unhide H).bel (below2 _ _ _)).1).mono ?_
  rintro _ w1 ⟨rfl, hF⟩
  go_wp2_with fail
  go_ret
  exact ⟨rfl, (unhide H).bel ((Fr.of (below2 _ _ _) []).trans hF).nil, ((Fr.of (below2 _ _ _) []).trans hF).mono (by simp)⟩
set_option maxHeartbeats 1000000 in
set_option maxRecDepth 100000 in
theorem list_live {c : Nat} {a : Option Addr} {len cap k : Nat} {xs : List Int} {k1 : Nat} {e1 : Int} {f0 : Nat} {ps : Array Value} {W : World} {V : Nat → Value → World → Prop}
    {J : World → Prop} (hJ : ∀ w w', J w → Below w.heap.size w w' → J w')
    (HG : Hid (∀ W q0 q1, J W → q0 ≠ c → q1 ≠ c → Cs c a len cap xs k 0 W → (Bx q0 (.pointer (some ⟨c, 0, none⟩)) W ∧ Bx q1 (.func (.func f0) #[] ps) W) → Calls Tryz.prog 165 #[.pointer (some ⟨q0, 0, none⟩), .pointer (some ⟨q1, 0, none⟩)] W fun r W' => ∃ v, r = .returned v ∧ V W.heap.size v W' ∧ Cs c a len cap xs k1 e1 W' ∧ Fr [c] W W'))
    (HJ : J W) (h : Cs c a len cap xs k 0 W) : Calls Tryz.prog 156 #[.pointer (some ⟨c, 0, none⟩), .func (.func f0) #[] ps] W fun r W' => ∃ v, r = .returned v ∧ Got (.slice none 0 0) e1 (V (W.heap.size + 2)) v W' ∧ Cs c a len cap xs (back e1 k1 k) e1 W' ∧ Fr [c] W W' := by
  have hcl := h.1.lt
  have H := hide (h.bel (below2 W (.cells #[.pointer (some ⟨c, 0, none⟩)] 53) (.cells #[.func (.func f0) #[] ps] 77)))
  have HF := hide (Fr.of (below2 W (.cells #[.pointer (some ⟨c, 0, none⟩)] 53) (.cells #[.func (.func f0) #[] ps] 77)) [c])
  have HB : Hid (Bx (W.heap.size) (.pointer (some ⟨c, 0, none⟩)) ((W.alloc (.cells #[.pointer (some ⟨c, 0, none⟩)] 53)).alloc (.cells #[.func (.func f0) #[] ps] 77)) ∧ Bx (W.heap.size + 1) (.func (.func f0) #[] ps) ((W.alloc (.cells #[.pointer (some ⟨c, 0, none⟩)] 53)).alloc (.cells #[.func (.func f0) #[] ps] 77))) := hide (by simp [Bx, go_sem])
  have HS : Hid (((W.alloc (.cells #[.pointer (some ⟨c, 0, none⟩)] 53)).alloc (.cells #[.func (.func f0) #[] ps] 77)).heap.size = W.heap.size + 2) := hide (by simp)
  have ne0 : Hid (W.heap.size ≠ c) := hide (by omega)
  have ne1 : Hid (W.heap.size + 1 ≠ c) := hide (by omega)
  have HJ := hide HJ
  clear h
  go_enter Tryz.func156, Tryz.ntmps156
  go_wp2_with fail
  refine (read_81 (B := fun W' => J W' ∧ Bx (W.heap.size) (.pointer (some ⟨c, 0, none⟩)) W' ∧ Bx (W.heap.size + 1) (.func (.func f0) #[] ps) W') (V := V) (hide fun W' hC hB => unhide HG W' _ _ hB.1 (unhide ne0) (unhide ne1) hC hB.2) (unhide H) (hide ⟨hJ _ _ (unhide HJ) (below2 W (.cells #[.pointer (some ⟨c, 0, none⟩)] 53) (.cells #[.func (.func f0) #[] ps] 77)), unhide HB⟩)).mono ?_
  rintro _ w1 ⟨v, rfl, hV, hC, hF⟩
  rw [unhide HS] at hV
  have HV := hide hV
  have HC := hide hC
  have HF := hide ((unhide HF).trans hF)
  clear hV hC hF
  go_wp2_with fail
  go_ret
  exact ⟨_, rfl, unhide HV, unhide HC, unhide HF⟩
set_option maxHeartbeats 1000000 in
set_option maxRecDepth 100000 in
theorem Name_dead {c : Nat} {a : Option Addr} {len cap k : Nat} {xs : List Int} {e : Int}  {W : World} (h : Cs c a len cap xs k e W) (he : e ≠ 0) : Calls Tryz.prog 105 #[.pointer (some ⟨c, 0, none⟩)] W fun r W' => r = .returned (.string ByteArray.empty) ∧ Cs c a len cap xs k e W' ∧ Fr [c] W W' := by
  have HN := hide (fun F W h => dead_string (c := c) (a := a) (len := len) (cap := cap) (k := k) (e := e) (F := F) (W := W) h he)
  have H := hide h
  clear h he
  go_enter Tryz.func105, Tryz.ntmps105
  go_wp2_with fail
  refine (unhide HN _ _ ((unhide H).bel (below1 _ _)).1).mono ?_
  rintro _ w1 ⟨rfl, hF⟩
  go_wp2_with fail
  go_ret
  exact ⟨rfl, (unhide H).bel ((Fr.of (below1 _ _) []).trans hF).nil, ((Fr.of (below1 _ _) []).trans hF).mono (by simp)⟩
set_option maxHeartbeats 1000000 in
set_option maxRecDepth 100000 in
theorem Name_live {c : Nat} {a : Option Addr} {len cap k : Nat} {xs : List Int} {k1 : Nat} {e1 : Int}  {W : World} {V : Nat → Value → World → Prop}
    (HG : Hid (∀ W q0, q0 ≠ c → Cs c a len cap xs k 0 W → (Bx q0 (.pointer (some ⟨c, 0, none⟩)) W) → Calls Tryz.prog 136 #[.pointer (some ⟨q0, 0, none⟩)] W fun r W' => ∃ v, r = .returned v ∧ V W.heap.size v W' ∧ Cs c a len cap xs k1 e1 W' ∧ Fr [c] W W'))
    (h : Cs c a len cap xs k 0 W) : Calls Tryz.prog 105 #[.pointer (some ⟨c, 0, none⟩)] W fun r W' => ∃ v, r = .returned v ∧ Got (.string ByteArray.empty) e1 (V (W.heap.size + 1)) v W' ∧ Cs c a len cap xs (back e1 k1 k) e1 W' ∧ Fr [c] W W' := by
  have hcl := h.1.lt
  have H := hide (h.bel (below1 W (.cells #[.pointer (some ⟨c, 0, none⟩)] 53)))
  have HF := hide (Fr.of (below1 W (.cells #[.pointer (some ⟨c, 0, none⟩)] 53)) [c])
  have HB : Hid (Bx (W.heap.size) (.pointer (some ⟨c, 0, none⟩)) (W.alloc (.cells #[.pointer (some ⟨c, 0, none⟩)] 53))) := hide (by simp [Bx, go_sem])
  have HS : Hid ((W.alloc (.cells #[.pointer (some ⟨c, 0, none⟩)] 53)).heap.size = W.heap.size + 1) := hide (by simp)
  have ne0 : Hid (W.heap.size ≠ c) := hide (by omega)
  clear h
  go_enter Tryz.func105, Tryz.ntmps105
  go_wp2_with fail
  refine (read_74 (B := fun W' => Bx (W.heap.size) (.pointer (some ⟨c, 0, none⟩)) W') (V := V) (hide fun W' hC hB => unhide HG W' _ (unhide ne0) hC hB) (unhide H) (hide (unhide HB))).mono ?_
  rintro _ w1 ⟨v, rfl, hV, hC, hF⟩
  rw [unhide HS] at hV
  have HV := hide hV
  have HC := hide hC
  have HF := hide ((unhide HF).trans hF)
  clear hV hC hF
  go_wp2_with fail
  go_ret
  exact ⟨_, rfl, unhide HV, unhide HC, unhide HF⟩
set_option maxHeartbeats 1000000 in
set_option maxRecDepth 100000 in
theorem Count_dead {c : Nat} {a : Option Addr} {len cap k : Nat} {xs : List Int} {e : Int}  {W : World} (h : Cs c a len cap xs k e W) (he : e ≠ 0) : Calls Tryz.prog 65 #[.pointer (some ⟨c, 0, none⟩)] W fun r W' => r = .returned (.int .i64 0) ∧ Cs c a len cap xs k e W' ∧ Fr [c] W W' := by
  have HN := hide (fun F W h => dead_int (c := c) (a := a) (len := len) (cap := cap) (k := k) (e := e) (F := F) (W := W) h he)
  have H := hide h
  clear h he
  go_enter Tryz.func65, Tryz.ntmps65
  go_wp2_with fail
  refine (unhide HN _ _ ((unhide H).bel (below1 _ _)).1).mono ?_
  rintro _ w1 ⟨rfl, hF⟩
  go_wp2_with fail
  go_ret
  exact ⟨rfl, (unhide H).bel ((Fr.of (below1 _ _) []).trans hF).nil, ((Fr.of (below1 _ _) []).trans hF).mono (by simp)⟩
set_option maxHeartbeats 1000000 in
set_option maxRecDepth 100000 in
theorem Count_live {c : Nat} {a : Option Addr} {len cap k : Nat} {xs : List Int} {k1 : Nat} {e1 : Int}  {W : World} {V : Nat → Value → World → Prop}
    (HG : Hid (∀ W q0, q0 ≠ c → Cs c a len cap xs k 0 W → (Bx q0 (.pointer (some ⟨c, 0, none⟩)) W) → Calls Tryz.prog 93 #[.pointer (some ⟨q0, 0, none⟩)] W fun r W' => ∃ v, r = .returned v ∧ V W.heap.size v W' ∧ Cs c a len cap xs k1 e1 W' ∧ Fr [c] W W'))
    (h : Cs c a len cap xs k 0 W) : Calls Tryz.prog 65 #[.pointer (some ⟨c, 0, none⟩)] W fun r W' => ∃ v, r = .returned v ∧ Got (.int .i64 0) e1 (V (W.heap.size + 1)) v W' ∧ Cs c a len cap xs (back e1 k1 k) e1 W' ∧ Fr [c] W W' := by
  have hcl := h.1.lt
  have H := hide (h.bel (below1 W (.cells #[.pointer (some ⟨c, 0, none⟩)] 53)))
  have HF := hide (Fr.of (below1 W (.cells #[.pointer (some ⟨c, 0, none⟩)] 53)) [c])
  have HB : Hid (Bx (W.heap.size) (.pointer (some ⟨c, 0, none⟩)) (W.alloc (.cells #[.pointer (some ⟨c, 0, none⟩)] 53))) := hide (by simp [Bx, go_sem])
  have HS : Hid ((W.alloc (.cells #[.pointer (some ⟨c, 0, none⟩)] 53)).heap.size = W.heap.size + 1) := hide (by simp)
  have ne0 : Hid (W.heap.size ≠ c) := hide (by omega)
  clear h
  go_enter Tryz.func65, Tryz.ntmps65
  go_wp2_with fail
  refine (read_78 (B := fun W' => Bx (W.heap.size) (.pointer (some ⟨c, 0, none⟩)) W') (V := V) (hide fun W' hC hB => unhide HG W' _ (unhide ne0) hC hB) (unhide H) (hide (unhide HB))).mono ?_
  rintro _ w1 ⟨v, rfl, hV, hC, hF⟩
  rw [unhide HS] at hV
  have HV := hide hV
  have HC := hide hC
  have HF := hide ((unhide HF).trans hF)
  clear hV hC hF
  go_wp2_with fail
  go_ret
  exact ⟨_, rfl, unhide HV, unhide HC, unhide HF⟩
end Go.Proofs.YtjoonmpjcophnaaGreatDoor
