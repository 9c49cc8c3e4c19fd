/- The statements' own test of the chapter's examples; the statement ShapeEnds: its walk. -/
import Derived.Test.YtiphlnchfncdkaaOpen
namespace Go.Proofs.Ytiphlnchfncdkaa
open Go.RowKit

theorem ex_open (W : World) : Calls Try.prog 9 #[.int .i64 32, .int .u64 1065353216] W fun r W' => r = .returned (.agg #[.bool false, .int .i64 1, .int .i64 (-23), .int .u64 8388608]) ∧ Below W.heap.size W W' :=
  open_any (e := 8) (f := 23) (P := 8388608) (Q := 256) (b := 127) 1065353216 (Or.inl ⟨rfl, rfl, rfl, rfl, rfl, rfl⟩) W (by omega) (by omega)
    (Or.inr (Or.inr (Or.inr (Or.inl ⟨by decide, by decide, by decide, by decide +kernel, rfl, by decide, by decide⟩))))
theorem ex_nan (W : World) : Calls Try.prog 16 #[.int .i64 32] W fun r W' => r = .returned (.int .u64 2143289344) ∧ Below W.heap.size W W' := by
  have h := nan_any (w := 32) (e := 8) (f := 23) (P := 8388608) (Q := 256) (b := 127) (Or.inl ⟨rfl, rfl, rfl, rfl, rfl, rfl⟩) W
  rw [show put 23 8388608 256 false (256 - 1) (8388608 / 2) = 2143289344 by decide +kernel] at h
  exact h

set_option maxHeartbeats 1000000 in
theorem awake_any (W : World) : Calls Try.prog 8 #[] W fun r W' => r = .returned (.bool true) ∧ Below W.heap.size W W' := by
  go_enter Try.func8, Try.ntmps8
  go_wp2_with fail
  refine (ex_open _).mono ?_
  rintro _ w1 ⟨rfl, hb1⟩
  go_wp2_with fail
  refine (ex_nan _).mono ?_
  rintro _ w2 ⟨rfl, hb2⟩
  go_wp2_with fail
  go_ret
  exact ⟨rfl, bthen hb1 hb2⟩

theorem put_0 {P Q x y : Int} {n : Bool} : put 0 P Q n x y = 0 := by unfold put; rw [if_pos rfl]

set_option maxHeartbeats 2000000 in
theorem ends_no (w : Int) (n : Bool) (W : World) (hw : w ≠ 32 ∧ w ≠ 64) :
    Calls Try.prog 4 #[.int .i64 w, .bool n] W fun r W' => r = .returned (.bool true) ∧ Below W.heap.size W W' := by
  have h : Wd w 0 0 1 1 (-1) := Or.inr (Or.inr ⟨hw, rfl, rfl, rfl, rfl, rfl⟩)
  have HF := hide (fun W => fields_any h W)
  have HK := hide (fun W => refKnown_any h W)
  have HN := hide (fun W => nan_any h W)
  have HI := hide (fun W => inf_any n h W)
  have HZ := hide (fun W => zero_any n h W)
  have HM := hide (fun W => most_w n h W)
  simp only [Hid, put_0] at HN HI HZ HM
  replace HN := hide HN; replace HI := hide HI; replace HZ := hide HZ; replace HM := hide HM
  clear h hw
  go_enter Try.func4, Try.ntmps4
  go_wp2_with fail
  refine (awake_any _).mono ?_
  rintro _ w1 ⟨rfl, hb1⟩
  go_wp2_with fail
  refine (unhide HF _).mono ?_
  rintro _ w2 ⟨rfl, hb2⟩
  go_wp2_with fail
  refine (unhide HK _).mono ?_
  rintro _ w3 ⟨rfl, hb3⟩
  go_wp2_with fail
  refine (unhide HN _).mono ?_
  rintro _ w4 ⟨rfl, hb4⟩
  go_wp2_with fail
  refine (unhide HI _).mono ?_
  rintro _ w5 ⟨rfl, hb5⟩
  go_wp2_with fail
  refine (unhide HZ _).mono ?_
  rintro _ w6 ⟨rfl, hb6⟩
  go_wp2_with fail
  refine (unhide HM _).mono ?_
  rintro _ w7 ⟨rfl, hb7⟩
  go_wp2_with fail
  go_ret
  exact ⟨rfl, bthen (bthen (bthen (bthen (bthen (bthen hb1 hb2) hb3) hb4) hb5) hb6) hb7⟩

set_option maxHeartbeats 4000000 in
theorem ends_known {w e f P Q b : Int} (n : Bool) (W : World) (h : Kd w e f P Q b) :
    Calls Try.prog 4 #[.int .i64 w, .bool n] W fun r W' => r = .returned (.bool true) ∧ Below W.heap.size W W' := by
  obtain ⟨p1, p2, q1, q2⟩ := h.pos
  have hf : (f != 0) = true := ne_t h.f0
  have HF := hide (fun W => fields_any h.wd W)
  have HK := hide (fun W => refKnown_any h.wd W)
  have HN := hide (fun W => nan_any h.wd W)
  have HI := hide (fun W => inf_any n h.wd W)
  have HZ := hide (fun W => zero_any n h.wd W)
  have HM := hide (fun W => most_w n h.wd W)
  have RT := hide (fun W => refTop_any h W)
  have RE := hide (fun W => refE_any h W)
  have RF := hide (fun W => refF_any h W)
  have RN := hide (fun W => refNan_any h W)
  have RI := hide (fun W => refInf_any n h W)
  have R2 := hide (fun W => two_f h W)
  have RZ := hide (fun W => make_any n 0 0 h W (by omega) (by omega) (by omega) (by omega))
  have RM := hide (fun W => make_any n (Q - 2) (P - 1) h W (by omega) (by omega) (by omega) (by omega))
  have k1 : IntKind.i64.wrap (Q - 1 - 1) = Q - 2 := by rw [i64_id (by omega) (by omega)]; omega
  have k2 : IntKind.u64.wrap (P - 1) = P - 1 := by rw [IntKind.wrap_u64]; omega
  clear h p1 p2 q1 q2
  generalize put f P Q false (Q - 1) (P / 2) = vn at *
  generalize put f P Q n (Q - 1) 0 = vi at *
  generalize put f P Q n 0 0 = vz at *
  generalize put f P Q n (Q - 2) (P - 1) = vm at *
  go_enter Try.func4, Try.ntmps4
  go_wp2_with fail
  refine (awake_any _).mono ?_
  rintro _ w1 ⟨rfl, hb1⟩
  go_wp2_with fail
  refine (unhide HF _).mono ?_
  rintro _ w2 ⟨rfl, hb2⟩
  go_wp2_with fail
  refine (unhide HK _).mono ?_
  rintro _ w3 ⟨rfl, hb3⟩
  go_wp2_with fail
  refine (unhide RT _).mono ?_
  rintro _ w4 ⟨rfl, hb4⟩
  go_wp2_with fail
  refine (unhide RE _).mono ?_
  rintro _ w5 ⟨rfl, hb5⟩
  go_wp2_with fail
  refine (unhide RF _).mono ?_
  rintro _ w6 ⟨rfl, hb6⟩
  go_wp2_with fail
  refine (unhide HN _).mono ?_
  rintro _ w7 ⟨rfl, hb7⟩
  go_wp2_with fail
  refine (unhide RN _).mono ?_
  rintro _ w8 ⟨rfl, hb8⟩
  go_wp2_with fail
  refine (unhide HI _).mono ?_
  rintro _ w9 ⟨rfl, hb9⟩
  go_wp2_with fail
  refine (unhide RI _).mono ?_
  rintro _ w10 ⟨rfl, hb10⟩
  go_wp2_with fail
  refine (unhide HZ _).mono ?_
  rintro _ w11 ⟨rfl, hb11⟩
  go_wp2_with fail
  refine (unhide RZ _).mono ?_
  rintro _ w12 ⟨rfl, hb12⟩
  go_wp2_with fail
  refine (unhide HM _).mono ?_
  rintro _ w13 ⟨rfl, hb13⟩
  go_wp2_with fail
  refine (unhide R2 _).mono ?_
  rintro _ w14 ⟨rfl, hb14⟩
  go_wp2_with fail
  refine (unhide RM _).mono ?_
  rintro _ w15 ⟨rfl, hb15⟩
  go_wp2_with fail
  go_ret
  exact ⟨rfl, (bthen (bthen (bthen (bthen (bthen (bthen (bthen (bthen (bthen (bthen (bthen (bthen (bthen (bthen hb1 hb2) hb3) hb4) hb5) hb6) hb7) hb8) hb9) hb10) hb11) hb12) hb13) hb14) hb15)⟩

theorem ends_any (w : Int) (n : Bool) (W : World) :
    Calls Try.prog 4 #[.int .i64 w, .bool n] W fun r W' => r = .returned (.bool true) ∧ Below W.heap.size W W' := by
  obtain ⟨e, f, P, Q, b, h⟩ := wd_ex w
  by_cases hf : f = 0
  · refine ends_no w n W ?_
    rcases h with h | h | h
    · omega
    · omega
    · exact h.1
  · exact ends_known n W (h.known hf)

end Go.Proofs.Ytiphlnchfncdkaa
