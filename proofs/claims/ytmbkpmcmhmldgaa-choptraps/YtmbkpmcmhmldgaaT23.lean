/- ChB, ChC. -/
import Derived.Test.YtmbkpmcmhmldgaaT01
import Derived.Test.YtmbkpmcmhmldgaaT16
namespace Go.Proofs.Ytmbkpmcmhmldgaa
open Go.RowKit
open Go.Proofs.Ytmbkpmcmhmldgaa.W

set_option maxHeartbeats 4000000 in
set_option maxRecDepth 100000 in
theorem amount_hi {K X S h l h' l' h'' l'' E : Int} {n t : Bool} (W : World) (HO : Ct 29 #[.int .u64 S] (.agg #[.int .u64 h, .int .u64 l])) (g : 64 < X) (HL : Ct 49 #[.agg #[.int .u64 h, .int .u64 l], .int .i64 64] (.agg #[.int .u64 h', .int .u64 l'])) (kx : IntKind.i64.wrap (-X) = E) (HR : Ct 50 #[.agg #[.int .u64 h', .int .u64 l'], .int .i64 E] (.tuple #[.agg #[.int .u64 h'', .int .u64 l''], .bool t])) :
    Calls Try.prog 27 #[.agg #[.bool n, .int .i64 K, .int .i64 X, .int .u64 S]] W fun r W' => r = .returned (.agg #[.int .u64 h'', .int .u64 l'']) ∧ Below W.heap.size W W' := by
  go_enter Try.func27, Try.ntmps27
  go_wp2_with fail
  have HB := hide (below2 W (.cells #[.bool n, .int .i64 K, .int .i64 X, .int .u64 S] 56) (.cells #[.int .u64 0, .int .u64 0] 59)).drew
  have HA := hide ((at4_new2a W (.bool n) (.int .i64 K) (.int .i64 X) (.int .u64 S) 56 (.cells #[.int .u64 0, .int .u64 0] 59)).below ((Below.refl _ _).drew))
  have HR2 : Hid (Room (W.heap.size + 1) 2 ((W.alloc (.cells #[.bool n, .int .i64 K, .int .i64 X, .int .u64 S] 56)).alloc (.cells #[.int .u64 0, .int .u64 0] 59)).drew) := by
    intro o ho
    match o, ho with
    | 0, _ | 1, _ => simp [go_sem]
  refine wp_region_held_drew (S := fun w' => (w'.cell? ⟨W.heap.size, 0, none⟩ = some (.bool n) ∧ w'.cell? ⟨W.heap.size, 1, none⟩ = some (.int .i64 K) ∧ w'.cell? ⟨W.heap.size, 2, none⟩ = some (.int .i64 X) ∧ w'.cell? ⟨W.heap.size, 3, none⟩ = some (.int .u64 S)) ∧ Room (W.heap.size + 1) 2 w') (by kernel_rfl) ?_ (fun hHeld => ?_)
  · (try dsimp only)
    exact ⟨unhide HA, unhide HR2⟩
  refine wo_start (N := W.heap.size + 2) (i1 := 7) (d1 := 3) (v1 := #[.int .u64 0, .int .u64 0]) (t1 := 59) (f := 1) (n := 7) (T := fun w' => Below W.heap.size W w') (by kernel_rfl) (by kernel_rfl) (fun _ _ _ _ _ h => h) (fun _ _ h hb => ⟨At4.below h.1 hb, Room.below h.2 hb⟩) ?_ (stable_below W) hHeld (unhide HB) (by simp) ?_
  · intro a w K h
    unfold wpOp
    go_simp
    exact Or.inl h
  clear hHeld
  refine woA 0 6 ?_
  refine woA 1 7 ?_
  refine woA 3 9 ?_
  refine woA 4 10 ?_
  refine woA 5 11 ?_
  refine wo_call (c := 2) (o := { dst := some 8, op := _, type := _, pos := _, after := _, guard := _ }) rfl (by kernel_rfl) (by kernel_rfl) (fun u hSu hTu Kk hKk => ?_)
  go_simp
  refine (unhide HO _).mono ?_
  rintro _ wn ⟨rfl, hbl⟩
  have HTn := hide (bthen hTu hbl)
  clear hTu hSu
  (try go_wp2_with fail)
  refine hKk.out _ _ (fun w' => Below W.heap.size W w') (by assumption) (stable_below W) (unhide HTn) ?_
  clear hKk Kk HTn
  (try simp only [Act.put, List.setIfInBounds_toArray, List.set_cons_zero, List.set_cons_succ])
  refine wo_call (c := 6) (o := { dst := some 12, op := _, type := _, pos := _, after := _, guard := _ }) rfl (by kernel_rfl) (by kernel_rfl) (fun u hSu hTu Kk hKk => ?_)
  go_simp
  refine (unhide HL _).mono ?_
  rintro _ wn ⟨rfl, hbl⟩
  have HTn := hide (bthen hTu hbl)
  clear hTu hSu
  (try go_wp2_with fail)
  refine hKk.out _ _ (fun w' => Below W.heap.size W w') (by assumption) (stable_below W) (unhide HTn) ?_
  clear hKk Kk HTn
  (try simp only [Act.put, List.setIfInBounds_toArray, List.set_cons_zero, List.set_cons_succ])
  refine wo_fin (by kernel_rfl) (fun wf b1 hSu hTu k1 => ?_)
  (try simp only [Act.put, List.setIfInBounds_toArray, List.set_cons_zero, List.set_cons_succ])
  unfold ptr
  have zb := k1.base
  have HRm := hide (fresh_room2 k1)
  obtain ⟨⟨v0, c0⟩, f0⟩ := (unhide HRm) 0 (by omega)
  obtain ⟨⟨v1, c1⟩, f1⟩ := (unhide HRm) 1 (by omega)
  refine lstm 9 255 (by kernel_rfl) ?_
  refine rdA 8 511 (fun Kk hKk => ?_)
  go_simp
  refine hKk.out _ _ ?_ (fun hHeld => ?_)
  · (try dsimp only)
    exact ⟨At4.set2 hSu.1 (by omega) _ _, (hSu.2.off (by omega) _ _).off (by omega) _ _⟩
  clear hKk Kk
  (try simp only [Act.put, List.setIfInBounds_toArray, List.set_cons_zero, List.set_cons_succ])
  refine wpAnyH_done (by kernel_rfl) ?_ _
  have HB := hide (bset2 (c := b1) hTu (by omega) (.int .u64 h') (.int .u64 l'))
  have H2 := hide (at2_set2 (unhide HRm) (.int .u64 h') (.int .u64 l'))
  have HA := hide hHeld.1
  have HR2 := hide hHeld.2
  clear hHeld hSu hTu k1 c0 c1 f0 f1 HRm
  generalize (wf.setCell ⟨b1, 0, none⟩ (.int .u64 h')).setCell ⟨b1, 1, none⟩ (.int .u64 l') = wx at *
  obtain ⟨c0, c1⟩ := unhide H2
  obtain ⟨d0, d1, d2, d3⟩ := unhide HA
  go_wp2_with fail
  clear c0 c1 d0 d1 d2 d3
  refine (unhide HR _).mono ?_
  rintro _ wy ⟨rfl, hb⟩
  have HB := hide (bthen (unhide HB) hb)
  have HR2 := hide ((unhide HR2).below hb)
  clear hb H2 HA
  obtain ⟨⟨u0, c0⟩, f0⟩ := (unhide HR2) 0 (by omega)
  obtain ⟨⟨u1, c1⟩, f1⟩ := (unhide HR2) 1 (by omega)
  have zy := lt_of_cell c0
  go_wp2
  clear c0 c1
  have HB := hide (balloc (bset2 (unhide HB) (show W.heap.size ≤ W.heap.size + 1 by omega) (.int .u64 h'') (.int .u64 l'')) (.cells #[.int .u64 h'', .int .u64 l''] 59))
  have H2 := hide ((at2_set2 (unhide HR2) (.int .u64 h'') (.int .u64 l'')).below (below1 _ (.cells #[.int .u64 h'', .int .u64 l''] 59)))
  generalize ((wy.setCell ⟨W.heap.size + 1, 0, none⟩ (.int .u64 h'')).setCell ⟨W.heap.size + 1, 1, none⟩ (.int .u64 l'')).alloc (.cells #[.int .u64 h'', .int .u64 l''] 59) = wz at *
  obtain ⟨c0, c1⟩ := unhide H2
  exact bodyPost_ret (v := .agg #[.int .u64 h'', .int .u64 l'']) (by simp [results, Try.results27, go_sem, c0, c1]) rfl ⟨rfl, unhide HB⟩
set_option maxHeartbeats 4000000 in
set_option maxRecDepth 100000 in
theorem amount_lo {K X S h l h' l' h'' l'' E : Int} {n t : Bool} (W : World) (HO : Ct 29 #[.int .u64 S] (.agg #[.int .u64 h, .int .u64 l])) (g : ¬ 64 < X) (HL : Ct 49 #[.agg #[.int .u64 h, .int .u64 l], .int .i64 X] (.agg #[.int .u64 h', .int .u64 l'])) (kx : IntKind.i64.wrap (-X) = E) (HR : Ct 50 #[.agg #[.int .u64 h', .int .u64 l'], .int .i64 E] (.tuple #[.agg #[.int .u64 h'', .int .u64 l''], .bool t])) :
    Calls Try.prog 27 #[.agg #[.bool n, .int .i64 K, .int .i64 X, .int .u64 S]] W fun r W' => r = .returned (.agg #[.int .u64 h'', .int .u64 l'']) ∧ Below W.heap.size W W' := by
  go_enter Try.func27, Try.ntmps27
  go_wp2_with fail
  have HB := hide (below2 W (.cells #[.bool n, .int .i64 K, .int .i64 X, .int .u64 S] 56) (.cells #[.int .u64 0, .int .u64 0] 59)).drew
  have HA := hide ((at4_new2a W (.bool n) (.int .i64 K) (.int .i64 X) (.int .u64 S) 56 (.cells #[.int .u64 0, .int .u64 0] 59)).below ((Below.refl _ _).drew))
  have HR2 : Hid (Room (W.heap.size + 1) 2 ((W.alloc (.cells #[.bool n, .int .i64 K, .int .i64 X, .int .u64 S] 56)).alloc (.cells #[.int .u64 0, .int .u64 0] 59)).drew) := by
    intro o ho
    match o, ho with
    | 0, _ | 1, _ => simp [go_sem]
  refine wp_region_held_drew (S := fun w' => (w'.cell? ⟨W.heap.size, 0, none⟩ = some (.bool n) ∧ w'.cell? ⟨W.heap.size, 1, none⟩ = some (.int .i64 K) ∧ w'.cell? ⟨W.heap.size, 2, none⟩ = some (.int .i64 X) ∧ w'.cell? ⟨W.heap.size, 3, none⟩ = some (.int .u64 S)) ∧ Room (W.heap.size + 1) 2 w') (by kernel_rfl) ?_ (fun hHeld => ?_)
  · (try dsimp only)
    exact ⟨unhide HA, unhide HR2⟩
  refine wo_start (N := W.heap.size + 2) (i1 := 7) (d1 := 3) (v1 := #[.int .u64 0, .int .u64 0]) (t1 := 59) (f := 1) (n := 7) (T := fun w' => Below W.heap.size W w') (by kernel_rfl) (by kernel_rfl) (fun _ _ _ _ _ h => h) (fun _ _ h hb => ⟨At4.below h.1 hb, Room.below h.2 hb⟩) ?_ (stable_below W) hHeld (unhide HB) (by simp) ?_
  · intro a w K h
    unfold wpOp
    go_simp
    exact Or.inl h
  clear hHeld
  refine woA 0 6 ?_
  refine woA 1 7 ?_
  refine woA 3 9 ?_
  refine woA 4 10 ?_
  refine woA 5 11 ?_
  refine wo_call (c := 2) (o := { dst := some 8, op := _, type := _, pos := _, after := _, guard := _ }) rfl (by kernel_rfl) (by kernel_rfl) (fun u hSu hTu Kk hKk => ?_)
  go_simp
  refine (unhide HO _).mono ?_
  rintro _ wn ⟨rfl, hbl⟩
  have HTn := hide (bthen hTu hbl)
  clear hTu hSu
  (try go_wp2_with fail)
  refine hKk.out _ _ (fun w' => Below W.heap.size W w') (by assumption) (stable_below W) (unhide HTn) ?_
  clear hKk Kk HTn
  (try simp only [Act.put, List.setIfInBounds_toArray, List.set_cons_zero, List.set_cons_succ])
  refine wo_call (c := 6) (o := { dst := some 12, op := _, type := _, pos := _, after := _, guard := _ }) rfl (by kernel_rfl) (by kernel_rfl) (fun u hSu hTu Kk hKk => ?_)
  go_simp
  refine (unhide HL _).mono ?_
  rintro _ wn ⟨rfl, hbl⟩
  have HTn := hide (bthen hTu hbl)
  clear hTu hSu
  (try go_wp2_with fail)
  refine hKk.out _ _ (fun w' => Below W.heap.size W w') (by assumption) (stable_below W) (unhide HTn) ?_
  clear hKk Kk HTn
  (try simp only [Act.put, List.setIfInBounds_toArray, List.set_cons_zero, List.set_cons_succ])
  refine wo_fin (by kernel_rfl) (fun wf b1 hSu hTu k1 => ?_)
  (try simp only [Act.put, List.setIfInBounds_toArray, List.set_cons_zero, List.set_cons_succ])
  unfold ptr
  have zb := k1.base
  have HRm := hide (fresh_room2 k1)
  obtain ⟨⟨v0, c0⟩, f0⟩ := (unhide HRm) 0 (by omega)
  obtain ⟨⟨v1, c1⟩, f1⟩ := (unhide HRm) 1 (by omega)
  refine lstm 9 255 (by kernel_rfl) ?_
  refine rdA 8 511 (fun Kk hKk => ?_)
  go_simp
  refine hKk.out _ _ ?_ (fun hHeld => ?_)
  · (try dsimp only)
    exact ⟨At4.set2 hSu.1 (by omega) _ _, (hSu.2.off (by omega) _ _).off (by omega) _ _⟩
  clear hKk Kk
  (try simp only [Act.put, List.setIfInBounds_toArray, List.set_cons_zero, List.set_cons_succ])
  refine wpAnyH_done (by kernel_rfl) ?_ _
  have HB := hide (bset2 (c := b1) hTu (by omega) (.int .u64 h') (.int .u64 l'))
  have H2 := hide (at2_set2 (unhide HRm) (.int .u64 h') (.int .u64 l'))
  have HA := hide hHeld.1
  have HR2 := hide hHeld.2
  clear hHeld hSu hTu k1 c0 c1 f0 f1 HRm
  generalize (wf.setCell ⟨b1, 0, none⟩ (.int .u64 h')).setCell ⟨b1, 1, none⟩ (.int .u64 l') = wx at *
  obtain ⟨c0, c1⟩ := unhide H2
  obtain ⟨d0, d1, d2, d3⟩ := unhide HA
  go_wp2_with fail
  clear c0 c1 d0 d1 d2 d3
  refine (unhide HR _).mono ?_
  rintro _ wy ⟨rfl, hb⟩
  have HB := hide (bthen (unhide HB) hb)
  have HR2 := hide ((unhide HR2).below hb)
  clear hb H2 HA
  obtain ⟨⟨u0, c0⟩, f0⟩ := (unhide HR2) 0 (by omega)
  obtain ⟨⟨u1, c1⟩, f1⟩ := (unhide HR2) 1 (by omega)
  have zy := lt_of_cell c0
  go_wp2
  clear c0 c1
  have HB := hide (balloc (bset2 (unhide HB) (show W.heap.size ≤ W.heap.size + 1 by omega) (.int .u64 h'') (.int .u64 l'')) (.cells #[.int .u64 h'', .int .u64 l''] 59))
  have H2 := hide ((at2_set2 (unhide HR2) (.int .u64 h'') (.int .u64 l'')).below (below1 _ (.cells #[.int .u64 h'', .int .u64 l''] 59)))
  generalize ((wy.setCell ⟨W.heap.size + 1, 0, none⟩ (.int .u64 h'')).setCell ⟨W.heap.size + 1, 1, none⟩ (.int .u64 l'')).alloc (.cells #[.int .u64 h'', .int .u64 l''] 59) = wz at *
  obtain ⟨c0, c1⟩ := unhide H2
  exact bodyPost_ret (v := .agg #[.int .u64 h'', .int .u64 l'']) (by simp [results, Try.results27, go_sem, c0, c1]) rfl ⟨rfl, unhide HB⟩
end Go.Proofs.Ytmbkpmcmhmldgaa
namespace Go.Proofs.Ytmbkpmcmhmldgaa
open Go.RowKit
open Go.Proofs.Ytmbkpmcmhmldgaa.W

set_option maxHeartbeats 4000000 in
set_option maxRecDepth 100000 in
theorem chopped_no {w k x : Int} {s : Bool} (W : World) (HK : Ct 25 #[.int .i64 k] (.bool false)) :
    Calls Try.prog 14 #[.int .i64 w, .int .i64 k, .int .u64 x, .bool s] W fun r W' => r = .returned (.tuple #[.int .u64 0, .int .i64 0]) ∧ Below W.heap.size W W' := by
  have HB := hide (Below.refl W.heap.size W)
  go_enter Try.func14, Try.ntmps14
  go_wp2_with fail
  refine (unhide HK _).mono ?_
  rintro _ w1 ⟨rfl, hb⟩
  have HB := hide (bthen (unhide HB) hb)
  clear hb
  go_wp2_with fail
  go_ret2
  exact ⟨rfl, unhide HB⟩
theorem at2_mk (w : World) (x y : Value) (t : TypeId) : At2 w.heap.size x y (w.alloc (.cells #[x, y] t)).drew := by unfold At2; simp [go_sem]
set_option maxHeartbeats 4000000 in
set_option maxRecDepth 100000 in
theorem chopped_nan_t {w k x X S L h : Int} {s : Bool} (W : World) (HK : Ct 25 #[.int .i64 k] (.bool true)) (HO : Ct 26 #[.int .i64 w, .int .u64 x] (.agg #[.bool true, .int .i64 3, .int .i64 X, .int .u64 S])) (HE : Ct 8 #[.int .i64 k, .bool s] (.tuple #[.int .u64 L, .int .u64 h])) :
    Calls Try.prog 14 #[.int .i64 w, .int .i64 k, .int .u64 x, .bool s] W fun r W' => r = .returned (.tuple #[.int .u64 0, .int .i64 4]) ∧ Below W.heap.size W W' := by
  have HB := hide (Below.refl W.heap.size W)
  go_enter Try.func14, Try.ntmps14
  go_wp2_with fail
  refine (unhide HK _).mono ?_
  rintro _ w1 ⟨rfl, hb⟩
  have HB := hide (bthen (unhide HB) hb)
  clear hb
  go_wp2_with fail
  refine (unhide HO _).mono ?_
  rintro _ w2 ⟨rfl, hb⟩
  have HB := hide (balloc (bthen (unhide HB) hb) (.cells #[.bool true, .int .i64 3, .int .i64 X, .int .u64 S] 56))
  have HA := hide (at4_new w2 (.bool true) (.int .i64 3) (.int .i64 X) (.int .u64 S) 56)
  clear hb
  go_wp2_with fail
  refine (unhide HE _).mono ?_
  rintro _ w3 ⟨rfl, hb⟩
  have HB := hide (bthen (unhide HB) hb)
  have HA := hide ((unhide HA).below hb)
  clear hb
  obtain ⟨c0, c1, c2, c3⟩ := unhide HA
  go_wp2_with fail
  go_ret2
  exact ⟨rfl, unhide HB⟩
set_option maxHeartbeats 4000000 in
set_option maxRecDepth 100000 in
theorem chopped_inf_t {w k x X S L h : Int} {s : Bool} (W : World) (HK : Ct 25 #[.int .i64 k] (.bool true)) (HO : Ct 26 #[.int .i64 w, .int .u64 x] (.agg #[.bool true, .int .i64 2, .int .i64 X, .int .u64 S])) (HE : Ct 8 #[.int .i64 k, .bool s] (.tuple #[.int .u64 L, .int .u64 h])) :
    Calls Try.prog 14 #[.int .i64 w, .int .i64 k, .int .u64 x, .bool s] W fun r W' => r = .returned (.tuple #[.int .u64 L, .int .i64 3]) ∧ Below W.heap.size W W' := by
  have HB := hide (Below.refl W.heap.size W)
  go_enter Try.func14, Try.ntmps14
  go_wp2_with fail
  refine (unhide HK _).mono ?_
  rintro _ w1 ⟨rfl, hb⟩
  have HB := hide (bthen (unhide HB) hb)
  clear hb
  go_wp2_with fail
  refine (unhide HO _).mono ?_
  rintro _ w2 ⟨rfl, hb⟩
  have HB := hide (balloc (bthen (unhide HB) hb) (.cells #[.bool true, .int .i64 2, .int .i64 X, .int .u64 S] 56))
  have HA := hide (at4_new w2 (.bool true) (.int .i64 2) (.int .i64 X) (.int .u64 S) 56)
  clear hb
  go_wp2_with fail
  refine (unhide HE _).mono ?_
  rintro _ w3 ⟨rfl, hb⟩
  have HB := hide (bthen (unhide HB) hb)
  have HA := hide ((unhide HA).below hb)
  clear hb
  obtain ⟨c0, c1, c2, c3⟩ := unhide HA
  go_wp2_with fail
  go_ret2
  exact ⟨rfl, unhide HB⟩
set_option maxHeartbeats 4000000 in
set_option maxRecDepth 100000 in
theorem chopped_le_t {w k x X S L h a1 a0 e1 e0 c V : Int} {s : Bool} (W : World) (HK : Ct 25 #[.int .i64 k] (.bool true)) (HO : Ct 26 #[.int .i64 w, .int .u64 x] (.agg #[.bool true, .int .i64 1, .int .i64 X, .int .u64 S])) (HE : Ct 8 #[.int .i64 k, .bool s] (.tuple #[.int .u64 L, .int .u64 h])) (HM : Ct 27 #[.agg #[.bool true, .int .i64 1, .int .i64 X, .int .u64 S]] (.agg #[.int .u64 a1, .int .u64 a0])) (HF : Ct 29 #[.int .u64 L] (.agg #[.int .u64 e1, .int .u64 e0])) (HC : Ct 28 #[.agg #[.int .u64 a1, .int .u64 a0], .agg #[.int .u64 e1, .int .u64 e0]] (.int .i64 c)) (g : c ≤ 0) (HS : Ct 30 #[.int .i64 k, .bool true, .int .u64 a0] (.int .u64 V)) :
    Calls Try.prog 14 #[.int .i64 w, .int .i64 k, .int .u64 x, .bool s] W fun r W' => r = .returned (.tuple #[.int .u64 V, .int .i64 0]) ∧ Below W.heap.size W W' := by
  have HB := hide (Below.refl W.heap.size W)
  go_enter Try.func14, Try.ntmps14
  go_wp2_with fail
  refine (unhide HK _).mono ?_
  rintro _ w1 ⟨rfl, hb⟩
  have HB := hide (bthen (unhide HB) hb)
  clear hb
  go_wp2_with fail
  refine (unhide HO _).mono ?_
  rintro _ w2 ⟨rfl, hb⟩
  have HB := hide (balloc (bthen (unhide HB) hb) (.cells #[.bool true, .int .i64 1, .int .i64 X, .int .u64 S] 56))
  have HA := hide (at4_new w2 (.bool true) (.int .i64 1) (.int .i64 X) (.int .u64 S) 56)
  clear hb
  go_wp2_with fail
  refine (unhide HE _).mono ?_
  rintro _ w3 ⟨rfl, hb⟩
  have HB := hide (bthen (unhide HB) hb)
  have HA := hide ((unhide HA).below hb)
  clear hb
  obtain ⟨c0, c1, c2, c3⟩ := unhide HA
  go_wp2_with fail
  clear c0 c1 c2 c3
  refine (unhide HM _).mono ?_
  rintro _ w4 ⟨rfl, hb⟩
  have HB := hide (bthen (unhide HB) hb)
  have HA := hide ((unhide HA).below hb)
  clear hb
  have HB := hide (balloc (unhide HB) (.cells #[.int .u64 a1, .int .u64 a0] 59)).drew
  have HA := hide ((unhide HA).below (below1 w4 (.cells #[.int .u64 a1, .int .u64 a0] 59)).drew)
  have H2 := hide (at2_mk w4 (.int .u64 a1) (.int .u64 a0) 59)
  go_wp2_with fail
  refine wp_region_held_drew (S := fun w' => (w'.cell? ⟨w4.heap.size, 0, none⟩ = some (.int .u64 a1) ∧ w'.cell? ⟨w4.heap.size, 1, none⟩ = some (.int .u64 a0))) (by kernel_rfl) ?_ (fun hHeld => ?_)
  · (try dsimp only)
    exact unhide H2
  refine lst0 5 (by kernel_rfl) ?_
  refine tkA 0 39 1 ?_
  refine tkA 1 40 3 ?_
  refine rdA 2 7 (fun Kk hKk => ?_)
  go_simp
  refine (unhide HF _).mono ?_
  rintro _ w5 ⟨rfl, hb⟩
  have HB := hide (bthen (unhide HB) hb)
  have HA := hide ((unhide HA).below hb)
  have H2 := hide ((unhide H2).below hb)
  clear hb
  (try go_wp2_with fail)
  refine hKk.out _ _ ?_ (fun hHeld => ?_)
  · (try dsimp only)
    exact unhide H2
  clear hKk Kk
  (try simp only [List.setIfInBounds_toArray, List.set_cons_zero, List.set_cons_succ])
  refine rdA 3 15 (fun Kk hKk => ?_)
  go_simp
  refine (unhide HC _).mono ?_
  rintro _ w6 ⟨rfl, hb⟩
  have HB := hide (bthen (unhide HB) hb)
  have HA := hide ((unhide HA).below hb)
  have H2 := hide ((unhide H2).below hb)
  clear hb
  (try go_wp2_with fail)
  refine hKk.out _ _ ?_ (fun hHeld => ?_)
  · (try dsimp only)
    exact unhide H2
  clear hKk Kk
  (try simp only [List.setIfInBounds_toArray, List.set_cons_zero, List.set_cons_succ])
  refine tkA 4 43 31 ?_
  refine wpAnyH_done (by kernel_rfl) ?_ _
  clear hHeld
  obtain ⟨c0, c1, c2, c3⟩ := unhide HA
  obtain ⟨d0, d1⟩ := unhide H2
  go_wp2_with fail
  clear c0 c1 c2 c3 d0 d1
  refine (unhide HS _).mono ?_
  rintro _ w7 ⟨rfl, hb⟩
  have HB := hide (bthen (unhide HB) hb)
  clear hb
  go_wp2_with fail
  go_ret2
  exact ⟨rfl, unhide HB⟩
set_option maxHeartbeats 4000000 in
set_option maxRecDepth 100000 in
theorem chopped_gt_t {w k x X S L h a1 a0 e1 e0 c : Int} {s : Bool} (W : World) (HK : Ct 25 #[.int .i64 k] (.bool true)) (HO : Ct 26 #[.int .i64 w, .int .u64 x] (.agg #[.bool true, .int .i64 1, .int .i64 X, .int .u64 S])) (HE : Ct 8 #[.int .i64 k, .bool s] (.tuple #[.int .u64 L, .int .u64 h])) (HM : Ct 27 #[.agg #[.bool true, .int .i64 1, .int .i64 X, .int .u64 S]] (.agg #[.int .u64 a1, .int .u64 a0])) (HF : Ct 29 #[.int .u64 L] (.agg #[.int .u64 e1, .int .u64 e0])) (HC : Ct 28 #[.agg #[.int .u64 a1, .int .u64 a0], .agg #[.int .u64 e1, .int .u64 e0]] (.int .i64 c)) (g : ¬ c ≤ 0) :
    Calls Try.prog 14 #[.int .i64 w, .int .i64 k, .int .u64 x, .bool s] W fun r W' => r = .returned (.tuple #[.int .u64 L, .int .i64 3]) ∧ Below W.heap.size W W' := by
  have HB := hide (Below.refl W.heap.size W)
  go_enter Try.func14, Try.ntmps14
  go_wp2_with fail
  refine (unhide HK _).mono ?_
  rintro _ w1 ⟨rfl, hb⟩
  have HB := hide (bthen (unhide HB) hb)
  clear hb
  go_wp2_with fail
  refine (unhide HO _).mono ?_
  rintro _ w2 ⟨rfl, hb⟩
  have HB := hide (balloc (bthen (unhide HB) hb) (.cells #[.bool true, .int .i64 1, .int .i64 X, .int .u64 S] 56))
  have HA := hide (at4_new w2 (.bool true) (.int .i64 1) (.int .i64 X) (.int .u64 S) 56)
  clear hb
  go_wp2_with fail
  refine (unhide HE _).mono ?_
  rintro _ w3 ⟨rfl, hb⟩
  have HB := hide (bthen (unhide HB) hb)
  have HA := hide ((unhide HA).below hb)
  clear hb
  obtain ⟨c0, c1, c2, c3⟩ := unhide HA
  go_wp2_with fail
  clear c0 c1 c2 c3
  refine (unhide HM _).mono ?_
  rintro _ w4 ⟨rfl, hb⟩
  have HB := hide (bthen (unhide HB) hb)
  have HA := hide ((unhide HA).below hb)
  clear hb
  have HB := hide (balloc (unhide HB) (.cells #[.int .u64 a1, .int .u64 a0] 59)).drew
  have HA := hide ((unhide HA).below (below1 w4 (.cells #[.int .u64 a1, .int .u64 a0] 59)).drew)
  have H2 := hide (at2_mk w4 (.int .u64 a1) (.int .u64 a0) 59)
  go_wp2_with fail
  refine wp_region_held_drew (S := fun w' => (w'.cell? ⟨w4.heap.size, 0, none⟩ = some (.int .u64 a1) ∧ w'.cell? ⟨w4.heap.size, 1, none⟩ = some (.int .u64 a0))) (by kernel_rfl) ?_ (fun hHeld => ?_)
  · (try dsimp only)
    exact unhide H2
  refine lst0 5 (by kernel_rfl) ?_
  refine tkA 0 39 1 ?_
  refine tkA 1 40 3 ?_
  refine rdA 2 7 (fun Kk hKk => ?_)
  go_simp
  refine (unhide HF _).mono ?_
  rintro _ w5 ⟨rfl, hb⟩
  have HB := hide (bthen (unhide HB) hb)
  have HA := hide ((unhide HA).below hb)
  have H2 := hide ((unhide H2).below hb)
  clear hb
  (try go_wp2_with fail)
  refine hKk.out _ _ ?_ (fun hHeld => ?_)
  · (try dsimp only)
    exact unhide H2
  clear hKk Kk
  (try simp only [List.setIfInBounds_toArray, List.set_cons_zero, List.set_cons_succ])
  refine rdA 3 15 (fun Kk hKk => ?_)
  go_simp
  refine (unhide HC _).mono ?_
  rintro _ w6 ⟨rfl, hb⟩
  have HB := hide (bthen (unhide HB) hb)
  have HA := hide ((unhide HA).below hb)
  have H2 := hide ((unhide H2).below hb)
  clear hb
  (try go_wp2_with fail)
  refine hKk.out _ _ ?_ (fun hHeld => ?_)
  · (try dsimp only)
    exact unhide H2
  clear hKk Kk
  (try simp only [List.setIfInBounds_toArray, List.set_cons_zero, List.set_cons_succ])
  refine tkA 4 43 31 ?_
  refine wpAnyH_done (by kernel_rfl) ?_ _
  clear hHeld
  go_wp2_with fail
  go_ret2
  exact ⟨rfl, unhide HB⟩
set_option maxHeartbeats 4000000 in
set_option maxRecDepth 100000 in
theorem chopped_zero_t {w k x X S L h : Int} {s : Bool} (W : World) (HK : Ct 25 #[.int .i64 k] (.bool true)) (HO : Ct 26 #[.int .i64 w, .int .u64 x] (.agg #[.bool true, .int .i64 0, .int .i64 X, .int .u64 S])) (HE : Ct 8 #[.int .i64 k, .bool s] (.tuple #[.int .u64 L, .int .u64 h])) :
    Calls Try.prog 14 #[.int .i64 w, .int .i64 k, .int .u64 x, .bool s] W fun r W' => r = .returned (.tuple #[.int .u64 0, .int .i64 0]) ∧ Below W.heap.size W W' := by
  have HB := hide (Below.refl W.heap.size W)
  go_enter Try.func14, Try.ntmps14
  go_wp2_with fail
  refine (unhide HK _).mono ?_
  rintro _ w1 ⟨rfl, hb⟩
  have HB := hide (bthen (unhide HB) hb)
  clear hb
  go_wp2_with fail
  refine (unhide HO _).mono ?_
  rintro _ w2 ⟨rfl, hb⟩
  have HB := hide (balloc (bthen (unhide HB) hb) (.cells #[.bool true, .int .i64 0, .int .i64 X, .int .u64 S] 56))
  have HA := hide (at4_new w2 (.bool true) (.int .i64 0) (.int .i64 X) (.int .u64 S) 56)
  clear hb
  go_wp2_with fail
  refine (unhide HE _).mono ?_
  rintro _ w3 ⟨rfl, hb⟩
  have HB := hide (bthen (unhide HB) hb)
  have HA := hide ((unhide HA).below hb)
  clear hb
  obtain ⟨c0, c1, c2, c3⟩ := unhide HA
  go_wp2_with fail
  go_ret2
  exact ⟨rfl, unhide HB⟩
set_option maxHeartbeats 4000000 in
set_option maxRecDepth 100000 in
theorem chopped_nan_f {w k x X S L h : Int} {s : Bool} (W : World) (HK : Ct 25 #[.int .i64 k] (.bool true)) (HO : Ct 26 #[.int .i64 w, .int .u64 x] (.agg #[.bool false, .int .i64 3, .int .i64 X, .int .u64 S])) (HE : Ct 8 #[.int .i64 k, .bool s] (.tuple #[.int .u64 L, .int .u64 h])) :
    Calls Try.prog 14 #[.int .i64 w, .int .i64 k, .int .u64 x, .bool s] W fun r W' => r = .returned (.tuple #[.int .u64 0, .int .i64 4]) ∧ Below W.heap.size W W' := by
  have HB := hide (Below.refl W.heap.size W)
  go_enter Try.func14, Try.ntmps14
  go_wp2_with fail
  refine (unhide HK _).mono ?_
  rintro _ w1 ⟨rfl, hb⟩
  have HB := hide (bthen (unhide HB) hb)
  clear hb
  go_wp2_with fail
  refine (unhide HO _).mono ?_
  rintro _ w2 ⟨rfl, hb⟩
  have HB := hide (balloc (bthen (unhide HB) hb) (.cells #[.bool false, .int .i64 3, .int .i64 X, .int .u64 S] 56))
  have HA := hide (at4_new w2 (.bool false) (.int .i64 3) (.int .i64 X) (.int .u64 S) 56)
  clear hb
  go_wp2_with fail
  refine (unhide HE _).mono ?_
  rintro _ w3 ⟨rfl, hb⟩
  have HB := hide (bthen (unhide HB) hb)
  have HA := hide ((unhide HA).below hb)
  clear hb
  obtain ⟨c0, c1, c2, c3⟩ := unhide HA
  go_wp2_with fail
  go_ret2
  exact ⟨rfl, unhide HB⟩
set_option maxHeartbeats 4000000 in
set_option maxRecDepth 100000 in
theorem chopped_inf_f {w k x X S L h : Int} {s : Bool} (W : World) (HK : Ct 25 #[.int .i64 k] (.bool true)) (HO : Ct 26 #[.int .i64 w, .int .u64 x] (.agg #[.bool false, .int .i64 2, .int .i64 X, .int .u64 S])) (HE : Ct 8 #[.int .i64 k, .bool s] (.tuple #[.int .u64 L, .int .u64 h])) :
    Calls Try.prog 14 #[.int .i64 w, .int .i64 k, .int .u64 x, .bool s] W fun r W' => r = .returned (.tuple #[.int .u64 h, .int .i64 3]) ∧ Below W.heap.size W W' := by
  have HB := hide (Below.refl W.heap.size W)
  go_enter Try.func14, Try.ntmps14
  go_wp2_with fail
  refine (unhide HK _).mono ?_
  rintro _ w1 ⟨rfl, hb⟩
  have HB := hide (bthen (unhide HB) hb)
  clear hb
  go_wp2_with fail
  refine (unhide HO _).mono ?_
  rintro _ w2 ⟨rfl, hb⟩
  have HB := hide (balloc (bthen (unhide HB) hb) (.cells #[.bool false, .int .i64 2, .int .i64 X, .int .u64 S] 56))
  have HA := hide (at4_new w2 (.bool false) (.int .i64 2) (.int .i64 X) (.int .u64 S) 56)
  clear hb
  go_wp2_with fail
  refine (unhide HE _).mono ?_
  rintro _ w3 ⟨rfl, hb⟩
  have HB := hide (bthen (unhide HB) hb)
  have HA := hide ((unhide HA).below hb)
  clear hb
  obtain ⟨c0, c1, c2, c3⟩ := unhide HA
  go_wp2_with fail
  go_ret2
  exact ⟨rfl, unhide HB⟩
set_option maxHeartbeats 4000000 in
set_option maxRecDepth 100000 in
theorem chopped_le_f {w k x X S L h a1 a0 e1 e0 c V : Int} {s : Bool} (W : World) (HK : Ct 25 #[.int .i64 k] (.bool true)) (HO : Ct 26 #[.int .i64 w, .int .u64 x] (.agg #[.bool false, .int .i64 1, .int .i64 X, .int .u64 S])) (HE : Ct 8 #[.int .i64 k, .bool s] (.tuple #[.int .u64 L, .int .u64 h])) (HM : Ct 27 #[.agg #[.bool false, .int .i64 1, .int .i64 X, .int .u64 S]] (.agg #[.int .u64 a1, .int .u64 a0])) (HF : Ct 29 #[.int .u64 h] (.agg #[.int .u64 e1, .int .u64 e0])) (HC : Ct 28 #[.agg #[.int .u64 a1, .int .u64 a0], .agg #[.int .u64 e1, .int .u64 e0]] (.int .i64 c)) (g : c ≤ 0) (HS : Ct 30 #[.int .i64 k, .bool false, .int .u64 a0] (.int .u64 V)) :
    Calls Try.prog 14 #[.int .i64 w, .int .i64 k, .int .u64 x, .bool s] W fun r W' => r = .returned (.tuple #[.int .u64 V, .int .i64 0]) ∧ Below W.heap.size W W' := by
  have HB := hide (Below.refl W.heap.size W)
  go_enter Try.func14, Try.ntmps14
  go_wp2_with fail
  refine (unhide HK _).mono ?_
  rintro _ w1 ⟨rfl, hb⟩
  have HB := hide (bthen (unhide HB) hb)
  clear hb
  go_wp2_with fail
  refine (unhide HO _).mono ?_
  rintro _ w2 ⟨rfl, hb⟩
  have HB := hide (balloc (bthen (unhide HB) hb) (.cells #[.bool false, .int .i64 1, .int .i64 X, .int .u64 S] 56))
  have HA := hide (at4_new w2 (.bool false) (.int .i64 1) (.int .i64 X) (.int .u64 S) 56)
  clear hb
  go_wp2_with fail
  refine (unhide HE _).mono ?_
  rintro _ w3 ⟨rfl, hb⟩
  have HB := hide (bthen (unhide HB) hb)
  have HA := hide ((unhide HA).below hb)
  clear hb
  obtain ⟨c0, c1, c2, c3⟩ := unhide HA
  go_wp2_with fail
  clear c0 c1 c2 c3
  refine (unhide HM _).mono ?_
  rintro _ w4 ⟨rfl, hb⟩
  have HB := hide (bthen (unhide HB) hb)
  have HA := hide ((unhide HA).below hb)
  clear hb
  have HB := hide (balloc (unhide HB) (.cells #[.int .u64 a1, .int .u64 a0] 59)).drew
  have HA := hide ((unhide HA).below (below1 w4 (.cells #[.int .u64 a1, .int .u64 a0] 59)).drew)
  have H2 := hide (at2_mk w4 (.int .u64 a1) (.int .u64 a0) 59)
  go_wp2_with fail
  refine wp_region_held_drew (S := fun w' => (w'.cell? ⟨w4.heap.size, 0, none⟩ = some (.int .u64 a1) ∧ w'.cell? ⟨w4.heap.size, 1, none⟩ = some (.int .u64 a0))) (by kernel_rfl) ?_ (fun hHeld => ?_)
  · (try dsimp only)
    exact unhide H2
  refine lst0 5 (by kernel_rfl) ?_
  refine tkA 0 39 1 ?_
  refine tkA 1 40 3 ?_
  refine rdA 2 7 (fun Kk hKk => ?_)
  go_simp
  refine (unhide HF _).mono ?_
  rintro _ w5 ⟨rfl, hb⟩
  have HB := hide (bthen (unhide HB) hb)
  have HA := hide ((unhide HA).below hb)
  have H2 := hide ((unhide H2).below hb)
  clear hb
  (try go_wp2_with fail)
  refine hKk.out _ _ ?_ (fun hHeld => ?_)
  · (try dsimp only)
    exact unhide H2
  clear hKk Kk
  (try simp only [List.setIfInBounds_toArray, List.set_cons_zero, List.set_cons_succ])
  refine rdA 3 15 (fun Kk hKk => ?_)
  go_simp
  refine (unhide HC _).mono ?_
  rintro _ w6 ⟨rfl, hb⟩
  have HB := hide (bthen (unhide HB) hb)
  have HA := hide ((unhide HA).below hb)
  have H2 := hide ((unhide H2).below hb)
  clear hb
  (try go_wp2_with fail)
  refine hKk.out _ _ ?_ (fun hHeld => ?_)
  · (try dsimp only)
    exact unhide H2
  clear hKk Kk
  (try simp only [List.setIfInBounds_toArray, List.set_cons_zero, List.set_cons_succ])
  refine tkA 4 43 31 ?_
  refine wpAnyH_done (by kernel_rfl) ?_ _
  clear hHeld
  obtain ⟨c0, c1, c2, c3⟩ := unhide HA
  obtain ⟨d0, d1⟩ := unhide H2
  go_wp2_with fail
  clear c0 c1 c2 c3 d0 d1
  refine (unhide HS _).mono ?_
  rintro _ w7 ⟨rfl, hb⟩
  have HB := hide (bthen (unhide HB) hb)
  clear hb
  go_wp2_with fail
  go_ret2
  exact ⟨rfl, unhide HB⟩
set_option maxHeartbeats 4000000 in
set_option maxRecDepth 100000 in
theorem chopped_gt_f {w k x X S L h a1 a0 e1 e0 c : Int} {s : Bool} (W : World) (HK : Ct 25 #[.int .i64 k] (.bool true)) (HO : Ct 26 #[.int .i64 w, .int .u64 x] (.agg #[.bool false, .int .i64 1, .int .i64 X, .int .u64 S])) (HE : Ct 8 #[.int .i64 k, .bool s] (.tuple #[.int .u64 L, .int .u64 h])) (HM : Ct 27 #[.agg #[.bool false, .int .i64 1, .int .i64 X, .int .u64 S]] (.agg #[.int .u64 a1, .int .u64 a0])) (HF : Ct 29 #[.int .u64 h] (.agg #[.int .u64 e1, .int .u64 e0])) (HC : Ct 28 #[.agg #[.int .u64 a1, .int .u64 a0], .agg #[.int .u64 e1, .int .u64 e0]] (.int .i64 c)) (g : ¬ c ≤ 0) :
    Calls Try.prog 14 #[.int .i64 w, .int .i64 k, .int .u64 x, .bool s] W fun r W' => r = .returned (.tuple #[.int .u64 h, .int .i64 3]) ∧ Below W.heap.size W W' := by
  have HB := hide (Below.refl W.heap.size W)
  go_enter Try.func14, Try.ntmps14
  go_wp2_with fail
  refine (unhide HK _).mono ?_
  rintro _ w1 ⟨rfl, hb⟩
  have HB := hide (bthen (unhide HB) hb)
  clear hb
  go_wp2_with fail
  refine (unhide HO _).mono ?_
  rintro _ w2 ⟨rfl, hb⟩
  have HB := hide (balloc (bthen (unhide HB) hb) (.cells #[.bool false, .int .i64 1, .int .i64 X, .int .u64 S] 56))
  have HA := hide (at4_new w2 (.bool false) (.int .i64 1) (.int .i64 X) (.int .u64 S) 56)
  clear hb
  go_wp2_with fail
  refine (unhide HE _).mono ?_
  rintro _ w3 ⟨rfl, hb⟩
  have HB := hide (bthen (unhide HB) hb)
  have HA := hide ((unhide HA).below hb)
  clear hb
  obtain ⟨c0, c1, c2, c3⟩ := unhide HA
  go_wp2_with fail
  clear c0 c1 c2 c3
  refine (unhide HM _).mono ?_
  rintro _ w4 ⟨rfl, hb⟩
  have HB := hide (bthen (unhide HB) hb)
  have HA := hide ((unhide HA).below hb)
  clear hb
  have HB := hide (balloc (unhide HB) (.cells #[.int .u64 a1, .int .u64 a0] 59)).drew
  have HA := hide ((unhide HA).below (below1 w4 (.cells #[.int .u64 a1, .int .u64 a0] 59)).drew)
  have H2 := hide (at2_mk w4 (.int .u64 a1) (.int .u64 a0) 59)
  go_wp2_with fail
  refine wp_region_held_drew (S := fun w' => (w'.cell? ⟨w4.heap.size, 0, none⟩ = some (.int .u64 a1) ∧ w'.cell? ⟨w4.heap.size, 1, none⟩ = some (.int .u64 a0))) (by kernel_rfl) ?_ (fun hHeld => ?_)
  · (try dsimp only)
    exact unhide H2
  refine lst0 5 (by kernel_rfl) ?_
  refine tkA 0 39 1 ?_
  refine tkA 1 40 3 ?_
  refine rdA 2 7 (fun Kk hKk => ?_)
  go_simp
  refine (unhide HF _).mono ?_
  rintro _ w5 ⟨rfl, hb⟩
  have HB := hide (bthen (unhide HB) hb)
  have HA := hide ((unhide HA).below hb)
  have H2 := hide ((unhide H2).below hb)
  clear hb
  (try go_wp2_with fail)
  refine hKk.out _ _ ?_ (fun hHeld => ?_)
  · (try dsimp only)
    exact unhide H2
  clear hKk Kk
  (try simp only [List.setIfInBounds_toArray, List.set_cons_zero, List.set_cons_succ])
  refine rdA 3 15 (fun Kk hKk => ?_)
  go_simp
  refine (unhide HC _).mono ?_
  rintro _ w6 ⟨rfl, hb⟩
  have HB := hide (bthen (unhide HB) hb)
  have HA := hide ((unhide HA).below hb)
  have H2 := hide ((unhide H2).below hb)
  clear hb
  (try go_wp2_with fail)
  refine hKk.out _ _ ?_ (fun hHeld => ?_)
  · (try dsimp only)
    exact unhide H2
  clear hKk Kk
  (try simp only [List.setIfInBounds_toArray, List.set_cons_zero, List.set_cons_succ])
  refine tkA 4 43 31 ?_
  refine wpAnyH_done (by kernel_rfl) ?_ _
  clear hHeld
  go_wp2_with fail
  go_ret2
  exact ⟨rfl, unhide HB⟩
set_option maxHeartbeats 4000000 in
set_option maxRecDepth 100000 in
theorem chopped_zero_f {w k x X S L h : Int} {s : Bool} (W : World) (HK : Ct 25 #[.int .i64 k] (.bool true)) (HO : Ct 26 #[.int .i64 w, .int .u64 x] (.agg #[.bool false, .int .i64 0, .int .i64 X, .int .u64 S])) (HE : Ct 8 #[.int .i64 k, .bool s] (.tuple #[.int .u64 L, .int .u64 h])) :
    Calls Try.prog 14 #[.int .i64 w, .int .i64 k, .int .u64 x, .bool s] W fun r W' => r = .returned (.tuple #[.int .u64 0, .int .i64 0]) ∧ Below W.heap.size W W' := by
  have HB := hide (Below.refl W.heap.size W)
  go_enter Try.func14, Try.ntmps14
  go_wp2_with fail
  refine (unhide HK _).mono ?_
  rintro _ w1 ⟨rfl, hb⟩
  have HB := hide (bthen (unhide HB) hb)
  clear hb
  go_wp2_with fail
  refine (unhide HO _).mono ?_
  rintro _ w2 ⟨rfl, hb⟩
  have HB := hide (balloc (bthen (unhide HB) hb) (.cells #[.bool false, .int .i64 0, .int .i64 X, .int .u64 S] 56))
  have HA := hide (at4_new w2 (.bool false) (.int .i64 0) (.int .i64 X) (.int .u64 S) 56)
  clear hb
  go_wp2_with fail
  refine (unhide HE _).mono ?_
  rintro _ w3 ⟨rfl, hb⟩
  have HB := hide (bthen (unhide HB) hb)
  have HA := hide ((unhide HA).below hb)
  clear hb
  obtain ⟨c0, c1, c2, c3⟩ := unhide HA
  go_wp2_with fail
  go_ret2
  exact ⟨rfl, unhide HB⟩
end Go.Proofs.Ytmbkpmcmhmldgaa
