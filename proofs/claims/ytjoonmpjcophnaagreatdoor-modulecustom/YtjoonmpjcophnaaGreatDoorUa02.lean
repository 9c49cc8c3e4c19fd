/- NuB. -/
import Derived.Test.YtjoonmpjcophnaaGreatDoorUa01
import Derived.LoopN
namespace Go.Proofs.YtjoonmpjcophnaaGreatDoor
open Go.RowKit

/-- A variable that is loaded whole. -/
theorem load_tab {P : Program} {w : World} {g : Nat} {ty : TypeId} {L : List Value} {d : TypeDesc} (h : Tab w g L) (hu : P.underlying ty = some d) (hd : (match d with | .struct _ | .array _ _ => true | _ => false) = true) (hi : (P.info? ty).map (·.size) = some L.length) :
    (loadVar ty ⟨g, 0, none⟩).run P w = .ok (.agg L.toArray) w := by
  have hl : (loadCells ⟨g, 0, none⟩ L.length).run P w = .ok L.toArray w :=
    run_loadCells_list (P := P) w ⟨g, 0, none⟩ L (fun j v hv => by
      have hadd : (⟨g, 0, none⟩ : Addr).add j = ⟨g, j, none⟩ := by unfold Addr.add; split <;> simp_all
      rw [hadd]
      exact h j v hv)
  cases hq : P.info? ty with
  | none => simp [hq] at hi
  | some i =>
    have hs : i.size = L.length := by simpa [hq] using hi
    have hagg : (isAgg ty).run P w = .ok true w := by
      unfold isAgg
      rw [Sem.run_bind, run_underlying hu w]
      cases d <;> simp_all
    simp [loadVar, Sem.run_bind, hagg, sizeOf, typeInfo, hq, hs, hl]
theorem wpList_load_tab {P : Program} {ops : Array Oper} {rest : List Oper} {o : Oper} {a : Act} {w : World} {Q : Exit → Act → World → Prop} (hgd : o.guard = none) (ty : TypeId) (x : Operand) (ho : o.op = .load ty x)
    (g : Nat) (hx : a.eval x = .pointer (some ⟨g, 0, none⟩)) (L : List Value) (d : TypeDesc) (hg : Tab w g L)
    (hu : P.underlying ty = some d) (hd : (match d with | .struct _ | .array _ _ => true | _ => false) = true) (hi : (P.info? ty).map (·.size) = some L.length)
    (h : wpList P ops Q rest (a.put o.dst (.agg L.toArray)) w) : wpList P ops Q (o :: rest) a w :=
  wpList_plain hgd fun _ hK => by
    unfold Oper.wp execOp
    simp only [ho, hx, Instr.loadAt, Instr.sureAddr, Sem.run_bind, Sem.run_pure, Result.andThen_ok, load_tab hg hu hd hi]
    exact hK _ _ h
def gV : Value := .agg gL.toArray
theorem ix0 : ∀ w, (Instr.index 268 gV (.int .i64 0)).run Tryz.prog w = .ok (.agg #[.int .i64 69, .int .i64 11, .int .i64 0, .int .u8 127]) w := fun _ => by kernel_rfl
theorem ix1 : ∀ w, (Instr.index 268 gV (.int .i64 1)).run Tryz.prog w = .ok (.agg #[.int .i64 80, .int .i64 11, .int .i64 0, .int .u8 126]) w := fun _ => by kernel_rfl
theorem ix2 : ∀ w, (Instr.index 268 gV (.int .i64 2)).run Tryz.prog w = .ok (.agg #[.int .i64 91, .int .i64 6, .int .i64 1, .int .u8 125]) w := fun _ => by kernel_rfl
theorem ix3 : ∀ w, (Instr.index 268 gV (.int .i64 3)).run Tryz.prog w = .ok (.agg #[.int .i64 97, .int .i64 6, .int .i64 1, .int .u8 124]) w := fun _ => by kernel_rfl
theorem ix4 : ∀ w, (Instr.index 268 gV (.int .i64 4)).run Tryz.prog w = .ok (.agg #[.int .i64 103, .int .i64 18, .int .i64 2, .int .u8 127]) w := fun _ => by kernel_rfl
theorem ix5 : ∀ w, (Instr.index 268 gV (.int .i64 5)).run Tryz.prog w = .ok (.agg #[.int .i64 121, .int .i64 18, .int .i64 2, .int .u8 126]) w := fun _ => by kernel_rfl
theorem ix6 : ∀ w, (Instr.index 268 gV (.int .i64 6)).run Tryz.prog w = .ok (.agg #[.int .i64 139, .int .i64 14, .int .i64 3, .int .u8 125]) w := fun _ => by kernel_rfl
theorem ix7 : ∀ w, (Instr.index 268 gV (.int .i64 7)).run Tryz.prog w = .ok (.agg #[.int .i64 153, .int .i64 14, .int .i64 3, .int .u8 124]) w := fun _ => by kernel_rfl
theorem ix8 : ∀ w, (Instr.index 268 gV (.int .i64 8)).run Tryz.prog w = .ok (.agg #[.int .i64 167, .int .i64 25, .int .i64 4, .int .u8 0]) w := fun _ => by kernel_rfl
theorem ix9 : ∀ w, (Instr.index 268 gV (.int .i64 9)).run Tryz.prog w = .ok (.agg #[.int .i64 64512, .int .i64 8, .int .i64 5, .int .u8 0]) w := fun _ => by kernel_rfl
set_option maxHeartbeats 4000000 in
set_option maxRecDepth 100000 in
theorem find_0 {op : Int} (h0 : 69 ≤ op) (h1 : op < 80) : Cm 190 #[.int .i64 op] (.tuple #[.agg #[.int .i64 69, .int .i64 11, .int .i64 0, .int .u8 127], .int .i64 (op - 69), .bool true]) := by
  refine hide (fun W m => ?_)
  have HG := hide (fun o => (m.groups.below (below1 W o)))
  clear m
  have g0 : 69 ≤ op := by omega
  have e0 : IntKind.i64.wrap (op - 69) = op - 69 := i64_id (by omega) (by omega)
  have k0 : op - 69 < 11 := by omega
  go_enter Tryz.func190, Tryz.ntmps190
  go_wp2_with (refine wpList_load_tab rfl 268 (.global 1) rfl 1 rfl gL _ (unhide HG _) Tryz.underlying268 rfl (by kernel_rfl) ?_; rw [show Value.agg gL.toArray = gV from rfl])
  have i0 := ix0
  refine wp_loop_rounds 1 ?_
  rw [rounds_succ]
  go_wp2_with fail
  go_region
  go_wp2_with fail
  exact bodyPost_ret (v := .tuple #[.agg #[.int .i64 69, .int .i64 11, .int .i64 0, .int .u8 127], .int .i64 (op - 69), .bool true]) (by simp [results, Tryz.results190, go_sem]) rfl ⟨rfl, (balloc (balloc (Below.refl W.heap.size W) _) _).drew⟩
set_option maxHeartbeats 4000000 in
set_option maxRecDepth 100000 in
theorem find_1 {op : Int} (h0 : 80 ≤ op) (h1 : op < 91) : Cm 190 #[.int .i64 op] (.tuple #[.agg #[.int .i64 80, .int .i64 11, .int .i64 0, .int .u8 126], .int .i64 (op - 80), .bool true]) := by
  refine hide (fun W m => ?_)
  have HG := hide (fun o => (m.groups.below (below1 W o)))
  clear m
  have g0 : 69 ≤ op := by omega
  have e0 : IntKind.i64.wrap (op - 69) = op - 69 := i64_id (by omega) (by omega)
  have k0 : ¬ op - 69 < 11 := by omega
  have g1 : 80 ≤ op := by omega
  have e1 : IntKind.i64.wrap (op - 80) = op - 80 := i64_id (by omega) (by omega)
  have k1 : op - 80 < 11 := by omega
  go_enter Tryz.func190, Tryz.ntmps190
  go_wp2_with (refine wpList_load_tab rfl 268 (.global 1) rfl 1 rfl gL _ (unhide HG _) Tryz.underlying268 rfl (by kernel_rfl) ?_; rw [show Value.agg gL.toArray = gV from rfl])
  have i0 := ix0
  have i1 := ix1
  refine wp_loop_rounds 2 ?_
  rw [rounds_succ]
  go_wp2_with fail
  rw [rounds_succ]
  go_wp2_with fail
  go_region
  go_wp2_with fail
  exact bodyPost_ret (v := .tuple #[.agg #[.int .i64 80, .int .i64 11, .int .i64 0, .int .u8 126], .int .i64 (op - 80), .bool true]) (by simp [results, Tryz.results190, go_sem]) rfl ⟨rfl, (balloc (balloc (balloc (Below.refl W.heap.size W) _) _) _).drew⟩
set_option maxHeartbeats 4000000 in
set_option maxRecDepth 100000 in
theorem find_2 {op : Int} (h0 : 91 ≤ op) (h1 : op < 97) : Cm 190 #[.int .i64 op] (.tuple #[.agg #[.int .i64 91, .int .i64 6, .int .i64 1, .int .u8 125], .int .i64 (op - 91), .bool true]) := by
  refine hide (fun W m => ?_)
  have HG := hide (fun o => (m.groups.below (below1 W o)))
  clear m
  have g0 : 69 ≤ op := by omega
  have e0 : IntKind.i64.wrap (op - 69) = op - 69 := i64_id (by omega) (by omega)
  have k0 : ¬ op - 69 < 11 := by omega
  have g1 : 80 ≤ op := by omega
  have e1 : IntKind.i64.wrap (op - 80) = op - 80 := i64_id (by omega) (by omega)
  have k1 : ¬ op - 80 < 11 := by omega
  have g2 : 91 ≤ op := by omega
  have e2 : IntKind.i64.wrap (op - 91) = op - 91 := i64_id (by omega) (by omega)
  have k2 : op - 91 < 6 := by omega
  go_enter Tryz.func190, Tryz.ntmps190
  go_wp2_with (refine wpList_load_tab rfl 268 (.global 1) rfl 1 rfl gL _ (unhide HG _) Tryz.underlying268 rfl (by kernel_rfl) ?_; rw [show Value.agg gL.toArray = gV from rfl])
  have i0 := ix0
  have i1 := ix1
  have i2 := ix2
  refine wp_loop_rounds 3 ?_
  rw [rounds_succ]
  go_wp2_with fail
  rw [rounds_succ]
  go_wp2_with fail
  rw [rounds_succ]
  go_wp2_with fail
  go_region
  go_wp2_with fail
  exact bodyPost_ret (v := .tuple #[.agg #[.int .i64 91, .int .i64 6, .int .i64 1, .int .u8 125], .int .i64 (op - 91), .bool true]) (by simp [results, Tryz.results190, go_sem]) rfl ⟨rfl, (balloc (balloc (balloc (balloc (Below.refl W.heap.size W) _) _) _) _).drew⟩
set_option maxHeartbeats 4000000 in
set_option maxRecDepth 100000 in
theorem find_3 {op : Int} (h0 : 97 ≤ op) (h1 : op < 103) : Cm 190 #[.int .i64 op] (.tuple #[.agg #[.int .i64 97, .int .i64 6, .int .i64 1, .int .u8 124], .int .i64 (op - 97), .bool true]) := by
  refine hide (fun W m => ?_)
  have HG := hide (fun o => (m.groups.below (below1 W o)))
  clear m
  have g0 : 69 ≤ op := by omega
  have e0 : IntKind.i64.wrap (op - 69) = op - 69 := i64_id (by omega) (by omega)
  have k0 : ¬ op - 69 < 11 := by omega
  have g1 : 80 ≤ op := by omega
  have e1 : IntKind.i64.wrap (op - 80) = op - 80 := i64_id (by omega) (by omega)
  have k1 : ¬ op - 80 < 11 := by omega
  have g2 : 91 ≤ op := by omega
  have e2 : IntKind.i64.wrap (op - 91) = op - 91 := i64_id (by omega) (by omega)
  have k2 : ¬ op - 91 < 6 := by omega
  have g3 : 97 ≤ op := by omega
  have e3 : IntKind.i64.wrap (op - 97) = op - 97 := i64_id (by omega) (by omega)
  have k3 : op - 97 < 6 := by omega
  go_enter Tryz.func190, Tryz.ntmps190
  go_wp2_with (refine wpList_load_tab rfl 268 (.global 1) rfl 1 rfl gL _ (unhide HG _) Tryz.underlying268 rfl (by kernel_rfl) ?_; rw [show Value.agg gL.toArray = gV from rfl])
  have i0 := ix0
  have i1 := ix1
  have i2 := ix2
  have i3 := ix3
  refine wp_loop_rounds 4 ?_
  rw [rounds_succ]
  go_wp2_with fail
  rw [rounds_succ]
  go_wp2_with fail
  rw [rounds_succ]
  go_wp2_with fail
  rw [rounds_succ]
  go_wp2_with fail
  go_region
  go_wp2_with fail
  exact bodyPost_ret (v := .tuple #[.agg #[.int .i64 97, .int .i64 6, .int .i64 1, .int .u8 124], .int .i64 (op - 97), .bool true]) (by simp [results, Tryz.results190, go_sem]) rfl ⟨rfl, (balloc (balloc (balloc (balloc (balloc (Below.refl W.heap.size W) _) _) _) _) _).drew⟩
set_option maxHeartbeats 4000000 in
set_option maxRecDepth 100000 in
theorem find_4 {op : Int} (h0 : 103 ≤ op) (h1 : op < 121) : Cm 190 #[.int .i64 op] (.tuple #[.agg #[.int .i64 103, .int .i64 18, .int .i64 2, .int .u8 127], .int .i64 (op - 103), .bool true]) := by
  refine hide (fun W m => ?_)
  have HG := hide (fun o => (m.groups.below (below1 W o)))
  clear m
  have g0 : 69 ≤ op := by omega
  have e0 : IntKind.i64.wrap (op - 69) = op - 69 := i64_id (by omega) (by omega)
  have k0 : ¬ op - 69 < 11 := by omega
  have g1 : 80 ≤ op := by omega
  have e1 : IntKind.i64.wrap (op - 80) = op - 80 := i64_id (by omega) (by omega)
  have k1 : ¬ op - 80 < 11 := by omega
  have g2 : 91 ≤ op := by omega
  have e2 : IntKind.i64.wrap (op - 91) = op - 91 := i64_id (by omega) (by omega)
  have k2 : ¬ op - 91 < 6 := by omega
  have g3 : 97 ≤ op := by omega
  have e3 : IntKind.i64.wrap (op - 97) = op - 97 := i64_id (by omega) (by omega)
  have k3 : ¬ op - 97 < 6 := by omega
  have g4 : 103 ≤ op := by omega
  have e4 : IntKind.i64.wrap (op - 103) = op - 103 := i64_id (by omega) (by omega)
  have k4 : op - 103 < 18 := by omega
  go_enter Tryz.func190, Tryz.ntmps190
  go_wp2_with (refine wpList_load_tab rfl 268 (.global 1) rfl 1 rfl gL _ (unhide HG _) Tryz.underlying268 rfl (by kernel_rfl) ?_; rw [show Value.agg gL.toArray = gV from rfl])
  have i0 := ix0
  have i1 := ix1
  have i2 := ix2
  have i3 := ix3
  have i4 := ix4
  refine wp_loop_rounds 5 ?_
  rw [rounds_succ]
  go_wp2_with fail
  rw [rounds_succ]
  go_wp2_with fail
  rw [rounds_succ]
  go_wp2_with fail
  rw [rounds_succ]
  go_wp2_with fail
  rw [rounds_succ]
  go_wp2_with fail
  go_region
  go_wp2_with fail
  exact bodyPost_ret (v := .tuple #[.agg #[.int .i64 103, .int .i64 18, .int .i64 2, .int .u8 127], .int .i64 (op - 103), .bool true]) (by simp [results, Tryz.results190, go_sem]) rfl ⟨rfl, (balloc (balloc (balloc (balloc (balloc (balloc (Below.refl W.heap.size W) _) _) _) _) _) _).drew⟩
set_option maxHeartbeats 4000000 in
set_option maxRecDepth 100000 in
theorem find_5 {op : Int} (h0 : 121 ≤ op) (h1 : op < 139) : Cm 190 #[.int .i64 op] (.tuple #[.agg #[.int .i64 121, .int .i64 18, .int .i64 2, .int .u8 126], .int .i64 (op - 121), .bool true]) := by
  refine hide (fun W m => ?_)
  have HG := hide (fun o => (m.groups.below (below1 W o)))
  clear m
  have g0 : 69 ≤ op := by omega
  have e0 : IntKind.i64.wrap (op - 69) = op - 69 := i64_id (by omega) (by omega)
  have k0 : ¬ op - 69 < 11 := by omega
  have g1 : 80 ≤ op := by omega
  have e1 : IntKind.i64.wrap (op - 80) = op - 80 := i64_id (by omega) (by omega)
  have k1 : ¬ op - 80 < 11 := by omega
  have g2 : 91 ≤ op := by omega
  have e2 : IntKind.i64.wrap (op - 91) = op - 91 := i64_id (by omega) (by omega)
  have k2 : ¬ op - 91 < 6 := by omega
  have g3 : 97 ≤ op := by omega
  have e3 : IntKind.i64.wrap (op - 97) = op - 97 := i64_id (by omega) (by omega)
  have k3 : ¬ op - 97 < 6 := by omega
  have g4 : 103 ≤ op := by omega
  have e4 : IntKind.i64.wrap (op - 103) = op - 103 := i64_id (by omega) (by omega)
  have k4 : ¬ op - 103 < 18 := by omega
  have g5 : 121 ≤ op := by omega
  have e5 : IntKind.i64.wrap (op - 121) = op - 121 := i64_id (by omega) (by omega)
  have k5 : op - 121 < 18 := by omega
  go_enter Tryz.func190, Tryz.ntmps190
  go_wp2_with (refine wpList_load_tab rfl 268 (.global 1) rfl 1 rfl gL _ (unhide HG _) Tryz.underlying268 rfl (by kernel_rfl) ?_; rw [show Value.agg gL.toArray = gV from rfl])
  have i0 := ix0
  have i1 := ix1
  have i2 := ix2
  have i3 := ix3
  have i4 := ix4
  have i5 := ix5
  refine wp_loop_rounds 6 ?_
  rw [rounds_succ]
  go_wp2_with fail
  rw [rounds_succ]
  go_wp2_with fail
  rw [rounds_succ]
  go_wp2_with fail
  rw [rounds_succ]
  go_wp2_with fail
  rw [rounds_succ]
  go_wp2_with fail
  rw [rounds_succ]
  go_wp2_with fail
  go_region
  go_wp2_with fail
  exact bodyPost_ret (v := .tuple #[.agg #[.int .i64 121, .int .i64 18, .int .i64 2, .int .u8 126], .int .i64 (op - 121), .bool true]) (by simp [results, Tryz.results190, go_sem]) rfl ⟨rfl, (balloc (balloc (balloc (balloc (balloc (balloc (balloc (Below.refl W.heap.size W) _) _) _) _) _) _) _).drew⟩
set_option maxHeartbeats 4000000 in
set_option maxRecDepth 100000 in
theorem find_6 {op : Int} (h0 : 139 ≤ op) (h1 : op < 153) : Cm 190 #[.int .i64 op] (.tuple #[.agg #[.int .i64 139, .int .i64 14, .int .i64 3, .int .u8 125], .int .i64 (op - 139), .bool true]) := by
  refine hide (fun W m => ?_)
  have HG := hide (fun o => (m.groups.below (below1 W o)))
  clear m
  have g0 : 69 ≤ op := by omega
  have e0 : IntKind.i64.wrap (op - 69) = op - 69 := i64_id (by omega) (by omega)
  have k0 : ¬ op - 69 < 11 := by omega
  have g1 : 80 ≤ op := by omega
  have e1 : IntKind.i64.wrap (op - 80) = op - 80 := i64_id (by omega) (by omega)
  have k1 : ¬ op - 80 < 11 := by omega
  have g2 : 91 ≤ op := by omega
  have e2 : IntKind.i64.wrap (op - 91) = op - 91 := i64_id (by omega) (by omega)
  have k2 : ¬ op - 91 < 6 := by omega
  have g3 : 97 ≤ op := by omega
  have e3 : IntKind.i64.wrap (op - 97) = op - 97 := i64_id (by omega) (by omega)
  have k3 : ¬ op - 97 < 6 := by omega
  have g4 : 103 ≤ op := by omega
  have e4 : IntKind.i64.wrap (op - 103) = op - 103 := i64_id (by omega) (by omega)
  have k4 : ¬ op - 103 < 18 := by omega
  have g5 : 121 ≤ op := by omega
  have e5 : IntKind.i64.wrap (op - 121) = op - 121 := i64_id (by omega) (by omega)
  have k5 : ¬ op - 121 < 18 := by omega
  have g6 : 139 ≤ op := by omega
  have e6 : IntKind.i64.wrap (op - 139) = op - 139 := i64_id (by omega) (by omega)
  have k6 : op - 139 < 14 := by omega
  go_enter Tryz.func190, Tryz.ntmps190
  go_wp2_with (refine wpList_load_tab rfl 268 (.global 1) rfl 1 rfl gL _ (unhide HG _) Tryz.underlying268 rfl (by kernel_rfl) ?_; rw [show Value.agg gL.toArray = gV from rfl])
  have i0 := ix0
  have i1 := ix1
  have i2 := ix2
  have i3 := ix3
  have i4 := ix4
  have i5 := ix5
  have i6 := ix6
  refine wp_loop_rounds 7 ?_
  rw [rounds_succ]
  go_wp2_with fail
  rw [rounds_succ]
  go_wp2_with fail
  rw [rounds_succ]
  go_wp2_with fail
  rw [rounds_succ]
  go_wp2_with fail
  rw [rounds_succ]
  go_wp2_with fail
  rw [rounds_succ]
  go_wp2_with fail
  rw [rounds_succ]
  go_wp2_with fail
  go_region
  go_wp2_with fail
  exact bodyPost_ret (v := .tuple #[.agg #[.int .i64 139, .int .i64 14, .int .i64 3, .int .u8 125], .int .i64 (op - 139), .bool true]) (by simp [results, Tryz.results190, go_sem]) rfl ⟨rfl, (balloc (balloc (balloc (balloc (balloc (balloc (balloc (balloc (Below.refl W.heap.size W) _) _) _) _) _) _) _) _).drew⟩
set_option maxHeartbeats 4000000 in
set_option maxRecDepth 100000 in
theorem find_7 {op : Int} (h0 : 153 ≤ op) (h1 : op < 167) : Cm 190 #[.int .i64 op] (.tuple #[.agg #[.int .i64 153, .int .i64 14, .int .i64 3, .int .u8 124], .int .i64 (op - 153), .bool true]) := by
  refine hide (fun W m => ?_)
  have HG := hide (fun o => (m.groups.below (below1 W o)))
  clear m
  have g0 : 69 ≤ op := by omega
  have e0 : IntKind.i64.wrap (op - 69) = op - 69 := i64_id (by omega) (by omega)
  have k0 : ¬ op - 69 < 11 := by omega
  have g1 : 80 ≤ op := by omega
  have e1 : IntKind.i64.wrap (op - 80) = op - 80 := i64_id (by omega) (by omega)
  have k1 : ¬ op - 80 < 11 := by omega
  have g2 : 91 ≤ op := by omega
  have e2 : IntKind.i64.wrap (op - 91) = op - 91 := i64_id (by omega) (by omega)
  have k2 : ¬ op - 91 < 6 := by omega
  have g3 : 97 ≤ op := by omega
  have e3 : IntKind.i64.wrap (op - 97) = op - 97 := i64_id (by omega) (by omega)
  have k3 : ¬ op - 97 < 6 := by omega
  have g4 : 103 ≤ op := by omega
  have e4 : IntKind.i64.wrap (op - 103) = op - 103 := i64_id (by omega) (by omega)
  have k4 : ¬ op - 103 < 18 := by omega
  have g5 : 121 ≤ op := by omega
  have e5 : IntKind.i64.wrap (op - 121) = op - 121 := i64_id (by omega) (by omega)
  have k5 : ¬ op - 121 < 18 := by omega
  have g6 : 139 ≤ op := by omega
  have e6 : IntKind.i64.wrap (op - 139) = op - 139 := i64_id (by omega) (by omega)
  have k6 : ¬ op - 139 < 14 := by omega
  have g7 : 153 ≤ op := by omega
  have e7 : IntKind.i64.wrap (op - 153) = op - 153 := i64_id (by omega) (by omega)
  have k7 : op - 153 < 14 := by omega
  go_enter Tryz.func190, Tryz.ntmps190
  go_wp2_with (refine wpList_load_tab rfl 268 (.global 1) rfl 1 rfl gL _ (unhide HG _) Tryz.underlying268 rfl (by kernel_rfl) ?_; rw [show Value.agg gL.toArray = gV from rfl])
  have i0 := ix0
  have i1 := ix1
  have i2 := ix2
  have i3 := ix3
  have i4 := ix4
  have i5 := ix5
  have i6 := ix6
  have i7 := ix7
  refine wp_loop_rounds 8 ?_
  rw [rounds_succ]
  go_wp2_with fail
  rw [rounds_succ]
  go_wp2_with fail
  rw [rounds_succ]
  go_wp2_with fail
  rw [rounds_succ]
  go_wp2_with fail
  rw [rounds_succ]
  go_wp2_with fail
  rw [rounds_succ]
  go_wp2_with fail
  rw [rounds_succ]
  go_wp2_with fail
  rw [rounds_succ]
  go_wp2_with fail
  go_region
  go_wp2_with fail
  exact bodyPost_ret (v := .tuple #[.agg #[.int .i64 153, .int .i64 14, .int .i64 3, .int .u8 124], .int .i64 (op - 153), .bool true]) (by simp [results, Tryz.results190, go_sem]) rfl ⟨rfl, (balloc (balloc (balloc (balloc (balloc (balloc (balloc (balloc (balloc (Below.refl W.heap.size W) _) _) _) _) _) _) _) _) _).drew⟩
set_option maxHeartbeats 4000000 in
set_option maxRecDepth 100000 in
theorem find_8 {op : Int} (h0 : 167 ≤ op) (h1 : op < 192) : Cm 190 #[.int .i64 op] (.tuple #[.agg #[.int .i64 167, .int .i64 25, .int .i64 4, .int .u8 0], .int .i64 (op - 167), .bool true]) := by
  refine hide (fun W m => ?_)
  have HG := hide (fun o => (m.groups.below (below1 W o)))
  clear m
  have g0 : 69 ≤ op := by omega
  have e0 : IntKind.i64.wrap (op - 69) = op - 69 := i64_id (by omega) (by omega)
  have k0 : ¬ op - 69 < 11 := by omega
  have g1 : 80 ≤ op := by omega
  have e1 : IntKind.i64.wrap (op - 80) = op - 80 := i64_id (by omega) (by omega)
  have k1 : ¬ op - 80 < 11 := by omega
  have g2 : 91 ≤ op := by omega
  have e2 : IntKind.i64.wrap (op - 91) = op - 91 := i64_id (by omega) (by omega)
  have k2 : ¬ op - 91 < 6 := by omega
  have g3 : 97 ≤ op := by omega
  have e3 : IntKind.i64.wrap (op - 97) = op - 97 := i64_id (by omega) (by omega)
  have k3 : ¬ op - 97 < 6 := by omega
  have g4 : 103 ≤ op := by omega
  have e4 : IntKind.i64.wrap (op - 103) = op - 103 := i64_id (by omega) (by omega)
  have k4 : ¬ op - 103 < 18 := by omega
  have g5 : 121 ≤ op := by omega
  have e5 : IntKind.i64.wrap (op - 121) = op - 121 := i64_id (by omega) (by omega)
  have k5 : ¬ op - 121 < 18 := by omega
  have g6 : 139 ≤ op := by omega
  have e6 : IntKind.i64.wrap (op - 139) = op - 139 := i64_id (by omega) (by omega)
  have k6 : ¬ op - 139 < 14 := by omega
  have g7 : 153 ≤ op := by omega
  have e7 : IntKind.i64.wrap (op - 153) = op - 153 := i64_id (by omega) (by omega)
  have k7 : ¬ op - 153 < 14 := by omega
  have g8 : 167 ≤ op := by omega
  have e8 : IntKind.i64.wrap (op - 167) = op - 167 := i64_id (by omega) (by omega)
  have k8 : op - 167 < 25 := by omega
  go_enter Tryz.func190, Tryz.ntmps190
  go_wp2_with (refine wpList_load_tab rfl 268 (.global 1) rfl 1 rfl gL _ (unhide HG _) Tryz.underlying268 rfl (by kernel_rfl) ?_; rw [show Value.agg gL.toArray = gV from rfl])
  have i0 := ix0
  have i1 := ix1
  have i2 := ix2
  have i3 := ix3
  have i4 := ix4
  have i5 := ix5
  have i6 := ix6
  have i7 := ix7
  have i8 := ix8
  refine wp_loop_rounds 9 ?_
  rw [rounds_succ]
  go_wp2_with fail
  rw [rounds_succ]
  go_wp2_with fail
  rw [rounds_succ]
  go_wp2_with fail
  rw [rounds_succ]
  go_wp2_with fail
  rw [rounds_succ]
  go_wp2_with fail
  rw [rounds_succ]
  go_wp2_with fail
  rw [rounds_succ]
  go_wp2_with fail
  rw [rounds_succ]
  go_wp2_with fail
  rw [rounds_succ]
  go_wp2_with fail
  go_region
  go_wp2_with fail
  exact bodyPost_ret (v := .tuple #[.agg #[.int .i64 167, .int .i64 25, .int .i64 4, .int .u8 0], .int .i64 (op - 167), .bool true]) (by simp [results, Tryz.results190, go_sem]) rfl ⟨rfl, (balloc (balloc (balloc (balloc (balloc (balloc (balloc (balloc (balloc (balloc (Below.refl W.heap.size W) _) _) _) _) _) _) _) _) _) _).drew⟩
set_option maxHeartbeats 4000000 in
set_option maxRecDepth 100000 in
theorem find_9 {op : Int} (h0 : 64512 ≤ op) (h1 : op < 64520) : Cm 190 #[.int .i64 op] (.tuple #[.agg #[.int .i64 64512, .int .i64 8, .int .i64 5, .int .u8 0], .int .i64 (op - 64512), .bool true]) := by
  refine hide (fun W m => ?_)
  have HG := hide (fun o => (m.groups.below (below1 W o)))
  clear m
  have g0 : 69 ≤ op := by omega
  have e0 : IntKind.i64.wrap (op - 69) = op - 69 := i64_id (by omega) (by omega)
  have k0 : ¬ op - 69 < 11 := by omega
  have g1 : 80 ≤ op := by omega
  have e1 : IntKind.i64.wrap (op - 80) = op - 80 := i64_id (by omega) (by omega)
  have k1 : ¬ op - 80 < 11 := by omega
  have g2 : 91 ≤ op := by omega
  have e2 : IntKind.i64.wrap (op - 91) = op - 91 := i64_id (by omega) (by omega)
  have k2 : ¬ op - 91 < 6 := by omega
  have g3 : 97 ≤ op := by omega
  have e3 : IntKind.i64.wrap (op - 97) = op - 97 := i64_id (by omega) (by omega)
  have k3 : ¬ op - 97 < 6 := by omega
  have g4 : 103 ≤ op := by omega
  have e4 : IntKind.i64.wrap (op - 103) = op - 103 := i64_id (by omega) (by omega)
  have k4 : ¬ op - 103 < 18 := by omega
  have g5 : 121 ≤ op := by omega
  have e5 : IntKind.i64.wrap (op - 121) = op - 121 := i64_id (by omega) (by omega)
  have k5 : ¬ op - 121 < 18 := by omega
  have g6 : 139 ≤ op := by omega
  have e6 : IntKind.i64.wrap (op - 139) = op - 139 := i64_id (by omega) (by omega)
  have k6 : ¬ op - 139 < 14 := by omega
  have g7 : 153 ≤ op := by omega
  have e7 : IntKind.i64.wrap (op - 153) = op - 153 := i64_id (by omega) (by omega)
  have k7 : ¬ op - 153 < 14 := by omega
  have g8 : 167 ≤ op := by omega
  have e8 : IntKind.i64.wrap (op - 167) = op - 167 := i64_id (by omega) (by omega)
  have k8 : ¬ op - 167 < 25 := by omega
  have g9 : 64512 ≤ op := by omega
  have e9 : IntKind.i64.wrap (op - 64512) = op - 64512 := i64_id (by omega) (by omega)
  have k9 : op - 64512 < 8 := by omega
  go_enter Tryz.func190, Tryz.ntmps190
  go_wp2_with (refine wpList_load_tab rfl 268 (.global 1) rfl 1 rfl gL _ (unhide HG _) Tryz.underlying268 rfl (by kernel_rfl) ?_; rw [show Value.agg gL.toArray = gV from rfl])
  have i0 := ix0
  have i1 := ix1
  have i2 := ix2
  have i3 := ix3
  have i4 := ix4
  have i5 := ix5
  have i6 := ix6
  have i7 := ix7
  have i8 := ix8
  have i9 := ix9
  refine wp_loop_rounds 10 ?_
  rw [rounds_succ]
  go_wp2_with fail
  rw [rounds_succ]
  go_wp2_with fail
  rw [rounds_succ]
  go_wp2_with fail
  rw [rounds_succ]
  go_wp2_with fail
  rw [rounds_succ]
  go_wp2_with fail
  rw [rounds_succ]
  go_wp2_with fail
  rw [rounds_succ]
  go_wp2_with fail
  rw [rounds_succ]
  go_wp2_with fail
  rw [rounds_succ]
  go_wp2_with fail
  rw [rounds_succ]
  go_wp2_with fail
  go_region
  go_wp2_with fail
  exact bodyPost_ret (v := .tuple #[.agg #[.int .i64 64512, .int .i64 8, .int .i64 5, .int .u8 0], .int .i64 (op - 64512), .bool true]) (by simp [results, Tryz.results190, go_sem]) rfl ⟨rfl, (balloc (balloc (balloc (balloc (balloc (balloc (balloc (balloc (balloc (balloc (balloc (Below.refl W.heap.size W) _) _) _) _) _) _) _) _) _) _) _).drew⟩
set_option maxHeartbeats 4000000 in
set_option maxRecDepth 100000 in
theorem find_lo {op : Int} (h : op < 69) : Cm 190 #[.int .i64 op] (.tuple #[.agg #[.int .i64 0, .int .i64 0, .int .i64 0, .int .u8 0], .int .i64 0, .bool false]) := by
  refine hide (fun W m => ?_)
  have HG := hide (fun o => (m.groups.below (below1 W o)))
  clear m
  have g0 : ¬ 69 ≤ op := by omega
  have g1 : ¬ 80 ≤ op := by omega
  have g2 : ¬ 91 ≤ op := by omega
  have g3 : ¬ 97 ≤ op := by omega
  have g4 : ¬ 103 ≤ op := by omega
  have g5 : ¬ 121 ≤ op := by omega
  have g6 : ¬ 139 ≤ op := by omega
  have g7 : ¬ 153 ≤ op := by omega
  have g8 : ¬ 167 ≤ op := by omega
  have g9 : ¬ 64512 ≤ op := by omega
  go_enter Tryz.func190, Tryz.ntmps190
  go_wp2_with (refine wpList_load_tab rfl 268 (.global 1) rfl 1 rfl gL _ (unhide HG _) Tryz.underlying268 rfl (by kernel_rfl) ?_; rw [show Value.agg gL.toArray = gV from rfl])
  have i0 := ix0
  have i1 := ix1
  have i2 := ix2
  have i3 := ix3
  have i4 := ix4
  have i5 := ix5
  have i6 := ix6
  have i7 := ix7
  have i8 := ix8
  have i9 := ix9
  refine wp_loop_rounds 11 ?_
  rw [rounds_succ]
  go_wp2_with fail
  rw [rounds_succ]
  go_wp2_with fail
  rw [rounds_succ]
  go_wp2_with fail
  rw [rounds_succ]
  go_wp2_with fail
  rw [rounds_succ]
  go_wp2_with fail
  rw [rounds_succ]
  go_wp2_with fail
  rw [rounds_succ]
  go_wp2_with fail
  rw [rounds_succ]
  go_wp2_with fail
  rw [rounds_succ]
  go_wp2_with fail
  rw [rounds_succ]
  go_wp2_with fail
  rw [rounds_succ]
  go_wp2_with fail
  exact bodyPost_ret (v := .tuple #[.agg #[.int .i64 0, .int .i64 0, .int .i64 0, .int .u8 0], .int .i64 0, .bool false]) (by simp [results, Tryz.results190, go_sem]) rfl ⟨rfl, (balloc (balloc (balloc (balloc (balloc (balloc (balloc (balloc (balloc (balloc (balloc (Below.refl W.heap.size W) _) _) _) _) _) _) _) _) _) _) _)⟩
set_option maxHeartbeats 4000000 in
set_option maxRecDepth 100000 in
theorem find_mi {op : Int} (h0 : 192 ≤ op) (h1 : op < 64512) : Cm 190 #[.int .i64 op] (.tuple #[.agg #[.int .i64 0, .int .i64 0, .int .i64 0, .int .u8 0], .int .i64 0, .bool false]) := by
  refine hide (fun W m => ?_)
  have HG := hide (fun o => (m.groups.below (below1 W o)))
  clear m
  have g0 : 69 ≤ op := by omega
  have e0 : IntKind.i64.wrap (op - 69) = op - 69 := i64_id (by omega) (by omega)
  have k0 : ¬ op - 69 < 11 := by omega
  have g1 : 80 ≤ op := by omega
  have e1 : IntKind.i64.wrap (op - 80) = op - 80 := i64_id (by omega) (by omega)
  have k1 : ¬ op - 80 < 11 := by omega
  have g2 : 91 ≤ op := by omega
  have e2 : IntKind.i64.wrap (op - 91) = op - 91 := i64_id (by omega) (by omega)
  have k2 : ¬ op - 91 < 6 := by omega
  have g3 : 97 ≤ op := by omega
  have e3 : IntKind.i64.wrap (op - 97) = op - 97 := i64_id (by omega) (by omega)
  have k3 : ¬ op - 97 < 6 := by omega
  have g4 : 103 ≤ op := by omega
  have e4 : IntKind.i64.wrap (op - 103) = op - 103 := i64_id (by omega) (by omega)
  have k4 : ¬ op - 103 < 18 := by omega
  have g5 : 121 ≤ op := by omega
  have e5 : IntKind.i64.wrap (op - 121) = op - 121 := i64_id (by omega) (by omega)
  have k5 : ¬ op - 121 < 18 := by omega
  have g6 : 139 ≤ op := by omega
  have e6 : IntKind.i64.wrap (op - 139) = op - 139 := i64_id (by omega) (by omega)
  have k6 : ¬ op - 139 < 14 := by omega
  have g7 : 153 ≤ op := by omega
  have e7 : IntKind.i64.wrap (op - 153) = op - 153 := i64_id (by omega) (by omega)
  have k7 : ¬ op - 153 < 14 := by omega
  have g8 : 167 ≤ op := by omega
  have e8 : IntKind.i64.wrap (op - 167) = op - 167 := i64_id (by omega) (by omega)
  have k8 : ¬ op - 167 < 25 := by omega
  have g9 : ¬ 64512 ≤ op := by omega
  go_enter Tryz.func190, Tryz.ntmps190
  go_wp2_with (refine wpList_load_tab rfl 268 (.global 1) rfl 1 rfl gL _ (unhide HG _) Tryz.underlying268 rfl (by kernel_rfl) ?_; rw [show Value.agg gL.toArray = gV from rfl])
  have i0 := ix0
  have i1 := ix1
  have i2 := ix2
  have i3 := ix3
  have i4 := ix4
  have i5 := ix5
  have i6 := ix6
  have i7 := ix7
  have i8 := ix8
  have i9 := ix9
  refine wp_loop_rounds 11 ?_
  rw [rounds_succ]
  go_wp2_with fail
  rw [rounds_succ]
  go_wp2_with fail
  rw [rounds_succ]
  go_wp2_with fail
  rw [rounds_succ]
  go_wp2_with fail
  rw [rounds_succ]
  go_wp2_with fail
  rw [rounds_succ]
  go_wp2_with fail
  rw [rounds_succ]
  go_wp2_with fail
  rw [rounds_succ]
  go_wp2_with fail
  rw [rounds_succ]
  go_wp2_with fail
  rw [rounds_succ]
  go_wp2_with fail
  rw [rounds_succ]
  go_wp2_with fail
  exact bodyPost_ret (v := .tuple #[.agg #[.int .i64 0, .int .i64 0, .int .i64 0, .int .u8 0], .int .i64 0, .bool false]) (by simp [results, Tryz.results190, go_sem]) rfl ⟨rfl, (balloc (balloc (balloc (balloc (balloc (balloc (balloc (balloc (balloc (balloc (balloc (Below.refl W.heap.size W) _) _) _) _) _) _) _) _) _) _) _)⟩
set_option maxHeartbeats 4000000 in
set_option maxRecDepth 100000 in
theorem find_hi {op : Int} (h0 : 64520 ≤ op) (h1 : op ≤ 9223372036854775807) : Cm 190 #[.int .i64 op] (.tuple #[.agg #[.int .i64 0, .int .i64 0, .int .i64 0, .int .u8 0], .int .i64 0, .bool false]) := by
  refine hide (fun W m => ?_)
  have HG := hide (fun o => (m.groups.below (below1 W o)))
  clear m
  have g0 : 69 ≤ op := by omega
  have e0 : IntKind.i64.wrap (op - 69) = op - 69 := i64_id (by omega) (by omega)
  have k0 : ¬ op - 69 < 11 := by omega
  have g1 : 80 ≤ op := by omega
  have e1 : IntKind.i64.wrap (op - 80) = op - 80 := i64_id (by omega) (by omega)
  have k1 : ¬ op - 80 < 11 := by omega
  have g2 : 91 ≤ op := by omega
  have e2 : IntKind.i64.wrap (op - 91) = op - 91 := i64_id (by omega) (by omega)
  have k2 : ¬ op - 91 < 6 := by omega
  have g3 : 97 ≤ op := by omega
  have e3 : IntKind.i64.wrap (op - 97) = op - 97 := i64_id (by omega) (by omega)
  have k3 : ¬ op - 97 < 6 := by omega
  have g4 : 103 ≤ op := by omega
  have e4 : IntKind.i64.wrap (op - 103) = op - 103 := i64_id (by omega) (by omega)
  have k4 : ¬ op - 103 < 18 := by omega
  have g5 : 121 ≤ op := by omega
  have e5 : IntKind.i64.wrap (op - 121) = op - 121 := i64_id (by omega) (by omega)
  have k5 : ¬ op - 121 < 18 := by omega
  have g6 : 139 ≤ op := by omega
  have e6 : IntKind.i64.wrap (op - 139) = op - 139 := i64_id (by omega) (by omega)
  have k6 : ¬ op - 139 < 14 := by omega
  have g7 : 153 ≤ op := by omega
  have e7 : IntKind.i64.wrap (op - 153) = op - 153 := i64_id (by omega) (by omega)
  have k7 : ¬ op - 153 < 14 := by omega
  have g8 : 167 ≤ op := by omega
  have e8 : IntKind.i64.wrap (op - 167) = op - 167 := i64_id (by omega) (by omega)
  have k8 : ¬ op - 167 < 25 := by omega
  have g9 : 64512 ≤ op := by omega
  have e9 : IntKind.i64.wrap (op - 64512) = op - 64512 := i64_id (by omega) (by omega)
  have k9 : ¬ op - 64512 < 8 := by omega
  go_enter Tryz.func190, Tryz.ntmps190
  go_wp2_with (refine wpList_load_tab rfl 268 (.global 1) rfl 1 rfl gL _ (unhide HG _) Tryz.underlying268 rfl (by kernel_rfl) ?_; rw [show Value.agg gL.toArray = gV from rfl])
  have i0 := ix0
  have i1 := ix1
  have i2 := ix2
  have i3 := ix3
  have i4 := ix4
  have i5 := ix5
  have i6 := ix6
  have i7 := ix7
  have i8 := ix8
  have i9 := ix9
  refine wp_loop_rounds 11 ?_
  rw [rounds_succ]
  go_wp2_with fail
  rw [rounds_succ]
  go_wp2_with fail
  rw [rounds_succ]
  go_wp2_with fail
  rw [rounds_succ]
  go_wp2_with fail
  rw [rounds_succ]
  go_wp2_with fail
  rw [rounds_succ]
  go_wp2_with fail
  rw [rounds_succ]
  go_wp2_with fail
  rw [rounds_succ]
  go_wp2_with fail
  rw [rounds_succ]
  go_wp2_with fail
  rw [rounds_succ]
  go_wp2_with fail
  rw [rounds_succ]
  go_wp2_with fail
  exact bodyPost_ret (v := .tuple #[.agg #[.int .i64 0, .int .i64 0, .int .i64 0, .int .u8 0], .int .i64 0, .bool false]) (by simp [results, Tryz.results190, go_sem]) rfl ⟨rfl, (balloc (balloc (balloc (balloc (balloc (balloc (balloc (balloc (balloc (balloc (balloc (Below.refl W.heap.size W) _) _) _) _) _) _) _) _) _) _) _)⟩
end Go.Proofs.YtjoonmpjcophnaaGreatDoor
