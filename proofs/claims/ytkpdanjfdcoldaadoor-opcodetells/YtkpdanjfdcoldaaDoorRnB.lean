/- The reference's groups of names. -/
import Derived.Test.YtkpdanjfdcoldaaDoorRnA
import Derived.Test.YtkpdanjfdcoldaaDoorTk
namespace Go.Proofs.YtkpdanjfdcoldaaDoor
open Go.RowKit

def firL : List Value := [.string ⟨#[105, 51, 50, 46]⟩, .string ⟨#[105, 54, 52, 46]⟩, .string ⟨#[102, 51, 50, 46]⟩, .string ⟨#[102, 54, 52, 46]⟩, .string ⟨#[105, 51, 50, 46]⟩, .string ⟨#[105, 54, 52, 46]⟩, .string ⟨#[102, 51, 50, 46]⟩, .string ⟨#[102, 54, 52, 46]⟩, .string ⟨#[]⟩]
/-- A group's prefix and names. -/
def Grp (g : Int) (p : ByteArray) (L : List ByteArray) : Prop := Hid (∀ W, Calls Tryd.prog 33 #[.int .i64 g] W fun r W' => ∃ b, r = .returned (.tuple #[.string p, .slice (some ⟨b, 0, none⟩) L.length L.length]) ∧ Tab W' b (L.map Value.string) ∧ Below W.heap.size W W')
set_option maxHeartbeats 4000000 in
set_option maxRecDepth 100000 in
theorem grp_0 : Grp 0 ⟨#[105, 51, 50, 46]⟩ relL := by
  refine hide (fun W => ?_)
  have HB := hide (below1 W (.cells firL.toArray 9)).drew
  have HA := hide (keep1 ((Below.refl (W.alloc (.cells firL.toArray 9)).heap.size (W.alloc (.cells firL.toArray 9))).drew) (lt_of_cell (tab_alloc W firL 9 0 _ rfl)) (tab_alloc W firL 9 0 _ rfl))
  have HL := unhide relL_l
  go_enter Tryd.func33, Tryd.ntmps33
  go_wp2_with fail
  refine wp_region_held_drew (S := fun w' => w'.cell? ⟨W.heap.size, 0, none⟩ = some (.string ⟨#[105, 51, 50, 46]⟩)) (by kernel_rfl) ?_ (fun hHeld => ?_)
  · (try dsimp only)
    exact unhide HA
  refine lst0 7 (by kernel_rfl) ?_
  refine tkA 0 10 1 ?_
  refine tkA 1 11 3 ?_
  refine tkA 2 12 7 ?_
  refine tkA 3 13 15 ?_
  refine rdA 4 31 (fun Kk hKk => ?_)
  go_simp
  refine (HL _).mono ?_
  rintro _ w1 ⟨b, rfl, hT, hb⟩
  have HB := hide (bthen (unhide HB) hb)
  have HA := hide (keep1 hb (lt_of_cell (unhide HA)) (unhide HA))
  have HT := hide hT
  clear hb hT
  (try go_wp2_with fail)
  refine hKk.out _ _ ?_ (fun hHeld => ?_)
  · (try dsimp only)
    exact unhide HA
  clear hKk Kk
  (try simp only [List.setIfInBounds_toArray, List.set_cons_zero, List.set_cons_succ])
  refine tkA 5 2 63 ?_
  refine tkA 6 3 127 ?_
  refine wpAnyH_done (by kernel_rfl) ?_ _
  clear hHeld
  go_wp2_with fail
  go_ret2
  exact ⟨_, rfl, unhide HT, unhide HB⟩
set_option maxHeartbeats 4000000 in
set_option maxRecDepth 100000 in
theorem grp_1 : Grp 1 ⟨#[105, 54, 52, 46]⟩ relL := by
  refine hide (fun W => ?_)
  have HB := hide (below1 W (.cells firL.toArray 9)).drew
  have HA := hide (keep1 ((Below.refl (W.alloc (.cells firL.toArray 9)).heap.size (W.alloc (.cells firL.toArray 9))).drew) (lt_of_cell (tab_alloc W firL 9 1 _ rfl)) (tab_alloc W firL 9 1 _ rfl))
  have HL := unhide relL_l
  go_enter Tryd.func33, Tryd.ntmps33
  go_wp2_with fail
  refine wp_region_held_drew (S := fun w' => w'.cell? ⟨W.heap.size, 1, none⟩ = some (.string ⟨#[105, 54, 52, 46]⟩)) (by kernel_rfl) ?_ (fun hHeld => ?_)
  · (try dsimp only)
    exact unhide HA
  refine lst0 7 (by kernel_rfl) ?_
  refine tkA 0 10 1 ?_
  refine tkA 1 11 3 ?_
  refine tkA 2 12 7 ?_
  refine tkA 3 13 15 ?_
  refine rdA 4 31 (fun Kk hKk => ?_)
  go_simp
  refine (HL _).mono ?_
  rintro _ w1 ⟨b, rfl, hT, hb⟩
  have HB := hide (bthen (unhide HB) hb)
  have HA := hide (keep1 hb (lt_of_cell (unhide HA)) (unhide HA))
  have HT := hide hT
  clear hb hT
  (try go_wp2_with fail)
  refine hKk.out _ _ ?_ (fun hHeld => ?_)
  · (try dsimp only)
    exact unhide HA
  clear hKk Kk
  (try simp only [List.setIfInBounds_toArray, List.set_cons_zero, List.set_cons_succ])
  refine tkA 5 2 63 ?_
  refine tkA 6 3 127 ?_
  refine wpAnyH_done (by kernel_rfl) ?_ _
  clear hHeld
  go_wp2_with fail
  go_ret2
  exact ⟨_, rfl, unhide HT, unhide HB⟩
set_option maxHeartbeats 4000000 in
set_option maxRecDepth 100000 in
theorem grp_2 : Grp 2 ⟨#[102, 51, 50, 46]⟩ floL := by
  refine hide (fun W => ?_)
  have HB := hide (below1 W (.cells firL.toArray 9)).drew
  have HA := hide (keep1 ((Below.refl (W.alloc (.cells firL.toArray 9)).heap.size (W.alloc (.cells firL.toArray 9))).drew) (lt_of_cell (tab_alloc W firL 9 2 _ rfl)) (tab_alloc W firL 9 2 _ rfl))
  have HL := unhide floL_l
  go_enter Tryd.func33, Tryd.ntmps33
  go_wp2_with fail
  refine wp_region_held_drew (S := fun w' => w'.cell? ⟨W.heap.size, 2, none⟩ = some (.string ⟨#[102, 51, 50, 46]⟩)) (by kernel_rfl) ?_ (fun hHeld => ?_)
  · (try dsimp only)
    exact unhide HA
  refine lst0 7 (by kernel_rfl) ?_
  refine tkA 0 18 1 ?_
  refine tkA 1 19 3 ?_
  refine tkA 2 20 7 ?_
  refine tkA 3 21 15 ?_
  refine rdA 4 31 (fun Kk hKk => ?_)
  go_simp
  refine (HL _).mono ?_
  rintro _ w1 ⟨b, rfl, hT, hb⟩
  have HB := hide (bthen (unhide HB) hb)
  have HA := hide (keep1 hb (lt_of_cell (unhide HA)) (unhide HA))
  have HT := hide hT
  clear hb hT
  (try go_wp2_with fail)
  refine hKk.out _ _ ?_ (fun hHeld => ?_)
  · (try dsimp only)
    exact unhide HA
  clear hKk Kk
  (try simp only [List.setIfInBounds_toArray, List.set_cons_zero, List.set_cons_succ])
  refine tkA 5 2 63 ?_
  refine tkA 6 3 127 ?_
  refine wpAnyH_done (by kernel_rfl) ?_ _
  clear hHeld
  go_wp2_with fail
  go_ret2
  exact ⟨_, rfl, unhide HT, unhide HB⟩
set_option maxHeartbeats 4000000 in
set_option maxRecDepth 100000 in
theorem grp_3 : Grp 3 ⟨#[102, 54, 52, 46]⟩ floL := by
  refine hide (fun W => ?_)
  have HB := hide (below1 W (.cells firL.toArray 9)).drew
  have HA := hide (keep1 ((Below.refl (W.alloc (.cells firL.toArray 9)).heap.size (W.alloc (.cells firL.toArray 9))).drew) (lt_of_cell (tab_alloc W firL 9 3 _ rfl)) (tab_alloc W firL 9 3 _ rfl))
  have HL := unhide floL_l
  go_enter Tryd.func33, Tryd.ntmps33
  go_wp2_with fail
  refine wp_region_held_drew (S := fun w' => w'.cell? ⟨W.heap.size, 3, none⟩ = some (.string ⟨#[102, 54, 52, 46]⟩)) (by kernel_rfl) ?_ (fun hHeld => ?_)
  · (try dsimp only)
    exact unhide HA
  refine lst0 7 (by kernel_rfl) ?_
  refine tkA 0 18 1 ?_
  refine tkA 1 19 3 ?_
  refine tkA 2 20 7 ?_
  refine tkA 3 21 15 ?_
  refine rdA 4 31 (fun Kk hKk => ?_)
  go_simp
  refine (HL _).mono ?_
  rintro _ w1 ⟨b, rfl, hT, hb⟩
  have HB := hide (bthen (unhide HB) hb)
  have HA := hide (keep1 hb (lt_of_cell (unhide HA)) (unhide HA))
  have HT := hide hT
  clear hb hT
  (try go_wp2_with fail)
  refine hKk.out _ _ ?_ (fun hHeld => ?_)
  · (try dsimp only)
    exact unhide HA
  clear hKk Kk
  (try simp only [List.setIfInBounds_toArray, List.set_cons_zero, List.set_cons_succ])
  refine tkA 5 2 63 ?_
  refine tkA 6 3 127 ?_
  refine wpAnyH_done (by kernel_rfl) ?_ _
  clear hHeld
  go_wp2_with fail
  go_ret2
  exact ⟨_, rfl, unhide HT, unhide HB⟩
set_option maxHeartbeats 4000000 in
set_option maxRecDepth 100000 in
theorem grp_4 : Grp 4 ⟨#[105, 51, 50, 46]⟩ whoL := by
  refine hide (fun W => ?_)
  have HB := hide (below1 W (.cells firL.toArray 9)).drew
  have HA := hide (keep1 ((Below.refl (W.alloc (.cells firL.toArray 9)).heap.size (W.alloc (.cells firL.toArray 9))).drew) (lt_of_cell (tab_alloc W firL 9 4 _ rfl)) (tab_alloc W firL 9 4 _ rfl))
  have HL := unhide whoL_l
  go_enter Tryd.func33, Tryd.ntmps33
  go_wp2_with fail
  refine wp_region_held_drew (S := fun w' => w'.cell? ⟨W.heap.size, 4, none⟩ = some (.string ⟨#[105, 51, 50, 46]⟩)) (by kernel_rfl) ?_ (fun hHeld => ?_)
  · (try dsimp only)
    exact unhide HA
  refine lst0 7 (by kernel_rfl) ?_
  refine tkA 0 26 1 ?_
  refine tkA 1 27 3 ?_
  refine tkA 2 28 7 ?_
  refine tkA 3 29 15 ?_
  refine rdA 4 31 (fun Kk hKk => ?_)
  go_simp
  refine (HL _).mono ?_
  rintro _ w1 ⟨b, rfl, hT, hb⟩
  have HB := hide (bthen (unhide HB) hb)
  have HA := hide (keep1 hb (lt_of_cell (unhide HA)) (unhide HA))
  have HT := hide hT
  clear hb hT
  (try go_wp2_with fail)
  refine hKk.out _ _ ?_ (fun hHeld => ?_)
  · (try dsimp only)
    exact unhide HA
  clear hKk Kk
  (try simp only [List.setIfInBounds_toArray, List.set_cons_zero, List.set_cons_succ])
  refine tkA 5 2 63 ?_
  refine tkA 6 3 127 ?_
  refine wpAnyH_done (by kernel_rfl) ?_ _
  clear hHeld
  go_wp2_with fail
  go_ret2
  exact ⟨_, rfl, unhide HT, unhide HB⟩
set_option maxHeartbeats 4000000 in
set_option maxRecDepth 100000 in
theorem grp_5 : Grp 5 ⟨#[105, 54, 52, 46]⟩ whoL := by
  refine hide (fun W => ?_)
  have HB := hide (below1 W (.cells firL.toArray 9)).drew
  have HA := hide (keep1 ((Below.refl (W.alloc (.cells firL.toArray 9)).heap.size (W.alloc (.cells firL.toArray 9))).drew) (lt_of_cell (tab_alloc W firL 9 5 _ rfl)) (tab_alloc W firL 9 5 _ rfl))
  have HL := unhide whoL_l
  go_enter Tryd.func33, Tryd.ntmps33
  go_wp2_with fail
  refine wp_region_held_drew (S := fun w' => w'.cell? ⟨W.heap.size, 5, none⟩ = some (.string ⟨#[105, 54, 52, 46]⟩)) (by kernel_rfl) ?_ (fun hHeld => ?_)
  · (try dsimp only)
    exact unhide HA
  refine lst0 7 (by kernel_rfl) ?_
  refine tkA 0 26 1 ?_
  refine tkA 1 27 3 ?_
  refine tkA 2 28 7 ?_
  refine tkA 3 29 15 ?_
  refine rdA 4 31 (fun Kk hKk => ?_)
  go_simp
  refine (HL _).mono ?_
  rintro _ w1 ⟨b, rfl, hT, hb⟩
  have HB := hide (bthen (unhide HB) hb)
  have HA := hide (keep1 hb (lt_of_cell (unhide HA)) (unhide HA))
  have HT := hide hT
  clear hb hT
  (try go_wp2_with fail)
  refine hKk.out _ _ ?_ (fun hHeld => ?_)
  · (try dsimp only)
    exact unhide HA
  clear hKk Kk
  (try simp only [List.setIfInBounds_toArray, List.set_cons_zero, List.set_cons_succ])
  refine tkA 5 2 63 ?_
  refine tkA 6 3 127 ?_
  refine wpAnyH_done (by kernel_rfl) ?_ _
  clear hHeld
  go_wp2_with fail
  go_ret2
  exact ⟨_, rfl, unhide HT, unhide HB⟩
set_option maxHeartbeats 4000000 in
set_option maxRecDepth 100000 in
theorem grp_6 : Grp 6 ⟨#[102, 51, 50, 46]⟩ douL := by
  refine hide (fun W => ?_)
  have HB := hide (below1 W (.cells firL.toArray 9)).drew
  have HA := hide (keep1 ((Below.refl (W.alloc (.cells firL.toArray 9)).heap.size (W.alloc (.cells firL.toArray 9))).drew) (lt_of_cell (tab_alloc W firL 9 6 _ rfl)) (tab_alloc W firL 9 6 _ rfl))
  have HL := unhide douL_l
  go_enter Tryd.func33, Tryd.ntmps33
  go_wp2_with fail
  refine wp_region_held_drew (S := fun w' => w'.cell? ⟨W.heap.size, 6, none⟩ = some (.string ⟨#[102, 51, 50, 46]⟩)) (by kernel_rfl) ?_ (fun hHeld => ?_)
  · (try dsimp only)
    exact unhide HA
  refine lst0 7 (by kernel_rfl) ?_
  refine tkA 0 34 1 ?_
  refine tkA 1 35 3 ?_
  refine tkA 2 36 7 ?_
  refine tkA 3 37 15 ?_
  refine rdA 4 31 (fun Kk hKk => ?_)
  go_simp
  refine (HL _).mono ?_
  rintro _ w1 ⟨b, rfl, hT, hb⟩
  have HB := hide (bthen (unhide HB) hb)
  have HA := hide (keep1 hb (lt_of_cell (unhide HA)) (unhide HA))
  have HT := hide hT
  clear hb hT
  (try go_wp2_with fail)
  refine hKk.out _ _ ?_ (fun hHeld => ?_)
  · (try dsimp only)
    exact unhide HA
  clear hKk Kk
  (try simp only [List.setIfInBounds_toArray, List.set_cons_zero, List.set_cons_succ])
  refine tkA 5 2 63 ?_
  refine tkA 6 3 127 ?_
  refine wpAnyH_done (by kernel_rfl) ?_ _
  clear hHeld
  go_wp2_with fail
  go_ret2
  exact ⟨_, rfl, unhide HT, unhide HB⟩
set_option maxHeartbeats 4000000 in
set_option maxRecDepth 100000 in
theorem grp_7 : Grp 7 ⟨#[102, 54, 52, 46]⟩ douL := by
  refine hide (fun W => ?_)
  have HB := hide (below1 W (.cells firL.toArray 9)).drew
  have HA := hide (keep1 ((Below.refl (W.alloc (.cells firL.toArray 9)).heap.size (W.alloc (.cells firL.toArray 9))).drew) (lt_of_cell (tab_alloc W firL 9 7 _ rfl)) (tab_alloc W firL 9 7 _ rfl))
  have HL := unhide douL_l
  go_enter Tryd.func33, Tryd.ntmps33
  go_wp2_with fail
  refine wp_region_held_drew (S := fun w' => w'.cell? ⟨W.heap.size, 7, none⟩ = some (.string ⟨#[102, 54, 52, 46]⟩)) (by kernel_rfl) ?_ (fun hHeld => ?_)
  · (try dsimp only)
    exact unhide HA
  refine lst0 7 (by kernel_rfl) ?_
  refine tkA 0 34 1 ?_
  refine tkA 1 35 3 ?_
  refine tkA 2 36 7 ?_
  refine tkA 3 37 15 ?_
  refine rdA 4 31 (fun Kk hKk => ?_)
  go_simp
  refine (HL _).mono ?_
  rintro _ w1 ⟨b, rfl, hT, hb⟩
  have HB := hide (bthen (unhide HB) hb)
  have HA := hide (keep1 hb (lt_of_cell (unhide HA)) (unhide HA))
  have HT := hide hT
  clear hb hT
  (try go_wp2_with fail)
  refine hKk.out _ _ ?_ (fun hHeld => ?_)
  · (try dsimp only)
    exact unhide HA
  clear hKk Kk
  (try simp only [List.setIfInBounds_toArray, List.set_cons_zero, List.set_cons_succ])
  refine tkA 5 2 63 ?_
  refine tkA 6 3 127 ?_
  refine wpAnyH_done (by kernel_rfl) ?_ _
  clear hHeld
  go_wp2_with fail
  go_ret2
  exact ⟨_, rfl, unhide HT, unhide HB⟩
set_option maxHeartbeats 4000000 in
set_option maxRecDepth 100000 in
theorem grp_8 : Grp 8 ⟨#[]⟩ turL := by
  refine hide (fun W => ?_)
  have HB := hide (below1 W (.cells firL.toArray 9)).drew
  have HA := hide (keep1 ((Below.refl (W.alloc (.cells firL.toArray 9)).heap.size (W.alloc (.cells firL.toArray 9))).drew) (lt_of_cell (tab_alloc W firL 9 8 _ rfl)) (tab_alloc W firL 9 8 _ rfl))
  have HL := unhide turL_l
  go_enter Tryd.func33, Tryd.ntmps33
  go_wp2_with fail
  refine wp_region_held_drew (S := fun w' => w'.cell? ⟨W.heap.size, 8, none⟩ = some (.string ⟨#[]⟩)) (by kernel_rfl) ?_ (fun hHeld => ?_)
  · (try dsimp only)
    exact unhide HA
  refine lst0 7 (by kernel_rfl) ?_
  refine tkA 0 39 1 ?_
  refine tkA 1 40 3 ?_
  refine tkA 2 41 7 ?_
  refine tkA 3 42 15 ?_
  refine rdA 4 31 (fun Kk hKk => ?_)
  go_simp
  refine (HL _).mono ?_
  rintro _ w1 ⟨b, rfl, hT, hb⟩
  have HB := hide (bthen (unhide HB) hb)
  have HA := hide (keep1 hb (lt_of_cell (unhide HA)) (unhide HA))
  have HT := hide hT
  clear hb hT
  (try go_wp2_with fail)
  refine hKk.out _ _ ?_ (fun hHeld => ?_)
  · (try dsimp only)
    exact unhide HA
  clear hKk Kk
  (try simp only [List.setIfInBounds_toArray, List.set_cons_zero, List.set_cons_succ])
  refine tkA 5 2 63 ?_
  refine tkA 6 3 127 ?_
  refine wpAnyH_done (by kernel_rfl) ?_ _
  clear hHeld
  go_wp2_with fail
  go_ret2
  exact ⟨_, rfl, unhide HT, unhide HB⟩
end Go.Proofs.YtkpdanjfdcoldaaDoor
