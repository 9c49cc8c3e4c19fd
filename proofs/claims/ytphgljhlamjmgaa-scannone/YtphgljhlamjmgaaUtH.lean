/- The walk of the reference's Next. -/
import Derived.Test.YtphgljhlamjmgaaUtF
import Derived.Test.YtphgljhlamjmgaaUtG
namespace Go.Proofs.Ytphgljhlamjmgaa
open Go.RowKit

/-- What the reference's Next answers. -/
def rnT (k : Nat) (l : List Int) : Value := if isC l = true then .tuple #[.int .i64 ((dc l).1 : Int), .int .i64 ((k : Int) + ((dc l).2 : Int))] else .tuple #[.int .i64 (-1), .int .i64 0]
theorem rnT_hit (k : Nat) {n : Nat} {l : List Int} (h : Hit n l) : rnT k l = .tuple #[.int .i64 ((dc l).1 : Int), .int .i64 ((k : Int) + (n : Int))] := by
  unfold rnT
  rw [if_pos h.1, h.2]
theorem rnT_no {k n len : Nat} {l : List Int} (hb : Byt l) (hL : l.length = len) (hl : 1 ≤ len) (hn : 4 < n ∨ len < n) (h : ∀ m, 1 ≤ m → m < n → ¬ Hit m l) : rnT k l = .tuple #[.int .i64 (-1), .int .i64 0] := by
  unfold rnT
  rcases isC_ways hb (by omega) with ⟨q1, q2, q3, q4⟩ | ⟨q1, _⟩
  · have p1 := dc_pos l
    have p2 := dc_le hb (by omega)
    have p3 := sz_le ((dc l).1 : Int)
    exact absurd ⟨q1, rfl⟩ (h (dc l).2 p1 (by omega))
  · rw [if_neg (by rw [q1]; decide)]
theorem no_more {n : Nat} {l : List Int} (h : ∀ m, 1 ≤ m → m < n → ¬ Hit m l) (k : ¬ Hit n l) : ∀ m, 1 ≤ m → m < n + 1 → ¬ Hit m l := fun m h1 h2 => by
  by_cases e : m = n
  · subst e; exact k
  · exact h m h1 (by omega)
set_option maxHeartbeats 2000000 in
set_option maxRecDepth 100000 in
theorem rnext_w {b off len cap k : Nat} {l : List Int} {W : World} (hk : k < len) (hl : len ≤ 140737488355328) (HX : Hid (Byt l)) (HL : Hid (l.length = len - k)) (HCB : Hid (∀ j, j < len - k → W.cell? ⟨b, off + (k + j), none⟩ = some (.int .u8 (l.getD j 0)))) :
    Calls Try.prog 91 #[.slice (some ⟨b, off, none⟩) len cap, .int .i64 (k : Int)] W fun r W' => r = .returned (rnT k l) ∧ Below W.heap.size W W' := by
  have d1 : decide (len ≤ k) = false := decide_eq_false (by omega)
  have d2 : decide ((k : Int) < 0) = false := decide_eq_false (by omega)
  go_enter Try.func91, Try.ntmps91
  go_wp2_with fail
  go_loopw [6] (fun v6 wr => ∃ n : Nat, 1 ≤ n ∧ n ≤ 5 ∧ v6 = .int .i64 (n : Int) ∧ n ≤ len - k + 1 ∧ (∀ m, 1 ≤ m → m < n → ¬ Hit m l) ∧ Below W.heap.size W wr) (fun v6 _ => 5 - (intOf v6).toNat)
  case atStart => exact ⟨1, by omega, by omega, rfl, by omega, fun m h1 h2 => by omega, Below.refl _ _⟩
  case round =>
    obtain ⟨n, hn1, hn5, rfl, hnl, hno, hB⟩ := hrel
    have HB := hide hB
    have HNO := hide hno
    clear hB hno
    by_cases hend : n ≤ 4 ∧ k + n ≤ len
    · have : n = 1 ∨ n = 2 ∨ n = 3 ∨ n = 4 := by omega
      rcases this with rfl | rfl | rfl | rfl
      · have hkn : k + 1 ≤ len := by omega
        have HGI := hide (gn_in (unhide HX) 1)
        have HGS := hide (gn_step (ofs 1) l)
        have HHI := hide (sam_hit (n := 1) (unhide HX) (by omega) (by rw [unhide HL]; omega))
        have hx0 := unhide HCB 0 (by omega)
        rw [Nat.add_zero, (unhide HB).cell (World.block_lt_of_cell? W _ hx0) |>.symm] at hx0
        obtain ⟨x, hx⟩ : ∃ x, l.getD 0 0 = x := ⟨_, rfl⟩
        have hxb := (unhide HX).at0 0
        have HG1 : Hid (gn (ofs 1) l 1 = x - ofs 1) := hide (by rw [gn_one, hx])
        rw [hx] at hx0 hxb
        clear hx
        go_wp2_with fail
        go_loop [7, 8] (fun v7 v8 => ∃ i : Nat, 1 ≤ i ∧ i ≤ 1 ∧ v8 = .int .i64 (i : Int) ∧ v7 = .int .i64 (gn (ofs 1) l i)) (fun _ v8 => 1 - (intOf v8).toNat)
        case atStart => exact ⟨1, by omega, by omega, rfl, by rw [unhide HG1]; congr 1; exact (Int.sub_zero x).symm⟩
        case round =>
          obtain ⟨i, hi1, hi2, rfl, rfl⟩ := hrel
          clear HG1 hx0 hxb
          by_cases hi : i < 1
          · have hxi := unhide HCB i (by omega)
            rw [(unhide HB).cell (World.block_lt_of_cell? W _ hxi) |>.symm] at hxi
            have hxc := (unhide HX).at0 i
            have hgi := unhide HGI i (by omega)
            have HGT := hide (unhide HGS i hi1)
            generalize l.getD i 0 = y at *
            generalize hg : gn (ofs 1) l i = g at *
            clear hg
            have hi' : (i : Int) < 1 := by omega
            go_wp2_with fail
            exact ⟨⟨i + 1, by omega, by omega, by go_num, by rw [unhide HGT]⟩, by simp [intOf]; omega⟩
          · obtain rfl : i = 1 := by omega
            have hgi := unhide HGI 1 (by omega)
            have HHN := hide (fun h => (hit_num (n := 1) (unhide HX) (by rw [unhide HL]; omega) h).1)
            generalize gn (ofs 1) l 1 = c at *
            have HP := hide (rput_any c)
            go_wp2_with fail
            refine (unhide HP _).mono ?_
            rintro _ w1 ⟨a, pc, rfl, hS, hb⟩
            have HB := hide (bthen (unhide HB) hb)
            have HS := hide hS
            clear hb hS
            by_cases hsz : sz c = 1
            · rw [hsz] at HS ⊢
              obtain ⟨g, go, rfl, hcp⟩ : ∃ g go, a = some ⟨g, go, none⟩ ∧ ∀ j, j < 1 → w1.cell? ⟨g, go + j, none⟩ = some (.int .u8 ((put c).getD j 0)) := by
                rcases (unhide HS).2.2.2 with ⟨_, h, _⟩ | ⟨g, go, h, h'⟩
                · cases h
                · exact ⟨g, go, h, h'⟩
              have HCP := hide hcp
              clear hcp
              go_wp2_with fail
              go_loopw [10, 11] (fun v10 v11 w2 => ∃ i : Nat, i ≤ 1 ∧ v11 = .int .i64 (i : Int) ∧ v10 = .bool (sam c 1 l i) ∧ Below w1.heap.size w1 w2) (fun _ v11 _ => 1 - (intOf v11).toNat)
              case atStart => exact ⟨0, by omega, rfl, by rw [sam, decide_eq_true hsz], Below.refl _ _⟩
              case round =>
                obtain ⟨i, hi3, rfl, rfl, hb⟩ := hrel
                have HB2 := hide hb
                have HSS : Hid (sam c 1 l (i + 1) = (sam c 1 l i && decide ((put c).getD i 0 = l.getD i 0))) := hide rfl
                clear hb
                by_cases hi : i < 1
                · have hi' : (i : Int) < 1 := by omega
                  cases hsm : sam c 1 l i
                  · have HNH : Hid (¬ Hit 1 l) := hide (fun h => by have := (unhide HHI).2 h; rw [sam_iff] at this; have h2 := (sam_iff c 1 l i).2 ⟨this.1, fun j hj => this.2 j (by omega)⟩; rw [hsm] at h2; cases h2)
                    have HB := hide (bthen (unhide HB) (unhide HB2))
                    clear hsm HSS
                    go_wp2_with fail
                    go_roundw
                    case rel => exact ⟨2, by omega, by omega, by go_num, by omega, no_more (unhide HNO) (unhide HNH), unhide HB⟩
                    case measure => simp [intOf]
                  · rw [hsm, Bool.true_and] at HSS
                    clear hsm
                    have hpi := unhide HCP i (by omega)
                    rw [(unhide HB2).cell (World.block_lt_of_cell? w1 _ hpi) |>.symm] at hpi
                    have hxi := unhide HCB i (by omega)
                    rw [(bthen (unhide HB) (unhide HB2)).cell (World.block_lt_of_cell? W _ hxi) |>.symm] at hxi
                    generalize l.getD i 0 = y at *
                    generalize (put c).getD i 0 = z at *
                    go_wp2_with fail
                    go_quiet (fail)
                    go_wp2_with fail
                    refine ⟨⟨i + 1, by omega, by go_num, ?_, below_drewN (unhide HB2) _⟩, by simp [intOf]; omega⟩
                    rw [unhide HSS]
                    congr 1
                · obtain rfl : i = 1 := by omega
                  have HB := hide (bthen (unhide HB) (unhide HB2))
                  cases hsm : sam c 1 l 1
                  · have HNH : Hid (¬ Hit 1 l) := hide (fun h => by have := (unhide HHI).2 h; rw [hsm] at this; cases this)
                    clear hsm HSS
                    go_wp2_with fail
                    go_roundw
                    case rel => exact ⟨2, by omega, by omega, by go_num, by omega, no_more (unhide HNO) (unhide HNH), unhide HB⟩
                    case measure => simp [intOf]
                  · have HNH : Hid (Hit 1 l) := hide ((unhide HHI).1 hsm)
                    clear hsm HSS
                    go_wp2_with fail
                    exact bodyPost_ret (v := .tuple #[.int .i64 c, .int .i64 ((k : Int) + 1)]) (by simp [results, Try.results91, go_sem]) rfl ⟨by rw [rnT_hit k (unhide HNH), ← unhide HHN (unhide HNH)]; rfl, unhide HB⟩
            · have HNH : Hid (¬ Hit 1 l) := hide (fun h => hsz ((sam_iff c 1 l 1).1 ((unhide HHI).2 h)).1)
              have hsz' : ¬ (sz c : Int) = 1 := by omega
              clear hsz HS
              go_wp2_with fail
              refine wp_loop_rounds 1 ?_
              rw [rounds_succ]
              go_wp2_with fail
              go_roundw
              case rel => exact ⟨2, by omega, by omega, by go_num, by omega, no_more (unhide HNO) (unhide HNH), unhide HB⟩
              case measure => simp [intOf]
      · have hkn : k + 2 ≤ len := by omega
        have HGI := hide (gn_in (unhide HX) 2)
        have HGS := hide (gn_step (ofs 2) l)
        have HHI := hide (sam_hit (n := 2) (unhide HX) (by omega) (by rw [unhide HL]; omega))
        have hx0 := unhide HCB 0 (by omega)
        rw [Nat.add_zero, (unhide HB).cell (World.block_lt_of_cell? W _ hx0) |>.symm] at hx0
        obtain ⟨x, hx⟩ : ∃ x, l.getD 0 0 = x := ⟨_, rfl⟩
        have hxb := (unhide HX).at0 0
        have HG1 : Hid (gn (ofs 2) l 1 = x - ofs 2) := hide (by rw [gn_one, hx])
        rw [hx] at hx0 hxb
        clear hx
        go_wp2_with fail
        go_loop [7, 8] (fun v7 v8 => ∃ i : Nat, 1 ≤ i ∧ i ≤ 2 ∧ v8 = .int .i64 (i : Int) ∧ v7 = .int .i64 (gn (ofs 2) l i)) (fun _ v8 => 2 - (intOf v8).toNat)
        case atStart => exact ⟨1, by omega, by omega, rfl, by rw [unhide HG1]; rfl⟩
        case round =>
          obtain ⟨i, hi1, hi2, rfl, rfl⟩ := hrel
          clear HG1 hx0 hxb
          by_cases hi : i < 2
          · have hxi := unhide HCB i (by omega)
            rw [(unhide HB).cell (World.block_lt_of_cell? W _ hxi) |>.symm] at hxi
            have hxc := (unhide HX).at0 i
            have hgi := unhide HGI i (by omega)
            have HGT := hide (unhide HGS i hi1)
            generalize l.getD i 0 = y at *
            generalize hg : gn (ofs 2) l i = g at *
            clear hg
            have hi' : (i : Int) < 2 := by omega
            go_wp2_with fail
            exact ⟨⟨i + 1, by omega, by omega, by go_num, by rw [unhide HGT]⟩, by simp [intOf]; omega⟩
          · obtain rfl : i = 2 := by omega
            have hgi := unhide HGI 2 (by omega)
            have HHN := hide (fun h => (hit_num (n := 2) (unhide HX) (by rw [unhide HL]; omega) h).1)
            generalize gn (ofs 2) l 2 = c at *
            have HP := hide (rput_any c)
            go_wp2_with fail
            refine (unhide HP _).mono ?_
            rintro _ w1 ⟨a, pc, rfl, hS, hb⟩
            have HB := hide (bthen (unhide HB) hb)
            have HS := hide hS
            clear hb hS
            by_cases hsz : sz c = 2
            · rw [hsz] at HS ⊢
              obtain ⟨g, go, rfl, hcp⟩ : ∃ g go, a = some ⟨g, go, none⟩ ∧ ∀ j, j < 2 → w1.cell? ⟨g, go + j, none⟩ = some (.int .u8 ((put c).getD j 0)) := by
                rcases (unhide HS).2.2.2 with ⟨_, h, _⟩ | ⟨g, go, h, h'⟩
                · cases h
                · exact ⟨g, go, h, h'⟩
              have HCP := hide hcp
              clear hcp
              go_wp2_with fail
              go_loopw [10, 11] (fun v10 v11 w2 => ∃ i : Nat, i ≤ 2 ∧ v11 = .int .i64 (i : Int) ∧ v10 = .bool (sam c 2 l i) ∧ Below w1.heap.size w1 w2) (fun _ v11 _ => 2 - (intOf v11).toNat)
              case atStart => exact ⟨0, by omega, rfl, by rw [sam, decide_eq_true hsz], Below.refl _ _⟩
              case round =>
                obtain ⟨i, hi3, rfl, rfl, hb⟩ := hrel
                have HB2 := hide hb
                have HSS : Hid (sam c 2 l (i + 1) = (sam c 2 l i && decide ((put c).getD i 0 = l.getD i 0))) := hide rfl
                clear hb
                by_cases hi : i < 2
                · have hi' : (i : Int) < 2 := by omega
                  cases hsm : sam c 2 l i
                  · have HNH : Hid (¬ Hit 2 l) := hide (fun h => by have := (unhide HHI).2 h; rw [sam_iff] at this; have h2 := (sam_iff c 2 l i).2 ⟨this.1, fun j hj => this.2 j (by omega)⟩; rw [hsm] at h2; cases h2)
                    have HB := hide (bthen (unhide HB) (unhide HB2))
                    clear hsm HSS
                    go_wp2_with fail
                    go_roundw
                    case rel => exact ⟨3, by omega, by omega, by go_num, by omega, no_more (unhide HNO) (unhide HNH), unhide HB⟩
                    case measure => simp [intOf]
                  · rw [hsm, Bool.true_and] at HSS
                    clear hsm
                    have hpi := unhide HCP i (by omega)
                    rw [(unhide HB2).cell (World.block_lt_of_cell? w1 _ hpi) |>.symm] at hpi
                    have hxi := unhide HCB i (by omega)
                    rw [(bthen (unhide HB) (unhide HB2)).cell (World.block_lt_of_cell? W _ hxi) |>.symm] at hxi
                    generalize l.getD i 0 = y at *
                    generalize (put c).getD i 0 = z at *
                    go_wp2_with fail
                    go_quiet (fail)
                    go_wp2_with fail
                    refine ⟨⟨i + 1, by omega, by go_num, ?_, below_drewN (unhide HB2) _⟩, by simp [intOf]; omega⟩
                    rw [unhide HSS]
                    congr 1
                · obtain rfl : i = 2 := by omega
                  have HB := hide (bthen (unhide HB) (unhide HB2))
                  cases hsm : sam c 2 l 2
                  · have HNH : Hid (¬ Hit 2 l) := hide (fun h => by have := (unhide HHI).2 h; rw [hsm] at this; cases this)
                    clear hsm HSS
                    go_wp2_with fail
                    go_roundw
                    case rel => exact ⟨3, by omega, by omega, by go_num, by omega, no_more (unhide HNO) (unhide HNH), unhide HB⟩
                    case measure => simp [intOf]
                  · have HNH : Hid (Hit 2 l) := hide ((unhide HHI).1 hsm)
                    clear hsm HSS
                    go_wp2_with fail
                    exact bodyPost_ret (v := .tuple #[.int .i64 c, .int .i64 ((k : Int) + 2)]) (by simp [results, Try.results91, go_sem]) rfl ⟨by rw [rnT_hit k (unhide HNH), ← unhide HHN (unhide HNH)]; rfl, unhide HB⟩
            · have HNH : Hid (¬ Hit 2 l) := hide (fun h => hsz ((sam_iff c 2 l 2).1 ((unhide HHI).2 h)).1)
              have hsz' : ¬ (sz c : Int) = 2 := by omega
              clear hsz HS
              go_wp2_with fail
              refine wp_loop_rounds 1 ?_
              rw [rounds_succ]
              go_wp2_with fail
              go_roundw
              case rel => exact ⟨3, by omega, by omega, by go_num, by omega, no_more (unhide HNO) (unhide HNH), unhide HB⟩
              case measure => simp [intOf]
      · have hkn : k + 3 ≤ len := by omega
        have HGI := hide (gn_in (unhide HX) 3)
        have HGS := hide (gn_step (ofs 3) l)
        have HHI := hide (sam_hit (n := 3) (unhide HX) (by omega) (by rw [unhide HL]; omega))
        have hx0 := unhide HCB 0 (by omega)
        rw [Nat.add_zero, (unhide HB).cell (World.block_lt_of_cell? W _ hx0) |>.symm] at hx0
        obtain ⟨x, hx⟩ : ∃ x, l.getD 0 0 = x := ⟨_, rfl⟩
        have hxb := (unhide HX).at0 0
        have HG1 : Hid (gn (ofs 3) l 1 = x - ofs 3) := hide (by rw [gn_one, hx])
        rw [hx] at hx0 hxb
        clear hx
        go_wp2_with fail
        go_loop [7, 8] (fun v7 v8 => ∃ i : Nat, 1 ≤ i ∧ i ≤ 3 ∧ v8 = .int .i64 (i : Int) ∧ v7 = .int .i64 (gn (ofs 3) l i)) (fun _ v8 => 3 - (intOf v8).toNat)
        case atStart => exact ⟨1, by omega, by omega, rfl, by rw [unhide HG1]; rfl⟩
        case round =>
          obtain ⟨i, hi1, hi2, rfl, rfl⟩ := hrel
          clear HG1 hx0 hxb
          by_cases hi : i < 3
          · have hxi := unhide HCB i (by omega)
            rw [(unhide HB).cell (World.block_lt_of_cell? W _ hxi) |>.symm] at hxi
            have hxc := (unhide HX).at0 i
            have hgi := unhide HGI i (by omega)
            have HGT := hide (unhide HGS i hi1)
            generalize l.getD i 0 = y at *
            generalize hg : gn (ofs 3) l i = g at *
            clear hg
            have hi' : (i : Int) < 3 := by omega
            go_wp2_with fail
            exact ⟨⟨i + 1, by omega, by omega, by go_num, by rw [unhide HGT]⟩, by simp [intOf]; omega⟩
          · obtain rfl : i = 3 := by omega
            have hgi := unhide HGI 3 (by omega)
            have HHN := hide (fun h => (hit_num (n := 3) (unhide HX) (by rw [unhide HL]; omega) h).1)
            generalize gn (ofs 3) l 3 = c at *
            have HP := hide (rput_any c)
            go_wp2_with fail
            refine (unhide HP _).mono ?_
            rintro _ w1 ⟨a, pc, rfl, hS, hb⟩
            have HB := hide (bthen (unhide HB) hb)
            have HS := hide hS
            clear hb hS
            by_cases hsz : sz c = 3
            · rw [hsz] at HS ⊢
              obtain ⟨g, go, rfl, hcp⟩ : ∃ g go, a = some ⟨g, go, none⟩ ∧ ∀ j, j < 3 → w1.cell? ⟨g, go + j, none⟩ = some (.int .u8 ((put c).getD j 0)) := by
                rcases (unhide HS).2.2.2 with ⟨_, h, _⟩ | ⟨g, go, h, h'⟩
                · cases h
                · exact ⟨g, go, h, h'⟩
              have HCP := hide hcp
              clear hcp
              go_wp2_with fail
              go_loopw [10, 11] (fun v10 v11 w2 => ∃ i : Nat, i ≤ 3 ∧ v11 = .int .i64 (i : Int) ∧ v10 = .bool (sam c 3 l i) ∧ Below w1.heap.size w1 w2) (fun _ v11 _ => 3 - (intOf v11).toNat)
              case atStart => exact ⟨0, by omega, rfl, by rw [sam, decide_eq_true hsz], Below.refl _ _⟩
              case round =>
                obtain ⟨i, hi3, rfl, rfl, hb⟩ := hrel
                have HB2 := hide hb
                have HSS : Hid (sam c 3 l (i + 1) = (sam c 3 l i && decide ((put c).getD i 0 = l.getD i 0))) := hide rfl
                clear hb
                by_cases hi : i < 3
                · have hi' : (i : Int) < 3 := by omega
                  cases hsm : sam c 3 l i
                  · have HNH : Hid (¬ Hit 3 l) := hide (fun h => by have := (unhide HHI).2 h; rw [sam_iff] at this; have h2 := (sam_iff c 3 l i).2 ⟨this.1, fun j hj => this.2 j (by omega)⟩; rw [hsm] at h2; cases h2)
                    have HB := hide (bthen (unhide HB) (unhide HB2))
                    clear hsm HSS
                    go_wp2_with fail
                    go_roundw
                    case rel => exact ⟨4, by omega, by omega, by go_num, by omega, no_more (unhide HNO) (unhide HNH), unhide HB⟩
                    case measure => simp [intOf]
                  · rw [hsm, Bool.true_and] at HSS
                    clear hsm
                    have hpi := unhide HCP i (by omega)
                    rw [(unhide HB2).cell (World.block_lt_of_cell? w1 _ hpi) |>.symm] at hpi
                    have hxi := unhide HCB i (by omega)
                    rw [(bthen (unhide HB) (unhide HB2)).cell (World.block_lt_of_cell? W _ hxi) |>.symm] at hxi
                    generalize l.getD i 0 = y at *
                    generalize (put c).getD i 0 = z at *
                    go_wp2_with fail
                    go_quiet (fail)
                    go_wp2_with fail
                    refine ⟨⟨i + 1, by omega, by go_num, ?_, below_drewN (unhide HB2) _⟩, by simp [intOf]; omega⟩
                    rw [unhide HSS]
                    congr 1
                · obtain rfl : i = 3 := by omega
                  have HB := hide (bthen (unhide HB) (unhide HB2))
                  cases hsm : sam c 3 l 3
                  · have HNH : Hid (¬ Hit 3 l) := hide (fun h => by have := (unhide HHI).2 h; rw [hsm] at this; cases this)
                    clear hsm HSS
                    go_wp2_with fail
                    go_roundw
                    case rel => exact ⟨4, by omega, by omega, by go_num, by omega, no_more (unhide HNO) (unhide HNH), unhide HB⟩
                    case measure => simp [intOf]
                  · have HNH : Hid (Hit 3 l) := hide ((unhide HHI).1 hsm)
                    clear hsm HSS
                    go_wp2_with fail
                    exact bodyPost_ret (v := .tuple #[.int .i64 c, .int .i64 ((k : Int) + 3)]) (by simp [results, Try.results91, go_sem]) rfl ⟨by rw [rnT_hit k (unhide HNH), ← unhide HHN (unhide HNH)]; rfl, unhide HB⟩
            · have HNH : Hid (¬ Hit 3 l) := hide (fun h => hsz ((sam_iff c 3 l 3).1 ((unhide HHI).2 h)).1)
              have hsz' : ¬ (sz c : Int) = 3 := by omega
              clear hsz HS
              go_wp2_with fail
              refine wp_loop_rounds 1 ?_
              rw [rounds_succ]
              go_wp2_with fail
              go_roundw
              case rel => exact ⟨4, by omega, by omega, by go_num, by omega, no_more (unhide HNO) (unhide HNH), unhide HB⟩
              case measure => simp [intOf]
      · have hkn : k + 4 ≤ len := by omega
        have HGI := hide (gn_in (unhide HX) 4)
        have HGS := hide (gn_step (ofs 4) l)
        have HHI := hide (sam_hit (n := 4) (unhide HX) (by omega) (by rw [unhide HL]; omega))
        have hx0 := unhide HCB 0 (by omega)
        rw [Nat.add_zero, (unhide HB).cell (World.block_lt_of_cell? W _ hx0) |>.symm] at hx0
        obtain ⟨x, hx⟩ : ∃ x, l.getD 0 0 = x := ⟨_, rfl⟩
        have hxb := (unhide HX).at0 0
        have HG1 : Hid (gn (ofs 4) l 1 = x - ofs 4) := hide (by rw [gn_one, hx])
        rw [hx] at hx0 hxb
        clear hx
        go_wp2_with fail
        go_loop [7, 8] (fun v7 v8 => ∃ i : Nat, 1 ≤ i ∧ i ≤ 4 ∧ v8 = .int .i64 (i : Int) ∧ v7 = .int .i64 (gn (ofs 4) l i)) (fun _ v8 => 4 - (intOf v8).toNat)
        case atStart => exact ⟨1, by omega, by omega, rfl, by rw [unhide HG1]; rfl⟩
        case round =>
          obtain ⟨i, hi1, hi2, rfl, rfl⟩ := hrel
          clear HG1 hx0 hxb
          by_cases hi : i < 4
          · have hxi := unhide HCB i (by omega)
            rw [(unhide HB).cell (World.block_lt_of_cell? W _ hxi) |>.symm] at hxi
            have hxc := (unhide HX).at0 i
            have hgi := unhide HGI i (by omega)
            have HGT := hide (unhide HGS i hi1)
            generalize l.getD i 0 = y at *
            generalize hg : gn (ofs 4) l i = g at *
            clear hg
            have hi' : (i : Int) < 4 := by omega
            go_wp2_with fail
            exact ⟨⟨i + 1, by omega, by omega, by go_num, by rw [unhide HGT]⟩, by simp [intOf]; omega⟩
          · obtain rfl : i = 4 := by omega
            have hgi := unhide HGI 4 (by omega)
            have HHN := hide (fun h => (hit_num (n := 4) (unhide HX) (by rw [unhide HL]; omega) h).1)
            generalize gn (ofs 4) l 4 = c at *
            have HP := hide (rput_any c)
            go_wp2_with fail
            refine (unhide HP _).mono ?_
            rintro _ w1 ⟨a, pc, rfl, hS, hb⟩
            have HB := hide (bthen (unhide HB) hb)
            have HS := hide hS
            clear hb hS
            by_cases hsz : sz c = 4
            · rw [hsz] at HS ⊢
              obtain ⟨g, go, rfl, hcp⟩ : ∃ g go, a = some ⟨g, go, none⟩ ∧ ∀ j, j < 4 → w1.cell? ⟨g, go + j, none⟩ = some (.int .u8 ((put c).getD j 0)) := by
                rcases (unhide HS).2.2.2 with ⟨_, h, _⟩ | ⟨g, go, h, h'⟩
                · cases h
                · exact ⟨g, go, h, h'⟩
              have HCP := hide hcp
              clear hcp
              go_wp2_with fail
              go_loopw [10, 11] (fun v10 v11 w2 => ∃ i : Nat, i ≤ 4 ∧ v11 = .int .i64 (i : Int) ∧ v10 = .bool (sam c 4 l i) ∧ Below w1.heap.size w1 w2) (fun _ v11 _ => 4 - (intOf v11).toNat)
              case atStart => exact ⟨0, by omega, rfl, by rw [sam, decide_eq_true hsz], Below.refl _ _⟩
              case round =>
                obtain ⟨i, hi3, rfl, rfl, hb⟩ := hrel
                have HB2 := hide hb
                have HSS : Hid (sam c 4 l (i + 1) = (sam c 4 l i && decide ((put c).getD i 0 = l.getD i 0))) := hide rfl
                clear hb
                by_cases hi : i < 4
                · have hi' : (i : Int) < 4 := by omega
                  cases hsm : sam c 4 l i
                  · have HNH : Hid (¬ Hit 4 l) := hide (fun h => by have := (unhide HHI).2 h; rw [sam_iff] at this; have h2 := (sam_iff c 4 l i).2 ⟨this.1, fun j hj => this.2 j (by omega)⟩; rw [hsm] at h2; cases h2)
                    have HB := hide (bthen (unhide HB) (unhide HB2))
                    clear hsm HSS
                    go_wp2_with fail
                    go_roundw
                    case rel => exact ⟨5, by omega, by omega, by go_num, by omega, no_more (unhide HNO) (unhide HNH), unhide HB⟩
                    case measure => simp [intOf]
                  · rw [hsm, Bool.true_and] at HSS
                    clear hsm
                    have hpi := unhide HCP i (by omega)
                    rw [(unhide HB2).cell (World.block_lt_of_cell? w1 _ hpi) |>.symm] at hpi
                    have hxi := unhide HCB i (by omega)
                    rw [(bthen (unhide HB) (unhide HB2)).cell (World.block_lt_of_cell? W _ hxi) |>.symm] at hxi
                    generalize l.getD i 0 = y at *
                    generalize (put c).getD i 0 = z at *
                    go_wp2_with fail
                    go_quiet (fail)
                    go_wp2_with fail
                    refine ⟨⟨i + 1, by omega, by go_num, ?_, below_drewN (unhide HB2) _⟩, by simp [intOf]; omega⟩
                    rw [unhide HSS]
                    congr 1
                · obtain rfl : i = 4 := by omega
                  have HB := hide (bthen (unhide HB) (unhide HB2))
                  cases hsm : sam c 4 l 4
                  · have HNH : Hid (¬ Hit 4 l) := hide (fun h => by have := (unhide HHI).2 h; rw [hsm] at this; cases this)
                    clear hsm HSS
                    go_wp2_with fail
                    go_roundw
                    case rel => exact ⟨5, by omega, by omega, by go_num, by omega, no_more (unhide HNO) (unhide HNH), unhide HB⟩
                    case measure => simp [intOf]
                  · have HNH : Hid (Hit 4 l) := hide ((unhide HHI).1 hsm)
                    clear hsm HSS
                    go_wp2_with fail
                    exact bodyPost_ret (v := .tuple #[.int .i64 c, .int .i64 ((k : Int) + 4)]) (by simp [results, Try.results91, go_sem]) rfl ⟨by rw [rnT_hit k (unhide HNH), ← unhide HHN (unhide HNH)]; rfl, unhide HB⟩
            · have HNH : Hid (¬ Hit 4 l) := hide (fun h => hsz ((sam_iff c 4 l 4).1 ((unhide HHI).2 h)).1)
              have hsz' : ¬ (sz c : Int) = 4 := by omega
              clear hsz HS
              go_wp2_with fail
              refine wp_loop_rounds 1 ?_
              rw [rounds_succ]
              go_wp2_with fail
              go_roundw
              case rel => exact ⟨5, by omega, by omega, by go_num, by omega, no_more (unhide HNO) (unhide HNH), unhide HB⟩
              case measure => simp [intOf]
    · have HE := hide (rnT_no (k := k) (unhide HX) (unhide HL) (by omega) (by omega) (unhide HNO))
      by_cases h4 : n ≤ 4
      · have h5 : ¬ k + n ≤ len := by omega
        have a1 : decide ((n : Int) ≤ 4) = true := decide_eq_true (by omega)
        have a2 : decide ((k : Int) + (n : Int) ≤ (len : Int)) = false := decide_eq_false (by omega)
        go_wp2_with fail
        exact bodyPost_ret (v := .tuple #[.int .i64 (-1), .int .i64 0]) (by simp [results, Try.results91, go_sem]) rfl ⟨by rw [unhide HE], unhide HB⟩
      · have a1 : decide ((n : Int) ≤ 4) = false := decide_eq_false (by omega)
        go_wp2_with fail
        exact bodyPost_ret (v := .tuple #[.int .i64 (-1), .int .i64 0]) (by simp [results, Try.results91, go_sem]) rfl ⟨by rw [unhide HE], unhide HB⟩
end Go.Proofs.Ytphgljhlamjmgaa
