/- NuK, NuL, KnA, ImE, CdM, CdA, CdB, CdC, CdD, CdE, CdH, MdA, MdB, MdC, CeA. -/
import Derived.Test.YtjoonmpjcophnaaGreatDoorUa01
import Derived.Test.YtjoonmpjcophnaaGreatDoorUa02
import Derived.Test.YtjoonmpjcophnaaGreatDoorUa03
import Derived.Test.YtjoonmpjcophnaaGreatDoorUa10
import Derived.Test.YtjoonmpjcophnaaGreatDoorUa11
import Derived.Test.YtjoonmpjcophnaaGreatDoorUa12
import Derived.Test.YtjoonmpjcophnaaGreatDoorUa28
import Derived.Test.YtjoonmpjcophnaaGreatDoorUa29
import Derived.Test.YtjoonmpjcophnaaGreatDoorUa30
import Derived.Test.YtjoonmpjcophnaaGreatDoorUa33
import Derived.WalkMore
namespace Go.Proofs.YtjoonmpjcophnaaGreatDoor
open Go.RowKit

/-- How many operands there are. -/
def opn (d k : Int) : Int := if d = 0 then (if k ≤ 0 then 1 else 2) else if d = 2 then (if k ≤ 2 then 1 else 2) else if d = 3 then (if k ≤ 6 then 1 else 2) else if d = 1 then 2 else 1
set_option maxHeartbeats 4000000 in
set_option maxRecDepth 100000 in
theorem opn_w {f n d o k : Int} (h : d = 0 ∨ d = 1 ∨ d = 2 ∨ d = 3 ∨ d = 4 ∨ d = 5) : Ct 192 #[.agg #[.int .i64 f, .int .i64 n, .int .i64 d, .int .u8 o], .int .i64 k] (.int .i64 (opn d k)) := by
  refine hide (fun W => ?_)
  have HO := fun l a => one_l l a
  rcases h with rfl | rfl | rfl | rfl | rfl | rfl
  all_goals
    go_enter Tryz.func192, Tryz.ntmps192
    go_wp2_with fail
    try
      refine (unhide (HO _ _) _).mono ?_
      rintro _ w1 ⟨rfl, hb⟩
      have HB := hide (bthen (below1 _ _) hb)
      clear hb
      go_wp2_with fail
    all_goals
      go_ret
      first | exact ⟨by rfl, below1 _ _⟩ | exact ⟨by first | rfl | (unfold opn; simp <;> omega), unhide HB⟩
set_option maxHeartbeats 4000000 in
set_option maxRecDepth 100000 in
theorem kind_w {op f n d o k ti tu c : Int} (HF : Cm 190 #[.int .i64 op] (.tuple #[.agg #[.int .i64 f, .int .i64 n, .int .i64 d, .int .u8 o], .int .i64 k, .bool true])) (HT : Cm 191 #[.agg #[.int .i64 f, .int .i64 n, .int .i64 d, .int .u8 o], .int .i64 k] (.agg #[.int .u8 ti, .int .u8 tu])) (HO : Ct 192 #[.agg #[.int .i64 f, .int .i64 n, .int .i64 d, .int .u8 o], .int .i64 k] (.int .i64 c)) :
    Cm 188 #[.int .i64 op] (.tuple #[.int .u8 ti, .int .i64 c, .int .u8 tu, .bool true]) := by
  refine hide (fun W m => ?_)
  have HM := hide m
  clear m
  have HB := hide (Below.refl W.heap.size W)
  go_enter Tryz.func188, Tryz.ntmps188
  go_wp2_with fail
  refine (unhide HF _ (unhide HM)).mono ?_
  rintro _ w1 ⟨rfl, hb⟩
  have HB := hide (bthen (unhide HB) hb)
  have HM := hide ((unhide HM).below hb)
  clear hb
  have HB := hide (balloc (unhide HB) (.cells #[.int .i64 f, .int .i64 n, .int .i64 d, .int .u8 o] 262))
  have HG := hide (at4_new w1 (.int .i64 f) (.int .i64 n) (.int .i64 d) (.int .u8 o) 262)
  have HM := hide ((unhide HM).below (below1 w1 (.cells #[.int .i64 f, .int .i64 n, .int .i64 d, .int .u8 o] 262)))
  go_wp2_with fail
  refine (unhide HT _ (unhide HM)).mono ?_
  rintro _ w2 ⟨rfl, hb⟩
  have HB := hide (bthen (unhide HB) hb)
  have HM := hide ((unhide HM).below hb)
  have HG := hide ((unhide HG).below hb)
  clear hb
  have HB := hide (balloc (unhide HB) (.cells #[.int .u8 ti, .int .u8 tu] 266)).drew
  have HG := hide ((unhide HG).below (below1 w2 (.cells #[.int .u8 ti, .int .u8 tu] 266)).drew)
  have HM := hide ((unhide HM).below (below1 w2 (.cells #[.int .u8 ti, .int .u8 tu] 266)).drew)
  have H2 := hide ((at2_new w2 (.int .u8 ti) (.int .u8 tu) 266).below ((Below.refl _ _).drew))
  have HS := hide (And.intro (unhide H2) (unhide HG))
  go_wp2_with fail
  refine wp_region_held_drew (S := fun w' => (w'.cell? ⟨w2.heap.size, 0, none⟩ = some (.int .u8 ti) ∧ w'.cell? ⟨w2.heap.size, 1, none⟩ = some (.int .u8 tu)) ∧ (w'.cell? ⟨w1.heap.size, 0, none⟩ = some (.int .i64 f) ∧ w'.cell? ⟨w1.heap.size, 1, none⟩ = some (.int .i64 n) ∧ w'.cell? ⟨w1.heap.size, 2, none⟩ = some (.int .i64 d) ∧ w'.cell? ⟨w1.heap.size, 3, none⟩ = some (.int .u8 o))) (by kernel_rfl) ?_ (fun hHeld => ?_)
  · (try dsimp only)
    exact unhide HS
  refine lst0 11 (by kernel_rfl) ?_
  refine tkA 0 20 1 ?_
  refine tkA 1 21 3 ?_
  refine tkA 2 22 7 ?_
  refine tkA 3 23 15 ?_
  refine tkA 5 25 47 ?_
  refine tkA 6 26 111 ?_
  refine rdA 4 127 (fun Kk hKk => ?_)
  go_simp
  refine (unhide HO _).mono ?_
  rintro _ w3 ⟨rfl, hb⟩
  have HB := hide (bthen (unhide HB) hb)
  have HM := hide ((unhide HM).below hb)
  have HG := hide ((unhide HG).below hb)
  have H2 := hide ((unhide H2).below hb)
  clear hb
  have HS := hide (And.intro (unhide H2) (unhide HG))
  (try go_wp2_with fail)
  refine hKk.out _ _ ?_ (fun hHeld => ?_)
  · (try dsimp only)
    exact unhide HS
  clear hKk Kk
  (try simp only [List.setIfInBounds_toArray, List.set_cons_zero, List.set_cons_succ])
  refine tkA 7 2 255 ?_
  refine tkA 8 3 511 ?_
  refine tkA 9 4 1023 ?_
  refine tkA 10 5 2047 ?_
  refine wpAnyH_done (by kernel_rfl) ?_ _
  clear hHeld H2
  go_wp2_with fail
  exact bodyPost_ret (v := .tuple #[.int .u8 ti, .int .i64 c, .int .u8 tu, .bool true]) (by simp [results, Tryz.results188, go_sem]) rfl ⟨rfl, unhide HB⟩
set_option maxHeartbeats 4000000 in
set_option maxRecDepth 100000 in
theorem kind_no {op : Int} (HF : Cm 190 #[.int .i64 op] (.tuple #[.agg #[.int .i64 0, .int .i64 0, .int .i64 0, .int .u8 0], .int .i64 0, .bool false])) : Cm 188 #[.int .i64 op] (.tuple #[.int .u8 0, .int .i64 0, .int .u8 0, .bool false]) := by
  refine hide (fun W m => ?_)
  have HM := hide m
  clear m
  have HB := hide (Below.refl W.heap.size W)
  go_enter Tryz.func188, Tryz.ntmps188
  go_wp2_with fail
  refine (unhide HF _ (unhide HM)).mono ?_
  rintro _ w1 ⟨rfl, hb⟩
  have HB := hide (bthen (unhide HB) hb)
  have HM := hide ((unhide HM).below hb)
  clear hb
  have HB := hide (balloc (unhide HB) (.cells #[.int .i64 0, .int .i64 0, .int .i64 0, .int .u8 0] 262))
  go_wp2_with fail
  exact bodyPost_ret (v := .tuple #[.int .u8 0, .int .i64 0, .int .u8 0, .bool false]) (by simp [results, Tryz.results188, go_sem]) rfl ⟨rfl, unhide HB⟩
end Go.Proofs.YtjoonmpjcophnaaGreatDoor
namespace Go.Proofs.YtjoonmpjcophnaaGreatDoor
open Go.RowKit

/-- What Kind answers. -/
def Kn (op ti c tu : Int) : Prop := Cm 188 #[.int .i64 op] (.tuple #[.int .u8 ti, .int .i64 c, .int .u8 tu, .bool true])
theorem kn_0 {op : Int} (h0 : 69 ≤ op) (h1 : op < 80) : Kn op 127 (opn 0 (op - 69)) 127 := kind_w (find_0 h0 h1) (types_0 _ _ _ _).m (opn_w (by decide))
theorem kn_1 {op : Int} (h0 : 80 ≤ op) (h1 : op < 91) : Kn op 126 (opn 0 (op - 80)) 127 := kind_w (find_1 h0 h1) (types_0 _ _ _ _).m (opn_w (by decide))
theorem kn_2 {op : Int} (h0 : 91 ≤ op) (h1 : op < 97) : Kn op 125 (opn 1 (op - 91)) 127 := kind_w (find_2 h0 h1) (types_1 _ _ _ _).m (opn_w (by decide))
theorem kn_3 {op : Int} (h0 : 97 ≤ op) (h1 : op < 103) : Kn op 124 (opn 1 (op - 97)) 127 := kind_w (find_3 h0 h1) (types_1 _ _ _ _).m (opn_w (by decide))
theorem kn_4 {op : Int} (h0 : 103 ≤ op) (h1 : op < 121) : Kn op 127 (opn 2 (op - 103)) 127 := kind_w (find_4 h0 h1) (types_2 _ _ _ _).m (opn_w (by decide))
theorem kn_5 {op : Int} (h0 : 121 ≤ op) (h1 : op < 139) : Kn op 126 (opn 2 (op - 121)) 126 := kind_w (find_5 h0 h1) (types_2 _ _ _ _).m (opn_w (by decide))
theorem kn_6 {op : Int} (h0 : 139 ≤ op) (h1 : op < 153) : Kn op 125 (opn 3 (op - 139)) 125 := kind_w (find_6 h0 h1) (types_3 _ _ _ _).m (opn_w (by decide))
theorem kn_7 {op : Int} (h0 : 153 ≤ op) (h1 : op < 167) : Kn op 124 (opn 3 (op - 153)) 124 := kind_w (find_7 h0 h1) (types_3 _ _ _ _).m (opn_w (by decide))
theorem kn_8 {op ti tu : Int} {k : Nat} (hx : cL[k * 2]? = some (.int .u8 ti)) (hy : cL[k * 2 + 1]? = some (.int .u8 tu)) (h : op - 167 = (k : Int)) (hk : k < 25) : Kn op ti 1 tu := by
  have HF := find_8 (op := op) (by omega) (by omega)
  rw [h] at HF
  exact kind_w HF (types_4 _ _ _ hk hx hy) (opn_w (by decide))
theorem kn_9 {op ti tu : Int} {k : Nat} (hx : sL[k * 2]? = some (.int .u8 ti)) (hy : sL[k * 2 + 1]? = some (.int .u8 tu)) (h : op - 64512 = (k : Int)) (hk : k < 8) : Kn op ti 1 tu := by
  have HF := find_9 (op := op) (by omega) (by omega)
  rw [h] at HF
  exact kind_w HF (types_5 _ _ _ hk hx hy) (opn_w (by decide))
end Go.Proofs.YtjoonmpjcophnaaGreatDoor
namespace Go.Proofs.YtjoonmpjcophnaaGreatDoor
open Go.RowKit

/-- The numeric opcodes. -/
def numB (op : Int) : Bool := decide (69 ≤ op ∧ op < 192 ∨ 64512 ≤ op ∧ op < 64520)
def cN : List Int := [126, 127, 125, 127, 125, 127, 124, 127, 124, 127, 127, 126, 127, 126, 125, 126, 125, 126, 124, 126, 124, 126, 127, 125, 127, 125, 126, 125, 126, 125, 124, 125, 127, 124, 127, 124, 126, 124, 126, 124, 125, 124, 125, 127, 124, 126, 127, 125, 126, 124]
def sN : List Int := [125, 127, 125, 127, 124, 127, 124, 127, 125, 126, 125, 126, 124, 126, 124, 126]
theorem cL_at (j : Nat) (h : j < 50) : cL[j]? = some (.int .u8 (cN.getD j 0)) := by
  rw [show cL = cN.map (fun n : Int => Value.int .u8 n) from rfl, List.getElem?_map, get_at cN 0 j h]
  rfl
theorem sL_at (j : Nat) (h : j < 16) : sL[j]? = some (.int .u8 (sN.getD j 0)) := by
  rw [show sL = sN.map (fun n : Int => Value.int .u8 n) from rfl, List.getElem?_map, get_at sN 0 j h]
  rfl
/-- What a numeric opcode takes, and what it answers. -/
def kT (op : Int) : Int × Int :=
  if op < 69 then (0, 0) else if op < 80 then (127, 127) else if op < 91 then (126, 127) else if op < 97 then (125, 127) else if op < 103 then (124, 127) else if op < 121 then (127, 127) else if op < 139 then (126, 126) else if op < 153 then (125, 125) else if op < 167 then (124, 124)
  else if op < 192 then (cN.getD ((op - 167).toNat * 2) 0, cN.getD ((op - 167).toNat * 2 + 1) 0) else if op < 64512 then (0, 0) else if op < 64520 then (sN.getD ((op - 64512).toNat * 2) 0, sN.getD ((op - 64512).toNat * 2 + 1) 0) else (0, 0)
theorem kind_any (op : Int) (hm : op ≤ 9223372036854775807) : ∃ c, Cm 188 #[.int .i64 op] (.tuple #[.int .u8 (kT op).1, .int .i64 c, .int .u8 (kT op).2, .bool (numB op)]) := by
  by_cases l0 : op < 69
  · refine ⟨0, ?_⟩
    rw [show numB op = false by unfold numB; simp; omega, show kT op = (0, 0) by unfold kT; rw [if_pos l0]]
    exact kind_no (find_lo l0)
  by_cases l1 : op < 80
  · refine ⟨opn 0 (op - 69), ?_⟩
    rw [show numB op = true by unfold numB; simp; omega, show kT op = (127, 127) by unfold kT; rw [if_neg l0, if_pos l1]]
    exact kn_0 (by omega) l1
  by_cases l2 : op < 91
  · refine ⟨opn 0 (op - 80), ?_⟩
    rw [show numB op = true by unfold numB; simp; omega, show kT op = (126, 127) by unfold kT; rw [if_neg l0, if_neg l1, if_pos l2]]
    exact kn_1 (by omega) l2
  by_cases l3 : op < 97
  · refine ⟨opn 1 (op - 91), ?_⟩
    rw [show numB op = true by unfold numB; simp; omega, show kT op = (125, 127) by unfold kT; rw [if_neg l0, if_neg l1, if_neg l2, if_pos l3]]
    exact kn_2 (by omega) l3
  by_cases l4 : op < 103
  · refine ⟨opn 1 (op - 97), ?_⟩
    rw [show numB op = true by unfold numB; simp; omega, show kT op = (124, 127) by unfold kT; rw [if_neg l0, if_neg l1, if_neg l2, if_neg l3, if_pos l4]]
    exact kn_3 (by omega) l4
  by_cases l5 : op < 121
  · refine ⟨opn 2 (op - 103), ?_⟩
    rw [show numB op = true by unfold numB; simp; omega, show kT op = (127, 127) by unfold kT; rw [if_neg l0, if_neg l1, if_neg l2, if_neg l3, if_neg l4, if_pos l5]]
    exact kn_4 (by omega) l5
  by_cases l6 : op < 139
  · refine ⟨opn 2 (op - 121), ?_⟩
    rw [show numB op = true by unfold numB; simp; omega, show kT op = (126, 126) by unfold kT; rw [if_neg l0, if_neg l1, if_neg l2, if_neg l3, if_neg l4, if_neg l5, if_pos l6]]
    exact kn_5 (by omega) l6
  by_cases l7 : op < 153
  · refine ⟨opn 3 (op - 139), ?_⟩
    rw [show numB op = true by unfold numB; simp; omega, show kT op = (125, 125) by unfold kT; rw [if_neg l0, if_neg l1, if_neg l2, if_neg l3, if_neg l4, if_neg l5, if_neg l6, if_pos l7]]
    exact kn_6 (by omega) l7
  by_cases l8 : op < 167
  · refine ⟨opn 3 (op - 153), ?_⟩
    rw [show numB op = true by unfold numB; simp; omega, show kT op = (124, 124) by unfold kT; rw [if_neg l0, if_neg l1, if_neg l2, if_neg l3, if_neg l4, if_neg l5, if_neg l6, if_neg l7, if_pos l8]]
    exact kn_7 (by omega) l8
  by_cases l9 : op < 192
  · refine ⟨1, ?_⟩
    rw [show numB op = true by unfold numB; simp; omega, show kT op = (cN.getD ((op - 167).toNat * 2) 0, cN.getD ((op - 167).toNat * 2 + 1) 0) by unfold kT; rw [if_neg l0, if_neg l1, if_neg l2, if_neg l3, if_neg l4, if_neg l5, if_neg l6, if_neg l7, if_neg l8, if_pos l9]]
    exact kn_8 (k := (op - 167).toNat) (cL_at _ (by omega)) (cL_at _ (by omega)) (by omega) (by omega)
  by_cases l10 : op < 64512
  · refine ⟨0, ?_⟩
    rw [show numB op = false by unfold numB; simp; omega, show kT op = (0, 0) by unfold kT; rw [if_neg l0, if_neg l1, if_neg l2, if_neg l3, if_neg l4, if_neg l5, if_neg l6, if_neg l7, if_neg l8, if_neg l9, if_pos l10]]
    exact kind_no (find_mi (by omega) l10)
  by_cases l11 : op < 64520
  · refine ⟨1, ?_⟩
    rw [show numB op = true by unfold numB; simp; omega, show kT op = (sN.getD ((op - 64512).toNat * 2) 0, sN.getD ((op - 64512).toNat * 2 + 1) 0) by unfold kT; rw [if_neg l0, if_neg l1, if_neg l2, if_neg l3, if_neg l4, if_neg l5, if_neg l6, if_neg l7, if_neg l8, if_neg l9, if_neg l10, if_pos l11]]
    exact kn_9 (k := (op - 64512).toNat) (sL_at _ (by omega)) (sL_at _ (by omega)) (by omega) (by omega)
  refine ⟨0, ?_⟩
  rw [show numB op = false by unfold numB; simp; omega, show kT op = (0, 0) by unfold kT; rw [if_neg l0, if_neg l1, if_neg l2, if_neg l3, if_neg l4, if_neg l5, if_neg l6, if_neg l7, if_neg l8, if_neg l9, if_neg l10, if_neg l11]]
  exact kind_no (find_hi (by omega) hm)
end Go.Proofs.YtjoonmpjcophnaaGreatDoor
namespace Go.Proofs.YtjoonmpjcophnaaGreatDoor
open Go.RowKit

theorem imm_cod (k : Nat) (hk : k < 26) : Cm 172 #[.int .i64 (codL.getD k 0)] (.tuple #[.int .i64 (immL.getD k 0), .bool true]) :=
  match k, hk with
  | 0, _ => imm_0.m
  | 1, _ => imm_1.m
  | 2, _ => imm_2.m
  | 3, _ => imm_3.m
  | 4, _ => imm_4.m
  | 5, _ => imm_5.m
  | 6, _ => imm_11.m
  | 7, _ => imm_12.m
  | 8, _ => imm_13.m
  | 9, _ => imm_14.m
  | 10, _ => imm_15.m
  | 11, _ => imm_16.m
  | 12, _ => imm_17.m
  | 13, _ => imm_26.m
  | 14, _ => imm_27.m
  | 15, _ => imm_32.m
  | 16, _ => imm_33.m
  | 17, _ => imm_34.m
  | 18, _ => imm_35.m
  | 19, _ => imm_36.m
  | 20, _ => imm_63.m
  | 21, _ => imm_64.m
  | 22, _ => imm_n 65 8 true rfl rfl rfl rfl rfl rfl rfl rfl rfl rfl rfl rfl rfl rfl rfl rfl rfl rfl rfl rfl rfl rfl immv_65.m
  | 23, _ => imm_n 66 9 true rfl rfl rfl rfl rfl rfl rfl rfl rfl rfl rfl rfl rfl rfl rfl rfl rfl rfl rfl rfl rfl rfl immv_66.m
  | 24, _ => imm_n 67 10 true rfl rfl rfl rfl rfl rfl rfl rfl rfl rfl rfl rfl rfl rfl rfl rfl rfl rfl rfl rfl rfl rfl immv_67.m
  | 25, _ => imm_n 68 11 true rfl rfl rfl rfl rfl rfl rfl rfl rfl rfl rfl rfl rfl rfl rfl rfl rfl rfl rfl rfl rfl rfl immv_68.m
  | _ + 26, h => absurd h (by omega)
theorem ne_c {op c : Int} (h : c ≠ op) : (op == c) = false := by simp; exact fun e => h e.symm
/-- What stands behind an opcode, and whether it is one. -/
def imB (op : Int) : Bool := codL.contains op || decide (40 ≤ op ∧ op ≤ 62) || numB op
def imI (op : Int) : Int := if codL.contains op then immL.getD (codL.idxOf op) 0 else if 40 ≤ op ∧ op ≤ 62 then 6 else 0
theorem cod_idx : ∀ k, k < 26 → codL.contains (codL.getD k 0) = true ∧ codL.idxOf (codL.getD k 0) = k := by decide
theorem cod_no {op : Int} (h : ∀ j, j < 26 → codL.getD j 0 ≠ op) : codL.contains op = false := by
  cases hc : codL.contains op with
  | false => rfl
  | true =>
    have hm : op ∈ codL := by simpa using hc
    obtain ⟨j, hj, he⟩ := List.mem_iff_getElem.1 hm
    exact absurd (by rw [List.getD_eq_getElem?_getD, List.getElem?_eq_getElem hj]; exact he) (h j hj)
theorem imm_any (op : Int) (hm : op ≤ 9223372036854775807) : Cm 172 #[.int .i64 op] (.tuple #[.int .i64 (imI op), .bool (imB op)]) := by
  rcases first_at op 26 with ⟨k, h1, rfl, h3⟩ | h
  · have HI := imm_cod k h1
    obtain ⟨c1, c2⟩ := cod_idx k h1
    rw [show imI (codL.getD k 0) = immL.getD k 0 by unfold imI; rw [if_pos c1, c2], show imB (codL.getD k 0) = true by unfold imB; rw [c1]; rfl]
    exact HI
  · have c := cod_no h
    have n0 : (0 : Int) ≠ op := h 0 (by omega)
    have n1 : (1 : Int) ≠ op := h 1 (by omega)
    have n2 : (2 : Int) ≠ op := h 2 (by omega)
    have n3 : (3 : Int) ≠ op := h 3 (by omega)
    have n4 : (4 : Int) ≠ op := h 4 (by omega)
    have n5 : (5 : Int) ≠ op := h 5 (by omega)
    have n11 : (11 : Int) ≠ op := h 6 (by omega)
    have n12 : (12 : Int) ≠ op := h 7 (by omega)
    have n13 : (13 : Int) ≠ op := h 8 (by omega)
    have n14 : (14 : Int) ≠ op := h 9 (by omega)
    have n15 : (15 : Int) ≠ op := h 10 (by omega)
    have n16 : (16 : Int) ≠ op := h 11 (by omega)
    have n17 : (17 : Int) ≠ op := h 12 (by omega)
    have n26 : (26 : Int) ≠ op := h 13 (by omega)
    have n27 : (27 : Int) ≠ op := h 14 (by omega)
    have n32 : (32 : Int) ≠ op := h 15 (by omega)
    have n33 : (33 : Int) ≠ op := h 16 (by omega)
    have n34 : (34 : Int) ≠ op := h 17 (by omega)
    have n35 : (35 : Int) ≠ op := h 18 (by omega)
    have n36 : (36 : Int) ≠ op := h 19 (by omega)
    have n63 : (63 : Int) ≠ op := h 20 (by omega)
    have n64 : (64 : Int) ≠ op := h 21 (by omega)
    have n65 : (65 : Int) ≠ op := h 22 (by omega)
    have n66 : (66 : Int) ≠ op := h 23 (by omega)
    have n67 : (67 : Int) ≠ op := h 24 (by omega)
    have n68 : (68 : Int) ≠ op := h 25 (by omega)
    by_cases g : 40 ≤ op ∧ op ≤ 62
    · rw [show imI op = 6 by unfold imI; rw [c, if_pos g]; rfl, show imB op = true by unfold imB; rw [c]; simp [g]]
      exact imm_n op 6 true (ne_c n0) (ne_c n1) (ne_c n2) (ne_c n3) (ne_c n4) (ne_c n5) (ne_c n11) (ne_c n12) (ne_c n13) (ne_c n14) (ne_c n15) (ne_c n16) (ne_c n17) (ne_c n26) (ne_c n27) (ne_c n32) (ne_c n33) (ne_c n34) (ne_c n35) (ne_c n36) (ne_c n63) (ne_c n64) (immv_a op g.1 g.2).m
    · obtain ⟨c', HK⟩ := kind_any op hm
      rw [show imI op = 0 by unfold imI; rw [c, if_neg g]; rfl, show imB op = numB op by unfold imB; rw [c]; simp [g]]
      exact imm_n op 0 (numB op) (ne_c n0) (ne_c n1) (ne_c n2) (ne_c n3) (ne_c n4) (ne_c n5) (ne_c n11) (ne_c n12) (ne_c n13) (ne_c n14) (ne_c n15) (ne_c n16) (ne_c n17) (ne_c n26) (ne_c n27) (ne_c n32) (ne_c n33) (ne_c n34) (ne_c n35) (ne_c n36) (ne_c n63) (ne_c n64) (immv_n op _ _ _ _ (by omega) HK)
end Go.Proofs.YtjoonmpjcophnaaGreatDoor
namespace Go.Proofs.YtjoonmpjcophnaaGreatDoor

/-- One behind the other; a failure stays where it was met. -/
def bd {A B : Type} (z : B) (f : Rr A) (g : A → Rr B) : Rr B := fun l =>
  if (f l).2.2 = 0 then ((g (f l).1 (l.drop (f l).2.1)).1, (f l).2.1 + (g (f l).1 (l.drop (f l).2.1)).2.1, (g (f l).1 (l.drop (f l).2.1)).2.2) else (z, (f l).2.1, (f l).2.2)
theorem bd_ok {A B : Type} {z : B} {f : Rr A} {g : A → Rr B} {l : List Int} (h : (f l).2.2 = 0) : bd z f g l = ((g (f l).1 (l.drop (f l).2.1)).1, (f l).2.1 + (g (f l).1 (l.drop (f l).2.1)).2.1, (g (f l).1 (l.drop (f l).2.1)).2.2) := if_pos h
theorem bd_no {A B : Type} {z : B} {f : Rr A} {g : A → Rr B} {l : List Int} (h : (f l).2.2 ≠ 0) : bd z f g l = (z, (f l).2.1, (f l).2.2) := if_neg h
theorem bd_congr {A B : Type} {z : B} {f : Rr A} {g g' : A → Rr B} {l : List Int} (h : (f l).2.2 = 0 → g (f l).1 (l.drop (f l).2.1) = g' (f l).1 (l.drop (f l).2.1)) : bd z f g l = bd z f g' l := by
  by_cases h1 : (f l).2.2 = 0
  · rw [bd_ok h1, bd_ok h1, h h1]
  · rw [bd_no h1, bd_no h1]

theorem bd_congr2 {A B : Type} {z : B} {f f' : Rr A} {g g' : A → Rr B} {l : List Int} (hf : f l = f' l) (h : (f l).2.2 = 0 → g (f l).1 (l.drop (f l).2.1) = g' (f l).1 (l.drop (f l).2.1)) : bd z f g l = bd z f' g' l := by
  rw [bd_congr h]
  unfold bd
  rw [hf]

/-- What comes of reading f from place k: y, if nothing fails, and the place and the failure then. -/
structure Rd {A : Type} (f : Rr A) (xs : List Int) (k : Nat) (e : Int) (y : A) (k' : Nat) (e' : Int) : Prop where
  dead : e ≠ 0 → k' = k ∧ e' = e
  live : e = 0 → k' = k + (f (xs.drop k)).2.1 ∧ e' = (f (xs.drop k)).2.2
  val : e = 0 → e' = 0 → y = (f (xs.drop k)).1
theorem Rd.lift {A : Type} {f : Rr A} {z : A} {xs : List Int} {k : Nat} {e : Int} : Rd f xs k e (lift f z xs k e).1 (lift f z xs k e).2.1 (lift f z xs k e).2.2 := by
  by_cases h : e = 0
  · subst h
    rw [lift_0]
    exact ⟨fun h => absurd rfl h, fun _ => ⟨rfl, rfl⟩, fun _ _ => rfl⟩
  · rw [lift_e _ _ _ _ h]
    exact ⟨fun _ => ⟨rfl, rfl⟩, fun k => absurd k h, fun k => absurd k h⟩
theorem Rd.err {A : Type} {f : Rr A} {xs : List Int} {k : Nat} {e : Int} (y : A) (h : e ≠ 0) : Rd f xs k e y k e := ⟨fun _ => ⟨rfl, rfl⟩, fun k => absurd k h, fun k => absurd k h⟩
theorem Rd.any {A : Type} {f : Rr A} {xs : List Int} {k k' : Nat} {e e' : Int} {y : A} (h : Rd f xs k e y k' e') (y' : A) (he : e' ≠ 0) : Rd f xs k e y' k' e' := ⟨h.dead, h.live, fun _ k => absurd k he⟩
theorem Rd.zero {A : Type} {f : Rr A} {xs : List Int} {k k' : Nat} {e e' : Int} {y : A} (h : Rd f xs k e y k' e') (he : e' = 0) : e = 0 := by
  apply Decidable.byContradiction
  intro hn
  exact hn ((h.dead hn).2.symm.trans he)
theorem Rd.giv {A : Type} (y : A) (xs : List Int) (k : Nat) (e : Int) : Rd (giv y) xs k e y k e := ⟨fun _ => ⟨rfl, rfl⟩, fun h => ⟨rfl, h⟩, fun _ _ => rfl⟩
theorem Rd.bd {A B : Type} {z : B} {f : Rr A} {g : A → Rr B} {xs : List Int} {k k1 k2 : Nat} {e e1 e2 : Int} {x : A} {y : B} (h1 : Rd f xs k e x k1 e1) (h2 : Rd (g x) xs k1 e1 y k2 e2) : Rd (bd z f g) xs k e y k2 e2 := by
  refine ⟨fun h => ?_, fun h => ?_, fun h h' => ?_⟩
  · obtain ⟨rfl, rfl⟩ := h1.dead h
    exact h2.dead h
  · subst h
    obtain ⟨a1, a2⟩ := h1.live rfl
    by_cases h : e1 = 0
    · subst h
      rw [bd_ok a2.symm]
      obtain ⟨b1, b2⟩ := h2.live rfl
      rw [a1, ← List.drop_drop, h1.val rfl rfl] at b1 b2
      exact ⟨by rw [b1, Nat.add_assoc], b2⟩
    · obtain ⟨rfl, rfl⟩ := h2.dead h
      rw [bd_no (by rw [← a2]; exact h)]
      exact ⟨a1, a2⟩
  · subst h
    obtain ⟨a1, a2⟩ := h1.live rfl
    obtain rfl := h2.zero h'
    rw [bd_ok a2.symm, h2.val rfl h', a1, ← List.drop_drop, h1.val rfl rfl]
theorem Rd.of_eq {A : Type} {f g : Rr A} {xs : List Int} {k k' : Nat} {e e' : Int} {y : A} (h : Rd f xs k e y k' e') (he : g (xs.drop k) = f (xs.drop k)) : Rd g xs k e y k' e' :=
  ⟨h.dead, fun q => by rw [he]; exact h.live q, fun q q' => by rw [he]; exact h.val q q'⟩
/-- An instruction's own parts, and instructions. -/
structure Hd where
  op : Int
  ty : Int
  a : Int
  b : Int
  bits : Int
  list : List Int
  has : Bool
inductive Fo
  | nil
  | cons (h : Hd) (t e r : Fo)
def Fo.len : Fo → Nat
  | .nil => 0
  | .cons _ _ _ r => r.len + 1
def Fo.app : Fo → Fo → Fo
  | .nil, u => u
  | .cons h t e r, u => .cons h t e (r.app u)
def Fo.size : Fo → Nat
  | .nil => 0
  | .cons _ t e r => 1 + t.size + e.size + r.size
theorem Fo.app_nil : ∀ T : Fo, T.app .nil = T
  | .nil => rfl
  | .cons h t e r => by rw [Fo.app, r.app_nil]
theorem Fo.app_app : ∀ T U V : Fo, (T.app U).app V = T.app (U.app V)
  | .nil, _, _ => rfl
  | .cons h t e r, U, V => by rw [Fo.app, Fo.app, Fo.app, r.app_app]
theorem Fo.len_app : ∀ T U : Fo, (T.app U).len = T.len + U.len
  | .nil, U => by simp [Fo.app, Fo.len]
  | .cons h t e r, U => by rw [Fo.app, Fo.len, Fo.len, r.len_app]; omega
theorem Fo.len_le : ∀ T : Fo, T.len ≤ T.size
  | .nil => Nat.le_refl _
  | .cons h t e r => by have := r.len_le; rw [Fo.len, Fo.size]; omega
def hd0 (op : Int) : Hd := ⟨op, 0, 0, 0, 0, [], false⟩

/-- The number behind fc. -/
def rFc : Rr Int := bd 0 rB fun _ => bd 0 (rU 32) fun n => tst (decide (n ≤ 7)) (64512 + n) 0 108
/-- The next opcode. -/
def rOp (sat may : Bool) (deep : Nat) : Rr Int := fun l => match l with
  | [] => (0, 0, 100)
  | b :: _ => if (b == 252 && sat) = true then rFc l else if (!imB b || (b == 5 && !may)) = true then (0, 0, 108) else if imI b = 1 ∧ deep = 64 then (0, 0, 3) else (b, 1, 0)
/-- A byte 0. -/
def r0 : Rr Unit := bd () rB fun b => tst (b == 0) () () 107
/-- So many labels. -/
def repU : Nat → Rr (List Int)
  | 0 => giv []
  | n + 1 => bd [] (rU 32) fun x => bd [] (repU n) fun L => giv (x :: L)
def rLab : Rr (List Int) := bd [] rCount fun n => repU n.toNat
abbrev In := Hd × Fo × Fo
def inz : In := (hd0 0, .nil, .nil)
def rBlk (S : Nat → Bool → Rr (Fo × Bool)) (deep : Nat) (op : Int) : Rr In :=
  bd inz rResults fun ty => bd inz (S (deep + 1) (op == 4)) fun s =>
    if s.2 then bd inz (S (deep + 1) false) fun u => giv (⟨op, ty, 0, 0, 0, [], true⟩, s.1, u.1) else giv (⟨op, ty, 0, 0, 0, [], false⟩, s.1, .nil)
/-- What stands behind an opcode. -/
def rPlain (op : Int) : Rr In :=
  if imI op = 2 ∨ imI op = 4 then bd inz (rU 32) fun a => giv ({ hd0 op with a := a }, .nil, .nil)
  else if imI op = 3 then bd inz rLab fun L => bd inz (rU 32) fun a => giv ({ hd0 op with list := L, a := a }, .nil, .nil)
  else if imI op = 5 then bd inz (rU 32) fun a => bd inz r0 fun _ => giv ({ hd0 op with a := a }, .nil, .nil)
  else if imI op = 6 then bd inz (rU 32) fun a => bd inz (rU 32) fun b => giv ({ hd0 op with a := a, b := b }, .nil, .nil)
  else if imI op = 7 then bd inz r0 fun _ => giv (hd0 op, .nil, .nil)
  else if imI op = 8 then bd inz rS32 fun x => giv ({ hd0 op with bits := x }, .nil, .nil)
  else if imI op = 9 then bd inz (rS 64) fun x => giv ({ hd0 op with bits := x }, .nil, .nil)
  else if imI op = 10 then bd inz (rL 4) fun x => giv ({ hd0 op with bits := x }, .nil, .nil)
  else if imI op = 11 then bd inz (rL 8) fun x => giv ({ hd0 op with bits := x }, .nil, .nil)
  else giv (hd0 op, .nil, .nil)
def rRest (S : Nat → Bool → Rr (Fo × Bool)) (deep : Nat) (op : Int) : Rr In := if imI op = 1 then rBlk S deep op else rPlain op
/-- Instructions up to the mark that ends them, in so many blocks; whether it was an else. -/
def sqF (sat : Bool) : Nat → Nat → Bool → Rr (Fo × Bool)
  | 0, _, _ => fun _ => ((.nil, false), 0, 100)
  | n + 1, deep, may => bd (.nil, false) (rOp sat may deep) fun op => if op = 5 ∨ op = 11 then giv (.nil, op == 5) else bd (.nil, false) (rRest (sqF sat n) deep op) fun i => bd (.nil, false) (sqF sat n deep may) fun s => giv (.cons i.1 i.2.1 i.2.2 s.1, s.2)

/-- What is good of a reading. -/
structure Gq {A : Type} (f : Rr A) : Prop where
  len : ∀ l, (f l).2.1 ≤ l.length
  loc : ∀ a b, (f a).2.2 ≠ 100 → f (a ++ b) = f a
  cut : ∀ l k, (f l).2.2 = 0 → k < (f l).2.1 → (f (l.take k)).2.2 = 100
  own : ∀ l k, (f l).2.2 = 0 → (f l).2.1 ≤ k → f (l.take k) = f l
theorem gq_giv {A : Type} (x : A) : Gq (giv x) := ⟨fun _ => Nat.zero_le _, fun _ _ _ => rfl, fun _ _ _ h => absurd h (Nat.not_lt_zero _), fun _ _ _ _ => rfl⟩
theorem gq_tst {A : Type} (t : Bool) (x z : A) (er : Int) : Gq (tst t x z er) := by
  cases t
  · exact ⟨fun _ => Nat.zero_le _, fun _ _ _ => rfl, fun _ _ _ h => absurd h (Nat.not_lt_zero _), fun _ _ _ _ => rfl⟩
  · exact ⟨fun _ => Nat.zero_le _, fun _ _ _ => rfl, fun _ _ _ h => absurd h (Nat.not_lt_zero _), fun _ _ _ _ => rfl⟩
theorem gq_100 {A : Type} (z : A) : Gq (fun _ => (z, 0, 100) : Rr A) := ⟨fun _ => Nat.zero_le _, fun _ _ h => absurd rfl h, fun _ _ _ h => absurd h (Nat.not_lt_zero _), fun _ _ _ _ => rfl⟩
theorem drop_take' (l : List Int) (k n : Nat) : (l.take k).drop n = (l.drop n).take (k - n) := by rw [List.drop_take]
theorem Gq.bd {A B : Type} {z : B} {f : Rr A} {g : A → Rr B} (hf : Gq f) (hg : ∀ x, Gq (g x)) : Gq (bd z f g) := by
  constructor
  · intro l
    by_cases h : (f l).2.2 = 0
    · rw [bd_ok h]
      have a1 := hf.len l
      have a2 := (hg (f l).1).len (l.drop (f l).2.1)
      rw [List.length_drop] at a2
      show (f l).2.1 + _ ≤ _
      omega
    · rw [bd_no h]; exact hf.len l
  · intro a b h
    have key : (f a).2.2 ≠ 100 := by
      intro h1
      refine h ?_
      rw [bd_no (by rw [h1]; decide)]
      exact h1
    by_cases h1 : (f a).2.2 = 0
    · rw [bd_ok h1] at h ⊢
      have hl := hf.loc a b key
      rw [bd_ok (by rw [hl]; exact h1), hl, drop_app a b _ (hf.len a), (hg _).loc _ b h]
    · rw [bd_no h1]
      have hl := hf.loc a b key
      rw [bd_no (by rw [hl]; exact h1), hl]
  · intro l k h hk
    have h1 : (f l).2.2 = 0 := by
      apply Decidable.byContradiction
      intro hn
      rw [bd_no hn] at h
      exact hn h
    rw [bd_ok h1] at h hk
    by_cases hk1 : k < (f l).2.1
    · have hc := hf.cut l k h1 hk1
      rw [bd_no (by rw [hc]; decide)]
      exact hc
    · have ho := hf.own l k h1 (Nat.le_of_not_lt hk1)
      rw [bd_ok (by rw [ho]; exact h1), ho, drop_take']
      exact (hg _).cut _ _ h (by simp only at hk; omega)
  · intro l k h hk
    have h1 : (f l).2.2 = 0 := by
      apply Decidable.byContradiction
      intro hn
      rw [bd_no hn] at h
      exact hn h
    rw [bd_ok h1] at h hk ⊢
    simp only at h hk
    have ho := hf.own l k h1 (by omega)
    rw [bd_ok (by rw [ho]; exact h1), ho, drop_take', (hg _).own _ _ h (by omega)]
theorem Gq.bnd {A B : Type} {z : B} {f : Rr A} {g : A → Rr B} (hf : Gq f) (hg : ∀ x, Gq (g x)) : Gq (bnd z f g) := by
  have hb := Gq.bd (z := z) hf hg
  have key : ∀ l, (Go.Proofs.YtjoonmpjcophnaaGreatDoor.bnd z f g l).2.2 = (Go.Proofs.YtjoonmpjcophnaaGreatDoor.bd z f g l).2.2 ∧ ((Go.Proofs.YtjoonmpjcophnaaGreatDoor.bd z f g l).2.2 = 0 → Go.Proofs.YtjoonmpjcophnaaGreatDoor.bnd z f g l = Go.Proofs.YtjoonmpjcophnaaGreatDoor.bd z f g l) ∧ ((Go.Proofs.YtjoonmpjcophnaaGreatDoor.bd z f g l).2.2 ≠ 0 → Go.Proofs.YtjoonmpjcophnaaGreatDoor.bnd z f g l = (z, 0, (Go.Proofs.YtjoonmpjcophnaaGreatDoor.bd z f g l).2.2)) := by
    intro l
    unfold Go.Proofs.YtjoonmpjcophnaaGreatDoor.bnd
    by_cases h1 : (f l).2.2 = 0
    · rw [bd_ok h1, if_pos h1]
      by_cases h2 : (g (f l).1 (l.drop (f l).2.1)).2.2 = 0
      · rw [if_pos h2]; exact ⟨h2.symm, fun _ => by simp only [h2], fun h => absurd h2 h⟩
      · rw [if_neg h2]; exact ⟨rfl, fun h => absurd h h2, fun _ => rfl⟩
    · rw [bd_no h1, if_neg h1]
      exact ⟨rfl, fun h => absurd h h1, fun _ => rfl⟩
  constructor
  · intro l
    by_cases h : (Go.Proofs.YtjoonmpjcophnaaGreatDoor.bd z f g l).2.2 = 0
    · rw [(key l).2.1 h]; exact hb.len l
    · rw [(key l).2.2 h]; exact Nat.zero_le _
  · intro a b h
    rw [(key a).1] at h
    have hl := hb.loc a b h
    by_cases h0 : (Go.Proofs.YtjoonmpjcophnaaGreatDoor.bd z f g a).2.2 = 0
    · rw [(key a).2.1 h0, (key _).2.1 (by rw [hl]; exact h0), hl]
    · rw [(key a).2.2 h0, (key _).2.2 (by rw [hl]; exact h0), hl]
  · intro l k h hk
    rw [(key l).1] at h
    rw [(key l).2.1 h] at hk
    rw [(key _).1]
    exact hb.cut l k h hk
  · intro l k h hk
    rw [(key l).1] at h
    rw [(key l).2.1 h] at hk ⊢
    have ho := hb.own l k h hk
    rw [(key _).2.1 (by rw [ho]; exact h), ho]
theorem gq_B : Gq rB := by
  constructor
  · exact gd_B.len
  · exact gd_B.loc
  · intro l k h hk
    cases l with
    | nil => exact absurd hk (Nat.not_lt_zero _)
    | cons x r =>
      have : k = 0 := by have : (rB (x :: r)).2.1 = 1 := rfl; omega
      subst this
      rfl
  · intro l k h hk
    cases l with
    | nil => rw [List.take_nil]
    | cons x r =>
      have h1 : (rB (x :: r)).2.1 = 1 := rfl
      obtain ⟨k, rfl⟩ : ∃ j, k = j + 1 := ⟨k - 1, by omega⟩
      rfl
theorem gq_L (n : Nat) : Gq (rL n) := by
  have key : ∀ l : List Int, (rL n l).2.2 = 0 → n ≤ l.length ∧ (rL n l).2.1 = n := by
    intro l h
    unfold rL at h ⊢
    by_cases h1 : n ≤ l.length
    · rw [if_pos h1]; exact ⟨h1, rfl⟩
    · rw [if_neg h1] at h; exact absurd h (by decide)
  constructor
  · exact (gd_L n).len
  · exact (gd_L n).loc
  · intro l k h hk
    obtain ⟨h1, h2⟩ := key l h
    unfold rL
    rw [if_neg (by rw [List.length_take]; omega)]
  · intro l k h hk
    obtain ⟨h1, h2⟩ := key l h
    unfold rL
    rw [if_pos h1, if_pos (by rw [List.length_take]; omega), List.take_take, Nat.min_eq_left (by omega)]
section
variable {V : Int → Int} {ok : Int → Nat → Bool}
theorem up_0 (x : Int) (t : Int × Nat × Nat) (h : (up x t).2.2 = 0) : t.2.2 = 0 ∧ (up x t).2.1 = t.2.1 + 1 := by
  unfold up at h ⊢
  by_cases k : t.2.2 = 0
  · rw [if_pos k]; exact ⟨k, rfl⟩
  · rw [if_neg k] at h; exact absurd h k
theorem rd_cut : ∀ (l : List Int) (n k : Nat), (rd V ok l n).2.2 = 0 → k < (rd V ok l n).2.1 → (rd V ok (l.take k) n).2.2 = 100
  | [], n, k, h, hk => absurd h (show ((100 : Nat) = 0) → False by decide)
  | x :: r, n, 0, h, hk => rfl
  | x :: r, n, k + 1, h, hk => by
    rw [List.take_succ_cons]
    by_cases h1 : x < 128
    · cases h2 : ok x n
      · rw [rd_wrong h1 h2] at hk; exact absurd hk (Nat.not_lt_zero _)
      · rw [rd_last h1 h2] at hk
        exact absurd hk (by simp)
    · by_cases h2 : n ≤ 7
      · rw [rd_long h1 h2] at hk; exact absurd hk (Nat.not_lt_zero _)
      · rw [rd_more h1 h2] at h hk ⊢
        obtain ⟨g1, g2⟩ := up_0 x _ h
        rw [g2] at hk
        have ih := rd_cut r (n - 7) k g1 (by omega)
        unfold up
        rw [if_neg (by rw [ih]; decide)]
        exact ih
theorem rd_own : ∀ (l : List Int) (n k : Nat), (rd V ok l n).2.2 = 0 → (rd V ok l n).2.1 ≤ k → rd V ok (l.take k) n = rd V ok l n
  | [], n, k, h, hk => by rw [List.take_nil]
  | x :: r, n, 0, h, hk => by
    exfalso
    by_cases h1 : x < 128
    · cases h2 : ok x n
      · rw [rd_wrong h1 h2] at h; exact absurd h (by simp)
      · rw [rd_last h1 h2] at hk
        exact absurd hk (by simp)
    · by_cases h2 : n ≤ 7
      · rw [rd_long h1 h2] at h; exact absurd h (by simp)
      · rw [rd_more h1 h2] at h hk
        have g2 := (up_0 x _ h).2
        omega
  | x :: r, n, k + 1, h, hk => by
    rw [List.take_succ_cons]
    by_cases h1 : x < 128
    · cases h2 : ok x n
      · rw [rd_wrong h1 h2, rd_wrong h1 h2]
      · rw [rd_last h1 h2, rd_last h1 h2]
    · by_cases h2 : n ≤ 7
      · rw [rd_long h1 h2, rd_long h1 h2]
      · rw [rd_more h1 h2] at h hk ⊢
        obtain ⟨g1, g2⟩ := up_0 x _ h
        rw [g2] at hk
        rw [rd_more h1 h2, rd_own r (n - 7) k g1 (by omega)]
end
theorem gq_U (b : Nat) : Gq (rU b) := by
  constructor
  · exact (gd_U b).len
  · exact (gd_U b).loc
  · intro l k h hk
    have h' : (rd VU okU l b).2.2 = 0 := by have : ((rd VU okU l b).2.2 : Int) = 0 := h; omega
    show ((rd VU okU (l.take k) b).2.2 : Int) = 100
    rw [rd_cut l b k h' hk]; rfl
  · intro l k h hk
    have h' : (rd VU okU l b).2.2 = 0 := by have : ((rd VU okU l b).2.2 : Int) = 0 := h; omega
    unfold rU
    rw [rd_own l b k h' hk]
theorem gq_S (b : Nat) : Gq (rS b) := by
  constructor
  · exact (gd_S b).len
  · exact (gd_S b).loc
  · intro l k h hk
    have h' : (rd VS okS l b).2.2 = 0 := by have : ((rd VS okS l b).2.2 : Int) = 0 := h; omega
    show ((rd VS okS (l.take k) b).2.2 : Int) = 100
    rw [rd_cut l b k h' hk]; rfl
  · intro l k h hk
    have h' : (rd VS okS l b).2.2 = 0 := by have : ((rd VS okS l b).2.2 : Int) = 0 := h; omega
    unfold rS
    rw [rd_own l b k h' hk]
theorem gq_S32 : Gq rS32 := (gq_S 32).bnd fun _ => gq_giv _
theorem gq_Count : Gq rCount := (gq_U 32).bnd fun _ => gq_tst _ _ _ _
theorem gq_Results : Gq rResults := (gq_B.bnd fun _ => gq_tst _ _ _ _).bnd fun _ => gq_giv _
theorem gq_Fc : Gq rFc := gq_B.bd fun _ => (gq_U 32).bd fun _ => gq_tst _ _ _ _
theorem gq_0 : Gq r0 := gq_B.bd fun _ => gq_tst _ _ _ _
theorem gq_rep : ∀ n, Gq (repU n)
  | 0 => gq_giv _
  | n + 1 => (gq_U 32).bd fun _ => (gq_rep n).bd fun _ => gq_giv _
theorem gq_Lab : Gq rLab := gq_Count.bd fun _ => gq_rep _
theorem rFc_pos {l : List Int} (h : (rFc l).2.2 = 0) : 1 ≤ (rFc l).2.1 := by
  unfold rFc at h ⊢
  have h1 : (rB l).2.2 = 0 := by
    apply Decidable.byContradiction
    intro hn
    rw [bd_no hn] at h
    exact hn h
  rw [bd_ok h1]
  cases l with
  | nil => exact absurd h1 (by decide)
  | cons x r =>
    have : (rB (x :: r)).2.1 = 1 := rfl
    simp only [this]
    omega
theorem rOp_cons (sat may : Bool) (deep : Nat) (b : Int) (r : List Int) : rOp sat may deep (b :: r) = if (b == 252 && sat) = true then rFc (b :: r) else if (!imB b || (b == 5 && !may)) = true then (0, 0, 108) else if imI b = 1 ∧ deep = 64 then (0, 0, 3) else (b, 1, 0) := rfl
theorem gq_Op (sat may : Bool) (deep : Nat) : Gq (rOp sat may deep) := by
  constructor
  · intro l
    cases l with
    | nil => exact Nat.le_refl _
    | cons b r =>
      rw [rOp_cons]
      split
      · exact gq_Fc.len _
      · split
        · exact Nat.zero_le _
        · split
          · exact Nat.zero_le _
          · show 1 ≤ r.length + 1; omega
  · intro a c h
    cases a with
    | nil => exact absurd rfl h
    | cons b r =>
      rw [List.cons_append]
      rw [rOp_cons] at h ⊢
      rw [rOp_cons]
      split
      · rename_i h1
        rw [if_pos h1] at h
        exact gq_Fc.loc (b :: r) c h
      · rfl
  · intro l k h hk
    cases l with
    | nil => exact absurd hk (Nat.not_lt_zero _)
    | cons b r =>
      cases k with
      | zero => rfl
      | succ k =>
        rw [List.take_succ_cons]
        rw [rOp_cons] at h hk ⊢
        split
        · rename_i h1
          rw [if_pos h1] at h hk
          exact gq_Fc.cut (b :: r) (k + 1) h hk
        · rename_i h1
          exfalso
          rw [if_neg h1] at hk
          split at hk
          · exact absurd hk (Nat.not_lt_zero _)
          · split at hk
            · exact absurd hk (Nat.not_lt_zero _)
            · exact absurd hk (by simp)
  · intro l k h hk
    cases l with
    | nil => rw [List.take_nil]
    | cons b r =>
      cases k with
      | zero =>
        exfalso
        rw [rOp_cons] at h hk
        split at hk
        · rename_i h1
          rw [if_pos h1] at h
          have := rFc_pos h
          omega
        · rename_i h1
          rw [if_neg h1] at h
          split at hk
          · rename_i h2; rw [if_pos h2] at h; exact absurd h (by decide)
          · rename_i h2
            rw [if_neg h2] at h
            split at hk
            · rename_i h3; rw [if_pos h3] at h; exact absurd h (by decide)
            · exact absurd hk (by simp)
      | succ k =>
        rw [List.take_succ_cons]
        rw [rOp_cons] at h hk ⊢
        rw [rOp_cons]
        split
        · rename_i h1
          rw [if_pos h1] at h hk
          exact gq_Fc.own (b :: r) (k + 1) h hk
        · rfl
theorem rOp_pos {sat may : Bool} {deep : Nat} {l : List Int} (h : (rOp sat may deep l).2.2 = 0) : 1 ≤ (rOp sat may deep l).2.1 := by
  cases l with
  | nil => exact absurd (show (100 : Int) = 0 from h) (by decide)
  | cons b r =>
    rw [rOp_cons] at h ⊢
    split
    · rename_i h1; rw [if_pos h1] at h; exact rFc_pos h
    · rename_i h1
      rw [if_neg h1] at h
      split
      · rename_i h2; rw [if_pos h2] at h; exact absurd h (by decide)
      · rename_i h2
        rw [if_neg h2] at h
        split
        · rename_i h3; rw [if_pos h3] at h; exact absurd h (by decide)
        · exact Nat.le_refl _
theorem gq_plain (op : Int) : Gq (rPlain op) := by
  unfold rPlain
  by_cases h1 : imI op = 2 ∨ imI op = 4
  · rw [if_pos h1]; exact (gq_U 32).bd fun _ => gq_giv _
  rw [if_neg h1]
  by_cases h2 : imI op = 3
  · rw [if_pos h2]; exact gq_Lab.bd fun _ => (gq_U 32).bd fun _ => gq_giv _
  rw [if_neg h2]
  by_cases h3 : imI op = 5
  · rw [if_pos h3]; exact (gq_U 32).bd fun _ => gq_0.bd fun _ => gq_giv _
  rw [if_neg h3]
  by_cases h4 : imI op = 6
  · rw [if_pos h4]; exact (gq_U 32).bd fun _ => (gq_U 32).bd fun _ => gq_giv _
  rw [if_neg h4]
  by_cases h5 : imI op = 7
  · rw [if_pos h5]; exact gq_0.bd fun _ => gq_giv _
  rw [if_neg h5]
  by_cases h6 : imI op = 8
  · rw [if_pos h6]; exact gq_S32.bd fun _ => gq_giv _
  rw [if_neg h6]
  by_cases h7 : imI op = 9
  · rw [if_pos h7]; exact (gq_S 64).bd fun _ => gq_giv _
  rw [if_neg h7]
  by_cases h8 : imI op = 10
  · rw [if_pos h8]; exact (gq_L 4).bd fun _ => gq_giv _
  rw [if_neg h8]
  by_cases h9 : imI op = 11
  · rw [if_pos h9]; exact (gq_L 8).bd fun _ => gq_giv _
  rw [if_neg h9]; exact gq_giv _
theorem gq_Rest {S : Nat → Bool → Rr (Fo × Bool)} (h : ∀ d m, Gq (S d m)) (deep : Nat) (op : Int) : Gq (rRest S deep op) := by
  unfold rRest
  by_cases h1 : imI op = 1
  · rw [if_pos h1]
    refine gq_Results.bd fun ty => (h _ _).bd fun s => ?_
    split
    · exact (h _ _).bd fun _ => gq_giv _
    · exact gq_giv _
  · rw [if_neg h1]; exact gq_plain op
theorem gq_sqF (sat : Bool) : ∀ n deep may, Gq (sqF sat n deep may)
  | 0, _, _ => gq_100 _
  | n + 1, deep, may => by
    unfold sqF
    refine (gq_Op _ _ _).bd fun op => ?_
    split
    · exact gq_giv _
    · exact (gq_Rest (gq_sqF sat n) _ _).bd fun _ => (gq_sqF sat n _ _).bd fun _ => gq_giv _
theorem rRest_congr {S S' : Nat → Bool → Rr (Fo × Bool)} {deep : Nat} {op : Int} {l : List Int} (h : ∀ d m l', l'.length ≤ l.length → S d m l' = S' d m l') : rRest S deep op l = rRest S' deep op l := by
  unfold rRest
  by_cases h1 : imI op = 1
  · rw [if_pos h1, if_pos h1]
    unfold rBlk
    refine bd_congr fun _ => bd_congr2 (h _ _ _ (by rw [List.length_drop]; omega)) fun _ => ?_
    split
    · exact bd_congr2 (h _ _ _ (by rw [List.length_drop, List.length_drop]; omega)) fun _ => rfl
    · rfl
  · rw [if_neg h1, if_neg h1]
theorem sqF_congr (sat : Bool) : ∀ n m deep may l, l.length < n → l.length < m → sqF sat n deep may l = sqF sat m deep may l
  | 0, _, _, _, _, h, _ => absurd h (Nat.not_lt_zero _)
  | _ + 1, 0, _, _, _, _, h => absurd h (Nat.not_lt_zero _)
  | n + 1, m + 1, deep, may, l, h1, h2 => by
    unfold sqF
    refine bd_congr fun ho => ?_
    have hp := rOp_pos ho
    have hl := (gq_Op sat may deep).len l
    generalize (rOp sat may deep l).1 = op
    generalize hl1 : l.drop (rOp sat may deep l).2.1 = l1
    have hs : l1.length < n ∧ l1.length < m := by rw [← hl1, List.length_drop]; omega
    split
    · rfl
    · exact bd_congr2 (rRest_congr fun d q l' hl' => sqF_congr sat n m d q l' (by omega) (by omega)) fun _ => bd_congr2 (sqF_congr sat n m deep may _ (by rw [List.length_drop]; omega) (by rw [List.length_drop]; omega)) fun _ => rfl
def sq (sat : Bool) (deep : Nat) (may : Bool) : Rr (Fo × Bool) := fun l => sqF sat (l.length + 1) deep may l
theorem sq_at {sat : Bool} {deep : Nat} {may : Bool} {l : List Int} {n : Nat} (h : l.length < n) : sq sat deep may l = sqF sat n deep may l := sqF_congr sat _ _ _ _ _ (Nat.lt_succ_self _) h
/-- One instruction behind the other. -/
theorem sq_eq (sat : Bool) (deep : Nat) (may : Bool) (l : List Int) : sq sat deep may l = bd (.nil, false) (rOp sat may deep) (fun op => if op = 5 ∨ op = 11 then giv (.nil, op == 5) else bd (.nil, false) (rRest (sq sat) deep op) fun i => bd (.nil, false) (sq sat deep may) fun s => giv (.cons i.1 i.2.1 i.2.2 s.1, s.2)) l := by
  show sqF sat (l.length + 1) deep may l = _
  unfold sqF
  refine bd_congr fun ho => ?_
  have hp := rOp_pos ho
  have hl := (gq_Op sat may deep).len l
  generalize (rOp sat may deep l).1 = op
  generalize hl1 : l.drop (rOp sat may deep l).2.1 = l1
  have hs : l1.length < l.length := by rw [← hl1, List.length_drop]; omega
  split
  · rfl
  · exact bd_congr2 (rRest_congr fun d q l' hl' => (sq_at (by omega)).symm) fun _ => bd_congr2 (sq_at (n := l.length) (by rw [List.length_drop]; omega)).symm fun _ => rfl
theorem gq_sq (sat : Bool) (deep : Nat) (may : Bool) : Gq (sq sat deep may) := by
  constructor
  · intro l; exact (gq_sqF sat _ _ _).len l
  · intro a b h
    rw [sq_at (l := a) (n := (a ++ b).length + 1) (by rw [List.length_append]; omega)] at h ⊢
    exact (gq_sqF sat _ _ _).loc a b h
  · intro l k h hk
    rw [sq_at (l := l.take k) (n := l.length + 1) (by rw [List.length_take]; omega)]
    exact (gq_sqF sat _ _ _).cut l k h hk
  · intro l k h hk
    rw [sq_at (l := l.take k) (n := l.length + 1) (by rw [List.length_take]; omega)]
    exact (gq_sqF sat _ _ _).own l k h hk
end Go.Proofs.YtjoonmpjcophnaaGreatDoor
namespace Go.Proofs.YtjoonmpjcophnaaGreatDoor
open Go.RowKit

/-- A slice of n elements with these cells, in one of the blocks P. -/
def Slc (w : World) (P : Nat → Prop) (n : Nat) (cs : List Value) (v : Value) : Prop :=
  ∃ a cap, v = .slice a n cap ∧ n ≤ cap ∧ (n = 0 ↔ cs = []) ∧ ((n = 0 ∧ (a = none → cap = 0)) ∨ ∃ b off, a = some ⟨b, off, none⟩ ∧ (0 < n → P b) ∧ ∀ j u, cs[j]? = some u → w.cell? ⟨b, off + j, none⟩ = some u)
theorem Slc.fr {w w' : World} {P : Nat → Prop} {n : Nat} {cs : List Value} {v : Value} {l : List Nat} (h : Slc w P n cs v) (hf : Fr l w w') (hl : ∀ i ∈ l, ¬ P i) : Slc w' P n cs v := by
  obtain ⟨a, cap, h1, h2, h3, h4⟩ := h
  refine ⟨a, cap, h1, h2, h3, ?_⟩
  rcases h4 with h4 | ⟨b, off, h5, h6, h7⟩
  · exact .inl h4
  · refine .inr ⟨b, off, h5, h6, fun j u hj => hf.keep (h7 j u hj) (fun hm => hl b hm (h6 ?_))⟩
    apply Nat.pos_of_ne_zero
    intro h0
    rw [h3.1 h0] at hj
    cases hj
theorem Slc.mono {w : World} {P P' : Nat → Prop} {n : Nat} {cs : List Value} {v : Value} (h : Slc w P n cs v) (hp : ∀ b, b < w.heap.size → P b → P' b) : Slc w P' n cs v := by
  obtain ⟨a, cap, h1, h2, h3, h4⟩ := h
  refine ⟨a, cap, h1, h2, h3, ?_⟩
  rcases h4 with h4 | ⟨b, off, h5, h6, h7⟩
  · exact .inl h4
  · refine .inr ⟨b, off, h5, fun h0 => hp b ?_ (h6 h0), h7⟩
    cases cs with
    | nil => have := h3.2 rfl; omega
    | cons u r => exact World.block_lt_of_cell? w _ (h7 0 u rfl)
theorem slc_nil (w : World) (P : Nat → Prop) : Slc w P 0 [] (.slice none 0 0) := ⟨none, 0, rfl, Nat.le_refl _, by simp, .inl ⟨rfl, fun _ => rfl⟩⟩
def uCells (xs : List Int) : List Value := xs.map (Value.int .u32)
/-- An instruction's cells. -/
def hcells (h : Hd) (vl vt ve : Value) : List Value := [.int .i64 h.op, .int .u8 h.ty, .int .u32 h.a, .int .u32 h.b, .int .u64 h.bits, vl, vt, ve, .bool h.has]
/-- These are instructions' cells, and what they lead to lies in the blocks P. -/
def Enc (w : World) (P : Nat → Prop) : Fo → List Value → Prop
  | .nil, cs => cs = []
  | .cons h t e r, cs => ∃ vl vt ve rest, cs = hcells h vl vt ve ++ rest ∧ Slc w P h.list.length (uCells h.list) vl ∧ (∃ ct, Enc w P t ct ∧ Slc w P t.len ct vt) ∧ (∃ ce, Enc w P e ce ∧ Slc w P e.len ce ve) ∧ Enc w P r rest
/-- A slice of instructions. -/
def Fov (w : World) (P : Nat → Prop) (T : Fo) (v : Value) : Prop := ∃ cs, Enc w P T cs ∧ Slc w P T.len cs v
theorem Enc.len {w : World} {P : Nat → Prop} : ∀ {T : Fo} {cs : List Value}, Enc w P T cs → cs.length = T.len * 9
  | .nil, cs, h => by rw [show cs = [] from h]; rfl
  | .cons h t e r, cs, hh => by
    obtain ⟨vl, vt, ve, rest, rfl, -, -, -, hr⟩ := hh
    rw [List.length_append, Enc.len hr]
    show 9 + r.len * 9 = (r.len + 1) * 9
    omega
theorem Enc.fr {w w' : World} {P : Nat → Prop} {l : List Nat} (hf : Fr l w w') (hl : ∀ i ∈ l, ¬ P i) : ∀ {T : Fo} {cs : List Value}, Enc w P T cs → Enc w' P T cs
  | .nil, _, h => h
  | .cons _ _ _ _, _, ⟨vl, vt, ve, rest, h1, h2, ⟨ct, h3, h4⟩, ⟨ce, h5, h6⟩, h7⟩ => ⟨vl, vt, ve, rest, h1, h2.fr hf hl, ⟨ct, Enc.fr hf hl h3, h4.fr hf hl⟩, ⟨ce, Enc.fr hf hl h5, h6.fr hf hl⟩, Enc.fr hf hl h7⟩
theorem Enc.mono {w : World} {P P' : Nat → Prop} (hp : ∀ b, b < w.heap.size → P b → P' b) : ∀ {T : Fo} {cs : List Value}, Enc w P T cs → Enc w P' T cs
  | .nil, _, h => h
  | .cons _ _ _ _, _, ⟨vl, vt, ve, rest, h1, h2, ⟨ct, h3, h4⟩, ⟨ce, h5, h6⟩, h7⟩ => ⟨vl, vt, ve, rest, h1, h2.mono hp, ⟨ct, Enc.mono hp h3, h4.mono hp⟩, ⟨ce, Enc.mono hp h5, h6.mono hp⟩, Enc.mono hp h7⟩
theorem Enc.app {w : World} {P : Nat → Prop} {U : Fo} {ds : List Value} (hu : Enc w P U ds) : ∀ {T : Fo} {cs : List Value}, Enc w P T cs → Enc w P (T.app U) (cs ++ ds)
  | .nil, cs, h => by rw [show cs = [] from h]; exact hu
  | .cons _ _ _ _, _, ⟨vl, vt, ve, rest, h1, h2, h3, h4, h7⟩ => ⟨vl, vt, ve, rest ++ ds, by rw [h1, List.append_assoc], h2, h3, h4, Enc.app hu h7⟩
theorem Slc.one {w : World} {P : Nat → Prop} {n : Nat} {cs : List Value} {v : Value} (h : Slc w P n cs v) : v.oneCell' = true := by
  obtain ⟨a, cap, rfl, -⟩ := h
  rfl
theorem Enc.one {w : World} {P : Nat → Prop} : ∀ {T : Fo} {cs : List Value}, Enc w P T cs → ∀ u ∈ cs, u.oneCell' = true
  | .nil, cs, h, u, hu => by rw [show cs = [] from h] at hu; cases hu
  | .cons h t e r, _, ⟨vl, vt, ve, rest, h1, h2, ⟨ct, h3, h4⟩, ⟨ce, h5, h6⟩, h7⟩, u, hu => by
    subst h1
    rcases List.mem_append.1 hu with hu | hu
    · simp only [hcells, List.mem_cons, List.not_mem_nil, or_false] at hu
      rcases hu with rfl | rfl | rfl | rfl | rfl | rfl | rfl | rfl | rfl
      all_goals first | rfl | exact h2.one | exact h4.one | exact h6.one
    · exact Enc.one h7 u hu
theorem Fov.fr {w w' : World} {P : Nat → Prop} {T : Fo} {v : Value} {l : List Nat} (h : Fov w P T v) (hf : Fr l w w') (hl : ∀ i ∈ l, ¬ P i) : Fov w' P T v := by
  obtain ⟨cs, h1, h2⟩ := h
  exact ⟨cs, h1.fr hf hl, h2.fr hf hl⟩
theorem Fov.mono {w : World} {P P' : Nat → Prop} {T : Fo} {v : Value} (h : Fov w P T v) (hp : ∀ b, b < w.heap.size → P b → P' b) : Fov w P' T v := by
  obtain ⟨cs, h1, h2⟩ := h
  exact ⟨cs, h1.mono hp, h2.mono hp⟩
theorem fov_nil (w : World) (P : Nat → Prop) : Fov w P .nil (.slice none 0 0) := ⟨[], rfl, slc_nil w P⟩
theorem add_off (b off i : Nat) : (⟨b, off, none⟩ : Addr).add i = ⟨b, off + i, none⟩ := by unfold Addr.add; split <;> simp_all
/-- A row of one's own is a slice. -/
theorem slc_own {w : World} {B : Nat} {t : TypeId} {s n : Nat} {v : Value} {cs : List Value} {P : Nat → Prop} (h : w.ownsRow B t s v n cs) (hs : 0 < s) (hp : ∀ g, v.ownBlock = some g → P g) : Slc w P n cs v := by
  have hl := h.1
  have h3 : n = 0 ↔ cs = [] := by
    constructor
    · intro h0; rw [h0, Nat.zero_mul] at hl; exact List.eq_nil_of_length_eq_zero hl
    · intro h0; rw [h0] at hl
      rcases Nat.mul_eq_zero.1 hl.symm with h | h
      · exact h
      · omega
  have hc := fun g (hg : v.ownBlock = some g) => h.cells hg
  rcases h.2 with ⟨rfl, rfl⟩ | ⟨g, cap, cur, rfl, hb, hg, hn, hm, hsz, ht⟩
  · exact ⟨none, 0, rfl, Nat.le_refl _, h3, .inl ⟨rfl, fun _ => rfl⟩⟩
  · refine ⟨_, cap, rfl, hn, h3, .inr ⟨g, 0, rfl, fun _ => hp g rfl, fun j u hj => ?_⟩⟩
    have := hc g rfl j u hj
    rw [add_off, Nat.zero_add] at this
    rwa [Nat.zero_add]

/-- A reader's memory: where its cursor is, and in how many blocks. -/
structure Rs (c rb : Nat) (a : Option Addr) (len cap : Nat) (xs : List Int) (sat : Bool) (deep k : Nat) (e : Int) (w : World) : Prop where
  cur : Cs c a len cap xs k e w
  rdr : At3 rb (.pointer (some ⟨c, 0, none⟩)) (.bool sat) (.int .i64 (deep : Int)) w
  room : Room rb 3 w
  var : Mk w
  ne : rb ≠ c
  c3 : 4 ≤ c
  r3 : 4 ≤ rb
  far : ∀ p, a = some p → 0 < len → p.block ≠ rb
/-- What was there ahead of block N. -/
structure Old (N c rb : Nat) (a : Option Addr) (len : Nat) : Prop where
  n3 : 4 ≤ N
  c : c < N
  r : rb < N
  b : ∀ p, a = some p → 0 < len → p.block < N
theorem Tab.fr {w w' : World} {b : Nat} {L : List Value} {l : List Nat} (h : Tab w b L) (hf : Fr l w w') (hn : b ∉ l) : Tab w' b L := fun j u hj => hf.keep (h j u hj) hn
theorem Mk.fr {w w' : World} {l : List Nat} (h : Mk w) (hf : Fr l w w') (hl : ∀ i ∈ l, 4 ≤ i) : Mk w' :=
  ⟨h.groups.fr hf (fun hm => by have := hl _ hm; omega), h.changed.fr hf (fun hm => by have := hl _ hm; omega), h.stopped.fr hf (fun hm => by have := hl _ hm; omega)⟩
section
variable {c rb : Nat} {a : Option Addr} {len cap : Nat} {xs : List Int} {sat : Bool} {deep k : Nat} {e : Int} {w w' : World}
theorem Rs.old (h : Rs c rb a len cap xs sat deep k e w) {N : Nat} (hN : w.heap.size ≤ N) : Old N c rb a len :=
  have hc := h.cur.1.lt
  have hr := World.block_lt_of_cell? w _ h.rdr.1
  ⟨by have := h.c3; omega, by omega, by simp only at hr; omega, fun p hp hl => Nat.lt_of_lt_of_le (h.cur.2.1.lt p hp hl) hN⟩
theorem Rs.fr {l : List Nat} {N : Nat} (h : Rs c rb a len cap xs sat deep k e w) (hf : Fr l w w') (ho : Old N c rb a len) (hl : ∀ i ∈ l, N ≤ i) : Rs c rb a len cap xs sat deep k e w' :=
  ⟨h.cur.fr hf (fun hm => by have := hl c hm; have := ho.c; omega) (fun p hp hn hm => by have := hl _ hm; have := ho.b p hp hn; omega),
   h.rdr.fr hf (fun hm => by have := hl rb hm; have := ho.r; omega), h.room.fr hf (fun hm => by have := hl rb hm; have := ho.r; omega),
   h.var.fr hf (fun i hi => by have := hl i hi; have := ho.n3; omega), h.ne, h.c3, h.r3, h.far⟩
theorem Rs.bel (h : Rs c rb a len cap xs sat deep k e w) (hf : Below w.heap.size w w') : Rs c rb a len cap xs sat deep k e w' :=
  h.fr (Fr.of hf []) (h.old (Nat.le_refl _)) (by simp)
theorem Rs.step {k' : Nat} {e' : Int} (h : Rs c rb a len cap xs sat deep k e w) (hf : Fr [c] w w') (hc : Cs c a len cap xs k' e' w') : Rs c rb a len cap xs sat deep k' e' w' :=
  ⟨hc, h.rdr.fr hf (by simpa using h.ne), h.room.fr hf (by simpa using h.ne), h.var.fr hf (by simpa using h.c3), h.ne, h.c3, h.r3, h.far⟩
theorem Rs.nest {d : Nat} (h : Rs c rb a len cap xs sat deep k e w) : Rs c rb a len cap xs sat d k e (w.setCell ⟨rb, 2, none⟩ (.int .i64 (d : Int))) := by
  have hf : Fr [rb] w (w.setCell ⟨rb, 2, none⟩ (.int .i64 (d : Int))) := (Fr.refl _ _).set _ (Or.inl (by simp)) _
  refine ⟨h.cur.fr hf (by simpa using fun q => h.ne q.symm) (fun p hp hl => by simpa using h.far p hp hl), ⟨cell_set_off (by decide) h.rdr.1, cell_set_off (by decide) h.rdr.2.1, cell_set_same h.rdr.2.2⟩, h.room.set _ _, h.var.fr hf (by simpa using h.r3), h.ne, h.c3, h.r3, h.far⟩
end
end Go.Proofs.YtjoonmpjcophnaaGreatDoor
namespace Go.Proofs.YtjoonmpjcophnaaGreatDoor
open Go.RowKit

theorem Rd.tst_t {A : Type} (y z : A) (er : Int) (xs : List Int) (k : Nat) (e : Int) : Rd (tst true y z er) xs k e y k e := ⟨fun _ => ⟨rfl, rfl⟩, fun h => ⟨rfl, h⟩, fun _ _ => rfl⟩
theorem Rd.tst_f {A : Type} (y' y z : A) {er : Int} (h0 : er ≠ 0) (xs : List Int) (k : Nat) (e : Int) : Rd (tst false y z er) xs k e y' k (if e = 0 then er else e) :=
  ⟨fun h => ⟨rfl, if_neg h⟩, fun h => ⟨rfl, if_pos h⟩, fun h h' => by rw [if_pos h] at h'; exact absurd h' h0⟩
theorem Rs.byt {c rb : Nat} {a : Option Addr} {len cap : Nat} {xs : List Int} {sat : Bool} {deep k : Nat} {e : Int} {w : World} (h : Rs c rb a len cap xs sat deep k e w) : Byt xs := h.cur.2.2.2.1
set_option maxHeartbeats 2000000 in
set_option maxRecDepth 100000 in
theorem rfailed_any {c rb : Nat} {a : Option Addr} {len cap : Nat} {xs : List Int} {sat : Bool} {deep k : Nat} {e : Int} {W : World} (h : Rs c rb a len cap xs sat deep k e W) : Calls Tryz.prog 159 #[.pointer (some ⟨rb, 0, none⟩)] W fun r W' => r = .returned (.bool (e != 0)) ∧ W' = W := by
  have HE := hide (err_any h.cur)
  have h0 := h.rdr.1
  clear h
  go_enter Tryz.func159, Tryz.ntmps159
  go_wp2_with fail
  refine (unhide HE).mono ?_
  rintro _ w1 ⟨rfl, rfl⟩
  go_wp2_with fail
  go_ret
  exact ⟨rfl, rfl⟩
set_option maxHeartbeats 2000000 in
set_option maxRecDepth 100000 in
theorem nought_any {c rb : Nat} {a : Option Addr} {len cap : Nat} {xs : List Int} {sat : Bool} {deep k : Nat} {e : Int} {W : World} (h : Rs c rb a len cap xs sat deep k e W) : Calls Tryz.prog 175 #[.pointer (some ⟨rb, 0, none⟩)] W fun r W' => ∃ k' e', r = .returned (.tuple #[]) ∧ Rd r0 xs k e () k' e' ∧ Rs c rb a len cap xs sat deep k' e' W' ∧ Fr [c] W W' := by
  have HN := hide (byte_any h.cur)
  have HL : Hid (Rd rB xs k e (lift rB 0 xs k e).1 (lift rB 0 xs k e).2.1 (lift rB 0 xs k e).2.2) := hide Rd.lift
  generalize lift rB 0 xs k e = L at *
  obtain ⟨y, k1, e1⟩ := L
  dsimp only at *
  have h0 := h.rdr.1
  have H := hide h
  clear h
  by_cases hy : y = 0
  · have hy' : (y != 0) = false := by simp [hy]
    go_enter Tryz.func175, Tryz.ntmps175
    go_wp2_with fail
    refine (unhide HN).mono ?_
    rintro _ w1 ⟨rfl, hC, hF⟩
    have HR := hide ((unhide H).step hF hC)
    have HF := hide hF
    clear hC hF h0
    go_wp2_with fail
    refine bodyPost_end (results_none rfl _ _ _) rfl ⟨k1, e1, rfl, ?_, unhide HR, unhide HF⟩
    exact (unhide HL).bd (by rw [show (y == 0) = true by simp [hy]]; exact Rd.tst_t _ _ _ _ _ _)
  · have hy' : (y != 0) = true := by simp [hy]
    go_enter Tryz.func175, Tryz.ntmps175
    go_wp2_with fail
    refine (unhide HN).mono ?_
    rintro _ w1 ⟨rfl, hC, hF⟩
    have HR := hide ((unhide H).step hF hC)
    have HF := hide hF
    clear hC hF h0
    have h0 := (unhide HR).rdr.1
    go_wp2_with fail
    refine (Fail_any (unhide HR).cur).mono ?_
    rintro _ w2 ⟨rfl, hC, hF⟩
    have HR := hide ((unhide HR).step hF hC)
    have HF := hide ((unhide HF).trans hF)
    clear hC hF h0
    go_wp2_with fail
    refine bodyPost_end (results_none rfl _ _ _) rfl ⟨_, _, rfl, ?_, unhide HR, unhide HF⟩
    exact (unhide HL).bd (by rw [show (y == 0) = false by simp [hy]]; exact Rd.tst_f _ _ _ (by decide) _ _ _)
def rNum : Rr Int := bd 0 (rU 32) fun n => tst (decide (n ≤ 7)) (64512 + n) 0 108
set_option maxHeartbeats 2000000 in
set_option maxRecDepth 100000 in
theorem numbered_any {c rb : Nat} {a : Option Addr} {len cap : Nat} {xs : List Int} {sat : Bool} {deep k : Nat} {e : Int} {W : World} (h : Rs c rb a len cap xs sat deep k e W) : Calls Tryz.prog 171 #[.pointer (some ⟨rb, 0, none⟩)] W fun r W' => ∃ y k' e', r = .returned (.int .i64 y) ∧ Rd rNum xs k e y k' e' ∧ Rs c rb a len cap xs sat deep k' e' W' ∧ Fr [c] W W' := by
  have HN := hide (u32_any h.cur)
  have HL : Hid (Rd (rU 32) xs k e (lift (rU 32) 0 xs k e).1 (lift (rU 32) 0 xs k e).2.1 (lift (rU 32) 0 xs k e).2.2) := hide Rd.lift
  have hb := liftU_lt h.byt k e
  generalize lift (rU 32) 0 xs k e = L at *
  obtain ⟨y, k1, e1⟩ := L
  dsimp only at *
  obtain ⟨hb0, hb1⟩ := hb
  have h0 := h.rdr.1
  have H := hide h
  have i1 : IntKind.i64.wrap y = y := i64_id (by omega) (by omega)
  have i2 : IntKind.i64.wrap (64512 + y) = 64512 + y := i64_id (by omega) (by omega)
  clear h
  by_cases hy : y ≤ 7
  · have hy' : ¬ 7 < y := by omega
    go_enter Tryz.func171, Tryz.ntmps171
    go_wp2_with fail
    refine (unhide HN).mono ?_
    rintro _ w1 ⟨rfl, hC, hF⟩
    have HR := hide ((unhide H).step hF hC)
    have HF := hide hF
    clear hC hF h0
    go_wp2_with fail
    go_ret
    exact ⟨_, _, _, rfl, (unhide HL).bd (by rw [show decide (y ≤ 7) = true by simp [hy]]; exact Rd.tst_t _ _ _ _ _ _), unhide HR, unhide HF⟩
  · have hy' : 7 < y := by omega
    go_enter Tryz.func171, Tryz.ntmps171
    go_wp2_with fail
    refine (unhide HN).mono ?_
    rintro _ w1 ⟨rfl, hC, hF⟩
    have HR := hide ((unhide H).step hF hC)
    have HF := hide hF
    clear hC hF h0
    have h0 := (unhide HR).rdr.1
    go_wp2_with fail
    refine (Fail_any (unhide HR).cur).mono ?_
    rintro _ w2 ⟨rfl, hC, hF⟩
    have HR := hide ((unhide HR).step hF hC)
    have HF := hide ((unhide HF).trans hF)
    clear hC hF h0
    go_wp2_with fail
    go_ret
    exact ⟨_, _, _, rfl, (unhide HL).bd (by rw [show decide (y ≤ 7) = false by simp [hy]]; exact Rd.tst_f _ _ _ (by decide) _ _ _), unhide HR, unhide HF⟩
/-- Why an opcode may not be here. -/
def flt (op : Int) (sat may : Bool) (deep : Nat) : Int := if (op == 252 && sat) = true then 0 else if (!imB op || (op == 5 && !may)) = true then 108 else if imI op = 1 ∧ deep = 64 then 3 else 0
set_option maxHeartbeats 2000000 in
set_option maxRecDepth 100000 in
theorem fault1 {c rb : Nat} {a : Option Addr} {len cap : Nat} {xs : List Int} {sat : Bool} {deep k : Nat} {e : Int} {W : World} {op iv x : Int} {im may : Bool} (h : Rs c rb a len cap xs sat deep k e W) (HI : Cm 172 #[.int .i64 op] (.tuple #[.int .i64 iv, .bool im]))
    (HQ : (sat = true ∧ (op == 252) = true ∧ x = 0) ∨
      (sat = false ∧ (op == 252) = true ∧ im = false ∧ x = 108) ∨
      ((op == 252) = false ∧ im = false ∧ x = 108) ∨
      ((op == 252) = false ∧ im = true ∧ (op == 5) = true ∧ may = false ∧ x = 108) ∨
      ((op == 252) = false ∧ im = true ∧ (op == 5) = true ∧ may = true ∧ (iv == 1) = false ∧ x = 0) ∨
      ((op == 252) = false ∧ im = true ∧ (op == 5) = false ∧ (iv == 1) = true ∧ ((deep : Int) == 64) = true ∧ x = 3) ∨
      ((op == 252) = false ∧ im = true ∧ (op == 5) = false ∧ (iv == 1) = true ∧ ((deep : Int) == 64) = false ∧ x = 0) ∨
      ((op == 252) = false ∧ im = true ∧ (op == 5) = false ∧ (iv == 1) = false ∧ x = 0)) : Calls Tryz.prog 170 #[.pointer (some ⟨rb, 0, none⟩), .int .i64 op, .bool may] W fun r W' => r = .returned (.int .i64 x) ∧ Below W.heap.size W W' := by
  have h1 := h.rdr.2.1
  have HI := hide (unhide HI W h.var)
  have H := hide h
  clear h
  rcases HQ with ⟨rfl, q1, rfl⟩ | ⟨rfl, q1, rfl, rfl⟩ | ⟨q1, rfl, rfl⟩ | ⟨q1, rfl, q2, rfl, rfl⟩ | ⟨q1, rfl, q2, rfl, q3, rfl⟩ | ⟨q1, rfl, q2, q3, q4, rfl⟩ | ⟨q1, rfl, q2, q3, q4, rfl⟩ | ⟨q1, rfl, q2, q3, rfl⟩
  · go_enter Tryz.func170, Tryz.ntmps170
    go_wp2_with fail
    go_ret
    exact ⟨rfl, Below.refl _ _⟩
  · go_enter Tryz.func170, Tryz.ntmps170
    go_wp2_with fail
    refine (unhide HI).mono ?_
    rintro _ w1 ⟨rfl, hb⟩
    have h2 := ((unhide H).bel hb).rdr.2.2
    go_wp2_with fail
    go_ret
    exact ⟨rfl, hb⟩
  · go_enter Tryz.func170, Tryz.ntmps170
    go_wp2_with fail
    refine (unhide HI).mono ?_
    rintro _ w1 ⟨rfl, hb⟩
    have h2 := ((unhide H).bel hb).rdr.2.2
    go_wp2_with fail
    go_ret
    exact ⟨rfl, hb⟩
  · go_enter Tryz.func170, Tryz.ntmps170
    go_wp2_with fail
    refine (unhide HI).mono ?_
    rintro _ w1 ⟨rfl, hb⟩
    have h2 := ((unhide H).bel hb).rdr.2.2
    go_wp2_with fail
    go_ret
    exact ⟨rfl, hb⟩
  · go_enter Tryz.func170, Tryz.ntmps170
    go_wp2_with fail
    refine (unhide HI).mono ?_
    rintro _ w1 ⟨rfl, hb⟩
    have h2 := ((unhide H).bel hb).rdr.2.2
    go_wp2_with fail
    go_ret
    exact ⟨rfl, hb⟩
  · go_enter Tryz.func170, Tryz.ntmps170
    go_wp2_with fail
    refine (unhide HI).mono ?_
    rintro _ w1 ⟨rfl, hb⟩
    have h2 := ((unhide H).bel hb).rdr.2.2
    go_wp2_with fail
    go_ret
    exact ⟨rfl, hb⟩
  · go_enter Tryz.func170, Tryz.ntmps170
    go_wp2_with fail
    refine (unhide HI).mono ?_
    rintro _ w1 ⟨rfl, hb⟩
    have h2 := ((unhide H).bel hb).rdr.2.2
    go_wp2_with fail
    go_ret
    exact ⟨rfl, hb⟩
  · go_enter Tryz.func170, Tryz.ntmps170
    go_wp2_with fail
    refine (unhide HI).mono ?_
    rintro _ w1 ⟨rfl, hb⟩
    have h2 := ((unhide H).bel hb).rdr.2.2
    go_wp2_with fail
    go_ret
    exact ⟨rfl, hb⟩
theorem cod_12 : imI 5 = 12 ∧ imB 5 = true ∧ imI 11 = 12 ∧ imB 11 = true ∧ imI 0 = 0 ∧ imB 0 = true ∧ imB 252 = false := by decide
theorem fault_any {c rb : Nat} {a : Option Addr} {len cap : Nat} {xs : List Int} {sat : Bool} {deep k : Nat} {e : Int} {W : World} {op : Int} {may : Bool} (h : Rs c rb a len cap xs sat deep k e W) (ho : op ≤ 9223372036854775807) : Calls Tryz.prog 170 #[.pointer (some ⟨rb, 0, none⟩), .int .i64 op, .bool may] W fun r W' => r = .returned (.int .i64 (flt op sat may deep)) ∧ Below W.heap.size W W' := by
  refine fault1 (iv := imI op) (im := imB op) h (imm_any op ho) ?_
  unfold flt
  obtain ⟨c1, c2, -, -, -, -, c7⟩ := cod_12
  by_cases q : op = 252
  · subst q
    cases sat
    · exact .inr (.inl ⟨rfl, rfl, c7, by rw [c7]; rfl⟩)
    · exact .inl ⟨rfl, rfl, rfl⟩
  · have q1 : (op == 252) = false := by simp [q]
    have q1' : ¬ (op == 252 && sat) = true := by rw [q1]; simp
    rw [if_neg q1']
    cases hb : imB op
    · exact .inr (.inr (.inl ⟨q1, rfl, rfl⟩))
    · by_cases q5 : op = 5
      · subst q5
        cases may
        · exact .inr (.inr (.inr (.inl ⟨q1, rfl, rfl, rfl, rfl⟩)))
        · refine .inr (.inr (.inr (.inr (.inl ⟨q1, rfl, rfl, rfl, by rw [c1]; rfl, ?_⟩))))
          rw [if_neg (by decide), if_neg (fun hh => absurd hh.1 (by rw [c1]; decide))]
      · have q2 : (op == 5) = false := by simp [q5]
        have q2' : ¬ (!true || (op == 5 && !may)) = true := by rw [q2]; simp
        rw [if_neg q2']
        by_cases q6 : imI op = 1
        · have q3 : (imI op == 1) = true := by simp [q6]
          by_cases q7 : deep = 64
          · exact .inr (.inr (.inr (.inr (.inr (.inl ⟨q1, rfl, q2, q3, by subst q7; rfl, if_pos ⟨q6, q7⟩⟩)))))
          · exact .inr (.inr (.inr (.inr (.inr (.inr (.inl ⟨q1, rfl, q2, q3, by simp; omega, if_neg (fun hh => q7 hh.2)⟩))))))
        · exact .inr (.inr (.inr (.inr (.inr (.inr (.inr ⟨q1, rfl, q2, by simp [q6], if_neg (fun hh => q6 hh.1)⟩))))))
end Go.Proofs.YtjoonmpjcophnaaGreatDoor
namespace Go.Proofs.YtjoonmpjcophnaaGreatDoor
open Go.RowKit

theorem cs_copy {c : Nat} {a : Option Addr} {len cap k : Nat} {xs : List Int} {e : Int} {W : World} (h : Cs c a len cap xs k e W) : Cs W.heap.size a len cap xs k e (W.alloc (.cells #[.slice a len cap, .int .i64 (k : Int), .int .i64 e] 128)) := by
  have hb := below1 W (.cells #[.slice a len cap, .int .i64 (k : Int), .int .i64 e] 128)
  have hr := room_cells (cs := [.slice a len cap, .int .i64 (k : Int), .int .i64 e]) (t := 128) W 3 (by simp)
  refine ⟨⟨by simp [go_sem], by simp [go_sem], by simp [go_sem], fun o ho => (hr o ho).2⟩, h.2.1.below hb, fun p hp hl => ?_, h.2.2.2⟩
  have := h.2.1.lt p hp hl
  omega
/-- What comes of an opcode's byte: y, and whether it is fc. -/
theorem rOp_at {xs : List Int} {sat may : Bool} {deep k k1 : Nat} {e y0 e1 : Int} (h0 : lift rB 0 xs k e = (y0, k1, e1)) :
    (∀ y1 k2 e2, lift rB 0 xs k (if e = 0 then flt y0 sat may deep else e) = (y1, k2, e2) → y1 ≠ 252 → Rd (rOp sat may deep) xs k e y1 k2 e2) := by
  intro y1 k2 e2 h1 hy
  by_cases he : e = 0
  · subst he
    rw [if_pos rfl] at h1
    by_cases hk : xs.length ≤ k
    · rw [lift_rB_end hk] at h0
      injection h0 with h0 _
      subst h0
      obtain ⟨-, -, -, -, c5, c6, -⟩ := cod_12
      have : flt 0 sat may deep = 0 := by
        unfold flt
        rw [if_neg (by simp), c6, if_neg (by simp), c5, if_neg (fun hh => absurd hh.1 (by decide))]
      rw [this, lift_rB_end hk] at h1
      injection h1 with h1 h2
      injection h2 with h2 h3
      subst h1; subst h2; subst h3
      have hd : xs.drop k = [] := List.drop_eq_nil_of_le hk
      exact ⟨fun h => absurd rfl h, fun _ => by rw [hd]; exact ⟨rfl, rfl⟩, fun _ h => absurd h (by decide)⟩
    · have hk' : k < xs.length := by omega
      rw [lift_rB_in hk'] at h0
      injection h0 with h0 _
      have hd : xs.drop k = y0 :: xs.drop (k + 1) := by
        rw [List.drop_eq_getElem_cons hk', ← h0]; simp [List.getD, hk']
      have hr : rOp sat may deep (xs.drop k) = if (y0 == 252 && sat) = true then rFc (xs.drop k) else if (!imB y0 || (y0 == 5 && !may)) = true then (0, 0, 108) else if imI y0 = 1 ∧ deep = 64 then (0, 0, 3) else (y0, 1, 0) := by rw [hd]; rfl
      unfold flt at h1
      by_cases q1 : (y0 == 252 && sat) = true
      · rw [if_pos q1, lift_rB_in hk'] at h1
        injection h1 with h1 _
        simp only [Bool.and_eq_true, beq_iff_eq] at q1
        exact absurd (h1.symm.trans (h0.trans q1.1)) hy
      · rw [if_neg q1] at h1 hr
        by_cases q2 : (!imB y0 || (y0 == 5 && !may)) = true
        · rw [if_pos q2, lift_e _ _ _ _ (by decide)] at h1
          rw [if_pos q2] at hr
          injection h1 with h1 h2
          injection h2 with h2 h3
          subst h1; subst h2; subst h3
          exact ⟨fun h => absurd rfl h, fun _ => by rw [hr]; exact ⟨rfl, rfl⟩, fun _ h => absurd h (by decide)⟩
        · rw [if_neg q2] at h1 hr
          by_cases q3 : imI y0 = 1 ∧ deep = 64
          · rw [if_pos q3, lift_e _ _ _ _ (by decide)] at h1
            rw [if_pos q3] at hr
            injection h1 with h1 h2
            injection h2 with h2 h3
            subst h1; subst h2; subst h3
            exact ⟨fun h => absurd rfl h, fun _ => by rw [hr]; exact ⟨rfl, rfl⟩, fun _ h => absurd h (by decide)⟩
          · rw [if_neg q3, lift_rB_in hk'] at h1
            rw [if_neg q3] at hr
            injection h1 with h1 h2
            injection h2 with h2 h3
            subst h2; subst h3
            exact ⟨fun h => absurd rfl h, fun _ => by rw [hr]; exact ⟨rfl, rfl⟩, fun _ _ => by rw [hr]; exact h1.symm.trans h0⟩
  · rw [if_neg he, lift_e _ _ _ _ he] at h1
    injection h1 with h1 h2
    injection h2 with h2 h3
    subst h2; subst h3
    exact Rd.err _ he
theorem rOp_fc {xs : List Int} {sat may : Bool} {deep k k1 k2 k3 : Nat} {e y0 y e1 e2 e3 : Int} (h0 : lift rB 0 xs k e = (y0, k1, e1))
    (h1 : lift rB 0 xs k (if e = 0 then flt y0 sat may deep else e) = (252, k2, e2)) (h2 : Rd rNum xs k2 e2 y k3 e3) : Rd (rOp sat may deep) xs k e y k3 e3 := by
  have he : e = 0 := by
    apply Decidable.byContradiction
    intro he
    rw [if_neg he, lift_e _ _ _ _ he] at h1
    injection h1 with h1 _
    exact absurd h1 (by decide)
  subst he
  rw [if_pos rfl] at h1
  by_cases hk : xs.length ≤ k
  · by_cases hf : flt y0 sat may deep = 0
    · rw [hf, lift_rB_end hk] at h1
      injection h1 with h1 _
      exact absurd h1 (by decide)
    · rw [lift_e _ _ _ _ hf] at h1
      injection h1 with h1 _
      exact absurd h1 (by decide)
  · have hk' : k < xs.length := by omega
    rw [lift_rB_in hk'] at h0
    injection h0 with h0 _
    have hf : flt y0 sat may deep = 0 := by
      apply Decidable.byContradiction
      intro hf
      rw [lift_e _ _ _ _ hf] at h1
      injection h1 with h1 _
      exact absurd h1 (by decide)
    rw [hf, lift_rB_in hk', h0] at h1
    injection h1 with hy h4
    injection h4 with h4 h5
    subst hy; subst h4; subst h5
    have hd : xs.drop k = 252 :: xs.drop (k + 1) := by
      rw [List.drop_eq_getElem_cons hk', ← h0]; simp [List.getD, hk']
    have hs : sat = true := by
      cases sat
      · exfalso
        unfold flt at hf
        rw [if_neg (by decide), if_pos (by rw [cod_12.2.2.2.2.2.2]; rfl)] at hf
        exact absurd hf (by decide)
      · rfl
    subst hs
    refine Rd.of_eq (f := rFc) ?_ (by rw [hd]; rfl)
    unfold rFc
    refine Rd.bd (x := 252) (k1 := k + 1) (e1 := 0) ?_ h2
    exact ⟨fun h => absurd rfl h, fun _ => by rw [hd]; exact ⟨rfl, rfl⟩, fun _ _ => by rw [hd]; rfl⟩
set_option maxHeartbeats 2000000 in
set_option maxRecDepth 100000 in
theorem op1 {c rb : Nat} {a : Option Addr} {len cap : Nat} {xs : List Int} {sat : Bool} {deep k : Nat} {e : Int} {W : World} {may : Bool} {y0 y1 e0 e2 : Int} {k0 k2 : Nat} (h : Rs c rb a len cap xs sat deep k e W) (hl0 : lift rB 0 xs k e = (y0, k0, e0)) (hl1 : lift rB 0 xs k (if e = 0 then flt y0 sat may deep else e) = (y1, k2, e2)) (hy : y1 ≠ 252) : Calls Tryz.prog 166 #[.pointer (some ⟨rb, 0, none⟩), .bool may] W fun r W' => ∃ y k' e', r = .returned (.int .i64 y) ∧ Rd (rOp sat may deep) xs k e y k' e' ∧ Rs c rb a len cap xs sat deep k' e' W' ∧ Fr [c] W W' := by
  have h0 := h.rdr.1
  have h1 := h.cur.1.1
  have h2 := h.cur.1.2.1
  have h3 := h.cur.1.2.2.1
  have hy0 : 0 ≤ y0 ∧ y0 < 256 := by have := lift_rB_lt h.byt k e; rw [hl0] at this; exact this
  have hy1 : 0 ≤ y1 ∧ y1 < 256 := by have := lift_rB_lt h.byt k (if e = 0 then flt y0 sat may deep else e); rw [hl1] at this; exact this
  have i0 : IntKind.i64.wrap y0 = y0 := i64_id (by omega) (by omega)
  have i1 : IntKind.i64.wrap y1 = y1 := i64_id (by omega) (by omega)
  have HL0 := hide hl0
  have HL1 := hide hl1
  have HB := hide (show 0 ≤ y0 ∧ y0 ≤ 9223372036854775807 from ⟨hy0.1, by omega⟩)
  have H := hide h
  clear h hl0 hl1 hy0 hy1
  go_enter Tryz.func166, Tryz.ntmps166
  go_wp2_with fail
  have hb := below1 W (.cells #[.slice a len cap, .int .i64 (k : Int), .int .i64 e] 128)
  have HQ := hide (cs_copy (unhide H).cur)
  have HO : Hid (Old W.heap.size c rb a len) := hide ((unhide H).old (Nat.le_refl W.heap.size))
  have HR := hide ((unhide H).bel hb)
  have HF := hide (Fr.of hb [c])
  generalize hwr : W.alloc (.cells #[.slice a len cap, .int .i64 (k : Int), .int .i64 e] 128) = wr at *
  generalize hqb : W.heap.size = q at *
  have HZ := hide (show W.heap.size ≤ q by omega)
  clear hwr hb h0 h1 h2 h3
  have HQ := hide (unhide HQ).drew
  have HR := hide ((unhide HR).bel ((Below.refl _ _).drew))
  have HF := hide (unhide HF).drew
  refine wp_region_held_drew (S := fun w' => w'.cell? ⟨rb, 0, none⟩ = some (.pointer (some ⟨c, 0, none⟩))) (by kernel_rfl) ?_ (fun hHeld => ?_)
  · (try dsimp only)
    exact (unhide HR).rdr.1
  refine lst0 10 (by kernel_rfl) ?_
  refine tkA 0 13 1 ?_
  refine tkA 1 14 3 ?_
  refine tkA 2 15 7 ?_
  refine tkA 3 16 15 ?_
  refine tkA 4 17 31 ?_
  refine tkA 7 20 159 ?_
  refine rdA 5 191 (fun Kk hKk => ?_)
  go_simp
  refine (byte_any (unhide HQ)).mono ?_
  rintro _ w1 ⟨rfl, hC, hF⟩
  have HR := hide ((unhide HR).fr hF (unhide HO) (fun i hi => by simp only [List.mem_singleton] at hi; subst hi; exact Nat.le_refl _))
  have HF := hide ((unhide HF).thenL hF (fun i hi => Or.inr (by simp only [List.mem_singleton] at hi; subst hi; exact unhide HZ)))
  clear hC hF HQ
  rw [unhide HL0]
  (try go_wp2_with fail)
  refine hKk.out _ _ ?_ (fun hHeld => ?_)
  · (try dsimp only)
    exact (unhide HR).rdr.1
  clear hKk Kk
  (try simp only [List.setIfInBounds_toArray, List.set_cons_zero, List.set_cons_succ])
  refine tkA 6 19 255 ?_
  refine rdA 8 511 (fun Kk hKk => ?_)
  go_simp
  refine (fault_any (unhide HR) (unhide HB).2).mono ?_
  rintro _ w2 ⟨rfl, hb⟩
  have HR := hide ((unhide HR).bel hb)
  have HF := hide ((unhide HF).bel hb)
  clear hb
  (try go_wp2_with fail)
  refine hKk.out _ _ ?_ (fun hHeld => ?_)
  · (try dsimp only)
    exact (unhide HR).rdr.1
  clear hKk Kk
  (try simp only [List.setIfInBounds_toArray, List.set_cons_zero, List.set_cons_succ])
  refine rdA 9 1023 (fun Kk hKk => ?_)
  go_simp
  refine (Fail_any (unhide HR).cur).mono ?_
  rintro _ w3 ⟨rfl, hC, hF⟩
  have HR := hide ((unhide HR).step hF hC)
  have HF := hide ((unhide HF).trans hF)
  clear hC hF
  (try go_wp2_with fail)
  refine hKk.out _ _ ?_ (fun hHeld => ?_)
  · (try dsimp only)
    exact (unhide HR).rdr.1
  clear hKk Kk
  (try simp only [List.setIfInBounds_toArray, List.set_cons_zero, List.set_cons_succ])
  refine wpAnyH_done (by kernel_rfl) ?_ _
  have h0 := (unhide HR).rdr.1
  go_wp2_with fail
  refine (byte_any (unhide HR).cur).mono ?_
  rintro _ w4 ⟨rfl, hC, hF⟩
  rw [unhide HL1] at hC ⊢
  dsimp only at hC ⊢
  have HR := hide ((unhide HR).step hF hC)
  have HF := hide ((unhide HF).trans hF)
  clear hC hF h0
  have hy' : (y1 == 252) = false := by simp [hy]
  go_wp2_with fail
  go_ret
  exact ⟨_, _, _, rfl, rOp_at (unhide HL0) _ _ _ (unhide HL1) hy, unhide HR, unhide HF⟩
set_option maxHeartbeats 2000000 in
set_option maxRecDepth 100000 in
theorem op2 {c rb : Nat} {a : Option Addr} {len cap : Nat} {xs : List Int} {sat : Bool} {deep k : Nat} {e : Int} {W : World} {may : Bool} {y0 y1 e0 e2 : Int} {k0 k2 : Nat} (h : Rs c rb a len cap xs sat deep k e W) (hl0 : lift rB 0 xs k e = (y0, k0, e0)) (hl1 : lift rB 0 xs k (if e = 0 then flt y0 sat may deep else e) = (y1, k2, e2)) (hy : y1 = 252) : Calls Tryz.prog 166 #[.pointer (some ⟨rb, 0, none⟩), .bool may] W fun r W' => ∃ y k' e', r = .returned (.int .i64 y) ∧ Rd (rOp sat may deep) xs k e y k' e' ∧ Rs c rb a len cap xs sat deep k' e' W' ∧ Fr [c] W W' := by
  have h0 := h.rdr.1
  have h1 := h.cur.1.1
  have h2 := h.cur.1.2.1
  have h3 := h.cur.1.2.2.1
  have hy0 : 0 ≤ y0 ∧ y0 < 256 := by have := lift_rB_lt h.byt k e; rw [hl0] at this; exact this
  have hy1 : 0 ≤ y1 ∧ y1 < 256 := by have := lift_rB_lt h.byt k (if e = 0 then flt y0 sat may deep else e); rw [hl1] at this; exact this
  have i0 : IntKind.i64.wrap y0 = y0 := i64_id (by omega) (by omega)
  have i1 : IntKind.i64.wrap y1 = y1 := i64_id (by omega) (by omega)
  have HL0 := hide hl0
  have HL1 := hide hl1
  have HB := hide (show 0 ≤ y0 ∧ y0 ≤ 9223372036854775807 from ⟨hy0.1, by omega⟩)
  have H := hide h
  clear h hl0 hl1 hy0 hy1
  go_enter Tryz.func166, Tryz.ntmps166
  go_wp2_with fail
  have hb := below1 W (.cells #[.slice a len cap, .int .i64 (k : Int), .int .i64 e] 128)
  have HQ := hide (cs_copy (unhide H).cur)
  have HO : Hid (Old W.heap.size c rb a len) := hide ((unhide H).old (Nat.le_refl W.heap.size))
  have HR := hide ((unhide H).bel hb)
  have HF := hide (Fr.of hb [c])
  generalize hwr : W.alloc (.cells #[.slice a len cap, .int .i64 (k : Int), .int .i64 e] 128) = wr at *
  generalize hqb : W.heap.size = q at *
  have HZ := hide (show W.heap.size ≤ q by omega)
  clear hwr hb h0 h1 h2 h3
  have HQ := hide (unhide HQ).drew
  have HR := hide ((unhide HR).bel ((Below.refl _ _).drew))
  have HF := hide (unhide HF).drew
  refine wp_region_held_drew (S := fun w' => w'.cell? ⟨rb, 0, none⟩ = some (.pointer (some ⟨c, 0, none⟩))) (by kernel_rfl) ?_ (fun hHeld => ?_)
  · (try dsimp only)
    exact (unhide HR).rdr.1
  refine lst0 10 (by kernel_rfl) ?_
  refine tkA 0 13 1 ?_
  refine tkA 1 14 3 ?_
  refine tkA 2 15 7 ?_
  refine tkA 3 16 15 ?_
  refine tkA 4 17 31 ?_
  refine tkA 7 20 159 ?_
  refine rdA 5 191 (fun Kk hKk => ?_)
  go_simp
  refine (byte_any (unhide HQ)).mono ?_
  rintro _ w1 ⟨rfl, hC, hF⟩
  have HR := hide ((unhide HR).fr hF (unhide HO) (fun i hi => by simp only [List.mem_singleton] at hi; subst hi; exact Nat.le_refl _))
  have HF := hide ((unhide HF).thenL hF (fun i hi => Or.inr (by simp only [List.mem_singleton] at hi; subst hi; exact unhide HZ)))
  clear hC hF HQ
  rw [unhide HL0]
  (try go_wp2_with fail)
  refine hKk.out _ _ ?_ (fun hHeld => ?_)
  · (try dsimp only)
    exact (unhide HR).rdr.1
  clear hKk Kk
  (try simp only [List.setIfInBounds_toArray, List.set_cons_zero, List.set_cons_succ])
  refine tkA 6 19 255 ?_
  refine rdA 8 511 (fun Kk hKk => ?_)
  go_simp
  refine (fault_any (unhide HR) (unhide HB).2).mono ?_
  rintro _ w2 ⟨rfl, hb⟩
  have HR := hide ((unhide HR).bel hb)
  have HF := hide ((unhide HF).bel hb)
  clear hb
  (try go_wp2_with fail)
  refine hKk.out _ _ ?_ (fun hHeld => ?_)
  · (try dsimp only)
    exact (unhide HR).rdr.1
  clear hKk Kk
  (try simp only [List.setIfInBounds_toArray, List.set_cons_zero, List.set_cons_succ])
  refine rdA 9 1023 (fun Kk hKk => ?_)
  go_simp
  refine (Fail_any (unhide HR).cur).mono ?_
  rintro _ w3 ⟨rfl, hC, hF⟩
  have HR := hide ((unhide HR).step hF hC)
  have HF := hide ((unhide HF).trans hF)
  clear hC hF
  (try go_wp2_with fail)
  refine hKk.out _ _ ?_ (fun hHeld => ?_)
  · (try dsimp only)
    exact (unhide HR).rdr.1
  clear hKk Kk
  (try simp only [List.setIfInBounds_toArray, List.set_cons_zero, List.set_cons_succ])
  refine wpAnyH_done (by kernel_rfl) ?_ _
  have h0 := (unhide HR).rdr.1
  go_wp2_with fail
  refine (byte_any (unhide HR).cur).mono ?_
  rintro _ w4 ⟨rfl, hC, hF⟩
  rw [unhide HL1] at hC ⊢
  dsimp only at hC ⊢
  have HR := hide ((unhide HR).step hF hC)
  have HF := hide ((unhide HF).trans hF)
  clear hC hF h0
  subst hy
  go_wp2_with fail
  refine (numbered_any (unhide HR)).mono ?_
  rintro _ w5 ⟨y, k', e', rfl, hN, hR, hF⟩
  have HF := hide ((unhide HF).trans hF)
  go_wp2_with fail
  go_ret
  exact ⟨_, _, _, rfl, rOp_fc (unhide HL0) (unhide HL1) hN, hR, unhide HF⟩
theorem op_any {c rb : Nat} {a : Option Addr} {len cap : Nat} {xs : List Int} {sat : Bool} {deep k : Nat} {e : Int} {W : World} {may : Bool} (h : Rs c rb a len cap xs sat deep k e W) : Calls Tryz.prog 166 #[.pointer (some ⟨rb, 0, none⟩), .bool may] W fun r W' => ∃ y k' e', r = .returned (.int .i64 y) ∧ Rd (rOp sat may deep) xs k e y k' e' ∧ Rs c rb a len cap xs sat deep k' e' W' ∧ Fr [c] W W' := by
  rcases hl0 : lift rB 0 xs k e with ⟨y0, k0, e0⟩
  rcases hl1 : lift rB 0 xs k (if e = 0 then flt y0 sat may deep else e) with ⟨y1, k2, e2⟩
  by_cases hy : y1 = 252
  · exact op2 h hl0 hl1 hy
  · exact op1 h hl0 hl1 hy
end Go.Proofs.YtjoonmpjcophnaaGreatDoor
namespace Go.Proofs.YtjoonmpjcophnaaGreatDoor
open Go.RowKit

theorem made_cellsU (L i : Nat) (h : i < L) : (madeCells #[.int .u32 0] L)[i]? = some (.int .u32 0) := by
  have := toList_madeCells_one (.int .u32 0) L
  rw [← Array.getElem?_toList, this]
  simp [h]
theorem iU32 : Tryz.prog.info? 30 = some ((Tryz.prog.info? 30).getD default) := by kernel_rfl
theorem bytes46 : ((Tryz.prog.info? 30).getD default).bytes = 4 := by kernel_rfl
theorem size46 : ((Tryz.prog.info? 30).getD default).size = 1 := by kernel_rfl
set_option maxRecDepth 100000 in
theorem make_runU (L : Nat) (hL : L ≤ 4096) (w : World) : (Instr.makeSlice 69 (.int .i64 (L : Int)) (.int .i64 (L : Int))).run Tryz.prog w = .ok (.slice (some ⟨w.heap.size, 0, none⟩) L L) (w.alloc (.cells (madeCells #[.int .u32 0] L) 30)) := by
  have h := run_make (P := Tryz.prog) w 69 30 _ (.int .u32 0) Tryz.underlying69 iU32 rfl .i64 .i64 (L : Int) (L : Int) (by omega) (Int.le_refl _) (by rw [bytes46]; omega) (by omega)
  rw [size46, Nat.mul_one] at h
  exact h
/-- A row of n that can be written, whose first ones are these. -/
def WrU (g n : Nat) (ys : List Int) (w : World) : Prop := Room g n w ∧ ∀ j, j < ys.length → w.cell? ⟨g, j, none⟩ = some (.int .u32 (ys.getD j 0))
theorem WrU.made (w : World) (n : Nat) : WrU w.heap.size n [] (w.alloc (.cells (madeCells #[.int .u32 0] n) 30)) := by
  refine ⟨fun o ho => ⟨⟨_, by rw [World.cell?_alloc_new, made_cellsU n o ho]⟩, by simp [go_sem]⟩, fun j hj => by simp at hj⟩
theorem WrU.fr {g n : Nat} {ys : List Int} {w w' : World} {l : List Nat} (h : WrU g n ys w) (hf : Fr l w w') (hn : g ∉ l) : WrU g n ys w' := ⟨h.1.fr hf hn, fun j hj => hf.keep (h.2 j hj) hn⟩
theorem WrU.store {g n : Nat} {ys : List Int} {w : World} (h : WrU g n ys w) (hl : ys.length < n) (x : Int) : WrU g n (ys ++ [x]) (w.setCell ⟨g, ys.length, none⟩ (.int .u32 x)) := by
  refine ⟨h.1.set _ _, fun j hj => ?_⟩
  by_cases hj' : j = ys.length
  · subst hj'
    obtain ⟨⟨v, h1⟩, -⟩ := h.1 ys.length hl
    rw [cell_set_same h1]
    simp
  · have hj2 : j < ys.length := by simp at hj; omega
    rw [cell_set_off hj' (h.2 j hj2)]
    rw [List.getD_eq_getElem?_getD, List.getD_eq_getElem?_getD, List.getElem?_append_left hj2]
theorem WrU.slc {g : Nat} {ys : List Int} {w : World} (h : WrU g ys.length ys w) {P : Nat → Prop} (hp : P g) : Slc w P ys.length (uCells ys) (.slice (some ⟨g, 0, none⟩) ys.length ys.length) := by
  refine ⟨_, _, rfl, Nat.le_refl _, by simp [uCells], .inr ⟨g, 0, rfl, fun _ => hp, fun j u hj => ?_⟩⟩
  rw [Nat.zero_add]
  simp only [uCells, List.getElem?_map] at hj
  cases hx : ys[j]? with
  | none => rw [hx] at hj; cases hj
  | some x =>
    rw [hx] at hj
    injection hj with hj
    subst hj
    obtain ⟨hlt, he⟩ := List.getElem?_eq_some_iff.1 hx
    rw [h.2 j hlt, List.getD_eq_getElem?_getD, hx]
    rfl
set_option maxHeartbeats 4000000 in
set_option maxRecDepth 100000 in
theorem labels_any {c rb : Nat} {a : Option Addr} {len cap : Nat} {xs : List Int} {sat : Bool} {deep k : Nat} {e : Int} {W : World} (h : Rs c rb a len cap xs sat deep k e W) : Calls Tryz.prog 174 #[.pointer (some ⟨rb, 0, none⟩)] W fun r W' => ∃ v L k' e', r = .returned v ∧ Rd rLab xs k e L k' e' ∧ Slc W' (fun b => W.heap.size ≤ b) L.length (uCells L) v ∧ Rs c rb a len cap xs sat deep k' e' W' ∧ Fr [c] W W' := by
  have HN := hide (count_any' h.cur)
  have HL : Hid (Rd rCount xs k e (lift rCount 0 xs k e).1 (lift rCount 0 xs k e).2.1 (lift rCount 0 xs k e).2.2) := hide Rd.lift
  have hb := count_le h.byt k e
  have HU := hide (fun k e W (h : Rs c rb a len cap xs sat deep k e W) => u32_any h.cur)
  generalize lift rCount 0 xs k e = L at *
  obtain ⟨y, k1, e1⟩ := L
  dsimp only at *
  obtain ⟨n, rfl⟩ := Int.eq_ofNat_of_zero_le hb.1
  have hn : n ≤ 4096 := by omega
  have hmk := make_runU n hn
  have h0 := h.rdr.1
  have H := hide h
  have HO : Hid (Old W.heap.size c rb a len) := hide (h.old (Nat.le_refl W.heap.size))
  clear h hb
  go_enter Tryz.func174, Tryz.ntmps174
  go_wp2_with fail
  refine (unhide HN).mono ?_
  rintro _ w1 ⟨rfl, hC, hF⟩
  have HR := hide ((unhide H).step hF hC)
  have HF := hide hF
  have hsz := hF.size
  clear hC hF h0
  go_wp2_with fail
  clear hmk
  have HM := hide (WrU.made w1 n)
  have HA := below1 w1 (.cells (madeCells #[.int .u32 0] n) 30)
  have HR := hide ((unhide HR).bel HA)
  have HF := hide ((unhide HF).bel HA)
  clear HA
  generalize hw2 : w1.alloc (.cells (madeCells #[.int .u32 0] n) 30) = w2 at *
  generalize hgq : w1.heap.size = g at *
  clear hw2
  go_loopw [13] (fun v13 wr => ∃ (i : Nat) (ys : List Int) (k2 : Nat) (e2 : Int), i ≤ n ∧ v13 = .int .i64 (i : Int) ∧ ys.length = i ∧ WrU g n ys wr ∧ Rs c rb a len cap xs sat deep k2 e2 wr ∧ Fr [c] W wr ∧ ∀ L k' e', Rd (repU (n - i)) xs k2 e2 L k' e' → Rd (repU n) xs k1 e1 (ys ++ L) k' e') (fun v13 _ => n - (intOf v13).toNat)
  case atStart => exact ⟨0, [], k1, e1, by omega, rfl, rfl, unhide HM, unhide HR, unhide HF, fun L k' e' h => h⟩
  case round =>
    obtain ⟨i, ys, k2, e2, hi, rfl, hyl, hW, hR, hF, hK⟩ := hrel
    have HW := hide hW
    have HR := hide hR
    have HF := hide hF
    have HK := hide hK
    have HY := hide hyl
    have h0 := hR.rdr.1
    clear hW hR hF hK hyl
    by_cases hlt : i < n
    · have hi' : (i : Int) < (n : Int) := by omega
      have HC2 := hide (unhide HU _ _ _ (unhide HR))
      have HL2 : Hid (Rd (rU 32) xs k2 e2 (lift (rU 32) 0 xs k2 e2).1 (lift (rU 32) 0 xs k2 e2).2.1 (lift (rU 32) 0 xs k2 e2).2.2) := hide Rd.lift
      generalize lift (rU 32) 0 xs k2 e2 = T at *
      obtain ⟨x, k3, e3⟩ := T
      dsimp only at *
      go_wp2_with fail
      refine (unhide HC2).mono ?_
      rintro _ w3 ⟨rfl, hC, hF⟩
      have HW := hide ((unhide HW).fr hF (by have := (unhide HO).c; simp; omega))
      have HR := hide ((unhide HR).step hF hC)
      have HF := hide ((unhide HF).trans hF)
      clear hC hF h0
      obtain ⟨⟨u, hu⟩, hz⟩ := (unhide HW).1 i hlt
      go_wp2_with fail
      have HW := hide ((unhide HW).store (by rw [unhide HY]; exact hlt) x)
      rw [unhide HY] at HW
      have hG : Fr [g] w3 (w3.setCell ⟨g, i, none⟩ (.int .u32 x)) := (Fr.refl _ _).set _ (Or.inl (by simp)) _
      refine ⟨⟨i + 1, ys ++ [x], k3, e3, by omega, by go_num, by rw [List.length_append, unhide HY]; rfl, unhide HW, (unhide HR).fr hG (unhide HO) (by simpa using hsz), (unhide HF).set _ (Or.inr hsz) _, fun L k' e' hr => ?_⟩, by simp [intOf]; omega⟩
      rw [List.append_assoc]
      refine unhide HK (x :: L) k' e' ?_
      rw [show n - i = (n - (i + 1)) + 1 by omega]
      exact (unhide HL2).bd (hr.bd (Rd.giv _ _ _ _))
    · obtain rfl : i = n := by omega
      go_wp2_with fail
      go_ret
      have hy := unhide HY
      subst hy
      refine ⟨_, ys, _, _, rfl, (unhide HL).bd ?_, (unhide HW).slc hsz, unhide HR, unhide HF⟩
      have := unhide HK [] k2 e2 (by rw [Nat.sub_self]; exact Rd.giv _ _ _ _)
      rw [List.append_nil] at this
      exact this
end Go.Proofs.YtjoonmpjcophnaaGreatDoor
namespace Go.Proofs.YtjoonmpjcophnaaGreatDoor
open Go.RowKit

theorem Tab.set {w : World} {b : Nat} {L : List Value} (h : Tab w b L) (o : Nat) (v : Value) : Tab (w.setCell ⟨b, o, none⟩ v) b (L.set o v) := by
  intro j u hj
  rw [List.getElem?_set] at hj
  by_cases he : o = j
  · subst he
    rw [if_pos rfl] at hj
    split at hj
    · rename_i hlt
      injection hj with hj
      subst hj
      exact cell_set_same (h o _ (List.getElem?_eq_getElem hlt))
    · cases hj
  · rw [if_neg he] at hj
    exact cell_set_off (fun q => he q.symm) (h j u hj)
theorem Tab.bel {w w' : World} {b : Nat} {L : List Value} (h : Tab w b L) (hf : Below w.heap.size w w') : Tab w' b L := h.fr (Fr.of hf []) (by simp)
/-- A variable of nine cells, newer than all that a reader has. -/
structure Nv (N ib : Nat) (L : List Value) (w : World) : Prop where
  tab : Tab w ib L
  room : Room ib 9 w
  new : N ≤ ib
  lt : ib < w.heap.size
theorem Nv.fr {N ib : Nat} {L : List Value} {w w' : World} {l : List Nat} (h : Nv N ib L w) (hf : Fr l w w') (hn : ib ∉ l) : Nv N ib L w' := ⟨h.tab.fr hf hn, h.room.fr hf hn, h.new, Nat.lt_of_lt_of_le h.lt hf.size⟩
theorem Nv.set {N ib : Nat} {L : List Value} {w : World} (h : Nv N ib L w) (o : Nat) (v : Value) : Nv N ib (L.set o v) (w.setCell ⟨ib, o, none⟩ v) := ⟨h.tab.set o v, h.room.set o v, h.new, by simpa [World.setCell] using h.lt⟩
/-- The contract of a sequence of less than n bytes. -/
def PSeq (c rb : Nat) (a : Option Addr) (len cap : Nat) (xs : List Int) (sat : Bool) (n : Nat) : Prop := ∀ (deep k : Nat) (e : Int) (may : Bool) (W : World), deep ≤ 64 → (e = 0 → len - k < n) → Rs c rb a len cap xs sat deep k e W →
  Calls Tryz.prog 158 #[.pointer (some ⟨rb, 0, none⟩), .bool may] W fun r W' => ∃ p q s m T t k' e', r = .returned (.tuple #[.slice p q s, .int .i64 m]) ∧ Rd (sq sat deep may) xs k e (T, t) k' e' ∧ (e' = 0 → Fov W' (fun b => W.heap.size ≤ b) T (.slice p q s) ∧ m = if t then 5 else 11) ∧ Rs c rb a len cap xs sat deep k' e' W' ∧ Fr [c, rb] W W'
theorem Rd.up {A : Type} {f : Rr A} {xs : List Int} {k k' : Nat} {e e' : Int} {y : A} (h : Rd f xs k e y k' e') : k ≤ k' := by
  by_cases he : e = 0
  · have := (h.live he).1; omega
  · have := (h.dead he).1; omega
theorem fr_c {c rb : Nat} {w w' : World} (h : Fr [c] w w') : Fr [c, rb] w w' := h.mono (by simp)
/-- What is read, and then told otherwise. -/
theorem rd_bnd {A B : Type} {z1 : A} {z : B} {f : Rr A} {g : A → B} {xs : List Int} {k k1 : Nat} {e e1 : Int} {x : A} (hg : Gd f z1) (h : Rd f xs k e x k1 e1) : Rd (bnd z f fun x => giv (g x)) xs k e (g x) k1 e1 := by
  refine ⟨h.dead, fun he => ?_, fun he h1 => ?_⟩
  · obtain ⟨a1, a2⟩ := h.live he
    unfold bnd
    by_cases h1 : e1 = 0
    · rw [if_pos (a2.symm.trans h1)]
      exact ⟨a1, h1⟩
    · have hz : (f (xs.drop k)).2.2 ≠ 0 := by rw [← a2]; exact h1
      rw [if_neg hz]
      have := hg.nrm _ hz
      rw [this] at a1
      exact ⟨a1, a2⟩
  · obtain ⟨a1, a2⟩ := h.live he
    unfold bnd
    rw [if_pos (a2.symm.trans h1), h.val he h1]
    rfl
theorem res_any {c : Nat} {a : Option Addr} {len cap k : Nat} {xs : List Int} {e : Int} {W : World} (h : Cs c a len cap xs k e W) : ∃ ty k1 e1, Rd rResults xs k e ty k1 e1 ∧
    Calls Tryz.prog 185 #[.pointer (some ⟨c, 0, none⟩)] W fun r W' => r = .returned (.int .u8 ty) ∧ Cs c a len cap xs k1 e1 W' ∧ Fr [c] W W' := ⟨_, _, _, rd_bnd (gd_One _ _) Rd.lift, results_any h⟩
set_option maxHeartbeats 4000000 in
set_option maxRecDepth 100000 in
theorem block_any {n ib N : Nat} {op : Int} {c rb : Nat} {a : Option Addr} {len cap : Nat} {xs : List Int} {sat : Bool} {deep k : Nat} {e : Int} {W : World} (HI : Hid (PSeq c rb a len cap xs sat n)) (h : Rs c rb a len cap xs sat deep k e W) (hd : deep < 64) (hk : e = 0 → len - k < n) (ho : Old N c rb a len)
    (hn : Nv N ib (hcells (hd0 op) (.slice none 0 0) (.slice none 0 0) (.slice none 0 0)) W) : Calls Tryz.prog 173 #[.pointer (some ⟨rb, 0, none⟩), .pointer (some ⟨ib, 0, none⟩)] W fun r W' => ∃ h' p1 q1 s1 p2 q2 s2 i k' e', r = .returned (.tuple #[]) ∧ Nv N ib (hcells h' (.slice none 0 0) (.slice p1 q1 s1) (.slice p2 q2 s2)) W' ∧ Rd (rBlk (sq sat) deep op) xs k e i k' e' ∧ h'.list = [] ∧
      (e' = 0 → i.1 = h' ∧ Fov W' (fun b => W.heap.size ≤ b) i.2.1 (.slice p1 q1 s1) ∧ Fov W' (fun b => W.heap.size ≤ b) i.2.2 (.slice p2 q2 s2)) ∧ Rs c rb a len cap xs sat deep k' e' W' ∧ Fr [c, rb, ib] W W' := by
  obtain ⟨ty, k1, e1, hd1, hl1⟩ := res_any h.cur
  have HL1 := hide hl1
  have HD1 := hide hd1
  clear hl1 hd1
  have h0 := h.rdr.1
  have HR := hide h
  have HO := hide ho
  have HOW : Hid (Old W.heap.size c rb a len) := hide (h.old (Nat.le_refl W.heap.size))
  have HI9 := hide hn.lt
  have HN := hide hn
  have HK := hide hk
  have HD := hide hd
  obtain ⟨⟨u1, g1⟩, f1⟩ := hn.room 1 (by decide)
  clear h ho hn hk hd
  go_enter Tryz.func173, Tryz.ntmps173
  go_wp2_with fail
  refine (unhide HL1).mono ?_
  rintro _ w1 ⟨rfl, hC, hF⟩
  have HR := hide ((unhide HR).step hF hC)
  have HN := hide ((unhide HN).fr hF (by have := (unhide HO).c; have := (unhide HN).new; simp; omega))
  have HF := hide (hF.mono (l' := [c, rb, ib]) (by simp))
  clear hC hF h0
  clear f1 g1 u1
  obtain ⟨⟨u1, g1⟩, f1⟩ := (unhide HN).room 1 (by decide)
  have h2 := (unhide HR).rdr.2.2
  have f2 := ((unhide HR).room 2 (by decide)).2
  have g0 := (unhide HN).tab 0 _ rfl
  have hdl := unhide HD
  have i1 : IntKind.i64.wrap ((deep : Int) + 1) = (deep : Int) + 1 := i64_id (by omega) (by omega)
  dsimp only [hd0] at g0
  go_wp2_with fail
  have HO1 := unhide HO
  have HI1 := (unhide HN).new
  have fA : Fr [ib] w1 (w1.setCell ⟨ib, 1, none⟩ (.int .u8 ty)) := (Fr.refl _ _).set _ (Or.inl (by simp)) _
  have HR := hide ((unhide HR).fr fA HO1 (by simpa using HI1))
  have HN := hide ((unhide HN).set 1 (.int .u8 ty))
  have HF := hide ((unhide HF).trans (fA.mono (l' := [c, rb, ib]) (by simp)))
  have fB : Fr [rb] (w1.setCell ⟨ib, 1, none⟩ (.int .u8 ty)) ((w1.setCell ⟨ib, 1, none⟩ (.int .u8 ty)).setCell ⟨rb, 2, none⟩ (.int .i64 ((deep + 1 : Nat) : Int))) := (Fr.refl _ _).set _ (Or.inl (by simp)) _
  have HR := hide ((unhide HR).nest (d := deep + 1))
  have HN : Hid (Nv N ib (hcells ⟨op, ty, 0, 0, 0, [], false⟩ (.slice none 0 0) (.slice none 0 0) (.slice none 0 0)) _) := hide ((unhide HN).fr fB (by have := HO1.r; simp; omega))
  have HF := hide ((unhide HF).trans (fB.mono (l' := [c, rb, ib]) (by simp)))
  rw [show ((deep + 1 : Nat) : Int) = (deep : Int) + 1 from by omega] at HR HN HF
  clear fA fB f1 g1 u1 h2 f2 g0
  generalize (w1.setCell ⟨ib, 1, none⟩ (.int .u8 ty)).setCell ⟨rb, 2, none⟩ (.int .i64 ((deep : Int) + 1)) = w2 at *
  have hu := (unhide HD1).up
  have hz := fun q => (unhide HD1).zero q
  refine (unhide HI (deep + 1) k1 e1 (op == 4) w2 (by omega) (fun h => by have := unhide HK (hz h); omega) (unhide HR)).mono ?_
  rintro _ w3 ⟨p1, q1, s1, m, T, t, k2, e2, rfl, hD, hV, hR, hF⟩
  have HW := hide (unhide HF).size
  have HL2 := hide (unhide HN).lt
  have HN := hide ((unhide HN).fr hF (by have := HO1.r; have := HO1.c; have := HI1; simp; omega))
  have HF := hide ((unhide HF).trans (hF.mono (l' := [c, rb, ib]) (by simp)))
  have HR := hide hR
  have HD2 := hide hD
  have HV0 := hide (fun q => (hV q).2)
  have HV := hide (fun q => ((hV q).1.mono (P' := fun b => W.heap.size ≤ b) (fun b _ h => by have := unhide HW; omega)))
  have HS := hide hF.size
  clear hR hF hD hV hu hz
  obtain ⟨⟨u1, g1⟩, f1⟩ := (unhide HN).room 6 (by decide)
  by_cases hm : m = 5
  · subst hm
    obtain ⟨⟨u3, g3⟩, f3⟩ := (unhide HN).room 8 (by decide)
    go_wp2_with fail
    have fA : Fr [ib] w3 ((w3.setCell ⟨ib, 6, none⟩ (.slice p1 q1 s1)).setCell ⟨ib, 8, none⟩ (.bool true)) := ((Fr.refl _ _).set _ (Or.inl (by simp)) _).set _ (Or.inl (by simp)) _
    have HR := hide ((unhide HR).fr fA HO1 (by simpa using HI1))
    have HN : Hid (Nv N ib (hcells ⟨op, ty, 0, 0, 0, [], true⟩ (.slice none 0 0) (.slice p1 q1 s1) (.slice none 0 0)) _) := hide (((unhide HN).set 6 (.slice p1 q1 s1)).set 8 (.bool true))
    have HF := hide ((unhide HF).trans (fA.mono (l' := [c, rb, ib]) (by simp)))
    have HV := hide (fun q => (unhide HV q).fr fA (by have := unhide HI9; simp; omega))
    have HT : Hid (e2 = 0 → t = true) := hide (fun q => by have := unhide HV0 q; cases t with | true => rfl | false => exact absurd this (by decide))
    have HS := hide (Nat.le_trans (unhide HS) fA.size)
    clear fA f1 g1 u1 f3 g3 u3 HV0
    generalize (w3.setCell ⟨ib, 6, none⟩ (.slice p1 q1 s1)).setCell ⟨ib, 8, none⟩ (.bool true) = w4 at *
    have hu := (unhide HD1).up
    have hz := fun q => (unhide HD1).zero q
    have hu2 := (unhide HD2).up
    have hz2 := fun q => (unhide HD2).zero q
    refine (unhide HI (deep + 1) k2 e2 false w4 (by omega) (fun h => by have := unhide HK (hz (hz2 h)); omega) (unhide HR)).mono ?_
    rintro _ w5 ⟨p2, q2, s2, m2, T2, t2, k3, e3, rfl, hD3, hV2, hR, hF⟩
    have HN := hide ((unhide HN).fr hF (by have := HO1.r; have := HO1.c; have := HI1; simp; omega))
    have HV := hide (fun q => (unhide HV q).fr hF (by have := unhide HI9; have := unhide HOW; have := this.r; have := (unhide HOW).c; simp; omega))
    have HF := hide ((unhide HF).trans (hF.mono (l' := [c, rb, ib]) (by simp)))
    have HR := hide hR
    have HD3 := hide hD3
    have HV2 := hide (fun q => ((hV2 q).1.mono (P' := fun b => W.heap.size ≤ b) (fun b _ h => by have := unhide HW; have := unhide HS; omega)))
    clear hR hF hD3 hV2 hu hz hu2 hz2
    obtain ⟨⟨u1, g1⟩, f1⟩ := (unhide HN).room 7 (by decide)
    have h2 := (unhide HR).rdr.2.2
    have f2 := ((unhide HR).room 2 (by decide)).2
    have i2 : IntKind.i64.wrap (((deep + 1 : Nat) : Int) - 1) = (deep : Int) := by rw [i64_id (by omega) (by omega)]; omega
    go_wp2_with fail
    have fA : Fr [ib] w5 (w5.setCell ⟨ib, 7, none⟩ (.slice p2 q2 s2)) := (Fr.refl _ _).set _ (Or.inl (by simp)) _
    have HR := hide ((unhide HR).fr fA HO1 (by simpa using HI1))
    have HN : Hid (Nv N ib (hcells ⟨op, ty, 0, 0, 0, [], true⟩ (.slice none 0 0) (.slice p1 q1 s1) (.slice p2 q2 s2)) _) := hide ((unhide HN).set 7 (.slice p2 q2 s2))
    have HF := hide ((unhide HF).trans (fA.mono (l' := [c, rb, ib]) (by simp)))
    have fB : Fr [rb] (w5.setCell ⟨ib, 7, none⟩ (.slice p2 q2 s2)) ((w5.setCell ⟨ib, 7, none⟩ (.slice p2 q2 s2)).setCell ⟨rb, 2, none⟩ (.int .i64 (deep : Int))) := (Fr.refl _ _).set _ (Or.inl (by simp)) _
    have HR := hide ((unhide HR).nest (d := deep))
    have HN := hide ((unhide HN).fr fB (by have := HO1.r; simp; omega))
    have HF := hide ((unhide HF).trans (fB.mono (l' := [c, rb, ib]) (by simp)))
    have hfw := unhide HOW
    have hc := hfw.c
    have hr := hfw.r
    have hi9 := unhide HI9
    have HV := hide (fun q => ((unhide HV q).fr fA (by simp; omega)).fr fB (by simp; omega))
    have HV2 := hide (fun q => ((unhide HV2 q).fr fA (by simp; omega)).fr fB (by simp; omega))
    refine bodyPost_end (results_none rfl _ _ _) rfl ⟨⟨op, ty, 0, 0, 0, [], true⟩, p1, q1, s1, p2, q2, s2, (⟨op, ty, 0, 0, 0, [], true⟩, T, T2), k3, e3, rfl, unhide HN, ?_, rfl, fun q => ⟨rfl, unhide HV ((unhide HD3).zero q), unhide HV2 q⟩, unhide HR, unhide HF⟩
    refine (unhide HD1).bd ((unhide HD2).bd ?_)
    by_cases he : e2 = 0
    · rw [if_pos (unhide HT he)]
      exact (unhide HD3).bd (Rd.giv _ _ _ _)
    · obtain ⟨rfl, rfl⟩ := (unhide HD3).dead he
      exact Rd.err _ he
  · have HT : Hid (e2 = 0 → t = false) := hide (fun q => by have := unhide HV0 q; cases t with | false => rfl | true => exact absurd (this.trans (if_pos rfl)) hm)
    have hm' : (m == 5) = false := by simp [hm]
    have h2 := (unhide HR).rdr.2.2
    have f2 := ((unhide HR).room 2 (by decide)).2
    have i2 : IntKind.i64.wrap (((deep + 1 : Nat) : Int) - 1) = (deep : Int) := by rw [i64_id (by omega) (by omega)]; omega
    go_wp2_with fail
    have fA : Fr [ib] w3 (w3.setCell ⟨ib, 6, none⟩ (.slice p1 q1 s1)) := (Fr.refl _ _).set _ (Or.inl (by simp)) _
    have HR := hide ((unhide HR).fr fA HO1 (by simpa using HI1))
    have HN : Hid (Nv N ib (hcells ⟨op, ty, 0, 0, 0, [], false⟩ (.slice none 0 0) (.slice p1 q1 s1) (.slice none 0 0)) _) := hide ((unhide HN).set 6 (.slice p1 q1 s1))
    have HF := hide ((unhide HF).trans (fA.mono (l' := [c, rb, ib]) (by simp)))
    have fB : Fr [rb] (w3.setCell ⟨ib, 6, none⟩ (.slice p1 q1 s1)) ((w3.setCell ⟨ib, 6, none⟩ (.slice p1 q1 s1)).setCell ⟨rb, 2, none⟩ (.int .i64 (deep : Int))) := (Fr.refl _ _).set _ (Or.inl (by simp)) _
    have HR := hide ((unhide HR).nest (d := deep))
    have HN := hide ((unhide HN).fr fB (by have := HO1.r; simp; omega))
    have HF := hide ((unhide HF).trans (fB.mono (l' := [c, rb, ib]) (by simp)))
    have hfw := unhide HOW
    have hc := hfw.c
    have hr := hfw.r
    have hi9 := unhide HI9
    have HV := hide (fun q => ((unhide HV q).fr fA (by simp; omega)).fr fB (by simp; omega))
    refine bodyPost_end (results_none rfl _ _ _) rfl ⟨⟨op, ty, 0, 0, 0, [], false⟩, p1, q1, s1, none, 0, 0, (⟨op, ty, 0, 0, 0, [], false⟩, T, .nil), k2, e2, rfl, unhide HN, ?_, rfl, fun q => ⟨rfl, unhide HV q, fov_nil _ _⟩, unhide HR, unhide HF⟩
    refine (unhide HD1).bd ((unhide HD2).bd ?_)
    by_cases he : e2 = 0
    · rw [if_neg (by rw [unhide HT he]; simp)]
      obtain rfl := he
      exact Rd.giv _ _ _ _
    · exact Rd.err _ he
end Go.Proofs.YtjoonmpjcophnaaGreatDoor
namespace Go.Proofs.YtjoonmpjcophnaaGreatDoor
open Go.RowKit

/-- What is appended to a row of one's own; the new row is the old one's block, or a new one. -/
theorem app_own {w : World} {B : Nat} {t e : TypeId} {i : TypeInfo} {z : Value} {size bytes : Nat} (ht : Tryz.prog.underlying t = some (.slice e)) (hi : Tryz.prog.info? e = some i) (hz : i.zero = some z)
    (hsize : i.size = size) (hby : i.bytes = bytes) (hzs : z.cells.size = size) (hsz : 0 < size) {v : Value} {n : Nat} {xs : List Value} (hO : w.ownsRow B e size v n xs)
    {a : Addr} {m c : Nat} {news : List Value} (hl : news.length = m * size) (hnews : ∀ j u, news[j]? = some u → w.cell? (a.add j) = some u) (h1 : ∀ u ∈ news, u.oneCell' = true)
    (h63 : n + m ≤ maxLen) (hbytes : (n + m) * bytes ≤ 140737488355328) (hbase : B ≤ w.heap.size) :
    ∃ v' w', (Builtin.append_ #[t, t] t #[v, .slice (some a) m c]).run Tryz.prog w = .ok v' w' ∧ w'.ownsRow B e size v' (n + m) (xs ++ news) ∧ w.grownBy w' v.ownBlock ∧
      (∀ g, v'.ownBlock = some g → v.ownBlock = some g ∨ w.heap.size ≤ g) := by
  obtain ⟨v', w', hr, g1, g2, -⟩ := run_append_own (P := Tryz.prog) w B t t e i z size bytes ht hi hz hsize hby hzs hsz v n xs hO a m c news hl hnews h1 h63 hbytes hbase
  refine ⟨v', w', hr, g1, g2, ?_⟩
  have hsmall : n + m ≤ 9223372036854775807 := by simp only [maxLen] at h63; omega
  rcases hO.2 with ⟨rfl, rfl⟩ | ⟨g, cap, cur, rfl, hbg, hg, hnc, hcm, hcs, htake⟩
  · by_cases hm : m = 0
    · subst hm
      have hx := g1.1
      rcases g1.2 with ⟨rfl, _⟩ | ⟨g, cap, cur, rfl, q1, q2, q3, q4, q5, q6⟩
      · intro g hg; simp [Value.ownBlock] at hg
      · exfalso
        have hn : news = [] := List.eq_nil_of_length_eq_zero (by simpa using hl)
        subst hn
        rw [show (Builtin.append_ #[t, t] t #[.slice none 0 0, .slice (some a) 0 c]).run Tryz.prog w = .ok (.slice none 0 0) w by
          simp [Builtin.append_, run_underlying ht, sizeOf, typeInfo, hi, Builtin.lenOf, Builtin.firstCells, loadCells, loadCellsFrom]] at hr
        injection hr with h2
        cases h2
    · have hr2 := run_append_nil (P := Tryz.prog) w t t e i z ht hi hz a m c news (by rw [hl, hsize]) hnews (by omega) (by omega) (by rw [hby]; simp only [Nat.zero_add] at hbytes; omega)
      rw [hr2] at hr
      injection hr with h2 _
      subst h2
      intro g hg
      simp [Value.ownBlock] at hg
      exact .inr (by omega)
  · by_cases hroom : n + m ≤ cap
    · have hr2 := run_append_room (P := Tryz.prog) w t t e i ht hi g n cap cur hg a m c news (by rw [hl, hsize]) hnews h1 hroom (by rw [hl, hcs, hsize, ← Nat.add_mul]; exact Nat.mul_le_mul_right _ hroom)
      rw [hr2] at hr
      injection hr with h2 _
      subst h2
      intro g' hg'
      exact .inl hg'
    · have holds : ∀ j u, xs[j]? = some u → w.cell? ((⟨g, 0, none⟩ : Addr).add j) = some u := hO.cells (g := g) rfl
      have hr2 := run_append_grow (P := Tryz.prog) w t t e i z ht hi hz ⟨g, 0, none⟩ n cap xs (by rw [hO.1, hsize]) holds a m c news (by rw [hl, hsize]) hnews (by omega) (by omega) (growslice_fits (by omega) (by rw [hby]; exact hbytes))
      rw [hr2] at hr
      injection hr with h2 _
      subst h2
      intro g' hg'
      simp [Value.ownBlock] at hg'
      exact .inr (by omega)
/-- An append that is known, guarded or not, of any type. -/
theorem wpList_appT {t : TypeId} {ops : Array Oper} {rest : List Oper} {dst : Option Tmp} {s x : Operand} {pos : String} {af : Array Edge} {g : Option (Nat × Bool)} {a : Act} {w w' : World} {Q : Exit → Act → World → Prop} {v u v' : Value}
    (hw : Region.wanted ⟨dst, .call { callee := .builtin .append, args := #[s, x], argTypes := #[t, t] }, t, pos, af, g⟩ (yielded ops a.tmps) = true)
    (hs : a.eval s = v) (hx : a.eval x = u) (hrun : (Builtin.append_ #[t, t] t #[v, u]).run Tryz.prog w = .ok v' w') (h : wpList Tryz.prog ops Q rest (a.put dst v') w') :
    wpList Tryz.prog ops Q (⟨dst, .call { callee := .builtin .append, args := #[s, x], argTypes := #[t, t] }, t, pos, af, g⟩ :: rest) a w := by
  refine BigFrame.wpList_want hw fun K hK => ?_
  unfold Oper.wp
  simp only [execOp, resolve, invoke, builtin, Sem.run_bind, Sem.run_pure, Result.andThen_ok, List.map_toArray, List.map_cons, List.map_nil, hs, hx, hrun]
  exact hK _ _ h
theorem Fr.grown {l : List Nat} {W w w' : World} {row : Option Nat} (h : Fr l W w) (hg : w.grownBy w' row) (hr : ∀ g, row = some g → g ∈ l ∨ W.heap.size ≤ g) : Fr l W w' := by
  have hk : Fr (row.toList) w w' := ⟨hg.os, hg.tape, hg.output, hg.size, fun k hk hn => hg.block k hk (fun e => hn (by rw [← e]; simp))⟩
  exact h.thenL hk (fun i hi => hr i (by simpa using hi))
theorem fr_grown {w w' : World} {row : Option Nat} (hg : w.grownBy w' row) : Fr (row.toList) w w' := ⟨hg.os, hg.tape, hg.output, hg.size, fun k hk hn => hg.block k hk (fun e => hn (by rw [← e]; simp))⟩
/-- A row of instructions that is being made: what it leads to lies elsewhere. -/
structure Rw (t : TypeId) (B : Nat) (v : Value) (T : Fo) (cs : List Value) (e : Int) (w : World) : Prop where
  own : w.ownsRow B t 9 v T.len cs
  enc : e = 0 → Enc w (fun b => B ≤ b ∧ v.ownBlock ≠ some b) T cs
theorem rw_nil (t : TypeId) (B : Nat) (e : Int) (w : World) : Rw t B (.slice none 0 0) .nil [] e w := ⟨World.ownsRow_nil _ _ _ _, fun _ => rfl⟩
theorem Rw.fr {t : TypeId} {B : Nat} {v : Value} {T : Fo} {cs : List Value} {e e' : Int} {w w' : World} {l : List Nat} (h : Rw t B v T cs e w) (hf : Fr l w w') (hl : ∀ i ∈ l, i < B) (he : e' = 0 → e = 0) : Rw t B v T cs e' w' := by
  refine ⟨⟨h.own.1, ?_⟩, fun q => (h.enc (he q)).fr hf (fun i hi hp => by have := hl i hi; omega)⟩
  rcases h.own.2 with hn | ⟨g, cap, cur, h1, hb, hgg, rest⟩
  · exact .inl hn
  · refine .inr ⟨g, cap, cur, h1, hb, ?_, rest⟩
    rw [hf.block g (Array.getElem?_eq_some_iff.1 hgg).1 (fun hm => by have := hl g hm; omega)]
    exact hgg
theorem Rw.slice {t : TypeId} {B : Nat} {v : Value} {T : Fo} {cs : List Value} {e : Int} {w : World} (h : Rw t B v T cs e w) : ∃ p s, v = .slice p T.len s := by
  rcases h.own.2 with ⟨h1, h2⟩ | ⟨g, cap, cur, h1, _⟩
  · exact ⟨none, 0, by rw [h1, h2]⟩
  · exact ⟨_, _, h1⟩
theorem Rw.fov {t : TypeId} {B : Nat} {v : Value} {T : Fo} {cs : List Value} {e : Int} {w : World} (h : Rw t B v T cs e w) (he : e = 0) : Fov w (fun b => B ≤ b) T v :=
  ⟨cs, (h.enc he).mono (fun b _ hb => hb.1), slc_own h.own (by decide) (fun g hg => (h.own.lt g hg).1)⟩
/-- One instruction more. -/
theorem Rw.app {t ty : TypeId} {i : TypeInfo} {z : Value} {bytes : Nat} (ht : Tryz.prog.underlying t = some (.slice ty)) (hi : Tryz.prog.info? ty = some i) (hz : i.zero = some z)
    (hsize : i.size = 9) (hby : i.bytes = bytes) (hb1 : bytes ≤ 1000) (hzs : z.cells.size = 9) {B : Nat} {v : Value} {T : Fo} {cs : List Value} {e e2 : Int} {w w1 w2 : World} (h : Rw ty B v T cs e w) (hf : ∃ l, Fr l w w1 ∧ ∀ i ∈ l, i < B)
    (hB : B ≤ w.heap.size) (hn : T.len ≤ 10000000000) {hd : Hd} {t' e' : Fo} {lv vt ve : Value} (ho1 : lv.oneCell' = true) (ho2 : vt.oneCell' = true) (ho3 : ve.oneCell' = true) (he : e2 = 0 → e = 0)
    (hx : e2 = 0 → Slc w1 (fun b => w.heap.size ≤ b) hd.list.length (uCells hd.list) lv ∧ Fov w1 (fun b => w.heap.size ≤ b) t' vt ∧ Fov w1 (fun b => w.heap.size ≤ b) e' ve)
    (hw2 : w2 = w1.alloc (.cells (hcells hd lv vt ve).toArray ty)) :
    ∃ p s w3, (Builtin.append_ #[t, t] t #[v, .slice (some ⟨w1.heap.size, 0, none⟩) 1 1]).run Tryz.prog w2 = .ok (.slice p (T.len + 1) s) w3 ∧ Rw ty B (.slice p (T.len + 1) s) (T.app (.cons hd t' e' .nil)) (cs ++ hcells hd lv vt ve) e2 w3 ∧ (∀ l W, Fr l W w1 → W.heap.size ≤ B → Fr l W w3) ∧ (∃ l, Fr l w1 w3 ∧ ∀ i ∈ l, B ≤ i) := by
  obtain ⟨l, hfl, hll⟩ := hf
  have h' := h.fr hfl hll (e' := e2) he
  have hbl := below1 w1 (.cells (hcells hd lv vt ve).toArray ty)
  rw [← hw2] at hbl
  have h2 := h'.fr (Fr.of hbl []) (by simp) (e' := e2) (fun q => q)
  have hsz2 : w2.heap.size = w1.heap.size + 1 := by rw [hw2]; simp
  have hsz1 := hfl.size
  have hcell : ∀ j u, (hcells hd lv vt ve)[j]? = some u → w2.cell? ((⟨w1.heap.size, 0, none⟩ : Addr).add j) = some u := by
    intro j u hj
    rw [add_off, Nat.zero_add, hw2, World.cell?_alloc_new]
    simpa using hj
  have hone : ∀ u ∈ hcells hd lv vt ve, u.oneCell' = true := by
    intro u hu
    simp only [hcells, List.mem_cons, List.not_mem_nil, or_false] at hu
    rcases hu with rfl | rfl | rfl | rfl | rfl | rfl | rfl | rfl | rfl
    all_goals first | rfl | assumption
  obtain ⟨v', w3, hr, g1, g2, g3⟩ := app_own (c := 1) ht hi hz hsize hby hzs (by decide) h2.own (m := 1) (news := hcells hd lv vt ve) rfl hcell hone (by unfold maxLen; omega) (by have := Nat.mul_le_mul (show T.len + 1 ≤ 10000000001 by omega) (show i.bytes ≤ 1000 by omega); rw [← hby]; omega) (by omega)
  have hlen : (T.app (.cons hd t' e' .nil)).len = T.len + 1 := by rw [Fo.len_app]; rfl
  have hfg := fr_grown g2
  have hvl := h2.own.lt
  have hR : Rw ty B v' (T.app (.cons hd t' e' .nil)) (cs ++ hcells hd lv vt ve) e2 w3 := by
    refine ⟨by rw [hlen]; exact g1, fun q => ?_⟩
    obtain ⟨x1, x2, x3⟩ := hx q
    have hP : ∀ b, b < w2.heap.size → (w.heap.size ≤ b ∧ b < w1.heap.size) → v'.ownBlock ≠ some b ∧ v.ownBlock ≠ some b := by
      intro b hb hq
      have hv : v.ownBlock ≠ some b := by
        intro hv
        have := (h.own.lt b hv).2
        omega
      refine ⟨fun hv' => ?_, hv⟩
      rcases g3 b hv' with q1 | q1
      · exact hv q1
      · omega
    have m0 : ∀ b, b < w2.heap.size → (fun b => B ≤ b ∧ v.ownBlock ≠ some b) b → (fun b => (B ≤ b ∧ v.ownBlock ≠ some b) ∧ b < w2.heap.size) b := fun b h1 h2 => ⟨h2, h1⟩
    have up : ∀ i ∈ v.ownBlock.toList, ¬ (fun b => (B ≤ b ∧ v.ownBlock ≠ some b) ∧ b < w2.heap.size) i := by
      intro i hi hp
      have : v.ownBlock = some i := by simpa using hi
      exact hp.1.2 this
    refine Enc.app ?_ ((((h2.enc q).mono m0).fr hfg up).mono (fun b hb hp => ⟨hp.1.1, fun hv' => ?_⟩))
    · have m1 : ∀ b, b < w1.heap.size → w.heap.size ≤ b → (fun b => w.heap.size ≤ b ∧ b < w1.heap.size) b := fun b h1 h2 => ⟨h2, h1⟩
      have ub : ∀ i ∈ v.ownBlock.toList, ¬ (fun b => w.heap.size ≤ b ∧ b < w1.heap.size) i := by
        intro i hi hp
        have hv : v.ownBlock = some i := by simpa using hi
        have := (h.own.lt i hv).2
        have hp' : w.heap.size ≤ i ∧ i < w1.heap.size := hp
        omega
      have fin : ∀ b, b < w3.heap.size → (fun b => w.heap.size ≤ b ∧ b < w1.heap.size) b → (fun b => B ≤ b ∧ v'.ownBlock ≠ some b) b := fun b _ hq => ⟨Nat.le_trans hB hq.1, (hP b (by have := hq.2; omega) hq).1⟩
      have y1 := (((x1.mono m1).fr (Fr.of hbl []) (by simp)).fr hfg ub).mono fin
      have y2 := (((x2.mono m1).fr (Fr.of hbl []) (by simp)).fr hfg ub).mono fin
      have y3 := (((x3.mono m1).fr (Fr.of hbl []) (by simp)).fr hfg ub).mono fin
      exact ⟨lv, vt, ve, [], by rw [List.append_nil], y1, y2, y3, rfl⟩
    · rcases g3 b hv' with q1 | q1
      · exact hp.1.2 q1
      · have := hp.2
        omega
  obtain ⟨p, s, rfl⟩ := hR.slice
  rw [hlen] at hr hR
  refine ⟨p, s, w3, hr, hR, fun l W hF hW => ((hF.bel hbl).grown g2 (fun g hg => .inr ?_)), ⟨v.ownBlock.toList, (Fr.of hbl _).trans hfg, fun i hi => ?_⟩⟩
  · have := (hvl g hg).1; omega
  · exact (hvl i (by simpa using hi)).1
end Go.Proofs.YtjoonmpjcophnaaGreatDoor
namespace Go.Proofs.YtjoonmpjcophnaaGreatDoor
open Go.RowKit

theorem Slc.all {A B : World} {P : Nat → Prop} {n : Nat} {cs : List Value} {v : Value} (h : Slc A P n cs v) (k : ∀ (p : Addr) v, P p.block → A.cell? p = some v → B.cell? p = some v) : Slc B P n cs v := by
  obtain ⟨a, cap, h1, h2, h3, h4⟩ := h
  refine ⟨a, cap, h1, h2, h3, ?_⟩
  rcases h4 with h4 | ⟨b, off, h5, h6, h7⟩
  · exact .inl h4
  · refine .inr ⟨b, off, h5, h6, fun j u hj => k _ _ (h6 ?_) (h7 j u hj)⟩
    apply Nat.pos_of_ne_zero
    intro h0
    rw [h3.1 h0] at hj
    cases hj
theorem Enc.all {A B : World} {P : Nat → Prop} (k : ∀ (p : Addr) v, P p.block → A.cell? p = some v → B.cell? p = some v) : ∀ {T : Fo} {cs : List Value}, Enc A P T cs → Enc B P T cs
  | .nil, _, h => h
  | .cons _ _ _ _, _, ⟨vl, vt, ve, rest, h1, h2, ⟨ct, h3, h4⟩, ⟨ce, h5, h6⟩, h7⟩ => ⟨vl, vt, ve, rest, h1, h2.all k, ⟨ct, Enc.all k h3, h4.all k⟩, ⟨ce, Enc.all k h5, h6.all k⟩, Enc.all k h7⟩
theorem Fov.all {A B : World} {P : Nat → Prop} {T : Fo} {v : Value} (h : Fov A P T v) (k : ∀ (p : Addr) v, P p.block → A.cell? p = some v → B.cell? p = some v) : Fov B P T v := by
  obtain ⟨cs, h1, h2⟩ := h
  exact ⟨cs, h1.all k, h2.all k⟩

/-- How a thing of one kind lies: so many cells, and what they lead to. -/
structure El (α : Type) where
  k : Nat
  kpos : 0 < k
  rep : World → (Nat → Prop) → α → List Value → Prop
  len : ∀ {w P x cs}, rep w P x cs → cs.length = k
  one : ∀ {w P x cs}, rep w P x cs → ∀ u ∈ cs, u.oneCell' = true
  all : ∀ {A B : World} {P x cs}, rep A P x cs → (∀ (p : Addr) v, P p.block → A.cell? p = some v → B.cell? p = some v) → rep B P x cs
  mono : ∀ {w : World} {P P' : Nat → Prop} {x cs}, (∀ b, b < w.heap.size → P b → P' b) → rep w P x cs → rep w P' x cs
section
variable {α : Type} {E : El α}
/-- Things, one behind the other. -/
def Els (E : El α) (w : World) (P : Nat → Prop) : List α → List Value → Prop
  | [], cs => cs = []
  | x :: xs, cs => ∃ c r, cs = c ++ r ∧ E.rep w P x c ∧ Els E w P xs r
/-- A slice of things. -/
def Sls (E : El α) (w : World) (P : Nat → Prop) (xs : List α) (v : Value) : Prop := ∃ cs, Els E w P xs cs ∧ Slc w P xs.length cs v
theorem Els.len {w : World} {P : Nat → Prop} : ∀ {xs : List α} {cs : List Value}, Els E w P xs cs → cs.length = xs.length * E.k
  | [], cs, h => by rw [show cs = [] from h]; simp
  | x :: xs, cs, ⟨c, r, hc, hx, hr⟩ => by
    rw [hc, List.length_append, E.len hx, Els.len hr, List.length_cons, Nat.add_mul, Nat.one_mul, Nat.add_comm]
theorem Els.one {w : World} {P : Nat → Prop} : ∀ {xs : List α} {cs : List Value}, Els E w P xs cs → ∀ u ∈ cs, u.oneCell' = true
  | [], cs, h, u, hu => by rw [show cs = [] from h] at hu; cases hu
  | x :: xs, cs, ⟨c, r, hc, hx, hr⟩, u, hu => by
    rw [hc] at hu
    rcases List.mem_append.1 hu with q | q
    · exact E.one hx u q
    · exact Els.one hr u q
theorem Els.all {A B : World} {P : Nat → Prop} (k : ∀ (p : Addr) v, P p.block → A.cell? p = some v → B.cell? p = some v) : ∀ {xs : List α} {cs : List Value}, Els E A P xs cs → Els E B P xs cs
  | [], _, h => h
  | _ :: _, _, ⟨c, r, hc, hx, hr⟩ => ⟨c, r, hc, E.all hx k, Els.all k hr⟩
theorem Els.mono {w : World} {P P' : Nat → Prop} (k : ∀ b, b < w.heap.size → P b → P' b) : ∀ {xs : List α} {cs : List Value}, Els E w P xs cs → Els E w P' xs cs
  | [], _, h => h
  | _ :: _, _, ⟨c, r, hc, hx, hr⟩ => ⟨c, r, hc, E.mono k hx, Els.mono k hr⟩
theorem Els.app {w : World} {P : Nat → Prop} {ys : List α} {ds : List Value} (h2 : Els E w P ys ds) : ∀ {xs : List α} {cs : List Value}, Els E w P xs cs → Els E w P (xs ++ ys) (cs ++ ds)
  | [], cs, h => by rw [show cs = [] from h]; exact h2
  | _ :: _, _, ⟨c, r, hc, hx, hr⟩ => ⟨c, r ++ ds, by rw [hc, List.append_assoc], hx, Els.app h2 hr⟩
theorem els_one {w : World} {P : Nat → Prop} {x : α} {c : List Value} (h : E.rep w P x c) : Els E w P [x] c := ⟨c, [], by rw [List.append_nil], h, rfl⟩
theorem Els.fr {w w' : World} {P : Nat → Prop} {l : List Nat} {xs : List α} {cs : List Value} (h : Els E w P xs cs) (hf : Fr l w w') (hl : ∀ i ∈ l, ¬ P i) : Els E w' P xs cs := h.all fun _ _ hp hc => hf.keep hc (fun hm => hl _ hm hp)
theorem Els.at {w : World} {P : Nat → Prop} : ∀ {xs : List α} {cs : List Value} {i : Nat} {x : α}, Els E w P xs cs → xs[i]? = some x → ∃ c, E.rep w P x c ∧ ∀ j, j < E.k → cs[i * E.k + j]? = c[j]?
  | [], _, _, _, _, hh => by cases hh
  | y :: xs, cs, 0, x, ⟨c, r, hc, hx, _⟩, hh => by
    injection hh with hh
    subst hh
    refine ⟨c, hx, fun j hj => ?_⟩
    rw [hc, Nat.zero_mul, Nat.zero_add, List.getElem?_append_left (by rw [E.len hx]; exact hj)]
  | y :: xs, cs, i + 1, x, ⟨c, r, hc, hx, hr⟩, hh => by
    obtain ⟨d, h1, h2⟩ := Els.at hr (i := i) (x := x) hh
    refine ⟨d, h1, fun j hj => ?_⟩
    rw [← h2 j hj, hc, List.getElem?_append_right (by rw [E.len hx, Nat.add_mul]; omega), E.len hx]
    congr 1
    rw [Nat.add_mul]
    omega
theorem Sls.mono {w : World} {P P' : Nat → Prop} {xs : List α} {v : Value} (h : Sls E w P xs v) (k : ∀ b, b < w.heap.size → P b → P' b) : Sls E w P' xs v := by
  obtain ⟨cs, h1, h2⟩ := h
  exact ⟨cs, h1.mono k, h2.mono k⟩
theorem Sls.all {A B : World} {P : Nat → Prop} {xs : List α} {v : Value} (h : Sls E A P xs v) (k : ∀ (p : Addr) v, P p.block → A.cell? p = some v → B.cell? p = some v) : Sls E B P xs v := by
  obtain ⟨cs, h1, h2⟩ := h
  exact ⟨cs, h1.all k, h2.all k⟩
theorem Sls.fr {w w' : World} {P : Nat → Prop} {l : List Nat} {xs : List α} {v : Value} (h : Sls E w P xs v) (hf : Fr l w w') (hl : ∀ i ∈ l, ¬ P i) : Sls E w' P xs v := h.all fun _ _ hp hc => hf.keep hc (fun hm => hl _ hm hp)
theorem sls_nil (w : World) (P : Nat → Prop) : Sls E w P [] (.slice none 0 0) := ⟨[], rfl, slc_nil w P⟩
theorem Sls.slc {w : World} {P : Nat → Prop} {xs : List α} {v : Value} (h : Sls E w P xs v) : ∃ a cap, v = .slice a xs.length cap := by
  obtain ⟨_, _, a, cap, h, _⟩ := h
  exact ⟨a, cap, h⟩
/-- A slice of things: where it lies, and each of them. -/
theorem Sls.open {w : World} {P : Nat → Prop} {xs : List α} {v : Value} (h : Sls E w P xs v) : ∃ a cap, v = .slice a xs.length cap ∧ xs.length ≤ cap ∧ (xs.length = 0 ∨ ∃ b off, a = some ⟨b, off, none⟩ ∧ P b ∧ ∀ i x, xs[i]? = some x →
    ∃ c, E.rep w P x c ∧ ∀ j, j < E.k → w.cell? ⟨b, off + i * E.k + j, none⟩ = c[j]?) := by
  obtain ⟨cs, h1, a, cap, h2, h3, h4, h5⟩ := h
  refine ⟨a, cap, h2, h3, ?_⟩
  rcases h5 with ⟨h6, _⟩ | ⟨b, off, h6, h7, h8⟩
  · exact .inl h6
  · by_cases h0 : xs.length = 0
    · exact .inl h0
    · refine .inr ⟨b, off, h6, h7 (by omega), fun i x hi => ?_⟩
      obtain ⟨c, hc, q⟩ := h1.at hi
      refine ⟨c, hc, fun j hj => ?_⟩
      have hu : ∃ u, c[j]? = some u := ⟨_, List.getElem?_eq_getElem (by rw [E.len hc]; exact hj)⟩
      obtain ⟨u, hu⟩ := hu
      rw [hu, Nat.add_assoc]
      exact h8 _ _ ((q j hj).trans hu)
/-- A row that is being made; what it leads to lies elsewhere, or in elder blocks. -/
structure Rye (E : El α) (Q : Nat → Prop) (t : TypeId) (B : Nat) (v : Value) (xs : List α) (cs : List Value) (e : Int) (w : World) : Prop where
  own : w.ownsRow B t E.k v xs.length cs
  enc : e = 0 → Els E w (fun b => Q b ∧ b < B ∨ B ≤ b ∧ v.ownBlock ≠ some b) xs cs
theorem rye_nil (E : El α) (Q : Nat → Prop) (t : TypeId) (B : Nat) (e : Int) (w : World) : Rye E Q t B (.slice none 0 0) [] [] e w := ⟨World.ownsRow_nil _ _ _ _, fun _ => rfl⟩
theorem Rye.fr {Q : Nat → Prop} {t : TypeId} {B : Nat} {v : Value} {xs : List α} {cs : List Value} {e e' : Int} {w w' : World} {l : List Nat} (h : Rye E Q t B v xs cs e w) (hf : Fr l w w') (hl : ∀ i ∈ l, v.ownBlock ≠ some i ∧ ¬ (Q i ∧ i < B ∨ B ≤ i ∧ v.ownBlock ≠ some i)) (he : e' = 0 → e = 0) : Rye E Q t B v xs cs e' w' := by
  refine ⟨⟨h.own.1, ?_⟩, fun q => (h.enc (he q)).fr hf (fun i hi => (hl i hi).2)⟩
  rcases h.own.2 with hn | ⟨g, cap, cur, h1, hb, hgg, rest⟩
  · exact .inl hn
  · refine .inr ⟨g, cap, cur, h1, hb, ?_, rest⟩
    rw [hf.block g (Array.getElem?_eq_some_iff.1 hgg).1 (fun hm => (hl g hm).1 (by rw [h1]; rfl))]
    exact hgg
theorem Rye.fr0 {Q : Nat → Prop} {t : TypeId} {B : Nat} {v : Value} {xs : List α} {cs : List Value} {e e' : Int} {w w' : World} (h : Rye E Q t B v xs cs e w) (hf : Fr [] w w') (he : e' = 0 → e = 0) : Rye E Q t B v xs cs e' w' := h.fr hf (by simp) he
theorem Rye.slice {Q : Nat → Prop} {t : TypeId} {B : Nat} {v : Value} {xs : List α} {cs : List Value} {e : Int} {w : World} (h : Rye E Q t B v xs cs e w) : ∃ p s, v = .slice p xs.length s := by
  rcases h.own.2 with ⟨h1, h2⟩ | ⟨g, cap, cur, h1, _⟩
  · exact ⟨none, 0, by rw [h1, h2]⟩
  · exact ⟨_, _, h1⟩
theorem Rye.sls {Q : Nat → Prop} {t : TypeId} {B : Nat} {v : Value} {xs : List α} {cs : List Value} {e : Int} {w : World} (h : Rye E Q t B v xs cs e w) (he : e = 0) : Sls E w (fun b => Q b ∧ b < B ∨ B ≤ b) xs v :=
  ⟨cs, (h.enc he).mono (fun _ _ hb => hb.elim .inl (fun q => .inr q.1)), slc_own h.own E.kpos (fun g hg => .inr (h.own.lt g hg).1)⟩
/-- One thing more, out of a row of one that was just laid. -/
theorem Rye.app {Q : Nat → Prop} {t ty : TypeId} {i : TypeInfo} {z : Value} {bytes : Nat} (ht : Tryz.prog.underlying t = some (.slice ty)) (hi : Tryz.prog.info? ty = some i) (hz : i.zero = some z)
    (hsize : i.size = E.k) (hby : i.bytes = bytes) (hb1 : bytes ≤ 1000) (hzs : z.cells.size = E.k) {B : Nat} {v : Value} {xs : List α} {cs : List Value} {e e2 : Int} {w w1 : World} (h : Rye E Q ty B v xs cs e w) (hf : Fr [] w w1)
    (hB : B ≤ w.heap.size) (hn : xs.length ≤ 10000000000) {x : α} {c : List Value} {o : Addr} (hcl : c.length = E.k) (hone : ∀ u ∈ c, u.oneCell' = true) (he : e2 = 0 → e = 0)
    (hx : e2 = 0 → E.rep w1 (fun b => Q b ∧ b < B ∨ w.heap.size ≤ b) x c) (hcell : ∀ j u, c[j]? = some u → w1.cell? (o.add j) = some u) :
    ∃ p s w3, (Builtin.append_ #[t, t] t #[v, .slice (some o) 1 1]).run Tryz.prog w1 = .ok (.slice p (xs.length + 1) s) w3 ∧ Rye E Q ty B (.slice p (xs.length + 1) s) (xs ++ [x]) (cs ++ c) e2 w3 ∧ Fr v.ownBlock.toList w1 w3 ∧
      (∀ g, (Value.slice p (xs.length + 1) s).ownBlock = some g → v.ownBlock = some g ∨ w1.heap.size ≤ g) := by
  have h1 := h.fr0 (e' := e2) hf he
  have hsz := hf.size
  obtain ⟨v', w3, hr, g1, g2, g3⟩ := app_own (c := 1) ht hi hz hsize hby hzs E.kpos h1.own (m := 1) (news := c) (by rw [hcl, Nat.one_mul]) hcell hone (by unfold maxLen; omega) (by have := Nat.mul_le_mul (show xs.length + 1 ≤ 10000000001 by omega) (show i.bytes ≤ 1000 by omega); rw [← hby]; omega) (by omega)
  have hfg := fr_grown g2
  have hvl := h1.own.lt
  have hlen : (xs ++ [x]).length = xs.length + 1 := by simp
  have hv0 : ∀ b, v.ownBlock = some b → B ≤ b ∧ b < w.heap.size := fun b hb => h.own.lt b hb
  have hR : Rye E Q ty B v' (xs ++ [x]) (cs ++ c) e2 w3 := by
    refine ⟨by rw [hlen]; exact g1, fun q => ?_⟩
    have hv1 : ∀ b, v'.ownBlock = some b → v.ownBlock = some b ∨ w1.heap.size ≤ b := g3
    have m0 : ∀ b, b < w1.heap.size → (fun b => Q b ∧ b < B ∨ B ≤ b ∧ v.ownBlock ≠ some b) b → (fun b => (Q b ∧ b < B ∨ B ≤ b ∧ v.ownBlock ≠ some b) ∧ b < w1.heap.size) b := fun b h1 h2 => ⟨h2, h1⟩
    have fin0 : ∀ b, b < w3.heap.size → (fun b => (Q b ∧ b < B ∨ B ≤ b ∧ v.ownBlock ≠ some b) ∧ b < w1.heap.size) b → (fun b => Q b ∧ b < B ∨ B ≤ b ∧ v'.ownBlock ≠ some b) b := by
      intro b _ hq
      rcases hq.1 with q1 | q1
      · exact .inl q1
      · refine .inr ⟨q1.1, fun hv' => ?_⟩
        rcases hv1 b hv' with q2 | q2
        · exact q1.2 q2
        · have := hq.2; omega
    have up : ∀ i ∈ v.ownBlock.toList, ¬ (fun b => (Q b ∧ b < B ∨ B ≤ b ∧ v.ownBlock ≠ some b) ∧ b < w1.heap.size) i := by
      intro i hi hp
      have hv : v.ownBlock = some i := by simpa using hi
      rcases hp.1 with q1 | q1
      · have := (hv0 i hv).1; omega
      · exact q1.2 hv
    have m1 : ∀ b, b < w1.heap.size → (fun b => Q b ∧ b < B ∨ w.heap.size ≤ b) b → (fun b => (Q b ∧ b < B ∨ B ≤ b ∧ v.ownBlock ≠ some b) ∧ b < w1.heap.size) b := by
      intro b h1 h2
      refine ⟨h2.elim .inl (fun q => .inr ⟨by omega, fun hv => ?_⟩), h1⟩
      have := (hv0 b hv).2
      omega
    exact Els.app ((els_one (((E.mono m1 (hx q))))).fr hfg up |>.mono fin0) (((h1.enc q).mono m0).fr hfg up |>.mono fin0)
  obtain ⟨p, s, rfl⟩ := hR.slice
  rw [hlen] at hr hR g3
  exact ⟨p, s, w3, hr, hR, hfg, g3⟩
end
end Go.Proofs.YtjoonmpjcophnaaGreatDoor
namespace Go.Proofs.YtjoonmpjcophnaaGreatDoor
open Go.RowKit

/-- A function's type. -/
abbrev Ty := List Int × List Int
def eTy : El Ty where
  k := 2
  kpos := by decide
  rep w P x cs := ∃ v1 v2, cs = [v1, v2] ∧ Slc w P x.1.length (bys x.1) v1 ∧ Slc w P x.2.length (bys x.2) v2
  len := by rintro _ _ _ _ ⟨_, _, rfl, _⟩; rfl
  one := by
    rintro _ _ _ _ ⟨_, _, rfl, h1, h2⟩ u hu
    simp only [List.mem_cons, List.not_mem_nil, or_false] at hu
    rcases hu with rfl | rfl
    · exact h1.one
    · exact h2.one
  all := by rintro _ _ _ _ _ ⟨v1, v2, h, h1, h2⟩ k; exact ⟨v1, v2, h, h1.all k, h2.all k⟩
  mono := by rintro _ _ _ _ _ k ⟨v1, v2, h, h1, h2⟩; exact ⟨v1, v2, h, h1.mono k, h2.mono k⟩
/-- A thing that leads nowhere. -/
def eFlat {α : Type} (k : Nat) (kpos : 0 < k) (f : α → List Value) (hl : ∀ x, (f x).length = k) (ho : ∀ x, ∀ u ∈ f x, u.oneCell' = true) : El α where
  k := k
  kpos := kpos
  rep _ _ x cs := cs = f x
  len := by rintro _ _ x _ rfl; exact hl x
  one := by rintro _ _ x _ rfl; exact ho x
  all := by rintro _ _ _ _ _ h _; exact h
  mono := by rintro _ _ _ _ _ _ h; exact h
/-- Limits: at first, at most, whether there is that. -/
def lmCells (x : Lm) : List Value := [.int .u32 x.1, .int .u32 x.2.1, .bool x.2.2]
def eLim : El Lm := eFlat 3 (by decide) lmCells (fun _ => rfl) (fun x u hu => by simp only [lmCells, List.mem_cons, List.not_mem_nil, or_false] at hu; rcases hu with rfl | rfl | rfl <;> rfl)
def eU : El Int := eFlat 1 (by decide) (fun x => [.int .u32 x]) (fun _ => rfl) (fun x u hu => by simp only [List.mem_cons, List.not_mem_nil, or_false] at hu; subst hu; rfl)
/-- An import. -/
structure Imp where
  mod : List Int
  nam : List Int
  kind : Int
  ty : Int
  lim : Lm
  val : Int
  mu : Bool
def imCells (x : Imp) : List Value := [.string (strOfNums x.mod), .string (strOfNums x.nam), .int .i64 x.kind, .int .u32 x.ty, .int .u32 x.lim.1, .int .u32 x.lim.2.1, .bool x.lim.2.2, .int .u8 x.val, .bool x.mu]
def eIm : El Imp := eFlat 9 (by decide) imCells (fun _ => rfl) (fun x u hu => by simp only [imCells, List.mem_cons, List.not_mem_nil, or_false] at hu; rcases hu with rfl | rfl | rfl | rfl | rfl | rfl | rfl | rfl | rfl <;> rfl)
/-- An export. -/
abbrev Ex := List Int × Int × Int
def exCells (x : Ex) : List Value := [.string (strOfNums x.1), .int .i64 x.2.1, .int .u32 x.2.2]
def eEx : El Ex := eFlat 3 (by decide) exCells (fun _ => rfl) (fun x u hu => by simp only [exCells, List.mem_cons, List.not_mem_nil, or_false] at hu; rcases hu with rfl | rfl | rfl <;> rfl)
theorem Fov.one {w : World} {P : Nat → Prop} {T : Fo} {v : Value} (h : Fov w P T v) : v.oneCell' = true := by
  obtain ⟨_, _, h⟩ := h
  exact h.one
/-- A thing of three cells: a word, and two that lead on. -/
def eThree {α : Type} (a : α → Value) (ha : ∀ x, (a x).oneCell' = true) (b c : World → (Nat → Prop) → α → Value → Prop) (bo : ∀ {w P x v}, b w P x v → v.oneCell' = true) (co : ∀ {w P x v}, c w P x v → v.oneCell' = true)
    (ba : ∀ {A B : World} {P x v}, b A P x v → (∀ (p : Addr) v, P p.block → A.cell? p = some v → B.cell? p = some v) → b B P x v) (ca : ∀ {A B : World} {P x v}, c A P x v → (∀ (p : Addr) v, P p.block → A.cell? p = some v → B.cell? p = some v) → c B P x v)
    (bm : ∀ {w : World} {P P' : Nat → Prop} {x v}, (∀ b, b < w.heap.size → P b → P' b) → b w P x v → b w P' x v) (cm : ∀ {w : World} {P P' : Nat → Prop} {x v}, (∀ b, b < w.heap.size → P b → P' b) → c w P x v → c w P' x v) : El α where
  k := 3
  kpos := by decide
  rep w P x cs := ∃ v1 v2, cs = [a x, v1, v2] ∧ b w P x v1 ∧ c w P x v2
  len := by rintro _ _ _ _ ⟨_, _, rfl, _⟩; rfl
  one := by
    rintro _ _ x _ ⟨_, _, rfl, h1, h2⟩ u hu
    simp only [List.mem_cons, List.not_mem_nil, or_false] at hu
    rcases hu with rfl | rfl | rfl
    · exact ha x
    · exact bo h1
    · exact co h2
  all := by rintro _ _ _ _ _ ⟨v1, v2, h, h1, h2⟩ k; exact ⟨v1, v2, h, ba h1 k, ca h2 k⟩
  mono := by rintro _ _ _ _ _ k ⟨v1, v2, h, h1, h2⟩; exact ⟨v1, v2, h, bm k h1, cm k h2⟩
/-- A function: its type, its locals, its body. -/
abbrev Fn := Int × List Int × Fo
def eFn : El Fn := eThree (fun x => .int .u32 x.1) (fun _ => rfl) (fun w P x v => Slc w P x.2.1.length (bys x.2.1) v) (fun w P x v => Fov w P x.2.2 v) (fun h => h.one) (fun h => h.one) (fun h k => h.all k) (fun h k => h.all k) (fun k h => h.mono k) (fun h k => k.mono h)
/-- A global: its type, whether it may be written, its expression. -/
abbrev Ce := Int × Bool × Fo
def eCe : El Ce := eThree (fun x => .int .u8 x.1) (fun _ => rfl) (fun _ _ x v => v = .bool x.2.1) (fun w P x v => Fov w P x.2.2 v) (fun h => by subst h; rfl) (fun h => h.one) (fun h _ => h) (fun h k => h.all k) (fun _ h => h) (fun h k => k.mono h)
/-- Functions that go to a table. -/
abbrev Em := Int × Fo × List Int
def eEm : El Em := eThree (fun x => .int .u32 x.1) (fun _ => rfl) (fun w P x v => Fov w P x.2.1 v) (fun w P x v => Slc w P x.2.2.length (uCells x.2.2) v) (fun h => h.one) (fun h => h.one) (fun h k => h.all k) (fun h k => h.all k) (fun h k => k.mono h) (fun k h => h.mono k)
/-- Bytes that go to a memory. -/
def eDa : El Em := eThree (fun x => .int .u32 x.1) (fun _ => rfl) (fun w P x v => Fov w P x.2.1 v) (fun w P x v => Slc w P x.2.2.length (bys x.2.2) v) (fun h => h.one) (fun h => h.one) (fun h k => h.all k) (fun h k => h.all k) (fun h k => k.mono h) (fun k h => h.mono k)
/-- A module. -/
structure Mo where
  types : List Ty
  imps : List Imp
  funcs : List Fn
  tabs : List Lm
  mems : List Lm
  globs : List Ce
  exps : List Ex
  starts : Bool
  start : Int
  elems : List Em
  datas : List Em
def mo0 : Mo := ⟨[], [], [], [], [], [], [], false, 0, [], []⟩
/-- A module's eleven cells. -/
structure MoR (w : World) (P : Nat → Prop) (m : Mo) (vs : List Value) : Prop where
  ex : ∃ v0 v1 v2 v3 v4 v5 v6 v9 v10, vs = [v0, v1, v2, v3, v4, v5, v6, .bool m.starts, .int .u32 m.start, v9, v10] ∧ Sls eTy w P m.types v0 ∧ Sls eIm w P m.imps v1 ∧ Sls eFn w P m.funcs v2 ∧ Sls eLim w P m.tabs v3 ∧ Sls eLim w P m.mems v4 ∧ Sls eCe w P m.globs v5 ∧ Sls eEx w P m.exps v6 ∧ Sls eEm w P m.elems v9 ∧ Sls eDa w P m.datas v10
theorem MoR.all {A B : World} {P : Nat → Prop} {m : Mo} {vs : List Value} (h : MoR A P m vs) (k : ∀ (p : Addr) v, P p.block → A.cell? p = some v → B.cell? p = some v) : MoR B P m vs := by
  obtain ⟨v0, v1, v2, v3, v4, v5, v6, v9, v10, h, a, b, c, d, e, f, g, i, j⟩ := h.ex
  exact ⟨⟨v0, v1, v2, v3, v4, v5, v6, v9, v10, h, a.all k, b.all k, c.all k, d.all k, e.all k, f.all k, g.all k, i.all k, j.all k⟩⟩
theorem MoR.mono {w : World} {P P' : Nat → Prop} {m : Mo} {vs : List Value} (h : MoR w P m vs) (k : ∀ b, b < w.heap.size → P b → P' b) : MoR w P' m vs := by
  obtain ⟨v0, v1, v2, v3, v4, v5, v6, v9, v10, h, a, b, c, d, e, f, g, i, j⟩ := h.ex
  exact ⟨⟨v0, v1, v2, v3, v4, v5, v6, v9, v10, h, a.mono k, b.mono k, c.mono k, d.mono k, e.mono k, f.mono k, g.mono k, i.mono k, j.mono k⟩⟩
end Go.Proofs.YtjoonmpjcophnaaGreatDoor
namespace Go.Proofs.YtjoonmpjcophnaaGreatDoor

/-- So many things, one behind the other; a list of them. -/
def repR {A : Type} (f : Rr A) : Nat → Rr (List A)
  | 0 => giv []
  | n + 1 => bd [] f fun x => bd [] (repR f n) fun L => giv (x :: L)
def rList {A : Type} (f : Rr A) : Rr (List A) := bd [] rCount fun n => repR f n.toNat
def rExp (sat : Bool) : Rr Fo := bd .nil (sq sat 0 false) fun s => giv s.1
def rKind : Rr Int := bd 0 rB fun b => tst (decide (b ≤ 3)) b 0 107
def im0 : Imp := ⟨[], [], 0, 0, (0, 0, false), 0, false⟩
def rImpK (m n : List Int) (k : Int) : Rr Imp :=
  if k = 0 then bd im0 (rU 32) fun t => giv ⟨m, n, k, t, (0, 0, false), 0, false⟩
  else if k = 1 then bd im0 rTable fun l => giv ⟨m, n, k, 0, l, 0, false⟩
  else if k = 2 then bd im0 rLimits fun l => giv ⟨m, n, k, 0, l, 0, false⟩
  else bd im0 rGlobal fun g => giv ⟨m, n, k, 0, (0, 0, false), g.1, g.2⟩
def rImp : Rr Imp := bd im0 rName fun m => bd im0 rName fun n => bd im0 rKind fun k => rImpK m n k
def rEx : Rr Ex := bd ([], 0, 0) rName fun n => bd ([], 0, 0) rKind fun k => bd ([], 0, 0) (rU 32) fun x => giv (n, k, x)
def rCe (sat : Bool) : Rr Ce := bd (0, false, .nil) rGlobal fun g => bd (0, false, .nil) (rExp sat) fun e => giv (g.1, g.2, e)
def rEm (sat : Bool) : Rr Em := bd (0, .nil, []) (rU 32) fun t => bd (0, .nil, []) (rExp sat) fun e => bd (0, .nil, []) (rList (rU 32)) fun L => giv (t, e, L)
def rBytes : Rr (List Int) := bd [] (rU 32) fun n => rP n.toNat
def rDa (sat : Bool) : Rr Em := bd (0, .nil, []) (rU 32) fun t => bd (0, .nil, []) (rExp sat) fun e => bd (0, .nil, []) rBytes fun L => giv (t, e, L)
/-- Bytes of one's own, of which just these are read. -/
def alone {A : Type} (f : Rr A) (b : List Int) : Rr A := fun _ => ((f b).1, 0, if (f b).2.2 = 0 then (if (f b).2.1 < b.length then 105 else 0) else (f b).2.2)
def rPc {A : Type} (z : A) (f : Rr A) : Rr A := bd z rBytes fun b => alone f b
def sumN (L : List (Int × Int)) : Int := L.foldl (fun s q => s + q.1) 0
def spread (L : List (Int × Int)) : List Int := L.flatMap fun q => List.replicate q.1.toNat q.2
def rPair : Rr (Int × Int) := bd (0, 0) (rU 32) fun k => bd (0, 0) rValue fun t => giv (k, t)
def rLoc : Rr (List Int) := bd [] (rList rPair) fun L => bd [] (tst (decide (sumN L ≤ 4294967295)) () () 110) fun _ => tst (decide (sumN L ≤ 1024)) (spread L) [] 3
def rFn (sat : Bool) : Rr Fn := bd (0, [], .nil) rLoc fun L => bd (0, [], .nil) (rExp sat) fun b => giv (0, L, b)
/-- What is read so far, and the functions' types. -/
abbrev St := Mo × List Int
/-- A section's content: what it adds. -/
def rSec (sat : Bool) (n : Int) (s : St) : Rr St :=
  if n = 0 then bd s rName fun _ => fun l => (s, l.length, 0)
  else if n = 1 then bd s (rList rFunc) fun L => giv ({ s.1 with types := s.1.types ++ L }, s.2)
  else if n = 2 then bd s (rList rImp) fun L => giv ({ s.1 with imps := s.1.imps ++ L }, s.2)
  else if n = 3 then bd s (rList (rU 32)) fun L => giv (s.1, L)
  else if n = 4 then bd s (rList rTable) fun L => giv ({ s.1 with tabs := s.1.tabs ++ L }, s.2)
  else if n = 5 then bd s (rList rLimits) fun L => giv ({ s.1 with mems := s.1.mems ++ L }, s.2)
  else if n = 6 then bd s (rList (rCe sat)) fun L => giv ({ s.1 with globs := s.1.globs ++ L }, s.2)
  else if n = 7 then bd s (rList rEx) fun L => giv ({ s.1 with exps := s.1.exps ++ L }, s.2)
  else if n = 8 then bd s (rU 32) fun x => giv ({ s.1 with starts := true, start := x }, s.2)
  else if n = 9 then bd s (rList (rEm sat)) fun L => giv ({ s.1 with elems := s.1.elems ++ L }, s.2)
  else if n = 10 then bd s (rList (rPc (0, [], .nil) (rFn sat))) fun L => giv ({ s.1 with funcs := s.1.funcs ++ L }, s.2)
  else bd s (rList (rDa sat)) fun L => giv ({ s.1 with datas := s.1.datas ++ L }, s.2)
def stp1 (sat : Bool) (hi : Int) (s : St) (n : Int) : Rr St := if 11 < n ∨ 0 < n ∧ n ≤ hi then fun _ => (s, 0, 104) else rPc s (rSec sat n s)
/-- Sections up to the bytes' end; hi: the highest number so far. -/
def rMod (sat : Bool) : Nat → Int → St → Rr St
  | 0, _, s => fun _ => (s, 0, 100)
  | f + 1, hi, s => fun l => if l = [] then (s, 0, 0) else bd s rB (fun n => bd s (stp1 sat hi s n) fun s' => rMod sat f (max hi n) s') l
def magic : List Int := [0, 97, 115, 109, 1, 0, 0, 0]
def setTypes : List Int → List Fn → List Fn
  | t :: ts, f :: fs => (t, f.2) :: setTypes ts fs
  | _, fs => fs
/-- The document's answer. -/
def dec (sat : Bool) (xs : List Int) : Mo × Int :=
  if 65536 < xs.length then (mo0, 3)
  else if xs.take 8 ≠ magic then (mo0, 103)
  else if (rMod sat (xs.length + 1) 0 (mo0, []) (xs.drop 8)).2.2 ≠ 0 then (mo0, (rMod sat (xs.length + 1) 0 (mo0, []) (xs.drop 8)).2.2)
  else if (rMod sat (xs.length + 1) 0 (mo0, []) (xs.drop 8)).1.2.length ≠ (rMod sat (xs.length + 1) 0 (mo0, []) (xs.drop 8)).1.1.funcs.length then (mo0, 109)
  else ({ (rMod sat (xs.length + 1) 0 (mo0, []) (xs.drop 8)).1.1 with funcs := setTypes (rMod sat (xs.length + 1) 0 (mo0, []) (xs.drop 8)).1.2 (rMod sat (xs.length + 1) 0 (mo0, []) (xs.drop 8)).1.1.funcs }, 0)
end Go.Proofs.YtjoonmpjcophnaaGreatDoor
namespace Go.Proofs.YtjoonmpjcophnaaGreatDoor
open Go.RowKit

/-- One of the instructions; the first ones. -/
def Fo.at : Fo → Nat → Option (Hd × Fo × Fo)
  | .nil, _ => none
  | .cons h t e _, 0 => some (h, t, e)
  | .cons _ _ _ r, i + 1 => r.at i
def Fo.pre : Nat → Fo → Fo
  | 0, _ => .nil
  | _ + 1, .nil => .nil
  | n + 1, .cons h t e r => .cons h t e (r.pre n)
theorem Fo.at_some : ∀ {T : Fo} {i : Nat}, i < T.len → ∃ x, T.at i = some x
  | .nil, _, h => absurd h (Nat.not_lt_zero _)
  | .cons h t e _, 0, _ => ⟨(h, t, e), rfl⟩
  | .cons _ _ _ r, i + 1, h => Fo.at_some (T := r) (i := i) (by have h' : i + 1 < r.len + 1 := h; omega)
theorem Fo.pre_succ : ∀ {T : Fo} {i : Nat} {h : Hd} {t e : Fo}, T.at i = some (h, t, e) → T.pre (i + 1) = (T.pre i).app (.cons h t e .nil)
  | .nil, _, _, _, _, hh => by cases hh
  | .cons h t e r, 0, _, _, _, hh => by injection hh with hh; injection hh with h1 hh; injection hh with h2 h3; subst h1; subst h2; subst h3; cases r <;> rfl
  | .cons h t e r, i + 1, _, _, _, hh => by
    show Fo.cons h t e (r.pre (i + 1)) = Fo.cons h t e ((r.pre i).app _)
    rw [Fo.pre_succ (T := r) hh]
theorem Fo.pre_all : ∀ T : Fo, T.pre T.len = T
  | .nil => rfl
  | .cons h t e r => by show Fo.cons h t e (r.pre r.len) = _; rw [r.pre_all]
theorem Fo.pre_len : ∀ (T : Fo) (i : Nat), i ≤ T.len → (T.pre i).len = i
  | _, 0, _ => rfl
  | .nil, i + 1, h => absurd h (Nat.not_succ_le_zero _)
  | .cons h t e r, i + 1, hh => by show (r.pre i).len + 1 = i + 1; rw [r.pre_len i (by have h' : i + 1 ≤ r.len + 1 := hh; omega)]
theorem Fo.at_size : ∀ {T : Fo} {i : Nat} {h : Hd} {t e : Fo}, T.at i = some (h, t, e) → 1 + t.size + e.size ≤ T.size
  | .nil, _, _, _, _, hh => by cases hh
  | .cons h t e r, 0, _, _, _, hh => by injection hh with hh; injection hh with h1 hh; injection hh with h2 h3; subst h2; subst h3; show _ ≤ 1 + t.size + e.size + r.size; omega
  | .cons h t e r, i + 1, _, _, _, hh => by have := Fo.at_size (T := r) hh; show _ ≤ 1 + t.size + e.size + r.size; omega
theorem Enc.at {w : World} {P : Nat → Prop} : ∀ {T : Fo} {cs : List Value} {i : Nat} {h : Hd} {t e : Fo}, Enc w P T cs → T.at i = some (h, t, e) →
    ∃ vl vt ve, (∀ j, j < 9 → cs[i * 9 + j]? = (hcells h vl vt ve)[j]?) ∧ Slc w P h.list.length (uCells h.list) vl ∧ Fov w P t vt ∧ Fov w P e ve
  | .nil, _, _, _, _, _, _, hh => by cases hh
  | .cons h t e r, _, 0, _, _, _, ⟨vl, vt, ve, rest, h1, h2, h3, h4, _⟩, hh => by
    injection hh with hh; injection hh with g1 hh; injection hh with g2 g3; subst g1; subst g2; subst g3
    refine ⟨vl, vt, ve, fun j hj => ?_, h2, h3, h4⟩
    rw [h1, Nat.zero_mul, Nat.zero_add, List.getElem?_append_left (by show j < 9; exact hj)]
  | .cons h t e r, _, i + 1, _, _, _, ⟨vl, vt, ve, rest, h1, _, _, _, h5⟩, hh => by
    obtain ⟨ul, ut, ue, q1, q2⟩ := Enc.at h5 hh
    refine ⟨ul, ut, ue, fun j hj => ?_, q2⟩
    rw [← q1 j hj, h1, List.getElem?_append_right (by show 9 ≤ _; omega)]
    congr 1
    show (i + 1) * 9 + j - 9 = _
    omega
/-- A slice of instructions: where it lies, and each of them. -/
theorem Fov.open {w : World} {P : Nat → Prop} {T : Fo} {v : Value} (h : Fov w P T v) : ∃ a cap, v = .slice a T.len cap ∧ T.len ≤ cap ∧ (T.len = 0 ∨ ∃ b off, a = some ⟨b, off, none⟩ ∧ P b ∧ ∀ i hd t e, T.at i = some (hd, t, e) →
    ∃ vl vt ve, (∀ j, j < 9 → w.cell? ⟨b, off + i * 9 + j, none⟩ = (hcells hd vl vt ve)[j]?) ∧ Slc w P hd.list.length (uCells hd.list) vl ∧ Fov w P t vt ∧ Fov w P e ve) := by
  obtain ⟨cs, h1, a, cap, h2, h3, h4, h5⟩ := h
  refine ⟨a, cap, h2, h3, ?_⟩
  rcases h5 with ⟨h6, _⟩ | ⟨b, off, h6, h7, h8⟩
  · exact .inl h6
  · by_cases h0 : T.len = 0
    · exact .inl h0
    · refine .inr ⟨b, off, h6, h7 (by omega), fun i hd t e hi => ?_⟩
      obtain ⟨vl, vt, ve, q1, q2⟩ := h1.at hi
      refine ⟨vl, vt, ve, fun j hj => ?_, q2⟩
      have q := q1 j hj
      have hs : ∃ u, (hcells hd vl vt ve)[j]? = some u := ⟨_, List.getElem?_eq_getElem (show j < 9 from hj)⟩
      obtain ⟨u, hu⟩ := hs
      rw [hu] at q ⊢
      rw [Nat.add_assoc]
      exact h8 _ _ q
/-- An instruction's cells. -/
def Elt (w : World) (b o : Nat) (hd : Hd) (vl vt ve : Value) : Prop := w.cell? ⟨b, o, none⟩ = some (.int .i64 hd.op) ∧ w.cell? ⟨b, o + 1, none⟩ = some (.int .u8 hd.ty) ∧ w.cell? ⟨b, o + 2, none⟩ = some (.int .u32 hd.a) ∧ w.cell? ⟨b, o + 3, none⟩ = some (.int .u32 hd.b) ∧ w.cell? ⟨b, o + 4, none⟩ = some (.int .u64 hd.bits) ∧
  w.cell? ⟨b, o + 5, none⟩ = some vl ∧ w.cell? ⟨b, o + 6, none⟩ = some vt ∧ w.cell? ⟨b, o + 7, none⟩ = some ve ∧ w.cell? ⟨b, o + 8, none⟩ = some (.bool hd.has)
theorem Elt.fr {w w' : World} {b o : Nat} {hd : Hd} {vl vt ve : Value} {l : List Nat} (h : Elt w b o hd vl vt ve) (hf : Fr l w w') (hn : b ∉ l) : Elt w' b o hd vl vt ve :=
  ⟨hf.keep h.1 hn, hf.keep h.2.1 hn, hf.keep h.2.2.1 hn, hf.keep h.2.2.2.1 hn, hf.keep h.2.2.2.2.1 hn, hf.keep h.2.2.2.2.2.1 hn, hf.keep h.2.2.2.2.2.2.1 hn, hf.keep h.2.2.2.2.2.2.2.1 hn, hf.keep h.2.2.2.2.2.2.2.2 hn⟩
theorem Fov.slc {w : World} {P : Nat → Prop} {T : Fo} {v : Value} (h : Fov w P T v) : ∃ a cap, v = .slice a T.len cap := by
  obtain ⟨_, _, a, cap, h, _⟩ := h
  exact ⟨a, cap, h⟩
theorem Fov.open2 {w : World} {P : Nat → Prop} {T : Fo} {v : Value} (h : Fov w P T v) : ∃ a cap, v = .slice a T.len cap ∧ T.len ≤ cap ∧ (T.len = 0 ∨ ∃ b off, a = some ⟨b, off, none⟩ ∧ P b ∧ ∀ i hd t e, T.at i = some (hd, t, e) →
    ∃ l1 l3 t1 t3 e1 e3, Elt w b (off + i * 9) hd (.slice l1 hd.list.length l3) (.slice t1 t.len t3) (.slice e1 e.len e3) ∧ Slc w P hd.list.length (uCells hd.list) (.slice l1 hd.list.length l3) ∧ Fov w P t (.slice t1 t.len t3) ∧ Fov w P e (.slice e1 e.len e3)) := by
  obtain ⟨a, cap, h1, h2, h3⟩ := h.open
  refine ⟨a, cap, h1, h2, ?_⟩
  rcases h3 with h3 | ⟨b, off, h4, h5, h6⟩
  · exact .inl h3
  · refine .inr ⟨b, off, h4, h5, fun i hd t e hi => ?_⟩
    obtain ⟨vl, vt, ve, q, s1, s2, s3⟩ := h6 i hd t e hi
    obtain ⟨l1, l3, rfl⟩ : ∃ a c, vl = .slice a hd.list.length c := by obtain ⟨a, c, h, _⟩ := s1; exact ⟨a, c, h⟩
    obtain ⟨t1, t3, rfl⟩ := s2.slc
    obtain ⟨e1, e3, rfl⟩ := s3.slc
    exact ⟨l1, l3, t1, t3, e1, e3, ⟨q 0 (by decide), q 1 (by decide), q 2 (by decide), q 3 (by decide), q 4 (by decide), q 5 (by decide), q 6 (by decide), q 7 (by decide), q 8 (by decide)⟩, s1, s2, s3⟩
end Go.Proofs.YtjoonmpjcophnaaGreatDoor
