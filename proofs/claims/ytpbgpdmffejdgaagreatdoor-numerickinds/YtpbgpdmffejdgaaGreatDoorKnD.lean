/- Kind and Sat of each opcode; the chapter's examples hold. -/
import Derived.Test.YtpbgpdmffejdgaaGreatDoorNuA
import Derived.Test.YtpbgpdmffejdgaaGreatDoorOpen
import Derived.Test.YtpbgpdmffejdgaaGreatDoorSet2
import Derived.Test.YtpbgpdmffejdgaaGreatDoorTk
import Derived.Test.YtpbgpdmffejdgaaGreatDoorNuB
import Derived.Test.YtpbgpdmffejdgaaGreatDoorNuF
import Derived.Test.YtpbgpdmffejdgaaGreatDoorSumC
import Derived.Test.YtpbgpdmffejdgaaGreatDoorInK
namespace Go.Proofs.YtpbgpdmffejdgaaGreatDoor
open Go.RowKit

/-- How many operands there are. -/
def opn (d k : Int) : Int := if d = 0 then (if k ≤ 0 then 1 else 2) else if d = 2 then (if k ≤ 2 then 1 else 2) else if d = 3 then (if k ≤ 6 then 1 else 2) else if d = 1 then 2 else 1
set_option maxHeartbeats 4000000 in
set_option maxRecDepth 100000 in
theorem opn_w {f n d o k : Int} (h : d = 0 ∨ d = 1 ∨ d = 2 ∨ d = 3 ∨ d = 4 ∨ d = 5) : Ct 26 #[.agg #[.int .i64 f, .int .i64 n, .int .i64 d, .int .u8 o], .int .i64 k] (.int .i64 (opn d k)) := by
  refine hide (fun W => ?_)
  have HO := fun l a => one_l l a
  rcases h with rfl | rfl | rfl | rfl | rfl | rfl
  all_goals
    go_enter Tryz.func26, Tryz.ntmps26
    go_wp2_with fail
    try
      refine (unhide (HO _ _) _).mono ?_
      rintro _ w1 ⟨rfl, hb⟩
      have HB := hide (bthen (below1 _ _) hb)
      clear hb
      go_wp2_with fail
    all_goals
      go_ret
      first | exact ⟨by rfl, below1 _ _⟩ | exact ⟨by first | rfl | (unfold opn; simp <;> omega), unhide HB⟩
set_option maxHeartbeats 4000000 in
set_option maxRecDepth 100000 in
theorem kind_w {op f n d o k ti tu c : Int} (HF : Cm 24 #[.int .i64 op] (.tuple #[.agg #[.int .i64 f, .int .i64 n, .int .i64 d, .int .u8 o], .int .i64 k, .bool true])) (HT : Cm 25 #[.agg #[.int .i64 f, .int .i64 n, .int .i64 d, .int .u8 o], .int .i64 k] (.agg #[.int .u8 ti, .int .u8 tu])) (HO : Ct 26 #[.agg #[.int .i64 f, .int .i64 n, .int .i64 d, .int .u8 o], .int .i64 k] (.int .i64 c)) :
    Cm 10 #[.int .i64 op] (.tuple #[.int .u8 ti, .int .i64 c, .int .u8 tu, .bool true]) := by
  refine hide (fun W m => ?_)
  have HM := hide m
  clear m
  have HB := hide (Below.refl W.heap.size W)
  go_enter Tryz.func10, Tryz.ntmps10
  go_wp2_with fail
  refine (unhide HF _ (unhide HM)).mono ?_
  rintro _ w1 ⟨rfl, hb⟩
  have HB := hide (bthen (unhide HB) hb)
  have HM := hide ((unhide HM).below hb)
  clear hb
  have HB := hide (balloc (unhide HB) (.cells #[.int .i64 f, .int .i64 n, .int .i64 d, .int .u8 o] 55))
  have HG := hide (at4_new w1 (.int .i64 f) (.int .i64 n) (.int .i64 d) (.int .u8 o) 55)
  have HM := hide ((unhide HM).below (below1 w1 (.cells #[.int .i64 f, .int .i64 n, .int .i64 d, .int .u8 o] 55)))
  go_wp2_with fail
  refine (unhide HT _ (unhide HM)).mono ?_
  rintro _ w2 ⟨rfl, hb⟩
  have HB := hide (bthen (unhide HB) hb)
  have HM := hide ((unhide HM).below hb)
  have HG := hide ((unhide HG).below hb)
  clear hb
  have HB := hide (balloc (unhide HB) (.cells #[.int .u8 ti, .int .u8 tu] 59)).drew
  have HG := hide ((unhide HG).below (below1 w2 (.cells #[.int .u8 ti, .int .u8 tu] 59)).drew)
  have HM := hide ((unhide HM).below (below1 w2 (.cells #[.int .u8 ti, .int .u8 tu] 59)).drew)
  have H2 := hide ((at2_new w2 (.int .u8 ti) (.int .u8 tu) 59).below ((Below.refl _ _).drew))
  have HS := hide (And.intro (unhide H2) (unhide HG))
  go_wp2_with fail
  refine wp_region_held_drew (S := fun w' => (w'.cell? ⟨w2.heap.size, 0, none⟩ = some (.int .u8 ti) ∧ w'.cell? ⟨w2.heap.size, 1, none⟩ = some (.int .u8 tu)) ∧ (w'.cell? ⟨w1.heap.size, 0, none⟩ = some (.int .i64 f) ∧ w'.cell? ⟨w1.heap.size, 1, none⟩ = some (.int .i64 n) ∧ w'.cell? ⟨w1.heap.size, 2, none⟩ = some (.int .i64 d) ∧ w'.cell? ⟨w1.heap.size, 3, none⟩ = some (.int .u8 o))) (by kernel_rfl) ?_ (fun hHeld => ?_)
  · (try dsimp only)
    exact unhide HS
  refine lst0 11 (by kernel_rfl) ?_
  refine tkA 0 20 1 ?_
  refine tkA 1 21 3 ?_
  refine tkA 2 22 7 ?_
  refine tkA 3 23 15 ?_
  refine tkA 5 25 47 ?_
  refine tkA 6 26 111 ?_
  refine rdA 4 127 (fun Kk hKk => ?_)
  go_simp
  refine (unhide HO _).mono ?_
  rintro _ w3 ⟨rfl, hb⟩
  have HB := hide (bthen (unhide HB) hb)
  have HM := hide ((unhide HM).below hb)
  have HG := hide ((unhide HG).below hb)
  have H2 := hide ((unhide H2).below hb)
  clear hb
  have HS := hide (And.intro (unhide H2) (unhide HG))
  (try go_wp2_with fail)
  refine hKk.out _ _ ?_ (fun hHeld => ?_)
  · (try dsimp only)
    exact unhide HS
  clear hKk Kk
  (try simp only [List.setIfInBounds_toArray, List.set_cons_zero, List.set_cons_succ])
  refine tkA 7 2 255 ?_
  refine tkA 8 3 511 ?_
  refine tkA 9 4 1023 ?_
  refine tkA 10 5 2047 ?_
  refine wpAnyH_done (by kernel_rfl) ?_ _
  clear hHeld H2
  go_wp2_with fail
  exact bodyPost_ret (v := .tuple #[.int .u8 ti, .int .i64 c, .int .u8 tu, .bool true]) (by simp [results, Tryz.results10, go_sem]) rfl ⟨rfl, unhide HB⟩
set_option maxHeartbeats 4000000 in
set_option maxRecDepth 100000 in
theorem kind_no {op : Int} (HF : Cm 24 #[.int .i64 op] (.tuple #[.agg #[.int .i64 0, .int .i64 0, .int .i64 0, .int .u8 0], .int .i64 0, .bool false])) : Cm 10 #[.int .i64 op] (.tuple #[.int .u8 0, .int .i64 0, .int .u8 0, .bool false]) := by
  refine hide (fun W m => ?_)
  have HM := hide m
  clear m
  have HB := hide (Below.refl W.heap.size W)
  go_enter Tryz.func10, Tryz.ntmps10
  go_wp2_with fail
  refine (unhide HF _ (unhide HM)).mono ?_
  rintro _ w1 ⟨rfl, hb⟩
  have HB := hide (bthen (unhide HB) hb)
  have HM := hide ((unhide HM).below hb)
  clear hb
  have HB := hide (balloc (unhide HB) (.cells #[.int .i64 0, .int .i64 0, .int .i64 0, .int .u8 0] 55))
  go_wp2_with fail
  exact bodyPost_ret (v := .tuple #[.int .u8 0, .int .i64 0, .int .u8 0, .bool false]) (by simp [results, Tryz.results10, go_sem]) rfl ⟨rfl, unhide HB⟩
set_option maxHeartbeats 4000000 in
set_option maxRecDepth 100000 in
theorem sat_w {op f n d o k : Int} (HF : Cm 24 #[.int .i64 op] (.tuple #[.agg #[.int .i64 f, .int .i64 n, .int .i64 d, .int .u8 o], .int .i64 k, .bool true])) : Cm 12 #[.int .i64 op] (.bool (d == 5)) := by
  refine hide (fun W m => ?_)
  have HM := hide m
  clear m
  have HB := hide (Below.refl W.heap.size W)
  go_enter Tryz.func12, Tryz.ntmps12
  go_wp2_with fail
  refine (unhide HF _ (unhide HM)).mono ?_
  rintro _ w1 ⟨rfl, hb⟩
  have HB := hide (bthen (unhide HB) hb)
  have HM := hide ((unhide HM).below hb)
  clear hb
  have HB := hide (balloc (unhide HB) (.cells #[.int .i64 f, .int .i64 n, .int .i64 d, .int .u8 o] 55))
  go_wp2_with fail
  go_ret
  exact ⟨rfl, unhide HB⟩
set_option maxHeartbeats 4000000 in
set_option maxRecDepth 100000 in
theorem sat_no {op : Int} (HF : Cm 24 #[.int .i64 op] (.tuple #[.agg #[.int .i64 0, .int .i64 0, .int .i64 0, .int .u8 0], .int .i64 0, .bool false])) : Cm 12 #[.int .i64 op] (.bool false) := by
  refine hide (fun W m => ?_)
  have HM := hide m
  clear m
  have HB := hide (Below.refl W.heap.size W)
  go_enter Tryz.func12, Tryz.ntmps12
  go_wp2_with fail
  refine (unhide HF _ (unhide HM)).mono ?_
  rintro _ w1 ⟨rfl, hb⟩
  have HB := hide (bthen (unhide HB) hb)
  have HM := hide ((unhide HM).below hb)
  clear hb
  have HB := hide (balloc (unhide HB) (.cells #[.int .i64 0, .int .i64 0, .int .i64 0, .int .u8 0] 55))
  go_wp2_with fail
  go_ret
  exact ⟨rfl, unhide HB⟩

/-- What Kind and Sat answer. -/
def Kn (op ti c tu : Int) (z : Bool) : Prop := Cm 10 #[.int .i64 op] (.tuple #[.int .u8 ti, .int .i64 c, .int .u8 tu, .bool true]) ∧ Cm 12 #[.int .i64 op] (.bool z)
theorem kn_0 {op : Int} (h0 : 69 ≤ op) (h1 : op < 80) : Kn op 127 (opn 0 (op - 69)) 127 false := ⟨kind_w (find_0 h0 h1) (types_0 _ _ _ _).m (opn_w (by decide)), sat_w (find_0 h0 h1)⟩
theorem kn_1 {op : Int} (h0 : 80 ≤ op) (h1 : op < 91) : Kn op 126 (opn 0 (op - 80)) 127 false := ⟨kind_w (find_1 h0 h1) (types_0 _ _ _ _).m (opn_w (by decide)), sat_w (find_1 h0 h1)⟩
theorem kn_2 {op : Int} (h0 : 91 ≤ op) (h1 : op < 97) : Kn op 125 (opn 1 (op - 91)) 127 false := ⟨kind_w (find_2 h0 h1) (types_1 _ _ _ _).m (opn_w (by decide)), sat_w (find_2 h0 h1)⟩
theorem kn_3 {op : Int} (h0 : 97 ≤ op) (h1 : op < 103) : Kn op 124 (opn 1 (op - 97)) 127 false := ⟨kind_w (find_3 h0 h1) (types_1 _ _ _ _).m (opn_w (by decide)), sat_w (find_3 h0 h1)⟩
theorem kn_4 {op : Int} (h0 : 103 ≤ op) (h1 : op < 121) : Kn op 127 (opn 2 (op - 103)) 127 false := ⟨kind_w (find_4 h0 h1) (types_2 _ _ _ _).m (opn_w (by decide)), sat_w (find_4 h0 h1)⟩
theorem kn_5 {op : Int} (h0 : 121 ≤ op) (h1 : op < 139) : Kn op 126 (opn 2 (op - 121)) 126 false := ⟨kind_w (find_5 h0 h1) (types_2 _ _ _ _).m (opn_w (by decide)), sat_w (find_5 h0 h1)⟩
theorem kn_6 {op : Int} (h0 : 139 ≤ op) (h1 : op < 153) : Kn op 125 (opn 3 (op - 139)) 125 false := ⟨kind_w (find_6 h0 h1) (types_3 _ _ _ _).m (opn_w (by decide)), sat_w (find_6 h0 h1)⟩
theorem kn_7 {op : Int} (h0 : 153 ≤ op) (h1 : op < 167) : Kn op 124 (opn 3 (op - 153)) 124 false := ⟨kind_w (find_7 h0 h1) (types_3 _ _ _ _).m (opn_w (by decide)), sat_w (find_7 h0 h1)⟩
theorem kn_8 {op ti tu : Int} {k : Nat} (hx : cL[k * 2]? = some (.int .u8 ti)) (hy : cL[k * 2 + 1]? = some (.int .u8 tu)) (h : op - 167 = (k : Int)) (hk : k < 25) : Kn op ti 1 tu false := by
  have HF := find_8 (op := op) (by omega) (by omega)
  rw [h] at HF
  exact ⟨kind_w HF (types_4 _ _ _ hk hx hy) (opn_w (by decide)), sat_w HF⟩
theorem kn_9 {op ti tu : Int} {k : Nat} (hx : sL[k * 2]? = some (.int .u8 ti)) (hy : sL[k * 2 + 1]? = some (.int .u8 tu)) (h : op - 64512 = (k : Int)) (hk : k < 8) : Kn op ti 1 tu true := by
  have HF := find_9 (op := op) (by omega) (by omega)
  rw [h] at HF
  exact ⟨kind_w HF (types_5 _ _ _ hk hx hy) (opn_w (by decide)), sat_w HF⟩

set_option maxHeartbeats 4000000 in
set_option maxRecDepth 100000 in
theorem aski_0 {w a b : Int} : Cm 35 #[.int .i64 0, .int .i64 w, .int .u64 a, .int .u64 b] (.bool (a == 0)) := by
  refine hide (fun W _ => ?_)
  go_enter Tryz.func35, Tryz.ntmps35
  go_wp2_with fail
  go_ret
  exact ⟨rfl, Below.refl _ _⟩
set_option maxHeartbeats 4000000 in
set_option maxRecDepth 100000 in
theorem aski_1 {w a b : Int} : Cm 35 #[.int .i64 1, .int .i64 w, .int .u64 a, .int .u64 b] (.bool (a == b)) := by
  refine hide (fun W _ => ?_)
  go_enter Tryz.func35, Tryz.ntmps35
  go_wp2_with fail
  go_ret
  exact ⟨rfl, Below.refl _ _⟩
set_option maxHeartbeats 4000000 in
set_option maxRecDepth 100000 in
theorem aski_2 {w a b : Int} : Cm 35 #[.int .i64 2, .int .i64 w, .int .u64 a, .int .u64 b] (.bool (a != b)) := by
  refine hide (fun W _ => ?_)
  go_enter Tryz.func35, Tryz.ntmps35
  go_wp2_with fail
  go_ret
  exact ⟨rfl, Below.refl _ _⟩
set_option maxHeartbeats 4000000 in
set_option maxRecDepth 100000 in
theorem aski_p {k w a b : Int} {t : Bool} (HQ : 
    (k = 3 ∧ Cm 64 #[.int .i64 w, .int .u64 a, .int .u64 b] (.bool t)) ∨
    (k = 4 ∧ Cm 65 #[.int .i64 w, .int .u64 a, .int .u64 b] (.bool t)) ∨
    (k = 5 ∧ Cm 64 #[.int .i64 w, .int .u64 b, .int .u64 a] (.bool t)) ∨
    (k = 6 ∧ Cm 65 #[.int .i64 w, .int .u64 b, .int .u64 a] (.bool t))) :
    Cm 35 #[.int .i64 k, .int .i64 w, .int .u64 a, .int .u64 b] (.bool t) := by
  refine hide (fun W m => ?_)
  have HM := hide m
  clear m
  rcases HQ with ⟨rfl, HC⟩ | ⟨rfl, HC⟩ | ⟨rfl, HC⟩ | ⟨rfl, HC⟩
  all_goals
    have HB := hide (Below.refl W.heap.size W)
    go_enter Tryz.func35, Tryz.ntmps35
    go_wp2_with fail
    refine (unhide HC _ (unhide HM)).mono ?_
    rintro _ w1 ⟨rfl, hb⟩
    have HB := hide (bthen (unhide HB) hb)
    clear hb
    go_wp2_with fail
    go_ret
    exact ⟨rfl, unhide HB⟩
set_option maxHeartbeats 4000000 in
set_option maxRecDepth 100000 in
theorem aski_n {k w a b : Int} {t : Bool} (HQ : 
    (k = 7 ∧ Cm 64 #[.int .i64 w, .int .u64 b, .int .u64 a] (.bool t)) ∨
    (k = 8 ∧ Cm 65 #[.int .i64 w, .int .u64 b, .int .u64 a] (.bool t)) ∨
    (k = 9 ∧ Cm 64 #[.int .i64 w, .int .u64 a, .int .u64 b] (.bool t)) ∨
    (k = 10 ∧ Cm 65 #[.int .i64 w, .int .u64 a, .int .u64 b] (.bool t))) :
    Cm 35 #[.int .i64 k, .int .i64 w, .int .u64 a, .int .u64 b] (.bool (!t)) := by
  refine hide (fun W m => ?_)
  have HM := hide m
  clear m
  rcases HQ with ⟨rfl, HC⟩ | ⟨rfl, HC⟩ | ⟨rfl, HC⟩ | ⟨rfl, HC⟩
  all_goals
    have HB := hide (Below.refl W.heap.size W)
    go_enter Tryz.func35, Tryz.ntmps35
    go_wp2_with fail
    refine (unhide HC _ (unhide HM)).mono ?_
    rintro _ w1 ⟨rfl, hb⟩
    have HB := hide (bthen (unhide HB) hb)
    clear hb
    go_wp2_with fail
    go_ret
    exact ⟨rfl, unhide HB⟩
set_option maxHeartbeats 4000000 in
set_option maxRecDepth 100000 in
theorem askf_w {k w a b : Int} {t : Bool} (HQ : 
    (k = 0 ∧ Cm 66 #[.int .i64 w, .int .u64 a, .int .u64 b] (.bool t)) ∨
    (k = 1 ∧ Cm 67 #[.int .i64 w, .int .u64 a, .int .u64 b] (.bool t)) ∨
    (k = 2 ∧ Cm 68 #[.int .i64 w, .int .u64 a, .int .u64 b] (.bool t)) ∨
    (k = 3 ∧ Cm 69 #[.int .i64 w, .int .u64 a, .int .u64 b] (.bool t)) ∨
    (k = 4 ∧ Cm 70 #[.int .i64 w, .int .u64 a, .int .u64 b] (.bool t)) ∨
    (k = 5 ∧ Cm 71 #[.int .i64 w, .int .u64 a, .int .u64 b] (.bool t))) :
    Cm 36 #[.int .i64 k, .int .i64 w, .int .u64 a, .int .u64 b] (.bool t) := by
  refine hide (fun W m => ?_)
  have HM := hide m
  clear m
  rcases HQ with ⟨rfl, HC⟩ | ⟨rfl, HC⟩ | ⟨rfl, HC⟩ | ⟨rfl, HC⟩ | ⟨rfl, HC⟩ | ⟨rfl, HC⟩
  all_goals
    have HB := hide (Below.refl W.heap.size W)
    go_enter Tryz.func36, Tryz.ntmps36
    go_wp2_with fail
    refine (unhide HC _ (unhide HM)).mono ?_
    rintro _ w1 ⟨rfl, hb⟩
    have HB := hide (bthen (unhide HB) hb)
    clear hb
    go_wp2_with fail
    go_ret
    exact ⟨rfl, unhide HB⟩
set_option maxHeartbeats 4000000 in
set_option maxRecDepth 100000 in
theorem plain_w {k w a b r : Int} (HQ : 
    (k = 0 ∧ Cm 143 #[.int .i64 w, .int .u64 a] (.int .u64 r)) ∨
    (k = 1 ∧ Cm 144 #[.int .i64 w, .int .u64 a] (.int .u64 r)) ∨
    (k = 2 ∧ Cm 145 #[.int .i64 w, .int .u64 a] (.int .u64 r)) ∨
    (k = 3 ∧ Cm 146 #[.int .i64 w, .int .u64 a, .int .u64 b] (.int .u64 r)) ∨
    (k = 4 ∧ Cm 147 #[.int .i64 w, .int .u64 a, .int .u64 b] (.int .u64 r)) ∨
    (k = 5 ∧ Cm 148 #[.int .i64 w, .int .u64 a, .int .u64 b] (.int .u64 r))) :
    Cm 77 #[.int .i64 k, .int .i64 w, .int .u64 a, .int .u64 b] (.int .u64 r) := by
  refine hide (fun W m => ?_)
  have HM := hide m
  clear m
  rcases HQ with ⟨rfl, HC⟩ | ⟨rfl, HC⟩ | ⟨rfl, HC⟩ | ⟨rfl, HC⟩ | ⟨rfl, HC⟩ | ⟨rfl, HC⟩
  all_goals
    have HB := hide (Below.refl W.heap.size W)
    go_enter Tryz.func77, Tryz.ntmps77
    go_wp2_with fail
    refine (unhide HC _ (unhide HM)).mono ?_
    rintro _ w1 ⟨rfl, hb⟩
    have HB := hide (bthen (unhide HB) hb)
    clear hb
    go_wp2_with fail
    go_ret
    exact ⟨rfl, unhide HB⟩
set_option maxHeartbeats 4000000 in
set_option maxRecDepth 100000 in
theorem plain_a {w a b : Int} : Cm 77 #[.int .i64 10, .int .i64 w, .int .u64 a, .int .u64 b] (.int .u64 (bits .and .u64 a b)) := by
  refine hide (fun W _ => ?_)
  go_enter Tryz.func77, Tryz.ntmps77
  go_wp2_with fail
  go_ret
  exact ⟨rfl, Below.refl _ _⟩
set_option maxHeartbeats 4000000 in
set_option maxRecDepth 100000 in
theorem plain_o {w a b : Int} : Cm 77 #[.int .i64 11, .int .i64 w, .int .u64 a, .int .u64 b] (.int .u64 (bits .or .u64 a b)) := by
  refine hide (fun W _ => ?_)
  go_enter Tryz.func77, Tryz.ntmps77
  go_wp2_with fail
  go_ret
  exact ⟨rfl, Below.refl _ _⟩
set_option maxHeartbeats 4000000 in
set_option maxRecDepth 100000 in
theorem plain_x {w a b : Int} : Cm 77 #[.int .i64 12, .int .i64 w, .int .u64 a, .int .u64 b] (.int .u64 (bits .xor .u64 a b)) := by
  refine hide (fun W _ => ?_)
  go_enter Tryz.func77, Tryz.ntmps77
  go_wp2_with fail
  go_ret
  exact ⟨rfl, Below.refl _ _⟩
set_option maxHeartbeats 4000000 in
set_option maxRecDepth 100000 in
theorem move_w {k w a b r : Int} (HQ : 
    (k = 13 ∧ Cm 138 #[.int .i64 w, .int .u64 a, .int .u64 b] (.int .u64 r)) ∨
    (k = 14 ∧ Cm 139 #[.int .i64 w, .int .u64 a, .int .u64 b] (.int .u64 r)) ∨
    (k = 15 ∧ Cm 140 #[.int .i64 w, .int .u64 a, .int .u64 b] (.int .u64 r)) ∨
    (k = 16 ∧ Cm 141 #[.int .i64 w, .int .u64 a, .int .u64 b] (.int .u64 r)) ∨
    (k = 17 ∧ Cm 142 #[.int .i64 w, .int .u64 a, .int .u64 b] (.int .u64 r))) :
    Cm 76 #[.int .i64 k, .int .i64 w, .int .u64 a, .int .u64 b] (.int .u64 r) := by
  refine hide (fun W m => ?_)
  have HM := hide m
  clear m
  rcases HQ with ⟨rfl, HC⟩ | ⟨rfl, HC⟩ | ⟨rfl, HC⟩ | ⟨rfl, HC⟩ | ⟨rfl, HC⟩
  all_goals
    have HB := hide (Below.refl W.heap.size W)
    go_enter Tryz.func76, Tryz.ntmps76
    go_wp2_with fail
    refine (unhide HC _ (unhide HM)).mono ?_
    rintro _ w1 ⟨rfl, hb⟩
    have HB := hide (bthen (unhide HB) hb)
    clear hb
    go_wp2_with fail
    go_ret
    exact ⟨rfl, unhide HB⟩
set_option maxHeartbeats 4000000 in
set_option maxRecDepth 100000 in
theorem makei_d {k w a b r t : Int} (HQ : 
    (k = 6 ∧ Cm 72 #[.int .i64 w, .int .u64 a, .int .u64 b] (.tuple #[.int .u64 r, .int .i64 t])) ∨
    (k = 7 ∧ Cm 73 #[.int .i64 w, .int .u64 a, .int .u64 b] (.tuple #[.int .u64 r, .int .i64 t])) ∨
    (k = 8 ∧ Cm 74 #[.int .i64 w, .int .u64 a, .int .u64 b] (.tuple #[.int .u64 r, .int .i64 t])) ∨
    (k = 9 ∧ Cm 75 #[.int .i64 w, .int .u64 a, .int .u64 b] (.tuple #[.int .u64 r, .int .i64 t]))) :
    Cm 37 #[.int .i64 k, .int .i64 w, .int .u64 a, .int .u64 b] (.tuple #[.int .u64 r, .int .i64 t]) := by
  refine hide (fun W m => ?_)
  have HM := hide m
  clear m
  rcases HQ with ⟨rfl, HC⟩ | ⟨rfl, HC⟩ | ⟨rfl, HC⟩ | ⟨rfl, HC⟩
  all_goals
    have HB := hide (Below.refl W.heap.size W)
    go_enter Tryz.func37, Tryz.ntmps37
    go_wp2_with fail
    refine (unhide HC _ (unhide HM)).mono ?_
    rintro _ w1 ⟨rfl, hb⟩
    have HB := hide (bthen (unhide HB) hb)
    clear hb
    go_wp2_with fail
    go_ret2
    exact ⟨rfl, unhide HB⟩
set_option maxHeartbeats 4000000 in
set_option maxRecDepth 100000 in
theorem makei_s {k w a b r : Int} (HQ : 
    (k = 13 ∧ Cm 76 #[.int .i64 13, .int .i64 w, .int .u64 a, .int .u64 b] (.int .u64 r)) ∨
    (k = 14 ∧ Cm 76 #[.int .i64 14, .int .i64 w, .int .u64 a, .int .u64 b] (.int .u64 r)) ∨
    (k = 15 ∧ Cm 76 #[.int .i64 15, .int .i64 w, .int .u64 a, .int .u64 b] (.int .u64 r)) ∨
    (k = 16 ∧ Cm 76 #[.int .i64 16, .int .i64 w, .int .u64 a, .int .u64 b] (.int .u64 r)) ∨
    (k = 17 ∧ Cm 76 #[.int .i64 17, .int .i64 w, .int .u64 a, .int .u64 b] (.int .u64 r))) :
    Cm 37 #[.int .i64 k, .int .i64 w, .int .u64 a, .int .u64 b] (.tuple #[.int .u64 r, .int .i64 0]) := by
  refine hide (fun W m => ?_)
  have HM := hide m
  clear m
  rcases HQ with ⟨rfl, HC⟩ | ⟨rfl, HC⟩ | ⟨rfl, HC⟩ | ⟨rfl, HC⟩ | ⟨rfl, HC⟩
  all_goals
    have HB := hide (Below.refl W.heap.size W)
    go_enter Tryz.func37, Tryz.ntmps37
    go_wp2_with fail
    refine (unhide HC _ (unhide HM)).mono ?_
    rintro _ w1 ⟨rfl, hb⟩
    have HB := hide (bthen (unhide HB) hb)
    clear hb
    go_wp2_with fail
    go_ret2
    exact ⟨rfl, unhide HB⟩
set_option maxHeartbeats 4000000 in
set_option maxRecDepth 100000 in
theorem makei_p {k w a b r : Int} (HQ : 
    (k = 0 ∧ Cm 77 #[.int .i64 0, .int .i64 w, .int .u64 a, .int .u64 b] (.int .u64 r)) ∨
    (k = 1 ∧ Cm 77 #[.int .i64 1, .int .i64 w, .int .u64 a, .int .u64 b] (.int .u64 r)) ∨
    (k = 2 ∧ Cm 77 #[.int .i64 2, .int .i64 w, .int .u64 a, .int .u64 b] (.int .u64 r)) ∨
    (k = 3 ∧ Cm 77 #[.int .i64 3, .int .i64 w, .int .u64 a, .int .u64 b] (.int .u64 r)) ∨
    (k = 4 ∧ Cm 77 #[.int .i64 4, .int .i64 w, .int .u64 a, .int .u64 b] (.int .u64 r)) ∨
    (k = 5 ∧ Cm 77 #[.int .i64 5, .int .i64 w, .int .u64 a, .int .u64 b] (.int .u64 r)) ∨
    (k = 10 ∧ Cm 77 #[.int .i64 10, .int .i64 w, .int .u64 a, .int .u64 b] (.int .u64 r)) ∨
    (k = 11 ∧ Cm 77 #[.int .i64 11, .int .i64 w, .int .u64 a, .int .u64 b] (.int .u64 r)) ∨
    (k = 12 ∧ Cm 77 #[.int .i64 12, .int .i64 w, .int .u64 a, .int .u64 b] (.int .u64 r))) :
    Cm 37 #[.int .i64 k, .int .i64 w, .int .u64 a, .int .u64 b] (.tuple #[.int .u64 r, .int .i64 0]) := by
  refine hide (fun W m => ?_)
  have HM := hide m
  clear m
  rcases HQ with ⟨rfl, HC⟩ | ⟨rfl, HC⟩ | ⟨rfl, HC⟩ | ⟨rfl, HC⟩ | ⟨rfl, HC⟩ | ⟨rfl, HC⟩ | ⟨rfl, HC⟩ | ⟨rfl, HC⟩ | ⟨rfl, HC⟩
  all_goals
    have HB := hide (Below.refl W.heap.size W)
    go_enter Tryz.func37, Tryz.ntmps37
    go_wp2_with fail
    refine (unhide HC _ (unhide HM)).mono ?_
    rintro _ w1 ⟨rfl, hb⟩
    have HB := hide (bthen (unhide HB) hb)
    clear hb
    go_wp2_with fail
    go_ret2
    exact ⟨rfl, unhide HB⟩
set_option maxHeartbeats 4000000 in
set_option maxRecDepth 100000 in
theorem makef_w {k w a b r : Int} (HQ : 
    (k = 0 ∧ Cm 78 #[.int .i64 w, .int .u64 a] (.int .u64 r)) ∨
    (k = 1 ∧ Cm 79 #[.int .i64 w, .int .u64 a] (.int .u64 r)) ∨
    (k = 2 ∧ Cm 80 #[.int .i64 w, .int .u64 a] (.int .u64 r)) ∨
    (k = 3 ∧ Cm 81 #[.int .i64 w, .int .u64 a] (.int .u64 r)) ∨
    (k = 4 ∧ Cm 82 #[.int .i64 w, .int .u64 a] (.int .u64 r)) ∨
    (k = 5 ∧ Cm 83 #[.int .i64 w, .int .u64 a] (.int .u64 r)) ∨
    (k = 6 ∧ Cm 84 #[.int .i64 w, .int .u64 a] (.int .u64 r)) ∨
    (k = 7 ∧ Cm 85 #[.int .i64 w, .int .u64 a, .int .u64 b] (.int .u64 r)) ∨
    (k = 8 ∧ Cm 86 #[.int .i64 w, .int .u64 a, .int .u64 b] (.int .u64 r)) ∨
    (k = 9 ∧ Cm 87 #[.int .i64 w, .int .u64 a, .int .u64 b] (.int .u64 r)) ∨
    (k = 10 ∧ Cm 88 #[.int .i64 w, .int .u64 a, .int .u64 b] (.int .u64 r)) ∨
    (k = 11 ∧ Cm 89 #[.int .i64 w, .int .u64 a, .int .u64 b] (.int .u64 r)) ∨
    (k = 12 ∧ Cm 90 #[.int .i64 w, .int .u64 a, .int .u64 b] (.int .u64 r)) ∨
    (k = 13 ∧ Cm 91 #[.int .i64 w, .int .u64 a, .int .u64 b] (.int .u64 r))) :
    Cm 38 #[.int .i64 k, .int .i64 w, .int .u64 a, .int .u64 b] (.int .u64 r) := by
  refine hide (fun W m => ?_)
  have HM := hide m
  clear m
  rcases HQ with ⟨rfl, HC⟩ | ⟨rfl, HC⟩ | ⟨rfl, HC⟩ | ⟨rfl, HC⟩ | ⟨rfl, HC⟩ | ⟨rfl, HC⟩ | ⟨rfl, HC⟩ | ⟨rfl, HC⟩ | ⟨rfl, HC⟩ | ⟨rfl, HC⟩ | ⟨rfl, HC⟩ | ⟨rfl, HC⟩ | ⟨rfl, HC⟩ | ⟨rfl, HC⟩
  all_goals
    have HB := hide (Below.refl W.heap.size W)
    go_enter Tryz.func38, Tryz.ntmps38
    go_wp2_with fail
    refine (unhide HC _ (unhide HM)).mono ?_
    rintro _ w1 ⟨rfl, hb⟩
    have HB := hide (bthen (unhide HB) hb)
    clear hb
    go_wp2_with fail
    go_ret
    exact ⟨rfl, unhide HB⟩
theorem dividedU_z {w H M : Int} {n : Nat} (k : Wm w n H M) (a : Int) {b : Int} (hb : Rg b) (g : b % M = 0) : Ct 137 #[.int .i64 w, .int .u64 a, .int .u64 b] (.agg #[.int .u64 0, .int .u64 0, .int .i64 2]) := by
  rcases k with ⟨rfl, rfl, rfl, rfl⟩ | ⟨rfl, rfl, rfl, rfl⟩
  · exact dividedU_m (divu32_r (IntKind.wrap_u32 a) (IntKind.wrap_u32 b) (divu32_z g))
  · exact dividedU_m (divu64_r (divu64_z (by unfold Rg at hb; omega)))
theorem divu_z {w H M : Int} {n : Nat} (k : Wm w n H M) (a : Int) {b : Int} (hb : Rg b) (g : b % M = 0) : Ct 73 #[.int .i64 w, .int .u64 a, .int .u64 b] (.tuple #[.int .u64 0, .int .i64 2]) := divu_m (dividedU_z k a hb g)
theorem Kd.wm {w e f P Q b : Int} (k : Kd w e f P Q b) : Wm w w.toNat (P * Q) (2 * (P * Q)) := by
  rcases k with ⟨rfl, rfl, rfl, rfl, rfl, rfl⟩ | ⟨rfl, rfl, rfl, rfl, rfl, rfl⟩
  · exact wm_32
  · exact wm_64
theorem apf_add {op w e f P Q c a b : Int} (k : Kd w e f P Q c) (ha : Rg a) (hb : Rg b) (h : op - 139 = 7 ∧ w = 32 ∨ op - 153 = 7 ∧ w = 64) : Ap op a b (addB f P Q c (a % (2 * (P * Q))) (b % (2 * (P * Q)))) 0 :=
  ap_makef k.wm ha hb h (by decide) (by decide) (makef_w (Or.inr (Or.inr (Or.inr (Or.inr (Or.inr (Or.inr (Or.inr (Or.inl ⟨rfl, (show Ct _ _ _ from hide fun W => sumAdd_any k W (k.wm.rg a).1 (k.wm.rg a).2 (k.wm.rg b).1 (k.wm.rg b).2).m⟩)))))))))
theorem api_add {op w a b : Int} {n : Nat} {H M : Int} (k : Wm w n H M) (ha : Rg a) (hb : Rg b) (h : op - 103 = 3 ∧ w = 32 ∨ op - 121 = 3 ∧ w = 64) : Ap op a b (((a % M) + (b % M)) % M) 0 :=
  ap_makei k ha hb h (by decide) (by decide) (makei_p (Or.inr (Or.inr (Or.inr (Or.inl ⟨rfl, plain_w (Or.inr (Or.inr (Or.inr (Or.inl ⟨rfl, (add_any k _ _).m⟩))))⟩)))))
theorem api_divu_z {op w a b : Int} {n : Nat} {H M : Int} (k : Wm w n H M) (ha : Rg a) (hb : Rg b) (g : ((b % M) % M) = 0) (h : op - 103 = 7 ∧ w = 32 ∨ op - 121 = 7 ∧ w = 64) : Ap op a b 0 2 :=
  ap_makei k ha hb h (by decide) (by decide) (makei_d (Or.inr (Or.inl ⟨rfl, (divu_z k _ (k.rg b) g).m⟩)))

set_option maxHeartbeats 4000000 in
set_option maxRecDepth 100000 in
theorem awake_w {r : Int} (H1 : Ap 106 4294967295 1 0 0) (H2 : Ap 110 5 0 r 2) (H3 : Ap 146 1065353216 1065353216 1073741824 0) : Cm 9 #[] (.bool true) := by
  refine hide (fun W m => ?_)
  have HM := hide m
  clear m
  have HB := hide (Below.refl W.heap.size W)
  go_enter Tryz.func9, Tryz.ntmps9
  go_wp2_with fail
  refine (unhide H1 _ (unhide HM)).mono ?_
  rintro _ w1 ⟨rfl, hb⟩
  have HB := hide (bthen (unhide HB) hb)
  have HM := hide ((unhide HM).below hb)
  clear hb
  go_wp2_with fail
  refine (unhide H2 _ (unhide HM)).mono ?_
  rintro _ w2 ⟨rfl, hb⟩
  have HB := hide (bthen (unhide HB) hb)
  have HM := hide ((unhide HM).below hb)
  clear hb
  go_wp2_with fail
  refine (unhide H3 _ (unhide HM)).mono ?_
  rintro _ w3 ⟨rfl, hb⟩
  have HB := hide (bthen (unhide HB) hb)
  clear hb
  go_wp2_with fail
  go_ret
  exact ⟨rfl, unhide HB⟩
theorem aw_a : addB 23 8388608 256 127 1065353216 1065353216 = 1073741824 := by decide +kernel
theorem rg0 {z : Int} (h : 0 ≤ z ∧ z < 18446744073709551616) : Rg z := h
theorem awake_any : Cm 9 #[] (.bool true) := by
  have h3 := apf_add (op := 146) (a := 1065353216) (b := 1065353216) (Or.inl ⟨rfl, rfl, rfl, rfl, rfl, rfl⟩ : Kd 32 8 23 8388608 256 127) (by unfold Rg; omega) (by unfold Rg; omega) (Or.inl ⟨rfl, rfl⟩)
  rw [show (1065353216 : Int) % (2 * (8388608 * 256)) = 1065353216 from rfl, aw_a] at h3
  exact awake_w (api_add (op := 106) wm_32 (by unfold Rg; omega) (by unfold Rg; omega) (Or.inl ⟨rfl, rfl⟩)) (api_divu_z (op := 110) wm_32 (by unfold Rg; omega) (by unfold Rg; omega) rfl (Or.inl ⟨rfl, rfl⟩)) h3
end Go.Proofs.YtpbgpdmffejdgaaGreatDoor
