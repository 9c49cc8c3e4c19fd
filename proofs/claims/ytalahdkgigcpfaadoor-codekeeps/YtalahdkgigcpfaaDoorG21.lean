/- NuK. -/
import Derived.Test.YtalahdkgigcpfaaDoorG01
import Derived.Test.YtalahdkgigcpfaaDoorG07
import Derived.Test.YtalahdkgigcpfaaDoorG08
namespace Go.Proofs.YtalahdkgigcpfaaDoor
open Go.RowKit

/-- How many operands there are. -/
def opn (d k : Int) : Int := if d = 0 then (if k ≤ 0 then 1 else 2) else if d = 2 then (if k ≤ 2 then 1 else 2) else if d = 3 then (if k ≤ 6 then 1 else 2) else if d = 1 then 2 else 1
set_option maxHeartbeats 4000000 in
set_option maxRecDepth 100000 in
theorem opn_w {f n d o k : Int} (h : d = 0 ∨ d = 1 ∨ d = 2 ∨ d = 3 ∨ d = 4 ∨ d = 5) : Ct 83 #[.agg #[.int .i64 f, .int .i64 n, .int .i64 d, .int .u8 o], .int .i64 k] (.int .i64 (opn d k)) := by
  refine hide (fun W => ?_)
  have HO := fun l a => one_l l a
  rcases h with rfl | rfl | rfl | rfl | rfl | rfl
  all_goals
    go_enter Tryd.func83, Tryd.ntmps83
    go_wp2_with fail
    try
      refine (unhide (HO _ _) _).mono ?_
      rintro _ w1 ⟨rfl, hb⟩
      have HB := hide (bthen (below1 _ _) hb)
      clear hb
      go_wp2_with fail
    all_goals
      go_ret
      first | exact ⟨by rfl, below1 _ _⟩ | exact ⟨by first | rfl | (unfold opn; simp <;> omega), unhide HB⟩
set_option maxHeartbeats 4000000 in
set_option maxRecDepth 100000 in
theorem kind_w {op f n d o k ti tu c : Int} (HF : Cm 81 #[.int .i64 op] (.tuple #[.agg #[.int .i64 f, .int .i64 n, .int .i64 d, .int .u8 o], .int .i64 k, .bool true])) (HT : Cm 82 #[.agg #[.int .i64 f, .int .i64 n, .int .i64 d, .int .u8 o], .int .i64 k] (.agg #[.int .u8 ti, .int .u8 tu])) (HO : Ct 83 #[.agg #[.int .i64 f, .int .i64 n, .int .i64 d, .int .u8 o], .int .i64 k] (.int .i64 c)) :
    Cm 66 #[.int .i64 op] (.tuple #[.int .u8 ti, .int .i64 c, .int .u8 tu, .bool true]) := by
  refine hide (fun W m => ?_)
  have HM := hide m
  clear m
  have HB := hide (Below.refl W.heap.size W)
  go_enter Tryd.func66, Tryd.ntmps66
  go_wp2_with fail
  refine (unhide HF _ (unhide HM)).mono ?_
  rintro _ w1 ⟨rfl, hb⟩
  have HB := hide (bthen (unhide HB) hb)
  have HM := hide ((unhide HM).below hb)
  clear hb
  have HB := hide (balloc (unhide HB) (.cells #[.int .i64 f, .int .i64 n, .int .i64 d, .int .u8 o] 109))
  have HG := hide (at4_new w1 (.int .i64 f) (.int .i64 n) (.int .i64 d) (.int .u8 o) 109)
  have HM := hide ((unhide HM).below (below1 w1 (.cells #[.int .i64 f, .int .i64 n, .int .i64 d, .int .u8 o] 109)))
  go_wp2_with fail
  refine (unhide HT _ (unhide HM)).mono ?_
  rintro _ w2 ⟨rfl, hb⟩
  have HB := hide (bthen (unhide HB) hb)
  have HM := hide ((unhide HM).below hb)
  have HG := hide ((unhide HG).below hb)
  clear hb
  have HB := hide (balloc (unhide HB) (.cells #[.int .u8 ti, .int .u8 tu] 113)).drew
  have HG := hide ((unhide HG).below (below1 w2 (.cells #[.int .u8 ti, .int .u8 tu] 113)).drew)
  have HM := hide ((unhide HM).below (below1 w2 (.cells #[.int .u8 ti, .int .u8 tu] 113)).drew)
  have H2 := hide ((at2_new w2 (.int .u8 ti) (.int .u8 tu) 113).below ((Below.refl _ _).drew))
  have HS := hide (And.intro (unhide H2) (unhide HG))
  go_wp2_with fail
  refine wp_region_held_drew (S := fun w' => (w'.cell? ⟨w2.heap.size, 0, none⟩ = some (.int .u8 ti) ∧ w'.cell? ⟨w2.heap.size, 1, none⟩ = some (.int .u8 tu)) ∧ (w'.cell? ⟨w1.heap.size, 0, none⟩ = some (.int .i64 f) ∧ w'.cell? ⟨w1.heap.size, 1, none⟩ = some (.int .i64 n) ∧ w'.cell? ⟨w1.heap.size, 2, none⟩ = some (.int .i64 d) ∧ w'.cell? ⟨w1.heap.size, 3, none⟩ = some (.int .u8 o))) (by kernel_rfl) ?_ (fun hHeld => ?_)
  · (try dsimp only)
    exact unhide HS
  refine lst0 11 (by kernel_rfl) ?_
  refine tkA 0 20 1 ?_
  refine tkA 1 21 3 ?_
  refine tkA 2 22 7 ?_
  refine tkA 3 23 15 ?_
  refine tkA 5 25 47 ?_
  refine tkA 6 26 111 ?_
  refine rdA 4 127 (fun Kk hKk => ?_)
  go_simp
  refine (unhide HO _).mono ?_
  rintro _ w3 ⟨rfl, hb⟩
  have HB := hide (bthen (unhide HB) hb)
  have HM := hide ((unhide HM).below hb)
  have HG := hide ((unhide HG).below hb)
  have H2 := hide ((unhide H2).below hb)
  clear hb
  have HS := hide (And.intro (unhide H2) (unhide HG))
  (try go_wp2_with fail)
  refine hKk.out _ _ ?_ (fun hHeld => ?_)
  · (try dsimp only)
    exact unhide HS
  clear hKk Kk
  (try simp only [List.setIfInBounds_toArray, List.set_cons_zero, List.set_cons_succ])
  refine tkA 7 2 255 ?_
  refine tkA 8 3 511 ?_
  refine tkA 9 4 1023 ?_
  refine tkA 10 5 2047 ?_
  refine wpAnyH_done (by kernel_rfl) ?_ _
  clear hHeld H2
  go_wp2_with fail
  exact bodyPost_ret (v := .tuple #[.int .u8 ti, .int .i64 c, .int .u8 tu, .bool true]) (by simp [results, Tryd.results66, go_sem]) rfl ⟨rfl, unhide HB⟩
set_option maxHeartbeats 4000000 in
set_option maxRecDepth 100000 in
theorem kind_no {op : Int} (HF : Cm 81 #[.int .i64 op] (.tuple #[.agg #[.int .i64 0, .int .i64 0, .int .i64 0, .int .u8 0], .int .i64 0, .bool false])) : Cm 66 #[.int .i64 op] (.tuple #[.int .u8 0, .int .i64 0, .int .u8 0, .bool false]) := by
  refine hide (fun W m => ?_)
  have HM := hide m
  clear m
  have HB := hide (Below.refl W.heap.size W)
  go_enter Tryd.func66, Tryd.ntmps66
  go_wp2_with fail
  refine (unhide HF _ (unhide HM)).mono ?_
  rintro _ w1 ⟨rfl, hb⟩
  have HB := hide (bthen (unhide HB) hb)
  have HM := hide ((unhide HM).below hb)
  clear hb
  have HB := hide (balloc (unhide HB) (.cells #[.int .i64 0, .int .i64 0, .int .i64 0, .int .u8 0] 109))
  go_wp2_with fail
  exact bodyPost_ret (v := .tuple #[.int .u8 0, .int .i64 0, .int .u8 0, .bool false]) (by simp [results, Tryd.results66, go_sem]) rfl ⟨rfl, unhide HB⟩
end Go.Proofs.YtalahdkgigcpfaaDoor
