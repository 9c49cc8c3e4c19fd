/- The reference's Access. -/
import Derived.Test.YtkpdanjfdcoldaaDoorRdA
import Derived.WalkMore
namespace Go.Proofs.YtkpdanjfdcoldaaDoor
open Go.RowKit

set_option maxHeartbeats 8000000 in
set_option maxRecDepth 100000 in
theorem rtype_i32 : Ct 27 #[.string ⟨#[105, 51, 50]⟩] (.int .u8 127) := hide fun W => by
  go_enter Tryd.func27, Tryd.ntmps27
  go_wp2_with fail
  go_ret
  exact ⟨rfl, Below.refl _ _⟩
set_option maxHeartbeats 8000000 in
set_option maxRecDepth 100000 in
theorem rtype_i64 : Ct 27 #[.string ⟨#[105, 54, 52]⟩] (.int .u8 126) := hide fun W => by
  go_enter Tryd.func27, Tryd.ntmps27
  go_wp2_with fail
  go_ret
  exact ⟨rfl, Below.refl _ _⟩
set_option maxHeartbeats 8000000 in
set_option maxRecDepth 100000 in
theorem rtype_f32 : Ct 27 #[.string ⟨#[102, 51, 50]⟩] (.int .u8 125) := hide fun W => by
  go_enter Tryd.func27, Tryd.ntmps27
  go_wp2_with fail
  go_ret
  exact ⟨rfl, Below.refl _ _⟩
set_option maxHeartbeats 8000000 in
set_option maxRecDepth 100000 in
theorem rtype_f64 : Ct 27 #[.string ⟨#[102, 54, 52]⟩] (.int .u8 124) := hide fun W => by
  go_enter Tryd.func27, Tryd.ntmps27
  go_wp2_with fail
  go_ret
  exact ⟨rfl, Below.refl _ _⟩
set_option maxHeartbeats 8000000 in
set_option maxRecDepth 100000 in
theorem racc_no (op : Int) (h : op < 40 ∨ 62 < op) : Ct 11 #[.int .i64 op] (.tuple #[.int .u8 0, .int .i64 0, .bool false, .bool false]) := hide fun W => by
  rcases h with h | h
  · go_enter Tryd.func11, Tryd.ntmps11
    go_wp2_with fail
    exact bodyPost_ret (v := .tuple #[.int .u8 0, .int .i64 0, .bool false, .bool false]) (by simp [results, Tryd.results11, go_sem]) rfl ⟨rfl, Below.refl _ _⟩
  · have h1 : ¬ op < 40 := by omega
    go_enter Tryd.func11, Tryd.ntmps11
    go_wp2_with fail
    exact bodyPost_ret (v := .tuple #[.int .u8 0, .int .i64 0, .bool false, .bool false]) (by simp [results, Tryd.results11, go_sem]) rfl ⟨rfl, Below.refl _ _⟩
set_option maxHeartbeats 8000000 in
set_option maxRecDepth 100000 in
theorem racc_t (op : Int) (k : Nat) (x y : ByteArray) (ty m a1 a2 : Int) (st : Bool) (c4 : Nat) (h1 : 40 ≤ op) (h2 : op ≤ 62) (hk : (k : Int) = op - 40) (hx : accL[k]? = some x) (hm : sizL[k]? = some m)
    (hy : x.extract 0 3 = y) (h3 : (3 : Int) ≤ (x.size : Int)) (u1 : IntKind.i64.wrap ((x.size : Int) - 1) = a1) (u2 : IntKind.i64.wrap ((x.size : Int) - 2) = a2) (g1 : 0 ≤ a1 ∧ a1 < (x.size : Int)) (i1 : ∀ h : a1.toNat < x.size, (x[a1.toNat]'h).toNat = 115) (g2 : 0 ≤ a2 ∧ a2 < (x.size : Int)) (i2 : ∀ h : a2.toNat < x.size, (x[a2.toNat]'h).toNat = 95) (g4 : (4 : Int) < (x.size : Int)) (i4 : ∀ h : 4 < x.size, (x[4]'h).toNat = c4) (e4 : ((c4 : Int) == 115) = st)
    (HT : Ct 27 #[.string y] (.int .u8 ty)) : Ct 11 #[.int .i64 op] (.tuple #[.int .u8 ty, .int .i64 m, .bool true, .bool st]) := hide fun W => by
  have HA := accL_l
  have HZ := sizL_l
  have HM := hide hm
  have HX := hide hx
  have ek : IntKind.i64.wrap (op - 40) = (k : Int) := by rw [i64_id (by omega) (by omega), hk]
  have hk3 : (k : Int) < 23 := by omega
  have n1 : ¬ op < 40 := by omega
  have n2 : ¬ 62 < op := by omega
  clear hm hx hk h1 h2
  go_enter Tryd.func11, Tryd.ntmps11
  go_wp2_with fail
  refine ((unhide HA) _).mono ?_
  rintro _ w2 ⟨b, rfl, hT2, hb2⟩
  have hcell2 := hT2 k (.string x) (by rw [List.getElem?_map, unhide HX]; rfl)
  have hn2 : accL.length = 23 := rfl
  simp only [hn2]
  go_wp2_with fail
  refine wp_region_held_drew (S := fun _ => True) (by kernel_rfl) trivial (fun hHeld => ?_)
  refine lst0 29 (by kernel_rfl) ?_
  refine tkA 0 18 1 ?_
  refine tkA 1 19 3 ?_
  refine tkA 4 22 19 ?_
  refine tkA 5 23 51 ?_
  refine tkA 8 26 307 ?_
  refine tkA 9 27 819 ?_
  refine tkA 10 28 1843 ?_
  refine tkA 11 29 3891 ?_
  refine tkA 12 30 7987 ?_
  refine tkA 13 31 16179 ?_
  refine tkA 22 40 4210483 ?_
  refine tkA 23 41 12599091 ?_
  refine tkA 24 42 29376307 ?_
  refine rdA 2 29376311 (fun Kk hKk => ?_)
  go_simp
  refine ((unhide HT) _).mono ?_
  rintro _ w3 ⟨rfl, hb3⟩
  (try go_wp2_with fail)
  refine hKk.out _ _ trivial (fun hHeld => ?_)
  clear hKk Kk
  (try simp only [List.setIfInBounds_toArray, List.set_cons_zero, List.set_cons_succ])
  refine rdA 3 29376319 (fun Kk hKk => ?_)
  go_simp
  refine ((unhide HZ) _).mono ?_
  rintro _ w4 ⟨c, rfl, hT4, hb4⟩
  have hcell4 := hT4 k (.int .i64 m) (by rw [List.getElem?_map, unhide HM]; rfl)
  have hn4 : sizL.length = 23 := rfl
  simp only [hn4]
  (try go_wp2_with fail)
  refine hKk.out _ _ trivial (fun hHeld => ?_)
  clear hKk Kk
  (try simp only [List.setIfInBounds_toArray, List.set_cons_zero, List.set_cons_succ])
  refine tkA 14 32 29392703 ?_
  refine tkA 15 33 29425471 ?_
  refine tkA 16 34 29491007 ?_
  refine tkA 17 35 29622079 ?_
  refine tkA 18 36 29884223 ?_
  refine tkA 19 37 30408511 ?_
  refine tkA 20 38 31457087 ?_
  refine tkA 21 39 33554239 ?_
  refine tkA 6 24 33554303 ?_
  refine tkA 25 2 67108735 ?_
  clear i1 i2 g2 u2 g1 g4 i4 u1 hy h3
  refine rdA 7 67108863 (fun Kk hKk => ?_)
  go_simp
  refine hKk.out _ _ trivial (fun hHeld => ?_)
  clear hKk Kk
  (try simp only [List.setIfInBounds_toArray, List.set_cons_zero, List.set_cons_succ])
  refine tkA 26 3 134217727 ?_
  refine tkA 27 4 268435455 ?_
  refine tkA 28 5 536870911 ?_
  refine wpAnyH_done (by kernel_rfl) ?_ _
  go_wp2_with fail
  exact bodyPost_ret (v := .tuple #[.int .u8 ty, .int .i64 m, .bool true, .bool st]) (by simp [results, Tryd.results11, go_sem]) rfl ⟨rfl, bthen (bthen hb2.drew hb3) hb4⟩
set_option maxHeartbeats 8000000 in
set_option maxRecDepth 100000 in
theorem racc_f (op : Int) (k : Nat) (x y : ByteArray) (ty m a1 : Int) (st : Bool) (c4 : Nat) (h1 : 40 ≤ op) (h2 : op ≤ 62) (hk : (k : Int) = op - 40) (hx : accL[k]? = some x) (hm : sizL[k]? = some m)
    (hy : x.extract 0 3 = y) (h3 : (3 : Int) ≤ (x.size : Int)) (u1 : IntKind.i64.wrap ((x.size : Int) - 1) = a1) (g1 : 0 ≤ a1 ∧ a1 < (x.size : Int)) (c1 : Nat) (i1 : ∀ h : a1.toNat < x.size, (x[a1.toNat]'h).toNat = c1) (e1 : ((c1 : Int) == 115) = false) (g4 : (4 : Int) < (x.size : Int)) (i4 : ∀ h : 4 < x.size, (x[4]'h).toNat = c4) (e4 : ((c4 : Int) == 115) = st)
    (HT : Ct 27 #[.string y] (.int .u8 ty)) : Ct 11 #[.int .i64 op] (.tuple #[.int .u8 ty, .int .i64 m, .bool false, .bool st]) := hide fun W => by
  have HA := accL_l
  have HZ := sizL_l
  have HM := hide hm
  have HX := hide hx
  have ek : IntKind.i64.wrap (op - 40) = (k : Int) := by rw [i64_id (by omega) (by omega), hk]
  have hk3 : (k : Int) < 23 := by omega
  have n1 : ¬ op < 40 := by omega
  have n2 : ¬ 62 < op := by omega
  clear hm hx hk h1 h2
  go_enter Tryd.func11, Tryd.ntmps11
  go_wp2_with fail
  refine ((unhide HA) _).mono ?_
  rintro _ w2 ⟨b, rfl, hT2, hb2⟩
  have hcell2 := hT2 k (.string x) (by rw [List.getElem?_map, unhide HX]; rfl)
  have hn2 : accL.length = 23 := rfl
  simp only [hn2]
  go_wp2_with fail
  refine wp_region_held_drew (S := fun _ => True) (by kernel_rfl) trivial (fun hHeld => ?_)
  refine lst0 29 (by kernel_rfl) ?_
  refine tkA 0 18 1 ?_
  refine tkA 1 19 3 ?_
  refine tkA 4 22 19 ?_
  refine tkA 5 23 51 ?_
  refine tkA 8 26 307 ?_
  refine tkA 9 27 819 ?_
  refine tkA 10 28 1843 ?_
  refine tkA 11 29 3891 ?_
  refine tkA 12 30 7987 ?_
  refine tkA 13 31 16179 ?_
  refine tkA 22 40 4210483 ?_
  refine tkA 23 41 12599091 ?_
  refine tkA 24 42 29376307 ?_
  refine rdA 2 29376311 (fun Kk hKk => ?_)
  go_simp
  refine ((unhide HT) _).mono ?_
  rintro _ w3 ⟨rfl, hb3⟩
  (try go_wp2_with fail)
  refine hKk.out _ _ trivial (fun hHeld => ?_)
  clear hKk Kk
  (try simp only [List.setIfInBounds_toArray, List.set_cons_zero, List.set_cons_succ])
  refine rdA 3 29376319 (fun Kk hKk => ?_)
  go_simp
  refine ((unhide HZ) _).mono ?_
  rintro _ w4 ⟨c, rfl, hT4, hb4⟩
  have hcell4 := hT4 k (.int .i64 m) (by rw [List.getElem?_map, unhide HM]; rfl)
  have hn4 : sizL.length = 23 := rfl
  simp only [hn4]
  (try go_wp2_with fail)
  refine hKk.out _ _ trivial (fun hHeld => ?_)
  clear hKk Kk
  (try simp only [List.setIfInBounds_toArray, List.set_cons_zero, List.set_cons_succ])
  refine tkA 14 32 29392703 ?_
  refine tkU 15 33 29425471 ?_
  refine tkU 16 34 29491007 ?_
  refine tkU 17 35 29622079 ?_
  refine tkU 18 36 29884223 ?_
  refine tkU 19 37 30408511 ?_
  refine tkU 20 38 31457087 ?_
  refine tkA 21 39 33554239 ?_
  refine tkA 6 24 33554303 ?_
  refine tkA 25 2 67108735 ?_
  clear i1 e1 g1 g4 i4 u1 hy h3
  refine rdA 7 67108863 (fun Kk hKk => ?_)
  go_simp
  refine hKk.out _ _ trivial (fun hHeld => ?_)
  clear hKk Kk
  (try simp only [List.setIfInBounds_toArray, List.set_cons_zero, List.set_cons_succ])
  refine tkA 26 3 134217727 ?_
  refine tkA 27 4 268435455 ?_
  refine tkA 28 5 536870911 ?_
  refine wpAnyH_done (by kernel_rfl) ?_ _
  go_wp2_with fail
  exact bodyPost_ret (v := .tuple #[.int .u8 ty, .int .i64 m, .bool false, .bool st]) (by simp [results, Tryd.results11, go_sem]) rfl ⟨rfl, bthen (bthen hb2.drew hb3) hb4⟩

end Go.Proofs.YtkpdanjfdcoldaaDoor
