/- MSet2, MNearest, MPack, MPackA, MPackB, MWhole, MKeepsA, MNarrow, MSumB, MSumC, MSumD, MOrdA, MWhA, MWhB. -/
import Derived.Test.YtpbgpdmffejdgaaGreatDoorG01
import Derived.Test.YtpbgpdmffejdgaaGreatDoorG02
import Derived.Test.YtpbgpdmffejdgaaGreatDoorG10
import Derived.Test.YtpbgpdmffejdgaaGreatDoorG15
import Derived.Test.YtpbgpdmffejdgaaGreatDoorG16
import Derived.Test.YtpbgpdmffejdgaaGreatDoorG25
import Derived.Test.YtpbgpdmffejdgaaGreatDoorG27
namespace Go.Proofs.YtpbgpdmffejdgaaGreatDoor
open Go.RowKit
theorem jr (W : World) (v0 v1 : Value) (t : TypeId) : aS W.heap.size 2 (W.alloc (.cells #[v0,v1] t)):=by
 intro o ho
 match o,ho with
 | 0,_ | 1,_ => simp [go_sem]
theorem aS.set2 {b : Nat} {w : World} (h : aS b 2 w) (v0 v1 : Value) : aS b 2 ((w.setCell ⟨b,0,none⟩ v0).setCell ⟨b,1,none⟩ v1):=(h.set _ _).set _ _
theorem nj (w : World) (x y : Value) (t : TypeId) : At2 w.heap.size x y (w.alloc (.cells #[x,y] t)):=by unfold At2; simp [go_sem]
theorem dK {b : Nat} {w : World} (h : aS b 2 w) (v0 v1 : Value) : At2 b v0 v1 ((w.setCell ⟨b,0,none⟩ v0).setCell ⟨b,1,none⟩ v1):=by
 obtain ⟨⟨u0,h0⟩,_⟩:=h 0 (by omega)
 obtain ⟨⟨u1,h1⟩,_⟩:=(h.set 0 v0) 1 (by omega)
 exact ⟨az _ (by omega) (World.cell?_setCell_same _ _ _ h0),World.cell?_setCell_same _ _ _ h1⟩
theorem eS {a b : World} {c : Nat} (h : Below a.heap.size a b) (hc : a.heap.size ≤ c) (v0 v1 : Value) : Below a.heap.size a ((b.setCell ⟨c,0,none⟩ v0).setCell ⟨c,1,none⟩ v1):=aZ (aZ h _ hc _ _) _ hc _ _
theorem At4.set2 {b c : Nat} {x y z u : Value} {w : World} (h : At4 b x y z u w) (hc : b ≠ c) (v0 v1 : Value) : At4 b x y z u ((w.setCell ⟨c,0,none⟩ v0).setCell ⟨c,1,none⟩ v1):=(h.set hc _ _).set hc _ _
set_option maxRecDepth 100000
set_option maxHeartbeats 4000000
theorem mR {h l E w f L M V : Int} {n m : Bool} (W : World) (HN : Ct 265 #[.agg #[.bool n,.int .u64 h,.int .u64 l,.int .i64 E,.bool m]] (.bool true)) (HC : Ct 155 #[.int .i64 w,.bool n] (.int .u64 V)) :
 Calls Tryz.prog 238 #[.agg #[.bool n,.int .u64 h,.int .u64 l,.int .i64 E,.bool m,.int .i64 w,.int .i64 f,.int .i64 L,.int .i64 M]] W fun r W' => r = .returned (.int .u64 V) ∧ Below W.heap.size W W':=by
 go_enter Tryz.func238,Tryz.ntmps238
 go_wp2_with fail
 refine cg1 HN fun w1 hb => ?_
 have HA:=ab ((cF W _ _ _ _ _ _ _ _ _ 202).below hb)
 have HB:=ab (ac (ae _ _) hb)
 clear hb
 obtain ⟨a0,a1,a2,a3,a4,a5,a6,a7,a8⟩:=aa HA
 go_wp2_with fail
 refine cg0 HC HB fun w2 HB => ?_
 go_wp2_with fail
 go_ret
 exact ⟨rfl,aa HB⟩
theorem rI {h l E w f L M V T Nn s hb0 : Int} {n m lost : Bool} (W : World) (HN : Ct 265 #[.agg #[.bool n,.int .u64 h,.int .u64 l,.int .i64 E,.bool m]] (.bool false)) (HT : Ct 266 #[.agg #[.bool n,.int .u64 h,.int .u64 l,.int .i64 E,.bool m]] (.int .i64 T)) (kt : IntKind.i64.wrap (T - f) = T - f) (xm : ¬ T - f < L)
 (kN : Nn / 2 = s) (ka : bits .and .u64 Nn 1 = hb0) (kh : (hb0 == 1) = false)
 (HH : Ct 267 #[.agg #[.bool n,.int .u64 h,.int .u64 l,.int .i64 E,.bool m],.int .i64 (T - f)] (.tuple #[.int .u64 Nn,.bool lost])) (HF : Ct 268 #[.agg #[.bool n,.int .u64 h,.int .u64 l,.int .i64 E,.bool m,.int .i64 w,.int .i64 f,.int .i64 L,.int .i64 M],.int .u64 s,.int .i64 (T - f)] (.int .u64 V)) :
 Calls Tryz.prog 238 #[.agg #[.bool n,.int .u64 h,.int .u64 l,.int .i64 E,.bool m,.int .i64 w,.int .i64 f,.int .i64 L,.int .i64 M]] W fun r W' => r = .returned (.int .u64 V) ∧ Below W.heap.size W W':=by
 go_enter Tryz.func238,Tryz.ntmps238
 go_wp2_with fail
 refine cg1 HN fun w1 hb => ?_
 have HA:=ab ((cF W _ _ _ _ _ _ _ _ _ 202).below hb)
 have HB:=ab (ac (ae _ _) hb)
 clear hb
 go_wp2_with fail
 have HB:=ab (aa HB).drew
 have HA:=ab ((aa HA).below ((Below.refl _ _).drew))
 refine wp_region_held_drew (S:=fun w' => w'.cell? ⟨W.heap.size,0,none⟩ = some (.bool n) ∧ w'.cell? ⟨W.heap.size,1,none⟩ = some (.int .u64 h) ∧ w'.cell? ⟨W.heap.size,2,none⟩ = some (.int .u64 l) ∧ w'.cell? ⟨W.heap.size,3,none⟩ = some (.int .i64 E) ∧ w'.cell? ⟨W.heap.size,4,none⟩ = some (.bool m) ∧ w'.cell? ⟨W.heap.size,5,none⟩ = some (.int .i64 w) ∧ w'.cell? ⟨W.heap.size,6,none⟩ = some (.int .i64 f) ∧ w'.cell? ⟨W.heap.size,7,none⟩ = some (.int .i64 L) ∧ w'.cell? ⟨W.heap.size,8,none⟩ = some (.int .i64 M)) (by kernel_rfl) ?_ (fun hHeld => ?_)
 ·(try dsimp only)
  exact aa HA
 refine aC 12 (by kernel_rfl) ?_
 refine tkA 0 18 1 ?_
 refine tkA 1 19 3 ?_
 refine tkA 3 21 11 ?_
 refine tkA 4 22 27 ?_
 refine tkA 5 23 59 ?_
 refine tkA 7 25 187 ?_
 refine tkA 8 26 443 ?_
 refine tkA 9 27 955 ?_
 refine rdA 2 959 (fun Kk hKk => ?_)
 go_simp
 refine cg1 HT fun w2 hbl => ?_
 have HB:=bt HB hbl
 have HA:=ab ((aa HA).below hbl)
 clear hbl
 (try go_wp2_with fail)
 refine oA hKk (aa HA) fun hHeld => ?_
 clear hKk Kk
 refine tkA 6 24 1023 ?_
 refine tkA 10 28 2047 ?_
 refine tkA 11 3 4095 ?_
 refine wpAnyH_done (by kernel_rfl) ?_ _
 clear hHeld
 obtain ⟨a0,a1,a2,a3,a4,a5,a6,a7,a8⟩:=aa HA
 go_wp2_with fail
 clear a0 a1 a2 a3 a4 a5 a6 a7 a8
 refine cg1 HH fun w3 hbl => ?_
 have HB:=bt HB hbl
 have HA:=ab ((aa HA).below hbl)
 clear hbl
 obtain ⟨a0,a1,a2,a3,a4,a5,a6,a7,a8⟩:=aa HA
 go_wp2_with fail
 refine cg1 HF fun w4 hbl => ?_
 have HB:=bt HB hbl
 clear hbl
 go_wp2_with fail
 go_ret
 exact ⟨rfl,aa HB⟩
theorem rJ {h l E w f L M V T Nn s hb0 : Int} {n m : Bool} (W : World) (HN : Ct 265 #[.agg #[.bool n,.int .u64 h,.int .u64 l,.int .i64 E,.bool m]] (.bool false)) (HT : Ct 266 #[.agg #[.bool n,.int .u64 h,.int .u64 l,.int .i64 E,.bool m]] (.int .i64 T)) (kt : IntKind.i64.wrap (T - f) = T - f) (xm : ¬ T - f < L)
 (kN : Nn / 2 = s) (ka : bits .and .u64 Nn 1 = hb0) (kh : (hb0 == 1) = true) (kw : IntKind.u64.wrap (s + 1) = s + 1)
 (HH : Ct 267 #[.agg #[.bool n,.int .u64 h,.int .u64 l,.int .i64 E,.bool m],.int .i64 (T - f)] (.tuple #[.int .u64 Nn,.bool true])) (HF : Ct 268 #[.agg #[.bool n,.int .u64 h,.int .u64 l,.int .i64 E,.bool m,.int .i64 w,.int .i64 f,.int .i64 L,.int .i64 M],.int .u64 (s + 1),.int .i64 (T - f)] (.int .u64 V)) :
 Calls Tryz.prog 238 #[.agg #[.bool n,.int .u64 h,.int .u64 l,.int .i64 E,.bool m,.int .i64 w,.int .i64 f,.int .i64 L,.int .i64 M]] W fun r W' => r = .returned (.int .u64 V) ∧ Below W.heap.size W W':=by
 go_enter Tryz.func238,Tryz.ntmps238
 go_wp2_with fail
 refine cg1 HN fun w1 hb => ?_
 have HA:=ab ((cF W _ _ _ _ _ _ _ _ _ 202).below hb)
 have HB:=ab (ac (ae _ _) hb)
 clear hb
 go_wp2_with fail
 have HB:=ab (aa HB).drew
 have HA:=ab ((aa HA).below ((Below.refl _ _).drew))
 refine wp_region_held_drew (S:=fun w' => w'.cell? ⟨W.heap.size,0,none⟩ = some (.bool n) ∧ w'.cell? ⟨W.heap.size,1,none⟩ = some (.int .u64 h) ∧ w'.cell? ⟨W.heap.size,2,none⟩ = some (.int .u64 l) ∧ w'.cell? ⟨W.heap.size,3,none⟩ = some (.int .i64 E) ∧ w'.cell? ⟨W.heap.size,4,none⟩ = some (.bool m) ∧ w'.cell? ⟨W.heap.size,5,none⟩ = some (.int .i64 w) ∧ w'.cell? ⟨W.heap.size,6,none⟩ = some (.int .i64 f) ∧ w'.cell? ⟨W.heap.size,7,none⟩ = some (.int .i64 L) ∧ w'.cell? ⟨W.heap.size,8,none⟩ = some (.int .i64 M)) (by kernel_rfl) ?_ (fun hHeld => ?_)
 ·(try dsimp only)
  exact aa HA
 refine aC 12 (by kernel_rfl) ?_
 refine tkA 0 18 1 ?_
 refine tkA 1 19 3 ?_
 refine tkA 3 21 11 ?_
 refine tkA 4 22 27 ?_
 refine tkA 5 23 59 ?_
 refine tkA 7 25 187 ?_
 refine tkA 8 26 443 ?_
 refine tkA 9 27 955 ?_
 refine rdA 2 959 (fun Kk hKk => ?_)
 go_simp
 refine cg1 HT fun w2 hbl => ?_
 have HB:=bt HB hbl
 have HA:=ab ((aa HA).below hbl)
 clear hbl
 (try go_wp2_with fail)
 refine oA hKk (aa HA) fun hHeld => ?_
 clear hKk Kk
 refine tkA 6 24 1023 ?_
 refine tkA 10 28 2047 ?_
 refine tkA 11 3 4095 ?_
 refine wpAnyH_done (by kernel_rfl) ?_ _
 clear hHeld
 obtain ⟨a0,a1,a2,a3,a4,a5,a6,a7,a8⟩:=aa HA
 go_wp2_with fail
 clear a0 a1 a2 a3 a4 a5 a6 a7 a8
 refine cg1 HH fun w3 hbl => ?_
 have HB:=bt HB hbl
 have HA:=ab ((aa HA).below hbl)
 clear hbl
 obtain ⟨a0,a1,a2,a3,a4,a5,a6,a7,a8⟩:=aa HA
 go_wp2_with fail
 refine cg1 HF fun w4 hbl => ?_
 have HB:=bt HB hbl
 clear hbl
 go_wp2_with fail
 go_ret
 exact ⟨rfl,aa HB⟩
theorem rK {h l E w f L M V T Nn s hb0 ob : Int} {n m : Bool} (W : World) (HN : Ct 265 #[.agg #[.bool n,.int .u64 h,.int .u64 l,.int .i64 E,.bool m]] (.bool false)) (HT : Ct 266 #[.agg #[.bool n,.int .u64 h,.int .u64 l,.int .i64 E,.bool m]] (.int .i64 T)) (kt : IntKind.i64.wrap (T - f) = T - f) (xm : ¬ T - f < L)
 (kN : Nn / 2 = s) (ka : bits .and .u64 Nn 1 = hb0) (kh : (hb0 == 1) = true) (ks : bits .and .u64 s 1 = ob) (ko : (ob == 1) = true) (kw : IntKind.u64.wrap (s + 1) = s + 1)
 (HH : Ct 267 #[.agg #[.bool n,.int .u64 h,.int .u64 l,.int .i64 E,.bool m],.int .i64 (T - f)] (.tuple #[.int .u64 Nn,.bool false])) (HF : Ct 268 #[.agg #[.bool n,.int .u64 h,.int .u64 l,.int .i64 E,.bool m,.int .i64 w,.int .i64 f,.int .i64 L,.int .i64 M],.int .u64 (s + 1),.int .i64 (T - f)] (.int .u64 V)) :
 Calls Tryz.prog 238 #[.agg #[.bool n,.int .u64 h,.int .u64 l,.int .i64 E,.bool m,.int .i64 w,.int .i64 f,.int .i64 L,.int .i64 M]] W fun r W' => r = .returned (.int .u64 V) ∧ Below W.heap.size W W':=by
 go_enter Tryz.func238,Tryz.ntmps238
 go_wp2_with fail
 refine cg1 HN fun w1 hb => ?_
 have HA:=ab ((cF W _ _ _ _ _ _ _ _ _ 202).below hb)
 have HB:=ab (ac (ae _ _) hb)
 clear hb
 go_wp2_with fail
 have HB:=ab (aa HB).drew
 have HA:=ab ((aa HA).below ((Below.refl _ _).drew))
 refine wp_region_held_drew (S:=fun w' => w'.cell? ⟨W.heap.size,0,none⟩ = some (.bool n) ∧ w'.cell? ⟨W.heap.size,1,none⟩ = some (.int .u64 h) ∧ w'.cell? ⟨W.heap.size,2,none⟩ = some (.int .u64 l) ∧ w'.cell? ⟨W.heap.size,3,none⟩ = some (.int .i64 E) ∧ w'.cell? ⟨W.heap.size,4,none⟩ = some (.bool m) ∧ w'.cell? ⟨W.heap.size,5,none⟩ = some (.int .i64 w) ∧ w'.cell? ⟨W.heap.size,6,none⟩ = some (.int .i64 f) ∧ w'.cell? ⟨W.heap.size,7,none⟩ = some (.int .i64 L) ∧ w'.cell? ⟨W.heap.size,8,none⟩ = some (.int .i64 M)) (by kernel_rfl) ?_ (fun hHeld => ?_)
 ·(try dsimp only)
  exact aa HA
 refine aC 12 (by kernel_rfl) ?_
 refine tkA 0 18 1 ?_
 refine tkA 1 19 3 ?_
 refine tkA 3 21 11 ?_
 refine tkA 4 22 27 ?_
 refine tkA 5 23 59 ?_
 refine tkA 7 25 187 ?_
 refine tkA 8 26 443 ?_
 refine tkA 9 27 955 ?_
 refine rdA 2 959 (fun Kk hKk => ?_)
 go_simp
 refine cg1 HT fun w2 hbl => ?_
 have HB:=bt HB hbl
 have HA:=ab ((aa HA).below hbl)
 clear hbl
 (try go_wp2_with fail)
 refine oA hKk (aa HA) fun hHeld => ?_
 clear hKk Kk
 refine tkA 6 24 1023 ?_
 refine tkA 10 28 2047 ?_
 refine tkA 11 3 4095 ?_
 refine wpAnyH_done (by kernel_rfl) ?_ _
 clear hHeld
 obtain ⟨a0,a1,a2,a3,a4,a5,a6,a7,a8⟩:=aa HA
 go_wp2_with fail
 clear a0 a1 a2 a3 a4 a5 a6 a7 a8
 refine cg1 HH fun w3 hbl => ?_
 have HB:=bt HB hbl
 have HA:=ab ((aa HA).below hbl)
 clear hbl
 obtain ⟨a0,a1,a2,a3,a4,a5,a6,a7,a8⟩:=aa HA
 go_wp2_with fail
 refine cg1 HF fun w4 hbl => ?_
 have HB:=bt HB hbl
 clear hbl
 go_wp2_with fail
 go_ret
 exact ⟨rfl,aa HB⟩
theorem rL {h l E w f L M V T Nn s hb0 ob : Int} {n m : Bool} (W : World) (HN : Ct 265 #[.agg #[.bool n,.int .u64 h,.int .u64 l,.int .i64 E,.bool m]] (.bool false)) (HT : Ct 266 #[.agg #[.bool n,.int .u64 h,.int .u64 l,.int .i64 E,.bool m]] (.int .i64 T)) (kt : IntKind.i64.wrap (T - f) = T - f) (xm : ¬ T - f < L)
 (kN : Nn / 2 = s) (ka : bits .and .u64 Nn 1 = hb0) (kh : (hb0 == 1) = true) (ks : bits .and .u64 s 1 = ob) (ko : (ob == 1) = false)
 (HH : Ct 267 #[.agg #[.bool n,.int .u64 h,.int .u64 l,.int .i64 E,.bool m],.int .i64 (T - f)] (.tuple #[.int .u64 Nn,.bool false])) (HF : Ct 268 #[.agg #[.bool n,.int .u64 h,.int .u64 l,.int .i64 E,.bool m,.int .i64 w,.int .i64 f,.int .i64 L,.int .i64 M],.int .u64 s,.int .i64 (T - f)] (.int .u64 V)) :
 Calls Tryz.prog 238 #[.agg #[.bool n,.int .u64 h,.int .u64 l,.int .i64 E,.bool m,.int .i64 w,.int .i64 f,.int .i64 L,.int .i64 M]] W fun r W' => r = .returned (.int .u64 V) ∧ Below W.heap.size W W':=by
 go_enter Tryz.func238,Tryz.ntmps238
 go_wp2_with fail
 refine cg1 HN fun w1 hb => ?_
 have HA:=ab ((cF W _ _ _ _ _ _ _ _ _ 202).below hb)
 have HB:=ab (ac (ae _ _) hb)
 clear hb
 go_wp2_with fail
 have HB:=ab (aa HB).drew
 have HA:=ab ((aa HA).below ((Below.refl _ _).drew))
 refine wp_region_held_drew (S:=fun w' => w'.cell? ⟨W.heap.size,0,none⟩ = some (.bool n) ∧ w'.cell? ⟨W.heap.size,1,none⟩ = some (.int .u64 h) ∧ w'.cell? ⟨W.heap.size,2,none⟩ = some (.int .u64 l) ∧ w'.cell? ⟨W.heap.size,3,none⟩ = some (.int .i64 E) ∧ w'.cell? ⟨W.heap.size,4,none⟩ = some (.bool m) ∧ w'.cell? ⟨W.heap.size,5,none⟩ = some (.int .i64 w) ∧ w'.cell? ⟨W.heap.size,6,none⟩ = some (.int .i64 f) ∧ w'.cell? ⟨W.heap.size,7,none⟩ = some (.int .i64 L) ∧ w'.cell? ⟨W.heap.size,8,none⟩ = some (.int .i64 M)) (by kernel_rfl) ?_ (fun hHeld => ?_)
 ·(try dsimp only)
  exact aa HA
 refine aC 12 (by kernel_rfl) ?_
 refine tkA 0 18 1 ?_
 refine tkA 1 19 3 ?_
 refine tkA 3 21 11 ?_
 refine tkA 4 22 27 ?_
 refine tkA 5 23 59 ?_
 refine tkA 7 25 187 ?_
 refine tkA 8 26 443 ?_
 refine tkA 9 27 955 ?_
 refine rdA 2 959 (fun Kk hKk => ?_)
 go_simp
 refine cg1 HT fun w2 hbl => ?_
 have HB:=bt HB hbl
 have HA:=ab ((aa HA).below hbl)
 clear hbl
 (try go_wp2_with fail)
 refine oA hKk (aa HA) fun hHeld => ?_
 clear hKk Kk
 refine tkA 6 24 1023 ?_
 refine tkA 10 28 2047 ?_
 refine tkA 11 3 4095 ?_
 refine wpAnyH_done (by kernel_rfl) ?_ _
 clear hHeld
 obtain ⟨a0,a1,a2,a3,a4,a5,a6,a7,a8⟩:=aa HA
 go_wp2_with fail
 clear a0 a1 a2 a3 a4 a5 a6 a7 a8
 refine cg1 HH fun w3 hbl => ?_
 have HB:=bt HB hbl
 have HA:=ab ((aa HA).below hbl)
 clear hbl
 obtain ⟨a0,a1,a2,a3,a4,a5,a6,a7,a8⟩:=aa HA
 go_wp2_with fail
 refine cg1 HF fun w4 hbl => ?_
 have HB:=bt HB hbl
 clear hbl
 go_wp2_with fail
 go_ret
 exact ⟨rfl,aa HB⟩
theorem rM {h l E w f L M V T Nn s hb0 : Int} {n m lost : Bool} (W : World) (HN : Ct 265 #[.agg #[.bool n,.int .u64 h,.int .u64 l,.int .i64 E,.bool m]] (.bool false)) (HT : Ct 266 #[.agg #[.bool n,.int .u64 h,.int .u64 l,.int .i64 E,.bool m]] (.int .i64 T)) (kt : IntKind.i64.wrap (T - f) = T - f) (xm : T - f < L)
 (kN : Nn / 2 = s) (ka : bits .and .u64 Nn 1 = hb0) (kh : (hb0 == 1) = false)
 (HH : Ct 267 #[.agg #[.bool n,.int .u64 h,.int .u64 l,.int .i64 E,.bool m],.int .i64 L] (.tuple #[.int .u64 Nn,.bool lost])) (HF : Ct 268 #[.agg #[.bool n,.int .u64 h,.int .u64 l,.int .i64 E,.bool m,.int .i64 w,.int .i64 f,.int .i64 L,.int .i64 M],.int .u64 s,.int .i64 L] (.int .u64 V)) :
 Calls Tryz.prog 238 #[.agg #[.bool n,.int .u64 h,.int .u64 l,.int .i64 E,.bool m,.int .i64 w,.int .i64 f,.int .i64 L,.int .i64 M]] W fun r W' => r = .returned (.int .u64 V) ∧ Below W.heap.size W W':=by
 go_enter Tryz.func238,Tryz.ntmps238
 go_wp2_with fail
 refine cg1 HN fun w1 hb => ?_
 have HA:=ab ((cF W _ _ _ _ _ _ _ _ _ 202).below hb)
 have HB:=ab (ac (ae _ _) hb)
 clear hb
 go_wp2_with fail
 have HB:=ab (aa HB).drew
 have HA:=ab ((aa HA).below ((Below.refl _ _).drew))
 refine wp_region_held_drew (S:=fun w' => w'.cell? ⟨W.heap.size,0,none⟩ = some (.bool n) ∧ w'.cell? ⟨W.heap.size,1,none⟩ = some (.int .u64 h) ∧ w'.cell? ⟨W.heap.size,2,none⟩ = some (.int .u64 l) ∧ w'.cell? ⟨W.heap.size,3,none⟩ = some (.int .i64 E) ∧ w'.cell? ⟨W.heap.size,4,none⟩ = some (.bool m) ∧ w'.cell? ⟨W.heap.size,5,none⟩ = some (.int .i64 w) ∧ w'.cell? ⟨W.heap.size,6,none⟩ = some (.int .i64 f) ∧ w'.cell? ⟨W.heap.size,7,none⟩ = some (.int .i64 L) ∧ w'.cell? ⟨W.heap.size,8,none⟩ = some (.int .i64 M)) (by kernel_rfl) ?_ (fun hHeld => ?_)
 ·(try dsimp only)
  exact aa HA
 refine aC 12 (by kernel_rfl) ?_
 refine tkA 0 18 1 ?_
 refine tkA 1 19 3 ?_
 refine tkA 3 21 11 ?_
 refine tkA 4 22 27 ?_
 refine tkA 5 23 59 ?_
 refine tkA 7 25 187 ?_
 refine tkA 8 26 443 ?_
 refine tkA 9 27 955 ?_
 refine rdA 2 959 (fun Kk hKk => ?_)
 go_simp
 refine cg1 HT fun w2 hbl => ?_
 have HB:=bt HB hbl
 have HA:=ab ((aa HA).below hbl)
 clear hbl
 (try go_wp2_with fail)
 refine oA hKk (aa HA) fun hHeld => ?_
 clear hKk Kk
 refine tkA 6 24 1023 ?_
 refine tkA 10 28 2047 ?_
 refine tkA 11 3 4095 ?_
 refine wpAnyH_done (by kernel_rfl) ?_ _
 clear hHeld
 obtain ⟨a0,a1,a2,a3,a4,a5,a6,a7,a8⟩:=aa HA
 go_wp2_with fail
 clear a0 a1 a2 a3 a4 a5 a6 a7 a8
 refine cg1 HH fun w3 hbl => ?_
 have HB:=bt HB hbl
 have HA:=ab ((aa HA).below hbl)
 clear hbl
 obtain ⟨a0,a1,a2,a3,a4,a5,a6,a7,a8⟩:=aa HA
 go_wp2_with fail
 refine cg1 HF fun w4 hbl => ?_
 have HB:=bt HB hbl
 clear hbl
 go_wp2_with fail
 go_ret
 exact ⟨rfl,aa HB⟩
theorem rN {h l E w f L M V T Nn s hb0 : Int} {n m : Bool} (W : World) (HN : Ct 265 #[.agg #[.bool n,.int .u64 h,.int .u64 l,.int .i64 E,.bool m]] (.bool false)) (HT : Ct 266 #[.agg #[.bool n,.int .u64 h,.int .u64 l,.int .i64 E,.bool m]] (.int .i64 T)) (kt : IntKind.i64.wrap (T - f) = T - f) (xm : T - f < L)
 (kN : Nn / 2 = s) (ka : bits .and .u64 Nn 1 = hb0) (kh : (hb0 == 1) = true) (kw : IntKind.u64.wrap (s + 1) = s + 1)
 (HH : Ct 267 #[.agg #[.bool n,.int .u64 h,.int .u64 l,.int .i64 E,.bool m],.int .i64 L] (.tuple #[.int .u64 Nn,.bool true])) (HF : Ct 268 #[.agg #[.bool n,.int .u64 h,.int .u64 l,.int .i64 E,.bool m,.int .i64 w,.int .i64 f,.int .i64 L,.int .i64 M],.int .u64 (s + 1),.int .i64 L] (.int .u64 V)) :
 Calls Tryz.prog 238 #[.agg #[.bool n,.int .u64 h,.int .u64 l,.int .i64 E,.bool m,.int .i64 w,.int .i64 f,.int .i64 L,.int .i64 M]] W fun r W' => r = .returned (.int .u64 V) ∧ Below W.heap.size W W':=by
 go_enter Tryz.func238,Tryz.ntmps238
 go_wp2_with fail
 refine cg1 HN fun w1 hb => ?_
 have HA:=ab ((cF W _ _ _ _ _ _ _ _ _ 202).below hb)
 have HB:=ab (ac (ae _ _) hb)
 clear hb
 go_wp2_with fail
 have HB:=ab (aa HB).drew
 have HA:=ab ((aa HA).below ((Below.refl _ _).drew))
 refine wp_region_held_drew (S:=fun w' => w'.cell? ⟨W.heap.size,0,none⟩ = some (.bool n) ∧ w'.cell? ⟨W.heap.size,1,none⟩ = some (.int .u64 h) ∧ w'.cell? ⟨W.heap.size,2,none⟩ = some (.int .u64 l) ∧ w'.cell? ⟨W.heap.size,3,none⟩ = some (.int .i64 E) ∧ w'.cell? ⟨W.heap.size,4,none⟩ = some (.bool m) ∧ w'.cell? ⟨W.heap.size,5,none⟩ = some (.int .i64 w) ∧ w'.cell? ⟨W.heap.size,6,none⟩ = some (.int .i64 f) ∧ w'.cell? ⟨W.heap.size,7,none⟩ = some (.int .i64 L) ∧ w'.cell? ⟨W.heap.size,8,none⟩ = some (.int .i64 M)) (by kernel_rfl) ?_ (fun hHeld => ?_)
 ·(try dsimp only)
  exact aa HA
 refine aC 12 (by kernel_rfl) ?_
 refine tkA 0 18 1 ?_
 refine tkA 1 19 3 ?_
 refine tkA 3 21 11 ?_
 refine tkA 4 22 27 ?_
 refine tkA 5 23 59 ?_
 refine tkA 7 25 187 ?_
 refine tkA 8 26 443 ?_
 refine tkA 9 27 955 ?_
 refine rdA 2 959 (fun Kk hKk => ?_)
 go_simp
 refine cg1 HT fun w2 hbl => ?_
 have HB:=bt HB hbl
 have HA:=ab ((aa HA).below hbl)
 clear hbl
 (try go_wp2_with fail)
 refine oA hKk (aa HA) fun hHeld => ?_
 clear hKk Kk
 refine tkA 6 24 1023 ?_
 refine tkA 10 28 2047 ?_
 refine tkA 11 3 4095 ?_
 refine wpAnyH_done (by kernel_rfl) ?_ _
 clear hHeld
 obtain ⟨a0,a1,a2,a3,a4,a5,a6,a7,a8⟩:=aa HA
 go_wp2_with fail
 clear a0 a1 a2 a3 a4 a5 a6 a7 a8
 refine cg1 HH fun w3 hbl => ?_
 have HB:=bt HB hbl
 have HA:=ab ((aa HA).below hbl)
 clear hbl
 obtain ⟨a0,a1,a2,a3,a4,a5,a6,a7,a8⟩:=aa HA
 go_wp2_with fail
 refine cg1 HF fun w4 hbl => ?_
 have HB:=bt HB hbl
 clear hbl
 go_wp2_with fail
 go_ret
 exact ⟨rfl,aa HB⟩
theorem rO {h l E w f L M V T Nn s hb0 ob : Int} {n m : Bool} (W : World) (HN : Ct 265 #[.agg #[.bool n,.int .u64 h,.int .u64 l,.int .i64 E,.bool m]] (.bool false)) (HT : Ct 266 #[.agg #[.bool n,.int .u64 h,.int .u64 l,.int .i64 E,.bool m]] (.int .i64 T)) (kt : IntKind.i64.wrap (T - f) = T - f) (xm : T - f < L)
 (kN : Nn / 2 = s) (ka : bits .and .u64 Nn 1 = hb0) (kh : (hb0 == 1) = true) (ks : bits .and .u64 s 1 = ob) (ko : (ob == 1) = true) (kw : IntKind.u64.wrap (s + 1) = s + 1)
 (HH : Ct 267 #[.agg #[.bool n,.int .u64 h,.int .u64 l,.int .i64 E,.bool m],.int .i64 L] (.tuple #[.int .u64 Nn,.bool false])) (HF : Ct 268 #[.agg #[.bool n,.int .u64 h,.int .u64 l,.int .i64 E,.bool m,.int .i64 w,.int .i64 f,.int .i64 L,.int .i64 M],.int .u64 (s + 1),.int .i64 L] (.int .u64 V)) :
 Calls Tryz.prog 238 #[.agg #[.bool n,.int .u64 h,.int .u64 l,.int .i64 E,.bool m,.int .i64 w,.int .i64 f,.int .i64 L,.int .i64 M]] W fun r W' => r = .returned (.int .u64 V) ∧ Below W.heap.size W W':=by
 go_enter Tryz.func238,Tryz.ntmps238
 go_wp2_with fail
 refine cg1 HN fun w1 hb => ?_
 have HA:=ab ((cF W _ _ _ _ _ _ _ _ _ 202).below hb)
 have HB:=ab (ac (ae _ _) hb)
 clear hb
 go_wp2_with fail
 have HB:=ab (aa HB).drew
 have HA:=ab ((aa HA).below ((Below.refl _ _).drew))
 refine wp_region_held_drew (S:=fun w' => w'.cell? ⟨W.heap.size,0,none⟩ = some (.bool n) ∧ w'.cell? ⟨W.heap.size,1,none⟩ = some (.int .u64 h) ∧ w'.cell? ⟨W.heap.size,2,none⟩ = some (.int .u64 l) ∧ w'.cell? ⟨W.heap.size,3,none⟩ = some (.int .i64 E) ∧ w'.cell? ⟨W.heap.size,4,none⟩ = some (.bool m) ∧ w'.cell? ⟨W.heap.size,5,none⟩ = some (.int .i64 w) ∧ w'.cell? ⟨W.heap.size,6,none⟩ = some (.int .i64 f) ∧ w'.cell? ⟨W.heap.size,7,none⟩ = some (.int .i64 L) ∧ w'.cell? ⟨W.heap.size,8,none⟩ = some (.int .i64 M)) (by kernel_rfl) ?_ (fun hHeld => ?_)
 ·(try dsimp only)
  exact aa HA
 refine aC 12 (by kernel_rfl) ?_
 refine tkA 0 18 1 ?_
 refine tkA 1 19 3 ?_
 refine tkA 3 21 11 ?_
 refine tkA 4 22 27 ?_
 refine tkA 5 23 59 ?_
 refine tkA 7 25 187 ?_
 refine tkA 8 26 443 ?_
 refine tkA 9 27 955 ?_
 refine rdA 2 959 (fun Kk hKk => ?_)
 go_simp
 refine cg1 HT fun w2 hbl => ?_
 have HB:=bt HB hbl
 have HA:=ab ((aa HA).below hbl)
 clear hbl
 (try go_wp2_with fail)
 refine oA hKk (aa HA) fun hHeld => ?_
 clear hKk Kk
 refine tkA 6 24 1023 ?_
 refine tkA 10 28 2047 ?_
 refine tkA 11 3 4095 ?_
 refine wpAnyH_done (by kernel_rfl) ?_ _
 clear hHeld
 obtain ⟨a0,a1,a2,a3,a4,a5,a6,a7,a8⟩:=aa HA
 go_wp2_with fail
 clear a0 a1 a2 a3 a4 a5 a6 a7 a8
 refine cg1 HH fun w3 hbl => ?_
 have HB:=bt HB hbl
 have HA:=ab ((aa HA).below hbl)
 clear hbl
 obtain ⟨a0,a1,a2,a3,a4,a5,a6,a7,a8⟩:=aa HA
 go_wp2_with fail
 refine cg1 HF fun w4 hbl => ?_
 have HB:=bt HB hbl
 clear hbl
 go_wp2_with fail
 go_ret
 exact ⟨rfl,aa HB⟩
theorem rP {h l E w f L M V T Nn s hb0 ob : Int} {n m : Bool} (W : World) (HN : Ct 265 #[.agg #[.bool n,.int .u64 h,.int .u64 l,.int .i64 E,.bool m]] (.bool false)) (HT : Ct 266 #[.agg #[.bool n,.int .u64 h,.int .u64 l,.int .i64 E,.bool m]] (.int .i64 T)) (kt : IntKind.i64.wrap (T - f) = T - f) (xm : T - f < L)
 (kN : Nn / 2 = s) (ka : bits .and .u64 Nn 1 = hb0) (kh : (hb0 == 1) = true) (ks : bits .and .u64 s 1 = ob) (ko : (ob == 1) = false)
 (HH : Ct 267 #[.agg #[.bool n,.int .u64 h,.int .u64 l,.int .i64 E,.bool m],.int .i64 L] (.tuple #[.int .u64 Nn,.bool false])) (HF : Ct 268 #[.agg #[.bool n,.int .u64 h,.int .u64 l,.int .i64 E,.bool m,.int .i64 w,.int .i64 f,.int .i64 L,.int .i64 M],.int .u64 s,.int .i64 L] (.int .u64 V)) :
 Calls Tryz.prog 238 #[.agg #[.bool n,.int .u64 h,.int .u64 l,.int .i64 E,.bool m,.int .i64 w,.int .i64 f,.int .i64 L,.int .i64 M]] W fun r W' => r = .returned (.int .u64 V) ∧ Below W.heap.size W W':=by
 go_enter Tryz.func238,Tryz.ntmps238
 go_wp2_with fail
 refine cg1 HN fun w1 hb => ?_
 have HA:=ab ((cF W _ _ _ _ _ _ _ _ _ 202).below hb)
 have HB:=ab (ac (ae _ _) hb)
 clear hb
 go_wp2_with fail
 have HB:=ab (aa HB).drew
 have HA:=ab ((aa HA).below ((Below.refl _ _).drew))
 refine wp_region_held_drew (S:=fun w' => w'.cell? ⟨W.heap.size,0,none⟩ = some (.bool n) ∧ w'.cell? ⟨W.heap.size,1,none⟩ = some (.int .u64 h) ∧ w'.cell? ⟨W.heap.size,2,none⟩ = some (.int .u64 l) ∧ w'.cell? ⟨W.heap.size,3,none⟩ = some (.int .i64 E) ∧ w'.cell? ⟨W.heap.size,4,none⟩ = some (.bool m) ∧ w'.cell? ⟨W.heap.size,5,none⟩ = some (.int .i64 w) ∧ w'.cell? ⟨W.heap.size,6,none⟩ = some (.int .i64 f) ∧ w'.cell? ⟨W.heap.size,7,none⟩ = some (.int .i64 L) ∧ w'.cell? ⟨W.heap.size,8,none⟩ = some (.int .i64 M)) (by kernel_rfl) ?_ (fun hHeld => ?_)
 ·(try dsimp only)
  exact aa HA
 refine aC 12 (by kernel_rfl) ?_
 refine tkA 0 18 1 ?_
 refine tkA 1 19 3 ?_
 refine tkA 3 21 11 ?_
 refine tkA 4 22 27 ?_
 refine tkA 5 23 59 ?_
 refine tkA 7 25 187 ?_
 refine tkA 8 26 443 ?_
 refine tkA 9 27 955 ?_
 refine rdA 2 959 (fun Kk hKk => ?_)
 go_simp
 refine cg1 HT fun w2 hbl => ?_
 have HB:=bt HB hbl
 have HA:=ab ((aa HA).below hbl)
 clear hbl
 (try go_wp2_with fail)
 refine oA hKk (aa HA) fun hHeld => ?_
 clear hKk Kk
 refine tkA 6 24 1023 ?_
 refine tkA 10 28 2047 ?_
 refine tkA 11 3 4095 ?_
 refine wpAnyH_done (by kernel_rfl) ?_ _
 clear hHeld
 obtain ⟨a0,a1,a2,a3,a4,a5,a6,a7,a8⟩:=aa HA
 go_wp2_with fail
 clear a0 a1 a2 a3 a4 a5 a6 a7 a8
 refine cg1 HH fun w3 hbl => ?_
 have HB:=bt HB hbl
 have HA:=ab ((aa HA).below hbl)
 clear hbl
 obtain ⟨a0,a1,a2,a3,a4,a5,a6,a7,a8⟩:=aa HA
 go_wp2_with fail
 refine cg1 HF fun w4 hbl => ?_
 have HB:=bt HB hbl
 clear hbl
 go_wp2_with fail
 go_ret
 exact ⟨rfl,aa HB⟩
theorem cW {b o : Nat} {w : World} (h : aS b 9 w) (ho : o < 9) (v : Value) : (w.setCell ⟨b,o,none⟩ v).cell? ⟨b,o,none⟩ = some v:=by
 obtain ⟨⟨u,h1⟩,_⟩:=h o ho
 exact World.cell?_setCell_same _ _ _ h1
theorem lO {b : Nat} {w : World} (h : aS b 9 w) (v0 v1 v2 v3 v4 v5 v6 v7 v8 : Value) :
 At9 b v0 v1 v2 v3 v4 v5 v6 v7 v8 (((((((((w.setCell ⟨b,0,none⟩ v0).setCell ⟨b,1,none⟩ v1).setCell ⟨b,2,none⟩ v2).setCell ⟨b,3,none⟩ v3).setCell ⟨b,4,none⟩ v4).setCell ⟨b,5,none⟩ v5).setCell ⟨b,6,none⟩ v6).setCell ⟨b,7,none⟩ v7).setCell ⟨b,8,none⟩ v8):=
 ⟨az _ (by omega) (az _ (by omega) (az _ (by omega) (az _ (by omega) (az _ (by omega) (az _ (by omega) (az _ (by omega) (az _ (by omega) (cW h (by omega) _)))))))),az _ (by omega) (az _ (by omega) (az _ (by omega) (az _ (by omega) (az _ (by omega) (az _ (by omega) (az _ (by omega) (cW (h.set _ _) (by omega) _))))))),az _ (by omega) (az _ (by omega) (az _ (by omega) (az _ (by omega) (az _ (by omega) (az _ (by omega) (cW ((h.set _ _).set _ _) (by omega) _)))))),az _ (by omega) (az _ (by omega) (az _ (by omega) (az _ (by omega) (az _ (by omega) (cW (((h.set _ _).set _ _).set _ _) (by omega) _))))),az _ (by omega) (az _ (by omega) (az _ (by omega) (az _ (by omega) (cW ((((h.set _ _).set _ _).set _ _).set _ _) (by omega) _)))),az _ (by omega) (az _ (by omega) (az _ (by omega) (cW (((((h.set _ _).set _ _).set _ _).set _ _).set _ _) (by omega) _))),az _ (by omega) (az _ (by omega) (cW ((((((h.set _ _).set _ _).set _ _).set _ _).set _ _).set _ _) (by omega) _)),az _ (by omega) (cW (((((((h.set _ _).set _ _).set _ _).set _ _).set _ _).set _ _).set _ _) (by omega) _),cW ((((((((h.set _ _).set _ _).set _ _).set _ _).set _ _).set _ _).set _ _).set _ _) (by omega) _⟩
theorem aal {a b : World} {c : Nat} (h : Below a.heap.size a b) (hc : a.heap.size ≤ c) (v0 v1 v2 v3 v4 v5 v6 v7 v8 : Value) :
 Below a.heap.size a (((((((((b.setCell ⟨c,0,none⟩ v0).setCell ⟨c,1,none⟩ v1).setCell ⟨c,2,none⟩ v2).setCell ⟨c,3,none⟩ v3).setCell ⟨c,4,none⟩ v4).setCell ⟨c,5,none⟩ v5).setCell ⟨c,6,none⟩ v6).setCell ⟨c,7,none⟩ v7).setCell ⟨c,8,none⟩ v8):=
 (aZ (aZ (aZ (aZ (aZ (aZ (aZ (aZ (aZ h _ hc _ _) _ hc _ _) _ hc _ _) _ hc _ _) _ hc _ _) _ hc _ _) _ hc _ _) _ hc _ _) _ hc _ _)
theorem At2.set9 {b c : Nat} {x y : Value} {w : World} (h : At2 b x y w) (hc : b ≠ c) (v0 v1 v2 v3 v4 v5 v6 v7 v8 : Value) :
 At2 b x y (((((((((w.setCell ⟨c,0,none⟩ v0).setCell ⟨c,1,none⟩ v1).setCell ⟨c,2,none⟩ v2).setCell ⟨c,3,none⟩ v3).setCell ⟨c,4,none⟩ v4).setCell ⟨c,5,none⟩ v5).setCell ⟨c,6,none⟩ v6).setCell ⟨c,7,none⟩ v7).setCell ⟨c,8,none⟩ v8):=
 (((((((((h.set hc _ _).set hc _ _).set hc _ _).set hc _ _).set hc _ _).set hc _ _).set hc _ _).set hc _ _).set hc _ _)
theorem gy {N b : Nat} {v0 v1 v2 v3 v4 v5 v6 v7 v8 : Value} {w : World} (h : aY N #[v0,v1,v2,v3,v4,v5,v6,v7,v8] b w) : aS b 9 w:=fun o ho => by
 refine ⟨?_,h.thawed o⟩
 match o,ho with
 | 0,_ => exact ⟨_,h.cell 0 _ rfl⟩
 | 1,_ => exact ⟨_,h.cell 1 _ rfl⟩
 | 2,_ => exact ⟨_,h.cell 2 _ rfl⟩
 | 3,_ => exact ⟨_,h.cell 3 _ rfl⟩
 | 4,_ => exact ⟨_,h.cell 4 _ rfl⟩
 | 5,_ => exact ⟨_,h.cell 5 _ rfl⟩
 | 6,_ => exact ⟨_,h.cell 6 _ rfl⟩
 | 7,_ => exact ⟨_,h.cell 7 _ rfl⟩
 | 8,_ => exact ⟨_,h.cell 8 _ rfl⟩
theorem lP {w e f X1 S1 K1 X2 S2 K2 Mx : Int} {n1 n2 : Bool} (W : World) (HF : Ct 23 #[.int .i64 w] (.tuple #[.int .i64 e,.int .i64 f]))
 (H1 : Ct 15 #[.int .i64 w,.int .u64 1] (.agg #[.bool n1,.int .i64 K1,.int .i64 X1,.int .u64 S1])) (HM : Ct 55 #[.int .i64 w,.bool false] (.int .u64 Mx))
 (H2 : Ct 15 #[.int .i64 w,.int .u64 Mx] (.agg #[.bool n2,.int .i64 K2,.int .i64 X2,.int .u64 S2])) :
 Calls Tryz.prog 237 #[.int .i64 w] W fun r W' => r = .returned (.agg #[.int .i64 w,.int .i64 f,.int .i64 X1,.int .i64 X2]) ∧ Below W.heap.size W W':=by
 have f1 : ∀ W : World,(Instr.field 37 (.agg #[.bool n1,.int .i64 K1,.int .i64 X1,.int .u64 S1]) 2).run Tryz.prog W = .ok (.int .i64 X1) W:=fun _ => by kernel_rfl
 have f2 : ∀ W : World,(Instr.field 37 (.agg #[.bool n2,.int .i64 K2,.int .i64 X2,.int .u64 S2]) 2).run Tryz.prog W = .ok (.int .i64 X2) W:=fun _ => by kernel_rfl
 have HR : Hid (aS W.heap.size 4 (W.alloc (.cells #[.int .i64 0,.int .i64 0,.int .i64 0,.int .i64 0] 199))):=fD (Below.refl _ _)
 have HB:=ab (ae W (.cells #[.int .i64 0,.int .i64 0,.int .i64 0,.int .i64 0] 199))
 go_enter Tryz.func237,Tryz.ntmps237
 go_wp2_with fail
 refine cg1 HF fun w1 hbl => ?_
 have HB:=bt HB hbl
 have HR:=ab ((aa HR).below hbl)
 clear hbl
 go_wp2_with fail
 refine cg1 H1 fun w2 hbl => ?_
 have HB:=bt HB hbl
 have HR:=ab ((aa HR).below hbl)
 clear hbl
 go_wp2_with fail
 refine cg1 HM fun w3 hbl => ?_
 have HB:=bt HB hbl
 have HR:=ab ((aa HR).below hbl)
 clear hbl
 go_wp2_with fail
 refine cg1 H2 fun w4 hbl => ?_
 have HB:=bt HB hbl
 have HR:=ab ((aa HR).below hbl)
 clear hbl
 obtain ⟨⟨v0,c0⟩,r0⟩:=(aa HR) 0 (by omega)
 obtain ⟨⟨v1,c1⟩,r1⟩:=(aa HR) 1 (by omega)
 obtain ⟨⟨v2,c2⟩,r2⟩:=(aa HR) 2 (by omega)
 obtain ⟨⟨v3,c3⟩,r3⟩:=(aa HR) 3 (by omega)
 go_wp2_with fail
 exact bodyPost_ret (v:=.agg #[.int .i64 w,.int .i64 f,.int .i64 X1,.int .i64 X2]) (by simp (maxDischargeDepth:=8) [results,Tryz.results237,go_sem,c0,c1,c2,c3]) rfl ⟨rfl,fY (aa HB) _ _ _ _⟩
theorem aam {w h l X f L M V : Int} {n m : Bool} (W : World) (xa : ¬ X < -4096) (xb : ¬ 4096 < X) (HO : Ct 237 #[.int .i64 w] (.agg #[.int .i64 w,.int .i64 f,.int .i64 L,.int .i64 M]))
 (HN : Ct 238 #[.agg #[.bool n,.int .u64 h,.int .u64 l,.int .i64 X,.bool m,.int .i64 w,.int .i64 f,.int .i64 L,.int .i64 M]] (.int .u64 V)) :
 Calls Tryz.prog 160 #[.int .i64 w,.bool n,.agg #[.int .u64 h,.int .u64 l],.int .i64 X,.bool m] W fun r W' => r = .returned (.int .u64 V) ∧ Below W.heap.size W W':=by
 go_enter Tryz.func160,Tryz.ntmps160
 go_wp2_with fail
 refine wp_region_held_drew (S:=fun w' => w'.cell? ⟨W.heap.size,0,none⟩ = some (.int .u64 h) ∧ w'.cell? ⟨W.heap.size,1,none⟩ = some (.int .u64 l)) (by kernel_rfl) ?_ (fun hHeld => ?_)
 ·(try dsimp only)
  simp [go_sem]
 refine bF (N:=W.heap.size + 1) (i1:=8) (d1:=11) (v1:=#[.bool false,.int .u64 0,.int .u64 0,.int .i64 0,.bool false,.int .i64 0,.int .i64 0,.int .i64 0,.int .i64 0]) (t1:=202) (f:=1) (n:=8) (T:=fun w' => Below W.heap.size W w') (by kernel_rfl) (by kernel_rfl) (fun _ _ _ _ _ h => h) (aG _ _ _) ?_ (ao W) hHeld ((ae W _).drew) (by simp) ?_
 ·intro a w K h
  unfold wpOp
  go_simp
  exact Or.inl h
 clear hHeld
 refine woA 0 15 ?_
 refine woA 1 16 ?_
 refine woA 2 17 ?_
 refine woA 3 18 ?_
 refine woA 4 19 ?_
 refine woA 5 20 ?_
 refine bv (c:=6) (o:={ dst:=some 21,op:=_,type:=_,pos:=_,after:=_,guard:=_ }) rfl (by kernel_rfl) (by kernel_rfl) (fun u hSu hTu Kk hKk => ?_)
 go_simp
 refine cg1 HO fun wn hbl => ?_
 have HTn:=ab (ac hTu hbl)
 clear hTu hSu
 (try go_wp2_with fail)
 refine hKk.out _ _ (fun w' => Below W.heap.size W w') (by assumption) (ao W) (aa HTn) ?_
 clear hKk Kk HTn
 (try simp only [Act.put,List.setIfInBounds_toArray,List.set_cons_zero,List.set_cons_succ])
 refine woA 7 22 ?_
 refine cQ (by kernel_rfl) (fun wf b1 hSu hTu k1 => ?_)
 (try simp only [Act.put,List.setIfInBounds_toArray,List.set_cons_zero,List.set_cons_succ])
 unfold ptr
 have zb:=k1.base
 have HRm:=ab (gy k1)
 obtain ⟨⟨v0,c0⟩,f0⟩:=(aa HRm) 0 (by omega)
 obtain ⟨⟨v1,c1⟩,f1⟩:=(aa HRm) 1 (by omega)
 obtain ⟨⟨v2,c2⟩,f2⟩:=(aa HRm) 2 (by omega)
 obtain ⟨⟨v3,c3⟩,f3⟩:=(aa HRm) 3 (by omega)
 obtain ⟨⟨v4,c4⟩,f4⟩:=(aa HRm) 4 (by omega)
 obtain ⟨⟨v5,c5⟩,f5⟩:=(aa HRm) 5 (by omega)
 obtain ⟨⟨v6,c6⟩,f6⟩:=(aa HRm) 6 (by omega)
 obtain ⟨⟨v7,c7⟩,f7⟩:=(aa HRm) 7 (by omega)
 obtain ⟨⟨v8,c8⟩,f8⟩:=(aa HRm) 8 (by omega)
 refine ct #[true,true,true,true,true,true,true,true,true,false] (by kernel_rfl) ?_
 refine wpAnyH_ready (rs:=[9]) (by kernel_rfl) (by simp) ?_
 refine AllReadyH.cons (o:={ dst:=none,op:=_,type:=_,pos:=_,after:=_,guard:=_ }) rfl (fun Kk hKk => ?_) AllReadyH.nil
 go_simp
 refine hKk.out _ _ ?_ (fun hHeld => ?_)
 ·(try dsimp only)
  exact At2.set9 hSu (by omega) _ _ _ _ _ _ _ _ _
 clear hKk Kk
 refine wpAnyH_done (by kernel_rfl) ?_ _
 have HA9:=ab (lO (aa HRm) (.bool n) (.int .u64 h) (.int .u64 l) (.int .i64 X) (.bool m) (.int .i64 w) (.int .i64 f) (.int .i64 L) (.int .i64 M))
 have HB:=ab (aal (c:=b1) hTu (by omega) (.bool n) (.int .u64 h) (.int .u64 l) (.int .i64 X) (.bool m) (.int .i64 w) (.int .i64 f) (.int .i64 L) (.int .i64 M))
 clear hHeld hSu hTu k1 c0 c1 c2 c3 c4 c5 c6 c7 c8 f0 f1 f2 f3 f4 f5 f6 f7 f8
 generalize ((((((((wf.setCell ⟨b1,0,none⟩ (.bool n)).setCell ⟨b1,1,none⟩ (.int .u64 h)).setCell ⟨b1,2,none⟩ (.int .u64 l)).setCell ⟨b1,3,none⟩ (.int .i64 X)).setCell ⟨b1,4,none⟩ (.bool m)).setCell ⟨b1,5,none⟩ (.int .i64 w)).setCell ⟨b1,6,none⟩ (.int .i64 f)).setCell ⟨b1,7,none⟩ (.int .i64 L)).setCell ⟨b1,8,none⟩ (.int .i64 M) = wx at *
 obtain ⟨a0,a1,a2,a3,a4,a5,a6,a7,a8⟩:=aa HA9
 go_wp2_with fail
 refine cg1 HN fun wz hbl => ?_
 have HB:=bt HB hbl
 go_wp2_with fail
 go_ret
 exact ⟨rfl,aa HB⟩
theorem aan {w h l X f L M V : Int} {n m : Bool} (W : World) (xa : X < -4096) (HO : Ct 237 #[.int .i64 w] (.agg #[.int .i64 w,.int .i64 f,.int .i64 L,.int .i64 M]))
 (HN : Ct 238 #[.agg #[.bool n,.int .u64 h,.int .u64 l,.int .i64 (-4096),.bool m,.int .i64 w,.int .i64 f,.int .i64 L,.int .i64 M]] (.int .u64 V)) :
 Calls Tryz.prog 160 #[.int .i64 w,.bool n,.agg #[.int .u64 h,.int .u64 l],.int .i64 X,.bool m] W fun r W' => r = .returned (.int .u64 V) ∧ Below W.heap.size W W':=by
 go_enter Tryz.func160,Tryz.ntmps160
 go_wp2_with fail
 refine wp_region_held_drew (S:=fun w' => w'.cell? ⟨W.heap.size,0,none⟩ = some (.int .u64 h) ∧ w'.cell? ⟨W.heap.size,1,none⟩ = some (.int .u64 l)) (by kernel_rfl) ?_ (fun hHeld => ?_)
 ·(try dsimp only)
  simp [go_sem]
 refine bF (N:=W.heap.size + 1) (i1:=8) (d1:=11) (v1:=#[.bool false,.int .u64 0,.int .u64 0,.int .i64 0,.bool false,.int .i64 0,.int .i64 0,.int .i64 0,.int .i64 0]) (t1:=202) (f:=1) (n:=8) (T:=fun w' => Below W.heap.size W w') (by kernel_rfl) (by kernel_rfl) (fun _ _ _ _ _ h => h) (aG _ _ _) ?_ (ao W) hHeld ((ae W _).drew) (by simp) ?_
 ·intro a w K h
  unfold wpOp
  go_simp
  exact Or.inl h
 clear hHeld
 refine woA 0 15 ?_
 refine woA 1 16 ?_
 refine woA 2 17 ?_
 refine woA 3 18 ?_
 refine woA 4 19 ?_
 refine woA 5 20 ?_
 refine bv (c:=6) (o:={ dst:=some 21,op:=_,type:=_,pos:=_,after:=_,guard:=_ }) rfl (by kernel_rfl) (by kernel_rfl) (fun u hSu hTu Kk hKk => ?_)
 go_simp
 refine cg1 HO fun wn hbl => ?_
 have HTn:=ab (ac hTu hbl)
 clear hTu hSu
 (try go_wp2_with fail)
 refine hKk.out _ _ (fun w' => Below W.heap.size W w') (by assumption) (ao W) (aa HTn) ?_
 clear hKk Kk HTn
 (try simp only [Act.put,List.setIfInBounds_toArray,List.set_cons_zero,List.set_cons_succ])
 refine woA 7 22 ?_
 refine cQ (by kernel_rfl) (fun wf b1 hSu hTu k1 => ?_)
 (try simp only [Act.put,List.setIfInBounds_toArray,List.set_cons_zero,List.set_cons_succ])
 unfold ptr
 have zb:=k1.base
 have HRm:=ab (gy k1)
 obtain ⟨⟨v0,c0⟩,f0⟩:=(aa HRm) 0 (by omega)
 obtain ⟨⟨v1,c1⟩,f1⟩:=(aa HRm) 1 (by omega)
 obtain ⟨⟨v2,c2⟩,f2⟩:=(aa HRm) 2 (by omega)
 obtain ⟨⟨v3,c3⟩,f3⟩:=(aa HRm) 3 (by omega)
 obtain ⟨⟨v4,c4⟩,f4⟩:=(aa HRm) 4 (by omega)
 obtain ⟨⟨v5,c5⟩,f5⟩:=(aa HRm) 5 (by omega)
 obtain ⟨⟨v6,c6⟩,f6⟩:=(aa HRm) 6 (by omega)
 obtain ⟨⟨v7,c7⟩,f7⟩:=(aa HRm) 7 (by omega)
 obtain ⟨⟨v8,c8⟩,f8⟩:=(aa HRm) 8 (by omega)
 refine ct #[true,true,true,true,true,true,true,true,true,false] (by kernel_rfl) ?_
 refine wpAnyH_ready (rs:=[9]) (by kernel_rfl) (by simp) ?_
 refine AllReadyH.cons (o:={ dst:=none,op:=_,type:=_,pos:=_,after:=_,guard:=_ }) rfl (fun Kk hKk => ?_) AllReadyH.nil
 go_simp
 refine hKk.out _ _ ?_ (fun hHeld => ?_)
 ·(try dsimp only)
  exact At2.set9 hSu (by omega) _ _ _ _ _ _ _ _ _
 clear hKk Kk
 refine wpAnyH_done (by kernel_rfl) ?_ _
 have HA9:=ab (lO (aa HRm) (.bool n) (.int .u64 h) (.int .u64 l) (.int .i64 (-4096)) (.bool m) (.int .i64 w) (.int .i64 f) (.int .i64 L) (.int .i64 M))
 have HB:=ab (aal (c:=b1) hTu (by omega) (.bool n) (.int .u64 h) (.int .u64 l) (.int .i64 (-4096)) (.bool m) (.int .i64 w) (.int .i64 f) (.int .i64 L) (.int .i64 M))
 clear hHeld hSu hTu k1 c0 c1 c2 c3 c4 c5 c6 c7 c8 f0 f1 f2 f3 f4 f5 f6 f7 f8
 generalize ((((((((wf.setCell ⟨b1,0,none⟩ (.bool n)).setCell ⟨b1,1,none⟩ (.int .u64 h)).setCell ⟨b1,2,none⟩ (.int .u64 l)).setCell ⟨b1,3,none⟩ (.int .i64 (-4096))).setCell ⟨b1,4,none⟩ (.bool m)).setCell ⟨b1,5,none⟩ (.int .i64 w)).setCell ⟨b1,6,none⟩ (.int .i64 f)).setCell ⟨b1,7,none⟩ (.int .i64 L)).setCell ⟨b1,8,none⟩ (.int .i64 M) = wx at *
 obtain ⟨a0,a1,a2,a3,a4,a5,a6,a7,a8⟩:=aa HA9
 go_wp2_with fail
 refine cg1 HN fun wz hbl => ?_
 have HB:=bt HB hbl
 go_wp2_with fail
 go_ret
 exact ⟨rfl,aa HB⟩
theorem aao {w h l X f L M V : Int} {n m : Bool} (W : World) (xa : ¬ X < -4096) (xb : 4096 < X) (HO : Ct 237 #[.int .i64 w] (.agg #[.int .i64 w,.int .i64 f,.int .i64 L,.int .i64 M]))
 (HN : Ct 238 #[.agg #[.bool n,.int .u64 h,.int .u64 l,.int .i64 4096,.bool m,.int .i64 w,.int .i64 f,.int .i64 L,.int .i64 M]] (.int .u64 V)) :
 Calls Tryz.prog 160 #[.int .i64 w,.bool n,.agg #[.int .u64 h,.int .u64 l],.int .i64 X,.bool m] W fun r W' => r = .returned (.int .u64 V) ∧ Below W.heap.size W W':=by
 go_enter Tryz.func160,Tryz.ntmps160
 go_wp2_with fail
 refine wp_region_held_drew (S:=fun w' => w'.cell? ⟨W.heap.size,0,none⟩ = some (.int .u64 h) ∧ w'.cell? ⟨W.heap.size,1,none⟩ = some (.int .u64 l)) (by kernel_rfl) ?_ (fun hHeld => ?_)
 ·(try dsimp only)
  simp [go_sem]
 refine bF (N:=W.heap.size + 1) (i1:=8) (d1:=11) (v1:=#[.bool false,.int .u64 0,.int .u64 0,.int .i64 0,.bool false,.int .i64 0,.int .i64 0,.int .i64 0,.int .i64 0]) (t1:=202) (f:=1) (n:=8) (T:=fun w' => Below W.heap.size W w') (by kernel_rfl) (by kernel_rfl) (fun _ _ _ _ _ h => h) (aG _ _ _) ?_ (ao W) hHeld ((ae W _).drew) (by simp) ?_
 ·intro a w K h
  unfold wpOp
  go_simp
  exact Or.inl h
 clear hHeld
 refine woA 0 15 ?_
 refine woA 1 16 ?_
 refine woA 2 17 ?_
 refine woA 3 18 ?_
 refine woA 4 19 ?_
 refine woA 5 20 ?_
 refine bv (c:=6) (o:={ dst:=some 21,op:=_,type:=_,pos:=_,after:=_,guard:=_ }) rfl (by kernel_rfl) (by kernel_rfl) (fun u hSu hTu Kk hKk => ?_)
 go_simp
 refine cg1 HO fun wn hbl => ?_
 have HTn:=ab (ac hTu hbl)
 clear hTu hSu
 (try go_wp2_with fail)
 refine hKk.out _ _ (fun w' => Below W.heap.size W w') (by assumption) (ao W) (aa HTn) ?_
 clear hKk Kk HTn
 (try simp only [Act.put,List.setIfInBounds_toArray,List.set_cons_zero,List.set_cons_succ])
 refine woA 7 22 ?_
 refine cQ (by kernel_rfl) (fun wf b1 hSu hTu k1 => ?_)
 (try simp only [Act.put,List.setIfInBounds_toArray,List.set_cons_zero,List.set_cons_succ])
 unfold ptr
 have zb:=k1.base
 have HRm:=ab (gy k1)
 obtain ⟨⟨v0,c0⟩,f0⟩:=(aa HRm) 0 (by omega)
 obtain ⟨⟨v1,c1⟩,f1⟩:=(aa HRm) 1 (by omega)
 obtain ⟨⟨v2,c2⟩,f2⟩:=(aa HRm) 2 (by omega)
 obtain ⟨⟨v3,c3⟩,f3⟩:=(aa HRm) 3 (by omega)
 obtain ⟨⟨v4,c4⟩,f4⟩:=(aa HRm) 4 (by omega)
 obtain ⟨⟨v5,c5⟩,f5⟩:=(aa HRm) 5 (by omega)
 obtain ⟨⟨v6,c6⟩,f6⟩:=(aa HRm) 6 (by omega)
 obtain ⟨⟨v7,c7⟩,f7⟩:=(aa HRm) 7 (by omega)
 obtain ⟨⟨v8,c8⟩,f8⟩:=(aa HRm) 8 (by omega)
 refine ct #[true,true,true,true,true,true,true,true,true,false] (by kernel_rfl) ?_
 refine wpAnyH_ready (rs:=[9]) (by kernel_rfl) (by simp) ?_
 refine AllReadyH.cons (o:={ dst:=none,op:=_,type:=_,pos:=_,after:=_,guard:=_ }) rfl (fun Kk hKk => ?_) AllReadyH.nil
 go_simp
 refine hKk.out _ _ ?_ (fun hHeld => ?_)
 ·(try dsimp only)
  exact At2.set9 hSu (by omega) _ _ _ _ _ _ _ _ _
 clear hKk Kk
 refine wpAnyH_done (by kernel_rfl) ?_ _
 have HA9:=ab (lO (aa HRm) (.bool n) (.int .u64 h) (.int .u64 l) (.int .i64 4096) (.bool m) (.int .i64 w) (.int .i64 f) (.int .i64 L) (.int .i64 M))
 have HB:=ab (aal (c:=b1) hTu (by omega) (.bool n) (.int .u64 h) (.int .u64 l) (.int .i64 4096) (.bool m) (.int .i64 w) (.int .i64 f) (.int .i64 L) (.int .i64 M))
 clear hHeld hSu hTu k1 c0 c1 c2 c3 c4 c5 c6 c7 c8 f0 f1 f2 f3 f4 f5 f6 f7 f8
 generalize ((((((((wf.setCell ⟨b1,0,none⟩ (.bool n)).setCell ⟨b1,1,none⟩ (.int .u64 h)).setCell ⟨b1,2,none⟩ (.int .u64 l)).setCell ⟨b1,3,none⟩ (.int .i64 4096)).setCell ⟨b1,4,none⟩ (.bool m)).setCell ⟨b1,5,none⟩ (.int .i64 w)).setCell ⟨b1,6,none⟩ (.int .i64 f)).setCell ⟨b1,7,none⟩ (.int .i64 L)).setCell ⟨b1,8,none⟩ (.int .i64 M) = wx at *
 obtain ⟨a0,a1,a2,a3,a4,a5,a6,a7,a8⟩:=aa HA9
 go_wp2_with fail
 refine cg1 HN fun wz hbl => ?_
 have HB:=bt HB hbl
 go_wp2_with fail
 go_ret
 exact ⟨rfl,aa HB⟩
open Go.Proofs.YtpbgpdmffejdgaaGreatDoor.W
def vH (N : Nat) (lost : Bool) : Nat:=if N % 2 = 1 ∧ (lost = true ∨ N / 2 % 2 = 1) then N / 2 + 1 else N / 2
theorem lN (N : Nat) (h : N < 4611686018427387904) : (N : Int) / 2 = ((N / 2 : Nat) : Int) ∧ bits .and .u64 (N : Int) 1 = ((N % 2 : Nat) : Int):=by
 refine ⟨by omega,?_⟩
 rw [bV 1 (N : Int) 1 (by omega) (by omega) rfl (by omega)]
 omega
theorem ja {h l E w f L M V T U : Int} {n m lost : Bool} {N s : Nat} (W : World) (HN : Ct 265 #[.agg #[.bool n,.int .u64 h,.int .u64 l,.int .i64 E,.bool m]] (.bool false)) (HT : Ct 266 #[.agg #[.bool n,.int .u64 h,.int .u64 l,.int .i64 E,.bool m]] (.int .i64 T))
 (t0 : -10000 ≤ T) (t1 : T ≤ 10000) (f0 : 0 ≤ f) (f1 : f ≤ 63) (hU : U = if T - f < L then L else T - f) (hN : N < 4611686018427387904) (hs : vH N lost = s)
 (HH : Ct 267 #[.agg #[.bool n,.int .u64 h,.int .u64 l,.int .i64 E,.bool m],.int .i64 U] (.tuple #[.int .u64 (N : Int),.bool lost])) (HF : Ct 268 #[.agg #[.bool n,.int .u64 h,.int .u64 l,.int .i64 E,.bool m,.int .i64 w,.int .i64 f,.int .i64 L,.int .i64 M],.int .u64 (s : Int),.int .i64 U] (.int .u64 V)) :
 Calls Tryz.prog 238 #[.agg #[.bool n,.int .u64 h,.int .u64 l,.int .i64 E,.bool m,.int .i64 w,.int .i64 f,.int .i64 L,.int .i64 M]] W fun r W' => r = .returned (.int .u64 V) ∧ Below W.heap.size W W':=by
 have kt : IntKind.i64.wrap (T - f) = T - f:=aj (by omega) (by omega)
 obtain ⟨kN,ka⟩:=lN N hN
 obtain ⟨_,kb⟩:=lN (N / 2) (by omega)
 have kw : IntKind.u64.wrap (((N / 2 : Nat) : Int) + 1) = ((N / 2 : Nat) : Int) + 1:=by rw [IntKind.wrap_u64]; omega
 unfold vH at hs
 by_cases h1 : N % 2 = 1
 ·have kh : (((N % 2 : Nat) : Int) == 1) = true:=aH (by omega)
  cases lost
  ·by_cases h2 : N / 2 % 2 = 1
   ·have ko : (((N / 2 % 2 : Nat) : Int) == 1) = true:=aH (by omega)
    rw [if_pos ⟨h1,Or.inr h2⟩] at hs
    rw [← hs,show ((N / 2 + 1 : Nat) : Int) = ((N / 2 : Nat) : Int) + 1 by omega] at HF
    by_cases xm : T - f < L
    ·rw [if_pos xm] at hU; subst hU
     exact rO W HN HT kt xm kN ka kh kb ko kw HH HF
    ·rw [if_neg xm] at hU; subst hU
     exact rK W HN HT kt xm kN ka kh kb ko kw HH HF
   ·have ko : (((N / 2 % 2 : Nat) : Int) == 1) = false:=au (by omega)
    rw [if_neg (by simp; omega)] at hs
    rw [← hs] at HF
    by_cases xm : T - f < L
    ·rw [if_pos xm] at hU; subst hU
     exact rP W HN HT kt xm kN ka kh kb ko HH HF
    ·rw [if_neg xm] at hU; subst hU
     exact rL W HN HT kt xm kN ka kh kb ko HH HF
  ·rw [if_pos ⟨h1,Or.inl rfl⟩] at hs
   rw [← hs,show ((N / 2 + 1 : Nat) : Int) = ((N / 2 : Nat) : Int) + 1 by omega] at HF
   by_cases xm : T - f < L
   ·rw [if_pos xm] at hU; subst hU
    exact rN W HN HT kt xm kN ka kh kw HH HF
   ·rw [if_neg xm] at hU; subst hU
    exact rJ W HN HT kt xm kN ka kh kw HH HF
 ·have kh : (((N % 2 : Nat) : Int) == 1) = false:=au (by omega)
  rw [if_neg (fun hh => h1 hh.1)] at hs
  rw [← hs] at HF
  by_cases xm : T - f < L
  ·rw [if_pos xm] at hU; subst hU
   exact rM W HN HT kt xm kN ka kh HH HF
  ·rw [if_neg xm] at hU; subst hU
   exact rI W HN HT kt xm kN ka kh HH HF
theorem cd (a b : Nat) (c : Nat) (h : a = b + c) : 2 ^ a = 2 ^ b * 2 ^ c:=by rw [h,Nat.pow_add]
theorem jZ (v : Nat) (n m : Bool) (E U : Int) (hv : W2 v) (e0 : -4096 ≤ E) (e1 : E ≤ 4096) (u0 : -4500 ≤ U) (u1 : U ≤ 5000) (hB : (Go.bitLen v : Int) + E ≤ U + 60) :
 ∃ (N : Nat) (lost : Bool),N < 4611686018427387904 ∧ vH N lost = bk ((2 * v + m.toNat) * 2 ^ (E + 4999).toNat) (2 ^ (U + 5000).toNat) ∧
  ∀ W : World,Calls Tryz.prog 267 #[.agg #[.bool n,.int .u64 (hi v),.int .u64 (lo v),.int .i64 E,.bool m],.int .i64 U] W fun r W' => r = .returned (.tuple #[.int .u64 (N : Int),.bool lost]) ∧ Below W.heap.size W W':=by
 have hm : m.toNat ≤ 1:=by cases m <;> simp
 have hm1 : m.toNat = 1 ↔ m = true:=by cases m <;> simp
 by_cases g : E < U
 ·obtain ⟨j,hj⟩ : ∃ j : Nat,U - E - 1 = j:=⟨(U - E - 1).toNat,by omega⟩
  have hN : v / 2 ^ j < 2 ^ 61:=by
   rw [Nat.div_lt_iff_lt_mul (Nat.two_pow_pos j),← Nat.pow_add]
   exact fd (by omega)
  refine ⟨v / 2 ^ j,ft v j || m,by omega,?_,?_⟩
  ·rw [cd (U + 5000).toNat (j + 2) (E + 4999).toNat (by omega),cC _ _ _ (Nat.two_pow_pos _),pj v m.toNat j _ _ hm rfl rfl]
   unfold vH
   have : ((ft v j || m) = true) = (v % 2 ^ j ≠ 0 ∨ m.toNat = 1):=by
    unfold ft
    rw [hm1,Int.toNat_natCast]
    simp
   simp only [this]
  ·intro W
   have k1 : IntKind.i64.wrap (U - E) = U - E:=aj (by omega) (by omega)
   have k2 : IntKind.i64.wrap (U - E - 1) = U - E - 1:=aj (by omega) (by omega)
   have hr:=fun W => iQ v (U - E - 1) W hv
   have el : lo (bZ v (U - E - 1)) = ((v / 2 ^ j : Nat) : Int):=by
    unfold bZ
    rw [hj,Int.toNat_natCast,fH (by omega)]
   rw [← el,← hj]
   cases hl : ft v (U - E - 1)
   ·rw [hl] at hr
    exact vJ W (ab hr) g k1 k2
   ·rw [hl] at hr
    exact vI W (ab hr) g k1 k2
 ·obtain ⟨k,hk⟩ : ∃ k : Nat,E - U = k:=⟨(E - U).toNat,by omega⟩
  have hbl : Go.bitLen v + k ≤ 60:=by omega
  have hvl:=fd (x:=v) (k:=Go.bitLen v) (Nat.le_refl _)
  have hv60 : v < 2 ^ 60:=fd (by omega)
  have hN : (2 * v + m.toNat) * 2 ^ k < 2 ^ 61:=by
   have h1 : (2 * v + m.toNat) * 2 ^ k < 2 ^ (Go.bitLen v + 1) * 2 ^ k:=Nat.mul_lt_mul_of_pos_right (by rw [Nat.pow_succ]; omega) (Nat.two_pow_pos k)
   rw [← Nat.pow_add] at h1
   exact Nat.lt_of_lt_of_le h1 (Nat.pow_le_pow_right (by omega) (by omega))
  refine ⟨(2 * v + m.toNat) * 2 ^ k,false,by omega,?_,?_⟩
  ·rw [cd (U + 5000).toNat 1 (U + 4999).toNat (by omega),cd (E + 4999).toNat k (U + 4999).toNat (by omega),← Nat.mul_assoc,cC _ _ _ (Nat.two_pow_pos _),Nat.pow_one,aai]
   unfold vH
   simp
  ·intro W
   have k1 : IntKind.i64.wrap (E - U) = E - U:=aj (by omega) (by omega)
   have h1:=fun W => fR v 1 W hv
   have es : b7 v 1 = 2 * v:=by
    unfold b7
    rw [show (1 : Int).toNat = 1 from rfl,Nat.mod_eq_of_lt (by omega)]
    omega
   rw [es] at h1
   have hw : W2 (2 * v + m.toNat):=by unfold W2; omega
   have h2:=fun W => fR (2 * v + m.toNat) (E - U) W hw
   have es2 : b7 (2 * v + m.toNat) (E - U) = (2 * v + m.toNat) * 2 ^ k:=by
    unfold b7
    rw [hk,Int.toNat_natCast,Nat.mod_eq_of_lt (by omega)]
   have el : lo (b7 (2 * v + m.toNat) (E - U)) = (((2 * v + m.toNat) * 2 ^ k : Nat) : Int):=by
    rw [es2,fH (by omega)]
   rw [← el]
   cases m
   ·exact vL W (ab h1) (ab h2) g k1
   ·have eh : hi (2 * v + Bool.toNat true) = hi (2 * v):=by unfold hi; simp; omega
    have el' : lo (2 * v + Bool.toNat true) = lo (2 * v) + 1:=by unfold lo; simp; omega
    rw [eh,el'] at h2
    exact vK W (ab h1) (ab h2) g k1 (iq 1 (lo (2 * v)) 1 (ml _) (oZ _) (by unfold lo; simp) (by omega) (by simp) (by omega))
set_option maxHeartbeats 1000000
def cap (X : Int) : Int:=if X < -4096 then -4096 else if 4096 < X then 4096 else X
theorem rG (X : Int) : -4096 ≤ cap X ∧ cap X ≤ 4096:=by unfold cap; split <;> (try split) <;> omega
def av (f b : Int) : Nat:=(5001 - b - f).toNat
def lid (P Q c : Int) : Int:=if (Q - 1) * P ≤ c then (Q - 1) * P else c
def fl (f P Q : Int) (n : Bool) (c : Int) : Int:=put f P Q n (c / P) (c % P)
def num (v : Nat) (m : Bool) (X : Int) : Nat:=(2 * v + m.toNat) * 2 ^ (X + 4999).toNat
theorem cI {f P Q c x y : Int} (n : Bool) (h1 : c / P = x) (h2 : c % P = y) : fl f P Q n c = put f P Q n x y:=by unfold fl; rw [h1,h2]
theorem pl {w e f P Q b h l E : Int} (k : Kd w e f P Q b) (n m : Bool) (s : Nat) (U : Int) (hs : (s : Int) ≤ 2 * P) (hd : 1 - b - f < U → P ≤ (s : Int)) (hL : 1 - b - f ≤ U) (u1 : U ≤ 10000) (W : World) :
 Calls Tryz.prog 268 #[.agg #[.bool n,.int .u64 h,.int .u64 l,.int .i64 E,.bool m,.int .i64 w,.int .i64 f,.int .i64 (1 - b - f),.int .i64 (Q - 2 - b - f)],.int .u64 (s : Int),.int .i64 U] W fun r W' => r = .returned (.int .u64 (fl f P Q n (lid P Q ((U - (1 - b - f)) * P + (s : Int))))) ∧ Below W.heap.size W W':=by
 have HZ:=ab (fun W => bE n k.wd W)
 have HI:=ab (fun W => d5 n k.wd W)
 have HC:=fun (X S V c : Int) (s0 : 0 ≤ S) (s1 : S < 18446744073709551616) (hc : gZ f P Q b n X S V c) => ab (fun W => vQ (K:=1) W k s0 s1 (Or.inl ⟨rfl,hc⟩))
 unfold gZ at HC
 have g0 : 0 ≤ f:=by rcases k with k | k <;> omega
 have g1 : f ≤ 63:=by rcases k with k | k <;> omega
 have hP : (2 : Int) ^ f.toNat = P:=by rcases k with ⟨_,_,rfl,rfl,_⟩ | ⟨_,_,rfl,rfl,_⟩ <;> rfl
 have kd : (s : Int) / 2 ^ f.toNat = (s : Int) / P:=by rw [hP]
 have ku : IntKind.i64.wrap (U + 1) = U + 1:=aj (by rcases k with k | k <;> omega) (by omega)
 rcases k with ⟨rfl,rfl,rfl,rfl,rfl,rfl⟩ | ⟨rfl,rfl,rfl,rfl,rfl,rfl⟩
 ·unfold lid
  by_cases hb : 1 < (s : Int) / 8388608
  ·by_cases g : 256 - 2 - 127 - 23 < U + 1
   ·rw [if_pos (by omega),cI n (x:=256 - 1) (y:=0) (by rfl) (by rfl)]
    exact lS W g0 g1 kd hb rfl ku (au (by omega)) (dt g) HI
   ·rw [if_neg (by omega),cI n (x:=U + 1 + 127 + 23) (y:=0) (by omega) (by omega)]
    exact lT W g0 g1 kd hb rfl ku (au (by omega)) (df g) (HC (U + 1) _ _ 0 (by omega) (by omega) (Or.inr (Or.inl ⟨by omega,by omega,by omega,by omega,by rw [show (s : Int) / 2 % 8388608 = 0 by omega],rfl⟩)))
  ·by_cases hz : (s : Int) = 0
   ·rw [if_neg (by omega),cI n (x:=0) (y:=0) (by omega) (by omega)]
    exact lQ W g0 g1 kd hb (aH hz) HZ
   ·by_cases g : 256 - 2 - 127 - 23 < U
    ·rw [if_pos (by omega),cI n (x:=256 - 1) (y:=0) (by rfl) (by rfl)]
     exact lR W g0 g1 kd hb (au hz) (dt g) HI
    ·rw [if_neg (by omega)]
     by_cases ht : (s : Int) < 8388608
     ·rw [cI n (x:=0) (y:=(s : Int) % 8388608) (by omega) (by omega)]
      exact gz W g0 g1 kd hb (au hz) (df g) (HC U _ _ 0 (by omega) (by omega) (Or.inl ⟨ht,hz,by omega,rfl,rfl⟩))
     ·rw [cI n (x:=U + 127 + 23) (y:=(s : Int) % 8388608) (by omega) (by omega)]
      exact gz W g0 g1 kd hb (au hz) (df g) (HC U _ _ 0 (by omega) (by omega) (Or.inr (Or.inl ⟨by omega,by omega,by omega,by omega,rfl,rfl⟩)))
 ·unfold lid
  by_cases hb : 1 < (s : Int) / 4503599627370496
  ·by_cases g : 2048 - 2 - 1023 - 52 < U + 1
   ·rw [if_pos (by omega),cI n (x:=2048 - 1) (y:=0) (by rfl) (by rfl)]
    exact lS W g0 g1 kd hb rfl ku (au (by omega)) (dt g) HI
   ·rw [if_neg (by omega),cI n (x:=U + 1 + 1023 + 52) (y:=0) (by omega) (by omega)]
    exact lT W g0 g1 kd hb rfl ku (au (by omega)) (df g) (HC (U + 1) _ _ 0 (by omega) (by omega) (Or.inr (Or.inl ⟨by omega,by omega,by omega,by omega,by rw [show (s : Int) / 2 % 4503599627370496 = 0 by omega],rfl⟩)))
  ·by_cases hz : (s : Int) = 0
   ·rw [if_neg (by omega),cI n (x:=0) (y:=0) (by omega) (by omega)]
    exact lQ W g0 g1 kd hb (aH hz) HZ
   ·by_cases g : 2048 - 2 - 1023 - 52 < U
    ·rw [if_pos (by omega),cI n (x:=2048 - 1) (y:=0) (by rfl) (by rfl)]
     exact lR W g0 g1 kd hb (au hz) (dt g) HI
    ·rw [if_neg (by omega)]
     by_cases ht : (s : Int) < 4503599627370496
     ·rw [cI n (x:=0) (y:=(s : Int) % 4503599627370496) (by omega) (by omega)]
      exact gz W g0 g1 kd hb (au hz) (df g) (HC U _ _ 0 (by omega) (by omega) (Or.inl ⟨ht,hz,by omega,rfl,rfl⟩))
     ·rw [cI n (x:=U + 1023 + 52) (y:=(s : Int) % 4503599627370496) (by omega) (by omega)]
      exact gz W g0 g1 kd hb (au hz) (df g) (HC U _ _ 0 (by omega) (by omega) (Or.inr (Or.inl ⟨by omega,by omega,by omega,by omega,rfl,rfl⟩)))
theorem Kd.pow {w e f P Q b : Int} (k : Kd w e f P Q b) : P = ((2 ^ f.toNat : Nat) : Int) ∧ 0 ≤ f ∧ f ≤ 52 ∧ -1074 ≤ 1 - b - f ∧ 1 - b - f ≤ 0 ∧ 127 ≤ b ∧ b ≤ 1023:=by
 rcases k with ⟨_,_,rfl,rfl,_,rfl⟩ | ⟨_,_,rfl,rfl,_,rfl⟩ <;> exact ⟨rfl,by omega,by omega,by omega,by omega,by omega,by omega⟩
theorem uh (v : Nat) (m : Bool) (E : Int) (h : ¬ (v = 0 ∧ m = false)) : Go.bitLen (num v m E) = (E + 4999).toNat + (Go.bitLen v + 1):=by
 have hm : m.toNat ≤ 1:=by cases m <;> simp
 have hne : 2 * v + m.toNat ≠ 0:=by cases m <;> simp at h ⊢ <;> omega
 unfold num
 rw [dO _ _ hne,aah v m.toNat hm hne]
theorem mo {w e f P Q b : Int} (v : Nat) (n m : Bool) (E : Int) (k : Kd w e f P Q b) (hv : W2 v) (e0 : -4096 ≤ E) (e1 : E ≤ 4096) (W : World) :
 Calls Tryz.prog 238 #[.agg #[.bool n,.int .u64 (hi v),.int .u64 (lo v),.int .i64 E,.bool m,.int .i64 w,.int .i64 f,.int .i64 (1 - b - f),.int .i64 (Q - 2 - b - f)]] W fun r W' => r = .returned (.int .u64 (fl f P Q n (lid P Q (aO f.toNat (av f b) (num v m E) : Nat)))) ∧ Below W.heap.size W W':=by
 have HN:=ab (fun W => jb v E n m W)
 obtain ⟨hP,f0,f1,l0,l1,b0,b1⟩:=k.pow
 by_cases hz : v = 0 ∧ m = false
 ·obtain ⟨rfl,rfl⟩:=hz
  have : num 0 false E = 0:=by unfold num; simp
  rw [this,dB]
  have hq : ¬ (Q - 1) * P ≤ ((0 : Nat) : Int):=by rcases k with ⟨_,_,_,rfl,rfl,_⟩ | ⟨_,_,_,rfl,rfl,_⟩ <;> omega
  unfold lid
  rw [if_neg hq,cI n (x:=0) (y:=0) (by simp) (by simp)]
  exact mR W HN (ab (fun W => bE n k.wd W))
 ·have hNv : (decide (v = 0) && !m) = false:=by cases m <;> simp at hz ⊢; exact hz
  rw [hNv] at HN
  have hbl : Go.bitLen v ≤ 128:=iy hv
  have hl:=uh v m E hz
  have HT:=ab (fun W => ajv (n:=n) (m:=m) W (ab (fun W => tP v W hv)) (aj (x:=E + (Go.bitLen v : Int)) (by omega) (by omega)) (aj (by omega) (by omega)))
  obtain ⟨U,hU⟩ : ∃ U : Int,U = if E + (Go.bitLen v : Int) - 1 - f < 1 - b - f then 1 - b - f else E + (Go.bitLen v : Int) - 1 - f:=⟨_,rfl⟩
  have hU1 : 1 - b - f ≤ U ∧ E + (Go.bitLen v : Int) - 1 - f ≤ U ∧ U ≤ 5000:=by rw [hU]; split <;> omega
  have hu : aT f.toNat (av f b) (num v m E) = (U + 5000).toNat:=by
   unfold aT av
   rw [hl,hU]
   split <;> omega
  obtain ⟨N,lost,hN,hp,hH⟩:=jZ v n m E U hv e0 e1 (by omega) (by omega) (by omega)
  have hup:=nL f.toNat (av f b) (num v m E)
  have hdn:=fun h => nM (f:=f.toNat) (L:=av f b) (X:=num v m E) h
  have hcode : ((aO f.toNat (av f b) (num v m E) : Nat) : Int) = (U - (1 - b - f)) * P + (bk (num v m E) (2 ^ (U + 5000).toNat) : Nat):=by
   unfold aO
   rw [hu,hP,show (U - (1 - b - f)) = (((U + 5000).toNat - av f b : Nat) : Int) by unfold av; omega]
   simp
  rw [hu] at hup hdn
  change vH N lost = bk (num v m E) _ at hp
  generalize hsg : bk (num v m E) (2 ^ (U + 5000).toNat) = s at *
  rw [hcode]
  refine ja (T:=E + (Go.bitLen v : Int) - 1) (U:=U) (N:=N) (s:=s) (lost:=lost) W HN HT (by omega) (by omega) f0 (by omega) hU hN hp (ab hH) (ab (fun W => pl k n m s U ?_ ?_ hU1.1 (by omega) W))
  ·rw [hP]; omega
  ·intro hlt
   rw [hP]
   have:=hdn (by unfold av; omega)
   omega
theorem lM {w e f P Q b : Int} (k : Kd w e f P Q b) (W : World) :
 Calls Tryz.prog 237 #[.int .i64 w] W fun r W' => r = .returned (.agg #[.int .i64 w,.int .i64 f,.int .i64 (1 - b - f),.int .i64 (Q - 2 - b - f)]) ∧ Below W.heap.size W W':=by
 have HF:=ab (fun W => dS k.wd W)
 have HM:=ab (fun W => xK false k.wd W)
 have hm : put f P Q false (Q - 2) (P - 1) = (Q - 2) * P + (P - 1):=gn k.f0
 rw [hm] at HM
 have ho1 : dp f P Q b (sg P Q 1) (1 / P % Q) (1 % P) false 1 (1 - b - f) 1:=by
  unfold dp sg
  rcases k with ⟨rfl,rfl,rfl,rfl,rfl,rfl⟩ | ⟨rfl,rfl,rfl,rfl,rfl,rfl⟩ <;> simp
 have ho2 : dp f P Q b (sg P Q ((Q - 2) * P + (P - 1))) (((Q - 2) * P + (P - 1)) / P % Q) (((Q - 2) * P + (P - 1)) % P) false 1 (Q - 2 - b - f) (2 * P - 1):=by
  unfold dp sg
  rcases k with ⟨rfl,rfl,rfl,rfl,rfl,rfl⟩ | ⟨rfl,rfl,rfl,rfl,rfl,rfl⟩ <;> simp
 have hr : 0 ≤ (Q - 2) * P + (P - 1) ∧ (Q - 2) * P + (P - 1) < 18446744073709551616:=by
  rcases k with ⟨rfl,rfl,rfl,rfl,rfl,rfl⟩ | ⟨rfl,rfl,rfl,rfl,rfl,rfl⟩ <;> omega
 exact lP W HF (ab (fun W => bj 1 k.wd W (by omega) (by omega) ho1)) HM (ab (fun W => bj _ k.wd W hr.1 hr.2 ho2))
theorem fg {w e f P Q b : Int} (v : Nat) (n m : Bool) (X : Int) (k : Kd w e f P Q b) (hv : W2 v) (W : World) :
 Calls Tryz.prog 160 #[.int .i64 w,.bool n,.agg #[.int .u64 (hi v),.int .u64 (lo v)],.int .i64 X,.bool m] W fun r W' => r = .returned (.int .u64 (fl f P Q n (lid P Q (aO f.toNat (av f b) (num v m (cap X)) : Nat)))) ∧ Below W.heap.size W W':=by
 obtain ⟨c0,c1⟩:=rG X
 have HO:=ab (fun W => lM k W)
 have HN:=ab (fun W => mo v n m (cap X) k hv c0 c1 W)
 by_cases h1 : X < -4096
 ·have : cap X = -4096:=by unfold cap; rw [if_pos h1]
  rw [this] at HN ⊢
  exact aan W h1 HO HN
 ·by_cases h2 : 4096 < X
  ·have : cap X = 4096:=by unfold cap; rw [if_neg h1,if_pos h2]
   rw [this] at HN ⊢
   exact aao W h1 h2 HO HN
  ·have : cap X = X:=by unfold cap; rw [if_neg h1,if_neg h2]
   rw [this] at HN ⊢
   exact aam W h1 h2 HO HN
theorem jY {w K X S V : Int} {n : Bool} (W : World) (k0 : (K == 0) = true) (HC : Ct 155 #[.int .i64 w,.bool n] (.int .u64 V)) :
 Calls Tryz.prog 170 #[.int .i64 w,.agg #[.bool n,.int .i64 K,.int .i64 X,.int .u64 S]] W fun r W' => r = .returned (.int .u64 V) ∧ Below W.heap.size W W':=by
 go_enter Tryz.func170,Tryz.ntmps170
 go_wp2_with fail
 refine cg1 HC fun w1 hb => ?_
 have HB:=ab (ac (ae _ _) hb)
 clear hb
 go_wp2_with fail
 go_ret
 exact ⟨rfl,aa HB⟩
theorem lI {w K X S V : Int} {n : Bool} (W : World) (k0 : (K == 0) = false) (k1 : (K == 1) = false) (k2 : (K == 2) = true) (HC : Ct 157 #[.int .i64 w,.bool n] (.int .u64 V)) :
 Calls Tryz.prog 170 #[.int .i64 w,.agg #[.bool n,.int .i64 K,.int .i64 X,.int .u64 S]] W fun r W' => r = .returned (.int .u64 V) ∧ Below W.heap.size W W':=by
 go_enter Tryz.func170,Tryz.ntmps170
 go_wp2_with fail
 refine cg1 HC fun w1 hb => ?_
 have HB:=ab (ac (ae _ _) hb)
 clear hb
 go_wp2_with fail
 go_ret
 exact ⟨rfl,aa HB⟩
theorem lJ {w K X S V : Int} {n : Bool} (W : World) (k0 : (K == 0) = false) (k1 : (K == 1) = false) (k2 : (K == 2) = false) (k3 : (K == 3) = true) (HC : Ct 156 #[.int .i64 w] (.int .u64 V)) :
 Calls Tryz.prog 170 #[.int .i64 w,.agg #[.bool n,.int .i64 K,.int .i64 X,.int .u64 S]] W fun r W' => r = .returned (.int .u64 V) ∧ Below W.heap.size W W':=by
 go_enter Tryz.func170,Tryz.ntmps170
 go_wp2_with fail
 refine cg1 HC fun w1 hb => ?_
 have HB:=ab (ac (ae _ _) hb)
 clear hb
 go_wp2_with fail
 go_ret
 exact ⟨rfl,aa HB⟩
theorem lK {w K X S : Int} {n : Bool} (W : World) (k0 : (K == 0) = false) (k1 : (K == 1) = false) (k2 : (K == 2) = false) (k3 : (K == 3) = false) :
 Calls Tryz.prog 170 #[.int .i64 w,.agg #[.bool n,.int .i64 K,.int .i64 X,.int .u64 S]] W fun r W' => r = .returned (.int .u64 0) ∧ Below W.heap.size W W':=by
 go_enter Tryz.func170,Tryz.ntmps170
 go_wp2_with fail
 go_ret
 exact ⟨rfl,ae _ _⟩
theorem lL {w K X S h l V : Int} {n : Bool} (W : World) (k0 : (K == 0) = false) (k1 : (K == 1) = true) (HO : Ct 161 #[.int .u64 S] (.agg #[.int .u64 h,.int .u64 l])) (HP : Ct 160 #[.int .i64 w,.bool n,.agg #[.int .u64 h,.int .u64 l],.int .i64 X,.bool false] (.int .u64 V)) :
 Calls Tryz.prog 170 #[.int .i64 w,.agg #[.bool n,.int .i64 K,.int .i64 X,.int .u64 S]] W fun r W' => r = .returned (.int .u64 V) ∧ Below W.heap.size W W':=by
 go_enter Tryz.func170,Tryz.ntmps170
 go_wp2_with fail
 have HB:=ab ((ae W (.cells #[.bool n,.int .i64 K,.int .i64 X,.int .u64 S] 37)).drew)
 have HA:=ab ((ak W (.bool n) (.int .i64 K) (.int .i64 X) (.int .u64 S) 37).below ((Below.refl _ _).drew))
 refine wp_region_held_drew (S:=fun w' => w'.cell? ⟨W.heap.size,0,none⟩ = some (.bool n) ∧ w'.cell? ⟨W.heap.size,1,none⟩ = some (.int .i64 K) ∧ w'.cell? ⟨W.heap.size,2,none⟩ = some (.int .i64 X) ∧ w'.cell? ⟨W.heap.size,3,none⟩ = some (.int .u64 S)) (by kernel_rfl) ?_ (fun hHeld => ?_)
 ·(try dsimp only)
  exact aa HA
 refine aC 10 (by kernel_rfl) ?_
 refine tkA 0 15 1 ?_
 refine tkA 1 16 3 ?_
 refine tkA 2 17 7 ?_
 refine tkA 3 18 15 ?_
 refine tkA 4 19 31 ?_
 refine tkA 6 21 95 ?_
 refine tkA 7 22 223 ?_
 refine rdA 5 255 (fun Kk hKk => ?_)
 go_simp
 refine cg1 HO fun w1 hbl => ?_
 have HB:=bt HB hbl
 have HA:=ab ((aa HA).below hbl)
 clear hbl
 (try go_wp2_with fail)
 refine oA hKk (aa HA) fun hHeld => ?_
 clear hKk Kk
 refine rdA 8 511 (fun Kk hKk => ?_)
 go_simp
 refine cg1 HP fun w2 hbl => ?_
 have HB:=bt HB hbl
 have HA:=ab ((aa HA).below hbl)
 clear hbl
 (try go_wp2_with fail)
 refine oA hKk (aa HA) fun hHeld => ?_
 clear hKk Kk
 refine tkA 9 4 1023 ?_
 refine wpAnyH_done (by kernel_rfl) ?_ _
 go_wp2
 go_ret
 exact ⟨rfl,aa HB⟩
theorem f9 : Kd 32 8 23 8388608 256 127:=Or.inl ⟨rfl,rfl,rfl,rfl,rfl,rfl⟩
theorem fw : Kd 64 11 52 4503599627370496 2048 1023:=Or.inr ⟨rfl,rfl,rfl,rfl,rfl,rfl⟩
theorem vG (s j : Nat) (E : Int) (h : -4999 ≤ E - j) : num (s * 2 ^ j) false (E - j) = s * 2 ^ (E + 5000).toNat:=by
 unfold num
 rw [show 2 * (s * 2 ^ j) + Bool.toNat false = s * 2 ^ j * 2 ^ 1 by simp; omega,Nat.mul_assoc,Nat.mul_assoc,← Nat.pow_add,← Nat.pow_add,show j + (1 + (E - j + 4999).toNat) = (E + 5000).toNat by omega]
theorem gY (s : Nat) (E : Int) (h : -4999 ≤ E) : num s false E = s * 2 ^ (E + 5000).toNat:=by
 have:=vG s 0 E (by omega)
 simpa using this
theorem lH {X : Int} (h0 : -4096 ≤ X) (h1 : X ≤ 4096) : cap X = X:=by
 unfold cap
 rw [if_neg (by omega),if_neg (by omega)]
theorem en {x : Int} (x0 : 0 ≤ x) (x1 : x < 18446744073709551616) : W2 x.toNat:=by unfold W2; omega
def cV (f P Q b : Int) (n : Bool) (K X S : Int) : Int:=
 if K = 0 then put f P Q n 0 0 else if K = 1 then fl f P Q n (lid P Q (aO f.toNat (av f b) (num S.toNat false (cap X)) : Nat)) else if K = 2 then put f P Q n (Q - 1) 0 else if K = 3 then put f P Q false (Q - 1) (P / 2) else 0
theorem cE {w e f P Q b : Int} (k : Kd w e f P Q b) (n : Bool) (K X S : Int) (s0 : 0 ≤ S) (s1 : S < 18446744073709551616) (W : World) :
 Calls Tryz.prog 170 #[.int .i64 w,.agg #[.bool n,.int .i64 K,.int .i64 X,.int .u64 S]] W fun r W' => r = .returned (.int .u64 (cV f P Q b n K X S)) ∧ Below W.heap.size W W':=by
 unfold cV
 by_cases k0 : K = 0
 ·rw [if_pos k0]
  exact jY W (aH k0) (ab (fun W => bE n k.wd W))
 ·rw [if_neg k0]
  by_cases k1 : K = 1
  ·rw [if_pos k1]
   exact lL W (au k0) (aH k1) (ab (fun W => fG S W s0 s1)) (ab (fun W => fg S.toNat n false X k (en s0 s1) W))
  ·rw [if_neg k1]
   by_cases k2 : K = 2
   ·rw [if_pos k2]
    exact lI W (au k0) (au k1) (aH k2) (ab (fun W => d5 n k.wd W))
   ·rw [if_neg k2]
    by_cases k3 : K = 3
    ·rw [if_pos k3]
     exact lJ W (au k0) (au k1) (au k2) (aH k3) (ab (fun W => cx k.wd W))
    ·rw [if_neg k3]
     exact lK W (au k0) (au k1) (au k2) (au k3)
def mag (X S : Int) : Nat:=S.toNat * 2 ^ (X + 5000).toNat
def rd (f P Q b : Int) (n : Bool) (M : Nat) : Int:=fl f P Q n (lid P Q (aO f.toNat (av f b) M : Nat))
def cl (f P Q b : Int) (n1 : Bool) (K1 : Int) (M1 : Nat) (n2 : Bool) (K2 : Int) (M2 : Nat) : Int:=
 if K1 = 3 ∨ K2 = 3 ∨ (K1 = 2 ∧ K2 = 2 ∧ n1 ≠ n2) then put f P Q false (Q - 1) (P / 2)
 else if K1 = 2 then put f P Q n1 (Q - 1) 0
 else if K2 = 2 then put f P Q n2 (Q - 1) 0
 else if n1 = n2 then rd f P Q b n1 (M1 + M2)
 else if M1 = M2 then put f P Q false 0 0
 else if M1 < M2 then rd f P Q b n2 (M2 - M1)
 else rd f P Q b n1 (M1 - M2)
def Prt (f P Q b K X S : Int) : Prop:=
 (K = 3 ∧ X = 0 ∧ S = 0) ∨ (K = 2 ∧ X = 0 ∧ S = 0) ∨ (K = 0 ∧ X = 0 ∧ S = 0) ∨
 (K = 1 ∧ 1 - b - f ≤ X ∧ X ≤ Q - 2 - b - f ∧ 0 < S ∧ S < 2 * P ∧ (1 - b - f < X → P ≤ S))
theorem lF {w e f P Q b x y X S K : Int} {n N : Bool} (k : Kd w e f P Q b) (ho : dp f P Q b n x y N K X S) (x0 : 0 ≤ x) (x1 : x < Q) (y0 : 0 ≤ y) (y1 : y < P) : Prt f P Q b K X S:=by
 have hf:=k.f0
 unfold Prt
 rcases ho with ⟨h,_⟩ | ⟨_,_,_,_,rfl,rfl,rfl⟩ | ⟨_,_,_,_,rfl,rfl,rfl⟩ | ⟨_,h1,h2,_,rfl,rfl,rfl⟩ | ⟨_,h1,h2,h3,_,rfl,rfl,rfl⟩ | ⟨_,h1,h2,h3,_,rfl,rfl,rfl⟩
 ·exact absurd h hf
 ·exact Or.inl ⟨rfl,rfl,rfl⟩
 ·exact Or.inr (Or.inl ⟨rfl,rfl,rfl⟩)
 ·refine Or.inr (Or.inr (Or.inr ⟨rfl,by omega,by omega,by omega,by omega,fun _ => by omega⟩))
 ·have : 2 ≤ Q ∧ 1 ≤ P:=by rcases k with k | k <;> omega
  refine Or.inr (Or.inr (Or.inr ⟨rfl,by omega,?_,by omega,by omega,fun h => by omega⟩))
  rcases k with k | k <;> omega
 ·exact Or.inr (Or.inr (Or.inl ⟨rfl,rfl,rfl⟩))
theorem Prt.in {w e f P Q b K X S : Int} (k : Kd w e f P Q b) (h : Prt f P Q b K X S) : -1200 ≤ X ∧ X ≤ 1100 ∧ 0 ≤ S ∧ S < 2 * P ∧ S < 9007199254740992:=by
 unfold Prt at h
 rcases k with ⟨-,-,rfl,rfl,rfl,rfl⟩ | ⟨-,-,rfl,rfl,rfl,rfl⟩ <;> omega
theorem Prt.mag0 {f P Q b K X S : Int} (h : Prt f P Q b K X S) (hK : K ≠ 1) : mag X S = 0:=by
 have : S = 0:=by
  unfold Prt at h
  omega
 subst this
 exact Nat.zero_mul _
theorem Prt.mag1 {f P Q b X S : Int} (h : Prt f P Q b 1 X S) : 0 < mag X S:=by
 have : 0 < S:=by
  unfold Prt at h
  omega
 exact Nat.mul_pos (by omega) (Nat.two_pow_pos _)
theorem uc {X : Int} (S : Int) (h0 : -1200 ≤ X) (h1 : X ≤ 1100) : num S.toNat false (cap X) = mag X S:=by
 rw [lH (by omega) (by omega),gY _ _ (by omega)]
 rfl
theorem gW {w e f P Q b K X S : Int} (k : Kd w e f P Q b) (n : Bool) (h : Prt f P Q b K X S) :
 cV f P Q b n K X S = if K = 0 then put f P Q n 0 0 else if K = 1 then rd f P Q b n (mag X S) else if K = 2 then put f P Q n (Q - 1) 0 else put f P Q false (Q - 1) (P / 2):=by
 obtain ⟨a,c,_⟩:=h.in k
 unfold cV rd
 rw [uc S a c]
 have hK : K = 0 ∨ K = 1 ∨ K = 2 ∨ K = 3:=by unfold Prt at h; omega
 rcases hK with rfl | rfl | rfl | rfl <;> simp
theorem fT {w e f P Q b : Int} (k : Kd w e f P Q b) (n : Bool) : rd f P Q b n 0 = put f P Q n 0 0:=by
 unfold rd
 have:=k.pos
 have hq : ¬ (Q - 1) * P ≤ 0:=by
  have:=Int.mul_pos (show 0 < Q - 1 by omega) (show 0 < P by omega)
  omega
 rw [dB]
 unfold lid fl
 rw [if_neg (show ¬ (Q - 1) * P ≤ ((0 : Nat) : Int) from hq)]
 simp
theorem nJ {f P : Int} (h : P = ((2 ^ f.toNat : Nat) : Int)) {S : Int} (s0 : 0 ≤ S) (s1 : S < 2 * P) : S.toNat < 2 ^ (f.toNat + 1):=by
 rw [Nat.pow_succ]
 omega
theorem ud {w e f P Q b X1 S1 X2 S2 : Int} (k : Kd w e f P Q b) (n1 n2 : Bool) (h1 : Prt f P Q b 1 X1 S1) (h2 : Prt f P Q b 1 X2 S2) (hd : 64 < X1 - X2) :
 cl f P Q b n1 1 (mag X1 S1) n2 1 (mag X2 S2) = rd f P Q b n1 (mag X1 S1):=by
 obtain ⟨hP,f0,f1,l0,l1,b0,b1⟩:=k.pow
 have g1 : 1 - b - f ≤ X1 ∧ X1 ≤ Q - 2 - b - f ∧ 0 < S1 ∧ S1 < 2 * P ∧ (1 - b - f < X1 → P ≤ S1):=by unfold Prt at h1; omega
 have g2 : 1 - b - f ≤ X2 ∧ X2 ≤ Q - 2 - b - f ∧ 0 < S2 ∧ S2 < 2 * P ∧ (1 - b - f < X2 → P ≤ S2):=by unfold Prt at h2; omega
 obtain ⟨a1,a2,a3,a4,a5⟩:=g1
 obtain ⟨c1,c2,c3,c4,c5⟩:=g2
 have hS1:=nJ hP (by omega) a4
 have hS2:=nJ hP (by omega) c4
 have hs1 : 2 ^ f.toNat ≤ S1.toNat:=by have:=a5 (by omega); omega
 have hr : 4 * mag X2 S2 < 2 ^ (X1 + 5000).toNat:=by
  unfold mag
  have h3 : S2.toNat * 2 ^ (X2 + 5000).toNat < 2 ^ (f.toNat + 1) * 2 ^ (X2 + 5000).toNat:=Nat.mul_lt_mul_of_pos_right hS2 (Nat.two_pow_pos _)
  rw [← Nat.pow_add] at h3
  have h4 : 2 ^ 2 * 2 ^ (f.toNat + 1 + (X2 + 5000).toNat) ≤ 2 ^ (X1 + 5000).toNat:=by
   rw [← Nat.pow_add]
   exact Nat.pow_le_pow_right (by omega) (by omega)
  omega
 have hL : av f b < (X1 + 5000).toNat:=by unfold av; omega
 have hlt : mag X2 S2 < mag X1 S1:=by
  have : 1 * 2 ^ (X1 + 5000).toNat ≤ S1.toNat * 2 ^ (X1 + 5000).toNat:=Nat.mul_le_mul_right _ (by omega)
  have e : mag X1 S1 = S1.toNat * 2 ^ (X1 + 5000).toNat:=rfl
  omega
 unfold cl
 rw [if_neg (by omega),if_neg (by omega),if_neg (by omega)]
 unfold rd
 by_cases hn : n1 = n2
 ·rw [if_pos hn]
  have:=pg f.toNat (av f b) S1.toNat (X1 + 5000).toNat (mag X2 S2) hS1 hs1 hL hr
  rw [show mag X1 S1 = S1.toNat * 2 ^ (X1 + 5000).toNat from rfl,this]
 ·rw [if_neg hn,if_neg (by omega),if_neg (by omega)]
  have:=ph f.toNat (av f b) S1.toNat (X1 + 5000).toNat (mag X2 S2) hS1 hs1 hL hr
  rw [show mag X1 S1 = S1.toNat * 2 ^ (X1 + 5000).toNat from rfl,this]
theorem bM {f P Q b : Int} (n1 n2 : Bool) (K1 K2 : Int) (M1 M2 : Nat) : cl f P Q b n1 K1 M1 n2 K2 M2 = cl f P Q b n2 K2 M2 n1 K1 M1:=by
 unfold cl
 by_cases h3 : K1 = 3 ∨ K2 = 3 ∨ (K1 = 2 ∧ K2 = 2 ∧ n1 ≠ n2)
 ·rw [if_pos h3,if_pos (by
   rcases h3 with h | h | ⟨h1,h2,h⟩
   ·exact Or.inr (Or.inl h)
   ·exact Or.inl h
   ·exact Or.inr (Or.inr ⟨h2,h1,fun he => h he.symm⟩))]
 ·have h3' : ¬ (K2 = 3 ∨ K1 = 3 ∨ (K2 = 2 ∧ K1 = 2 ∧ n2 ≠ n1)):=fun h => h3 (by
   rcases h with h | h | ⟨h1,h2,h⟩
   ·exact Or.inr (Or.inl h)
   ·exact Or.inl h
   ·exact Or.inr (Or.inr ⟨h2,h1,fun he => h he.symm⟩))
  rw [if_neg h3,if_neg h3']
  by_cases ka : K1 = 2
  ·rw [if_pos ka]
   by_cases kb : K2 = 2
   ·rw [if_pos kb]
    have : n1 = n2:=Decidable.byContradiction fun hn => h3 (Or.inr (Or.inr ⟨ka,kb,hn⟩))
    rw [this]
   ·rw [if_neg kb,if_pos ka]
  ·rw [if_neg ka]
   by_cases kb : K2 = 2
   ·rw [if_pos kb,if_pos kb]
   ·rw [if_neg kb,if_neg kb,if_neg ka]
    by_cases hn : n1 = n2
    ·subst hn
     rw [if_pos rfl,if_pos rfl,Nat.add_comm]
    ·rw [if_neg hn,if_neg (fun h : n2 = n1 => hn h.symm)]
     by_cases hM : M1 = M2
     ·rw [if_pos hM,if_pos hM.symm]
     ·rw [if_neg hM,if_neg (fun h : M2 = M1 => hM h.symm)]
      by_cases hl : M1 < M2
      ·rw [if_pos hl,if_neg (by omega)]
      ·rw [if_neg hl,if_pos (by omega)]
theorem aad {X1 S1 X2 : Int} (h0 : -1200 ≤ X2) (h : X2 ≤ X1) : S1.toNat * 2 ^ (X1 - X2).toNat * 2 ^ (X2 + 5000).toNat = mag X1 S1:=by
 unfold mag
 rw [Nat.mul_assoc,← Nat.pow_add,show (X1 - X2).toNat + (X2 + 5000).toNat = (X1 + 5000).toNat by omega]
theorem lG {S1 : Int} {d : Int} (s0 : 0 ≤ S1) (s1 : S1 < 9007199254740992) (d1 : d ≤ 64) : S1.toNat * 2 ^ d.toNat < 166153499473114484112975882535043072:=by
 have h1 : 2 ^ d.toNat ≤ 2 ^ 64:=Nat.pow_le_pow_right (by omega) (by omega)
 have h2 : S1.toNat * 2 ^ d.toNat ≤ S1.toNat * 2 ^ 64:=Nat.mul_le_mul_left _ h1
 omega
theorem amc {S1 : Int} {d : Int} (s0 : 0 ≤ S1) (s1 : S1 < 9007199254740992) (d1 : d ≤ 64) : b7 S1.toNat d = S1.toNat * 2 ^ d.toNat:=by
 have:=lG s0 s1 d1
 unfold b7
 exact Nat.mod_eq_of_lt (by omega)
theorem iZ {w e f P Q b E : Int} (k : Kd w e f P Q b) (n : Bool) (v : Nat) (hv : W2 v) (h0 : -1200 ≤ E) (h1 : E ≤ 1100) (W : World) :
 Calls Tryz.prog 160 #[.int .i64 w,.bool n,.agg #[.int .u64 (hi v),.int .u64 (lo v)],.int .i64 E,.bool false] W fun r W' => r = .returned (.int .u64 (rd f P Q b n (v * 2 ^ (E + 5000).toNat))) ∧ Below W.heap.size W W':=by
 have:=fg v n false E k hv W
 rw [lH (by omega) (by omega),gY _ _ (by omega)] at this
 exact this
theorem jX {w e f P Q b E : Int} (k : Kd w e f P Q b) (n1 n2 : Bool) (v u : Nat) (hv : v < 166153499473114484112975882535043072) (hu : u < 166153499473114484112975882535043072) (h0 : -1200 ≤ E) (h1 : E ≤ 1100) (W : World) :
 Calls Tryz.prog 269 #[.int .i64 w,.bool n1,.agg #[.int .u64 (hi v),.int .u64 (lo v)],.bool n2,.agg #[.int .u64 (hi u),.int .u64 (lo u)],.int .i64 E] W fun r W' => r = .returned (.int .u64 (cl f P Q b n1 1 (v * 2 ^ (E + 5000).toNat) n2 1 (u * 2 ^ (E + 5000).toNat))) ∧ Below W.heap.size W W':=by
 have hp:=Nat.two_pow_pos (E + 5000).toNat
 unfold cl
 rw [if_neg (by omega),if_neg (by omega),if_neg (by omega)]
 by_cases hn : n1 = n2
 ·rw [if_pos hn,← Nat.add_mul]
  have ha:=fun W => ap8 v u W
  rw [show pn v u = v + u from Nat.mod_eq_of_lt (by omega)] at ha
  exact nQ W (by simp [hn]) (ab ha) (ab (fun W => iZ k n1 (v + u) (by unfold W2; omega) h0 h1 W))
 ·rw [if_neg hn]
  have hn' : (n1 == n2) = false:=by simp [hn]
  have hc:=fun W => tO v u W
  by_cases he : v = u
  ·subst he
   rw [if_pos rfl]
   rw [show aK v v = 0 by unfold aK; rw [if_neg (by omega),if_neg (by omega)]] at hc
   exact rZ W hn' (ab hc) (ab (fun W => bE false k.wd W))
  ·rw [if_neg (fun h => he (Nat.eq_of_mul_eq_mul_right hp h))]
   by_cases hl : v < u
   ·rw [if_pos (Nat.mul_lt_mul_of_pos_right hl hp),← Nat.sub_mul]
    rw [show aK v u = -1 by unfold aK; rw [if_pos hl]] at hc
    have ha:=fun W => ajy u v W (by unfold W2; omega)
    rw [show lU u v = u - v by unfold lU; omega] at ha
    exact rY W hn' (ab hc) (ab ha) (ab (fun W => iZ k n2 (u - v) (by unfold W2; omega) h0 h1 W))
   ·rw [if_neg (fun h => hl (Nat.lt_of_mul_lt_mul_right h)),← Nat.sub_mul]
    rw [show aK v u = 1 by unfold aK; rw [if_neg hl,if_pos (by omega)]] at hc
    have ha:=fun W => ajy v u W (by unfold W2; omega)
    rw [show lU v u = v - u by unfold lU; omega] at ha
    exact rX W hn' (ab hc) (ab ha) (ab (fun W => iZ k n1 (v - u) (by unfold W2; omega) h0 h1 W))
theorem pd {w e f P Q b X S : Int} (k : Kd w e f P Q b) (n : Bool) (h : Prt f P Q b 1 X S) (W : World) :
 Calls Tryz.prog 170 #[.int .i64 w,.agg #[.bool n,.int .i64 1,.int .i64 X,.int .u64 S]] W fun r W' => r = .returned (.int .u64 (rd f P Q b n (mag X S))) ∧ Below W.heap.size W W':=by
 obtain ⟨_,_,s0,_,s1⟩:=h.in k
 have:=cE k n 1 X S s0 (by omega) W
 rw [gW k n h] at this
 exact this
theorem aae {S1 d : Int} (s0 : 0 ≤ S1) (s1 : S1 < 9007199254740992) (d1 : d ≤ 64) (W : World) :
 Calls Tryz.prog 234 #[.agg #[.int .u64 (hi S1.toNat),.int .u64 (lo S1.toNat)],.int .i64 d] W fun r W' => r = .returned (.agg #[.int .u64 (hi (S1.toNat * 2 ^ d.toNat)),.int .u64 (lo (S1.toNat * 2 ^ d.toNat))]) ∧ Below W.heap.size W W':=by
 have:=fR S1.toNat d W (by unfold W2; omega)
 rw [amc s0 s1 d1] at this
 exact this
theorem rE {w e f P Q b X1 S1 X2 S2 : Int} (k : Kd w e f P Q b) (n1 n2 : Bool) (h1 : Prt f P Q b 1 X1 S1) (h2 : Prt f P Q b 1 X2 S2) (W : World) :
 Calls Tryz.prog 239 #[.int .i64 w,.agg #[.bool n1,.int .i64 1,.int .i64 X1,.int .u64 S1],.agg #[.bool n2,.int .i64 1,.int .i64 X2,.int .u64 S2]] W fun r W' => r = .returned (.int .u64 (cl f P Q b n1 1 (mag X1 S1) n2 1 (mag X2 S2))) ∧ Below W.heap.size W W':=by
 obtain ⟨x0,x1,s0,-,s1⟩:=h1.in k
 obtain ⟨y0,y1,t0,-,t1⟩:=h2.in k
 by_cases hx : X1 < X2
 ·rw [bM]
  by_cases hd : 64 < X2 - X1
  ·rw [ud k n2 n1 h2 h1 hd]
   exact nO W hx (aj (by omega) (by omega)) hd (ab (fun W => pd k n2 h2 W))
  ·rw [← aad (X1:=X2) (S1:=S2) (X2:=X1) x0 (by omega)]
   exact po W hx (aj (by omega) (by omega)) hd (ab (fun W => fG S2 W t0 (by omega))) (ab (fun W => aae t0 t1 (by omega) W)) (ab (fun W => fG S1 W s0 (by omega)))
    (ab (fun W => jX k n2 n1 _ _ (lG t0 t1 (by omega)) (by omega) x0 x1 W))
 ·by_cases hd : 64 < X1 - X2
  ·rw [ud k n1 n2 h1 h2 hd]
   exact rW W hx (aj (by omega) (by omega)) hd (ab (fun W => pd k n1 h1 W))
  ·rw [← aad (X1:=X1) (S1:=S1) (X2:=X2) y0 (by omega)]
   exact vR W hx (aj (by omega) (by omega)) hd (ab (fun W => fG S1 W s0 (by omega))) (ab (fun W => aae s0 s1 (by omega) W)) (ab (fun W => fG S2 W t0 (by omega)))
    (ab (fun W => jX k n1 n2 _ _ (lG s0 s1 (by omega)) (by omega) y0 y1 W))
theorem pe {w e f P Q b K1 X1 S1 K2 X2 S2 : Int} (k : Kd w e f P Q b) (n1 n2 : Bool) (h1 : Prt f P Q b K1 X1 S1) (h2 : Prt f P Q b K2 X2 S2) (W : World) :
 Calls Tryz.prog 162 #[.int .i64 w,.agg #[.bool n1,.int .i64 K1,.int .i64 X1,.int .u64 S1],.agg #[.bool n2,.int .i64 K2,.int .i64 X2,.int .u64 S2]] W fun r W' => r = .returned (.int .u64 (cl f P Q b n1 K1 (mag X1 S1) n2 K2 (mag X2 S2))) ∧ Below W.heap.size W W':=by
 obtain ⟨-,-,s0,-,s1⟩:=h1.in k
 obtain ⟨-,-,t0,-,t1⟩:=h2.in k
 have hK1 : K1 = 0 ∨ K1 = 1 ∨ K1 = 2 ∨ K1 = 3:=by unfold Prt at h1; omega
 have hK2 : K2 = 0 ∨ K2 = 1 ∨ K2 = 2 ∨ K2 = 3:=by unfold Prt at h2; omega
 by_cases hk : K1 = K2
 ·subst hk
  have hk':=dJ (rfl : K1 = K1)
  rcases hK1 with rfl | rfl | rfl | rfl
  ·rw [h1.mag0 (by omega),h2.mag0 (by omega)]
   have e : cl f P Q b n1 0 0 n2 0 0 = put f P Q (n1 && n2) 0 0:=by
    unfold cl
    rw [if_neg (by omega),if_neg (by omega),if_neg (by omega)]
    by_cases hn : n1 = n2
    ·subst hn
     rw [if_pos rfl,Nat.add_zero,fT k]
     simp
    ·rw [if_neg hn,if_pos rfl]
     cases n1 <;> cases n2 <;> simp_all
   rw [e]
   cases n1
   ·exact nP W hk' (by simp) (ab (fun W => bE false k.wd W))
   ·exact agy W hk' (by simp) (ab (fun W => bE n2 k.wd W))
  ·exact ag1 W hk' (by simp) (by simp) (by simp) (ab (fun W => rE k n1 n2 h1 h2 W))
  ·unfold cl
   by_cases hn : n1 = n2
   ·rw [if_neg (by
     rintro (h | h | ⟨_,_,h⟩)
     ·omega
     ·omega
     ·exact h hn),if_pos rfl]
    exact agz W hk' (by simp) (by simp) (by simp [hn]) (ab (fun W => d5 n1 k.wd W))
   ·rw [if_pos (Or.inr (Or.inr ⟨rfl,rfl,hn⟩))]
    exact ag0 W hk' (by simp) (by simp) (by simp [hn]) (ab (fun W => cx k.wd W))
  ·unfold cl
   rw [if_pos (Or.inl rfl)]
   exact ag2 W hk' (by simp) (by simp) (by simp) (ab (fun W => cx k.wd W))
 ·have hk':=dj hk
  by_cases hl : K1 < K2
  ·have e : cl f P Q b n1 K1 (mag X1 S1) n2 K2 (mag X2 S2) = cV f P Q b n2 K2 X2 S2:=by
    rw [gW k n2 h2,if_neg (by omega)]
    unfold cl
    by_cases h3 : K2 = 3
    ·rw [if_pos (Or.inr (Or.inl h3)),if_neg (by omega),if_neg (by omega)]
    ·rw [if_neg (by omega),if_neg (by omega)]
     by_cases hi : K2 = 2
     ·rw [if_pos hi,if_neg (by omega),if_pos hi]
     ·have hK : K2 = 1:=by omega
      subst hK
      have hp:=h2.mag1
      rw [if_neg hi,h1.mag0 (by omega),if_pos (rfl : (1 : Int) = 1)]
      by_cases hn : n1 = n2
      ·rw [if_pos hn,hn,Nat.zero_add]
      ·rw [if_neg hn,if_neg (show ¬ 0 = mag X2 S2 by omega),if_pos hp,Nat.sub_zero]
   rw [e]
   exact agw W hk' hl (ab (fun W => cE k n2 K2 X2 S2 t0 (by omega) W))
  ·have e : cl f P Q b n1 K1 (mag X1 S1) n2 K2 (mag X2 S2) = cV f P Q b n1 K1 X1 S1:=by
    rw [bM,gW k n1 h1,if_neg (by omega)]
    unfold cl
    by_cases h3 : K1 = 3
    ·rw [if_pos (Or.inr (Or.inl h3)),if_neg (by omega),if_neg (by omega)]
    ·rw [if_neg (by omega),if_neg (by omega)]
     by_cases hi : K1 = 2
     ·rw [if_pos hi,if_neg (by omega),if_pos hi]
     ·have hK : K1 = 1:=by omega
      subst hK
      have hp:=h1.mag1
      rw [if_neg hi,h2.mag0 (by omega),if_pos (rfl : (1 : Int) = 1)]
      by_cases hn : n2 = n1
      ·rw [if_pos hn,hn,Nat.zero_add]
      ·rw [if_neg hn,if_neg (show ¬ 0 = mag X1 S1 by omega),if_pos hp,Nat.sub_zero]
   rw [e]
   exact agx W hk' hl (ab (fun W => cE k n1 K1 X1 S1 s0 (by omega) W))
def oc (P Q x : Int) : Nat:=(x / P % Q * P + x % P).toNat
def oK (P Q x : Int) : Int:=if x / P % Q = Q - 1 then (if x % P = 0 then 2 else 3) else if x / P % Q = 0 ∧ x % P = 0 then 0 else 1
def oN (P Q x : Int) : Bool:=if x / P % Q = Q - 1 ∧ x % P ≠ 0 then false else sg P Q x
def oM (f P Q b x : Int) : Nat:=if x / P % Q = Q - 1 then 0 else bd f.toNat (av f b) (oc P Q x)
def il (f P Q b x y : Int) : Int:=cl f P Q b (oN P Q x) (oK P Q x) (oM f P Q b x) (oN P Q y) (oK P Q y) (oM f P Q b y)
def kv (f P Q b x y : Int) : Int:=cl f P Q b (oN P Q x) (oK P Q x) (oM f P Q b x) (!oN P Q y) (oK P Q y) (oM f P Q b y)
theorem iY (X : Int) : mag X 0 = 0:=by
 unfold mag
 rw [show (0 : Int).toNat = 0 from rfl,Nat.zero_mul]
theorem aL {w e f P Q b : Int} (k : Kd w e f P Q b) (x : Int) : ∃ X S,dp f P Q b (sg P Q x) (x / P % Q) (x % P) (oN P Q x) (oK P Q x) X S ∧ Prt f P Q b (oK P Q x) X S ∧ mag X S = oM f P Q b x:=by
 obtain ⟨p1,p2,q1,q2⟩:=k.pos
 obtain ⟨hP,f0,f1,l0,l1,b0,b1⟩:=k.pow
 obtain ⟨u,v⟩:=cJ (x / P) (show 1 ≤ Q by omega)
 obtain ⟨u',v'⟩:=cJ x (show 1 ≤ P by omega)
 have hf:=k.f0
 unfold oM oN oK oc
 generalize x / P % Q = e at *
 generalize x % P = y at *
 generalize sg P Q x = n at *
 by_cases h1 : e = Q - 1
 ·rw [if_pos h1,if_pos h1]
  by_cases h2 : y = 0
  ·rw [if_pos h2,if_neg (by omega)]
   exact ⟨0,0,Or.inr (Or.inr (Or.inl ⟨hf,h1,h2,rfl,rfl,rfl,rfl⟩)),Or.inr (Or.inl ⟨rfl,rfl,rfl⟩),iY 0⟩
  ·rw [if_neg h2,if_pos ⟨h1,h2⟩]
   exact ⟨0,0,Or.inr (Or.inl ⟨hf,h1,h2,rfl,rfl,rfl,rfl⟩),Or.inl ⟨rfl,rfl,rfl⟩,iY 0⟩
 ·rw [if_neg h1,if_neg h1,if_neg (fun h => h1 h.1)]
  by_cases h2 : e = 0
  ·by_cases h3 : y = 0
   ·rw [if_pos ⟨h2,h3⟩]
    refine ⟨0,0,Or.inr (Or.inr (Or.inr (Or.inr (Or.inr ⟨hf,h1,h2,h3,rfl,rfl,rfl,rfl⟩)))),Or.inr (Or.inr (Or.inl ⟨rfl,rfl,rfl⟩)),?_⟩
    rw [h2,h3,Int.zero_mul,iY,show ((0 : Int) + 0).toNat = 0 from rfl,fL]
   ·rw [if_neg (fun h => h3 h.2)]
    have ho : dp f P Q b n e y n 1 (1 - b - f) y:=Or.inr (Or.inr (Or.inr (Or.inr (Or.inl ⟨hf,h1,h2,h3,rfl,rfl,rfl,rfl⟩))))
    refine ⟨1 - b - f,y,ho,lF k ho u v u' v',?_⟩
    have hv:=bJ f.toNat (av f b) y.toNat (av f b) (by rw [Nat.pow_succ]; omega) (Nat.le_refl _) (fun h => absurd h (Nat.lt_irrefl _))
    rw [Nat.sub_self,Nat.zero_mul,Nat.zero_add] at hv
    rw [h2,Int.zero_mul,Int.zero_add,hv]
    unfold mag
    rw [show (1 - b - f + 5000).toNat = av f b by unfold av; omega]
  ·rw [if_neg (fun h => h2 h.1)]
   have ho : dp f P Q b n e y n 1 (e - b - f) (P + y):=Or.inr (Or.inr (Or.inr (Or.inl ⟨hf,h1,h2,rfl,rfl,rfl,rfl⟩)))
   refine ⟨e - b - f,P + y,ho,lF k ho u v u' v',?_⟩
   have hk : (e - b - f + 5000).toNat = av f b + (e.toNat - 1):=by unfold av; omega
   have hv:=bJ f.toNat (av f b) (P + y).toNat (av f b + (e.toNat - 1)) (by rw [Nat.pow_succ]; omega) (by omega) (fun _ => by omega)
   unfold mag
   rw [hk,← hv]
   congr 1
   rw [show av f b + (e.toNat - 1) - av f b = e.toNat - 1 by omega]
   have e1 : (e * P + y).toNat = e.toNat * 2 ^ f.toNat + y.toNat:=by
    have : ((e.toNat * 2 ^ f.toNat : Nat) : Int) = e * P:=by
     rw [Int.natCast_mul,← hP,Int.toNat_of_nonneg u]
    omega
   have e2 : (P + y).toNat = 2 ^ f.toNat + y.toNat:=by omega
   rw [e1,e2,← Nat.add_assoc]
   congr 1
   obtain ⟨j,hj⟩ : ∃ j,e.toNat = j + 1:=⟨e.toNat - 1,by omega⟩
   rw [hj,Nat.add_sub_cancel,Nat.add_mul,Nat.one_mul]
theorem rC {w e f P Q b x y : Int} (k : Kd w e f P Q b) (W : World) (x0 : 0 ≤ x) (x1 : x < 18446744073709551616) (y0 : 0 ≤ y) (y1 : y < 18446744073709551616) :
 Calls Tryz.prog 86 #[.int .i64 w,.int .u64 x,.int .u64 y] W fun r W' => r = .returned (.int .u64 (kv f P Q b x y)) ∧ Below W.heap.size W W':=by
 obtain ⟨X1,S1,o1,p1,m1⟩:=aL k x
 obtain ⟨X2,S2,o2,p2,m2⟩:=aL k y
 have HP:=ab (fun W => pe k (oN P Q x) (!oN P Q y) p1 p2 W)
 unfold kv
 rw [m1,m2] at HP
 exact pp W (ab (fun W => bj x k.wd W x0 x1 o1)) (ab (fun W => bj y k.wd W y0 y1 o2)) HP
theorem rD {w e f P Q b x y : Int} (k : Kd w e f P Q b) (W : World) (x0 : 0 ≤ x) (x1 : x < 18446744073709551616) (y0 : 0 ≤ y) (y1 : y < 18446744073709551616) :
 Calls Tryz.prog 85 #[.int .i64 w,.int .u64 x,.int .u64 y] W fun r W' => r = .returned (.int .u64 (il f P Q b x y)) ∧ Below W.heap.size W W':=by
 obtain ⟨X1,S1,o1,p1,m1⟩:=aL k x
 obtain ⟨X2,S2,o2,p2,m2⟩:=aL k y
 have HP:=ab (fun W => pe k (oN P Q x) (oN P Q y) p1 p2 W)
 unfold il
 rw [m1,m2] at HP
 exact pq W (ab (fun W => bj x k.wd W x0 x1 o1)) (ab (fun W => bj y k.wd W y0 y1 o2)) HP
theorem iA {w e f P Q b x y : Int} {n : Bool} (h : Kd w e f P Q b) (x0 : 0 ≤ x) (x1 : x < Q) (y0 : 0 ≤ y) (y1 : y < P) :
 0 ≤ put f P Q n x y ∧ put f P Q n x y < 18446744073709551616 ∧ sg P Q (put f P Q n x y) = n ∧ put f P Q n x y / P % Q = x ∧ put f P Q n x y % P = y:=by
 unfold sg
 cases n
 ·rw [gn h.f0]
  rcases h with ⟨-,-,-,rfl,rfl,-⟩ | ⟨-,-,-,rfl,rfl,-⟩
  ·refine ⟨by omega,by omega,?_,by omega,by omega⟩
   show ((x * 8388608 + y) / 2147483648 % 2 == 1) = false
   exact au (by omega)
  ·refine ⟨by omega,by omega,?_,by omega,by omega⟩
   show ((x * 4503599627370496 + y) / 9223372036854775808 % 2 == 1) = false
   exact au (by omega)
 ·rw [eE h.f0]
  rcases h with ⟨-,-,-,rfl,rfl,-⟩ | ⟨-,-,-,rfl,rfl,-⟩
  ·refine ⟨by omega,by omega,?_,by omega,by omega⟩
   show ((x * 8388608 + y + 2147483648) / 2147483648 % 2 == 1) = true
   exact aH (by omega)
  ·refine ⟨by omega,by omega,?_,by omega,by omega⟩
   show ((x * 4503599627370496 + y + 9223372036854775808) / 9223372036854775808 % 2 == 1) = true
   exact aH (by omega)
def top (P Q : Int) : Int:=(Q - 1) * P
theorem dP {w e f P Q b : Int} (k : Kd w e f P Q b) : 0 < top P Q:=by
 unfold top
 rcases k with ⟨-,-,-,rfl,rfl,-⟩ | ⟨-,-,-,rfl,rfl,-⟩ <;> omega
def cM (f P Q : Int) : Int:=put f P Q false (Q - 1) (P / 2)
theorem fh {w e f P Q b c : Int} (k : Kd w e f P Q b) (c0 : 0 ≤ c) (c1 : c ≤ top P Q) : 0 ≤ c / P ∧ c / P < Q ∧ 0 ≤ c % P ∧ c % P < P ∧ c / P * P + c % P = c ∧ (c / P = Q - 1 ↔ c = top P Q) ∧ (c = top P Q → c % P = 0):=by
 unfold top at *
 rcases k with ⟨-,-,-,rfl,rfl,-⟩ | ⟨-,-,-,rfl,rfl,-⟩ <;> (refine ⟨?_,?_,?_,?_,?_,?_,?_⟩ <;> omega)
theorem fi {w e f P Q b c : Int} (k : Kd w e f P Q b) (n : Bool) (c0 : 0 ≤ c) (c1 : c ≤ top P Q) :
 0 ≤ fl f P Q n c ∧ fl f P Q n c < 18446744073709551616 ∧ ((oc P Q (fl f P Q n c) : Nat) : Int) = c ∧ oN P Q (fl f P Q n c) = n ∧ aU f P Q (fl f P Q n c) = fl f P Q n c ∧ (fl f P Q n c / P % Q == Q - 1 && fl f P Q n c % P != 0) = false:=by
 obtain ⟨a0,a1,d0,d1,he,ht,hz⟩:=fh k c0 c1
 have hf : fl f P Q n c = put f P Q n (c / P) (c % P):=rfl
 obtain ⟨r0,r1,r2,r3,r4⟩:=iA (n:=n) k a0 a1 d0 d1
 rw [← hf] at r0 r1 r2 r3 r4
 refine ⟨r0,r1,?_,?_,?_,?_⟩
 ·unfold oc
  rw [r3,r4,he,Int.toNat_of_nonneg c0]
 ·unfold oN
  rw [r2,r3,r4,if_neg (fun h => h.2 (hz (ht.1 h.1)))]
 ·rw [← eD k.wd.sz,r2,r3,r4]
  exact hf.symm
 ·rw [r3,r4]
  by_cases h : c = top P Q
  ·simp [hz h]
  ·rw [au (fun h' => h (ht.1 h'))]
   rfl
theorem b9 {w e f P Q b : Int} (k : Kd w e f P Q b) (x : Int) :
 (oK P Q x = 3 ∧ top P Q < oc P Q x ∧ oN P Q x = false) ∨ (oK P Q x = 2 ∧ (oc P Q x : Int) = top P Q ∧ oM f P Q b x = 0) ∨
 (oK P Q x = 1 ∧ 0 < oc P Q x ∧ (oc P Q x : Int) < top P Q ∧ oM f P Q b x = bd f.toNat (av f b) (oc P Q x)) ∨ (oK P Q x = 0 ∧ oc P Q x = 0 ∧ oM f P Q b x = 0):=by
 obtain ⟨p1,p2,q1,q2⟩:=k.pos
 obtain ⟨u,v⟩:=cJ (x / P) (show 1 ≤ Q by omega)
 obtain ⟨u',v'⟩:=cJ x (show 1 ≤ P by omega)
 unfold oM oN oK
 have hc : ((oc P Q x : Nat) : Int) = x / P % Q * P + x % P:=by
  unfold oc
  have:=Int.mul_nonneg u (show 0 ≤ P by omega)
  omega
 have hz:=fL f.toNat (av f b)
 generalize oc P Q x = c at *
 generalize x / P % Q = e at *
 generalize x % P = y at *
 generalize sg P Q x = n at *
 by_cases h1 : e = Q - 1
 ·rw [if_pos h1,if_pos h1]
  by_cases h2 : y = 0
  ·rw [if_pos h2]
   refine Or.inr (Or.inl ⟨rfl,?_,rfl⟩)
   rw [hc,h1,h2]
   unfold top
   omega
  ·rw [if_neg h2,if_pos ⟨h1,h2⟩]
   refine Or.inl ⟨rfl,?_,rfl⟩
   rw [hc,h1]
   unfold top
   omega
 ·rw [if_neg h1,if_neg h1]
  by_cases h2 : e = 0 ∧ y = 0
  ·rw [if_pos h2]
   have : c = 0:=by
    rw [h2.1,h2.2] at hc
    omega
   subst this
   exact Or.inr (Or.inr (Or.inr ⟨rfl,rfl,hz⟩))
  ·rw [if_neg h2]
   refine Or.inr (Or.inr (Or.inl ⟨rfl,?_,?_,rfl⟩))
   ·rcases k with ⟨-,-,-,rfl,rfl,-⟩ | ⟨-,-,-,rfl,rfl,-⟩ <;> omega
   ·unfold top
    rcases k with ⟨-,-,-,rfl,rfl,-⟩ | ⟨-,-,-,rfl,rfl,-⟩ <;> omega
theorem fV {w e f P Q b : Int} (k : Kd w e f P Q b) {x : Int} (h : oK P Q x ≠ 3 ∧ oK P Q x ≠ 2) : oM f P Q b x = bd f.toNat (av f b) (oc P Q x) ∧ (oc P Q x : Int) < top P Q:=by
 have ht:=dP k
 rcases b9 k x with ⟨h1,_⟩ | ⟨h1,_⟩ | ⟨_,_,h2,h3⟩ | ⟨_,h2,h3⟩
 ·exact absurd h1 h.1
 ·exact absurd h1 h.2
 ·exact ⟨h3,h2⟩
 ·rw [h2,h3,fL]
  exact ⟨rfl,ht⟩
theorem fW {w e f P Q b : Int} (k : Kd w e f P Q b) {x : Int} (h : oK P Q x ≠ 3) : aU f P Q x = fl f P Q (oN P Q x) (oc P Q x : Int):=by
 obtain ⟨p1,p2,q1,q2⟩:=k.pos
 obtain ⟨u,v⟩:=cJ (x / P) (show 1 ≤ Q by omega)
 obtain ⟨u',v'⟩:=cJ x (show 1 ≤ P by omega)
 rw [← eD k.wd.sz]
 have hn : oN P Q x = sg P Q x:=by
  unfold oN
  unfold oK at h
  by_cases h1 : x / P % Q = Q - 1
  ·rw [if_pos h1] at h
   by_cases h2 : x % P = 0
   ·rw [if_neg (fun h' => h'.2 h2)]
   ·rw [if_neg h2] at h
    exact absurd rfl h
  ·rw [if_neg (fun h' => h1 h'.1)]
 have hc : ((oc P Q x : Nat) : Int) = x / P % Q * P + x % P:=by
  unfold oc
  have:=Int.mul_nonneg u (show 0 ≤ P by omega)
  omega
 unfold fl
 rw [hn,hc]
 generalize x / P % Q = e at *
 generalize x % P = y at *
 congr 1
 ·rw [Int.add_comm,Int.add_mul_ediv_right _ _ (by omega),Int.ediv_eq_zero_of_lt u' v',Int.zero_add]
 ·rw [Int.add_comm,Int.add_mul_emod_self_right,Int.emod_eq_of_lt u' v']
theorem dn {w e f P Q b : Int} (k : Kd w e f P Q b) (n : Bool) : put f P Q n (Q - 1) 0 = fl f P Q n (top P Q):=by
 have ht:=dP k
 obtain ⟨_,_,_,_,_,h1,h2⟩:=fh k (Int.le_of_lt ht) (Int.le_refl _)
 unfold fl
 rw [h1.2 rfl,h2 rfl]
theorem iC {f P Q : Int} (n : Bool) : put f P Q n 0 0 = fl f P Q n 0:=by
 unfold fl
 simp
set_option maxHeartbeats 2000000
theorem aqq {w e f : Int} (W : World) (HF : Ct 23 #[.int .i64 w] (.tuple #[.int .i64 e,.int .i64 f])) :
 Calls Tryz.prog 131 #[.int .i64 w] W fun r W' => r = .returned (.bool (e != 0)) ∧ Below W.heap.size W W':=by
 go_enter Tryz.func131,Tryz.ntmps131
 go_wp2_with fail
 refine cg1 HF fun w1 hb => ?_
 have HB:=ab hb
 clear hb
 go_wp2_with fail
 go_ret
 exact ⟨rfl,aa HB⟩
theorem am4 {w x : Int} (W : World) (HKN : Ct 131 #[.int .i64 w] (.bool true)) (HIN : Ct 261 #[.int .i64 w,.int .u64 x] (.bool true)) :
 Calls Tryz.prog 205 #[.int .i64 w,.int .u64 x] W fun r W' => r = .returned (.tuple #[.int .i64 0,.bool false]) ∧ Below W.heap.size W W':=by
 go_enter Tryz.func205,Tryz.ntmps205
 go_wp2_with fail
 refine cg1 HKN fun w1 hb => ?_
 have HB:=ab hb
 clear hb
 go_wp2_with fail
 refine cg0 HIN HB fun w2 HB => ?_
 go_wp2_with fail
 go_ret2
 exact ⟨rfl,aa HB⟩
theorem am5 {w x c Z A B : Int} (W : World) (HKN : Ct 131 #[.int .i64 w] (.bool true)) (HIN : Ct 261 #[.int .i64 w,.int .u64 x] (.bool false)) (HZ : Ct 155 #[.int .i64 w,.bool true] (.int .u64 Z)) (HC : Ct 17 #[.int .i64 w,.int .u64 x] (.int .u64 c)) (h1 : bits .andNot .u64 c Z = A) (h2 : IntKind.i64.wrap A = A) (h3 : bits .and .u64 c Z = B) (h4 : (B != 0) = false) :
 Calls Tryz.prog 205 #[.int .i64 w,.int .u64 x] W fun r W' => r = .returned (.tuple #[.int .i64 A,.bool true]) ∧ Below W.heap.size W W':=by
 go_enter Tryz.func205,Tryz.ntmps205
 go_wp2_with fail
 refine cg1 HKN fun w1 hb => ?_
 have HB:=ab hb
 clear hb
 go_wp2_with fail
 refine cg0 HIN HB fun w2 HB => ?_
 go_wp2_with fail
 refine cg0 HZ HB fun w3 HB => ?_
 go_wp2_with fail
 refine cg0 HC HB fun w4 HB => ?_
 go_wp2_with fail
 go_ret2
 exact ⟨rfl,aa HB⟩
theorem am6 {w x c Z A B M : Int} (W : World) (HKN : Ct 131 #[.int .i64 w] (.bool true)) (HIN : Ct 261 #[.int .i64 w,.int .u64 x] (.bool false)) (HZ : Ct 155 #[.int .i64 w,.bool true] (.int .u64 Z)) (HC : Ct 17 #[.int .i64 w,.int .u64 x] (.int .u64 c)) (h1 : bits .andNot .u64 c Z = A) (h2 : IntKind.i64.wrap A = A) (h3 : bits .and .u64 c Z = B) (h4 : (B != 0) = true) (h5 : IntKind.i64.wrap (-A) = M) :
 Calls Tryz.prog 205 #[.int .i64 w,.int .u64 x] W fun r W' => r = .returned (.tuple #[.int .i64 M,.bool true]) ∧ Below W.heap.size W W':=by
 go_enter Tryz.func205,Tryz.ntmps205
 go_wp2_with fail
 refine cg1 HKN fun w1 hb => ?_
 have HB:=ab hb
 clear hb
 go_wp2_with fail
 refine cg0 HIN HB fun w2 HB => ?_
 go_wp2_with fail
 refine cg0 HZ HB fun w3 HB => ?_
 go_wp2_with fail
 refine cg0 HC HB fun w4 HB => ?_
 go_wp2_with fail
 go_ret2
 exact ⟨rfl,aa HB⟩
theorem xh {P : Program} {ops : Array Oper} {Q : Exit → Act → World → Prop} {md : Region.Mode} {S : World → Prop} (n m : Nat) {fuel : Nat} {listed : Array Bool} {a : Act} {w : World} (h : listed = lst n m) (k : wpAnyH P md ops Q S fuel (lst n m) a w) : wpAnyH P md ops Q S fuel listed a w:=h ▸ k
theorem fy {N b : Nat} {v0 v1 : Value} {w : World} (h : aY N #[v0,v1] b w) : aS b 2 w:=fun o ho => by
 refine ⟨?_,h.thawed o⟩
 match o,ho with
 | 0,_ => exact ⟨_,h.cell 0 _ rfl⟩
 | 1,_ => exact ⟨_,h.cell 1 _ rfl⟩
theorem aqt {a b : World} {c : Nat} (h : Below a.heap.size a b) (hc : a.heap.size ≤ c) (v0 v1 v2 : Value) : Below a.heap.size a (((b.setCell ⟨c,0,none⟩ v0).setCell ⟨c,1,none⟩ v1).setCell ⟨c,2,none⟩ v2):=aZ (eS h hc _ _) _ hc _ _
theorem At2.set3 {b c : Nat} {x y : Value} {w : World} (h : At2 b x y w) (hc : b ≠ c) (v0 v1 v2 : Value) : At2 b x y (((w.setCell ⟨c,0,none⟩ v0).setCell ⟨c,1,none⟩ v1).setCell ⟨c,2,none⟩ v2):=((h.set hc _ _).set hc _ _).set hc _ _
theorem aS.off {b c n : Nat} {w : World} (h : aS b n w) (hc : b ≠ c) (o' : Nat) (v : Value) : aS b n (w.setCell ⟨c,o',none⟩ v):=fun o ho => by
 obtain ⟨⟨u,h1⟩,h2⟩:=h o ho
 exact ⟨⟨u,ax c o' v hc h1⟩,by rw [aW]; exact h2⟩
theorem ab5 {K1 X1 S1 h l h' l' E : Int} {n1 t : Bool} (W : World) (HO : Ct 161 #[.int .u64 S1] (.agg #[.int .u64 h,.int .u64 l])) (kx : IntKind.i64.wrap (-X1) = E) (HR : Ct 262 #[.agg #[.int .u64 h,.int .u64 l],.int .i64 E] (.tuple #[.agg #[.int .u64 h',.int .u64 l'],.bool t])) :
 Calls Tryz.prog 231 #[.agg #[.bool n1,.int .i64 K1,.int .i64 X1,.int .u64 S1]] W fun r W' => r = .returned (.bool t) ∧ Below W.heap.size W W':=by
 go_enter Tryz.func231,Tryz.ntmps231
 go_wp2_with fail
 have HB:=ab (ae W (.cells #[.bool n1,.int .i64 K1,.int .i64 X1,.int .u64 S1] 37)).drew
 have HA:=ab ((ak W (.bool n1) (.int .i64 K1) (.int .i64 X1) (.int .u64 S1) 37).below ((Below.refl _ _).drew))
 refine wp_region_held_drew (S:=fun w' => (w'.cell? ⟨W.heap.size,0,none⟩ = some (.bool n1) ∧ w'.cell? ⟨W.heap.size,1,none⟩ = some (.int .i64 K1) ∧ w'.cell? ⟨W.heap.size,2,none⟩ = some (.int .i64 X1) ∧ w'.cell? ⟨W.heap.size,3,none⟩ = some (.int .u64 S1))) (by kernel_rfl) ?_ (fun hHeld => ?_)
 ·(try dsimp only)
  exact aa HA
 refine bF (N:=W.heap.size + 1) (i1:=10) (d1:=3) (v1:=#[.int .u64 0,.int .u64 0]) (t1:=135) (f:=2) (n:=10) (T:=fun w' => Below W.heap.size W w') (by kernel_rfl) (by kernel_rfl) (fun _ _ _ _ _ h => h) (aB _ _ _ _ _) ?_ (ao W) hHeld (aa HB) (by simp) ?_
 ·intro a w K h
  unfold wpOp
  go_simp
  exact Or.inl h
 clear hHeld
 refine woA 0 6 ?_
 refine woA 1 7 ?_
 refine woA 3 9 ?_
 refine woA 4 10 ?_
 refine woA 5 11 ?_
 refine bv (c:=2) (o:={ dst:=some 8,op:=_,type:=_,pos:=_,after:=_,guard:=_ }) rfl (by kernel_rfl) (by kernel_rfl) (fun u hSu hTu Kk hKk => ?_)
 go_simp
 refine cg1 HO fun wn hbl => ?_
 have HTn:=ab (ac hTu hbl)
 clear hTu hSu
 (try go_wp2_with fail)
 refine hKk.out _ _ (fun w' => Below W.heap.size W w') (by assumption) (ao W) (aa HTn) ?_
 clear hKk Kk HTn
 (try simp only [Act.put,List.setIfInBounds_toArray,List.set_cons_zero,List.set_cons_succ])
 refine bv (c:=6) (o:={ dst:=some 12,op:=_,type:=_,pos:=_,after:=_,guard:=_ }) rfl (by kernel_rfl) (by kernel_rfl) (fun u hSu hTu Kk hKk => ?_)
 go_simp
 refine cg1 HR fun wn hbl => ?_
 have HTn:=ab (ac hTu hbl)
 clear hTu hSu
 (try go_wp2_with fail)
 refine hKk.out _ _ (fun w' => Below W.heap.size W w') (by assumption) (ao W) (aa HTn) ?_
 clear hKk Kk HTn
 (try simp only [Act.put,List.setIfInBounds_toArray,List.set_cons_zero,List.set_cons_succ])
 refine woA 7 5 ?_
 refine woA 8 13 ?_
 refine woA 9 14 ?_
 refine cQ (by kernel_rfl) (fun wf b1 hSu hTu k1 => ?_)
 (try simp only [Act.put,List.setIfInBounds_toArray,List.set_cons_zero,List.set_cons_succ])
 unfold ptr
 have zb:=k1.base
 have HRm:=ab (fy k1)
 obtain ⟨⟨v0,c0⟩,f0⟩:=(aa HRm) 0 (by omega)
 obtain ⟨⟨v1,c1⟩,f1⟩:=(aa HRm) 1 (by omega)
 refine xh 13 2047 (by kernel_rfl) ?_
 refine rdA 11 4095 (fun Kk hKk => ?_)
 go_simp
 refine hKk.out _ _ ?_ (fun hHeld => ?_)
 ·(try dsimp only)
  exact At4.set2 hSu (by omega) _ _
 clear hKk Kk
 (try simp only [Act.put,List.setIfInBounds_toArray,List.set_cons_zero,List.set_cons_succ])
 refine tkA 12 4 8191 ?_
 refine wpAnyH_done (by kernel_rfl) ?_ _
 have HB:=ab (eS (c:=b1) hTu (by omega) (.int .u64 h') (.int .u64 l'))
 clear hHeld hSu hTu k1 c0 c1 f0 f1
 generalize (wf.setCell ⟨b1,0,none⟩ (.int .u64 h')).setCell ⟨b1,1,none⟩ (.int .u64 l') = wx at *
 go_wp2_with fail
 go_ret
 exact ⟨rfl,aa HB⟩
theorem aig {K1 X1 S1 h l h' l' E E1 n a o : Int} {n1 t : Bool} (W : World) (HO : Ct 161 #[.int .u64 S1] (.agg #[.int .u64 h,.int .u64 l])) (kx : IntKind.i64.wrap (-X1) = E) (ke : IntKind.i64.wrap (E - 1) = E1) (HR : Ct 262 #[.agg #[.int .u64 h,.int .u64 l],.int .i64 E1] (.tuple #[.agg #[.int .u64 h',.int .u64 l'],.bool t])) (kn : l' / 2 = n) (ka : bits .and .u64 l' 1 = a) (ko : bits .and .u64 n 1 = o) :
 Calls Tryz.prog 232 #[.agg #[.bool n1,.int .i64 K1,.int .i64 X1,.int .u64 S1]] W fun r W' => r = .returned (.tuple #[.int .u64 n,.agg #[.bool (a == 1),.bool t,.bool (o == 1)]]) ∧ Below W.heap.size W W':=by
 go_enter Tryz.func232,Tryz.ntmps232
 go_wp2_with fail
 have HB:=ab (aq W (.cells #[.bool n1,.int .i64 K1,.int .i64 X1,.int .u64 S1] 37) (.cells #[.bool false,.bool false,.bool false] 132)).drew
 have HA:=ab ((bD W (.bool n1) (.int .i64 K1) (.int .i64 X1) (.int .u64 S1) 37 (.cells #[.bool false,.bool false,.bool false] 132)).below ((Below.refl _ _).drew))
 have HR3 : Hid (aS (W.heap.size + 1) 3 ((W.alloc (.cells #[.bool n1,.int .i64 K1,.int .i64 X1,.int .u64 S1] 37)).alloc (.cells #[.bool false,.bool false,.bool false] 132)).drew):=by
  intro o ho
  match o,ho with
  | 0,_ | 1,_ | 2,_ => simp [go_sem]
 refine wp_region_held_drew (S:=fun w' => (w'.cell? ⟨W.heap.size,0,none⟩ = some (.bool n1) ∧ w'.cell? ⟨W.heap.size,1,none⟩ = some (.int .i64 K1) ∧ w'.cell? ⟨W.heap.size,2,none⟩ = some (.int .i64 X1) ∧ w'.cell? ⟨W.heap.size,3,none⟩ = some (.int .u64 S1)) ∧ aS (W.heap.size + 1) 3 w') (by kernel_rfl) ?_ (fun hHeld => ?_)
 ·(try dsimp only)
  exact ⟨aa HA,aa HR3⟩
 refine bF (N:=W.heap.size + 2) (i1:=11) (d1:=4) (v1:=#[.int .u64 0,.int .u64 0]) (t1:=135) (f:=2) (n:=11) (T:=fun w' => Below W.heap.size W w') (by kernel_rfl) (by kernel_rfl) (fun _ _ _ _ _ h => h) (fun _ _ h hb => ⟨At4.below h.1 hb,aS.below h.2 hb⟩) ?_ (ao W) hHeld (aa HB) (by simp) ?_
 ·intro a w K h
  unfold wpOp
  go_simp
  exact Or.inl h
 clear hHeld
 refine woA 0 7 ?_
 refine woA 1 8 ?_
 refine woA 3 10 ?_
 refine woA 4 11 ?_
 refine woA 5 12 ?_
 refine woA 6 13 ?_
 refine bv (c:=2) (o:={ dst:=some 9,op:=_,type:=_,pos:=_,after:=_,guard:=_ }) rfl (by kernel_rfl) (by kernel_rfl) (fun u hSu hTu Kk hKk => ?_)
 go_simp
 refine cg1 HO fun wn hbl => ?_
 have HTn:=ab (ac hTu hbl)
 clear hTu hSu
 (try go_wp2_with fail)
 refine hKk.out _ _ (fun w' => Below W.heap.size W w') (by assumption) (ao W) (aa HTn) ?_
 clear hKk Kk HTn
 (try simp only [Act.put,List.setIfInBounds_toArray,List.set_cons_zero,List.set_cons_succ])
 refine bv (c:=7) (o:={ dst:=some 14,op:=_,type:=_,pos:=_,after:=_,guard:=_ }) rfl (by kernel_rfl) (by kernel_rfl) (fun u hSu hTu Kk hKk => ?_)
 go_simp
 refine cg1 HR fun wn hbl => ?_
 have HTn:=ab (ac hTu hbl)
 clear hTu hSu
 (try go_wp2_with fail)
 refine hKk.out _ _ (fun w' => Below W.heap.size W w') (by assumption) (ao W) (aa HTn) ?_
 clear hKk Kk HTn
 (try simp only [Act.put,List.setIfInBounds_toArray,List.set_cons_zero,List.set_cons_succ])
 refine woA 8 6 ?_
 refine woA 9 15 ?_
 refine woA 10 16 ?_
 refine cQ (by kernel_rfl) (fun wf b1 hSu hTu k1 => ?_)
 (try simp only [Act.put,List.setIfInBounds_toArray,List.set_cons_zero,List.set_cons_succ])
 unfold ptr
 have zb:=k1.base
 have HRm:=ab (fy k1)
 obtain ⟨⟨v0,c0⟩,f0⟩:=(aa HRm) 0 (by omega)
 obtain ⟨⟨v1,c1⟩,f1⟩:=(aa HRm) 1 (by omega)
 refine xh 14 4095 (by kernel_rfl) ?_
 refine rdA 12 8191 (fun Kk hKk => ?_)
 go_simp
 refine hKk.out _ _ ?_ (fun hHeld => ?_)
 ·(try dsimp only)
  exact ⟨At4.set2 hSu.1 (by omega) _ _,(hSu.2.off (by omega) _ _).off (by omega) _ _⟩
 clear hKk Kk
 (try simp only [Act.put,List.setIfInBounds_toArray,List.set_cons_zero,List.set_cons_succ])
 refine tkA 13 5 16383 ?_
 refine wpAnyH_done (by kernel_rfl) ?_ _
 have HB:=ab (eS (c:=b1) hTu (by omega) (.int .u64 h') (.int .u64 l'))
 have H2:=ab (dK (aa HRm) (.int .u64 h') (.int .u64 l'))
 have HR3:=ab hHeld.2
 clear hHeld hSu hTu k1 c0 c1 f0 f1 HA HRm
 generalize (wf.setCell ⟨b1,0,none⟩ (.int .u64 h')).setCell ⟨b1,1,none⟩ (.int .u64 l') = wx at *
 obtain ⟨c0,c1⟩:=aa H2
 go_wp2_with fail
 clear c0 c1
 have HB:=ab (aa HB).drew
 have H2:=ab ((aa H2).below ((Below.refl _ _).drew))
 have HR3:=ab ((aa HR3).below ((Below.refl _ _).drew))
 refine wp_region_held_drew (S:=fun w' => (w'.cell? ⟨b1,0,none⟩ = some (.int .u64 h') ∧ w'.cell? ⟨b1,1,none⟩ = some (.int .u64 l')) ∧ aS (W.heap.size + 1) 3 w') (by kernel_rfl) ?_ (fun hHeld => ?_)
 ·(try dsimp only)
  exact ⟨aa H2,aa HR3⟩
 refine aC 12 (by kernel_rfl) ?_
 refine tkA 0 20 1 ?_
 refine tkA 1 21 3 ?_
 refine tkA 2 22 7 ?_
 refine tkA 3 23 15 ?_
 refine tkA 4 24 31 ?_
 refine tkA 5 25 63 ?_
 refine tkA 6 26 127 ?_
 refine tkA 7 27 255 ?_
 refine tkA 8 28 511 ?_
 refine tkA 9 29 1023 ?_
 refine tkA 10 2 2047 ?_
 refine rdA 11 4095 (fun Kk hKk => ?_)
 obtain ⟨⟨v0,c0⟩,r0⟩:=hHeld.2 0 (by omega)
 obtain ⟨⟨v1,c1⟩,r1⟩:=hHeld.2 1 (by omega)
 obtain ⟨⟨v2,c2⟩,r2⟩:=hHeld.2 2 (by omega)
 generalize wx.drew = wy at *
 go_simp
 refine oA hKk (⟨At2.set3 hHeld.1 (by omega) _ _ _,((hHeld.2.set _ _).set _ _).set _ _⟩) fun hHeld => ?_
 clear hKk Kk
 refine wpAnyH_done (by kernel_rfl) ?_ _
 go_wp2
 exact bodyPost_ret (v:=.tuple #[.int .u64 n,.agg #[.bool (a == 1),.bool t,.bool (o == 1)]]) (by simp (maxDischargeDepth:=8) [results,Tryz.results232,go_sem,c0,c1,c2]) rfl ⟨rfl,aqt (aa HB) (show W.heap.size ≤ W.heap.size + 1 by omega) _ _ _⟩
end Go.Proofs.YtpbgpdmffejdgaaGreatDoor
