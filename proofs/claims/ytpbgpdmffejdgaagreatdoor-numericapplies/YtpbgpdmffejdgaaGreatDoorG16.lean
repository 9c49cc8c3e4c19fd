/- MOpen, MPlusA, MPlusB, MProdA. -/
import Derived.Test.YtpbgpdmffejdgaaGreatDoorG01
import Derived.Test.YtpbgpdmffejdgaaGreatDoorG09
import Derived.Test.YtpbgpdmffejdgaaGreatDoorG13
namespace Go.Proofs.YtpbgpdmffejdgaaGreatDoor
set_option maxRecDepth 100000
set_option maxHeartbeats 4000000
open Go.RowKit
theorem fY {a b : World} (h : Below a.heap.size a b) (v0 v1 v2 v3 : Value) : Below a.heap.size a ((((b.setCell ⟨a.heap.size,0,none⟩ v0).setCell ⟨a.heap.size,1,none⟩ v1).setCell ⟨a.heap.size,2,none⟩ v2).setCell ⟨a.heap.size,3,none⟩ v3):=
 aZ (aZ (aZ (aZ h _ (Nat.le_refl _) _ _) _ (Nat.le_refl _) _ _) _ (Nat.le_refl _) _ _) _ (Nat.le_refl _) _ _
theorem fD {W w1 : World} {v0 v1 v2 v3 : Value} {t : TypeId} (hb : Below (W.alloc (.cells #[v0,v1,v2,v3] t)).heap.size (W.alloc (.cells #[v0,v1,v2,v3] t)) w1) : aS W.heap.size 4 w1:=
 aS.below (w:=W.alloc (.cells #[v0,v1,v2,v3] t)) (by
  intro o ho
  match o,ho with
  | 0,_ | 1,_ | 2,_ | 3,_ => simp [go_sem]) hb
theorem At5.set {b c : Nat} {x y z u v : Value} {w : World} (h : At5 b x y z u v w) (hc : b ≠ c) (o : Nat) (k : Value) : At5 b x y z u v (w.setCell ⟨c,o,none⟩ k):=
 ⟨ax _ _ _ hc h.1,ax _ _ _ hc h.2.1,ax _ _ _ hc h.2.2.1,ax _ _ _ hc h.2.2.2.1,ax _ _ _ hc h.2.2.2.2⟩
theorem aea {w e f P Q b : Int} (x xx yy : Int) (n : Bool) (_ : Sz e f P Q b) (W : World)
 (HT : Ct 46 #[.int .i64 w,.int .u64 x] (.agg #[.int .i64 e,.int .i64 f,.bool n,.int .u64 xx,.int .u64 yy])) (hf : (f != 0) = false) :
 Calls Tryz.prog 15 #[.int .i64 w,.int .u64 x] W fun r W' => r = .returned (.agg #[.bool false,.int .i64 0,.int .i64 0,.int .u64 0]) ∧ Below W.heap.size W W':=by
 go_enter Tryz.func15,Tryz.ntmps15
 go_wp2_with fail
 refine cg1 HT fun w1 hbl => ?_
 have HR:=ab ((fD hbl).alloc (.cells #[.int .i64 e,.int .i64 f,.bool n,.int .u64 xx,.int .u64 yy] 82))
 have HB:=ab (ad (ac (ae _ _) hbl) (.cells #[.int .i64 e,.int .i64 f,.bool n,.int .u64 xx,.int .u64 yy] 82))
 have HA : Hid (At5 w1.heap.size (.int .i64 e) (.int .i64 f) (.bool n) (.int .u64 xx) (.int .u64 yy) (w1.alloc (.cells #[.int .i64 e,.int .i64 f,.bool n,.int .u64 xx,.int .u64 yy] 82))):=by unfold Hid At5; simp [go_sem]
 have hz1 : W.heap.size < w1.heap.size:=by have:=hbl.size; simp at this; omega
 clear hbl HT
 go_wp2_with fail
 refine (ba e f _).mono ?_
 rintro _ w2 ⟨rfl,hbl⟩
 have HB:=bt HB hbl
 have HA:=ab ((aa HA).below hbl)
 have HR:=ab ((aa HR).below hbl)
 clear hbl
 obtain ⟨⟨v0,c0⟩,f0⟩:=(aa HR) 0 (by omega)
 obtain ⟨⟨v1,c1⟩,f1⟩:=(aa HR) 1 (by omega)
 obtain ⟨⟨v2,c2⟩,f2⟩:=(aa HR) 2 (by omega)
 obtain ⟨⟨v3,c3⟩,f3⟩:=(aa HR) 3 (by omega)
 go_wp2_with fail
 exact bodyPost_ret (v:=.agg #[.bool false,.int .i64 0,.int .i64 0,.int .u64 0]) (by simp (maxDischargeDepth:=8) [results,Tryz.results15,go_sem,c0,c1,c2,c3]) rfl ⟨rfl,fY (aa HB) _ _ _ _⟩
theorem yl {w e f P Q b : Int} (x xx yy : Int) (n : Bool) (hs : Sz e f P Q b) (W : World)
 (HT : Ct 46 #[.int .i64 w,.int .u64 x] (.agg #[.int .i64 e,.int .i64 f,.bool n,.int .u64 xx,.int .u64 yy])) (hf : (f != 0) = true) (h1 : (xx == Q - 1) = true) (h2 : (yy != 0) = true) :
 Calls Tryz.prog 15 #[.int .i64 w,.int .u64 x] W fun r W' => r = .returned (.agg #[.bool false,.int .i64 3,.int .i64 0,.int .u64 0]) ∧ Below W.heap.size W W':=by
 go_enter Tryz.func15,Tryz.ntmps15
 go_wp2_with fail
 refine cg1 HT fun w1 hbl => ?_
 have HR:=ab ((fD hbl).alloc (.cells #[.int .i64 e,.int .i64 f,.bool n,.int .u64 xx,.int .u64 yy] 82))
 have HB:=ab (ad (ac (ae _ _) hbl) (.cells #[.int .i64 e,.int .i64 f,.bool n,.int .u64 xx,.int .u64 yy] 82))
 have HA : Hid (At5 w1.heap.size (.int .i64 e) (.int .i64 f) (.bool n) (.int .u64 xx) (.int .u64 yy) (w1.alloc (.cells #[.int .i64 e,.int .i64 f,.bool n,.int .u64 xx,.int .u64 yy] 82))):=by unfold Hid At5; simp [go_sem]
 have hz1 : W.heap.size < w1.heap.size:=by have:=hbl.size; simp at this; omega
 clear hbl HT
 go_wp2_with fail
 refine (ba e f _).mono ?_
 rintro _ w2 ⟨rfl,hbl⟩
 have HB:=bt HB hbl
 have HA:=ab ((aa HA).below hbl)
 have HR:=ab ((aa HR).below hbl)
 clear hbl
 obtain ⟨a0,a1,a2,a3,a4⟩:=aa HA
 go_wp2_with fail
 refine (eN n xx yy hs _).mono ?_
 rintro _ w3 ⟨rfl,hbl⟩
 clear a0 a1 a2 a3 a4
 have HB:=bt HB hbl
 have HA:=ab ((aa HA).below hbl)
 have HR:=ab ((aa HR).below hbl)
 clear hbl
 obtain ⟨⟨v0,c0⟩,f0⟩:=(aa HR) 0 (by omega)
 obtain ⟨⟨v1,c1⟩,f1⟩:=(aa HR) 1 (by omega)
 obtain ⟨⟨v2,c2⟩,f2⟩:=(aa HR) 2 (by omega)
 obtain ⟨⟨v3,c3⟩,f3⟩:=(aa HR) 3 (by omega)
 rw [h1,h2]
 go_wp2_with fail
 exact bodyPost_ret (v:=.agg #[.bool false,.int .i64 3,.int .i64 0,.int .u64 0]) (by simp (maxDischargeDepth:=8) [results,Tryz.results15,go_sem,c0,c1,c2,c3]) rfl ⟨rfl,fY (aa HB) _ _ _ _⟩
theorem ym {w e f P Q b : Int} (x xx yy : Int) (n : Bool) (hs : Sz e f P Q b) (W : World)
 (HT : Ct 46 #[.int .i64 w,.int .u64 x] (.agg #[.int .i64 e,.int .i64 f,.bool n,.int .u64 xx,.int .u64 yy])) (hf : (f != 0) = true) (h1 : (xx == Q - 1) = true) (h2 : (yy != 0) = false) :
 Calls Tryz.prog 15 #[.int .i64 w,.int .u64 x] W fun r W' => r = .returned (.agg #[.bool n,.int .i64 2,.int .i64 0,.int .u64 0]) ∧ Below W.heap.size W W':=by
 go_enter Tryz.func15,Tryz.ntmps15
 go_wp2_with fail
 refine cg1 HT fun w1 hbl => ?_
 have HR:=ab ((fD hbl).alloc (.cells #[.int .i64 e,.int .i64 f,.bool n,.int .u64 xx,.int .u64 yy] 82))
 have HB:=ab (ad (ac (ae _ _) hbl) (.cells #[.int .i64 e,.int .i64 f,.bool n,.int .u64 xx,.int .u64 yy] 82))
 have HA : Hid (At5 w1.heap.size (.int .i64 e) (.int .i64 f) (.bool n) (.int .u64 xx) (.int .u64 yy) (w1.alloc (.cells #[.int .i64 e,.int .i64 f,.bool n,.int .u64 xx,.int .u64 yy] 82))):=by unfold Hid At5; simp [go_sem]
 have hz1 : W.heap.size < w1.heap.size:=by have:=hbl.size; simp at this; omega
 clear hbl HT
 go_wp2_with fail
 refine (ba e f _).mono ?_
 rintro _ w2 ⟨rfl,hbl⟩
 have HB:=bt HB hbl
 have HA:=ab ((aa HA).below hbl)
 have HR:=ab ((aa HR).below hbl)
 clear hbl
 obtain ⟨a0,a1,a2,a3,a4⟩:=aa HA
 go_wp2_with fail
 refine (eN n xx yy hs _).mono ?_
 rintro _ w3 ⟨rfl,hbl⟩
 clear a0 a1 a2 a3 a4
 have HB:=bt HB hbl
 have HA:=ab ((aa HA).below hbl)
 have HR:=ab ((aa HR).below hbl)
 clear hbl
 rw [h1,h2]
 go_wp2_with fail
 have HB:=ab (aa HB).drew
 have HA:=ab ((aa HA).below ((Below.refl _ _).drew))
 have HR:=ab (aa HR).drew
 refine wp_region_held_drew (S:=fun w' => (w'.cell? ⟨w1.heap.size,0,none⟩ = some (.int .i64 e) ∧ w'.cell? ⟨w1.heap.size,1,none⟩ = some (.int .i64 f) ∧ w'.cell? ⟨w1.heap.size,2,none⟩ = some (.bool n) ∧ w'.cell? ⟨w1.heap.size,3,none⟩ = some (.int .u64 xx) ∧ w'.cell? ⟨w1.heap.size,4,none⟩ = some (.int .u64 yy)) ∧ aS W.heap.size 4 w') (by kernel_rfl) ?_ (fun hHeld => ?_)
 ·(try dsimp only)
  exact ⟨aa HA,aa HR⟩
 refine aC 7 (by kernel_rfl) ?_
 refine tkA 0 20 1 ?_
 refine tkA 1 21 3 ?_
 refine tkA 2 22 7 ?_
 refine tkA 3 23 15 ?_
 refine rdA 4 31 (fun Kk hKk => ?_)
 go_simp
 refine (ci hs _).mono ?_
 rintro _ w4 ⟨rfl,hbl⟩
 have HB:=bt HB hbl
 have HA:=ab ((aa HA).below hbl)
 have HR:=ab ((aa HR).below hbl)
 clear hbl
 (try go_wp2_with fail)
 refine oA hKk (⟨aa HA,aa HR⟩) fun hHeld => ?_
 clear hKk Kk
 refine tkA 5 25 63 ?_
 refine tkA 6 19 127 ?_
 refine wpAnyH_done (by kernel_rfl) ?_ _
 clear hHeld
 obtain ⟨a0,a1,a2,a3,a4⟩:=aa HA
 obtain ⟨⟨v0,c0⟩,f0⟩:=(aa HR) 0 (by omega)
 obtain ⟨⟨v1,c1⟩,f1⟩:=(aa HR) 1 (by omega)
 obtain ⟨⟨v2,c2⟩,f2⟩:=(aa HR) 2 (by omega)
 obtain ⟨⟨v3,c3⟩,f3⟩:=(aa HR) 3 (by omega)
 go_wp2_with fail
 exact bodyPost_ret (v:=.agg #[.bool n,.int .i64 2,.int .i64 0,.int .u64 0]) (by simp (maxDischargeDepth:=8) [results,Tryz.results15,go_sem,c0,c1,c2,c3]) rfl ⟨rfl,fY (aa HB) _ _ _ _⟩
theorem yn {w e f P Q b : Int} (x xx yy : Int) (n : Bool) (hs : Sz e f P Q b) (W : World)
 (HT : Ct 46 #[.int .i64 w,.int .u64 x] (.agg #[.int .i64 e,.int .i64 f,.bool n,.int .u64 xx,.int .u64 yy])) (hf : (f != 0) = true) (h1 : (xx == Q - 1) = false) (h3 : (xx != 0) = false) (h2 : (yy != 0) = false) :
 Calls Tryz.prog 15 #[.int .i64 w,.int .u64 x] W fun r W' => r = .returned (.agg #[.bool n,.int .i64 0,.int .i64 0,.int .u64 0]) ∧ Below W.heap.size W W':=by
 go_enter Tryz.func15,Tryz.ntmps15
 go_wp2_with fail
 refine cg1 HT fun w1 hbl => ?_
 have HR:=ab ((fD hbl).alloc (.cells #[.int .i64 e,.int .i64 f,.bool n,.int .u64 xx,.int .u64 yy] 82))
 have HB:=ab (ad (ac (ae _ _) hbl) (.cells #[.int .i64 e,.int .i64 f,.bool n,.int .u64 xx,.int .u64 yy] 82))
 have HA : Hid (At5 w1.heap.size (.int .i64 e) (.int .i64 f) (.bool n) (.int .u64 xx) (.int .u64 yy) (w1.alloc (.cells #[.int .i64 e,.int .i64 f,.bool n,.int .u64 xx,.int .u64 yy] 82))):=by unfold Hid At5; simp [go_sem]
 have hz1 : W.heap.size < w1.heap.size:=by have:=hbl.size; simp at this; omega
 clear hbl HT
 go_wp2_with fail
 refine (ba e f _).mono ?_
 rintro _ w2 ⟨rfl,hbl⟩
 have HB:=bt HB hbl
 have HA:=ab ((aa HA).below hbl)
 have HR:=ab ((aa HR).below hbl)
 clear hbl
 obtain ⟨a0,a1,a2,a3,a4⟩:=aa HA
 go_wp2_with fail
 refine (eN n xx yy hs _).mono ?_
 rintro _ w3 ⟨rfl,hbl⟩
 clear a0 a1 a2 a3 a4
 have HB:=bt HB hbl
 have HA:=ab ((aa HA).below hbl)
 have HR:=ab ((aa HR).below hbl)
 clear hbl
 rw [h1,Bool.false_and]
 go_wp2_with fail
 have HB:=ab (aa HB).drew
 have HA:=ab ((aa HA).below ((Below.refl _ _).drew))
 have HR:=ab (aa HR).drew
 refine wp_region_held_drew (S:=fun w' => (w'.cell? ⟨w1.heap.size,0,none⟩ = some (.int .i64 e) ∧ w'.cell? ⟨w1.heap.size,1,none⟩ = some (.int .i64 f) ∧ w'.cell? ⟨w1.heap.size,2,none⟩ = some (.bool n) ∧ w'.cell? ⟨w1.heap.size,3,none⟩ = some (.int .u64 xx) ∧ w'.cell? ⟨w1.heap.size,4,none⟩ = some (.int .u64 yy)) ∧ aS W.heap.size 4 w') (by kernel_rfl) ?_ (fun hHeld => ?_)
 ·(try dsimp only)
  exact ⟨aa HA,aa HR⟩
 refine aC 7 (by kernel_rfl) ?_
 refine tkA 0 20 1 ?_
 refine tkA 1 21 3 ?_
 refine tkA 2 22 7 ?_
 refine tkA 3 23 15 ?_
 refine rdA 4 31 (fun Kk hKk => ?_)
 go_simp
 refine (ci hs _).mono ?_
 rintro _ w4 ⟨rfl,hbl⟩
 have HB:=bt HB hbl
 have HA:=ab ((aa HA).below hbl)
 have HR:=ab ((aa HR).below hbl)
 clear hbl
 (try go_wp2_with fail)
 refine oA hKk (⟨aa HA,aa HR⟩) fun hHeld => ?_
 clear hKk Kk
 refine tkA 5 25 63 ?_
 refine tkA 6 19 127 ?_
 refine wpAnyH_done (by kernel_rfl) ?_ _
 clear hHeld
 obtain ⟨a0,a1,a2,a3,a4⟩:=aa HA
 obtain ⟨⟨v0,c0⟩,f0⟩:=(aa HR) 0 (by omega)
 obtain ⟨⟨v1,c1⟩,f1⟩:=(aa HR) 1 (by omega)
 obtain ⟨⟨v2,c2⟩,f2⟩:=(aa HR) 2 (by omega)
 obtain ⟨⟨v3,c3⟩,f3⟩:=(aa HR) 3 (by omega)
 go_wp2_with fail
 exact bodyPost_ret (v:=.agg #[.bool n,.int .i64 0,.int .i64 0,.int .u64 0]) (by simp (maxDischargeDepth:=8) [results,Tryz.results15,go_sem,c0,c1,c2,c3]) rfl ⟨rfl,fY (aa HB) _ _ _ _⟩
theorem yo {w e f P Q b : Int} (x xx yy : Int) (n : Bool) (hs : Sz e f P Q b) (W : World)
 (HT : Ct 46 #[.int .i64 w,.int .u64 x] (.agg #[.int .i64 e,.int .i64 f,.bool n,.int .u64 xx,.int .u64 yy])) (hf : (f != 0) = true) (h1 : (xx == Q - 1) = false) (h3 : (xx != 0) = false) (h2 : (yy != 0) = true) :
 Calls Tryz.prog 15 #[.int .i64 w,.int .u64 x] W fun r W' => r = .returned (.agg #[.bool n,.int .i64 1,.int .i64 (1 - b - f),.int .u64 yy]) ∧ Below W.heap.size W W':=by
 go_enter Tryz.func15,Tryz.ntmps15
 go_wp2_with fail
 refine cg1 HT fun w1 hbl => ?_
 have HR:=ab ((fD hbl).alloc (.cells #[.int .i64 e,.int .i64 f,.bool n,.int .u64 xx,.int .u64 yy] 82))
 have HB:=ab (ad (ac (ae _ _) hbl) (.cells #[.int .i64 e,.int .i64 f,.bool n,.int .u64 xx,.int .u64 yy] 82))
 have HA : Hid (At5 w1.heap.size (.int .i64 e) (.int .i64 f) (.bool n) (.int .u64 xx) (.int .u64 yy) (w1.alloc (.cells #[.int .i64 e,.int .i64 f,.bool n,.int .u64 xx,.int .u64 yy] 82))):=by unfold Hid At5; simp [go_sem]
 have hz1 : W.heap.size < w1.heap.size:=by have:=hbl.size; simp at this; omega
 clear hbl HT
 go_wp2_with fail
 refine (ba e f _).mono ?_
 rintro _ w2 ⟨rfl,hbl⟩
 have HB:=bt HB hbl
 have HA:=ab ((aa HA).below hbl)
 have HR:=ab ((aa HR).below hbl)
 clear hbl
 obtain ⟨a0,a1,a2,a3,a4⟩:=aa HA
 go_wp2_with fail
 refine (eN n xx yy hs _).mono ?_
 rintro _ w3 ⟨rfl,hbl⟩
 clear a0 a1 a2 a3 a4
 have HB:=bt HB hbl
 have HA:=ab ((aa HA).below hbl)
 have HR:=ab ((aa HR).below hbl)
 clear hbl
 rw [h1,Bool.false_and]
 go_wp2_with fail
 have HB:=ab (aa HB).drew
 have HA:=ab ((aa HA).below ((Below.refl _ _).drew))
 have HR:=ab (aa HR).drew
 refine wp_region_held_drew (S:=fun w' => (w'.cell? ⟨w1.heap.size,0,none⟩ = some (.int .i64 e) ∧ w'.cell? ⟨w1.heap.size,1,none⟩ = some (.int .i64 f) ∧ w'.cell? ⟨w1.heap.size,2,none⟩ = some (.bool n) ∧ w'.cell? ⟨w1.heap.size,3,none⟩ = some (.int .u64 xx) ∧ w'.cell? ⟨w1.heap.size,4,none⟩ = some (.int .u64 yy)) ∧ aS W.heap.size 4 w') (by kernel_rfl) ?_ (fun hHeld => ?_)
 ·(try dsimp only)
  exact ⟨aa HA,aa HR⟩
 refine aC 7 (by kernel_rfl) ?_
 refine tkA 0 20 1 ?_
 refine tkA 1 21 3 ?_
 refine tkA 2 22 7 ?_
 refine tkA 3 23 15 ?_
 refine rdA 4 31 (fun Kk hKk => ?_)
 go_simp
 refine (ci hs _).mono ?_
 rintro _ w4 ⟨rfl,hbl⟩
 have HB:=bt HB hbl
 have HA:=ab ((aa HA).below hbl)
 have HR:=ab ((aa HR).below hbl)
 clear hbl
 (try go_wp2_with fail)
 refine oA hKk (⟨aa HA,aa HR⟩) fun hHeld => ?_
 clear hKk Kk
 refine tkA 5 25 63 ?_
 refine tkA 6 19 127 ?_
 refine wpAnyH_done (by kernel_rfl) ?_ _
 clear hHeld
 obtain ⟨a0,a1,a2,a3,a4⟩:=aa HA
 go_wp2_with fail
 clear a0 a1 a2 a3 a4
 have HB:=ab (aa HB).drew
 have HA:=ab ((aa HA).below ((Below.refl _ _).drew))
 have HR:=ab (aa HR).drew
 refine wp_region_held_drew (S:=fun w' => (w'.cell? ⟨w1.heap.size,0,none⟩ = some (.int .i64 e) ∧ w'.cell? ⟨w1.heap.size,1,none⟩ = some (.int .i64 f) ∧ w'.cell? ⟨w1.heap.size,2,none⟩ = some (.bool n) ∧ w'.cell? ⟨w1.heap.size,3,none⟩ = some (.int .u64 xx) ∧ w'.cell? ⟨w1.heap.size,4,none⟩ = some (.int .u64 yy)) ∧ aS W.heap.size 4 w') (by kernel_rfl) ?_ (fun hHeld => ?_)
 ·(try dsimp only)
  exact ⟨aa HA,aa HR⟩
 refine aC 9 (by kernel_rfl) ?_
 refine tkA 0 52 1 ?_
 refine tkA 1 53 3 ?_
 refine tkA 2 54 7 ?_
 refine tkA 3 55 15 ?_
 refine tkA 5 57 47 ?_
 refine tkA 6 58 111 ?_
 refine rdA 4 127 (fun Kk hKk => ?_)
 go_simp
 refine (eM hs _).mono ?_
 rintro _ w5 ⟨rfl,hbl⟩
 have HB:=bt HB hbl
 have HA:=ab ((aa HA).below hbl)
 have HR:=ab ((aa HR).below hbl)
 clear hbl
 (try go_wp2_with fail)
 refine oA hKk (⟨aa HA,aa HR⟩) fun hHeld => ?_
 clear hKk Kk
 refine tkA 7 59 255 ?_
 refine rdA 8 511 (fun Kk hKk => ?_)
 obtain ⟨⟨v0,c0⟩,f0⟩:=hHeld.2 0 (by omega)
 obtain ⟨⟨v1,c1⟩,f1⟩:=hHeld.2 1 (by omega)
 obtain ⟨⟨v2,c2⟩,f2⟩:=hHeld.2 2 (by omega)
 obtain ⟨⟨v3,c3⟩,f3⟩:=hHeld.2 3 (by omega)
 go_simp
 refine oA hKk (⟨At5.set (At5.set (At5.set (At5.set (aa HA) (by omega) _ _) (by omega) _ _) (by omega) _ _) (by omega) _ _,(((hHeld.2.set _ _).set _ _).set _ _).set _ _⟩) fun hHeld => ?_
 clear hKk Kk
 refine wpAnyH_done (by kernel_rfl) ?_ _
 clear hHeld
 go_wp2_with fail
 exact bodyPost_ret (v:=.agg #[.bool n,.int .i64 1,.int .i64 (1 - b - f),.int .u64 yy]) (by simp (maxDischargeDepth:=8) [results,Tryz.results15,go_sem,c0,c1,c2,c3]) rfl ⟨rfl,fY (aa HB) _ _ _ _⟩
theorem yp {w e f P Q b : Int} (x xx yy : Int) (n : Bool) (hs : Sz e f P Q b) (W : World)
 (HT : Ct 46 #[.int .i64 w,.int .u64 x] (.agg #[.int .i64 e,.int .i64 f,.bool n,.int .u64 xx,.int .u64 yy])) (hf : (f != 0) = true) (h1 : (xx == Q - 1) = false) (h3 : (xx != 0) = true) (k1 : IntKind.i64.wrap xx = xx) (k2 : bits .or .u64 P yy = P + yy) (x0 : -5000 ≤ xx) (x1 : xx ≤ 5000) :
 Calls Tryz.prog 15 #[.int .i64 w,.int .u64 x] W fun r W' => r = .returned (.agg #[.bool n,.int .i64 1,.int .i64 (xx - b - f),.int .u64 (P + yy)]) ∧ Below W.heap.size W W':=by
 go_enter Tryz.func15,Tryz.ntmps15
 go_wp2_with fail
 refine cg1 HT fun w1 hbl => ?_
 have HR:=ab ((fD hbl).alloc (.cells #[.int .i64 e,.int .i64 f,.bool n,.int .u64 xx,.int .u64 yy] 82))
 have HB:=ab (ad (ac (ae _ _) hbl) (.cells #[.int .i64 e,.int .i64 f,.bool n,.int .u64 xx,.int .u64 yy] 82))
 have HA : Hid (At5 w1.heap.size (.int .i64 e) (.int .i64 f) (.bool n) (.int .u64 xx) (.int .u64 yy) (w1.alloc (.cells #[.int .i64 e,.int .i64 f,.bool n,.int .u64 xx,.int .u64 yy] 82))):=by unfold Hid At5; simp [go_sem]
 have hz1 : W.heap.size < w1.heap.size:=by have:=hbl.size; simp at this; omega
 clear hbl HT
 go_wp2_with fail
 refine (ba e f _).mono ?_
 rintro _ w2 ⟨rfl,hbl⟩
 have HB:=bt HB hbl
 have HA:=ab ((aa HA).below hbl)
 have HR:=ab ((aa HR).below hbl)
 clear hbl
 obtain ⟨a0,a1,a2,a3,a4⟩:=aa HA
 go_wp2_with fail
 refine (eN n xx yy hs _).mono ?_
 rintro _ w3 ⟨rfl,hbl⟩
 clear a0 a1 a2 a3 a4
 have HB:=bt HB hbl
 have HA:=ab ((aa HA).below hbl)
 have HR:=ab ((aa HR).below hbl)
 clear hbl
 rw [h1,Bool.false_and]
 go_wp2_with fail
 have HB:=ab (aa HB).drew
 have HA:=ab ((aa HA).below ((Below.refl _ _).drew))
 have HR:=ab (aa HR).drew
 refine wp_region_held_drew (S:=fun w' => (w'.cell? ⟨w1.heap.size,0,none⟩ = some (.int .i64 e) ∧ w'.cell? ⟨w1.heap.size,1,none⟩ = some (.int .i64 f) ∧ w'.cell? ⟨w1.heap.size,2,none⟩ = some (.bool n) ∧ w'.cell? ⟨w1.heap.size,3,none⟩ = some (.int .u64 xx) ∧ w'.cell? ⟨w1.heap.size,4,none⟩ = some (.int .u64 yy)) ∧ aS W.heap.size 4 w') (by kernel_rfl) ?_ (fun hHeld => ?_)
 ·(try dsimp only)
  exact ⟨aa HA,aa HR⟩
 refine aC 7 (by kernel_rfl) ?_
 refine tkA 0 20 1 ?_
 refine tkA 1 21 3 ?_
 refine tkA 2 22 7 ?_
 refine tkA 3 23 15 ?_
 refine rdA 4 31 (fun Kk hKk => ?_)
 go_simp
 refine (ci hs _).mono ?_
 rintro _ w4 ⟨rfl,hbl⟩
 have HB:=bt HB hbl
 have HA:=ab ((aa HA).below hbl)
 have HR:=ab ((aa HR).below hbl)
 clear hbl
 (try go_wp2_with fail)
 refine oA hKk (⟨aa HA,aa HR⟩) fun hHeld => ?_
 clear hKk Kk
 refine tkA 5 25 63 ?_
 refine tkA 6 19 127 ?_
 refine wpAnyH_done (by kernel_rfl) ?_ _
 clear hHeld
 obtain ⟨a0,a1,a2,a3,a4⟩:=aa HA
 go_wp2_with fail
 clear a0 a1 a2 a3 a4
 have HB:=ab (aa HB).drew
 have HA:=ab ((aa HA).below ((Below.refl _ _).drew))
 have HR:=ab (aa HR).drew
 refine wp_region_held_drew (S:=fun w' => (w'.cell? ⟨w1.heap.size,0,none⟩ = some (.int .i64 e) ∧ w'.cell? ⟨w1.heap.size,1,none⟩ = some (.int .i64 f) ∧ w'.cell? ⟨w1.heap.size,2,none⟩ = some (.bool n) ∧ w'.cell? ⟨w1.heap.size,3,none⟩ = some (.int .u64 xx) ∧ w'.cell? ⟨w1.heap.size,4,none⟩ = some (.int .u64 yy)) ∧ aS W.heap.size 4 w') (by kernel_rfl) ?_ (fun hHeld => ?_)
 ·(try dsimp only)
  exact ⟨aa HA,aa HR⟩
 refine aC 16 (by kernel_rfl) ?_
 refine tkA 0 33 1 ?_
 refine tkA 1 34 3 ?_
 refine tkA 2 35 7 ?_
 refine tkA 3 36 15 ?_
 refine tkA 4 37 31 ?_
 refine tkA 5 38 63 ?_
 refine tkA 6 39 127 ?_
 refine tkA 8 41 383 ?_
 refine tkA 9 42 895 ?_
 refine tkA 11 44 2943 ?_
 refine tkA 12 45 7039 ?_
 refine rdA 7 7167 (fun Kk hKk => ?_)
 go_simp
 refine (gO xx hs _ x0 x1).mono ?_
 rintro _ w5 ⟨rfl,hbl⟩
 have HB:=bt HB hbl
 have HA:=ab ((aa HA).below hbl)
 have HR:=ab ((aa HR).below hbl)
 clear hbl
 (try go_wp2_with fail)
 refine oA hKk (⟨aa HA,aa HR⟩) fun hHeld => ?_
 clear hKk Kk
 refine rdA 10 8191 (fun Kk hKk => ?_)
 go_simp
 refine (cU hs _).mono ?_
 rintro _ w6 ⟨rfl,hbl⟩
 have HB:=bt HB hbl
 have HA:=ab ((aa HA).below hbl)
 have HR:=ab ((aa HR).below hbl)
 clear hbl
 (try go_wp2_with fail)
 refine oA hKk (⟨aa HA,aa HR⟩) fun hHeld => ?_
 clear hKk Kk
 refine tkA 13 46 16383 ?_
 refine tkA 14 47 32767 ?_
 refine rdA 15 65535 (fun Kk hKk => ?_)
 obtain ⟨⟨v0,c0⟩,f0⟩:=hHeld.2 0 (by omega)
 obtain ⟨⟨v1,c1⟩,f1⟩:=hHeld.2 1 (by omega)
 obtain ⟨⟨v2,c2⟩,f2⟩:=hHeld.2 2 (by omega)
 obtain ⟨⟨v3,c3⟩,f3⟩:=hHeld.2 3 (by omega)
 go_simp
 refine oA hKk (⟨At5.set (At5.set (At5.set (At5.set (aa HA) (by omega) _ _) (by omega) _ _) (by omega) _ _) (by omega) _ _,(((hHeld.2.set _ _).set _ _).set _ _).set _ _⟩) fun hHeld => ?_
 clear hKk Kk
 refine wpAnyH_done (by kernel_rfl) ?_ _
 clear hHeld
 go_wp2_with fail
 exact bodyPost_ret (v:=.agg #[.bool n,.int .i64 1,.int .i64 (xx - b - f),.int .u64 (P + yy)]) (by simp (maxDischargeDepth:=8) [results,Tryz.results15,go_sem,c0,c1,c2,c3]) rfl ⟨rfl,fY (aa HB) _ _ _ _⟩
def dp (f P Q b : Int) (n : Bool) (x y : Int) (N : Bool) (K X S : Int) : Prop:=
 (f = 0 ∧ N = false ∧ K = 0 ∧ X = 0 ∧ S = 0) ∨
 (f ≠ 0 ∧ x = Q - 1 ∧ y ≠ 0 ∧ N = false ∧ K = 3 ∧ X = 0 ∧ S = 0) ∨
 (f ≠ 0 ∧ x = Q - 1 ∧ y = 0 ∧ N = n ∧ K = 2 ∧ X = 0 ∧ S = 0) ∨
 (f ≠ 0 ∧ x ≠ Q - 1 ∧ x ≠ 0 ∧ N = n ∧ K = 1 ∧ X = x - b - f ∧ S = P + y) ∨
 (f ≠ 0 ∧ x ≠ Q - 1 ∧ x = 0 ∧ y ≠ 0 ∧ N = n ∧ K = 1 ∧ X = 1 - b - f ∧ S = y) ∨
 (f ≠ 0 ∧ x ≠ Q - 1 ∧ x = 0 ∧ y = 0 ∧ N = n ∧ K = 0 ∧ X = 0 ∧ S = 0)
theorem dj {a b : Int} (h : a ≠ b) : (a != b) = true:=by simp [h]
theorem dJ {a b : Int} (h : a = b) : (a != b) = false:=by simp [h]
theorem aH {a b : Int} (h : a = b) : (a == b) = true:=by simp [h]
theorem au {a b : Int} (h : a ≠ b) : (a == b) = false:=by simp [h]
theorem bj {w e f P Q b : Int} (x : Int) {N : Bool} {K X S : Int} (h : Wd w e f P Q b) (W : World) (h0 : 0 ≤ x) (h1 : x < 18446744073709551616)
 (ho : dp f P Q b (sg P Q x) (x / P % Q) (x % P) N K X S) :
 Calls Tryz.prog 15 #[.int .i64 w,.int .u64 x] W fun r W' => r = .returned (.agg #[.bool N,.int .i64 K,.int .i64 X,.int .u64 S]) ∧ Below W.heap.size W W':=by
 have HT:=ab (fun W => kR x h W h0 h1)
 obtain ⟨p1,p2,q1,q2⟩:=h.sz.pos
 obtain ⟨u,v⟩:=cJ (x / P) q1
 obtain ⟨u',v'⟩:=cJ x p1
 rcases ho with ⟨a,rfl,rfl,rfl,rfl⟩ | ⟨a,c,d,rfl,rfl,rfl,rfl⟩ | ⟨a,c,d,rfl,rfl,rfl,rfl⟩ | ⟨a,c,d,rfl,rfl,rfl,rfl⟩ | ⟨a,c,d,g,rfl,rfl,rfl,rfl⟩ | ⟨a,c,d,g,rfl,rfl,rfl,rfl⟩
 ·exact aea x _ _ _ h.sz W HT (dJ a)
 ·exact yl x _ _ _ h.sz W HT (dj a) (aH c) (dj d)
 ·exact ym x _ _ _ h.sz W HT (dj a) (aH c) (dJ d)
 ·refine yp x _ _ _ h.sz W HT (dj a) (au c) (dj d) (aj (by omega) (by omega)) ?_ (by omega) (by omega)
  rcases h.sz with ⟨_,rfl,rfl,rfl,_⟩ | ⟨_,rfl,rfl,rfl,_⟩ | ⟨_,rfl,rfl,rfl,_⟩
  ·exact iq 23 _ _ (by omega) (by omega) (by decide) (by omega) (by omega) (by omega)
  ·exact iq 52 _ _ (by omega) (by omega) (by decide) (by omega) (by omega) (by omega)
  ·exact absurd rfl a
 ·exact yo x _ _ _ h.sz W HT (dj a) (au c) (dJ d) (dj g)
 ·exact yn x _ _ _ h.sz W HT (dj a) (au c) (dJ d) (dJ g)
def At4 (b : Nat) (x y z u : Value) (w : World) : Prop:=w.cell? ⟨b,0,none⟩ = some x ∧ w.cell? ⟨b,1,none⟩ = some y ∧ w.cell? ⟨b,2,none⟩ = some z ∧ w.cell? ⟨b,3,none⟩ = some u
theorem At4.below {b : Nat} {x y z u : Value} {w w' : World} (h : At4 b x y z u w) (hb : Below w.heap.size w w') : At4 b x y z u w':=
 have hz:=ag h.1
 ⟨aw hb hz h.1,aw hb hz h.2.1,aw hb hz h.2.2.1,aw hb hz h.2.2.2⟩
theorem ak (w : World) (x y z u : Value) (t : TypeId) : At4 w.heap.size x y z u (w.alloc (.cells #[x,y,z,u] t)):=by unfold At4; simp [go_sem]
set_option maxHeartbeats 2000000
theorem hJ (w : World) (x y : Value) (t : TypeId) (o : Obj) : At2 w.heap.size x y ((w.alloc (.cells #[x,y] t)).alloc o):=by unfold At2; simp [go_sem]
theorem hZ (w : World) (o : Obj) (x y : Value) (t : TypeId) : At2 (w.heap.size + 1) x y ((w.alloc o).alloc (.cells #[x,y] t)):=by unfold At2; simp [go_sem]
theorem nQ {w ah al bh bl E dh dl V : Int} {an bn : Bool} (W : World) (hn : (an == bn) = true) (HA : Ct 280 #[.agg #[.int .u64 ah,.int .u64 al],.agg #[.int .u64 bh,.int .u64 bl]] (.agg #[.int .u64 dh,.int .u64 dl])) (HP : Ct 160 #[.int .i64 w,.bool an,.agg #[.int .u64 dh,.int .u64 dl],.int .i64 E,.bool false] (.int .u64 V)) :
 Calls Tryz.prog 269 #[.int .i64 w,.bool an,.agg #[.int .u64 ah,.int .u64 al],.bool bn,.agg #[.int .u64 bh,.int .u64 bl],.int .i64 E] W fun r W' => r = .returned (.int .u64 V) ∧ Below W.heap.size W W':=by
 go_enter Tryz.func269,Tryz.ntmps269
 go_wp2_with fail
 have HB:=ab (aq W (.cells #[.int .u64 ah,.int .u64 al] 135) (.cells #[.int .u64 bh,.int .u64 bl] 135))
 have H1:=ab (hJ W (.int .u64 ah) (.int .u64 al) 135 (.cells #[.int .u64 bh,.int .u64 bl] 135))
 have H2:=ab (hZ W (.cells #[.int .u64 ah,.int .u64 al] 135) (.int .u64 bh) (.int .u64 bl) 135)
 refine cg1 HA fun w1 hb => ?_
 have HB:=bt HB hb
 have H1:=ab ((aa H1).below hb)
 have H2:=ab ((aa H2).below hb)
 clear hb
 obtain ⟨c0,c1⟩:=aa H1
 obtain ⟨d0,d1⟩:=aa H2
 go_wp2_with fail
 refine cg1 HP fun w2 hb => ?_
 have HB:=bt HB hb
 have H1:=ab ((aa H1).below hb)
 have H2:=ab ((aa H2).below hb)
 clear hb
 obtain ⟨c0,c1⟩:=aa H1
 obtain ⟨d0,d1⟩:=aa H2
 go_wp2_with fail
 go_ret
 exact ⟨rfl,aa HB⟩
theorem rX {w ah al bh bl E dh dl V : Int} {an bn : Bool} (W : World) (hn : (an == bn) = false) (HC : Ct 235 #[.agg #[.int .u64 ah,.int .u64 al],.agg #[.int .u64 bh,.int .u64 bl]] (.int .i64 1)) (HA : Ct 281 #[.agg #[.int .u64 ah,.int .u64 al],.agg #[.int .u64 bh,.int .u64 bl]] (.agg #[.int .u64 dh,.int .u64 dl])) (HP : Ct 160 #[.int .i64 w,.bool an,.agg #[.int .u64 dh,.int .u64 dl],.int .i64 E,.bool false] (.int .u64 V)) :
 Calls Tryz.prog 269 #[.int .i64 w,.bool an,.agg #[.int .u64 ah,.int .u64 al],.bool bn,.agg #[.int .u64 bh,.int .u64 bl],.int .i64 E] W fun r W' => r = .returned (.int .u64 V) ∧ Below W.heap.size W W':=by
 go_enter Tryz.func269,Tryz.ntmps269
 go_wp2_with fail
 have HB:=ab (aq W (.cells #[.int .u64 ah,.int .u64 al] 135) (.cells #[.int .u64 bh,.int .u64 bl] 135))
 have H1:=ab (hJ W (.int .u64 ah) (.int .u64 al) 135 (.cells #[.int .u64 bh,.int .u64 bl] 135))
 have H2:=ab (hZ W (.cells #[.int .u64 ah,.int .u64 al] 135) (.int .u64 bh) (.int .u64 bl) 135)
 refine cg1 HC fun w1 hb => ?_
 have HB:=bt HB hb
 have H1:=ab ((aa H1).below hb)
 have H2:=ab ((aa H2).below hb)
 clear hb
 obtain ⟨c0,c1⟩:=aa H1
 obtain ⟨d0,d1⟩:=aa H2
 go_wp2_with fail
 refine cg1 HA fun w2 hb => ?_
 have HB:=bt HB hb
 have H1:=ab ((aa H1).below hb)
 have H2:=ab ((aa H2).below hb)
 clear hb
 obtain ⟨c0,c1⟩:=aa H1
 obtain ⟨d0,d1⟩:=aa H2
 go_wp2_with fail
 refine cg1 HP fun w3 hb => ?_
 have HB:=bt HB hb
 have H1:=ab ((aa H1).below hb)
 have H2:=ab ((aa H2).below hb)
 clear hb
 obtain ⟨c0,c1⟩:=aa H1
 obtain ⟨d0,d1⟩:=aa H2
 go_wp2_with fail
 go_ret
 exact ⟨rfl,aa HB⟩
theorem rY {w ah al bh bl E dh dl V : Int} {an bn : Bool} (W : World) (hn : (an == bn) = false) (HC : Ct 235 #[.agg #[.int .u64 ah,.int .u64 al],.agg #[.int .u64 bh,.int .u64 bl]] (.int .i64 (-1))) (HA : Ct 281 #[.agg #[.int .u64 bh,.int .u64 bl],.agg #[.int .u64 ah,.int .u64 al]] (.agg #[.int .u64 dh,.int .u64 dl])) (HP : Ct 160 #[.int .i64 w,.bool bn,.agg #[.int .u64 dh,.int .u64 dl],.int .i64 E,.bool false] (.int .u64 V)) :
 Calls Tryz.prog 269 #[.int .i64 w,.bool an,.agg #[.int .u64 ah,.int .u64 al],.bool bn,.agg #[.int .u64 bh,.int .u64 bl],.int .i64 E] W fun r W' => r = .returned (.int .u64 V) ∧ Below W.heap.size W W':=by
 go_enter Tryz.func269,Tryz.ntmps269
 go_wp2_with fail
 have HB:=ab (aq W (.cells #[.int .u64 ah,.int .u64 al] 135) (.cells #[.int .u64 bh,.int .u64 bl] 135))
 have H1:=ab (hJ W (.int .u64 ah) (.int .u64 al) 135 (.cells #[.int .u64 bh,.int .u64 bl] 135))
 have H2:=ab (hZ W (.cells #[.int .u64 ah,.int .u64 al] 135) (.int .u64 bh) (.int .u64 bl) 135)
 refine cg1 HC fun w1 hb => ?_
 have HB:=bt HB hb
 have H1:=ab ((aa H1).below hb)
 have H2:=ab ((aa H2).below hb)
 clear hb
 obtain ⟨c0,c1⟩:=aa H1
 obtain ⟨d0,d1⟩:=aa H2
 go_wp2_with fail
 refine cg1 HA fun w2 hb => ?_
 have HB:=bt HB hb
 have H1:=ab ((aa H1).below hb)
 have H2:=ab ((aa H2).below hb)
 clear hb
 obtain ⟨c0,c1⟩:=aa H1
 obtain ⟨d0,d1⟩:=aa H2
 go_wp2_with fail
 refine cg1 HP fun w3 hb => ?_
 have HB:=bt HB hb
 have H1:=ab ((aa H1).below hb)
 have H2:=ab ((aa H2).below hb)
 clear hb
 obtain ⟨c0,c1⟩:=aa H1
 obtain ⟨d0,d1⟩:=aa H2
 go_wp2_with fail
 go_ret
 exact ⟨rfl,aa HB⟩
theorem rZ {w ah al bh bl E V : Int} {an bn : Bool} (W : World) (hn : (an == bn) = false) (HC : Ct 235 #[.agg #[.int .u64 ah,.int .u64 al],.agg #[.int .u64 bh,.int .u64 bl]] (.int .i64 0)) (HP : Ct 155 #[.int .i64 w,.bool false] (.int .u64 V)) :
 Calls Tryz.prog 269 #[.int .i64 w,.bool an,.agg #[.int .u64 ah,.int .u64 al],.bool bn,.agg #[.int .u64 bh,.int .u64 bl],.int .i64 E] W fun r W' => r = .returned (.int .u64 V) ∧ Below W.heap.size W W':=by
 go_enter Tryz.func269,Tryz.ntmps269
 go_wp2_with fail
 have HB:=ab (aq W (.cells #[.int .u64 ah,.int .u64 al] 135) (.cells #[.int .u64 bh,.int .u64 bl] 135))
 have H1:=ab (hJ W (.int .u64 ah) (.int .u64 al) 135 (.cells #[.int .u64 bh,.int .u64 bl] 135))
 have H2:=ab (hZ W (.cells #[.int .u64 ah,.int .u64 al] 135) (.int .u64 bh) (.int .u64 bl) 135)
 refine cg1 HC fun w1 hb => ?_
 have HB:=bt HB hb
 have H1:=ab ((aa H1).below hb)
 have H2:=ab ((aa H2).below hb)
 clear hb
 obtain ⟨c0,c1⟩:=aa H1
 obtain ⟨d0,d1⟩:=aa H2
 go_wp2_with fail
 refine cg1 HP fun w2 hb => ?_
 have HB:=bt HB hb
 have H1:=ab ((aa H1).below hb)
 have H2:=ab ((aa H2).below hb)
 clear hb
 obtain ⟨c0,c1⟩:=aa H1
 obtain ⟨d0,d1⟩:=aa H2
 go_wp2_with fail
 go_ret
 exact ⟨rfl,aa HB⟩
set_option maxHeartbeats 4000000
theorem bD (w : World) (x y z u : Value) (t : TypeId) (o : Obj) : At4 w.heap.size x y z u ((w.alloc (.cells #[x,y,z,u] t)).alloc o):=by unfold At4; simp [go_sem]
theorem dD (w : World) (o : Obj) (x y z u : Value) (t : TypeId) : At4 (w.heap.size + 1) x y z u ((w.alloc o).alloc (.cells #[x,y,z,u] t)):=by unfold At4; simp [go_sem]
theorem rW {w K1 X1 S1 K2 X2 S2 D V : Int} {n1 n2 : Bool} (W : World) (hx : ¬ X1 < X2) (kd : IntKind.i64.wrap (X1 - X2) = D) (hd : 64 < D) (HN : Ct 170 #[.int .i64 w,.agg #[.bool n1,.int .i64 K1,.int .i64 X1,.int .u64 S1]] (.int .u64 V)) :
 Calls Tryz.prog 239 #[.int .i64 w,.agg #[.bool n1,.int .i64 K1,.int .i64 X1,.int .u64 S1],.agg #[.bool n2,.int .i64 K2,.int .i64 X2,.int .u64 S2]] W fun r W' => r = .returned (.int .u64 V) ∧ Below W.heap.size W W':=by
 go_enter Tryz.func239,Tryz.ntmps239
 go_wp2_with fail
 have HB:=ab (aq W (.cells #[.bool n1,.int .i64 K1,.int .i64 X1,.int .u64 S1] 37) (.cells #[.bool n2,.int .i64 K2,.int .i64 X2,.int .u64 S2] 37))
 refine cg0 HN HB fun w1 HB => ?_
 go_wp2_with fail
 go_ret
 exact ⟨rfl,aa HB⟩
theorem vR {w K1 X1 S1 K2 X2 S2 D h1 l1 h2 l2 h3 l3 V : Int} {n1 n2 : Bool} (W : World) (hx : ¬ X1 < X2) (kd : IntKind.i64.wrap (X1 - X2) = D) (hd : ¬ 64 < D) (HO1 : Ct 161 #[.int .u64 S1] (.agg #[.int .u64 h1,.int .u64 l1])) (HL : Ct 234 #[.agg #[.int .u64 h1,.int .u64 l1],.int .i64 D] (.agg #[.int .u64 h2,.int .u64 l2])) (HO2 : Ct 161 #[.int .u64 S2] (.agg #[.int .u64 h3,.int .u64 l3])) (HA0 : Ct 269 #[.int .i64 w,.bool n1,.agg #[.int .u64 h2,.int .u64 l2],.bool n2,.agg #[.int .u64 h3,.int .u64 l3],.int .i64 X2] (.int .u64 V)) :
 Calls Tryz.prog 239 #[.int .i64 w,.agg #[.bool n1,.int .i64 K1,.int .i64 X1,.int .u64 S1],.agg #[.bool n2,.int .i64 K2,.int .i64 X2,.int .u64 S2]] W fun r W' => r = .returned (.int .u64 V) ∧ Below W.heap.size W W':=by
 go_enter Tryz.func239,Tryz.ntmps239
 go_wp2_with fail
 have HB:=ab ((aq W (.cells #[.bool n1,.int .i64 K1,.int .i64 X1,.int .u64 S1] 37) (.cells #[.bool n2,.int .i64 K2,.int .i64 X2,.int .u64 S2] 37)).drew)
 have HA:=ab ((bD W (.bool n1) (.int .i64 K1) (.int .i64 X1) (.int .u64 S1) 37 (.cells #[.bool n2,.int .i64 K2,.int .i64 X2,.int .u64 S2] 37)).below ((Below.refl _ _).drew))
 have HA2:=ab ((dD W (.cells #[.bool n1,.int .i64 K1,.int .i64 X1,.int .u64 S1] 37) (.bool n2) (.int .i64 K2) (.int .i64 X2) (.int .u64 S2) 37).below ((Below.refl _ _).drew))
 refine wp_region_held_drew (S:=fun w' => (w'.cell? ⟨W.heap.size,0,none⟩ = some (.bool n1) ∧ w'.cell? ⟨W.heap.size,1,none⟩ = some (.int .i64 K1) ∧ w'.cell? ⟨W.heap.size,2,none⟩ = some (.int .i64 X1) ∧ w'.cell? ⟨W.heap.size,3,none⟩ = some (.int .u64 S1)) ∧ (w'.cell? ⟨W.heap.size + 1,0,none⟩ = some (.bool n2) ∧ w'.cell? ⟨W.heap.size + 1,1,none⟩ = some (.int .i64 K2) ∧ w'.cell? ⟨W.heap.size + 1,2,none⟩ = some (.int .i64 X2) ∧ w'.cell? ⟨W.heap.size + 1,3,none⟩ = some (.int .u64 S2))) (by kernel_rfl) ?_ (fun hHeld => ?_)
 ·(try dsimp only)
  exact ⟨aa HA,aa HA2⟩
 refine aC 17 (by kernel_rfl) ?_
 refine tkA 0 25 1 ?_
 refine tkA 1 26 3 ?_
 refine tkA 2 27 7 ?_
 refine tkA 3 28 15 ?_
 refine tkA 4 29 31 ?_
 refine tkA 6 31 95 ?_
 refine tkA 8 33 351 ?_
 refine tkA 9 34 863 ?_
 refine tkA 10 35 1887 ?_
 refine tkA 11 36 3935 ?_
 refine tkA 13 38 12127 ?_
 refine tkA 14 39 28511 ?_
 refine rdA 5 28543 (fun Kk hKk => ?_)
 go_simp
 refine cg1 HO1 fun w1 hbl => ?_
 have HB:=bt HB hbl
 have HA:=ab ((aa HA).below hbl)
 have HA2:=ab ((aa HA2).below hbl)
 clear hbl
 (try go_wp2_with fail)
 refine oA hKk (⟨aa HA,aa HA2⟩) fun hHeld => ?_
 clear hKk Kk
 refine rdA 7 28671 (fun Kk hKk => ?_)
 go_simp
 refine cg1 HL fun w1 hbl => ?_
 have HB:=bt HB hbl
 have HA:=ab ((aa HA).below hbl)
 have HA2:=ab ((aa HA2).below hbl)
 clear hbl
 (try go_wp2_with fail)
 refine oA hKk (⟨aa HA,aa HA2⟩) fun hHeld => ?_
 clear hKk Kk
 refine rdA 12 32767 (fun Kk hKk => ?_)
 go_simp
 refine cg1 HO2 fun w1 hbl => ?_
 have HB:=bt HB hbl
 have HA:=ab ((aa HA).below hbl)
 have HA2:=ab ((aa HA2).below hbl)
 clear hbl
 (try go_wp2_with fail)
 refine oA hKk (⟨aa HA,aa HA2⟩) fun hHeld => ?_
 clear hKk Kk
 refine rdA 15 65535 (fun Kk hKk => ?_)
 go_simp
 refine cg1 HA0 fun w1 hbl => ?_
 have HB:=bt HB hbl
 have HA:=ab ((aa HA).below hbl)
 have HA2:=ab ((aa HA2).below hbl)
 clear hbl
 (try go_wp2_with fail)
 refine oA hKk (⟨aa HA,aa HA2⟩) fun hHeld => ?_
 clear hKk Kk
 refine tkA 16 6 131071 ?_
 refine wpAnyH_done (by kernel_rfl) ?_ _
 go_wp2
 go_ret
 exact ⟨rfl,aa HB⟩
theorem nO {w K1 X1 S1 K2 X2 S2 D V : Int} {n1 n2 : Bool} (W : World) (hx : X1 < X2) (kd : IntKind.i64.wrap (X2 - X1) = D) (hd : 64 < D) (HN : Ct 170 #[.int .i64 w,.agg #[.bool n2,.int .i64 K2,.int .i64 X2,.int .u64 S2]] (.int .u64 V)) :
 Calls Tryz.prog 239 #[.int .i64 w,.agg #[.bool n1,.int .i64 K1,.int .i64 X1,.int .u64 S1],.agg #[.bool n2,.int .i64 K2,.int .i64 X2,.int .u64 S2]] W fun r W' => r = .returned (.int .u64 V) ∧ Below W.heap.size W W':=by
 go_enter Tryz.func239,Tryz.ntmps239
 go_wp2_with fail
 have HB:=ab (aq W (.cells #[.bool n2,.int .i64 K2,.int .i64 X2,.int .u64 S2] 37) (.cells #[.bool n1,.int .i64 K1,.int .i64 X1,.int .u64 S1] 37))
 refine cg0 HN HB fun w1 HB => ?_
 go_wp2_with fail
 go_ret
 exact ⟨rfl,aa HB⟩
theorem po {w K1 X1 S1 K2 X2 S2 D h1 l1 h2 l2 h3 l3 V : Int} {n1 n2 : Bool} (W : World) (hx : X1 < X2) (kd : IntKind.i64.wrap (X2 - X1) = D) (hd : ¬ 64 < D) (HO1 : Ct 161 #[.int .u64 S2] (.agg #[.int .u64 h1,.int .u64 l1])) (HL : Ct 234 #[.agg #[.int .u64 h1,.int .u64 l1],.int .i64 D] (.agg #[.int .u64 h2,.int .u64 l2])) (HO2 : Ct 161 #[.int .u64 S1] (.agg #[.int .u64 h3,.int .u64 l3])) (HA0 : Ct 269 #[.int .i64 w,.bool n2,.agg #[.int .u64 h2,.int .u64 l2],.bool n1,.agg #[.int .u64 h3,.int .u64 l3],.int .i64 X1] (.int .u64 V)) :
 Calls Tryz.prog 239 #[.int .i64 w,.agg #[.bool n1,.int .i64 K1,.int .i64 X1,.int .u64 S1],.agg #[.bool n2,.int .i64 K2,.int .i64 X2,.int .u64 S2]] W fun r W' => r = .returned (.int .u64 V) ∧ Below W.heap.size W W':=by
 go_enter Tryz.func239,Tryz.ntmps239
 go_wp2_with fail
 have HB:=ab ((aq W (.cells #[.bool n2,.int .i64 K2,.int .i64 X2,.int .u64 S2] 37) (.cells #[.bool n1,.int .i64 K1,.int .i64 X1,.int .u64 S1] 37)).drew)
 have HA:=ab ((bD W (.bool n2) (.int .i64 K2) (.int .i64 X2) (.int .u64 S2) 37 (.cells #[.bool n1,.int .i64 K1,.int .i64 X1,.int .u64 S1] 37)).below ((Below.refl _ _).drew))
 have HA2:=ab ((dD W (.cells #[.bool n2,.int .i64 K2,.int .i64 X2,.int .u64 S2] 37) (.bool n1) (.int .i64 K1) (.int .i64 X1) (.int .u64 S1) 37).below ((Below.refl _ _).drew))
 refine wp_region_held_drew (S:=fun w' => (w'.cell? ⟨W.heap.size,0,none⟩ = some (.bool n2) ∧ w'.cell? ⟨W.heap.size,1,none⟩ = some (.int .i64 K2) ∧ w'.cell? ⟨W.heap.size,2,none⟩ = some (.int .i64 X2) ∧ w'.cell? ⟨W.heap.size,3,none⟩ = some (.int .u64 S2)) ∧ (w'.cell? ⟨W.heap.size + 1,0,none⟩ = some (.bool n1) ∧ w'.cell? ⟨W.heap.size + 1,1,none⟩ = some (.int .i64 K1) ∧ w'.cell? ⟨W.heap.size + 1,2,none⟩ = some (.int .i64 X1) ∧ w'.cell? ⟨W.heap.size + 1,3,none⟩ = some (.int .u64 S1))) (by kernel_rfl) ?_ (fun hHeld => ?_)
 ·(try dsimp only)
  exact ⟨aa HA,aa HA2⟩
 refine aC 17 (by kernel_rfl) ?_
 refine tkA 0 25 1 ?_
 refine tkA 1 26 3 ?_
 refine tkA 2 27 7 ?_
 refine tkA 3 28 15 ?_
 refine tkA 4 29 31 ?_
 refine tkA 6 31 95 ?_
 refine tkA 8 33 351 ?_
 refine tkA 9 34 863 ?_
 refine tkA 10 35 1887 ?_
 refine tkA 11 36 3935 ?_
 refine tkA 13 38 12127 ?_
 refine tkA 14 39 28511 ?_
 refine rdA 5 28543 (fun Kk hKk => ?_)
 go_simp
 refine cg1 HO1 fun w1 hbl => ?_
 have HB:=bt HB hbl
 have HA:=ab ((aa HA).below hbl)
 have HA2:=ab ((aa HA2).below hbl)
 clear hbl
 (try go_wp2_with fail)
 refine oA hKk (⟨aa HA,aa HA2⟩) fun hHeld => ?_
 clear hKk Kk
 refine rdA 7 28671 (fun Kk hKk => ?_)
 go_simp
 refine cg1 HL fun w1 hbl => ?_
 have HB:=bt HB hbl
 have HA:=ab ((aa HA).below hbl)
 have HA2:=ab ((aa HA2).below hbl)
 clear hbl
 (try go_wp2_with fail)
 refine oA hKk (⟨aa HA,aa HA2⟩) fun hHeld => ?_
 clear hKk Kk
 refine rdA 12 32767 (fun Kk hKk => ?_)
 go_simp
 refine cg1 HO2 fun w1 hbl => ?_
 have HB:=bt HB hbl
 have HA:=ab ((aa HA).below hbl)
 have HA2:=ab ((aa HA2).below hbl)
 clear hbl
 (try go_wp2_with fail)
 refine oA hKk (⟨aa HA,aa HA2⟩) fun hHeld => ?_
 clear hKk Kk
 refine rdA 15 65535 (fun Kk hKk => ?_)
 go_simp
 refine cg1 HA0 fun w1 hbl => ?_
 have HB:=bt HB hbl
 have HA:=ab ((aa HA).below hbl)
 have HA2:=ab ((aa HA2).below hbl)
 clear hbl
 (try go_wp2_with fail)
 refine oA hKk (⟨aa HA,aa HA2⟩) fun hHeld => ?_
 clear hKk Kk
 refine tkA 16 6 131071 ?_
 refine wpAnyH_done (by kernel_rfl) ?_ _
 go_wp2
 go_ret
 exact ⟨rfl,aa HB⟩
theorem agw {w K1 X1 S1 K2 X2 S2 V : Int} {n1 n2 : Bool} (W : World) (hk : (K1 != K2) = true) (hl : K1 < K2) (HC : Ct 170 #[.int .i64 w,.agg #[.bool n2,.int .i64 K2,.int .i64 X2,.int .u64 S2]] (.int .u64 V)) :
 Calls Tryz.prog 162 #[.int .i64 w,.agg #[.bool n1,.int .i64 K1,.int .i64 X1,.int .u64 S1],.agg #[.bool n2,.int .i64 K2,.int .i64 X2,.int .u64 S2]] W fun r W' => r = .returned (.int .u64 V) ∧ Below W.heap.size W W':=by
 go_enter Tryz.func162,Tryz.ntmps162
 go_wp2_with fail
 have HB:=ab (aq W (.cells #[.bool n2,.int .i64 K2,.int .i64 X2,.int .u64 S2] 37) (.cells #[.bool n2,.int .i64 K2,.int .i64 X2,.int .u64 S2] 37))
 refine cg0 HC HB fun w1 HB => ?_
 go_wp2_with fail
 go_ret
 exact ⟨rfl,aa HB⟩
theorem agx {w K1 X1 S1 K2 X2 S2 V : Int} {n1 n2 : Bool} (W : World) (hk : (K1 != K2) = true) (hl : ¬ K1 < K2) (HC : Ct 170 #[.int .i64 w,.agg #[.bool n1,.int .i64 K1,.int .i64 X1,.int .u64 S1]] (.int .u64 V)) :
 Calls Tryz.prog 162 #[.int .i64 w,.agg #[.bool n1,.int .i64 K1,.int .i64 X1,.int .u64 S1],.agg #[.bool n2,.int .i64 K2,.int .i64 X2,.int .u64 S2]] W fun r W' => r = .returned (.int .u64 V) ∧ Below W.heap.size W W':=by
 go_enter Tryz.func162,Tryz.ntmps162
 go_wp2_with fail
 have HB:=ab (aq W (.cells #[.bool n1,.int .i64 K1,.int .i64 X1,.int .u64 S1] 37) (.cells #[.bool n2,.int .i64 K2,.int .i64 X2,.int .u64 S2] 37))
 refine cg0 HC HB fun w1 HB => ?_
 go_wp2_with fail
 go_ret
 exact ⟨rfl,aa HB⟩
theorem agy {w K1 X1 S1 K2 X2 S2 V : Int} {n2 : Bool} (W : World) (hk : (K1 != K2) = false) (k0 : (K1 == 0) = true) (HC : Ct 155 #[.int .i64 w,.bool n2] (.int .u64 V)) :
 Calls Tryz.prog 162 #[.int .i64 w,.agg #[.bool true,.int .i64 K1,.int .i64 X1,.int .u64 S1],.agg #[.bool n2,.int .i64 K2,.int .i64 X2,.int .u64 S2]] W fun r W' => r = .returned (.int .u64 V) ∧ Below W.heap.size W W':=by
 go_enter Tryz.func162,Tryz.ntmps162
 go_wp2_with fail
 have HB:=ab (aq W (.cells #[.bool true,.int .i64 K1,.int .i64 X1,.int .u64 S1] 37) (.cells #[.bool n2,.int .i64 K2,.int .i64 X2,.int .u64 S2] 37))
 refine cg0 HC HB fun w1 HB => ?_
 go_wp2_with fail
 go_ret
 exact ⟨rfl,aa HB⟩
theorem nP {w K1 X1 S1 K2 X2 S2 V : Int} {n2 : Bool} (W : World) (hk : (K1 != K2) = false) (k0 : (K1 == 0) = true) (HC : Ct 155 #[.int .i64 w,.bool false] (.int .u64 V)) :
 Calls Tryz.prog 162 #[.int .i64 w,.agg #[.bool false,.int .i64 K1,.int .i64 X1,.int .u64 S1],.agg #[.bool n2,.int .i64 K2,.int .i64 X2,.int .u64 S2]] W fun r W' => r = .returned (.int .u64 V) ∧ Below W.heap.size W W':=by
 go_enter Tryz.func162,Tryz.ntmps162
 go_wp2_with fail
 have HB:=ab (aq W (.cells #[.bool false,.int .i64 K1,.int .i64 X1,.int .u64 S1] 37) (.cells #[.bool n2,.int .i64 K2,.int .i64 X2,.int .u64 S2] 37))
 refine cg0 HC HB fun w1 HB => ?_
 go_wp2_with fail
 go_ret
 exact ⟨rfl,aa HB⟩
theorem agz {w K1 X1 S1 K2 X2 S2 V : Int} {n1 n2 : Bool} (W : World) (hk : (K1 != K2) = false) (k0 : (K1 == 0) = false) (k2 : (K1 == 2) = true) (hn : (n1 == n2) = true) (HC : Ct 157 #[.int .i64 w,.bool n1] (.int .u64 V)) :
 Calls Tryz.prog 162 #[.int .i64 w,.agg #[.bool n1,.int .i64 K1,.int .i64 X1,.int .u64 S1],.agg #[.bool n2,.int .i64 K2,.int .i64 X2,.int .u64 S2]] W fun r W' => r = .returned (.int .u64 V) ∧ Below W.heap.size W W':=by
 go_enter Tryz.func162,Tryz.ntmps162
 go_wp2_with fail
 have HB:=ab (aq W (.cells #[.bool n1,.int .i64 K1,.int .i64 X1,.int .u64 S1] 37) (.cells #[.bool n2,.int .i64 K2,.int .i64 X2,.int .u64 S2] 37))
 refine cg0 HC HB fun w1 HB => ?_
 go_wp2_with fail
 go_ret
 exact ⟨rfl,aa HB⟩
theorem ag0 {w K1 X1 S1 K2 X2 S2 V : Int} {n1 n2 : Bool} (W : World) (hk : (K1 != K2) = false) (k0 : (K1 == 0) = false) (k2 : (K1 == 2) = true) (hn : (n1 == n2) = false) (HC : Ct 156 #[.int .i64 w] (.int .u64 V)) :
 Calls Tryz.prog 162 #[.int .i64 w,.agg #[.bool n1,.int .i64 K1,.int .i64 X1,.int .u64 S1],.agg #[.bool n2,.int .i64 K2,.int .i64 X2,.int .u64 S2]] W fun r W' => r = .returned (.int .u64 V) ∧ Below W.heap.size W W':=by
 go_enter Tryz.func162,Tryz.ntmps162
 go_wp2_with fail
 have HB:=ab (aq W (.cells #[.bool n1,.int .i64 K1,.int .i64 X1,.int .u64 S1] 37) (.cells #[.bool n2,.int .i64 K2,.int .i64 X2,.int .u64 S2] 37))
 refine cg0 HC HB fun w1 HB => ?_
 go_wp2_with fail
 go_ret
 exact ⟨rfl,aa HB⟩
theorem ag1 {w K1 X1 S1 K2 X2 S2 V : Int} {n1 n2 : Bool} (W : World) (hk : (K1 != K2) = false) (k0 : (K1 == 0) = false) (k2 : (K1 == 2) = false) (k1 : (K1 == 1) = true) (HC : Ct 239 #[.int .i64 w,.agg #[.bool n1,.int .i64 K1,.int .i64 X1,.int .u64 S1],.agg #[.bool n2,.int .i64 K2,.int .i64 X2,.int .u64 S2]] (.int .u64 V)) :
 Calls Tryz.prog 162 #[.int .i64 w,.agg #[.bool n1,.int .i64 K1,.int .i64 X1,.int .u64 S1],.agg #[.bool n2,.int .i64 K2,.int .i64 X2,.int .u64 S2]] W fun r W' => r = .returned (.int .u64 V) ∧ Below W.heap.size W W':=by
 go_enter Tryz.func162,Tryz.ntmps162
 go_wp2_with fail
 have HB:=ab (aq W (.cells #[.bool n1,.int .i64 K1,.int .i64 X1,.int .u64 S1] 37) (.cells #[.bool n2,.int .i64 K2,.int .i64 X2,.int .u64 S2] 37))
 refine cg0 HC HB fun w1 HB => ?_
 go_wp2_with fail
 go_ret
 exact ⟨rfl,aa HB⟩
theorem ag2 {w K1 X1 S1 K2 X2 S2 V : Int} {n1 n2 : Bool} (W : World) (hk : (K1 != K2) = false) (k0 : (K1 == 0) = false) (k2 : (K1 == 2) = false) (k1 : (K1 == 1) = false) (HC : Ct 156 #[.int .i64 w] (.int .u64 V)) :
 Calls Tryz.prog 162 #[.int .i64 w,.agg #[.bool n1,.int .i64 K1,.int .i64 X1,.int .u64 S1],.agg #[.bool n2,.int .i64 K2,.int .i64 X2,.int .u64 S2]] W fun r W' => r = .returned (.int .u64 V) ∧ Below W.heap.size W W':=by
 go_enter Tryz.func162,Tryz.ntmps162
 go_wp2_with fail
 have HB:=ab (aq W (.cells #[.bool n1,.int .i64 K1,.int .i64 X1,.int .u64 S1] 37) (.cells #[.bool n2,.int .i64 K2,.int .i64 X2,.int .u64 S2] 37))
 refine cg0 HC HB fun w1 HB => ?_
 go_wp2_with fail
 go_ret
 exact ⟨rfl,aa HB⟩
theorem pp {w x y K1 X1 S1 K2 X2 S2 V : Int} {n1 n2 : Bool} (W : World) (HO1 : Ct 15 #[.int .i64 w,.int .u64 x] (.agg #[.bool n1,.int .i64 K1,.int .i64 X1,.int .u64 S1])) (HO2 : Ct 15 #[.int .i64 w,.int .u64 y] (.agg #[.bool n2,.int .i64 K2,.int .i64 X2,.int .u64 S2])) (HP : Ct 162 #[.int .i64 w,.agg #[.bool n1,.int .i64 K1,.int .i64 X1,.int .u64 S1],.agg #[.bool (!n2),.int .i64 K2,.int .i64 X2,.int .u64 S2]] (.int .u64 V)) :
 Calls Tryz.prog 86 #[.int .i64 w,.int .u64 x,.int .u64 y] W fun r W' => r = .returned (.int .u64 V) ∧ Below W.heap.size W W':=by
 go_enter Tryz.func86,Tryz.ntmps86
 go_wp2_with fail
 refine cg1 HO2 fun w1 hb => ?_
 go_wp2_with fail
 have HB:=ab ((ad hb (.cells #[.bool (!n2),.int .i64 K2,.int .i64 X2,.int .u64 S2] 37)).drew)
 clear hb
 have HA:=ab ((ak w1 (.bool (!n2)) (.int .i64 K2) (.int .i64 X2) (.int .u64 S2) 37).below ((Below.refl _ _).drew))
 refine wp_region_held_drew (S:=fun w' => w'.cell? ⟨w1.heap.size,0,none⟩ = some (.bool (!n2)) ∧ w'.cell? ⟨w1.heap.size,1,none⟩ = some (.int .i64 K2) ∧ w'.cell? ⟨w1.heap.size,2,none⟩ = some (.int .i64 X2) ∧ w'.cell? ⟨w1.heap.size,3,none⟩ = some (.int .u64 S2)) (by kernel_rfl) ?_ (fun hHeld => ?_)
 ·(try dsimp only)
  exact aa HA
 refine aC 7 (by kernel_rfl) ?_
 refine tkA 0 15 1 ?_
 refine tkA 1 16 3 ?_
 refine tkA 2 17 7 ?_
 refine tkA 4 19 23 ?_
 refine rdA 3 31 (fun Kk hKk => ?_)
 go_simp
 refine cg1 HO1 fun w2 hbl => ?_
 have HB:=bt HB hbl
 have HA:=ab ((aa HA).below hbl)
 clear hbl
 (try go_wp2_with fail)
 refine oA hKk (aa HA) fun hHeld => ?_
 clear hKk Kk
 refine rdA 5 63 (fun Kk hKk => ?_)
 go_simp
 refine cg1 HP fun w2 hbl => ?_
 have HB:=bt HB hbl
 have HA:=ab ((aa HA).below hbl)
 clear hbl
 (try go_wp2_with fail)
 refine oA hKk (aa HA) fun hHeld => ?_
 clear hKk Kk
 refine tkA 6 6 127 ?_
 refine wpAnyH_done (by kernel_rfl) ?_ _
 go_wp2
 go_ret
 exact ⟨rfl,aa HB⟩
theorem pq {w x y K1 X1 S1 K2 X2 S2 V : Int} {n1 n2 : Bool} (W : World) (HO1 : Ct 15 #[.int .i64 w,.int .u64 x] (.agg #[.bool n1,.int .i64 K1,.int .i64 X1,.int .u64 S1])) (HO2 : Ct 15 #[.int .i64 w,.int .u64 y] (.agg #[.bool n2,.int .i64 K2,.int .i64 X2,.int .u64 S2])) (HP : Ct 162 #[.int .i64 w,.agg #[.bool n1,.int .i64 K1,.int .i64 X1,.int .u64 S1],.agg #[.bool n2,.int .i64 K2,.int .i64 X2,.int .u64 S2]] (.int .u64 V)) :
 Calls Tryz.prog 85 #[.int .i64 w,.int .u64 x,.int .u64 y] W fun r W' => r = .returned (.int .u64 V) ∧ Below W.heap.size W W':=by
 go_enter Tryz.func85,Tryz.ntmps85
 go_wp2_with fail
 refine cg1 HO1 fun w1 hb1 => ?_
 go_wp2_with fail
 refine cg1 HO2 fun w2 hb2 => ?_
 go_wp2_with fail
 refine cg1 HP fun w3 hb3 => ?_
 go_wp2_with fail
 go_ret
 exact ⟨rfl,ac (ac hb1 hb2) hb3⟩
set_option maxHeartbeats 2000000
open Go.Proofs.YtpbgpdmffejdgaaGreatDoor.W
theorem pt {k K1 X1 S1 K2 X2 S2 : Int} {n1 n2 : Bool} (W : World) (h : (K1 == k) = true) :
 Calls Tryz.prog 240 #[.int .i64 k,.agg #[.bool n1,.int .i64 K1,.int .i64 X1,.int .u64 S1],.agg #[.bool n2,.int .i64 K2,.int .i64 X2,.int .u64 S2]] W fun r W' => r = .returned (.bool true) ∧ Below W.heap.size W W':=by
 go_enter Tryz.func240,Tryz.ntmps240
 go_wp2_with fail
 go_ret
 exact ⟨rfl,aq W (.cells #[.bool n1,.int .i64 K1,.int .i64 X1,.int .u64 S1] 37) (.cells #[.bool n2,.int .i64 K2,.int .i64 X2,.int .u64 S2] 37)⟩
theorem lW {k K1 X1 S1 K2 X2 S2 : Int} {n1 n2 : Bool} (W : World) (h : (K1 == k) = false) :
 Calls Tryz.prog 240 #[.int .i64 k,.agg #[.bool n1,.int .i64 K1,.int .i64 X1,.int .u64 S1],.agg #[.bool n2,.int .i64 K2,.int .i64 X2,.int .u64 S2]] W fun r W' => r = .returned (.bool (K2 == k)) ∧ Below W.heap.size W W':=by
 go_enter Tryz.func240,Tryz.ntmps240
 go_wp2_with fail
 go_ret
 exact ⟨rfl,aq W (.cells #[.bool n1,.int .i64 K1,.int .i64 X1,.int .u64 S1] 37) (.cells #[.bool n2,.int .i64 K2,.int .i64 X2,.int .u64 S2] 37)⟩
theorem vU {w K1 X1 S1 K2 X2 S2 V : Int} {n1 n2 : Bool} (W : World) (H3 : Ct 240 #[.int .i64 3,.agg #[.bool n1,.int .i64 K1,.int .i64 X1,.int .u64 S1],.agg #[.bool n2,.int .i64 K2,.int .i64 X2,.int .u64 S2]] (.bool true)) (HC : Ct 156 #[.int .i64 w] (.int .u64 V)) :
 Calls Tryz.prog 163 #[.int .i64 w,.agg #[.bool n1,.int .i64 K1,.int .i64 X1,.int .u64 S1],.agg #[.bool n2,.int .i64 K2,.int .i64 X2,.int .u64 S2]] W fun r W' => r = .returned (.int .u64 V) ∧ Below W.heap.size W W':=by
 go_enter Tryz.func163,Tryz.ntmps163
 go_wp2_with fail
 have HB:=ab (aq W (.cells #[.bool n1,.int .i64 K1,.int .i64 X1,.int .u64 S1] 37) (.cells #[.bool n2,.int .i64 K2,.int .i64 X2,.int .u64 S2] 37))
 have HA:=ab (bD W (.bool n1) (.int .i64 K1) (.int .i64 X1) (.int .u64 S1) 37 (.cells #[.bool n2,.int .i64 K2,.int .i64 X2,.int .u64 S2] 37))
 have HA2:=ab (dD W (.cells #[.bool n1,.int .i64 K1,.int .i64 X1,.int .u64 S1] 37) (.bool n2) (.int .i64 K2) (.int .i64 X2) (.int .u64 S2) 37)
 refine cg1 H3 fun w1 hbl => ?_
 have HB:=bt HB hbl
 have HA:=ab ((aa HA).below hbl)
 have HA2:=ab ((aa HA2).below hbl)
 clear hbl
 obtain ⟨c0,c1,c2,c3⟩:=aa HA
 obtain ⟨d0,d1,d2,d3⟩:=aa HA2
 go_wp2_with fail
 clear c0 c1 c2 c3 d0 d1 d2 d3
 refine cg1 HC fun w2 hbl => ?_
 have HB:=bt HB hbl
 have HA:=ab ((aa HA).below hbl)
 have HA2:=ab ((aa HA2).below hbl)
 clear hbl
 obtain ⟨c0,c1,c2,c3⟩:=aa HA
 obtain ⟨d0,d1,d2,d3⟩:=aa HA2
 go_wp2_with fail
 go_ret
 exact ⟨rfl,aa HB⟩
theorem aav {w K1 X1 S1 K2 X2 S2 V : Int} {n1 n2 : Bool} (W : World) (H3 : Ct 240 #[.int .i64 3,.agg #[.bool n1,.int .i64 K1,.int .i64 X1,.int .u64 S1],.agg #[.bool n2,.int .i64 K2,.int .i64 X2,.int .u64 S2]] (.bool false)) (H2 : Ct 240 #[.int .i64 2,.agg #[.bool n1,.int .i64 K1,.int .i64 X1,.int .u64 S1],.agg #[.bool n2,.int .i64 K2,.int .i64 X2,.int .u64 S2]] (.bool true)) (H0 : Ct 240 #[.int .i64 0,.agg #[.bool n1,.int .i64 K1,.int .i64 X1,.int .u64 S1],.agg #[.bool n2,.int .i64 K2,.int .i64 X2,.int .u64 S2]] (.bool true)) (HC : Ct 156 #[.int .i64 w] (.int .u64 V)) :
 Calls Tryz.prog 163 #[.int .i64 w,.agg #[.bool n1,.int .i64 K1,.int .i64 X1,.int .u64 S1],.agg #[.bool n2,.int .i64 K2,.int .i64 X2,.int .u64 S2]] W fun r W' => r = .returned (.int .u64 V) ∧ Below W.heap.size W W':=by
 go_enter Tryz.func163,Tryz.ntmps163
 go_wp2_with fail
 have HB:=ab (aq W (.cells #[.bool n1,.int .i64 K1,.int .i64 X1,.int .u64 S1] 37) (.cells #[.bool n2,.int .i64 K2,.int .i64 X2,.int .u64 S2] 37))
 have HA:=ab (bD W (.bool n1) (.int .i64 K1) (.int .i64 X1) (.int .u64 S1) 37 (.cells #[.bool n2,.int .i64 K2,.int .i64 X2,.int .u64 S2] 37))
 have HA2:=ab (dD W (.cells #[.bool n1,.int .i64 K1,.int .i64 X1,.int .u64 S1] 37) (.bool n2) (.int .i64 K2) (.int .i64 X2) (.int .u64 S2) 37)
 refine cg1 H3 fun w1 hbl => ?_
 have HB:=bt HB hbl
 have HA:=ab ((aa HA).below hbl)
 have HA2:=ab ((aa HA2).below hbl)
 clear hbl
 obtain ⟨c0,c1,c2,c3⟩:=aa HA
 obtain ⟨d0,d1,d2,d3⟩:=aa HA2
 go_wp2_with fail
 clear c0 c1 c2 c3 d0 d1 d2 d3
 refine cg1 H2 fun w2 hbl => ?_
 have HB:=bt HB hbl
 have HA:=ab ((aa HA).below hbl)
 have HA2:=ab ((aa HA2).below hbl)
 clear hbl
 obtain ⟨c0,c1,c2,c3⟩:=aa HA
 obtain ⟨d0,d1,d2,d3⟩:=aa HA2
 go_wp2_with fail
 clear c0 c1 c2 c3 d0 d1 d2 d3
 refine cg1 H0 fun w3 hbl => ?_
 have HB:=bt HB hbl
 have HA:=ab ((aa HA).below hbl)
 have HA2:=ab ((aa HA2).below hbl)
 clear hbl
 obtain ⟨c0,c1,c2,c3⟩:=aa HA
 obtain ⟨d0,d1,d2,d3⟩:=aa HA2
 go_wp2_with fail
 clear c0 c1 c2 c3 d0 d1 d2 d3
 refine cg1 HC fun w4 hbl => ?_
 have HB:=bt HB hbl
 have HA:=ab ((aa HA).below hbl)
 have HA2:=ab ((aa HA2).below hbl)
 clear hbl
 obtain ⟨c0,c1,c2,c3⟩:=aa HA
 obtain ⟨d0,d1,d2,d3⟩:=aa HA2
 go_wp2_with fail
 go_ret
 exact ⟨rfl,aa HB⟩
theorem vV {w K1 X1 S1 K2 X2 S2 V : Int} {n1 n2 : Bool} (W : World) (H3 : Ct 240 #[.int .i64 3,.agg #[.bool n1,.int .i64 K1,.int .i64 X1,.int .u64 S1],.agg #[.bool n2,.int .i64 K2,.int .i64 X2,.int .u64 S2]] (.bool false)) (H2 : Ct 240 #[.int .i64 2,.agg #[.bool n1,.int .i64 K1,.int .i64 X1,.int .u64 S1],.agg #[.bool n2,.int .i64 K2,.int .i64 X2,.int .u64 S2]] (.bool true)) (H0 : Ct 240 #[.int .i64 0,.agg #[.bool n1,.int .i64 K1,.int .i64 X1,.int .u64 S1],.agg #[.bool n2,.int .i64 K2,.int .i64 X2,.int .u64 S2]] (.bool false)) (HC : Ct 157 #[.int .i64 w,.bool (n1 != n2)] (.int .u64 V)) :
 Calls Tryz.prog 163 #[.int .i64 w,.agg #[.bool n1,.int .i64 K1,.int .i64 X1,.int .u64 S1],.agg #[.bool n2,.int .i64 K2,.int .i64 X2,.int .u64 S2]] W fun r W' => r = .returned (.int .u64 V) ∧ Below W.heap.size W W':=by
 go_enter Tryz.func163,Tryz.ntmps163
 go_wp2_with fail
 have HB:=ab (aq W (.cells #[.bool n1,.int .i64 K1,.int .i64 X1,.int .u64 S1] 37) (.cells #[.bool n2,.int .i64 K2,.int .i64 X2,.int .u64 S2] 37))
 have HA:=ab (bD W (.bool n1) (.int .i64 K1) (.int .i64 X1) (.int .u64 S1) 37 (.cells #[.bool n2,.int .i64 K2,.int .i64 X2,.int .u64 S2] 37))
 have HA2:=ab (dD W (.cells #[.bool n1,.int .i64 K1,.int .i64 X1,.int .u64 S1] 37) (.bool n2) (.int .i64 K2) (.int .i64 X2) (.int .u64 S2) 37)
 refine cg1 H3 fun w1 hbl => ?_
 have HB:=bt HB hbl
 have HA:=ab ((aa HA).below hbl)
 have HA2:=ab ((aa HA2).below hbl)
 clear hbl
 obtain ⟨c0,c1,c2,c3⟩:=aa HA
 obtain ⟨d0,d1,d2,d3⟩:=aa HA2
 go_wp2_with fail
 clear c0 c1 c2 c3 d0 d1 d2 d3
 refine cg1 H2 fun w2 hbl => ?_
 have HB:=bt HB hbl
 have HA:=ab ((aa HA).below hbl)
 have HA2:=ab ((aa HA2).below hbl)
 clear hbl
 obtain ⟨c0,c1,c2,c3⟩:=aa HA
 obtain ⟨d0,d1,d2,d3⟩:=aa HA2
 go_wp2_with fail
 clear c0 c1 c2 c3 d0 d1 d2 d3
 refine cg1 H0 fun w3 hbl => ?_
 have HB:=bt HB hbl
 have HA:=ab ((aa HA).below hbl)
 have HA2:=ab ((aa HA2).below hbl)
 clear hbl
 obtain ⟨c0,c1,c2,c3⟩:=aa HA
 obtain ⟨d0,d1,d2,d3⟩:=aa HA2
 go_wp2_with fail
 clear c0 c1 c2 c3 d0 d1 d2 d3
 refine cg1 HC fun w4 hbl => ?_
 have HB:=bt HB hbl
 have HA:=ab ((aa HA).below hbl)
 have HA2:=ab ((aa HA2).below hbl)
 clear hbl
 obtain ⟨c0,c1,c2,c3⟩:=aa HA
 obtain ⟨d0,d1,d2,d3⟩:=aa HA2
 go_wp2_with fail
 go_ret
 exact ⟨rfl,aa HB⟩
theorem lX {w K1 X1 S1 K2 X2 S2 V : Int} {n1 n2 : Bool} (W : World) (H3 : Ct 240 #[.int .i64 3,.agg #[.bool n1,.int .i64 K1,.int .i64 X1,.int .u64 S1],.agg #[.bool n2,.int .i64 K2,.int .i64 X2,.int .u64 S2]] (.bool false)) (H2 : Ct 240 #[.int .i64 2,.agg #[.bool n1,.int .i64 K1,.int .i64 X1,.int .u64 S1],.agg #[.bool n2,.int .i64 K2,.int .i64 X2,.int .u64 S2]] (.bool false)) (H0 : Ct 240 #[.int .i64 0,.agg #[.bool n1,.int .i64 K1,.int .i64 X1,.int .u64 S1],.agg #[.bool n2,.int .i64 K2,.int .i64 X2,.int .u64 S2]] (.bool true)) (HC : Ct 155 #[.int .i64 w,.bool (n1 != n2)] (.int .u64 V)) :
 Calls Tryz.prog 163 #[.int .i64 w,.agg #[.bool n1,.int .i64 K1,.int .i64 X1,.int .u64 S1],.agg #[.bool n2,.int .i64 K2,.int .i64 X2,.int .u64 S2]] W fun r W' => r = .returned (.int .u64 V) ∧ Below W.heap.size W W':=by
 go_enter Tryz.func163,Tryz.ntmps163
 go_wp2_with fail
 have HB:=ab (aq W (.cells #[.bool n1,.int .i64 K1,.int .i64 X1,.int .u64 S1] 37) (.cells #[.bool n2,.int .i64 K2,.int .i64 X2,.int .u64 S2] 37))
 have HA:=ab (bD W (.bool n1) (.int .i64 K1) (.int .i64 X1) (.int .u64 S1) 37 (.cells #[.bool n2,.int .i64 K2,.int .i64 X2,.int .u64 S2] 37))
 have HA2:=ab (dD W (.cells #[.bool n1,.int .i64 K1,.int .i64 X1,.int .u64 S1] 37) (.bool n2) (.int .i64 K2) (.int .i64 X2) (.int .u64 S2) 37)
 refine cg1 H3 fun w1 hbl => ?_
 have HB:=bt HB hbl
 have HA:=ab ((aa HA).below hbl)
 have HA2:=ab ((aa HA2).below hbl)
 clear hbl
 obtain ⟨c0,c1,c2,c3⟩:=aa HA
 obtain ⟨d0,d1,d2,d3⟩:=aa HA2
 go_wp2_with fail
 clear c0 c1 c2 c3 d0 d1 d2 d3
 refine cg1 H2 fun w2 hbl => ?_
 have HB:=bt HB hbl
 have HA:=ab ((aa HA).below hbl)
 have HA2:=ab ((aa HA2).below hbl)
 clear hbl
 obtain ⟨c0,c1,c2,c3⟩:=aa HA
 obtain ⟨d0,d1,d2,d3⟩:=aa HA2
 go_wp2_with fail
 clear c0 c1 c2 c3 d0 d1 d2 d3
 refine cg1 H0 fun w3 hbl => ?_
 have HB:=bt HB hbl
 have HA:=ab ((aa HA).below hbl)
 have HA2:=ab ((aa HA2).below hbl)
 clear hbl
 obtain ⟨c0,c1,c2,c3⟩:=aa HA
 obtain ⟨d0,d1,d2,d3⟩:=aa HA2
 go_wp2_with fail
 clear c0 c1 c2 c3 d0 d1 d2 d3
 refine cg1 HC fun w4 hbl => ?_
 have HB:=bt HB hbl
 have HA:=ab ((aa HA).below hbl)
 have HA2:=ab ((aa HA2).below hbl)
 clear hbl
 obtain ⟨c0,c1,c2,c3⟩:=aa HA
 obtain ⟨d0,d1,d2,d3⟩:=aa HA2
 go_wp2_with fail
 go_ret
 exact ⟨rfl,aa HB⟩
theorem vW {w K1 X1 S1 K2 X2 S2 E h l V : Int} {n1 n2 : Bool} (W : World) (H3 : Ct 240 #[.int .i64 3,.agg #[.bool n1,.int .i64 K1,.int .i64 X1,.int .u64 S1],.agg #[.bool n2,.int .i64 K2,.int .i64 X2,.int .u64 S2]] (.bool false)) (H2 : Ct 240 #[.int .i64 2,.agg #[.bool n1,.int .i64 K1,.int .i64 X1,.int .u64 S1],.agg #[.bool n2,.int .i64 K2,.int .i64 X2,.int .u64 S2]] (.bool false)) (H0 : Ct 240 #[.int .i64 0,.agg #[.bool n1,.int .i64 K1,.int .i64 X1,.int .u64 S1],.agg #[.bool n2,.int .i64 K2,.int .i64 X2,.int .u64 S2]] (.bool false)) (kx : IntKind.i64.wrap (X1 + X2) = E) (HM : Ct 236 #[.int .u64 S1,.int .u64 S2] (.agg #[.int .u64 h,.int .u64 l])) (HP : Ct 160 #[.int .i64 w,.bool (n1 != n2),.agg #[.int .u64 h,.int .u64 l],.int .i64 E,.bool false] (.int .u64 V)) :
 Calls Tryz.prog 163 #[.int .i64 w,.agg #[.bool n1,.int .i64 K1,.int .i64 X1,.int .u64 S1],.agg #[.bool n2,.int .i64 K2,.int .i64 X2,.int .u64 S2]] W fun r W' => r = .returned (.int .u64 V) ∧ Below W.heap.size W W':=by
 go_enter Tryz.func163,Tryz.ntmps163
 go_wp2_with fail
 have HB:=ab (aq W (.cells #[.bool n1,.int .i64 K1,.int .i64 X1,.int .u64 S1] 37) (.cells #[.bool n2,.int .i64 K2,.int .i64 X2,.int .u64 S2] 37))
 have HA:=ab (bD W (.bool n1) (.int .i64 K1) (.int .i64 X1) (.int .u64 S1) 37 (.cells #[.bool n2,.int .i64 K2,.int .i64 X2,.int .u64 S2] 37))
 have HA2:=ab (dD W (.cells #[.bool n1,.int .i64 K1,.int .i64 X1,.int .u64 S1] 37) (.bool n2) (.int .i64 K2) (.int .i64 X2) (.int .u64 S2) 37)
 refine cg1 H3 fun w1 hbl => ?_
 have HB:=bt HB hbl
 have HA:=ab ((aa HA).below hbl)
 have HA2:=ab ((aa HA2).below hbl)
 clear hbl
 obtain ⟨c0,c1,c2,c3⟩:=aa HA
 obtain ⟨d0,d1,d2,d3⟩:=aa HA2
 go_wp2_with fail
 clear c0 c1 c2 c3 d0 d1 d2 d3
 refine cg1 H2 fun w2 hbl => ?_
 have HB:=bt HB hbl
 have HA:=ab ((aa HA).below hbl)
 have HA2:=ab ((aa HA2).below hbl)
 clear hbl
 obtain ⟨c0,c1,c2,c3⟩:=aa HA
 obtain ⟨d0,d1,d2,d3⟩:=aa HA2
 go_wp2_with fail
 clear c0 c1 c2 c3 d0 d1 d2 d3
 refine cg1 H0 fun w3 hbl => ?_
 have HB:=bt HB hbl
 have HA:=ab ((aa HA).below hbl)
 have HA2:=ab ((aa HA2).below hbl)
 clear hbl
 obtain ⟨c0,c1,c2,c3⟩:=aa HA
 obtain ⟨d0,d1,d2,d3⟩:=aa HA2
 go_wp2_with fail
 clear c0 c1 c2 c3 d0 d1 d2 d3
 have HB:=ab ((aa HB).drew)
 have HA:=ab ((aa HA).below ((Below.refl _ _).drew))
 have HA2:=ab ((aa HA2).below ((Below.refl _ _).drew))
 refine wp_region_held_drew (S:=fun w' => (w'.cell? ⟨W.heap.size,0,none⟩ = some (.bool n1) ∧ w'.cell? ⟨W.heap.size,1,none⟩ = some (.int .i64 K1) ∧ w'.cell? ⟨W.heap.size,2,none⟩ = some (.int .i64 X1) ∧ w'.cell? ⟨W.heap.size,3,none⟩ = some (.int .u64 S1)) ∧ (w'.cell? ⟨W.heap.size + 1,0,none⟩ = some (.bool n2) ∧ w'.cell? ⟨W.heap.size + 1,1,none⟩ = some (.int .i64 K2) ∧ w'.cell? ⟨W.heap.size + 1,2,none⟩ = some (.int .i64 X2) ∧ w'.cell? ⟨W.heap.size + 1,3,none⟩ = some (.int .u64 S2))) (by kernel_rfl) ?_ (fun hHeld => ?_)
 ·(try dsimp only)
  exact ⟨aa HA,aa HA2⟩
 refine aC 14 (by kernel_rfl) ?_
 refine tkA 0 38 1 ?_
 refine tkA 1 39 3 ?_
 refine tkA 2 40 7 ?_
 refine tkA 3 41 15 ?_
 refine tkA 4 42 31 ?_
 refine tkA 5 43 63 ?_
 refine tkA 7 45 191 ?_
 refine tkA 8 46 447 ?_
 refine tkA 9 47 959 ?_
 refine tkA 10 48 1983 ?_
 refine tkA 11 49 4031 ?_
 refine rdA 6 4095 (fun Kk hKk => ?_)
 go_simp
 refine cg1 HM fun w5 hbl => ?_
 have HB:=bt HB hbl
 have HA:=ab ((aa HA).below hbl)
 have HA2:=ab ((aa HA2).below hbl)
 clear hbl
 (try go_wp2_with fail)
 refine oA hKk (⟨aa HA,aa HA2⟩) fun hHeld => ?_
 clear hKk Kk
 refine rdA 12 8191 (fun Kk hKk => ?_)
 go_simp
 refine cg1 HP fun w6 hbl => ?_
 have HB:=bt HB hbl
 have HA:=ab ((aa HA).below hbl)
 have HA2:=ab ((aa HA2).below hbl)
 clear hbl
 (try go_wp2_with fail)
 refine oA hKk (⟨aa HA,aa HA2⟩) fun hHeld => ?_
 clear hKk Kk
 refine tkA 13 6 16383 ?_
 refine wpAnyH_done (by kernel_rfl) ?_ _
 go_wp2
 go_ret
 exact ⟨rfl,aa HB⟩
theorem ajz {w x y K1 X1 S1 K2 X2 S2 V : Int} {n1 n2 : Bool} (W : World) (HO1 : Ct 15 #[.int .i64 w,.int .u64 x] (.agg #[.bool n1,.int .i64 K1,.int .i64 X1,.int .u64 S1])) (HO2 : Ct 15 #[.int .i64 w,.int .u64 y] (.agg #[.bool n2,.int .i64 K2,.int .i64 X2,.int .u64 S2])) (HP : Ct 163 #[.int .i64 w,.agg #[.bool n1,.int .i64 K1,.int .i64 X1,.int .u64 S1],.agg #[.bool n2,.int .i64 K2,.int .i64 X2,.int .u64 S2]] (.int .u64 V)) :
 Calls Tryz.prog 87 #[.int .i64 w,.int .u64 x,.int .u64 y] W fun r W' => r = .returned (.int .u64 V) ∧ Below W.heap.size W W':=by
 go_enter Tryz.func87,Tryz.ntmps87
 go_wp2_with fail
 refine cg1 HO1 fun w1 hb1 => ?_
 go_wp2_with fail
 refine cg1 HO2 fun w2 hb2 => ?_
 go_wp2_with fail
 refine cg1 HP fun w3 hb3 => ?_
 go_wp2_with fail
 go_ret
 exact ⟨rfl,ac (ac hb1 hb2) hb3⟩
end Go.Proofs.YtpbgpdmffejdgaaGreatDoor
