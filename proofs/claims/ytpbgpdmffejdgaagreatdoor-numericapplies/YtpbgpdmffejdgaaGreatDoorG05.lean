/- MEnds, MNuA. -/
import Derived.Test.YtpbgpdmffejdgaaGreatDoorG01
namespace Go.Proofs.YtpbgpdmffejdgaaGreatDoor
set_option maxHeartbeats 2000000
open Go.RowKit
def put (f P Q : Int) (n : Bool) (x y : Int) : Int:=if f = 0 then 0 else x * P + y + (if n then P * Q else 0)
def sg (P Q x : Int) : Bool:=x / (P * Q) % 2 == 1
theorem kR {w e f P Q b : Int} (x : Int) (h : Wd w e f P Q b) (W : World) (h0 : 0 ≤ x) (h1 : x < 18446744073709551616) :
 Calls Tryz.prog 46 #[.int .i64 w,.int .u64 x] W fun r W' => r = .returned (.agg #[.int .i64 e,.int .i64 f,.bool (sg P Q x),.int .u64 (x / P % Q),.int .u64 (x % P)]) ∧ Below W.heap.size W W':=by
 unfold sg
 rcases h with ⟨rfl,rfl,rfl,rfl,rfl,rfl⟩ | ⟨rfl,rfl,rfl,rfl,rfl,rfl⟩ | ⟨hw,rfl,rfl,rfl,rfl,rfl⟩
 ·exact adh x W h0 h1
 ·exact adi x W h0 h1
 ·rw [Int.emod_one,Int.emod_one,Int.mul_one,Int.ediv_one]
  exact adj w x W h0 h1 hw
theorem eP {e f P Q b : Int} (n : Bool) (x y : Int) (h : Sz e f P Q b) (W : World) (x0 : 0 ≤ x) (x1 : x < Q) (y0 : 0 ≤ y) (y1 : y < P) :
 Calls Tryz.prog 54 #[.agg #[.int .i64 e,.int .i64 f,.bool n,.int .u64 x,.int .u64 y]] W fun r W' => r = .returned (.int .u64 (put f P Q n x y)) ∧ Below W.heap.size W W':=by
 unfold put
 rcases h with ⟨rfl,rfl,rfl,rfl,rfl⟩ | ⟨rfl,rfl,rfl,rfl,rfl⟩ | ⟨rfl,rfl,rfl,rfl,rfl⟩
 ·cases n
  ·simpa using xL x y W x0 x1 y0 y1
  ·simpa using xM x y W x0 x1 y0 y1
 ·cases n
  ·simpa using xN x y W x0 x1 y0 y1
  ·simpa using xO x y W x0 x1 y0 y1
 ·simpa using adg n x y W
theorem Sz.pos {e f P Q b : Int} (h : Sz e f P Q b) : 1 ≤ P ∧ P ≤ 4503599627370496 ∧ 1 ≤ Q ∧ Q ≤ 2048:=by rcases h with h | h | h <;> omega
theorem cJ {Q : Int} (z : Int) (h : 1 ≤ Q) : 0 ≤ z % Q ∧ z % Q < Q:=⟨Int.emod_nonneg _ (by omega),Int.emod_lt_of_pos _ (by omega)⟩
def aU (f P Q x : Int) : Int:=if f = 0 then 0 else x % (2 * (P * Q))
theorem eD {e f P Q b : Int} (h : Sz e f P Q b) (x : Int) : put f P Q (sg P Q x) (x / P % Q) (x % P) = aU f P Q x:=by
 unfold put aU sg
 rcases h with ⟨rfl,rfl,rfl,rfl,rfl⟩ | ⟨rfl,rfl,rfl,rfl,rfl⟩ | ⟨rfl,rfl,rfl,rfl,rfl⟩
 ·show (if (23 : Int) = 0 then (0 : Int) else x / 8388608 % 256 * 8388608 + x % 8388608 + (if (x / 2147483648 % 2 == 1) = true then 2147483648 else 0)) = if (23 : Int) = 0 then 0 else x % 4294967296
  rw [if_neg (show ¬ (23 : Int) = 0 by decide),if_neg (show ¬ (23 : Int) = 0 by decide)]
  by_cases hn : x / 2147483648 % 2 = 1
  ·rw [if_pos (by rw [hn]; rfl)]; omega
  ·rw [if_neg (by simp [hn])]; omega
 ·show (if (52 : Int) = 0 then (0 : Int) else x / 4503599627370496 % 2048 * 4503599627370496 + x % 4503599627370496 + (if (x / 9223372036854775808 % 2 == 1) = true then 9223372036854775808 else 0)) = if (52 : Int) = 0 then 0 else x % 18446744073709551616
  rw [if_neg (show ¬ (52 : Int) = 0 by decide),if_neg (show ¬ (52 : Int) = 0 by decide)]
  by_cases hn : x / 9223372036854775808 % 2 = 1
  ·rw [if_pos (by rw [hn]; rfl)]; omega
  ·rw [if_neg (by simp [hn])]; omega
 ·rfl
theorem cw {w e f P Q b : Int} (x : Int) (h : Wd w e f P Q b) (W : World) (h0 : 0 ≤ x) (h1 : x < 18446744073709551616) :
 Calls Tryz.prog 17 #[.int .i64 w,.int .u64 x] W fun r W' => r = .returned (.int .u64 (aU f P Q x)) ∧ Below W.heap.size W W':=by
 obtain ⟨p1,p2,p3,p4⟩:=h.sz.pos
 have E:=cJ (x / P) p3
 have F:=cJ x p1
 have HT:=ab (fun W => kR x h W h0 h1)
 have HC:=ab (fun W => eP (sg P Q x) _ _ h.sz W E.1 E.2 F.1 F.2)
 have HE:=ab (eD h.sz x)
 clear h0 h1 p1 p2 p3 p4 E F h
 generalize sg P Q x = n at *
 generalize x / P % Q = y at *
 generalize x % P = z at *
 go_enter Tryz.func17,Tryz.ntmps17
 go_wp2_with fail
 refine cg1 HT fun w1 hb1 => ?_
 go_wp2_with fail
 refine cg1 HC fun w2 hb2 => ?_
 go_wp2_with fail
 go_ret
 exact ⟨fP (aa HE),ac hb1 hb2⟩
theorem kS {w e f P Q b : Int} (x : Int) (h : Wd w e f P Q b) (W : World) (h0 : 0 ≤ x) (h1 : x < 18446744073709551616) :
 Calls Tryz.prog 261 #[.int .i64 w,.int .u64 x] W fun r W' => r = .returned (.bool (x / P % Q == Q - 1 && x % P != 0)) ∧ Below W.heap.size W W':=by
 have HT:=ab (fun W => kR x h W h0 h1)
 have HC:=ab (fun W => eN (sg P Q x) (x / P % Q) (x % P) h.sz W)
 clear h0 h1 h
 generalize sg P Q x = n at *
 generalize x / P % Q = y at *
 generalize x % P = z at *
 go_enter Tryz.func261,Tryz.ntmps261
 go_wp2_with fail
 refine cg1 HT fun w1 hb1 => ?_
 go_wp2_with fail
 refine cg1 HC fun w2 hb2 => ?_
 go_wp2_with fail
 go_ret
 exact ⟨rfl,ac hb1 hb2⟩
theorem bE {w e f P Q b : Int} (n : Bool) (h : Wd w e f P Q b) (W : World) :
 Calls Tryz.prog 155 #[.int .i64 w,.bool n] W fun r W' => r = .returned (.int .u64 (put f P Q n 0 0)) ∧ Below W.heap.size W W':=by
 obtain ⟨p1,p2,p3,p4⟩:=h.sz.pos
 have HC:=ab (fun W => eP n 0 0 h.sz W (by omega) (by omega) (by omega) (by omega))
 go_enter Tryz.func155,Tryz.ntmps155
 go_wp2_with fail
 refine (aV h _).mono ?_
 rintro _ w1 ⟨rfl,hb1⟩
 go_wp2_with fail
 refine cg1 HC fun w2 hb2 => ?_
 go_wp2_with fail
 go_ret
 exact ⟨rfl,ac hb1 hb2⟩
theorem xJ {e f P Q b : Int} (h : Sz e f P Q b) : ∃ M,bits .andNot .u64 (Q - 1) 1 = M ∧ 0 ≤ M ∧ M < Q ∧ (f ≠ 0 → M = Q - 2):=by
 rcases h with ⟨rfl,rfl,rfl,rfl,rfl⟩ | ⟨rfl,rfl,rfl,rfl,rfl⟩ | ⟨rfl,rfl,rfl,rfl,rfl⟩
 ·exact ⟨254,by decide +kernel,by omega,by omega,by omega⟩
 ·exact ⟨2046,by decide +kernel,by omega,by omega,by omega⟩
 ·exact ⟨0,by decide +kernel,by omega,by omega,by omega⟩
theorem cx {w e f P Q b : Int} (h : Wd w e f P Q b) (W : World) :
 Calls Tryz.prog 156 #[.int .i64 w] W fun r W' => r = .returned (.int .u64 (put f P Q false (Q - 1) (P / 2))) ∧ Below W.heap.size W W':=by
 obtain ⟨p1,p2,p3,p4⟩:=h.sz.pos
 have hs:=h.sz
 have HC:=ab (fun W => eP false (Q - 1) (P / 2) h.sz W (by omega) (by omega) (by omega) (by omega))
 clear p1 p2 p3 p4
 go_enter Tryz.func156,Tryz.ntmps156
 go_wp2_with fail
 refine (aV h _).mono ?_
 rintro _ w1 ⟨rfl,hb1⟩
 have HB:=ab (ad hb1 (.cells #[.int .i64 e,.int .i64 f] 80)).drew
 go_wp2_with fail
 refine wp_region_held_drew (S:=fun w' => w'.cell? ⟨w1.heap.size,0,none⟩ = some (.int .i64 e) ∧ w'.cell? ⟨w1.heap.size,1,none⟩ = some (.int .i64 f)) (by kernel_rfl) ?_ (fun hHeld => ?_)
 ·(try dsimp only)
  simp [go_sem]
 refine aC 9 (by kernel_rfl) ?_
 refine tkA 0 6 1 ?_
 refine tkA 1 7 3 ?_
 refine tkA 3 9 11 ?_
 refine rdA 2 15 (fun Kk hKk => ?_)
 go_simp
 refine (ci hs _).mono ?_
 rintro _ w2 ⟨rfl,hbl⟩
 have HB:=bt HB hbl
 (try go_wp2_with fail)
 refine oA hKk (At2.below hHeld hbl) fun hHeld => ?_
 clear hKk Kk
 refine rdA 4 31 (fun Kk hKk => ?_)
 go_simp
 refine (cU hs _).mono ?_
 rintro _ w3 ⟨rfl,hbl⟩
 have HB:=bt HB hbl
 (try go_wp2_with fail)
 refine oA hKk (At2.below hHeld hbl) fun hHeld => ?_
 clear hKk Kk
 refine tkA 5 11 63 ?_
 refine tkA 6 12 127 ?_
 refine rdA 7 255 (fun Kk hKk => ?_)
 go_simp
 refine cg1 HC fun w4 hbl => ?_
 have HB:=bt HB hbl
 (try go_wp2_with fail)
 refine oA hKk (At2.below hHeld hbl) fun hHeld => ?_
 clear hKk Kk
 refine tkA 8 2 511 ?_
 refine wpAnyH_done (by kernel_rfl) ?_ _
 go_wp2_with fail
 go_ret
 exact ⟨rfl,aa HB⟩
theorem d5 {w e f P Q b : Int} (n : Bool) (h : Wd w e f P Q b) (W : World) :
 Calls Tryz.prog 157 #[.int .i64 w,.bool n] W fun r W' => r = .returned (.int .u64 (put f P Q n (Q - 1) 0)) ∧ Below W.heap.size W W':=by
 obtain ⟨p1,p2,p3,p4⟩:=h.sz.pos
 have hs:=h.sz
 have HC:=ab (fun W => eP n (Q - 1) 0 h.sz W (by omega) (by omega) (by omega) (by omega))
 clear p1 p2 p3 p4
 go_enter Tryz.func157,Tryz.ntmps157
 go_wp2_with fail
 refine (aV h _).mono ?_
 rintro _ w1 ⟨rfl,hb1⟩
 have HB:=ab (ad hb1 (.cells #[.int .i64 e,.int .i64 f] 80)).drew
 go_wp2_with fail
 refine wp_region_held_drew (S:=fun w' => w'.cell? ⟨w1.heap.size,0,none⟩ = some (.int .i64 e) ∧ w'.cell? ⟨w1.heap.size,1,none⟩ = some (.int .i64 f)) (by kernel_rfl) ?_ (fun hHeld => ?_)
 ·(try dsimp only)
  simp [go_sem]
 refine aC 7 (by kernel_rfl) ?_
 refine tkA 0 8 1 ?_
 refine tkA 1 9 3 ?_
 refine tkA 2 10 7 ?_
 refine rdA 3 15 (fun Kk hKk => ?_)
 go_simp
 refine (ci hs _).mono ?_
 rintro _ w2 ⟨rfl,hbl⟩
 have HB:=bt HB hbl
 (try go_wp2_with fail)
 refine oA hKk (At2.below hHeld hbl) fun hHeld => ?_
 clear hKk Kk
 refine tkA 4 12 31 ?_
 refine rdA 5 63 (fun Kk hKk => ?_)
 go_simp
 refine cg1 HC fun w4 hbl => ?_
 have HB:=bt HB hbl
 (try go_wp2_with fail)
 refine oA hKk (At2.below hHeld hbl) fun hHeld => ?_
 clear hKk Kk
 refine tkA 6 4 127 ?_
 refine wpAnyH_done (by kernel_rfl) ?_ _
 go_wp2_with fail
 go_ret
 exact ⟨rfl,aa HB⟩
theorem xK {w e f P Q b : Int} (n : Bool) (h : Wd w e f P Q b) (W : World) :
 Calls Tryz.prog 55 #[.int .i64 w,.bool n] W fun r W' => r = .returned (.int .u64 (put f P Q n (Q - 2) (P - 1))) ∧ Below W.heap.size W W':=by
 obtain ⟨p1,p2,p3,p4⟩:=h.sz.pos
 have hs:=h.sz
 obtain ⟨M,hM,m1,m2,m3⟩:=xJ hs
 have k1 : IntKind.u64.wrap (P - 1) = P - 1:=by rw [IntKind.wrap_u64]; omega
 have HC:=ab (fun W => eP n M (P - 1) h.sz W (by omega) (by omega) (by omega) (by omega))
 have HE : Hid (put f P Q n M (P - 1) = put f P Q n (Q - 2) (P - 1)):=by
  by_cases hf : f = 0
  ·simp [Hid,put,hf]
  ·rw [m3 hf]; exact rfl
 clear p1 p2 p3 p4 m1 m2 m3
 go_enter Tryz.func55,Tryz.ntmps55
 go_wp2_with fail
 refine (aV h _).mono ?_
 rintro _ w1 ⟨rfl,hb1⟩
 have HB:=ab (ad hb1 (.cells #[.int .i64 e,.int .i64 f] 80)).drew
 go_wp2_with fail
 refine wp_region_held_drew (S:=fun w' => w'.cell? ⟨w1.heap.size,0,none⟩ = some (.int .i64 e) ∧ w'.cell? ⟨w1.heap.size,1,none⟩ = some (.int .i64 f)) (by kernel_rfl) ?_ (fun hHeld => ?_)
 ·(try dsimp only)
  simp [go_sem]
 refine aC 11 (by kernel_rfl) ?_
 refine tkA 0 8 1 ?_
 refine tkA 1 9 3 ?_
 refine tkA 2 10 7 ?_
 refine tkA 5 13 39 ?_
 refine rdA 3 47 (fun Kk hKk => ?_)
 go_simp
 refine (ci hs _).mono ?_
 rintro _ w2 ⟨rfl,hbl⟩
 have HB:=bt HB hbl
 (try go_wp2_with fail)
 refine oA hKk (At2.below hHeld hbl) fun hHeld => ?_
 clear hKk Kk
 refine tkA 4 12 63 ?_
 refine rdA 6 127 (fun Kk hKk => ?_)
 go_simp
 refine (cU hs _).mono ?_
 rintro _ w3 ⟨rfl,hbl⟩
 have HB:=bt HB hbl
 (try go_wp2_with fail)
 refine oA hKk (At2.below hHeld hbl) fun hHeld => ?_
 clear hKk Kk
 refine tkA 7 15 255 ?_
 refine tkA 8 16 511 ?_
 refine rdA 9 1023 (fun Kk hKk => ?_)
 go_simp
 refine cg1 HC fun w4 hbl => ?_
 have HB:=bt HB hbl
 (try go_wp2_with fail)
 refine oA hKk (At2.below hHeld hbl) fun hHeld => ?_
 clear hKk Kk
 refine tkA 10 4 2047 ?_
 refine wpAnyH_done (by kernel_rfl) ?_ _
 go_wp2_with fail
 go_ret
 exact ⟨fP (aa HE),aa HB⟩
theorem dS {w e f P Q b : Int} (h : Wd w e f P Q b) (W : World) :
 Calls Tryz.prog 23 #[.int .i64 w] W fun r W' => r = .returned (.tuple #[.int .i64 e,.int .i64 f]) ∧ Below W.heap.size W W':=by
 go_enter Tryz.func23,Tryz.ntmps23
 go_wp2_with fail
 refine (aV h _).mono ?_
 rintro _ w1 ⟨rfl,hb1⟩
 have HB:=ab (ad hb1 (.cells #[.int .i64 e,.int .i64 f] 80)).drew
 go_wp2_with fail
 refine wp_region_held_drew (S:=fun w' => w'.cell? ⟨w1.heap.size,0,none⟩ = some (.int .i64 e) ∧ w'.cell? ⟨w1.heap.size,1,none⟩ = some (.int .i64 f)) (by kernel_rfl) ?_ (fun hHeld => ?_)
 ·(try dsimp only)
  simp [go_sem]
 refine aC 6 (by kernel_rfl) ?_
 refine tkA 0 7 1 ?_
 refine tkA 1 8 3 ?_
 refine tkA 2 9 7 ?_
 refine tkA 3 10 15 ?_
 refine tkA 4 2 31 ?_
 refine tkA 5 3 63 ?_
 refine wpAnyH_done (by kernel_rfl) ?_ _
 go_wp2_with fail
 go_ret2
 exact ⟨rfl,aa HB⟩
set_option maxHeartbeats 4000000
set_option maxRecDepth 100000
theorem ky (t : Bool) : Ct 34 #[.bool t] (.int .u64 (if t then 1 else 0)):=by
 refine ab (fun W => ?_)
 cases t
 ·go_enter Tryz.func34,Tryz.ntmps34
  go_wp2_with fail
  go_ret
  exact ⟨rfl,Below.refl _ _⟩
 ·go_enter Tryz.func34,Tryz.ntmps34
  go_wp2_with fail
  go_ret
  exact ⟨rfl,Below.refl _ _⟩
def wdT (t : Int) : Int:=if t = 127 ∨ t = 125 then 32 else 64
theorem adc {t : Int} (h : t = 127 ∨ t = 126 ∨ t = 125 ∨ t = 124) : Ct 33 #[.int .u8 t] (.int .i64 (wdT t)):=by
 refine ab (fun W => ?_)
 rcases h with rfl | rfl | rfl | rfl
 ·go_enter Tryz.func33,Tryz.ntmps33
  go_wp2_with fail
  go_ret
  exact ⟨rfl,Below.refl _ _⟩
 ·go_enter Tryz.func33,Tryz.ntmps33
  go_wp2_with fail
  go_ret
  exact ⟨rfl,Below.refl _ _⟩
 ·go_enter Tryz.func33,Tryz.ntmps33
  go_wp2_with fail
  go_ret
  exact ⟨rfl,Below.refl _ _⟩
 ·go_enter Tryz.func33,Tryz.ntmps33
  go_wp2_with fail
  go_ret
  exact ⟨rfl,Below.refl _ _⟩
theorem tq (f n o a : Int) : Ct 25 #[.agg #[.int .i64 f,.int .i64 n,.int .i64 0,.int .u8 o],.int .i64 a] (.agg #[.int .u8 o,.int .u8 127]):=by
 refine ab (fun W => ?_)
 go_enter Tryz.func25,Tryz.ntmps25
 go_wp2_with fail
 exact bodyPost_ret (v:=.agg #[.int .u8 o,.int .u8 127]) (by simp [results,Tryz.results25,go_sem]) rfl ⟨rfl,aq _ _ _⟩
theorem tr (f n o a : Int) : Ct 25 #[.agg #[.int .i64 f,.int .i64 n,.int .i64 1,.int .u8 o],.int .i64 a] (.agg #[.int .u8 o,.int .u8 127]):=by
 refine ab (fun W => ?_)
 go_enter Tryz.func25,Tryz.ntmps25
 go_wp2_with fail
 exact bodyPost_ret (v:=.agg #[.int .u8 o,.int .u8 127]) (by simp [results,Tryz.results25,go_sem]) rfl ⟨rfl,aq _ _ _⟩
theorem ts (f n o a : Int) : Ct 25 #[.agg #[.int .i64 f,.int .i64 n,.int .i64 2,.int .u8 o],.int .i64 a] (.agg #[.int .u8 o,.int .u8 o]):=by
 refine ab (fun W => ?_)
 go_enter Tryz.func25,Tryz.ntmps25
 go_wp2_with fail
 exact bodyPost_ret (v:=.agg #[.int .u8 o,.int .u8 o]) (by simp [results,Tryz.results25,go_sem]) rfl ⟨rfl,aq _ _ _⟩
theorem tv (f n o a : Int) : Ct 25 #[.agg #[.int .i64 f,.int .i64 n,.int .i64 3,.int .u8 o],.int .i64 a] (.agg #[.int .u8 o,.int .u8 o]):=by
 refine ab (fun W => ?_)
 go_enter Tryz.func25,Tryz.ntmps25
 go_wp2_with fail
 exact bodyPost_ret (v:=.agg #[.int .u8 o,.int .u8 o]) (by simp [results,Tryz.results25,go_sem]) rfl ⟨rfl,aq _ _ _⟩
theorem ade (f n o : Int) {x y : Int} {a : Nat} (h : a < 25) (hx : cL[a * 2]? = some (.int .u8 x)) (hy : cL[a * 2 + 1]? = some (.int .u8 y)) : Cm 25 #[.agg #[.int .i64 f,.int .i64 n,.int .i64 4,.int .u8 o],.int .i64 (a : Int)] (.agg #[.int .u8 x,.int .u8 y]):=by
 refine ab (fun W m => ?_)
 have c0:=fun o1 o2 => aw (aq W o1 o2) (ag (m.changed _ _ hx)) (m.changed _ _ hx)
 have c1:=fun o1 o2 => aw (aq W o1 o2) (ag (m.changed _ _ hy)) (m.changed _ _ hy)
 clear hx hy m
 go_enter Tryz.func25,Tryz.ntmps25
 go_wp2_with fail
 exact bodyPost_ret (v:=.agg #[.int .u8 x,.int .u8 y]) (by simp [results,Tryz.results25,go_sem]) rfl ⟨rfl,aq _ _ _⟩
theorem adf (f n o : Int) {x y : Int} {a : Nat} (h : a < 8) (hx : sL[a * 2]? = some (.int .u8 x)) (hy : sL[a * 2 + 1]? = some (.int .u8 y)) : Cm 25 #[.agg #[.int .i64 f,.int .i64 n,.int .i64 5,.int .u8 o],.int .i64 (a : Int)] (.agg #[.int .u8 x,.int .u8 y]):=by
 refine ab (fun W m => ?_)
 have c0:=fun o1 o2 => aw (aq W o1 o2) (ag (m.stopped _ _ hx)) (m.stopped _ _ hx)
 have c1:=fun o1 o2 => aw (aq W o1 o2) (ag (m.stopped _ _ hy)) (m.stopped _ _ hy)
 clear hx hy m
 go_enter Tryz.func25,Tryz.ntmps25
 go_wp2_with fail
 exact bodyPost_ret (v:=.agg #[.int .u8 x,.int .u8 y]) (by simp [results,Tryz.results25,go_sem]) rfl ⟨rfl,aq _ _ _⟩
end Go.Proofs.YtpbgpdmffejdgaaGreatDoor
