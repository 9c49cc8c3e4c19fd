/- MNuC, MWhD, MWhE, MWhF. -/
import Derived.Test.YtpbgpdmffejdgaaGreatDoorG05
import Derived.Test.YtpbgpdmffejdgaaGreatDoorG24
import Derived.Test.YtpbgpdmffejdgaaGreatDoorG30
namespace Go.Proofs.YtpbgpdmffejdgaaGreatDoor
set_option maxHeartbeats 4000000
set_option maxRecDepth 100000
open Go.RowKit
theorem ak9 {w a b : Int} : Cm 35 #[.int .i64 0,.int .i64 w,.int .u64 a,.int .u64 b] (.bool (a == 0)):=by
 refine ab (fun W _ => ?_)
 go_enter Tryz.func35,Tryz.ntmps35
 go_wp2_with fail
 go_ret
 exact ⟨rfl,Below.refl _ _⟩
theorem ala {w a b : Int} : Cm 35 #[.int .i64 1,.int .i64 w,.int .u64 a,.int .u64 b] (.bool (a == b)):=by
 refine ab (fun W _ => ?_)
 go_enter Tryz.func35,Tryz.ntmps35
 go_wp2_with fail
 go_ret
 exact ⟨rfl,Below.refl _ _⟩
theorem alb {w a b : Int} : Cm 35 #[.int .i64 2,.int .i64 w,.int .u64 a,.int .u64 b] (.bool (a != b)):=by
 refine ab (fun W _ => ?_)
 go_enter Tryz.func35,Tryz.ntmps35
 go_wp2_with fail
 go_ret
 exact ⟨rfl,Below.refl _ _⟩
theorem ny {k w a b : Int} {t : Bool} (HQ :
 (k = 3 ∧ Cm 64 #[.int .i64 w,.int .u64 a,.int .u64 b] (.bool t)) ∨
 (k = 4 ∧ Cm 65 #[.int .i64 w,.int .u64 a,.int .u64 b] (.bool t)) ∨
 (k = 5 ∧ Cm 64 #[.int .i64 w,.int .u64 b,.int .u64 a] (.bool t)) ∨
 (k = 6 ∧ Cm 65 #[.int .i64 w,.int .u64 b,.int .u64 a] (.bool t))) :
 Cm 35 #[.int .i64 k,.int .i64 w,.int .u64 a,.int .u64 b] (.bool t):=by
 refine ab (fun W m => ?_)
 have HM:=ab m
 clear m
 rcases HQ with ⟨rfl,HC⟩ | ⟨rfl,HC⟩ | ⟨rfl,HC⟩ | ⟨rfl,HC⟩
 all_goals
  have HB:=rf W
  go_enter Tryz.func35,Tryz.ntmps35
  go_wp2_with fail
  refine (aa HC _ (aa HM)).mono ?_
  rintro _ w1 ⟨rfl,hb⟩
  have HB:=bt HB hb
  clear hb
  go_wp2_with fail
  go_ret
  exact ⟨rfl,aa HB⟩
theorem nz {k w a b : Int} {t : Bool} (HQ :
 (k = 7 ∧ Cm 64 #[.int .i64 w,.int .u64 b,.int .u64 a] (.bool t)) ∨
 (k = 8 ∧ Cm 65 #[.int .i64 w,.int .u64 b,.int .u64 a] (.bool t)) ∨
 (k = 9 ∧ Cm 64 #[.int .i64 w,.int .u64 a,.int .u64 b] (.bool t)) ∨
 (k = 10 ∧ Cm 65 #[.int .i64 w,.int .u64 a,.int .u64 b] (.bool t))) :
 Cm 35 #[.int .i64 k,.int .i64 w,.int .u64 a,.int .u64 b] (.bool (!t)):=by
 refine ab (fun W m => ?_)
 have HM:=ab m
 clear m
 rcases HQ with ⟨rfl,HC⟩ | ⟨rfl,HC⟩ | ⟨rfl,HC⟩ | ⟨rfl,HC⟩
 all_goals
  have HB:=rf W
  go_enter Tryz.func35,Tryz.ntmps35
  go_wp2_with fail
  refine (aa HC _ (aa HM)).mono ?_
  rintro _ w1 ⟨rfl,hb⟩
  have HB:=bt HB hb
  clear hb
  go_wp2_with fail
  go_ret
  exact ⟨rfl,aa HB⟩
theorem ju {k w a b : Int} {t : Bool} (HQ :
 (k = 0 ∧ Cm 66 #[.int .i64 w,.int .u64 a,.int .u64 b] (.bool t)) ∨
 (k = 1 ∧ Cm 67 #[.int .i64 w,.int .u64 a,.int .u64 b] (.bool t)) ∨
 (k = 2 ∧ Cm 68 #[.int .i64 w,.int .u64 a,.int .u64 b] (.bool t)) ∨
 (k = 3 ∧ Cm 69 #[.int .i64 w,.int .u64 a,.int .u64 b] (.bool t)) ∨
 (k = 4 ∧ Cm 70 #[.int .i64 w,.int .u64 a,.int .u64 b] (.bool t)) ∨
 (k = 5 ∧ Cm 71 #[.int .i64 w,.int .u64 a,.int .u64 b] (.bool t))) :
 Cm 36 #[.int .i64 k,.int .i64 w,.int .u64 a,.int .u64 b] (.bool t):=by
 refine ab (fun W m => ?_)
 have HM:=ab m
 clear m
 rcases HQ with ⟨rfl,HC⟩ | ⟨rfl,HC⟩ | ⟨rfl,HC⟩ | ⟨rfl,HC⟩ | ⟨rfl,HC⟩ | ⟨rfl,HC⟩
 all_goals
  have HB:=rf W
  go_enter Tryz.func36,Tryz.ntmps36
  go_wp2_with fail
  refine (aa HC _ (aa HM)).mono ?_
  rintro _ w1 ⟨rfl,hb⟩
  have HB:=bt HB hb
  clear hb
  go_wp2_with fail
  go_ret
  exact ⟨rfl,aa HB⟩
theorem gR {k w a b r : Int} (HQ :
 (k = 0 ∧ Cm 143 #[.int .i64 w,.int .u64 a] (.int .u64 r)) ∨
 (k = 1 ∧ Cm 144 #[.int .i64 w,.int .u64 a] (.int .u64 r)) ∨
 (k = 2 ∧ Cm 145 #[.int .i64 w,.int .u64 a] (.int .u64 r)) ∨
 (k = 3 ∧ Cm 146 #[.int .i64 w,.int .u64 a,.int .u64 b] (.int .u64 r)) ∨
 (k = 4 ∧ Cm 147 #[.int .i64 w,.int .u64 a,.int .u64 b] (.int .u64 r)) ∨
 (k = 5 ∧ Cm 148 #[.int .i64 w,.int .u64 a,.int .u64 b] (.int .u64 r))) :
 Cm 77 #[.int .i64 k,.int .i64 w,.int .u64 a,.int .u64 b] (.int .u64 r):=by
 refine ab (fun W m => ?_)
 have HM:=ab m
 clear m
 rcases HQ with ⟨rfl,HC⟩ | ⟨rfl,HC⟩ | ⟨rfl,HC⟩ | ⟨rfl,HC⟩ | ⟨rfl,HC⟩ | ⟨rfl,HC⟩
 all_goals
  have HB:=rf W
  go_enter Tryz.func77,Tryz.ntmps77
  go_wp2_with fail
  refine (aa HC _ (aa HM)).mono ?_
  rintro _ w1 ⟨rfl,hb⟩
  have HB:=bt HB hb
  clear hb
  go_wp2_with fail
  go_ret
  exact ⟨rfl,aa HB⟩
theorem aft {w a b : Int} : Cm 77 #[.int .i64 10,.int .i64 w,.int .u64 a,.int .u64 b] (.int .u64 (bits .and .u64 a b)):=by
 refine ab (fun W _ => ?_)
 go_enter Tryz.func77,Tryz.ntmps77
 go_wp2_with fail
 go_ret
 exact ⟨rfl,Below.refl _ _⟩
theorem afu {w a b : Int} : Cm 77 #[.int .i64 11,.int .i64 w,.int .u64 a,.int .u64 b] (.int .u64 (bits .or .u64 a b)):=by
 refine ab (fun W _ => ?_)
 go_enter Tryz.func77,Tryz.ntmps77
 go_wp2_with fail
 go_ret
 exact ⟨rfl,Below.refl _ _⟩
theorem afv {w a b : Int} : Cm 77 #[.int .i64 12,.int .i64 w,.int .u64 a,.int .u64 b] (.int .u64 (bits .xor .u64 a b)):=by
 refine ab (fun W _ => ?_)
 go_enter Tryz.func77,Tryz.ntmps77
 go_wp2_with fail
 go_ret
 exact ⟨rfl,Below.refl _ _⟩
theorem lk {k w a b r : Int} (HQ :
 (k = 13 ∧ Cm 138 #[.int .i64 w,.int .u64 a,.int .u64 b] (.int .u64 r)) ∨
 (k = 14 ∧ Cm 139 #[.int .i64 w,.int .u64 a,.int .u64 b] (.int .u64 r)) ∨
 (k = 15 ∧ Cm 140 #[.int .i64 w,.int .u64 a,.int .u64 b] (.int .u64 r)) ∨
 (k = 16 ∧ Cm 141 #[.int .i64 w,.int .u64 a,.int .u64 b] (.int .u64 r)) ∨
 (k = 17 ∧ Cm 142 #[.int .i64 w,.int .u64 a,.int .u64 b] (.int .u64 r))) :
 Cm 76 #[.int .i64 k,.int .i64 w,.int .u64 a,.int .u64 b] (.int .u64 r):=by
 refine ab (fun W m => ?_)
 have HM:=ab m
 clear m
 rcases HQ with ⟨rfl,HC⟩ | ⟨rfl,HC⟩ | ⟨rfl,HC⟩ | ⟨rfl,HC⟩ | ⟨rfl,HC⟩
 all_goals
  have HB:=rf W
  go_enter Tryz.func76,Tryz.ntmps76
  go_wp2_with fail
  refine (aa HC _ (aa HM)).mono ?_
  rintro _ w1 ⟨rfl,hb⟩
  have HB:=bt HB hb
  clear hb
  go_wp2_with fail
  go_ret
  exact ⟨rfl,aa HB⟩
theorem d6 {k w a b r t : Int} (HQ :
 (k = 6 ∧ Cm 72 #[.int .i64 w,.int .u64 a,.int .u64 b] (.tuple #[.int .u64 r,.int .i64 t])) ∨
 (k = 7 ∧ Cm 73 #[.int .i64 w,.int .u64 a,.int .u64 b] (.tuple #[.int .u64 r,.int .i64 t])) ∨
 (k = 8 ∧ Cm 74 #[.int .i64 w,.int .u64 a,.int .u64 b] (.tuple #[.int .u64 r,.int .i64 t])) ∨
 (k = 9 ∧ Cm 75 #[.int .i64 w,.int .u64 a,.int .u64 b] (.tuple #[.int .u64 r,.int .i64 t]))) :
 Cm 37 #[.int .i64 k,.int .i64 w,.int .u64 a,.int .u64 b] (.tuple #[.int .u64 r,.int .i64 t]):=by
 refine ab (fun W m => ?_)
 have HM:=ab m
 clear m
 rcases HQ with ⟨rfl,HC⟩ | ⟨rfl,HC⟩ | ⟨rfl,HC⟩ | ⟨rfl,HC⟩
 all_goals
  have HB:=rf W
  go_enter Tryz.func37,Tryz.ntmps37
  go_wp2_with fail
  refine (aa HC _ (aa HM)).mono ?_
  rintro _ w1 ⟨rfl,hb⟩
  have HB:=bt HB hb
  clear hb
  go_wp2_with fail
  go_ret2
  exact ⟨rfl,aa HB⟩
theorem iL {k w a b r : Int} (HQ :
 (k = 13 ∧ Cm 76 #[.int .i64 13,.int .i64 w,.int .u64 a,.int .u64 b] (.int .u64 r)) ∨
 (k = 14 ∧ Cm 76 #[.int .i64 14,.int .i64 w,.int .u64 a,.int .u64 b] (.int .u64 r)) ∨
 (k = 15 ∧ Cm 76 #[.int .i64 15,.int .i64 w,.int .u64 a,.int .u64 b] (.int .u64 r)) ∨
 (k = 16 ∧ Cm 76 #[.int .i64 16,.int .i64 w,.int .u64 a,.int .u64 b] (.int .u64 r)) ∨
 (k = 17 ∧ Cm 76 #[.int .i64 17,.int .i64 w,.int .u64 a,.int .u64 b] (.int .u64 r))) :
 Cm 37 #[.int .i64 k,.int .i64 w,.int .u64 a,.int .u64 b] (.tuple #[.int .u64 r,.int .i64 0]):=by
 refine ab (fun W m => ?_)
 have HM:=ab m
 clear m
 rcases HQ with ⟨rfl,HC⟩ | ⟨rfl,HC⟩ | ⟨rfl,HC⟩ | ⟨rfl,HC⟩ | ⟨rfl,HC⟩
 all_goals
  have HB:=rf W
  go_enter Tryz.func37,Tryz.ntmps37
  go_wp2_with fail
  refine (aa HC _ (aa HM)).mono ?_
  rintro _ w1 ⟨rfl,hb⟩
  have HB:=bt HB hb
  clear hb
  go_wp2_with fail
  go_ret2
  exact ⟨rfl,aa HB⟩
theorem eG {k w a b r : Int} (HQ :
 (k = 0 ∧ Cm 77 #[.int .i64 0,.int .i64 w,.int .u64 a,.int .u64 b] (.int .u64 r)) ∨
 (k = 1 ∧ Cm 77 #[.int .i64 1,.int .i64 w,.int .u64 a,.int .u64 b] (.int .u64 r)) ∨
 (k = 2 ∧ Cm 77 #[.int .i64 2,.int .i64 w,.int .u64 a,.int .u64 b] (.int .u64 r)) ∨
 (k = 3 ∧ Cm 77 #[.int .i64 3,.int .i64 w,.int .u64 a,.int .u64 b] (.int .u64 r)) ∨
 (k = 4 ∧ Cm 77 #[.int .i64 4,.int .i64 w,.int .u64 a,.int .u64 b] (.int .u64 r)) ∨
 (k = 5 ∧ Cm 77 #[.int .i64 5,.int .i64 w,.int .u64 a,.int .u64 b] (.int .u64 r)) ∨
 (k = 10 ∧ Cm 77 #[.int .i64 10,.int .i64 w,.int .u64 a,.int .u64 b] (.int .u64 r)) ∨
 (k = 11 ∧ Cm 77 #[.int .i64 11,.int .i64 w,.int .u64 a,.int .u64 b] (.int .u64 r)) ∨
 (k = 12 ∧ Cm 77 #[.int .i64 12,.int .i64 w,.int .u64 a,.int .u64 b] (.int .u64 r))) :
 Cm 37 #[.int .i64 k,.int .i64 w,.int .u64 a,.int .u64 b] (.tuple #[.int .u64 r,.int .i64 0]):=by
 refine ab (fun W m => ?_)
 have HM:=ab m
 clear m
 rcases HQ with ⟨rfl,HC⟩ | ⟨rfl,HC⟩ | ⟨rfl,HC⟩ | ⟨rfl,HC⟩ | ⟨rfl,HC⟩ | ⟨rfl,HC⟩ | ⟨rfl,HC⟩ | ⟨rfl,HC⟩ | ⟨rfl,HC⟩
 all_goals
  have HB:=rf W
  go_enter Tryz.func37,Tryz.ntmps37
  go_wp2_with fail
  refine (aa HC _ (aa HM)).mono ?_
  rintro _ w1 ⟨rfl,hb⟩
  have HB:=bt HB hb
  clear hb
  go_wp2_with fail
  go_ret2
  exact ⟨rfl,aa HB⟩
theorem cK {k w a b r : Int} (HQ :
 (k = 0 ∧ Cm 78 #[.int .i64 w,.int .u64 a] (.int .u64 r)) ∨
 (k = 1 ∧ Cm 79 #[.int .i64 w,.int .u64 a] (.int .u64 r)) ∨
 (k = 2 ∧ Cm 80 #[.int .i64 w,.int .u64 a] (.int .u64 r)) ∨
 (k = 3 ∧ Cm 81 #[.int .i64 w,.int .u64 a] (.int .u64 r)) ∨
 (k = 4 ∧ Cm 82 #[.int .i64 w,.int .u64 a] (.int .u64 r)) ∨
 (k = 5 ∧ Cm 83 #[.int .i64 w,.int .u64 a] (.int .u64 r)) ∨
 (k = 6 ∧ Cm 84 #[.int .i64 w,.int .u64 a] (.int .u64 r)) ∨
 (k = 7 ∧ Cm 85 #[.int .i64 w,.int .u64 a,.int .u64 b] (.int .u64 r)) ∨
 (k = 8 ∧ Cm 86 #[.int .i64 w,.int .u64 a,.int .u64 b] (.int .u64 r)) ∨
 (k = 9 ∧ Cm 87 #[.int .i64 w,.int .u64 a,.int .u64 b] (.int .u64 r)) ∨
 (k = 10 ∧ Cm 88 #[.int .i64 w,.int .u64 a,.int .u64 b] (.int .u64 r)) ∨
 (k = 11 ∧ Cm 89 #[.int .i64 w,.int .u64 a,.int .u64 b] (.int .u64 r)) ∨
 (k = 12 ∧ Cm 90 #[.int .i64 w,.int .u64 a,.int .u64 b] (.int .u64 r)) ∨
 (k = 13 ∧ Cm 91 #[.int .i64 w,.int .u64 a,.int .u64 b] (.int .u64 r))) :
 Cm 38 #[.int .i64 k,.int .i64 w,.int .u64 a,.int .u64 b] (.int .u64 r):=by
 refine ab (fun W m => ?_)
 have HM:=ab m
 clear m
 rcases HQ with ⟨rfl,HC⟩ | ⟨rfl,HC⟩ | ⟨rfl,HC⟩ | ⟨rfl,HC⟩ | ⟨rfl,HC⟩ | ⟨rfl,HC⟩ | ⟨rfl,HC⟩ | ⟨rfl,HC⟩ | ⟨rfl,HC⟩ | ⟨rfl,HC⟩ | ⟨rfl,HC⟩ | ⟨rfl,HC⟩ | ⟨rfl,HC⟩ | ⟨rfl,HC⟩
 all_goals
  have HB:=rf W
  go_enter Tryz.func38,Tryz.ntmps38
  go_wp2_with fail
  refine (aa HC _ (aa HM)).mono ?_
  rintro _ w1 ⟨rfl,hb⟩
  have HB:=bt HB hb
  clear hb
  go_wp2_with fail
  go_ret
  exact ⟨rfl,aa HB⟩
set_option maxHeartbeats 2000000
open Go.Proofs.YtpbgpdmffejdgaaGreatDoor.W
theorem jn {w : World} {a : Option Addr} {n c : Nat} (h : ai w (.slice a n c) 1) : n ≤ 1000:=Nat.le_trans (h.short (k:=1) (by rw [re]; omega)) (by omega)
theorem qs {w : World} {a : Option Addr} {n c : Nat} {S : Int} (h : ai w (.slice a n c) S.toNat) (h0 : 0 ≤ S) (h1 : S < 18446744073709551616) : n ≤ 1000 ∧ S.toNat < pw 300:=by
 have e : pw 2 = 18446744073709551616:=by decide +kernel
 have hs : S.toNat < pw 2:=by omega
 exact ⟨Nat.le_trans (h.short hs) (by omega),ck 300 hs (by omega)⟩
theorem aip {K1 X1 S1 : Int} {n1 : Bool} (W : World) (HS : Hid (0 ≤ S1 ∧ S1 < 18446744073709551616 ∧ X1 ≤ 10000)) (g : 0 ≤ X1) :
 Calls Tryz.prog 186 #[.agg #[.bool n1,.int .i64 K1,.int .i64 X1,.int .u64 S1]] W fun e w' => ∃ s,e = .returned (.tuple #[.agg #[s],.int .i64 (-1),.bool false]) ∧ ai w' s (S1.toNat * 2 ^ X1.toNat) ∧ Below W.heap.size W w':=by
 have HG:=ab g
 go_enter Tryz.func186,Tryz.ntmps186
 go_wp2_with fail
 have HB:=ab (aq W (.cells #[.bool n1,.int .i64 K1,.int .i64 X1,.int .u64 S1] 105) (.cells #[.slice none 0 0] 41)).drew
 have HA:=ab ((bD W (.bool n1) (.int .i64 K1) (.int .i64 X1) (.int .u64 S1) 105 (.cells #[.slice none 0 0] 41)).below ((Below.refl _ _).drew))
 have HR : Hid (aS (W.heap.size + 1) 1 ((W.alloc (.cells #[.bool n1,.int .i64 K1,.int .i64 X1,.int .u64 S1] 105)).alloc (.cells #[.slice none 0 0] 41)).drew):=by
  intro o ho
  match o,ho with
  | 0,_ => simp [go_sem]
 have HC : Hid (((W.alloc (.cells #[.bool n1,.int .i64 K1,.int .i64 X1,.int .u64 S1] 105)).alloc (.cells #[.slice none 0 0] 41)).drew.cell? ⟨W.heap.size + 1,0,none⟩ = some (.slice none 0 0)):=by unfold Hid; simp [go_sem]
 refine wp_region_held_drew (S:=fun w' => (w'.cell? ⟨W.heap.size,0,none⟩ = some (.bool n1) ∧ w'.cell? ⟨W.heap.size,1,none⟩ = some (.int .i64 K1) ∧ w'.cell? ⟨W.heap.size,2,none⟩ = some (.int .i64 X1) ∧ w'.cell? ⟨W.heap.size,3,none⟩ = some (.int .u64 S1)) ∧ aS (W.heap.size + 1) 1 w') (by kernel_rfl) ?_ (fun hHeld => ?_)
 ·(try dsimp only)
  exact ⟨aa HA,aa HR⟩
 refine aC 9 (by kernel_rfl) ?_
 refine tkA 0 11 1 ?_
 refine tkA 1 12 3 ?_
 refine tkA 3 14 11 ?_
 refine tkA 4 15 27 ?_
 refine rdA 2 31 (fun Kk hKk => ?_)
 go_simp
 refine (aE S1 _ (aa HS).1 (aa HS).2.1).mono ?_
 rintro _ w3 ⟨s3,rfl,hN,hbl⟩
 obtain ⟨a3,m3,c3,rfl⟩:=hN.slice
 have HB:=bt HB hbl
 have HA:=ab ((aa HA).below hbl)
 have HR:=ab ((aa HR).below hbl)
 have HC:=ab (aw hbl (ag (aa HC)) (aa HC))
 have H3:=ab hN
 clear hbl hN
 (try go_wp2_with fail)
 refine oA hKk (⟨aa HA,aa HR⟩) fun hHeld => ?_
 clear hKk Kk
 refine rdA 5 63 (fun Kk hKk => ?_)
 go_simp
 refine (eK _ _ _ _ _ _ (aa H3) (qs (aa H3) (aa HS).1 (aa HS).2.1).1 (aa HG) (aa HS).2.2).mono ?_
 rintro _ w4 ⟨s4,rfl,hN,hbl⟩
 obtain ⟨a4,m4,c4,rfl⟩:=hN.slice
 have HB:=bt HB hbl
 have HA:=ab ((aa HA).below hbl)
 have HR:=ab ((aa HR).below hbl)
 have HC:=ab (aw hbl (ag (aa HC)) (aa HC))
 have H4:=ab hN
 clear hbl hN
 (try go_wp2_with fail)
 refine oA hKk (⟨aa HA,aa HR⟩) fun hHeld => ?_
 clear hKk Kk
 refine rdA 6 127 (fun Kk hKk => ?_)
 obtain ⟨⟨v0,c0⟩,r0⟩:=hHeld.2 0 (by omega)
 go_simp
 refine oA hKk (⟨At4.set hHeld.1 (by omega) _ _,hHeld.2.set _ _⟩) fun hHeld => ?_
 clear hKk Kk
 refine tkA 7 3 255 ?_
 refine tkA 8 4 511 ?_
 refine wpAnyH_done (by kernel_rfl) ?_ _
 go_wp2
 exact bodyPost_ret (v:=.tuple #[.agg #[.slice a4 m4 c4],.int .i64 (-1),.bool false]) (by simp [results,Tryz.results186,go_sem,c0]) rfl ⟨_,rfl,(aa H4).store (aa HC) _,aZ (aa HB) _ (by omega) _ _⟩
theorem wsb (w0 : World) : W.aP (fun w => Below w0.heap.size w0 w):=W.ao w0
theorem sV {S : Int} (h0 : 0 ≤ S) (h1 : S < 18446744073709551616) (u : Nat) : S.toNat % u < pw 300:=by
 have e : pw 2 = 18446744073709551616:=by decide +kernel
 exact Nat.lt_of_le_of_lt (Nat.mod_le _ _) (ck 300 (show S.toNat < pw 2 by omega) (by omega))
structure ain (W : World) (N bu bq br : Nat) (su sq sr : Value) (u q r : Nat) (w : World) : Prop where
 cu : w.cell? ⟨bu,0,none⟩ = some su
 cq : w.cell? ⟨bq,0,none⟩ = some sq
 cr : w.cell? ⟨br,0,none⟩ = some sr
 nu : ai w su u
 nq : ai w sq q
 nr : ai w sr r
 cv : w.cell? ⟨N,0,none⟩ = some (.slice none 0 0)
 fv : w.frozen? ⟨N,0,none⟩ = false
 bel : Below W.heap.size W w
theorem ain.below {W : World} {N bu bq br : Nat} {su sq sr : Value} {u q r : Nat} {w w' : World} (h : ain W N bu bq br su sq sr u q r w) (hb : Below w.heap.size w w') : ain W N bu bq br su sq sr u q r w':=
 { cu:=aw hb (ag h.cu) h.cu,cq:=aw hb (ag h.cq) h.cq,cr:=aw hb (ag h.cr) h.cr,nu:=h.nu.below hb,nq:=h.nq.below hb,nr:=h.nr.below hb,cv:=aw hb (ag h.cv) h.cv,fv:=(hb.frozen (ag h.cv)).trans h.fv,bel:=ac h.bel hb }
theorem xi {N b : Nat} {v : Value} {w : World} (h : aY N #[v] b w) : w.cell? ⟨b,0,none⟩ = some v ∧ w.frozen? ⟨b,0,none⟩ = false:=⟨h.cell 0 _ rfl,h.thawed 0⟩
theorem aio {K1 X1 S1 : Int} {n1 : Bool} (k : Nat) (W : World) (HS : Hid (0 ≤ S1 ∧ S1 < 18446744073709551616 ∧ k ≤ 5000)) (g : ¬ 0 ≤ X1) (kx : IntKind.i64.wrap (-X1) = (k : Int)) :
 Calls Tryz.prog 186 #[.agg #[.bool n1,.int .i64 K1,.int .i64 X1,.int .u64 S1]] W fun e w' => ∃ s,e = .returned (.tuple #[.agg #[s],.int .i64 (aK (S1.toNat % (1 * 2 ^ k) * 2 ^ 1) (1 * 2 ^ k)),.bool (decide (S1.toNat % (1 * 2 ^ k) ≠ 0))]) ∧ ai w' s (S1.toNat / (1 * 2 ^ k)) ∧ Below W.heap.size W w':=by
 go_enter Tryz.func186,Tryz.ntmps186
 go_wp2_with fail
 have HB:=ab (aq W (.cells #[.bool n1,.int .i64 K1,.int .i64 X1,.int .u64 S1] 105) (.cells #[.slice none 0 0] 41)).drew
 have HA:=ab ((bD W (.bool n1) (.int .i64 K1) (.int .i64 X1) (.int .u64 S1) 105 (.cells #[.slice none 0 0] 41)).below ((Below.refl _ _).drew))
 have HC : Hid (((W.alloc (.cells #[.bool n1,.int .i64 K1,.int .i64 X1,.int .u64 S1] 105)).alloc (.cells #[.slice none 0 0] 41)).drew.cell? ⟨W.heap.size + 1,0,none⟩ = some (.slice none 0 0) ∧ ((W.alloc (.cells #[.bool n1,.int .i64 K1,.int .i64 X1,.int .u64 S1] 105)).alloc (.cells #[.slice none 0 0] 41)).drew.frozen? ⟨W.heap.size + 1,0,none⟩ = false):=⟨by simp [go_sem],by simp [go_sem]⟩
 refine wp_region_held_drew (S:=fun w' => (w'.cell? ⟨W.heap.size,0,none⟩ = some (.bool n1) ∧ w'.cell? ⟨W.heap.size,1,none⟩ = some (.int .i64 K1) ∧ w'.cell? ⟨W.heap.size,2,none⟩ = some (.int .i64 X1) ∧ w'.cell? ⟨W.heap.size,3,none⟩ = some (.int .u64 S1))) (by kernel_rfl) ?_ (fun hHeld => ?_)
 ·(try dsimp only)
  exact aa HA
 refine bF (N:=W.heap.size + 2) (i1:=5) (d1:=5) (v1:=#[.slice none 0 0]) (t1:=41) (f:=1) (n:=5) (T:=fun w' => Below W.heap.size W w' ∧ (w'.cell? ⟨W.heap.size + 1,0,none⟩ = some (.slice none 0 0) ∧ w'.frozen? ⟨W.heap.size + 1,0,none⟩ = false)) (by kernel_rfl) (by kernel_rfl) (fun _ _ _ _ _ h => h) (aB _ _ _ _ _) ?_ ((wsb _).and (aA _ _)) hHeld (⟨aa HB,aa HC⟩) (by simp) ?_
 ·intro a w K h
  unfold wpOp
  go_simp
  exact Or.inl h
 clear hHeld
 refine woA 1 18 ?_
 refine woA 2 19 ?_
 refine woA 3 20 ?_
 refine bv (c:=0) (o:={ dst:=some 17,op:=_,type:=_,pos:=_,after:=_,guard:=_ }) rfl (by kernel_rfl) (by kernel_rfl) (fun u hSu hTu Kk hKk => ?_)
 go_simp
 refine (dN _).mono ?_
 rintro _ wn ⟨s1,rfl,hN1,hbl⟩
 obtain ⟨a1,m1,c1,rfl⟩:=hN1.slice
 have HTn:=ab (And.intro hN1 ((wsb _).and (aA _ _) _ _ hTu hbl))
 clear hTu hSu hN1
 (try go_wp2_with fail)
 refine hKk.out _ _ (fun w' => ai w' (.slice a1 m1 c1) (1) ∧ Below W.heap.size W w' ∧ (w'.cell? ⟨W.heap.size + 1,0,none⟩ = some (.slice none 0 0) ∧ w'.frozen? ⟨W.heap.size + 1,0,none⟩ = false)) (by assumption) ((aD _ _).and ((wsb _).and (aA _ _))) (aa HTn) ?_
 clear hKk Kk HTn
 (try simp only [Act.put,List.setIfInBounds_toArray,List.set_cons_zero,List.set_cons_succ])
 refine bv (c:=4) (o:={ dst:=some 21,op:=_,type:=_,pos:=_,after:=_,guard:=_ }) rfl (by kernel_rfl) (by kernel_rfl) (fun u hSu hTu Kk hKk => ?_)
 go_simp
 refine (cB _ _ _ 1 k _ hTu.1 (jn hTu.1) (Nat.le_trans (aa HS).2.2 (by omega))).mono ?_
 rintro _ wn ⟨s2,rfl,hN2,hbl⟩
 obtain ⟨a2,m2,c2,rfl⟩:=hN2.slice
 have HTn:=ab (And.intro hN2 ((wsb _).and (aA _ _) _ _ hTu.2 hbl))
 clear hTu hSu hN2
 (try go_wp2_with fail)
 refine hKk.out _ _ (fun w' => ai w' (.slice a2 m2 c2) (1 * 2 ^ k) ∧ Below W.heap.size W w' ∧ (w'.cell? ⟨W.heap.size + 1,0,none⟩ = some (.slice none 0 0) ∧ w'.frozen? ⟨W.heap.size + 1,0,none⟩ = false)) (by assumption) ((aD _ _).and ((wsb _).and (aA _ _))) (aa HTn) ?_
 clear hKk Kk HTn
 (try simp only [Act.put,List.setIfInBounds_toArray,List.set_cons_zero,List.set_cons_succ])
 refine cQ (by kernel_rfl) (fun wf bu hSu hTu k1 => ?_)
 (try simp only [Act.put,List.setIfInBounds_toArray,List.set_cons_zero,List.set_cons_succ])
 unfold ptr
 have zb:=k1.base
 obtain ⟨f0,f1⟩:=xi k1
 refine xh 7 63 (by kernel_rfl) ?_
 refine rdA 6 127 (fun Kk hKk => ?_)
 go_simp
 refine hKk.out _ _ ?_ (fun hHeld => ?_)
 ·(try dsimp only)
  exact At4.set hSu (by omega) _ _
 clear hKk Kk
 (try simp only [Act.put,List.setIfInBounds_toArray,List.set_cons_zero,List.set_cons_succ])
 refine wpAnyH_done (by kernel_rfl) ?_ _
 have HB:=ab (aZ hTu.2.1 bu (by omega) 0 (.slice a2 m2 c2))
 have HA:=ab (show At4 W.heap.size (.bool n1) (.int .i64 K1) (.int .i64 X1) (.int .u64 S1) _ from hHeld)
 have HU : Hid ((wf.setCell ⟨bu,0,none⟩ (.slice a2 m2 c2)).cell? ⟨bu,0,none⟩ = some (.slice a2 m2 c2)):=World.cell?_setCell_same _ _ _ f0
 have HN:=ab (hTu.1.store f0 (.slice a2 m2 c2))
 have HC:=ab (And.intro (ax bu 0 (.slice a2 m2 c2) (by omega) hTu.2.2.1) ((aW wf ⟨bu,0,none⟩ _ (.slice a2 m2 c2)).trans hTu.2.2.2))
 clear hHeld hSu hTu k1 f0 f1
 generalize wf.setCell ⟨bu,0,none⟩ (.slice a2 m2 c2) = wx at *
 have HZ:=ab (aa HB).size
 go_wp2_with fail
 have HB:=ab (aa HB).drew
 have HA:=ab ((aa HA).below ((Below.refl _ _).drew))
 have HU:=ab (aw ((Below.refl _ _).drew) (ag (aa HU)) (aa HU))
 have HN:=ab ((aa HN).below ((Below.refl _ _).drew))
 have HC:=ab ((aA _ _) _ _ (aa HC) ((Below.refl _ _).drew))
 refine wp_region_held_drew (S:=fun w' => (w'.cell? ⟨W.heap.size,0,none⟩ = some (.bool n1) ∧ w'.cell? ⟨W.heap.size,1,none⟩ = some (.int .i64 K1) ∧ w'.cell? ⟨W.heap.size,2,none⟩ = some (.int .i64 X1) ∧ w'.cell? ⟨W.heap.size,3,none⟩ = some (.int .u64 S1)) ∧ w'.cell? ⟨bu,0,none⟩ = some (.slice a2 m2 c2)) (by kernel_rfl) ?_ (fun hHeld => ?_)
 ·exact ⟨aa HA,aa HU⟩
 refine o9 (N:=bu + 1) (i1:=8) (d1:=6) (v1:=.slice none 0 0) (t1:=41) (i2:=9) (d2:=7) (v2:=.slice none 0 0) (t2:=41) (f:=2) (n:=8)
  (T:=fun w' => ai w' (.slice a2 m2 c2) (1 * 2 ^ k) ∧ Below W.heap.size W w' ∧ (w'.cell? ⟨W.heap.size + 1,0,none⟩ = some (.slice none 0 0) ∧ w'.frozen? ⟨W.heap.size + 1,0,none⟩ = false))
  (by kernel_rfl) (by kernel_rfl) (fun _ _ _ _ _ h => h) (fun _ _ h hb => ⟨At4.below h.1 hb,aw hb (ag h.2) h.2⟩) (by decide) (by decide) ?_ ?_ ((aD _ _).and ((wsb _).and (aA _ _))) hHeld ?_ ?_ ?_
 ·intro a w K h
  unfold wpOp
  go_simp
  exact Or.inl h
 ·intro a w K h
  unfold wpOp
  go_simp
  exact Or.inl h
 ·exact ⟨aa HN,aa HB,aa HC⟩
 ·exact ag (aa HU)
 clear hHeld
 refine dM (i:=0) (oi:={ dst:=some 23,op:=_,type:=_,pos:=_,after:=_,guard:=_ }) rfl (by kernel_rfl) (by kernel_rfl) (fun _ _ _ h => h) (Or.inl ⟨by rfl,fun w hSw => by (try dsimp only at hSw); go_simp; with_reducible rfl⟩) ?_
 (try simp only [Act.put,List.setIfInBounds_toArray,List.set_cons_zero,List.set_cons_succ])
 refine dM (i:=1) (oi:={ dst:=some 24,op:=_,type:=_,pos:=_,after:=_,guard:=_ }) rfl (by kernel_rfl) (by kernel_rfl) (fun _ _ _ h => h) (Or.inl ⟨by rfl,fun w hSw => by (try dsimp only at hSw); go_simp; with_reducible rfl⟩) ?_
 (try simp only [Act.put,List.setIfInBounds_toArray,List.set_cons_zero,List.set_cons_succ])
 refine dM (i:=3) (oi:={ dst:=some 26,op:=_,type:=_,pos:=_,after:=_,guard:=_ }) rfl (by kernel_rfl) (by kernel_rfl) (fun _ _ _ h => h) (Or.inl ⟨by rfl,fun w hSw => by (try dsimp only at hSw); go_simp; with_reducible rfl⟩) ?_
 (try simp only [Act.put,List.setIfInBounds_toArray,List.set_cons_zero,List.set_cons_succ])
 refine iX (c:=2) (o:={ dst:=some 25,op:=_,type:=_,pos:=_,after:=_,guard:=_ }) rfl (by kernel_rfl) (by kernel_rfl) (fun u hSu hTu K hK => ?_)
 go_simp
 refine (aE S1 _ (aa HS).1 (aa HS).2.1).mono ?_
 rintro e w8 ⟨s8,rfl,hN8,hb8⟩
 obtain ⟨a8,m8,c8,rfl⟩:=hN8.slice
 have HT:=ab (((aD _ _).and ((wsb _).and (aA _ _))) _ _ hTu hb8)
 clear hTu hSu
 (try go_wp2_with fail)
 refine hK.out _ _ (fun w' => ai w' (.slice a8 m8 c8) (S1.toNat) ∧ ai w' (.slice a2 m2 c2) (1 * 2 ^ k) ∧ Below W.heap.size W w' ∧ (w'.cell? ⟨W.heap.size + 1,0,none⟩ = some (.slice none 0 0) ∧ w'.frozen? ⟨W.heap.size + 1,0,none⟩ = false)) (by assumption) ((aD _ _).and ((aD _ _).and ((wsb _).and (aA _ _)))) (⟨hN8,aa HT⟩) ?_
 clear hK K
 (try simp only [Act.put,List.setIfInBounds_toArray,List.set_cons_zero,List.set_cons_succ])
 clear HT hN8
 refine iX (c:=4) (o:={ dst:=some 27,op:=_,type:=_,pos:=_,after:=_,guard:=_ }) rfl (by kernel_rfl) (by kernel_rfl) (fun u hSu hTu K hK => ?_)
 go_simp
 refine (cS _ _ _ _ _ _ _ _ _ hTu.1 hTu.2.1 (rA k) (qs hTu.1 (aa HS).1 (aa HS).2.1).2 (nI (by have:=(aa HS).2.2; omega))).mono ?_
 rintro e w10 ⟨s10,s11,rfl,hN10,hN11,hb10⟩
 obtain ⟨a10,m10,c10,rfl⟩:=hN10.slice
 obtain ⟨a11,m11,c11,rfl⟩:=hN11.slice
 have HT:=ab (((aD _ _).and ((wsb _).and (aA _ _))) _ _ hTu.2 hb10)
 clear hTu hSu
 (try go_wp2_with fail)
 refine hK.out _ _ (fun w' => ai w' (.slice a10 m10 c10) (S1.toNat / (1 * 2 ^ k)) ∧ ai w' (.slice a11 m11 c11) (S1.toNat % (1 * 2 ^ k)) ∧ ai w' (.slice a2 m2 c2) (1 * 2 ^ k) ∧ Below W.heap.size W w' ∧ (w'.cell? ⟨W.heap.size + 1,0,none⟩ = some (.slice none 0 0) ∧ w'.frozen? ⟨W.heap.size + 1,0,none⟩ = false)) (by assumption) ((aD _ _).and ((aD _ _).and ((aD _ _).and ((wsb _).and (aA _ _))))) (⟨hN10,hN11,aa HT⟩) ?_
 clear hK K
 (try simp only [Act.put,List.setIfInBounds_toArray,List.set_cons_zero,List.set_cons_succ])
 clear HT hN10 hN11
 refine dM (i:=5) (oi:={ dst:=some 22,op:=_,type:=_,pos:=_,after:=_,guard:=_ }) rfl (by kernel_rfl) (by kernel_rfl) (fun _ _ _ h => h) (Or.inl ⟨by rfl,fun w hSw => by (try dsimp only at hSw); go_simp; with_reducible rfl⟩) ?_
 (try simp only [Act.put,List.setIfInBounds_toArray,List.set_cons_zero,List.set_cons_succ])
 refine dM (i:=6) (oi:={ dst:=some 28,op:=_,type:=_,pos:=_,after:=_,guard:=_ }) rfl (by kernel_rfl) (by kernel_rfl) (fun _ _ _ h => h) (Or.inl ⟨by rfl,fun w hSw => by (try dsimp only at hSw); go_simp; with_reducible rfl⟩) ?_
 (try simp only [Act.put,List.setIfInBounds_toArray,List.set_cons_zero,List.set_cons_succ])
 refine dM (i:=7) (oi:={ dst:=some 29,op:=_,type:=_,pos:=_,after:=_,guard:=_ }) rfl (by kernel_rfl) (by kernel_rfl) (fun _ _ _ h => h) (Or.inl ⟨by rfl,fun w hSw => by (try dsimp only at hSw); go_simp; with_reducible rfl⟩) ?_
 (try simp only [Act.put,List.setIfInBounds_toArray,List.set_cons_zero,List.set_cons_succ])
 refine zR (by kernel_rfl) (fun w11 bq br hb hSu hTu k1 k2 => ?_)
 (try simp only [Act.put,List.setIfInBounds_toArray,List.set_cons_zero,List.set_cons_succ])
 obtain ⟨h1,h2,h3,h4,h5,h6⟩:=hTu
 have e1:=k1.cell; have g1:=k1.thawed; have e2:=k2.cell; have g2:=k2.thawed
 have z1:=k1.base; have z2:=k2.base
 unfold Go.Proofs.YtpbgpdmffejdgaaGreatDoor.W.ptr
 have hc2 : (w11.setCell ⟨bq,0,none⟩ (.slice a10 m10 c10)).cell? ⟨br,0,none⟩ = some (.slice none 0 0):=by rw [World.cell?_setCell_other _ _ _ _ (by intro he; injection he with he1; omega)]; exact e2
 have hf2 : (w11.setCell ⟨bq,0,none⟩ (.slice a10 m10 c10)).frozen? ⟨br,0,none⟩ = false:=by rw [aW]; exact g2
 refine xh 12 1023 (by kernel_rfl) ?_
 refine rdA 10 2047 (fun K hK => ?_)
 go_simp
 refine hK.out _ _ ?_ (fun hHeld => ?_)
 ·exact ⟨At4.set hSu.1 (by omega) _ _,ax _ _ _ (by omega) hSu.2⟩
 clear hK K
 refine rdA 11 4095 (fun K hK => ?_)
 go_simp
 refine hK.out _ _ ⟨At4.set hHeld.1 (by omega) _ _,ax _ _ _ (by omega) hHeld.2⟩ (fun hHeld => ?_)
 clear hK K
 refine wpAnyH_done (by kernel_rfl) ?_ _
 have HD : Hid (ain W (W.heap.size + 1) bu bq br (.slice a2 m2 c2) (.slice a10 m10 c10) (.slice a11 m11 c11) (1 * 2 ^ k) (S1.toNat / (1 * 2 ^ k)) (S1.toNat % (1 * 2 ^ k)) ((w11.setCell ⟨bq,0,none⟩ (.slice a10 m10 c10)).setCell ⟨br,0,none⟩ (.slice a11 m11 c11))):=
  { cu:=hHeld.2,cq:=ax _ _ _ (by omega) (World.cell?_setCell_same _ _ _ e1),cr:=World.cell?_setCell_same _ _ _ hc2,nu:=dV h3 e1 e2 hb _ _,nq:=dV h1 e1 e2 hb _ _,nr:=dV h2 e1 e2 hb _ _,cv:=ax _ _ _ (by omega) (ax _ _ _ (by omega) h5),fv:=by rw [aW,aW]; exact h6,bel:=aZ (aZ h4 _ (by omega) _ _) _ (by omega) _ _ }
 clear hHeld hSu hc2 hf2 e1 e2 g1 g2 h1 h2 h3 h4 h5 h6 k1 k2
 generalize ((w11.setCell ⟨bq,0,none⟩ (.slice a10 m10 c10)).setCell ⟨br,0,none⟩ (.slice a11 m11 c11)) = wy at *
 have HNE : Hid (bu ≠ W.heap.size + 1 ∧ bq ≠ W.heap.size + 1 ∧ br ≠ W.heap.size + 1):=⟨by omega,by omega,by omega⟩
 have HQ:=ab (sV (aa HS).1 (aa HS).2.1 (1 * 2 ^ k))
 go_wp2_with fail
 have HD:=ab ((aa HD).below ((Below.refl _ _).drew))
 refine wp_region_held_drew (S:=fun w' => w'.cell? ⟨bu,0,none⟩ = some (.slice a2 m2 c2) ∧ w'.cell? ⟨bq,0,none⟩ = some (.slice a10 m10 c10) ∧ w'.cell? ⟨br,0,none⟩ = some (.slice a11 m11 c11) ∧ aS (W.heap.size + 1) 1 w') (by kernel_rfl) ?_ (fun hHeld => ?_)
 ·(try dsimp only)
  exact ⟨(aa HD).cu,(aa HD).cq,(aa HD).cr,fk (aa HD).cv (aa HD).fv⟩
 refine aC 12 (by kernel_rfl) ?_
 refine tkA 0 30 1 ?_
 refine tkA 1 31 3 ?_
 refine tkA 3 33 11 ?_
 refine tkA 5 35 43 ?_
 refine tkA 6 36 107 ?_
 refine tkA 7 37 235 ?_
 refine tkA 8 38 491 ?_
 refine rdA 2 495 (fun Kk hKk => ?_)
 go_simp
 refine (ia _ _ _ _ _ (aa HD).nr (Nat.le_trans ((aa HD).nr.short (aa HQ)) (by omega))).mono ?_
 rintro _ w3 ⟨s3,rfl,hN3,hbl⟩
 obtain ⟨a3,m3,c3,rfl⟩:=hN3.slice
 have H3:=ab hN3
 have HD:=ab ((aa HD).below hbl)
 clear hbl hN3
 (try go_wp2_with fail)
 refine oA hKk (⟨(aa HD).cu,(aa HD).cq,(aa HD).cr,fk (aa HD).cv (aa HD).fv⟩) fun hHeld => ?_
 clear hKk Kk
 refine rdA 4 511 (fun Kk hKk => ?_)
 go_simp
 refine (bc _ _ _ _ _ _ _ _ _ (aa H3) (aa HD).nu).mono ?_
 rintro _ w4 ⟨rfl,hbl⟩
 have HD:=ab ((aa HD).below hbl)
 clear hbl H3
 (try go_wp2_with fail)
 refine oA hKk (⟨(aa HD).cu,(aa HD).cq,(aa HD).cr,fk (aa HD).cv (aa HD).fv⟩) fun hHeld => ?_
 clear hKk Kk
 refine rdA 9 1023 (fun Kk hKk => ?_)
 obtain ⟨⟨v0,c0⟩,r0⟩:=hHeld.2.2.2 0 (by omega)
 go_simp
 refine oA hKk (⟨ax _ _ _ (aa HNE).1 hHeld.1,ax _ _ _ (aa HNE).2.1 hHeld.2.1,ax _ _ _ (aa HNE).2.2 hHeld.2.2.1,hHeld.2.2.2.set _ _⟩) fun hHeld => ?_
 clear hKk Kk
 refine tkA 10 3 2047 ?_
 refine tkA 11 4 4095 ?_
 refine wpAnyH_done (by kernel_rfl) ?_ _
 go_wp2
 refine bodyPost_ret (v:=.tuple #[.agg #[.slice a10 m10 c10],.int .i64 (aK (S1.toNat % (1 * 2 ^ k) * 2 ^ 1) (1 * 2 ^ k)),.bool (decide ((0 : Int) < (m11 : Int)))]) (by simp [results,Tryz.results186,go_sem,c0]) rfl ⟨.slice a10 m10 c10,?_,(aa HD).nq.store (aa HD).cv _,aZ (aa HD).bel _ (by omega) _ _⟩
 have h:=(aa HD).nr.pos
 simp only [← h]
 simp
theorem ie {w x K1 X1 S1 V y : Int} {n1 : Bool} (W : World) (HO : Ct 101 #[.int .i64 w,.int .u64 x] (.agg #[.bool n1,.int .i64 K1,.int .i64 X1,.int .u64 S1])) (k3 : (K1 == 3) = true) (HC : Ct 177 #[.int .i64 w] (.int .u64 V)) :
 Calls Tryz.prog 203 #[.int .i64 w,.int .u64 x,.int .i64 y] W fun r W' => r = .returned (.int .u64 V) ∧ Below W.heap.size W W':=by
 go_enter Tryz.func203,Tryz.ntmps203
 go_wp2_with fail
 refine cg1 HO fun w1 hb => ?_
 have HB:=ab (ad hb (.cells #[.bool n1,.int .i64 K1,.int .i64 X1,.int .u64 S1] 105))
 have HA:=ab (ak w1 (.bool n1) (.int .i64 K1) (.int .i64 X1) (.int .u64 S1) 105)
 have HZ0:=ab hb.size
 clear hb
 obtain ⟨c0,c1,c2,c3⟩:=aa HA
 go_wp2_with fail
 clear c0 c1 c2 c3
 refine cg0 HC HB fun w2 HB => ?_
 go_wp2_with fail
 go_ret
 exact ⟨rfl,aa HB⟩
theorem ig {w x K1 X1 S1 V y : Int} {n1 : Bool} (W : World) (HO : Ct 101 #[.int .i64 w,.int .u64 x] (.agg #[.bool n1,.int .i64 K1,.int .i64 X1,.int .u64 S1])) (k3 : (K1 == 3) = false) (k1 : (K1 != 1) = true) (HC : Ct 41 #[.int .i64 w,.int .u64 x] (.int .u64 V)) :
 Calls Tryz.prog 203 #[.int .i64 w,.int .u64 x,.int .i64 y] W fun r W' => r = .returned (.int .u64 V) ∧ Below W.heap.size W W':=by
 go_enter Tryz.func203,Tryz.ntmps203
 go_wp2_with fail
 refine cg1 HO fun w1 hb => ?_
 have HB:=ab (ad hb (.cells #[.bool n1,.int .i64 K1,.int .i64 X1,.int .u64 S1] 105))
 have HA:=ab (ak w1 (.bool n1) (.int .i64 K1) (.int .i64 X1) (.int .u64 S1) 105)
 have HZ0:=ab hb.size
 clear hb
 obtain ⟨c0,c1,c2,c3⟩:=aa HA
 go_wp2_with fail
 clear c0 c1 c2 c3
 refine cg0 HC HB fun w2 HB => ?_
 go_wp2_with fail
 go_ret
 exact ⟨rfl,aa HB⟩
theorem ab8 {w x K1 X1 S1 V h : Int} {n1 : Bool} (W : World) (HO : Ct 101 #[.int .i64 w,.int .u64 x] (.agg #[.bool n1,.int .i64 K1,.int .i64 X1,.int .u64 S1])) (z : Nat) (k3 : (K1 == 3) = false) (k1 : (K1 != 1) = false) (HD : Hid (∀ W,Calls Tryz.prog 186 #[.agg #[.bool n1,.int .i64 K1,.int .i64 X1,.int .u64 S1]] W fun e w' => ∃ s,e = .returned (.tuple #[.agg #[s],.int .i64 h,.bool false]) ∧ ai w' s z ∧ Below W.heap.size W w'))  (HE : Hid (∀ (a : Option Addr) (m c : Nat) (W : World),ai W (.slice a m c) (z) → Calls Tryz.prog 185 #[.int .i64 w,.bool n1,.agg #[.slice a m c],.int .i64 0] W fun r W' => r = .returned (.int .u64 V) ∧ Below W.heap.size W W')) :
 Calls Tryz.prog 203 #[.int .i64 w,.int .u64 x,.int .i64 1] W fun r W' => r = .returned (.int .u64 V) ∧ Below W.heap.size W W':=by
 go_enter Tryz.func203,Tryz.ntmps203
 go_wp2_with fail
 refine cg1 HO fun w1 hb => ?_
 have HB:=ab (ad hb (.cells #[.bool n1,.int .i64 K1,.int .i64 X1,.int .u64 S1] 105))
 have HA:=ab (ak w1 (.bool n1) (.int .i64 K1) (.int .i64 X1) (.int .u64 S1) 105)
 have HZ0:=ab hb.size
 clear hb
 obtain ⟨c0,c1,c2,c3⟩:=aa HA
 go_wp2_with fail
 clear c0 c1 c2 c3
 refine (aa HD _).mono ?_
 rintro _ w2 ⟨s2,rfl,hN,hb⟩
 obtain ⟨a2,m2,c2,rfl⟩:=hN.slice
 have HB:=ab (ad (ac (aa HB) hb) (.cells #[.slice a2 m2 c2] 41))
 have HA:=ab (((aa HA).below hb).below (ae _ (.cells #[.slice a2 m2 c2] 41)))
 have HN:=ab (hN.below (ae _ (.cells #[.slice a2 m2 c2] 41)))
 have HM : Hid ((w2.alloc (.cells #[.slice a2 m2 c2] 41)).cell? ⟨w2.heap.size,0,none⟩ = some (.slice a2 m2 c2) ∧ (w2.alloc (.cells #[.slice a2 m2 c2] 41)).frozen? ⟨w2.heap.size,0,none⟩ = false):=⟨by simp [go_sem],by simp [go_sem]⟩
 have HZ : Hid (W.heap.size ≤ w2.heap.size ∧ w1.heap.size < w2.heap.size):=⟨by have:=aa HZ0; have:=hb.size; simp at this; omega,by have:=hb.size; simp at this; omega⟩
 clear hb hN
 obtain ⟨c0,c1,c2',c3⟩:=aa HA
 obtain ⟨cn,fn⟩:=aa HM
 go_wp2_with fail
 clear c0 c1 c2' c3 cn fn
 generalize w2.alloc (.cells #[.slice a2 m2 c2] 41) = w2' at *
 refine (aa HE _ _ _ _ (aa HN)).mono ?_
 rintro _ wz ⟨rfl,hbl⟩
 have HB:=bt HB hbl
 go_wp2_with fail
 go_ret
 exact ⟨rfl,aa HB⟩
theorem ab9 {w x K1 X1 S1 V h : Int} (W : World) (HO : Ct 101 #[.int .i64 w,.int .u64 x] (.agg #[.bool true,.int .i64 K1,.int .i64 X1,.int .u64 S1])) (z : Nat) (k3 : (K1 == 3) = false) (k1 : (K1 != 1) = false) (HD : Hid (∀ W,Calls Tryz.prog 186 #[.agg #[.bool true,.int .i64 K1,.int .i64 X1,.int .u64 S1]] W fun e w' => ∃ s,e = .returned (.tuple #[.agg #[s],.int .i64 h,.bool true]) ∧ ai w' s z ∧ Below W.heap.size W w'))  (HE : Hid (∀ (a : Option Addr) (m c : Nat) (W : World),ai W (.slice a m c) (z) → Calls Tryz.prog 185 #[.int .i64 w,.bool true,.agg #[.slice a m c],.int .i64 0] W fun r W' => r = .returned (.int .u64 V) ∧ Below W.heap.size W W')) :
 Calls Tryz.prog 203 #[.int .i64 w,.int .u64 x,.int .i64 1] W fun r W' => r = .returned (.int .u64 V) ∧ Below W.heap.size W W':=by
 go_enter Tryz.func203,Tryz.ntmps203
 go_wp2_with fail
 refine cg1 HO fun w1 hb => ?_
 have HB:=ab (ad hb (.cells #[.bool true,.int .i64 K1,.int .i64 X1,.int .u64 S1] 105))
 have HA:=ab (ak w1 (.bool true) (.int .i64 K1) (.int .i64 X1) (.int .u64 S1) 105)
 have HZ0:=ab hb.size
 clear hb
 obtain ⟨c0,c1,c2,c3⟩:=aa HA
 go_wp2_with fail
 clear c0 c1 c2 c3
 refine (aa HD _).mono ?_
 rintro _ w2 ⟨s2,rfl,hN,hb⟩
 obtain ⟨a2,m2,c2,rfl⟩:=hN.slice
 have HB:=ab (ad (ac (aa HB) hb) (.cells #[.slice a2 m2 c2] 41))
 have HA:=ab (((aa HA).below hb).below (ae _ (.cells #[.slice a2 m2 c2] 41)))
 have HN:=ab (hN.below (ae _ (.cells #[.slice a2 m2 c2] 41)))
 have HM : Hid ((w2.alloc (.cells #[.slice a2 m2 c2] 41)).cell? ⟨w2.heap.size,0,none⟩ = some (.slice a2 m2 c2) ∧ (w2.alloc (.cells #[.slice a2 m2 c2] 41)).frozen? ⟨w2.heap.size,0,none⟩ = false):=⟨by simp [go_sem],by simp [go_sem]⟩
 have HZ : Hid (W.heap.size ≤ w2.heap.size ∧ w1.heap.size < w2.heap.size):=⟨by have:=aa HZ0; have:=hb.size; simp at this; omega,by have:=hb.size; simp at this; omega⟩
 clear hb hN
 obtain ⟨c0,c1,c2',c3⟩:=aa HA
 obtain ⟨cn,fn⟩:=aa HM
 go_wp2_with fail
 clear c0 c1 c2' c3 cn fn
 generalize w2.alloc (.cells #[.slice a2 m2 c2] 41) = w2' at *
 refine (aa HE _ _ _ _ (aa HN)).mono ?_
 rintro _ wz ⟨rfl,hbl⟩
 have HB:=bt HB hbl
 go_wp2_with fail
 go_ret
 exact ⟨rfl,aa HB⟩
theorem aca {w x K1 X1 S1 V h : Int} {n1 : Bool} (W : World) (HO : Ct 101 #[.int .i64 w,.int .u64 x] (.agg #[.bool n1,.int .i64 K1,.int .i64 X1,.int .u64 S1])) (z : Nat) (k3 : (K1 == 3) = false) (k1 : (K1 != 1) = false) (HD : Hid (∀ W,Calls Tryz.prog 186 #[.agg #[.bool n1,.int .i64 K1,.int .i64 X1,.int .u64 S1]] W fun e w' => ∃ s,e = .returned (.tuple #[.agg #[s],.int .i64 h,.bool false]) ∧ ai w' s z ∧ Below W.heap.size W w'))  (HE : Hid (∀ (a : Option Addr) (m c : Nat) (W : World),ai W (.slice a m c) (z) → Calls Tryz.prog 185 #[.int .i64 w,.bool n1,.agg #[.slice a m c],.int .i64 0] W fun r W' => r = .returned (.int .u64 V) ∧ Below W.heap.size W W')) :
 Calls Tryz.prog 203 #[.int .i64 w,.int .u64 x,.int .i64 2] W fun r W' => r = .returned (.int .u64 V) ∧ Below W.heap.size W W':=by
 go_enter Tryz.func203,Tryz.ntmps203
 go_wp2_with fail
 refine cg1 HO fun w1 hb => ?_
 have HB:=ab (ad hb (.cells #[.bool n1,.int .i64 K1,.int .i64 X1,.int .u64 S1] 105))
 have HA:=ab (ak w1 (.bool n1) (.int .i64 K1) (.int .i64 X1) (.int .u64 S1) 105)
 have HZ0:=ab hb.size
 clear hb
 obtain ⟨c0,c1,c2,c3⟩:=aa HA
 go_wp2_with fail
 clear c0 c1 c2 c3
 refine (aa HD _).mono ?_
 rintro _ w2 ⟨s2,rfl,hN,hb⟩
 obtain ⟨a2,m2,c2,rfl⟩:=hN.slice
 have HB:=ab (ad (ac (aa HB) hb) (.cells #[.slice a2 m2 c2] 41))
 have HA:=ab (((aa HA).below hb).below (ae _ (.cells #[.slice a2 m2 c2] 41)))
 have HN:=ab (hN.below (ae _ (.cells #[.slice a2 m2 c2] 41)))
 have HM : Hid ((w2.alloc (.cells #[.slice a2 m2 c2] 41)).cell? ⟨w2.heap.size,0,none⟩ = some (.slice a2 m2 c2) ∧ (w2.alloc (.cells #[.slice a2 m2 c2] 41)).frozen? ⟨w2.heap.size,0,none⟩ = false):=⟨by simp [go_sem],by simp [go_sem]⟩
 have HZ : Hid (W.heap.size ≤ w2.heap.size ∧ w1.heap.size < w2.heap.size):=⟨by have:=aa HZ0; have:=hb.size; simp at this; omega,by have:=hb.size; simp at this; omega⟩
 clear hb hN
 obtain ⟨c0,c1,c2',c3⟩:=aa HA
 obtain ⟨cn,fn⟩:=aa HM
 go_wp2_with fail
 clear c0 c1 c2' c3 cn fn
 generalize w2.alloc (.cells #[.slice a2 m2 c2] 41) = w2' at *
 refine (aa HE _ _ _ _ (aa HN)).mono ?_
 rintro _ wz ⟨rfl,hbl⟩
 have HB:=bt HB hbl
 go_wp2_with fail
 go_ret
 exact ⟨rfl,aa HB⟩
theorem acb {w x K1 X1 S1 V h : Int} (W : World) (HO : Ct 101 #[.int .i64 w,.int .u64 x] (.agg #[.bool false,.int .i64 K1,.int .i64 X1,.int .u64 S1])) (z : Nat) (k3 : (K1 == 3) = false) (k1 : (K1 != 1) = false) (HD : Hid (∀ W,Calls Tryz.prog 186 #[.agg #[.bool false,.int .i64 K1,.int .i64 X1,.int .u64 S1]] W fun e w' => ∃ s,e = .returned (.tuple #[.agg #[s],.int .i64 h,.bool true]) ∧ ai w' s z ∧ Below W.heap.size W w'))  (HE : Hid (∀ (a : Option Addr) (m c : Nat) (W : World),ai W (.slice a m c) (z) → Calls Tryz.prog 185 #[.int .i64 w,.bool false,.agg #[.slice a m c],.int .i64 0] W fun r W' => r = .returned (.int .u64 V) ∧ Below W.heap.size W W')) :
 Calls Tryz.prog 203 #[.int .i64 w,.int .u64 x,.int .i64 2] W fun r W' => r = .returned (.int .u64 V) ∧ Below W.heap.size W W':=by
 go_enter Tryz.func203,Tryz.ntmps203
 go_wp2_with fail
 refine cg1 HO fun w1 hb => ?_
 have HB:=ab (ad hb (.cells #[.bool false,.int .i64 K1,.int .i64 X1,.int .u64 S1] 105))
 have HA:=ab (ak w1 (.bool false) (.int .i64 K1) (.int .i64 X1) (.int .u64 S1) 105)
 have HZ0:=ab hb.size
 clear hb
 obtain ⟨c0,c1,c2,c3⟩:=aa HA
 go_wp2_with fail
 clear c0 c1 c2 c3
 refine (aa HD _).mono ?_
 rintro _ w2 ⟨s2,rfl,hN,hb⟩
 obtain ⟨a2,m2,c2,rfl⟩:=hN.slice
 have HB:=ab (ad (ac (aa HB) hb) (.cells #[.slice a2 m2 c2] 41))
 have HA:=ab (((aa HA).below hb).below (ae _ (.cells #[.slice a2 m2 c2] 41)))
 have HN:=ab (hN.below (ae _ (.cells #[.slice a2 m2 c2] 41)))
 have HM : Hid ((w2.alloc (.cells #[.slice a2 m2 c2] 41)).cell? ⟨w2.heap.size,0,none⟩ = some (.slice a2 m2 c2) ∧ (w2.alloc (.cells #[.slice a2 m2 c2] 41)).frozen? ⟨w2.heap.size,0,none⟩ = false):=⟨by simp [go_sem],by simp [go_sem]⟩
 have HZ : Hid (W.heap.size ≤ w2.heap.size ∧ w1.heap.size < w2.heap.size):=⟨by have:=aa HZ0; have:=hb.size; simp at this; omega,by have:=hb.size; simp at this; omega⟩
 clear hb hN
 obtain ⟨c0,c1,c2',c3⟩:=aa HA
 obtain ⟨cn,fn⟩:=aa HM
 go_wp2_with fail
 clear c0 c1 c2' c3 cn fn
 generalize w2.alloc (.cells #[.slice a2 m2 c2] 41) = w2' at *
 refine (aa HE _ _ _ _ (aa HN)).mono ?_
 rintro _ wz ⟨rfl,hbl⟩
 have HB:=bt HB hbl
 go_wp2_with fail
 go_ret
 exact ⟨rfl,aa HB⟩
theorem aim {w x K1 X1 S1 V h : Int} {n1 l : Bool} (W : World) (HO : Ct 101 #[.int .i64 w,.int .u64 x] (.agg #[.bool n1,.int .i64 K1,.int .i64 X1,.int .u64 S1])) (z : Nat) (k3 : (K1 == 3) = false) (k1 : (K1 != 1) = false) (HD : Hid (∀ W,Calls Tryz.prog 186 #[.agg #[.bool n1,.int .i64 K1,.int .i64 X1,.int .u64 S1]] W fun e w' => ∃ s,e = .returned (.tuple #[.agg #[s],.int .i64 h,.bool l]) ∧ ai w' s z ∧ Below W.heap.size W w'))  (HE : Hid (∀ (a : Option Addr) (m c : Nat) (W : World),ai W (.slice a m c) (z) → Calls Tryz.prog 185 #[.int .i64 w,.bool n1,.agg #[.slice a m c],.int .i64 0] W fun r W' => r = .returned (.int .u64 V) ∧ Below W.heap.size W W')) :
 Calls Tryz.prog 203 #[.int .i64 w,.int .u64 x,.int .i64 3] W fun r W' => r = .returned (.int .u64 V) ∧ Below W.heap.size W W':=by
 go_enter Tryz.func203,Tryz.ntmps203
 go_wp2_with fail
 refine cg1 HO fun w1 hb => ?_
 have HB:=ab (ad hb (.cells #[.bool n1,.int .i64 K1,.int .i64 X1,.int .u64 S1] 105))
 have HA:=ab (ak w1 (.bool n1) (.int .i64 K1) (.int .i64 X1) (.int .u64 S1) 105)
 have HZ0:=ab hb.size
 clear hb
 obtain ⟨c0,c1,c2,c3⟩:=aa HA
 go_wp2_with fail
 clear c0 c1 c2 c3
 refine (aa HD _).mono ?_
 rintro _ w2 ⟨s2,rfl,hN,hb⟩
 obtain ⟨a2,m2,c2,rfl⟩:=hN.slice
 have HB:=ab (ad (ac (aa HB) hb) (.cells #[.slice a2 m2 c2] 41))
 have HA:=ab (((aa HA).below hb).below (ae _ (.cells #[.slice a2 m2 c2] 41)))
 have HN:=ab (hN.below (ae _ (.cells #[.slice a2 m2 c2] 41)))
 have HM : Hid ((w2.alloc (.cells #[.slice a2 m2 c2] 41)).cell? ⟨w2.heap.size,0,none⟩ = some (.slice a2 m2 c2) ∧ (w2.alloc (.cells #[.slice a2 m2 c2] 41)).frozen? ⟨w2.heap.size,0,none⟩ = false):=⟨by simp [go_sem],by simp [go_sem]⟩
 have HZ : Hid (W.heap.size ≤ w2.heap.size ∧ w1.heap.size < w2.heap.size):=⟨by have:=aa HZ0; have:=hb.size; simp at this; omega,by have:=hb.size; simp at this; omega⟩
 clear hb hN
 obtain ⟨c0,c1,c2',c3⟩:=aa HA
 obtain ⟨cn,fn⟩:=aa HM
 go_wp2_with fail
 clear c0 c1 c2' c3 cn fn
 generalize w2.alloc (.cells #[.slice a2 m2 c2] 41) = w2' at *
 refine (aa HE _ _ _ _ (aa HN)).mono ?_
 rintro _ wz ⟨rfl,hbl⟩
 have HB:=bt HB hbl
 go_wp2_with fail
 go_ret
 exact ⟨rfl,aa HB⟩
theorem acc {w x K1 X1 S1 V : Int} {n1 l : Bool} (W : World) (HO : Ct 101 #[.int .i64 w,.int .u64 x] (.agg #[.bool n1,.int .i64 K1,.int .i64 X1,.int .u64 S1])) (z : Nat) (k3 : (K1 == 3) = false) (k1 : (K1 != 1) = false) (HD : Hid (∀ W,Calls Tryz.prog 186 #[.agg #[.bool n1,.int .i64 K1,.int .i64 X1,.int .u64 S1]] W fun e w' => ∃ s,e = .returned (.tuple #[.agg #[s],.int .i64 (-1),.bool l]) ∧ ai w' s z ∧ Below W.heap.size W w'))  (HE : Hid (∀ (a : Option Addr) (m c : Nat) (W : World),ai W (.slice a m c) (z) → Calls Tryz.prog 185 #[.int .i64 w,.bool n1,.agg #[.slice a m c],.int .i64 0] W fun r W' => r = .returned (.int .u64 V) ∧ Below W.heap.size W W')) :
 Calls Tryz.prog 203 #[.int .i64 w,.int .u64 x,.int .i64 4] W fun r W' => r = .returned (.int .u64 V) ∧ Below W.heap.size W W':=by
 go_enter Tryz.func203,Tryz.ntmps203
 go_wp2_with fail
 refine cg1 HO fun w1 hb => ?_
 have HB:=ab (ad hb (.cells #[.bool n1,.int .i64 K1,.int .i64 X1,.int .u64 S1] 105))
 have HA:=ab (ak w1 (.bool n1) (.int .i64 K1) (.int .i64 X1) (.int .u64 S1) 105)
 have HZ0:=ab hb.size
 clear hb
 obtain ⟨c0,c1,c2,c3⟩:=aa HA
 go_wp2_with fail
 clear c0 c1 c2 c3
 refine (aa HD _).mono ?_
 rintro _ w2 ⟨s2,rfl,hN,hb⟩
 obtain ⟨a2,m2,c2,rfl⟩:=hN.slice
 have HB:=ab (ad (ac (aa HB) hb) (.cells #[.slice a2 m2 c2] 41))
 have HA:=ab (((aa HA).below hb).below (ae _ (.cells #[.slice a2 m2 c2] 41)))
 have HN:=ab (hN.below (ae _ (.cells #[.slice a2 m2 c2] 41)))
 have HM : Hid ((w2.alloc (.cells #[.slice a2 m2 c2] 41)).cell? ⟨w2.heap.size,0,none⟩ = some (.slice a2 m2 c2) ∧ (w2.alloc (.cells #[.slice a2 m2 c2] 41)).frozen? ⟨w2.heap.size,0,none⟩ = false):=⟨by simp [go_sem],by simp [go_sem]⟩
 have HZ : Hid (W.heap.size ≤ w2.heap.size ∧ w1.heap.size < w2.heap.size):=⟨by have:=aa HZ0; have:=hb.size; simp at this; omega,by have:=hb.size; simp at this; omega⟩
 clear hb hN
 obtain ⟨c0,c1,c2',c3⟩:=aa HA
 obtain ⟨cn,fn⟩:=aa HM
 go_wp2_with fail
 clear c0 c1 c2' c3 cn fn
 generalize w2.alloc (.cells #[.slice a2 m2 c2] 41) = w2' at *
 refine (aa HE _ _ _ _ (aa HN)).mono ?_
 rintro _ wz ⟨rfl,hbl⟩
 have HB:=bt HB hbl
 go_wp2_with fail
 go_ret
 exact ⟨rfl,aa HB⟩
end Go.Proofs.YtpbgpdmffejdgaaGreatDoor
