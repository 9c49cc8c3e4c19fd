/- MNuE, MRadC, MRadS, MChB, MChC. -/
import Derived.Test.YtpbgpdmffejdgaaGreatDoorG01
import Derived.Test.YtpbgpdmffejdgaaGreatDoorG05
import Derived.Test.YtpbgpdmffejdgaaGreatDoorG10
import Derived.Test.YtpbgpdmffejdgaaGreatDoorG16
import Derived.Test.YtpbgpdmffejdgaaGreatDoorG27
import Derived.Test.YtpbgpdmffejdgaaGreatDoorG30
import Derived.WalkMore
import Derived.Deep.Cut
import Derived.Deep.DeepCutAuto
namespace Go.Proofs.YtpbgpdmffejdgaaGreatDoor
set_option maxHeartbeats 4000000
set_option maxRecDepth 100000
open Go.RowKit
theorem im {op a b f n d o k ti tu w v x y r t : Int} (HF : Cm 24 #[.int .i64 op] (.tuple #[.agg #[.int .i64 f,.int .i64 n,.int .i64 d,.int .u8 o],.int .i64 k,.bool true])) (HT : Cm 25 #[.agg #[.int .i64 f,.int .i64 n,.int .i64 d,.int .u8 o],.int .i64 k] (.agg #[.int .u8 ti,.int .u8 tu])) (HW : Ct 33 #[.int .u8 ti] (.int .i64 w)) (HV : Ct 33 #[.int .u8 tu] (.int .i64 v)) (HA : Ct 17 #[.int .i64 w,.int .u64 a] (.int .u64 x)) (HC : Ct 17 #[.int .i64 w,.int .u64 b] (.int .u64 y))
 (HQ : (d = 0 ∧ t = 0 ∧ ∃ so,Cm 35 #[.int .i64 k,.int .i64 w,.int .u64 x,.int .u64 y] (.bool so) ∧ Ct 34 #[.bool so] (.int .u64 r)) ∨
  (d = 1 ∧ t = 0 ∧ ∃ so,Cm 36 #[.int .i64 k,.int .i64 w,.int .u64 x,.int .u64 y] (.bool so) ∧ Ct 34 #[.bool so] (.int .u64 r)) ∨
  (d = 2 ∧ Cm 37 #[.int .i64 k,.int .i64 w,.int .u64 x,.int .u64 y] (.tuple #[.int .u64 r,.int .i64 t])) ∨
  (d = 3 ∧ t = 0 ∧ Cm 38 #[.int .i64 k,.int .i64 w,.int .u64 x,.int .u64 y] (.int .u64 r)) ∨
  (d = 4 ∧ Cm 39 #[.int .i64 k,.int .i64 w,.int .i64 v,.int .u64 x] (.tuple #[.int .u64 r,.int .i64 t])) ∨
  (d = 5 ∧ t = 0 ∧ Cm 40 #[.int .i64 k,.int .i64 w,.int .i64 v,.int .u64 x] (.int .u64 r))) :
 Cm 13 #[.int .i64 op,.int .u64 a,.int .u64 b] (.tuple #[.int .u64 r,.int .i64 t]):=by
 refine ab (fun W m => ?_)
 have HM:=ab m
 clear m
 have HB:=rf W
 go_enter Tryz.func13,Tryz.ntmps13
 go_wp2_with fail
 refine (aa HF _ (aa HM)).mono ?_
 rintro _ w1 ⟨rfl,hb⟩
 have HB:=bt HB hb
 have HM:=ab ((aa HM).below hb)
 clear hb
 have HB:=ab (ad (aa HB) (.cells #[.int .i64 f,.int .i64 n,.int .i64 d,.int .u8 o] 55))
 have HG:=ab (ak w1 (.int .i64 f) (.int .i64 n) (.int .i64 d) (.int .u8 o) 55)
 have HM:=ab ((aa HM).below (ae w1 (.cells #[.int .i64 f,.int .i64 n,.int .i64 d,.int .u8 o] 55)))
 go_wp2_with fail
 refine (aa HT _ (aa HM)).mono ?_
 rintro _ w2 ⟨rfl,hb⟩
 have HB:=bt HB hb
 have HM:=ab ((aa HM).below hb)
 have HG:=ab ((aa HG).below hb)
 clear hb
 have HB:=ab (ad (aa HB) (.cells #[.int .u8 ti,.int .u8 tu] 59)).drew
 have HG:=ab ((aa HG).below (ae w2 (.cells #[.int .u8 ti,.int .u8 tu] 59)).drew)
 have HM:=ab ((aa HM).below (ae w2 (.cells #[.int .u8 ti,.int .u8 tu] 59)).drew)
 have H2:=ab ((nj w2 (.int .u8 ti) (.int .u8 tu) 59).below ((Below.refl _ _).drew))
 go_wp2_with fail
 refine wp_region_held_drew (S:=fun w' => (w'.cell? ⟨w2.heap.size,0,none⟩ = some (.int .u8 ti) ∧ w'.cell? ⟨w2.heap.size,1,none⟩ = some (.int .u8 tu))) (by kernel_rfl) ?_ (fun hHeld => ?_)
 ·(try dsimp only)
  exact aa H2
 refine aC 8 (by kernel_rfl) ?_
 refine tkA 0 25 1 ?_
 refine tkA 1 26 3 ?_
 refine tkA 3 28 11 ?_
 refine tkA 4 29 27 ?_
 refine rdA 2 31 (fun Kk hKk => ?_)
 go_simp
 refine cg1 HW fun w3 hb => ?_
 have HB:=bt HB hb
 have HM:=ab ((aa HM).below hb)
 have HG:=ab ((aa HG).below hb)
 have H2:=ab ((aa H2).below hb)
 clear hb
 (try go_wp2_with fail)
 refine oA hKk (aa H2) fun hHeld => ?_
 clear hKk Kk
 refine rdA 5 63 (fun Kk hKk => ?_)
 go_simp
 refine cg1 HV fun w4 hb => ?_
 have HB:=bt HB hb
 have HM:=ab ((aa HM).below hb)
 have HG:=ab ((aa HG).below hb)
 have H2:=ab ((aa H2).below hb)
 clear hb
 (try go_wp2_with fail)
 refine oA hKk (aa H2) fun hHeld => ?_
 clear hKk Kk
 refine tkA 6 12 127 ?_
 refine tkA 7 13 255 ?_
 refine wpAnyH_done (by kernel_rfl) ?_ _
 clear hHeld H2
 go_wp2_with fail
 refine cg1 HA fun w5 hb => ?_
 have HB:=bt HB hb
 have HM:=ab ((aa HM).below hb)
 have HG:=ab ((aa HG).below hb)
 clear hb
 go_wp2_with fail
 refine cg1 HC fun w6 hb => ?_
 have HB:=bt HB hb
 have HM:=ab ((aa HM).below hb)
 have HG:=ab ((aa HG).below hb)
 clear hb
 obtain ⟨c0,c1,c2,c3⟩:=aa HG
 have HZ:=HB
 have HN:=HM
 rcases HQ with ⟨rfl,rfl,so,HQ,HR⟩ | ⟨rfl,rfl,so,HQ,HR⟩ | ⟨rfl,HQ⟩ | ⟨rfl,rfl,HQ⟩ | ⟨rfl,HQ⟩ | ⟨rfl,rfl,HQ⟩
 all_goals
  go_wp2_with fail
  clear c0 c1 c2 c3
  refine (aa HQ _ (aa HN)).mono ?_
  rintro _ w7 ⟨rfl,hb⟩
  have HB:=ab (ac (aa HZ) hb)
  clear hb
  go_wp2_with fail
  try
   refine cg0 HR HB fun w8 HB => ?_
   go_wp2_with fail
  go_ret2
  exact ⟨rfl,aa HB⟩
theorem akx {op a b : Int} (HF : Cm 24 #[.int .i64 op] (.tuple #[.agg #[.int .i64 0,.int .i64 0,.int .i64 0,.int .u8 0],.int .i64 0,.bool false])) : Cm 13 #[.int .i64 op,.int .u64 a,.int .u64 b] (.tuple #[.int .u64 0,.int .i64 0]):=by
 refine ab (fun W m => ?_)
 have HM:=ab m
 clear m
 have HB:=rf W
 go_enter Tryz.func13,Tryz.ntmps13
 go_wp2_with fail
 refine (aa HF _ (aa HM)).mono ?_
 rintro _ w1 ⟨rfl,hb⟩
 have HB:=bt HB hb
 have HM:=ab ((aa HM).below hb)
 clear hb
 have HB:=ab (ad (aa HB) (.cells #[.int .i64 0,.int .i64 0,.int .i64 0,.int .u8 0] 55))
 go_wp2_with fail
 go_ret2
 exact ⟨rfl,aa HB⟩
set_option maxHeartbeats 2000000
open Go.Proofs.YtpbgpdmffejdgaaGreatDoor.W
theorem qj (x : Int) : x.tmod 2 = 0 ↔ x % 2 = 0:=by
 have h:=Int.tmod_add_mul_tdiv x 2
 constructor
 ·intro h0
  omega
 ·intro h0
  by_cases hx : 0 ≤ x
  ·rw [Int.tmod_eq_emod_of_nonneg hx]
   exact h0
  ·have h1 : (-x).tmod 2 = -(x.tmod 2):=Int.neg_tmod x 2
   rw [Int.tmod_eq_emod_of_nonneg (by omega)] at h1
   omega
def Ev (v : Nat) (X : Int) (k : Nat) : Prop:=Go.bitLen v + k ≤ 127 ∨ (Go.bitLen v + k = 128 ∧ (X - k).tmod 2 = 0)
theorem abi {v k : Nat} {X : Int} (h : Ev v X k) : W2 (v * 2 ^ k):=by
 unfold W2
 by_cases h0 : v = 0
 ·rw [h0,Nat.zero_mul]; omega
 ·have:=fd (x:=v * 2 ^ k) (k:=128) (by rw [dO _ _ h0]; unfold Ev at h; omega)
  omega
theorem ahv {v k : Nat} {X : Int} (h : Ev v X k) (hc : Go.bitLen v + k < 127 ∨ (X - k).tmod 2 ≠ 0) : Ev v X (k + 1) ∧ b7 (v * 2 ^ k) 1 = v * 2 ^ (k + 1):=by
 have h' : Ev v X (k + 1):=by
  unfold Ev at *
  rcases h with h | h
  ·by_cases hl : Go.bitLen v + k < 127
   ·exact Or.inl (by omega)
   ·refine Or.inr ⟨by omega,?_⟩
    have e1:=qj (X - (k : Int))
    have e2:=qj (X - ((k + 1 : Nat) : Int))
    omega
  ·omega
 refine ⟨h',?_⟩
 have:=abi h'
 unfold W2 at this
 unfold b7
 rw [show (1 : Int).toNat = 1 from rfl,Nat.mul_assoc,← Nat.pow_add,Nat.mod_eq_of_lt (by omega)]
theorem sJ {K X : Int} {v : Nat} {n : Bool} (W : World) (v0 : v ≠ 0) (v1 : v < 18446744073709551616) (x0 : -4000 ≤ X) (x1 : X ≤ 4000) :
 Calls Tryz.prog 158 #[.agg #[.bool n,.int .i64 K,.int .i64 X,.int .u64 (v : Int)]] W fun r W' => ∃ k : Nat,r = .returned (.tuple #[.agg #[.int .u64 (hi (v * 2 ^ k)),.int .u64 (lo (v * 2 ^ k))],.int .i64 (X - k)]) ∧ (127 ≤ Go.bitLen v + k ∧ Go.bitLen v + k ≤ 128 ∧ (X - k).tmod 2 = 0) ∧ Below W.heap.size W W':=by
 have HO:=fun W => fG (v : Int) W (by omega) (by omega)
 rw [Int.toNat_natCast] at HO
 have HO:=ab HO
 have HE : Hid (Ev v X 0):=Or.inl (by have:=dC (k:=64) v1; omega)
 go_enter Tryz.func158,Tryz.ntmps158
 go_wp2_with fail
 have HB:=ab (aq W (.cells #[.bool n,.int .i64 K,.int .i64 X,.int .u64 (v : Int)] 37) (.cells #[.int .u64 0,.int .u64 0] 135)).drew
 have HA:=ab ((bD W (.bool n) (.int .i64 K) (.int .i64 X) (.int .u64 (v : Int)) 37 (.cells #[.int .u64 0,.int .u64 0] 135)).below ((Below.refl _ _).drew))
 have HR : Hid (aS (W.heap.size + 1) 2 ((W.alloc (.cells #[.bool n,.int .i64 K,.int .i64 X,.int .u64 (v : Int)] 37)).alloc (.cells #[.int .u64 0,.int .u64 0] 135)).drew):=by
  have:=jr (W.alloc (.cells #[.bool n,.int .i64 K,.int .i64 X,.int .u64 (v : Int)] 37)) (.int .u64 0) (.int .u64 0) 135
  rw [show (W.alloc (.cells #[.bool n,.int .i64 K,.int .i64 X,.int .u64 (v : Int)] 37)).heap.size = W.heap.size + 1 by simp] at this
  exact this.drew
 go_step3
 go_wp2_with fail
 go_cut [3] (fun t wx => t = .int .i64 X ∧ At2 (W.heap.size + 1) (.int .u64 (hi v)) (.int .u64 (lo v)) wx ∧ aS (W.heap.size + 1) 2 wx ∧ Below W.heap.size W wx)
 case first =>
  obtain ⟨c0,c1,c2,c3⟩:=aa HA
  obtain ⟨⟨y0,f0⟩,r0⟩:=(aa HR) 0 (by omega)
  obtain ⟨⟨y1,f1⟩,r1⟩:=(aa HR) 1 (by omega)
  go_region_with (first
   | (go_at_call 161; refine (aa HO _).mono ?_; rintro e w8 ⟨rfl,hbl⟩; have HB8:=bt HB hbl; have HR8:=ab ((aa HR).below hbl); obtain ⟨e0,e1,e2,e3⟩:=(aa HA).below hbl; obtain ⟨⟨v0,g0⟩,s0⟩:=(aa HR8) 0 (by omega); obtain ⟨⟨v1,g1⟩,s1⟩:=(aa HR8) 1 (by omega); clear hbl))
  all_goals
   go_wp2_with fail
   go_meet
   exact ⟨rfl,dK (aa HR8) _ _,(aa HR8).set2 _ _,eS (aa HB8) (by omega) _ _⟩
 case rest =>
  obtain ⟨rfl,H2,HR,HB⟩:=hcut
  clear HA HO
  go_wp2_with fail
  go_step3
  go_wp2_with fail
  go_loopw [3] (fun x wr => ∃ k : Nat,x = .int .i64 (X - k) ∧ Ev v X k ∧ At2 (W.heap.size + 1) (.int .u64 (hi (v * 2 ^ k))) (.int .u64 (lo (v * 2 ^ k))) wr ∧ aS (W.heap.size + 1) 2 wr ∧ Below W.heap.size W wr) (fun x _ => (intOf x - (X - 128)).toNat)
  case atStart =>
   refine ⟨0,by rw [show X - ((0 : Nat) : Int) = X by omega],aa HE,?_,HR,HB⟩
   rw [Nat.pow_zero,Nat.mul_one]
   exact H2
  case round =>
   clear H2 HR HB HE
   obtain ⟨k,rfl,he,h2,hr,hb⟩:=hrel
   have H2:=ab h2
   have HR:=ab hr
   have HB:=ab hb
   clear h2 hr hb
   have hk : k ≤ 128:=by unfold Ev at he; omega
   have hw:=abi he
   have hlen : Go.bitLen (v * 2 ^ k) = Go.bitLen v + k:=by rw [dO _ _ v0]; omega
   have HN:=fun W => tP (v * 2 ^ k) W hw
   rw [hlen] at HN
   obtain ⟨L,hL⟩ : ∃ L : Int,((Go.bitLen v + k : Nat) : Int) = L:=⟨_,rfl⟩
   rw [hL] at HN
   have HN:=ab HN
   obtain ⟨u,hu⟩ : ∃ u : Nat,v * 2 ^ k = u:=⟨_,rfl⟩
   have ZN:=ab (fun hc => ahv he hc)
   rw [hu] at HN H2 hw ZN
   have HV:=ab hu
   have HE:=ab he
   have HW:=ab hw
   clear hu hlen he hw
   obtain ⟨d0,d1⟩:=aa H2
   by_cases hc : L < 127
   ·have HX:=ab (aa ZN (Or.inl (by omega)))
    have hk2 : k + 1 ≤ 128:=by have:=(aa HX).1; unfold Ev at this; omega
    have HS:=fun W => fR u 1 W (aa HW)
    rw [(aa HX).2] at HS
    have HS:=ab HS
    have k1 : IntKind.i64.wrap (X - (k : Int) - 1) = X - ((k + 1 : Nat) : Int):=by rw [aj (by omega) (by omega)]; omega
    go_wp2_with fail
    clear d0 d1
    refine cg1 HN fun w2 hb => ?_
    have HB:=bt HB hb
    have H2:=ab ((aa H2).below hb)
    have HR:=ab ((aa HR).below hb)
    clear hb
    obtain ⟨d0,d1⟩:=aa H2
    obtain ⟨⟨y0,g0⟩,s0⟩:=(aa HR) 0 (by omega)
    obtain ⟨⟨y1,g1⟩,s1⟩:=(aa HR) 1 (by omega)
    go_wp2_with fail
    clear d0 d1 g0 g1 s0 s1 y0 y1
    refine cg1 HS fun w3 hb => ?_
    have HB:=bt HB hb
    have H2:=ab ((aa H2).below hb)
    have HR:=ab ((aa HR).below hb)
    clear hb
    obtain ⟨d0,d1⟩:=aa H2
    obtain ⟨⟨y0,g0⟩,s0⟩:=(aa HR) 0 (by omega)
    obtain ⟨⟨y1,g1⟩,s1⟩:=(aa HR) 1 (by omega)
    have RX:=ab (And.intro (aa HX).1 (And.intro (dK (aa HR) (.int .u64 (hi (v * 2 ^ (k + 1)))) (.int .u64 (lo (v * 2 ^ (k + 1))))) (And.intro ((aa HR).set2 (.int .u64 (hi (v * 2 ^ (k + 1)))) (.int .u64 (lo (v * 2 ^ (k + 1))))) (eS (aa HB) (show W.heap.size ≤ W.heap.size + 1 by omega) (.int .u64 (hi (v * 2 ^ (k + 1)))) (.int .u64 (lo (v * 2 ^ (k + 1))))))))
    go_wp2
    exact ⟨⟨k + 1,rfl,aa RX⟩,by simp only [intOf]; omega⟩
   ·by_cases hp : (X - (k : Int)).tmod 2 = 0
    ·have q1 : (IntKind.i64.wrap ((X - (k : Int)).tmod 2) != 0) = false:=by rw [hp]; decide
     have HP:=ab hp
     go_wp2_with fail
     clear d0 d1
     refine cg1 HN fun w2 hb => ?_
     have HB:=bt HB hb
     have H2:=ab ((aa H2).below hb)
     have HR:=ab ((aa HR).below hb)
     clear hb
     obtain ⟨d0,d1⟩:=aa H2
     obtain ⟨⟨y0,g0⟩,s0⟩:=(aa HR) 0 (by omega)
     obtain ⟨⟨y1,g1⟩,s1⟩:=(aa HR) 1 (by omega)
     go_wp2_with fail
     rw [Exit.noGoto_ret]
     exact bodyPost_ret (v:=.tuple #[.agg #[.int .u64 (hi u),.int .u64 (lo u)],.int .i64 (X - k)]) (by simp (maxDischargeDepth:=8) [results,Tryz.results158,go_sem,g0,g1]) rfl ⟨k,by rw [aa HV],⟨by omega,by have:=aa HE; unfold Ev at this; omega,aa HP⟩,eS (aa HB) (by omega) _ _⟩
    ·have q1 : (X - (k : Int)).tmod 2 = 1 ∨ (X - (k : Int)).tmod 2 = -1:=by
      have h1:=Int.tmod_add_mul_tdiv (X - (k : Int)) 2
      have h2:=Int.tmod_lt_of_pos (X - (k : Int)) (show (0 : Int) < 2 by omega)
      have h3:=Int.neg_tmod (X - (k : Int)) 2
      have h4:=Int.tmod_lt_of_pos (-(X - (k : Int))) (show (0 : Int) < 2 by omega)
      omega
     have q2 : (IntKind.i64.wrap ((X - (k : Int)).tmod 2) != 0) = true:=by rw [aj (by omega) (by omega)]; exact dj hp
     have HX:=ab (aa ZN (Or.inr hp))
     have hk2 : k + 1 ≤ 128:=by have:=(aa HX).1; unfold Ev at this; omega
     have HS:=fun W => fR u 1 W (aa HW)
     rw [(aa HX).2] at HS
     have HS:=ab HS
     have k1 : IntKind.i64.wrap (X - (k : Int) - 1) = X - ((k + 1 : Nat) : Int):=by rw [aj (by omega) (by omega)]; omega
     go_wp2_with fail
     clear d0 d1
     refine cg1 HN fun w2 hb => ?_
     have HB:=bt HB hb
     have H2:=ab ((aa H2).below hb)
     have HR:=ab ((aa HR).below hb)
     clear hb
     obtain ⟨d0,d1⟩:=aa H2
     obtain ⟨⟨y0,g0⟩,s0⟩:=(aa HR) 0 (by omega)
     obtain ⟨⟨y1,g1⟩,s1⟩:=(aa HR) 1 (by omega)
     go_wp2_with fail
     clear d0 d1 g0 g1 s0 s1 y0 y1
     refine cg1 HS fun w3 hb => ?_
     have HB:=bt HB hb
     have H2:=ab ((aa H2).below hb)
     have HR:=ab ((aa HR).below hb)
     clear hb
     obtain ⟨d0,d1⟩:=aa H2
     obtain ⟨⟨y0,g0⟩,s0⟩:=(aa HR) 0 (by omega)
     obtain ⟨⟨y1,g1⟩,s1⟩:=(aa HR) 1 (by omega)
     have RX:=ab (And.intro (aa HX).1 (And.intro (dK (aa HR) (.int .u64 (hi (v * 2 ^ (k + 1)))) (.int .u64 (lo (v * 2 ^ (k + 1))))) (And.intro ((aa HR).set2 (.int .u64 (hi (v * 2 ^ (k + 1)))) (.int .u64 (lo (v * 2 ^ (k + 1))))) (eS (aa HB) (show W.heap.size ≤ W.heap.size + 1 by omega) (.int .u64 (hi (v * 2 ^ (k + 1)))) (.int .u64 (lo (v * 2 ^ (k + 1))))))))
     go_wp2
     exact ⟨⟨k + 1,rfl,aa RX⟩,by simp only [intOf]; omega⟩
theorem abh {w x K X S V : Int} {n : Bool} (W : World) (HO : Ct 15 #[.int .i64 w,.int .u64 x] (.agg #[.bool n,.int .i64 K,.int .i64 X,.int .u64 S])) (a0 : (K == 0) = true) (HC : Ct 155 #[.int .i64 w,.bool n] (.int .u64 V)) :
 Calls Tryz.prog 84 #[.int .i64 w,.int .u64 x] W fun r W' => r = .returned (.int .u64 V) ∧ Below W.heap.size W W':=by
 go_enter Tryz.func84,Tryz.ntmps84
 go_wp2_with fail
 refine cg1 HO fun w1 hb => ?_
 have HB:=ab (ad hb (.cells #[.bool n,.int .i64 K,.int .i64 X,.int .u64 S] 37))
 have HA:=ab (ak w1 (.bool n) (.int .i64 K) (.int .i64 X) (.int .u64 S) 37)
 clear hb
 obtain ⟨c0,c1,c2,c3⟩:=aa HA
 go_wp2_with fail
 refine cg1 HC fun w2 hb => ?_
 have HB:=bt HB hb
 go_wp2_with fail
 go_ret
 exact ⟨rfl,aa HB⟩
theorem amv {w x K X S V : Int} {n : Bool} (W : World) (HO : Ct 15 #[.int .i64 w,.int .u64 x] (.agg #[.bool n,.int .i64 K,.int .i64 X,.int .u64 S])) (a0 : (K == 0) = false) (a3 : (K == 3) = true) (HC : Ct 156 #[.int .i64 w] (.int .u64 V)) :
 Calls Tryz.prog 84 #[.int .i64 w,.int .u64 x] W fun r W' => r = .returned (.int .u64 V) ∧ Below W.heap.size W W':=by
 go_enter Tryz.func84,Tryz.ntmps84
 go_wp2_with fail
 refine cg1 HO fun w1 hb => ?_
 have HB:=ab (ad hb (.cells #[.bool n,.int .i64 K,.int .i64 X,.int .u64 S] 37))
 have HA:=ab (ak w1 (.bool n) (.int .i64 K) (.int .i64 X) (.int .u64 S) 37)
 clear hb
 obtain ⟨c0,c1,c2,c3⟩:=aa HA
 go_wp2_with fail
 refine cg1 HC fun w2 hb => ?_
 have HB:=bt HB hb
 go_wp2_with fail
 go_ret
 exact ⟨rfl,aa HB⟩
theorem amw {w x K X S V : Int} (W : World) (HO : Ct 15 #[.int .i64 w,.int .u64 x] (.agg #[.bool true,.int .i64 K,.int .i64 X,.int .u64 S])) (a0 : (K == 0) = false) (a3 : (K == 3) = false) (HC : Ct 156 #[.int .i64 w] (.int .u64 V)) :
 Calls Tryz.prog 84 #[.int .i64 w,.int .u64 x] W fun r W' => r = .returned (.int .u64 V) ∧ Below W.heap.size W W':=by
 go_enter Tryz.func84,Tryz.ntmps84
 go_wp2_with fail
 refine cg1 HO fun w1 hb => ?_
 have HB:=ab (ad hb (.cells #[.bool true,.int .i64 K,.int .i64 X,.int .u64 S] 37))
 have HA:=ab (ak w1 (.bool true) (.int .i64 K) (.int .i64 X) (.int .u64 S) 37)
 clear hb
 obtain ⟨c0,c1,c2,c3⟩:=aa HA
 go_wp2_with fail
 refine cg1 HC fun w2 hb => ?_
 have HB:=bt HB hb
 go_wp2_with fail
 go_ret
 exact ⟨rfl,aa HB⟩
theorem amx {w x K X S V : Int} (W : World) (HO : Ct 15 #[.int .i64 w,.int .u64 x] (.agg #[.bool false,.int .i64 K,.int .i64 X,.int .u64 S])) (a0 : (K == 0) = false) (a3 : (K == 3) = false) (a2 : (K == 2) = true) (HC : Ct 157 #[.int .i64 w,.bool false] (.int .u64 V)) :
 Calls Tryz.prog 84 #[.int .i64 w,.int .u64 x] W fun r W' => r = .returned (.int .u64 V) ∧ Below W.heap.size W W':=by
 go_enter Tryz.func84,Tryz.ntmps84
 go_wp2_with fail
 refine cg1 HO fun w1 hb => ?_
 have HB:=ab (ad hb (.cells #[.bool false,.int .i64 K,.int .i64 X,.int .u64 S] 37))
 have HA:=ab (ak w1 (.bool false) (.int .i64 K) (.int .i64 X) (.int .u64 S) 37)
 clear hb
 obtain ⟨c0,c1,c2,c3⟩:=aa HA
 go_wp2_with fail
 refine cg1 HC fun w2 hb => ?_
 have HB:=bt HB hb
 go_wp2_with fail
 go_ret
 exact ⟨rfl,aa HB⟩
theorem amy {w x X S V : Int} (W : World) (HO : Ct 15 #[.int .i64 w,.int .u64 x] (.agg #[.bool false,.int .i64 1,.int .i64 X,.int .u64 S])) (G : Nat → Int → Prop) (H : Int → Nat → Bool → Prop) (HE : Hid (∀ W,Calls Tryz.prog 158 #[.agg #[.bool false,.int .i64 1,.int .i64 X,.int .u64 S]] W fun r W' => ∃ (v : Nat) (E Y : Int),r = .returned (.tuple #[.agg #[.int .u64 (hi v),.int .u64 (lo v)],.int .i64 E]) ∧ IntKind.i64.wrap (E.tdiv 2) = Y ∧ G v Y ∧ Below W.heap.size W W')) (HR : Hid (∀ (v : Nat) (E : Int) (W : World),G v E → Calls Tryz.prog 159 #[.agg #[.int .u64 (hi v),.int .u64 (lo v)]] W fun r W' => ∃ (q : Nat) (m : Bool),r = .returned (.tuple #[.int .u64 (q : Int),.bool m]) ∧ H E q m ∧ Below W.heap.size W W')) (HF : Hid (∀ (E : Int) (q : Nat) (m : Bool) (W : World),H E q m → Calls Tryz.prog 161 #[.int .u64 (q : Int)] W fun r W' => r = .returned (.agg #[.int .u64 (hi q),.int .u64 (lo q)]) ∧ Below W.heap.size W W')) (HP : Hid (∀ (E : Int) (q : Nat) (m : Bool) (W : World),H E q m → Calls Tryz.prog 160 #[.int .i64 w,.bool false,.agg #[.int .u64 (hi q),.int .u64 (lo q)],.int .i64 E,.bool m] W fun r W' => r = .returned (.int .u64 V) ∧ Below W.heap.size W W')) :
 Calls Tryz.prog 84 #[.int .i64 w,.int .u64 x] W fun r W' => r = .returned (.int .u64 V) ∧ Below W.heap.size W W':=by
 go_enter Tryz.func84,Tryz.ntmps84
 go_wp2_with fail
 refine cg1 HO fun w1 hb => ?_
 have HB:=ab (ad hb (.cells #[.bool false,.int .i64 1,.int .i64 X,.int .u64 S] 37))
 have HA:=ab (ak w1 (.bool false) (.int .i64 1) (.int .i64 X) (.int .u64 S) 37)
 clear hb
 obtain ⟨c0,c1,c2,c3⟩:=aa HA
 go_wp2_with fail
 clear c0 c1 c2 c3
 refine (aa HE _).mono ?_
 rintro _ w2 ⟨v,E,Y,rfl,kq,hG,hb⟩
 have HB:=ab (ad (ac (aa HB) hb) (.cells #[.int .u64 (hi v),.int .u64 (lo v)] 135))
 have H2:=ab (nj w2 (.int .u64 (hi v)) (.int .u64 (lo v)) 135)
 clear hb
 obtain ⟨d0,d1⟩:=aa H2
 go_wp2_with fail
 refine (aa HR v Y _ hG).mono ?_
 rintro _ w3 ⟨q,m,rfl,hH,hb⟩
 have HB:=bt HB hb
 clear hb
 go_wp2_with fail
 refine (aa HF Y q m _ hH).mono ?_
 rintro _ w4 ⟨rfl,hb⟩
 have HB:=bt HB hb
 clear hb
 go_wp2_with fail
 refine (aa HP Y q m _ hH).mono ?_
 rintro _ w5 ⟨rfl,hb⟩
 have HB:=bt HB hb
 clear hb
 go_wp2_with fail
 go_ret
 exact ⟨rfl,aa HB⟩
set_option maxHeartbeats 4000000
theorem xw {K X S h l h' l' h'' l'' E : Int} {n t : Bool} (W : World) (HO : Ct 161 #[.int .u64 S] (.agg #[.int .u64 h,.int .u64 l])) (g : 64 < X) (HL : Ct 234 #[.agg #[.int .u64 h,.int .u64 l],.int .i64 64] (.agg #[.int .u64 h',.int .u64 l'])) (kx : IntKind.i64.wrap (-X) = E) (HR : Ct 262 #[.agg #[.int .u64 h',.int .u64 l'],.int .i64 E] (.tuple #[.agg #[.int .u64 h'',.int .u64 l''],.bool t])) :
 Calls Tryz.prog 247 #[.agg #[.bool n,.int .i64 K,.int .i64 X,.int .u64 S]] W fun r W' => r = .returned (.agg #[.int .u64 h'',.int .u64 l'']) ∧ Below W.heap.size W W':=by
 go_enter Tryz.func247,Tryz.ntmps247
 go_wp2_with fail
 have HB:=ab (aq W (.cells #[.bool n,.int .i64 K,.int .i64 X,.int .u64 S] 37) (.cells #[.int .u64 0,.int .u64 0] 135)).drew
 have HA:=ab ((bD W (.bool n) (.int .i64 K) (.int .i64 X) (.int .u64 S) 37 (.cells #[.int .u64 0,.int .u64 0] 135)).below ((Below.refl _ _).drew))
 have HR2 : Hid (aS (W.heap.size + 1) 2 ((W.alloc (.cells #[.bool n,.int .i64 K,.int .i64 X,.int .u64 S] 37)).alloc (.cells #[.int .u64 0,.int .u64 0] 135)).drew):=by
  intro o ho
  match o,ho with
  | 0,_ | 1,_ => simp [go_sem]
 refine wp_region_held_drew (S:=fun w' => (w'.cell? ⟨W.heap.size,0,none⟩ = some (.bool n) ∧ w'.cell? ⟨W.heap.size,1,none⟩ = some (.int .i64 K) ∧ w'.cell? ⟨W.heap.size,2,none⟩ = some (.int .i64 X) ∧ w'.cell? ⟨W.heap.size,3,none⟩ = some (.int .u64 S)) ∧ aS (W.heap.size + 1) 2 w') (by kernel_rfl) ?_ (fun hHeld => ?_)
 ·(try dsimp only)
  exact ⟨aa HA,aa HR2⟩
 refine bF (N:=W.heap.size + 2) (i1:=7) (d1:=3) (v1:=#[.int .u64 0,.int .u64 0]) (t1:=135) (f:=1) (n:=7) (T:=fun w' => Below W.heap.size W w') (by kernel_rfl) (by kernel_rfl) (fun _ _ _ _ _ h => h) (fun _ _ h hb => ⟨At4.below h.1 hb,aS.below h.2 hb⟩) ?_ (ao W) hHeld (aa HB) (by simp) ?_
 ·intro a w K h
  unfold wpOp
  go_simp
  exact Or.inl h
 clear hHeld
 refine woA 0 6 ?_
 refine woA 1 7 ?_
 refine woA 3 9 ?_
 refine woA 4 10 ?_
 refine woA 5 11 ?_
 refine bv (c:=2) (o:={ dst:=some 8,op:=_,type:=_,pos:=_,after:=_,guard:=_ }) rfl (by kernel_rfl) (by kernel_rfl) (fun u hSu hTu Kk hKk => ?_)
 go_simp
 refine cg1 HO fun wn hbl => ?_
 have HTn:=ab (ac hTu hbl)
 clear hTu hSu
 (try go_wp2_with fail)
 refine hKk.out _ _ (fun w' => Below W.heap.size W w') (by assumption) (ao W) (aa HTn) ?_
 clear hKk Kk HTn
 (try simp only [Act.put,List.setIfInBounds_toArray,List.set_cons_zero,List.set_cons_succ])
 refine bv (c:=6) (o:={ dst:=some 12,op:=_,type:=_,pos:=_,after:=_,guard:=_ }) rfl (by kernel_rfl) (by kernel_rfl) (fun u hSu hTu Kk hKk => ?_)
 go_simp
 refine cg1 HL fun wn hbl => ?_
 have HTn:=ab (ac hTu hbl)
 clear hTu hSu
 (try go_wp2_with fail)
 refine hKk.out _ _ (fun w' => Below W.heap.size W w') (by assumption) (ao W) (aa HTn) ?_
 clear hKk Kk HTn
 (try simp only [Act.put,List.setIfInBounds_toArray,List.set_cons_zero,List.set_cons_succ])
 refine cQ (by kernel_rfl) (fun wf b1 hSu hTu k1 => ?_)
 (try simp only [Act.put,List.setIfInBounds_toArray,List.set_cons_zero,List.set_cons_succ])
 unfold ptr
 have zb:=k1.base
 have HRm:=ab (fy k1)
 obtain ⟨⟨v0,c0⟩,f0⟩:=(aa HRm) 0 (by omega)
 obtain ⟨⟨v1,c1⟩,f1⟩:=(aa HRm) 1 (by omega)
 refine xh 9 255 (by kernel_rfl) ?_
 refine rdA 8 511 (fun Kk hKk => ?_)
 go_simp
 refine hKk.out _ _ ?_ (fun hHeld => ?_)
 ·(try dsimp only)
  exact ⟨At4.set2 hSu.1 (by omega) _ _,(hSu.2.off (by omega) _ _).off (by omega) _ _⟩
 clear hKk Kk
 (try simp only [Act.put,List.setIfInBounds_toArray,List.set_cons_zero,List.set_cons_succ])
 refine wpAnyH_done (by kernel_rfl) ?_ _
 have HB:=ab (eS (c:=b1) hTu (by omega) (.int .u64 h') (.int .u64 l'))
 have H2:=ab (dK (aa HRm) (.int .u64 h') (.int .u64 l'))
 have HA:=ab hHeld.1
 have HR2:=ab hHeld.2
 clear hHeld hSu hTu k1 c0 c1 f0 f1 HRm
 generalize (wf.setCell ⟨b1,0,none⟩ (.int .u64 h')).setCell ⟨b1,1,none⟩ (.int .u64 l') = wx at *
 obtain ⟨c0,c1⟩:=aa H2
 obtain ⟨d0,d1,d2,d3⟩:=aa HA
 go_wp2_with fail
 clear c0 c1 d0 d1 d2 d3
 refine cg1 HR fun wy hb => ?_
 have HB:=bt HB hb
 have HR2:=ab ((aa HR2).below hb)
 clear hb H2 HA
 obtain ⟨⟨u0,c0⟩,f0⟩:=(aa HR2) 0 (by omega)
 obtain ⟨⟨u1,c1⟩,f1⟩:=(aa HR2) 1 (by omega)
 have zy:=ag c0
 go_wp2
 clear c0 c1
 have HB:=ab (ad (eS (aa HB) (show W.heap.size ≤ W.heap.size + 1 by omega) (.int .u64 h'') (.int .u64 l'')) (.cells #[.int .u64 h'',.int .u64 l''] 135))
 have H2:=ab ((dK (aa HR2) (.int .u64 h'') (.int .u64 l'')).below (ae _ (.cells #[.int .u64 h'',.int .u64 l''] 135)))
 generalize ((wy.setCell ⟨W.heap.size + 1,0,none⟩ (.int .u64 h'')).setCell ⟨W.heap.size + 1,1,none⟩ (.int .u64 l'')).alloc (.cells #[.int .u64 h'',.int .u64 l''] 135) = wz at *
 obtain ⟨c0,c1⟩:=aa H2
 exact bodyPost_ret (v:=.agg #[.int .u64 h'',.int .u64 l'']) (by simp [results,Tryz.results247,go_sem,c0,c1]) rfl ⟨rfl,aa HB⟩
theorem xy {K X S h l h' l' h'' l'' E : Int} {n t : Bool} (W : World) (HO : Ct 161 #[.int .u64 S] (.agg #[.int .u64 h,.int .u64 l])) (g : ¬ 64 < X) (HL : Ct 234 #[.agg #[.int .u64 h,.int .u64 l],.int .i64 X] (.agg #[.int .u64 h',.int .u64 l'])) (kx : IntKind.i64.wrap (-X) = E) (HR : Ct 262 #[.agg #[.int .u64 h',.int .u64 l'],.int .i64 E] (.tuple #[.agg #[.int .u64 h'',.int .u64 l''],.bool t])) :
 Calls Tryz.prog 247 #[.agg #[.bool n,.int .i64 K,.int .i64 X,.int .u64 S]] W fun r W' => r = .returned (.agg #[.int .u64 h'',.int .u64 l'']) ∧ Below W.heap.size W W':=by
 go_enter Tryz.func247,Tryz.ntmps247
 go_wp2_with fail
 have HB:=ab (aq W (.cells #[.bool n,.int .i64 K,.int .i64 X,.int .u64 S] 37) (.cells #[.int .u64 0,.int .u64 0] 135)).drew
 have HA:=ab ((bD W (.bool n) (.int .i64 K) (.int .i64 X) (.int .u64 S) 37 (.cells #[.int .u64 0,.int .u64 0] 135)).below ((Below.refl _ _).drew))
 have HR2 : Hid (aS (W.heap.size + 1) 2 ((W.alloc (.cells #[.bool n,.int .i64 K,.int .i64 X,.int .u64 S] 37)).alloc (.cells #[.int .u64 0,.int .u64 0] 135)).drew):=by
  intro o ho
  match o,ho with
  | 0,_ | 1,_ => simp [go_sem]
 refine wp_region_held_drew (S:=fun w' => (w'.cell? ⟨W.heap.size,0,none⟩ = some (.bool n) ∧ w'.cell? ⟨W.heap.size,1,none⟩ = some (.int .i64 K) ∧ w'.cell? ⟨W.heap.size,2,none⟩ = some (.int .i64 X) ∧ w'.cell? ⟨W.heap.size,3,none⟩ = some (.int .u64 S)) ∧ aS (W.heap.size + 1) 2 w') (by kernel_rfl) ?_ (fun hHeld => ?_)
 ·(try dsimp only)
  exact ⟨aa HA,aa HR2⟩
 refine bF (N:=W.heap.size + 2) (i1:=7) (d1:=3) (v1:=#[.int .u64 0,.int .u64 0]) (t1:=135) (f:=1) (n:=7) (T:=fun w' => Below W.heap.size W w') (by kernel_rfl) (by kernel_rfl) (fun _ _ _ _ _ h => h) (fun _ _ h hb => ⟨At4.below h.1 hb,aS.below h.2 hb⟩) ?_ (ao W) hHeld (aa HB) (by simp) ?_
 ·intro a w K h
  unfold wpOp
  go_simp
  exact Or.inl h
 clear hHeld
 refine woA 0 6 ?_
 refine woA 1 7 ?_
 refine woA 3 9 ?_
 refine woA 4 10 ?_
 refine woA 5 11 ?_
 refine bv (c:=2) (o:={ dst:=some 8,op:=_,type:=_,pos:=_,after:=_,guard:=_ }) rfl (by kernel_rfl) (by kernel_rfl) (fun u hSu hTu Kk hKk => ?_)
 go_simp
 refine cg1 HO fun wn hbl => ?_
 have HTn:=ab (ac hTu hbl)
 clear hTu hSu
 (try go_wp2_with fail)
 refine hKk.out _ _ (fun w' => Below W.heap.size W w') (by assumption) (ao W) (aa HTn) ?_
 clear hKk Kk HTn
 (try simp only [Act.put,List.setIfInBounds_toArray,List.set_cons_zero,List.set_cons_succ])
 refine bv (c:=6) (o:={ dst:=some 12,op:=_,type:=_,pos:=_,after:=_,guard:=_ }) rfl (by kernel_rfl) (by kernel_rfl) (fun u hSu hTu Kk hKk => ?_)
 go_simp
 refine cg1 HL fun wn hbl => ?_
 have HTn:=ab (ac hTu hbl)
 clear hTu hSu
 (try go_wp2_with fail)
 refine hKk.out _ _ (fun w' => Below W.heap.size W w') (by assumption) (ao W) (aa HTn) ?_
 clear hKk Kk HTn
 (try simp only [Act.put,List.setIfInBounds_toArray,List.set_cons_zero,List.set_cons_succ])
 refine cQ (by kernel_rfl) (fun wf b1 hSu hTu k1 => ?_)
 (try simp only [Act.put,List.setIfInBounds_toArray,List.set_cons_zero,List.set_cons_succ])
 unfold ptr
 have zb:=k1.base
 have HRm:=ab (fy k1)
 obtain ⟨⟨v0,c0⟩,f0⟩:=(aa HRm) 0 (by omega)
 obtain ⟨⟨v1,c1⟩,f1⟩:=(aa HRm) 1 (by omega)
 refine xh 9 255 (by kernel_rfl) ?_
 refine rdA 8 511 (fun Kk hKk => ?_)
 go_simp
 refine hKk.out _ _ ?_ (fun hHeld => ?_)
 ·(try dsimp only)
  exact ⟨At4.set2 hSu.1 (by omega) _ _,(hSu.2.off (by omega) _ _).off (by omega) _ _⟩
 clear hKk Kk
 (try simp only [Act.put,List.setIfInBounds_toArray,List.set_cons_zero,List.set_cons_succ])
 refine wpAnyH_done (by kernel_rfl) ?_ _
 have HB:=ab (eS (c:=b1) hTu (by omega) (.int .u64 h') (.int .u64 l'))
 have H2:=ab (dK (aa HRm) (.int .u64 h') (.int .u64 l'))
 have HA:=ab hHeld.1
 have HR2:=ab hHeld.2
 clear hHeld hSu hTu k1 c0 c1 f0 f1 HRm
 generalize (wf.setCell ⟨b1,0,none⟩ (.int .u64 h')).setCell ⟨b1,1,none⟩ (.int .u64 l') = wx at *
 obtain ⟨c0,c1⟩:=aa H2
 obtain ⟨d0,d1,d2,d3⟩:=aa HA
 go_wp2_with fail
 clear c0 c1 d0 d1 d2 d3
 refine cg1 HR fun wy hb => ?_
 have HB:=bt HB hb
 have HR2:=ab ((aa HR2).below hb)
 clear hb H2 HA
 obtain ⟨⟨u0,c0⟩,f0⟩:=(aa HR2) 0 (by omega)
 obtain ⟨⟨u1,c1⟩,f1⟩:=(aa HR2) 1 (by omega)
 have zy:=ag c0
 go_wp2
 clear c0 c1
 have HB:=ab (ad (eS (aa HB) (show W.heap.size ≤ W.heap.size + 1 by omega) (.int .u64 h'') (.int .u64 l'')) (.cells #[.int .u64 h'',.int .u64 l''] 135))
 have H2:=ab ((dK (aa HR2) (.int .u64 h'') (.int .u64 l'')).below (ae _ (.cells #[.int .u64 h'',.int .u64 l''] 135)))
 generalize ((wy.setCell ⟨W.heap.size + 1,0,none⟩ (.int .u64 h'')).setCell ⟨W.heap.size + 1,1,none⟩ (.int .u64 l'')).alloc (.cells #[.int .u64 h'',.int .u64 l''] 135) = wz at *
 obtain ⟨c0,c1⟩:=aa H2
 exact bodyPost_ret (v:=.agg #[.int .u64 h'',.int .u64 l'']) (by simp [results,Tryz.results247,go_sem,c0,c1]) rfl ⟨rfl,aa HB⟩
theorem oq (w : World) (x y : Value) (t : TypeId) : At2 w.heap.size x y (w.alloc (.cells #[x,y] t)).drew:=by unfold At2; simp [go_sem]
theorem ms {w k x X S L h : Int} {s : Bool} (W : World) (HK : Ct 245 #[.int .i64 k] (.bool true)) (HO : Ct 15 #[.int .i64 w,.int .u64 x] (.agg #[.bool true,.int .i64 3,.int .i64 X,.int .u64 S])) (HE : Ct 246 #[.int .i64 k,.bool s] (.tuple #[.int .u64 L,.int .u64 h])) :
 Calls Tryz.prog 168 #[.int .i64 w,.int .i64 k,.int .u64 x,.bool s] W fun r W' => r = .returned (.tuple #[.int .u64 0,.int .i64 4]) ∧ Below W.heap.size W W':=by
 have HB:=rf W
 go_enter Tryz.func168,Tryz.ntmps168
 go_wp2_with fail
 refine cg0 HK HB fun w1 HB => ?_
 go_wp2_with fail
 refine cg1 HO fun w2 hb => ?_
 have HB:=ab (ad (ac (aa HB) hb) (.cells #[.bool true,.int .i64 3,.int .i64 X,.int .u64 S] 37))
 have HA:=ab (ak w2 (.bool true) (.int .i64 3) (.int .i64 X) (.int .u64 S) 37)
 clear hb
 go_wp2_with fail
 refine cg1 HE fun w3 hb => ?_
 have HB:=bt HB hb
 have HA:=ab ((aa HA).below hb)
 clear hb
 obtain ⟨c0,c1,c2,c3⟩:=aa HA
 go_wp2_with fail
 go_ret2
 exact ⟨rfl,aa HB⟩
theorem mu {w k x X S L h : Int} {s : Bool} (W : World) (HK : Ct 245 #[.int .i64 k] (.bool true)) (HO : Ct 15 #[.int .i64 w,.int .u64 x] (.agg #[.bool true,.int .i64 2,.int .i64 X,.int .u64 S])) (HE : Ct 246 #[.int .i64 k,.bool s] (.tuple #[.int .u64 L,.int .u64 h])) :
 Calls Tryz.prog 168 #[.int .i64 w,.int .i64 k,.int .u64 x,.bool s] W fun r W' => r = .returned (.tuple #[.int .u64 L,.int .i64 3]) ∧ Below W.heap.size W W':=by
 have HB:=rf W
 go_enter Tryz.func168,Tryz.ntmps168
 go_wp2_with fail
 refine cg0 HK HB fun w1 HB => ?_
 go_wp2_with fail
 refine cg1 HO fun w2 hb => ?_
 have HB:=ab (ad (ac (aa HB) hb) (.cells #[.bool true,.int .i64 2,.int .i64 X,.int .u64 S] 37))
 have HA:=ab (ak w2 (.bool true) (.int .i64 2) (.int .i64 X) (.int .u64 S) 37)
 clear hb
 go_wp2_with fail
 refine cg1 HE fun w3 hb => ?_
 have HB:=bt HB hb
 have HA:=ab ((aa HA).below hb)
 clear hb
 obtain ⟨c0,c1,c2,c3⟩:=aa HA
 go_wp2_with fail
 go_ret2
 exact ⟨rfl,aa HB⟩
theorem ot {w k x X S L h a1 a0 e1 e0 c V : Int} {s : Bool} (W : World) (HK : Ct 245 #[.int .i64 k] (.bool true)) (HO : Ct 15 #[.int .i64 w,.int .u64 x] (.agg #[.bool true,.int .i64 1,.int .i64 X,.int .u64 S])) (HE : Ct 246 #[.int .i64 k,.bool s] (.tuple #[.int .u64 L,.int .u64 h])) (HM : Ct 247 #[.agg #[.bool true,.int .i64 1,.int .i64 X,.int .u64 S]] (.agg #[.int .u64 a1,.int .u64 a0])) (HF : Ct 161 #[.int .u64 L] (.agg #[.int .u64 e1,.int .u64 e0])) (HC : Ct 235 #[.agg #[.int .u64 a1,.int .u64 a0],.agg #[.int .u64 e1,.int .u64 e0]] (.int .i64 c)) (g : c ≤ 0) (HS : Ct 248 #[.int .i64 k,.bool true,.int .u64 a0] (.int .u64 V)) :
 Calls Tryz.prog 168 #[.int .i64 w,.int .i64 k,.int .u64 x,.bool s] W fun r W' => r = .returned (.tuple #[.int .u64 V,.int .i64 0]) ∧ Below W.heap.size W W':=by
 have HB:=rf W
 go_enter Tryz.func168,Tryz.ntmps168
 go_wp2_with fail
 refine cg0 HK HB fun w1 HB => ?_
 go_wp2_with fail
 refine cg1 HO fun w2 hb => ?_
 have HB:=ab (ad (ac (aa HB) hb) (.cells #[.bool true,.int .i64 1,.int .i64 X,.int .u64 S] 37))
 have HA:=ab (ak w2 (.bool true) (.int .i64 1) (.int .i64 X) (.int .u64 S) 37)
 clear hb
 go_wp2_with fail
 refine cg1 HE fun w3 hb => ?_
 have HB:=bt HB hb
 have HA:=ab ((aa HA).below hb)
 clear hb
 obtain ⟨c0,c1,c2,c3⟩:=aa HA
 go_wp2_with fail
 clear c0 c1 c2 c3
 refine cg1 HM fun w4 hb => ?_
 have HB:=bt HB hb
 have HA:=ab ((aa HA).below hb)
 clear hb
 have HB:=ab (ad (aa HB) (.cells #[.int .u64 a1,.int .u64 a0] 135)).drew
 have HA:=ab ((aa HA).below (ae w4 (.cells #[.int .u64 a1,.int .u64 a0] 135)).drew)
 have H2:=ab (oq w4 (.int .u64 a1) (.int .u64 a0) 135)
 go_wp2_with fail
 refine wp_region_held_drew (S:=fun w' => (w'.cell? ⟨w4.heap.size,0,none⟩ = some (.int .u64 a1) ∧ w'.cell? ⟨w4.heap.size,1,none⟩ = some (.int .u64 a0))) (by kernel_rfl) ?_ (fun hHeld => ?_)
 ·(try dsimp only)
  exact aa H2
 refine aC 5 (by kernel_rfl) ?_
 refine tkA 0 39 1 ?_
 refine tkA 1 40 3 ?_
 refine rdA 2 7 (fun Kk hKk => ?_)
 go_simp
 refine cg1 HF fun w5 hb => ?_
 have HB:=bt HB hb
 have HA:=ab ((aa HA).below hb)
 have H2:=ab ((aa H2).below hb)
 clear hb
 (try go_wp2_with fail)
 refine oA hKk (aa H2) fun hHeld => ?_
 clear hKk Kk
 refine rdA 3 15 (fun Kk hKk => ?_)
 go_simp
 refine cg1 HC fun w6 hb => ?_
 have HB:=bt HB hb
 have HA:=ab ((aa HA).below hb)
 have H2:=ab ((aa H2).below hb)
 clear hb
 (try go_wp2_with fail)
 refine oA hKk (aa H2) fun hHeld => ?_
 clear hKk Kk
 refine tkA 4 43 31 ?_
 refine wpAnyH_done (by kernel_rfl) ?_ _
 clear hHeld
 obtain ⟨c0,c1,c2,c3⟩:=aa HA
 obtain ⟨d0,d1⟩:=aa H2
 go_wp2_with fail
 clear c0 c1 c2 c3 d0 d1
 refine cg0 HS HB fun w7 HB => ?_
 go_wp2_with fail
 go_ret2
 exact ⟨rfl,aa HB⟩
theorem ou {w k x X S L h a1 a0 e1 e0 c : Int} {s : Bool} (W : World) (HK : Ct 245 #[.int .i64 k] (.bool true)) (HO : Ct 15 #[.int .i64 w,.int .u64 x] (.agg #[.bool true,.int .i64 1,.int .i64 X,.int .u64 S])) (HE : Ct 246 #[.int .i64 k,.bool s] (.tuple #[.int .u64 L,.int .u64 h])) (HM : Ct 247 #[.agg #[.bool true,.int .i64 1,.int .i64 X,.int .u64 S]] (.agg #[.int .u64 a1,.int .u64 a0])) (HF : Ct 161 #[.int .u64 L] (.agg #[.int .u64 e1,.int .u64 e0])) (HC : Ct 235 #[.agg #[.int .u64 a1,.int .u64 a0],.agg #[.int .u64 e1,.int .u64 e0]] (.int .i64 c)) (g : ¬ c ≤ 0) :
 Calls Tryz.prog 168 #[.int .i64 w,.int .i64 k,.int .u64 x,.bool s] W fun r W' => r = .returned (.tuple #[.int .u64 L,.int .i64 3]) ∧ Below W.heap.size W W':=by
 have HB:=rf W
 go_enter Tryz.func168,Tryz.ntmps168
 go_wp2_with fail
 refine cg0 HK HB fun w1 HB => ?_
 go_wp2_with fail
 refine cg1 HO fun w2 hb => ?_
 have HB:=ab (ad (ac (aa HB) hb) (.cells #[.bool true,.int .i64 1,.int .i64 X,.int .u64 S] 37))
 have HA:=ab (ak w2 (.bool true) (.int .i64 1) (.int .i64 X) (.int .u64 S) 37)
 clear hb
 go_wp2_with fail
 refine cg1 HE fun w3 hb => ?_
 have HB:=bt HB hb
 have HA:=ab ((aa HA).below hb)
 clear hb
 obtain ⟨c0,c1,c2,c3⟩:=aa HA
 go_wp2_with fail
 clear c0 c1 c2 c3
 refine cg1 HM fun w4 hb => ?_
 have HB:=bt HB hb
 have HA:=ab ((aa HA).below hb)
 clear hb
 have HB:=ab (ad (aa HB) (.cells #[.int .u64 a1,.int .u64 a0] 135)).drew
 have HA:=ab ((aa HA).below (ae w4 (.cells #[.int .u64 a1,.int .u64 a0] 135)).drew)
 have H2:=ab (oq w4 (.int .u64 a1) (.int .u64 a0) 135)
 go_wp2_with fail
 refine wp_region_held_drew (S:=fun w' => (w'.cell? ⟨w4.heap.size,0,none⟩ = some (.int .u64 a1) ∧ w'.cell? ⟨w4.heap.size,1,none⟩ = some (.int .u64 a0))) (by kernel_rfl) ?_ (fun hHeld => ?_)
 ·(try dsimp only)
  exact aa H2
 refine aC 5 (by kernel_rfl) ?_
 refine tkA 0 39 1 ?_
 refine tkA 1 40 3 ?_
 refine rdA 2 7 (fun Kk hKk => ?_)
 go_simp
 refine cg1 HF fun w5 hb => ?_
 have HB:=bt HB hb
 have HA:=ab ((aa HA).below hb)
 have H2:=ab ((aa H2).below hb)
 clear hb
 (try go_wp2_with fail)
 refine oA hKk (aa H2) fun hHeld => ?_
 clear hKk Kk
 refine rdA 3 15 (fun Kk hKk => ?_)
 go_simp
 refine cg1 HC fun w6 hb => ?_
 have HB:=bt HB hb
 have HA:=ab ((aa HA).below hb)
 have H2:=ab ((aa H2).below hb)
 clear hb
 (try go_wp2_with fail)
 refine oA hKk (aa H2) fun hHeld => ?_
 clear hKk Kk
 refine tkA 4 43 31 ?_
 refine wpAnyH_done (by kernel_rfl) ?_ _
 clear hHeld
 go_wp2_with fail
 go_ret2
 exact ⟨rfl,aa HB⟩
theorem mh {w k x X S L h : Int} {s : Bool} (W : World) (HK : Ct 245 #[.int .i64 k] (.bool true)) (HO : Ct 15 #[.int .i64 w,.int .u64 x] (.agg #[.bool true,.int .i64 0,.int .i64 X,.int .u64 S])) (HE : Ct 246 #[.int .i64 k,.bool s] (.tuple #[.int .u64 L,.int .u64 h])) :
 Calls Tryz.prog 168 #[.int .i64 w,.int .i64 k,.int .u64 x,.bool s] W fun r W' => r = .returned (.tuple #[.int .u64 0,.int .i64 0]) ∧ Below W.heap.size W W':=by
 have HB:=rf W
 go_enter Tryz.func168,Tryz.ntmps168
 go_wp2_with fail
 refine cg0 HK HB fun w1 HB => ?_
 go_wp2_with fail
 refine cg1 HO fun w2 hb => ?_
 have HB:=ab (ad (ac (aa HB) hb) (.cells #[.bool true,.int .i64 0,.int .i64 X,.int .u64 S] 37))
 have HA:=ab (ak w2 (.bool true) (.int .i64 0) (.int .i64 X) (.int .u64 S) 37)
 clear hb
 go_wp2_with fail
 refine cg1 HE fun w3 hb => ?_
 have HB:=bt HB hb
 have HA:=ab ((aa HA).below hb)
 clear hb
 obtain ⟨c0,c1,c2,c3⟩:=aa HA
 go_wp2_with fail
 go_ret2
 exact ⟨rfl,aa HB⟩
theorem mv {w k x X S L h : Int} {s : Bool} (W : World) (HK : Ct 245 #[.int .i64 k] (.bool true)) (HO : Ct 15 #[.int .i64 w,.int .u64 x] (.agg #[.bool false,.int .i64 3,.int .i64 X,.int .u64 S])) (HE : Ct 246 #[.int .i64 k,.bool s] (.tuple #[.int .u64 L,.int .u64 h])) :
 Calls Tryz.prog 168 #[.int .i64 w,.int .i64 k,.int .u64 x,.bool s] W fun r W' => r = .returned (.tuple #[.int .u64 0,.int .i64 4]) ∧ Below W.heap.size W W':=by
 have HB:=rf W
 go_enter Tryz.func168,Tryz.ntmps168
 go_wp2_with fail
 refine cg0 HK HB fun w1 HB => ?_
 go_wp2_with fail
 refine cg1 HO fun w2 hb => ?_
 have HB:=ab (ad (ac (aa HB) hb) (.cells #[.bool false,.int .i64 3,.int .i64 X,.int .u64 S] 37))
 have HA:=ab (ak w2 (.bool false) (.int .i64 3) (.int .i64 X) (.int .u64 S) 37)
 clear hb
 go_wp2_with fail
 refine cg1 HE fun w3 hb => ?_
 have HB:=bt HB hb
 have HA:=ab ((aa HA).below hb)
 clear hb
 obtain ⟨c0,c1,c2,c3⟩:=aa HA
 go_wp2_with fail
 go_ret2
 exact ⟨rfl,aa HB⟩
theorem mw {w k x X S L h : Int} {s : Bool} (W : World) (HK : Ct 245 #[.int .i64 k] (.bool true)) (HO : Ct 15 #[.int .i64 w,.int .u64 x] (.agg #[.bool false,.int .i64 2,.int .i64 X,.int .u64 S])) (HE : Ct 246 #[.int .i64 k,.bool s] (.tuple #[.int .u64 L,.int .u64 h])) :
 Calls Tryz.prog 168 #[.int .i64 w,.int .i64 k,.int .u64 x,.bool s] W fun r W' => r = .returned (.tuple #[.int .u64 h,.int .i64 3]) ∧ Below W.heap.size W W':=by
 have HB:=rf W
 go_enter Tryz.func168,Tryz.ntmps168
 go_wp2_with fail
 refine cg0 HK HB fun w1 HB => ?_
 go_wp2_with fail
 refine cg1 HO fun w2 hb => ?_
 have HB:=ab (ad (ac (aa HB) hb) (.cells #[.bool false,.int .i64 2,.int .i64 X,.int .u64 S] 37))
 have HA:=ab (ak w2 (.bool false) (.int .i64 2) (.int .i64 X) (.int .u64 S) 37)
 clear hb
 go_wp2_with fail
 refine cg1 HE fun w3 hb => ?_
 have HB:=bt HB hb
 have HA:=ab ((aa HA).below hb)
 clear hb
 obtain ⟨c0,c1,c2,c3⟩:=aa HA
 go_wp2_with fail
 go_ret2
 exact ⟨rfl,aa HB⟩
theorem ov {w k x X S L h a1 a0 e1 e0 c V : Int} {s : Bool} (W : World) (HK : Ct 245 #[.int .i64 k] (.bool true)) (HO : Ct 15 #[.int .i64 w,.int .u64 x] (.agg #[.bool false,.int .i64 1,.int .i64 X,.int .u64 S])) (HE : Ct 246 #[.int .i64 k,.bool s] (.tuple #[.int .u64 L,.int .u64 h])) (HM : Ct 247 #[.agg #[.bool false,.int .i64 1,.int .i64 X,.int .u64 S]] (.agg #[.int .u64 a1,.int .u64 a0])) (HF : Ct 161 #[.int .u64 h] (.agg #[.int .u64 e1,.int .u64 e0])) (HC : Ct 235 #[.agg #[.int .u64 a1,.int .u64 a0],.agg #[.int .u64 e1,.int .u64 e0]] (.int .i64 c)) (g : c ≤ 0) (HS : Ct 248 #[.int .i64 k,.bool false,.int .u64 a0] (.int .u64 V)) :
 Calls Tryz.prog 168 #[.int .i64 w,.int .i64 k,.int .u64 x,.bool s] W fun r W' => r = .returned (.tuple #[.int .u64 V,.int .i64 0]) ∧ Below W.heap.size W W':=by
 have HB:=rf W
 go_enter Tryz.func168,Tryz.ntmps168
 go_wp2_with fail
 refine cg0 HK HB fun w1 HB => ?_
 go_wp2_with fail
 refine cg1 HO fun w2 hb => ?_
 have HB:=ab (ad (ac (aa HB) hb) (.cells #[.bool false,.int .i64 1,.int .i64 X,.int .u64 S] 37))
 have HA:=ab (ak w2 (.bool false) (.int .i64 1) (.int .i64 X) (.int .u64 S) 37)
 clear hb
 go_wp2_with fail
 refine cg1 HE fun w3 hb => ?_
 have HB:=bt HB hb
 have HA:=ab ((aa HA).below hb)
 clear hb
 obtain ⟨c0,c1,c2,c3⟩:=aa HA
 go_wp2_with fail
 clear c0 c1 c2 c3
 refine cg1 HM fun w4 hb => ?_
 have HB:=bt HB hb
 have HA:=ab ((aa HA).below hb)
 clear hb
 have HB:=ab (ad (aa HB) (.cells #[.int .u64 a1,.int .u64 a0] 135)).drew
 have HA:=ab ((aa HA).below (ae w4 (.cells #[.int .u64 a1,.int .u64 a0] 135)).drew)
 have H2:=ab (oq w4 (.int .u64 a1) (.int .u64 a0) 135)
 go_wp2_with fail
 refine wp_region_held_drew (S:=fun w' => (w'.cell? ⟨w4.heap.size,0,none⟩ = some (.int .u64 a1) ∧ w'.cell? ⟨w4.heap.size,1,none⟩ = some (.int .u64 a0))) (by kernel_rfl) ?_ (fun hHeld => ?_)
 ·(try dsimp only)
  exact aa H2
 refine aC 5 (by kernel_rfl) ?_
 refine tkA 0 39 1 ?_
 refine tkA 1 40 3 ?_
 refine rdA 2 7 (fun Kk hKk => ?_)
 go_simp
 refine cg1 HF fun w5 hb => ?_
 have HB:=bt HB hb
 have HA:=ab ((aa HA).below hb)
 have H2:=ab ((aa H2).below hb)
 clear hb
 (try go_wp2_with fail)
 refine oA hKk (aa H2) fun hHeld => ?_
 clear hKk Kk
 refine rdA 3 15 (fun Kk hKk => ?_)
 go_simp
 refine cg1 HC fun w6 hb => ?_
 have HB:=bt HB hb
 have HA:=ab ((aa HA).below hb)
 have H2:=ab ((aa H2).below hb)
 clear hb
 (try go_wp2_with fail)
 refine oA hKk (aa H2) fun hHeld => ?_
 clear hKk Kk
 refine tkA 4 43 31 ?_
 refine wpAnyH_done (by kernel_rfl) ?_ _
 clear hHeld
 obtain ⟨c0,c1,c2,c3⟩:=aa HA
 obtain ⟨d0,d1⟩:=aa H2
 go_wp2_with fail
 clear c0 c1 c2 c3 d0 d1
 refine cg0 HS HB fun w7 HB => ?_
 go_wp2_with fail
 go_ret2
 exact ⟨rfl,aa HB⟩
theorem ow {w k x X S L h a1 a0 e1 e0 c : Int} {s : Bool} (W : World) (HK : Ct 245 #[.int .i64 k] (.bool true)) (HO : Ct 15 #[.int .i64 w,.int .u64 x] (.agg #[.bool false,.int .i64 1,.int .i64 X,.int .u64 S])) (HE : Ct 246 #[.int .i64 k,.bool s] (.tuple #[.int .u64 L,.int .u64 h])) (HM : Ct 247 #[.agg #[.bool false,.int .i64 1,.int .i64 X,.int .u64 S]] (.agg #[.int .u64 a1,.int .u64 a0])) (HF : Ct 161 #[.int .u64 h] (.agg #[.int .u64 e1,.int .u64 e0])) (HC : Ct 235 #[.agg #[.int .u64 a1,.int .u64 a0],.agg #[.int .u64 e1,.int .u64 e0]] (.int .i64 c)) (g : ¬ c ≤ 0) :
 Calls Tryz.prog 168 #[.int .i64 w,.int .i64 k,.int .u64 x,.bool s] W fun r W' => r = .returned (.tuple #[.int .u64 h,.int .i64 3]) ∧ Below W.heap.size W W':=by
 have HB:=rf W
 go_enter Tryz.func168,Tryz.ntmps168
 go_wp2_with fail
 refine cg0 HK HB fun w1 HB => ?_
 go_wp2_with fail
 refine cg1 HO fun w2 hb => ?_
 have HB:=ab (ad (ac (aa HB) hb) (.cells #[.bool false,.int .i64 1,.int .i64 X,.int .u64 S] 37))
 have HA:=ab (ak w2 (.bool false) (.int .i64 1) (.int .i64 X) (.int .u64 S) 37)
 clear hb
 go_wp2_with fail
 refine cg1 HE fun w3 hb => ?_
 have HB:=bt HB hb
 have HA:=ab ((aa HA).below hb)
 clear hb
 obtain ⟨c0,c1,c2,c3⟩:=aa HA
 go_wp2_with fail
 clear c0 c1 c2 c3
 refine cg1 HM fun w4 hb => ?_
 have HB:=bt HB hb
 have HA:=ab ((aa HA).below hb)
 clear hb
 have HB:=ab (ad (aa HB) (.cells #[.int .u64 a1,.int .u64 a0] 135)).drew
 have HA:=ab ((aa HA).below (ae w4 (.cells #[.int .u64 a1,.int .u64 a0] 135)).drew)
 have H2:=ab (oq w4 (.int .u64 a1) (.int .u64 a0) 135)
 go_wp2_with fail
 refine wp_region_held_drew (S:=fun w' => (w'.cell? ⟨w4.heap.size,0,none⟩ = some (.int .u64 a1) ∧ w'.cell? ⟨w4.heap.size,1,none⟩ = some (.int .u64 a0))) (by kernel_rfl) ?_ (fun hHeld => ?_)
 ·(try dsimp only)
  exact aa H2
 refine aC 5 (by kernel_rfl) ?_
 refine tkA 0 39 1 ?_
 refine tkA 1 40 3 ?_
 refine rdA 2 7 (fun Kk hKk => ?_)
 go_simp
 refine cg1 HF fun w5 hb => ?_
 have HB:=bt HB hb
 have HA:=ab ((aa HA).below hb)
 have H2:=ab ((aa H2).below hb)
 clear hb
 (try go_wp2_with fail)
 refine oA hKk (aa H2) fun hHeld => ?_
 clear hKk Kk
 refine rdA 3 15 (fun Kk hKk => ?_)
 go_simp
 refine cg1 HC fun w6 hb => ?_
 have HB:=bt HB hb
 have HA:=ab ((aa HA).below hb)
 have H2:=ab ((aa H2).below hb)
 clear hb
 (try go_wp2_with fail)
 refine oA hKk (aa H2) fun hHeld => ?_
 clear hKk Kk
 refine tkA 4 43 31 ?_
 refine wpAnyH_done (by kernel_rfl) ?_ _
 clear hHeld
 go_wp2_with fail
 go_ret2
 exact ⟨rfl,aa HB⟩
theorem gI {w k x X S L h : Int} {s : Bool} (W : World) (HK : Ct 245 #[.int .i64 k] (.bool true)) (HO : Ct 15 #[.int .i64 w,.int .u64 x] (.agg #[.bool false,.int .i64 0,.int .i64 X,.int .u64 S])) (HE : Ct 246 #[.int .i64 k,.bool s] (.tuple #[.int .u64 L,.int .u64 h])) :
 Calls Tryz.prog 168 #[.int .i64 w,.int .i64 k,.int .u64 x,.bool s] W fun r W' => r = .returned (.tuple #[.int .u64 0,.int .i64 0]) ∧ Below W.heap.size W W':=by
 have HB:=rf W
 go_enter Tryz.func168,Tryz.ntmps168
 go_wp2_with fail
 refine cg0 HK HB fun w1 HB => ?_
 go_wp2_with fail
 refine cg1 HO fun w2 hb => ?_
 have HB:=ab (ad (ac (aa HB) hb) (.cells #[.bool false,.int .i64 0,.int .i64 X,.int .u64 S] 37))
 have HA:=ab (ak w2 (.bool false) (.int .i64 0) (.int .i64 X) (.int .u64 S) 37)
 clear hb
 go_wp2_with fail
 refine cg1 HE fun w3 hb => ?_
 have HB:=bt HB hb
 have HA:=ab ((aa HA).below hb)
 clear hb
 obtain ⟨c0,c1,c2,c3⟩:=aa HA
 go_wp2_with fail
 go_ret2
 exact ⟨rfl,aa HB⟩
end Go.Proofs.YtpbgpdmffejdgaaGreatDoor
