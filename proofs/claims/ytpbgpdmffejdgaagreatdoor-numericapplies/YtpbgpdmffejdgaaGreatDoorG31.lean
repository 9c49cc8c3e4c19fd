/- MCsT, MExW, MRbI. -/
import Derived.Test.YtpbgpdmffejdgaaGreatDoorG01
import Derived.Test.YtpbgpdmffejdgaaGreatDoorG04
import Derived.Test.YtpbgpdmffejdgaaGreatDoorG05
import Derived.Test.YtpbgpdmffejdgaaGreatDoorG26
import Derived.Test.YtpbgpdmffejdgaaGreatDoorG27
import Derived.Shelf.Spec.TrailingZeros
namespace Go.Proofs.YtpbgpdmffejdgaaGreatDoor
open Go.RowKit
open Go.Proofs.YtpbgpdmffejdgaaGreatDoor.W
def ren : Go.Shelf.Ren:=⟨fun _ => 223,fun t => if t = 22 then 28 else if t = 25 then 35 else if t = 54 then 218 else t,fun _ => 4⟩
theorem apu : Go.Proofs.Lays7.n29 Tryz.prog ren where
 mixed:=by kernel_rfl
 f29:=by kernel_rfl
 t0:=by kernel_rfl
 a0:=fun _ => by kernel_rfl
 z0:=fun _ => by kernel_rfl
 v0:=fun _ => by kernel_rfl
 i0:=by kernel_rfl
 t3:=by kernel_rfl
 a3:=fun _ => by kernel_rfl
 z3:=fun _ => by kernel_rfl
 v3:=fun _ => by kernel_rfl
 i3:=by kernel_rfl
 t4:=by kernel_rfl
 a4:=fun _ => by kernel_rfl
 z4:=fun _ => by kernel_rfl
 v4:=fun _ => by kernel_rfl
 i4:=by kernel_rfl
 t5:=by kernel_rfl
 a5:=fun _ => by kernel_rfl
 z5:=fun _ => by kernel_rfl
 v5:=fun _ => by kernel_rfl
 i5:=by kernel_rfl
 t22:=by kernel_rfl
 a22:=fun _ => by kernel_rfl
 z22:=fun _ => by kernel_rfl
 v22:=fun _ => by kernel_rfl
 i22:=by kernel_rfl
 t25:=by kernel_rfl
 a25:=fun _ => by kernel_rfl
 z25:=fun _ => by kernel_rfl
 v25:=fun _ => by kernel_rfl
 i25:=by kernel_rfl
 t54:=by kernel_rfl
 a54:=fun _ => by kernel_rfl
 z54:=fun _ => by kernel_rfl
 g1:=by kernel_rfl
theorem zl (x : Nat) (h1 : x < 18446744073709551616) (W : World) (m : Mk W) :
 Calls Tryz.prog 223 #[.int .u64 x] W fun r W' => r = .returned (.int .i64 (Lib.ctz 64 x : Nat)) ∧ W' = W:=
 Go.Proofs.Any7.bits_TrailingZeros64 apu x h1 W (fun _ => m.tab)
set_option maxRecDepth 100000
set_option maxHeartbeats 8000000
def amj (w L V : Int) (n : Bool) (z : Nat) : Prop:=Hid (∀ (a : Option Addr) (m c : Nat) (W : World),ai W (.slice a m c) z → Calls Tryz.prog 185 #[.int .i64 w,.bool n,.agg #[.slice a m c],.int .i64 L] W fun r W' => r = .returned (.int .u64 V) ∧ Below W.heap.size W W')
theorem ahd {w K1 X1 S1 K2 X2 S2 L V : Int} {n1 n2 : Bool} {d1 d2 : Nat} (W : World) (hL : X1 ≤ X2 ∧ X1 = L ∨ ¬ X1 ≤ X2 ∧ X2 = L) (HS : Hid (0 ≤ S1 ∧ S1 < 18446744073709551616 ∧ S1.toNat < pw 2 ∧ 0 ≤ S2 ∧ S2 < 18446744073709551616 ∧ S2.toNat < pw 2))
 (HD : Hid ((∀ z,z = X1 - L → IntKind.i64.wrap z = (d1 : Int)) ∧ d1 ≤ 10000 ∧ (∀ z,z = X2 - L → IntKind.i64.wrap z = (d2 : Int)) ∧ d2 ≤ 10000)) (H3 : Hid ((S1.toNat * 2 ^ d1) < pw 300 ∧ (S2.toNat * 2 ^ d2) < pw 300))
 (HQ : (n1 == n2) = true ∧ amj w L V n1 ((S1.toNat * 2 ^ d1) + (S2.toNat * 2 ^ d2)) ∨ (n1 == n2) = false ∧ (aK (S1.toNat * 2 ^ d1) (S2.toNat * 2 ^ d2) = 0 ∧ V = 0 ∨ aK (S1.toNat * 2 ^ d1) (S2.toNat * 2 ^ d2) = -1 ∧ (S1.toNat * 2 ^ d1) ≤ (S2.toNat * 2 ^ d2) ∧ amj w L V n2 ((S2.toNat * 2 ^ d2) - (S1.toNat * 2 ^ d1)) ∨ aK (S1.toNat * 2 ^ d1) (S2.toNat * 2 ^ d2) = 1 ∧ (S2.toNat * 2 ^ d2) ≤ (S1.toNat * 2 ^ d1) ∧ amj w L V n1 ((S1.toNat * 2 ^ d1) - (S2.toNat * 2 ^ d2)))) :
 Calls Tryz.prog 255 #[.int .i64 w,.agg #[.bool n1,.int .i64 K1,.int .i64 X1,.int .u64 S1],.agg #[.bool n2,.int .i64 K2,.int .i64 X2,.int .u64 S2]] W fun r W' => r = .returned (.int .u64 V) ∧ Below W.heap.size W W':=by
 rcases hL with ⟨hm,rfl⟩ | ⟨hm,rfl⟩
 all_goals
  go_enter Tryz.func255,Tryz.ntmps255
  go_wp2_with fail
  have HB:=ab ((aq W (.cells #[.bool n1,.int .i64 K1,.int .i64 X1,.int .u64 S1] 105) (.cells #[.bool n2,.int .i64 K2,.int .i64 X2,.int .u64 S2] 105)).drew)
  have HA:=ab (And.intro ((bD W (.bool n1) (.int .i64 K1) (.int .i64 X1) (.int .u64 S1) 105 (.cells #[.bool n2,.int .i64 K2,.int .i64 X2,.int .u64 S2] 105)).below ((Below.refl _ _).drew)) ((dD W (.cells #[.bool n1,.int .i64 K1,.int .i64 X1,.int .u64 S1] 105) (.bool n2) (.int .i64 K2) (.int .i64 X2) (.int .u64 S2) 105).below ((Below.refl _ _).drew)))
  refine wp_region_held_drew (S:=fun w' => (w'.cell? ⟨W.heap.size,0,none⟩ = some (.bool n1) ∧ w'.cell? ⟨W.heap.size,1,none⟩ = some (.int .i64 K1) ∧ w'.cell? ⟨W.heap.size,2,none⟩ = some (.int .i64 X1) ∧ w'.cell? ⟨W.heap.size,3,none⟩ = some (.int .u64 S1)) ∧ (w'.cell? ⟨W.heap.size + 1,0,none⟩ = some (.bool n2) ∧ w'.cell? ⟨W.heap.size + 1,1,none⟩ = some (.int .i64 K2) ∧ w'.cell? ⟨W.heap.size + 1,2,none⟩ = some (.int .i64 X2) ∧ w'.cell? ⟨W.heap.size + 1,3,none⟩ = some (.int .u64 S2))) (by kernel_rfl) ?_ (fun hHeld => ?_)
  ·(try dsimp only)
   exact aa HA
  refine bF (N:=W.heap.size + 1 + 1) (i1:=8) (d1:=8) (v1:=#[.slice none 0 0]) (t1:=41) (f:=1) (n:=8) (T:=fun w' => Below W.heap.size W w') (by kernel_rfl) (by kernel_rfl) (fun _ _ _ _ _ h => h) (cf (aB _ _ _ _ _) (aB _ _ _ _ _)) ?_ (ao W) hHeld (aa HB) (by simp) ?_
  ·intro a w K h
   unfold wpOp
   go_simp
   exact Or.inl h
  clear hHeld
  refine woA 0 16 ?_
  refine woA 1 17 ?_
  refine woA 3 19 ?_
  refine woA 4 20 ?_
  refine woA 5 21 ?_
  refine woA 6 22 ?_
  refine bv (c:=2) (o:={ dst:=some 18,op:=_,type:=_,pos:=_,after:=_,guard:=_ }) rfl (by kernel_rfl) (by kernel_rfl) (fun u hSu hTu Kk hKk => ?_)
  go_simp
  refine (aE S1 _ (aa HS).1 (aa HS).2.1).mono ?_
  rintro _ wn ⟨s1,rfl,hN1,hbl⟩
  obtain ⟨a1,m1,c1,rfl⟩:=hN1.slice
  have HTn:=ab (And.intro (ac hTu hbl) hN1)
  clear hTu hN1
  (try go_wp2_with fail)
  refine hKk.out _ _ (fun w' => Below W.heap.size W w' ∧ ai w' (.slice a1 m1 c1) S1.toNat) (by assumption) (cf (ao W) (aD _ _)) (aa HTn) ?_
  clear hKk Kk HTn
  (try simp only [Act.put,List.setIfInBounds_toArray,List.set_cons_zero,List.set_cons_succ])
  refine bv (c:=7) (o:={ dst:=some 23,op:=_,type:=_,pos:=_,after:=_,guard:=_ }) rfl (by kernel_rfl) (by kernel_rfl) (fun u hSu hTu Kk hKk => ?_)
  go_simp
  refine (uq _ _ _ _ _ d1 _ ((aa HD).1 _ (by omega)) hTu.2 (aa HS).2.2.1 (aa HD).2.1).mono ?_
  rintro _ wn ⟨s2,rfl,hN2,hbl⟩
  obtain ⟨a2,m2,c2,rfl⟩:=hN2.slice
  have HTn:=ab (And.intro (ac hTu.1 hbl) hN2)
  clear hTu hN2
  (try go_wp2_with fail)
  refine hKk.out _ _ (fun w' => Below W.heap.size W w' ∧ ai w' (.slice a2 m2 c2) (S1.toNat * 2 ^ d1)) (by assumption) (cf (ao W) (aD _ _)) (aa HTn) ?_
  clear hKk Kk HTn
  (try simp only [Act.put,List.setIfInBounds_toArray,List.set_cons_zero,List.set_cons_succ])
  refine cQ (by kernel_rfl) (fun wf b1 hSu hTu k1 => ?_)
  (try simp only [Act.put,List.setIfInBounds_toArray,List.set_cons_zero,List.set_cons_succ])
  unfold ptr
  have zb:=k1.base
  obtain ⟨f0,f1⟩:=aaz k1
  refine ct #[true,true,true,true,true,true,true,true,true,false] (by kernel_rfl) ?_
  refine wpAnyH_ready (rs:=[9]) (by kernel_rfl) (by simp) ?_
  refine AllReadyH.cons (o:={ dst:=none,op:=_,type:=_,pos:=_,after:=_,guard:=_ }) rfl (fun Kk hKk => ?_) AllReadyH.nil
  go_simp
  refine hKk.out _ _ ?_ (fun hHeld => ?_)
  ·(try dsimp only)
   exact ⟨At4.set hSu.1 (by omega) _ _,At4.set hSu.2 (by omega) _ _⟩
  clear hKk Kk
  refine wpAnyH_done (by kernel_rfl) ?_ _
  have HA:=ab hHeld
  have HB:=ab (aZ hTu.1 b1 (by omega) 0 (.slice a2 m2 c2))
  have HM:=ab (hTu.2.store f0 (.slice a2 m2 c2))
  have HC1:=ab (mS f0 (.slice a2 m2 c2))
  have ZB:=ab zb
  clear hHeld hSu hTu k1 f0 f1 zb
  generalize wf.setCell ⟨b1,0,none⟩ (.slice a2 m2 c2) = wx at *
  go_wp2_with fail
  have HA:=ab (And.intro (At4.below (aa HA).1 ((Below.refl _ _).drew)) (At4.below (aa HA).2 ((Below.refl _ _).drew)))
  have HB:=ab ((aa HB).drew)
  have HM:=ab ((aa HM).below ((Below.refl _ _).drew))
  have HC1:=ab (aw ((Below.refl _ _).drew) (ag (aa HC1)) (aa HC1))
  have hz4 : b1 + 1 ≤ wx.drew.heap.size:=ag (aa HC1)
  refine wp_region_held_drew (S:=fun w' => (w'.cell? ⟨W.heap.size,0,none⟩ = some (.bool n1) ∧ w'.cell? ⟨W.heap.size,1,none⟩ = some (.int .i64 K1) ∧ w'.cell? ⟨W.heap.size,2,none⟩ = some (.int .i64 X1) ∧ w'.cell? ⟨W.heap.size,3,none⟩ = some (.int .u64 S1)) ∧ (w'.cell? ⟨W.heap.size + 1,0,none⟩ = some (.bool n2) ∧ w'.cell? ⟨W.heap.size + 1,1,none⟩ = some (.int .i64 K2) ∧ w'.cell? ⟨W.heap.size + 1,2,none⟩ = some (.int .i64 X2) ∧ w'.cell? ⟨W.heap.size + 1,3,none⟩ = some (.int .u64 S2)) ∧ w'.cell? ⟨b1,0,none⟩ = some (.slice a2 m2 c2)) (by kernel_rfl) ?_ (fun hHeld => ?_)
  ·(try dsimp only)
   exact ⟨(aa HA).1,(aa HA).2,aa HC1⟩
  refine bF (N:=b1 + 1) (i1:=8) (d1:=9) (v1:=#[.slice none 0 0]) (t1:=41) (f:=1) (n:=8) (T:=fun w' => Below W.heap.size W w' ∧ ai w' (.slice a2 m2 c2) (S1.toNat * 2 ^ d1)) (by kernel_rfl) (by kernel_rfl) (fun _ _ _ _ _ h => h) (cf (aB _ _ _ _ _) (cf (aB _ _ _ _ _) (gj _ _))) ?_ (cf (ao W) (aD _ _)) hHeld (⟨aa HB,aa HM⟩) (hz4) ?_
  ·intro a w K h
   unfold wpOp
   go_simp
   exact Or.inl h
  clear hHeld
  refine woA 0 24 ?_
  refine woA 1 25 ?_
  refine woA 3 27 ?_
  refine woA 4 28 ?_
  refine woA 5 29 ?_
  refine woA 6 30 ?_
  refine bv (c:=2) (o:={ dst:=some 26,op:=_,type:=_,pos:=_,after:=_,guard:=_ }) rfl (by kernel_rfl) (by kernel_rfl) (fun u hSu hTu Kk hKk => ?_)
  go_simp
  refine (aE S2 _ (aa HS).2.2.2.1 (aa HS).2.2.2.2.1).mono ?_
  rintro _ wn ⟨s3,rfl,hN3,hbl⟩
  obtain ⟨a3,m3,c3,rfl⟩:=hN3.slice
  have HTn:=ab (And.intro (ac hTu.1 hbl) (And.intro (hTu.2.below hbl) hN3))
  clear hTu hN3
  (try go_wp2_with fail)
  refine hKk.out _ _ (fun w' => Below W.heap.size W w' ∧ ai w' (.slice a2 m2 c2) (S1.toNat * 2 ^ d1) ∧ ai w' (.slice a3 m3 c3) S2.toNat) (by assumption) (cf (ao W) (cf (aD _ _) (aD _ _))) (aa HTn) ?_
  clear hKk Kk HTn
  (try simp only [Act.put,List.setIfInBounds_toArray,List.set_cons_zero,List.set_cons_succ])
  refine bv (c:=7) (o:={ dst:=some 31,op:=_,type:=_,pos:=_,after:=_,guard:=_ }) rfl (by kernel_rfl) (by kernel_rfl) (fun u hSu hTu Kk hKk => ?_)
  go_simp
  refine (uq _ _ _ _ _ d2 _ ((aa HD).2.2.1 _ (by omega)) hTu.2.2 (aa HS).2.2.2.2.2 (aa HD).2.2.2).mono ?_
  rintro _ wn ⟨s4,rfl,hN4,hbl⟩
  obtain ⟨a4,m4,c4,rfl⟩:=hN4.slice
  have HTn:=ab (And.intro (ac hTu.1 hbl) (And.intro (hTu.2.1.below hbl) hN4))
  clear hTu hN4
  (try go_wp2_with fail)
  refine hKk.out _ _ (fun w' => Below W.heap.size W w' ∧ ai w' (.slice a2 m2 c2) (S1.toNat * 2 ^ d1) ∧ ai w' (.slice a4 m4 c4) (S2.toNat * 2 ^ d2)) (by assumption) (cf (ao W) (cf (aD _ _) (aD _ _))) (aa HTn) ?_
  clear hKk Kk HTn
  (try simp only [Act.put,List.setIfInBounds_toArray,List.set_cons_zero,List.set_cons_succ])
  refine cQ (by kernel_rfl) (fun wf b2 hSu hTu k1 => ?_)
  (try simp only [Act.put,List.setIfInBounds_toArray,List.set_cons_zero,List.set_cons_succ])
  unfold ptr
  have zb:=k1.base
  obtain ⟨f0,f1⟩:=aaz k1
  refine ct #[true,true,true,true,true,true,true,true,true,false] (by kernel_rfl) ?_
  refine wpAnyH_ready (rs:=[9]) (by kernel_rfl) (by simp) ?_
  refine AllReadyH.cons (o:={ dst:=none,op:=_,type:=_,pos:=_,after:=_,guard:=_ }) rfl (fun Kk hKk => ?_) AllReadyH.nil
  go_simp
  refine hKk.out _ _ ?_ (fun hHeld => ?_)
  ·(try dsimp only)
   exact ⟨At4.set hSu.1 (by have:=aa ZB; omega) _ _,At4.set hSu.2.1 (by have:=aa ZB; omega) _ _,ax _ _ _ (by omega) hSu.2.2⟩
  clear hKk Kk
  refine wpAnyH_done (by kernel_rfl) ?_ _
  have HK : Hid (ESt W b1 b2 n1 n2 K1 X1 S1 K2 X2 S2 (.slice a2 m2 c2) (.slice a4 m4 c4) (S1.toNat * 2 ^ d1) (S2.toNat * 2 ^ d2) (wf.setCell ⟨b2,0,none⟩ (.slice a4 m4 c4))):=
   { a1:=hHeld.1,a2:=hHeld.2.1,c1:=hHeld.2.2,c2:=mS f0 _,m1:=hTu.2.1.store f0 _,m2:=hTu.2.2.store f0 _,bel:=aZ hTu.1 b2 (by have:=aa ZB; omega) 0 _ }
  clear hHeld hSu hTu k1 f0 f1 zb HA HB HM HC1 hz4
  generalize wf.setCell ⟨b2,0,none⟩ (.slice a4 m4 c4) = wy at *
  rcases HQ with ⟨hn,HE⟩ | ⟨hn,HQ⟩
  ·have s0:=(aa HK).a1.1
   have s1:=(aa HK).a2.1
   have p0:=(aa HK).c1
   have q0:=(aa HK).c2
   go_wp2_with fail
   clear s0 s1 p0 q0
   have HK:=ab ((aa HK).below ((Below.refl _ _).drew))
   refine wp_region_held_drew (S:=fun w' => (w'.cell? ⟨W.heap.size,0,none⟩ = some (.bool n1) ∧ w'.cell? ⟨W.heap.size,1,none⟩ = some (.int .i64 K1) ∧ w'.cell? ⟨W.heap.size,2,none⟩ = some (.int .i64 X1) ∧ w'.cell? ⟨W.heap.size,3,none⟩ = some (.int .u64 S1)) ∧ (w'.cell? ⟨W.heap.size + 1,0,none⟩ = some (.bool n2) ∧ w'.cell? ⟨W.heap.size + 1,1,none⟩ = some (.int .i64 K2) ∧ w'.cell? ⟨W.heap.size + 1,2,none⟩ = some (.int .i64 X2) ∧ w'.cell? ⟨W.heap.size + 1,3,none⟩ = some (.int .u64 S2)) ∧ w'.cell? ⟨b1,0,none⟩ = some (.slice a2 m2 c2) ∧ w'.cell? ⟨b2,0,none⟩ = some (.slice a4 m4 c4)) (by kernel_rfl) ?_ (fun hHeld => ?_)
   ·(try dsimp only)
    exact ⟨(aa HK).a1,(aa HK).a2,(aa HK).c1,(aa HK).c2⟩
   refine aC 9 (by kernel_rfl) ?_
   refine tkA 0 37 1 ?_
   refine tkA 1 38 3 ?_
   refine tkA 2 39 7 ?_
   refine tkA 3 40 15 ?_
   refine tkA 4 41 31 ?_
   refine tkA 6 43 95 ?_
   refine rdA 5 127 (fun Kk hKk => ?_)
   go_simp
   refine (aqf _ _ _ _ _ _ _ _ _ (aa HK).m1 (aa HK).m2 (aa H3).1 (aa H3).2).mono ?_
   rintro _ w5 ⟨s5,rfl,hN5,hbl⟩
   obtain ⟨a5,m5,c5,rfl⟩:=hN5.slice
   have HK:=ab ((aa HK).below hbl)
   have H5:=ab hN5
   clear hbl hN5
   (try go_wp2_with fail)
   refine oA hKk (⟨(aa HK).a1,(aa HK).a2,(aa HK).c1,(aa HK).c2⟩) fun hHeld => ?_
   clear hKk Kk
   refine rdA 7 255 (fun Kk hKk => ?_)
   go_simp
   refine (aa HE _ _ _ _ (aa H5)).mono ?_
   rintro _ w6 ⟨rfl,hbl⟩
   have HK:=ab ((aa HK).below hbl)
   clear hbl
   (try go_wp2_with fail)
   refine oA hKk (⟨(aa HK).a1,(aa HK).a2,(aa HK).c1,(aa HK).c2⟩) fun hHeld => ?_
   clear hKk Kk
   refine tkA 8 6 511 ?_
   refine wpAnyH_done (by kernel_rfl) ?_ _
   go_wp2
   go_ret
   exact ⟨rfl,(aa HK).bel⟩
  ·have s0:=(aa HK).a1.1
   have s1:=(aa HK).a2.1
   have p0:=(aa HK).c1
   have q0:=(aa HK).c2
   go_wp2_with fail
   refine (bc _ _ _ _ _ _ _ _ _ (aa HK).m1 (aa HK).m2).mono ?_
   rintro _ w4 ⟨rfl,hbl⟩
   clear s0 s1 p0 q0
   have HK:=ab ((aa HK).below hbl)
   clear hbl
   have s0:=(aa HK).a1.1
   have s1:=(aa HK).a2.1
   have p0:=(aa HK).c1
   have q0:=(aa HK).c2
   rcases HQ with ⟨hv,rfl⟩ | ⟨hv,hle,HE⟩ | ⟨hv,hle,HE⟩
   ·rw [hv]
    go_wp2_with fail
    go_ret
    exact ⟨rfl,(aa HK).bel⟩
   ·rw [hv]
    go_wp2_with fail
    clear s0 s1 p0 q0
    have HK:=ab ((aa HK).below ((Below.refl _ _).drew))
    refine wp_region_held_drew (S:=fun w' => (w'.cell? ⟨W.heap.size,0,none⟩ = some (.bool n1) ∧ w'.cell? ⟨W.heap.size,1,none⟩ = some (.int .i64 K1) ∧ w'.cell? ⟨W.heap.size,2,none⟩ = some (.int .i64 X1) ∧ w'.cell? ⟨W.heap.size,3,none⟩ = some (.int .u64 S1)) ∧ (w'.cell? ⟨W.heap.size + 1,0,none⟩ = some (.bool n2) ∧ w'.cell? ⟨W.heap.size + 1,1,none⟩ = some (.int .i64 K2) ∧ w'.cell? ⟨W.heap.size + 1,2,none⟩ = some (.int .i64 X2) ∧ w'.cell? ⟨W.heap.size + 1,3,none⟩ = some (.int .u64 S2)) ∧ w'.cell? ⟨b1,0,none⟩ = some (.slice a2 m2 c2) ∧ w'.cell? ⟨b2,0,none⟩ = some (.slice a4 m4 c4)) (by kernel_rfl) ?_ (fun hHeld => ?_)
    ·(try dsimp only)
     exact ⟨(aa HK).a1,(aa HK).a2,(aa HK).c1,(aa HK).c2⟩
    refine aC 9 (by kernel_rfl) ?_
    refine tkA 0 52 1 ?_
    refine tkA 1 53 3 ?_
    refine tkA 2 54 7 ?_
    refine tkA 3 55 15 ?_
    refine tkA 4 56 31 ?_
    refine tkA 6 58 95 ?_
    refine rdA 5 127 (fun Kk hKk => ?_)
    go_simp
    refine (aj2 _ _ _ _ _ _ _ _ _ (aa HK).m2 (aa HK).m1 (aa H3).2 hle).mono ?_
    rintro _ w5 ⟨s5,rfl,hN5,hbl⟩
    obtain ⟨a5,m5,c5,rfl⟩:=hN5.slice
    have HK:=ab ((aa HK).below hbl)
    have H5:=ab hN5
    clear hbl hN5
    (try go_wp2_with fail)
    refine oA hKk (⟨(aa HK).a1,(aa HK).a2,(aa HK).c1,(aa HK).c2⟩) fun hHeld => ?_
    clear hKk Kk
    refine rdA 7 255 (fun Kk hKk => ?_)
    go_simp
    refine (aa HE _ _ _ _ (aa H5)).mono ?_
    rintro _ w6 ⟨rfl,hbl⟩
    have HK:=ab ((aa HK).below hbl)
    clear hbl
    (try go_wp2_with fail)
    refine oA hKk (⟨(aa HK).a1,(aa HK).a2,(aa HK).c1,(aa HK).c2⟩) fun hHeld => ?_
    clear hKk Kk
    refine tkA 8 6 511 ?_
    refine wpAnyH_done (by kernel_rfl) ?_ _
    go_wp2
    go_ret
    exact ⟨rfl,(aa HK).bel⟩
   ·rw [hv]
    go_wp2_with fail
    clear s0 s1 p0 q0
    have HK:=ab ((aa HK).below ((Below.refl _ _).drew))
    refine wp_region_held_drew (S:=fun w' => (w'.cell? ⟨W.heap.size,0,none⟩ = some (.bool n1) ∧ w'.cell? ⟨W.heap.size,1,none⟩ = some (.int .i64 K1) ∧ w'.cell? ⟨W.heap.size,2,none⟩ = some (.int .i64 X1) ∧ w'.cell? ⟨W.heap.size,3,none⟩ = some (.int .u64 S1)) ∧ (w'.cell? ⟨W.heap.size + 1,0,none⟩ = some (.bool n2) ∧ w'.cell? ⟨W.heap.size + 1,1,none⟩ = some (.int .i64 K2) ∧ w'.cell? ⟨W.heap.size + 1,2,none⟩ = some (.int .i64 X2) ∧ w'.cell? ⟨W.heap.size + 1,3,none⟩ = some (.int .u64 S2)) ∧ w'.cell? ⟨b1,0,none⟩ = some (.slice a2 m2 c2) ∧ w'.cell? ⟨b2,0,none⟩ = some (.slice a4 m4 c4)) (by kernel_rfl) ?_ (fun hHeld => ?_)
    ·(try dsimp only)
     exact ⟨(aa HK).a1,(aa HK).a2,(aa HK).c1,(aa HK).c2⟩
    refine aC 9 (by kernel_rfl) ?_
    refine tkA 0 60 1 ?_
    refine tkA 1 61 3 ?_
    refine tkA 2 62 7 ?_
    refine tkA 3 63 15 ?_
    refine tkA 4 64 31 ?_
    refine tkA 6 66 95 ?_
    refine rdA 5 127 (fun Kk hKk => ?_)
    go_simp
    refine (aj2 _ _ _ _ _ _ _ _ _ (aa HK).m1 (aa HK).m2 (aa H3).1 hle).mono ?_
    rintro _ w5 ⟨s5,rfl,hN5,hbl⟩
    obtain ⟨a5,m5,c5,rfl⟩:=hN5.slice
    have HK:=ab ((aa HK).below hbl)
    have H5:=ab hN5
    clear hbl hN5
    (try go_wp2_with fail)
    refine oA hKk (⟨(aa HK).a1,(aa HK).a2,(aa HK).c1,(aa HK).c2⟩) fun hHeld => ?_
    clear hKk Kk
    refine rdA 7 255 (fun Kk hKk => ?_)
    go_simp
    refine (aa HE _ _ _ _ (aa H5)).mono ?_
    rintro _ w6 ⟨rfl,hbl⟩
    have HK:=ab ((aa HK).below hbl)
    clear hbl
    (try go_wp2_with fail)
    refine oA hKk (⟨(aa HK).a1,(aa HK).a2,(aa HK).c1,(aa HK).c2⟩) fun hHeld => ?_
    clear hKk Kk
    refine tkA 8 6 511 ?_
    refine wpAnyH_done (by kernel_rfl) ?_ _
    go_wp2
    go_ret
    exact ⟨rfl,(aa HK).bel⟩
set_option maxHeartbeats 4000000
theorem gN {s tt oo : ByteArray} {a n k r wt wo : Int} {g : Bool} (hs : s = ⟨#[105,51,50,46,116,114,117,110,99,95,115,97,116,95,102,51,50,95,115]⟩ ∧ g = true ∨ s = ⟨#[105,51,50,46,116,114,117,110,99,95,115,97,116,95,102,51,50,95,117]⟩ ∧ g = false ∨ s = ⟨#[105,51,50,46,116,114,117,110,99,95,115,97,116,95,102,54,52,95,115]⟩ ∧ g = true ∨ s = ⟨#[105,51,50,46,116,114,117,110,99,95,115,97,116,95,102,54,52,95,117]⟩ ∧ g = false ∨ s = ⟨#[105,54,52,46,116,114,117,110,99,95,115,97,116,95,102,51,50,95,115]⟩ ∧ g = true ∨ s = ⟨#[105,54,52,46,116,114,117,110,99,95,115,97,116,95,102,51,50,95,117]⟩ ∧ g = false ∨ s = ⟨#[105,54,52,46,116,114,117,110,99,95,115,97,116,95,102,54,52,95,115]⟩ ∧ g = true ∨ s = ⟨#[105,54,52,46,116,114,117,110,99,95,115,97,116,95,102,54,52,95,117]⟩ ∧ g = false) (hT : s.extract 0 3 = tt) (HO : Ct 31 #[.string s] (.string oo)) (HW : Ct 42 #[.string tt] (.int .i64 wt)) (HV : Ct 42 #[.string oo] (.int .i64 wo)) (H1 : Ct 103 #[.int .i64 wo,.int .i64 wt,.int .u64 a,.bool g] (.tuple #[.int .i64 k,.int .u64 n])) (H2 : Ct 104 #[.int .i64 k,.int .u64 n,.int .i64 wt,.bool g] (.int .u64 r)) : Ct 43 #[.string s,.int .u64 a] (.tuple #[.int .u64 r,.int .i64 0]):=by
 refine ab (fun W => ?_)
 have HB:=rf W
 rcases hs with ⟨rfl,rfl⟩ | ⟨rfl,rfl⟩ | ⟨rfl,rfl⟩ | ⟨rfl,rfl⟩ | ⟨rfl,rfl⟩ | ⟨rfl,rfl⟩ | ⟨rfl,rfl⟩ | ⟨rfl,rfl⟩
 all_goals
  go_enter Tryz.func43,Tryz.ntmps43
  go_wp2_with fail
  refine cg0 HO HB fun wq HB => ?_
  go_wp2_with fail
  refine cg0 HV HB fun wq HB => ?_
  go_wp2_with fail
  refine cg0 HW HB fun wq HB => ?_
  go_wp2_with fail
  refine cg0 H1 HB fun wq HB => ?_
  go_wp2_with fail
  refine cg0 HW HB fun wq HB => ?_
  go_wp2_with fail
  refine cg0 H2 HB fun wq HB => ?_
  go_wp2_with fail
  exact bodyPost_ret (v:=.tuple #[.int .u64 _,.int .i64 _]) (by simp [results,Tryz.results43,go_sem]) rfl ⟨rfl,aa HB⟩
end Go.Proofs.YtpbgpdmffejdgaaGreatDoor
