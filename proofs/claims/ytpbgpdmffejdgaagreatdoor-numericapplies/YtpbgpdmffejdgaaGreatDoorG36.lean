/- MInU, MRadR. -/
import Derived.Test.YtpbgpdmffejdgaaGreatDoorG01
import Derived.Test.YtpbgpdmffejdgaaGreatDoorG16
import Derived.Test.YtpbgpdmffejdgaaGreatDoorG19
import Derived.Test.YtpbgpdmffejdgaaGreatDoorG24
import Derived.Test.YtpbgpdmffejdgaaGreatDoorG27
import Derived.Test.YtpbgpdmffejdgaaGreatDoorG32
namespace Go.Proofs.YtpbgpdmffejdgaaGreatDoor
set_option maxHeartbeats 4000000
set_option maxRecDepth 100000
open Go.RowKit
open Go.Proofs.YtpbgpdmffejdgaaGreatDoor.W
theorem alz {a t : Int} {n A : Nat} {rd inn : Bool} (hn : n ≤ 64) (n0 : 0 < n) (t0 : -(n : Int) < t) (t1 : t < n)
 (HL : Hid (∀ W,Calls Tryz.prog 172 #[.int .i64 (n : Int),.int .u64 a] W fun e w' => ∃ s,e = .returned s ∧ db w' s A.testBit n ∧ Below W.heap.size W w'))
 (HF : Hid (∀ s W,db W s (dk A n t rd inn) n → Calls Tryz.prog 173 #[s] W fun e w' => e = .returned (.int .u64 ((bX (dk A n t rd inn) n : Nat) : Int)) ∧ Below W.heap.size W w')) :
 Ct 198 #[.int .i64 (n : Int),.int .u64 a,.int .i64 t,.bool rd,.bool inn] (.int .u64 ((bX (dk A n t rd inn) n : Nat) : Int)):=by
 refine ab (fun W => ?_)
 go_enter Tryz.func198,Tryz.ntmps198
 go_wp2_with fail
 refine (aa HL _).mono ?_
 rintro _ w1 ⟨s1,rfl,hH,hb⟩
 have HH:=ab hH
 have HW:=ab hb
 obtain ⟨b,c,rfl,-⟩:=hH
 clear hb
 go_wp2_with fail
 go_loopw [12,13] (fun v5 v6 wr => ∃ i : Nat,i ≤ n ∧ v6 = .int .i64 (i : Int) ∧ wr.ownsRow w1.heap.size 4 1 v5 i (cH (dk A n t rd inn) i) ∧ Below w1.heap.size w1 wr) (fun _ i _ => n - (intOf i).toNat)
 case atStart => exact ⟨0,by omega,rfl,World.ownsRow_nil _ _ _ _,Below.refl _ _⟩
 case round =>
  obtain ⟨i,hi,rfl,hown,hB⟩:=hrel
  have HO:=ab hown; have HB:=ab hB
  have HL1:=ab (show i + 1 ≤ maxLen by unfold maxLen; omega)
  have HL2:=ab (show (i + 1) * 1 ≤ 140737488355328 by omega)
  have HL3:=ab (show w1.heap.size ≤ wr.heap.size from hB.size)
  have HHr:=ab ((aa HH).below hB)
  clear hown hB
  obtain ⟨b',c',he,h2,h3,h4⟩:=aa HHr
  have hbb : b' = b:=by
   injection he with e1 e2 e3
   injection e1 with e1
   injection e1 with e1
   exact e1.symm
  subst hbb
  have H4:=ab h4
  clear h4 he HHr
  by_cases hc : i < n
  ·have hk : IntKind.i64.wrap ((i : Int) - t) = (i : Int) - t:=aj (by omega) (by omega)
   by_cases g : 0 ≤ (i : Int) - t ∧ (i : Int) - t < n
   ·have HE : Hid (A.testBit ((i : Int) - t).toNat = dk A n t rd inn i):=ab (by unfold dk; rw [if_pos g])
    have hcell:=aa H4 ((i : Int) - t).toNat (by omega)
    obtain ⟨g1,g2⟩:=g
    obtain ⟨K,hK⟩:=Int.eq_ofNat_of_zero_le g1
    rw [hK,Int.toNat_natCast] at hcell HE
    rw [hK] at g2
    generalize A.testBit K = e at *
    go_wp2_with (at_builtin; refine wpList_append_own _ rfl _ _ 151 rfl (w1.heap.size) 4 _ (.bool false) 1 1 Tryz.underlying151 iB rfl rfl rfl rfl (by decide) _ _ _ rfl ((aa HO).alloc _) ⟨wr.heap.size,0,none⟩ 1 1 [.bool e] rfl rfl (cell_one_new _ _ _) (dL _) (aa HL1) (aa HL2) (bY (aa HL3) _) ?_; intro v' wz hown' hgr _)
    have hr:=cA (aa HO) (aa HB) (aa HL3) hown' hgr (aa HE)
    refine ⟨⟨i + 1,by omega,by go_num,hr.1,hr.2⟩,by simp [intOf]; omega⟩
   ·cases rd
    ·have HE : Hid (inn = dk A n t false inn i):=ab (by unfold dk; rw [if_neg g]; rfl)
     generalize hk' : (i : Int) - t = k at *
     by_cases g1 : 0 ≤ k
     ·have g2 : ¬ k < n:=fun h => g ⟨g1,h⟩
      clear g
      go_wp2_with (at_builtin; refine wpList_append_own _ rfl _ _ 151 rfl (w1.heap.size) 4 _ (.bool false) 1 1 Tryz.underlying151 iB rfl rfl rfl rfl (by decide) _ _ _ rfl ((aa HO).alloc _) ⟨wr.heap.size,0,none⟩ 1 1 [.bool inn] rfl rfl (cell_one_new _ _ _) (dL _) (aa HL1) (aa HL2) (bY (aa HL3) _) ?_; intro v' wz hown' hgr _)
      have hr:=cA (aa HO) (aa HB) (aa HL3) hown' hgr (aa HE)
      refine ⟨⟨i + 1,by omega,by go_num,hr.1,hr.2⟩,by simp [intOf]; omega⟩
     ·clear g
      go_wp2_with (at_builtin; refine wpList_append_own _ rfl _ _ 151 rfl (w1.heap.size) 4 _ (.bool false) 1 1 Tryz.underlying151 iB rfl rfl rfl rfl (by decide) _ _ _ rfl ((aa HO).alloc _) ⟨wr.heap.size,0,none⟩ 1 1 [.bool inn] rfl rfl (cell_one_new _ _ _) (dL _) (aa HL1) (aa HL2) (bY (aa HL3) _) ?_; intro v' wz hown' hgr _)
      have hr:=cA (aa HO) (aa HB) (aa HL3) hown' hgr (aa HE)
      refine ⟨⟨i + 1,by omega,by go_num,hr.1,hr.2⟩,by simp [intOf]; omega⟩
    ·have HE : Hid (A.testBit (((i : Int) - t + n) % n).toNat = dk A n t true inn i):=ab (by unfold dk; rw [if_neg g]; rfl)
     have hk2 : IntKind.i64.wrap ((i : Int) - t + n) = (i : Int) - t + n:=aj (by omega) (by omega)
     have hq : 0 ≤ (i : Int) - t + n:=by omega
     have q1:=Int.emod_nonneg ((i : Int) - t + n) (show (n : Int) ≠ 0 by omega)
     have q2:=Int.emod_lt_of_pos ((i : Int) - t + n) (show 0 < (n : Int) by omega)
     have hcell:=aa H4 (((i : Int) - t + n) % n).toNat (by omega)
     have hm : ((i : Int) - t + n).tmod n = ((i : Int) - t + n) % n:=Int.tmod_eq_emod_of_nonneg hq
     have hn0 : ¬ (n : Int) = 0:=by omega
     generalize hk' : (i : Int) - t = k at *
     generalize hk2' : k + (n : Int) = k2 at *
     generalize hK : k2 % (n : Int) = k3 at *
     obtain ⟨K,rfl⟩:=Int.eq_ofNat_of_zero_le q1
     rw [Int.toNat_natCast] at hcell HE
     generalize A.testBit K = e at *
     by_cases g1 : 0 ≤ k
     ·have g2 : ¬ k < n:=fun h => g ⟨g1,h⟩
      clear g
      go_wp2_with (at_builtin; refine wpList_append_own _ rfl _ _ 151 rfl (w1.heap.size) 4 _ (.bool false) 1 1 Tryz.underlying151 iB rfl rfl rfl rfl (by decide) _ _ _ rfl ((aa HO).alloc _) ⟨wr.heap.size,0,none⟩ 1 1 [.bool e] rfl rfl (cell_one_new _ _ _) (dL _) (aa HL1) (aa HL2) (bY (aa HL3) _) ?_; intro v' wz hown' hgr _)
      have hr:=cA (aa HO) (aa HB) (aa HL3) hown' hgr (aa HE)
      refine ⟨⟨i + 1,by omega,by go_num,hr.1,hr.2⟩,by simp [intOf]; omega⟩
     ·clear g
      go_wp2_with (at_builtin; refine wpList_append_own _ rfl _ _ 151 rfl (w1.heap.size) 4 _ (.bool false) 1 1 Tryz.underlying151 iB rfl rfl rfl rfl (by decide) _ _ _ rfl ((aa HO).alloc _) ⟨wr.heap.size,0,none⟩ 1 1 [.bool e] rfl rfl (cell_one_new _ _ _) (dL _) (aa HL1) (aa HL2) (bY (aa HL3) _) ?_; intro v' wz hown' hgr _)
      have hr:=cA (aa HO) (aa HB) (aa HL3) hown' hgr (aa HE)
      refine ⟨⟨i + 1,by omega,by go_num,hr.1,hr.2⟩,by simp [intOf]; omega⟩
  ·have hin : i = n:=by omega
   subst hin
   have hH:=ab (gT (aa HO) n0)
   go_wp2_with fail
   refine (aa HF _ _ (aa hH)).mono ?_
   rintro _ w2 ⟨rfl,hb⟩
   have HB:=ab (ac (ac (aa HW) (aa HB)) hb)
   clear hb
   go_wp2_with fail
   go_ret
   exact ⟨rfl,aa HB⟩
set_option maxHeartbeats 2000000
theorem dY {x : Int} (h1 : 0 ≤ x) (h2 : x < 18446744073709551616) : IntKind.u64.wrap x = x:=by
 simp only [IntKind.wrap,IntKind.bits,IntKind.signed]
 simp
 omega
structure abm (N M : Nat) (w : World) (sa sb : Value) (x y : Nat) (w' : World) : Prop where
 ca : w'.cell? ⟨N,0,none⟩ = some sa
 cb : w'.cell? ⟨M,0,none⟩ = some sb
 na : ai w' sa x
 nb : ai w' sb y
 bel : Below w.heap.size w w'
theorem abm.below {N M : Nat} {w : World} {sa sb : Value} {x y : Nat} {w' w'' : World} (h : abm N M w sa sb x y w') (hb : Below w'.heap.size w' w'') : abm N M w sa sb x y w'':=
 { ca:=aw hb (ag h.ca) h.ca,cb:=aw hb (ag h.cb) h.cb,na:=h.na.below hb,nb:=h.nb.below hb,bel:=ac h.bel hb }
theorem ahz {m k a e k' A : Int} (W : World) (m0 : 0 ≤ m) (m1 : m < 18446744073709551616) (a0 : 0 ≤ a) (a1 : a < 18446744073709551616) (k2 : IntKind.i64.wrap (2 * k) = k') (h : e < k') (kA : IntKind.i64.wrap (k' - e) = A) (A0 : 0 ≤ A) (A1 : A ≤ 10000) :
 Calls Tryz.prog 276 #[.int .u64 m,.int .i64 k,.int .u64 a,.int .i64 e] W fun r W' => r = .returned (.int .i64 (aK (m.toNat * m.toNat * 2 ^ A.toNat) (a.toNat))) ∧ Below W.heap.size W W':=by
 have kz : IntKind.i64.wrap 0 = 0:=by decide
 have HM : Hid (m.toNat < pw 2):=by unfold pw; exact (by omega : m.toNat < 18446744073709551616)
 have HPb : Hid (a.toNat < pw 2):=by unfold pw; exact (by omega : a.toNat < 18446744073709551616)
 have HPa : Hid (m.toNat * m.toNat < pw 4):=by
  have:=Nat.mul_lt_mul'' (show m.toNat < 18446744073709551616 by omega) (show m.toNat < 18446744073709551616 by omega)
  unfold pw
  exact this
 go_enter Tryz.func276,Tryz.ntmps276
 go_wp2_with fail
 refine (aE m _ m0 m1).mono ?_
 rintro _ w1 ⟨s1,rfl,hN,hbl⟩
 obtain ⟨a1',n1,c1,rfl⟩:=hN.slice
 have HB:=ab hbl
 have H1:=ab hN
 clear hbl hN
 go_wp2_with fail
 refine (aE m _ m0 m1).mono ?_
 rintro _ w2 ⟨s2,rfl,hN,hbl⟩
 obtain ⟨a2,n2,c2,rfl⟩:=hN.slice
 have HB:=bt HB hbl
 have H1:=ab ((aa H1).below hbl)
 have H2:=ab hN
 clear hbl hN
 go_wp2_with fail
 refine (fc _ _ _ _ _ _ _ _ _ (aa H1) (aa H2) (Nat.le_trans ((aa H1).short (aa HM)) (by omega)) (Nat.le_trans ((aa H2).short (aa HM)) (by omega))).mono ?_
 rintro _ w3 ⟨s3,rfl,hN,hbl⟩
 obtain ⟨a3,n3,c3,rfl⟩:=hN.slice
 have HB:=ab (ad (ac (aa HB) hbl) (.cells #[.slice a3 n3 c3] 41))
 have H3:=ab (hN.below (ae w3 (.cells #[.slice a3 n3 c3] 41)))
 have HC3 : Hid ((w3.alloc (.cells #[.slice a3 n3 c3] 41)).cell? ⟨w3.heap.size,0,none⟩ = some (.slice a3 n3 c3)):=by apply ab; simp [go_sem]
 clear hbl hN H1 H2
 go_wp2_with fail
 refine (aE a _ a0 a1).mono ?_
 rintro _ w4 ⟨s4,rfl,hN,hbl⟩
 obtain ⟨a4,n4,c4,rfl⟩:=hN.slice
 have HK : Hid (abm w3.heap.size w4.heap.size W (.slice a3 n3 c3) (.slice a4 n4 c4) (m.toNat * m.toNat) a.toNat (w4.alloc (.cells #[.slice a4 n4 c4] 41)).drew):=by
  have hb2:=ac hbl ((ae w4 (.cells #[.slice a4 n4 c4] 41)).drew)
  have hb3:=(ae w4 (.cells #[.slice a4 n4 c4] 41)).drew
  exact { ca:=aw hb2 (ag (aa HC3)) (aa HC3),cb:=by simp [go_sem],na:=(aa H3).below hb2,nb:=hN.below hb3,bel:=ac (aa HB) hb2 }
 clear hbl hN H3 HC3 HB
 go_wp2_with fail
 refine wp_region_held_drew (S:=fun w' => w'.cell? ⟨w3.heap.size,0,none⟩ = some (.slice a3 n3 c3) ∧ w'.cell? ⟨w4.heap.size,0,none⟩ = some (.slice a4 n4 c4)) (by kernel_rfl) ?_ (fun hHeld => ?_)
 ·(try dsimp only)
  exact ⟨(aa HK).ca,(aa HK).cb⟩
 refine aC 13 (by kernel_rfl) ?_
 refine tkA 0 23 1 ?_
 refine tkA 1 24 3 ?_
 refine tkA 2 25 7 ?_
 refine tkA 3 26 15 ?_
 refine tkA 4 27 31 ?_
 refine tkA 6 29 95 ?_
 refine tkA 7 30 223 ?_
 refine tkA 8 31 479 ?_
 refine tkA 9 32 991 ?_
 refine rdA 5 1023 (fun Kk hKk => ?_)
 go_simp
 refine (eK _ _ _ _ _ _ (aa HK).na (Nat.le_trans ((aa HK).na.short (aa HPa)) (by omega)) (by omega) (by omega)).mono ?_
 rintro _ w5 ⟨s5,rfl,hN,hbl⟩
 obtain ⟨a5,n5,c5,rfl⟩:=hN.slice
 have HK:=ab ((aa HK).below hbl)
 have H5:=ab hN
 clear hbl hN
 (try go_wp2_with fail)
 refine oA hKk (⟨(aa HK).ca,(aa HK).cb⟩) fun hHeld => ?_
 clear hKk Kk
 refine rdA 10 2047 (fun Kk hKk => ?_)
 go_simp
 refine (eK _ _ _ _ _ _ (aa HK).nb (Nat.le_trans ((aa HK).nb.short (aa HPb)) (by omega)) (by omega) (by omega)).mono ?_
 rintro _ w6 ⟨s6,rfl,hN,hbl⟩
 obtain ⟨a6,n6,c6,rfl⟩:=hN.slice
 have HK:=ab ((aa HK).below hbl)
 have H5:=ab ((aa H5).below hbl)
 have H6:=ab hN
 clear hbl hN
 (try go_wp2_with fail)
 refine oA hKk (⟨(aa HK).ca,(aa HK).cb⟩) fun hHeld => ?_
 clear hKk Kk
 refine rdA 11 4095 (fun Kk hKk => ?_)
 go_simp
 refine (bc _ _ _ _ _ _ _ _ _ (aa H5) (aa H6)).mono ?_
 rintro _ w7 ⟨rfl,hbl⟩
 have HK:=ab ((aa HK).below hbl)
 clear hbl
 (try go_wp2_with fail)
 refine oA hKk (⟨(aa HK).ca,(aa HK).cb⟩) fun hHeld => ?_
 clear hKk Kk
 refine tkA 12 8 8191 ?_
 refine wpAnyH_done (by kernel_rfl) ?_ _
 clear hHeld
 go_wp2
 go_ret
 exact ⟨rfl,(aa HK).bel⟩
theorem ah0 {m k a e k' A : Int} (W : World) (m0 : 0 ≤ m) (m1 : m < 18446744073709551616) (a0 : 0 ≤ a) (a1 : a < 18446744073709551616) (k2 : IntKind.i64.wrap (2 * k) = k') (h : ¬ e < k') (kA : IntKind.i64.wrap (e - k') = A) (A0 : 0 ≤ A) (A1 : A ≤ 10000) :
 Calls Tryz.prog 276 #[.int .u64 m,.int .i64 k,.int .u64 a,.int .i64 e] W fun r W' => r = .returned (.int .i64 (aK (m.toNat * m.toNat) (a.toNat * 2 ^ A.toNat))) ∧ Below W.heap.size W W':=by
 have kz : IntKind.i64.wrap 0 = 0:=by decide
 have HM : Hid (m.toNat < pw 2):=by unfold pw; exact (by omega : m.toNat < 18446744073709551616)
 have HPb : Hid (a.toNat < pw 2):=by unfold pw; exact (by omega : a.toNat < 18446744073709551616)
 have HPa : Hid (m.toNat * m.toNat < pw 4):=by
  have:=Nat.mul_lt_mul'' (show m.toNat < 18446744073709551616 by omega) (show m.toNat < 18446744073709551616 by omega)
  unfold pw
  exact this
 go_enter Tryz.func276,Tryz.ntmps276
 go_wp2_with fail
 refine (aE m _ m0 m1).mono ?_
 rintro _ w1 ⟨s1,rfl,hN,hbl⟩
 obtain ⟨a1',n1,c1,rfl⟩:=hN.slice
 have HB:=ab hbl
 have H1:=ab hN
 clear hbl hN
 go_wp2_with fail
 refine (aE m _ m0 m1).mono ?_
 rintro _ w2 ⟨s2,rfl,hN,hbl⟩
 obtain ⟨a2,n2,c2,rfl⟩:=hN.slice
 have HB:=bt HB hbl
 have H1:=ab ((aa H1).below hbl)
 have H2:=ab hN
 clear hbl hN
 go_wp2_with fail
 refine (fc _ _ _ _ _ _ _ _ _ (aa H1) (aa H2) (Nat.le_trans ((aa H1).short (aa HM)) (by omega)) (Nat.le_trans ((aa H2).short (aa HM)) (by omega))).mono ?_
 rintro _ w3 ⟨s3,rfl,hN,hbl⟩
 obtain ⟨a3,n3,c3,rfl⟩:=hN.slice
 have HB:=ab (ad (ac (aa HB) hbl) (.cells #[.slice a3 n3 c3] 41))
 have H3:=ab (hN.below (ae w3 (.cells #[.slice a3 n3 c3] 41)))
 have HC3 : Hid ((w3.alloc (.cells #[.slice a3 n3 c3] 41)).cell? ⟨w3.heap.size,0,none⟩ = some (.slice a3 n3 c3)):=by apply ab; simp [go_sem]
 clear hbl hN H1 H2
 go_wp2_with fail
 refine (aE a _ a0 a1).mono ?_
 rintro _ w4 ⟨s4,rfl,hN,hbl⟩
 obtain ⟨a4,n4,c4,rfl⟩:=hN.slice
 have HK : Hid (abm w3.heap.size w4.heap.size W (.slice a3 n3 c3) (.slice a4 n4 c4) (m.toNat * m.toNat) a.toNat (w4.alloc (.cells #[.slice a4 n4 c4] 41)).drew):=by
  have hb2:=ac hbl ((ae w4 (.cells #[.slice a4 n4 c4] 41)).drew)
  have hb3:=(ae w4 (.cells #[.slice a4 n4 c4] 41)).drew
  exact { ca:=aw hb2 (ag (aa HC3)) (aa HC3),cb:=by simp [go_sem],na:=(aa H3).below hb2,nb:=hN.below hb3,bel:=ac (aa HB) hb2 }
 clear hbl hN H3 HC3 HB
 go_wp2_with fail
 refine wp_region_held_drew (S:=fun w' => w'.cell? ⟨w3.heap.size,0,none⟩ = some (.slice a3 n3 c3) ∧ w'.cell? ⟨w4.heap.size,0,none⟩ = some (.slice a4 n4 c4)) (by kernel_rfl) ?_ (fun hHeld => ?_)
 ·(try dsimp only)
  exact ⟨(aa HK).ca,(aa HK).cb⟩
 refine aC 13 (by kernel_rfl) ?_
 refine tkA 0 23 1 ?_
 refine tkA 1 24 3 ?_
 refine tkA 2 25 7 ?_
 refine tkA 3 26 15 ?_
 refine tkA 4 27 31 ?_
 refine tkA 6 29 95 ?_
 refine tkA 7 30 223 ?_
 refine tkA 8 31 479 ?_
 refine tkA 9 32 991 ?_
 refine rdA 5 1023 (fun Kk hKk => ?_)
 go_simp
 refine (eK _ _ _ _ _ _ (aa HK).na (Nat.le_trans ((aa HK).na.short (aa HPa)) (by omega)) (by omega) (by omega)).mono ?_
 rintro _ w5 ⟨s5,rfl,hN,hbl⟩
 obtain ⟨a5,n5,c5,rfl⟩:=hN.slice
 have HK:=ab ((aa HK).below hbl)
 have H5:=ab hN
 clear hbl hN
 (try go_wp2_with fail)
 refine oA hKk (⟨(aa HK).ca,(aa HK).cb⟩) fun hHeld => ?_
 clear hKk Kk
 refine rdA 10 2047 (fun Kk hKk => ?_)
 go_simp
 refine (eK _ _ _ _ _ _ (aa HK).nb (Nat.le_trans ((aa HK).nb.short (aa HPb)) (by omega)) (by omega) (by omega)).mono ?_
 rintro _ w6 ⟨s6,rfl,hN,hbl⟩
 obtain ⟨a6,n6,c6,rfl⟩:=hN.slice
 have HK:=ab ((aa HK).below hbl)
 have H5:=ab ((aa H5).below hbl)
 have H6:=ab hN
 clear hbl hN
 (try go_wp2_with fail)
 refine oA hKk (⟨(aa HK).ca,(aa HK).cb⟩) fun hHeld => ?_
 clear hKk Kk
 refine rdA 11 4095 (fun Kk hKk => ?_)
 go_simp
 refine (bc _ _ _ _ _ _ _ _ _ (aa H5) (aa H6)).mono ?_
 rintro _ w7 ⟨rfl,hbl⟩
 have HK:=ab ((aa HK).below hbl)
 clear hbl
 (try go_wp2_with fail)
 refine oA hKk (⟨(aa HK).ca,(aa HK).cb⟩) fun hHeld => ?_
 clear hKk Kk
 refine tkA 12 8 8191 ?_
 refine wpAnyH_done (by kernel_rfl) ?_ _
 clear hHeld
 go_wp2
 go_ret
 exact ⟨rfl,(aa HK).bel⟩
theorem abn {w c K X S K1 X1 S1 D M E r0 d : Int} {n n1 : Bool} (W : World) (HO : Ct 101 #[.int .i64 w,.int .u64 c] (.agg #[.bool n1,.int .i64 K1,.int .i64 X1,.int .u64 S1])) (h : (K1 == 0) = false) (k1 : IntKind.u64.wrap (2 * S1) = D) (k2 : IntKind.u64.wrap (D + 1) = M) (k3 : IntKind.i64.wrap (X1 - 1) = E) (HV : Ct 276 #[.int .u64 M,.int .i64 E,.int .u64 S,.int .i64 X] (.int .i64 r0)) (k4 : IntKind.i64.wrap (-r0) = d) :
 Calls Tryz.prog 260 #[.int .i64 w,.int .u64 c,.agg #[.bool n,.int .i64 K,.int .i64 X,.int .u64 S]] W fun r W' => r = .returned (.int .i64 d) ∧ Below W.heap.size W W':=by
 go_enter Tryz.func260,Tryz.ntmps260
 go_wp2_with fail
 have HB:=ab (ae W (.cells #[.bool n,.int .i64 K,.int .i64 X,.int .u64 S] 105))
 have HA:=ab (ak W (.bool n) (.int .i64 K) (.int .i64 X) (.int .u64 S) 105)
 refine cg1 HO fun w1 hb => ?_
 have HB:=ab (ad (ac (aa HB) hb) (.cells #[.bool n1,.int .i64 K1,.int .i64 X1,.int .u64 S1] 105))
 have HA:=ab (((aa HA).below hb).below (ae w1 (.cells #[.bool n1,.int .i64 K1,.int .i64 X1,.int .u64 S1] 105)))
 have H1:=ab (ak w1 (.bool n1) (.int .i64 K1) (.int .i64 X1) (.int .u64 S1) 105)
 have HZ : Hid (W.heap.size < w1.heap.size):=by
  have:=hb.size
  simp at this
  apply ab
  omega
 clear hb
 obtain ⟨c0,c1,c2,c3⟩:=aa HA
 obtain ⟨d0,d1,d2,d3⟩:=aa H1
 go_wp2_with fail
 refine cg1 HV fun w2 hb => ?_
 have HB:=bt HB hb
 go_wp2_with fail
 go_ret
 exact ⟨rfl,aa HB⟩
theorem wS {w c K X S K1 X1 S1 K2 X2 S2 D M E r0 d : Int} {n n1 n2 : Bool} (W : World) (HO : Ct 101 #[.int .i64 w,.int .u64 c] (.agg #[.bool n1,.int .i64 K1,.int .i64 X1,.int .u64 S1])) (h : (K1 == 0) = true) (HO1 : Ct 101 #[.int .i64 w,.int .u64 1] (.agg #[.bool n2,.int .i64 K2,.int .i64 X2,.int .u64 S2])) (k1 : IntKind.u64.wrap (2 * S1) = D) (k2 : IntKind.u64.wrap (D + 1) = M) (k3 : IntKind.i64.wrap (X2 - 1) = E) (HV : Ct 276 #[.int .u64 M,.int .i64 E,.int .u64 S,.int .i64 X] (.int .i64 r0)) (k4 : IntKind.i64.wrap (-r0) = d) :
 Calls Tryz.prog 260 #[.int .i64 w,.int .u64 c,.agg #[.bool n,.int .i64 K,.int .i64 X,.int .u64 S]] W fun r W' => r = .returned (.int .i64 d) ∧ Below W.heap.size W W':=by
 have ff : ∀ w : World,(Instr.field 105 (.agg #[.bool n2,.int .i64 K2,.int .i64 X2,.int .u64 S2]) 2).run Tryz.prog w = .ok (.int .i64 X2) w:=fun _ => by kernel_rfl
 go_enter Tryz.func260,Tryz.ntmps260
 go_wp2_with fail
 have HB:=ab (ae W (.cells #[.bool n,.int .i64 K,.int .i64 X,.int .u64 S] 105))
 have HA:=ab (ak W (.bool n) (.int .i64 K) (.int .i64 X) (.int .u64 S) 105)
 refine cg1 HO fun w1 hb => ?_
 have HB:=ab (ad (ac (aa HB) hb) (.cells #[.bool n1,.int .i64 K1,.int .i64 X1,.int .u64 S1] 105))
 have HA:=ab (((aa HA).below hb).below (ae w1 (.cells #[.bool n1,.int .i64 K1,.int .i64 X1,.int .u64 S1] 105)))
 have H1:=ab (ak w1 (.bool n1) (.int .i64 K1) (.int .i64 X1) (.int .u64 S1) 105)
 have HZ : Hid (W.heap.size < w1.heap.size):=by
  have:=hb.size
  simp at this
  apply ab
  omega
 clear hb
 obtain ⟨c0,c1,c2,c3⟩:=aa HA
 obtain ⟨d0,d1,d2,d3⟩:=aa H1
 go_wp2_with fail
 clear c0 c1 c2 c3 d0 d1 d2 d3
 refine cg1 HO1 fun w2 hb => ?_
 have HR:=ab (fD hb)
 have HB:=bt HB hb
 have HA:=ab ((aa HA).below hb)
 have H1:=ab ((aa H1).below hb)
 clear hb
 have hne : W.heap.size ≠ w1.heap.size:=by have:=aa HZ; omega
 have HB:=ab (aZ (aa HB) w1.heap.size (Nat.le_of_lt (aa HZ)) 2 (.int .i64 X2))
 obtain ⟨c0,c1,c2,c3⟩:=(aa HA).set hne 2 (.int .i64 X2)
 obtain ⟨⟨v2,f2⟩,r2⟩:=(aa HR) 2 (by omega)
 have e3:=az (.int .i64 X2) (show 3 ≠ 2 by omega) (aa H1).2.2.2
 have e2:=World.cell?_setCell_same _ _ (.int .i64 X2) f2
 go_wp2_with fail
 refine cg1 HV fun w3 hb => ?_
 have HB:=bt HB hb
 go_wp2_with fail
 go_ret
 exact ⟨rfl,aa HB⟩
theorem wT {w x K X S V : Int} {n : Bool} (W : World) (HO : Ct 101 #[.int .i64 w,.int .u64 x] (.agg #[.bool n,.int .i64 K,.int .i64 X,.int .u64 S])) (a0 : (K == 0) = true) (HC : Ct 174 #[.int .i64 w,.bool n,.int .i64 0,.int .u64 0] (.int .u64 V)) :
 Calls Tryz.prog 204 #[.int .i64 w,.int .u64 x] W fun r W' => r = .returned (.int .u64 V) ∧ Below W.heap.size W W':=by
 go_enter Tryz.func204,Tryz.ntmps204
 go_wp2_with fail
 refine cg1 HO fun w1 hb => ?_
 have HB:=ab (ad hb (.cells #[.bool n,.int .i64 K,.int .i64 X,.int .u64 S] 105))
 have HA:=ab (ak w1 (.bool n) (.int .i64 K) (.int .i64 X) (.int .u64 S) 105)
 clear hb
 obtain ⟨c0,c1,c2,c3⟩:=aa HA
 go_wp2_with fail
 refine cg1 HC fun w2 hb => ?_
 have HB:=bt HB hb
 go_wp2_with fail
 go_ret
 exact ⟨rfl,aa HB⟩
theorem wU {w x K X S V : Int} {n : Bool} (W : World) (HO : Ct 101 #[.int .i64 w,.int .u64 x] (.agg #[.bool n,.int .i64 K,.int .i64 X,.int .u64 S])) (a0 : (K == 0) = false) (a3 : (K == 3) = true) (HC : Ct 177 #[.int .i64 w] (.int .u64 V)) :
 Calls Tryz.prog 204 #[.int .i64 w,.int .u64 x] W fun r W' => r = .returned (.int .u64 V) ∧ Below W.heap.size W W':=by
 go_enter Tryz.func204,Tryz.ntmps204
 go_wp2_with fail
 refine cg1 HO fun w1 hb => ?_
 have HB:=ab (ad hb (.cells #[.bool n,.int .i64 K,.int .i64 X,.int .u64 S] 105))
 have HA:=ab (ak w1 (.bool n) (.int .i64 K) (.int .i64 X) (.int .u64 S) 105)
 clear hb
 obtain ⟨c0,c1,c2,c3⟩:=aa HA
 go_wp2_with fail
 refine cg1 HC fun w2 hb => ?_
 have HB:=bt HB hb
 go_wp2_with fail
 go_ret
 exact ⟨rfl,aa HB⟩
theorem wV {w x K X S V : Int} (W : World) (HO : Ct 101 #[.int .i64 w,.int .u64 x] (.agg #[.bool true,.int .i64 K,.int .i64 X,.int .u64 S])) (a0 : (K == 0) = false) (a3 : (K == 3) = false) (HC : Ct 177 #[.int .i64 w] (.int .u64 V)) :
 Calls Tryz.prog 204 #[.int .i64 w,.int .u64 x] W fun r W' => r = .returned (.int .u64 V) ∧ Below W.heap.size W W':=by
 go_enter Tryz.func204,Tryz.ntmps204
 go_wp2_with fail
 refine cg1 HO fun w1 hb => ?_
 have HB:=ab (ad hb (.cells #[.bool true,.int .i64 K,.int .i64 X,.int .u64 S] 105))
 have HA:=ab (ak w1 (.bool true) (.int .i64 K) (.int .i64 X) (.int .u64 S) 105)
 clear hb
 obtain ⟨c0,c1,c2,c3⟩:=aa HA
 go_wp2_with fail
 refine cg1 HC fun w2 hb => ?_
 have HB:=bt HB hb
 go_wp2_with fail
 go_ret
 exact ⟨rfl,aa HB⟩
theorem wW {w x K X S V : Int} (W : World) (HO : Ct 101 #[.int .i64 w,.int .u64 x] (.agg #[.bool false,.int .i64 K,.int .i64 X,.int .u64 S])) (a0 : (K == 0) = false) (a3 : (K == 3) = false) (a2 : (K == 2) = true) (HC : Ct 176 #[.int .i64 w,.bool false] (.int .u64 V)) :
 Calls Tryz.prog 204 #[.int .i64 w,.int .u64 x] W fun r W' => r = .returned (.int .u64 V) ∧ Below W.heap.size W W':=by
 go_enter Tryz.func204,Tryz.ntmps204
 go_wp2_with fail
 refine cg1 HO fun w1 hb => ?_
 have HB:=ab (ad hb (.cells #[.bool false,.int .i64 K,.int .i64 X,.int .u64 S] 105))
 have HA:=ab (ak w1 (.bool false) (.int .i64 K) (.int .i64 X) (.int .u64 S) 105)
 clear hb
 obtain ⟨c0,c1,c2,c3⟩:=aa HA
 go_wp2_with fail
 refine cg1 HC fun w2 hb => ?_
 have HB:=bt HB hb
 go_wp2_with fail
 go_ret
 exact ⟨rfl,aa HB⟩
theorem wX {w x X S T V : Int} (W : World) (HO : Ct 101 #[.int .i64 w,.int .u64 x] (.agg #[.bool false,.int .i64 1,.int .i64 X,.int .u64 S])) (V0 : 0 ≤ V) (HC : Ct 176 #[.int .i64 w,.bool false] (.int .u64 T)) (T0 : 0 < T) (T1 : T < 18446744073709551616) (VT : V < T) (sd : Nat → Int) (HS : Hid (∀ m : Nat,(m : Int) < T → ∀ W,Calls Tryz.prog 260 #[.int .i64 w,.int .u64 (m : Int),.agg #[.bool false,.int .i64 1,.int .i64 X,.int .u64 S]] W fun r W' => r = .returned (.int .i64 (sd m)) ∧ Below W.heap.size W W')) (HD : Hid (∀ m : Nat,((0 < sd m ∨ (sd m = 0 ∧ m % 2 = 1)) ↔ (m : Int) < V))) :
 Calls Tryz.prog 204 #[.int .i64 w,.int .u64 x] W fun r W' => r = .returned (.int .u64 V) ∧ Below W.heap.size W W':=by
 go_enter Tryz.func204,Tryz.ntmps204
 go_wp2_with fail
 refine cg1 HO fun w1 hb => ?_
 have HB:=ab (ad hb (.cells #[.bool false,.int .i64 1,.int .i64 X,.int .u64 S] 105))
 have HA:=ab (ak w1 (.bool false) (.int .i64 1) (.int .i64 X) (.int .u64 S) 105)
 clear hb
 obtain ⟨c0,c1,c2,c3⟩:=aa HA
 go_wp2_with fail
 clear c0 c1 c2 c3
 refine cg1 HC fun w2 hb => ?_
 have HB:=bt HB hb
 have HA:=ab ((aa HA).below hb)
 clear hb
 have k1 : IntKind.u64.wrap (T - 1) = T - 1:=by rw [dY (by omega) (by omega)]
 go_wp2_with fail
 go_loopw [6,7] (fun a b wr => ∃ l h : Nat,a = .int .u64 (l : Int) ∧ b = .int .u64 (h : Int) ∧ (l : Int) ≤ V ∧ V ≤ h ∧ (h : Int) < T ∧ At4 w1.heap.size (.bool false) (.int .i64 1) (.int .i64 X) (.int .u64 S) wr ∧ Below W.heap.size W wr) (fun a b _ => (intOf b - intOf a).toNat)
 case atStart => exact ⟨0,(T - 1).toNat,rfl,by rw [show (((T - 1).toNat : Nat) : Int) = T - 1 by omega],by omega,by omega,by omega,aa HA,aa HB⟩
 case round =>
  obtain ⟨l,h,rfl,rfl,hl,hh,hT,hA,hb⟩:=hrel
  have HA:=ab hA
  have HB:=ab hb
  clear hA hb
  by_cases hlt : (l : Int) < (h : Int)
  ·have k2 : IntKind.u64.wrap ((h : Int) - (l : Int)) = ((h - l : Nat) : Int):=by rw [dY (by omega) (by omega)]; omega
   have k3:=ni (c:=((h - l : Nat) : Int)) (R:=2) (by omega) (by omega) (by omega)
   have k4 : IntKind.u64.wrap ((l : Int) + ((h - l : Nat) : Int) / 2) = ((l + (h - l) / 2 : Nat) : Int):=by rw [dY (by omega) (by omega)]; omega
   have m0 : l ≤ l + (h - l) / 2:=by omega
   have m1 : l + (h - l) / 2 < h:=by omega
   generalize l + (h - l) / 2 = m at *
   generalize ((h - l : Nat) : Int) = d1 at *
   generalize d1 / 2 = d2 at *
   have k5 : IntKind.u64.wrap ((m : Int) + 1) = ((m + 1 : Nat) : Int):=by rw [dY (by omega) (by omega)]; omega
   have HM:=aa HD m
   have HS:=aa HS m (by omega)
   generalize sd m = sm at *
   obtain ⟨c0,c1,c2,c3⟩:=aa HA
   go_wp2_with fail
   clear c0 c1 c2 c3
   refine (HS _).mono ?_
   rintro _ w3 ⟨rfl,hb⟩
   have HB:=bt HB hb
   have HA:=ab ((aa HA).below hb)
   clear hb
   have UP : (m : Int) < V → (∃ l' h' : Nat,Value.int IntKind.u64 ((m : Int) + 1) = Value.int IntKind.u64 (l' : Int) ∧ Value.int IntKind.u64 (h : Int) = Value.int IntKind.u64 (h' : Int) ∧ (l' : Int) ≤ V ∧ V ≤ h' ∧ (h' : Int) < T ∧ At4 w1.heap.size (.bool false) (.int .i64 1) (.int .i64 X) (.int .u64 S) w3 ∧ Below W.heap.size W w3) ∧ (intOf (Value.int IntKind.u64 (h : Int)) - intOf (Value.int IntKind.u64 ((m : Int) + 1))).toNat < (intOf (Value.int IntKind.u64 (h : Int)) - intOf (Value.int IntKind.u64 (l : Int))).toNat:=
    fun hv => ⟨⟨m + 1,h,by rw [Int.natCast_add]; rfl,rfl,by omega,hh,hT,aa HA,aa HB⟩,by simp only [intOf]; omega⟩
   have DN : ¬ (m : Int) < V → (∃ l' h' : Nat,Value.int IntKind.u64 (l : Int) = Value.int IntKind.u64 (l' : Int) ∧ Value.int IntKind.u64 (m : Int) = Value.int IntKind.u64 (h' : Int) ∧ (l' : Int) ≤ V ∧ V ≤ h' ∧ (h' : Int) < T ∧ At4 w1.heap.size (.bool false) (.int .i64 1) (.int .i64 X) (.int .u64 S) w3 ∧ Below W.heap.size W w3) ∧ (intOf (Value.int IntKind.u64 (m : Int)) - intOf (Value.int IntKind.u64 (l : Int))).toNat < (intOf (Value.int IntKind.u64 (h : Int)) - intOf (Value.int IntKind.u64 (l : Int))).toNat:=
    fun hv => ⟨⟨l,m,rfl,rfl,hl,by omega,by omega,aa HA,aa HB⟩,by simp only [intOf]; omega⟩
   have UP:=ab UP
   have DN:=ab DN
   by_cases s0 : 0 < sm
   ·have HV:=ab (HM.1 (Or.inl s0))
    clear HM
    go_wp2
    exact aa UP (aa HV)
   ·by_cases s1 : sm = 0
    ·by_cases p : m % 2 = 1
     ·have HV:=ab (HM.1 (Or.inr ⟨s1,p⟩))
      have kr : IntKind.u64.wrap ((m : Int).tmod 2) = 1:=by rw [Int.tmod_eq_emod_of_nonneg (by omega),dY (by omega) (by omega)]; omega
      subst s1
      clear HM
      go_wp2
      exact aa UP (aa HV)
     ·have HV:=ab (mt HM.2 (by omega))
      have kr : IntKind.u64.wrap ((m : Int).tmod 2) = 0:=by rw [Int.tmod_eq_emod_of_nonneg (by omega),dY (by omega) (by omega)]; omega
      subst s1
      clear HM
      go_wp2
      exact aa DN (aa HV)
    ·have HV:=ab (mt HM.2 (by omega))
     have s2 : (sm == 0) = false:=au s1
     clear HM
     go_wp2
     exact aa DN (aa HV)
  ·obtain rfl : V = (l : Int):=by omega
   go_wp2
   go_ret
   exact ⟨rfl,aa HB⟩
end Go.Proofs.YtpbgpdmffejdgaaGreatDoor
