/- MInL, MWhC. -/
import Derived.Test.YtpbgpdmffejdgaaGreatDoorG10
import Derived.Test.YtpbgpdmffejdgaaGreatDoorG16
import Derived.Test.YtpbgpdmffejdgaaGreatDoorG18
import Derived.Test.YtpbgpdmffejdgaaGreatDoorG23
import Derived.Test.YtpbgpdmffejdgaaGreatDoorG27
namespace Go.Proofs.YtpbgpdmffejdgaaGreatDoor
set_option maxHeartbeats 4000000
set_option maxRecDepth 100000
open Go.RowKit
open Go.Proofs.YtpbgpdmffejdgaaGreatDoor.W
def cH (g : Nat → Bool) (n : Nat) : List Value:=(List.range n).map fun i => Value.bool (g i)
theorem ra (g : Nat → Bool) (n : Nat) : cH g (n + 1) = cH g n ++ [.bool (g n)]:=by simp [cH,List.range_succ]
theorem ve (g : Nat → Bool) (n : Nat) : (cH g n).length = n:=by simp [cH]
def db (w : World) (s : Value) (g : Nat → Bool) (n : Nat) : Prop:=∃ b c,s = .slice (some ⟨b,0,none⟩) n c ∧ b < w.heap.size ∧ n ≤ c ∧ ∀ i,i < n → w.cell? ⟨b,i,none⟩ = some (.bool (g i))
theorem db.below {w w' : World} {s : Value} {g : Nat → Bool} {n : Nat} (h : db w s g n) (hb : Below w.heap.size w w') : db w' s g n:=by
 obtain ⟨b,c,h1,h2,h3,h4⟩:=h
 exact ⟨b,c,h1,Nat.lt_of_lt_of_le h2 hb.size,h3,fun i hi => by rw [hb.cell (p:=⟨b,i,none⟩) h2]; exact h4 i hi⟩
theorem gT {w : World} {base : Nat} {v : Value} {g : Nat → Bool} {n : Nat} (h : w.ownsRow base 4 1 v n (cH g n)) (hn : 0 < n) : db w v g n:=by
 obtain ⟨h1,h2⟩:=h
 rcases h2 with ⟨h2,h3⟩ | ⟨b,cap,cur,h2,h3,h4,h5,h6,h7,h8⟩
 ·omega
 ·refine ⟨b,cap,h2,?_,h5,fun i hi => ?_⟩
  ·rw [Array.getElem?_eq_some_iff] at h4; exact h4.1
  ·have:=World.ownsRow.cellAt (w:=w) (base:=base) (e:=4) (size:=1) (g:=b) (n:=n) (cap:=cap) (xs:=cH g n) ⟨h1,Or.inr ⟨b,cap,cur,rfl,h3,h4,h5,h6,h7,h8⟩⟩ i (by omega)
   rw [this]
   unfold cH
   rw [List.getElem?_map,List.getElem?_range hi]
   rfl
theorem iB : Tryz.prog.info? 4 = some ((Tryz.prog.info? 4).getD default):=by kernel_rfl
theorem dL (x : Bool) : ∀ u ∈ [Value.bool x],u.oneCell' = true:=by
 intro u hu
 simp at hu
 subst hu
 rfl
theorem cA {wq w1 W0 : World} {B n : Nat} {v v' : Value} {g : Nat → Bool} {d : Bool} {o : Obj} (hO : wq.ownsRow B 4 1 v n (cH g n)) (hB : Below B W0 wq) (hL : B ≤ wq.heap.size)
 (hown : w1.ownsRow B 4 1 v' (n + 1) (cH g n ++ [.bool d])) (hgr : (wq.alloc o).grownBy w1 v.ownBlock) (hd : d = g n) :
 w1.ownsRow B 4 1 v' (n + 1) (cH g (n + 1)) ∧ Below B W0 w1:=by
 constructor
 ·rw [ra,← hd]; exact hown
 ·exact (hB.alloc hL o).grown hgr (bY hL o) (fun k hk => (hO.lt k hk).1)
theorem alp (A i : Nat) : (((A / 2 ^ i : Nat) : Int) % 2 == 1) = A.testBit i:=by
 rw [lb]
 by_cases h : A / 2 ^ i % 2 = 1
 ·rw [decide_eq_true h]
  generalize A / 2 ^ i = z at *
  rw [beq_iff_eq]; omega
 ·rw [decide_eq_false h]
  generalize A / 2 ^ i = z at *
  rw [beq_eq_false_iff_ne]; omega
theorem af2 (A i : Nat) (h : A < 18446744073709551616) : IntKind.u64.wrap (((A / 2 ^ i : Nat) : Int) / 2) = ((A / 2 ^ (i + 1) : Nat) : Int):=by
 have e : A / 2 ^ (i + 1) = A / 2 ^ i / 2:=by rw [Nat.pow_succ,Nat.div_div_eq_div_mul]
 have:=Nat.div_le_self A (2 ^ i)
 rw [e,IntKind.wrap_u64]
 generalize A / 2 ^ i = z at *
 omega
theorem zp {a : Int} {n A : Nat} (hn : n ≤ 64) (n0 : 0 < n) (hA : A < 18446744073709551616) (HC : Ct 41 #[.int .i64 (n : Int),.int .u64 a] (.int .u64 (A : Int))) :
 Hid (∀ W,Calls Tryz.prog 172 #[.int .i64 (n : Int),.int .u64 a] W fun e w' => ∃ s,e = .returned s ∧ db w' s A.testBit n ∧ Below W.heap.size W w'):=by
 refine ab (fun W => ?_)
 go_enter Tryz.func172,Tryz.ntmps172
 go_wp2_with fail
 refine cg1 HC fun w1 hb => ?_
 have HW:=ab hb
 clear hb
 go_wp2_with fail
 go_loopw [1,5,6] (fun v1 v5 v6 wr => ∃ i : Nat,i ≤ n ∧ v1 = .int .u64 ((A / 2 ^ i : Nat) : Int) ∧ v6 = .int .i64 (i : Int) ∧ wr.ownsRow w1.heap.size 4 1 v5 i (cH A.testBit i) ∧ Below w1.heap.size w1 wr) (fun _ _ i _ => n - (intOf i).toNat)
 case atStart => exact ⟨0,by omega,by rw [Nat.pow_zero,Nat.div_one],rfl,World.ownsRow_nil _ _ _ _,Below.refl _ _⟩
 case round =>
  obtain ⟨i,hi,rfl,rfl,hown,hB⟩:=hrel
  have HO:=ab hown; have HB:=ab hB
  have HL1:=ab (show i + 1 ≤ maxLen by unfold maxLen; omega)
  have HL2:=ab (show (i + 1) * 1 ≤ 140737488355328 by omega)
  have HL3:=ab (show w1.heap.size ≤ wr.heap.size from hB.size)
  have HD:=ab (af2 A i hA)
  have HE:=ab (alp A i)
  clear hown hB
  by_cases hc : i < n
  ·have z0 : (0 : Int) ≤ ((A / 2 ^ i : Nat) : Int):=Int.natCast_nonneg _
   generalize ((A / 2 ^ i : Nat) : Int) = z at *
   go_wp2_with (at_builtin; refine wpList_append_own _ rfl _ _ 151 rfl (w1.heap.size) 4 _ (.bool false) 1 1 Tryz.underlying151 iB rfl rfl rfl rfl (by decide) _ _ _ rfl ((aa HO).alloc _) ⟨wr.heap.size,0,none⟩ 1 1 [.bool (z % 2 == 1)] rfl rfl (cell_one_new _ _ _) (dL _) (aa HL1) (aa HL2) (bY (aa HL3) _) ?_; intro v' wz hown' hgr _)
   have hr:=cA (aa HO) (aa HB) (aa HL3) hown' hgr (aa HE)
   refine ⟨⟨i + 1,by omega,?_,by go_num,hr.1,hr.2⟩,by simp [intOf]; omega⟩
   rw [Int.tdiv_eq_ediv_of_nonneg z0,aa HD]
  ·have hin : i = n:=by omega
   subst hin
   obtain ⟨b,c,rfl,h2,h3,h4⟩:=gT (aa HO) n0
   go_wp2_with fail
   exact bodyPost_ret (v:=.slice (some ⟨b,0,none⟩) i c) (by simp [results,Tryz.results172,go_sem]) rfl ⟨_,rfl,⟨b,c,rfl,h2,h3,h4⟩,ac (aa HW) (aa HB)⟩
theorem zq {g : Nat → Bool} {n : Nat} (hn : n ≤ 64) : Hid (∀ s W,db W s g n → Calls Tryz.prog 173 #[s] W fun e w' => e = .returned (.int .u64 ((bX g n : Nat) : Int)) ∧ Below W.heap.size W w'):=by
 refine ab (fun s W hH => ?_)
 obtain ⟨b,c,rfl,h2,h3,h4⟩:=hH
 have H4:=ab h4
 clear h4
 have hlt : bX g n < 18446744073709551616:=Nat.lt_of_lt_of_le (nt g n) (Nat.pow_le_pow_right (show 0 < 2 by omega) hn)
 go_enter Tryz.func173,Tryz.ntmps173
 go_wp2_with fail
 go_loop [3,4] (fun v3 v4 => ∃ j : Nat,j ≤ n ∧ v4 = .int .i64 ((j : Int) - 1) ∧ v3 = .int .u64 ((bX g n / 2 ^ j : Nat) : Int)) (fun _ v4 => (intOf v4 + 1).toNat)
 case atStart => exact ⟨n,Nat.le_refl _,by go_num,by rw [afn]; rfl⟩
 case round =>
  obtain ⟨j,hj,rfl,rfl⟩:=hrel
  cases j with
  | zero =>
   rw [Nat.pow_zero,Nat.div_one]
   go_wp2_with fail
   go_ret
   exact ⟨rfl,Below.refl _ _⟩
  | succ j =>
   have hs:=yW g n j (by omega)
   have hle:=Nat.div_le_self (bX g n) (2 ^ j)
   have hcm:=aa H4 j (by omega)
   rw [show ((j + 1 : Nat) : Int) - 1 = (j : Int) by omega]
   generalize bX g n / 2 ^ (j + 1) = z at *
   cases hg : g j
   ·rw [hg] at hcm hs
    have hs' : bX g n / 2 ^ j = 2 * z:=hs
    have e : IntKind.u64.wrap (2 * (z : Int)) = ((2 * z : Nat) : Int):=by rw [IntKind.wrap_u64]; omega
    go_wp2_with fail
    refine ⟨⟨j,by omega,by go_num,?_⟩,by simp [intOf]⟩
    rw [hs']
    exact congrArg _ (by omega)
   ·rw [hg] at hcm hs
    have hs' : bX g n / 2 ^ j = 2 * z + 1:=hs
    have e : IntKind.u64.wrap (2 * (z : Int)) = ((2 * z : Nat) : Int):=by rw [IntKind.wrap_u64]; omega
    have e2 : IntKind.u64.wrap (((2 * z : Nat) : Int) + 1) = ((2 * z + 1 : Nat) : Int):=by rw [IntKind.wrap_u64]; omega
    go_wp2_with fail
    refine ⟨⟨j,by omega,by go_num,?_⟩,by simp [intOf]⟩
    rw [hs']
    exact congrArg _ (by omega)
set_option maxHeartbeats 2000000
theorem anc {n a m o : Bool} (W : World)  :
 Calls Tryz.prog 151 #[.bool n,.agg #[.bool a,.bool m,.bool o]] W fun r W' => r = .returned (.bool (!n)) ∧ Below W.heap.size W W':=by
 go_enter Tryz.func151,Tryz.ntmps151
 go_wp2_with fail
 go_ret
 exact ⟨by first | rfl | simp,ae W (.cells #[.bool a,.bool m,.bool o] 132)⟩
theorem aih {n a m o : Bool} (W : World)  :
 Calls Tryz.prog 152 #[.bool n,.agg #[.bool a,.bool m,.bool o]] W fun r W' => r = .returned (.bool n) ∧ Below W.heap.size W W':=by
 go_enter Tryz.func152,Tryz.ntmps152
 go_wp2_with fail
 go_ret
 exact ⟨by first | rfl | simp,ae W (.cells #[.bool a,.bool m,.bool o] 132)⟩
theorem aii {n a m o : Bool} (W : World)  :
 Calls Tryz.prog 153 #[.bool n,.agg #[.bool a,.bool m,.bool o]] W fun r W' => r = .returned (.bool false) ∧ Below W.heap.size W W':=by
 go_enter Tryz.func153,Tryz.ntmps153
 go_wp2_with fail
 go_ret
 exact ⟨by first | rfl | simp,ae W (.cells #[.bool a,.bool m,.bool o] 132)⟩
theorem aij {n m o : Bool} (W : World)  :
 Calls Tryz.prog 154 #[.bool n,.agg #[.bool false,.bool m,.bool o]] W fun r W' => r = .returned (.bool false) ∧ Below W.heap.size W W':=by
 go_enter Tryz.func154,Tryz.ntmps154
 go_wp2_with fail
 go_ret
 exact ⟨by first | rfl | simp,ae W (.cells #[.bool false,.bool m,.bool o] 132)⟩
theorem aik {n o : Bool} (W : World)  :
 Calls Tryz.prog 154 #[.bool n,.agg #[.bool true,.bool true,.bool o]] W fun r W' => r = .returned (.bool true) ∧ Below W.heap.size W W':=by
 go_enter Tryz.func154,Tryz.ntmps154
 go_wp2_with fail
 go_ret
 exact ⟨by first | rfl | simp,ae W (.cells #[.bool true,.bool true,.bool o] 132)⟩
theorem ail {n o : Bool} (W : World)  :
 Calls Tryz.prog 154 #[.bool n,.agg #[.bool true,.bool false,.bool o]] W fun r W' => r = .returned (.bool o) ∧ Below W.heap.size W W':=by
 go_enter Tryz.func154,Tryz.ntmps154
 go_wp2_with fail
 go_ret
 exact ⟨by first | rfl | simp,ae W (.cells #[.bool true,.bool false,.bool o] 132)⟩
theorem kc {w x K1 X1 S1 V : Int} {n1 : Bool} (W : World) (HO : Ct 15 #[.int .i64 w,.int .u64 x] (.agg #[.bool n1,.int .i64 K1,.int .i64 X1,.int .u64 S1])) (HK : Ct 231 #[.agg #[.bool n1,.int .i64 K1,.int .i64 X1,.int .u64 S1]] (.bool false)) (HN : Ct 170 #[.int .i64 w,.agg #[.bool n1,.int .i64 K1,.int .i64 X1,.int .u64 S1]] (.int .u64 V)) :
 Calls Tryz.prog 150 #[.int .i64 w,.int .u64 x,.func (.func 151) #[] #[]] W fun r W' => r = .returned (.int .u64 V) ∧ Below W.heap.size W W':=by
 go_enter Tryz.func150,Tryz.ntmps150
 go_wp2_with fail
 refine cg1 HO fun w1 hb => ?_
 have HB:=ab (ad hb (.cells #[.bool n1,.int .i64 K1,.int .i64 X1,.int .u64 S1] 37))
 have HA:=ab (ak w1 (.bool n1) (.int .i64 K1) (.int .i64 X1) (.int .u64 S1) 37)
 clear hb
 obtain ⟨c0,c1,c2,c3⟩:=aa HA
 go_wp2_with fail
 clear c0 c1 c2 c3
 refine cg1 HK fun w2 hb => ?_
 have HB:=bt HB hb
 have HA:=ab ((aa HA).below hb)
 clear hb
 obtain ⟨c0,c1,c2,c3⟩:=aa HA
 go_wp2_with fail
 clear c0 c1 c2 c3
 refine cg0 HN HB fun w3 HB => ?_
 go_wp2_with fail
 go_ret
 exact ⟨rfl,aa HB⟩
theorem qo {w x K1 X1 S1 V n h l : Int} {n1 a m o : Bool} (W : World) (HO : Ct 15 #[.int .i64 w,.int .u64 x] (.agg #[.bool n1,.int .i64 K1,.int .i64 X1,.int .u64 S1])) (HK : Ct 231 #[.agg #[.bool n1,.int .i64 K1,.int .i64 X1,.int .u64 S1]] (.bool true)) (HS : Ct 232 #[.agg #[.bool n1,.int .i64 K1,.int .i64 X1,.int .u64 S1]] (.tuple #[.int .u64 n,.agg #[.bool a,.bool m,.bool o]])) (HF : Ct 151 #[.bool n1,.agg #[.bool a,.bool m,.bool o]] (.bool true)) (kn : IntKind.u64.wrap (n + 1) = n + 1) (HW : Ct 161 #[.int .u64 (n + 1)] (.agg #[.int .u64 h,.int .u64 l])) (HP : Ct 160 #[.int .i64 w,.bool n1,.agg #[.int .u64 h,.int .u64 l],.int .i64 0,.bool false] (.int .u64 V)) :
 Calls Tryz.prog 150 #[.int .i64 w,.int .u64 x,.func (.func 151) #[] #[]] W fun r W' => r = .returned (.int .u64 V) ∧ Below W.heap.size W W':=by
 go_enter Tryz.func150,Tryz.ntmps150
 go_wp2_with fail
 refine cg1 HO fun w1 hb => ?_
 have HB:=ab (ad hb (.cells #[.bool n1,.int .i64 K1,.int .i64 X1,.int .u64 S1] 37))
 have HA:=ab (ak w1 (.bool n1) (.int .i64 K1) (.int .i64 X1) (.int .u64 S1) 37)
 clear hb
 obtain ⟨c0,c1,c2,c3⟩:=aa HA
 go_wp2_with fail
 clear c0 c1 c2 c3
 refine cg1 HK fun w2 hb => ?_
 have HB:=bt HB hb
 have HA:=ab ((aa HA).below hb)
 clear hb
 obtain ⟨c0,c1,c2,c3⟩:=aa HA
 go_wp2_with fail
 clear c0 c1 c2 c3
 refine cg1 HS fun w3 hb => ?_
 have HB:=ab (ad (ac (aa HB) hb) (.cells #[.bool a,.bool m,.bool o] 132))
 have HA:=ab (((aa HA).below hb).below (ae _ (.cells #[.bool a,.bool m,.bool o] 132)))
 clear hb
 obtain ⟨c0,c1,c2,c3⟩:=aa HA
 go_wp2_with fail
 clear c0 c1 c2 c3
 refine cg1 HF fun w4 hb => ?_
 have HB:=bt HB hb
 have HA:=ab ((aa HA).below hb)
 clear hb
 go_wp2_with fail
 have HB:=ab (aa HB).drew
 have HA:=ab ((aa HA).below ((Below.refl _ _).drew))
 refine wp_region_held_drew (S:=fun w' => (w'.cell? ⟨w1.heap.size,0,none⟩ = some (.bool n1) ∧ w'.cell? ⟨w1.heap.size,1,none⟩ = some (.int .i64 K1) ∧ w'.cell? ⟨w1.heap.size,2,none⟩ = some (.int .i64 X1) ∧ w'.cell? ⟨w1.heap.size,3,none⟩ = some (.int .u64 S1))) (by kernel_rfl) ?_ (fun hHeld => ?_)
 ·(try dsimp only)
  exact aa HA
 refine aC 7 (by kernel_rfl) ?_
 refine tkA 0 31 1 ?_
 refine tkA 1 32 3 ?_
 refine tkA 2 33 7 ?_
 refine tkA 3 34 15 ?_
 refine rdA 4 31 (fun Kk hKk => ?_)
 go_simp
 refine cg1 HW fun w5 hbl => ?_
 have HB:=bt HB hbl
 have HA:=ab ((aa HA).below hbl)
 clear hbl
 (try go_wp2_with fail)
 refine oA hKk (aa HA) fun hHeld => ?_
 clear hKk Kk
 refine rdA 5 63 (fun Kk hKk => ?_)
 go_simp
 refine cg1 HP fun w6 hbl => ?_
 have HB:=bt HB hbl
 have HA:=ab ((aa HA).below hbl)
 clear hbl
 (try go_wp2_with fail)
 refine oA hKk (aa HA) fun hHeld => ?_
 clear hKk Kk
 refine tkA 6 6 127 ?_
 refine wpAnyH_done (by kernel_rfl) ?_ _
 go_wp2
 go_ret
 exact ⟨rfl,aa HB⟩
theorem qp {w x K1 X1 S1 V n h l : Int} {n1 a m o : Bool} (W : World) (HO : Ct 15 #[.int .i64 w,.int .u64 x] (.agg #[.bool n1,.int .i64 K1,.int .i64 X1,.int .u64 S1])) (HK : Ct 231 #[.agg #[.bool n1,.int .i64 K1,.int .i64 X1,.int .u64 S1]] (.bool true)) (HS : Ct 232 #[.agg #[.bool n1,.int .i64 K1,.int .i64 X1,.int .u64 S1]] (.tuple #[.int .u64 n,.agg #[.bool a,.bool m,.bool o]])) (HF : Ct 151 #[.bool n1,.agg #[.bool a,.bool m,.bool o]] (.bool false)) (HW : Ct 161 #[.int .u64 n] (.agg #[.int .u64 h,.int .u64 l])) (HP : Ct 160 #[.int .i64 w,.bool n1,.agg #[.int .u64 h,.int .u64 l],.int .i64 0,.bool false] (.int .u64 V)) :
 Calls Tryz.prog 150 #[.int .i64 w,.int .u64 x,.func (.func 151) #[] #[]] W fun r W' => r = .returned (.int .u64 V) ∧ Below W.heap.size W W':=by
 go_enter Tryz.func150,Tryz.ntmps150
 go_wp2_with fail
 refine cg1 HO fun w1 hb => ?_
 have HB:=ab (ad hb (.cells #[.bool n1,.int .i64 K1,.int .i64 X1,.int .u64 S1] 37))
 have HA:=ab (ak w1 (.bool n1) (.int .i64 K1) (.int .i64 X1) (.int .u64 S1) 37)
 clear hb
 obtain ⟨c0,c1,c2,c3⟩:=aa HA
 go_wp2_with fail
 clear c0 c1 c2 c3
 refine cg1 HK fun w2 hb => ?_
 have HB:=bt HB hb
 have HA:=ab ((aa HA).below hb)
 clear hb
 obtain ⟨c0,c1,c2,c3⟩:=aa HA
 go_wp2_with fail
 clear c0 c1 c2 c3
 refine cg1 HS fun w3 hb => ?_
 have HB:=ab (ad (ac (aa HB) hb) (.cells #[.bool a,.bool m,.bool o] 132))
 have HA:=ab (((aa HA).below hb).below (ae _ (.cells #[.bool a,.bool m,.bool o] 132)))
 clear hb
 obtain ⟨c0,c1,c2,c3⟩:=aa HA
 go_wp2_with fail
 clear c0 c1 c2 c3
 refine cg1 HF fun w4 hb => ?_
 have HB:=bt HB hb
 have HA:=ab ((aa HA).below hb)
 clear hb
 go_wp2_with fail
 have HB:=ab (aa HB).drew
 have HA:=ab ((aa HA).below ((Below.refl _ _).drew))
 refine wp_region_held_drew (S:=fun w' => (w'.cell? ⟨w1.heap.size,0,none⟩ = some (.bool n1) ∧ w'.cell? ⟨w1.heap.size,1,none⟩ = some (.int .i64 K1) ∧ w'.cell? ⟨w1.heap.size,2,none⟩ = some (.int .i64 X1) ∧ w'.cell? ⟨w1.heap.size,3,none⟩ = some (.int .u64 S1))) (by kernel_rfl) ?_ (fun hHeld => ?_)
 ·(try dsimp only)
  exact aa HA
 refine aC 7 (by kernel_rfl) ?_
 refine tkA 0 31 1 ?_
 refine tkA 1 32 3 ?_
 refine tkA 2 33 7 ?_
 refine tkA 3 34 15 ?_
 refine rdA 4 31 (fun Kk hKk => ?_)
 go_simp
 refine cg1 HW fun w5 hbl => ?_
 have HB:=bt HB hbl
 have HA:=ab ((aa HA).below hbl)
 clear hbl
 (try go_wp2_with fail)
 refine oA hKk (aa HA) fun hHeld => ?_
 clear hKk Kk
 refine rdA 5 63 (fun Kk hKk => ?_)
 go_simp
 refine cg1 HP fun w6 hbl => ?_
 have HB:=bt HB hbl
 have HA:=ab ((aa HA).below hbl)
 clear hbl
 (try go_wp2_with fail)
 refine oA hKk (aa HA) fun hHeld => ?_
 clear hKk Kk
 refine tkA 6 6 127 ?_
 refine wpAnyH_done (by kernel_rfl) ?_ _
 go_wp2
 go_ret
 exact ⟨rfl,aa HB⟩
theorem jl {w x K1 X1 S1 V : Int} {n1 : Bool} (W : World) (HO : Ct 15 #[.int .i64 w,.int .u64 x] (.agg #[.bool n1,.int .i64 K1,.int .i64 X1,.int .u64 S1])) (HK : Ct 231 #[.agg #[.bool n1,.int .i64 K1,.int .i64 X1,.int .u64 S1]] (.bool false)) (HN : Ct 170 #[.int .i64 w,.agg #[.bool n1,.int .i64 K1,.int .i64 X1,.int .u64 S1]] (.int .u64 V)) :
 Calls Tryz.prog 150 #[.int .i64 w,.int .u64 x,.func (.func 152) #[] #[]] W fun r W' => r = .returned (.int .u64 V) ∧ Below W.heap.size W W':=by
 go_enter Tryz.func150,Tryz.ntmps150
 go_wp2_with fail
 refine cg1 HO fun w1 hb => ?_
 have HB:=ab (ad hb (.cells #[.bool n1,.int .i64 K1,.int .i64 X1,.int .u64 S1] 37))
 have HA:=ab (ak w1 (.bool n1) (.int .i64 K1) (.int .i64 X1) (.int .u64 S1) 37)
 clear hb
 obtain ⟨c0,c1,c2,c3⟩:=aa HA
 go_wp2_with fail
 clear c0 c1 c2 c3
 refine cg1 HK fun w2 hb => ?_
 have HB:=bt HB hb
 have HA:=ab ((aa HA).below hb)
 clear hb
 obtain ⟨c0,c1,c2,c3⟩:=aa HA
 go_wp2_with fail
 clear c0 c1 c2 c3
 refine cg0 HN HB fun w3 HB => ?_
 go_wp2_with fail
 go_ret
 exact ⟨rfl,aa HB⟩
theorem og {w x K1 X1 S1 V n h l : Int} {n1 a m o : Bool} (W : World) (HO : Ct 15 #[.int .i64 w,.int .u64 x] (.agg #[.bool n1,.int .i64 K1,.int .i64 X1,.int .u64 S1])) (HK : Ct 231 #[.agg #[.bool n1,.int .i64 K1,.int .i64 X1,.int .u64 S1]] (.bool true)) (HS : Ct 232 #[.agg #[.bool n1,.int .i64 K1,.int .i64 X1,.int .u64 S1]] (.tuple #[.int .u64 n,.agg #[.bool a,.bool m,.bool o]])) (HF : Ct 152 #[.bool n1,.agg #[.bool a,.bool m,.bool o]] (.bool true)) (kn : IntKind.u64.wrap (n + 1) = n + 1) (HW : Ct 161 #[.int .u64 (n + 1)] (.agg #[.int .u64 h,.int .u64 l])) (HP : Ct 160 #[.int .i64 w,.bool n1,.agg #[.int .u64 h,.int .u64 l],.int .i64 0,.bool false] (.int .u64 V)) :
 Calls Tryz.prog 150 #[.int .i64 w,.int .u64 x,.func (.func 152) #[] #[]] W fun r W' => r = .returned (.int .u64 V) ∧ Below W.heap.size W W':=by
 go_enter Tryz.func150,Tryz.ntmps150
 go_wp2_with fail
 refine cg1 HO fun w1 hb => ?_
 have HB:=ab (ad hb (.cells #[.bool n1,.int .i64 K1,.int .i64 X1,.int .u64 S1] 37))
 have HA:=ab (ak w1 (.bool n1) (.int .i64 K1) (.int .i64 X1) (.int .u64 S1) 37)
 clear hb
 obtain ⟨c0,c1,c2,c3⟩:=aa HA
 go_wp2_with fail
 clear c0 c1 c2 c3
 refine cg1 HK fun w2 hb => ?_
 have HB:=bt HB hb
 have HA:=ab ((aa HA).below hb)
 clear hb
 obtain ⟨c0,c1,c2,c3⟩:=aa HA
 go_wp2_with fail
 clear c0 c1 c2 c3
 refine cg1 HS fun w3 hb => ?_
 have HB:=ab (ad (ac (aa HB) hb) (.cells #[.bool a,.bool m,.bool o] 132))
 have HA:=ab (((aa HA).below hb).below (ae _ (.cells #[.bool a,.bool m,.bool o] 132)))
 clear hb
 obtain ⟨c0,c1,c2,c3⟩:=aa HA
 go_wp2_with fail
 clear c0 c1 c2 c3
 refine cg1 HF fun w4 hb => ?_
 have HB:=bt HB hb
 have HA:=ab ((aa HA).below hb)
 clear hb
 go_wp2_with fail
 have HB:=ab (aa HB).drew
 have HA:=ab ((aa HA).below ((Below.refl _ _).drew))
 refine wp_region_held_drew (S:=fun w' => (w'.cell? ⟨w1.heap.size,0,none⟩ = some (.bool n1) ∧ w'.cell? ⟨w1.heap.size,1,none⟩ = some (.int .i64 K1) ∧ w'.cell? ⟨w1.heap.size,2,none⟩ = some (.int .i64 X1) ∧ w'.cell? ⟨w1.heap.size,3,none⟩ = some (.int .u64 S1))) (by kernel_rfl) ?_ (fun hHeld => ?_)
 ·(try dsimp only)
  exact aa HA
 refine aC 7 (by kernel_rfl) ?_
 refine tkA 0 31 1 ?_
 refine tkA 1 32 3 ?_
 refine tkA 2 33 7 ?_
 refine tkA 3 34 15 ?_
 refine rdA 4 31 (fun Kk hKk => ?_)
 go_simp
 refine cg1 HW fun w5 hbl => ?_
 have HB:=bt HB hbl
 have HA:=ab ((aa HA).below hbl)
 clear hbl
 (try go_wp2_with fail)
 refine oA hKk (aa HA) fun hHeld => ?_
 clear hKk Kk
 refine rdA 5 63 (fun Kk hKk => ?_)
 go_simp
 refine cg1 HP fun w6 hbl => ?_
 have HB:=bt HB hbl
 have HA:=ab ((aa HA).below hbl)
 clear hbl
 (try go_wp2_with fail)
 refine oA hKk (aa HA) fun hHeld => ?_
 clear hKk Kk
 refine tkA 6 6 127 ?_
 refine wpAnyH_done (by kernel_rfl) ?_ _
 go_wp2
 go_ret
 exact ⟨rfl,aa HB⟩
theorem oh {w x K1 X1 S1 V n h l : Int} {n1 a m o : Bool} (W : World) (HO : Ct 15 #[.int .i64 w,.int .u64 x] (.agg #[.bool n1,.int .i64 K1,.int .i64 X1,.int .u64 S1])) (HK : Ct 231 #[.agg #[.bool n1,.int .i64 K1,.int .i64 X1,.int .u64 S1]] (.bool true)) (HS : Ct 232 #[.agg #[.bool n1,.int .i64 K1,.int .i64 X1,.int .u64 S1]] (.tuple #[.int .u64 n,.agg #[.bool a,.bool m,.bool o]])) (HF : Ct 152 #[.bool n1,.agg #[.bool a,.bool m,.bool o]] (.bool false)) (HW : Ct 161 #[.int .u64 n] (.agg #[.int .u64 h,.int .u64 l])) (HP : Ct 160 #[.int .i64 w,.bool n1,.agg #[.int .u64 h,.int .u64 l],.int .i64 0,.bool false] (.int .u64 V)) :
 Calls Tryz.prog 150 #[.int .i64 w,.int .u64 x,.func (.func 152) #[] #[]] W fun r W' => r = .returned (.int .u64 V) ∧ Below W.heap.size W W':=by
 go_enter Tryz.func150,Tryz.ntmps150
 go_wp2_with fail
 refine cg1 HO fun w1 hb => ?_
 have HB:=ab (ad hb (.cells #[.bool n1,.int .i64 K1,.int .i64 X1,.int .u64 S1] 37))
 have HA:=ab (ak w1 (.bool n1) (.int .i64 K1) (.int .i64 X1) (.int .u64 S1) 37)
 clear hb
 obtain ⟨c0,c1,c2,c3⟩:=aa HA
 go_wp2_with fail
 clear c0 c1 c2 c3
 refine cg1 HK fun w2 hb => ?_
 have HB:=bt HB hb
 have HA:=ab ((aa HA).below hb)
 clear hb
 obtain ⟨c0,c1,c2,c3⟩:=aa HA
 go_wp2_with fail
 clear c0 c1 c2 c3
 refine cg1 HS fun w3 hb => ?_
 have HB:=ab (ad (ac (aa HB) hb) (.cells #[.bool a,.bool m,.bool o] 132))
 have HA:=ab (((aa HA).below hb).below (ae _ (.cells #[.bool a,.bool m,.bool o] 132)))
 clear hb
 obtain ⟨c0,c1,c2,c3⟩:=aa HA
 go_wp2_with fail
 clear c0 c1 c2 c3
 refine cg1 HF fun w4 hb => ?_
 have HB:=bt HB hb
 have HA:=ab ((aa HA).below hb)
 clear hb
 go_wp2_with fail
 have HB:=ab (aa HB).drew
 have HA:=ab ((aa HA).below ((Below.refl _ _).drew))
 refine wp_region_held_drew (S:=fun w' => (w'.cell? ⟨w1.heap.size,0,none⟩ = some (.bool n1) ∧ w'.cell? ⟨w1.heap.size,1,none⟩ = some (.int .i64 K1) ∧ w'.cell? ⟨w1.heap.size,2,none⟩ = some (.int .i64 X1) ∧ w'.cell? ⟨w1.heap.size,3,none⟩ = some (.int .u64 S1))) (by kernel_rfl) ?_ (fun hHeld => ?_)
 ·(try dsimp only)
  exact aa HA
 refine aC 7 (by kernel_rfl) ?_
 refine tkA 0 31 1 ?_
 refine tkA 1 32 3 ?_
 refine tkA 2 33 7 ?_
 refine tkA 3 34 15 ?_
 refine rdA 4 31 (fun Kk hKk => ?_)
 go_simp
 refine cg1 HW fun w5 hbl => ?_
 have HB:=bt HB hbl
 have HA:=ab ((aa HA).below hbl)
 clear hbl
 (try go_wp2_with fail)
 refine oA hKk (aa HA) fun hHeld => ?_
 clear hKk Kk
 refine rdA 5 63 (fun Kk hKk => ?_)
 go_simp
 refine cg1 HP fun w6 hbl => ?_
 have HB:=bt HB hbl
 have HA:=ab ((aa HA).below hbl)
 clear hbl
 (try go_wp2_with fail)
 refine oA hKk (aa HA) fun hHeld => ?_
 clear hKk Kk
 refine tkA 6 6 127 ?_
 refine wpAnyH_done (by kernel_rfl) ?_ _
 go_wp2
 go_ret
 exact ⟨rfl,aa HB⟩
theorem jm {w x K1 X1 S1 V : Int} {n1 : Bool} (W : World) (HO : Ct 15 #[.int .i64 w,.int .u64 x] (.agg #[.bool n1,.int .i64 K1,.int .i64 X1,.int .u64 S1])) (HK : Ct 231 #[.agg #[.bool n1,.int .i64 K1,.int .i64 X1,.int .u64 S1]] (.bool false)) (HN : Ct 170 #[.int .i64 w,.agg #[.bool n1,.int .i64 K1,.int .i64 X1,.int .u64 S1]] (.int .u64 V)) :
 Calls Tryz.prog 150 #[.int .i64 w,.int .u64 x,.func (.func 153) #[] #[]] W fun r W' => r = .returned (.int .u64 V) ∧ Below W.heap.size W W':=by
 go_enter Tryz.func150,Tryz.ntmps150
 go_wp2_with fail
 refine cg1 HO fun w1 hb => ?_
 have HB:=ab (ad hb (.cells #[.bool n1,.int .i64 K1,.int .i64 X1,.int .u64 S1] 37))
 have HA:=ab (ak w1 (.bool n1) (.int .i64 K1) (.int .i64 X1) (.int .u64 S1) 37)
 clear hb
 obtain ⟨c0,c1,c2,c3⟩:=aa HA
 go_wp2_with fail
 clear c0 c1 c2 c3
 refine cg1 HK fun w2 hb => ?_
 have HB:=bt HB hb
 have HA:=ab ((aa HA).below hb)
 clear hb
 obtain ⟨c0,c1,c2,c3⟩:=aa HA
 go_wp2_with fail
 clear c0 c1 c2 c3
 refine cg0 HN HB fun w3 HB => ?_
 go_wp2_with fail
 go_ret
 exact ⟨rfl,aa HB⟩
theorem ol {w x K1 X1 S1 V n h l : Int} {n1 a m o : Bool} (W : World) (HO : Ct 15 #[.int .i64 w,.int .u64 x] (.agg #[.bool n1,.int .i64 K1,.int .i64 X1,.int .u64 S1])) (HK : Ct 231 #[.agg #[.bool n1,.int .i64 K1,.int .i64 X1,.int .u64 S1]] (.bool true)) (HS : Ct 232 #[.agg #[.bool n1,.int .i64 K1,.int .i64 X1,.int .u64 S1]] (.tuple #[.int .u64 n,.agg #[.bool a,.bool m,.bool o]])) (HF : Ct 153 #[.bool n1,.agg #[.bool a,.bool m,.bool o]] (.bool false)) (HW : Ct 161 #[.int .u64 n] (.agg #[.int .u64 h,.int .u64 l])) (HP : Ct 160 #[.int .i64 w,.bool n1,.agg #[.int .u64 h,.int .u64 l],.int .i64 0,.bool false] (.int .u64 V)) :
 Calls Tryz.prog 150 #[.int .i64 w,.int .u64 x,.func (.func 153) #[] #[]] W fun r W' => r = .returned (.int .u64 V) ∧ Below W.heap.size W W':=by
 go_enter Tryz.func150,Tryz.ntmps150
 go_wp2_with fail
 refine cg1 HO fun w1 hb => ?_
 have HB:=ab (ad hb (.cells #[.bool n1,.int .i64 K1,.int .i64 X1,.int .u64 S1] 37))
 have HA:=ab (ak w1 (.bool n1) (.int .i64 K1) (.int .i64 X1) (.int .u64 S1) 37)
 clear hb
 obtain ⟨c0,c1,c2,c3⟩:=aa HA
 go_wp2_with fail
 clear c0 c1 c2 c3
 refine cg1 HK fun w2 hb => ?_
 have HB:=bt HB hb
 have HA:=ab ((aa HA).below hb)
 clear hb
 obtain ⟨c0,c1,c2,c3⟩:=aa HA
 go_wp2_with fail
 clear c0 c1 c2 c3
 refine cg1 HS fun w3 hb => ?_
 have HB:=ab (ad (ac (aa HB) hb) (.cells #[.bool a,.bool m,.bool o] 132))
 have HA:=ab (((aa HA).below hb).below (ae _ (.cells #[.bool a,.bool m,.bool o] 132)))
 clear hb
 obtain ⟨c0,c1,c2,c3⟩:=aa HA
 go_wp2_with fail
 clear c0 c1 c2 c3
 refine cg1 HF fun w4 hb => ?_
 have HB:=bt HB hb
 have HA:=ab ((aa HA).below hb)
 clear hb
 go_wp2_with fail
 have HB:=ab (aa HB).drew
 have HA:=ab ((aa HA).below ((Below.refl _ _).drew))
 refine wp_region_held_drew (S:=fun w' => (w'.cell? ⟨w1.heap.size,0,none⟩ = some (.bool n1) ∧ w'.cell? ⟨w1.heap.size,1,none⟩ = some (.int .i64 K1) ∧ w'.cell? ⟨w1.heap.size,2,none⟩ = some (.int .i64 X1) ∧ w'.cell? ⟨w1.heap.size,3,none⟩ = some (.int .u64 S1))) (by kernel_rfl) ?_ (fun hHeld => ?_)
 ·(try dsimp only)
  exact aa HA
 refine aC 7 (by kernel_rfl) ?_
 refine tkA 0 31 1 ?_
 refine tkA 1 32 3 ?_
 refine tkA 2 33 7 ?_
 refine tkA 3 34 15 ?_
 refine rdA 4 31 (fun Kk hKk => ?_)
 go_simp
 refine cg1 HW fun w5 hbl => ?_
 have HB:=bt HB hbl
 have HA:=ab ((aa HA).below hbl)
 clear hbl
 (try go_wp2_with fail)
 refine oA hKk (aa HA) fun hHeld => ?_
 clear hKk Kk
 refine rdA 5 63 (fun Kk hKk => ?_)
 go_simp
 refine cg1 HP fun w6 hbl => ?_
 have HB:=bt HB hbl
 have HA:=ab ((aa HA).below hbl)
 clear hbl
 (try go_wp2_with fail)
 refine oA hKk (aa HA) fun hHeld => ?_
 clear hKk Kk
 refine tkA 6 6 127 ?_
 refine wpAnyH_done (by kernel_rfl) ?_ _
 go_wp2
 go_ret
 exact ⟨rfl,aa HB⟩
theorem kf {w x K1 X1 S1 V : Int} {n1 : Bool} (W : World) (HO : Ct 15 #[.int .i64 w,.int .u64 x] (.agg #[.bool n1,.int .i64 K1,.int .i64 X1,.int .u64 S1])) (HK : Ct 231 #[.agg #[.bool n1,.int .i64 K1,.int .i64 X1,.int .u64 S1]] (.bool false)) (HN : Ct 170 #[.int .i64 w,.agg #[.bool n1,.int .i64 K1,.int .i64 X1,.int .u64 S1]] (.int .u64 V)) :
 Calls Tryz.prog 150 #[.int .i64 w,.int .u64 x,.func (.func 154) #[] #[]] W fun r W' => r = .returned (.int .u64 V) ∧ Below W.heap.size W W':=by
 go_enter Tryz.func150,Tryz.ntmps150
 go_wp2_with fail
 refine cg1 HO fun w1 hb => ?_
 have HB:=ab (ad hb (.cells #[.bool n1,.int .i64 K1,.int .i64 X1,.int .u64 S1] 37))
 have HA:=ab (ak w1 (.bool n1) (.int .i64 K1) (.int .i64 X1) (.int .u64 S1) 37)
 clear hb
 obtain ⟨c0,c1,c2,c3⟩:=aa HA
 go_wp2_with fail
 clear c0 c1 c2 c3
 refine cg1 HK fun w2 hb => ?_
 have HB:=bt HB hb
 have HA:=ab ((aa HA).below hb)
 clear hb
 obtain ⟨c0,c1,c2,c3⟩:=aa HA
 go_wp2_with fail
 clear c0 c1 c2 c3
 refine cg0 HN HB fun w3 HB => ?_
 go_wp2_with fail
 go_ret
 exact ⟨rfl,aa HB⟩
theorem qq {w x K1 X1 S1 V n h l : Int} {n1 a m o : Bool} (W : World) (HO : Ct 15 #[.int .i64 w,.int .u64 x] (.agg #[.bool n1,.int .i64 K1,.int .i64 X1,.int .u64 S1])) (HK : Ct 231 #[.agg #[.bool n1,.int .i64 K1,.int .i64 X1,.int .u64 S1]] (.bool true)) (HS : Ct 232 #[.agg #[.bool n1,.int .i64 K1,.int .i64 X1,.int .u64 S1]] (.tuple #[.int .u64 n,.agg #[.bool a,.bool m,.bool o]])) (HF : Ct 154 #[.bool n1,.agg #[.bool a,.bool m,.bool o]] (.bool true)) (kn : IntKind.u64.wrap (n + 1) = n + 1) (HW : Ct 161 #[.int .u64 (n + 1)] (.agg #[.int .u64 h,.int .u64 l])) (HP : Ct 160 #[.int .i64 w,.bool n1,.agg #[.int .u64 h,.int .u64 l],.int .i64 0,.bool false] (.int .u64 V)) :
 Calls Tryz.prog 150 #[.int .i64 w,.int .u64 x,.func (.func 154) #[] #[]] W fun r W' => r = .returned (.int .u64 V) ∧ Below W.heap.size W W':=by
 go_enter Tryz.func150,Tryz.ntmps150
 go_wp2_with fail
 refine cg1 HO fun w1 hb => ?_
 have HB:=ab (ad hb (.cells #[.bool n1,.int .i64 K1,.int .i64 X1,.int .u64 S1] 37))
 have HA:=ab (ak w1 (.bool n1) (.int .i64 K1) (.int .i64 X1) (.int .u64 S1) 37)
 clear hb
 obtain ⟨c0,c1,c2,c3⟩:=aa HA
 go_wp2_with fail
 clear c0 c1 c2 c3
 refine cg1 HK fun w2 hb => ?_
 have HB:=bt HB hb
 have HA:=ab ((aa HA).below hb)
 clear hb
 obtain ⟨c0,c1,c2,c3⟩:=aa HA
 go_wp2_with fail
 clear c0 c1 c2 c3
 refine cg1 HS fun w3 hb => ?_
 have HB:=ab (ad (ac (aa HB) hb) (.cells #[.bool a,.bool m,.bool o] 132))
 have HA:=ab (((aa HA).below hb).below (ae _ (.cells #[.bool a,.bool m,.bool o] 132)))
 clear hb
 obtain ⟨c0,c1,c2,c3⟩:=aa HA
 go_wp2_with fail
 clear c0 c1 c2 c3
 refine cg1 HF fun w4 hb => ?_
 have HB:=bt HB hb
 have HA:=ab ((aa HA).below hb)
 clear hb
 go_wp2_with fail
 have HB:=ab (aa HB).drew
 have HA:=ab ((aa HA).below ((Below.refl _ _).drew))
 refine wp_region_held_drew (S:=fun w' => (w'.cell? ⟨w1.heap.size,0,none⟩ = some (.bool n1) ∧ w'.cell? ⟨w1.heap.size,1,none⟩ = some (.int .i64 K1) ∧ w'.cell? ⟨w1.heap.size,2,none⟩ = some (.int .i64 X1) ∧ w'.cell? ⟨w1.heap.size,3,none⟩ = some (.int .u64 S1))) (by kernel_rfl) ?_ (fun hHeld => ?_)
 ·(try dsimp only)
  exact aa HA
 refine aC 7 (by kernel_rfl) ?_
 refine tkA 0 31 1 ?_
 refine tkA 1 32 3 ?_
 refine tkA 2 33 7 ?_
 refine tkA 3 34 15 ?_
 refine rdA 4 31 (fun Kk hKk => ?_)
 go_simp
 refine cg1 HW fun w5 hbl => ?_
 have HB:=bt HB hbl
 have HA:=ab ((aa HA).below hbl)
 clear hbl
 (try go_wp2_with fail)
 refine oA hKk (aa HA) fun hHeld => ?_
 clear hKk Kk
 refine rdA 5 63 (fun Kk hKk => ?_)
 go_simp
 refine cg1 HP fun w6 hbl => ?_
 have HB:=bt HB hbl
 have HA:=ab ((aa HA).below hbl)
 clear hbl
 (try go_wp2_with fail)
 refine oA hKk (aa HA) fun hHeld => ?_
 clear hKk Kk
 refine tkA 6 6 127 ?_
 refine wpAnyH_done (by kernel_rfl) ?_ _
 go_wp2
 go_ret
 exact ⟨rfl,aa HB⟩
theorem qr {w x K1 X1 S1 V n h l : Int} {n1 a m o : Bool} (W : World) (HO : Ct 15 #[.int .i64 w,.int .u64 x] (.agg #[.bool n1,.int .i64 K1,.int .i64 X1,.int .u64 S1])) (HK : Ct 231 #[.agg #[.bool n1,.int .i64 K1,.int .i64 X1,.int .u64 S1]] (.bool true)) (HS : Ct 232 #[.agg #[.bool n1,.int .i64 K1,.int .i64 X1,.int .u64 S1]] (.tuple #[.int .u64 n,.agg #[.bool a,.bool m,.bool o]])) (HF : Ct 154 #[.bool n1,.agg #[.bool a,.bool m,.bool o]] (.bool false)) (HW : Ct 161 #[.int .u64 n] (.agg #[.int .u64 h,.int .u64 l])) (HP : Ct 160 #[.int .i64 w,.bool n1,.agg #[.int .u64 h,.int .u64 l],.int .i64 0,.bool false] (.int .u64 V)) :
 Calls Tryz.prog 150 #[.int .i64 w,.int .u64 x,.func (.func 154) #[] #[]] W fun r W' => r = .returned (.int .u64 V) ∧ Below W.heap.size W W':=by
 go_enter Tryz.func150,Tryz.ntmps150
 go_wp2_with fail
 refine cg1 HO fun w1 hb => ?_
 have HB:=ab (ad hb (.cells #[.bool n1,.int .i64 K1,.int .i64 X1,.int .u64 S1] 37))
 have HA:=ab (ak w1 (.bool n1) (.int .i64 K1) (.int .i64 X1) (.int .u64 S1) 37)
 clear hb
 obtain ⟨c0,c1,c2,c3⟩:=aa HA
 go_wp2_with fail
 clear c0 c1 c2 c3
 refine cg1 HK fun w2 hb => ?_
 have HB:=bt HB hb
 have HA:=ab ((aa HA).below hb)
 clear hb
 obtain ⟨c0,c1,c2,c3⟩:=aa HA
 go_wp2_with fail
 clear c0 c1 c2 c3
 refine cg1 HS fun w3 hb => ?_
 have HB:=ab (ad (ac (aa HB) hb) (.cells #[.bool a,.bool m,.bool o] 132))
 have HA:=ab (((aa HA).below hb).below (ae _ (.cells #[.bool a,.bool m,.bool o] 132)))
 clear hb
 obtain ⟨c0,c1,c2,c3⟩:=aa HA
 go_wp2_with fail
 clear c0 c1 c2 c3
 refine cg1 HF fun w4 hb => ?_
 have HB:=bt HB hb
 have HA:=ab ((aa HA).below hb)
 clear hb
 go_wp2_with fail
 have HB:=ab (aa HB).drew
 have HA:=ab ((aa HA).below ((Below.refl _ _).drew))
 refine wp_region_held_drew (S:=fun w' => (w'.cell? ⟨w1.heap.size,0,none⟩ = some (.bool n1) ∧ w'.cell? ⟨w1.heap.size,1,none⟩ = some (.int .i64 K1) ∧ w'.cell? ⟨w1.heap.size,2,none⟩ = some (.int .i64 X1) ∧ w'.cell? ⟨w1.heap.size,3,none⟩ = some (.int .u64 S1))) (by kernel_rfl) ?_ (fun hHeld => ?_)
 ·(try dsimp only)
  exact aa HA
 refine aC 7 (by kernel_rfl) ?_
 refine tkA 0 31 1 ?_
 refine tkA 1 32 3 ?_
 refine tkA 2 33 7 ?_
 refine tkA 3 34 15 ?_
 refine rdA 4 31 (fun Kk hKk => ?_)
 go_simp
 refine cg1 HW fun w5 hbl => ?_
 have HB:=bt HB hbl
 have HA:=ab ((aa HA).below hbl)
 clear hbl
 (try go_wp2_with fail)
 refine oA hKk (aa HA) fun hHeld => ?_
 clear hKk Kk
 refine rdA 5 63 (fun Kk hKk => ?_)
 go_simp
 refine cg1 HP fun w6 hbl => ?_
 have HB:=bt HB hbl
 have HA:=ab ((aa HA).below hbl)
 clear hbl
 (try go_wp2_with fail)
 refine oA hKk (aa HA) fun hHeld => ?_
 clear hKk Kk
 refine tkA 6 6 127 ?_
 refine wpAnyH_done (by kernel_rfl) ?_ _
 go_wp2
 go_ret
 exact ⟨rfl,aa HB⟩
theorem ab6 {w x V : Int} (W : World) (H : Ct 150 #[.int .i64 w,.int .u64 x,.func (.func 151) #[] #[]] (.int .u64 V)) :
 Calls Tryz.prog 80 #[.int .i64 w,.int .u64 x] W fun r W' => r = .returned (.int .u64 V) ∧ Below W.heap.size W W':=by
 go_enter Tryz.func80,Tryz.ntmps80
 go_wp2_with fail
 refine cg1 H fun w1 hb => ?_
 have HB:=ab hb
 clear hb
 go_wp2_with fail
 go_ret
 exact ⟨rfl,aa HB⟩
theorem uE {w x V : Int} (W : World) (H : Ct 150 #[.int .i64 w,.int .u64 x,.func (.func 152) #[] #[]] (.int .u64 V)) :
 Calls Tryz.prog 81 #[.int .i64 w,.int .u64 x] W fun r W' => r = .returned (.int .u64 V) ∧ Below W.heap.size W W':=by
 go_enter Tryz.func81,Tryz.ntmps81
 go_wp2_with fail
 refine cg1 H fun w1 hb => ?_
 have HB:=ab hb
 clear hb
 go_wp2_with fail
 go_ret
 exact ⟨rfl,aa HB⟩
theorem uF {w x V : Int} (W : World) (H : Ct 150 #[.int .i64 w,.int .u64 x,.func (.func 153) #[] #[]] (.int .u64 V)) :
 Calls Tryz.prog 82 #[.int .i64 w,.int .u64 x] W fun r W' => r = .returned (.int .u64 V) ∧ Below W.heap.size W W':=by
 go_enter Tryz.func82,Tryz.ntmps82
 go_wp2_with fail
 refine cg1 H fun w1 hb => ?_
 have HB:=ab hb
 clear hb
 go_wp2_with fail
 go_ret
 exact ⟨rfl,aa HB⟩
theorem ab7 {w x V : Int} (W : World) (H : Ct 150 #[.int .i64 w,.int .u64 x,.func (.func 154) #[] #[]] (.int .u64 V)) :
 Calls Tryz.prog 83 #[.int .i64 w,.int .u64 x] W fun r W' => r = .returned (.int .u64 V) ∧ Below W.heap.size W W':=by
 go_enter Tryz.func83,Tryz.ntmps83
 go_wp2_with fail
 refine cg1 H fun w1 hb => ?_
 have HB:=ab hb
 clear hb
 go_wp2_with fail
 go_ret
 exact ⟨rfl,aa HB⟩
end Go.Proofs.YtpbgpdmffejdgaaGreatDoor
