/- MInH, MOrdB, MChR, MChRw. -/
import Derived.Test.YtpbgpdmffejdgaaGreatDoorG20
import Derived.Test.YtpbgpdmffejdgaaGreatDoorG22
import Derived.Test.YtpbgpdmffejdgaaGreatDoorG30
import Derived.Test.YtpbgpdmffejdgaaGreatDoorG32
import Derived.Test.YtpbgpdmffejdgaaGreatDoorG38
import Derived.Test.YtpbgpdmffejdgaaGreatDoorG39
namespace Go.Proofs.YtpbgpdmffejdgaaGreatDoor
set_option maxHeartbeats 4000000
set_option maxRecDepth 100000
open Go.RowKit
open Go.Proofs.YtpbgpdmffejdgaaGreatDoor.W
def Pc (f : Int) (m : Nat) : Prop:=(f = 8 ∧ m = 8) ∨ (f = 16 ∧ m = 16) ∨ (f = 32 ∧ m = 32) ∨ (f = 64 ∧ m = 64)
def fJ (A f : Nat) (sg : Bool) (i : Nat) : Bool:=if i < f then A.testBit i else (sg && A.testBit (f - 1))
theorem vn (A f : Nat) (sg : Bool) : cH A.testBit f = cH (fJ A f sg) f:=by
 unfold cH
 refine List.map_congr_left fun i hi => ?_
 have : i < f:=List.mem_range.1 hi
 unfold fJ
 rw [if_pos this]
theorem zH (g : Nat → Bool) (n : Nat) : ∀ u ∈ cH g n,u.oneCell' = true:=by
 intro u hu
 unfold cH at hu
 rw [List.mem_map] at hu
 obtain ⟨i,-,rfl⟩:=hu
 rfl
theorem ro {w : World} {b f : Nat} {g : Nat → Bool} (h : ∀ i,i < f → w.cell? ⟨b,i,none⟩ = some (.bool (g i))) : ∀ j u,(cH g f)[j]? = some u → w.cell? ((⟨b,0,none⟩ : Addr).add j) = some u:=by
 intro j u hj
 unfold cH at hj
 rw [List.getElem?_map] at hj
 by_cases hlt : j < f
 ·rw [List.getElem?_range hlt] at hj
  have:=h j hlt
  simp at hj
  subst hj
  cases j with
  | zero => simpa [Addr.add] using this
  | succ j => simpa [Addr.add] using this
 ·rw [List.getElem?_eq_none (by simpa using hlt)] at hj
  simp at hj
theorem aly {a f : Int} {n m A : Nat} {sg : Bool} (p : Pc f m) (hn : n ≤ 64) (g : m ≤ n) (HL : Hid (∀ W,Calls Tryz.prog 172 #[.int .i64 64,.int .u64 a] W fun e w' => ∃ s,e = .returned s ∧ db w' s A.testBit 64 ∧ Below W.heap.size W w'))
 (HF : Hid (∀ s W,db W s (fJ A m sg) n → Calls Tryz.prog 173 #[s] W fun e w' => e = .returned (.int .u64 ((bX (fJ A m sg) n : Nat) : Int)) ∧ Below W.heap.size W w')) :
 Ct 99 #[.int .i64 (n : Int),.int .i64 f,.int .u64 a,.bool sg] (.int .u64 (bX (fJ A m sg) n : Nat)):=by
 refine ab (fun W => ?_)
 have gi : f ≤ n:=by unfold Pc at p; omega
 rcases p with ⟨rfl,hm⟩ | ⟨rfl,hm⟩ | ⟨rfl,hm⟩ | ⟨rfl,hm⟩
 all_goals
  go_enter Tryz.func99,Tryz.ntmps99
  go_wp2_with fail
  refine (aa HL _).mono ?_
  rintro _ w1 ⟨s1,rfl,hH,hb⟩
  have HW:=ab hb
  obtain ⟨b,c,rfl,h2,h3,h4⟩:=hH
  have H4:=ab h4
  clear hb h4
  have hcc : m ≤ c:=by omega
  go_wp2_with (at_builtin; refine wpList_append_own _ rfl _ _ 151 rfl (w1.heap.size) 4 _ (.bool false) 1 1 Tryz.underlying151 iB rfl rfl rfl rfl (by decide) _ _ _ rfl (World.ownsRow_nil _ _ _ _) ⟨b,0,none⟩ _ _ (cH A.testBit m) rfl (by rw [ve]; omega) (ro (fun i hi => aa H4 i (by omega))) (zH _ _) (by unfold maxLen; omega) (by omega) (Nat.le_refl _) ?_; intro v1 w2 hown1 hgr1 _)
  have HO1 : Hid (w2.ownsRow w1.heap.size 4 1 v1 m (cH (fJ A m sg) m)):=ab (by
   rw [← vn]
   subst hm
   simpa using hown1)
  have HB1 : Hid (Below w1.heap.size w1 w2):=ab ((Below.refl _ _).grown hgr1 (Nat.le_refl _) (fun k hk => by cases hk))
  clear hown1 hgr1
  (try go_wp2_with fail)
  go_loopw [10,11] (fun v5 v6 wr => ∃ i : Nat,m ≤ i ∧ i ≤ n ∧ v6 = .int .i64 (i : Int) ∧ wr.ownsRow w1.heap.size 4 1 v5 i (cH (fJ A m sg) i) ∧ Below w1.heap.size w1 wr) (fun _ i _ => n - (intOf i).toNat)
  case atStart => exact ⟨m,by omega,g,by rw [hm]; rfl,aa HO1,aa HB1⟩
  case round =>
   obtain ⟨i,hi0,hi,rfl,hown,hB⟩:=hrel
   have HO:=ab hown; have HB:=ab hB
   have HL1:=ab (show i + 1 ≤ maxLen by unfold maxLen; omega)
   have HL2:=ab (show (i + 1) * 1 ≤ 140737488355328 by omega)
   have HL3:=ab (show w1.heap.size ≤ wr.heap.size from hB.size)
   have hcl:=aw hB h2 (aa H4 (m - 1) (by omega))
   clear hown hB
   by_cases hc : i < n
   ·first
    | omega
    |have HE : Hid ((sg && A.testBit (m - 1)) = fJ A m sg i):=ab (by unfold fJ; rw [if_neg (by omega)])
     generalize A.testBit (m - 1) = e at *
     rw [hm] at hcl
     cases sg
     ·go_wp2_with (at_builtin; refine wpList_append_own _ rfl _ _ 151 rfl (w1.heap.size) 4 _ (.bool false) 1 1 Tryz.underlying151 iB rfl rfl rfl rfl (by decide) _ _ _ rfl ((aa HO).alloc _) ⟨wr.heap.size,0,none⟩ 1 1 [.bool false] rfl rfl (cell_one_new _ _ _) (dL _) (aa HL1) (aa HL2) (bY (aa HL3) _) ?_; intro v' wz hown' hgr _)
      have hr:=cA (aa HO) (aa HB) (aa HL3) hown' hgr (aa HE)
      exact ⟨⟨i + 1,by omega,by omega,by go_num,hr.1,hr.2⟩,by simp [intOf]; omega⟩
     ·go_wp2_with (at_builtin; refine wpList_append_own _ rfl _ _ 151 rfl (w1.heap.size) 4 _ (.bool false) 1 1 Tryz.underlying151 iB rfl rfl rfl rfl (by decide) _ _ _ rfl ((aa HO).alloc _) ⟨wr.heap.size,0,none⟩ 1 1 [.bool e] rfl rfl (cell_one_new _ _ _) (dL _) (aa HL1) (aa HL2) (bY (aa HL3) _) ?_; intro v' wz hown' hgr _)
      have hr:=cA (aa HO) (aa HB) (aa HL3) hown' hgr (aa HE)
      exact ⟨⟨i + 1,by omega,by omega,by go_num,hr.1,hr.2⟩,by simp [intOf]; omega⟩
   ·have hin : i = n:=by omega
    subst hin
    have hH:=ab (gT (aa HO) (by omega))
    go_wp2_with fail
    refine (aa HF _ _ (aa hH)).mono ?_
    rintro _ w3 ⟨rfl,hb⟩
    have HB:=ab (ac (ac (aa HW) (aa HB)) hb)
    clear hb
    go_wp2_with fail
    go_ret
    subst hm
    exact ⟨rfl,aa HB⟩
set_option maxHeartbeats 2000000
theorem atv {x y : Int} (W : World)  :
 Calls Tryz.prog 130 #[.int .i64 x,.int .i64 y] W fun r W' => r = .returned (.bool (x == y)) ∧ Below W.heap.size W W':=by
 go_enter Tryz.func130,Tryz.ntmps130
 go_wp2_with fail
 go_ret
 exact ⟨by simp,Below.refl _ _⟩
theorem atw {x y : Int} (W : World)  :
 Calls Tryz.prog 132 #[.int .i64 x,.int .i64 y] W fun r W' => r = .returned (.bool (decide (x < y))) ∧ Below W.heap.size W W':=by
 go_enter Tryz.func132,Tryz.ntmps132
 go_wp2_with fail
 go_ret
 exact ⟨by simp,Below.refl _ _⟩
theorem atx {x y : Int} (W : World)  :
 Calls Tryz.prog 133 #[.int .i64 x,.int .i64 y] W fun r W' => r = .returned (.bool (decide (y < x))) ∧ Below W.heap.size W W':=by
 go_enter Tryz.func133,Tryz.ntmps133
 go_wp2_with fail
 go_ret
 exact ⟨by simp,Below.refl _ _⟩
theorem aty {x y : Int} (W : World)  :
 Calls Tryz.prog 134 #[.int .i64 x,.int .i64 y] W fun r W' => r = .returned (.bool (decide (x ≤ y))) ∧ Below W.heap.size W W':=by
 go_enter Tryz.func134,Tryz.ntmps134
 go_wp2_with fail
 go_ret
 exact ⟨by simp,Below.refl _ _⟩
theorem atz {x y : Int} (W : World)  :
 Calls Tryz.prog 135 #[.int .i64 x,.int .i64 y] W fun r W' => r = .returned (.bool (decide (y ≤ x))) ∧ Below W.heap.size W W':=by
 go_enter Tryz.func135,Tryz.ntmps135
 go_wp2_with fail
 go_ret
 exact ⟨by simp,Below.refl _ _⟩
theorem abs {w x y a b : Int} {t : Bool} (W : World) (H1 : Ct 205 #[.int .i64 w,.int .u64 x] (.tuple #[.int .i64 a,.bool true])) (H2 : Ct 205 #[.int .i64 w,.int .u64 y] (.tuple #[.int .i64 b,.bool true])) (H3 : Ct 130 #[.int .i64 a,.int .i64 b] (.bool t)) :
 Calls Tryz.prog 129 #[.int .i64 w,.int .u64 x,.int .u64 y,.func (.func 130) #[] #[]] W fun r W' => r = .returned (.bool t) ∧ Below W.heap.size W W':=by
 go_enter Tryz.func129,Tryz.ntmps129
 go_wp2_with fail
 refine cg1 H1 fun w1 hb => ?_
 have HB:=ab hb
 clear hb
 go_wp2_with fail
 refine cg0 H2 HB fun w2 HB => ?_
 go_wp2_with fail
 refine cg0 H3 HB fun w3 HB => ?_
 go_wp2_with fail
 go_ret
 exact ⟨rfl,aa HB⟩
theorem abt {w x y a b : Int} {t : Bool} (W : World) (H1 : Ct 205 #[.int .i64 w,.int .u64 x] (.tuple #[.int .i64 a,.bool true])) (H2 : Ct 205 #[.int .i64 w,.int .u64 y] (.tuple #[.int .i64 b,.bool true])) (H3 : Ct 132 #[.int .i64 a,.int .i64 b] (.bool t)) :
 Calls Tryz.prog 129 #[.int .i64 w,.int .u64 x,.int .u64 y,.func (.func 132) #[] #[]] W fun r W' => r = .returned (.bool t) ∧ Below W.heap.size W W':=by
 go_enter Tryz.func129,Tryz.ntmps129
 go_wp2_with fail
 refine cg1 H1 fun w1 hb => ?_
 have HB:=ab hb
 clear hb
 go_wp2_with fail
 refine cg0 H2 HB fun w2 HB => ?_
 go_wp2_with fail
 refine cg0 H3 HB fun w3 HB => ?_
 go_wp2_with fail
 go_ret
 exact ⟨rfl,aa HB⟩
theorem abu {w x y a b : Int} {t : Bool} (W : World) (H1 : Ct 205 #[.int .i64 w,.int .u64 x] (.tuple #[.int .i64 a,.bool true])) (H2 : Ct 205 #[.int .i64 w,.int .u64 y] (.tuple #[.int .i64 b,.bool true])) (H3 : Ct 133 #[.int .i64 a,.int .i64 b] (.bool t)) :
 Calls Tryz.prog 129 #[.int .i64 w,.int .u64 x,.int .u64 y,.func (.func 133) #[] #[]] W fun r W' => r = .returned (.bool t) ∧ Below W.heap.size W W':=by
 go_enter Tryz.func129,Tryz.ntmps129
 go_wp2_with fail
 refine cg1 H1 fun w1 hb => ?_
 have HB:=ab hb
 clear hb
 go_wp2_with fail
 refine cg0 H2 HB fun w2 HB => ?_
 go_wp2_with fail
 refine cg0 H3 HB fun w3 HB => ?_
 go_wp2_with fail
 go_ret
 exact ⟨rfl,aa HB⟩
theorem abv {w x y a b : Int} {t : Bool} (W : World) (H1 : Ct 205 #[.int .i64 w,.int .u64 x] (.tuple #[.int .i64 a,.bool true])) (H2 : Ct 205 #[.int .i64 w,.int .u64 y] (.tuple #[.int .i64 b,.bool true])) (H3 : Ct 134 #[.int .i64 a,.int .i64 b] (.bool t)) :
 Calls Tryz.prog 129 #[.int .i64 w,.int .u64 x,.int .u64 y,.func (.func 134) #[] #[]] W fun r W' => r = .returned (.bool t) ∧ Below W.heap.size W W':=by
 go_enter Tryz.func129,Tryz.ntmps129
 go_wp2_with fail
 refine cg1 H1 fun w1 hb => ?_
 have HB:=ab hb
 clear hb
 go_wp2_with fail
 refine cg0 H2 HB fun w2 HB => ?_
 go_wp2_with fail
 refine cg0 H3 HB fun w3 HB => ?_
 go_wp2_with fail
 go_ret
 exact ⟨rfl,aa HB⟩
theorem abw {w x y a b : Int} {t : Bool} (W : World) (H1 : Ct 205 #[.int .i64 w,.int .u64 x] (.tuple #[.int .i64 a,.bool true])) (H2 : Ct 205 #[.int .i64 w,.int .u64 y] (.tuple #[.int .i64 b,.bool true])) (H3 : Ct 135 #[.int .i64 a,.int .i64 b] (.bool t)) :
 Calls Tryz.prog 129 #[.int .i64 w,.int .u64 x,.int .u64 y,.func (.func 135) #[] #[]] W fun r W' => r = .returned (.bool t) ∧ Below W.heap.size W W':=by
 go_enter Tryz.func129,Tryz.ntmps129
 go_wp2_with fail
 refine cg1 H1 fun w1 hb => ?_
 have HB:=ab hb
 clear hb
 go_wp2_with fail
 refine cg0 H2 HB fun w2 HB => ?_
 go_wp2_with fail
 refine cg0 H3 HB fun w3 HB => ?_
 go_wp2_with fail
 go_ret
 exact ⟨rfl,aa HB⟩
theorem du {w x y a b : Int} {v : Value} {t : Bool} (W : World) (H1 : Ct 205 #[.int .i64 w,.int .u64 x] (.tuple #[.int .i64 a,.bool false])) (H2 : Ct 205 #[.int .i64 w,.int .u64 y] (.tuple #[.int .i64 b,.bool t])) :
 Calls Tryz.prog 129 #[.int .i64 w,.int .u64 x,.int .u64 y,v] W fun r W' => r = .returned (.bool false) ∧ Below W.heap.size W W':=by
 go_enter Tryz.func129,Tryz.ntmps129
 go_wp2_with fail
 refine cg1 H1 fun w1 hb => ?_
 have HB:=ab hb
 clear hb
 go_wp2_with fail
 refine cg0 H2 HB fun w2 HB => ?_
 go_wp2_with fail
 go_ret
 exact ⟨rfl,aa HB⟩
theorem l9 {w x y a b : Int} {v : Value} (W : World) (H1 : Ct 205 #[.int .i64 w,.int .u64 x] (.tuple #[.int .i64 a,.bool true])) (H2 : Ct 205 #[.int .i64 w,.int .u64 y] (.tuple #[.int .i64 b,.bool false])) :
 Calls Tryz.prog 129 #[.int .i64 w,.int .u64 x,.int .u64 y,v] W fun r W' => r = .returned (.bool false) ∧ Below W.heap.size W W':=by
 go_enter Tryz.func129,Tryz.ntmps129
 go_wp2_with fail
 refine cg1 H1 fun w1 hb => ?_
 have HB:=ab hb
 clear hb
 go_wp2_with fail
 refine cg0 H2 HB fun w2 HB => ?_
 go_wp2_with fail
 go_ret
 exact ⟨rfl,aa HB⟩
theorem abx {w x y : Int} {t : Bool} (W : World) (H : Ct 129 #[.int .i64 w,.int .u64 x,.int .u64 y,.func (.func 130) #[] #[]] (.bool t)) :
 Calls Tryz.prog 66 #[.int .i64 w,.int .u64 x,.int .u64 y] W fun r W' => r = .returned (.bool t) ∧ Below W.heap.size W W':=by
 go_enter Tryz.func66,Tryz.ntmps66
 go_wp2_with fail
 refine cg1 H fun w1 hb => ?_
 have HB:=ab hb
 clear hb
 go_wp2_with fail
 go_ret
 exact ⟨rfl,aa HB⟩
theorem aby {w x y : Int} {t : Bool} (W : World) (H : Ct 129 #[.int .i64 w,.int .u64 x,.int .u64 y,.func (.func 132) #[] #[]] (.bool t)) :
 Calls Tryz.prog 68 #[.int .i64 w,.int .u64 x,.int .u64 y] W fun r W' => r = .returned (.bool t) ∧ Below W.heap.size W W':=by
 go_enter Tryz.func68,Tryz.ntmps68
 go_wp2_with fail
 refine cg1 H fun w1 hb => ?_
 have HB:=ab hb
 clear hb
 go_wp2_with fail
 go_ret
 exact ⟨rfl,aa HB⟩
theorem abz {w x y : Int} {t : Bool} (W : World) (H : Ct 129 #[.int .i64 w,.int .u64 x,.int .u64 y,.func (.func 133) #[] #[]] (.bool t)) :
 Calls Tryz.prog 69 #[.int .i64 w,.int .u64 x,.int .u64 y] W fun r W' => r = .returned (.bool t) ∧ Below W.heap.size W W':=by
 go_enter Tryz.func69,Tryz.ntmps69
 go_wp2_with fail
 refine cg1 H fun w1 hb => ?_
 have HB:=ab hb
 clear hb
 go_wp2_with fail
 go_ret
 exact ⟨rfl,aa HB⟩
theorem ab0 {w x y : Int} {t : Bool} (W : World) (H : Ct 129 #[.int .i64 w,.int .u64 x,.int .u64 y,.func (.func 134) #[] #[]] (.bool t)) :
 Calls Tryz.prog 70 #[.int .i64 w,.int .u64 x,.int .u64 y] W fun r W' => r = .returned (.bool t) ∧ Below W.heap.size W W':=by
 go_enter Tryz.func70,Tryz.ntmps70
 go_wp2_with fail
 refine cg1 H fun w1 hb => ?_
 have HB:=ab hb
 clear hb
 go_wp2_with fail
 go_ret
 exact ⟨rfl,aa HB⟩
theorem ab1 {w x y : Int} {t : Bool} (W : World) (H : Ct 129 #[.int .i64 w,.int .u64 x,.int .u64 y,.func (.func 135) #[] #[]] (.bool t)) :
 Calls Tryz.prog 71 #[.int .i64 w,.int .u64 x,.int .u64 y] W fun r W' => r = .returned (.bool t) ∧ Below W.heap.size W W':=by
 go_enter Tryz.func71,Tryz.ntmps71
 go_wp2_with fail
 refine cg1 H fun w1 hb => ?_
 have HB:=ab hb
 clear hb
 go_wp2_with fail
 go_ret
 exact ⟨rfl,aa HB⟩
theorem aqp {w x y : Int} {t : Bool} (W : World) (HKN : Ct 131 #[.int .i64 w] (.bool true)) (H : Ct 66 #[.int .i64 w,.int .u64 x,.int .u64 y] (.bool t)) :
 Calls Tryz.prog 67 #[.int .i64 w,.int .u64 x,.int .u64 y] W fun r W' => r = .returned (.bool (!t)) ∧ Below W.heap.size W W':=by
 go_enter Tryz.func67,Tryz.ntmps67
 go_wp2_with fail
 refine cg1 HKN fun w1 hb => ?_
 have HB:=ab hb
 clear hb
 go_wp2_with fail
 refine cg0 H HB fun w2 HB => ?_
 go_wp2_with fail
 go_ret
 exact ⟨rfl,aa HB⟩
set_option maxHeartbeats 4000000
theorem ar7 {k j T : Int} (W : World) (h : IntKind.i64.wrap (k - 1) = j) (HT : Ct 183 #[.int .i64 j] (.int .u64 T)) :
 Calls Tryz.prog 187 #[.int .i64 k,.bool true] W fun r W' => r = .returned (.int .u64 T) ∧ Below W.heap.size W W':=by
 have HB:=rf W
 go_enter Tryz.func187,Tryz.ntmps187
 go_wp2_with fail
 refine cg0 HT HB fun w1 HB => ?_
 go_wp2_with fail
 go_ret
 exact ⟨rfl,aa HB⟩
theorem ar8 {k : Int} (W : World)  :
 Calls Tryz.prog 187 #[.int .i64 k,.bool false] W fun r W' => r = .returned (.int .u64 0) ∧ Below W.heap.size W W':=by
 have HB:=rf W
 go_enter Tryz.func187,Tryz.ntmps187
 go_wp2_with fail
 go_ret
 exact ⟨rfl,aa HB⟩
theorem an6 {k j T V : Int} (W : World) (h : IntKind.i64.wrap (k - 1) = j) (HT : Ct 183 #[.int .i64 j] (.int .u64 T)) (h1 : IntKind.u64.wrap (T - 1) = V) :
 Calls Tryz.prog 188 #[.int .i64 k,.bool true] W fun r W' => r = .returned (.int .u64 V) ∧ Below W.heap.size W W':=by
 have HB:=rf W
 go_enter Tryz.func188,Tryz.ntmps188
 go_wp2_with fail
 refine cg0 HT HB fun w1 HB => ?_
 go_wp2_with fail
 go_ret
 exact ⟨rfl,aa HB⟩
theorem an7 {k j T V V2 : Int} (W : World) (h : IntKind.i64.wrap (k - 1) = j) (HT : Ct 183 #[.int .i64 j] (.int .u64 T)) (h1 : IntKind.u64.wrap (T - 1) = V) (h2 : IntKind.u64.wrap (V + T) = V2) :
 Calls Tryz.prog 188 #[.int .i64 k,.bool false] W fun r W' => r = .returned (.int .u64 V2) ∧ Below W.heap.size W W':=by
 have HB:=rf W
 go_enter Tryz.func188,Tryz.ntmps188
 go_wp2_with fail
 refine cg0 HT HB fun w1 HB => ?_
 go_wp2_with fail
 go_ret
 exact ⟨rfl,aa HB⟩
set_option maxHeartbeats 16000000
theorem dR {w k x X S K l h o V m y y2 dc : Int} {s n dl : Bool} {z : Nat} (W : World) (HO : Ct 101 #[.int .i64 w,.int .u64 x] (.agg #[.bool n,.int .i64 K,.int .i64 X,.int .u64 S])) (HL : Ct 187 #[.int .i64 k,.bool s] (.int .u64 l)) (HH : Ct 188 #[.int .i64 k,.bool s] (.int .u64 h)) (lr : Hid (0 ≤ l ∧ l < 18446744073709551616)) (hr : Hid (0 ≤ h ∧ h < 18446744073709551616))
 (HQ : (K == 3) = true ∧ o = 1 ∧ V = 0 ∨ (K == 3) = false ∧ ((K == 1) = true ∧ Hid (∀ W,Calls Tryz.prog 186 #[.agg #[.bool n,.int .i64 K,.int .i64 X,.int .u64 S]] W fun e w' => ∃ s,e = .returned (.tuple #[.agg #[s],.int .i64 dc,.bool dl]) ∧ ai w' s z ∧ Below W.heap.size W w') ∨ (K == 1) = false ∧ z = 0) ∧
  (n = true ∧ ((K == 2) = true ∧ o = 2 ∧ V = 0 ∨ (K == 2) = false ∧ (0 < aK z l.toNat ∧ o = 2 ∧ V = 0 ∨ ¬ 0 < aK z l.toNat ∧ o = 0 ∧ lo z = m ∧ (0 < m ∧ IntKind.u64.wrap (18446744073709551615 - m) = y ∧ IntKind.u64.wrap (y + 1) = y2 ∧ Ct 41 #[.int .i64 k,.int .u64 y2] (.int .u64 V) ∨ ¬ 0 < m ∧ Ct 41 #[.int .i64 k,.int .u64 m] (.int .u64 V)))) ∨
   n = false ∧ ((K == 2) = true ∧ o = 3 ∧ V = 0 ∨ (K == 2) = false ∧ (0 < aK z h.toNat ∧ o = 3 ∧ V = 0 ∨ ¬ 0 < aK z h.toNat ∧ o = 0 ∧ lo z = m ∧ Ct 41 #[.int .i64 k,.int .u64 m] (.int .u64 V))))) :
 Calls Tryz.prog 103 #[.int .i64 w,.int .i64 k,.int .u64 x,.bool s] W fun r W' => r = .returned (.tuple #[.int .i64 o,.int .u64 V]) ∧ Below W.heap.size W W':=by
 go_enter Tryz.func103,Tryz.ntmps103
 go_wp2_with fail
 refine cg1 HO fun w1 hb => ?_
 have zw:=hb.size
 have HB:=ab (ad hb (.cells #[.bool n,.int .i64 K,.int .i64 X,.int .u64 S] 105))
 have HA:=ab (ak w1 (.bool n) (.int .i64 K) (.int .i64 X) (.int .u64 S) 105)
 clear hb
 obtain ⟨c0,c1,c2,c3⟩:=aa HA
 rcases HQ with ⟨k3,rfl,rfl⟩ | ⟨k3,hk,HQ⟩
 ·go_wp2_with fail
  have HZ:=HB
  go_ret2
  exact ⟨rfl,aa HZ⟩
 ·go_wp2_with fail
  clear c0 c1 c2 c3
  refine (aE 0 _ (by omega) (by omega)).mono ?_
  rintro _ w2 ⟨s2,rfl,hN,hb⟩
  obtain ⟨a2,m2,c2,rfl⟩:=hN.slice
  change ai _ _ 0 at hN
  have HB:=ab (ad (ac (aa HB) hb) (.cells #[.slice a2 m2 c2] 41))
  have HA:=ab (((aa HA).below hb).below (ae w2 (.cells #[.slice a2 m2 c2] 41)))
  have HN:=ab (hN.below (ae w2 (.cells #[.slice a2 m2 c2] 41)))
  have HC0 : Hid ((w2.alloc (.cells #[.slice a2 m2 c2] 41)).cell? ⟨w2.heap.size,0,none⟩ = some (.slice a2 m2 c2) ∧ (w2.alloc (.cells #[.slice a2 m2 c2] 41)).frozen? ⟨w2.heap.size,0,none⟩ = false):=by unfold Hid; simp [go_sem]
  have zb : w1.heap.size < w2.heap.size:=by have:=hb.size; simp at this; omega
  clear hb hN
  generalize hx2 : w2.heap.size = b2 at *
  rcases hk with ⟨k1,HD⟩ | ⟨k1,rfl⟩
  all_goals
   obtain ⟨c0,c1,c2',c3⟩:=aa HA
   go_wp2_with fail
   clear c0 c1 c2' c3
   first
   |have _ : (K == 1) = false:=k1
    obtain ⟨a4,m4,c4,h4⟩ : ∃ (a4 : Option Addr) (m4 c4 : Nat),a4 = a2 ∧ m4 = m2 ∧ c4 = c2:=⟨_,_,_,rfl,rfl,rfl⟩
    obtain ⟨rfl,rfl,rfl⟩:=h4
    have HC0:=ab (aa HC0).1
    generalize w2.alloc (.cells #[.slice a4 m4 c4] 41) = w4 at *
   |refine (aa HD _).mono ?_
    rintro _ w3 ⟨s4,rfl,hN,hb⟩
    obtain ⟨a4,m4,c4,rfl⟩:=hN.slice
    have HB:=bt HB hb
    have HA:=ab ((aa HA).below hb)
    have HC0:=ab (And.intro (aw hb (ag (aa HC0).1) (aa HC0).1) ((hb.frozen (ag (aa HC0).1)).trans (aa HC0).2))
    have HN:=ab hN
    clear hb hN
    obtain ⟨d0,d1⟩:=aa HC0
    have HB:=ab (aZ (aa HB) b2 (by omega) 0 (.slice a4 m4 c4))
    have HA:=ab (At4.set (aa HA) (show w1.heap.size ≠ b2 by omega) 0 (.slice a4 m4 c4))
    have HN:=ab ((aa HN).store (aa HC0).1 (.slice a4 m4 c4))
    have HC0:=ab (World.cell?_setCell_same _ _ (.slice a4 m4 c4) (aa HC0).1)
    go_wp2_with fail
    clear d0 d1
    generalize w3.setCell ⟨b2,0,none⟩ (.slice a4 m4 c4) = w4 at *
   have HZ:=HB
   rcases HQ with ⟨rfl,HQ⟩ | ⟨rfl,HQ⟩
   ·have HB:=HZ
    rcases HQ with ⟨k2,rfl,rfl⟩ | ⟨k2,HQ⟩
    ·have HB:=ab ((aa HB).drew)
     have HA:=ab ((aa HA).below ((Below.refl _ _).drew))
     have HN:=ab ((aa HN).below ((Below.refl _ _).drew))
     have HC0:=ab (aw ((Below.refl _ _).drew) (ag (aa HC0)) (aa HC0))
     refine wp_region_held_drew (S:=fun w' => (w'.cell? ⟨w1.heap.size,0,none⟩ = some (.bool true) ∧ w'.cell? ⟨w1.heap.size,1,none⟩ = some (.int .i64 K) ∧ w'.cell? ⟨w1.heap.size,2,none⟩ = some (.int .i64 X) ∧ w'.cell? ⟨w1.heap.size,3,none⟩ = some (.int .u64 S)) ∧ w'.cell? ⟨b2,0,none⟩ = some (.slice a4 m4 c4)) (by kernel_rfl) ?_ (fun hHeld => ?_)
     ·(try dsimp only)
      exact ⟨aa HA,aa HC0⟩
     refine aC 16 (by kernel_rfl) ?_
     refine tkA 0 29 1 ?_
     refine tkA 1 30 3 ?_
     refine tkA 2 31 7 ?_
     refine tkA 3 32 15 ?_
     refine tkA 4 33 31 ?_
     refine tkA 5 34 63 ?_
     refine tkA 6 35 127 ?_
     refine tkU 7 36 255 ?_
     refine tkU 8 37 511 ?_
     refine tkU 9 38 1023 ?_
     refine rdA 10 2047 (fun Kk hKk => ?_)
     go_simp
     refine oA hKk (hHeld) fun hHeld => ?_
     clear hKk Kk
     refine rdA 11 4095 (fun Kk hKk => ?_)
     go_simp
     refine oA hKk (hHeld) fun hHeld => ?_
     clear hKk Kk
     refine rdA 12 8191 (fun Kk hKk => ?_)
     go_simp
     refine oA hKk (hHeld) fun hHeld => ?_
     clear hKk Kk
     refine tkU 13 42 16383 ?_
     refine tkA 14 43 32767 ?_
     refine tkA 15 44 65535 ?_
     refine wpAnyH_done (by kernel_rfl) ?_ _
     clear hHeld
     go_wp2_with fail
     have HZ:=HB
     go_ret2
     exact ⟨rfl,aa HZ⟩
    ·have HB:=ab ((aa HB).drew)
     have HA:=ab ((aa HA).below ((Below.refl _ _).drew))
     have HN:=ab ((aa HN).below ((Below.refl _ _).drew))
     have HC0:=ab (aw ((Below.refl _ _).drew) (ag (aa HC0)) (aa HC0))
     refine wp_region_held_drew (S:=fun w' => (w'.cell? ⟨w1.heap.size,0,none⟩ = some (.bool true) ∧ w'.cell? ⟨w1.heap.size,1,none⟩ = some (.int .i64 K) ∧ w'.cell? ⟨w1.heap.size,2,none⟩ = some (.int .i64 X) ∧ w'.cell? ⟨w1.heap.size,3,none⟩ = some (.int .u64 S)) ∧ w'.cell? ⟨b2,0,none⟩ = some (.slice a4 m4 c4)) (by kernel_rfl) ?_ (fun hHeld => ?_)
     ·(try dsimp only)
      exact ⟨aa HA,aa HC0⟩
     refine aC 16 (by kernel_rfl) ?_
     refine tkA 0 29 1 ?_
     refine tkA 1 30 3 ?_
     refine tkA 2 31 7 ?_
     refine tkA 3 32 15 ?_
     refine tkA 4 33 31 ?_
     refine tkA 5 34 63 ?_
     refine tkA 6 35 127 ?_
     refine tkA 7 36 255 ?_
     refine tkA 8 37 511 ?_
     refine tkA 9 38 1023 ?_
     refine rdA 10 2047 (fun Kk hKk => ?_)
     go_simp
     refine cg1 HL fun w5 hb => ?_
     have HB:=bt HB hb
     have HA:=ab ((aa HA).below hb)
     have HN:=ab ((aa HN).below hb)
     have HC0:=ab (aw hb (ag (aa HC0)) (aa HC0))
     clear hb
     (try go_wp2_with fail)
     refine oA hKk (⟨aa HA,aa HC0⟩) fun hHeld => ?_
     clear hKk Kk
     refine rdA 11 4095 (fun Kk hKk => ?_)
     go_simp
     refine (aE l _ (aa lr).1 (aa lr).2).mono ?_
     rintro _ w6 ⟨s6,rfl,hN,hb⟩
     obtain ⟨a6,m6,c6,rfl⟩:=hN.slice
     have HB:=bt HB hb
     have HA:=ab ((aa HA).below hb)
     have HN:=ab ((aa HN).below hb)
     have HC0:=ab (aw hb (ag (aa HC0)) (aa HC0))
     have H6:=ab hN
     clear hb hN
     (try go_wp2_with fail)
     refine oA hKk (⟨aa HA,aa HC0⟩) fun hHeld => ?_
     clear hKk Kk
     refine rdA 12 8191 (fun Kk hKk => ?_)
     go_simp
     refine (bc _ _ _ _ _ _ _ _ _ (aa HN) (aa H6)).mono ?_
     rintro _ w7 ⟨rfl,hb⟩
     have HB:=bt HB hb
     have HA:=ab ((aa HA).below hb)
     have HN:=ab ((aa HN).below hb)
     have HC0:=ab (aw hb (ag (aa HC0)) (aa HC0))
     clear hb H6
     (try go_wp2_with fail)
     refine oA hKk (⟨aa HA,aa HC0⟩) fun hHeld => ?_
     clear hKk Kk
     refine tkA 13 42 16383 ?_
     refine tkA 14 43 32767 ?_
     refine tkA 15 44 65535 ?_
     refine wpAnyH_done (by kernel_rfl) ?_ _
     clear hHeld
     rcases HQ with ⟨g,rfl,rfl⟩ | ⟨g,rfl,hm,HQ⟩
     ·go_wp2_with fail
      have HZ:=HB
      go_ret2
      exact ⟨rfl,aa HZ⟩
     ·obtain ⟨e0,e1,e2,e3⟩:=aa HA
      have e4:=aa HC0
      go_wp2_with fail
      clear e0 e1 e2 e3 e4
      have HB:=ab ((aa HB).drew)
      have HA:=ab ((aa HA).below ((Below.refl _ _).drew))
      have HN:=ab ((aa HN).below ((Below.refl _ _).drew))
      have HC0:=ab (aw ((Below.refl _ _).drew) (ag (aa HC0)) (aa HC0))
      refine wp_region_held_drew (S:=fun w' => (w'.cell? ⟨w1.heap.size,0,none⟩ = some (.bool true) ∧ w'.cell? ⟨w1.heap.size,1,none⟩ = some (.int .i64 K) ∧ w'.cell? ⟨w1.heap.size,2,none⟩ = some (.int .i64 X) ∧ w'.cell? ⟨w1.heap.size,3,none⟩ = some (.int .u64 S)) ∧ w'.cell? ⟨b2,0,none⟩ = some (.slice a4 m4 c4)) (by kernel_rfl) ?_ (fun hHeld => ?_)
      ·(try dsimp only)
       exact ⟨aa HA,aa HC0⟩
      refine aC 17 (by kernel_rfl) ?_
      refine tkA 0 45 1 ?_
      refine tkA 1 46 3 ?_
      refine tkA 2 47 7 ?_
      refine tkA 3 48 15 ?_
      refine tkU 4 49 31 ?_
      refine tkU 5 50 63 ?_
      refine tkU 6 51 127 ?_
      refine tkU 7 52 255 ?_
      refine tkU 8 53 511 ?_
      refine tkU 9 54 1023 ?_
      refine tkU 10 55 2047 ?_
      refine rdA 11 4095 (fun Kk hKk => ?_)
      go_simp
      refine oA hKk (hHeld) fun hHeld => ?_
      clear hKk Kk
      refine rdA 12 8191 (fun Kk hKk => ?_)
      go_simp
      refine oA hKk (hHeld) fun hHeld => ?_
      clear hKk Kk
      refine rdA 13 16383 (fun Kk hKk => ?_)
      go_simp
      refine oA hKk (hHeld) fun hHeld => ?_
      clear hKk Kk
      refine tkU 14 59 32767 ?_
      refine tkU 15 60 65535 ?_
      refine tkA 16 61 131071 ?_
      refine wpAnyH_done (by kernel_rfl) ?_ _
      clear hHeld
      obtain ⟨e0,e1,e2,e3⟩:=aa HA
      have e4:=aa HC0
      go_wp2_with fail
      clear e0 e1 e2 e3 e4
      refine (ek _ _ _ _ _ (aa HN)).mono ?_
      rintro _ w8 ⟨rfl,hb⟩
      have HB:=bt HB hb
      have HA:=ab ((aa HA).below hb)
      clear hb
      rw [hm]
      obtain ⟨e0,e1,e2,e3⟩:=aa HA
      rcases HQ with ⟨gm,h1,h2,HC⟩ | ⟨gm,HC⟩
      ·go_wp2_with fail
       clear e0 e1 e2 e3
       refine cg0 HC HB fun w9 HB => ?_
       go_wp2_with fail
       have HZ:=HB
       go_ret2
       exact ⟨rfl,aa HZ⟩
      ·go_wp2_with fail
       clear e0 e1 e2 e3
       refine cg0 HC HB fun w9 HB => ?_
       go_wp2_with fail
       have HZ:=HB
       go_ret2
       exact ⟨rfl,aa HZ⟩
   ·have HB:=HZ
    rcases HQ with ⟨k2,rfl,rfl⟩ | ⟨k2,HQ⟩
    ·have HB:=ab ((aa HB).drew)
     have HA:=ab ((aa HA).below ((Below.refl _ _).drew))
     have HN:=ab ((aa HN).below ((Below.refl _ _).drew))
     have HC0:=ab (aw ((Below.refl _ _).drew) (ag (aa HC0)) (aa HC0))
     refine wp_region_held_drew (S:=fun w' => (w'.cell? ⟨w1.heap.size,0,none⟩ = some (.bool false) ∧ w'.cell? ⟨w1.heap.size,1,none⟩ = some (.int .i64 K) ∧ w'.cell? ⟨w1.heap.size,2,none⟩ = some (.int .i64 X) ∧ w'.cell? ⟨w1.heap.size,3,none⟩ = some (.int .u64 S)) ∧ w'.cell? ⟨b2,0,none⟩ = some (.slice a4 m4 c4)) (by kernel_rfl) ?_ (fun hHeld => ?_)
     ·(try dsimp only)
      exact ⟨aa HA,aa HC0⟩
     refine aC 16 (by kernel_rfl) ?_
     refine tkA 0 29 1 ?_
     refine tkA 1 30 3 ?_
     refine tkA 2 31 7 ?_
     refine tkU 3 32 15 ?_
     refine tkU 4 33 31 ?_
     refine tkU 5 34 63 ?_
     refine tkU 6 35 127 ?_
     refine tkU 7 36 255 ?_
     refine tkU 8 37 511 ?_
     refine tkU 9 38 1023 ?_
     refine rdA 10 2047 (fun Kk hKk => ?_)
     go_simp
     refine oA hKk (hHeld) fun hHeld => ?_
     clear hKk Kk
     refine rdA 11 4095 (fun Kk hKk => ?_)
     go_simp
     refine oA hKk (hHeld) fun hHeld => ?_
     clear hKk Kk
     refine rdA 12 8191 (fun Kk hKk => ?_)
     go_simp
     refine oA hKk (hHeld) fun hHeld => ?_
     clear hKk Kk
     refine tkU 13 42 16383 ?_
     refine tkU 14 43 32767 ?_
     refine tkA 15 44 65535 ?_
     refine wpAnyH_done (by kernel_rfl) ?_ _
     clear hHeld
     obtain ⟨e0,e1,e2,e3⟩:=aa HA
     have e4:=aa HC0
     go_wp2_with fail
     clear e0 e1 e2 e3 e4
     have HB:=ab ((aa HB).drew)
     have HA:=ab ((aa HA).below ((Below.refl _ _).drew))
     have HN:=ab ((aa HN).below ((Below.refl _ _).drew))
     have HC0:=ab (aw ((Below.refl _ _).drew) (ag (aa HC0)) (aa HC0))
     refine wp_region_held_drew (S:=fun w' => (w'.cell? ⟨w1.heap.size,0,none⟩ = some (.bool false) ∧ w'.cell? ⟨w1.heap.size,1,none⟩ = some (.int .i64 K) ∧ w'.cell? ⟨w1.heap.size,2,none⟩ = some (.int .i64 X) ∧ w'.cell? ⟨w1.heap.size,3,none⟩ = some (.int .u64 S)) ∧ w'.cell? ⟨b2,0,none⟩ = some (.slice a4 m4 c4)) (by kernel_rfl) ?_ (fun hHeld => ?_)
     ·(try dsimp only)
      exact ⟨aa HA,aa HC0⟩
     refine aC 17 (by kernel_rfl) ?_
     refine tkA 0 45 1 ?_
     refine tkA 1 46 3 ?_
     refine tkA 2 47 7 ?_
     refine tkA 3 48 15 ?_
     refine tkA 4 49 31 ?_
     refine tkA 5 50 63 ?_
     refine tkA 6 51 127 ?_
     refine tkA 7 52 255 ?_
     refine tkU 8 53 511 ?_
     refine tkU 9 54 1023 ?_
     refine tkU 10 55 2047 ?_
     refine rdA 11 4095 (fun Kk hKk => ?_)
     go_simp
     refine oA hKk (hHeld) fun hHeld => ?_
     clear hKk Kk
     refine rdA 12 8191 (fun Kk hKk => ?_)
     go_simp
     refine oA hKk (hHeld) fun hHeld => ?_
     clear hKk Kk
     refine rdA 13 16383 (fun Kk hKk => ?_)
     go_simp
     refine oA hKk (hHeld) fun hHeld => ?_
     clear hKk Kk
     refine tkU 14 59 32767 ?_
     refine tkA 15 60 65535 ?_
     refine tkA 16 61 131071 ?_
     refine wpAnyH_done (by kernel_rfl) ?_ _
     clear hHeld
     go_wp2_with fail
     have HZ:=HB
     go_ret2
     exact ⟨rfl,aa HZ⟩
    ·have HB:=ab ((aa HB).drew)
     have HA:=ab ((aa HA).below ((Below.refl _ _).drew))
     have HN:=ab ((aa HN).below ((Below.refl _ _).drew))
     have HC0:=ab (aw ((Below.refl _ _).drew) (ag (aa HC0)) (aa HC0))
     refine wp_region_held_drew (S:=fun w' => (w'.cell? ⟨w1.heap.size,0,none⟩ = some (.bool false) ∧ w'.cell? ⟨w1.heap.size,1,none⟩ = some (.int .i64 K) ∧ w'.cell? ⟨w1.heap.size,2,none⟩ = some (.int .i64 X) ∧ w'.cell? ⟨w1.heap.size,3,none⟩ = some (.int .u64 S)) ∧ w'.cell? ⟨b2,0,none⟩ = some (.slice a4 m4 c4)) (by kernel_rfl) ?_ (fun hHeld => ?_)
     ·(try dsimp only)
      exact ⟨aa HA,aa HC0⟩
     refine aC 16 (by kernel_rfl) ?_
     refine tkA 0 29 1 ?_
     refine tkA 1 30 3 ?_
     refine tkA 2 31 7 ?_
     refine tkU 3 32 15 ?_
     refine tkU 4 33 31 ?_
     refine tkU 5 34 63 ?_
     refine tkU 6 35 127 ?_
     refine tkU 7 36 255 ?_
     refine tkU 8 37 511 ?_
     refine tkU 9 38 1023 ?_
     refine rdA 10 2047 (fun Kk hKk => ?_)
     go_simp
     refine oA hKk (hHeld) fun hHeld => ?_
     clear hKk Kk
     refine rdA 11 4095 (fun Kk hKk => ?_)
     go_simp
     refine oA hKk (hHeld) fun hHeld => ?_
     clear hKk Kk
     refine rdA 12 8191 (fun Kk hKk => ?_)
     go_simp
     refine oA hKk (hHeld) fun hHeld => ?_
     clear hKk Kk
     refine tkU 13 42 16383 ?_
     refine tkU 14 43 32767 ?_
     refine tkA 15 44 65535 ?_
     refine wpAnyH_done (by kernel_rfl) ?_ _
     clear hHeld
     obtain ⟨e0,e1,e2,e3⟩:=aa HA
     have e4:=aa HC0
     go_wp2_with fail
     clear e0 e1 e2 e3 e4
     have HB:=ab ((aa HB).drew)
     have HA:=ab ((aa HA).below ((Below.refl _ _).drew))
     have HN:=ab ((aa HN).below ((Below.refl _ _).drew))
     have HC0:=ab (aw ((Below.refl _ _).drew) (ag (aa HC0)) (aa HC0))
     refine wp_region_held_drew (S:=fun w' => (w'.cell? ⟨w1.heap.size,0,none⟩ = some (.bool false) ∧ w'.cell? ⟨w1.heap.size,1,none⟩ = some (.int .i64 K) ∧ w'.cell? ⟨w1.heap.size,2,none⟩ = some (.int .i64 X) ∧ w'.cell? ⟨w1.heap.size,3,none⟩ = some (.int .u64 S)) ∧ w'.cell? ⟨b2,0,none⟩ = some (.slice a4 m4 c4)) (by kernel_rfl) ?_ (fun hHeld => ?_)
     ·(try dsimp only)
      exact ⟨aa HA,aa HC0⟩
     refine aC 17 (by kernel_rfl) ?_
     refine tkA 0 45 1 ?_
     refine tkA 1 46 3 ?_
     refine tkA 2 47 7 ?_
     refine tkA 3 48 15 ?_
     refine tkA 4 49 31 ?_
     refine tkA 5 50 63 ?_
     refine tkA 6 51 127 ?_
     refine tkA 7 52 255 ?_
     refine tkA 8 53 511 ?_
     refine tkA 9 54 1023 ?_
     refine tkA 10 55 2047 ?_
     refine rdA 11 4095 (fun Kk hKk => ?_)
     go_simp
     refine cg1 HH fun w5 hb => ?_
     have HB:=bt HB hb
     have HA:=ab ((aa HA).below hb)
     have HN:=ab ((aa HN).below hb)
     have HC0:=ab (aw hb (ag (aa HC0)) (aa HC0))
     clear hb
     (try go_wp2_with fail)
     refine oA hKk (⟨aa HA,aa HC0⟩) fun hHeld => ?_
     clear hKk Kk
     refine rdA 12 8191 (fun Kk hKk => ?_)
     go_simp
     refine (aE h _ (aa hr).1 (aa hr).2).mono ?_
     rintro _ w6 ⟨s6,rfl,hN,hb⟩
     obtain ⟨a6,m6,c6,rfl⟩:=hN.slice
     have HB:=bt HB hb
     have HA:=ab ((aa HA).below hb)
     have HN:=ab ((aa HN).below hb)
     have HC0:=ab (aw hb (ag (aa HC0)) (aa HC0))
     have H6:=ab hN
     clear hb hN
     (try go_wp2_with fail)
     refine oA hKk (⟨aa HA,aa HC0⟩) fun hHeld => ?_
     clear hKk Kk
     refine rdA 13 16383 (fun Kk hKk => ?_)
     go_simp
     refine (bc _ _ _ _ _ _ _ _ _ (aa HN) (aa H6)).mono ?_
     rintro _ w7 ⟨rfl,hb⟩
     have HB:=bt HB hb
     have HA:=ab ((aa HA).below hb)
     have HN:=ab ((aa HN).below hb)
     have HC0:=ab (aw hb (ag (aa HC0)) (aa HC0))
     clear hb H6
     (try go_wp2_with fail)
     refine oA hKk (⟨aa HA,aa HC0⟩) fun hHeld => ?_
     clear hKk Kk
     refine tkA 14 59 32767 ?_
     refine tkA 15 60 65535 ?_
     refine tkA 16 61 131071 ?_
     refine wpAnyH_done (by kernel_rfl) ?_ _
     clear hHeld
     rcases HQ with ⟨g,rfl,rfl⟩ | ⟨g,rfl,hm,HC⟩
     ·go_wp2_with fail
      have HZ:=HB
      go_ret2
      exact ⟨rfl,aa HZ⟩
     ·obtain ⟨e0,e1,e2,e3⟩:=aa HA
      have e4:=aa HC0
      go_wp2_with fail
      clear e0 e1 e2 e3 e4
      refine (ek _ _ _ _ _ (aa HN)).mono ?_
      rintro _ w8 ⟨rfl,hb⟩
      have HB:=bt HB hb
      have HA:=ab ((aa HA).below hb)
      clear hb
      rw [hm]
      obtain ⟨e0,e1,e2,e3⟩:=aa HA
      go_wp2_with fail
      clear e0 e1 e2 e3
      refine cg0 HC HB fun w9 HB => ?_
      go_wp2_with fail
      have HZ:=HB
      go_ret2
      exact ⟨rfl,aa HZ⟩
end Go.Proofs.YtpbgpdmffejdgaaGreatDoor
