/- MWRefF, MWRefG, MWRefH, MWRefK, MWRefI, MWNew, MWRefJ, MQuot, MGrain, MCsR. -/
import Derived.Test.YtpbgpdmffejdgaaGreatDoorG01
import Derived.Test.YtpbgpdmffejdgaaGreatDoorG02
import Derived.Test.YtpbgpdmffejdgaaGreatDoorG16
import Derived.Test.YtpbgpdmffejdgaaGreatDoorG22
import Derived.Test.YtpbgpdmffejdgaaGreatDoorG23
import Derived.Laws.MakeOwn
import Derived.Laws.OwnMore
import Derived.Deep.RegionHeld3
namespace Go.Proofs.YtpbgpdmffejdgaaGreatDoor.W
set_option maxRecDepth 100000
set_option maxHeartbeats 2000000
open Go.RowKit
def o7 (x y : Nat) (D : List Nat) (br : Nat) : Prop:=cg D ∧ br ≤ 1 ∧ x % pw D.length + br * pw D.length = val D + y % pw D.length
theorem vu (x y : Nat) : o7 x y [] 0:=by
 refine ⟨?_,by omega,?_⟩
 ·intro d hd; simp at hd
 ·simp only [val,List.length_nil,mn,Nat.mod_one]
theorem ry {x y br : Nat} {D : List Nat} (h : o7 x y D br) : o7 x y (D ++ [(dgt x D.length + 4294967296 - dgt y D.length - br) % 4294967296]) (1 - (dgt x D.length + 4294967296 - dgt y D.length - br) / 4294967296):=by
 obtain ⟨h1,h2,h3⟩:=h
 have dx:=bS x D.length
 have dy:=bS y D.length
 refine ⟨fa h1 (Nat.mod_lt _ (by omega)),by omega,?_⟩
 rw [fI,List.length_append,List.length_singleton,eg x,eg y,b8]
 generalize dgt x D.length = p at *
 generalize dgt y D.length = q at *
 generalize pw D.length = P at *
 have hs : ∃ s,p + 4294967296 - q - br = s:=⟨_,rfl⟩
 obtain ⟨s,hs⟩:=hs
 rw [hs]
 have hs2 : s + q + br = p + 4294967296:=by omega
 have e:=Nat.div_add_mod s 4294967296
 have hu : s / 4294967296 ≤ 1:=by omega
 generalize hu' : s / 4294967296 = u at *
 generalize s % 4294967296 = v at *
 have e2 : v + 4294967296 * u + q + br = p + 4294967296:=by omega
 have e3 : P * v + P * (4294967296 * u) + P * q + P * br = P * p + P * 4294967296:=by
  rw [← Nat.mul_add,← Nat.mul_add,← Nat.mul_add,← Nat.mul_add,e2]
 rw [Nat.mul_comm P br] at e3
 rw [Nat.mul_comm p P,Nat.mul_comm q P]
 have hcase : u = 0 ∨ u = 1:=by omega
 rcases hcase with rfl | rfl
 ·simp at e3 ⊢
  omega
 ·simp at e3 ⊢
  omega
theorem vv {x y br : Nat} {D : List Nat} (h : o7 x y D br) (hx : x < pw D.length) (hy : y ≤ x) : val D = x - y:=by
 obtain ⟨h1,h2,h3⟩:=h
 have hv:=lw h1
 rw [Nat.mod_eq_of_lt hx,Nat.mod_eq_of_lt (by omega)] at h3
 have hb : br = 0 ∨ br = 1:=by omega
 rcases hb with rfl | rfl
 ·omega
 ·omega
theorem vw (p q r : Nat) (hp : p < 4294967296) (hq : q < 4294967296) (hr : r ≤ 1) :
 IntKind.u64.wrap (IntKind.u64.wrap (IntKind.u64.wrap ((p : Int) + 4294967296) - (q : Int)) - (r : Int)) = ((p + 4294967296 - q - r : Nat) : Int):=by
 rw [IntKind.wrap_u64,IntKind.wrap_u64,IntKind.wrap_u64]; omega
theorem ai.digit {w : World} {a : Option Addr} {n c x k : Nat} (h : ai w (.slice a n c) x) (hk : k < n) : ∃ g,a = some ⟨g,0,none⟩ ∧ w.cell? ⟨g,k,none⟩ = some (.int .u64 ((dgt x k : Nat) : Int)):=by
 obtain ⟨D,hH,hs,hC,rfl⟩:=h
 rcases hH with ⟨h1,h2⟩ | ⟨g,c',h1,h2,h3,h4,h5⟩
 ·injection h1 with e1 e2 e3; omega
 ·injection h1 with e1 e2 e3
  refine ⟨g,e1,?_⟩
  have:=h5 k (by omega)
  rw [lz D k hs] at this
  exact this
theorem ix (a b : Option Addr) (n c m d x y : Nat) (w : World) (hx : ai w (.slice a n c) x) (hy : ai w (.slice b m d) y) (hn : n ≤ 1000) (hle : y ≤ x) :
 Calls Tryz.prog 119 #[.agg #[.slice a n c],.agg #[.slice b m d]] w fun e w' => ∃ s',e = .returned (.agg #[s']) ∧ ai w' s' (x - y) ∧ Below w.heap.size w w':=by
 obtain ⟨lx,_⟩:=hx.len
 have HX:=ab hx; have HY:=ab hy
 have LX:=ab lx; have HLE:=ab hle
 clear hx hy lx hle
 go_enter Tryz.func119,Tryz.ntmps119
 go_wp2_with fail
 go_loopw [5,6,7] (fun v5 v6 v7 wr => ∃ (D : List Nat) (br : Nat),D.length ≤ n ∧ v6 = .int .u64 br ∧ v7 = .int .i64 D.length ∧ wr.ownsRow (w.heap.size + 3) 28 1 v5 D.length (gf D) ∧ o7 x y D br ∧
  Below (w.heap.size + 3) (((w.alloc (.cells #[.slice a n c] 41)).alloc (.cells #[.slice b m d] 41)).alloc (.cells #[.slice none 0 0] 41)) wr) (fun _ _ i _ => n - (intOf i).toNat)
 case atStart => exact ⟨[],0,by simp,rfl,rfl,World.ownsRow_nil _ _ _ _,vu x y,Below.refl _ _⟩
 case round =>
  obtain ⟨D,br,hD,rfl,rfl,hown,hA,hB⟩:=hrel
  have q0 : wr.cell? ⟨w.heap.size,0,none⟩ = some (.slice a n c):=by rw [hB.cell (by simp)]; simp [go_sem]
  have q1 : wr.cell? ⟨w.heap.size + 1,0,none⟩ = some (.slice b m d):=by rw [hB.cell (by simp)]; simp [go_sem]
  have hBw : Below w.heap.size w wr:=(ad (aq _ _ _) _).trans (hB.mono (by omega))
  have HXr:=ab ((aa HX).below hBw); have HYr:=ab ((aa HY).below hBw)
  have HO:=ab hown; have HA:=ab hA; have HB:=ab hB; have HBw:=ab hBw
  clear hown hA hB hBw
  by_cases hc : D.length < n
  ·have ES:=ab (vw (dgt x D.length) (dgt y D.length) br (bS _ _) (bS _ _) (aa HA).2.1)
   have HL1:=ab (show D.length + 1 ≤ maxLen by unfold maxLen; omega)
   have HL2:=ab (show (D.length + 1) * 8 ≤ 140737488355328 by omega)
   have HS:=ab (ry (aa HA))
   have HSM:=ab (show dgt x D.length + 4294967296 - dgt y D.length - br < 8589934592 by have:=bS x D.length; omega)
   obtain ⟨g,rfl,hcell⟩:=(aa HXr).digit hc
   have hci : (D.length : Int) < (n : Int):=by omega
   go_wp2_with fail
   go_quiet ((go_at_call 56; exact Calls.quiet_of_same (gg _ y D.length _ ((aa HYr).drewN _) (by omega))))
   have HO:=ab ((aa HO).below' nq); have HB:=ab (below_drewN (aa HB) nq); have HBw:=ab (below_drewN (aa HBw) nq)
   have HL3:=ab (show w.heap.size + 3 ≤ (wr.drewN nq).heap.size by have:=(aa HB).size; simp at this ⊢; omega)
   generalize wr.drewN nq = wq at *
   go_upto_region 7 with fail
   rw [aa ES]
   generalize dgt x D.length + 4294967296 - dgt y D.length - br = sm at *
   go_wp2_with (at_builtin; refine wpList_append_own _ rfl _ _ 39 rfl (w.heap.size + 3) 28 _ (.int .u64 0) 1 8 Tryz.underlying39 i22 rfl rfl rfl rfl (by decide) _ _ _ rfl ((aa HO).alloc _) ⟨wq.heap.size,0,none⟩ 1 1 [.int .u64 ((sm : Int) % 4294967296)] rfl rfl (cell_one_new _ _ _) (gt _) (aa HL1) (aa HL2) (bY (aa HL3) _) ?_; intro v' w1 hown' hgr _)
   have hr:=eH (aa HO) (aa HB) (aa HL3) hown' hgr
   have e2 : IntKind.u64.wrap (1 - IntKind.u64.wrap ((sm : Int) / 4294967296)) = ((1 - sm / 4294967296 : Nat) : Int):=by have:=aa HSM; rw [IntKind.wrap_u64,IntKind.wrap_u64]; omega
   exact ⟨⟨D ++ [sm % 4294967296],1 - sm / 4294967296,by simp; omega,by rw [e2],by simp,hr.1,aa HS,hr.2⟩,by simp [intOf]; omega⟩
  ·have hDn : D.length = n:=by omega
   have hval:=vv (aa HA) (by rw [hDn]; exact aa LX) (aa HLE)
   have hH:=fB (aa HO) (by omega)
   have z0 : wr.cell? ⟨w.heap.size + 1 + 1,0,none⟩ = some (.slice none 0 0):=by rw [(aa HB).cell (by simp)]; simp [go_sem]
   have z1 : wr.frozen? ⟨w.heap.size + 1 + 1,0,none⟩ = false:=by rw [(aa HB).frozen (by simp)]; simp [go_sem]
   have hz : w.heap.size + 1 + 1 < wr.heap.size:=by have:=(aa HB).size; simp at this; omega
   have HH:=ab hH; have HV:=ab hval
   clear hH hval hDn
   go_wp2_with fail
   refine (gu _ D _ (aa HH) (aa HA).1).mono ?_
   rintro e w1 ⟨s',rfl,hN,hb⟩
   obtain ⟨a',n',c',rfl⟩:=hN.slice
   have hc0 : w1.cell? ⟨w.heap.size + 1 + 1,0,none⟩ = some (.slice none 0 0):=by rw [hb.cell (by simpa using hz)]; exact z0
   have hf0 : w1.frozen? ⟨w.heap.size + 1 + 1,0,none⟩ = false:=by rw [hb.frozen (by simpa using hz)]; exact z1
   rw [aa HV] at hN
   have HN:=ab hN
   clear hN
   go_wp2
   refine bodyPost_ret (v:=.agg #[.slice a' n' c']) (by simp [results,Tryz.results119,go_sem,hc0]) rfl ⟨_,rfl,(aa HN).store hc0 _,?_⟩
   exact (ac (aa HBw) hb).setCell (by simp; omega) _
def o6 (x e u i : Nat) (D : List Nat) (cy : Nat) : Prop:=cg D ∧ cy < u ∧ D.length = e + i ∧ val D + cy * pw D.length = x % pw i * u * pw e
theorem agh {x e u : Nat} {D : List Nat} (hs : cg D) (hl : D.length = e) (hv : val D = 0) (hu : 0 < u) : o6 x e u 0 D 0:=by
 refine ⟨hs,hu,by omega,?_⟩
 rw [hv,mn,Nat.mod_one,Nat.zero_mul,Nat.zero_mul,Nat.zero_mul]
theorem ru {x e u i cy : Nat} {D : List Nat} (h : o6 x e u i D cy) : o6 x e u (i + 1) (D ++ [(dgt x i * u + cy) % 4294967296]) ((dgt x i * u + cy) / 4294967296):=by
 obtain ⟨h1,h2,h3,h4⟩:=h
 have dx:=bS x i
 have hlt : dgt x i * u + cy < 4294967296 * u:=by
  have:=Nat.mul_le_mul_right u (show dgt x i ≤ 4294967295 by omega)
  omega
 refine ⟨fa h1 (Nat.mod_lt _ (by omega)),Nat.div_lt_of_lt_mul hlt,by simp; omega,?_⟩
 rw [fI,List.length_append,List.length_singleton,eg x,b8]
 have he:=Nat.div_add_mod (dgt x i * u + cy) 4294967296
 generalize (dgt x i * u + cy) / 4294967296 = q at *
 generalize (dgt x i * u + cy) % 4294967296 = r at *
 have e2 : pw D.length * r + q * (pw D.length * 4294967296) = (dgt x i * u + cy) * pw D.length:=by
  rw [← he,Nat.add_mul,Nat.mul_comm r,Nat.mul_comm (pw D.length) 4294967296,← Nat.mul_assoc,Nat.mul_comm q 4294967296]
  omega
 rw [Nat.add_assoc,e2,Nat.add_mul,Nat.add_mul,Nat.add_mul]
 rw [show dgt x i * pw i * u * pw e = dgt x i * u * pw D.length by rw [h3,zF]; rw [Nat.mul_right_comm (dgt x i) (pw i) u,Nat.mul_assoc (dgt x i * u),Nat.mul_comm (pw i)]]
 omega
theorem vr {x e u n cy : Nat} {D : List Nat} (h : o6 x e u n D cy) (hx : x < pw n) (hu : u ≤ 4294967296) : cg (D ++ [cy]) ∧ val (D ++ [cy]) = x * u * pw e:=by
 obtain ⟨h1,h2,h3,h4⟩:=h
 refine ⟨fa h1 (by omega),?_⟩
 rw [Nat.mod_eq_of_lt hx] at h4
 rw [fI,Nat.mul_comm (pw D.length)]
 exact h4
theorem agi (x k : Nat) : x * 2 ^ (k % 32) * pw (k / 32) = x * 2 ^ k:=by
 rw [fS,Nat.mul_assoc,← Nat.pow_add]
 congr 2
 omega
theorem rv {D : List Nat} (h : cg D) : cg (D ++ [0]):=fa h (by omega)
theorem vt (j : Nat) (h : j < 32) : IntKind.u64.wrap (2 * ((2 ^ j : Nat) : Int)) = ((2 ^ (j + 1) : Nat) : Int):=by
 have h1:=Nat.pow_le_pow_right (show 0 < 2 by omega) (show j ≤ 31 by omega)
 rw [Nat.pow_succ,IntKind.wrap_u64]
 have h2 : (2 : Nat) ^ 31 = 2147483648:=rfl
 omega
theorem zL (p u r : Nat) (hp : p < 4294967296) (hu : u ≤ 2147483648) (hr : r < u) : IntKind.u64.wrap (IntKind.u64.wrap ((p : Int) * (u : Int)) + (r : Int)) = ((p * u + r : Nat) : Int):=by
 have h:=Nat.mul_le_mul (show p ≤ 4294967295 by omega) hu
 rw [← Int.natCast_mul,IntKind.wrap_u64,IntKind.wrap_u64]
 generalize p * u = z at *
 omega
theorem kK (k : Nat) : 2 ^ (k % 32) ≤ 2147483648:=by
 have h1:=Nat.pow_le_pow_right (show 0 < 2 by omega) (show k % 32 ≤ 31 by omega)
 exact h1
theorem rx {wq w1 W0 : World} {B : Nat} {v v' : Value} {D : List Nat} {d : Nat} {o : Obj} (hO : wq.ownsRow B 28 1 v D.length (gf D)) (hB : Below B W0 wq) (hL : B ≤ wq.heap.size)
 (hown : w1.ownsRow B 28 1 v' (D.length + 1) (gf D ++ [.int .u64 (d : Int)])) (hgr : (wq.alloc o).grownBy w1 v.ownBlock) :
 w1.ownsRow B 28 1 v' (D ++ [d]).length (gf (D ++ [d])) ∧ Below B W0 w1:=by
 constructor
 ·rw [← mF,List.length_append,List.length_singleton]
  exact hown
 ·exact (hB.alloc hL o).grown hgr (bY hL o) (fun k hk => (hO.lt k hk).1)
theorem cB (a : Option Addr) (n c x k : Nat) (w : World) (hx : ai w (.slice a n c) x) (hn : n ≤ 1000) (hk : k ≤ 10000) :
 Calls Tryz.prog 59 #[.agg #[.slice a n c],.int .i64 (k : Int)] w fun e w' => ∃ s',e = .returned (.agg #[s']) ∧ ai w' s' (x * 2 ^ k) ∧ Below w.heap.size w w':=by
 obtain ⟨lx,_⟩:=hx.len
 have HX:=ab hx; have LX:=ab lx
 clear hx lx
 go_enter Tryz.func59,Tryz.ntmps59
 go_wp2_with fail
 go_loopw [5,6] (fun v5 v6 wr => ∃ D : List Nat,D.length ≤ k / 32 ∧ v6 = .int .i64 D.length ∧ wr.ownsRow (w.heap.size + 2) 28 1 v5 D.length (gf D) ∧ cg D ∧ val D = 0 ∧
  Below (w.heap.size + 2) ((w.alloc (.cells #[.slice a n c] 41)).alloc (.cells #[.slice none 0 0] 41)) wr) (fun _ i _ => k / 32 - (intOf i).toNat)
 case atStart => exact ⟨[],by simp,rfl,World.ownsRow_nil _ _ _ _,(fun d hd => by simp at hd),rfl,Below.refl _ _⟩
 case round =>
  obtain ⟨D,hD,rfl,hown,hS,hV,hB⟩:=hrel
  have HO:=ab hown; have HS:=ab hS; have HV:=ab hV; have HB:=ab hB
  have HL1:=ab (show D.length + 1 ≤ maxLen by unfold maxLen; omega)
  have HL2:=ab (show (D.length + 1) * 8 ≤ 140737488355328 by omega)
  have HL3:=ab (show w.heap.size + 2 ≤ wr.heap.size by have:=(aa HB).size; simp at this ⊢; omega)
  clear hown hS hV hB
  by_cases hc : D.length < k / 32
  ·go_wp2_with (at_builtin; refine wpList_append_own _ rfl _ _ 39 rfl (w.heap.size + 2) 28 _ (.int .u64 0) 1 8 Tryz.underlying39 i22 rfl rfl rfl rfl (by decide) _ _ _ rfl ((aa HO).alloc _) ⟨wr.heap.size,0,none⟩ 1 1 [.int .u64 0] rfl rfl (cell_one_new _ _ _) (gt _) (aa HL1) (aa HL2) (bY (aa HL3) _) ?_; intro v' w1 hown' hgr _)
   have hr:=eH (sm:=0) (aa HO) (aa HB) (aa HL3) hown' hgr
   exact ⟨⟨D ++ [0],by simp; omega,by simp,hr.1,rv (aa HS),by rw [fI,aa HV]; simp,hr.2⟩,by simp [intOf]; omega⟩
  ·have hDk : D.length = k / 32:=by omega
   have HDk:=ab hDk
   clear hDk
   go_wp2_with fail
   go_loop [7,8] (fun v7 v8 => ∃ j : Nat,j ≤ k % 32 ∧ v8 = .int .i64 j ∧ v7 = .int .u64 ((2 ^ j : Nat) : Int)) (fun _ i => k % 32 - (intOf i).toNat)
   case atStart => exact ⟨0,by omega,rfl,rfl⟩
   case round =>
    obtain ⟨j,hj,rfl,rfl⟩:=hrel
    by_cases hc2 : j < k % 32
    ·have HU:=ab (vt j (by omega))
     generalize 2 ^ j = uj at *
     go_wp2_with fail
     rw [aa HU]
     exact ⟨⟨j + 1,by omega,by go_num,rfl⟩,by simp [intOf]; omega⟩
    ·have hjk : j = k % 32:=by omega
     have HU:=ab (kK k)
     have HUp:=ab (Nat.two_pow_pos (k % 32))
     have HR:=ab (agi x k)
     rw [hjk]
     clear hjk hc2 hj
     generalize 2 ^ (k % 32) = u at *
     go_wp2_with fail
     go_loopw [5,9,10] (fun v5 v9 v10 wr => ∃ (E : List Nat) (cy i : Nat),i ≤ n ∧ v9 = .int .u64 cy ∧ v10 = .int .i64 i ∧ wr.ownsRow (w.heap.size + 2) 28 1 v5 E.length (gf E) ∧ o6 x (k / 32) u i E cy ∧
      Below (w.heap.size + 2) ((w.alloc (.cells #[.slice a n c] 41)).alloc (.cells #[.slice none 0 0] 41)) wr) (fun _ _ i _ => n - (intOf i).toNat)
     case atStart => exact ⟨D,0,0,by omega,rfl,rfl,aa HO,agh (aa HS) (aa HDk) (aa HV) (aa HUp),aa HB⟩
     case round =>
      clear HO HS HV HB HL1 HL2 HL3
      obtain ⟨E,cy,i,hi,rfl,rfl,hown,hA,hB⟩:=hrel
      have q0 : wr.cell? ⟨w.heap.size,0,none⟩ = some (.slice a n c):=by rw [hB.cell (by simp)]; simp [go_sem]
      have hBw : Below w.heap.size w wr:=(aq _ _ _).trans (hB.mono (by omega))
      have HXr:=ab ((aa HX).below hBw)
      have hE : E.length ≤ 2000:=by have:=hA.2.2.1; omega
      have HO:=ab hown; have HA:=ab hA; have HB:=ab hB; have HBw:=ab hBw
      have HL1:=ab (show E.length + 1 ≤ maxLen by unfold maxLen; omega)
      have HL2:=ab (show (E.length + 1) * 8 ≤ 140737488355328 by omega)
      have HL3:=ab (show w.heap.size + 2 ≤ wr.heap.size by have:=(aa HB).size; simp at this ⊢; omega)
      clear hown hA hB hBw
      by_cases hc3 : i < n
      ·have ES:=ab (zL (dgt x i) u cy (bS _ _) (aa HU) (aa HA).2.1)
       have HS:=ab (ru (aa HA))
       have HSM:=ab (show dgt x i * u + cy < 18446744073709551616 by
        have h1:=Nat.mul_le_mul (show dgt x i ≤ 4294967295 by have:=bS x i; omega) (aa HU)
        have h2:=(aa HA).2.1
        have h3:=aa HU
        omega)
       obtain ⟨g,rfl,hcell⟩:=(aa HXr).digit hc3
       have hci : (i : Int) < (n : Int):=by omega
       go_upto_region 16 with fail
       rw [aa ES]
       generalize dgt x i * u + cy = sm at *
       go_wp2_with (at_builtin; refine wpList_append_own _ rfl _ _ 39 rfl (w.heap.size + 2) 28 _ (.int .u64 0) 1 8 Tryz.underlying39 i22 rfl rfl rfl rfl (by decide) _ _ _ rfl ((aa HO).alloc _) ⟨wr.heap.size,0,none⟩ 1 1 [.int .u64 ((sm : Int) % 4294967296)] rfl rfl (cell_one_new _ _ _) (gt _) (aa HL1) (aa HL2) (bY (aa HL3) _) ?_; intro v' w1 hown' hgr _)
       have hr:=eH (aa HO) (aa HB) (aa HL3) hown' hgr
       have e2 : IntKind.u64.wrap ((sm : Int) / 4294967296) = ((sm / 4294967296 : Nat) : Int):=by have:=aa HSM; rw [IntKind.wrap_u64]; omega
       exact ⟨⟨E ++ [sm % 4294967296],sm / 4294967296,i + 1,by omega,by rw [e2],by go_num,hr.1,aa HS,hr.2⟩,by simp [intOf]; omega⟩
      ·have hin : i = n:=by omega
       have hend:=vr (n:=n) (by rw [← hin]; exact aa HA) (aa LX) (by have:=aa HU; omega)
       rw [aa HR] at hend
       have z0 : wr.cell? ⟨w.heap.size + 1,0,none⟩ = some (.slice none 0 0):=by rw [(aa HB).cell (by simp)]; simp [go_sem]
       have z1 : wr.frozen? ⟨w.heap.size + 1,0,none⟩ = false:=by rw [(aa HB).frozen (by simp)]; simp [go_sem]
       have hz : w.heap.size + 1 < wr.heap.size:=by have:=(aa HB).size; simp at this; omega
       have HE:=ab hend
       clear hend hin
       go_wp2_with (at_builtin; refine wpList_append_own _ rfl _ _ 39 rfl (w.heap.size + 2) 28 _ (.int .u64 0) 1 8 Tryz.underlying39 i22 rfl rfl rfl rfl (by decide) _ _ _ rfl ((aa HO).alloc _) ⟨wr.heap.size,0,none⟩ 1 1 [.int .u64 (cy : Int)] rfl rfl (cell_one_new _ _ _) (gt _) (aa HL1) (aa HL2) (bY (aa HL3) _) ?_; intro v' w1 hown' hgr _)
       have hr:=rx (aa HO) (aa HB) (aa HL3) hown' hgr
       have c0 : w1.cell? ⟨w.heap.size + 1,0,none⟩ = some (.slice none 0 0):=by rw [hr.2.cell (by simp)]; simp [go_sem]
       have c1 : w1.frozen? ⟨w.heap.size + 1,0,none⟩ = false:=by rw [hr.2.frozen (by simp)]; simp [go_sem]
       have hz1 : w.heap.size + 1 < w1.heap.size:=by have:=hr.2.size; simp at this; omega
       have hBw1 : Below w.heap.size w w1:=(aq _ _ _).trans (hr.2.mono (by omega))
       refine (gu _ (E ++ [cy]) _ (fB hr.1 (by simp; omega)) (aa HE).1).mono ?_
       rintro e w2 ⟨s',rfl,hN,hb⟩
       obtain ⟨a',n',c',rfl⟩:=hN.slice
       have hc0 : w2.cell? ⟨w.heap.size + 1,0,none⟩ = some (.slice none 0 0):=by rw [hb.cell (by simpa using hz1)]; exact c0
       have hf0 : w2.frozen? ⟨w.heap.size + 1,0,none⟩ = false:=by rw [hb.frozen (by simpa using hz1)]; exact c1
       rw [(aa HE).2] at hN
       have HN:=ab hN
       have HB2:=ab (ac hBw1 hb)
       clear hN hr hBw1 hown' hgr
       go_wp2
       refine bodyPost_ret (v:=.agg #[.slice a' n' c']) (by simp [results,Tryz.results59,go_sem,hc0]) rfl ⟨_,rfl,(aa HN).store hc0 _,?_⟩
       exact (aa HB2).setCell (by simp) _
theorem ai.short {w : World} {a : Option Addr} {n c x k : Nat} (h : ai w (.slice a n c) x) (hx : x < pw k) : n ≤ k:=by
 obtain ⟨D,hH,hs,hC,rfl⟩:=h
 have:=vm hC hx
 rcases hH with ⟨h1,h2⟩ | ⟨g,c',h1,h2,h3,h4,h5⟩
 ·injection h1 with e1 e2 e3; omega
 ·injection h1 with e1 e2 e3; omega
theorem ck {x k : Nat} (j : Nat) (h : x < pw k) (hk : k ≤ j) : x < pw j:=Nat.lt_of_lt_of_le h (fZ hk)
theorem agf (a : Option Addr) (n c x : Nat) (w : World) (hx : ai w (.slice a n c) x) (hn : n ≤ 1000) :
 Calls Tryz.prog 59 #[.agg #[.slice a n c],.int .i64 64] w fun e w' => ∃ s',e = .returned (.agg #[s']) ∧ ai w' s' (x * 2 ^ 64) ∧ Below w.heap.size w w':=cB a n c x 64 w hx hn (by omega)
structure Buf (g L : Nat) (D : List Nat) (w : World) : Prop where
 len : D.length = L
 size : g < w.heap.size
 cell : ∀ j,j < L → w.cell? ⟨g,j,none⟩ = some (.int .u64 ((dg D j : Nat) : Int))
 thawed : ∀ j,w.frozen? ⟨g,j,none⟩ = false
theorem Buf.store {g L j e : Nat} {D : List Nat} {w : World} (h : Buf g L D w) (hj : j < L) : Buf g L (D.set j e) (w.setCell ⟨g,j,none⟩ (.int .u64 ((e : Nat) : Int))):=by
 have hl:=h.len
 refine ⟨by simpa using h.len,by simpa using h.size,fun i hi => ?_,fun i => by rw [World.frozen?_setCell]; exact h.thawed i⟩
 rw [al4 (by omega)]
 by_cases hji : j = i
 ·subst hji
  rw [if_pos rfl]
  exact World.cell?_setCell_same _ _ _ (h.cell j hj)
 ·rw [if_neg hji,World.cell?_setCell_other _ _ _ _ (by intro he; injection he with he1 he2; exact hji he2)]
  exact h.cell i hi
theorem Buf.holds {g L : Nat} {D : List Nat} {w : World} (h : Buf g L D w) (hL : L ≤ 1000000) : jT w (.slice (some ⟨g,0,none⟩) L L) D:=by
 obtain ⟨rfl,h2,h3,_⟩:=h
 exact Or.inr ⟨g,_,rfl,h2,Nat.le_refl _,hL,h3⟩
theorem rt (L i : Nat) (h : i < L) : (madeCells #[.int .u64 0] L)[i]? = some (.int .u64 0):=by
 have:=toList_madeCells_one (.int .u64 0) L
 rw [← Array.getElem?_toList,this]
 simp [h]
theorem Buf.made (w : World) (L : Nat) : Buf w.heap.size L (List.replicate L 0) (w.alloc (.cells (madeCells #[.int .u64 0] L) 28)):=by
 refine ⟨by simp,by simp,fun j hj => ?_,fun j => by simp [go_sem]⟩
 rw [World.cell?_alloc_new,rt L j hj]
 simp [dg,hj]
theorem age : ((Tryz.prog.info? 28).getD default).bytes = 8:=by kernel_rfl
theorem al3 : ((Tryz.prog.info? 28).getD default).size = 1:=by kernel_rfl
theorem zK (L : Nat) (hL : L ≤ 3000) (w : World) : (Instr.makeSlice 39 (.int .i64 (L : Int)) (.int .i64 (L : Int))).run Tryz.prog w = .ok (.slice (some ⟨w.heap.size,0,none⟩) L L) (w.alloc (.cells (madeCells #[.int .u64 0] L) 28)):=by
 have h:=run_make (P:=Tryz.prog) w 39 28 _ (.int .u64 0) Tryz.underlying39 i22 rfl .i64 .i64 (L : Int) (L : Int) (by omega) (Int.le_refl _) (by rw [age]; omega) (by omega)
 rw [al3,Nat.mul_one] at h
 exact h
theorem Buf.storeMod {g L j e : Nat} {D : List Nat} {w : World} (h : Buf g L D w) (hj : j < L) : Buf g L (D.set j (e % 4294967296)) (w.setCell ⟨g,j,none⟩ (.int .u64 ((e : Int) % 4294967296))):=h.store (e:=e % 4294967296) hj
theorem Buf.drewN {g L : Nat} {D : List Nat} {w : World} (h : Buf g L D w) (k : Nat) : Buf g L D (w.drewN k):=by
 have hb : Below w.heap.size w (w.drewN k):=below_drewN (Below.refl _ _) k
 exact ⟨h.len,Nat.lt_of_lt_of_le h.size hb.size,fun j hj => by rw [hb.cell (p:=⟨g,j,none⟩) h.size]; exact h.cell j hj,fun j => by rw [hb.frozen (p:=⟨g,j,none⟩) h.size]; exact h.thawed j⟩
theorem fc (a b : Option Addr) (n c m d x y : Nat) (w : World) (hx : ai w (.slice a n c) x) (hy : ai w (.slice b m d) y) (hn : n ≤ 1000) (hm : m ≤ 1000) :
 Calls Tryz.prog 20 #[.agg #[.slice a n c],.agg #[.slice b m d]] w fun e w' => ∃ s',e = .returned (.agg #[s']) ∧ ai w' s' (x * y) ∧ Below w.heap.size w w':=by
 have LX:=ab hx.len.1; have LY:=ab hy.len.1
 have HX:=ab hx; have HY:=ab hy
 clear hx hy
 obtain ⟨L,hL⟩ : ∃ L,L = n + m + 1:=⟨_,rfl⟩
 have hmk:=zK L (by omega)
 rw [show ((L : Nat) : Int) = (n : Int) + (m : Int) + 1 by omega] at hmk
 have HL:=ab hL
 clear hL
 go_enter Tryz.func20,Tryz.ntmps20
 go_wp2_with fail
 clear hmk
 go_loopw [6] (fun v6 wr => ∃ (i : Nat) (D : List Nat),i ≤ n ∧ v6 = .int .i64 i ∧ cg D ∧ val D = x % pw i * y ∧ Buf (w.heap.size + 1 + 1 + 1) L D wr ∧
  Below (w.heap.size + 3) (((w.alloc (.cells #[.slice a n c] 41)).alloc (.cells #[.slice b m d] 41)).alloc (.cells #[.slice none 0 0] 41)) wr) (fun i _ => n - (intOf i).toNat)
 case atStart =>
  have hB:=Buf.made (((w.alloc (.cells #[.slice a n c] 41)).alloc (.cells #[.slice b m d] 41)).alloc (.cells #[.slice none 0 0] 41)) L
  simp only [World.size_alloc] at hB
  refine ⟨0,List.replicate L 0,by omega,rfl,fun d hd => ?_,by rw [vl,mn,Nat.mod_one,Nat.zero_mul],hB,(Below.refl _ _).alloc (by simp) _⟩
  rw [List.eq_of_mem_replicate hd]; omega
 case round =>
  obtain ⟨i,D,hi,rfl,hS,hV,hbuf,hB⟩:=hrel
  have q0 : wr.cell? ⟨w.heap.size,0,none⟩ = some (.slice a n c):=by rw [hB.cell (by simp)]; simp [go_sem]
  have q1 : wr.cell? ⟨w.heap.size + 1,0,none⟩ = some (.slice b m d):=by rw [hB.cell (by simp)]; simp [go_sem]
  by_cases hc : i < n
  ·have HM:=ab (o8 hS hV)
   have HBuf:=ab hbuf; have HB:=ab hB
   have hci : (i : Int) < (n : Int):=by omega
   clear hS hV hbuf hB
   go_wp2_with fail
   go_loopw [7,8] (fun v7 v8 wr => ∃ (k cy : Nat) (D : List Nat),k ≤ m + 1 ∧ v7 = .int .u64 cy ∧ v8 = .int .i64 k ∧ mO x y i k cy D ∧ Buf (w.heap.size + 1 + 1 + 1) L D wr ∧
    Below (w.heap.size + 3) (((w.alloc (.cells #[.slice a n c] 41)).alloc (.cells #[.slice b m d] 41)).alloc (.cells #[.slice none 0 0] 41)) wr) (fun _ k _ => m + 2 - (intOf k).toNat)
   case atStart => exact ⟨0,0,D,by omega,rfl,rfl,aa HM,aa HBuf,aa HB⟩
   case round =>
    clear HM HBuf HB q0 q1 D
    obtain ⟨k,cy,D,hk,rfl,rfl,hM,hbuf,hB⟩:=hrel
    have q0 : wr.cell? ⟨w.heap.size,0,none⟩ = some (.slice a n c):=by rw [hB.cell (by simp)]; simp [go_sem]
    have q1 : wr.cell? ⟨w.heap.size + 1,0,none⟩ = some (.slice b m d):=by rw [hB.cell (by simp)]; simp [go_sem]
    have hBw : Below w.heap.size w wr:=(ad (aq _ _ _) _).trans (hB.mono (by omega))
    have HXr:=ab ((aa HX).below hBw); have HYr:=ab ((aa HY).below hBw)
    have HM:=ab hM; have HBuf:=ab hbuf; have HB:=ab hB
    clear hM hbuf hB hBw
    by_cases hgo : k < m ∨ 0 < cy
    ·have hkm : k ≤ m:=by
      rcases hgo with h | h
      ·omega
      ·exact zP (aa HM) h (aa LY)
     have hik : i + k < L:=by have:=aa HL; omega
     have hdc:=(aa HBuf).cell (i + k) hik
     have ES:=ab (vz (dg D (i + k)) (dgt x i) (dgt y k) cy (zM (aa HM).1 _) (bS _ _) (bS _ _) (aa HM).2.1)
     have HSM:=ab (lD (zM (aa HM).1 (i + k)) (bS x i) (bS y k) (aa HM).2.1)
     have HS:=ab (rz (aa HM) (by rw [(aa HBuf).len]; exact hik))
     obtain ⟨g,rfl,hcell⟩:=(aa HXr).digit hc
     have hii : (0 : Int) ≤ (i : Int) + (k : Int):=by omega
     have hij : (i : Int) + (k : Int) < (L : Int):=by omega
     have hgo' : k < m ∨ (¬ k < m ∧ 0 < cy):=by omega
     clear hgo
     rcases hgo' with hgo | ⟨hgo,hgo2⟩
     all_goals
      go_wp2_with fail
      go_quiet ((go_at_call 56; exact Calls.quiet_of_same (gg _ y k _ ((aa HYr).drewN _) (by omega))))
      have HBuf:=ab ((aa HBuf).drewN nq); have HB:=ab (below_drewN (aa HB) nq)
      generalize wr.drewN nq = wq at *
      clear q0 q1 hcell hdc
      have hdc:=(aa HBuf).cell (i + k) hik
      have hdf:=(aa HBuf).thawed (i + k)
      go_upto_region 10 with fail
      rw [aa ES]
      generalize dg D (i + k) + dgt x i * dgt y k + cy = sm at *
      go_wp2_with fail
      have e2 : IntKind.u64.wrap ((sm : Int) / 4294967296) = ((sm / 4294967296 : Nat) : Int):=by have:=aa HSM; rw [IntKind.wrap_u64]; omega
      exact ⟨⟨k + 1,sm / 4294967296,D.set (i + k) (sm % 4294967296),by omega,by rw [e2],by go_num,aa HS,(aa HBuf).storeMod hik,(aa HB).setCell (by simp) _⟩,by simp [intOf]; omega⟩
    ·have hk1 : ¬ k < m:=by omega
     have hcy : cy = 0:=by omega
     subst hcy
     have HV:=ab (vy (aa HM) (show m ≤ k by omega) (aa LY))
     clear hgo
     go_wp2_with fail
     exact ⟨⟨i + 1,D,by omega,by go_num,(aa HM).1,aa HV,aa HBuf,aa HB⟩,by simp [intOf]; omega⟩
  ·have hin : i = n:=by omega
   have HV : Hid (val D = x * y):=by unfold Hid; rw [hV,hin,Nat.mod_eq_of_lt (aa LX)]
   have z0 : wr.cell? ⟨w.heap.size + 1 + 1,0,none⟩ = some (.slice none 0 0):=by rw [hB.cell (by simp)]; simp [go_sem]
   have z1 : wr.frozen? ⟨w.heap.size + 1 + 1,0,none⟩ = false:=by rw [hB.frozen (by simp)]; simp [go_sem]
   have hz : w.heap.size + 1 + 1 < wr.heap.size:=by have:=hB.size; simp at this; omega
   have hBw : Below w.heap.size w wr:=(ad (aq _ _ _) _).trans (hB.mono (by omega))
   have HH:=ab (hbuf.holds (by have:=aa HL; omega)); have HSm:=ab hS; have HBw:=ab hBw
   clear hV hbuf hB hBw hS hin
   go_wp2_with fail
   refine (gu _ D _ (aa HH) (aa HSm)).mono ?_
   rintro e w1 ⟨s',rfl,hN,hb⟩
   obtain ⟨a',n',c',rfl⟩:=hN.slice
   have hc0 : w1.cell? ⟨w.heap.size + 1 + 1,0,none⟩ = some (.slice none 0 0):=by rw [hb.cell (by simpa using hz)]; exact z0
   have hf0 : w1.frozen? ⟨w.heap.size + 1 + 1,0,none⟩ = false:=by rw [hb.frozen (by simpa using hz)]; exact z1
   rw [aa HV] at hN
   have HN:=ab hN
   clear hN
   go_wp2
   refine bodyPost_ret (v:=.agg #[.slice a' n' c']) (by simp [results,Tryz.results20,go_sem,hc0]) rfl ⟨_,rfl,(aa HN).store hc0 _,?_⟩
   exact (ac (aa HBw) hb).setCell (by simp; omega) _
structure gw (N : Nat) (w wr : World) (b Qs Rs : Value) (y Q R : Nat) : Prop where
 cb : wr.cell? ⟨N + 1,0,none⟩ = some b
 c2 : wr.cell? ⟨N + 1 + 1,0,none⟩ = some (.slice none 0 0)
 c3 : wr.cell? ⟨N + 1 + 1 + 1,0,none⟩ = some (.slice none 0 0)
 cq : wr.cell? ⟨N + 1 + 1 + 1 + 1,0,none⟩ = some Qs
 cr : wr.cell? ⟨N + 1 + 1 + 1 + 1 + 1,0,none⟩ = some Rs
 f2 : wr.frozen? ⟨N + 1 + 1,0,none⟩ = false
 f3 : wr.frozen? ⟨N + 1 + 1 + 1,0,none⟩ = false
 fq : wr.frozen? ⟨N + 1 + 1 + 1 + 1,0,none⟩ = false
 fr : wr.frozen? ⟨N + 1 + 1 + 1 + 1 + 1,0,none⟩ = false
 sz : N + 1 + 1 + 1 + 1 + 1 < wr.heap.size
 nb : ai wr b y
 nq : ai wr Qs Q
 nr : ai wr Rs R
 bel : Below N w wr
theorem gw.below {N : Nat} {w wr w' : World} {b Qs Rs : Value} {y Q R : Nat} (h : gw N w wr b Qs Rs y Q R) (hb : Below wr.heap.size wr w') : gw N w w' b Qs Rs y Q R:=by
 have hz:=h.sz
 have k : ∀ j,j < wr.heap.size → w'.cell? ⟨j,0,none⟩ = wr.cell? ⟨j,0,none⟩:=fun j hj => hb.cell (p:=⟨j,0,none⟩) hj
 have l : ∀ j,j < wr.heap.size → w'.frozen? ⟨j,0,none⟩ = wr.frozen? ⟨j,0,none⟩:=fun j hj => hb.frozen (p:=⟨j,0,none⟩) hj
 exact { cb:=by rw [k _ (by omega)]; exact h.cb,c2:=by rw [k _ (by omega)]; exact h.c2,c3:=by rw [k _ (by omega)]; exact h.c3,cq:=by rw [k _ (by omega)]; exact h.cq,cr:=by rw [k _ (by omega)]; exact h.cr,f2:=by rw [l _ (by omega)]; exact h.f2,f3:=by rw [l _ (by omega)]; exact h.f3,fq:=by rw [l _ (by omega)]; exact h.fq,fr:=by rw [l _ (by omega)]; exact h.fr,sz:=Nat.lt_of_lt_of_le hz hb.size,nb:=h.nb.below hb,nq:=h.nq.below hb,nr:=h.nr.below hb,bel:=h.bel.trans (hb.mono (by omega)) }
theorem aW (w : World) (p q : Addr) (v : Value) : (w.setCell p v).frozen? q = w.frozen? q:=by simp [go_sem]
theorem ai.eta {w : World} {s : Value} {x : Nat} (h : ai w s x) {b : Nat} (hc : w.cell? ⟨b,0,none⟩ = some s) {s' : Value} {z : Nat} (v : Value) (k : ai w s' z) : ai (w.setCell ⟨b,0,none⟩ v) s' z:=by
 obtain ⟨a,n,c,rfl⟩:=h.slice
 exact k.store hc v
theorem gw.setR {N : Nat} {w wr : World} {b Qs Rs : Value} {y Q R : Nat} (h : gw N w wr b Qs Rs y Q R) {Rs' : Value} {R' : Nat} (k : ai wr Rs' R') : gw N w (wr.setCell ⟨N + 1 + 1 + 1 + 1 + 1,0,none⟩ Rs') b Qs Rs' y Q R':=by
 have o : ∀ j,j ≠ N + 1 + 1 + 1 + 1 + 1 → (wr.setCell ⟨N + 1 + 1 + 1 + 1 + 1,0,none⟩ Rs').cell? ⟨j,0,none⟩ = wr.cell? ⟨j,0,none⟩:=fun j hj => World.cell?_setCell_other _ _ _ _ (by intro he; injection he with he1; exact hj he1.symm)
 exact { cb:=by rw [o _ (by omega)]; exact h.cb,c2:=by rw [o _ (by omega)]; exact h.c2,c3:=by rw [o _ (by omega)]; exact h.c3,cq:=by rw [o _ (by omega)]; exact h.cq,cr:=World.cell?_setCell_same _ _ _ h.cr,f2:=by rw [aW]; exact h.f2,f3:=by rw [aW]; exact h.f3,fq:=by rw [aW]; exact h.fq,fr:=by rw [aW]; exact h.fr,sz:=by simpa using h.sz,nb:=h.nr.eta h.cr _ h.nb,nq:=h.nr.eta h.cr _ h.nq,nr:=h.nr.eta h.cr _ k,bel:=h.bel.setCell (by simp; omega) _ }
theorem gw.setQ {N : Nat} {w wr : World} {b Qs Rs : Value} {y Q R : Nat} (h : gw N w wr b Qs Rs y Q R) {Qs' : Value} {Q' : Nat} (k : ai wr Qs' Q') : gw N w (wr.setCell ⟨N + 1 + 1 + 1 + 1,0,none⟩ Qs') b Qs' Rs y Q' R:=by
 have o : ∀ j,j ≠ N + 1 + 1 + 1 + 1 → (wr.setCell ⟨N + 1 + 1 + 1 + 1,0,none⟩ Qs').cell? ⟨j,0,none⟩ = wr.cell? ⟨j,0,none⟩:=fun j hj => World.cell?_setCell_other _ _ _ _ (by intro he; injection he with he1; exact hj he1.symm)
 exact { cb:=by rw [o _ (by omega)]; exact h.cb,c2:=by rw [o _ (by omega)]; exact h.c2,c3:=by rw [o _ (by omega)]; exact h.c3,cq:=World.cell?_setCell_same _ _ _ h.cq,cr:=by rw [o _ (by omega)]; exact h.cr,f2:=by rw [aW]; exact h.f2,f3:=by rw [aW]; exact h.f3,fq:=by rw [aW]; exact h.fq,fr:=by rw [aW]; exact h.fr,sz:=by simpa using h.sz,nb:=h.nq.eta h.cq _ h.nb,nq:=h.nq.eta h.cq _ k,nr:=h.nq.eta h.cq _ h.nr,bel:=h.bel.setCell (by simp; omega) _ }
def jV (x y Q R k : Nat) : Prop:=x = Q * y + R ∧ R < y * 2 ^ k
theorem pa {x y : Nat} (hy : y ≠ 0) : jV x y 0 x (Go.bitLen x + 1 - Go.bitLen y):=by
 refine ⟨by simp,?_⟩
 have h1:=(Go.bitLen_spec x).1
 have h2:=(Go.bitLen_spec y).2 hy
 have h0 : 0 < Go.bitLen y:=by unfold Go.bitLen; rw [if_neg hy]; omega
 have h3:=Nat.mul_le_mul_right (2 ^ (Go.bitLen x + 1 - Go.bitLen y)) h2
 rw [← Nat.pow_add] at h3
 have h4:=Nat.pow_le_pow_right (show 0 < 2 by omega) (show Go.bitLen x ≤ Go.bitLen y - 1 + (Go.bitLen x + 1 - Go.bitLen y) by omega)
 omega
theorem vA {x y Q R t : Nat} (h : jV x y Q R (t + 1)) (hT : y * 2 ^ t ≤ R) : jV x y (Q + 1 * 2 ^ t) (R - y * 2 ^ t) t:=by
 obtain ⟨h1,h2⟩:=h
 rw [Nat.pow_succ,← Nat.mul_assoc] at h2
 refine ⟨?_,by omega⟩
 rw [Nat.one_mul,Nat.add_mul,Nat.mul_comm (2 ^ t) y]
 omega
theorem zS {x y Q R t : Nat} (h : jV x y Q R (t + 1)) (hT : ¬ y * 2 ^ t ≤ R) : jV x y Q R t:=⟨h.1,by omega⟩
theorem vB {x y Q R : Nat} (h : jV x y Q R 0) : Q = x / y ∧ R = x % y:=by
 obtain ⟨h1,h2⟩:=h
 rw [Nat.pow_zero,Nat.mul_one] at h2
 subst h1
 constructor
 ·rw [Nat.mul_comm,Nat.mul_add_div (by omega),Nat.div_eq_of_lt h2]; rfl
 ·rw [Nat.mul_comm,Nat.mul_add_mod,Nat.mod_eq_of_lt h2]
theorem zT {x y Q R k : Nat} (h : jV x y Q R k) (hy : y ≠ 0) : R ≤ x ∧ Q ≤ x:=by
 obtain ⟨h1,h2⟩:=h
 have:=Nat.le_mul_of_pos_right Q (show 0 < y by omega)
 omega
theorem agj {W w' : World} {b1 b2 : Nat} {s1 s2 : Value} {x1 x2 : Nat} (hb : Below W.heap.size W w') (z1 : b1 < W.heap.size) (z2 : b2 < W.heap.size)
 (h : W.cell? ⟨b1,0,none⟩ = some s1 ∧ W.cell? ⟨b2,0,none⟩ = some s2 ∧ ai W s1 x1 ∧ ai W s2 x2) :
 w'.cell? ⟨b1,0,none⟩ = some s1 ∧ w'.cell? ⟨b2,0,none⟩ = some s2 ∧ ai w' s1 x1 ∧ ai w' s2 x2:=
 ⟨by rw [hb.cell (p:=⟨b1,0,none⟩) z1]; exact h.1,by rw [hb.cell (p:=⟨b2,0,none⟩) z2]; exact h.2.1,h.2.2.1.below hb,h.2.2.2.below hb⟩
theorem zU {x : Int} (h1 : -9223372036854775808 ≤ x) (h2 : x < 9223372036854775808) : IntKind.i64.wrap x = x:=by
 simp only [IntKind.wrap,IntKind.bits,IntKind.signed]
 simp
 omega
theorem dV {w : World} {b1 b2 : Nat} {a1 a2 : Option Addr} {n1 c1 n2 c2 : Nat} {s : Value} {x : Nat} (h : ai w s x) (h1 : w.cell? ⟨b1,0,none⟩ = some (.slice a1 n1 c1)) (h2 : w.cell? ⟨b2,0,none⟩ = some (.slice a2 n2 c2)) (hne : b1 ≠ b2) (v1 v2 : Value) :
 ai ((w.setCell ⟨b1,0,none⟩ v1).setCell ⟨b2,0,none⟩ v2) s x:=
 (h.store h1 v1).store (by rw [World.cell?_setCell_other _ _ _ _ (by intro he; injection he with he1; exact hne he1)]; exact h2) v2
theorem rB {v k : Nat} (h : v < 2 ^ k) : Go.bitLen v ≤ k:=by
 unfold Go.bitLen
 split
 ·omega
 ·rename_i h0
  have:=(Nat.log2_lt h0).2 h
  omega
theorem gU {v i : Nat} (h : v < pw i) : Go.bitLen v ≤ 32 * i:=rB (by rw [← fS]; exact h)
theorem t7 {v u : Nat} (h : u ≤ v) : 0 ≤ aK v u:=by
 unfold aK
 rw [if_neg (by omega)]
 split <;> omega
theorem agk {v u : Nat} (h : ¬ u ≤ v) : ¬ 0 ≤ aK v u:=by
 unfold aK
 rw [if_pos (by omega)]
 omega
theorem dN (w : World) : Calls Tryz.prog 21 #[.int .u64 1] w fun e w' => ∃ s',e = .returned (.agg #[s']) ∧ ai w' s' 1 ∧ Below w.heap.size w w':=aE 1 w (by omega) (by omega)
theorem nI {k i : Nat} (h : k < 32 * i) : 1 * 2 ^ k < pw i:=by
 rw [fS,Nat.one_mul]
 exact Nat.pow_lt_pow_right (by omega) h
theorem cS (a b : Option Addr) (n c m d x y : Nat) (w : World) (hx : ai w (.slice a n c) x) (hy : ai w (.slice b m d) y) (hy0 : y ≠ 0) (bx : x < pw 300) (hby : y < pw 300) :
 Calls Tryz.prog 190 #[.agg #[.slice a n c],.agg #[.slice b m d]] w fun e w' => ∃ s1 s2,e = .returned (.tuple #[.agg #[s1],.agg #[s2]]) ∧ ai w' s1 (x / y) ∧ ai w' s2 (x % y) ∧ Below w.heap.size w w':=by
 have hLx : Go.bitLen x ≤ 9600:=by have:=gU bx; omega
 have hLy : Go.bitLen y ≤ 9600:=by have:=gU hby; omega
 have HX:=ab hx; have HY:=ab hy; have HY0:=ab hy0; have HBX:=ab bx; have HBY:=ab hby
 clear hx hy hy0 bx hby
 go_enter Tryz.func190,Tryz.ntmps190
 go_wp2_with fail
 obtain ⟨wa,hwa⟩ : ∃ wa,wa = (((((w.alloc (.cells #[.slice a n c] 41)).alloc (.cells #[.slice b m d] 41)).alloc (.cells #[.slice none 0 0] 41)).alloc (.cells #[.slice none 0 0] 41)).alloc (.cells #[.slice none 0 0] 41)).alloc (.cells #[.slice a n c] 41):=⟨_,rfl⟩
 have hBa : Below w.heap.size w wa:=by rw [hwa]; exact ad (ad (ad (ad (aq _ _ _) _) _) _) _
 have hSt : gw w.heap.size w wa (.slice b m d) (.slice none 0 0) (.slice a n c) y 0 x:=
  { cb:=by rw [hwa]; simp [go_sem],c2:=by rw [hwa]; simp [go_sem],c3:=by rw [hwa]; simp [go_sem],cq:=by rw [hwa]; simp [go_sem],cr:=by rw [hwa]; simp [go_sem],f2:=by rw [hwa]; simp [go_sem],f3:=by rw [hwa]; simp [go_sem],fq:=by rw [hwa]; simp [go_sem],fr:=by rw [hwa]; simp [go_sem],sz:=by rw [hwa]; simp,nb:=(aa HY).below hBa,nq:=⟨[],Or.inl ⟨rfl,rfl⟩,(fun d hd => by simp at hd),Or.inl rfl,rfl⟩,nr:=(aa HX).below hBa,bel:=hBa }
 have hca : wa.cell? ⟨w.heap.size,0,none⟩ = some (.slice a n c):=by rw [hwa]; simp [go_sem]
 rw [← hwa]
 clear hwa hBa
 have hS0 : wa.drew.cell? ⟨w.heap.size,0,none⟩ = some (.slice a n c) ∧ wa.drew.cell? ⟨w.heap.size + 1,0,none⟩ = some (.slice b m d) ∧ ai wa.drew (.slice a n c) x ∧ ai wa.drew (.slice b m d) y:=⟨hca,hSt.cb,hSt.nr,hSt.nb⟩
 have HS0:=ab hS0; have HSt:=ab hSt
 have hza : w.heap.size + 1 < wa.heap.size:=by have:=hSt.sz; omega
 clear hS0 hSt hca
 go_region_held3 (fun w' => w'.cell? ⟨w.heap.size,0,none⟩ = some (.slice a n c) ∧ w'.cell? ⟨w.heap.size + 1,0,none⟩ = some (.slice b m d) ∧ ai w' (.slice a n c) x ∧ ai w' (.slice b m d) y)
  (first | exact agj (by assumption) (by first | omega | (simp; omega)) (by first | omega | (simp; omega)) (by assumption) | exact aa HS0)
  (first
   | (go_at_call_of 253 (Value.slice a n c); refine (eZ a n c x _ ?_).mono ?_; (exact (show _ ∧ _ ∧ ai _ (.slice a n c) x ∧ _ by assumption).2.2.1); rintro e w2 ⟨rfl,hb2⟩; have hz2 : w.heap.size + 1 < w2.heap.size:=(by have:=hb2.size; first | omega | (simp at this; omega)))
   | (go_at_call_of 253 (Value.slice b m d); refine (eZ b m d y _ ?_).mono ?_; (exact (show _ ∧ _ ∧ _ ∧ ai _ (.slice b m d) y by assumption).2.2.2); rintro e w3 ⟨rfl,hb3⟩; have hz3 : w.heap.size + 1 < w3.heap.size:=(by have:=hb3.size; first | omega | (simp at this; omega))))
 have HSt:=ab (((aa HSt).below (w':=wa.drew) ((Below.refl _ _).drew)).below (ac hb2 hb3))
 go_wp2_with fail
 go_loopw [8] (fun v8 wr => ∃ (t : Int) (Qa Ra : Option Addr) (Qn Qc Rn Rc Q R : Nat),v8 = .int .i64 t ∧ -9700 ≤ t ∧ t ≤ 9700 ∧ jV x y Q R (t + 1).toNat ∧ gw w.heap.size w wr (.slice b m d) (.slice Qa Qn Qc) (.slice Ra Rn Rc) y Q R) (fun i _ => ((intOf i) + 1).toNat)
 case atStart =>
  refine ⟨(Go.bitLen x : Int) - (Go.bitLen y : Int),none,a,0,0,n,c,0,x,by rw [zU (by omega) (by omega)],by omega,by omega,?_,aa HSt⟩
  rw [show ((Go.bitLen x : Int) - (Go.bitLen y : Int) + 1).toNat = Go.bitLen x + 1 - Go.bitLen y by omega]
  exact pa (aa HY0)
 case round =>
  clear HSt HS0
  obtain ⟨t,Qa,Ra,Qn,Qc,Rn,Rc,Q,R,rfl,ht1,ht2,hD,hSt⟩:=hrel
  obtain ⟨hRx,hQx⟩:=zT hD (aa HY0)
  have HD:=ab hD; have HSt:=ab hSt; have HRx:=ab (Nat.lt_of_le_of_lt hRx (aa HBX)); have HQx:=ab (Nat.lt_of_le_of_lt hQx (aa HBX))
  clear hD hSt hRx hQx
  by_cases hc : 0 ≤ t
  ·obtain ⟨k,rfl⟩:=Int.eq_ofNat_of_zero_le hc
   rw [show ((k : Int) + 1).toNat = k + 1 by omega] at HD
   have cb:=(aa HSt).cb; have cr:=(aa HSt).cr; have cq:=(aa HSt).cq
   go_wp2_with fail
   refine (cB b m d y k _ (aa HSt).nb (Nat.le_trans ((aa HSt).nb.short (aa HBY)) (by omega)) (by omega)).mono ?_
   rintro e w4 ⟨s4,rfl,hN4,hb4⟩
   obtain ⟨a4,n4,c4,rfl⟩:=hN4.slice
   have HYes:=ab (fun hT => vA (aa HD) hT)
   have HNo:=ab (fun hT => zS (aa HD) hT)
   generalize y * 2 ^ k = T at *
   have HN4:=ab hN4; have HSt4:=ab ((aa HSt).below hb4)
   clear hN4 cb cr cq hb4 HSt HD
   have cr:=(aa HSt4).cr
   have hz4:=(aa HSt4).sz
   by_cases hT : T ≤ R
   ·have hcmp:=t7 hT
    have HT:=ab hT
    clear hT
    go_wp2_with fail
    refine (bc _ _ _ _ _ _ R T _ ((aa HSt4).nr.alloc _) ((aa HN4).alloc _)).mono ?_
    rintro e w5 ⟨rfl,hb5⟩
    have hBal:=ac (ae w4 (.cells #[.slice a4 n4 c4] 41)) hb5
    have HSt5:=ab ((aa HSt4).below hBal); have HN5:=ab ((aa HN4).below hBal)
    have c9 : w5.cell? ⟨w4.heap.size,0,none⟩ = some (.slice a4 n4 c4):=by rw [hb5.cell (by simp)]; simp [go_sem]
    clear cr hBal hb5
    have cr:=(aa HSt5).cr
    go_wp2_with fail
    refine (ix _ _ _ _ _ _ R T _ (aa HSt5).nr (aa HN5) (Nat.le_trans ((aa HSt5).nr.short (aa HRx)) (by omega)) (aa HT)).mono ?_
    rintro e w6 ⟨s6,rfl,hN6,hb6⟩
    obtain ⟨a6,n6,c6,rfl⟩:=hN6.slice
    have HSt6:=ab (((aa HSt5).below hb6).setR hN6)
    have cr:=((aa HSt5).below hb6).cr; have fr:=((aa HSt5).below hb6).fr
    clear hN6 c9 hb6
    go_wp2_with fail
    generalize w6.setCell ⟨w.heap.size + 1 + 1 + 1 + 1 + 1,0,none⟩ (.slice a6 n6 c6) = w7 at *
    have HStd:=ab ((aa HSt6).below (w':=w7.drew) ((Below.refl _ _).drew))
    have cq:=(aa HSt6).cq
    clear cr fr
    go_region_with (first
     | (go_at_call 21; refine (dN _).mono ?_; rintro e w8 ⟨s8,rfl,hN8,hb8⟩; obtain ⟨a8,n8,c8,rfl⟩:=hN8.slice; have H8:=ab hN8; clear hN8; have HSt8:=ab ((aa HStd).below hb8); have cq8:=(aa HSt8).cq)
     | (go_at_call 59; refine (cB a8 n8 c8 1 k _ (aa H8) (Nat.le_trans ((aa H8).short (k:=1) (by rw [re]; omega)) (by omega)) (by omega)).mono ?_; rintro e w9 ⟨s9,rfl,hN9,hb9⟩; obtain ⟨a9,n9,c9,rfl⟩:=hN9.slice; have H9:=ab hN9; clear hN9; have HSt9:=ab ((aa HSt8).below hb9); have cq9:=(aa HSt9).cq)
     | (go_at_call 118; refine (bO Qa a9 Qn Qc n9 c9 Q (1 * 2 ^ k) _ (aa HSt9).nq (aa H9) (Nat.le_trans ((aa HSt9).nq.short (aa HQx)) (by omega)) (Nat.le_trans ((aa H9).short (nI (i:=310) (by omega))) (by omega))).mono ?_; rintro e w10 ⟨s10,rfl,hN10,hb10⟩; obtain ⟨a10,n10,c10,rfl⟩:=hN10.slice; have HSt10:=ab (((aa HSt9).below hb10).setQ hN10); have cq10:=((aa HSt9).below hb10).cq; have fq10:=((aa HSt9).below hb10).fq; clear hN10))
    all_goals
     go_wp2_with fail
     go_roundw
     case rel => exact ⟨(k : Int) - 1,a10,a6,n10,c10,n6,c6,_,_,by go_num,by omega,by omega,by rw [show ((k : Int) - 1 + 1).toNat = k by omega]; exact aa HYes (aa HT),aa HSt10⟩
     case measure => simp [intOf]
   ·have hcmp:=agk hT
    have HT:=ab hT
    clear hT
    go_wp2_with fail
    refine (bc _ _ _ _ _ _ R T _ ((aa HSt4).nr.alloc _) ((aa HN4).alloc _)).mono ?_
    rintro e w5 ⟨rfl,hb5⟩
    have hBal:=ac (ae w4 (.cells #[.slice a4 n4 c4] 41)) hb5
    have HSt5:=ab ((aa HSt4).below hBal)
    go_wp2_with fail
    go_roundw
    case rel => exact ⟨(k : Int) - 1,Qa,Ra,Qn,Qc,Rn,Rc,Q,R,by go_num,by omega,by omega,by rw [show ((k : Int) - 1 + 1).toNat = k by omega]; exact aa HNo (aa HT),aa HSt5⟩
    case measure => simp [intOf]
  ·have ht : (t + 1).toNat = 0:=by omega
   have HE:=ab (vB (by rw [← ht]; exact aa HD))
   clear ht
   have c2:=(aa HSt).c2; have c3:=(aa HSt).c3; have cq:=(aa HSt).cq; have cr:=(aa HSt).cr; have f2:=(aa HSt).f2; have f3:=(aa HSt).f3
   go_wp2_with fail
   go_region
   all_goals
    go_wp2
    refine bodyPost_ret (v:=.tuple #[.agg #[.slice Qa Qn Qc],.agg #[.slice Ra Rn Rc]]) (by simp [results,Tryz.results190,go_sem,c2,c3]) rfl ⟨_,_,rfl,?_,?_,?_⟩
    ·rw [← (aa HE).1]; exact dV (aa HSt).nq c2 c3 (by omega) _ _
    ·rw [← (aa HE).2]; exact dV (aa HSt).nr c2 c3 (by omega) _ _
    ·exact (((aa HSt).bel.setCell (by simp; omega) _).setCell (by simp; omega) _).drew
section
variable {P : Program} {ops : Array Oper} {Q : Exit → Act → World → Prop} {md : Region.Mode} {S : World → Prop}
def bg (ops : Array Oper) (j d : Nat) : Bool:=
 match ops[j]? with
 | some o => !(o.looksAt ops).contains d && o.dst != some d
 | none => false
theorem eO {j d : Nat} {v : Value} (hn : bg ops j d = true) (hs : Region.noSelect ops = true)
 (hQ : ∀ c a w,Q (.panic c) a w → Q (.panic c) (a.put (some d) v) w) {K : Act → World → Prop} {a : Act} {w : World}
 (h : wpOp P ops Q j (fun a' w' => K (a'.put (some d) v) w') a w) : wpOp P ops Q j K (a.put (some d) v) w:=by
 unfold bg at hn
 cases hj : ops[j]? with
 | none => simp [hj] at hn
 | some oj =>
  simp [hj] at hn
  obtain ⟨h1',h2'⟩:=hn
  have h1 : ∀ e,some d = some e → e ∉ oj.looksAt ops:=fun e he => by injection he with he; subst he; exact h1'
  have h2 : ∀ e,oj.dst = some e → some d ≠ some e:=fun e he hd => h2' (by rw [he,hd])
  have hsj : ∀ cs b,oj.op ≠ .select cs b:=fun cs b => Region.noSelect_spec hs j oj cs b hj
  unfold wpOp at *
  simp only [hj] at *
  rw [wanted_put oj a (some d) v h1]
  split
  ·rename_i hw
   simp only [hw,if_true] at h
   rcases h with h | ⟨hasks,hlets⟩
   case inr => exact .inr ⟨by unfold Oper.asks at *; rw [execOp_put oj hsj a (some d) v h1]; exact hasks,hlets⟩
   refine .inl ?_
   unfold Oper.wp at *
   rw [execOp_put oj hsj a (some d) v h1]
   generalize (execOp a.eval oj).run P w = r at *
   cases r with
   | ok n w' =>
    cases n <;> simp only [Oper.upon] at h ⊢
    case value u => rw [← Act.put_comm a u v h2]; exact h
    case skip => rw [← Act.put_comm a undef v h2]; exact h
    case defer dd =>
     rw [Act.put_defers,← Act.put_comm _ undef v h2]
     exact h
    case enter f args =>
     refine Calls.mono h fun e w'' he => ?_
     cases e with
     | returned u => simp only [] at he ⊢; rw [← Act.put_comm a u v h2]; exact he
     | panicked c => exact hQ _ _ _ he
     | outgrown => exact he
    case row row args => exact Rows.mono h fun u w'' he => by rw [← Act.put_comm a u v h2]; exact he
   | halt x w' =>
    cases x <;> simp only [Oper.upon] at h ⊢
    case panic u => exact hQ _ _ _ h
    all_goals exact h
  ·rename_i hw
   simp only [hw] at h
   rw [← Act.put_comm a undef v h2]; exact h
def ptr (b : Nat) : Value:=.pointer (some ⟨b,0,none⟩)
def aP (T : World → Prop) : Prop:=∀ w w',T w → Below w.heap.size w w' → T w'
structure aY (N : Nat) (v : Value) (b : Nat) (w : World) : Prop where
 cell : w.cell? ⟨b,0,none⟩ = some v
 thawed : w.frozen? ⟨b,0,none⟩ = false
 size : b < w.heap.size
 base : N ≤ b
theorem aY.below {N b : Nat} {v : Value} {w w' : World} (h : aY N v b w) (hb : Below w.heap.size w w') : aY N v b w':=
 ⟨by rw [hb.cell (p:=⟨b,0,none⟩) h.size]; exact h.cell,by rw [hb.frozen (p:=⟨b,0,none⟩) h.size]; exact h.thawed,Nat.lt_of_lt_of_le h.size hb.size,h.base⟩
theorem aY.new {N : Nat} {v : Value} {t : TypeId} {w : World} (h : N ≤ w.heap.size) : aY N v w.heap.size (w.alloc (.cells #[v] t)):=
 ⟨by simp,by simp [go_sem],by simp,h⟩
def kY (P : Program) (ops : Array Oper) (Q : Exit → Act → World → Prop) (i d : Nat) (v : Value) (t : TypeId) : Prop:=
 ∀ (a : Act) (w : World) (K : Act → World → Prop),K (a.put (some d) (ptr w.heap.size)) (w.alloc (.cells #[v] t)) → wpOp P ops Q i K a w
def iW (i1 i2 : Nat) (L : Array Bool) : List (Array Bool):=[L,L.setIfInBounds i1 true,L.setIfInBounds i2 true,(L.setIfInBounds i1 true).setIfInBounds i2 true]
def WU (P : Program) (ops : Array Oper) (Q : Exit → Act → World → Prop) (md : Region.Mode) (S : World → Prop) (N i1 d1 : Nat) (v1 : Value) (i2 d2 : Nat) (v2 : Value) (f : Nat) : Nat → Array Bool → Act → (World → Prop) → Prop
 | 0,L,a,T => ((iW i1 i2 L).take 3).all (fun L' => !(Region.ready md ops L').isEmpty && (Region.ready md ops L').all (fun j => j == i1 || j == i2)) = true ∧
  ∀ w b1 b2,b1 ≠ b2 → S w → T w → aY N v1 b1 w → aY N v2 b2 w → wpAnyH P md ops Q S f ((L.setIfInBounds i1 true).setIfInBounds i2 true) ((a.put (some d1) (ptr b1)).put (some d2) (ptr b2)) w
 | n + 1,L,a,T =>
  (∃ i oi v,ops[i]? = some oi ∧ (iW i1 i2 L).all (fun L' => Region.free md ops L' i && (Region.ready md ops L').contains i) = true ∧ bg ops i d1 = true ∧ bg ops i d2 = true ∧ i ≠ i1 ∧ i ≠ i2 ∧
   (∀ c a w,Q (.panic c) (a.put oi.dst v) w → Q (.panic c) a w) ∧ YieldsIf P ops S oi v a ∧ WU P ops Q md S N i1 d1 v1 i2 d2 v2 f n (L.setIfInBounds i true) (a.put oi.dst v) T) ∨
  (∃ c,(iW i1 i2 L).all (fun L' => !(Region.ready md ops L').isEmpty && (Region.ready md ops L').all (fun j => j == c || j == i1 || j == i2)) = true ∧ bg ops c d1 = true ∧ bg ops c d2 = true ∧ c ≠ i1 ∧ c ≠ i2 ∧
   ∀ w,S w → T w → wpOp P ops Q c (fun a' w' => Below w.heap.size w w' ∧ ∃ T',aP T' ∧ T' w' ∧ WU P ops Q md S N i1 d1 v1 i2 d2 v2 f n (L.setIfInBounds c true) a' T') a w)
theorem dw {L : Array Bool} {i : Nat} : i ∉ Region.ready md ops (L.setIfInBounds i true):=by
 intro h
 have h0:=(mem_ready.1 h).1
 rw [Array.getD_eq_getD_getElem?,Array.getElem?_setIfInBounds] at h0
 simp at h0
 split at h0 <;> simp_all
variable {N i1 d1 i2 d2 : Nat} {v1 v2 : Value} {t1 t2 : TypeId} {f : Nat}
theorem ay {T : World → Prop} (h : aP T) {w : World} (hT : T w) (o : Obj) : T (w.alloc o):=h _ _ hT (ae _ _)
theorem dz {i d : Nat} {oi : Oper} {v p : Value} {a : Act} (hi : ops[i]? = some oi) (hs : Region.noSelect ops = true) (hn : bg ops i d = true) (h : YieldsIf P ops S oi v a) : YieldsIf P ops S oi v (a.put (some d) p):=by
 unfold bg at hn
 simp [hi] at hn
 have h1 : ∀ e,some d = some e → e ∉ oi.looksAt ops:=fun e he => by injection he with he; subst he; exact hn.1
 exact h.of_same (execOp_put oi (fun cs b => Region.noSelect_spec hs i oi cs b hi) a (some d) p h1) (wanted_put oi a (some d) p h1)
theorem nk {i d : Nat} {oi : Oper} (hi : ops[i]? = some oi) (hn : bg ops i d = true) : ∀ e,oi.dst = some e → some d ≠ some e:=by
 unfold bg at hn
 simp [hi] at hn
 exact fun e he hd => hn.2 (by rw [he,hd])
theorem al5 (hs : Region.noSelect ops = true) (hQ : ∀ c a d v w,Q (.panic c) a w → Q (.panic c) (a.put (some d) v) w) (hS : aP S)
 (hd : d1 ≠ d2) (hi : i1 ≠ i2) (m1 : kY P ops Q i1 d1 v1 t1) (m2 : kY P ops Q i2 d2 v2 t2) :
 ∀ (n : Nat) (L : Array Bool) (a : Act) (T : World → Prop),aP T → WU P ops Q md S N i1 d1 v1 i2 d2 v2 f n L a T →
  (∀ w,S w → T w → N ≤ w.heap.size → wpAnyH P md ops Q S (f + n + 2) L a w) ∧
  (∀ w b1,S w → T w → N ≤ w.heap.size → aY N v1 b1 w → wpAnyH P md ops Q S (f + n + 1) (L.setIfInBounds i1 true) (a.put (some d1) (ptr b1)) w) ∧
  (∀ w b2,S w → T w → N ≤ w.heap.size → aY N v2 b2 w → wpAnyH P md ops Q S (f + n + 1) (L.setIfInBounds i2 true) (a.put (some d2) (ptr b2)) w) ∧
  (∀ w b1 b2,b1 ≠ b2 → S w → T w → N ≤ w.heap.size → aY N v1 b1 w → aY N v2 b2 w → wpAnyH P md ops Q S (f + n) ((L.setIfInBounds i1 true).setIfInBounds i2 true) ((a.put (some d1) (ptr b1)).put (some d2) (ptr b2)) w):=by
 have hdd : ∀ e,some d1 = some e → some d2 ≠ some e:=fun e he hh => hd (by injection he with he; injection hh with hh; omega)
 intro n
 induction n with
 | zero =>
  intro L a T hT h
  obtain ⟨hr,h11⟩:=h
  simp only [iW,List.take_succ_cons,List.take_zero,List.all_cons,List.all_nil,Bool.and_true,Bool.and_eq_true,List.all_eq_true,Bool.or_eq_true,beq_iff_eq,Bool.not_eq_true',List.isEmpty_eq_false_iff] at hr
  obtain ⟨⟨e0,r0⟩,⟨e1,r1⟩,⟨e2,r2⟩⟩:=hr
  have g11 : ∀ w b1 b2,b1 ≠ b2 → S w → T w → N ≤ w.heap.size → aY N v1 b1 w → aY N v2 b2 w → wpAnyH P md ops Q S (f + 0) ((L.setIfInBounds i1 true).setIfInBounds i2 true) ((a.put (some d1) (ptr b1)).put (some d2) (ptr b2)) w:=
   fun w b1 b2 hb hSw hTw _ k1 k2 => h11 w b1 b2 hb hSw hTw k1 k2
  have g10 : ∀ w b1,S w → T w → N ≤ w.heap.size → aY N v1 b1 w → wpAnyH P md ops Q S (f + 0 + 1) (L.setIfInBounds i1 true) (a.put (some d1) (ptr b1)) w:=by
   intro w b1 hSw hTw hN k1
   refine ⟨fun h => absurd h e1,fun j hj => ?_⟩
   rcases r1 j hj with rfl | rfl
   ·exact absurd hj dw
   ·refine m2 _ _ _ ⟨ay hS hSw _,g11 _ _ _ ?_ (ay hS hSw _) (ay hT hTw _) (by simp; omega) (k1.below (ae _ _)) (aY.new hN)⟩
    have:=k1.size; omega
  have g01 : ∀ w b2,S w → T w → N ≤ w.heap.size → aY N v2 b2 w → wpAnyH P md ops Q S (f + 0 + 1) (L.setIfInBounds i2 true) (a.put (some d2) (ptr b2)) w:=by
   intro w b2 hSw hTw hN k2
   refine ⟨fun h => absurd h e2,fun j hj => ?_⟩
   rcases r2 j hj with rfl | rfl
   ·refine m1 _ _ _ ⟨ay hS hSw _,?_⟩
    rw [← Act.put_comm a _ _ hdd,← Array.setIfInBounds_comm _ _ hi]
    refine g11 _ _ _ ?_ (ay hS hSw _) (ay hT hTw _) (by simp; omega) (aY.new hN) (k2.below (ae _ _))
    have:=k2.size; omega
   ·exact absurd hj dw
  refine ⟨?_,g10,g01,g11⟩
  intro w hSw hTw hN
  refine ⟨fun h => absurd h e0,fun j hj => ?_⟩
  rcases r0 j hj with rfl | rfl
  ·exact m1 _ _ _ ⟨ay hS hSw _,g10 _ _ (ay hS hSw _) (ay hT hTw _) (by simp; omega) (aY.new hN)⟩
  ·exact m2 _ _ _ ⟨ay hS hSw _,g01 _ _ (ay hS hSw _) (ay hT hTw _) (by simp; omega) (aY.new hN)⟩
 | succ n ih =>
  intro L a T hT h
  rcases h with ⟨i,oi,v,ho,hr,nt1,nt2,hi1,hi2,hP,hy,hW⟩ | ⟨c,hr,nt1,nt2,hc1,hc2,hc⟩
  ·obtain ⟨h00,h10,h01,h11⟩:=ih _ _ T hT hW
   simp only [iW,List.all_cons,List.all_nil,Bool.and_true,Bool.and_eq_true] at hr
   obtain ⟨⟨f0,r0⟩,⟨f1,r1⟩,⟨f2,r2⟩,⟨f3,r3⟩⟩:=hr
   have c1:=nk ho nt1
   have c2:=nk ho nt2
   refine ⟨?_,?_,?_,?_⟩
   ·intro w hSw hTw hN
    exact wpAnyH_take ho hs f0 r0 hP hy hSw (h00 w hSw hTw hN)
   ·intro w b1 hSw hTw hN k1
    refine wpAnyH_take ho hs f1 r1 hP (dz ho hs nt1 hy) hSw ?_
    rw [← Act.put_comm a _ _ c1,← Array.setIfInBounds_comm _ _ hi1]
    exact h10 w b1 hSw hTw hN k1
   ·intro w b2 hSw hTw hN k2
    refine wpAnyH_take ho hs f2 r2 hP (dz ho hs nt2 hy) hSw ?_
    rw [← Act.put_comm a _ _ c2,← Array.setIfInBounds_comm _ _ hi2]
    exact h01 w b2 hSw hTw hN k2
   ·intro w b1 b2 hb hSw hTw hN k1 k2
    refine wpAnyH_take ho hs f3 r3 hP (dz ho hs nt2 (dz ho hs nt1 hy)) hSw ?_
    rw [← Act.put_comm _ _ _ c2,← Act.put_comm a _ _ c1,← Array.setIfInBounds_comm _ _ hi2,← Array.setIfInBounds_comm _ _ hi1]
    exact h11 w b1 b2 hb hSw hTw hN k1 k2
  ·simp only [iW,List.all_cons,List.all_nil,Bool.and_true,Bool.and_eq_true,List.all_eq_true,Bool.or_eq_true,beq_iff_eq,Bool.not_eq_true',List.isEmpty_eq_false_iff] at hr
   obtain ⟨⟨e0,r0⟩,⟨e1,r1⟩,⟨e2,r2⟩,⟨e3,r3⟩⟩:=hr
   have sz : ∀ {w w' : World},N ≤ w.heap.size → Below w.heap.size w w' → N ≤ w'.heap.size:=fun h k => Nat.le_trans h k.size
   have g11 : ∀ w b1 b2,b1 ≠ b2 → S w → T w → N ≤ w.heap.size → aY N v1 b1 w → aY N v2 b2 w → wpAnyH P md ops Q S (f + (n + 1)) ((L.setIfInBounds i1 true).setIfInBounds i2 true) ((a.put (some d1) (ptr b1)).put (some d2) (ptr b2)) w:=by
    intro w b1 b2 hb hSw hTw hN k1 k2
    refine ⟨fun h => absurd h e3,fun j hj => ?_⟩
    rcases r3 j hj with (rfl | rfl) | rfl
    ·refine eO nt2 hs (fun c a w h => hQ c a _ _ w h) (eO nt1 hs (fun c a w h => hQ c a _ _ w h) (wpOp_mono (fun a' w' hh => ?_) (hc w hSw hTw)))
     obtain ⟨hB,T',hT',hTw',hW⟩:=hh
     refine ⟨hS _ _ hSw hB,?_⟩
     rw [← Array.setIfInBounds_comm _ _ hc2,← Array.setIfInBounds_comm _ _ hc1]
     exact (ih _ _ T' hT' hW).2.2.2 w' b1 b2 hb (hS _ _ hSw hB) hTw' (sz hN hB) (k1.below hB) (k2.below hB)
    ·rw [Array.setIfInBounds_comm _ _ hi] at hj
     exact absurd hj dw
    ·exact absurd hj dw
   have g10 : ∀ w b1,S w → T w → N ≤ w.heap.size → aY N v1 b1 w → wpAnyH P md ops Q S (f + (n + 1) + 1) (L.setIfInBounds i1 true) (a.put (some d1) (ptr b1)) w:=by
    intro w b1 hSw hTw hN k1
    refine ⟨fun h => absurd h e1,fun j hj => ?_⟩
    rcases r1 j hj with (rfl | rfl) | rfl
    ·refine eO nt1 hs (fun c a w h => hQ c a _ _ w h) (wpOp_mono (fun a' w' hh => ?_) (hc w hSw hTw))
     obtain ⟨hB,T',hT',hTw',hW⟩:=hh
     refine ⟨hS _ _ hSw hB,?_⟩
     rw [← Array.setIfInBounds_comm _ _ hc1]
     exact (ih _ _ T' hT' hW).2.1 w' b1 (hS _ _ hSw hB) hTw' (sz hN hB) (k1.below hB)
    ·exact absurd hj dw
    ·refine m2 _ _ _ ⟨ay hS hSw _,g11 _ _ _ ?_ (ay hS hSw _) (ay hT hTw _) (by simp; omega) (k1.below (ae _ _)) (aY.new hN)⟩
     have:=k1.size; omega
   have g01 : ∀ w b2,S w → T w → N ≤ w.heap.size → aY N v2 b2 w → wpAnyH P md ops Q S (f + (n + 1) + 1) (L.setIfInBounds i2 true) (a.put (some d2) (ptr b2)) w:=by
    intro w b2 hSw hTw hN k2
    refine ⟨fun h => absurd h e2,fun j hj => ?_⟩
    rcases r2 j hj with (rfl | rfl) | rfl
    ·refine eO nt2 hs (fun c a w h => hQ c a _ _ w h) (wpOp_mono (fun a' w' hh => ?_) (hc w hSw hTw))
     obtain ⟨hB,T',hT',hTw',hW⟩:=hh
     refine ⟨hS _ _ hSw hB,?_⟩
     rw [← Array.setIfInBounds_comm _ _ hc2]
     exact (ih _ _ T' hT' hW).2.2.1 w' b2 (hS _ _ hSw hB) hTw' (sz hN hB) (k2.below hB)
    ·refine m1 _ _ _ ⟨ay hS hSw _,?_⟩
     rw [← Act.put_comm a _ _ hdd,← Array.setIfInBounds_comm _ _ hi]
     refine g11 _ _ _ ?_ (ay hS hSw _) (ay hT hTw _) (by simp; omega) (aY.new hN) (k2.below (ae _ _))
     have:=k2.size; omega
    ·exact absurd hj dw
   refine ⟨?_,g10,g01,g11⟩
   intro w hSw hTw hN
   refine ⟨fun h => absurd h e0,fun j hj => ?_⟩
   rcases r0 j hj with (rfl | rfl) | rfl
   ·refine wpOp_mono (fun a' w' hh => ?_) (hc w hSw hTw)
    obtain ⟨hB,T',hT',hTw',hW⟩:=hh
    exact ⟨hS _ _ hSw hB,(ih _ _ T' hT' hW).1 w' (hS _ _ hSw hB) hTw' (sz hN hB)⟩
   ·exact m1 _ _ _ ⟨ay hS hSw _,g10 _ _ (ay hS hSw _) (ay hT hTw _) (by simp; omega) (aY.new hN)⟩
   ·exact m2 _ _ _ ⟨ay hS hSw _,g01 _ _ (ay hS hSw _) (ay hT hTw _) (by simp; omega) (aY.new hN)⟩
theorem o9 {m n : Nat} {L : Array Bool} {a : Act} {T : World → Prop} {w : World} (hm : m = f + n + 2) (hs : Region.noSelect ops = true) (hQ : ∀ c a d v w,Q (.panic c) a w → Q (.panic c) (a.put (some d) v) w) (hS : aP S)
 (hd : d1 ≠ d2) (hi : i1 ≠ i2) (m1 : kY P ops Q i1 d1 v1 t1) (m2 : kY P ops Q i2 d2 v2 t2) (hT : aP T) (hSw : S w) (hTw : T w) (hN : N ≤ w.heap.size) (h : WU P ops Q md S N i1 d1 v1 i2 d2 v2 f n L a T) : wpAnyH P md ops Q S m L a w:=by
 subst hm
 exact (al5 hs hQ hS hd hi m1 m2 n L a T hT h).1 w hSw hTw hN
theorem dM {i : Nat} {oi : Oper} {v : Value} {n : Nat} {L : Array Bool} {a : Act} {T : World → Prop} (ho : ops[i]? = some oi)
 (hr : (iW i1 i2 L).all (fun L' => Region.free md ops L' i && (Region.ready md ops L').contains i) = true) (ht : (bg ops i d1 && bg ops i d2 && i != i1 && i != i2) = true)
 (hQ : ∀ c a w,Q (.panic c) (a.put oi.dst v) w → Q (.panic c) a w) (hy : YieldsIf P ops S oi v a) (h : WU P ops Q md S N i1 d1 v1 i2 d2 v2 f n (L.setIfInBounds i true) (a.put oi.dst v) T) :
 WU P ops Q md S N i1 d1 v1 i2 d2 v2 f (n + 1) L a T:=by
 simp at ht
 exact Or.inl ⟨i,oi,v,ho,hr,ht.1.1.1,ht.1.1.2,ht.1.2,ht.2,hQ,hy,h⟩
theorem iX {c : Nat} {o : Oper} {n : Nat} {L : Array Bool} {a : Act} {T : World → Prop} (ho : ops[c]? = some o)
 (hr : (iW i1 i2 L).all (fun L' => !(Region.ready md ops L').isEmpty && (Region.ready md ops L').all (fun j => j == c || j == i1 || j == i2)) = true) (ht : (bg ops c d1 && bg ops c d2 && c != i1 && c != i2) = true)
 (h : ∀ w,S w → T w → ∀ K' : Act → World → Prop,Shut (∀ a' w' T',Below w.heap.size w w' → aP T' → T' w' → WU P ops Q md S N i1 d1 v1 i2 d2 v2 f n (L.setIfInBounds c true) a' T' → K' a' w') → if Region.wanted o (yielded ops a.tmps) = true then Oper.wp P o a w K' Q else K' (a.put o.dst undef) w) :
 WU P ops Q md S N i1 d1 v1 i2 d2 v2 f (n + 1) L a T:=by
 simp at ht
 refine Or.inr ⟨c,hr,ht.1.1.1,ht.1.1.2,ht.1.2,ht.2,fun w hSw hTw => ?_⟩
 exact wpOp_step ho (fun K' hK => h w hSw hTw K' (fun a' w' T' hB hT' hTw' hW => hK a' w' ⟨hB,T',hT',hTw',hW⟩))
theorem zR {L : Array Bool} {a : Act} {T : World → Prop}
 (hr : ((iW i1 i2 L).take 3).all (fun L' => !(Region.ready md ops L').isEmpty && (Region.ready md ops L').all (fun j => j == i1 || j == i2)) = true)
 (h : ∀ w b1 b2,b1 ≠ b2 → S w → T w → aY N v1 b1 w → aY N v2 b2 w → wpAnyH P md ops Q S f ((L.setIfInBounds i1 true).setIfInBounds i2 true) ((a.put (some d1) (ptr b1)).put (some d2) (ptr b2)) w) :
 WU P ops Q md S N i1 d1 v1 i2 d2 v2 f 0 L a T:=⟨hr,h⟩
theorem ct {fuel : Nat} {listed : Array Bool} {a : Act} {w : World} (l : Array Bool) (h : listed = l) (k : wpAnyH P md ops Q S fuel l a w) : wpAnyH P md ops Q S fuel listed a w:=h ▸ k
theorem aP.and {A B : World → Prop} (ha : aP A) (hb : aP B) : aP (fun w => A w ∧ B w):=fun w w' h k => ⟨ha w w' h.1 k,hb w w' h.2 k⟩
theorem gj (p : Addr) (v : Value) : aP (fun w => w.cell? p = some v):=fun w _ h k => (k.cell (World.block_lt_of_cell? w p h)).trans h
theorem aA (p : Addr) (v : Value) : aP (fun w => w.cell? p = some v ∧ w.frozen? p = false):=fun w w' h k => ⟨by rw [k.cell (World.block_lt_of_cell? w p h.1)]; exact h.1,by rw [k.frozen (World.block_lt_of_cell? w p h.1)]; exact h.2⟩
theorem aD (s : Value) (x : Nat) : aP (fun w => ai w s x):=fun _ _ h k => h.below k
theorem ao (w0 : World) : aP (fun w => Below w0.heap.size w0 w):=fun _ _ h k => ac h k
end
theorem rA (k : Nat) : 1 * 2 ^ k ≠ 0:=by rw [Nat.one_mul]; exact Nat.ne_of_gt (Nat.two_pow_pos k)
theorem ai.pos {w : World} {a : Option Addr} {n c x : Nat} (h : ai w (.slice a n c) x) : (0 < n) = (x ≠ 0):=by
 refine propext ⟨fun hn hx => ?_,fun hx => ?_⟩
 ·have:=h.short (k:=0) (by rw [mn]; omega)
  omega
 ·refine Decidable.byContradiction fun hn => ?_
  have:=h.len.1
  rw [show n = 0 by omega,mn] at this
  omega
theorem zQ (a : Option Addr) (n c x k : Nat) (w : World) (hx : ai w (.slice a n c) x) (bx : x < pw 300) (hk : k ≤ 600) :
 Calls Tryz.prog 259 #[.agg #[.slice a n c],.int .i64 (k : Int)] w fun e w' => ∃ s1,e = .returned (.tuple #[.agg #[s1],.bool (decide (x % 2 ^ k ≠ 0))]) ∧ ai w' s1 (x / 2 ^ k) ∧ Below w.heap.size w w':=by
 have HX:=ab hx; have HBX:=ab bx
 clear hx bx
 go_enter Tryz.func259,Tryz.ntmps259
 go_wp2_with fail
 refine wp_region_held_drew (S:=fun w' => w'.cell? ⟨w.heap.size,0,none⟩ = some (.slice a n c)) (by kernel_rfl) ?_ (fun hHeld => ?_)
 ·simp [go_sem]
 refine o9 (N:=w.heap.size + 2) (i1:=8) (d1:=6) (v1:=.slice none 0 0) (t1:=41) (i2:=9) (d2:=7) (v2:=.slice none 0 0) (t2:=41) (f:=2) (n:=8)
  (T:=fun w' => ai w' (.slice a n c) x ∧ Below w.heap.size w w' ∧ (w'.cell? ⟨w.heap.size + 1,0,none⟩ = some (.slice none 0 0) ∧ w'.frozen? ⟨w.heap.size + 1,0,none⟩ = false))
  (by kernel_rfl) (by kernel_rfl) (fun _ _ _ _ _ h => h) (gj _ _) (by decide) (by decide) ?_ ?_ ((aD _ _).and ((ao _).and (aA _ _))) hHeld ?_ ?_ ?_
 ·intro a w K h
  unfold wpOp
  go_simp
  exact Or.inl h
 ·intro a w K h
  unfold wpOp
  go_simp
  exact Or.inl h
 ·refine ⟨(aa HX).below (iR _ _ _),iR _ _ _,by simp [go_sem],by simp [go_sem]⟩
 ·simp
 refine dM (i:=0) (oi:={ dst:=some 9,op:=_,type:=_,pos:=_,after:=_,guard:=_ }) rfl (by kernel_rfl) (by kernel_rfl) (fun _ _ _ h => h) (Or.inl ⟨by rfl,fun w hSw => by (try dsimp only at hSw); go_simp; with_reducible rfl⟩) ?_
 (try simp only [Act.put,List.setIfInBounds_toArray,List.set_cons_zero,List.set_cons_succ])
 refine dM (i:=2) (oi:={ dst:=some 11,op:=_,type:=_,pos:=_,after:=_,guard:=_ }) rfl (by kernel_rfl) (by kernel_rfl) (fun _ _ _ h => h) (Or.inl ⟨by rfl,fun w hSw => by (try dsimp only at hSw); go_simp; with_reducible rfl⟩) ?_
 (try simp only [Act.put,List.setIfInBounds_toArray,List.set_cons_zero,List.set_cons_succ])
 refine iX (c:=1) (o:={ dst:=some 10,op:=_,type:=_,pos:=_,after:=_,guard:=_ }) rfl (by kernel_rfl) (by kernel_rfl) (fun u hSu hTu K hK => ?_)
 go_simp
 refine (dN _).mono ?_
 rintro e w8 ⟨s8,rfl,hN8,hb8⟩
 obtain ⟨a8,n8,c8,rfl⟩:=hN8.slice
 have HT:=ab ((((aD _ _).and ((ao _).and (aA _ _))) _ _ hTu hb8)); clear hTu hSu
 (try go_wp2_with fail)
 refine hK.out _ _ (fun w' => ai w' (.slice a8 n8 c8) 1 ∧ ai w' (.slice a n c) x ∧ Below w.heap.size w w' ∧ (w'.cell? ⟨w.heap.size + 1,0,none⟩ = some (.slice none 0 0) ∧ w'.frozen? ⟨w.heap.size + 1,0,none⟩ = false)) (by assumption) ((aD _ _).and ((aD _ _).and ((ao _).and (aA _ _)))) (⟨hN8,aa HT⟩) ?_
 clear hK K
 (try simp only [Act.put,List.setIfInBounds_toArray,List.set_cons_zero,List.set_cons_succ])
 clear HT hN8
 refine iX (c:=3) (o:={ dst:=some 12,op:=_,type:=_,pos:=_,after:=_,guard:=_ }) rfl (by kernel_rfl) (by kernel_rfl) (fun u hSu hTu K hK => ?_)
 go_simp
 refine (cB a8 n8 c8 1 k _ hTu.1 (Nat.le_trans (hTu.1.short (k:=1) (by rw [re]; omega)) (by omega)) (by omega)).mono ?_
 rintro e w9 ⟨s9,rfl,hN9,hb9⟩
 obtain ⟨a9,n9,c9,rfl⟩:=hN9.slice
 have HT:=ab ((((aD _ _).and ((ao _).and (aA _ _))) _ _ hTu.2 hb9)); clear hTu hSu
 (try go_wp2_with fail)
 refine hK.out _ _ (fun w' => ai w' (.slice a9 n9 c9) (1 * 2 ^ k) ∧ ai w' (.slice a n c) x ∧ Below w.heap.size w w' ∧ (w'.cell? ⟨w.heap.size + 1,0,none⟩ = some (.slice none 0 0) ∧ w'.frozen? ⟨w.heap.size + 1,0,none⟩ = false)) (by assumption) ((aD _ _).and ((aD _ _).and ((ao _).and (aA _ _)))) (⟨hN9,aa HT⟩) ?_
 clear hK K
 (try simp only [Act.put,List.setIfInBounds_toArray,List.set_cons_zero,List.set_cons_succ])
 clear HT hN9
 refine iX (c:=4) (o:={ dst:=some 13,op:=_,type:=_,pos:=_,after:=_,guard:=_ }) rfl (by kernel_rfl) (by kernel_rfl) (fun u hSu hTu K hK => ?_)
 go_simp
 refine (cS a a9 n c n9 c9 x (1 * 2 ^ k) _ hTu.2.1 hTu.1 (rA k) (aa HBX) (nI (by omega))).mono ?_
 rintro e w10 ⟨s10,s11,rfl,hN10,hN11,hb10⟩
 obtain ⟨a10,n10,c10,rfl⟩:=hN10.slice
 obtain ⟨a11,n11,c11,rfl⟩:=hN11.slice
 have HT:=ab ((((ao _).and (aA _ _))) _ _ hTu.2.2 hb10); clear hTu hSu
 (try go_wp2_with fail)
 refine hK.out _ _ (fun w' => ai w' (.slice a10 n10 c10) (x / (1 * 2 ^ k)) ∧ ai w' (.slice a11 n11 c11) (x % (1 * 2 ^ k)) ∧ Below w.heap.size w w' ∧ (w'.cell? ⟨w.heap.size + 1,0,none⟩ = some (.slice none 0 0) ∧ w'.frozen? ⟨w.heap.size + 1,0,none⟩ = false)) (by assumption) ((aD _ _).and ((aD _ _).and ((ao _).and (aA _ _)))) (⟨hN10,hN11,aa HT⟩) ?_
 clear hK K
 (try simp only [Act.put,List.setIfInBounds_toArray,List.set_cons_zero,List.set_cons_succ])
 clear HT hN10 hN11
 refine dM (i:=5) (oi:={ dst:=some 8,op:=_,type:=_,pos:=_,after:=_,guard:=_ }) rfl (by kernel_rfl) (by kernel_rfl) (fun _ _ _ h => h) (Or.inl ⟨by rfl,fun w hSw => by (try dsimp only at hSw); go_simp; with_reducible rfl⟩) ?_
 (try simp only [Act.put,List.setIfInBounds_toArray,List.set_cons_zero,List.set_cons_succ])
 refine dM (i:=6) (oi:={ dst:=some 14,op:=_,type:=_,pos:=_,after:=_,guard:=_ }) rfl (by kernel_rfl) (by kernel_rfl) (fun _ _ _ h => h) (Or.inl ⟨by rfl,fun w hSw => by (try dsimp only at hSw); go_simp; with_reducible rfl⟩) ?_
 (try simp only [Act.put,List.setIfInBounds_toArray,List.set_cons_zero,List.set_cons_succ])
 refine dM (i:=7) (oi:={ dst:=some 15,op:=_,type:=_,pos:=_,after:=_,guard:=_ }) rfl (by kernel_rfl) (by kernel_rfl) (fun _ _ _ h => h) (Or.inl ⟨by rfl,fun w hSw => by (try dsimp only at hSw); go_simp; with_reducible rfl⟩) ?_
 (try simp only [Act.put,List.setIfInBounds_toArray,List.set_cons_zero,List.set_cons_succ])
 refine zR (by kernel_rfl) (fun w11 b1 b2 hb hSu hTu k1 k2 => ?_)
 (try simp only [Act.put,List.setIfInBounds_toArray,List.set_cons_zero,List.set_cons_succ])
 obtain ⟨h1,h2,h3,h4,h5⟩:=hTu
 have c1:=k1.cell; have f1:=k1.thawed; have c2:=k2.cell; have f2:=k2.thawed
 have z1:=k1.base; have z2:=k2.base
 unfold ptr
 have hc2 : (w11.setCell ⟨b1,0,none⟩ (.slice a10 n10 c10)).cell? ⟨b2,0,none⟩ = some (.slice none 0 0):=by rw [World.cell?_setCell_other _ _ _ _ (by intro he; injection he with he1; omega)]; exact c2
 have hr2 : ((w11.setCell ⟨b1,0,none⟩ (.slice a10 n10 c10)).setCell ⟨b2,0,none⟩ (.slice a11 n11 c11)).cell? ⟨w.heap.size + 1,0,none⟩ = some (.slice none 0 0):=by
  rw [World.cell?_setCell_other _ _ _ _ (by intro he; injection he with he1; omega),World.cell?_setCell_other _ _ _ _ (by intro he; injection he with he1; omega)]; exact h4
 have hr1 : ((w11.setCell ⟨b1,0,none⟩ (.slice a10 n10 c10)).setCell ⟨b2,0,none⟩ (.slice a11 n11 c11)).cell? ⟨b1,0,none⟩ = some (.slice a10 n10 c10):=by
  rw [World.cell?_setCell_other _ _ _ _ (by intro he; injection he with he1; omega)]; exact World.cell?_setCell_same _ _ _ c1
 have hr0 : ((w11.setCell ⟨b1,0,none⟩ (.slice a10 n10 c10)).setCell ⟨b2,0,none⟩ (.slice a11 n11 c11)).cell? ⟨b2,0,none⟩ = some (.slice a11 n11 c11):=World.cell?_setCell_same _ _ _ hc2
 have hs2 : ((w11.setCell ⟨b1,0,none⟩ (.slice a10 n10 c10)).setCell ⟨b2,0,none⟩ (.slice a11 n11 c11)).cell? ⟨w.heap.size,0,none⟩ = some (.slice a n c):=by
  rw [World.cell?_setCell_other _ _ _ _ (by intro he; injection he with he1; omega),World.cell?_setCell_other _ _ _ _ (by intro he; injection he with he1; omega)]; exact hSu
 refine ct #[true,true,true,true,true,true,true,true,true,true,false,false] (by kernel_rfl) ?_
 refine wpAnyH_ready (rs:=[10]) (by kernel_rfl) (by simp) ?_
 refine AllReadyH.cons (o:={ dst:=none,op:=_,type:=_,pos:=_,after:=_,guard:=_ }) rfl (fun K hK => ?_) AllReadyH.nil
 go_simp
 refine hK.out _ _ ?_ (fun hHeld => ?_)
 ·rw [World.cell?_setCell_other _ _ _ _ (by intro he; injection he with he1; omega)]; exact hSu
 clear hK K
 refine ct #[true,true,true,true,true,true,true,true,true,true,true,false] (by kernel_rfl) ?_
 refine wpAnyH_ready (rs:=[11]) (by kernel_rfl) (by simp) ?_
 refine AllReadyH.cons (o:={ dst:=none,op:=_,type:=_,pos:=_,after:=_,guard:=_ }) rfl (fun K hK => ?_) AllReadyH.nil
 go_simp
 refine hK.out _ _ hs2 (fun hHeld => ?_)
 clear hK K
 refine wpAnyH_done (by kernel_rfl) ?_ _
 have B2 : Below w.heap.size w ((w11.setCell ⟨b1,0,none⟩ (.slice a10 n10 c10)).setCell ⟨b2,0,none⟩ (.slice a11 n11 c11)):=(h3.setCell (by simp; omega) _).setCell (by simp; omega) _
 have N1:=ab (dV h1 c1 c2 hb (.slice a10 n10 c10) (.slice a11 n11 c11)); have N2:=ab (dV h2 c1 c2 hb (.slice a10 n10 c10) (.slice a11 n11 c11))
 have f5 : ((w11.setCell ⟨b1,0,none⟩ (.slice a10 n10 c10)).setCell ⟨b2,0,none⟩ (.slice a11 n11 c11)).frozen? ⟨w.heap.size + 1,0,none⟩ = false:=by rw [aW,aW]; exact h5
 generalize (w11.setCell ⟨b1,0,none⟩ (.slice a10 n10 c10)).setCell ⟨b2,0,none⟩ (.slice a11 n11 c11) = w12 at *
 clear hHeld hs2 hc2 c1 c2 f1 f2 h1 h2 h3 h4 h5 hSu k1 k2 hb8 hb9 hb10
 have hw : w.heap.size + 1 ≠ b1 ∧ w.heap.size + 1 ≠ b2:=⟨by omega,by omega⟩
 go_wp2_with fail
 go_region
 all_goals
  go_wp2
  refine bodyPost_ret (v:=.tuple #[.agg #[.slice a10 n10 c10],.bool (decide ((0 : Int) < (n11 : Int)))]) (by simp [results,Tryz.results259,go_sem,hr2]) rfl ⟨.slice a10 n10 c10,?_,?_,?_⟩
  ·have h:=(aa N2).pos
   rw [Nat.one_mul] at h
   simp only [← h]
   simp
  ·have h:=(aa N1).store hr2 (.slice a10 n10 c10)
   rw [Nat.one_mul] at h
   exact h
  ·exact (B2.setCell (by simp) _).drew
end Go.Proofs.YtpbgpdmffejdgaaGreatDoor.W
namespace Go.Proofs.YtpbgpdmffejdgaaGreatDoor
set_option maxRecDepth 100000
set_option maxHeartbeats 2000000
open Go.RowKit
open Go.Proofs.YtpbgpdmffejdgaaGreatDoor.W
structure QSt (N B : Nat) (w : World) (bs s1 s2 : Value) (y q r : Nat) (w' : World) : Prop where
 cb : w'.cell? ⟨N + 1,0,none⟩ = some bs
 c1 : w'.cell? ⟨B,0,none⟩ = some s1
 c2 : w'.cell? ⟨B + 1,0,none⟩ = some s2
 cr : w'.cell? ⟨N + 1 + 1,0,none⟩ = some (.slice none 0 0)
 fr : w'.frozen? ⟨N + 1 + 1,0,none⟩ = false
 nb : ai w' bs y
 n1 : ai w' s1 q
 n2 : ai w' s2 r
 bel : Below w.heap.size w w'
theorem QSt.below {N B : Nat} {w : World} {bs s1 s2 : Value} {y q r : Nat} {w' w'' : World} (h : QSt N B w bs s1 s2 y q r w') (hb : Below w'.heap.size w' w'') : QSt N B w bs s1 s2 y q r w'':=
 { cb:=aw hb (ag h.cb) h.cb,c1:=aw hb (ag h.c1) h.c1,c2:=aw hb (ag h.c2) h.c2,cr:=aw hb (ag h.cr) h.cr,fr:=by rw [hb.frozen (ag h.cr)]; exact h.fr,nb:=h.nb.below hb,n1:=h.n1.below hb,n2:=h.n2.below hb,bel:=ac h.bel hb }
theorem fk {b : Nat} {v : Value} {w : World} (h : w.cell? ⟨b,0,none⟩ = some v) (hf : w.frozen? ⟨b,0,none⟩ = false) : aS b 1 w:=fun o ho => by
 match o,ho with
 | 0,_ => exact ⟨⟨v,h⟩,hf⟩
theorem ia (a : Option Addr) (n c x : Nat) (w : World) (hx : ai w (.slice a n c) x) (hn : n ≤ 1000) :
 Calls Tryz.prog 59 #[.agg #[.slice a n c],.int .i64 1] w fun e w' => ∃ s',e = .returned (.agg #[s']) ∧ ai w' s' (x * 2 ^ 1) ∧ Below w.heap.size w w':=cB a n c x 1 w hx hn (by omega)
theorem amm (a b : Option Addr) (n c m d x y : Nat) (w : World) (hx : ai w (.slice a n c) x) (hy : ai w (.slice b m d) y) (hy0 : y ≠ 0) (bx : x < pw 300) (hby : y < pw 300) (hv : aK (x % y * 2 ^ 1) y = 1) :
 Calls Tryz.prog 275 #[.agg #[.slice a n c],.agg #[.slice b m d]] w fun e w' => ∃ s',e = .returned (.agg #[s']) ∧ ai w' s' (x / y + 1) ∧ Below w.heap.size w w':=by
 have HV:=ab hv; have HR:=ab (Nat.lt_of_le_of_lt (Nat.mod_le x y) bx); have HX:=ab hx; have HY:=ab hy
 have HQ:=ab (Nat.lt_of_le_of_lt (Nat.div_le_self x y) bx)
 clear hv hx hy
 go_enter Tryz.func275,Tryz.ntmps275
 go_wp2_with fail
 refine (cS a b n c m d x y _ ((aa HX).below (ad (aq _ _ _) _)) ((aa HY).below (ad (aq _ _ _) _)) hy0 bx hby).mono ?_
 rintro _ w1 ⟨s1,s2,rfl,hN1,hN2,hb⟩
 obtain ⟨a1,n1,c1,rfl⟩:=hN1.slice
 obtain ⟨a2,n2,c2,rfl⟩:=hN2.slice
 have hz : w.heap.size + 1 + 1 + 1 ≤ w1.heap.size:=by have:=hb.size; simp at this; omega
 have HNE : Hid (w1.heap.size ≠ w.heap.size + 1 + 1):=by unfold Hid; omega
 have HK : Hid (QSt w.heap.size w1.heap.size w (.slice b m d) (.slice a1 n1 c1) (.slice a2 n2 c2) y (x / y) (x % y) ((w1.alloc (.cells #[.slice a1 n1 c1] 41)).alloc (.cells #[.slice a2 n2 c2] 41))):=by
  have hb2:=aq w1 (.cells #[.slice a1 n1 c1] 41) (.cells #[.slice a2 n2 c2] 41)
  have ha : Below w.heap.size w (((w.alloc (.cells #[.slice a n c] 41)).alloc (.cells #[.slice b m d] 41)).alloc (.cells #[.slice none 0 0] 41)):=ad (aq _ _ _) _
  have hB:=ac hb hb2
  exact { cb:=by rw [hB.cell (by simp)]; simp [go_sem],c1:=by simp [go_sem],c2:=by simp [go_sem],cr:=by rw [hB.cell (by simp)]; simp [go_sem],fr:=by rw [hB.frozen (by simp)]; simp [go_sem],nb:=((aa HY).below ha).below hB,n1:=hN1.below hb2,n2:=hN2.below hb2,bel:=ac ha hB }
 clear hb hN1 hN2 HX HY
 go_wp2_with fail
 have HK:=ab ((aa HK).below ((Below.refl _ _).drew))
 refine wp_region_held_drew (S:=fun w' => w'.cell? ⟨w.heap.size + 1,0,none⟩ = some (.slice b m d) ∧ w'.cell? ⟨w1.heap.size,0,none⟩ = some (.slice a1 n1 c1) ∧ w'.cell? ⟨w1.heap.size + 1,0,none⟩ = some (.slice a2 n2 c2)) (by kernel_rfl) ?_ (fun hHeld => ?_)
 ·(try dsimp only)
  exact ⟨(aa HK).cb,(aa HK).c1,(aa HK).c2⟩
 refine aC 5 (by kernel_rfl) ?_
 refine tkA 0 14 1 ?_
 refine tkA 2 16 5 ?_
 refine rdA 1 7 (fun Kk hKk => ?_)
 go_simp
 refine (ia _ _ _ _ _ (aa HK).n2 (Nat.le_trans ((aa HK).n2.short (ck 300 (aa HR) (by omega))) (by omega))).mono ?_
 rintro _ w3 ⟨s3,rfl,hN3,hbl⟩
 obtain ⟨a3,n3,c3,rfl⟩:=hN3.slice
 have H3:=ab hN3
 have HK:=ab ((aa HK).below hbl)
 clear hbl hN3
 (try go_wp2_with fail)
 refine oA hKk (⟨(aa HK).cb,(aa HK).c1,(aa HK).c2⟩) fun hHeld => ?_
 clear hKk Kk
 refine rdA 3 15 (fun Kk hKk => ?_)
 go_simp
 refine (bc _ _ _ _ _ _ _ _ _ (aa H3) (aa HK).nb).mono ?_
 rw [aa HV]
 rintro _ w4 ⟨rfl,hbl⟩
 have HK:=ab ((aa HK).below hbl)
 clear hbl H3
 (try go_wp2_with fail)
 refine oA hKk (⟨(aa HK).cb,(aa HK).c1,(aa HK).c2⟩) fun hHeld => ?_
 clear hKk Kk
 refine tkA 4 7 31 ?_
 refine wpAnyH_done (by kernel_rfl) ?_ _
 clear hHeld
 go_wp2_with fail
 have HK:=ab ((aa HK).below ((Below.refl _ _).drew))
 refine wp_region_held_drew (S:=fun w' => w'.cell? ⟨w1.heap.size,0,none⟩ = some (.slice a1 n1 c1) ∧ aS (w.heap.size + 1 + 1) 1 w') (by kernel_rfl) ?_ (fun hHeld => ?_)
 ·(try dsimp only)
  exact ⟨(aa HK).c1,fk (aa HK).cr (aa HK).fr⟩
 refine aC 4 (by kernel_rfl) ?_
 refine tkA 0 30 1 ?_
 refine rdA 1 3 (fun Kk hKk => ?_)
 go_simp
 refine (dN _).mono ?_
 rintro _ w8 ⟨s8,rfl,hN8,hbl⟩
 obtain ⟨a8,n8,c8,rfl⟩:=hN8.slice
 have H8:=ab hN8
 have HK:=ab ((aa HK).below hbl)
 clear hbl hN8
 (try go_wp2_with fail)
 refine oA hKk (⟨(aa HK).c1,fk (aa HK).cr (aa HK).fr⟩) fun hHeld => ?_
 clear hKk Kk
 refine rdA 2 7 (fun Kk hKk => ?_)
 go_simp
 refine (bO _ _ _ _ _ _ _ _ _ (aa HK).n1 (aa H8) (Nat.le_trans ((aa HK).n1.short (ck 300 (aa HQ) (by omega))) (by omega)) (Nat.le_trans ((aa H8).short (k:=1) (by rw [re]; omega)) (by omega))).mono ?_
 rintro _ w9 ⟨s9,rfl,hN9,hbl⟩
 obtain ⟨a9,n9,c9,rfl⟩:=hN9.slice
 have H9:=ab hN9
 have HK:=ab ((aa HK).below hbl)
 clear hbl hN9
 (try go_wp2_with fail)
 refine oA hKk (⟨(aa HK).c1,fk (aa HK).cr (aa HK).fr⟩) fun hHeld => ?_
 clear hKk Kk
 refine rdA 3 15 (fun Kk hKk => ?_)
 obtain ⟨⟨v0,c0⟩,f0⟩:=hHeld.2 0 (by omega)
 go_simp
 refine oA hKk (⟨ax _ _ _ (aa HNE) hHeld.1,hHeld.2.set _ _⟩) fun hHeld => ?_
 clear hKk Kk
 refine wpAnyH_done (by kernel_rfl) ?_ _
 clear hHeld
 have cr:=(aa HK).cr
 go_wp2_with fail
 refine bodyPost_ret (v:=.agg #[.slice a9 n9 c9]) (by simp [results,Tryz.results275,go_sem,cr]) rfl ⟨_,rfl,(aa H9).store cr _,?_⟩
 exact (aa HK).bel.setCell (by simp; omega) _
theorem amn (a b : Option Addr) (n c m d x y : Nat) (w : World) (hx : ai w (.slice a n c) x) (hy : ai w (.slice b m d) y) (hy0 : y ≠ 0) (bx : x < pw 300) (hby : y < pw 300) (hv : aK (x % y * 2 ^ 1) y = (-1)) :
 Calls Tryz.prog 275 #[.agg #[.slice a n c],.agg #[.slice b m d]] w fun e w' => ∃ s',e = .returned (.agg #[s']) ∧ ai w' s' (x / y) ∧ Below w.heap.size w w':=by
 have HV:=ab hv; have HR:=ab (Nat.lt_of_le_of_lt (Nat.mod_le x y) bx); have HX:=ab hx; have HY:=ab hy
 clear hv hx hy
 go_enter Tryz.func275,Tryz.ntmps275
 go_wp2_with fail
 refine (cS a b n c m d x y _ ((aa HX).below (ad (aq _ _ _) _)) ((aa HY).below (ad (aq _ _ _) _)) hy0 bx hby).mono ?_
 rintro _ w1 ⟨s1,s2,rfl,hN1,hN2,hb⟩
 obtain ⟨a1,n1,c1,rfl⟩:=hN1.slice
 obtain ⟨a2,n2,c2,rfl⟩:=hN2.slice
 have hz : w.heap.size + 1 + 1 + 1 ≤ w1.heap.size:=by have:=hb.size; simp at this; omega
 have HK : Hid (QSt w.heap.size w1.heap.size w (.slice b m d) (.slice a1 n1 c1) (.slice a2 n2 c2) y (x / y) (x % y) ((w1.alloc (.cells #[.slice a1 n1 c1] 41)).alloc (.cells #[.slice a2 n2 c2] 41))):=by
  have hb2:=aq w1 (.cells #[.slice a1 n1 c1] 41) (.cells #[.slice a2 n2 c2] 41)
  have ha : Below w.heap.size w (((w.alloc (.cells #[.slice a n c] 41)).alloc (.cells #[.slice b m d] 41)).alloc (.cells #[.slice none 0 0] 41)):=ad (aq _ _ _) _
  have hB:=ac hb hb2
  exact { cb:=by rw [hB.cell (by simp)]; simp [go_sem],c1:=by simp [go_sem],c2:=by simp [go_sem],cr:=by rw [hB.cell (by simp)]; simp [go_sem],fr:=by rw [hB.frozen (by simp)]; simp [go_sem],nb:=((aa HY).below ha).below hB,n1:=hN1.below hb2,n2:=hN2.below hb2,bel:=ac ha hB }
 clear hb hN1 hN2 HX HY
 go_wp2_with fail
 have HK:=ab ((aa HK).below ((Below.refl _ _).drew))
 refine wp_region_held_drew (S:=fun w' => w'.cell? ⟨w.heap.size + 1,0,none⟩ = some (.slice b m d) ∧ w'.cell? ⟨w1.heap.size,0,none⟩ = some (.slice a1 n1 c1) ∧ w'.cell? ⟨w1.heap.size + 1,0,none⟩ = some (.slice a2 n2 c2)) (by kernel_rfl) ?_ (fun hHeld => ?_)
 ·(try dsimp only)
  exact ⟨(aa HK).cb,(aa HK).c1,(aa HK).c2⟩
 refine aC 5 (by kernel_rfl) ?_
 refine tkA 0 14 1 ?_
 refine tkA 2 16 5 ?_
 refine rdA 1 7 (fun Kk hKk => ?_)
 go_simp
 refine (ia _ _ _ _ _ (aa HK).n2 (Nat.le_trans ((aa HK).n2.short (ck 300 (aa HR) (by omega))) (by omega))).mono ?_
 rintro _ w3 ⟨s3,rfl,hN3,hbl⟩
 obtain ⟨a3,n3,c3,rfl⟩:=hN3.slice
 have H3:=ab hN3
 have HK:=ab ((aa HK).below hbl)
 clear hbl hN3
 (try go_wp2_with fail)
 refine oA hKk (⟨(aa HK).cb,(aa HK).c1,(aa HK).c2⟩) fun hHeld => ?_
 clear hKk Kk
 refine rdA 3 15 (fun Kk hKk => ?_)
 go_simp
 refine (bc _ _ _ _ _ _ _ _ _ (aa H3) (aa HK).nb).mono ?_
 rw [aa HV]
 rintro _ w4 ⟨rfl,hbl⟩
 have HK:=ab ((aa HK).below hbl)
 clear hbl H3
 (try go_wp2_with fail)
 refine oA hKk (⟨(aa HK).cb,(aa HK).c1,(aa HK).c2⟩) fun hHeld => ?_
 clear hKk Kk
 refine tkA 4 7 31 ?_
 refine wpAnyH_done (by kernel_rfl) ?_ _
 clear hHeld
 have cr:=(aa HK).cr
 have fr:=(aa HK).fr
 have c1':=(aa HK).c1
 go_wp2_with fail
 refine bodyPost_ret (v:=.agg #[.slice a1 n1 c1]) (by simp [results,Tryz.results275,go_sem,cr]) rfl ⟨_,rfl,(aa HK).n1.store cr _,?_⟩
 exact (aa HK).bel.setCell (by simp; omega) _
theorem amo {L : Int} (a b : Option Addr) (n c m d x y : Nat) (w : World) (hx : ai w (.slice a n c) x) (hy : ai w (.slice b m d) y) (hy0 : y ≠ 0) (bx : x < pw 300) (hby : y < pw 300) (hv : aK (x % y * 2 ^ 1) y = 0) (hl : lo (x / y) = L) (km : L.tmod 2 = 1) :
 Calls Tryz.prog 275 #[.agg #[.slice a n c],.agg #[.slice b m d]] w fun e w' => ∃ s',e = .returned (.agg #[s']) ∧ ai w' s' (x / y + 1) ∧ Below w.heap.size w w':=by
 have HV:=ab hv; have HR:=ab (Nat.lt_of_le_of_lt (Nat.mod_le x y) bx); have HX:=ab hx; have HY:=ab hy
 have HQ:=ab (Nat.lt_of_le_of_lt (Nat.div_le_self x y) bx)
 have HL:=ab hl
 clear hl
 clear hv hx hy
 go_enter Tryz.func275,Tryz.ntmps275
 go_wp2_with fail
 refine (cS a b n c m d x y _ ((aa HX).below (ad (aq _ _ _) _)) ((aa HY).below (ad (aq _ _ _) _)) hy0 bx hby).mono ?_
 rintro _ w1 ⟨s1,s2,rfl,hN1,hN2,hb⟩
 obtain ⟨a1,n1,c1,rfl⟩:=hN1.slice
 obtain ⟨a2,n2,c2,rfl⟩:=hN2.slice
 have hz : w.heap.size + 1 + 1 + 1 ≤ w1.heap.size:=by have:=hb.size; simp at this; omega
 have HNE : Hid (w1.heap.size ≠ w.heap.size + 1 + 1):=by unfold Hid; omega
 have HK : Hid (QSt w.heap.size w1.heap.size w (.slice b m d) (.slice a1 n1 c1) (.slice a2 n2 c2) y (x / y) (x % y) ((w1.alloc (.cells #[.slice a1 n1 c1] 41)).alloc (.cells #[.slice a2 n2 c2] 41))):=by
  have hb2:=aq w1 (.cells #[.slice a1 n1 c1] 41) (.cells #[.slice a2 n2 c2] 41)
  have ha : Below w.heap.size w (((w.alloc (.cells #[.slice a n c] 41)).alloc (.cells #[.slice b m d] 41)).alloc (.cells #[.slice none 0 0] 41)):=ad (aq _ _ _) _
  have hB:=ac hb hb2
  exact { cb:=by rw [hB.cell (by simp)]; simp [go_sem],c1:=by simp [go_sem],c2:=by simp [go_sem],cr:=by rw [hB.cell (by simp)]; simp [go_sem],fr:=by rw [hB.frozen (by simp)]; simp [go_sem],nb:=((aa HY).below ha).below hB,n1:=hN1.below hb2,n2:=hN2.below hb2,bel:=ac ha hB }
 clear hb hN1 hN2 HX HY
 go_wp2_with fail
 have HK:=ab ((aa HK).below ((Below.refl _ _).drew))
 refine wp_region_held_drew (S:=fun w' => w'.cell? ⟨w.heap.size + 1,0,none⟩ = some (.slice b m d) ∧ w'.cell? ⟨w1.heap.size,0,none⟩ = some (.slice a1 n1 c1) ∧ w'.cell? ⟨w1.heap.size + 1,0,none⟩ = some (.slice a2 n2 c2)) (by kernel_rfl) ?_ (fun hHeld => ?_)
 ·(try dsimp only)
  exact ⟨(aa HK).cb,(aa HK).c1,(aa HK).c2⟩
 refine aC 5 (by kernel_rfl) ?_
 refine tkA 0 14 1 ?_
 refine tkA 2 16 5 ?_
 refine rdA 1 7 (fun Kk hKk => ?_)
 go_simp
 refine (ia _ _ _ _ _ (aa HK).n2 (Nat.le_trans ((aa HK).n2.short (ck 300 (aa HR) (by omega))) (by omega))).mono ?_
 rintro _ w3 ⟨s3,rfl,hN3,hbl⟩
 obtain ⟨a3,n3,c3,rfl⟩:=hN3.slice
 have H3:=ab hN3
 have HK:=ab ((aa HK).below hbl)
 clear hbl hN3
 (try go_wp2_with fail)
 refine oA hKk (⟨(aa HK).cb,(aa HK).c1,(aa HK).c2⟩) fun hHeld => ?_
 clear hKk Kk
 refine rdA 3 15 (fun Kk hKk => ?_)
 go_simp
 refine (bc _ _ _ _ _ _ _ _ _ (aa H3) (aa HK).nb).mono ?_
 rw [aa HV]
 rintro _ w4 ⟨rfl,hbl⟩
 have HK:=ab ((aa HK).below hbl)
 clear hbl H3
 (try go_wp2_with fail)
 refine oA hKk (⟨(aa HK).cb,(aa HK).c1,(aa HK).c2⟩) fun hHeld => ?_
 clear hKk Kk
 refine tkA 4 7 31 ?_
 refine wpAnyH_done (by kernel_rfl) ?_ _
 clear hHeld
 have c1':=(aa HK).c1
 go_wp2_with fail
 refine (ek _ _ _ _ _ (aa HK).n1).mono ?_
 rw [aa HL]
 rintro _ w5 ⟨rfl,hbl⟩
 have HK:=ab ((aa HK).below hbl)
 clear hbl c1'
 go_wp2_with fail
 have HK:=ab ((aa HK).below ((Below.refl _ _).drew))
 refine wp_region_held_drew (S:=fun w' => w'.cell? ⟨w1.heap.size,0,none⟩ = some (.slice a1 n1 c1) ∧ aS (w.heap.size + 1 + 1) 1 w') (by kernel_rfl) ?_ (fun hHeld => ?_)
 ·(try dsimp only)
  exact ⟨(aa HK).c1,fk (aa HK).cr (aa HK).fr⟩
 refine aC 4 (by kernel_rfl) ?_
 refine tkA 0 30 1 ?_
 refine rdA 1 3 (fun Kk hKk => ?_)
 go_simp
 refine (dN _).mono ?_
 rintro _ w8 ⟨s8,rfl,hN8,hbl⟩
 obtain ⟨a8,n8,c8,rfl⟩:=hN8.slice
 have H8:=ab hN8
 have HK:=ab ((aa HK).below hbl)
 clear hbl hN8
 (try go_wp2_with fail)
 refine oA hKk (⟨(aa HK).c1,fk (aa HK).cr (aa HK).fr⟩) fun hHeld => ?_
 clear hKk Kk
 refine rdA 2 7 (fun Kk hKk => ?_)
 go_simp
 refine (bO _ _ _ _ _ _ _ _ _ (aa HK).n1 (aa H8) (Nat.le_trans ((aa HK).n1.short (ck 300 (aa HQ) (by omega))) (by omega)) (Nat.le_trans ((aa H8).short (k:=1) (by rw [re]; omega)) (by omega))).mono ?_
 rintro _ w9 ⟨s9,rfl,hN9,hbl⟩
 obtain ⟨a9,n9,c9,rfl⟩:=hN9.slice
 have H9:=ab hN9
 have HK:=ab ((aa HK).below hbl)
 clear hbl hN9
 (try go_wp2_with fail)
 refine oA hKk (⟨(aa HK).c1,fk (aa HK).cr (aa HK).fr⟩) fun hHeld => ?_
 clear hKk Kk
 refine rdA 3 15 (fun Kk hKk => ?_)
 obtain ⟨⟨v0,c0⟩,f0⟩:=hHeld.2 0 (by omega)
 go_simp
 refine oA hKk (⟨ax _ _ _ (aa HNE) hHeld.1,hHeld.2.set _ _⟩) fun hHeld => ?_
 clear hKk Kk
 refine wpAnyH_done (by kernel_rfl) ?_ _
 clear hHeld
 have cr:=(aa HK).cr
 go_wp2_with fail
 refine bodyPost_ret (v:=.agg #[.slice a9 n9 c9]) (by simp [results,Tryz.results275,go_sem,cr]) rfl ⟨_,rfl,(aa H9).store cr _,?_⟩
 exact (aa HK).bel.setCell (by simp; omega) _
theorem amp {L : Int} (a b : Option Addr) (n c m d x y : Nat) (w : World) (hx : ai w (.slice a n c) x) (hy : ai w (.slice b m d) y) (hy0 : y ≠ 0) (bx : x < pw 300) (hby : y < pw 300) (hv : aK (x % y * 2 ^ 1) y = 0) (hl : lo (x / y) = L) (km : L.tmod 2 = 0) :
 Calls Tryz.prog 275 #[.agg #[.slice a n c],.agg #[.slice b m d]] w fun e w' => ∃ s',e = .returned (.agg #[s']) ∧ ai w' s' (x / y) ∧ Below w.heap.size w w':=by
 have HV:=ab hv; have HR:=ab (Nat.lt_of_le_of_lt (Nat.mod_le x y) bx); have HX:=ab hx; have HY:=ab hy
 have HL:=ab hl
 clear hl
 clear hv hx hy
 go_enter Tryz.func275,Tryz.ntmps275
 go_wp2_with fail
 refine (cS a b n c m d x y _ ((aa HX).below (ad (aq _ _ _) _)) ((aa HY).below (ad (aq _ _ _) _)) hy0 bx hby).mono ?_
 rintro _ w1 ⟨s1,s2,rfl,hN1,hN2,hb⟩
 obtain ⟨a1,n1,c1,rfl⟩:=hN1.slice
 obtain ⟨a2,n2,c2,rfl⟩:=hN2.slice
 have hz : w.heap.size + 1 + 1 + 1 ≤ w1.heap.size:=by have:=hb.size; simp at this; omega
 have HK : Hid (QSt w.heap.size w1.heap.size w (.slice b m d) (.slice a1 n1 c1) (.slice a2 n2 c2) y (x / y) (x % y) ((w1.alloc (.cells #[.slice a1 n1 c1] 41)).alloc (.cells #[.slice a2 n2 c2] 41))):=by
  have hb2:=aq w1 (.cells #[.slice a1 n1 c1] 41) (.cells #[.slice a2 n2 c2] 41)
  have ha : Below w.heap.size w (((w.alloc (.cells #[.slice a n c] 41)).alloc (.cells #[.slice b m d] 41)).alloc (.cells #[.slice none 0 0] 41)):=ad (aq _ _ _) _
  have hB:=ac hb hb2
  exact { cb:=by rw [hB.cell (by simp)]; simp [go_sem],c1:=by simp [go_sem],c2:=by simp [go_sem],cr:=by rw [hB.cell (by simp)]; simp [go_sem],fr:=by rw [hB.frozen (by simp)]; simp [go_sem],nb:=((aa HY).below ha).below hB,n1:=hN1.below hb2,n2:=hN2.below hb2,bel:=ac ha hB }
 clear hb hN1 hN2 HX HY
 go_wp2_with fail
 have HK:=ab ((aa HK).below ((Below.refl _ _).drew))
 refine wp_region_held_drew (S:=fun w' => w'.cell? ⟨w.heap.size + 1,0,none⟩ = some (.slice b m d) ∧ w'.cell? ⟨w1.heap.size,0,none⟩ = some (.slice a1 n1 c1) ∧ w'.cell? ⟨w1.heap.size + 1,0,none⟩ = some (.slice a2 n2 c2)) (by kernel_rfl) ?_ (fun hHeld => ?_)
 ·(try dsimp only)
  exact ⟨(aa HK).cb,(aa HK).c1,(aa HK).c2⟩
 refine aC 5 (by kernel_rfl) ?_
 refine tkA 0 14 1 ?_
 refine tkA 2 16 5 ?_
 refine rdA 1 7 (fun Kk hKk => ?_)
 go_simp
 refine (ia _ _ _ _ _ (aa HK).n2 (Nat.le_trans ((aa HK).n2.short (ck 300 (aa HR) (by omega))) (by omega))).mono ?_
 rintro _ w3 ⟨s3,rfl,hN3,hbl⟩
 obtain ⟨a3,n3,c3,rfl⟩:=hN3.slice
 have H3:=ab hN3
 have HK:=ab ((aa HK).below hbl)
 clear hbl hN3
 (try go_wp2_with fail)
 refine oA hKk (⟨(aa HK).cb,(aa HK).c1,(aa HK).c2⟩) fun hHeld => ?_
 clear hKk Kk
 refine rdA 3 15 (fun Kk hKk => ?_)
 go_simp
 refine (bc _ _ _ _ _ _ _ _ _ (aa H3) (aa HK).nb).mono ?_
 rw [aa HV]
 rintro _ w4 ⟨rfl,hbl⟩
 have HK:=ab ((aa HK).below hbl)
 clear hbl H3
 (try go_wp2_with fail)
 refine oA hKk (⟨(aa HK).cb,(aa HK).c1,(aa HK).c2⟩) fun hHeld => ?_
 clear hKk Kk
 refine tkA 4 7 31 ?_
 refine wpAnyH_done (by kernel_rfl) ?_ _
 clear hHeld
 have c1':=(aa HK).c1
 go_wp2_with fail
 refine (ek _ _ _ _ _ (aa HK).n1).mono ?_
 rw [aa HL]
 rintro _ w5 ⟨rfl,hbl⟩
 have HK:=ab ((aa HK).below hbl)
 clear hbl c1'
 have cr:=(aa HK).cr
 have fr:=(aa HK).fr
 have c1':=(aa HK).c1
 go_wp2_with fail
 refine bodyPost_ret (v:=.agg #[.slice a1 n1 c1]) (by simp [results,Tryz.results275,go_sem,cr]) rfl ⟨_,rfl,(aa HK).n1.store cr _,?_⟩
 exact (aa HK).bel.setCell (by simp; omega) _
theorem pR (a b : Option Addr) (n c m d x y : Nat) (w : World) (hx : ai w (.slice a n c) x) (hy : ai w (.slice b m d) y) (hy0 : y ≠ 0) (bx : x < pw 300) (hby : y < pw 300) :
 Calls Tryz.prog 275 #[.agg #[.slice a n c],.agg #[.slice b m d]] w fun e w' => ∃ s',e = .returned (.agg #[s']) ∧ ai w' s' (bk x y) ∧ Below w.heap.size w w':=by
 have hl : lo (x / y) = ((x / y % 18446744073709551616 : Nat) : Int):=rfl
 unfold bk
 by_cases h1 : y < 2 * (x % y)
 ·rw [if_pos (Or.inl h1)]
  exact amm a b n c m d x y w hx hy hy0 bx hby (by unfold aK; rw [if_neg (by omega),if_pos (by omega)])
 ·by_cases h2 : 2 * (x % y) = y
  ·have hv : aK (x % y * 2 ^ 1) y = 0:=by unfold aK; rw [if_neg (by omega),if_neg (by omega)]
   by_cases h3 : x / y % 2 = 1
   ·rw [if_pos (Or.inr ⟨h2,h3⟩)]
    refine amo a b n c m d x y w hx hy hy0 bx hby hv hl ?_
    rw [Int.tmod_eq_emod_of_nonneg (by omega)]
    omega
   ·rw [if_neg (by omega)]
    refine amp a b n c m d x y w hx hy hy0 bx hby hv hl ?_
    rw [Int.tmod_eq_emod_of_nonneg (by omega)]
    omega
  ·rw [if_neg (by omega)]
   exact amn a b n c m d x y w hx hy hy0 bx hby (by unfold aK; rw [if_pos (by omega)])
set_option maxHeartbeats 1000000
theorem si {w e f P Q b : Int} (h : Kd w e f P Q b) (W : World) :
 Calls Tryz.prog 256 #[.int .i64 w] W fun r W' => r = .returned (.int .i64 (1 - b - f)) ∧ Below W.heap.size W W':=by
 have k1 : IntKind.i64.wrap (1 - b) = 1 - b:=aj (by rcases h with h | h <;> omega) (by rcases h with h | h <;> omega)
 have k2 : IntKind.i64.wrap (1 - b - f) = 1 - b - f:=aj (by rcases h with h | h <;> omega) (by rcases h with h | h <;> omega)
 go_enter Tryz.func256,Tryz.ntmps256
 go_wp2_with fail
 refine (kX h _).mono ?_
 rintro _ w1 ⟨rfl,hb1⟩
 go_wp2_with fail
 refine (d9 h _).mono ?_
 rintro _ w2 ⟨rfl,hb2⟩
 go_wp2_with fail
 go_ret
 exact ⟨rfl,ac hb1 hb2⟩
theorem eK (a : Option Addr) (n c x : Nat) (s : Int) (w : World) (hx : ai w (.slice a n c) x) (hn : n ≤ 1000) (h0 : 0 ≤ s) (h1 : s ≤ 10000) :
 Calls Tryz.prog 59 #[.agg #[.slice a n c],.int .i64 s] w fun e w' => ∃ s',e = .returned (.agg #[s']) ∧ ai w' s' (x * 2 ^ s.toNat) ∧ Below w.heap.size w w':=by
 have:=cB a n c x s.toNat w hx hn (by omega)
 rw [show ((s.toNat : Nat) : Int) = s by omega] at this
 exact this
structure j3 (N : Nat) (w : World) (sa sb : Value) (x y : Nat) (w' : World) : Prop where
 ca : w'.cell? ⟨N,0,none⟩ = some sa
 cb : w'.cell? ⟨N + 1,0,none⟩ = some sb
 na : ai w' sa x
 nb : ai w' sb y
 bel : Below w.heap.size w w'
theorem j3.below {N : Nat} {w : World} {sa sb : Value} {x y : Nat} {w' w'' : World} (h : j3 N w sa sb x y w') (hb : Below w'.heap.size w' w'') : j3 N w sa sb x y w'':=
 { ca:=aw hb (ag h.ca) h.ca,cb:=aw hb (ag h.cb) h.cb,na:=h.na.below hb,nb:=h.nb.below hb,bel:=ac h.bel hb }
theorem pN (a b : Option Addr) (n c m d x y : Nat) (s : Int) (w : World) (hx : ai w (.slice a n c) x) (hy : ai w (.slice b m d) y) (bx : x < pw 300) (h0 : 0 ≤ s) (h2 : s ≤ 10000) :
 Calls Tryz.prog 257 #[.agg #[.slice a n c],.agg #[.slice b m d],.int .i64 s] w fun e w' => e = .returned (.bool (decide (aK (x * 2 ^ s.toNat) y < 0))) ∧ Below w.heap.size w w':=by
 have HA:=ab bx; have HX:=ab hx; have HY:=ab hy
 clear hx hy
 go_enter Tryz.func257,Tryz.ntmps257
 go_wp2_with fail
 have HK : Hid (j3 w.heap.size w (.slice a n c) (.slice b m d) x y ((w.alloc (.cells #[.slice a n c] 41)).alloc (.cells #[.slice b m d] 41)).drew):=
  { ca:=by simp [go_sem],cb:=by simp [go_sem],na:=(aa HX).below (aq _ _ _).drew,nb:=(aa HY).below (aq _ _ _).drew,bel:=(aq _ _ _).drew }
 clear HX HY
 refine wp_region_held_drew (S:=fun w' => w'.cell? ⟨w.heap.size,0,none⟩ = some (.slice a n c) ∧ w'.cell? ⟨w.heap.size + 1,0,none⟩ = some (.slice b m d)) (by kernel_rfl) ?_ (fun hHeld => ?_)
 ·(try dsimp only)
  exact ⟨(aa HK).ca,(aa HK).cb⟩
 refine aC 7 (by kernel_rfl) ?_
 refine tkA 0 9 1 ?_
 refine tkA 1 10 3 ?_
 refine tkA 3 12 11 ?_
 refine rdA 2 15 (fun Kk hKk => ?_)
 go_simp
 refine (eK _ _ _ _ _ _ (aa HK).na (Nat.le_trans ((aa HK).na.short (aa HA)) (by omega)) (by omega) (by omega)).mono ?_
 rintro _ w3 ⟨s3,rfl,hN3,hbl⟩
 obtain ⟨a3,n3,c3,rfl⟩:=hN3.slice
 have H3:=ab hN3
 have HK:=ab ((aa HK).below hbl)
 clear hbl hN3
 (try go_wp2_with fail)
 refine oA hKk (⟨(aa HK).ca,(aa HK).cb⟩) fun hHeld => ?_
 clear hKk Kk
 refine rdA 4 31 (fun Kk hKk => ?_)
 go_simp
 refine (bc _ _ _ _ _ _ _ _ _ (aa H3) (aa HK).nb).mono ?_
 rintro _ w4 ⟨rfl,hbl⟩
 have HK:=ab ((aa HK).below hbl)
 clear hbl
 (try go_wp2_with fail)
 refine oA hKk (⟨(aa HK).ca,(aa HK).cb⟩) fun hHeld => ?_
 clear hKk Kk
 refine tkA 5 14 63 ?_
 refine tkA 6 6 127 ?_
 refine wpAnyH_done (by kernel_rfl) ?_ _
 clear hHeld
 go_wp2
 go_ret
 exact ⟨rfl,(aa HK).bel⟩
theorem pO (a b : Option Addr) (n c m d x y : Nat) (s : Int) (w : World) (hx : ai w (.slice a n c) x) (hy : ai w (.slice b m d) y) (hby : y < pw 300) (h0 : ¬ 0 ≤ s) (h1 : -10000 ≤ s) (kn : IntKind.i64.wrap (-s) = -s) :
 Calls Tryz.prog 257 #[.agg #[.slice a n c],.agg #[.slice b m d],.int .i64 s] w fun e w' => e = .returned (.bool (decide (aK x (y * 2 ^ (-s).toNat) < 0))) ∧ Below w.heap.size w w':=by
 have HB:=ab hby; have HX:=ab hx; have HY:=ab hy
 clear hx hy
 go_enter Tryz.func257,Tryz.ntmps257
 go_wp2_with fail
 have HK : Hid (j3 w.heap.size w (.slice a n c) (.slice b m d) x y ((w.alloc (.cells #[.slice a n c] 41)).alloc (.cells #[.slice b m d] 41)).drew):=
  { ca:=by simp [go_sem],cb:=by simp [go_sem],na:=(aa HX).below (aq _ _ _).drew,nb:=(aa HY).below (aq _ _ _).drew,bel:=(aq _ _ _).drew }
 clear HX HY
 refine wp_region_held_drew (S:=fun w' => w'.cell? ⟨w.heap.size,0,none⟩ = some (.slice a n c) ∧ w'.cell? ⟨w.heap.size + 1,0,none⟩ = some (.slice b m d)) (by kernel_rfl) ?_ (fun hHeld => ?_)
 ·(try dsimp only)
  exact ⟨(aa HK).ca,(aa HK).cb⟩
 refine aC 8 (by kernel_rfl) ?_
 refine tkA 0 15 1 ?_
 refine tkA 1 16 3 ?_
 refine tkA 2 17 7 ?_
 refine tkA 3 18 15 ?_
 refine rdA 4 31 (fun Kk hKk => ?_)
 go_simp
 refine (eK _ _ _ _ _ _ (aa HK).nb (Nat.le_trans ((aa HK).nb.short (aa HB)) (by omega)) (by omega) (by omega)).mono ?_
 rintro _ w3 ⟨s3,rfl,hN3,hbl⟩
 obtain ⟨a3,n3,c3,rfl⟩:=hN3.slice
 have H3:=ab hN3
 have HK:=ab ((aa HK).below hbl)
 clear hbl hN3
 (try go_wp2_with fail)
 refine oA hKk (⟨(aa HK).ca,(aa HK).cb⟩) fun hHeld => ?_
 clear hKk Kk
 refine rdA 5 63 (fun Kk hKk => ?_)
 go_simp
 refine (bc _ _ _ _ _ _ _ _ _ (aa HK).na (aa H3)).mono ?_
 rintro _ w4 ⟨rfl,hbl⟩
 have HK:=ab ((aa HK).below hbl)
 clear hbl
 (try go_wp2_with fail)
 refine oA hKk (⟨(aa HK).ca,(aa HK).cb⟩) fun hHeld => ?_
 clear hKk Kk
 refine tkA 6 21 127 ?_
 refine tkA 7 6 255 ?_
 refine wpAnyH_done (by kernel_rfl) ?_ _
 clear hHeld
 go_wp2
 go_ret
 exact ⟨rfl,(aa HK).bel⟩
theorem pP (a b : Option Addr) (n c m d x y : Nat) (s : Int) (w : World) (hx : ai w (.slice a n c) x) (hy : ai w (.slice b m d) y) (bx : x < pw 300) (bz : x * 2 ^ s.toNat < pw 300) (hy0 : y ≠ 0) (hby : y < pw 300) (h0 : 0 ≤ s) (h2 : s ≤ 10000) :
 Calls Tryz.prog 258 #[.agg #[.slice a n c],.agg #[.slice b m d],.int .i64 s] w fun e w' => ∃ s',e = .returned (.agg #[s']) ∧ ai w' s' (bk (x * 2 ^ s.toNat) y) ∧ Below w.heap.size w w':=by
 have HA:=ab bx; have HX:=ab hx; have HY:=ab hy
 clear hx hy
 go_enter Tryz.func258,Tryz.ntmps258
 go_wp2_with fail
 have hb:=(ad (aq w (.cells #[.slice a n c] 41) (.cells #[.slice b m d] 41)) (.cells #[.slice none 0 0] 41)).drew
 have HK : Hid (j3 w.heap.size w (.slice a n c) (.slice b m d) x y (((w.alloc (.cells #[.slice a n c] 41)).alloc (.cells #[.slice b m d] 41)).alloc (.cells #[.slice none 0 0] 41)).drew):=
  { ca:=by simp [go_sem],cb:=by simp [go_sem],na:=(aa HX).below hb,nb:=(aa HY).below hb,bel:=hb }
 have HM : Hid ((((w.alloc (.cells #[.slice a n c] 41)).alloc (.cells #[.slice b m d] 41)).alloc (.cells #[.slice none 0 0] 41)).drew.cell? ⟨w.heap.size + 1 + 1,0,none⟩ = some (.slice none 0 0) ∧ (((w.alloc (.cells #[.slice a n c] 41)).alloc (.cells #[.slice b m d] 41)).alloc (.cells #[.slice none 0 0] 41)).drew.frozen? ⟨w.heap.size + 1 + 1,0,none⟩ = false):=⟨by simp [go_sem],by simp [go_sem]⟩
 clear HX HY hb
 refine wp_region_held_drew (S:=fun w' => w'.cell? ⟨w.heap.size,0,none⟩ = some (.slice a n c) ∧ w'.cell? ⟨w.heap.size + 1,0,none⟩ = some (.slice b m d) ∧ aS (w.heap.size + 1 + 1) 1 w') (by kernel_rfl) ?_ (fun hHeld => ?_)
 ·(try dsimp only)
  exact ⟨(aa HK).ca,(aa HK).cb,fk (aa HM).1 (aa HM).2⟩
 refine aC 6 (by kernel_rfl) ?_
 refine tkA 0 9 1 ?_
 refine tkA 1 10 3 ?_
 refine tkA 3 12 11 ?_
 refine rdA 2 15 (fun Kk hKk => ?_)
 go_simp
 refine (eK _ _ _ _ _ _ (aa HK).na (Nat.le_trans ((aa HK).na.short (aa HA)) (by omega)) (by omega) (by omega)).mono ?_
 rintro _ w3 ⟨s3,rfl,hN3,hbl⟩
 obtain ⟨a3,n3,c3,rfl⟩:=hN3.slice
 have H3:=ab hN3
 have HK:=ab ((aa HK).below hbl)
 have HM:=ab (And.intro (aw hbl (ag (aa HM).1) (aa HM).1) ((hbl.frozen (ag (aa HM).1)).trans (aa HM).2))
 clear hbl hN3
 (try go_wp2_with fail)
 refine oA hKk (⟨(aa HK).ca,(aa HK).cb,fk (aa HM).1 (aa HM).2⟩) fun hHeld => ?_
 clear hKk Kk
 refine rdA 4 31 (fun Kk hKk => ?_)
 go_simp
 refine (pR _ _ _ _ _ _ _ _ _ (aa H3) (aa HK).nb hy0 bz hby).mono ?_
 rintro _ w4 ⟨s4,rfl,hN4,hbl⟩
 obtain ⟨a4,n4,c4,rfl⟩:=hN4.slice
 have H4:=ab hN4
 have HK:=ab ((aa HK).below hbl)
 have HM:=ab (And.intro (aw hbl (ag (aa HM).1) (aa HM).1) ((hbl.frozen (ag (aa HM).1)).trans (aa HM).2))
 clear hbl hN4
 (try go_wp2_with fail)
 refine oA hKk (⟨(aa HK).ca,(aa HK).cb,fk (aa HM).1 (aa HM).2⟩) fun hHeld => ?_
 clear hKk Kk
 refine rdA 5 63 (fun Kk hKk => ?_)
 obtain ⟨⟨v0,c0⟩,f0⟩:=hHeld.2.2 0 (by omega)
 go_simp
 refine oA hKk (⟨ax _ _ _ (by omega) hHeld.1,ax _ _ _ (by omega) hHeld.2.1,hHeld.2.2.set _ _⟩) fun hHeld => ?_
 clear hKk Kk
 refine wpAnyH_done (by kernel_rfl) ?_ _
 clear hHeld
 have cr:=(aa HM).1
 go_wp2_with fail
 refine bodyPost_ret (v:=.agg #[.slice a4 n4 c4]) (by simp [results,Tryz.results258,go_sem,cr]) rfl ⟨_,rfl,(aa H4).store cr _,?_⟩
 exact (aa HK).bel.setCell (by simp; omega) _
theorem pQ (a b : Option Addr) (n c m d x y : Nat) (s : Int) (w : World) (hx : ai w (.slice a n c) x) (hy : ai w (.slice b m d) y) (bx : x < pw 300) (hy0 : y * 2 ^ (-s).toNat ≠ 0) (hby : y < pw 300) (bz : y * 2 ^ (-s).toNat < pw 300) (h0 : ¬ 0 ≤ s) (h1 : -10000 ≤ s) (kn : IntKind.i64.wrap (-s) = -s) :
 Calls Tryz.prog 258 #[.agg #[.slice a n c],.agg #[.slice b m d],.int .i64 s] w fun e w' => ∃ s',e = .returned (.agg #[s']) ∧ ai w' s' (bk x (y * 2 ^ (-s).toNat)) ∧ Below w.heap.size w w':=by
 have HB:=ab hby; have HX:=ab hx; have HY:=ab hy
 clear hx hy
 go_enter Tryz.func258,Tryz.ntmps258
 go_wp2_with fail
 have hb:=(ad (aq w (.cells #[.slice a n c] 41) (.cells #[.slice b m d] 41)) (.cells #[.slice none 0 0] 41)).drew
 have HK : Hid (j3 w.heap.size w (.slice a n c) (.slice b m d) x y (((w.alloc (.cells #[.slice a n c] 41)).alloc (.cells #[.slice b m d] 41)).alloc (.cells #[.slice none 0 0] 41)).drew):=
  { ca:=by simp [go_sem],cb:=by simp [go_sem],na:=(aa HX).below hb,nb:=(aa HY).below hb,bel:=hb }
 have HM : Hid ((((w.alloc (.cells #[.slice a n c] 41)).alloc (.cells #[.slice b m d] 41)).alloc (.cells #[.slice none 0 0] 41)).drew.cell? ⟨w.heap.size + 1 + 1,0,none⟩ = some (.slice none 0 0) ∧ (((w.alloc (.cells #[.slice a n c] 41)).alloc (.cells #[.slice b m d] 41)).alloc (.cells #[.slice none 0 0] 41)).drew.frozen? ⟨w.heap.size + 1 + 1,0,none⟩ = false):=⟨by simp [go_sem],by simp [go_sem]⟩
 clear HX HY hb
 refine wp_region_held_drew (S:=fun w' => w'.cell? ⟨w.heap.size,0,none⟩ = some (.slice a n c) ∧ w'.cell? ⟨w.heap.size + 1,0,none⟩ = some (.slice b m d) ∧ aS (w.heap.size + 1 + 1) 1 w') (by kernel_rfl) ?_ (fun hHeld => ?_)
 ·(try dsimp only)
  exact ⟨(aa HK).ca,(aa HK).cb,fk (aa HM).1 (aa HM).2⟩
 refine aC 7 (by kernel_rfl) ?_
 refine tkA 0 14 1 ?_
 refine tkA 1 15 3 ?_
 refine tkA 2 16 7 ?_
 refine tkA 3 17 15 ?_
 refine rdA 4 31 (fun Kk hKk => ?_)
 go_simp
 refine (eK _ _ _ _ _ _ (aa HK).nb (Nat.le_trans ((aa HK).nb.short (aa HB)) (by omega)) (by omega) (by omega)).mono ?_
 rintro _ w3 ⟨s3,rfl,hN3,hbl⟩
 obtain ⟨a3,n3,c3,rfl⟩:=hN3.slice
 have H3:=ab hN3
 have HK:=ab ((aa HK).below hbl)
 have HM:=ab (And.intro (aw hbl (ag (aa HM).1) (aa HM).1) ((hbl.frozen (ag (aa HM).1)).trans (aa HM).2))
 clear hbl hN3
 (try go_wp2_with fail)
 refine oA hKk (⟨(aa HK).ca,(aa HK).cb,fk (aa HM).1 (aa HM).2⟩) fun hHeld => ?_
 clear hKk Kk
 refine rdA 5 63 (fun Kk hKk => ?_)
 go_simp
 refine (pR _ _ _ _ _ _ _ _ _ (aa HK).na (aa H3) hy0 bx bz).mono ?_
 rintro _ w4 ⟨s4,rfl,hN4,hbl⟩
 obtain ⟨a4,n4,c4,rfl⟩:=hN4.slice
 have H4:=ab hN4
 have HK:=ab ((aa HK).below hbl)
 have HM:=ab (And.intro (aw hbl (ag (aa HM).1) (aa HM).1) ((hbl.frozen (ag (aa HM).1)).trans (aa HM).2))
 clear hbl hN4
 (try go_wp2_with fail)
 refine oA hKk (⟨(aa HK).ca,(aa HK).cb,fk (aa HM).1 (aa HM).2⟩) fun hHeld => ?_
 clear hKk Kk
 refine rdA 6 127 (fun Kk hKk => ?_)
 obtain ⟨⟨v0,c0⟩,f0⟩:=hHeld.2.2 0 (by omega)
 go_simp
 refine oA hKk (⟨ax _ _ _ (by omega) hHeld.1,ax _ _ _ (by omega) hHeld.2.1,hHeld.2.2.set _ _⟩) fun hHeld => ?_
 clear hKk Kk
 refine wpAnyH_done (by kernel_rfl) ?_ _
 clear hHeld
 have cr:=(aa HM).1
 go_wp2_with fail
 refine bodyPost_ret (v:=.agg #[.slice a4 n4 c4]) (by simp [results,Tryz.results258,go_sem,cr]) rfl ⟨_,rfl,(aa H4).store cr _,?_⟩
 exact (aa HK).bel.setCell (by simp; omega) _
set_option maxHeartbeats 4000000
theorem qL {k x c j T : Int} (W : World) (HC : Ct 41 #[.int .i64 k,.int .u64 x] (.int .u64 c)) (h1 : IntKind.i64.wrap (k - 1) = j) (HT : Ct 183 #[.int .i64 j] (.int .u64 T)) (g : c < T) :
 Calls Tryz.prog 184 #[.int .i64 k,.int .u64 x] W fun r W' => r = .returned (.tuple #[.bool false,.int .u64 c]) ∧ Below W.heap.size W W':=by
 have HB:=rf W
 go_enter Tryz.func184,Tryz.ntmps184
 go_wp2_with fail
 refine cg0 HC HB fun w1 HB => ?_
 go_wp2_with fail
 refine cg0 HT HB fun w2 HB => ?_
 go_wp2_with fail
 go_ret2
 exact ⟨rfl,aa HB⟩
theorem xB {x c T R : Int} (W : World) (HC : Ct 41 #[.int .i64 32,.int .u64 x] (.int .u64 c)) (HT : Ct 183 #[.int .i64 31] (.int .u64 T)) (g : ¬ c < T) (h : IntKind.u64.wrap (4294967296 - c) = R) :
 Calls Tryz.prog 184 #[.int .i64 32,.int .u64 x] W fun r W' => r = .returned (.tuple #[.bool true,.int .u64 R]) ∧ Below W.heap.size W W':=by
 have HB:=rf W
 go_enter Tryz.func184,Tryz.ntmps184
 go_wp2_with fail
 refine cg0 HC HB fun w1 HB => ?_
 go_wp2_with fail
 refine cg0 HT HB fun w2 HB => ?_
 go_wp2_with fail
 go_ret2
 exact ⟨rfl,aa HB⟩
theorem xC {x c T R S : Int} (W : World) (HC : Ct 41 #[.int .i64 64,.int .u64 x] (.int .u64 c)) (HT : Ct 183 #[.int .i64 63] (.int .u64 T)) (g : ¬ c < T) (h : IntKind.u64.wrap (18446744073709551615 - c) = S) (h' : IntKind.u64.wrap (S + 1) = R) :
 Calls Tryz.prog 184 #[.int .i64 64,.int .u64 x] W fun r W' => r = .returned (.tuple #[.bool true,.int .u64 R]) ∧ Below W.heap.size W W':=by
 have HB:=rf W
 go_enter Tryz.func184,Tryz.ntmps184
 go_wp2_with fail
 refine cg0 HC HB fun w1 HB => ?_
 go_wp2_with fail
 refine cg0 HT HB fun w2 HB => ?_
 go_wp2_with fail
 go_ret2
 exact ⟨rfl,aa HB⟩
theorem xD {w k x c V : Int} (W : World) (HC : Ct 41 #[.int .i64 k,.int .u64 x] (.int .u64 c))  (c0 : 0 ≤ c) (c1 : c < 18446744073709551616) (HX : Hid (∀ (p : Option Addr) (np cp : Nat) (W : World),ai W (.slice p np cp) (c : Int).toNat → Calls Tryz.prog 185 #[.int .i64 w,.bool false,.agg #[.slice p np cp],.int .i64 0] W fun r W' => r = .returned (.int .u64 V) ∧ Below W.heap.size W W')) :
 Calls Tryz.prog 102 #[.int .i64 w,.int .i64 k,.int .u64 x,.bool false] W fun r W' => r = .returned (.int .u64 V) ∧ Below W.heap.size W W':=by
 have hz : IntKind.i64.wrap 0 = 0:=by decide
 have HB:=rf W
 go_enter Tryz.func102,Tryz.ntmps102
 go_wp2_with fail
 refine cg0 HC HB fun w1 HB => ?_
 go_wp2_with fail
 refine (aE c _ (c0 : 0 ≤ c) (c1 : c < 18446744073709551616)).mono ?_
 rintro _ w3 ⟨s3,rfl,hN,hb⟩
 obtain ⟨p3,n3,c3,rfl⟩:=hN.slice
 have HN3:=ab hN
 have HB:=bt HB hb
 clear hb hN
 go_wp2_with fail
 refine (aa HX _ _ _ _ (aa HN3)).mono ?_
 rintro _ w4 ⟨rfl,hb⟩
 have HB:=bt HB hb
 clear hb HN3
 go_wp2_with fail
 go_ret
 exact ⟨rfl,aa HB⟩
theorem xE {w k x c a V : Int} {m : Bool} (W : World) (HC : Ct 41 #[.int .i64 k,.int .u64 x] (.int .u64 c)) (HS : Ct 184 #[.int .i64 k,.int .u64 x] (.tuple #[.bool m,.int .u64 a])) (a0 : 0 ≤ a) (a1 : a < 18446744073709551616) (HX : Hid (∀ (p : Option Addr) (np cp : Nat) (W : World),ai W (.slice p np cp) (a : Int).toNat → Calls Tryz.prog 185 #[.int .i64 w,.bool m,.agg #[.slice p np cp],.int .i64 0] W fun r W' => r = .returned (.int .u64 V) ∧ Below W.heap.size W W')) :
 Calls Tryz.prog 102 #[.int .i64 w,.int .i64 k,.int .u64 x,.bool true] W fun r W' => r = .returned (.int .u64 V) ∧ Below W.heap.size W W':=by
 have hz : IntKind.i64.wrap 0 = 0:=by decide
 have HB:=rf W
 go_enter Tryz.func102,Tryz.ntmps102
 go_wp2_with fail
 refine cg0 HC HB fun w1 HB => ?_
 go_wp2_with fail
 refine cg0 HS HB fun w2 HB => ?_
 go_wp2_with fail
 refine (aE a _ (a0 : 0 ≤ a) (a1 : a < 18446744073709551616)).mono ?_
 rintro _ w3 ⟨s3,rfl,hN,hb⟩
 obtain ⟨p3,n3,c3,rfl⟩:=hN.slice
 have HN3:=ab hN
 have HB:=bt HB hb
 clear hb hN
 go_wp2_with fail
 refine (aa HX _ _ _ _ (aa HN3)).mono ?_
 rintro _ w4 ⟨rfl,hb⟩
 have HB:=bt HB hb
 clear hb HN3
 go_wp2_with fail
 go_ret
 exact ⟨rfl,aa HB⟩
end Go.Proofs.YtpbgpdmffejdgaaGreatDoor
