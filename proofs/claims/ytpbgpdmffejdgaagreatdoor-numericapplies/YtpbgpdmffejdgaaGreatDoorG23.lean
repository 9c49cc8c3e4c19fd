/- MWRefE, MWMulA. -/
import Derived.Test.YtpbgpdmffejdgaaGreatDoorG22
import Derived.Deep.Cut
namespace Go.Proofs.YtpbgpdmffejdgaaGreatDoor.W
set_option maxRecDepth 100000
set_option maxHeartbeats 2000000
open Go.RowKit
def gf (D : List Nat) : List Value:=D.map fun d : Nat => Value.int .u64 (d : Int)
theorem mF (D : List Nat) (d : Nat) : gf D ++ [.int .u64 (d : Int)] = gf (D ++ [d]):=by simp [gf]
theorem fB {w : World} {base : Nat} {v : Value} {D : List Nat} (h : w.ownsRow base 28 1 v D.length (gf D)) (hcap : D.length ≤ 1000000) : jT w v D:=by
 obtain ⟨h1,h2⟩:=h
 rcases h2 with ⟨h2,h3⟩ | ⟨g,cap,cur,h2,h3,h4,h5,h6,h7,h8⟩
 ·exact Or.inl ⟨h2,List.eq_nil_of_length_eq_zero h3⟩
 ·refine Or.inr ⟨g,cap,h2,?_,h5,hcap,fun i hi => ?_⟩
  ·rw [Array.getElem?_eq_some_iff] at h4; exact h4.1
  ·have:=World.ownsRow.cellAt (w:=w) (base:=base) (e:=28) (size:=1) (g:=g) (n:=D.length) (cap:=cap) (xs:=gf D) ⟨h1,Or.inr ⟨g,cap,cur,rfl,h3,h4,h5,h6,h7,h8⟩⟩ i (by omega)
   rw [this]
   unfold gf dg
   rw [List.getElem?_map,List.getD_eq_getElem?_getD,List.getElem?_eq_getElem hi]
   rfl
theorem i22 : Tryz.prog.info? 28 = some ((Tryz.prog.info? 28).getD default):=by kernel_rfl
theorem _root_.Go.World.ownsRow.below' {w : World} {base : Nat} {e : TypeId} {size : Nat} {v : Value} {n : Nat} {xs : List Value} (h : w.ownsRow base e size v n xs) (k : Nat) : (w.drewN k).ownsRow base e size v n xs:=h
theorem bY {B : Nat} {w : World} (h : B ≤ w.heap.size) (o : Obj) : B ≤ (w.alloc o).heap.size:=by simp; omega
theorem gt (x : Int) : ∀ u ∈ [Value.int .u64 x],u.oneCell' = true:=by
 intro u hu
 simp at hu
 subst hu
 rfl
def mG (x y : Nat) (D : List Nat) (cy : Nat) : Prop:=cg D ∧ cy ≤ 1 ∧ val D + cy * pw D.length = x % pw D.length + y % pw D.length
theorem zr (p q r : Nat) (hp : p < 4294967296) (hq : q < 4294967296) (hr : r ≤ 1) : IntKind.u64.wrap (IntKind.u64.wrap ((p : Int) + (q : Int)) + (r : Int)) = ((p + q + r : Nat) : Int):=by
 rw [IntKind.wrap_u64,IntKind.wrap_u64]; omega
theorem eg (x k : Nat) : x % pw (k + 1) = x % pw k + dgt x k * pw k:=by
 unfold dgt
 rw [b8,Nat.mod_mul,Nat.mul_comm (pw k)]
theorem vf (x y : Nat) : mG x y [] 0:=by
 refine ⟨?_,by omega,?_⟩
 ·intro d hd; simp at hd
 ·simp only [val,List.length_nil,mn,Nat.mod_one]
theorem rb {x y cy : Nat} {D : List Nat} (h : mG x y D cy) : mG x y (D ++ [(dgt x D.length + dgt y D.length + cy) % 4294967296]) ((dgt x D.length + dgt y D.length + cy) / 4294967296):=by
 obtain ⟨h1,h2,h3⟩:=h
 have dx:=bS x D.length
 have dy:=bS y D.length
 refine ⟨fa h1 (Nat.mod_lt _ (by omega)),by omega,?_⟩
 rw [fI,List.length_append,List.length_singleton,eg x,eg y,b8]
 generalize dgt x D.length = p at *
 generalize dgt y D.length = q at *
 generalize pw D.length = P at *
 have e:=Nat.div_add_mod (p + q + cy) 4294967296
 generalize (p + q + cy) / 4294967296 = u at *
 generalize (p + q + cy) % 4294967296 = v at *
 have e2 : P * v + u * (P * 4294967296) = p * P + q * P + cy * P:=by
  rw [← Nat.add_mul,← Nat.add_mul,← e]
  rw [Nat.add_mul,Nat.mul_comm P v,Nat.mul_comm P 4294967296,← Nat.mul_assoc,Nat.mul_comm u 4294967296]
  omega
 omega
theorem vg {x y M : Nat} {D : List Nat} (h : mG x y D 0) (hM : M ≤ D.length) (hx : x < pw M) (hy : y < pw M) : val D = x + y:=by
 have hp:=fZ hM
 have h3:=h.2.2
 rw [Nat.zero_mul,Nat.mod_eq_of_lt (by omega),Nat.mod_eq_of_lt (by omega)] at h3
 omega
theorem rc {x y M cy : Nat} {D : List Nat} (h : mG x y D cy) (hM : M < D.length) (hx : x < pw M) (hy : y < pw M) : cy = 0:=by
 have hp:=fZ (show M + 1 ≤ D.length by omega)
 rw [b8] at hp
 have h3:=h.2.2
 have h2:=h.2.1
 rw [Nat.mod_eq_of_lt (by omega),Nat.mod_eq_of_lt (by omega)] at h3
 refine Decidable.byContradiction fun hn => ?_
 have : cy = 1:=by omega
 subst this
 omega
theorem eH {wq w1 W0 : World} {B : Nat} {v v' : Value} {D : List Nat} {sm : Nat} {o : Obj} (hO : wq.ownsRow B 28 1 v D.length (gf D)) (hB : Below B W0 wq) (hL : B ≤ wq.heap.size)
 (hown : w1.ownsRow B 28 1 v' (D.length + 1) (gf D ++ [.int .u64 ((sm : Int) % 4294967296)])) (hgr : (wq.alloc o).grownBy w1 v.ownBlock) :
 w1.ownsRow B 28 1 v' (D ++ [sm % 4294967296]).length (gf (D ++ [sm % 4294967296])) ∧ Below B W0 w1:=by
 constructor
 ·rw [← mF,List.length_append,List.length_singleton]
  rw [Int.natCast_emod]
  exact hown
 ·exact (hB.alloc hL o).grown hgr (bY hL o) (fun k hk => (hO.lt k hk).1)
theorem bO (a b : Option Addr) (n c m d x y : Nat) (w : World) (hx : ai w (.slice a n c) x) (hy : ai w (.slice b m d) y) (hn : n ≤ 1000) (hm : m ≤ 1000) :
 Calls Tryz.prog 118 #[.agg #[.slice a n c],.agg #[.slice b m d]] w fun e w' => ∃ s',e = .returned (.agg #[s']) ∧ ai w' s' (x + y) ∧ Below w.heap.size w w':=by
 obtain ⟨lx,_⟩:=hx.len
 obtain ⟨ly,_⟩:=hy.len
 obtain ⟨M,hM1,hM2,hM3⟩ : ∃ M,n ≤ M ∧ m ≤ M ∧ (M = n ∨ M = m):=by
  rcases Nat.le_total n m with h | h
  ·exact ⟨m,h,Nat.le_refl _,Or.inr rfl⟩
  ·exact ⟨n,Nat.le_refl _,h,Or.inl rfl⟩
 have HX:=ab hx; have HY:=ab hy
 have LX:=ab (Nat.lt_of_lt_of_le lx (fZ hM1)); have LY:=ab (Nat.lt_of_lt_of_le ly (fZ hM2))
 clear hx hy lx ly
 go_enter Tryz.func118,Tryz.ntmps118
 go_wp2_with fail
 go_loopw [5,6,7] (fun v5 v6 v7 wr => ∃ (D : List Nat) (cy : Nat),D.length ≤ M + 1 ∧ v6 = .int .u64 cy ∧ v7 = .int .i64 D.length ∧ wr.ownsRow (w.heap.size + 3) 28 1 v5 D.length (gf D) ∧ mG x y D cy ∧
  Below (w.heap.size + 3) (((w.alloc (.cells #[.slice a n c] 41)).alloc (.cells #[.slice b m d] 41)).alloc (.cells #[.slice none 0 0] 41)) wr) (fun _ _ i _ => M + 1 - (intOf i).toNat)
 case atStart => exact ⟨[],0,by simp,rfl,rfl,World.ownsRow_nil _ _ _ _,vf x y,Below.refl _ _⟩
 case round =>
  obtain ⟨D,cy,hD,rfl,rfl,hown,hA,hB⟩:=hrel
  have q0 : wr.cell? ⟨w.heap.size,0,none⟩ = some (.slice a n c):=by rw [hB.cell (by simp)]; simp [go_sem]
  have q1 : wr.cell? ⟨w.heap.size + 1,0,none⟩ = some (.slice b m d):=by rw [hB.cell (by simp)]; simp [go_sem]
  have hBw : Below w.heap.size w wr:=(ad (aq _ _ _) _).trans (hB.mono (by omega))
  have HXr:=ab ((aa HX).below hBw); have HYr:=ab ((aa HY).below hBw)
  have HO:=ab hown; have HA:=ab hA; have HB:=ab hB; have HBw:=ab hBw
  clear hown hA hB hBw
  by_cases hc : D.length < M ∨ 0 < cy
  ·have es:=zr (dgt x D.length) (dgt y D.length) cy (bS _ _) (bS _ _) (aa HA).2.1
   have ES:=ab es
   have HL1:=ab (show D.length + 1 ≤ maxLen by unfold maxLen; omega)
   have HL2:=ab (show (D.length + 1) * 8 ≤ 140737488355328 by omega)
   have HS:=ab (rb (aa HA))
   have HSM:=ab (show dgt x D.length + dgt y D.length + cy < 18446744073709551616 by have:=bS x D.length; have:=bS y D.length; have:=(aa HA).2.1; omega)
   have hDM : D.length ≤ M:=Decidable.byContradiction fun h => by
    have:=rc (aa HA) (show M < D.length by omega) (aa LX) (aa LY)
    omega
   clear es
   go_wp2_with fail
   all_goals
    go_quiet ((first | (go_at_call_of 56 (Value.slice a n c); exact Calls.quiet_of_same (gg _ x D.length _ ((aa HXr).drewN _) (by omega))) | (go_at_call_of 56 (Value.slice b m d); exact Calls.quiet_of_same (gg _ y D.length _ ((aa HYr).drewN _) (by omega)))))
    have HO:=ab ((aa HO).below' nq); have HB:=ab (below_drewN (aa HB) nq); have HBw:=ab (below_drewN (aa HBw) nq)
    have HL3:=ab (show w.heap.size + 3 ≤ (wr.drewN nq).heap.size by have:=(aa HB).size; simp at this ⊢; omega)
    generalize wr.drewN nq = wq at *
    go_upto_region 7 with fail
    rw [aa ES]
    generalize dgt x D.length + dgt y D.length + cy = sm at *
    go_wp2_with (at_builtin; refine wpList_append_own _ rfl _ _ 39 rfl (w.heap.size + 3) 28 _ (.int .u64 0) 1 8 Tryz.underlying39 i22 rfl rfl rfl rfl (by decide) _ _ _ rfl ((aa HO).alloc _) ⟨wq.heap.size,0,none⟩ 1 1 [.int .u64 ((sm : Int) % 4294967296)] rfl rfl (cell_one_new _ _ _) (gt _) (aa HL1) (aa HL2) (bY (aa HL3) _) ?_; intro v' w1 hown' hgr _)
    have hr:=eH (aa HO) (aa HB) (aa HL3) hown' hgr
    have e2 : IntKind.u64.wrap ((sm : Int) / 4294967296) = ((sm / 4294967296 : Nat) : Int):=by have:=aa HSM; rw [IntKind.wrap_u64]; omega
    exact ⟨⟨D ++ [sm % 4294967296],sm / 4294967296,by simp; omega,by rw [e2],by simp,hr.1,aa HS,hr.2⟩,by simp [intOf]; omega⟩
  ·have hcy : cy = 0:=by omega
   subst hcy
   have hval:=vg (aa HA) (show M ≤ D.length by omega) (aa LX) (aa LY)
   have hH:=fB (aa HO) (by omega)
   have hsl : ∃ a n c,u5 = .slice a n c:=by
    rcases hH with ⟨h1,_⟩ | ⟨g,c',h1,_⟩
    ·exact ⟨_,_,_,h1⟩
    ·exact ⟨_,_,_,h1⟩
   have z0 : wr.cell? ⟨w.heap.size + 1 + 1,0,none⟩ = some (.slice none 0 0):=by rw [(aa HB).cell (by simp)]; simp [go_sem]
   have z1 : wr.frozen? ⟨w.heap.size + 1 + 1,0,none⟩ = false:=by rw [(aa HB).frozen (by simp)]; simp [go_sem]
   have hz : w.heap.size + 1 + 1 < wr.heap.size:=by have:=(aa HB).size; simp at this; omega
   have HH:=ab hH; have HV:=ab hval
   clear hH hval hsl
   go_wp2_with fail
   all_goals
    refine (gu _ D _ (aa HH) (aa HA).1).mono ?_
    rintro e w1 ⟨s',rfl,hN,hb⟩
    obtain ⟨a',n',c',rfl⟩:=hN.slice
    have hc0 : w1.cell? ⟨w.heap.size + 1 + 1,0,none⟩ = some (.slice none 0 0):=by rw [hb.cell (by simpa using hz)]; exact z0
    have hf0 : w1.frozen? ⟨w.heap.size + 1 + 1,0,none⟩ = false:=by rw [hb.frozen (by simpa using hz)]; exact z1
    rw [aa HV] at hN
    have HN:=ab hN
    clear hN
    go_wp2
    refine bodyPost_ret (v:=.agg #[.slice a' n' c']) (by simp [results,Tryz.results118,go_sem,hc0]) rfl ⟨_,rfl,(aa HN).store hc0 _,?_⟩
    exact (ac (aa HBw) hb).setCell (by simp; omega) _
theorem tZ : ∀ (D : List Nat) (j e : Nat),j < D.length → val (D.set j e) + dg D j * pw j = val D + e * pw j
 | [],j,e,h => by simp at h
 | d :: r,0,e,_ => by simp [val,dg,mn]; omega
 | d :: r,j + 1,e,h => by
  have ih:=tZ r j e (by simpa using h)
  simp only [List.set_cons_succ,val,dg,List.getD_cons_succ,b8] at ih ⊢
  have e1 : r.getD j 0 * (pw j * 4294967296) = 4294967296 * (r.getD j 0 * pw j):=by rw [← Nat.mul_assoc,Nat.mul_comm]
  have e2 : e * (pw j * 4294967296) = 4294967296 * (e * pw j):=by rw [← Nat.mul_assoc,Nat.mul_comm]
  rw [e1,e2]
  omega
theorem vx {D : List Nat} {j e : Nat} (h : cg D) (he : e < 4294967296) : cg (D.set j e):=by
 intro x hx
 rcases List.mem_or_eq_of_mem_set hx with hx | rfl
 ·exact h x hx
 ·exact he
theorem zM {D : List Nat} (h : cg D) (j : Nat) : dg D j < 4294967296:=by
 rw [lz D j h]; exact Nat.mod_lt _ (by omega)
theorem al4 {D : List Nat} {j e i : Nat} (h : j < D.length) : dg (D.set j e) i = if j = i then e else dg D i:=by
 unfold dg
 by_cases hji : j = i
 ·subst hji
  simp [List.getD_eq_getElem?_getD,h]
 ·simp [List.getD_eq_getElem?_getD,hji]
def mO (x y i k cy : Nat) (D : List Nat) : Prop:=cg D ∧ cy < 4294967296 ∧ val D + cy * pw (i + k) + dgt x i * (y / pw k) * pw (i + k) = x % pw (i + 1) * y
theorem zN (x i : Nat) : x % pw (i + 1) = x % pw i + dgt x i * pw i:=by
 unfold dgt
 rw [b8,Nat.mod_mul,Nat.mul_comm (pw i)]
theorem o8 {x y i : Nat} {D : List Nat} (hs : cg D) (h : val D = x % pw i * y) : mO x y i 0 0 D:=by
 refine ⟨hs,by omega,?_⟩
 rw [zN,Nat.add_mul,h,mn,Nat.div_one,Nat.zero_mul,Nat.add_zero,Nat.add_zero]
 congr 1
 rw [Nat.mul_assoc,Nat.mul_comm y,← Nat.mul_assoc]
theorem lD {d a b c : Nat} (hd : d < 4294967296) (ha : a < 4294967296) (hb : b < 4294967296) (hc : c < 4294967296) : d + a * b + c < 18446744073709551616:=by
 have:=Nat.mul_le_mul (show a ≤ 4294967295 by omega) (show b ≤ 4294967295 by omega)
 omega
theorem rz {x y i k cy : Nat} {D : List Nat} (h : mO x y i k cy D) (hj : i + k < D.length) :
 mO x y i (k + 1) ((dg D (i + k) + dgt x i * dgt y k + cy) / 4294967296) (D.set (i + k) ((dg D (i + k) + dgt x i * dgt y k + cy) % 4294967296)):=by
 obtain ⟨hs,hc,he⟩:=h
 have hf:=lD (zM hs (i + k)) (bS x i) (bS y k) hc
 refine ⟨vx hs (Nat.mod_lt _ (by omega)),by omega,?_⟩
 have hv:=tZ D (i + k) ((dg D (i + k) + dgt x i * dgt y k + cy) % 4294967296) hj
 have hy:=cR y k
 generalize hS : dg D (i + k) + dgt x i * dgt y k + cy = s at *
 rw [← he,hy,← Nat.add_assoc,b8]
 generalize y / pw (k + 1) = Y at *
 generalize pw (i + k) = p at *
 generalize val (D.set (i + k) (s % 4294967296)) = V at *
 generalize dgt x i = A at *
 generalize dgt y k = b at *
 have e1 : s / 4294967296 * (p * 4294967296) = (4294967296 * (s / 4294967296)) * p:=by
  rw [Nat.mul_comm p,← Nat.mul_assoc,Nat.mul_comm (s / 4294967296)]
 have e2 : (s % 4294967296) * p + (4294967296 * (s / 4294967296)) * p = s * p:=by rw [← Nat.add_mul,Nat.mod_add_div]
 have e3 : s * p = dg D (i + k) * p + A * b * p + cy * p:=by rw [← hS,Nat.add_mul,Nat.add_mul]
 have e4 : A * Y * (p * 4294967296) = A * (Y * 4294967296) * p:=by
  rw [Nat.mul_comm p,← Nat.mul_assoc,Nat.mul_assoc A]
 have e5 : A * (Y * 4294967296 + b) * p = A * (Y * 4294967296) * p + A * b * p:=by rw [Nat.mul_add,Nat.add_mul]
 rw [e1,e4]
 first
 | rw [e5]; omega
 | (rw [Nat.mul_comm 4294967296 Y,Nat.add_comm b,e5]; omega)
 | (rw [Nat.mul_comm 4294967296 Y,e5]; omega)
theorem vy {x y i k m : Nat} {D : List Nat} (h : mO x y i k 0 D) (hk : m ≤ k) (hy : y < pw m) : val D = x % pw (i + 1) * y:=by
 obtain ⟨_,_,he⟩:=h
 rw [Nat.div_eq_of_lt (Nat.lt_of_lt_of_le hy (fZ hk)),Nat.mul_zero,Nat.zero_mul,Nat.add_zero] at he
 omega
theorem zO {i j : Nat} (h : pw i < pw j) : i < j:=by
 refine Decidable.byContradiction fun hn => ?_
 have:=fZ (show j ≤ i by omega)
 omega
theorem zP {x y i k m cy : Nat} {D : List Nat} (h : mO x y i k cy D) (h0 : 0 < cy) (hy : y < pw m) : k ≤ m:=by
 obtain ⟨_,_,he⟩:=h
 have h1 : x % pw (i + 1) * y < pw (i + 1) * pw m:=by
  have a1:=Nat.mod_lt x (rm (i + 1))
  exact Nat.mul_lt_mul'' a1 hy
 rw [← zF] at h1
 have h2 : pw (i + k) ≤ cy * pw (i + k):=Nat.le_mul_of_pos_left _ h0
 have:=zO (show pw (i + k) < pw (i + 1 + m) by omega)
 omega
theorem vz (d a b c : Nat) (hd : d < 4294967296) (ha : a < 4294967296) (hb : b < 4294967296) (hc : c < 4294967296) :
 IntKind.u64.wrap (IntKind.u64.wrap ((d : Int) + IntKind.u64.wrap ((a : Int) * (b : Int))) + (c : Int)) = ((d + a * b + c : Nat) : Int):=by
 have h:=lD hd ha hb hc
 rw [← Int.natCast_mul]
 generalize a * b = t at *
 rw [IntKind.wrap_u64,IntKind.wrap_u64,IntKind.wrap_u64]
 omega
end Go.Proofs.YtpbgpdmffejdgaaGreatDoor.W
