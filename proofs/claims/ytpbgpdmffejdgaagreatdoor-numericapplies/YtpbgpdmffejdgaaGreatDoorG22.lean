/- MWRefC. -/
import Derived.Test.YtpbgpdmffejdgaaGreatDoorG19
namespace Go.Proofs.YtpbgpdmffejdgaaGreatDoor.W
set_option maxHeartbeats 1000000
open Go.RowKit
theorem cR (x j : Nat) : x / pw j = x / pw (j + 1) * 4294967296 + dgt x j:=by
 unfold dgt
 rw [b8,← Nat.div_div_eq_div_mul]
 omega
theorem mH {x y j : Nat} (h : x / pw j < y / pw j) : x < y:=Decidable.byContradiction fun hn => by
 have:=Nat.div_le_div_right (c:=pw j) (show y ≤ x by omega)
 omega
theorem nB {x y j : Nat} (h : x / pw (j + 1) = y / pw (j + 1)) (hd : dgt x j < dgt y j) : aK x y = -1:=by
 have h1:=cR x j
 have h2:=cR y j
 have:=mH (x:=x) (y:=y) (j:=j) (by omega)
 unfold aK; rw [if_pos this]
theorem alq {x y j : Nat} (h : x / pw (j + 1) = y / pw (j + 1)) (hd : dgt y j < dgt x j) : aK x y = 1:=by
 have h1:=cR x j
 have h2:=cR y j
 have:=mH (x:=y) (y:=x) (j:=j) (by omega)
 unfold aK; rw [if_neg (by omega),if_pos this]
theorem zs {x y j : Nat} (h : x / pw (j + 1) = y / pw (j + 1)) (h1 : ¬ dgt x j < dgt y j) (h2 : ¬ dgt y j < dgt x j) : x / pw j = y / pw j:=by
 rw [cR x j,cR y j,h]; omega
theorem alr {x y : Nat} (h : x / pw 0 = y / pw 0) : aK x y = 0:=by
 rw [mn,Nat.div_one,Nat.div_one] at h
 subst h; unfold aK; simp
theorem ai.len {w : World} {a : Option Addr} {n c x : Nat} (h : ai w (.slice a n c) x) : x < pw n ∧ n ≤ 1000000:=by
 obtain ⟨D,hH,hs,hC,rfl⟩:=h
 have hv:=lw hs
 rcases hH with ⟨h1,h2⟩ | ⟨g,c',h1,h2,h3,h4,h5⟩
 ·injection h1 with e1 e2 e3; subst e2 h2; exact ⟨hv,by omega⟩
 ·injection h1 with e1 e2 e3; subst e2; exact ⟨hv,by omega⟩
theorem bc (a b : Option Addr) (n c m d x y : Nat) (w : World) (hx : ai w (.slice a n c) x) (hy : ai w (.slice b m d) y) :
 Calls Tryz.prog 58 #[.agg #[.slice a n c],.agg #[.slice b m d]] w fun e w' => e = .returned (.int .i64 (aK x y)) ∧ Below w.heap.size w w':=by
 obtain ⟨lx,ln⟩:=hx.len
 obtain ⟨ly,lm⟩:=hy.len
 have HX:=ab hx; have HY:=ab hy; have LX:=ab lx; have LY:=ab ly
 clear hx hy lx ly
 go_enter Tryz.func58,Tryz.ntmps58
 go_wp2_with fail
 all_goals
  have hst : ∃ k : Nat,k ≤ 1000000 ∧ ((k = n ∧ m ≤ n) ∨ (k = m ∧ n ≤ m)):=by
   rcases Nat.le_total n m with h | h
   ·exact ⟨m,lm,Or.inr ⟨rfl,h⟩⟩
   ·exact ⟨n,ln,Or.inl ⟨rfl,h⟩⟩
  clear hst
  go_loopw [5] (fun i wr => ∃ k : Nat,k ≤ 1000000 ∧ i = .int .i64 ((k : Int) - 1) ∧ x / pw k = y / pw k ∧ wr.cell? ⟨w.heap.size,0,none⟩ = some (.slice a n c) ∧ wr.cell? ⟨w.heap.size + 1,0,none⟩ = some (.slice b m d) ∧ ai wr (.slice a n c) x ∧ ai wr (.slice b m d) y ∧ Below w.heap.size w wr) (fun i _ => ((intOf i) + 1).toNat)
  case atStart =>
   first
   | exact ⟨m,lm,rfl,by rw [Nat.div_eq_of_lt (aa LY),Nat.div_eq_of_lt (Nat.lt_of_lt_of_le (aa LX) (fZ (by omega)))],by simp [go_sem],by simp [go_sem],((aa HX).alloc _).alloc _,((aa HY).alloc _).alloc _,aq _ _ _⟩
   | exact ⟨n,ln,rfl,by rw [Nat.div_eq_of_lt (aa LX),Nat.div_eq_of_lt (Nat.lt_of_lt_of_le (aa LY) (fZ (by omega)))],by simp [go_sem],by simp [go_sem],((aa HX).alloc _).alloc _,((aa HY).alloc _).alloc _,aq _ _ _⟩
  case round =>
   clear HX HY
   obtain ⟨k,hk,rfl,he,q0,q1,hx,hy,hb⟩:=hrel
   have HE:=ab he; have HX:=ab hx; have HY:=ab hy
   clear he hx hy
   rcases Nat.eq_zero_or_pos k with h0 | h0
   ·subst h0
    go_wp2_with fail
    go_ret
    exact ⟨fP (alr (aa HE)).symm,hb⟩
   ·obtain ⟨j,rfl⟩ : ∃ j,k = j + 1:=⟨k - 1,by omega⟩
    have e1 : ((j + 1 : Nat) : Int) - 1 = (j : Int):=by omega
    rw [e1]
    by_cases d1 : dgt x j < dgt y j
    ·have HR:=ab (nB (aa HE) d1)
     go_wp2_with fail
     go_quiet ((first | (go_at_call_of 56 (Value.slice a n c); exact Calls.quiet_of_same (gg _ x j _ ((aa HX).drewN _) (by omega))) | (go_at_call_of 56 (Value.slice b m d); exact Calls.quiet_of_same (gg _ y j _ ((aa HY).drewN _) (by omega)))))
     go_wp2
     go_ret
     exact ⟨fP (aa HR).symm,below_drewN hb _⟩
    by_cases d2 : dgt y j < dgt x j
    ·have HR:=ab (alq (aa HE) d2)
     go_wp2_with fail
     go_quiet ((first | (go_at_call_of 56 (Value.slice a n c); exact Calls.quiet_of_same (gg _ x j _ ((aa HX).drewN _) (by omega))) | (go_at_call_of 56 (Value.slice b m d); exact Calls.quiet_of_same (gg _ y j _ ((aa HY).drewN _) (by omega)))))
     have hq0 : (wr.drewN nq).cell? ⟨w.heap.size,0,none⟩ = some (.slice a n c):=by simpa using q0
     have hq1 : (wr.drewN nq).cell? ⟨w.heap.size + 1,0,none⟩ = some (.slice b m d):=by simpa using q1
     have HX:=ab ((aa HX).drewN nq)
     have HY:=ab ((aa HY).drewN nq)
     have hb:=below_drewN hb nq
     generalize wr.drewN nq = wq at *
     go_wp2_with fail
     go_quiet ((first | (go_at_call_of 56 (Value.slice a n c); exact Calls.quiet_of_same (gg _ x j _ ((aa HX).drewN _) (by omega))) | (go_at_call_of 56 (Value.slice b m d); exact Calls.quiet_of_same (gg _ y j _ ((aa HY).drewN _) (by omega)))))
     go_wp2
     go_ret
     exact ⟨fP (aa HR).symm,below_drewN hb _⟩
    ·have HR:=ab (zs (aa HE) d1 d2)
     go_wp2_with fail
     go_quiet ((first | (go_at_call_of 56 (Value.slice a n c); exact Calls.quiet_of_same (gg _ x j _ ((aa HX).drewN _) (by omega))) | (go_at_call_of 56 (Value.slice b m d); exact Calls.quiet_of_same (gg _ y j _ ((aa HY).drewN _) (by omega)))))
     have hq0 : (wr.drewN nq).cell? ⟨w.heap.size,0,none⟩ = some (.slice a n c):=by simpa using q0
     have hq1 : (wr.drewN nq).cell? ⟨w.heap.size + 1,0,none⟩ = some (.slice b m d):=by simpa using q1
     have HX:=ab ((aa HX).drewN nq)
     have HY:=ab ((aa HY).drewN nq)
     have hb:=below_drewN hb nq
     generalize wr.drewN nq = wq at *
     go_wp2_with fail
     go_quiet ((first | (go_at_call_of 56 (Value.slice a n c); exact Calls.quiet_of_same (gg _ x j _ ((aa HX).drewN _) (by omega))) | (go_at_call_of 56 (Value.slice b m d); exact Calls.quiet_of_same (gg _ y j _ ((aa HY).drewN _) (by omega)))))
     go_wp2
     go_roundw
     case rel => exact ⟨j,by omega,by go_num,aa HR,by simpa using hq0,by simpa using hq1,(aa HX).drewN _,(aa HY).drewN _,below_drewN hb _⟩
     case measure => simp [intOf]
end Go.Proofs.YtpbgpdmffejdgaaGreatDoor.W
