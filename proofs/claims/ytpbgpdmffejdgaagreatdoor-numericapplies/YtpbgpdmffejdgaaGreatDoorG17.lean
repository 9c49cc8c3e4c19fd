/- MWRefA. -/
import Derived.Test.YtpbgpdmffejdgaaGreatDoorG10
import Derived.Test.YtpbgpdmffejdgaaGreatDoorG15
namespace Go.Proofs.YtpbgpdmffejdgaaGreatDoor.W
set_option maxHeartbeats 400000
open Go.RowKit
def jT (w : World) (s : Value) (D : List Nat) : Prop:=
 (s = .slice none 0 0 ∧ D = []) ∨ ∃ g c,s = .slice (some ⟨g,0,none⟩) D.length c ∧ g < w.heap.size ∧ D.length ≤ c ∧ D.length ≤ 1000000 ∧ ∀ i,i < D.length → w.cell? ⟨g,i,none⟩ = some (.int .u64 ((dg D i : Nat) : Int))
theorem jT.below {w w' : World} {s : Value} {D : List Nat} (h : jT w s D) (hb : Below w.heap.size w w') : jT w' s D:=by
 rcases h with h | ⟨g,c,h1,h2,h3,h4,h5⟩
 ·exact Or.inl h
 ·exact Or.inr ⟨g,c,h1,Nat.lt_of_lt_of_le h2 hb.size,h3,h4,fun i hi => by rw [hb.cell (p:=⟨g,i,none⟩) h2]; exact h5 i hi⟩
def ai (w : World) (s : Value) (x : Nat) : Prop:=∃ D,jT w s D ∧ cg D ∧ tS D ∧ val D = x
theorem ai.below {w w' : World} {s : Value} {x : Nat} (h : ai w s x) (hb : Below w.heap.size w w') : ai w' s x:=by
 obtain ⟨D,h1,h2⟩:=h
 exact ⟨D,h1.below hb,h2⟩
theorem ai.slice {w : World} {s : Value} {x : Nat} (h : ai w s x) : ∃ a n c,s = .slice a n c:=by
 obtain ⟨D,h1 | ⟨g,c,h1,_⟩,_⟩:=h
 ·exact ⟨_,_,_,h1.1⟩
 ·exact ⟨_,_,_,h1⟩
theorem ai.store {w : World} {s : Value} {x : Nat} {b : Nat} {a : Option Addr} {n c : Nat} (h : ai w s x) (hc : w.cell? ⟨b,0,none⟩ = some (.slice a n c)) (v : Value) : ai (w.setCell ⟨b,0,none⟩ v) s x:=by
 obtain ⟨D,h1 | ⟨g,c',h1,h2,h3,h4,h5⟩,hD⟩:=h
 ·exact ⟨D,Or.inl h1,hD⟩
 ·refine ⟨D,Or.inr ⟨g,c',h1,by simpa using h2,h3,h4,fun i hi => ?_⟩,hD⟩
  have hne : g ≠ b:=by
   intro he
   subst he
   have:=h5 0 (by omega)
   rw [hc] at this
   cases this
  rw [World.cell?_setCell_other _ _ _ _ (by intro he; injection he with he1; exact hne he1.symm)]
  exact h5 i hi
theorem als (s : Value) (D : List Nat) (k : Nat) (w : World) (h : jT w s D) (_hk : k ≤ 1000000) :
 Calls Tryz.prog 56 #[s,.int .i64 (k : Int)] w fun e w' => e = .returned (.int .u64 ((dg D k : Nat) : Int)) ∧ w' = w:=by
 rcases h with ⟨rfl,rfl⟩ | ⟨g,c,rfl,h2,h3,h4,h5⟩
 ·go_enter Tryz.func56,Tryz.ntmps56
  go_wp2
  all_goals (go_ret; exact ⟨rfl,rfl⟩)
 ·by_cases hlt : k < D.length
  ·have hc:=h5 k hlt
   clear h5
   go_enter Tryz.func56,Tryz.ntmps56
   go_wp2
   go_ret
   exact ⟨rfl,rfl⟩
  ·have e:=alu hlt
   rw [e]
   clear h5 e
   go_enter Tryz.func56,Tryz.ntmps56
   go_wp2
   go_ret
   exact ⟨rfl,rfl⟩
theorem zt (w : World) : Calls Tryz.prog 57 #[.slice none 0 0] w fun e w' => e = .returned (.agg #[.slice none 0 0]) ∧ Below w.heap.size w w':=by
 go_enter Tryz.func57,Tryz.ntmps57
 go_wp2_with fail
 refine wp_loop_rounds 1 ?_
 rw [rounds_succ]
 go_wp2_with fail
 exact bodyPost_ret (v:=.agg #[.slice none 0 0]) (by simp [results,Tryz.results57,go_sem]) rfl ⟨rfl,ae _ _⟩
theorem trim_row (g c : Nat) (D : List Nat) (w : World) (h2 : g < w.heap.size) (h3 : D.length ≤ c) (h4 : D.length ≤ 1000000) (h5 : ∀ i,i < D.length → w.cell? ⟨g,i,none⟩ = some (.int .u64 ((dg D i : Nat) : Int))) :
 Calls Tryz.prog 57 #[.slice (some ⟨g,0,none⟩) D.length c] w fun e w' => ∃ m : Nat,m ≤ D.length ∧ e = .returned (.agg #[.slice (some ⟨g,0,none⟩) m c]) ∧ (m = 0 ∨ dg D (m - 1) ≠ 0) ∧ (∀ j,m ≤ j → j < D.length → dg D j = 0) ∧ Below w.heap.size w w':=by
 have H5:=ab h5
 clear h5
 go_enter Tryz.func57,Tryz.ntmps57
 go_wp2_with fail
 go_loop [3] (fun t => ∃ m : Nat,m ≤ D.length ∧ t = .int .i64 m ∧ ∀ j,m ≤ j → j < D.length → dg D j = 0) (fun t => (intOf t).toNat)
 case atStart => exact ⟨D.length,by omega,rfl,fun j h h' => by omega⟩
 case round =>
  obtain ⟨m,hm,rfl,hz⟩:=hrel
  have HZ:=ab hz
  clear hz
  by_cases h0 : m = 0
  ·subst h0
   go_wp2_with fail
   exact bodyPost_ret (v:=.agg #[.slice (some ⟨g,0,none⟩) 0 c]) (by simp [results,Tryz.results57,go_sem]) rfl ⟨0,by omega,rfl,Or.inl rfl,aa HZ,ae _ _⟩
  ·have hcm : (w.alloc (.cells #[.slice none 0 0] 41)).cell? ⟨g,m - 1,none⟩ = some (.int .u64 ((dg D (m - 1) : Nat) : Int)):=by
    rw [World.cell?_alloc_lt _ _ _ h2]; exact aa H5 (m - 1) (by omega)
   go_wp2_with fail
   ·have hd : dg D (m - 1) = 0:=by
     have h : (((dg D (m - 1) : Nat) : Int) == 0) = true:=by assumption
     rw [beq_iff_eq] at h; omega
    refine ⟨⟨m - 1,by omega,by go_num,fun j h h' => ?_⟩,by simp [intOf]; omega⟩
    by_cases e : j = m - 1
    ·rw [e]; exact hd
    ·exact aa HZ j (by omega) h'
   ·have hd : dg D (m - 1) ≠ 0:=by
     have h : (((dg D (m - 1) : Nat) : Int) == 0) = false:=by assumption
     rw [beq_eq_false_iff_ne] at h; omega
    exact bodyPost_ret (v:=.agg #[.slice (some ⟨g,0,none⟩) m c]) (by simp [results,Tryz.results57,go_sem]) rfl ⟨m,hm,rfl,Or.inr hd,aa HZ,ae _ _⟩
theorem nC {D : List Nat} {m : Nat} (hm : m ≤ D.length) (hz : ∀ j,m ≤ j → j < D.length → dg D j = 0) : val (D.take m) = val D:=by
 have key : ∀ k,m + k ≤ D.length → val (D.take (m + k)) = val (D.take m):=by
  intro k
  induction k with
  | zero => intro _; rfl
  | succ k ih =>
   intro hk
   have e : D.take (m + (k + 1)) = D.take (m + k) ++ [dg D (m + k)]:=by
    rw [show m + (k + 1) = (m + k) + 1 by omega,List.take_succ_eq_append_getElem (by omega)]
    congr 2
    unfold dg
    rw [List.getD_eq_getElem?_getD,List.getElem?_eq_getElem (by omega)]
    rfl
   rw [e,fI,hz (m + k) (by omega) (by omega),Nat.mul_zero,Nat.add_zero]
   exact ih (by omega)
 have h:=key (D.length - m) (by omega)
 rw [show m + (D.length - m) = D.length by omega,List.take_of_length_le (Nat.le_refl _)] at h
 exact h.symm
theorem gu (s : Value) (D : List Nat) (w : World) (h : jT w s D) (hs : cg D) :
 Calls Tryz.prog 57 #[s] w fun e w' => ∃ s',e = .returned (.agg #[s']) ∧ ai w' s' (val D) ∧ Below w.heap.size w w':=by
 rcases h with ⟨rfl,rfl⟩ | ⟨g,c,rfl,h2,h3,h4,h5⟩
 ·refine (zt w).mono ?_
  rintro e w' ⟨rfl,hb⟩
  exact ⟨_,rfl,⟨[],Or.inl ⟨rfl,rfl⟩,hs,Or.inl rfl,rfl⟩,hb⟩
 ·refine (trim_row g c D w h2 h3 h4 h5).mono ?_
  rintro e w' ⟨m,hm,rfl,ht,hz,hb⟩
  have hl : (D.take m).length = m:=by simp; omega
  refine ⟨_,rfl,⟨D.take m,Or.inr ⟨g,c,by rw [hl],Nat.lt_of_lt_of_le h2 hb.size,by omega,by omega,fun i hi => ?_⟩,iw hs m,?_,nC hm hz⟩,hb⟩
  ·rw [hl] at hi
   rw [hb.cell (p:=⟨g,i,none⟩) h2,tU hi]
   exact h5 i (by omega)
  ·rcases ht with ht | ht
   ·subst ht; exact Or.inl (by simp)
   ·rcases Nat.eq_zero_or_pos m with h0 | h0
    ·subst h0; exact Or.inl (by simp)
    ·exact nF (iw hs m) (by rw [hl,tU (by omega)]; exact ht)
theorem aE (a : Int) (w : World) (a0 : 0 ≤ a) (a1 : a < 18446744073709551616) :
 Calls Tryz.prog 21 #[.int .u64 a] w fun e w' => ∃ s',e = .returned (.agg #[s']) ∧ ai w' s' a.toNat ∧ Below w.heap.size w w':=by
 go_enter Tryz.func21,Tryz.ntmps21
 go_wp2_with fail
 obtain ⟨A,rfl⟩:=Int.eq_ofNat_of_zero_le a0
 have hm : (A : Int) % 4294967296 = ((A % 4294967296 : Nat) : Int):=by omega
 have hd : (A : Int) / 4294967296 = ((A / 4294967296 : Nat) : Int):=by omega
 rw [hm,hd]
 refine (gu _ [A % 4294967296,A / 4294967296] _ (Or.inr ⟨w.heap.size + 1,2,rfl,by simp,by simp,by simp,fun i hi => ?_⟩) (fun d hd => ?_)).mono ?_
 ·have : i = 0 ∨ i = 1:=by simp at hi; omega
  rcases this with rfl | rfl
  ·simp [dg]
  ·simp [dg]
 ·simp at hd; omega
 rintro e w1 ⟨s',rfl,hN,hb⟩
 obtain ⟨a,n,c,rfl⟩:=hN.slice
 have hc : w1.cell? ⟨w.heap.size,0,none⟩ = some (.slice none 0 0):=by rw [hb.cell (by first | (simp; done) | (simp; omega))]; simp [go_sem]
 have hf : w1.frozen? ⟨w.heap.size,0,none⟩ = false:=by rw [hb.frozen (by first | (simp; done) | (simp; omega))]; simp [go_sem]
 have hv : val [A % 4294967296,A / 4294967296] = A:=by simp [val]; omega
 rw [hv] at hN
 have HN:=ab hN
 clear hN hv hm hd a0 a1
 go_wp2
 refine bodyPost_ret (v:=.agg #[.slice a n c]) (by simp [results,Tryz.results21,go_sem,hc]) rfl ⟨_,rfl,?_,?_⟩
 ·rw [Int.toNat_natCast]; exact (aa HN).store hc _
 ·exact (ac (aq _ _ _) hb).setCell (by simp) _
end Go.Proofs.YtpbgpdmffejdgaaGreatDoor.W
