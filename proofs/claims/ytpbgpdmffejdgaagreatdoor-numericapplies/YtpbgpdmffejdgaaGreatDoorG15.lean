/- MWDigits, MWAdd, MWDiv64, MWDiv. -/
import Derived.Test.YtpbgpdmffejdgaaGreatDoorG01
import Derived.Test.YtpbgpdmffejdgaaGreatDoorG03
import Derived.Test.YtpbgpdmffejdgaaGreatDoorG10
import Derived.Shelf.Spec.BitsCarry
import Derived.Handy
import Derived.Deep.Cut
import Derived.Deep.CutBlock
import Derived.Deep.DeepCutAuto
namespace Go.Proofs.YtpbgpdmffejdgaaGreatDoor.W
def val : List Nat → Nat
 | [] => 0
 | d :: r => d + 4294967296 * val r
def dg (D : List Nat) (i : Nat) : Nat:=D.getD i 0
def pw (i : Nat) : Nat:=4294967296 ^ i
def cg (D : List Nat) : Prop:=∀ d ∈ D,d < 4294967296
def tS (D : List Nat) : Prop:=D = [] ∨ pw (D.length - 1) ≤ val D
theorem rm (i : Nat) : 0 < pw i:=Nat.pow_pos (by omega)
theorem mn : pw 0 = 1:=rfl
theorem b8 (i : Nat) : pw (i + 1) = pw i * 4294967296:=Nat.pow_succ _ _
theorem zF (i j : Nat) : pw (i + j) = pw i * pw j:=Nat.pow_add _ _ _
theorem fZ {i j : Nat} (h : i ≤ j) : pw i ≤ pw j:=Nat.pow_le_pow_right (by omega) h
theorem fS (i : Nat) : pw i = 2 ^ (32 * i):=by unfold pw; rw [Nat.pow_mul]
theorem lv (D E : List Nat) : val (D ++ E) = val D + pw D.length * val E:=by
 induction D with
 | nil => simp [val,pw]
 | cons d r ih =>
  simp only [List.cons_append,val,ih,List.length_cons,b8]
  rw [Nat.mul_add,Nat.mul_comm (pw r.length) 4294967296,Nat.mul_assoc]
  omega
theorem fI (D : List Nat) (d : Nat) : val (D ++ [d]) = val D + pw D.length * d:=by rw [lv]; simp [val]
theorem fa {D : List Nat} {d : Nat} (h : cg D) (hd : d < 4294967296) : cg (D ++ [d]):=by
 intro x hx
 rcases List.mem_append.1 hx with hx | hx
 ·exact h x hx
 ·simp at hx; subst hx; exact hd
theorem lw {D : List Nat} (h : cg D) : val D < pw D.length:=by
 induction D with
 | nil => exact rm 0
 | cons d r ih =>
  have h1:=ih (fun x hx => h x (List.mem_cons_of_mem _ hx))
  have h2:=h d List.mem_cons_self
  simp only [val,List.length_cons,b8]
  rw [Nat.mul_comm (pw r.length)]
  omega
theorem vl (k : Nat) : val (List.replicate k 0) = 0:=by
 induction k with
 | zero => rfl
 | succ k ih => simp [List.replicate_succ,val,ih]
theorem tT : ∀ (D : List Nat) (i : Nat),cg D → D.getD i 0 = val D / pw i % 4294967296
 | [],i,_ => by simp [val]
 | d :: r,0,h => by
  have:=h d List.mem_cons_self
  simp [val,pw]
  omega
 | d :: r,i + 1,h => by
  have h2:=h d List.mem_cons_self
  have ih:=tT r i (fun x hx => h x (List.mem_cons_of_mem _ hx))
  simp only [List.getD_cons_succ,ih,val,b8]
  rw [Nat.mul_comm (pw i),← Nat.div_div_eq_div_mul,show (d + 4294967296 * val r) / 4294967296 = val r by omega]
theorem lz (D : List Nat) (i : Nat) (h : cg D) : dg D i = val D / pw i % 4294967296:=tT D i h
theorem alu {D : List Nat} {i : Nat} (h : ¬ i < D.length) : dg D i = 0:=by
 unfold dg
 rw [List.getD_eq_getElem?_getD,List.getElem?_eq_none (by omega)]
 rfl
theorem vm {D : List Nat} {k : Nat} (h : tS D) (hx : val D < pw k) : D.length ≤ k:=by
 rcases h with h | h
 ·subst h; simp
 ·refine Decidable.byContradiction fun hn => ?_
  have:=fZ (show k ≤ D.length - 1 by omega)
  omega
theorem mN {D : List Nat} (hs : cg D) (hne : 0 < D.length) : dg D (D.length - 1) = val D / pw (D.length - 1):=by
 rw [lz D _ hs,Nat.mod_eq_of_lt]
 have h:=lw hs
 rw [show D.length = (D.length - 1) + 1 by omega,b8] at h
 exact Nat.div_lt_of_lt_mul h
theorem nF {D : List Nat} (hs : cg D) (h : dg D (D.length - 1) ≠ 0) : tS D:=by
 rcases Nat.eq_zero_or_pos D.length with h0 | h0
 ·exact Or.inl (List.eq_nil_of_length_eq_zero h0)
 ·rw [mN hs h0] at h
  refine Or.inr (Decidable.byContradiction fun hn => h (Nat.div_eq_of_lt (by omega)))
theorem iw {D : List Nat} (h : cg D) (m : Nat) : cg (D.take m):=fun x hx => h x (List.mem_of_mem_take hx)
theorem tU {D : List Nat} {m j : Nat} (h : j < m) : dg (D.take m) j = dg D j:=by
 unfold dg
 simp [List.getD_eq_getElem?_getD,h]
set_option maxHeartbeats 1000000
open Go.RowKit
theorem ajx (x y c : Int) (hx : 0 ≤ x) (hy : 0 ≤ y) (hc0 : 0 ≤ c) (hc : c ≤ 1) (w : World) : (callFunc 285 #[.int .u64 x,.int .u64 y,.int .u64 c]).run Tryz.prog w =
 .ok (.value (.tuple #[.int .u64 ((x + y + c) % 18446744073709551616),.int .u64 ((x + y + c) / 18446744073709551616)])) w:=by
 rw [run_callFunc_extern Tryz.func285 (by kernel_rfl) (by kernel_rfl) (by kernel_rfl) (e:=add64Entry) (by kernel_rfl),run_add64 x y c hx hy hc0 hc]
 rfl
theorem ap7 (x y b : Int) (hx : 0 ≤ x) (hy : 0 ≤ y) (hy' : y < 18446744073709551616) (hb0 : 0 ≤ b) (hb : b ≤ 1) (w : World) : (callFunc 287 #[.int .u64 x,.int .u64 y,.int .u64 b]).run Tryz.prog w =
 .ok (.value (.tuple #[.int .u64 ((x - y - b) % 18446744073709551616),.int .u64 (if x < y + b then 1 else 0)])) w:=by
 obtain ⟨x,rfl⟩:=Int.eq_ofNat_of_zero_le hx
 obtain ⟨y,rfl⟩:=Int.eq_ofNat_of_zero_le hy
 obtain ⟨b,rfl⟩:=Int.eq_ofNat_of_zero_le hb0
 have e1 : (((x + 18446744073709551616 - y - b) % 18446744073709551616 : Nat) : Int) = ((x : Int) - y - b) % 18446744073709551616:=by omega
 have e2 : ((if x < y + b then 1 else 0 : Nat) : Int) = if (x : Int) < y + b then 1 else 0:=by split <;> split <;> omega
 rw [← e1,← e2,run_callFunc_extern Tryz.func287 (by kernel_rfl) (by kernel_rfl) (by kernel_rfl) (e:=sub64Entry) (by kernel_rfl),run_sub64 x y b (by omega)]
 rfl
theorem hI (h l : Int) (w : World) :
 Calls Tryz.prog 284 #[.agg #[.int .u64 h,.int .u64 l]] w fun e w' => e = .returned (.agg #[.int .u64 l,.int .u64 h]) ∧ Below w.heap.size w w':=by
 go_enter Tryz.func284,Tryz.ntmps284
 go_wp2
 exact bodyPost_ret (v:=.agg #[.int .u64 l,.int .u64 h]) (by simp [results,Tryz.results284,go_sem]) rfl ⟨rfl,aq _ _ _⟩
theorem io (l h : Int) (w : World) :
 Calls Tryz.prog 286 #[.agg #[.int .u64 l,.int .u64 h]] w fun e w' => e = .returned (.agg #[.int .u64 h,.int .u64 l]) ∧ Below w.heap.size w w':=by
 go_enter Tryz.func286,Tryz.ntmps286
 go_wp2
 exact bodyPost_ret (v:=.agg #[.int .u64 h,.int .u64 l]) (by simp [results,Tryz.results286,go_sem]) rfl ⟨rfl,aq _ _ _⟩
theorem agu (ah al bh bl : Int) (w : World) (a1 : 0 ≤ ah) (b1 : 0 ≤ al) (c1 : 0 ≤ bh) (d1 : 0 ≤ bl) (b2 : al < 18446744073709551616) (d2 : bl < 18446744073709551616) :
 Calls Tryz.prog 280 #[.agg #[.int .u64 ah,.int .u64 al],.agg #[.int .u64 bh,.int .u64 bl]] w fun e w' =>
  e = .returned (.agg #[.int .u64 ((ah + bh + (al + bl) / 18446744073709551616) % 18446744073709551616),.int .u64 ((al + bl) % 18446744073709551616)]) ∧ Below w.heap.size w w':=by
 have k0 : 0 ≤ (al + bl) / 18446744073709551616:=by omega
 have k1 : (al + bl) / 18446744073709551616 ≤ 1:=by omega
 have i0 : ∀ w,(Instr.index 239 (.agg #[.int .u64 al,.int .u64 ah]) (.int .i64 0)).run Tryz.prog w = .ok (.int .u64 al) w:=fun _ => by kernel_rfl
 have i1 : ∀ w,(Instr.index 239 (.agg #[.int .u64 al,.int .u64 ah]) (.int .i64 1)).run Tryz.prog w = .ok (.int .u64 ah) w:=fun _ => by kernel_rfl
 have s0:=fun w => ajx al bl 0 b1 d1 (by omega) (by omega) w
 have s1:=fun w => ajx ah bh _ a1 c1 k0 k1 w
 simp only [Int.add_zero] at s0
 go_enter Tryz.func280,Tryz.ntmps280
 go_wp2_with fail
 refine (hI bh bl _).mono ?_
 rintro e w1 ⟨rfl,hb1⟩
 have q0 : w1.cell? ⟨w.heap.size,0,none⟩ = some (.int .u64 ah):=by rw [hb1.cell (by first | (simp; done) | (simp; omega))]; simp [go_sem]
 have q1 : w1.cell? ⟨w.heap.size,1,none⟩ = some (.int .u64 al):=by rw [hb1.cell (by first | (simp; done) | (simp; omega))]; simp [go_sem]
 have r0 : w1.cell? ⟨w.heap.size + 1 + 1,0,none⟩ = some (.int .u64 0):=by rw [hb1.cell (by first | (simp; done) | (simp; omega))]; simp [go_sem]
 have r1 : w1.cell? ⟨w.heap.size + 1 + 1,1,none⟩ = some (.int .u64 0):=by rw [hb1.cell (by first | (simp; done) | (simp; omega))]; simp [go_sem]
 have f0 : w1.frozen? ⟨w.heap.size + 1 + 1,0,none⟩ = false:=by rw [hb1.frozen (by first | (simp; done) | (simp; omega))]; simp [go_sem]
 have f1 : w1.frozen? ⟨w.heap.size + 1 + 1,1,none⟩ = false:=by rw [hb1.frozen (by first | (simp; done) | (simp; omega))]; simp [go_sem]
 have hz1 : w.heap.size + 1 + 1 < w1.heap.size:=by have:=hb1.size; simp at this; omega
 have hz1' : w.heap.size < w1.heap.size:=by omega
 go_wp2_with fail
 refine (hI ah al _).mono ?_
 rintro e w2 ⟨rfl,hb2⟩
 obtain ⟨hc2,hf2⟩:=d8 hb2
 have hz2 : w1.heap.size + 1 < w2.heap.size:=by have:=hb2.size; simp at this; omega
 go_wp2_with fail
 refine wp_loop_rounds 3 ?_
 rw [rounds_succ]
 go_wp2_with (first | simp only [s0] | simp only [s1])
 rw [rounds_succ]
 go_wp2_with (first | simp only [s0] | simp only [s1])
 rw [rounds_succ]
 go_wp2_with fail
 refine (io _ _ _).mono ?_
 rintro e w3 ⟨rfl,hb3⟩
 have hB : Below w1.heap.size w1 w3:=ac (((ac (aq _ _ _) hb2).setCell (p:=⟨w1.heap.size + 1,0,none⟩) (by simp) _).setCell (p:=⟨w1.heap.size + 1,1,none⟩) (by simp) _) hb3
 have t0 : w3.cell? ⟨w.heap.size + 1 + 1,0,none⟩ = some (.int .u64 0):=by rw [hB.cell (by simpa using hz1)]; exact r0
 have t1 : w3.cell? ⟨w.heap.size + 1 + 1,1,none⟩ = some (.int .u64 0):=by rw [hB.cell (by simpa using hz1)]; exact r1
 have x0 : w3.frozen? ⟨w.heap.size + 1 + 1,0,none⟩ = false:=by rw [hB.frozen (by simpa using hz1)]; exact f0
 have x1 : w3.frozen? ⟨w.heap.size + 1 + 1,1,none⟩ = false:=by rw [hB.frozen (by simpa using hz1)]; exact f1
 go_wp2
 refine bodyPost_ret (v:=.agg #[.int .u64 ((ah + bh + (al + bl) / 18446744073709551616) % 18446744073709551616),.int .u64 ((al + bl) % 18446744073709551616)]) ?_ rfl ⟨rfl,?_⟩
 ·simp [results,Tryz.results280,go_sem,t0,t1]
 ·exact ((ac (ac (ad (aq _ _ _) _) hb1) hB).setCell (by simp; omega) _).setCell (by simp; omega) _
def bor (x y : Int) : Int:=if x < y then 1 else 0
theorem aat (x y b : Int) (hx : 0 ≤ x) (hy : 0 ≤ y) (hy' : y < 18446744073709551616) (hb0 : 0 ≤ b) (hb : b ≤ 1) (w : World) : (callFunc 287 #[.int .u64 x,.int .u64 y,.int .u64 b]).run Tryz.prog w =
 .ok (.value (.tuple #[.int .u64 ((x - y - b) % 18446744073709551616),.int .u64 (bor x (y + b))])) w:=ap7 x y b hx hy hy' hb0 hb w
theorem agv (ah al bh bl : Int) (w : World) (a1 : 0 ≤ ah) (b1 : 0 ≤ al) (c1 : 0 ≤ bh) (d1 : 0 ≤ bl) (c2 : bh < 18446744073709551616) (d2 : bl < 18446744073709551616) :
 Calls Tryz.prog 281 #[.agg #[.int .u64 ah,.int .u64 al],.agg #[.int .u64 bh,.int .u64 bl]] w fun e w' =>
  e = .returned (.agg #[.int .u64 ((ah - bh - bor al bl) % 18446744073709551616),.int .u64 ((al - bl) % 18446744073709551616)]) ∧ Below w.heap.size w w':=by
 have k0 : 0 ≤ bor al bl:=by unfold bor; split <;> omega
 have k1 : bor al bl ≤ 1:=by unfold bor; split <;> omega
 have i0 : ∀ w,(Instr.index 239 (.agg #[.int .u64 al,.int .u64 ah]) (.int .i64 0)).run Tryz.prog w = .ok (.int .u64 al) w:=fun _ => by kernel_rfl
 have i1 : ∀ w,(Instr.index 239 (.agg #[.int .u64 al,.int .u64 ah]) (.int .i64 1)).run Tryz.prog w = .ok (.int .u64 ah) w:=fun _ => by kernel_rfl
 have s0:=fun w => aat al bl 0 b1 d1 d2 (by omega) (by omega) w
 have s1:=fun w => aat ah bh _ a1 c1 c2 k0 k1 w
 simp only [Int.add_zero,Int.sub_zero] at s0
 go_enter Tryz.func281,Tryz.ntmps281
 go_wp2_with fail
 refine (hI bh bl _).mono ?_
 rintro e w1 ⟨rfl,hb1⟩
 have q0 : w1.cell? ⟨w.heap.size,0,none⟩ = some (.int .u64 ah):=by rw [hb1.cell (by first | (simp; done) | (simp; omega))]; simp [go_sem]
 have q1 : w1.cell? ⟨w.heap.size,1,none⟩ = some (.int .u64 al):=by rw [hb1.cell (by first | (simp; done) | (simp; omega))]; simp [go_sem]
 have r0 : w1.cell? ⟨w.heap.size + 1 + 1,0,none⟩ = some (.int .u64 0):=by rw [hb1.cell (by first | (simp; done) | (simp; omega))]; simp [go_sem]
 have r1 : w1.cell? ⟨w.heap.size + 1 + 1,1,none⟩ = some (.int .u64 0):=by rw [hb1.cell (by first | (simp; done) | (simp; omega))]; simp [go_sem]
 have f0 : w1.frozen? ⟨w.heap.size + 1 + 1,0,none⟩ = false:=by rw [hb1.frozen (by first | (simp; done) | (simp; omega))]; simp [go_sem]
 have f1 : w1.frozen? ⟨w.heap.size + 1 + 1,1,none⟩ = false:=by rw [hb1.frozen (by first | (simp; done) | (simp; omega))]; simp [go_sem]
 have hz1 : w.heap.size + 1 + 1 < w1.heap.size:=by have:=hb1.size; simp at this; omega
 have hz1' : w.heap.size < w1.heap.size:=by omega
 go_wp2_with fail
 refine (hI ah al _).mono ?_
 rintro e w2 ⟨rfl,hb2⟩
 obtain ⟨hc2,hf2⟩:=d8 hb2
 have hz2 : w1.heap.size + 1 < w2.heap.size:=by have:=hb2.size; simp at this; omega
 go_wp2_with fail
 refine wp_loop_rounds 3 ?_
 rw [rounds_succ]
 go_wp2_with (first | simp only [s0] | simp only [s1])
 rw [rounds_succ]
 go_wp2_with (first | simp only [s0] | simp only [s1])
 rw [rounds_succ]
 go_wp2_with fail
 refine (io _ _ _).mono ?_
 rintro e w3 ⟨rfl,hb3⟩
 have hB : Below w1.heap.size w1 w3:=ac (((ac (aq _ _ _) hb2).setCell (p:=⟨w1.heap.size + 1,0,none⟩) (by simp) _).setCell (p:=⟨w1.heap.size + 1,1,none⟩) (by simp) _) hb3
 have t0 : w3.cell? ⟨w.heap.size + 1 + 1,0,none⟩ = some (.int .u64 0):=by rw [hB.cell (by simpa using hz1)]; exact r0
 have t1 : w3.cell? ⟨w.heap.size + 1 + 1,1,none⟩ = some (.int .u64 0):=by rw [hB.cell (by simpa using hz1)]; exact r1
 have x0 : w3.frozen? ⟨w.heap.size + 1 + 1,0,none⟩ = false:=by rw [hB.frozen (by simpa using hz1)]; exact f0
 have x1 : w3.frozen? ⟨w.heap.size + 1 + 1,1,none⟩ = false:=by rw [hB.frozen (by simpa using hz1)]; exact f1
 go_wp2
 refine bodyPost_ret (v:=.agg #[.int .u64 ((ah - bh - bor al bl) % 18446744073709551616),.int .u64 ((al - bl) % 18446744073709551616)]) ?_ rfl ⟨rfl,?_⟩
 ·simp [results,Tryz.results281,go_sem,t0,t1]
 ·exact ((ac (ac (ad (aq _ _ _) _) hb1) hB).setCell (by simp; omega) _).setCell (by simp; omega) _
def pn (v u : Nat) : Nat:=(v + u) % 340282366920938463463374607431768211456
def lU (v u : Nat) : Nat:=(v + (340282366920938463463374607431768211456 - u)) % 340282366920938463463374607431768211456
theorem ap8 (v u : Nat) (w : World) :
 Calls Tryz.prog 280 #[.agg #[.int .u64 (hi v),.int .u64 (lo v)],.agg #[.int .u64 (hi u),.int .u64 (lo u)]] w fun e w' => e = .returned (.agg #[.int .u64 (hi (pn v u)),.int .u64 (lo (pn v u))]) ∧ Below w.heap.size w w':=by
 have h:=agu (hi v) (lo v) (hi u) (lo u) w (nD v) (ml v) (nD u) (ml u) (oZ v) (oZ u)
 have e1 : hi (pn v u) = (hi v + hi u + (lo v + lo u) / 18446744073709551616) % 18446744073709551616:=by unfold hi lo pn; omega
 have e2 : lo (pn v u) = (lo v + lo u) % 18446744073709551616:=by unfold lo pn; omega
 rw [e1,e2]
 exact h
theorem ajy (v u : Nat) (w : World) (hu : W2 u) :
 Calls Tryz.prog 281 #[.agg #[.int .u64 (hi v),.int .u64 (lo v)],.agg #[.int .u64 (hi u),.int .u64 (lo u)]] w fun e w' => e = .returned (.agg #[.int .u64 (hi (lU v u)),.int .u64 (lo (lU v u))]) ∧ Below w.heap.size w w':=by
 have h:=agv (hi v) (lo v) (hi u) (lo u) w (nD v) (ml v) (nD u) (ml u) (zx hu) (oZ u)
 unfold W2 at hu
 have e1 : hi (lU v u) = (hi v - hi u - bor (lo v) (lo u)) % 18446744073709551616:=by
  unfold hi lo lU bor
  by_cases c : ((v % 18446744073709551616 : Nat) : Int) < ((u % 18446744073709551616 : Nat) : Int)
  ·rw [if_pos c]; omega
  ·rw [if_neg c]; omega
 have e2 : lo (lU v u) = (lo v - lo u) % 18446744073709551616:=by unfold lo lU; omega
 rw [e1,e2]
 exact h
theorem ams (y : Int) (w : World) (h0 : 0 ≤ y) (h1 : y < 18446744073709551616) :
 Calls Tryz.prog 288 #[.int .u64 y] w fun e w' => e = .returned (.int .i64 ((64 - Go.bitLen y.toNat : Nat) : Int)) ∧ w' = w:=by
 have hb:=jQ y.toNat (by omega)
 have HC : Hid (64 - (Go.bitLen y.toNat : Int) = ((64 - Go.bitLen y.toNat : Nat) : Int)):=by unfold Hid; omega
 go_enter Tryz.func288,Tryz.ntmps288
 go_wp2_with (go_at_call 222; refine (gS y _ h0 h1).mono ?_; rintro e w' ⟨rfl,rfl⟩)
 go_ret
 exact ⟨fP HC.out,rfl⟩
theorem aho (x l y : Int) (x0 : 0 ≤ x) (x1 : x < y) (l0 : 0 ≤ l) (l1 : l < 18446744073709551616) (y1 : y < 18446744073709551616) :
 ∃ (s : Nat) (Y U L a b c d : Int),s = 64 - Go.bitLen y.toNat ∧ s ≤ 63 ∧ IntKind.u64.wrap (y * 2 ^ s) = Y ∧ Y / 4294967296 = a ∧ bits .and .u64 Y 4294967295 = b ∧
  bits .or .u64 (IntKind.u64.wrap (x * 2 ^ s)) (l / 2 ^ (64 - s)) = U ∧ IntKind.u64.wrap (l * 2 ^ s) = L ∧ L / 4294967296 = c ∧ bits .and .u64 L 4294967295 = d ∧
  iD U c a b ∧ 0 ≤ d ∧ d < 4294967296 ∧ Y = a * 4294967296 + b ∧ Y = y * 2 ^ s ∧ (x * 18446744073709551616 + l) * 2 ^ s = (U * 4294967296 + c) * 4294967296 + d:=by
 obtain ⟨X,rfl⟩:=Int.eq_ofNat_of_zero_le x0
 obtain ⟨M,rfl⟩:=Int.eq_ofNat_of_zero_le l0
 obtain ⟨Z,rfl⟩:=Int.eq_ofNat_of_zero_le (show 0 ≤ y by omega)
 obtain ⟨s,U,hs,hs63,hY0,hY1,hU,hV,hlt⟩:=abe X M Z (by omega) (by omega) (by omega)
 have eY : IntKind.u64.wrap ((Z : Int) * 2 ^ s) = ((Z * 2 ^ s : Nat) : Int):=by rw [fu,Nat.mod_eq_of_lt hY1]
 have eL:=fu M s
 have eU : bits .or .u64 (IntKind.u64.wrap ((X : Int) * 2 ^ s)) ((M : Int) / 2 ^ (64 - s)) = (U : Int):=by
  rw [fu,fQ]
  exact iS _ _ _ (by omega) (Nat.lt_of_le_of_lt (Nat.div_le_self _ _) (by omega)) hU
 have hL : M * 2 ^ s % 18446744073709551616 < 18446744073709551616:=Nat.mod_lt _ (by omega)
 have ep : ((Z * 2 ^ s : Nat) : Int) = (Z : Int) * 2 ^ s:=by rw [Int.natCast_mul,Int.natCast_pow]; rfl
 have eq : ((X : Int) * 18446744073709551616 + M) * 2 ^ s = (((X * 18446744073709551616 + M) * 2 ^ s : Nat) : Int):=by rw [Int.natCast_mul,Int.natCast_pow,Int.natCast_add,Int.natCast_mul]; rfl
 refine ⟨s,_,_,_,_,_,_,_,by rw [Int.toNat_natCast]; exact hs,hs63,eY,rfl,Go.and_low32 _ (by omega) (by omega),eU,eL,rfl,Go.and_low32 _ (by omega) (by omega),?_,?_,?_,?_,ep,?_⟩
 ·unfold iD
  generalize M * 2 ^ s % 18446744073709551616 = L at *
  generalize Z * 2 ^ s = Y at *
  omega
 ·omega
 ·omega
 ·omega
 ·rw [eq,hV]
  generalize M * 2 ^ s % 18446744073709551616 = L at *
  omega
theorem wJ (x l y : Int) (w : World) (x0 : 0 < x) (x1 : x < y) (l0 : 0 ≤ l) (l1 : l < 18446744073709551616) (y1 : y < 18446744073709551616) :
 Calls Tryz.prog 282 #[.int .u64 x,.int .u64 l,.int .u64 y] w fun e w' => e = .returned (.tuple #[.int .u64 ((x * 18446744073709551616 + l) / y),.int .u64 ((x * 18446744073709551616 + l) % y)]) ∧ w' = w:=by
 have n0 : (y == 0) = false:=by rw [beq_eq_false_iff_ne]; omega
 have n1 : (x == 0) = false:=by rw [beq_eq_false_iff_ne]; omega
 have n2 : ¬ y ≤ x:=by omega
 obtain ⟨s,Y,U,L,a,b,c,d,hs,hs63,eY,ea,eb,eU,eL,ec,ed,hN,hd0,hd1,eYa,eYp,eV⟩:=aho x l y (by omega) x1 l0 l1 y1
 have HY:=ab eY; have Ha:=ab ea; have Hb:=ab eb; have HU:=ab eU; have HL:=ab eL; have Hc:=ab ec; have Hd:=ab ed
 have HN:=ab hN; have HYa:=ab eYa; have HYp:=ab eYp; have HV:=ab eV
 clear eY ea eb eU eL ec ed eYa eYp eV
 have HS:=ab hs
 clear hs
 go_enter Tryz.func282,Tryz.ntmps282
 go_wp2_with fail
 refine (ams y _ (by omega) y1).mono ?_
 rintro e w' ⟨rfl,rfl⟩
 rw [← aa HS]
 go_upto_region 15 with fail
 rw [aa HY,aa HU,aa HL,aa Ha,aa Hb,aa Hc,aa Hd]
 have a0 : 0 < a:=by have:=(aa HN).1; omega
 have a1 : (a == 0) = false:=by rw [beq_eq_false_iff_ne]; omega
 have U0 : 0 ≤ U:=(aa HN).2.2.2.2.1
 obtain ⟨q,r,eq1,er1,ht⟩:=qc (aa HN)
 have Hq1:=ab eq1; have Hr1:=ab er1; have HT:=ab ht
 clear eq1 er1 ht
 go_upto_region 16 with fail
 rw [aa Hq1]
 go_upto_block 0 with fail
 rw [aa Hr1]
 go_cut [15,16] (fun t _ w1 => w1 = w' ∧ ∃ q : Int,t = .int .u64 q ∧ je U c a b q)
 case first =>
  go_wp2_with fail
  go_loop [15,16] (fun t t' => ∃ q r : Int,t = .int .u64 q ∧ t' = .int .u64 r ∧ gd U c a b q r) (fun t _ => (intOf t).toNat)
  case atStart => exact ⟨q,r,rfl,rfl,aa HT⟩
  case round =>
   clear HT Hq1 Hr1
   obtain ⟨q,r,rfl,rfl,ht⟩:=hrel
   have HT:=ab ht
   clear ht
   go_wp2_with fail
   ·go_meet
    case rel => exact ⟨rfl,_,rfl,fx (aa HN) (aa HT) (by assumption) (by assumption)⟩
   ·have hn:=fX (aa HN) (aa HT) (by assumption) (by assumption)
    exact ⟨⟨_,_,rfl,rfl,hn.1⟩,hn.2⟩
   ·go_meet
    case rel => exact ⟨rfl,_,rfl,l5 (aa HN) (aa HT) (And.right (by assumption))⟩
   ·go_meet
    case rel => exact ⟨rfl,_,rfl,fx (aa HN) (aa HT) (Or.inl (by assumption)) (by assumption)⟩
   ·have hn:=fX (aa HN) (aa HT) (Or.inl (by omega)) (by assumption)
    exact ⟨⟨_,_,rfl,rfl,hn.1⟩,hn.2⟩
 case rest =>
  obtain ⟨rfl,q,rfl,hD⟩:=hcut
  have HD:=ab hD
  clear hD
  obtain ⟨R,eR,eR1,eR2,eR3⟩:=uw (aa HN) (aa HD) (aa HYa)
  have HR:=ab eR; have HR1:=ab eR1
  have HN2:=ab (wK (d:=d) (aa HN) (aa HYa) eR2 eR3 hd0 hd1)
  have HR2:=ab (And.intro eR2 eR3)
  clear eR eR1 eR2 eR3
  have R0 : 0 ≤ R:=(aa HR2).1
  obtain ⟨q',r',eq2,er2,ht2⟩:=qc (aa HN2)
  have Hq2:=ab eq2; have Hr2:=ab er2; have HT2:=ab ht2
  clear eq2 er2 ht2
  go_upto_region 22 with fail
  rw [aa HR]
  go_upto_region 23 with fail
  rw [aa Hq2]
  go_upto_block 2 with fail
  rw [aa Hr2]
  go_cut [18,16] (fun t _ w1 => w1 = wc ∧ ∃ z : Int,t = .int .u64 z ∧ je R d a b z)
  case first =>
   go_wp2_with fail
   go_loop [18,16] (fun t t' => ∃ q r : Int,t = .int .u64 q ∧ t' = .int .u64 r ∧ gd R d a b q r) (fun t _ => (intOf t).toNat)
   case atStart => exact ⟨q',r',rfl,rfl,aa HT2⟩
   case round =>
    clear HT2 Hq2 Hr2
    obtain ⟨p,r,rfl,rfl,ht⟩:=hrel
    have HT:=ab ht
    clear ht
    go_wp2_with fail
    ·go_meet
     case rel => exact ⟨rfl,_,rfl,fx (aa HN2) (aa HT) (by assumption) (by assumption)⟩
    ·have hn:=fX (aa HN2) (aa HT) (by assumption) (by assumption)
     exact ⟨⟨_,_,rfl,rfl,hn.1⟩,hn.2⟩
    ·go_meet
     case rel => exact ⟨rfl,_,rfl,l5 (aa HN2) (aa HT) (And.right (by assumption))⟩
    ·go_meet
     case rel => exact ⟨rfl,_,rfl,fx (aa HN2) (aa HT) (Or.inl (by assumption)) (by assumption)⟩
    ·have hn:=fX (aa HN2) (aa HT) (Or.inl (by omega)) (by assumption)
     exact ⟨⟨_,_,rfl,rfl,hn.1⟩,hn.2⟩
  case rest =>
   obtain ⟨rfl,z,rfl,hD2⟩:=hcut
   obtain ⟨T,eT,eT1,eT2,eT3⟩:=uw (aa HN2) hD2 (aa HYa)
   have hf:=abd (x * 18446744073709551616 + l) y (2 ^ s) Y U c d R T q z (Int.pow_pos (by omega)) (by omega) (aa HYp) (aa HV) (aa HR1) eT1 eT2 eT3
   have HJ:=ab (abc (aa HD).1 (aa HD).2.1 hD2.1 hD2.2.1)
   have HF:=ab hf
   have HTT:=ab eT
   clear eT eT1 eT2 eT3 hD2 hf
   go_wp2
   rw [aa HJ,aa HTT,(aa HF).1,(aa HF).2]
   go_ret2
   exact ⟨rfl,rfl⟩
theorem wG (l y : Int) (w : World) (l0 : 0 ≤ l) (l1 : l < 18446744073709551616) (y0 : 0 < y) :
 Calls Tryz.prog 282 #[.int .u64 0,.int .u64 l,.int .u64 y] w fun e w' => e = .returned (.tuple #[.int .u64 (l / y),.int .u64 (l % y)]) ∧ ∃ n,w' = w.drewN n:=by
 have n0 : (y == 0) = false:=by rw [beq_eq_false_iff_ne]; omega
 have n2 : ¬ y ≤ 0:=by omega
 go_enter Tryz.func282,Tryz.ntmps282
 go_wp2
 go_quiet (fail)
 go_wp2
 go_ret2
 exact ⟨rfl,_,rfl⟩
theorem wH (x l y : Int) (w : World) (x0 : 0 ≤ x) (x1 : x < y) (l0 : 0 ≤ l) (l1 : l < 18446744073709551616) (y1 : y < 18446744073709551616) :
 Calls Tryz.prog 282 #[.int .u64 x,.int .u64 l,.int .u64 y] w fun e w' => e = .returned (.tuple #[.int .u64 ((x * 18446744073709551616 + l) / y),.int .u64 ((x * 18446744073709551616 + l) % y)]) ∧ Below w.heap.size w w':=by
 by_cases c : x = 0
 ·subst c
  rw [Int.zero_mul,Int.zero_add]
  refine (wG l y w l0 l1 x1).mono ?_
  rintro e w' ⟨rfl,n,rfl⟩
  exact ⟨rfl,below_drewN (Below.refl _ _) n⟩
 ·refine (wJ x l y w (by omega) x1 l0 l1 y1).mono ?_
  rintro e w' ⟨rfl,rfl⟩
  exact ⟨rfl,Below.refl _ _⟩
theorem abb (q z : Nat) (h : z < 18446744073709551616) : (q * 18446744073709551616 + z) / 18446744073709551616 = q ∧ (q * 18446744073709551616 + z) % 18446744073709551616 = z:=by omega
theorem ahn (v B : Nat) (hB : 0 < B) :
 v / 18446744073709551616 / B = v / B / 18446744073709551616 ∧ (v / 18446744073709551616 % B * 18446744073709551616 + v % 18446744073709551616) / B = v / B % 18446744073709551616 ∧
  (v / 18446744073709551616 % B * 18446744073709551616 + v % 18446744073709551616) % B = v % B:=by
 have e:=Nat.div_add_mod v 18446744073709551616
 have e2:=Nat.div_add_mod (v / 18446744073709551616) B
 have ev : v = B * (v / 18446744073709551616 / B * 18446744073709551616) + (v / 18446744073709551616 % B * 18446744073709551616 + v % 18446744073709551616):=by
  rw [← Nat.mul_assoc]
  generalize B * (v / 18446744073709551616 / B) = Q at *
  omega
 have hlt : (v / 18446744073709551616 % B * 18446744073709551616 + v % 18446744073709551616) / B < 18446744073709551616:=by
  refine Nat.div_lt_of_lt_mul ?_
  have:=Nat.mod_lt (v / 18446744073709551616) hB
  have h2 : v % 18446744073709551616 < 18446744073709551616:=Nat.mod_lt _ (by omega)
  omega
 have ed : v / B = v / 18446744073709551616 / B * 18446744073709551616 + (v / 18446744073709551616 % B * 18446744073709551616 + v % 18446744073709551616) / B:=by
  have : v / B = (B * (v / 18446744073709551616 / B * 18446744073709551616) + (v / 18446744073709551616 % B * 18446744073709551616 + v % 18446744073709551616)) / B:=by rw [← ev]
  rw [this,Nat.mul_add_div hB]
 have em : v % B = (v / 18446744073709551616 % B * 18446744073709551616 + v % 18446744073709551616) % B:=by
  have : v % B = (B * (v / 18446744073709551616 / B * 18446744073709551616) + (v / 18446744073709551616 % B * 18446744073709551616 + v % 18446744073709551616)) % B:=by rw [← ev]
  rw [this,Nat.mul_add_mod]
 obtain ⟨j1,j2⟩:=abb (v / 18446744073709551616 / B) _ hlt
 rw [← ed] at j1 j2
 exact ⟨j1.symm,j2.symm,em.symm⟩
theorem wI (v : Nat) (b : Int) (hv : W2 v) (b0 : 0 < b) (b1 : b < 18446744073709551616) :
 IntKind.u64.wrap ((hi v).tdiv b) = hi (v / b.toNat) ∧ ((hi v).tmod b * 18446744073709551616 + lo v) / b = lo (v / b.toNat) ∧ ((hi v).tmod b * 18446744073709551616 + lo v) % b = ((v % b.toNat : Nat) : Int) ∧
  0 ≤ (hi v).tmod b ∧ (hi v).tmod b < b:=by
 obtain ⟨B,rfl⟩:=Int.eq_ofNat_of_zero_le (show 0 ≤ b by omega)
 obtain ⟨d1,d2,d3⟩:=ahn v B (by omega)
 have h1:=zx hv
 rw [Int.toNat_natCast,Int.tdiv_eq_ediv_of_nonneg (nD v),Int.tmod_eq_emod_of_nonneg (nD v)]
 unfold hi lo at *
 rw [← d1,← d2,← d3]
 have hle:=Nat.div_le_self (v / 18446744073709551616) B
 refine ⟨?_,?_,?_,?_,?_⟩
 ·rw [← Int.natCast_ediv,IntKind.wrap_u64]
  generalize v / 18446744073709551616 / B = z at hle ⊢
  omega
 ·rw [← Int.natCast_emod]; rfl
 ·rw [← Int.natCast_emod]; rfl
 ·exact Int.emod_nonneg _ (by omega)
 ·exact Int.emod_lt_of_pos _ (by omega)
theorem aqh (v : Nat) (b : Int) (w : World) (hv : W2 v) (b0 : 0 < b) (b1 : b < 18446744073709551616) :
 Calls Tryz.prog 270 #[.agg #[.int .u64 (hi v),.int .u64 (lo v)],.int .u64 b] w fun e w' =>
  e = .returned (.tuple #[.agg #[.int .u64 (hi (v / b.toNat)),.int .u64 (lo (v / b.toNat))],.int .u64 ((v % b.toNat : Nat) : Int),.int .i64 0]) ∧ Below w.heap.size w w':=by
 have n0 : (b == 0) = false:=by rw [beq_eq_false_iff_ne]; omega
 obtain ⟨e1,e2,e3,e4,e5⟩:=wI v b hv b0 b1
 have H1:=ab e1; have H2:=ab e2; have H3:=ab e3; have H4:=ab e4; have H5:=ab e5
 clear e1 e2 e3 e4 e5
 go_enter Tryz.func270,Tryz.ntmps270
 go_wp2_with fail
 first | go_region_with (go_at_call 282; refine (wH ((hi v).tmod b) (lo v) b _ (aa H4) (aa H5) (ml v) (oZ v) b1).mono ?_; rintro e w1 ⟨rfl,hb⟩; obtain ⟨hc1,hf1⟩:=d8 hb; have hz : w.heap.size + 1 < w1.heap.size:=(by have:=hb.size; simp at this; omega); have hz' : w.heap.size < w1.heap.size:=(by omega)) | fail
 all_goals
  go_wp2
  refine bodyPost_ret (v:=.tuple #[.agg #[.int .u64 (IntKind.u64.wrap ((hi v).tdiv b)),.int .u64 (((hi v).tmod b * 18446744073709551616 + lo v) / b)],.int .u64 (((hi v).tmod b * 18446744073709551616 + lo v) % b),.int .i64 0]) (by simp (maxDischargeDepth:=8) [results,Tryz.results270,go_sem,hc1]) rfl ⟨by rw [aa H1,aa H2,aa H3],?_⟩
  exact ((((ac (iR _ _ _) hb).setCell (by simp) _).setCell (by simp) _).setCell (by simp) _).setCell (by simp) _
end Go.Proofs.YtpbgpdmffejdgaaGreatDoor.W
