/- MWRefB, MRefOpen. -/
import Derived.Test.YtpbgpdmffejdgaaGreatDoorG16
import Derived.Test.YtpbgpdmffejdgaaGreatDoorG17
namespace Go.Proofs.YtpbgpdmffejdgaaGreatDoor.W
set_option maxHeartbeats 1000000
open Go.RowKit
def dgt (x k : Nat) : Nat:=x / pw k % 4294967296
theorem bS (x k : Nat) : dgt x k < 4294967296:=Nat.mod_lt _ (by omega)
theorem gg (s : Value) (x k : Nat) (w : World) (h : ai w s x) (hk : k ≤ 1000000) :
 Calls Tryz.prog 56 #[s,.int .i64 (k : Int)] w fun e w' => e = .returned (.int .u64 ((dgt x k : Nat) : Int)) ∧ w' = w:=by
 obtain ⟨D,h1,h2,h3,rfl⟩:=h
 have:=als s D k w h1 hk
 rw [lz D k h2] at this
 exact this
theorem atc (s : Value) (x : Nat) (w : World) (h : ai w s x) : Calls Tryz.prog 56 #[s,.int .i64 0] w fun e w' => e = .returned (.int .u64 ((dgt x 0 : Nat) : Int)) ∧ w' = w:=gg s x 0 w h (by omega)
theorem atd (s : Value) (x : Nat) (w : World) (h : ai w s x) : Calls Tryz.prog 56 #[s,.int .i64 1] w fun e w' => e = .returned (.int .u64 ((dgt x 1 : Nat) : Int)) ∧ w' = w:=gg s x 1 w h (by omega)
theorem ai.drewN {w : World} {s : Value} {x : Nat} (h : ai w s x) (n : Nat) : ai (w.drewN n) s x:=h.below (below_drewN (Below.refl _ _) n)
theorem ai.alloc {w : World} {s : Value} {x : Nat} (h : ai w s x) (o : Obj) : ai (w.alloc o) s x:=h.below (ae _ _)
theorem oY (p q : Nat) (hp : p < 4294967296) (hq : q < 4294967296) : IntKind.u64.wrap (IntKind.u64.wrap ((p : Int) * 4294967296) + (q : Int)) = ((p * 4294967296 + q : Nat) : Int):=by
 rw [IntKind.wrap_u64,IntKind.wrap_u64]; omega
theorem re : pw 1 = 4294967296:=by decide +kernel
theorem lu : pw 2 = 18446744073709551616:=by decide +kernel
theorem rh : pw 4 = 340282366920938463463374607431768211456:=by decide +kernel
theorem vh (x : Nat) : ((dgt x 1 * 4294967296 + dgt x 0 : Nat) : Int) = lo x:=by
 unfold dgt lo; rw [re,mn]; omega
theorem ek (a : Option Addr) (n c x : Nat) (w : World) (h : ai w (.slice a n c) x) :
 Calls Tryz.prog 189 #[.agg #[.slice a n c]] w fun e w' => e = .returned (.int .u64 (lo x)) ∧ Below w.heap.size w w':=by
 have H:=ab h
 clear h
 go_enter Tryz.func189,Tryz.ntmps189
 go_wp2_with fail
 go_quiet ((first | (go_at_call_of 56 (Value.int IntKind.i64 1); exact Calls.quiet_of_same (atd _ x _ (((aa H).alloc _).drewN _))) | (go_at_call_of 56 (Value.int IntKind.i64 0); exact Calls.quiet_of_same (atc _ x _ (((aa H).alloc _).drewN _)))))
 go_wp2
 go_ret
 exact ⟨fP ((oY _ _ (bS _ _) (bS _ _)).trans (vh x)),below_drewN (ae _ _) _⟩
theorem ri {D : List Nat} (hs : cg D) (hc : tS D) (hl : 0 < D.length) : Go.bitLen (val D) = 32 * (D.length - 1) + Go.bitLen (dg D (D.length - 1)):=by
 rw [mN hs hl,fS]
 refine Go.bitLen_shift _ _ ?_
 rw [← fS]
 rcases hc with hc | hc
 ·subst hc; simp at hl
 ·have:=Nat.div_pos hc (rm _); omega
theorem jS {t : Nat} (h : ¬ t = 0) : Go.bitLen t = 1 + Go.bitLen (t / 2):=by
 by_cases h2 : t / 2 = 0
 ·have : t = 1:=by omega
  subst this; rfl
 ·have:=Go.bitLen_shift t 1 (by simpa using h2)
  simpa using this
theorem eZ (a : Option Addr) (n c x : Nat) (w : World) (h : ai w (.slice a n c) x) :
 Calls Tryz.prog 253 #[.agg #[.slice a n c]] w fun e w' => e = .returned (.int .i64 (Go.bitLen x : Int)) ∧ Below w.heap.size w w':=by
 obtain ⟨D,hH,hs,hC,rfl⟩:=h
 by_cases hn : D.length = 0
 ·have hD:=List.eq_nil_of_length_eq_zero hn
  subst hD
  have e : n = 0:=by
   rcases hH with ⟨h1,_⟩ | ⟨g,c',h1,_⟩
   ·injection h1
   ·injection h1
  subst e
  go_enter Tryz.func253,Tryz.ntmps253
  go_wp2
  go_ret
  exact ⟨rfl,ae _ _⟩
 ·have hb:=ri hs hC (by omega)
  have ht : dg D (D.length - 1) < 4294967296:=by rw [lz D _ hs]; exact Nat.mod_lt _ (by omega)
  rcases hH with ⟨_,h1⟩ | ⟨g,c',h1,h2,h3,h4,h5⟩
  ·subst h1; simp at hn
  ·injection h1 with e1 e2 e3
   subst e1 e2 e3
   have hcell : (w.alloc (.cells #[.slice (some ⟨g,0,none⟩) D.length c] 41)).cell? ⟨g,D.length - 1,none⟩ = some (.int .u64 ((dg D (D.length - 1) : Nat) : Int)):=by
    rw [World.cell?_alloc_lt _ _ _ h2]; exact h5 _ (by omega)
   have HB:=ab hb
   have HT:=ab ht
   have hbl : Go.bitLen (dg D (D.length - 1)) ≤ 32:=by
    have hp : (4294967296 : Nat) = 2 ^ 32:=rfl
    unfold Go.bitLen
    split
    ·omega
    ·rename_i h0
     have:=(Nat.log2_lt h0).2 (show dg D (D.length - 1) < 2 ^ 32 from ht)
     omega
   have hl : 0 < D.length:=by omega
   have hl' : D.length ≤ 1000000:=by omega
   have hb1 : ((D.length : Int) == 0) = false:=by rw [beq_eq_false_iff_ne]; omega
   clear hb h5 hs hC ht
   generalize dg D (D.length - 1) = T at *
   generalize D.length = L at *
   generalize val D = x at *
   go_enter Tryz.func253,Tryz.ntmps253
   go_wp2_with fail
   go_loop [3,4] (fun t3 t4 => ∃ j t : Nat,t3 = .int .i64 (32 * ((L : Int) - 1) + j) ∧ t4 = .int .u64 t ∧ t < 4294967296 ∧ j + Go.bitLen t = Go.bitLen T) (fun _ t4 => (intOf t4).toNat)
   case atStart => exact ⟨0,T,by simp,rfl,aa HT,by omega⟩
   case round =>
    obtain ⟨j,t,rfl,rfl,htl,hj⟩:=hrel
    have HJ:=ab hj
    have HL:=ab htl
    have hj32 : j ≤ 32:=by omega
    clear hj htl
    by_cases h0 : t = 0
    ·subst h0
     go_wp2_with fail
     go_ret
     exact ⟨fP (by have:=aa HJ; have:=aa HB; rw [show Go.bitLen 0 = 0 from rfl] at *; omega),ae _ _⟩
    ·go_wp2_with fail
     have e2 : IntKind.u64.wrap ((t : Int) / 2) = ((t / 2 : Nat) : Int):=by have:=aa HL; rw [IntKind.wrap_u64]; omega
     have e3:=jS h0
     have e4:=aa HJ
     have e5:=aa HL
     rw [e2]
     refine ⟨⟨j + 1,t / 2,?_,rfl,by omega,by omega⟩,by simp [intOf]; omega⟩
     congr 1
     omega
end Go.Proofs.YtpbgpdmffejdgaaGreatDoor.W
namespace Go.Proofs.YtpbgpdmffejdgaaGreatDoor
set_option maxRecDepth 100000
set_option maxHeartbeats 2000000
open Go.RowKit
theorem pF {w e f P Q b x xx yy : Int} {n : Bool} (W : World)
 (HX : Ct 178 #[.int .i64 w,.int .u64 x] (.int .i64 xx))
 (HY : Ct 179 #[.int .i64 w,.int .u64 x] (.int .u64 yy))
 (HN : Ct 116 #[.int .i64 w,.int .u64 x] (.bool n))
 (h : Kd w e f P Q b) (h1 : (xx == Q - 1) = true) (h2 : (yy != 0) = true) :
 Calls Tryz.prog 101 #[.int .i64 w,.int .u64 x] W fun r W' => r = .returned (.agg #[.bool false,.int .i64 3,.int .i64 0,.int .u64 0]) ∧ Below W.heap.size W W':=by
 have HT:=ab (fun W => cO h W)
 clear h
 go_enter Tryz.func101,Tryz.ntmps101
 go_wp2_with fail
 refine cg1 HX fun w1 hbl => ?_
 have HR:=ab (fD hbl)
 have HB:=ab (ac (ae _ _) hbl)
 clear hbl
 go_wp2_with fail
 refine cg1 HY fun w2 hbl => ?_
 have HR:=ab ((aa HR).below hbl)
 have HB:=bt HB hbl
 clear hbl
 go_wp2_with fail
 refine cg1 HN fun w3 hbl => ?_
 have HR:=ab ((aa HR).below hbl)
 have HB:=bt HB hbl
 clear hbl
 go_wp2_with fail
 refine cg1 HT fun w4 hbl => ?_
 have HR:=ab ((aa HR).below hbl)
 have HB:=bt HB hbl
 clear hbl
 obtain ⟨⟨v0,c0⟩,f0⟩:=(aa HR) 0 (by omega)
 obtain ⟨⟨v1,c1⟩,f1⟩:=(aa HR) 1 (by omega)
 obtain ⟨⟨v2,c2⟩,f2⟩:=(aa HR) 2 (by omega)
 obtain ⟨⟨v3,c3⟩,f3⟩:=(aa HR) 3 (by omega)
 go_wp2_with fail
 exact bodyPost_ret (v:=.agg #[.bool false,.int .i64 3,.int .i64 0,.int .u64 0]) (by simp (maxDischargeDepth:=8) [results,Tryz.results101,go_sem,c0,c1,c2,c3]) rfl ⟨rfl,fY (aa HB) _ _ _ _⟩
theorem pG {w e f P Q b x xx yy : Int} {n : Bool} (W : World)
 (HX : Ct 178 #[.int .i64 w,.int .u64 x] (.int .i64 xx))
 (HY : Ct 179 #[.int .i64 w,.int .u64 x] (.int .u64 yy))
 (HN : Ct 116 #[.int .i64 w,.int .u64 x] (.bool n))
 (h : Kd w e f P Q b) (h1 : (xx == Q - 1) = true) (h2 : (yy != 0) = false) :
 Calls Tryz.prog 101 #[.int .i64 w,.int .u64 x] W fun r W' => r = .returned (.agg #[.bool n,.int .i64 2,.int .i64 0,.int .u64 0]) ∧ Below W.heap.size W W':=by
 have HT:=ab (fun W => cO h W)
 clear h
 go_enter Tryz.func101,Tryz.ntmps101
 go_wp2_with fail
 refine cg1 HX fun w1 hbl => ?_
 have HR:=ab (fD hbl)
 have HB:=ab (ac (ae _ _) hbl)
 clear hbl
 go_wp2_with fail
 refine cg1 HY fun w2 hbl => ?_
 have HR:=ab ((aa HR).below hbl)
 have HB:=bt HB hbl
 clear hbl
 go_wp2_with fail
 refine cg1 HN fun w3 hbl => ?_
 have HR:=ab ((aa HR).below hbl)
 have HB:=bt HB hbl
 clear hbl
 go_wp2_with fail
 refine cg1 HT fun w4 hbl => ?_
 have HR:=ab ((aa HR).below hbl)
 have HB:=bt HB hbl
 clear hbl
 obtain ⟨⟨v0,c0⟩,f0⟩:=(aa HR) 0 (by omega)
 obtain ⟨⟨v1,c1⟩,f1⟩:=(aa HR) 1 (by omega)
 obtain ⟨⟨v2,c2⟩,f2⟩:=(aa HR) 2 (by omega)
 obtain ⟨⟨v3,c3⟩,f3⟩:=(aa HR) 3 (by omega)
 go_wp2_with fail
 exact bodyPost_ret (v:=.agg #[.bool n,.int .i64 2,.int .i64 0,.int .u64 0]) (by simp (maxDischargeDepth:=8) [results,Tryz.results101,go_sem,c0,c1,c2,c3]) rfl ⟨rfl,fY (aa HB) _ _ _ _⟩
theorem pH {w e f P Q b x xx yy : Int} {n : Bool} (W : World)
 (HX : Ct 178 #[.int .i64 w,.int .u64 x] (.int .i64 xx))
 (HY : Ct 179 #[.int .i64 w,.int .u64 x] (.int .u64 yy))
 (HN : Ct 116 #[.int .i64 w,.int .u64 x] (.bool n))
 (h : Kd w e f P Q b) (h1 : (xx == Q - 1) = false) (h3 : (xx == 0) = true) (h2 : (yy == 0) = true) :
 Calls Tryz.prog 101 #[.int .i64 w,.int .u64 x] W fun r W' => r = .returned (.agg #[.bool n,.int .i64 0,.int .i64 0,.int .u64 0]) ∧ Below W.heap.size W W':=by
 have HT:=ab (fun W => cO h W)
 clear h
 go_enter Tryz.func101,Tryz.ntmps101
 go_wp2_with fail
 refine cg1 HX fun w1 hbl => ?_
 have HR:=ab (fD hbl)
 have HB:=ab (ac (ae _ _) hbl)
 clear hbl
 go_wp2_with fail
 refine cg1 HY fun w2 hbl => ?_
 have HR:=ab ((aa HR).below hbl)
 have HB:=bt HB hbl
 clear hbl
 go_wp2_with fail
 refine cg1 HN fun w3 hbl => ?_
 have HR:=ab ((aa HR).below hbl)
 have HB:=bt HB hbl
 clear hbl
 go_wp2_with fail
 refine cg1 HT fun w4 hbl => ?_
 have HR:=ab ((aa HR).below hbl)
 have HB:=bt HB hbl
 clear hbl
 obtain ⟨⟨v0,c0⟩,f0⟩:=(aa HR) 0 (by omega)
 obtain ⟨⟨v1,c1⟩,f1⟩:=(aa HR) 1 (by omega)
 obtain ⟨⟨v2,c2⟩,f2⟩:=(aa HR) 2 (by omega)
 obtain ⟨⟨v3,c3⟩,f3⟩:=(aa HR) 3 (by omega)
 go_wp2_with fail
 exact bodyPost_ret (v:=.agg #[.bool n,.int .i64 0,.int .i64 0,.int .u64 0]) (by simp (maxDischargeDepth:=8) [results,Tryz.results101,go_sem,c0,c1,c2,c3]) rfl ⟨rfl,fY (aa HB) _ _ _ _⟩
theorem pI {w e f P Q b x xx yy : Int} {n : Bool} (W : World)
 (HX : Ct 178 #[.int .i64 w,.int .u64 x] (.int .i64 xx))
 (HY : Ct 179 #[.int .i64 w,.int .u64 x] (.int .u64 yy))
 (HN : Ct 116 #[.int .i64 w,.int .u64 x] (.bool n))
 (h : Kd w e f P Q b) (h1 : (xx == Q - 1) = false) (h3 : (xx == 0) = true) (h2 : (yy == 0) = false) (k1 : IntKind.i64.wrap (1 - b) = 1 - b) (k2 : IntKind.i64.wrap (1 - b - f) = 1 - b - f) :
 Calls Tryz.prog 101 #[.int .i64 w,.int .u64 x] W fun r W' => r = .returned (.agg #[.bool n,.int .i64 1,.int .i64 (1 - b - f),.int .u64 yy]) ∧ Below W.heap.size W W':=by
 have HT:=ab (fun W => cO h W)
 have HBb:=ab (fun W => kX h W)
 have HF:=ab (fun W => d9 h W)
 clear h
 go_enter Tryz.func101,Tryz.ntmps101
 go_wp2_with fail
 refine cg1 HX fun w1 hbl => ?_
 have HR:=ab (fD hbl)
 have HB:=ab (ac (ae _ _) hbl)
 clear hbl
 go_wp2_with fail
 refine cg1 HY fun w2 hbl => ?_
 have HR:=ab ((aa HR).below hbl)
 have HB:=bt HB hbl
 clear hbl
 go_wp2_with fail
 refine cg1 HN fun w3 hbl => ?_
 have HR:=ab ((aa HR).below hbl)
 have HB:=bt HB hbl
 clear hbl
 go_wp2_with fail
 refine cg1 HT fun w4 hbl => ?_
 have HR:=ab ((aa HR).below hbl)
 have HB:=bt HB hbl
 clear hbl
 go_wp2_with fail
 refine cg1 HBb fun w5 hbl => ?_
 have HR:=ab ((aa HR).below hbl)
 have HB:=bt HB hbl
 clear hbl
 go_wp2_with fail
 refine cg1 HF fun w6 hbl => ?_
 have HR:=ab ((aa HR).below hbl)
 have HB:=bt HB hbl
 clear hbl
 obtain ⟨⟨v0,c0⟩,f0⟩:=(aa HR) 0 (by omega)
 obtain ⟨⟨v1,c1⟩,f1⟩:=(aa HR) 1 (by omega)
 obtain ⟨⟨v2,c2⟩,f2⟩:=(aa HR) 2 (by omega)
 obtain ⟨⟨v3,c3⟩,f3⟩:=(aa HR) 3 (by omega)
 go_wp2_with fail
 exact bodyPost_ret (v:=.agg #[.bool n,.int .i64 1,.int .i64 (1 - b - f),.int .u64 yy]) (by simp (maxDischargeDepth:=8) [results,Tryz.results101,go_sem,c0,c1,c2,c3]) rfl ⟨rfl,fY (aa HB) _ _ _ _⟩
theorem pJ {w e f P Q b x xx yy : Int} {n : Bool} (W : World)
 (HX : Ct 178 #[.int .i64 w,.int .u64 x] (.int .i64 xx))
 (HY : Ct 179 #[.int .i64 w,.int .u64 x] (.int .u64 yy))
 (HN : Ct 116 #[.int .i64 w,.int .u64 x] (.bool n))
 (h : Kd w e f P Q b) (h1 : (xx == Q - 1) = false) (h3 : (xx == 0) = false) (k1 : IntKind.i64.wrap (xx - b) = xx - b) (k2 : IntKind.i64.wrap (xx - b - f) = xx - b - f) (k3 : IntKind.u64.wrap (P + yy) = P + yy) :
 Calls Tryz.prog 101 #[.int .i64 w,.int .u64 x] W fun r W' => r = .returned (.agg #[.bool n,.int .i64 1,.int .i64 (xx - b - f),.int .u64 (P + yy)]) ∧ Below W.heap.size W W':=by
 have HT:=ab (fun W => cO h W)
 have HBb:=ab (fun W => kX h W)
 have HF:=ab (fun W => d9 h W)
 have H2:=ab (fun W => oO h W)
 clear h
 go_enter Tryz.func101,Tryz.ntmps101
 go_wp2_with fail
 refine cg1 HX fun w1 hbl => ?_
 have HR:=ab (fD hbl)
 have HB:=ab (ac (ae _ _) hbl)
 clear hbl
 go_wp2_with fail
 refine cg1 HY fun w2 hbl => ?_
 have HR:=ab ((aa HR).below hbl)
 have HB:=bt HB hbl
 clear hbl
 go_wp2_with fail
 refine cg1 HN fun w3 hbl => ?_
 have HR:=ab ((aa HR).below hbl)
 have HB:=bt HB hbl
 clear hbl
 go_wp2_with fail
 refine cg1 HT fun w4 hbl => ?_
 have HR:=ab ((aa HR).below hbl)
 have HB:=bt HB hbl
 clear hbl
 go_wp2_with fail
 refine cg1 HBb fun w5 hbl => ?_
 have HR:=ab ((aa HR).below hbl)
 have HB:=bt HB hbl
 clear hbl
 go_wp2_with fail
 refine cg1 HF fun w6 hbl => ?_
 have HR:=ab ((aa HR).below hbl)
 have HB:=bt HB hbl
 clear hbl
 go_wp2_with fail
 refine cg1 HF fun w7 hbl => ?_
 have HR:=ab ((aa HR).below hbl)
 have HB:=bt HB hbl
 clear hbl
 go_wp2_with fail
 refine cg1 H2 fun w8 hbl => ?_
 have HR:=ab ((aa HR).below hbl)
 have HB:=bt HB hbl
 clear hbl
 obtain ⟨⟨v0,c0⟩,f0⟩:=(aa HR) 0 (by omega)
 obtain ⟨⟨v1,c1⟩,f1⟩:=(aa HR) 1 (by omega)
 obtain ⟨⟨v2,c2⟩,f2⟩:=(aa HR) 2 (by omega)
 obtain ⟨⟨v3,c3⟩,f3⟩:=(aa HR) 3 (by omega)
 go_wp2_with fail
 exact bodyPost_ret (v:=.agg #[.bool n,.int .i64 1,.int .i64 (xx - b - f),.int .u64 (P + yy)]) (by simp (maxDischargeDepth:=8) [results,Tryz.results101,go_sem,c0,c1,c2,c3]) rfl ⟨rfl,fY (aa HB) _ _ _ _⟩
theorem aN {w e f P Q b : Int} (x : Int) {N : Bool} {K X S : Int} (h : Kd w e f P Q b) (W : World) (h0 : 0 ≤ x) (h1 : x < 18446744073709551616)
 (ho : dp f P Q b (sg P Q x) (x / P % Q) (x % P) N K X S) :
 Calls Tryz.prog 101 #[.int .i64 w,.int .u64 x] W fun r W' => r = .returned (.agg #[.bool N,.int .i64 K,.int .i64 X,.int .u64 S]) ∧ Below W.heap.size W W':=by
 have HX:=ab (fun W => qW x h W h0 h1)
 have HY:=ab (fun W => oQ x h W h0)
 have HN:=ab (fun W => dq x h W h0 h1)
 obtain ⟨p1,p2,q1,q2⟩:=h.wd.sz.pos
 obtain ⟨u,v⟩:=cJ (x / P) q1
 obtain ⟨u',v'⟩:=cJ x p1
 have hb : 0 ≤ b ∧ b ≤ 2000 ∧ 0 ≤ f ∧ f ≤ 60:=by rcases h with h | h <;> omega
 rcases ho with ⟨a,-⟩ | ⟨a,c,d,rfl,rfl,rfl,rfl⟩ | ⟨a,c,d,rfl,rfl,rfl,rfl⟩ | ⟨a,c,d,rfl,rfl,rfl,rfl⟩ | ⟨a,c,d,g,rfl,rfl,rfl,rfl⟩ | ⟨a,c,d,g,rfl,rfl,rfl,rfl⟩
 ·exact absurd a h.f0
 ·exact pF W HX HY HN h (aH c) (dj d)
 ·exact pG W HX HY HN h (aH c) (dJ d)
 ·exact pJ W HX HY HN h (au c) (au d) (aj (by omega) (by omega)) (aj (by omega) (by omega)) (by rw [IntKind.wrap_u64]; omega)
 ·exact pI W HX HY HN h (au c) (aH d) (au g) (aj (by omega) (by omega)) (aj (by omega) (by omega))
 ·exact pH W HX HY HN h (au c) (aH d) (aH g)
end Go.Proofs.YtpbgpdmffejdgaaGreatDoor
