/- MRef, MSgA, MSgB, MSgM, MSgC, MSgW. -/
import Derived.Test.YtpbgpdmffejdgaaGreatDoorG01
import Derived.Test.YtpbgpdmffejdgaaGreatDoorG05
import Derived.LoopN
import Derived.Laws.BitsAllLaws
namespace Go.Proofs.YtpbgpdmffejdgaaGreatDoor
set_option maxHeartbeats 1000000
open Go.RowKit
def Kd (w e f P Q b : Int) : Prop:=(w = 32 ∧ e = 8 ∧ f = 23 ∧ P = 8388608 ∧ Q = 256 ∧ b = 127) ∨ (w = 64 ∧ e = 11 ∧ f = 52 ∧ P = 4503599627370496 ∧ Q = 2048 ∧ b = 1023)
theorem Kd.wd {w e f P Q b : Int} (h : Kd w e f P Q b) : Wd w e f P Q b:=by
 rcases h with h | h
 ·exact Or.inl h
 ·exact Or.inr (Or.inl h)
theorem Wd.known {w e f P Q b : Int} (h : Wd w e f P Q b) (hf : f ≠ 0) : Kd w e f P Q b:=by
 rcases h with h | h | h
 ·exact Or.inl h
 ·exact Or.inr h
 ·exact absurd h.2.2.1 hf
theorem Kd.f0 {w e f P Q b : Int} (h : Kd w e f P Q b) : f ≠ 0:=by rcases h with h | h <;> omega
theorem kW {w e f P Q b : Int} (h : Kd w e f P Q b) (W : World) :
 Calls Tryz.prog 252 #[.int .i64 w] W fun r W' => r = .returned (.int .i64 e) ∧ Below W.heap.size W W':=by
 rcases h with ⟨rfl,rfl,rfl,rfl,rfl,rfl⟩ | ⟨rfl,rfl,rfl,rfl,rfl,rfl⟩
 all_goals
  go_enter Tryz.func252,Tryz.ntmps252
  go_wp2
  go_ret
  exact ⟨rfl,Below.refl _ _⟩
theorem kX {w e f P Q b : Int} (h : Kd w e f P Q b) (W : World) :
 Calls Tryz.prog 181 #[.int .i64 w] W fun r W' => r = .returned (.int .i64 b) ∧ Below W.heap.size W W':=by
 rcases h with ⟨rfl,rfl,rfl,rfl,rfl,rfl⟩ | ⟨rfl,rfl,rfl,rfl,rfl,rfl⟩
 all_goals
  go_enter Tryz.func181,Tryz.ntmps181
  go_wp2
  go_ret
  exact ⟨rfl,Below.refl _ _⟩
theorem d9 {w e f P Q b : Int} (h : Kd w e f P Q b) (W : World) :
 Calls Tryz.prog 182 #[.int .i64 w] W fun r W' => r = .returned (.int .i64 f) ∧ Below W.heap.size W W':=by
 have HE:=ab (fun W => kW h W)
 rcases h with ⟨rfl,rfl,rfl,rfl,rfl,rfl⟩ | ⟨rfl,rfl,rfl,rfl,rfl,rfl⟩
 all_goals
  go_enter Tryz.func182,Tryz.ntmps182
  go_wp2_with fail
  refine cg1 HE fun w1 hb1 => ?_
  go_wp2
  go_ret
  exact ⟨rfl,hb1⟩
theorem yq {k : Nat} (h : k ≤ 63) : ((2 ^ k : Nat) : Int) ≤ 9223372036854775808:=by
 have : 2 ^ k ≤ 2 ^ 63:=Nat.pow_le_pow_right (by omega) h
 omega
theorem dm (n T : Int) (W : World) (h0 : 0 ≤ n) (h1 : n ≤ 63) (hT : ((2 ^ n.toNat : Nat) : Int) = T) :
 Calls Tryz.prog 183 #[.int .i64 n] W fun r W' => r = .returned (.int .u64 T) ∧ Below W.heap.size W W':=by
 have HT:=ab hT
 clear hT
 go_enter Tryz.func183,Tryz.ntmps183
 go_wp2_with fail
 go_loop [3,4] (fun v3 v4 => ∃ (i p : Int),v3 = .int .u64 p ∧ v4 = .int .i64 i ∧ 0 ≤ i ∧ i ≤ n ∧ p = ((2 ^ i.toNat : Nat) : Int)) (fun _ v4 => (n - intOf v4).toNat)
 case atStart => exact ⟨0,1,rfl,rfl,by omega,h0,rfl⟩
 case round =>
  obtain ⟨i,p,rfl,rfl,i0,i1,hp⟩:=hrel
  have HP:=ab hp
  have h3 : p ≤ 9223372036854775808:=by rw [hp]; exact yq (by omega)
  have h2 : 0 ≤ p:=by rw [hp]; exact Int.natCast_nonneg _
  clear hp
  by_cases hc : i < n
  ·have h4 : p ≤ 4611686018427387904:=by
    rw [aa HP]
    have : 2 ^ i.toNat ≤ 2 ^ 62:=Nat.pow_le_pow_right (by omega) (by omega)
    omega
   have hm : IntKind.u64.wrap (2 * p) = 2 * p:=by rw [IntKind.wrap_u64]; omega
   have HQ : Hid (2 * p = ((2 ^ (i + 1).toNat : Nat) : Int)):=by
    rw [aa HP,show (i + 1).toNat = i.toNat + 1 by omega,Nat.pow_succ]
    unfold Hid
    omega
   go_wp2_with fail
   exact ⟨⟨i + 1,2 * p,rfl,rfl,by omega,by omega,aa HQ⟩,by simp [intOf]; omega⟩
  ·go_wp2_with fail
   go_ret
   exact ⟨fP (by rw [aa HP,show i = n by omega]; exact aa HT),Below.refl _ _⟩
theorem oO {w e f P Q b : Int} (h : Kd w e f P Q b) (W : World) : Calls Tryz.prog 183 #[.int .i64 f] W fun r W' => r = .returned (.int .u64 P) ∧ Below W.heap.size W W':=by
 rcases h with ⟨rfl,rfl,rfl,rfl,rfl,rfl⟩ | ⟨rfl,rfl,rfl,rfl,rfl,rfl⟩
 all_goals exact dm _ _ W (by omega) (by omega) (by decide +kernel)
theorem aji {w e f P Q b : Int} (h : Kd w e f P Q b) (W : World) : Calls Tryz.prog 183 #[.int .i64 e] W fun r W' => r = .returned (.int .u64 Q) ∧ Below W.heap.size W W':=by
 rcases h with ⟨rfl,rfl,rfl,rfl,rfl,rfl⟩ | ⟨rfl,rfl,rfl,rfl,rfl,rfl⟩
 all_goals exact dm _ _ W (by omega) (by omega) (by decide +kernel)
theorem tI {w e f P Q b : Int} (h : Kd w e f P Q b) (W : World) : Calls Tryz.prog 183 #[.int .i64 (w - 1)] W fun r W' => r = .returned (.int .u64 (P * Q)) ∧ Below W.heap.size W W':=by
 rcases h with ⟨rfl,rfl,rfl,rfl,rfl,rfl⟩ | ⟨rfl,rfl,rfl,rfl,rfl,rfl⟩
 all_goals exact dm _ _ W (by omega) (by omega) (by decide +kernel)
theorem apf {w e f P Q b : Int} (h : Kd w e f P Q b) (W : World) : Calls Tryz.prog 183 #[.int .i64 (f - 1)] W fun r W' => r = .returned (.int .u64 (P / 2)) ∧ Below W.heap.size W W':=by
 rcases h with ⟨rfl,rfl,rfl,rfl,rfl,rfl⟩ | ⟨rfl,rfl,rfl,rfl,rfl,rfl⟩
 all_goals exact dm _ _ W (by omega) (by omega) (by decide +kernel)
theorem bw {w e f P Q b : Int} (x : Int) (h : Kd w e f P Q b) (W : World) (h0 : 0 ≤ x) (h1 : x < 18446744073709551616) :
 Calls Tryz.prog 41 #[.int .i64 w,.int .u64 x] W fun r W' => r = .returned (.int .u64 (aU f P Q x)) ∧ Below W.heap.size W W':=by
 rcases h with ⟨rfl,rfl,rfl,rfl,rfl,rfl⟩ | ⟨rfl,rfl,rfl,rfl,rfl,rfl⟩
 ·go_enter Tryz.func41,Tryz.ntmps41
  go_wp2
  go_ret
  exact ⟨rfl,Below.refl _ _⟩
 ·have HE : Hid (x = aU 52 4503599627370496 2048 x):=by
   show x = if (52 : Int) = 0 then 0 else x % 18446744073709551616
   rw [if_neg (by decide)]
   omega
  go_enter Tryz.func41,Tryz.ntmps41
  go_wp2
  go_ret
  exact ⟨fP (aa HE),Below.refl _ _⟩
theorem cO {w e f P Q b : Int} (h : Kd w e f P Q b) (W : World) :
 Calls Tryz.prog 180 #[.int .i64 w] W fun r W' => r = .returned (.int .i64 (Q - 1)) ∧ Below W.heap.size W W':=by
 have q : 1 ≤ Q ∧ Q ≤ 2048:=by rcases h with h | h <;> omega
 have k1 : IntKind.i64.wrap Q = Q:=aj (by omega) (by omega)
 have k2 : IntKind.i64.wrap (Q - 1) = Q - 1:=aj (by omega) (by omega)
 have HC:=ab (fun W => kW h W)
 have HD:=ab (fun W => aji h W)
 clear q h
 go_enter Tryz.func180,Tryz.ntmps180
 go_wp2_with fail
 refine cg1 HC fun w1 hb1 => ?_
 go_wp2_with fail
 refine cg1 HD fun w2 hb2 => ?_
 go_wp2_with fail
 go_ret
 exact ⟨rfl,ac hb1 hb2⟩
theorem ni {c R : Int} (h0 : 0 ≤ c) (h1 : c < 18446744073709551616) (hR : 0 < R) : IntKind.u64.wrap (c.tdiv R) = c / R:=by
 rw [Int.tdiv_eq_ediv_of_nonneg h0,IntKind.wrap_u64]
 have h2:=Int.ediv_le_self R h0
 have h3:=Int.ediv_nonneg h0 (Int.le_of_lt hR)
 omega
theorem oP {w e f P Q b : Int} (x : Int) (h : Kd w e f P Q b) : aU f P Q x / P % Q = x / P % Q ∧ (aU f P Q x / (P * Q) == 1) = sg P Q x ∧ 0 ≤ aU f P Q x ∧ aU f P Q x < 18446744073709551616:=by
 unfold sg
 rcases h with ⟨rfl,rfl,rfl,rfl,rfl,rfl⟩ | ⟨rfl,rfl,rfl,rfl,rfl,rfl⟩
 ·show (if (23 : Int) = 0 then 0 else x % 4294967296) / 8388608 % 256 = x / 8388608 % 256 ∧ ((if (23 : Int) = 0 then 0 else x % 4294967296) / 2147483648 == 1) = (x / 2147483648 % 2 == 1) ∧ (0 : Int) ≤ (if (23 : Int) = 0 then 0 else x % 4294967296) ∧ (if (23 : Int) = 0 then 0 else x % 4294967296) < 18446744073709551616
  rw [if_neg (show ¬ (23 : Int) = 0 by decide)]
  refine ⟨by omega,?_,by omega,by omega⟩
  rw [show x % 4294967296 / 2147483648 = x / 2147483648 % 2 by omega]
 ·show (if (52 : Int) = 0 then 0 else x % 18446744073709551616) / 4503599627370496 % 2048 = x / 4503599627370496 % 2048 ∧ ((if (52 : Int) = 0 then 0 else x % 18446744073709551616) / 9223372036854775808 == 1) = (x / 9223372036854775808 % 2 == 1) ∧ (0 : Int) ≤ (if (52 : Int) = 0 then 0 else x % 18446744073709551616) ∧ (if (52 : Int) = 0 then 0 else x % 18446744073709551616) < 18446744073709551616
  rw [if_neg (show ¬ (52 : Int) = 0 by decide)]
  refine ⟨by omega,?_,by omega,by omega⟩
  rw [show x % 18446744073709551616 / 9223372036854775808 = x / 9223372036854775808 % 2 by omega]
theorem oQ {w e f P Q b : Int} (x : Int) (h : Kd w e f P Q b) (W : World) (h0 : 0 ≤ x) :
 Calls Tryz.prog 179 #[.int .i64 w,.int .u64 x] W fun r W' => r = .returned (.int .u64 (x % P)) ∧ Below W.heap.size W W':=by
 have HC:=ab (fun W => d9 h W)
 have HD:=ab (fun W => oO h W)
 have p0 : 0 < P:=by rcases h with h | h <;> omega
 have p1 : (P == 0) = false:=by simp; omega
 clear h
 go_enter Tryz.func179,Tryz.ntmps179
 go_wp2_with fail
 refine cg1 HC fun w1 hb1 => ?_
 go_wp2_with fail
 refine cg1 HD fun w2 hb2 => ?_
 go_wp2_with fail
 go_ret
 exact ⟨rfl,ac hb1 hb2⟩
theorem dq {w e f P Q b : Int} (x : Int) (h : Kd w e f P Q b) (W : World) (h0 : 0 ≤ x) (h1 : x < 18446744073709551616) :
 Calls Tryz.prog 116 #[.int .i64 w,.int .u64 x] W fun r W' => r = .returned (.bool (sg P Q x)) ∧ Below W.heap.size W W':=by
 have HC:=ab (fun W => bw x h W h0 h1)
 have HD:=ab (fun W => tI h W)
 have p0 : 0 < P * Q:=by rcases h with ⟨_,_,_,rfl,rfl,_⟩ | ⟨_,_,_,rfl,rfl,_⟩ <;> decide
 have k1 : IntKind.i64.wrap (w - 1) = w - 1:=by rcases h with h | h <;> exact aj (by omega) (by omega)
 obtain ⟨c1,c2,c3,c4⟩:=oP x h
 have HE:=ab c2
 have k2:=ni c3 c4 p0
 clear c1 c2 c4 h h0 h1
 generalize aU f P Q x = c at *
 generalize sg P Q x = n at *
 generalize P * Q = R at *
 go_enter Tryz.func116,Tryz.ntmps116
 go_wp2_with fail
 refine cg1 HC fun w1 hb1 => ?_
 go_wp2_with fail
 refine cg1 HD fun w2 hb2 => ?_
 go_wp2_with fail
 go_ret
 exact ⟨asy (aa HE),ac hb1 hb2⟩
theorem qW {w e f P Q b : Int} (x : Int) (h : Kd w e f P Q b) (W : World) (h0 : 0 ≤ x) (h1 : x < 18446744073709551616) :
 Calls Tryz.prog 178 #[.int .i64 w,.int .u64 x] W fun r W' => r = .returned (.int .i64 (x / P % Q)) ∧ Below W.heap.size W W':=by
 have HC:=ab (fun W => bw x h W h0 h1)
 have HF:=ab (fun W => d9 h W)
 have HE:=ab (fun W => kW h W)
 have HTf:=ab (fun W => oO h W)
 have HTe:=ab (fun W => aji h W)
 have p0 : 0 < P:=by rcases h with h | h <;> omega
 have q0 : 0 < Q:=by rcases h with h | h <;> omega
 have q1 : Q ≤ 2048:=by rcases h with h | h <;> omega
 obtain ⟨c1,c2,c3,c4⟩:=oP x h
 have k2:=ni c3 c4 p0
 have p1 : ¬ P = 0:=by omega
 have q2 : ¬ Q = 0:=by omega
 have k3 : 0 ≤ aU f P Q x / P:=Int.ediv_nonneg c3 (Int.le_of_lt p0)
 have k4 : IntKind.i64.wrap (x / P % Q) = x / P % Q:=by
  obtain ⟨u,v⟩:=cJ (x / P) q0
  exact aj (by omega) (by omega)
 have k5 : (aU f P Q x / P).tmod Q = x / P % Q:=by rw [Int.tmod_eq_emod_of_nonneg k3,c1]
 clear c2 c4 h h0 h1 q1 p0 q0
 generalize x / P % Q = y at *
 generalize aU f P Q x = c at *
 generalize c / P = d at *
 go_enter Tryz.func178,Tryz.ntmps178
 go_wp2_with fail
 have HB:=ab ((Below.refl W.heap.size W).drew)
 refine wp_region_held_drew (S:=aor) (by kernel_rfl) ?_ (fun hHeld => ?_)
 ·(try dsimp only)
  exact ip _
 refine aC 13 (by kernel_rfl) ?_
 refine tkA 0 5 1 ?_
 refine tkA 1 6 3 ?_
 refine tkA 3 8 11 ?_
 refine tkA 7 12 139 ?_
 refine rdA 2 143 (fun Kk hKk => ?_)
 go_simp
 refine cg1 HC fun wn hbl => ?_
 have HB:=bt HB hbl
 (try go_wp2_with fail)
 refine oA hKk (ip _) fun hHeld => ?_
 clear hKk Kk
 refine rdA 4 159 (fun Kk hKk => ?_)
 go_simp
 refine cg1 HF fun wn hbl => ?_
 have HB:=bt HB hbl
 (try go_wp2_with fail)
 refine oA hKk (ip _) fun hHeld => ?_
 clear hKk Kk
 refine rdA 5 191 (fun Kk hKk => ?_)
 go_simp
 refine cg1 HTf fun wn hbl => ?_
 have HB:=bt HB hbl
 (try go_wp2_with fail)
 refine oA hKk (ip _) fun hHeld => ?_
 clear hKk Kk
 refine tkA 6 11 255 ?_
 refine rdA 8 511 (fun Kk hKk => ?_)
 go_simp
 refine cg1 HE fun wn hbl => ?_
 have HB:=bt HB hbl
 (try go_wp2_with fail)
 refine oA hKk (ip _) fun hHeld => ?_
 clear hKk Kk
 refine rdA 9 1023 (fun Kk hKk => ?_)
 go_simp
 refine cg1 HTe fun wn hbl => ?_
 have HB:=bt HB hbl
 (try go_wp2_with fail)
 refine oA hKk (ip _) fun hHeld => ?_
 clear hKk Kk
 refine tkA 10 15 2047 ?_
 refine tkA 11 16 4095 ?_
 refine tkA 12 4 8191 ?_
 refine wpAnyH_done (by kernel_rfl) ?_ _
 go_wp2_with fail
 go_ret
 exact ⟨rfl,aa HB⟩
theorem gn {f P Q x y : Int} (hf : f ≠ 0) : put f P Q false x y = x * P + y:=by unfold put; rw [if_neg hf]; simp
theorem eE {f P Q x y : Int} (hf : f ≠ 0) : put f P Q true x y = x * P + y + P * Q:=by unfold put; rw [if_neg hf]; simp
theorem eQ {w e f P Q b : Int} (n : Bool) (x y : Int) (h : Kd w e f P Q b) (W : World) (x0 : 0 ≤ x) (x1 : x < Q) (y0 : 0 ≤ y) (y1 : y < P) :
 Calls Tryz.prog 174 #[.int .i64 w,.bool n,.int .i64 x,.int .u64 y] W fun r W' => r = .returned (.int .u64 (put f P Q n x y)) ∧ Below W.heap.size W W':=by
 have HC:=ab (fun W => d9 h W)
 have HD:=ab (fun W => oO h W)
 have HW:=ab (fun W => tI h W)
 have a1 : IntKind.u64.wrap x = x:=by rw [IntKind.wrap_u64]; rcases h with h | h <;> omega
 have a2 : IntKind.u64.wrap (x * P) = x * P:=by rw [IntKind.wrap_u64]; rcases h with ⟨_,_,_,rfl,rfl,_⟩ | ⟨_,_,_,rfl,rfl,_⟩ <;> omega
 have a3 : IntKind.u64.wrap (x * P + y) = x * P + y:=by rw [IntKind.wrap_u64]; rcases h with ⟨_,_,_,rfl,rfl,_⟩ | ⟨_,_,_,rfl,rfl,_⟩ <;> omega
 have a4 : IntKind.u64.wrap (x * P + y + P * Q) = x * P + y + P * Q:=by rw [IntKind.wrap_u64]; rcases h with ⟨_,_,_,rfl,rfl,_⟩ | ⟨_,_,_,rfl,rfl,_⟩ <;> omega
 have a5 : IntKind.i64.wrap (w - 1) = w - 1:=by rcases h with h | h <;> exact aj (by omega) (by omega)
 have HN:=ab (gn (P:=P) (Q:=Q) (x:=x) (y:=y) h.f0)
 have HY:=ab (eE (P:=P) (Q:=Q) (x:=x) (y:=y) h.f0)
 clear h x0 x1 y0 y1
 generalize P * Q = R at *
 cases n
 ·go_enter Tryz.func174,Tryz.ntmps174
  go_wp2_with fail
  refine cg1 HC fun w1 hb1 => ?_
  go_wp2_with fail
  refine cg1 HD fun w2 hb2 => ?_
  go_wp2_with fail
  go_ret
  exact ⟨fP (by rw [aa HN]),ac hb1 hb2⟩
 ·go_enter Tryz.func174,Tryz.ntmps174
  go_wp2_with fail
  refine cg1 HC fun w1 hb1 => ?_
  go_wp2_with fail
  refine cg1 HD fun w2 hb2 => ?_
  go_wp2_with fail
  refine cg1 HW fun w3 hb3 => ?_
  go_wp2_with fail
  go_ret
  exact ⟨fP (by rw [aa HY]),ac (ac hb1 hb2) hb3⟩
theorem Kd.pos {w e f P Q b : Int} (h : Kd w e f P Q b) : 2 ≤ P ∧ P ≤ 4503599627370496 ∧ 2 ≤ Q ∧ Q ≤ 2048:=by rcases h with h | h <;> omega
theorem bN {w e f P Q b : Int} (h : Kd w e f P Q b) (W : World) :
 Calls Tryz.prog 177 #[.int .i64 w] W fun r W' => r = .returned (.int .u64 (put f P Q false (Q - 1) (P / 2))) ∧ Below W.heap.size W W':=by
 obtain ⟨p1,p2,q1,q2⟩:=h.pos
 have HT:=ab (fun W => cO h W)
 have HF:=ab (fun W => d9 h W)
 have HH:=ab (fun W => apf h W)
 have HM:=ab (fun W => eQ false (Q - 1) (P / 2) h W (by omega) (by omega) (by omega) (by omega))
 have a5 : IntKind.i64.wrap (f - 1) = f - 1:=by rcases h with h | h <;> exact aj (by omega) (by omega)
 clear h p1 p2 q1 q2
 go_enter Tryz.func177,Tryz.ntmps177
 go_wp2_with fail
 refine cg1 HT fun w1 hb1 => ?_
 go_wp2_with fail
 refine cg1 HF fun w2 hb2 => ?_
 go_wp2_with fail
 refine cg1 HH fun w3 hb3 => ?_
 go_wp2_with fail
 refine cg1 HM fun w4 hb4 => ?_
 go_wp2_with fail
 go_ret
 exact ⟨rfl,ac (ac (ac hb1 hb2) hb3) hb4⟩
theorem cP {w e f P Q b : Int} (n : Bool) (h : Kd w e f P Q b) (W : World) :
 Calls Tryz.prog 176 #[.int .i64 w,.bool n] W fun r W' => r = .returned (.int .u64 (put f P Q n (Q - 1) 0)) ∧ Below W.heap.size W W':=by
 obtain ⟨p1,p2,q1,q2⟩:=h.pos
 have HT:=ab (fun W => cO h W)
 have HM:=ab (fun W => eQ n (Q - 1) 0 h W (by omega) (by omega) (by omega) (by omega))
 clear h p1 p2 q1 q2
 go_enter Tryz.func176,Tryz.ntmps176
 go_wp2_with fail
 refine cg1 HT fun w1 hb1 => ?_
 go_wp2_with fail
 refine cg1 HM fun w4 hb4 => ?_
 go_wp2_with fail
 go_ret
 exact ⟨rfl,ac hb1 hb4⟩
theorem ack (W : World) (m : Mk W) :
 Calls Tryz.prog 149 #[.int .i64 32] W fun r W' => r = .returned (.int .u64 2147483648) ∧ Below W.heap.size W W':=by
 obtain ⟨c0,c1,c2,c3⟩:=m.marks
 have i0 : ∀ w,(Instr.index 188 (.agg #[.int .i64 32,.int .u64 2147483648,.int .i64 64,.int .u64 9223372036854775808]) (.int .i64 0)).run Tryz.prog w = .ok (.agg #[.int .i64 32,.int .u64 2147483648]) w:=fun _ => by kernel_rfl
 have i1 : ∀ w,(Instr.index 188 (.agg #[.int .i64 32,.int .u64 2147483648,.int .i64 64,.int .u64 9223372036854775808]) (.int .i64 1)).run Tryz.prog w = .ok (.agg #[.int .i64 64,.int .u64 9223372036854775808]) w:=fun _ => by kernel_rfl
 go_enter Tryz.func149,Tryz.ntmps149
 go_wp2_with fail
 refine wp_loop_rounds 1 ?_
 rw [rounds_succ]
 go_wp2_with fail
 go_ret
 exact ⟨rfl,ae _ _⟩
theorem acl (W : World) (m : Mk W) :
 Calls Tryz.prog 149 #[.int .i64 64] W fun r W' => r = .returned (.int .u64 9223372036854775808) ∧ Below W.heap.size W W':=by
 obtain ⟨c0,c1,c2,c3⟩:=m.marks
 have i0 : ∀ w,(Instr.index 188 (.agg #[.int .i64 32,.int .u64 2147483648,.int .i64 64,.int .u64 9223372036854775808]) (.int .i64 0)).run Tryz.prog w = .ok (.agg #[.int .i64 32,.int .u64 2147483648]) w:=fun _ => by kernel_rfl
 have i1 : ∀ w,(Instr.index 188 (.agg #[.int .i64 32,.int .u64 2147483648,.int .i64 64,.int .u64 9223372036854775808]) (.int .i64 1)).run Tryz.prog w = .ok (.agg #[.int .i64 64,.int .u64 9223372036854775808]) w:=fun _ => by kernel_rfl
 go_enter Tryz.func149,Tryz.ntmps149
 go_wp2_with fail
 refine wp_loop_rounds 2 ?_
 rw [rounds_succ]
 go_wp2_with fail
 rw [rounds_succ]
 go_wp2_with fail
 go_ret
 exact ⟨rfl,aq _ _ _⟩
theorem acm (w : Int) (W : World) (m : Mk W) (h1 : w ≠ 32) (h2 : w ≠ 64) :
 Calls Tryz.prog 149 #[.int .i64 w] W fun r W' => r = .returned (.int .u64 0) ∧ Below W.heap.size W W':=by
 obtain ⟨c0,c1,c2,c3⟩:=m.marks
 have e1 : (32 == w) = false:=by simpa using fun h => h1 h.symm
 have e2 : (64 == w) = false:=by simpa using fun h => h2 h.symm
 have i0 : ∀ w,(Instr.index 188 (.agg #[.int .i64 32,.int .u64 2147483648,.int .i64 64,.int .u64 9223372036854775808]) (.int .i64 0)).run Tryz.prog w = .ok (.agg #[.int .i64 32,.int .u64 2147483648]) w:=fun _ => by kernel_rfl
 have i1 : ∀ w,(Instr.index 188 (.agg #[.int .i64 32,.int .u64 2147483648,.int .i64 64,.int .u64 9223372036854775808]) (.int .i64 1)).run Tryz.prog w = .ok (.agg #[.int .i64 64,.int .u64 9223372036854775808]) w:=fun _ => by kernel_rfl
 go_enter Tryz.func149,Tryz.ntmps149
 go_wp2_with fail
 refine wp_loop_rounds 3 ?_
 rw [rounds_succ]
 go_wp2_with fail
 rw [rounds_succ]
 go_wp2_with fail
 rw [rounds_succ]
 go_wp2_with fail
 go_ret
 exact ⟨rfl,aq _ _ _⟩
set_option maxHeartbeats 4000000
set_option maxRecDepth 100000
theorem aqw {w x c B R : Int} (W : World) (HM : Hid (Mk W)) (HC : Ct 17 #[.int .i64 w,.int .u64 x] (.int .u64 c)) (HT : Cm 149 #[.int .i64 w] (.int .u64 B)) (h1 : bits .andNot .u64 c B = R) :
 Calls Tryz.prog 78 #[.int .i64 w,.int .u64 x] W fun r W' => r = .returned (.int .u64 R) ∧ Below W.heap.size W W':=by
 have HB:=rf W
 go_enter Tryz.func78,Tryz.ntmps78
 go_wp2_with fail
 refine cg1 HC fun w1 hb => ?_
 have HB:=bt HB hb
 have HM:=ab ((aa HM).below hb)
 clear hb
 go_wp2_with fail
 refine (aa HT _ (aa HM)).mono ?_
 rintro _ w2 ⟨rfl,hb⟩
 have HB:=bt HB hb
 have HM:=ab ((aa HM).below hb)
 clear hb
 go_wp2_with fail
 go_ret
 exact ⟨rfl,aa HB⟩
theorem aqx {w x c B R : Int} (W : World) (HM : Hid (Mk W)) (HC : Ct 17 #[.int .i64 w,.int .u64 x] (.int .u64 c)) (HT : Cm 149 #[.int .i64 w] (.int .u64 B)) (h1 : bits .xor .u64 c B = R) :
 Calls Tryz.prog 79 #[.int .i64 w,.int .u64 x] W fun r W' => r = .returned (.int .u64 R) ∧ Below W.heap.size W W':=by
 have HB:=rf W
 go_enter Tryz.func79,Tryz.ntmps79
 go_wp2_with fail
 refine cg1 HC fun w1 hb => ?_
 have HB:=bt HB hb
 have HM:=ab ((aa HM).below hb)
 clear hb
 go_wp2_with fail
 refine (aa HT _ (aa HM)).mono ?_
 rintro _ w2 ⟨rfl,hb⟩
 have HB:=bt HB hb
 have HM:=ab ((aa HM).below hb)
 clear hb
 go_wp2_with fail
 go_ret
 exact ⟨rfl,aa HB⟩
theorem ane {w x y c B d R : Int} (W : World) (HM : Hid (Mk W)) (HA : Cm 78 #[.int .i64 w,.int .u64 x] (.int .u64 c)) (HT : Cm 149 #[.int .i64 w] (.int .u64 B)) (h1 : bits .and .u64 y B = d) (h2 : bits .or .u64 c d = R) :
 Calls Tryz.prog 91 #[.int .i64 w,.int .u64 x,.int .u64 y] W fun r W' => r = .returned (.int .u64 R) ∧ Below W.heap.size W W':=by
 have HB:=rf W
 go_enter Tryz.func91,Tryz.ntmps91
 go_wp2_with fail
 refine (aa HA _ (aa HM)).mono ?_
 rintro _ w1 ⟨rfl,hb⟩
 have HB:=bt HB hb
 have HM:=ab ((aa HM).below hb)
 clear hb
 go_wp2_with fail
 refine (aa HT _ (aa HM)).mono ?_
 rintro _ w2 ⟨rfl,hb⟩
 have HB:=bt HB hb
 have HM:=ab ((aa HM).below hb)
 clear hb
 go_wp2_with fail
 go_ret
 exact ⟨rfl,aa HB⟩
def sb (f P Q : Int) : Int:=if f = 0 then 0 else P * Q
def sN (f P Q : Int) (n : Bool) (x : Int) : Int:=if f = 0 then 0 else x % (P * Q) + (if n then P * Q else 0)
def isN (f P Q x : Int) : Bool:=f != 0 && sg P Q x
theorem aiv (k X : Nat) : X &&& 2 ^ k = if X / 2 ^ k % 2 = 1 then 2 ^ k else 0:=by
 apply Nat.eq_of_testBit_eq
 intro i
 rw [Nat.testBit_and,Nat.testBit_two_pow]
 by_cases hi : k = i
 ·subst hi
  rw [Nat.testBit_eq_decide_div_mod_eq]
  by_cases h : X / 2 ^ k % 2 = 1
  ·rw [if_pos h,Nat.testBit_two_pow_self]; simp [h]
  ·rw [if_neg h,Nat.zero_testBit]; simp [h]
 ·rw [decide_eq_false hi,Bool.and_false]
  by_cases h : X / 2 ^ k % 2 = 1
  ·rw [if_pos h,Nat.testBit_two_pow,decide_eq_false hi]
  ·rw [if_neg h,Nat.zero_testBit]
theorem aiw (k c : Nat) (hc : c < 2 * 2 ^ k) : c ^^^ 2 ^ k = if c / 2 ^ k = 1 then c % 2 ^ k else c % 2 ^ k + 2 ^ k:=by
 have h1 : (c ^^^ 2 ^ k) % 2 ^ k = c % 2 ^ k:=by rw [Nat.xor_mod_two_pow,Nat.mod_self,Nat.xor_zero]
 have h2 : (c ^^^ 2 ^ k) / 2 ^ k = c / 2 ^ k ^^^ 1:=by rw [Nat.xor_div_two_pow,Nat.div_self (Nat.two_pow_pos _)]
 have h3:=Nat.div_add_mod (c ^^^ 2 ^ k) (2 ^ k)
 have h4 : c / 2 ^ k < 2:=Nat.div_lt_of_lt_mul (by rw [Nat.mul_comm]; exact hc)
 have h5 : c / 2 ^ k = 0 ∨ c / 2 ^ k = 1:=by
  generalize c / 2 ^ k = t at h4
  omega
 rw [h1,h2] at h3
 rcases h5 with h | h <;> rw [h] at h3 ⊢
 ·rw [if_neg (by decide)]; rw [show (0 ^^^ 1 : Nat) = 1 from rfl] at h3; omega
 ·rw [if_pos rfl]; rw [show (1 ^^^ 1 : Nat) = 0 from rfl] at h3; omega
theorem anf (k r : Nat) (hr : r < 2 ^ k) : r ||| 2 ^ k = r + 2 ^ k:=by
 have:=Nat.two_pow_add_eq_or_of_lt hr 1
 rw [Nat.mul_one] at this
 rw [Nat.or_comm,← this,Nat.add_comm]
theorem iE {w e f P Q b : Int} (k : Kd w e f P Q b) : ∃ m : Nat,(m = 31 ∨ m = 63) ∧ P * Q = ((2 ^ m : Nat) : Int) ∧ w = m + 1:=by
 rcases k with ⟨rfl,-,-,rfl,rfl,-⟩ | ⟨rfl,-,-,rfl,rfl,-⟩
 ·exact ⟨31,Or.inl rfl,by decide,by decide⟩
 ·exact ⟨63,Or.inr rfl,by decide,by decide⟩
theorem acn {P Q : Int} {m X : Nat} (h : P * Q = ((2 ^ m : Nat) : Int)) : sg P Q (X : Int) = decide (X / 2 ^ m % 2 = 1):=by
 unfold sg
 rw [h,← Int.natCast_ediv,show (2 : Int) = ((2 : Nat) : Int) from rfl,← Int.natCast_emod]
 generalize X / 2 ^ m % 2 = t
 by_cases ht : t = 1
 ·subst ht; rfl
 ·rw [decide_eq_false ht]; simp; omega
theorem mc {m : Nat} (h : m = 31 ∨ m = 63) : 2 ^ m = 2147483648 ∨ 2 ^ m = 9223372036854775808:=by
 rcases h with rfl | rfl
 ·exact Or.inl rfl
 ·exact Or.inr rfl
theorem aix {w e f P Q b x : Int} (h : Wd w e f P Q b) (x0 : 0 ≤ x) (x1 : x < 18446744073709551616) : bits .and .u64 x (sb f P Q) = if isN f P Q x then P * Q else 0:=by
 unfold sb isN
 obtain ⟨X,rfl⟩:=Int.eq_ofNat_of_zero_le x0
 by_cases hf : f = 0
 ·rw [if_pos hf,hf]
  have:=Go.bits_and_u64_nat X 0 (by omega) (by omega)
  simpa using this
 ·obtain ⟨m,hm,e,-⟩:=iE (h.known hf)
  rw [if_neg hf,acn e,e,Go.bits_and_u64_nat X _ (by omega) (by have:=mc hm; omega),aiv]
  by_cases ht : X / 2 ^ m % 2 = 1 <;> simp [ht,hf]
theorem uI {w e f P Q b : Int} (k : Kd w e f P Q b) {m : Nat} (e : P * Q = ((2 ^ m : Nat) : Int)) (X : Nat) : aU f P Q (X : Int) = ((X % (2 * 2 ^ m) : Nat) : Int):=by
 unfold aU
 rw [if_neg k.f0,e,Int.natCast_emod,Int.natCast_mul]
 rfl
theorem sW {w e f P Q b x : Int} (h : Wd w e f P Q b) (x0 : 0 ≤ x) : bits .andNot .u64 (aU f P Q x) (sb f P Q) = sN f P Q false x:=by
 obtain ⟨X,rfl⟩:=Int.eq_ofNat_of_zero_le x0
 by_cases hf : f = 0
 ·unfold aU sb sN
  rw [if_pos hf,if_pos hf,if_pos hf]
  decide +kernel
 ·have k:=h.known hf
  obtain ⟨m,hm,e,-⟩:=iE k
  rw [uI k e]
  unfold sb sN
  rw [if_neg hf,if_neg hf,e]
  have hp:=mc hm
  rw [u64_andNot_nat _ _ (Nat.lt_of_lt_of_le (Nat.mod_lt X (show 0 < 2 * 2 ^ m by omega)) (by omega)) (by omega)]
  simp only [Bool.false_eq_true,if_false,Int.add_zero]
  rw [← Int.natCast_emod]
  congr 1
  rcases hm with rfl | rfl
  ·rw [show X % (2 * 2 ^ 31) = X &&& 4294967295 by rw [show 4294967295 = 2 ^ 32 - 1 by decide,Nat.and_two_pow_sub_one_eq_mod],Nat.and_assoc,show 4294967295 &&& (18446744073709551615 - 2 ^ 31) = 2 ^ 31 - 1 by decide,Nat.and_two_pow_sub_one_eq_mod]
  ·rw [show (18446744073709551615 - 2 ^ 63) = 2 ^ 63 - 1 by decide,Nat.and_two_pow_sub_one_eq_mod]
   omega
theorem aiy {w e f P Q b x : Int} (h : Wd w e f P Q b) (x0 : 0 ≤ x) : bits .xor .u64 (aU f P Q x) (sb f P Q) = sN f P Q (!sg P Q x) x:=by
 obtain ⟨X,rfl⟩:=Int.eq_ofNat_of_zero_le x0
 by_cases hf : f = 0
 ·unfold aU sb sN
  rw [if_pos hf,if_pos hf,if_pos hf]
  decide +kernel
 ·have k:=h.known hf
  obtain ⟨m,hm,e,-⟩:=iE k
  rw [uI k e,acn e]
  unfold sb sN
  rw [if_neg hf,if_neg hf,e]
  have hp:=mc hm
  rw [u64_xor_nat _ _ (Nat.lt_of_lt_of_le (Nat.mod_lt X (show 0 < 2 * 2 ^ m by omega)) (by omega)) (by omega),aiw m _ (Nat.mod_lt _ (by omega))]
  have h1 : X % (2 * 2 ^ m) / 2 ^ m = X / 2 ^ m % 2:=by rw [Nat.mul_comm 2,Nat.mod_mul_right_div_self]
  have h2 : X % (2 * 2 ^ m) % 2 ^ m = X % 2 ^ m:=Nat.mod_mul_left_mod _ _ _
  rw [h1,h2]
  by_cases ht : X / 2 ^ m % 2 = 1
  ·simp [ht]
  ·simp [ht]
theorem ang {w e f P Q b x : Int} (h : Wd w e f P Q b) (x0 : 0 ≤ x) (y : Int) : bits .or .u64 (sN f P Q false x) (if isN f P Q y then P * Q else 0) = sN f P Q (sg P Q y) x:=by
 obtain ⟨X,rfl⟩:=Int.eq_ofNat_of_zero_le x0
 by_cases hf : f = 0
 ·unfold isN sN
  rw [if_pos hf,if_pos hf,hf,show ((0 : Int) != 0 && sg P Q y) = false from rfl,if_neg (by decide)]
  decide +kernel
 ·have k:=h.known hf
  obtain ⟨m,hm,e,-⟩:=iE k
  have hi : isN f P Q y = sg P Q y:=by unfold isN; simp [hf]
  rw [hi]
  unfold sN
  rw [if_neg hf,if_neg hf,e]
  have hp:=mc hm
  have hl : X % 2 ^ m < 2 ^ m:=Nat.mod_lt _ (by omega)
  rw [← Int.natCast_emod]
  cases sg P Q y
  ·simp only [Bool.false_eq_true,if_false,Int.add_zero]
   have:=Go.bits_or_u64_nat (X % 2 ^ m) 0 (by omega) (by omega)
   simpa using this
  ·simp only [Bool.false_eq_true,if_false,if_true,Int.add_zero]
   rw [Go.bits_or_u64_nat (X % 2 ^ m) (2 ^ m) (by omega) (by omega),anf m _ hl]
   omega
theorem uG {w e f P Q b : Int} (h : Wd w e f P Q b) (n : Bool) (x : Int) : 0 ≤ sN f P Q n x ∧ sN f P Q n x < 18446744073709551616:=by
 unfold sN
 by_cases hf : f = 0
 ·rw [if_pos hf]; omega
 ·obtain ⟨m,hm,e,-⟩:=iE (h.known hf)
  have hp:=mc hm
  rw [if_neg hf,e]
  have h1:=Int.emod_nonneg x (show ((2 ^ m : Nat) : Int) ≠ 0 by omega)
  have h2:=Int.emod_lt_of_pos x (show 0 < ((2 ^ m : Nat) : Int) by omega)
  cases n <;> simp only [Bool.false_eq_true,if_false,if_true] <;> omega
theorem aci {w e f P Q b : Int} (h : Wd w e f P Q b) (x : Int) : sN f P Q (sg P Q x) x = aU f P Q x:=by
 unfold aU sN sg
 by_cases hf : f = 0
 ·rw [if_pos hf,if_pos hf]
 ·obtain ⟨m,hm,e,-⟩:=iE (h.known hf)
  have hp:=mc hm
  rw [if_neg hf,if_neg hf,e]
  generalize 2 ^ m = S at *
  rcases hp with rfl | rfl
  ·by_cases ht : x / 2147483648 % 2 = 1
   ·simp [ht]; omega
   ·simp [ht]; omega
  ·by_cases ht : x / 9223372036854775808 % 2 = 1
   ·simp [ht]; omega
   ·simp [ht]; omega
theorem jD {w e f P Q b : Int} (h : Wd w e f P Q b) (W : World) (m : Mk W) : Calls Tryz.prog 149 #[.int .i64 w] W fun r W' => r = .returned (.int .u64 (sb f P Q)) ∧ Below W.heap.size W W':=by
 rcases h with ⟨rfl,rfl,rfl,rfl,rfl,rfl⟩ | ⟨rfl,rfl,rfl,rfl,rfl,rfl⟩ | ⟨⟨h1,h2⟩,rfl,rfl,rfl,rfl,rfl⟩
 ·exact ack W m
 ·exact acl W m
 ·exact acm w W m h1 h2
theorem uH {w e f P Q b x : Int} (h : Wd w e f P Q b) (x0 : 0 ≤ x) (x1 : x < 18446744073709551616) : Cm 78 #[.int .i64 w,.int .u64 x] (.int .u64 (sN f P Q false x)):=fun W m =>
 aqw W m (ab (fun W => cw x h W x0 x1)) (ab (jD h)) (sW h x0)
theorem aiq {w e f P Q b x : Int} (h : Wd w e f P Q b) (x0 : 0 ≤ x) (x1 : x < 18446744073709551616) : Cm 79 #[.int .i64 w,.int .u64 x] (.int .u64 (sN f P Q (!sg P Q x) x)):=fun W m =>
 aqx W m (ab (fun W => cw x h W x0 x1)) (ab (jD h)) (aiy h x0)
theorem acj {w e f P Q b x y : Int} (h : Wd w e f P Q b) (x0 : 0 ≤ x) (x1 : x < 18446744073709551616) (y0 : 0 ≤ y) (y1 : y < 18446744073709551616) : Cm 91 #[.int .i64 w,.int .u64 x,.int .u64 y] (.int .u64 (sN f P Q (sg P Q y) x)):=fun W m =>
 ane W m (uH h x0 x1) (ab (jD h)) (aix h y0 y1) (ang h x0 y)
theorem aco {w x c T k' d R : Int} (W : World) (k : IntKind.i64.wrap (w - 1) = k') (HC : Ct 41 #[.int .i64 w,.int .u64 x] (.int .u64 c)) (HN : Ct 116 #[.int .i64 w,.int .u64 x] (.bool true)) (HD : Ct 183 #[.int .i64 k'] (.int .u64 T)) (h1 : IntKind.u64.wrap (c - T) = d) (h2 : IntKind.u64.wrap (d + T) = R)  :
 Calls Tryz.prog 115 #[.int .i64 w,.int .u64 x,.bool true] W fun r W' => r = .returned (.int .u64 R) ∧ Below W.heap.size W W':=by
 have HB:=rf W
 go_enter Tryz.func115,Tryz.ntmps115
 go_wp2_with fail
 refine cg0 HC HB fun w1 HB => ?_
 go_wp2_with fail
 refine cg0 HN HB fun w2 HB => ?_
 go_wp2_with fail
 refine cg0 HD HB fun w3 HB => ?_
 go_wp2_with fail
 refine cg0 HD HB fun w4 HB => ?_
 go_wp2_with fail
 go_ret
 exact ⟨rfl,aa HB⟩
theorem acp {w x c T k' d : Int} (W : World) (k : IntKind.i64.wrap (w - 1) = k') (HC : Ct 41 #[.int .i64 w,.int .u64 x] (.int .u64 c)) (HN : Ct 116 #[.int .i64 w,.int .u64 x] (.bool true)) (HD : Ct 183 #[.int .i64 k'] (.int .u64 T)) (h1 : IntKind.u64.wrap (c - T) = d)  :
 Calls Tryz.prog 115 #[.int .i64 w,.int .u64 x,.bool false] W fun r W' => r = .returned (.int .u64 d) ∧ Below W.heap.size W W':=by
 have HB:=rf W
 go_enter Tryz.func115,Tryz.ntmps115
 go_wp2_with fail
 refine cg0 HC HB fun w1 HB => ?_
 go_wp2_with fail
 refine cg0 HN HB fun w2 HB => ?_
 go_wp2_with fail
 refine cg0 HD HB fun w3 HB => ?_
 go_wp2_with fail
 go_ret
 exact ⟨rfl,aa HB⟩
theorem acq {w x c T k' R : Int} (W : World) (k : IntKind.i64.wrap (w - 1) = k') (HC : Ct 41 #[.int .i64 w,.int .u64 x] (.int .u64 c)) (HN : Ct 116 #[.int .i64 w,.int .u64 x] (.bool false)) (HD : Ct 183 #[.int .i64 k'] (.int .u64 T)) (h2 : IntKind.u64.wrap (c + T) = R)  :
 Calls Tryz.prog 115 #[.int .i64 w,.int .u64 x,.bool true] W fun r W' => r = .returned (.int .u64 R) ∧ Below W.heap.size W W':=by
 have HB:=rf W
 go_enter Tryz.func115,Tryz.ntmps115
 go_wp2_with fail
 refine cg0 HC HB fun w1 HB => ?_
 go_wp2_with fail
 refine cg0 HN HB fun w2 HB => ?_
 go_wp2_with fail
 refine cg0 HD HB fun w3 HB => ?_
 go_wp2_with fail
 go_ret
 exact ⟨rfl,aa HB⟩
theorem acr {w x c : Int} (W : World) (HC : Ct 41 #[.int .i64 w,.int .u64 x] (.int .u64 c)) (HN : Ct 116 #[.int .i64 w,.int .u64 x] (.bool false))  :
 Calls Tryz.prog 115 #[.int .i64 w,.int .u64 x,.bool false] W fun r W' => r = .returned (.int .u64 c) ∧ Below W.heap.size W W':=by
 have HB:=rf W
 go_enter Tryz.func115,Tryz.ntmps115
 go_wp2_with fail
 refine cg0 HC HB fun w1 HB => ?_
 go_wp2_with fail
 refine cg0 HN HB fun w2 HB => ?_
 go_wp2_with fail
 go_ret
 exact ⟨rfl,aa HB⟩
theorem jE {w e f P Q b x : Int} (k : Kd w e f P Q b) (n : Bool) (x0 : 0 ≤ x) (x1 : x < 18446744073709551616) (W : World) : Calls Tryz.prog 115 #[.int .i64 w,.int .u64 x,.bool n] W fun r W' => r = .returned (.int .u64 (sN f P Q n x)) ∧ Below W.heap.size W W':=by
 have k1 : IntKind.i64.wrap (w - 1) = w - 1:=by rcases k with h | h <;> exact aj (by omega) (by omega)
 have HC:=fun W => bw x k W x0 x1
 have HN:=fun W => dq x k W x0 x1
 have HD:=ab (fun W => tI k W)
 obtain ⟨i1,i2⟩:=uG k.wd false x
 obtain ⟨j1,j2⟩:=uG k.wd true x
 have d : sN f P Q true x = sN f P Q false x + P * Q:=by
  unfold sN; rw [if_neg k.f0,if_neg k.f0]; simp
 rw [← aci k.wd] at HC
 have w1 : IntKind.u64.wrap (sN f P Q true x - P * Q) = sN f P Q false x:=by rw [IntKind.wrap_u64]; omega
 have w2 : IntKind.u64.wrap (sN f P Q false x + P * Q) = sN f P Q true x:=by rw [IntKind.wrap_u64]; omega
 cases hs : sg P Q x <;> rw [hs] at HC HN <;> cases n
 ·exact acr W (ab HC) (ab HN)
 ·exact acq W k1 (ab HC) (ab HN) HD w2
 ·exact acp W k1 (ab HC) (ab HN) HD w1
 ·exact aco W k1 (ab HC) (ab HN) HD w1 w2
end Go.Proofs.YtpbgpdmffejdgaaGreatDoor
