/- MWPlain, MWKnuth. -/
import Derived.Laws.MathBits
import Derived.Laws.BitsAllLaws
namespace Go.Proofs.YtpbgpdmffejdgaaGreatDoor.W
def hi (v : Nat) : Int:=((v / 18446744073709551616 : Nat) : Int)
def lo (v : Nat) : Int:=((v % 18446744073709551616 : Nat) : Int)
def W2 (v : Nat) : Prop:=v < 340282366920938463463374607431768211456
theorem nD (v : Nat) : 0 ≤ hi v:=by unfold hi; omega
theorem ml (v : Nat) : 0 ≤ lo v:=by unfold lo; omega
theorem oZ (v : Nat) : lo v < 18446744073709551616:=by unfold lo; omega
theorem zx {v : Nat} (h : W2 v) : hi v < 18446744073709551616:=by unfold W2 at h; unfold hi; omega
theorem mJ {v u : Nat} (h : hi v = hi u) (l : lo v = lo u) : v = u:=by unfold hi at h; unfold lo at l; omega
theorem zz {v : Nat} (h : v < 18446744073709551616) : hi v = 0:=by unfold hi; omega
theorem fH {v : Nat} (h : v < 18446744073709551616) : lo v = (v : Int):=by unfold lo; omega
theorem o0 (n : Int) (h0 : 0 ≤ n) (h1 : n < 18446744073709551616) : hi n.toNat = 0 ∧ lo n.toNat = n:=by
 constructor
 ·rw [zz (by omega)]
 ·rw [fH (by omega)]; omega
def aK (v u : Nat) : Int:=if v < u then -1 else if u < v then 1 else 0
theorem mK (n : Nat) (h : n ≤ 64) : 2 ^ n * 2 ^ (64 - n) = 18446744073709551616:=by
 rw [← Nat.pow_add,show n + (64 - n) = 64 by omega]
theorem nE (n x y : Nat) (hx : x % 2 ^ n = 0) (hy : y < 2 ^ n) : x ||| y = x + y:=Go.nat_join n x y hx hy
theorem mL (x : Nat) : x % 340282366920938463463374607431768211456 % 18446744073709551616 = x % 18446744073709551616:=by omega
theorem tQ (v k : Nat) : (v % 18446744073709551616 * 2 ^ k) % 18446744073709551616 = v * 2 ^ k % 340282366920938463463374607431768211456 % 18446744073709551616:=by
 rw [mL,Nat.mod_mul_mod]
theorem mM (a b h l : Nat) (ha : 0 < a) (hb : 0 < b) (hs : a * b = 18446744073709551616) (hl : l < 18446744073709551616) :
 h * a % 18446744073709551616 = (h % b) * a ∧ l / b < a ∧ (h * 18446744073709551616 + l) * a % 340282366920938463463374607431768211456 / 18446744073709551616 = (h % b) * a + l / b:=by
 have e1 : h * a % 18446744073709551616 = (h % b) * a:=by rw [← hs,Nat.mul_comm a b,Nat.mul_mod_mul_right]
 have e2 : l / b < a:=Nat.div_lt_of_lt_mul (by rw [Nat.mul_comm,hs]; exact hl)
 refine ⟨e1,e2,?_⟩
 have e3 : (h * 18446744073709551616 + l) * a % 340282366920938463463374607431768211456 / 18446744073709551616 = (h * 18446744073709551616 + l) * a / 18446744073709551616 % 18446744073709551616:=
  Nat.mod_mul_right_div_self _ 18446744073709551616 18446744073709551616
 have e4 : (h * 18446744073709551616 + l) * a / 18446744073709551616 = h * a + l / b:=by
  have : (h * 18446744073709551616 + l) * a / 18446744073709551616 = (h * 18446744073709551616 + l) / b:=by
   rw [show (18446744073709551616 : Nat) = b * a by rw [Nat.mul_comm]; exact hs.symm]
   exact Nat.mul_div_mul_right _ _ ha
  rw [this,show h * 18446744073709551616 = b * (h * a) by rw [← hs,← Nat.mul_assoc,Nat.mul_comm b (h * a)],Nat.mul_add_div hb]
 rw [e3,e4,← Nat.mod_add_mod,e1]
 refine Nat.mod_eq_of_lt ?_
 have h1 : h % b < b:=Nat.mod_lt _ hb
 have h2 : (h % b + 1) * a ≤ b * a:=Nat.mul_le_mul_right a h1
 rw [Nat.add_mul,Nat.one_mul,Nat.mul_comm b a,hs] at h2
 omega
theorem tR (v k : Nat) (hk' : k < 64) :
 (v / 18446744073709551616 * 2 ^ k % 18446744073709551616 ||| v % 18446744073709551616 / 2 ^ (64 - k)) = v * 2 ^ k % 340282366920938463463374607431768211456 / 18446744073709551616:=by
 obtain ⟨c1,c2,c3⟩:=mM (2 ^ k) (2 ^ (64 - k)) (v / 18446744073709551616) (v % 18446744073709551616) (Nat.two_pow_pos _) (Nat.two_pow_pos _) (mK k (by omega)) (by omega)
 rw [c1,nE k _ _ (Nat.mul_mod_left _ _) c2,← c3]
 congr 3
 omega
theorem vi (v k : Nat) : (v % 18446744073709551616 * 2 ^ k) % 18446744073709551616 = v * 2 ^ (64 + k) % 340282366920938463463374607431768211456 / 18446744073709551616:=by
 have e3 : v * 2 ^ (64 + k) % 340282366920938463463374607431768211456 / 18446744073709551616 = v * 2 ^ (64 + k) / 18446744073709551616 % 18446744073709551616:=
  Nat.mod_mul_right_div_self _ 18446744073709551616 18446744073709551616
 have e4 : v * 2 ^ (64 + k) = 18446744073709551616 * (v * 2 ^ k):=by rw [Nat.pow_add,show (2 : Nat) ^ 64 = 18446744073709551616 from rfl,Nat.mul_left_comm]
 rw [e3,e4,Nat.mul_div_cancel_left _ (by omega),Nat.mod_mul_mod]
theorem vj (v k : Nat) : v * 2 ^ (64 + k) % 340282366920938463463374607431768211456 % 18446744073709551616 = 0:=by
 rw [mL,Nat.pow_add,show (2 : Nat) ^ 64 = 18446744073709551616 from rfl,Nat.mul_left_comm,Nat.mul_mod_right]
theorem zA (v k : Nat) : v * 2 ^ (128 + k) % 340282366920938463463374607431768211456 = 0:=by
 rw [Nat.pow_add,show (2 : Nat) ^ 128 = 340282366920938463463374607431768211456 from rfl,Nat.mul_left_comm,Nat.mul_mod_right]
theorem zB (v k : Nat) (hk' : k < 64) :
 (v % 18446744073709551616 / 2 ^ k ||| v / 18446744073709551616 * 2 ^ (64 - k) % 18446744073709551616) = v / 2 ^ k % 18446744073709551616:=by
 have hs:=mK k (by omega)
 obtain ⟨c1,c2,c3⟩:=mM (2 ^ (64 - k)) (2 ^ k) (v / 18446744073709551616) (v % 18446744073709551616) (Nat.two_pow_pos _) (Nat.two_pow_pos _) (by rw [Nat.mul_comm]; exact hs) (by omega)
 rw [Nat.or_comm,c1,nE (64 - k) _ _ (Nat.mul_mod_left _ _) c2,← c3]
 have ev : v / 18446744073709551616 * 18446744073709551616 + v % 18446744073709551616 = v:=by omega
 have e3 : v * 2 ^ (64 - k) % 340282366920938463463374607431768211456 / 18446744073709551616 = v * 2 ^ (64 - k) / 18446744073709551616 % 18446744073709551616:=
  Nat.mod_mul_right_div_self _ 18446744073709551616 18446744073709551616
 rw [ev,e3]
 congr 1
 rw [← hs]
 exact Nat.mul_div_mul_right _ _ (Nat.two_pow_pos _)
theorem zC (v k : Nat) : v / 18446744073709551616 / 2 ^ k = v / 2 ^ k / 18446744073709551616:=by
 rw [Nat.div_div_eq_div_mul,Nat.div_div_eq_div_mul,Nat.mul_comm]
theorem zD (v k : Nat) : v / 18446744073709551616 / 2 ^ k = v / 2 ^ (64 + k):=by
 rw [Nat.div_div_eq_div_mul,Nat.pow_add]
theorem vk (v k : Nat) (hv : W2 v) : v / 2 ^ (128 + k) = 0:=by
 unfold W2 at hv
 rw [Nat.pow_add,← Nat.div_div_eq_div_mul,Nat.div_eq_of_lt (show v < 2 ^ 128 from hv),Nat.zero_div]
theorem zE (v : Nat) : (Go.bitLen v : Int) = if hi v = 0 then (Go.bitLen (lo v).toNat : Int) else 64 + (Go.bitLen (hi v).toNat : Int):=by
 unfold hi lo
 by_cases h : v / 18446744073709551616 = 0
 ·rw [if_pos (by omega)]
  have e : v % 18446744073709551616 = v:=by omega
  rw [Int.toNat_natCast,e]
 ·rw [if_neg (by omega),Int.toNat_natCast]
  have:=Go.bitLen_shift v 64 h
  rw [this]
  rw [show (2 : Nat) ^ 64 = 18446744073709551616 from rfl]
  omega
theorem apx (v u : Nat) : aK v u = if hi v < hi u then -1 else if hi u < hi v then 1 else if lo v < lo u then -1 else if lo u < lo v then 1 else 0:=by
 unfold aK hi lo
 by_cases a : v < u
 ·rw [if_pos a]
  by_cases b : v / 18446744073709551616 < u / 18446744073709551616
  ·rw [if_pos (by omega)]
  ·rw [if_neg (by omega),if_neg (by omega),if_pos (by omega)]
 ·rw [if_neg a]
  by_cases c : u < v
  ·rw [if_pos c]
   by_cases b : u / 18446744073709551616 < v / 18446744073709551616
   ·rw [if_neg (by omega),if_pos (by omega)]
   ·rw [if_neg (by omega),if_neg (by omega),if_neg (by omega),if_pos (by omega)]
  ·rw [if_neg c,if_neg (by omega),if_neg (by omega),if_neg (by omega),if_neg (by omega)]
def iD (U u a b : Int) : Prop:=2147483648 ≤ a ∧ a < 4294967296 ∧ 0 ≤ b ∧ b < 4294967296 ∧ 0 ≤ U ∧ U < a * 4294967296 + b ∧ 0 ≤ u ∧ u < 4294967296
def gd (U u a b q r : Int) : Prop:=q * a + r = U ∧ 0 ≤ r ∧ r < 4294967296 ∧ 0 ≤ q ∧ q ≤ 4294967297 ∧ U * 4294967296 + u < (q + 1) * (a * 4294967296 + b)
def je (U u a b q : Int) : Prop:=0 ≤ q ∧ q < 4294967296 ∧ q * (a * 4294967296 + b) ≤ U * 4294967296 + u ∧ U * 4294967296 + u < (q + 1) * (a * 4294967296 + b)
theorem uv (q a b : Int) : q * (a * 4294967296 + b) = (q * a) * 4294967296 + q * b:=by rw [Int.mul_add,Int.mul_assoc]
theorem ss (q a b : Int) : (q + 1) * (a * 4294967296 + b) = (q * a) * 4294967296 + q * b + a * 4294967296 + b:=by
 rw [Int.add_mul,uv,Int.one_mul,Int.add_assoc]; omega
theorem ahp {U u a b : Int} (h : iD U u a b) : gd U u a b (U / a) (U - U / a * a):=by
 obtain ⟨h1,h2,h3,h4,h5,h6,h7,h8⟩:=h
 have e:=Int.mul_ediv_add_emod U a
 have m0:=Int.emod_nonneg U (show a ≠ 0 by omega)
 have m1:=Int.emod_lt_of_pos U (show 0 < a by omega)
 have q0 : 0 ≤ U / a:=Int.ediv_nonneg h5 (by omega)
 unfold gd
 rw [ss]
 have hb : 0 ≤ U / a * b:=Int.mul_nonneg q0 h3
 have ec : a * (U / a) = U / a * a:=Int.mul_comm _ _
 have hq : U / a ≤ 4294967297:=Decidable.byContradiction fun hn => by
  have:=Int.mul_le_mul_of_nonneg_right (show 4294967298 ≤ U / a by omega) (show 0 ≤ a by omega)
  omega
 generalize U / a * b = Q at *
 generalize U / a * a = P at *
 refine ⟨by omega,by omega,by omega,q0,hq,by omega⟩
theorem l4 {U u a b q r : Int} (h : iD U u a b) (t : gd U u a b q r) (c : 4294967296 ≤ q ∨ 4294967296 * r + u < q * b) :
 0 < q ∧ q - 1 ≤ 4294967296 ∧ (q - 1) * a + (r + a) = U ∧ U * 4294967296 + u < (q - 1 + 1) * (a * 4294967296 + b):=by
 obtain ⟨h1,h2,h3,h4,h5,h6,h7,h8⟩:=h
 obtain ⟨t1,t2,t3,t4,t5,t6⟩:=t
 have hq : 0 < q:=by
  rcases c with c | c
  ·omega
  ·refine Decidable.byContradiction fun hn => ?_
   have : q = 0:=by omega
   subst this
   omega
 refine ⟨hq,by omega,by rw [Int.sub_mul,Int.one_mul]; omega,?_⟩
 rw [Int.sub_add_cancel,uv]
 rcases c with c | c
 ·have h9:=Int.mul_le_mul_of_nonneg_right c (show 0 ≤ a * 4294967296 + b by omega)
  rw [uv q a b] at h9
  generalize q * b = Q at *
  generalize q * a = P at *
  omega
 ·generalize q * b = Q at *
  generalize q * a = P at *
  omega
theorem mV {U u a b q r : Int} (h : iD U u a b) (e : q * a + r = U) (q0 : 0 ≤ q) (hb : q * b ≤ 4294967296 * r + u) (hlt : U * 4294967296 + u < (q + 1) * (a * 4294967296 + b)) : je U u a b q:=by
 obtain ⟨h1,h2,h3,h4,h5,h6,h7,h8⟩:=h
 have hle : q * (a * 4294967296 + b) ≤ U * 4294967296 + u:=by
  rw [uv]
  generalize q * b = Q at *
  generalize q * a = P at *
  omega
 refine ⟨q0,Decidable.byContradiction fun hn => ?_,hle,hlt⟩
 have h9:=Int.mul_le_mul_of_nonneg_right (show 4294967296 ≤ q by omega) (show 0 ≤ a * 4294967296 + b by omega)
 omega
theorem st {U u a b q r : Int} (h : iD U u a b) (t : gd U u a b q r) (c2 : ¬ 4294967296 * r + u < q * b) : je U u a b q:=
 mV h t.1 t.2.2.2.1 (by omega) t.2.2.2.2.2
theorem qb {U u a b q r : Int} (h : iD U u a b) (e : q * a + r = U) (q0 : 0 ≤ q) (q1 : q ≤ 4294967296) (hr : 4294967296 ≤ r) (hlt : U * 4294967296 + u < (q + 1) * (a * 4294967296 + b)) : je U u a b q:=by
 refine mV h e q0 ?_ hlt
 obtain ⟨h1,h2,h3,h4,h5,h6,h7,h8⟩:=h
 have h9:=Int.mul_le_mul_of_nonneg_right q1 h3
 omega
theorem gB {U u a b q r : Int} (h : iD U u a b) (t : gd U u a b q r) :
 IntKind.u64.wrap (IntKind.u64.wrap (4294967296 * r) + u) = 4294967296 * r + u ∧ IntKind.u64.wrap (q * b) = q * b ∧ IntKind.u64.wrap (r + a) = r + a:=by
 obtain ⟨h1,h2,h3,h4,h5,h6,h7,h8⟩:=h
 obtain ⟨t1,t2,t3,t4,t5,t6⟩:=t
 have p0 : 0 ≤ q * b:=Int.mul_nonneg t4 h3
 have p1:=Int.mul_le_mul_of_nonneg_right t5 h3
 rw [IntKind.wrap_u64,IntKind.wrap_u64,IntKind.wrap_u64,IntKind.wrap_u64]
 generalize q * b = Q at *
 refine ⟨by omega,by omega,by omega⟩
theorem fx {U u a b q r : Int} (h : iD U u a b) (t : gd U u a b q r) (c : 4294967296 ≤ q ∨ IntKind.u64.wrap (IntKind.u64.wrap (4294967296 * r) + u) < IntKind.u64.wrap (q * b)) (hr : 4294967296 ≤ IntKind.u64.wrap (r + a)) :
 je U u a b (IntKind.u64.wrap (q - 1)):=by
 obtain ⟨w1,w2,w3⟩:=gB h t
 rw [w1,w2] at c
 rw [w3] at hr
 obtain ⟨s1,s2,s3,s4⟩:=l4 h t c
 have e : IntKind.u64.wrap (q - 1) = q - 1:=by rw [IntKind.wrap_u64]; omega
 rw [e]
 exact qb h s3 (by omega) s2 hr s4
theorem fX {U u a b q r : Int} (h : iD U u a b) (t : gd U u a b q r) (c : 4294967296 ≤ q ∨ IntKind.u64.wrap (IntKind.u64.wrap (4294967296 * r) + u) < IntKind.u64.wrap (q * b)) (hr : IntKind.u64.wrap (r + a) < 4294967296) :
 gd U u a b (IntKind.u64.wrap (q - 1)) (IntKind.u64.wrap (r + a)) ∧ (IntKind.u64.wrap (q - 1)).toNat < q.toNat:=by
 obtain ⟨w1,w2,w3⟩:=gB h t
 rw [w1,w2] at c
 rw [w3] at hr ⊢
 obtain ⟨s1,s2,s3,s4⟩:=l4 h t c
 have hq:=t.2.2.2.2.1
 have hr0:=t.2.1
 have ha:=h.1
 have e : IntKind.u64.wrap (q - 1) = q - 1:=by rw [IntKind.wrap_u64]; omega
 rw [e]
 exact ⟨⟨s3,by omega,hr,by omega,by omega,s4⟩,by omega⟩
theorem l5 {U u a b q r : Int} (h : iD U u a b) (t : gd U u a b q r) (c : IntKind.u64.wrap (q * b) ≤ IntKind.u64.wrap (IntKind.u64.wrap (4294967296 * r) + u)) : je U u a b q:=by
 obtain ⟨w1,w2,w3⟩:=gB h t
 rw [w1,w2] at c
 exact st h t (by omega)
theorem sv {U u a b q : Int} (d : je U u a b q) : 0 ≤ U * 4294967296 + u - q * (a * 4294967296 + b) ∧ U * 4294967296 + u - q * (a * 4294967296 + b) < a * 4294967296 + b:=by
 obtain ⟨d1,d2,d3,d4⟩:=d
 rw [Int.add_mul,Int.one_mul] at d4
 omega
theorem qc {U u a b : Int} (h : iD U u a b) : ∃ q r : Int,IntKind.u64.wrap (U.tdiv a) = q ∧ IntKind.u64.wrap (U - IntKind.u64.wrap (q * a)) = r ∧ gd U u a b q r:=by
 have t:=ahp h
 obtain ⟨h1,h2,h3,h4,h5,h6,h7,h8⟩:=h
 have e : U.tdiv a = U / a:=Int.tdiv_eq_ediv_of_nonneg h5
 have q0:=t.2.2.2.1
 have q1:=t.2.2.2.2.1
 have r0:=t.2.1
 have r1:=t.2.2.1
 have p0 : 0 ≤ U / a * a:=Int.mul_nonneg q0 (by omega)
 refine ⟨U / a,U - U / a * a,?_,?_,t⟩
 ·rw [e,IntKind.wrap_u64,Int.emod_eq_of_lt q0 (by omega)]
 ·rw [IntKind.wrap_u64,IntKind.wrap_u64,Int.emod_eq_of_lt p0 (by omega),Int.emod_eq_of_lt r0 (by omega)]
theorem qd (T p : Int) (h0 : 0 ≤ T - p) (h1 : T - p < 18446744073709551616) : (T % 18446744073709551616 - p % 18446744073709551616) % 18446744073709551616 = T - p:=by omega
theorem uw {U u a b q Y : Int} (h : iD U u a b) (d : je U u a b q) (eY : Y = a * 4294967296 + b) :
 ∃ R : Int,IntKind.u64.wrap (IntKind.u64.wrap (IntKind.u64.wrap (U * 4294967296) + u) - IntKind.u64.wrap (q * Y)) = R ∧ U * 4294967296 + u = q * Y + R ∧ 0 ≤ R ∧ R < Y:=by
 obtain ⟨r0,r1⟩:=sv d
 obtain ⟨h1,h2,h3,h4,h5,h6,h7,h8⟩:=h
 rw [← eY] at r0 r1
 refine ⟨U * 4294967296 + u - q * Y,?_,by omega,r0,r1⟩
 rw [IntKind.wrap_u64,IntKind.wrap_u64,IntKind.wrap_u64,IntKind.wrap_u64,Int.emod_add_emod]
 exact qd _ _ r0 (by omega)
theorem wK {U u a b R d Y : Int} (h : iD U u a b) (eY : Y = a * 4294967296 + b) (r0 : 0 ≤ R) (r1 : R < Y) (d0 : 0 ≤ d) (d1 : d < 4294967296) : iD R d a b:=by
 obtain ⟨h1,h2,h3,h4,h5,h6,h7,h8⟩:=h
 exact ⟨h1,h2,h3,h4,r0,by omega,d0,d1⟩
theorem abc {q p : Int} (q0 : 0 ≤ q) (q1 : q < 4294967296) (p0 : 0 ≤ p) (p1 : p < 4294967296) : IntKind.u64.wrap (IntKind.u64.wrap (q * 4294967296) + p) = q * 4294967296 + p:=by
 rw [IntKind.wrap_u64,IntKind.wrap_u64]; omega
theorem ahq (v y q R p : Int) (hp : 0 < p) (hy : 0 < y) (e : v * p = q * (y * p) + R) (r0 : 0 ≤ R) (r1 : R < y * p) : v / y = q ∧ v % y = R / p:=by
 have e1 : R = (v - q * y) * p:=by rw [Int.sub_mul,Int.mul_assoc]; omega
 generalize ht : v - q * y = t at *
 have e2 : R / p = t:=by rw [e1]; exact Int.mul_ediv_cancel _ (by omega)
 have t0 : 0 ≤ t:=Decidable.byContradiction fun hn => by
  have:=Int.mul_le_mul_of_nonneg_right (show t ≤ -1 by omega) (show 0 ≤ p by omega)
  omega
 have t1 : t < y:=Decidable.byContradiction fun hn => by
  have:=Int.mul_le_mul_of_nonneg_right (show y ≤ t by omega) (show 0 ≤ p by omega)
  omega
 rw [e2]
 have ev : v = t + y * q:=by rw [Int.mul_comm y q]; omega
 subst ev
 constructor
 ·rw [Int.add_mul_ediv_left _ _ (by omega),Int.ediv_eq_zero_of_lt t0 t1]; omega
 ·rw [Int.add_mul_emod_self_left,Int.emod_eq_of_lt t0 t1]
theorem abd (v y p Y U c d R T q z : Int) (hp : 0 < p) (hy : 0 < y) (eYp : Y = y * p) (eV : v * p = (U * 4294967296 + c) * 4294967296 + d) (e1 : U * 4294967296 + c = q * Y + R) (e2 : R * 4294967296 + d = z * Y + T) (t0 : 0 ≤ T) (t1 : T < Y) :
 q * 4294967296 + z = v / y ∧ T / p = v % y:=by
 have e : v * p = (q * 4294967296 + z) * (y * p) + T:=by
  rw [eV,e1,← eYp,Int.add_mul (q * 4294967296) z Y,Int.mul_right_comm q 4294967296 Y,Int.add_mul]
  omega
 obtain ⟨f1,f2⟩:=ahq v y (q * 4294967296 + z) T p hp hy e t0 (by rw [← eYp]; exact t1)
 exact ⟨f1.symm,f2.symm⟩
theorem abe (x l y : Nat) (x1 : x < y) (l1 : l < 18446744073709551616) (y1 : y < 18446744073709551616) :
 ∃ s U : Nat,s = 64 - Go.bitLen y ∧ s ≤ 63 ∧ 9223372036854775808 ≤ y * 2 ^ s ∧ y * 2 ^ s < 18446744073709551616 ∧
  (x * 2 ^ s % 18446744073709551616 ||| l / 2 ^ (64 - s)) = U ∧ (x * 18446744073709551616 + l) * 2 ^ s = U * 18446744073709551616 + l * 2 ^ s % 18446744073709551616 ∧ U < y * 2 ^ s:=by
 have hy : y ≠ 0:=by omega
 obtain ⟨g1,g2⟩:=Go.bitLen_spec y
 have g2:=g2 hy
 have gb : Go.bitLen y ≤ 64:=by
  unfold Go.bitLen
  rw [if_neg hy]
  have:=(Nat.log2_lt hy).2 (show y < 2 ^ 64 from y1)
  omega
 have g0 : 0 < Go.bitLen y:=by unfold Go.bitLen; rw [if_neg hy]; omega
 refine ⟨64 - Go.bitLen y,_,rfl,by omega,?_,?_,rfl,?_⟩
 ·have h:=Nat.mul_le_mul_right (2 ^ (64 - Go.bitLen y)) g2
  rw [← Nat.pow_add,show Go.bitLen y - 1 + (64 - Go.bitLen y) = 63 by omega] at h
  exact h
 ·have h:=Nat.mul_lt_mul_of_pos_right g1 (Nat.two_pow_pos (64 - Go.bitLen y))
  rw [← Nat.pow_add,show Go.bitLen y + (64 - Go.bitLen y) = 64 by omega] at h
  exact h
 have hY : y * 2 ^ (64 - Go.bitLen y) < 18446744073709551616:=by
  have h:=Nat.mul_lt_mul_of_pos_right g1 (Nat.two_pow_pos (64 - Go.bitLen y))
  rw [← Nat.pow_add,show Go.bitLen y + (64 - Go.bitLen y) = 64 by omega] at h
  exact h
 have hs : 64 - Go.bitLen y < 64:=by omega
 generalize 64 - Go.bitLen y = s at *
 have hv : x * 18446744073709551616 + l < y * 18446744073709551616:=by omega
 have hV : (x * 18446744073709551616 + l) * 2 ^ s < y * 2 ^ s * 18446744073709551616:=by
  have:=Nat.mul_lt_mul_of_pos_right hv (Nat.two_pow_pos s)
  rw [Nat.mul_right_comm y 18446744073709551616 (2 ^ s)] at this
  exact this
 have h1:=tR (x * 18446744073709551616 + l) s hs
 have h2:=tQ (x * 18446744073709551616 + l) s
 rw [show (x * 18446744073709551616 + l) / 18446744073709551616 = x by omega,show (x * 18446744073709551616 + l) % 18446744073709551616 = l by omega] at h1
 rw [show (x * 18446744073709551616 + l) % 18446744073709551616 = l by omega] at h2
 rw [h1,h2]
 generalize (x * 18446744073709551616 + l) * 2 ^ s = V at *
 generalize y * 2 ^ s = Y at *
 omega
end Go.Proofs.YtpbgpdmffejdgaaGreatDoor.W
