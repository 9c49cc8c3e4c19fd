/- MNuF, MQuoD, MRadD, MChM. -/
import Derived.Test.YtpbgpdmffejdgaaGreatDoorG12
import Derived.Test.YtpbgpdmffejdgaaGreatDoorG18
import Derived.Test.YtpbgpdmffejdgaaGreatDoorG30
import Derived.Test.YtpbgpdmffejdgaaGreatDoorG36
import Derived.Test.YtpbgpdmffejdgaaGreatDoorG38
import Derived.Test.YtpbgpdmffejdgaaGreatDoorG40
import Derived.Test.YtpbgpdmffejdgaaGreatDoorG42
import Derived.Test.YtpbgpdmffejdgaaGreatDoorG44
namespace Go.Proofs.YtpbgpdmffejdgaaGreatDoor
open Go.RowKit
def Ap (op a b r t : Int) : Prop:=Cm 13 #[.int .i64 op,.int .u64 a,.int .u64 b] (.tuple #[.int .u64 r,.int .i64 t])
theorem am : Wm 32 32 2147483648 4294967296:=Or.inl ⟨rfl,rfl,rfl,rfl⟩
theorem ap : Wm 64 64 9223372036854775808 18446744073709551616:=Or.inr ⟨rfl,rfl,rfl,rfl⟩
theorem wid {t w : Int} (h : t = 127 ∨ t = 126 ∨ t = 125 ∨ t = 124) (e : wdT t = w) : Ct 33 #[.int .u8 t] (.int .i64 w):=e ▸ adc h
theorem dI {op k w a b : Int} {n : Nat} {H M : Int} {so : Bool} (kw : Wm w n H M) (ha : Rg a) (hb : Rg b) (h : op - 69 = k ∧ w = 32 ∨ op - 80 = k ∧ w = 64) (k0 : 0 ≤ k) (k1 : k < 11) (HQ : Cm 35 #[.int .i64 k,.int .i64 w,.int .u64 (a % M),.int .u64 (b % M)] (.bool so)) : Ap op a b (if so then 1 else 0) 0:=by
 rcases h with ⟨h,rfl⟩ | ⟨h,rfl⟩
 ·have HF:=akk (op:=op) (by omega) (by omega)
  rw [h] at HF
  exact im HF (tq _ _ _ _).m (wid (w:=32) (by decide) rfl) (wid (w:=32) (by decide) rfl) (bG kw ha) (bG kw hb) (Or.inl ⟨rfl,rfl,so,HQ,ky so⟩)
 ·have HF:=akl (op:=op) (by omega) (by omega)
  rw [h] at HF
  exact im HF (tq _ _ _ _).m (wid (w:=64) (by decide) rfl) (wid (w:=32) (by decide) rfl) (bG kw ha) (bG kw hb) (Or.inl ⟨rfl,rfl,so,HQ,ky so⟩)
theorem gP {op k w a b : Int} {n : Nat} {H M : Int} {so : Bool} (kw : Wm w n H M) (ha : Rg a) (hb : Rg b) (h : op - 91 = k ∧ w = 32 ∨ op - 97 = k ∧ w = 64) (k0 : 0 ≤ k) (k1 : k < 6) (HQ : Cm 36 #[.int .i64 k,.int .i64 w,.int .u64 (a % M),.int .u64 (b % M)] (.bool so)) : Ap op a b (if so then 1 else 0) 0:=by
 rcases h with ⟨h,rfl⟩ | ⟨h,rfl⟩
 ·have HF:=akm (op:=op) (by omega) (by omega)
  rw [h] at HF
  exact im HF (tr _ _ _ _).m (wid (w:=32) (by decide) rfl) (wid (w:=32) (by decide) rfl) (bG kw ha) (bG kw hb) (Or.inr (Or.inl ⟨rfl,rfl,so,HQ,ky so⟩))
 ·have HF:=akn (op:=op) (by omega) (by omega)
  rw [h] at HF
  exact im HF (tr _ _ _ _).m (wid (w:=64) (by decide) rfl) (wid (w:=32) (by decide) rfl) (bG kw ha) (bG kw hb) (Or.inr (Or.inl ⟨rfl,rfl,so,HQ,ky so⟩))
theorem aX {op k w a b : Int} {n : Nat} {H M : Int} {r t : Int} (kw : Wm w n H M) (ha : Rg a) (hb : Rg b) (h : op - 103 = k ∧ w = 32 ∨ op - 121 = k ∧ w = 64) (k0 : 0 ≤ k) (k1 : k < 18) (HQ : Cm 37 #[.int .i64 k,.int .i64 w,.int .u64 (a % M),.int .u64 (b % M)] (.tuple #[.int .u64 r,.int .i64 t])) : Ap op a b r t:=by
 rcases h with ⟨h,rfl⟩ | ⟨h,rfl⟩
 ·have HF:=ako (op:=op) (by omega) (by omega)
  rw [h] at HF
  exact im HF (ts _ _ _ _).m (wid (w:=32) (by decide) rfl) (wid (w:=32) (by decide) rfl) (bG kw ha) (bG kw hb) (Or.inr (Or.inr (Or.inl ⟨rfl,HQ⟩)))
 ·have HF:=akp (op:=op) (by omega) (by omega)
  rw [h] at HF
  exact im HF (ts _ _ _ _).m (wid (w:=64) (by decide) rfl) (wid (w:=64) (by decide) rfl) (bG kw ha) (bG kw hb) (Or.inr (Or.inr (Or.inl ⟨rfl,HQ⟩)))
theorem bW {op k w a b : Int} {n : Nat} {H M : Int} {r : Int} (kw : Wm w n H M) (ha : Rg a) (hb : Rg b) (h : op - 139 = k ∧ w = 32 ∨ op - 153 = k ∧ w = 64) (k0 : 0 ≤ k) (k1 : k < 14) (HQ : Cm 38 #[.int .i64 k,.int .i64 w,.int .u64 (a % M),.int .u64 (b % M)] (.int .u64 r)) : Ap op a b r 0:=by
 rcases h with ⟨h,rfl⟩ | ⟨h,rfl⟩
 ·have HF:=akq (op:=op) (by omega) (by omega)
  rw [h] at HF
  exact im HF (tv _ _ _ _).m (wid (w:=32) (by decide) rfl) (wid (w:=32) (by decide) rfl) (bG kw ha) (bG kw hb) (Or.inr (Or.inr (Or.inr (Or.inl ⟨rfl,rfl,HQ⟩))))
 ·have HF:=akr (op:=op) (by omega) (by omega)
  rw [h] at HF
  exact im HF (tv _ _ _ _).m (wid (w:=64) (by decide) rfl) (wid (w:=64) (by decide) rfl) (bG kw ha) (bG kw hb) (Or.inr (Or.inr (Or.inr (Or.inl ⟨rfl,rfl,HQ⟩))))
theorem bK {op w v a b ti tu r t : Int} {k n : Nat} {H M : Int} (hx : cL[k * 2]? = some (.int .u8 ti)) (hy : cL[k * 2 + 1]? = some (.int .u8 tu)) (h1 : ti = 127 ∨ ti = 126 ∨ ti = 125 ∨ ti = 124) (h2 : tu = 127 ∨ tu = 126 ∨ tu = 125 ∨ tu = 124) (hw : wdT ti = w) (hv : wdT tu = v) (kw : Wm w n H M) (ha : Rg a) (hb : Rg b) (h : op - 167 = (k : Int)) (hk : k < 25) (HQ : Cm 39 #[.int .i64 (k : Int),.int .i64 w,.int .i64 v,.int .u64 (a % M)] (.tuple #[.int .u64 r,.int .i64 t])) : Ap op a b r t:=by
 have HF:=aks (op:=op) (by omega) (by omega)
 rw [h] at HF
 exact im HF (ade _ _ _ hk hx hy) (wid h1 hw) (wid h2 hv) (bG kw ha) (bG kw hb) (Or.inr (Or.inr (Or.inr (Or.inr (Or.inl ⟨rfl,HQ⟩)))))
theorem fs {op w v a b ti tu r t : Int} {k n : Nat} {H M : Int} (hx : sL[k * 2]? = some (.int .u8 ti)) (hy : sL[k * 2 + 1]? = some (.int .u8 tu)) (h1 : ti = 127 ∨ ti = 126 ∨ ti = 125 ∨ ti = 124) (h2 : tu = 127 ∨ tu = 126 ∨ tu = 125 ∨ tu = 124) (hw : wdT ti = w) (hv : wdT tu = v) (kw : Wm w n H M) (ha : Rg a) (hb : Rg b) (h : op - 64512 = (k : Int)) (hk : k < 8) (ht : t = 0) (HQ : Cm 40 #[.int .i64 (k : Int),.int .i64 w,.int .i64 v,.int .u64 (a % M)] (.int .u64 r)) : Ap op a b r t:=by
 have HF:=akt (op:=op) (by omega) (by omega)
 rw [h] at HF
 exact im HF (adf _ _ _ hk hx hy) (wid h1 hw) (wid h2 hv) (bG kw ha) (bG kw hb) (Or.inr (Or.inr (Or.inr (Or.inr (Or.inr ⟨rfl,ht,HQ⟩)))))
theorem u7 {op : Int} (h : op < 69 ∨ (192 ≤ op ∧ op < 64512) ∨ (64520 ≤ op ∧ op ≤ 9223372036854775807)) : Cm 24 #[.int .i64 op] (.tuple #[.agg #[.int .i64 0,.int .i64 0,.int .i64 0,.int .u8 0],.int .i64 0,.bool false]):=by
 rcases h with h | ⟨h,h'⟩ | ⟨h,h'⟩
 ·exact adn h
 ·exact ado h h'
 ·exact adp h h'
theorem ad9 {op a b : Int} (h : op < 69 ∨ (192 ≤ op ∧ op < 64512) ∨ (64520 ≤ op ∧ op ≤ 9223372036854775807)) : Ap op a b 0 0:=akx (u7 h)
open Go.Proofs.YtpbgpdmffejdgaaGreatDoor.W
theorem pS {w K1 X1 S1 K2 X2 S2 : Int} {n1 n2 : Bool} (h : K1 = 3 ∨ K2 = 3 ∨ (K1 = 2 ∧ K2 = 2) ∨ (K1 = 0 ∧ K2 = 0)) (W : World) :
 Calls Tryz.prog 241 #[.agg #[.bool n1,.int .i64 K1,.int .i64 X1,.int .u64 S1,.bool n2,.int .i64 K2,.int .i64 X2,.int .u64 S2,.int .i64 w]] W fun r W' => r = .returned (.bool true) ∧ Below W.heap.size W W':=by
 by_cases he : K1 = K2
 ·have:=j5 (w:=w) (X1:=X1) (S1:=S1) (X2:=X2) (S2:=S2) (n1:=n1) (n2:=n2) W (aH he)
  rw [dj (show K1 ≠ 1 by omega)] at this
  exact this
 ·by_cases h3 : K1 = 3
  ·exact sn W (au he) (aH h3)
  ·have:=lZ (w:=w) (X1:=X1) (S1:=S1) (X2:=X2) (S2:=S2) (n1:=n1) (n2:=n2) W (au he) (au h3)
   rw [aH (show K2 = 3 by omega)] at this
   exact this
theorem pT {w K1 X1 S1 K2 X2 S2 : Int} {n1 n2 : Bool} (hK1 : K1 = 0 ∨ K1 = 1 ∨ K1 = 2 ∨ K1 = 3) (h : ¬ (K1 = 3 ∨ K2 = 3 ∨ (K1 = 2 ∧ K2 = 2) ∨ (K1 = 0 ∧ K2 = 0))) (W : World) :
 Calls Tryz.prog 241 #[.agg #[.bool n1,.int .i64 K1,.int .i64 X1,.int .u64 S1,.bool n2,.int .i64 K2,.int .i64 X2,.int .u64 S2,.int .i64 w]] W fun r W' => r = .returned (.bool false) ∧ Below W.heap.size W W':=by
 by_cases he : K1 = K2
 ·have:=j5 (w:=w) (X1:=X1) (S1:=S1) (X2:=X2) (S2:=S2) (n1:=n1) (n2:=n2) W (aH he)
  rw [dJ (show K1 = 1 by omega)] at this
  exact this
 ·have:=lZ (w:=w) (X1:=X1) (S1:=S1) (X2:=X2) (S2:=S2) (n1:=n1) (n2:=n2) W (au he) (au (by omega))
  rw [au (show K2 ≠ 3 by omega)] at this
  exact this
theorem pU {S1 : Int} {up : Nat} (hup : up + Go.bitLen S1.toNat = 128) : S1.toNat * 2 ^ up < 340282366920938463463374607431768211456:=by
 by_cases h0 : S1.toNat = 0
 ·rw [h0,Nat.zero_mul]
  omega
 ·have:=fd (x:=S1.toNat * 2 ^ up) (k:=128) (by rw [dO _ _ h0]; omega)
  omega
theorem sj {w e f P Q b X1 S1 X2 S2 : Int} (k : Kd w e f P Q b) (n1 n2 : Bool) (h1 : Prt f P Q b 1 X1 S1) (h2 : Prt f P Q b 1 X2 S2) (W : World) :
 Calls Tryz.prog 164 #[.agg #[.bool n1,.int .i64 1,.int .i64 X1,.int .u64 S1,.bool n2,.int .i64 1,.int .i64 X2,.int .u64 S2,.int .i64 w]] W fun r W' => r = .returned (.int .u64 (rdQ f P Q b (n1 != n2) (S1.toNat * 2 ^ (X1 - X2 + 5000).toNat) S2.toNat)) ∧ Below W.heap.size W W':=by
 obtain ⟨x0,x1,s0,-,s1⟩:=h1.in k
 obtain ⟨y0,y1,t0,-,t1⟩:=h2.in k
 have hS2 : 0 < S2:=by unfold Prt at h2; omega
 have hbl:=aa6 (x:=S1.toNat) (by omega)
 obtain ⟨up,hup⟩ : ∃ up : Nat,up + Go.bitLen S1.toNat = 128:=⟨128 - Go.bitLen S1.toNat,by omega⟩
 have hw2 : W2 S1.toNat:=by unfold W2; omega
 have hv2 : W2 (S1.toNat * 2 ^ up):=pU hup
 have hs : b7 S1.toNat (up : Int) = S1.toNat * 2 ^ up:=by
  unfold b7
  rw [Int.toNat_natCast,Nat.mod_eq_of_lt (pU hup)]
 have hU : IntKind.i64.wrap (128 - (Go.bitLen S1.toNat : Int)) = (up : Int):=by rw [aj (by omega) (by omega)]; omega
 have hE : IntKind.i64.wrap (X1 - (up : Int)) = X1 - up:=aj (by omega) (by omega)
 have hY : IntKind.i64.wrap (X1 - (up : Int) - X2) = X1 - up - X2:=aj (by omega) (by omega)
 have HL:=fun W => fR S1.toNat (up : Int) W hw2
 rw [hs] at HL
 have HI:=fun W => amr (K2:=1) (X2:=X2) (n2:=n2) W (ab (fun W => aqh (S1.toNat * 2 ^ up) S2 W hv2 hS2 (by omega)))
 have HP:=fun W => fg (S1.toNat * 2 ^ up / S2.toNat) (n1 != n2) (((S1.toNat * 2 ^ up % S2.toNat : Nat) : Int) != 0) (X1 - up - X2) k (Nat.lt_of_le_of_lt (Nat.div_le_self _ _) hv2) W
 rw [aa5 k h1 h2 up hup _ (by
  by_cases hr : S1.toNat * 2 ^ up % S2.toNat = 0
  ·rw [hr]; rfl
  ·rw [show (S1.toNat * 2 ^ up % S2.toNat != 0) = true by simpa using hr,dj (by omega)])] at HP
 exact nU W (ab (fun W => pT (by omega) (by omega) W)) (ab (fun W => uu W)) (by rfl) (by rfl) (by rfl) (by rfl)
  (ab (fun W => aba W (ab (fun W => fG S1 W s0 (by omega))) (ab (fun W => tP S1.toNat W hw2)) hU (ab HL) hE)) (ab HI) hY (ab HP)
theorem ahj {w e f P Q b K1 X1 S1 K2 X2 S2 : Int} (k : Kd w e f P Q b) (n1 n2 : Bool) (h1 : Prt f P Q b K1 X1 S1) (h2 : Prt f P Q b K2 X2 S2) (W : World) :
 Calls Tryz.prog 164 #[.agg #[.bool n1,.int .i64 K1,.int .i64 X1,.int .u64 S1,.bool n2,.int .i64 K2,.int .i64 X2,.int .u64 S2,.int .i64 w]] W fun r W' => r = .returned (.int .u64 (fm f P Q b n1 K1 (mag X1 S1) n2 K2 (mag X2 S2))) ∧ Below W.heap.size W W':=by
 obtain ⟨x0,x1,s0,-,s1⟩:=h1.in k
 obtain ⟨y0,y1,t0,-,t1⟩:=h2.in k
 have hK1 : K1 = 0 ∨ K1 = 1 ∨ K1 = 2 ∨ K1 = 3:=by unfold Prt at h1; omega
 have hK2 : K2 = 0 ∨ K2 = 1 ∨ K2 = 2 ∨ K2 = 3:=by unfold Prt at h2; omega
 by_cases a : K1 = 3 ∨ K2 = 3 ∨ (K1 = 2 ∧ K2 = 2) ∨ (K1 = 0 ∧ K2 = 0)
 ·rw [show fm f P Q b n1 K1 (mag X1 S1) n2 K2 (mag X2 S2) = cM f P Q by unfold fm; rw [if_pos a]]
  exact jd W (ab (fun W => pS a W)) (ab (fun W => cx k.wd W))
 have HN:=ab (fun W => pT (w:=w) (X1:=X1) (S1:=S1) (X2:=X2) (S2:=S2) (n1:=n1) (n2:=n2) hK1 a W)
 have HG:=ab (fun W => uu (w:=w) (K1:=K1) (X1:=X1) (S1:=S1) (K2:=K2) (X2:=X2) (S2:=S2) (n1:=n1) (n2:=n2) W)
 by_cases c : K1 = 2 ∨ K2 = 0
 ·rw [show fm f P Q b n1 K1 (mag X1 S1) n2 K2 (mag X2 S2) = put f P Q (n1 != n2) (Q - 1) 0 by unfold fm; rw [if_neg a,if_pos c]]
  by_cases a2 : K1 = 2
  ·exact pY W HN HG (aH a2) (ab (fun W => d5 _ k.wd W))
  ·exact pZ W HN HG (au a2) (aH (by omega)) (ab (fun W => d5 _ k.wd W))
 ·by_cases d : K1 = 0 ∨ K2 = 2
  ·rw [show fm f P Q b n1 K1 (mag X1 S1) n2 K2 (mag X2 S2) = put f P Q (n1 != n2) 0 0 by unfold fm; rw [if_neg a,if_neg c,if_pos d]]
   by_cases a0 : K1 = 0
   ·exact p8 W HN HG (au (by omega)) (au (by omega)) (aH a0) (ab (fun W => bE _ k.wd W))
   ·exact p9 W HN HG (au (by omega)) (au (by omega)) (au a0) (aH (by omega)) (ab (fun W => bE _ k.wd W))
  ·rw [show fm f P Q b n1 K1 (mag X1 S1) n2 K2 (mag X2 S2) = rdQ f P Q b (n1 != n2) (mag X1 S1 * 2 ^ Z5) (mag X2 S2) by unfold fm; rw [if_neg a,if_neg c,if_neg d],us f P Q b _ x0 y0 y1]
   obtain rfl : K1 = 1:=by omega
   obtain rfl : K2 = 1:=by omega
   exact sj k n1 n2 h1 h2 W
theorem ahk {w e f P Q b x y : Int} (k : Kd w e f P Q b) (W : World) (x0 : 0 ≤ x) (x1 : x < 18446744073709551616) (y0 : 0 ≤ y) (y1 : y < 18446744073709551616) :
 Calls Tryz.prog 88 #[.int .i64 w,.int .u64 x,.int .u64 y] W fun r W' => r = .returned (.int .u64 (jz f P Q b x y)) ∧ Below W.heap.size W W':=by
 obtain ⟨X1,S1,o1,p1,m1⟩:=aL k x
 obtain ⟨X2,S2,o2,p2,m2⟩:=aL k y
 have HP:=ab (fun W => ahj k (oN P Q x) (oN P Q y) p1 p2 W)
 unfold jz
 rw [m1,m2] at HP
 exact qa W (ab (fun W => bj x k.wd W x0 x1 o1)) (ab (fun W => bj y k.wd W y0 y1 o2)) HP
theorem pV {w e f P Q b x y : Int} (k : Kd w e f P Q b) (W : World) (x0 : 0 ≤ x) (x1 : x < 18446744073709551616) (y0 : 0 ≤ y) (y1 : y < 18446744073709551616) :
 Calls Tryz.prog 113 #[.int .i64 w,.int .u64 x,.int .u64 y] W fun r W' => r = .returned (.int .u64 (jz f P Q b x y)) ∧ Below W.heap.size W W':=by
 obtain ⟨X1,S1,o1,p1,m1⟩:=aL k x
 obtain ⟨X2,S2,o2,p2,m2⟩:=aL k y
 have HO1:=ab (fun W => aN x k W x0 x1 o1)
 have HO2:=ab (fun W => aN y k W y0 y1 o2)
 have HN:=ab (fun W => bN k W)
 unfold jz
 rw [← m1,← m2]
 generalize oN P Q x = n1 at *
 generalize oN P Q y = n2 at *
 generalize oK P Q x = K1 at *
 generalize oK P Q y = K2 at *
 obtain ⟨p1',p2',q1,q2⟩:=k.pos
 obtain ⟨u0,u1,s0,-,s1⟩:=p1.in k
 obtain ⟨v0,v1,t0,-,t1⟩:=p2.in k
 have HI:=ab (fun W => cP (n1 != n2) k W)
 have HZ:=ab (fun W => eQ (n1 != n2) 0 0 k W (by omega) (by omega) (by omega) (by omega))
 have hK1 : K1 = 0 ∨ K1 = 1 ∨ K1 = 2 ∨ K1 = 3:=by unfold Prt at p1; omega
 have hK2 : K2 = 0 ∨ K2 = 1 ∨ K2 = 2 ∨ K2 = 3:=by unfold Prt at p2; omega
 by_cases a : K1 = 3 ∨ K2 = 3 ∨ (K1 = 2 ∧ K2 = 2) ∨ (K1 = 0 ∧ K2 = 0)
 ·rw [show fm f P Q b n1 K1 (mag X1 S1) n2 K2 (mag X2 S2) = cM f P Q by unfold fm; rw [if_pos a]]
  by_cases a3 : K1 = 3
  ·exact sw W HO1 HO2 (aH a3) HN
  by_cases b3 : K2 = 3
  ·exact sA W HO1 HO2 (au a3) (aH b3) HN
  by_cases a2 : K1 = 2
  ·exact sB W HO1 HO2 (au a3) (au b3) (aH a2) (aH (by omega)) HN
  ·exact sC W HO1 HO2 (au a3) (au b3) (au a2) (aH (by omega)) (aH (by omega)) HN
 have a3 : (K1 == 3) = false:=au (by omega)
 have b3 : (K2 == 3) = false:=au (by omega)
 by_cases c : K1 = 2 ∨ K2 = 0
 ·rw [show fm f P Q b n1 K1 (mag X1 S1) n2 K2 (mag X2 S2) = put f P Q (n1 != n2) (Q - 1) 0 by unfold fm; rw [if_neg a,if_pos c]]
  by_cases a2 : K1 = 2
  ·exact sE W HO1 HO2 a3 b3 (aH a2) (au (by omega)) (au (by omega)) HI
  ·exact sF W HO1 HO2 a3 b3 (au a2) (au (by omega)) (aH (by omega)) HI
 ·by_cases d : K1 = 0 ∨ K2 = 2
  ·rw [show fm f P Q b n1 K1 (mag X1 S1) n2 K2 (mag X2 S2) = put f P Q (n1 != n2) 0 0 by unfold fm; rw [if_neg a,if_neg c,if_pos d]]
   by_cases a0 : K1 = 0
   ·exact sG W HO1 HO2 a3 b3 (au (by omega)) (aH a0) (au (by omega)) HZ
   ·exact sH W HO1 HO2 a3 b3 (au (by omega)) (au a0) (au (by omega)) (aH (by omega)) HZ
  ·rw [show fm f P Q b n1 K1 (mag X1 S1) n2 K2 (mag X2 S2) = rdQ f P Q b (n1 != n2) (mag X1 S1 * 2 ^ Z5) (mag X2 S2) by unfold fm; rw [if_neg a,if_neg c,if_neg d],us f P Q b _ u0 v0 v1]
   have hS1 : 0 < S1:=by unfold Prt at p1; omega
   have hS2 : 0 < S2:=by unfold Prt at p2; omega
   exact qe W HO1 HO2 a3 b3 (au (by omega)) (au (by omega)) (au (by omega)) (au (by omega)) (ab ⟨s0,by omega,t0,by omega⟩) (aj (by omega) (by omega))
    (ab (fun a m c a' m' c' W hx hy => aa7 k a a' m c m' c' S1.toNat S2.toNat W hx hy (by omega) (by omega) (by omega) (by omega) (by omega) (by omega)))
theorem ux (f L : Nat) : ∀ c,c ≤ bd f L c
 | 0 => Nat.zero_le _
 | c + 1 => Nat.lt_of_le_of_lt (ux f L c) (jh.2 (Nat.lt_succ_self c))
theorem wL (f L T : Nat) : ∃ c,cT f L T c:=by
 have key : ∀ d,bH f L T d → ∃ c,cT f L T c:=by
  intro d
  induction d with
  | zero => exact fun h => ⟨0,fun e => ⟨fun _ => Nat.zero_le _,fun _ => dX h (Nat.zero_le _)⟩⟩
  | succ d ih =>
   intro h
   by_cases hd : bH f L T d
   ·exact ih hd
   ·refine ⟨d + 1,fun e => ⟨fun he => ?_,fun he => dX h he⟩⟩
    exact Decidable.byContradiction fun hn => hd (dX he (by omega))
 refine key (4 * T + 1) (Or.inl ?_)
 have h1 : 4 * T + 1 ≤ cm f L (4 * T + 1):=Nat.le_trans (ux f L _) (Nat.le_add_right _ _)
 have h2:=Nat.mul_le_mul h1 h1
 have h3 : 4 * T + 1 ≤ (4 * T + 1) * (4 * T + 1):=Nat.le_mul_of_pos_right _ (by omega)
 omega
def IsR (f P Q b x : Int) (c : Nat) : Prop:=oK P Q x = 1 → cT f.toNat (av f b) (oM f P Q b x * 2 ^ Z5) c
theorem amu (f P Q b x : Int) : ∃ c,IsR f P Q b x c:=by
 obtain ⟨c,h⟩:=wL f.toNat (av f b) (oM f P Q b x * 2 ^ Z5)
 exact ⟨c,fun _ => h⟩
def sqB (f P Q x : Int) (c : Nat) : Int:=
 if oK P Q x = 0 then put f P Q (oN P Q x) 0 0 else if oK P Q x = 3 ∨ oN P Q x = true then cM f P Q else if oK P Q x = 2 then put f P Q false (Q - 1) 0 else fl f P Q false c
theorem ahr {v k q : Nat} (v0 : v ≠ 0) (h : 127 ≤ Go.bitLen v + k) (hq : v * 2 ^ k < (q + 1) * (q + 1)) : 64 ≤ Go.bitLen q:=by
 refine Decidable.byContradiction fun hn => ?_
 have h1:=fd (x:=q) (k:=63) (by omega)
 have h2:=Nat.mul_le_mul (show q + 1 ≤ 2 ^ 63 by omega) (show q + 1 ≤ 2 ^ 63 by omega)
 have h3 : v * 2 ^ k < 2 ^ 126:=Nat.lt_of_lt_of_le hq (Nat.le_trans h2 (by decide))
 have h5:=dC (k:=126) h3
 rw [dO _ _ v0] at h5
 omega
theorem wM {w e f P Q b x X S Y : Int} {c q n : Nat} {m : Bool} (k : Kd w e f P Q b) (hx : oK P Q x = 1) (p : Prt f P Q b 1 X S) (hm : mag X S = oM f P Q b x) (hc : cT f.toNat (av f b) (oM f P Q b x * 2 ^ Z5) c)
 (h1 : 127 ≤ Go.bitLen S.toNat + n) (h2 : n ≤ 128) (hY : 2 * Y = X - n) (hq : q * q ≤ S.toNat * 2 ^ n) (hq1 : S.toNat * 2 ^ n < (q + 1) * (q + 1)) (hb : m = decide (q * q ≠ S.toNat * 2 ^ n)) :
 fl f P Q false (lid P Q (aO f.toNat (av f b) (num q m (cap Y)) : Nat)) = fl f P Q false c:=by
 obtain ⟨x0,x1,s0,-,s1⟩:=p.in k
 obtain ⟨hP,f0,f1,l0,l1,b0,b1⟩:=k.pow
 have hS : S.toNat ≠ 0:=by unfold Prt at p; omega
 have hf : 1 ≤ f.toNat ∧ f.toNat ≤ 52:=by rcases k with ⟨-,-,rfl,-⟩ | ⟨-,-,rfl,-⟩ <;> decide
 have hbl:=ahr hS h1 hq1
 rw [lH (by omega) (by omega)]
 have hT : oM f P Q b x * 2 ^ Z5 = S.toNat * 2 ^ n * (2 ^ (Y + 5000).toNat * 2 ^ (Y + 5000).toNat):=by
  rw [← hm]
  unfold mag
  rw [← Nat.pow_add,Nat.mul_assoc,← Nat.pow_add,Nat.mul_assoc,← Nat.pow_add,show (X + 5000).toNat + Z5 = n + ((Y + 5000).toNat + (Y + 5000).toNat) by unfold Z5; omega]
 have hr : cT f.toNat (av f b) (oM f P Q b x * 2 ^ Z5) (aO f.toNat (av f b) (num q m Y)):=by
  intro d
  rw [hT,wQ f.toNat (av f b) (S.toNat * 2 ^ n) q m.toNat (Y + 5000).toNat hf.1 hq hq1 (by rw [hb]; by_cases hh : q * q = S.toNat * 2 ^ n <;> simp [hh]) (by omega) (by omega) d]
  unfold num
  rw [show (Y + 5000).toNat - 1 = (Y + 4999).toNat by omega]
 rw [hr.uniq hc]
 have hi:=(uz k hx hc).2
 unfold lid
 rw [if_neg (by unfold top at hi; omega)]
theorem abf {w e f P Q b x : Int} {c : Nat} (k : Kd w e f P Q b) (W : World) (x0 : 0 ≤ x) (x1 : x < 18446744073709551616) (hc : IsR f P Q b x c) :
 Calls Tryz.prog 84 #[.int .i64 w,.int .u64 x] W fun r W' => r = .returned (.int .u64 (sqB f P Q x c)) ∧ Below W.heap.size W W':=by
 obtain ⟨X,S,o1,p1,m1⟩:=aL k x
 have HO:=ab (fun W => bj x k.wd W x0 x1 o1)
 have hK : oK P Q x = 0 ∨ oK P Q x = 1 ∨ oK P Q x = 2 ∨ oK P Q x = 3:=by unfold Prt at p1; omega
 unfold sqB
 by_cases a0 : oK P Q x = 0
 ·rw [if_pos a0]
  exact abh W HO (aH a0) (ab (fun W => bE _ k.wd W))
 rw [if_neg a0]
 by_cases a3 : oK P Q x = 3
 ·rw [if_pos (Or.inl a3)]
  exact amv W HO (au a0) (aH a3) (ab (fun W => cx k.wd W))
 by_cases hn : oN P Q x = true
 ·rw [if_pos (Or.inr hn)]
  rw [hn] at HO
  exact amw W HO (au a0) (au a3) (ab (fun W => cx k.wd W))
 rw [if_neg (fun h => h.elim a3 hn)]
 rw [show oN P Q x = false by simpa using hn] at HO
 by_cases a2 : oK P Q x = 2
 ·rw [if_pos a2]
  exact amx W HO (au a0) (au a3) (aH a2) (ab (fun W => d5 _ k.wd W))
 rw [if_neg a2]
 have a1 : oK P Q x = 1:=by omega
 have hr:=hc a1
 rw [a1] at HO p1
 obtain ⟨u0,u1,s0,-,s1⟩:=p1.in k
 have hS : S.toNat ≠ 0:=by unfold Prt at p1; omega
 have HE:=fun W => sJ (K:=1) (X:=X) (v:=S.toNat) (n:=false) W hS (by omega) (by omega) (by omega)
 rw [show ((S.toNat : Nat) : Int) = S by omega] at HE
 refine amy W HO (fun v Y => ∃ n : Nat,v = S.toNat * 2 ^ n ∧ (127 ≤ Go.bitLen S.toNat + n ∧ n ≤ 128 ∧ W2 v) ∧ 2 * Y = X - n)
  (fun Y q m => ∃ n : Nat,(127 ≤ Go.bitLen S.toNat + n ∧ n ≤ 128 ∧ q < 18446744073709551616) ∧ 2 * Y = X - n ∧ q * q ≤ S.toNat * 2 ^ n ∧ S.toNat * 2 ^ n < (q + 1) * (q + 1) ∧ m = decide (q * q ≠ S.toNat * 2 ^ n))
  (ab fun W => (HE W).mono ?_) (ab ?_) (ab ?_) (ab ?_)
 ·rintro _ w' ⟨n,rfl,⟨h1,h2,h3⟩,hb⟩
  have h4:=Int.tmod_add_mul_tdiv (X - (n : Int)) 2
  refine ⟨_,_,(X - (n : Int)).tdiv 2,rfl,aj (by omega) (by omega),⟨n,rfl,⟨h1,by omega,?_⟩,by omega⟩,hb⟩
  have:=fd (x:=S.toNat * 2 ^ n) (k:=128) (by rw [dO _ _ hS]; omega)
  unfold W2
  omega
 ·rintro v Y W ⟨n,rfl,⟨h1,h2,h3⟩,h4⟩
  refine (amz _ W h3).mono ?_
  rintro _ w' ⟨q,rfl,hq,hq1,hb⟩
  exact ⟨q,_,rfl,⟨n,⟨h1,h2,uA h3 hq⟩,h4,hq,hq1,rfl⟩,hb⟩
 ·rintro Y q m W ⟨n,⟨h1,h2,h3⟩,h4,hq,hq1,-⟩
  have HF:=fG (q : Int) W (by omega) (by omega)
  rw [Int.toNat_natCast] at HF
  exact HF
 ·rintro Y q m W ⟨n,⟨h1,h2,h3⟩,h4,hq,hq1,hm⟩
  have:=fg q false m Y k (by unfold W2; omega) W
  rw [wM k a1 p1 m1 hr h1 h2 h4 hq hq1 hm] at this
  exact this
theorem jf {w e f P Q b c : Int} (k : Kd w e f P Q b) : fl f P Q false c = c:=by
 obtain ⟨p1,p2,q1,q2⟩:=k.pos
 unfold fl put
 rw [if_neg k.f0]
 have:=Int.emod_add_mul_ediv c P
 rw [Int.mul_comm] at this
 simp
 omega
theorem uy {w e f P Q b c : Int} (k : Kd w e f P Q b) (c0 : 0 ≤ c) (c1 : c ≤ top P Q) : ((oc P Q c : Nat) : Int) = c ∧ oN P Q c = false ∧ c < 18446744073709551616:=by
 obtain ⟨r0,r1,r2,r3,-,-⟩:=fi k false c0 c1
 rw [jf k] at r1 r2 r3
 exact ⟨r2,r3,r1⟩
theorem qf (x y t : Nat) : aK (x * 2 ^ t) (y * 2 ^ t) = aK x y:=by
 have h:=Nat.two_pow_pos t
 unfold aK
 simp only [Nat.mul_lt_mul_right h]
theorem ahs (x y : Nat) : -1 ≤ aK x y ∧ aK x y ≤ 1:=by
 unfold aK
 split <;> (try split) <;> omega
theorem qg {m E a e : Int} (W : World) (m0 : 0 ≤ m) (m1 : m < 18446744073709551616) (a0 : 0 ≤ a) (a1 : a < 18446744073709551616) (h0 : -1200 ≤ E) (h1 : E ≤ 1100) (e0 : -1200 ≤ e) (e1 : e ≤ 1100) :
 Calls Tryz.prog 276 #[.int .u64 m,.int .i64 (E - 1),.int .u64 a,.int .i64 e] W fun r W' => r = .returned (.int .i64 (aK (m.toNat * 2 ^ (E + 5000).toNat * (m.toNat * 2 ^ (E + 5000).toNat)) (4 * (mag e a * 2 ^ Z5)))) ∧ Below W.heap.size W W':=by
 have hx : m.toNat * 2 ^ (E + 5000).toNat * (m.toNat * 2 ^ (E + 5000).toNat) = m.toNat * m.toNat * 2 ^ (2 * E + 10000).toNat:=by
  rw [Nat.mul_mul_mul_comm,← Nat.pow_add,show (E + 5000).toNat + (E + 5000).toNat = (2 * E + 10000).toNat by omega]
 have hy : 4 * (mag e a * 2 ^ Z5) = a.toNat * 2 ^ (e + 10002).toNat:=by
  unfold mag
  rw [Nat.mul_comm 4,Nat.mul_assoc,Nat.mul_assoc,show (4 : Nat) = 2 ^ 2 by decide,← Nat.pow_add,← Nat.pow_add,show (e + 5000).toNat + (Z5 + 2) = (e + 10002).toNat by unfold Z5; omega]
 rw [hx,hy]
 have k2 : IntKind.i64.wrap (2 * (E - 1)) = 2 * E - 2:=by rw [aj (by omega) (by omega)]; omega
 by_cases h : e < 2 * E - 2
 ·have:=ahz (m:=m) (k:=E - 1) (a:=a) (e:=e) (A:=2 * E - 2 - e) W m0 m1 a0 a1 k2 h (aj (by omega) (by omega)) (by omega) (by omega)
  rw [← qf _ _ (e + 10002).toNat,Nat.mul_assoc,← Nat.pow_add,show (2 * E - 2 - e).toNat + (e + 10002).toNat = (2 * E + 10000).toNat by omega] at this
  exact this
 ·have:=ah0 (m:=m) (k:=E - 1) (a:=a) (e:=e) (A:=e - (2 * E - 2)) W m0 m1 a0 a1 k2 h (aj (by omega) (by omega)) (by omega) (by omega)
  rw [← qf _ _ (2 * E + 10000).toNat,Nat.mul_assoc a.toNat,← Nat.pow_add,show (e - (2 * E - 2)).toNat + (2 * E + 10000).toNat = (e + 10002).toNat by omega] at this
  exact this
theorem abg {w e f P Q b X S : Int} {n : Bool} (k : Kd w e f P Q b) (p : Prt f P Q b 1 X S) (c : Nat) (hc : (c : Int) < top P Q) (W : World) :
 Calls Tryz.prog 260 #[.int .i64 w,.int .u64 (c : Int),.agg #[.bool n,.int .i64 1,.int .i64 X,.int .u64 S]] W fun r W' => r = .returned (.int .i64 (-(aK (cm f.toNat (av f b) c * cm f.toNat (av f b) c) (4 * (mag X S * 2 ^ Z5))))) ∧ Below W.heap.size W W':=by
 obtain ⟨hP,f0,f1,l0,l1,b0,b1⟩:=k.pow
 obtain ⟨x0,x1,s0,-,s1⟩:=p.in k
 obtain ⟨o1,o2,o3⟩:=uy (c:=(c : Int)) k (by omega) (by omega)
 obtain ⟨X1,S1,q1,q2,q3⟩:=aL k (c : Int)
 have HO:=ab (fun W => aN (c : Int) k W (by omega) o3 q1)
 obtain ⟨y0,y1,t0,t2,t1⟩:=q2.in k
 have hoc : oc P Q (c : Int) = c:=by omega
 obtain ⟨z,hz⟩ : ∃ z,aK (cm f.toNat (av f b) c * cm f.toNat (av f b) c) (4 * (mag X S * 2 ^ Z5)) = z:=⟨_,rfl⟩
 have hcm : -1 ≤ z ∧ z ≤ 1:=hz ▸ ahs _ _
 rw [hz]
 have k4 : IntKind.i64.wrap (-z) = -z:=aj (by omega) (by omega)
 have ht:=dP k
 rcases b9 k (c : Int) with ⟨-,h2,-⟩ | ⟨-,h2,-⟩ | ⟨h1,h2,-,h3⟩ | ⟨h1,h2,-⟩
 ·omega
 ·omega
 ·rw [h1] at HO q2
  rw [h3,hoc] at q3
  have hs : S1.toNat < 2 ^ (f.toNat + 1):=by rw [nV]; omega
  have hk : av f b ≤ (X1 + 5000).toNat:=by unfold av; unfold Prt at q2; omega
  have hk2 : av f b < (X1 + 5000).toNat → 2 ^ f.toNat ≤ S1.toNat:=by
   intro h
   unfold av at h
   unfold Prt at q2
   omega
  have hcc : c = ((X1 + 5000).toNat - av f b) * 2 ^ f.toNat + S1.toNat:=by
   apply aaf (f:=f.toNat) (L:=av f b)
   rw [bJ _ _ _ _ hs hk hk2,← q3]
   rfl
  have hmid : cm f.toNat (av f b) c = (2 * S1 + 1).toNat * 2 ^ (X1 + 5000).toNat:=by
   rw [hcc,ib _ _ _ _ hs hk hk2,show (2 * S1 + 1).toNat = 2 * S1.toNat + 1 by omega]
  have HV:=fun W => qg (m:=2 * S1 + 1) (E:=X1) (a:=S) (e:=X) W (by omega) (by omega) s0 (by omega) y0 y1 x0 x1
  rw [← hmid,hz] at HV
  exact abn W HO (by rfl) (dY (by omega) (by omega)) (dY (by omega) (by omega)) (aj (by omega) (by omega)) (ab HV) k4
 ·rw [h1] at HO q2
  obtain rfl : c = 0:=by omega
  have hS1 : S1 = 0:=by unfold Prt at q2; omega
  obtain ⟨X2,S2,r1,r2,r3⟩:=aL k 1
  have HO1:=ab (fun W => aN 1 k W (by omega) (by omega) r1)
  have hX2 : X2 = 1 - b - f:=by
   unfold dp at r1
   obtain ⟨p1,p2,q1',q2'⟩:=k.pos
   have e1 : (1 : Int) / P = 0:=Int.ediv_eq_zero_of_lt (by omega) (by omega)
   have e2 : (1 : Int) % P = 1:=Int.emod_eq_of_lt (by omega) (by omega)
   rw [e1,e2,Int.zero_emod] at r1
   have:=k.f0
   omega
  have hmid : cm f.toNat (av f b) 0 = (2 * S1 + 1).toNat * 2 ^ (X2 + 5000).toNat:=by
   have:=ib f.toNat (av f b) 0 (av f b) (Nat.two_pow_pos _) (Nat.le_refl _) (fun h => absurd h (Nat.lt_irrefl _))
   rw [Nat.sub_self,Nat.zero_mul,Nat.add_zero] at this
   rw [this,hS1,show (X2 + 5000).toNat = av f b by unfold av; omega]
   rfl
  obtain ⟨y2,y3,-⟩:=r2.in k
  have HV:=fun W => qg (m:=2 * S1 + 1) (E:=X2) (a:=S) (e:=X) W (by omega) (by omega) s0 (by omega) y2 y3 x0 x1
  rw [← hmid,hz] at HV
  exact wS W HO (by rfl) HO1 (dY (by omega) (by omega)) (dY (by omega) (by omega)) (aj (by omega) (by omega)) (ab HV) k4
theorem qh {w e f P Q b x : Int} {c : Nat} (k : Kd w e f P Q b) (W : World) (x0 : 0 ≤ x) (x1 : x < 18446744073709551616) (hc : IsR f P Q b x c) :
 Calls Tryz.prog 204 #[.int .i64 w,.int .u64 x] W fun r W' => r = .returned (.int .u64 (sqB f P Q x c)) ∧ Below W.heap.size W W':=by
 obtain ⟨X,S,o1,p1,m1⟩:=aL k x
 have HO:=ab (fun W => aN x k W x0 x1 o1)
 obtain ⟨t1,t2,t3,t4⟩:=k.pos
 have hK : oK P Q x = 0 ∨ oK P Q x = 1 ∨ oK P Q x = 2 ∨ oK P Q x = 3:=by unfold Prt at p1; omega
 unfold sqB
 by_cases a0 : oK P Q x = 0
 ·rw [if_pos a0]
  exact wT W HO (aH a0) (ab (fun W => eQ _ 0 0 k W (by omega) (by omega) (by omega) (by omega)))
 rw [if_neg a0]
 by_cases a3 : oK P Q x = 3
 ·rw [if_pos (Or.inl a3)]
  exact wU W HO (au a0) (aH a3) (ab (fun W => bN k W))
 by_cases hn : oN P Q x = true
 ·rw [if_pos (Or.inr hn)]
  rw [hn] at HO
  exact wV W HO (au a0) (au a3) (ab (fun W => bN k W))
 rw [if_neg (fun h => h.elim a3 hn)]
 rw [show oN P Q x = false by simpa using hn] at HO
 by_cases a2 : oK P Q x = 2
 ·rw [if_pos a2]
  exact wW W HO (au a0) (au a3) (aH a2) (ab (fun W => cP _ k W))
 rw [if_neg a2]
 have a1 : oK P Q x = 1:=by omega
 have hr:=hc a1
 rw [a1] at HO p1
 have ht:=dP k
 have HI:=fun W => cP false k W
 rw [dn k,jf k] at HI
 have hw:=(fi k false (Int.le_of_lt ht) (Int.le_refl _)).2.1
 rw [jf k] at hw
 rw [jf k]
 refine wX W HO (by omega) (ab HI) ht hw (uz k a1 hr).2 (fun m => -(aK (cm f.toNat (av f b) m * cm f.toNat (av f b) m) (4 * (mag X S * 2 ^ Z5)))) (ab fun m hm W => abg k p1 m hm W) (ab fun m => ?_)
 have h1:=hr m
 rw [← m1] at h1
 unfold bH at h1
 unfold aK
 generalize cm f.toNat (av f b) m * cm f.toNat (av f b) m = A at *
 generalize mag X S * 2 ^ Z5 = B at *
 split
 ·omega
 ·split <;> omega
theorem fO {w e f P Q b : Int} (k : Kd w e f P Q b) : (w = 32 ∧ P * Q = 2147483648) ∨ (w = 64 ∧ P * Q = 9223372036854775808):=by
 rcases k with ⟨rfl,-,-,rfl,rfl,-⟩ | ⟨rfl,-,-,rfl,rfl,-⟩
 ·exact Or.inl ⟨rfl,rfl⟩
 ·exact Or.inr ⟨rfl,rfl⟩
theorem uQ : wq 0 = 0:=by unfold wq; exact Nat.zero_div _
def tf (H : Int) (s : Bool) : Int:=if s then H else 0
def mg (H : Int) (s : Bool) : Int:=if s then H - 1 else 2 * H - 1
def dZ (H : Int) (s n : Bool) : Int:=if n then tf H s else mg H s
def sgd (H : Int) (n : Bool) (m : Int) : Int:=if n then -m % (2 * H) else m
def chT (H : Int) (s n : Bool) (K : Int) (z : Nat) : Int:=if K = 3 then 4 else if K = 2 then 3 else if (z : Int) ≤ dZ H s n then 0 else 3
def chV (H : Int) (s n : Bool) (K : Int) (z : Nat) : Int:=if K = 3 then 0 else if K = 2 then dZ H s n else if (z : Int) ≤ dZ H s n then sgd H n z else dZ H s n
theorem anx {H : Int} {s n : Bool} {z : Nat} (h : (z : Int) ≤ dZ H s n) : chT H s n 1 z = 0:=by unfold chT; rw [if_neg (by decide),if_neg (by decide),if_pos h]
theorem anz {H : Int} {s n : Bool} {z : Nat} (h : (z : Int) ≤ dZ H s n) : chV H s n 1 z = sgd H n z:=by unfold chV; rw [if_neg (by decide),if_neg (by decide),if_pos h]
theorem an0 {H : Int} {s n : Bool} {z : Nat} (h : ¬ (z : Int) ≤ dZ H s n) : chT H s n 1 z = 3:=by unfold chT; rw [if_neg (by decide),if_neg (by decide),if_neg h]
theorem an1 {H : Int} {s n : Bool} {z : Nat} (h : ¬ (z : Int) ≤ dZ H s n) : chV H s n 1 z = dZ H s n:=by unfold chV; rw [if_neg (by decide),if_neg (by decide),if_neg h]
theorem kP {w e f P Q b : Int} (k : Kd w e f P Q b) (s n : Bool) : 0 ≤ dZ (P * Q) s n ∧ dZ (P * Q) s n < 18446744073709551616:=by
 have h:=fO k
 unfold dZ tf mg
 cases n <;> cases s <;> simp only [if_true,if_false,Bool.false_eq_true] <;> omega
theorem arz {X S : Int} (h : 64 < X) (s0 : 0 < S) (s1 : S < 9007199254740992) : W2 (bZ (b7 S.toNat 64) (-X)) ∧ ∀ E : Nat,E < 18446744073709551616 → ¬ bZ (b7 S.toNat 64) (-X) ≤ E ∧ ¬ wq (mag X S) ≤ E:=by
 have e1 : b7 S.toNat 64 = S.toNat * 18446744073709551616:=by
  unfold b7
  rw [show (2 : Nat) ^ (64 : Int).toNat = 18446744073709551616 by decide,Nat.mod_eq_of_lt (by omega)]
 have e2 : bZ (b7 S.toNat 64) (-X) = S.toNat * 18446744073709551616:=by
  unfold bZ
  rw [e1,show (-X).toNat = 0 by omega,Nat.pow_zero,Nat.div_one]
 have e3:=(jC (S:=S) (show 0 ≤ X by omega)).1
 obtain ⟨j,hj⟩ : ∃ j,X.toNat = j + 64:=⟨X.toNat - 64,by omega⟩
 rw [hj,Nat.pow_add,← Nat.mul_assoc] at e3
 have hp:=Nat.le_mul_of_pos_right S.toNat (Nat.two_pow_pos j)
 rw [e2,e3]
 generalize S.toNat * 2 ^ j = y at *
 have hS : 1 ≤ S.toNat:=by omega
 exact ⟨by unfold W2; omega,fun E hE => ⟨by omega,by omega⟩⟩
theorem ar0 {X S : Int} (h : ¬ 64 < X) (x0 : -1200 ≤ X) (s0 : 0 ≤ S) (s1 : S < 9007199254740992) : bZ (b7 S.toNat X) (-X) = wq (mag X S):=by
 by_cases hX : 0 ≤ X
 ·rw [(jC (S:=S) hX).1]
  have hp : 2 ^ X.toNat ≤ 2 ^ 64:=Nat.pow_le_pow_right (by omega) (by omega)
  have hm:=Nat.mul_le_mul (show S.toNat ≤ 9007199254740992 by omega) hp
  unfold bZ b7
  rw [show (-X).toNat = 0 by omega,Nat.pow_zero,Nat.div_one,Nat.mod_eq_of_lt (by omega)]
 ·rw [(ma (-X).toNat (by omega) (X:=X) (S:=S) (by omega)).1]
  unfold bZ b7
  rw [show X.toNat = 0 by omega,Nat.pow_zero,Nat.mul_one,Nat.mod_eq_of_lt (show S.toNat < 340282366920938463463374607431768211456 by omega)]
theorem acv {X : Int} (h0 : -1200 ≤ X) (h1 : X ≤ 1100) : IntKind.i64.wrap (-X) = -X:=aj (by omega) (by omega)
theorem tg {w e f P Q b X S : Int} (k : Kd w e f P Q b) (n : Bool) (h : Prt f P Q b 1 X S) :
 ∃ a : Nat,W2 a ∧ Ct 247 #[.agg #[.bool n,.int .i64 1,.int .i64 X,.int .u64 S]] (.agg #[.int .u64 (hi a),.int .u64 (lo a)]) ∧ ∀ E : Nat,E < 18446744073709551616 → (a ≤ E ∧ a = wq (mag X S) ∨ ¬ a ≤ E ∧ ¬ wq (mag X S) ≤ E):=by
 obtain ⟨x0,x1,s0,-,s2⟩:=h.in k
 have sp : 0 < S:=by unfold Prt at h; omega
 have HO:=ab (fun W => fG S W s0 (by omega))
 have hv:=en s0 (show S < 18446744073709551616 by omega)
 by_cases g : 64 < X
 ·obtain ⟨h1,h2⟩:=arz g sp s2
  refine ⟨_,h1,ab (fun W => xw W HO g (ab (fun W => fR S.toNat 64 W hv)) (acv x0 x1) (ab (fun W => iQ _ (-X) W (rl _ _)))),fun E hE => Or.inr (h2 E hE)⟩
 ·have h1:=ar0 g x0 s0 s2
  refine ⟨_,zu (-X) (rl S.toNat X),ab (fun W => xy W HO g (ab (fun W => fR S.toNat X W hv)) (acv x0 x1) (ab (fun W => iQ _ (-X) W (rl _ _)))),fun E hE => ?_⟩
  rw [h1]
  by_cases q : wq (mag X S) ≤ E
  ·exact Or.inl ⟨q,rfl⟩
  ·exact Or.inr ⟨q,q⟩
theorem acw {w e f P Q b : Int} (h : Wd w e f P Q b) : Ct 245 #[.int .i64 w] (.bool (f != 0)):=by
 have hk:=fun W => aun W (ab (fun W => dS h W))
 rw [show (e != 0) = (f != 0) by rcases h with ⟨-,rfl,rfl,-⟩ | ⟨-,rfl,rfl,-⟩ | ⟨-,rfl,rfl,-⟩ <;> decide] at hk
 exact ab hk
theorem th {w e f P Q b x : Int} (k : Kd w e f P Q b) : aU f P Q x = x % (2 * (P * Q)):=by unfold aU; rw [if_neg k.f0]
theorem qJ {w e f P Q b : Int} (k : Kd w e f P Q b) (s : Bool) : Ct 246 #[.int .i64 w,.bool s] (.tuple #[.int .u64 (tf (P * Q) s),.int .u64 (mg (P * Q) s)]):=by
 have HC:=ab (fun W => cw 18446744073709551615 k.wd W (by omega) (by omega))
 rw [th k] at HC
 have h:=fO k
 have hm : 18446744073709551615 % (2 * (P * Q)) = 2 * (P * Q) - 1:=by
  rcases h with ⟨-,h⟩ | ⟨-,h⟩ <;> rw [h] <;> decide
 rw [hm] at HC
 generalize P * Q = H at *
 cases s
 ·exact ab (fun W => acy W HC)
 ·exact ab (fun W => acx W HC (show (2 * H - 1) / 2 = H - 1 by omega) (by show IntKind.u64.wrap (2 * H - 1 - (H - 1)) = H; rw [show 2 * H - 1 - (H - 1) = H by omega,IntKind.wrap_u64]; exact Int.emod_eq_of_lt (by omega) (by omega)))
theorem ai2 {H x : Int} (h : H = 2147483648 ∨ H = 9223372036854775808) : IntKind.u64.wrap (-x) % (2 * H) = -x % (2 * H):=by
 rw [IntKind.wrap_u64]
 rcases h with rfl | rfl <;> omega
theorem ai3 (x : Int) : 0 ≤ IntKind.u64.wrap x ∧ IntKind.u64.wrap x < 18446744073709551616:=by
 rw [IntKind.wrap_u64]
 omega
theorem xv {w e f P Q b x : Int} (k : Kd w e f P Q b) (n : Bool) : Ct 248 #[.int .i64 w,.bool n,.int .u64 x] (.int .u64 (sgd (P * Q) n x)):=by
 have h : P * Q = 2147483648 ∨ P * Q = 9223372036854775808:=by have:=fO k; omega
 cases n
 ·exact ab (fun W => an3 W)
 ·obtain ⟨h0,h1⟩:=ai3 (-x)
  have HC:=ab (fun W => cw (IntKind.u64.wrap (-x)) k.wd W h0 h1)
  rw [th k,ai2 h] at HC
  exact ab (fun W => an2 W rfl HC)
theorem mr {w k e' f' P' Q' b' e f P Q b x X S K : Int} {n : Bool} (kw : Kd w e f P Q b) (kk : Kd k e' f' P' Q' b') (s : Bool) (h : Prt f P Q b K X S) (HO : Ct 15 #[.int .i64 w,.int .u64 x] (.agg #[.bool n,.int .i64 K,.int .i64 X,.int .u64 S])) :
 Ct 168 #[.int .i64 w,.int .i64 k,.int .u64 x,.bool s] (.tuple #[.int .u64 (chV (P' * Q') s n K (wq (mag X S))),.int .i64 (chT (P' * Q') s n K (wq (mag X S)))]):=by
 have HK:=acw kk.wd
 rw [dj kk.f0] at HK
 have HE:=qJ kk s
 obtain ⟨e0,e1⟩:=kP kk s n
 have hK : K = 0 ∨ K = 1 ∨ K = 2 ∨ K = 3:=by unfold Prt at h; omega
 rcases hK with rfl | rfl | rfl | rfl
 ·rw [h.mag0 (by decide),uQ]
  have hT : chT (P' * Q') s n 0 0 = 0:=by unfold chT; rw [if_neg (by decide),if_neg (by decide),if_pos (by omega)]
  have hV : chV (P' * Q') s n 0 0 = 0:=by
   unfold chV
   rw [if_neg (by decide),if_neg (by decide),if_pos (by omega)]
   unfold sgd
   cases n <;> simp
  rw [hT,hV]
  cases n
  ·exact ab (fun W => gI W HK HO HE)
  ·exact ab (fun W => mh W HK HO HE)
 ·obtain ⟨a,w2,HM,ha⟩:=tg kw n h
  obtain ⟨E,hE⟩:=Int.eq_ofNat_of_zero_le e0
  have hv:=ha E (by omega)
  have HF:=ab (fun W => fG (dZ (P' * Q') s n) W e0 e1)
  have HC:=ab (fun W => tO a E W)
  have HS:=xv (x:=lo a) kk n
  rw [hE,Int.toNat_natCast] at HF
  rcases hv with ⟨g,h1⟩ | ⟨g,h1⟩
  ·rw [← h1,anx (by omega),anz (by omega)]
   have hc : aK a E ≤ 0:=by unfold aK; split <;> (try split) <;> omega
   have hl : lo a = (a : Int):=by unfold lo; omega
   rw [hl] at HS
   rw [hl] at HM HC
   cases n
   ·rw [show dZ (P' * Q') s false = mg (P' * Q') s from rfl] at hE
    rw [← hE] at HF
    exact ab (fun W => ov W HK HO HE HM HF HC hc HS)
   ·rw [show dZ (P' * Q') s true = tf (P' * Q') s from rfl] at hE
    rw [← hE] at HF
    exact ab (fun W => ot W HK HO HE HM HF HC hc HS)
  ·rw [an0 (by omega),an1 (by omega)]
   have hc : ¬ aK a E ≤ 0:=by unfold aK; split <;> (try split) <;> omega
   cases n
   ·rw [show dZ (P' * Q') s false = mg (P' * Q') s from rfl] at hE ⊢
    rw [← hE] at HF
    exact ab (fun W => ow W HK HO HE HM HF HC hc)
   ·rw [show dZ (P' * Q') s true = tf (P' * Q') s from rfl] at hE ⊢
    rw [← hE] at HF
    exact ab (fun W => ou W HK HO HE HM HF HC hc)
 ·have hT : chT (P' * Q') s n 2 (wq (mag X S)) = 3:=by unfold chT; rw [if_neg (by decide),if_pos rfl]
  have hV : chV (P' * Q') s n 2 (wq (mag X S)) = dZ (P' * Q') s n:=by unfold chV; rw [if_neg (by decide),if_pos rfl]
  rw [hT,hV]
  cases n
  ·exact ab (fun W => mw W HK HO HE)
  ·exact ab (fun W => mu W HK HO HE)
 ·have hT : chT (P' * Q') s n 3 (wq (mag X S)) = 4:=by unfold chT; rw [if_pos rfl]
  have hV : chV (P' * Q') s n 3 (wq (mag X S)) = 0:=by unfold chV; rw [if_pos rfl]
  rw [hT,hV]
  cases n
  ·exact ab (fun W => mv W HK HO HE)
  ·exact ab (fun W => ms W HK HO HE)
def trN (f P Q b H : Int) (s : Bool) (x : Int) : Int:=chT H s (oN P Q x) (oK P Q x) (wq (oM f P Q b x))
def vaN (f P Q b H : Int) (s : Bool) (x : Int) : Int:=chV H s (oN P Q x) (oK P Q x) (wq (oM f P Q b x))
theorem kl {w e f P Q b k e' f' P' Q' b' x : Int} (kw : Kd w e f P Q b) (kk : Kd k e' f' P' Q' b') (s : Bool) (x0 : 0 ≤ x) (x1 : x < 18446744073709551616) :
 Ct 168 #[.int .i64 w,.int .i64 k,.int .u64 x,.bool s] (.tuple #[.int .u64 (vaN f P Q b (P' * Q') s x),.int .i64 (trN f P Q b (P' * Q') s x)]):=by
 obtain ⟨X,S,ho,hp,hm⟩:=aL kw x
 have:=mr kw kk s hp (ab (fun W => bj x kw.wd W x0 x1 ho))
 rw [hm] at this
 exact this
def tvN (f P Q b H : Int) (s : Bool) (x : Int) : Int:=if trN f P Q b H s x = 0 then vaN f P Q b H s x else 0
theorem ex {w e f P Q b k e' f' P' Q' b' x : Int} (kw : Kd w e f P Q b) (kk : Kd k e' f' P' Q' b') (s : Bool) (x0 : 0 ≤ x) (x1 : x < 18446744073709551616) :
 Ct 92 #[.int .i64 w,.int .i64 k,.int .u64 x,.bool s] (.tuple #[.int .u64 (tvN f P Q b (P' * Q') s x),.int .i64 (trN f P Q b (P' * Q') s x)]):=by
 have HC:=kl kw kk s x0 x1
 unfold tvN
 generalize trN f P Q b (P' * Q') s x = t at *
 by_cases h : t = 0
 ·subst h
  rw [if_pos rfl]
  exact ab (fun W => acz W HC)
 ·rw [if_neg h]
  exact ab (fun W => an4 W HC (dj h))
theorem fz {w e f P Q b k e' f' P' Q' b' x : Int} (kw : Kd w e f P Q b) (kk : Kd k e' f' P' Q' b') (s : Bool) (x0 : 0 ≤ x) (x1 : x < 18446744073709551616) :
 Ct 98 #[.int .i64 w,.int .i64 k,.int .u64 x,.bool s] (.int .u64 (vaN f P Q b (P' * Q') s x)):=ab (fun W => aj9 W (kl kw kk s x0 x1))
end Go.Proofs.YtpbgpdmffejdgaaGreatDoor
