/- MNuH, MRbV, MWhN, MWhO, MNuG, MWhP, MRbW, MNuP, MChSw, MLawA. -/
import Derived.Test.YtpbgpdmffejdgaaGreatDoorG01
import Derived.Test.YtpbgpdmffejdgaaGreatDoorG13
import Derived.Test.YtpbgpdmffejdgaaGreatDoorG14
import Derived.Test.YtpbgpdmffejdgaaGreatDoorG19
import Derived.Test.YtpbgpdmffejdgaaGreatDoorG20
import Derived.Test.YtpbgpdmffejdgaaGreatDoorG25
import Derived.Test.YtpbgpdmffejdgaaGreatDoorG26
import Derived.Test.YtpbgpdmffejdgaaGreatDoorG30
import Derived.Test.YtpbgpdmffejdgaaGreatDoorG32
import Derived.Test.YtpbgpdmffejdgaaGreatDoorG34
import Derived.Test.YtpbgpdmffejdgaaGreatDoorG35
import Derived.Test.YtpbgpdmffejdgaaGreatDoorG36
import Derived.Test.YtpbgpdmffejdgaaGreatDoorG39
import Derived.Test.YtpbgpdmffejdgaaGreatDoorG40
import Derived.Test.YtpbgpdmffejdgaaGreatDoorG42
import Derived.Test.YtpbgpdmffejdgaaGreatDoorG43
import Derived.Test.YtpbgpdmffejdgaaGreatDoorG44
import Derived.Test.YtpbgpdmffejdgaaGreatDoorG45
import Derived.Test.YtpbgpdmffejdgaaGreatDoorG46
namespace Go.Proofs.YtpbgpdmffejdgaaGreatDoor
open Go.RowKit
theorem adq {op w a b : Int} {n : Nat} {H M : Int} (k : Wm w n H M) (ha : Rg a) (hb : Rg b) (h : op - 69 = 0 ∧ w = 32 ∨ op - 80 = 0 ∧ w = 64) : Ap op a b (if ((a % M) == 0) then 1 else 0) 0:=
 dI k ha hb h (by decide) (by decide) (ak9)
theorem aku {op w a b : Int} {n : Nat} {H M : Int} (k : Wm w n H M) (ha : Rg a) (hb : Rg b) (h : op - 69 = 1 ∧ w = 32 ∨ op - 80 = 1 ∧ w = 64) : Ap op a b (if ((a % M) == (b % M)) then 1 else 0) 0:=
 dI k ha hb h (by decide) (by decide) (ala)
theorem akv {op w a b : Int} {n : Nat} {H M : Int} (k : Wm w n H M) (ha : Rg a) (hb : Rg b) (h : op - 69 = 2 ∧ w = 32 ∨ op - 80 = 2 ∧ w = 64) : Ap op a b (if ((a % M) != (b % M)) then 1 else 0) 0:=
 dI k ha hb h (by decide) (by decide) (alb)
theorem adr {op w a b : Int} {n : Nat} {H M : Int} (k : Wm w n H M) (ha : Rg a) (hb : Rg b) (h : op - 69 = 3 ∧ w = 32 ∨ op - 80 = 3 ∧ w = 64) : Ap op a b (if decide (sgv H M (a % M) < sgv H M (b % M)) then 1 else 0) 0:=
 dI k ha hb h (by decide) (by decide) (ny (Or.inl ⟨rfl,(kG k _ _).m⟩))
theorem ads {op w a b : Int} {n : Nat} {H M : Int} (k : Wm w n H M) (ha : Rg a) (hb : Rg b) (h : op - 69 = 4 ∧ w = 32 ∨ op - 80 = 4 ∧ w = 64) : Ap op a b (if decide (((a % M) % M) < ((b % M) % M)) then 1 else 0) 0:=
 dI k ha hb h (by decide) (by decide) (ny (Or.inr (Or.inl ⟨rfl,(kF k (k.rg a) (k.rg b)).m⟩)))
theorem adt {op w a b : Int} {n : Nat} {H M : Int} (k : Wm w n H M) (ha : Rg a) (hb : Rg b) (h : op - 69 = 5 ∧ w = 32 ∨ op - 80 = 5 ∧ w = 64) : Ap op a b (if decide (sgv H M (b % M) < sgv H M (a % M)) then 1 else 0) 0:=
 dI k ha hb h (by decide) (by decide) (ny (Or.inr (Or.inr (Or.inl ⟨rfl,(kG k _ _).m⟩))))
theorem adu {op w a b : Int} {n : Nat} {H M : Int} (k : Wm w n H M) (ha : Rg a) (hb : Rg b) (h : op - 69 = 6 ∧ w = 32 ∨ op - 80 = 6 ∧ w = 64) : Ap op a b (if decide (((b % M) % M) < ((a % M) % M)) then 1 else 0) 0:=
 dI k ha hb h (by decide) (by decide) (ny (Or.inr (Or.inr (Or.inr (⟨rfl,(kF k (k.rg b) (k.rg a)).m⟩)))))
theorem adv {op w a b : Int} {n : Nat} {H M : Int} (k : Wm w n H M) (ha : Rg a) (hb : Rg b) (h : op - 69 = 7 ∧ w = 32 ∨ op - 80 = 7 ∧ w = 64) : Ap op a b (if (!decide (sgv H M (b % M) < sgv H M (a % M))) then 1 else 0) 0:=
 dI k ha hb h (by decide) (by decide) (nz (Or.inl ⟨rfl,(kG k _ _).m⟩))
theorem adw {op w a b : Int} {n : Nat} {H M : Int} (k : Wm w n H M) (ha : Rg a) (hb : Rg b) (h : op - 69 = 8 ∧ w = 32 ∨ op - 80 = 8 ∧ w = 64) : Ap op a b (if (!decide (((b % M) % M) < ((a % M) % M))) then 1 else 0) 0:=
 dI k ha hb h (by decide) (by decide) (nz (Or.inr (Or.inl ⟨rfl,(kF k (k.rg b) (k.rg a)).m⟩)))
theorem adx {op w a b : Int} {n : Nat} {H M : Int} (k : Wm w n H M) (ha : Rg a) (hb : Rg b) (h : op - 69 = 9 ∧ w = 32 ∨ op - 80 = 9 ∧ w = 64) : Ap op a b (if (!decide (sgv H M (a % M) < sgv H M (b % M))) then 1 else 0) 0:=
 dI k ha hb h (by decide) (by decide) (nz (Or.inr (Or.inr (Or.inl ⟨rfl,(kG k _ _).m⟩))))
theorem ady {op w a b : Int} {n : Nat} {H M : Int} (k : Wm w n H M) (ha : Rg a) (hb : Rg b) (h : op - 69 = 10 ∧ w = 32 ∨ op - 80 = 10 ∧ w = 64) : Ap op a b (if (!decide (((a % M) % M) < ((b % M) % M))) then 1 else 0) 0:=
 dI k ha hb h (by decide) (by decide) (nz (Or.inr (Or.inr (Or.inr (⟨rfl,(kF k (k.rg a) (k.rg b)).m⟩)))))
theorem tH {op w a b : Int} {n : Nat} {H M : Int} (k : Wm w n H M) (ha : Rg a) (hb : Rg b) (h : op - 103 = 3 ∧ w = 32 ∨ op - 121 = 3 ∧ w = 64) : Ap op a b (((a % M) + (b % M)) % M) 0:=
 aX k ha hb h (by decide) (by decide) (eG (Or.inr (Or.inr (Or.inr (Or.inl ⟨rfl,gR (Or.inr (Or.inr (Or.inr (Or.inl ⟨rfl,(ys k _ _).m⟩))))⟩)))))
theorem adz {op w a b : Int} {n : Nat} {H M : Int} (k : Wm w n H M) (ha : Rg a) (hb : Rg b) (h : op - 103 = 4 ∧ w = 32 ∨ op - 121 = 4 ∧ w = 64) : Ap op a b (((a % M) - (b % M)) % M) 0:=
 aX k ha hb h (by decide) (by decide) (eG (Or.inr (Or.inr (Or.inr (Or.inr (Or.inl ⟨rfl,gR (Or.inr (Or.inr (Or.inr (Or.inr (Or.inl ⟨rfl,(yt k _ _).m⟩)))))⟩))))))
theorem ad0 {op w a b : Int} {n : Nat} {H M : Int} (k : Wm w n H M) (ha : Rg a) (hb : Rg b) (h : op - 103 = 5 ∧ w = 32 ∨ op - 121 = 5 ∧ w = 64) : Ap op a b (((a % M) * (b % M)) % M) 0:=
 aX k ha hb h (by decide) (by decide) (eG (Or.inr (Or.inr (Or.inr (Or.inr (Or.inr (Or.inl ⟨rfl,gR (Or.inr (Or.inr (Or.inr (Or.inr (Or.inr (⟨rfl,(yu k _ _).m⟩))))))⟩)))))))
theorem ad1 {op w a b : Int} {n : Nat} {H M : Int} (k : Wm w n H M) (ha : Rg a) (hb : Rg b) (h : op - 103 = 10 ∧ w = 32 ∨ op - 121 = 10 ∧ w = 64) : Ap op a b (bits .and .u64 (a % M) (b % M)) 0:=
 aX k ha hb h (by decide) (by decide) (eG (Or.inr (Or.inr (Or.inr (Or.inr (Or.inr (Or.inr (Or.inl ⟨rfl,aft⟩))))))))
theorem akw {op w a b : Int} {n : Nat} {H M : Int} (k : Wm w n H M) (ha : Rg a) (hb : Rg b) (h : op - 103 = 11 ∧ w = 32 ∨ op - 121 = 11 ∧ w = 64) : Ap op a b (bits .or .u64 (a % M) (b % M)) 0:=
 aX k ha hb h (by decide) (by decide) (eG (Or.inr (Or.inr (Or.inr (Or.inr (Or.inr (Or.inr (Or.inr (Or.inl ⟨rfl,afu⟩)))))))))
theorem ad2 {op w a b : Int} {n : Nat} {H M : Int} (k : Wm w n H M) (ha : Rg a) (hb : Rg b) (h : op - 103 = 12 ∧ w = 32 ∨ op - 121 = 12 ∧ w = 64) : Ap op a b (bits .xor .u64 (a % M) (b % M)) 0:=
 aX k ha hb h (by decide) (by decide) (eG (Or.inr (Or.inr (Or.inr (Or.inr (Or.inr (Or.inr (Or.inr (Or.inr (⟨rfl,afv⟩))))))))))
theorem ad3 {op w a b : Int} {n : Nat} {H M : Int} (k : Wm w n H M) (ha : Rg a) (hb : Rg b) {A : Nat} (hA : a % M % M = (A : Int)) (h : op - 103 = 2 ∧ w = 32 ∨ op - 121 = 2 ∧ w = 64) : Ap op a b ((pop n A : Nat) : Int) 0:=
 aX k ha hb h (by decide) (by decide) (eG (Or.inr (Or.inr (Or.inl ⟨rfl,gR (Or.inr (Or.inr (Or.inl ⟨rfl,(aei k hA (k.rg a)).m⟩)))⟩))))
theorem ad4 {op w a b : Int} {n : Nat} {H M : Int} (k : Wm w n H M) (ha : Rg a) (hb : Rg b) {A : Nat} (hA : a % M % M = (A : Int)) (hl : A < 2 ^ n) (h : op - 103 = 0 ∧ w = 32 ∨ op - 121 = 0 ∧ w = 64) : Ap op a b ((n - Go.bitLen A : Nat) : Int) 0:=
 aX k ha hb h (by decide) (by decide) (eG (Or.inl ⟨rfl,gR (Or.inl ⟨rfl,(app k (k.rg a) hA hl).m⟩)⟩))
theorem ad5 {op w a b : Int} {n : Nat} {H M : Int} (k : Wm w n H M) (ha : Rg a) (hb : Rg b) {A : Nat} (hA : a % M = (A : Int)) (hz : A < 18446744073709551616) (h : op - 103 = 1 ∧ w = 32 ∨ op - 121 = 1 ∧ w = 64) : Ap op a b ((min n (Lib.ctz 64 A) : Nat) : Int) 0:=
 aX k ha hb h (by decide) (by decide) (eG (Or.inr (Or.inl ⟨rfl,gR (Or.inr (Or.inl ⟨rfl,(by have:=apq k hz; rw [← hA] at this; exact this)⟩))⟩)))
theorem ad6 {op w a b : Int} {n : Nat} {H M : Int} (k : Wm w n H M) (ha : Rg a) (hb : Rg b) {A : Nat} (hA : a % M % M = (A : Int)) {s : Nat} (hs : b % M % w = (s : Int)) (h : op - 103 = 13 ∧ w = 32 ∨ op - 121 = 13 ∧ w = 64) : Ap op a b ((ik A n s : Nat) : Int) 0:=
 aX k ha hb h (by decide) (by decide) (iL (Or.inl ⟨rfl,lk (Or.inl ⟨rfl,(nl k hA hs (k.rg b)).m⟩)⟩))
theorem ad7 {op w a b : Int} {n : Nat} {H M : Int} (k : Wm w n H M) (ha : Rg a) (hb : Rg b) {A : Nat} (hA : a % M % M = (A : Int)) {s : Nat} (hs : b % M % w = (s : Int)) (h : op - 103 = 14 ∧ w = 32 ∨ op - 121 = 14 ∧ w = 64) : Ap op a b ((ld A n s : Nat) : Int) 0:=
 aX k ha hb h (by decide) (by decide) (iL (Or.inr (Or.inl ⟨rfl,lk (Or.inr (Or.inl ⟨rfl,(tJ k hA hs (k.rg b)).m⟩))⟩)))
theorem ad8 {op w a b : Int} {n : Nat} {H M : Int} (k : Wm w n H M) (ha : Rg a) (hb : Rg b) {A : Nat} (hA : a % M % M = (A : Int)) {s : Nat} (hs : b % M % w = (s : Int)) (h : op - 103 = 15 ∧ w = 32 ∨ op - 121 = 15 ∧ w = 64) : Ap op a b ((lc A s : Nat) : Int) 0:=
 aX k ha hb h (by decide) (by decide) (iL (Or.inr (Or.inr (Or.inl ⟨rfl,lk (Or.inr (Or.inr (Or.inl ⟨rfl,(nm k hA hs (k.rg b) (k.rg a)).m⟩)))⟩))))
theorem yf {op w a b : Int} {n : Nat} {H M : Int} (k : Wm w n H M) (ha : Rg a) (hb : Rg b) {A : Nat} (hA : a % M % M = (A : Int)) {s : Nat} (hs : b % M % w = (s : Int)) (h : op - 103 = 16 ∧ w = 32 ∨ op - 121 = 16 ∧ w = 64) : Ap op a b ((le A n s : Nat) : Int) 0:=
 aX k ha hb h (by decide) (by decide) (iL (Or.inr (Or.inr (Or.inr (Or.inl ⟨rfl,lk (Or.inr (Or.inr (Or.inr (Or.inl ⟨rfl,(oS k hA hs (k.rg b) (k.rg a)).m⟩))))⟩)))))
theorem yg {op w a b : Int} {n : Nat} {H M : Int} (k : Wm w n H M) (ha : Rg a) (hb : Rg b) {A : Nat} (hA : a % M % M = (A : Int)) {s : Nat} (hs : b % M % w = (s : Int)) (h : op - 103 = 17 ∧ w = 32 ∨ op - 121 = 17 ∧ w = 64) : Ap op a b ((le A n ((n - s) % n) : Nat) : Int) 0:=
 aX k ha hb h (by decide) (by decide) (iL (Or.inr (Or.inr (Or.inr (Or.inr (⟨rfl,lk (Or.inr (Or.inr (Or.inr (Or.inr (⟨rfl,(yw k hA hs (k.rg a)).m⟩)))))⟩))))))
theorem yh {op w a b : Int} {n : Nat} {H M : Int} (k : Wm w n H M) (ha : Rg a) (hb : Rg b) (g : ¬ sgv H M (b % M) = 0) (go : ¬ (sgv H M (a % M) = -H ∧ sgv H M (b % M) = -1)) (h : op - 103 = 6 ∧ w = 32 ∨ op - 121 = 6 ∧ w = 64) : Ap op a b ((sgv H M (a % M)).tdiv (sgv H M (b % M)) % M) 0:=
 aX k ha hb h (by decide) (by decide) (d6 (Or.inl ⟨rfl,(zc k _ _ g go).m⟩))
theorem qR {op w a b : Int} {n : Nat} {H M : Int} (k : Wm w n H M) (ha : Rg a) (hb : Rg b) (g : sgv H M (b % M) = 0) (h : op - 103 = 6 ∧ w = 32 ∨ op - 121 = 6 ∧ w = 64) : Ap op a b 0 2:=
 aX k ha hb h (by decide) (by decide) (d6 (Or.inl ⟨rfl,(alc k _ _ g).m⟩))
theorem qS {op w a b : Int} {n : Nat} {H M : Int} (k : Wm w n H M) (ha : Rg a) (hb : Rg b) (g : sgv H M (a % M) = -H) (g' : sgv H M (b % M) = -1) (h : op - 103 = 6 ∧ w = 32 ∨ op - 121 = 6 ∧ w = 64) : Ap op a b 0 3:=
 aX k ha hb h (by decide) (by decide) (d6 (Or.inl ⟨rfl,(ald k _ _ g g').m⟩))
theorem yi {op w a b : Int} {n : Nat} {H M : Int} (k : Wm w n H M) (ha : Rg a) (hb : Rg b) (g : ¬ sgv H M (b % M) = 0) (go : ¬ (sgv H M (a % M) = -H ∧ sgv H M (b % M) = -1)) (h : op - 103 = 8 ∧ w = 32 ∨ op - 121 = 8 ∧ w = 64) : Ap op a b ((sgv H M (a % M)).tmod (sgv H M (b % M)) % M) 0:=
 aX k ha hb h (by decide) (by decide) (d6 (Or.inr (Or.inr (Or.inl ⟨rfl,(zd k _ _ g go).m⟩))))
theorem qT {op w a b : Int} {n : Nat} {H M : Int} (k : Wm w n H M) (ha : Rg a) (hb : Rg b) (g : sgv H M (b % M) = 0) (h : op - 103 = 8 ∧ w = 32 ∨ op - 121 = 8 ∧ w = 64) : Ap op a b 0 2:=
 aX k ha hb h (by decide) (by decide) (d6 (Or.inr (Or.inr (Or.inl ⟨rfl,(ale k _ _ g).m⟩))))
theorem qU {op w a b : Int} {n : Nat} {H M : Int} (k : Wm w n H M) (ha : Rg a) (hb : Rg b) (g : sgv H M (a % M) = -H) (g' : sgv H M (b % M) = -1) (h : op - 103 = 8 ∧ w = 32 ∨ op - 121 = 8 ∧ w = 64) : Ap op a b 0 0:=
 aX k ha hb h (by decide) (by decide) (d6 (Or.inr (Or.inr (Or.inl ⟨rfl,(afx k _ _ g g').m⟩))))
theorem yj {op w a b : Int} {n : Nat} {H M : Int} (k : Wm w n H M) (ha : Rg a) (hb : Rg b) (g : ¬ ((b % M) % M) = 0) (h : op - 103 = 7 ∧ w = 32 ∨ op - 121 = 7 ∧ w = 64) : Ap op a b (((a % M) % M) / ((b % M) % M)) 0:=
 aX k ha hb h (by decide) (by decide) (d6 (Or.inr (Or.inl ⟨rfl,(ze k (k.rg a) (k.rg b) g).m⟩)))
theorem kV {op w a b : Int} {n : Nat} {H M : Int} (k : Wm w n H M) (ha : Rg a) (hb : Rg b) (g : ((b % M) % M) = 0) (h : op - 103 = 7 ∧ w = 32 ∨ op - 121 = 7 ∧ w = 64) : Ap op a b 0 2:=
 aX k ha hb h (by decide) (by decide) (d6 (Or.inr (Or.inl ⟨rfl,(alf k _ (k.rg b) g).m⟩)))
theorem yk {op w a b : Int} {n : Nat} {H M : Int} (k : Wm w n H M) (ha : Rg a) (hb : Rg b) (g : ¬ ((b % M) % M) = 0) (h : op - 103 = 9 ∧ w = 32 ∨ op - 121 = 9 ∧ w = 64) : Ap op a b (((a % M) % M) % ((b % M) % M)) 0:=
 aX k ha hb h (by decide) (by decide) (d6 (Or.inr (Or.inr (Or.inr (⟨rfl,(zf k (k.rg a) (k.rg b) g).m⟩)))))
theorem qV {op w a b : Int} {n : Nat} {H M : Int} (k : Wm w n H M) (ha : Rg a) (hb : Rg b) (g : ((b % M) % M) = 0) (h : op - 103 = 9 ∧ w = 32 ∨ op - 121 = 9 ∧ w = 64) : Ap op a b 0 2:=
 aX k ha hb h (by decide) (by decide) (d6 (Or.inr (Or.inr (Or.inr (⟨rfl,(alg k _ (k.rg b) g).m⟩)))))
open Go.Proofs.YtpbgpdmffejdgaaGreatDoor.W
def Un (op w a b M : Int) (s : ByteArray) : Prop:=∃ v t,Ap op a b v t ∧ Ct 44 #[.string s,.int .i64 w,.int .u64 (a % M),.int .u64 (b % M)] (.tuple #[.int .u64 v,.int .i64 t])
theorem mm {w H M : Int} {n : Nat} (k : Wm w n H M) (a : Int) : a % M % M = a % M:=Int.emod_eq_of_lt (k.cut a).1 (k.cut a).2
theorem ctu {f : Nat} {ar : Array Value} {v v' : Int} (h : Ct f ar (.int .u64 v)) (e : v = v') : Ct f ar (.int .u64 v'):=e ▸ h
theorem cN {z y : Bool} (h : z = y) : tru z = if y then 1 else 0:=by subst h; cases z <;> rfl
theorem Wm.w {w H M : Int} {n : Nat} (k : Wm w n H M) : w = 32 ∨ w = 64:=by rcases k with ⟨h,_⟩ | ⟨h,_⟩; exact Or.inl h; exact Or.inr h
theorem bQ {w H M : Int} {n : Nat} (k : Wm w n H M) {a : Int} (ha : Rg a) : rn w a:=by
 obtain ⟨A,hA,-⟩:=k.nat a
 have h:=fb k ha hA
 rw [← k.two.2.2.1] at h
 exact ab (fun W => (aa h W).mono fun e w' ⟨s,h1,_,h3⟩ => ⟨s,h1,h3⟩)
theorem kU {w H M : Int} {n : Nat} (k : Wm w n H M) {a t : Int} {A : Nat} (hr : Rg a) (ha : a % M = (A : Int)) (t0 : -(n : Int) < t) (t1 : t < n) (rd inn : Bool) : Ct 198 #[.int .i64 w,.int .u64 a,.int .i64 t,.bool rd,.bool inn] (.int .u64 ((bX (dk A n t rd inn) n : Nat) : Int)):=by
 obtain ⟨-,k2,k3,k4,k5,-,k7⟩:=k.two
 have HC:=bR k hr
 have hA : A < 18446744073709551616:=by have:=(k.cut a).2; omega
 rw [ha,k3] at HC
 rw [k3]
 exact alz k5 (by omega) t0 t1 (zp k5 (by omega) hA HC) (zq k5)
theorem ape {w H M : Int} {n : Nat} (k : Wm w n H M) {a : Int} {A : Nat} (hr : Rg a) (ha : a % M = (A : Int)) : Ct 116 #[.int .i64 w,.int .u64 a] (.bool (A.testBit (n - 1))):=by
 obtain ⟨e,f,P,Q,b,kd,hH⟩:=k.kd
 have h:=fun W => dq a kd W hr.1 hr.2
 have hA : A < 2 ^ n:=by
  obtain ⟨-,k2,-⟩:=k.two
  have:=(k.cut a).2
  omega
 rw [show sg P Q a = A.testBit (n - 1) by
  rw [nv hA (by have:=k.two; omega)]
  unfold sg
  rw [hH]
  rcases k with ⟨rfl,rfl,rfl,rfl⟩ | ⟨rfl,rfl,rfl,rfl⟩
  ·by_cases g : 2 ^ (32 - 1) ≤ A
   ·rw [decide_eq_true g,beq_iff_eq]; omega
   ·rw [decide_eq_false g,beq_eq_false_iff_ne]; omega
  ·by_cases g : 2 ^ (64 - 1) ≤ A
   ·rw [decide_eq_true g,beq_iff_eq]; omega
   ·rw [decide_eq_false g,beq_eq_false_iff_ne]; omega] at h
 exact ab h
theorem xX {op w a b H M : Int} {n : Nat} (k : Wm w n H M) (ha : Rg a) (hb : Rg b) (h : op - 69 = 0 ∧ w = 32 ∨ op - 80 = 0 ∧ w = 64) : Un op w a b M ⟨#[101,113,122]⟩:=
 ⟨_,_,adq k ha hb h,ez (Or.inl rfl) (ey k.w (k.rg b).1 (k.rg b).2 (Or.inr (Or.inr (Or.inr (Or.inr (Or.inr (Or.inr (Or.inr (Or.inr (Or.inr (Or.inr (Or.inr (⟨(Or.inl rfl),(ctu (gv (bQ k (k.rg a)) (bQ k (k.rg b)) (Or.inl ⟨rfl,rfl⟩)) (cN (by rw [Bool.eq_iff_iff]; simp)))⟩)))))))))))))⟩
theorem ajf {op w a b H M : Int} {n : Nat} (k : Wm w n H M) (ha : Rg a) (hb : Rg b) (h : op - 69 = 1 ∧ w = 32 ∨ op - 80 = 1 ∧ w = 64) : Un op w a b M ⟨#[101,113]⟩:=
 ⟨_,_,aku k ha hb h,ez (Or.inr (Or.inl rfl)) (ey k.w (k.rg b).1 (k.rg b).2 (Or.inr (Or.inr (Or.inr (Or.inr (Or.inr (Or.inr (Or.inr (Or.inr (Or.inr (Or.inr (Or.inr (⟨(Or.inr (Or.inl rfl)),(ctu (gv (bQ k (k.rg a)) (bQ k (k.rg b)) (Or.inr (Or.inl ⟨rfl,rfl⟩))) (cN (by rw [Bool.eq_iff_iff]; simp)))⟩)))))))))))))⟩
theorem ajg {op w a b H M : Int} {n : Nat} (k : Wm w n H M) (ha : Rg a) (hb : Rg b) (h : op - 69 = 2 ∧ w = 32 ∨ op - 80 = 2 ∧ w = 64) : Un op w a b M ⟨#[110,101]⟩:=
 ⟨_,_,akv k ha hb h,ez (Or.inr (Or.inr (Or.inl rfl))) (ey k.w (k.rg b).1 (k.rg b).2 (Or.inr (Or.inr (Or.inr (Or.inr (Or.inr (Or.inr (Or.inr (Or.inr (Or.inr (Or.inr (Or.inr (⟨(Or.inr (Or.inr (Or.inl rfl))),(ctu (gv (bQ k (k.rg a)) (bQ k (k.rg b)) (Or.inr (Or.inr (Or.inl ⟨rfl,rfl⟩)))) (cN (by rw [Bool.eq_iff_iff]; simp)))⟩)))))))))))))⟩
theorem tw {op w a b H M : Int} {n : Nat} (k : Wm w n H M) (ha : Rg a) (hb : Rg b) (h : op - 69 = 3 ∧ w = 32 ∨ op - 80 = 3 ∧ w = 64) : Un op w a b M ⟨#[108,116,95,115]⟩:=
 ⟨_,_,adr k ha hb h,ez (Or.inr (Or.inr (Or.inr (Or.inl rfl)))) (ey k.w (k.rg b).1 (k.rg b).2 (Or.inr (Or.inr (Or.inr (Or.inr (Or.inr (Or.inr (Or.inr (Or.inr (Or.inr (Or.inr (Or.inr (⟨(Or.inr (Or.inr (Or.inr (Or.inl rfl)))),(ctu (gv (bQ k (k.rg a)) (bQ k (k.rg b)) (Or.inr (Or.inr (Or.inr (Or.inr (Or.inr (Or.inr (Or.inr (Or.inl ⟨rfl,_,rfl,nH k (k.rg a) (k.rg b)⟩))))))))) (cN (rfl)))⟩)))))))))))))⟩
theorem tx {op w a b H M : Int} {n : Nat} (k : Wm w n H M) (ha : Rg a) (hb : Rg b) (h : op - 69 = 4 ∧ w = 32 ∨ op - 80 = 4 ∧ w = 64) : Un op w a b M ⟨#[108,116,95,117]⟩:=
 ⟨_,_,ads k ha hb h,ez (Or.inr (Or.inr (Or.inr (Or.inr (Or.inl rfl))))) (ey k.w (k.rg b).1 (k.rg b).2 (Or.inr (Or.inr (Or.inr (Or.inr (Or.inr (Or.inr (Or.inr (Or.inr (Or.inr (Or.inr (Or.inr (⟨(Or.inr (Or.inr (Or.inr (Or.inr (Or.inl rfl))))),(ctu (gv (bQ k (k.rg a)) (bQ k (k.rg b)) (Or.inr (Or.inr (Or.inr (Or.inl ⟨rfl,rfl⟩))))) (cN (by rw [mm k,mm k])))⟩)))))))))))))⟩
theorem tz {op w a b H M : Int} {n : Nat} (k : Wm w n H M) (ha : Rg a) (hb : Rg b) (h : op - 69 = 5 ∧ w = 32 ∨ op - 80 = 5 ∧ w = 64) : Un op w a b M ⟨#[103,116,95,115]⟩:=
 ⟨_,_,adt k ha hb h,ez (Or.inr (Or.inr (Or.inr (Or.inr (Or.inr (Or.inl rfl)))))) (ey k.w (k.rg b).1 (k.rg b).2 (Or.inr (Or.inr (Or.inr (Or.inr (Or.inr (Or.inr (Or.inr (Or.inr (Or.inr (Or.inr (Or.inr (⟨(Or.inr (Or.inr (Or.inr (Or.inr (Or.inr (Or.inl rfl)))))),(ctu (gv (bQ k (k.rg a)) (bQ k (k.rg b)) (Or.inr (Or.inr (Or.inr (Or.inr (Or.inr (Or.inr (Or.inr (Or.inr (Or.inl ⟨rfl,_,rfl,nH k (k.rg b) (k.rg a)⟩)))))))))) (cN (rfl)))⟩)))))))))))))⟩
theorem tA {op w a b H M : Int} {n : Nat} (k : Wm w n H M) (ha : Rg a) (hb : Rg b) (h : op - 69 = 6 ∧ w = 32 ∨ op - 80 = 6 ∧ w = 64) : Un op w a b M ⟨#[103,116,95,117]⟩:=
 ⟨_,_,adu k ha hb h,ez (Or.inr (Or.inr (Or.inr (Or.inr (Or.inr (Or.inr (Or.inl rfl))))))) (ey k.w (k.rg b).1 (k.rg b).2 (Or.inr (Or.inr (Or.inr (Or.inr (Or.inr (Or.inr (Or.inr (Or.inr (Or.inr (Or.inr (Or.inr (⟨(Or.inr (Or.inr (Or.inr (Or.inr (Or.inr (Or.inr (Or.inl rfl))))))),(ctu (gv (bQ k (k.rg a)) (bQ k (k.rg b)) (Or.inr (Or.inr (Or.inr (Or.inr (Or.inl ⟨rfl,rfl⟩)))))) (cN (by rw [mm k,mm k])))⟩)))))))))))))⟩
theorem tB {op w a b H M : Int} {n : Nat} (k : Wm w n H M) (ha : Rg a) (hb : Rg b) (h : op - 69 = 7 ∧ w = 32 ∨ op - 80 = 7 ∧ w = 64) : Un op w a b M ⟨#[108,101,95,115]⟩:=
 ⟨_,_,adv k ha hb h,ez (Or.inr (Or.inr (Or.inr (Or.inr (Or.inr (Or.inr (Or.inr (Or.inl rfl)))))))) (ey k.w (k.rg b).1 (k.rg b).2 (Or.inr (Or.inr (Or.inr (Or.inr (Or.inr (Or.inr (Or.inr (Or.inr (Or.inr (Or.inr (Or.inr (⟨(Or.inr (Or.inr (Or.inr (Or.inr (Or.inr (Or.inr (Or.inr (Or.inl rfl)))))))),(ctu (gv (bQ k (k.rg a)) (bQ k (k.rg b)) (Or.inr (Or.inr (Or.inr (Or.inr (Or.inr (Or.inr (Or.inr (Or.inr (Or.inr (Or.inl ⟨rfl,_,rfl,nH k (k.rg b) (k.rg a)⟩))))))))))) (cN (rfl)))⟩)))))))))))))⟩
theorem tC {op w a b H M : Int} {n : Nat} (k : Wm w n H M) (ha : Rg a) (hb : Rg b) (h : op - 69 = 8 ∧ w = 32 ∨ op - 80 = 8 ∧ w = 64) : Un op w a b M ⟨#[108,101,95,117]⟩:=
 ⟨_,_,adw k ha hb h,ez (Or.inr (Or.inr (Or.inr (Or.inr (Or.inr (Or.inr (Or.inr (Or.inr (Or.inl rfl))))))))) (ey k.w (k.rg b).1 (k.rg b).2 (Or.inr (Or.inr (Or.inr (Or.inr (Or.inr (Or.inr (Or.inr (Or.inr (Or.inr (Or.inr (Or.inr (⟨(Or.inr (Or.inr (Or.inr (Or.inr (Or.inr (Or.inr (Or.inr (Or.inr (Or.inl rfl))))))))),(ctu (gv (bQ k (k.rg a)) (bQ k (k.rg b)) (Or.inr (Or.inr (Or.inr (Or.inr (Or.inr (Or.inl ⟨rfl,rfl⟩))))))) (cN (by rw [mm k,mm k,Bool.eq_iff_iff]; simp)))⟩)))))))))))))⟩
theorem tD {op w a b H M : Int} {n : Nat} (k : Wm w n H M) (ha : Rg a) (hb : Rg b) (h : op - 69 = 9 ∧ w = 32 ∨ op - 80 = 9 ∧ w = 64) : Un op w a b M ⟨#[103,101,95,115]⟩:=
 ⟨_,_,adx k ha hb h,ez (Or.inr (Or.inr (Or.inr (Or.inr (Or.inr (Or.inr (Or.inr (Or.inr (Or.inr (Or.inl rfl)))))))))) (ey k.w (k.rg b).1 (k.rg b).2 (Or.inr (Or.inr (Or.inr (Or.inr (Or.inr (Or.inr (Or.inr (Or.inr (Or.inr (Or.inr (Or.inr (⟨(Or.inr (Or.inr (Or.inr (Or.inr (Or.inr (Or.inr (Or.inr (Or.inr (Or.inr (Or.inl rfl)))))))))),(ctu (gv (bQ k (k.rg a)) (bQ k (k.rg b)) (Or.inr (Or.inr (Or.inr (Or.inr (Or.inr (Or.inr (Or.inr (Or.inr (Or.inr (Or.inr (⟨rfl,_,rfl,nH k (k.rg a) (k.rg b)⟩)))))))))))) (cN (rfl)))⟩)))))))))))))⟩
theorem tE {op w a b H M : Int} {n : Nat} (k : Wm w n H M) (ha : Rg a) (hb : Rg b) (h : op - 69 = 10 ∧ w = 32 ∨ op - 80 = 10 ∧ w = 64) : Un op w a b M ⟨#[103,101,95,117]⟩:=
 ⟨_,_,ady k ha hb h,ez (Or.inr (Or.inr (Or.inr (Or.inr (Or.inr (Or.inr (Or.inr (Or.inr (Or.inr (Or.inr (Or.inl rfl))))))))))) (ey k.w (k.rg b).1 (k.rg b).2 (Or.inr (Or.inr (Or.inr (Or.inr (Or.inr (Or.inr (Or.inr (Or.inr (Or.inr (Or.inr (Or.inr (⟨(Or.inr (Or.inr (Or.inr (Or.inr (Or.inr (Or.inr (Or.inr (Or.inr (Or.inr (Or.inr (Or.inl rfl))))))))))),(ctu (gv (bQ k (k.rg a)) (bQ k (k.rg b)) (Or.inr (Or.inr (Or.inr (Or.inr (Or.inr (Or.inr (Or.inl ⟨rfl,rfl⟩)))))))) (cN (by rw [mm k,mm k,Bool.eq_iff_iff]; simp)))⟩)))))))))))))⟩
theorem xY {op w a b H M : Int} {n : Nat} (k : Wm w n H M) (ha : Rg a) (hb : Rg b) (h : op - 103 = 3 ∧ w = 32 ∨ op - 121 = 3 ∧ w = 64) : Un op w a b M ⟨#[97,100,100]⟩:=
 ⟨_,_,tH k ha hb h,ez (Or.inr (Or.inr (Or.inr (Or.inr (Or.inr (Or.inr (Or.inr (Or.inr (Or.inr (Or.inr (Or.inr (Or.inr (Or.inr (Or.inr (Or.inl rfl))))))))))))))) (ey k.w (k.rg b).1 (k.rg b).2 (Or.inr (Or.inr (Or.inr (Or.inl ⟨rfl,al1 k (k.rg a) (k.rg b)⟩)))))⟩
theorem xZ {op w a b H M : Int} {n : Nat} (k : Wm w n H M) (ha : Rg a) (hb : Rg b) (h : op - 103 = 4 ∧ w = 32 ∨ op - 121 = 4 ∧ w = 64) : Un op w a b M ⟨#[115,117,98]⟩:=
 ⟨_,_,adz k ha hb h,ez (Or.inr (Or.inr (Or.inr (Or.inr (Or.inr (Or.inr (Or.inr (Or.inr (Or.inr (Or.inr (Or.inr (Or.inr (Or.inr (Or.inr (Or.inr (Or.inl rfl)))))))))))))))) (ey k.w (k.rg b).1 (k.rg b).2 (Or.inr (Or.inr (Or.inr (Or.inr (Or.inl ⟨rfl,rr k (k.rg a) (k.rg b)⟩))))))⟩
theorem x9 {op w a b H M : Int} {n : Nat} (k : Wm w n H M) (ha : Rg a) (hb : Rg b) (h : op - 103 = 5 ∧ w = 32 ∨ op - 121 = 5 ∧ w = 64) : Un op w a b M ⟨#[109,117,108]⟩:=
 ⟨_,_,ad0 k ha hb h,ez (Or.inr (Or.inr (Or.inr (Or.inr (Or.inr (Or.inr (Or.inr (Or.inr (Or.inr (Or.inr (Or.inr (Or.inr (Or.inr (Or.inr (Or.inr (Or.inr (Or.inl rfl))))))))))))))))) (ey k.w (k.rg b).1 (k.rg b).2 (Or.inr (Or.inr (Or.inr (Or.inr (Or.inr (Or.inl ⟨rfl,al2 k (k.rg a) (k.rg b)⟩)))))))⟩
theorem ya {op w a b H M : Int} {n : Nat} (k : Wm w n H M) (ha : Rg a) (hb : Rg b) (h : op - 103 = 10 ∧ w = 32 ∨ op - 121 = 10 ∧ w = 64) : Un op w a b M ⟨#[97,110,100]⟩:=by
 obtain ⟨A,hA,lA⟩:=k.nat a
 obtain ⟨B,hB,lB⟩:=k.nat b
 obtain ⟨-,k2,k3,k4,k5,-,k7⟩:=k.two
 have H1:=fb k (k.rg a) ((mm k a).trans hA)
 have H2:=fb k (k.rg b) ((mm k b).trans hB)
 have H:=alo (s:=⟨#[97,110,100]⟩) (G:=fun i => q9 ⟨#[97,110,100]⟩ (A.testBit i) (B.testBit i)) (ab fun _ => rfl) (Or.inl rfl) k5 (by omega) H1 H2 (zq k5)
 have e : bX (fun i => q9 ⟨#[97,110,100]⟩ (A.testBit i) (B.testBit i)) n = A &&& B:=fA (Nat.lt_of_le_of_lt Nat.and_le_left lA) (fun i _ => by rw [Nat.testBit_and]; rfl)
 have z : A < 18446744073709551616 ∧ B < 18446744073709551616:=by have:=k.rg a; have:=k.rg b; unfold Rg at *; omega
 rw [e,← Go.bits_and_u64_nat A B z.1 z.2,← hA,← hB,← k3] at H
 exact ⟨_,_,ad1 k ha hb h,ez (Or.inr (Or.inr (Or.inr (Or.inr (Or.inr (Or.inr (Or.inr (Or.inr (Or.inr (Or.inr (Or.inr (Or.inr (Or.inr (Or.inr (Or.inr (Or.inr (Or.inr (Or.inl rfl)))))))))))))))))) (ey k.w (k.rg b).1 (k.rg b).2 (Or.inr (Or.inr (Or.inr (Or.inr (Or.inr (Or.inr (Or.inr (Or.inr (Or.inr (Or.inr (Or.inr (⟨(Or.inr (Or.inr (Or.inr (Or.inr (Or.inr (Or.inr (Or.inr (Or.inr (Or.inr (Or.inr (Or.inr (Or.inl rfl)))))))))))),H⟩)))))))))))))⟩
theorem ajh {op w a b H M : Int} {n : Nat} (k : Wm w n H M) (ha : Rg a) (hb : Rg b) (h : op - 103 = 11 ∧ w = 32 ∨ op - 121 = 11 ∧ w = 64) : Un op w a b M ⟨#[111,114]⟩:=by
 obtain ⟨A,hA,lA⟩:=k.nat a
 obtain ⟨B,hB,lB⟩:=k.nat b
 obtain ⟨-,k2,k3,k4,k5,-,k7⟩:=k.two
 have H1:=fb k (k.rg a) ((mm k a).trans hA)
 have H2:=fb k (k.rg b) ((mm k b).trans hB)
 have H:=alo (s:=⟨#[111,114]⟩) (G:=fun i => q9 ⟨#[111,114]⟩ (A.testBit i) (B.testBit i)) (ab fun _ => rfl) (Or.inr (Or.inl rfl)) k5 (by omega) H1 H2 (zq k5)
 have e : bX (fun i => q9 ⟨#[111,114]⟩ (A.testBit i) (B.testBit i)) n = A ||| B:=fA (Nat.or_lt_two_pow lA lB) (fun i _ => by rw [Nat.testBit_or]; rfl)
 have z : A < 18446744073709551616 ∧ B < 18446744073709551616:=by have:=k.rg a; have:=k.rg b; unfold Rg at *; omega
 rw [e,← Go.bits_or_u64_nat A B z.1 z.2,← hA,← hB,← k3] at H
 exact ⟨_,_,akw k ha hb h,ez (Or.inr (Or.inr (Or.inr (Or.inr (Or.inr (Or.inr (Or.inr (Or.inr (Or.inr (Or.inr (Or.inr (Or.inr (Or.inr (Or.inr (Or.inr (Or.inr (Or.inr (Or.inr (Or.inl rfl))))))))))))))))))) (ey k.w (k.rg b).1 (k.rg b).2 (Or.inr (Or.inr (Or.inr (Or.inr (Or.inr (Or.inr (Or.inr (Or.inr (Or.inr (Or.inr (Or.inr (⟨(Or.inr (Or.inr (Or.inr (Or.inr (Or.inr (Or.inr (Or.inr (Or.inr (Or.inr (Or.inr (Or.inr (Or.inr (Or.inl rfl))))))))))))),H⟩)))))))))))))⟩
theorem yb {op w a b H M : Int} {n : Nat} (k : Wm w n H M) (ha : Rg a) (hb : Rg b) (h : op - 103 = 12 ∧ w = 32 ∨ op - 121 = 12 ∧ w = 64) : Un op w a b M ⟨#[120,111,114]⟩:=by
 obtain ⟨A,hA,lA⟩:=k.nat a
 obtain ⟨B,hB,lB⟩:=k.nat b
 obtain ⟨-,k2,k3,k4,k5,-,k7⟩:=k.two
 have H1:=fb k (k.rg a) ((mm k a).trans hA)
 have H2:=fb k (k.rg b) ((mm k b).trans hB)
 have H:=alo (s:=⟨#[120,111,114]⟩) (G:=fun i => q9 ⟨#[120,111,114]⟩ (A.testBit i) (B.testBit i)) (ab fun _ => rfl) (Or.inr (Or.inr rfl)) k5 (by omega) H1 H2 (zq k5)
 have e : bX (fun i => q9 ⟨#[120,111,114]⟩ (A.testBit i) (B.testBit i)) n = A ^^^ B:=fA (Nat.xor_lt_two_pow lA lB) (fun i _ => by rw [Nat.testBit_xor]; rfl)
 have z : A < 18446744073709551616 ∧ B < 18446744073709551616:=by have:=k.rg a; have:=k.rg b; unfold Rg at *; omega
 rw [e,← Go.bits_xor_u64_nat A B z.1 z.2,← hA,← hB,← k3] at H
 exact ⟨_,_,ad2 k ha hb h,ez (Or.inr (Or.inr (Or.inr (Or.inr (Or.inr (Or.inr (Or.inr (Or.inr (Or.inr (Or.inr (Or.inr (Or.inr (Or.inr (Or.inr (Or.inr (Or.inr (Or.inr (Or.inr (Or.inr (Or.inl rfl)))))))))))))))))))) (ey k.w (k.rg b).1 (k.rg b).2 (Or.inr (Or.inr (Or.inr (Or.inr (Or.inr (Or.inr (Or.inr (Or.inr (Or.inr (Or.inr (Or.inr (⟨(Or.inr (Or.inr (Or.inr (Or.inr (Or.inr (Or.inr (Or.inr (Or.inr (Or.inr (Or.inr (Or.inr (Or.inr (Or.inr (rfl)))))))))))))),H⟩)))))))))))))⟩
theorem yc {op w a b H M : Int} {n : Nat} (k : Wm w n H M) (ha : Rg a) (hb : Rg b) (h : op - 103 = 0 ∧ w = 32 ∨ op - 121 = 0 ∧ w = 64) : Un op w a b M ⟨#[99,108,122]⟩:=by
 obtain ⟨A,hA,lA⟩:=k.nat a
 obtain ⟨-,k2,k3,k4,k5,-,k7⟩:=k.two
 have hA':=(mm k a).trans hA
 have HL:=fb k (k.rg a) hA'
 obtain ⟨u1,u2⟩:=alw lA
 have R1:=ajn k5 (Nat.sub_le _ _) u1 u2 HL
 rw [← k3] at R1
 exact ⟨_,_,ad4 k ha hb hA' lA h,ez (Or.inr (Or.inr (Or.inr (Or.inr (Or.inr (Or.inr (Or.inr (Or.inr (Or.inr (Or.inr (Or.inr (Or.inl rfl)))))))))))) (ey k.w (k.rg b).1 (k.rg b).2 (Or.inl ⟨rfl,R1⟩))⟩
theorem yd {op w a b H M : Int} {n : Nat} (k : Wm w n H M) (ha : Rg a) (hb : Rg b) (h : op - 103 = 1 ∧ w = 32 ∨ op - 121 = 1 ∧ w = 64) : Un op w a b M ⟨#[99,116,122]⟩:=by
 obtain ⟨A,hA,lA⟩:=k.nat a
 obtain ⟨-,k2,k3,k4,k5,-,k7⟩:=k.two
 have hA':=(mm k a).trans hA
 have HL:=fb k (k.rg a) hA'
 have z : A < 18446744073709551616:=by have:=k.rg a; unfold Rg at *; omega
 obtain ⟨d0,d1,d2⟩:=alx k5 z (Nat.mod_eq_of_lt lA)
 have R2:=ajn k5 d0 d1 d2 HL
 rw [← k3] at R2
 exact ⟨_,_,ad5 k ha hb hA z h,ez (Or.inr (Or.inr (Or.inr (Or.inr (Or.inr (Or.inr (Or.inr (Or.inr (Or.inr (Or.inr (Or.inr (Or.inr (Or.inl rfl))))))))))))) (ey k.w (k.rg b).1 (k.rg b).2 (Or.inr (Or.inl ⟨rfl,R2⟩)))⟩
theorem mC {op w a b H M : Int} {n : Nat} (k : Wm w n H M) (ha : Rg a) (hb : Rg b) (h : op - 103 = 2 ∧ w = 32 ∨ op - 121 = 2 ∧ w = 64) : Un op w a b M ⟨#[112,111,112,99,110,116]⟩:=by
 obtain ⟨A,hA,lA⟩:=k.nat a
 obtain ⟨-,k2,k3,k4,k5,-,k7⟩:=k.two
 have hA':=(mm k a).trans hA
 have R3:=af4 k5 (fb k (k.rg a) hA')
 rw [← k3] at R3
 exact ⟨_,_,ad3 k ha hb hA' h,ez (Or.inr (Or.inr (Or.inr (Or.inr (Or.inr (Or.inr (Or.inr (Or.inr (Or.inr (Or.inr (Or.inr (Or.inr (Or.inr (Or.inl rfl)))))))))))))) (ey k.w (k.rg b).1 (k.rg b).2 (Or.inr (Or.inr (Or.inl ⟨rfl,R3⟩))))⟩
theorem ye {op w a b H M : Int} {n : Nat} (k : Wm w n H M) (ha : Rg a) (hb : Rg b) (h : op - 103 = 13 ∧ w = 32 ∨ op - 121 = 13 ∧ w = 64) : Un op w a b M ⟨#[115,104,108]⟩:=by
 obtain ⟨A,hA,lA⟩:=k.nat a
 obtain ⟨q,hs,hsn⟩:=k.sh (b % M)
 have hA':=(mm k a).trans hA
 have T:=kU k (k.rg a) hA' (t:=(q : Int)) (by omega) (by omega) false false
 rw [yX hsn] at T
 exact ⟨_,_,ad6 k ha hb hA' hs h,ez (Or.inr (Or.inr (Or.inr (Or.inr (Or.inr (Or.inr (Or.inr (Or.inr (Or.inr (Or.inr (Or.inr (Or.inr (Or.inr (Or.inr (Or.inr (Or.inr (Or.inr (Or.inr (Or.inr (Or.inr (Or.inl rfl))))))))))))))))))))) (ey k.w (k.rg b).1 (k.rg b).2 (Or.inr (Or.inr (Or.inr (Or.inr (Or.inr (Or.inr (Or.inl ⟨rfl,fun z hz => by rw [hs] at hz; subst hz; exact T⟩))))))))⟩
theorem oF {op w a b H M : Int} {n : Nat} (k : Wm w n H M) (ha : Rg a) (hb : Rg b) (h : op - 103 = 14 ∧ w = 32 ∨ op - 121 = 14 ∧ w = 64) : Un op w a b M ⟨#[115,104,114,95,115]⟩:=by
 obtain ⟨A,hA,lA⟩:=k.nat a
 obtain ⟨q,hs,hsn⟩:=k.sh (b % M)
 have hA':=(mm k a).trans hA
 have T:=kU k (k.rg a) hA' (t:=-(q : Int)) (by omega) (by omega) false (A.testBit (n - 1))
 rw [yZ lA hsn] at T
 exact ⟨_,_,ad7 k ha hb hA' hs h,ez (Or.inr (Or.inr (Or.inr (Or.inr (Or.inr (Or.inr (Or.inr (Or.inr (Or.inr (Or.inr (Or.inr (Or.inr (Or.inr (Or.inr (Or.inr (Or.inr (Or.inr (Or.inr (Or.inr (Or.inr (Or.inr (Or.inl rfl)))))))))))))))))))))) (ey k.w (k.rg b).1 (k.rg b).2 (Or.inr (Or.inr (Or.inr (Or.inr (Or.inr (Or.inr (Or.inr (Or.inr (Or.inr (Or.inr (Or.inl ⟨rfl,_,ape k (k.rg a) hA',fun z hz => by rw [hs] at hz; subst hz; exact T⟩))))))))))))⟩
theorem oG {op w a b H M : Int} {n : Nat} (k : Wm w n H M) (ha : Rg a) (hb : Rg b) (h : op - 103 = 15 ∧ w = 32 ∨ op - 121 = 15 ∧ w = 64) : Un op w a b M ⟨#[115,104,114,95,117]⟩:=by
 obtain ⟨A,hA,lA⟩:=k.nat a
 obtain ⟨q,hs,hsn⟩:=k.sh (b % M)
 have hA':=(mm k a).trans hA
 have T:=kU k (k.rg a) hA' (t:=-(q : Int)) (by omega) (by omega) false false
 rw [yY lA hsn] at T
 exact ⟨_,_,ad8 k ha hb hA' hs h,ez (Or.inr (Or.inr (Or.inr (Or.inr (Or.inr (Or.inr (Or.inr (Or.inr (Or.inr (Or.inr (Or.inr (Or.inr (Or.inr (Or.inr (Or.inr (Or.inr (Or.inr (Or.inr (Or.inr (Or.inr (Or.inr (Or.inr (Or.inl rfl))))))))))))))))))))))) (ey k.w (k.rg b).1 (k.rg b).2 (Or.inr (Or.inr (Or.inr (Or.inr (Or.inr (Or.inr (Or.inr (Or.inl ⟨rfl,fun z hz => by rw [hs] at hz; subst hz; exact T⟩)))))))))⟩
theorem tF {op w a b H M : Int} {n : Nat} (k : Wm w n H M) (ha : Rg a) (hb : Rg b) (h : op - 103 = 16 ∧ w = 32 ∨ op - 121 = 16 ∧ w = 64) : Un op w a b M ⟨#[114,111,116,108]⟩:=by
 obtain ⟨A,hA,lA⟩:=k.nat a
 obtain ⟨q,hs,hsn⟩:=k.sh (b % M)
 have hA':=(mm k a).trans hA
 have T:=kU k (k.rg a) hA' (t:=(q : Int)) (by omega) (by omega) true false
 rw [y7 lA hsn] at T
 exact ⟨_,_,yf k ha hb hA' hs h,ez (Or.inr (Or.inr (Or.inr (Or.inr (Or.inr (Or.inr (Or.inr (Or.inr (Or.inr (Or.inr (Or.inr (Or.inr (Or.inr (Or.inr (Or.inr (Or.inr (Or.inr (Or.inr (Or.inr (Or.inr (Or.inr (Or.inr (Or.inr (Or.inl rfl)))))))))))))))))))))))) (ey k.w (k.rg b).1 (k.rg b).2 (Or.inr (Or.inr (Or.inr (Or.inr (Or.inr (Or.inr (Or.inr (Or.inr (Or.inl ⟨rfl,fun z hz => by rw [hs] at hz; subst hz; exact T⟩))))))))))⟩
theorem tG {op w a b H M : Int} {n : Nat} (k : Wm w n H M) (ha : Rg a) (hb : Rg b) (h : op - 103 = 17 ∧ w = 32 ∨ op - 121 = 17 ∧ w = 64) : Un op w a b M ⟨#[114,111,116,114]⟩:=by
 obtain ⟨A,hA,lA⟩:=k.nat a
 obtain ⟨q,hs,hsn⟩:=k.sh (b % M)
 have hA':=(mm k a).trans hA
 have T:=kU k (k.rg a) hA' (t:=-(q : Int)) (by omega) (by omega) true false
 rw [u9 lA hsn] at T
 exact ⟨_,_,yg k ha hb hA' hs h,ez (Or.inr (Or.inr (Or.inr (Or.inr (Or.inr (Or.inr (Or.inr (Or.inr (Or.inr (Or.inr (Or.inr (Or.inr (Or.inr (Or.inr (Or.inr (Or.inr (Or.inr (Or.inr (Or.inr (Or.inr (Or.inr (Or.inr (Or.inr (Or.inr (rfl))))))))))))))))))))))))) (ey k.w (k.rg b).1 (k.rg b).2 (Or.inr (Or.inr (Or.inr (Or.inr (Or.inr (Or.inr (Or.inr (Or.inr (Or.inr (Or.inl ⟨rfl,fun z hz => by rw [hs] at hz; subst hz; exact T⟩)))))))))))⟩
theorem sg0 {w H M : Int} {n : Nat} (k : Wm w n H M) (b : Int) : sgv H M (b % M) = 0 ↔ b % M = 0:=by
 have:=(nA k (b % M)).2.2.1
 rw [mm k] at this
 exact this
theorem oH {op w a b H M : Int} {n : Nat} (k : Wm w n H M) (ha : Rg a) (hb : Rg b) (h : op - 103 = 6 ∧ w = 32 ∨ op - 121 = 6 ∧ w = 64) : Un op w a b M ⟨#[100,105,118,95,115]⟩:=by
 by_cases g : b % M = 0
 ·exact ⟨_,_,qR k ha hb ((sg0 k b).2 g) h,by rw [g]; exact nG (Or.inl rfl)⟩
 ·have g' : ¬ sgv H M (b % M) = 0:=fun h => g ((sg0 k b).1 h)
  have D:=tY k (k.rg a) (k.rg b) g'
  by_cases go : sgv H M (a % M) = -H ∧ sgv H M (b % M) = -1
  ·rw [decide_eq_true go] at D
   exact ⟨_,_,qS k ha hb go.1 go.2 h,jv g (Or.inl ⟨rfl,rfl,rfl,_,_,D⟩)⟩
  ·rw [decide_eq_false go] at D
   exact ⟨_,_,yh k ha hb g' go h,jv g (Or.inr (Or.inl ⟨rfl,rfl,_,D⟩))⟩
theorem oI {op w a b H M : Int} {n : Nat} (k : Wm w n H M) (ha : Rg a) (hb : Rg b) (h : op - 103 = 7 ∧ w = 32 ∨ op - 121 = 7 ∧ w = 64) : Un op w a b M ⟨#[100,105,118,95,117]⟩:=by
 by_cases g : b % M = 0
 ·exact ⟨_,_,kV k ha hb ((mm k b).trans g) h,by rw [g]; exact nG (Or.inr (Or.inl rfl))⟩
 ·have D:=tX k (k.rg a) (k.rg b) (by rw [mm k]; exact g)
  exact ⟨_,_,yj k ha hb (by rw [mm k]; exact g) h,jv g (Or.inr (Or.inr (Or.inr (Or.inl ⟨rfl,rfl,_,D⟩))))⟩
theorem oJ {op w a b H M : Int} {n : Nat} (k : Wm w n H M) (ha : Rg a) (hb : Rg b) (h : op - 103 = 8 ∧ w = 32 ∨ op - 121 = 8 ∧ w = 64) : Un op w a b M ⟨#[114,101,109,95,115]⟩:=by
 by_cases g : b % M = 0
 ·exact ⟨_,_,qT k ha hb ((sg0 k b).2 g) h,by rw [g]; exact nG (Or.inr (Or.inr (Or.inl rfl)))⟩
 ·have g' : ¬ sgv H M (b % M) = 0:=fun h => g ((sg0 k b).1 h)
  have D:=tY k (k.rg a) (k.rg b) g'
  by_cases go : sgv H M (a % M) = -H ∧ sgv H M (b % M) = -1
  ·rw [decide_eq_true go] at D
   rw [show (sgv H M (a % M)).tmod (sgv H M (b % M)) % M = 0 by rw [go.2]; simp] at D
   exact ⟨_,_,qU k ha hb go.1 go.2 h,jv g (Or.inr (Or.inr (Or.inl ⟨rfl,rfl,_,_,D⟩)))⟩
  ·exact ⟨_,_,yi k ha hb g' go h,jv g (Or.inr (Or.inr (Or.inl ⟨rfl,rfl,_,_,D⟩)))⟩
theorem oL {op w a b H M : Int} {n : Nat} (k : Wm w n H M) (ha : Rg a) (hb : Rg b) (h : op - 103 = 9 ∧ w = 32 ∨ op - 121 = 9 ∧ w = 64) : Un op w a b M ⟨#[114,101,109,95,117]⟩:=by
 by_cases g : b % M = 0
 ·exact ⟨_,_,qV k ha hb ((mm k b).trans g) h,by rw [g]; exact nG (Or.inr (Or.inr (Or.inr (rfl))))⟩
 ·have D:=tX k (k.rg a) (k.rg b) (by rw [mm k]; exact g)
  exact ⟨_,_,yk k ha hb (by rw [mm k]; exact g) h,jv g (Or.inr (Or.inr (Or.inr (Or.inr (⟨rfl,rfl,_,D⟩)))))⟩
theorem fp {w e f P Q b K X S : Int} (k : Kd w e f P Q b) (n : Bool) (h : Prt f P Q b K X S) (W : World) :
 Calls Tryz.prog 231 #[.agg #[.bool n,.int .i64 K,.int .i64 X,.int .u64 S]] W fun r W' => r = .returned (.bool (decide (wr (mag X S) ≠ 0))) ∧ Below W.heap.size W W':=by
 obtain ⟨x0,x1,s0,s1,s2⟩:=h.in k
 have hv:=en s0 (by omega)
 have e : decide (wr (mag X S) ≠ 0) = ft S.toNat (-X):=by
  unfold ft
  by_cases hX : 0 ≤ X
  ·rw [(jC hX).2.1,show (-X).toNat = 0 by omega]
   simp [Nat.mod_one]
  ·have:=uD (-X).toNat (by omega) (X:=X) (S:=S) (by omega)
   simp only [this]
 rw [e]
 exact ab5 W (ab (fun W => fG S W s0 (by omega))) (aj (x:=-X) (by omega) (by omega)) (ab (fun W => iQ S.toNat (-X) W hv))
theorem aj6 {z : Int} (h0 : 0 ≤ z) (h1 : z < 18446744073709551616) : bits .and .u64 z 1 = z % 2:=bV 1 z 1 h0 h1 (by decide) (by omega)
theorem aj7 (v : Nat) : ((v : Int) % 2 == 1) = decide (v % 2 = 1):=by
 by_cases h : v % 2 = 1
 ·have : (v : Int) % 2 = 1:=by omega
  simp [h,this]
 ·have : (v : Int) % 2 = 0:=by omega
  simp [h,this]
theorem ic {w e f P Q b X S : Int} (k : Kd w e f P Q b) (n : Bool) (h : Prt f P Q b 1 X S) (hb : wr (mag X S) ≠ 0) :
 ∃ a m o : Bool,(a && (m || o)) = upN 4 n (mag X S) ∧ wq (mag X S) < 9007199254740992 ∧ wq (mag X S) + 1 ≤ 2 ^ f.toNat ∧ Ct 232 #[.agg #[.bool n,.int .i64 1,.int .i64 X,.int .u64 S]] (.tuple #[.int .u64 (wq (mag X S) : Nat),.agg #[.bool a,.bool m,.bool o]]):=by
 obtain ⟨x0,x1,s0,s1,s2⟩:=h.in k
 have hX : X < 0:=by
  refine Decidable.byContradiction fun hc => hb ?_
  exact (jC (by omega)).2.1
 obtain ⟨j,hj⟩ : ∃ j : Nat,X = -((j + 1 : Nat) : Int):=⟨(-X).toNat - 1,by omega⟩
 obtain ⟨hq,hr,hh⟩:=ma (j + 1) (by omega) (S:=S) hj
 have hp:=Nat.two_pow_pos j
 have hS:=nJ k.pow.1 s0 s1
 have hhv : S.toNat / 2 ^ j < 18446744073709551616:=Nat.lt_of_le_of_lt (Nat.div_le_self _ _) (by omega)
 have hq2 : S.toNat / 2 ^ (j + 1) = S.toNat / 2 ^ j / 2:=by rw [Nat.div_div_eq_div_mul,Nat.pow_succ]
 have hqb : S.toNat / 2 ^ (j + 1) < 2 ^ f.toNat:=by
  rw [Nat.div_lt_iff_lt_mul (Nat.two_pow_pos _)]
  have h1 : 2 ^ (f.toNat + 1) ≤ 2 ^ f.toNat * 2 ^ (j + 1):=by
   rw [Nat.pow_succ 2 j,Nat.pow_succ 2 f.toNat]
   have : 2 ^ f.toNat * 1 ≤ 2 ^ f.toNat * 2 ^ j:=Nat.mul_le_mul_left _ hp
   rw [← Nat.mul_assoc]
   omega
  omega
 refine ⟨decide (S.toNat / 2 ^ j % 2 = 1),decide (S.toNat % 2 ^ j ≠ 0),decide (S.toNat / 2 ^ (j + 1) % 2 = 1),?_,?_,by rw [hq]; omega,?_⟩
 ·have:=xf S.toNat j
  rw [this]
  unfold upN
  rw [if_neg (by omega),if_neg (by omega),if_pos rfl,hh,hq]
 ·rw [hq,hq2]
  have:=Nat.div_le_self S.toNat (2 ^ j)
  omega
 ·have HR:=fun W => iQ S.toNat (j : Int) W (en s0 (by omega))
  have e1 : bZ S.toNat (j : Int) = S.toNat / 2 ^ j:=by unfold bZ; rw [Int.toNat_natCast]
  have e2 : ft S.toNat (j : Int) = decide (S.toNat % 2 ^ j ≠ 0):=by unfold ft; rw [Int.toNat_natCast]
  rw [e1,e2,fH hhv] at HR
  have:=fun W => aig (n1:=n) (K1:=1) (X1:=X) (S1:=S) (E:=-X) (E1:=(j : Int)) (n:=((wq (mag X S) : Nat) : Int)) (a:=((S.toNat / 2 ^ j : Nat) : Int) % 2) (o:=((wq (mag X S) : Nat) : Int) % 2) W (ab (fun W => fG S W s0 (by omega))) (aj (by omega) (by omega))
   (by rw [show -X - 1 = (j : Int) by omega]; exact aj (by omega) (by omega)) (ab HR) (by rw [hq,hq2]; omega) (aj6 (by omega) (by omega)) (aj6 (by omega) (by rw [hq]; have:=Nat.div_le_self S.toNat (2 ^ (j + 1)); omega))
  rw [aj7,aj7,hq] at this
  rw [hq]
  exact this
theorem id {w e f P Q b X S : Int} (k : Kd w e f P Q b) (x way : Int) (h : Prt f P Q b (oK P Q x) X S) (hm : mag X S = oM f P Q b x) (hb : wr (mag X S) = 0) :
 cV f P Q b (oN P Q x) (oK P Q x) X S = bC f P Q b way x:=by
 rw [gW k _ h]
 unfold bC
 rcases b9 k x with ⟨h1,-,-⟩ | ⟨h1,h2,-⟩ | ⟨h1,-,-,-⟩ | ⟨h1,h2,-⟩
 ·rw [if_neg (by omega),if_neg (by omega),if_neg (by omega),if_pos h1]; rfl
 ·rw [if_neg (by omega),if_neg (by omega),if_pos h1,if_neg (by omega),if_pos (by omega),fW k (by omega),h2]
  exact dn k _
 ·rw [if_neg (by omega),if_pos h1,if_neg (by omega),if_neg (by omega),← hm,sU way _ hb]
 ·rw [if_pos h1,if_neg (by omega),if_pos (by omega),fW k (by omega),h2]
  exact iC _
theorem dv {w e f P Q b : Int} (k : Kd w e f P Q b) (n : Bool) (m : Nat) (hm : m < 18446744073709551616) : Ct 160 #[.int .i64 w,.bool n,.agg #[.int .u64 (hi m),.int .u64 (lo m)],.int .i64 0,.bool false] (.int .u64 (rd f P Q b n (m * 2 ^ Z5))):=by
 have h:=fun W => iZ k n m (by unfold W2; omega) (E:=0) (by omega) (by omega) W
 rw [un] at h
 exact h
theorem ji (m : Nat) (hm : m < 18446744073709551616) : Ct 161 #[.int .u64 (m : Int)] (.agg #[.int .u64 (hi m),.int .u64 (lo m)]):=fun W => by
 have h:=fG (m : Int) W (by omega) (by omega)
 rw [Int.toNat_natCast] at h
 exact h
theorem oa (m : Nat) (hm : m + 1 < 18446744073709551616) : Ct 161 #[.int .u64 ((m : Int) + 1)] (.agg #[.int .u64 (hi (m + 1)),.int .u64 (lo (m + 1))]):=fun W => by
 have h:=fG ((m : Int) + 1) W (by omega) (by omega)
 rw [show ((m : Int) + 1).toNat = m + 1 by omega] at h
 exact h
theorem am7 (n a m o : Bool) : Ct 154 #[.bool n,.agg #[.bool a,.bool m,.bool o]] (.bool (a && (m || o))):=by
 cases a
 ·exact fun W => aij W
 ·cases m
  ·exact fun W => ail W
  ·exact fun W => aik W
theorem ab2 {w e f P Q b x : Int} (k : Kd w e f P Q b) (W : World) (x0 : 0 ≤ x) (x1 : x < 18446744073709551616) :
 Calls Tryz.prog 80 #[.int .i64 w,.int .u64 x] W fun r W' => r = .returned (.int .u64 (bC f P Q b 1 x)) ∧ Below W.heap.size W W':=by
 obtain ⟨X,S,ho,hp,hm⟩:=aL k x
 obtain ⟨-,-,s0,-,s2⟩:=hp.in k
 have HO:=fun W => bj x k.wd W x0 x1 ho
 have HK:=fun W => fp k (oN P Q x) hp W
 refine ab6 W (ab fun W => ?_)
 by_cases hb : wr (mag X S) = 0
 ·rw [show decide (wr (mag X S) ≠ 0) = false from df (fun h => h hb)] at HK
  have HN:=fun W => cE k (oN P Q x) (oK P Q x) X S s0 (by omega) W
  rw [id k x 1 hp hm hb] at HN
  exact kc W (ab HO) (ab HK) (ab HN)
 ·have hd : decide (wr (mag X S) ≠ 0) = true:=dt hb
  rw [hd] at HK
  have hK : oK P Q x = 1:=by
   refine Decidable.byContradiction fun hc => hb ?_
   rw [hp.mag0 hc]
   exact Nat.zero_mod _
  have hB : bC f P Q b 1 x = rd f P Q b (oN P Q x) (bA 1 (oN P Q x) (mag X S) * 2 ^ Z5):=by
   unfold bC
   rw [if_neg (by omega),if_neg (by omega),hm]
  rw [hK] at hp HO HK
  obtain ⟨a,m,o,hu,hq,-,HS⟩:=ic k (oN P Q x) hp hb
  have HF : Ct 151 #[.bool (oN P Q x),.agg #[.bool a,.bool m,.bool o]] (.bool (upN 1 (oN P Q x) (mag X S))):=by
   rw [show upN 1 (oN P Q x) (mag X S) = !oN P Q x by unfold upN; rw [if_pos rfl,hd,Bool.true_and]]
   exact fun W => anc W
  by_cases hup : upN 1 (oN P Q x) (mag X S) = true
  ·rw [hup] at HF
   rw [hB,show bA 1 (oN P Q x) (mag X S) = wq (mag X S) + 1 by unfold bA; rw [hup]; rfl]
   exact qo W (ab HO) (ab HK) HS HF (dY (by omega) (by omega)) (oa _ (by omega)) (dv k _ _ (by omega))
  ·have hup:=Bool.eq_false_iff.mpr hup
   rw [hup] at HF
   rw [hB,show bA 1 (oN P Q x) (mag X S) = wq (mag X S) by unfold bA; rw [hup]; rfl]
   exact qp W (ab HO) (ab HK) HS HF (ji _ (by omega)) (dv k _ _ (by omega))
theorem xc {w e f P Q b x : Int} (k : Kd w e f P Q b) (W : World) (x0 : 0 ≤ x) (x1 : x < 18446744073709551616) :
 Calls Tryz.prog 81 #[.int .i64 w,.int .u64 x] W fun r W' => r = .returned (.int .u64 (bC f P Q b 2 x)) ∧ Below W.heap.size W W':=by
 obtain ⟨X,S,ho,hp,hm⟩:=aL k x
 obtain ⟨-,-,s0,-,s2⟩:=hp.in k
 have HO:=fun W => bj x k.wd W x0 x1 ho
 have HK:=fun W => fp k (oN P Q x) hp W
 refine uE W (ab fun W => ?_)
 by_cases hb : wr (mag X S) = 0
 ·rw [show decide (wr (mag X S) ≠ 0) = false from df (fun h => h hb)] at HK
  have HN:=fun W => cE k (oN P Q x) (oK P Q x) X S s0 (by omega) W
  rw [id k x 2 hp hm hb] at HN
  exact jl W (ab HO) (ab HK) (ab HN)
 ·have hd : decide (wr (mag X S) ≠ 0) = true:=dt hb
  rw [hd] at HK
  have hK : oK P Q x = 1:=by
   refine Decidable.byContradiction fun hc => hb ?_
   rw [hp.mag0 hc]
   exact Nat.zero_mod _
  have hB : bC f P Q b 2 x = rd f P Q b (oN P Q x) (bA 2 (oN P Q x) (mag X S) * 2 ^ Z5):=by
   unfold bC
   rw [if_neg (by omega),if_neg (by omega),hm]
  rw [hK] at hp HO HK
  obtain ⟨a,m,o,hu,hq,-,HS⟩:=ic k (oN P Q x) hp hb
  have HF : Ct 152 #[.bool (oN P Q x),.agg #[.bool a,.bool m,.bool o]] (.bool (upN 2 (oN P Q x) (mag X S))):=by
   rw [show upN 2 (oN P Q x) (mag X S) = oN P Q x by unfold upN; rw [if_neg (by omega),if_pos rfl,hd,Bool.true_and]]
   exact fun W => aih W
  by_cases hup : upN 2 (oN P Q x) (mag X S) = true
  ·rw [hup] at HF
   rw [hB,show bA 2 (oN P Q x) (mag X S) = wq (mag X S) + 1 by unfold bA; rw [hup]; rfl]
   exact og W (ab HO) (ab HK) HS HF (dY (by omega) (by omega)) (oa _ (by omega)) (dv k _ _ (by omega))
  ·have hup:=Bool.eq_false_iff.mpr hup
   rw [hup] at HF
   rw [hB,show bA 2 (oN P Q x) (mag X S) = wq (mag X S) by unfold bA; rw [hup]; rfl]
   exact oh W (ab HO) (ab HK) HS HF (ji _ (by omega)) (dv k _ _ (by omega))
theorem xe {w e f P Q b x : Int} (k : Kd w e f P Q b) (W : World) (x0 : 0 ≤ x) (x1 : x < 18446744073709551616) :
 Calls Tryz.prog 82 #[.int .i64 w,.int .u64 x] W fun r W' => r = .returned (.int .u64 (bC f P Q b 3 x)) ∧ Below W.heap.size W W':=by
 obtain ⟨X,S,ho,hp,hm⟩:=aL k x
 obtain ⟨-,-,s0,-,s2⟩:=hp.in k
 have HO:=fun W => bj x k.wd W x0 x1 ho
 have HK:=fun W => fp k (oN P Q x) hp W
 refine uF W (ab fun W => ?_)
 by_cases hb : wr (mag X S) = 0
 ·rw [show decide (wr (mag X S) ≠ 0) = false from df (fun h => h hb)] at HK
  have HN:=fun W => cE k (oN P Q x) (oK P Q x) X S s0 (by omega) W
  rw [id k x 3 hp hm hb] at HN
  exact jm W (ab HO) (ab HK) (ab HN)
 ·have hd : decide (wr (mag X S) ≠ 0) = true:=dt hb
  rw [hd] at HK
  have hK : oK P Q x = 1:=by
   refine Decidable.byContradiction fun hc => hb ?_
   rw [hp.mag0 hc]
   exact Nat.zero_mod _
  have hB : bC f P Q b 3 x = rd f P Q b (oN P Q x) (bA 3 (oN P Q x) (mag X S) * 2 ^ Z5):=by
   unfold bC
   rw [if_neg (by omega),if_neg (by omega),hm]
  rw [hK] at hp HO HK
  obtain ⟨a,m,o,hu,hq,-,HS⟩:=ic k (oN P Q x) hp hb
  have HF : Ct 153 #[.bool (oN P Q x),.agg #[.bool a,.bool m,.bool o]] (.bool (upN 3 (oN P Q x) (mag X S))):=by
   rw [show upN 3 (oN P Q x) (mag X S) = false by unfold upN; rw [if_neg (by omega),if_neg (by omega),if_neg (by omega)]]
   exact fun W => aii W
  have hup : upN 3 (oN P Q x) (mag X S) = false:=by unfold upN; rw [if_neg (by omega),if_neg (by omega),if_neg (by omega)]
  rw [hup] at HF
  rw [hB,show bA 3 (oN P Q x) (mag X S) = wq (mag X S) by unfold bA; rw [hup]; rfl]
  exact ol W (ab HO) (ab HK) HS HF (ji _ (by omega)) (dv k _ _ (by omega))
theorem ab3 {w e f P Q b x : Int} (k : Kd w e f P Q b) (W : World) (x0 : 0 ≤ x) (x1 : x < 18446744073709551616) :
 Calls Tryz.prog 83 #[.int .i64 w,.int .u64 x] W fun r W' => r = .returned (.int .u64 (bC f P Q b 4 x)) ∧ Below W.heap.size W W':=by
 obtain ⟨X,S,ho,hp,hm⟩:=aL k x
 obtain ⟨-,-,s0,-,s2⟩:=hp.in k
 have HO:=fun W => bj x k.wd W x0 x1 ho
 have HK:=fun W => fp k (oN P Q x) hp W
 refine ab7 W (ab fun W => ?_)
 by_cases hb : wr (mag X S) = 0
 ·rw [show decide (wr (mag X S) ≠ 0) = false from df (fun h => h hb)] at HK
  have HN:=fun W => cE k (oN P Q x) (oK P Q x) X S s0 (by omega) W
  rw [id k x 4 hp hm hb] at HN
  exact kf W (ab HO) (ab HK) (ab HN)
 ·have hd : decide (wr (mag X S) ≠ 0) = true:=dt hb
  rw [hd] at HK
  have hK : oK P Q x = 1:=by
   refine Decidable.byContradiction fun hc => hb ?_
   rw [hp.mag0 hc]
   exact Nat.zero_mod _
  have hB : bC f P Q b 4 x = rd f P Q b (oN P Q x) (bA 4 (oN P Q x) (mag X S) * 2 ^ Z5):=by
   unfold bC
   rw [if_neg (by omega),if_neg (by omega),hm]
  rw [hK] at hp HO HK
  obtain ⟨a,m,o,hu,hq,-,HS⟩:=ic k (oN P Q x) hp hb
  have HF:=am7 (oN P Q x) a m o
  rw [hu] at HF
  by_cases hup : upN 4 (oN P Q x) (mag X S) = true
  ·rw [hup] at HF
   rw [hB,show bA 4 (oN P Q x) (mag X S) = wq (mag X S) + 1 by unfold bA; rw [hup]; rfl]
   exact qq W (ab HO) (ab HK) HS HF (dY (by omega) (by omega)) (oa _ (by omega)) (dv k _ _ (by omega))
  ·have hup:=Bool.eq_false_iff.mpr hup
   rw [hup] at HF
   rw [hB,show bA 4 (oN P Q x) (mag X S) = wq (mag X S) by unfold bA; rw [hup]; rfl]
   exact qr W (ab HO) (ab HK) HS HF (ji _ (by omega)) (dv k _ _ (by omega))
theorem Kd.wm {w e f P Q b : Int} (k : Kd w e f P Q b) : Wm w w.toNat (P * Q) (2 * (P * Q)):=by
 rcases k with ⟨rfl,rfl,rfl,rfl,rfl,rfl⟩ | ⟨rfl,rfl,rfl,rfl,rfl,rfl⟩
 ·exact am
 ·exact ap
theorem z9 {op w e f P Q c a b : Int} (k : Kd w e f P Q c) (ha : Rg a) (hb : Rg b) (h : op - 139 = 2 ∧ w = 32 ∨ op - 153 = 2 ∧ w = 64) : Ap op a b (bC f P Q c 1 (a % (2 * (P * Q)))) 0:=
 bW k.wm ha hb h (by decide) (by decide) (cK (Or.inr (Or.inr (Or.inl ⟨rfl,(show Ct _ _ _ from ab fun W => ab2 k W (k.wm.rg a).1 (k.wm.rg a).2).m⟩))))
theorem vC {op w e f P Q c a b : Int} (k : Kd w e f P Q c) (ha : Rg a) (hb : Rg b) (h : op - 139 = 3 ∧ w = 32 ∨ op - 153 = 3 ∧ w = 64) : Ap op a b (bC f P Q c 2 (a % (2 * (P * Q)))) 0:=
 bW k.wm ha hb h (by decide) (by decide) (cK (Or.inr (Or.inr (Or.inr (Or.inl ⟨rfl,(show Ct _ _ _ from ab fun W => xc k W (k.wm.rg a).1 (k.wm.rg a).2).m⟩)))))
theorem vD {op w e f P Q c a b : Int} (k : Kd w e f P Q c) (ha : Rg a) (hb : Rg b) (h : op - 139 = 4 ∧ w = 32 ∨ op - 153 = 4 ∧ w = 64) : Ap op a b (bC f P Q c 3 (a % (2 * (P * Q)))) 0:=
 bW k.wm ha hb h (by decide) (by decide) (cK (Or.inr (Or.inr (Or.inr (Or.inr (Or.inl ⟨rfl,(show Ct _ _ _ from ab fun W => xe k W (k.wm.rg a).1 (k.wm.rg a).2).m⟩))))))
theorem aaa {op w e f P Q c a b : Int} (k : Kd w e f P Q c) (ha : Rg a) (hb : Rg b) (h : op - 139 = 5 ∧ w = 32 ∨ op - 153 = 5 ∧ w = 64) : Ap op a b (bC f P Q c 4 (a % (2 * (P * Q)))) 0:=
 bW k.wm ha hb h (by decide) (by decide) (cK (Or.inr (Or.inr (Or.inr (Or.inr (Or.inr (Or.inl ⟨rfl,(show Ct _ _ _ from ab fun W => ab3 k W (k.wm.rg a).1 (k.wm.rg a).2).m⟩)))))))
theorem ua {op w e f P Q c a b : Int} (k : Kd w e f P Q c) (ha : Rg a) (hb : Rg b) (h : op - 139 = 7 ∧ w = 32 ∨ op - 153 = 7 ∧ w = 64) : Ap op a b (il f P Q c (a % (2 * (P * Q))) (b % (2 * (P * Q)))) 0:=
 bW k.wm ha hb h (by decide) (by decide) (cK (Or.inr (Or.inr (Or.inr (Or.inr (Or.inr (Or.inr (Or.inr (Or.inl ⟨rfl,(show Ct _ _ _ from ab fun W => rD k W (k.wm.rg a).1 (k.wm.rg a).2 (k.wm.rg b).1 (k.wm.rg b).2).m⟩)))))))))
theorem agl {op w e f P Q c a b : Int} (k : Kd w e f P Q c) (ha : Rg a) (hb : Rg b) (h : op - 139 = 8 ∧ w = 32 ∨ op - 153 = 8 ∧ w = 64) : Ap op a b (kv f P Q c (a % (2 * (P * Q))) (b % (2 * (P * Q)))) 0:=
 bW k.wm ha hb h (by decide) (by decide) (cK (Or.inr (Or.inr (Or.inr (Or.inr (Or.inr (Or.inr (Or.inr (Or.inr (Or.inl ⟨rfl,(show Ct _ _ _ from ab fun W => rC k W (k.wm.rg a).1 (k.wm.rg a).2 (k.wm.rg b).1 (k.wm.rg b).2).m⟩))))))))))
theorem agm {op w e f P Q c a b : Int} (k : Kd w e f P Q c) (ha : Rg a) (hb : Rg b) (h : op - 139 = 9 ∧ w = 32 ∨ op - 153 = 9 ∧ w = 64) : Ap op a b (jw f P Q c (a % (2 * (P * Q))) (b % (2 * (P * Q)))) 0:=
 bW k.wm ha hb h (by decide) (by decide) (cK (Or.inr (Or.inr (Or.inr (Or.inr (Or.inr (Or.inr (Or.inr (Or.inr (Or.inr (Or.inl ⟨rfl,(show Ct _ _ _ from ab fun W => aau k W (k.wm.rg a).1 (k.wm.rg a).2 (k.wm.rg b).1 (k.wm.rg b).2).m⟩)))))))))))
theorem agn {op w e f P Q c a b : Int} (k : Kd w e f P Q c) (ha : Rg a) (hb : Rg b) (h : op - 139 = 10 ∧ w = 32 ∨ op - 153 = 10 ∧ w = 64) : Ap op a b (jz f P Q c (a % (2 * (P * Q))) (b % (2 * (P * Q)))) 0:=
 bW k.wm ha hb h (by decide) (by decide) (cK (Or.inr (Or.inr (Or.inr (Or.inr (Or.inr (Or.inr (Or.inr (Or.inr (Or.inr (Or.inr (Or.inl ⟨rfl,(show Ct _ _ _ from ab fun W => ahk k W (k.wm.rg a).1 (k.wm.rg a).2 (k.wm.rg b).1 (k.wm.rg b).2).m⟩))))))))))))
theorem ago {op w e f P Q c a b : Int} (k : Kd w e f P Q c) (ha : Rg a) (hb : Rg b) (h : op - 139 = 11 ∧ w = 32 ∨ op - 153 = 11 ∧ w = 64) : Ap op a b (j8 f P Q (-1) true (a % (2 * (P * Q))) (b % (2 * (P * Q)))) 0:=
 bW k.wm ha hb h (by decide) (by decide) (cK (Or.inr (Or.inr (Or.inr (Or.inr (Or.inr (Or.inr (Or.inr (Or.inr (Or.inr (Or.inr (Or.inr (Or.inl ⟨rfl,(show Ct _ _ _ from ab fun W => ah1 k W (k.wm.rg a).1 (k.wm.rg a).2 (k.wm.rg b).1 (k.wm.rg b).2).m⟩)))))))))))))
theorem agp {op w e f P Q c a b : Int} (k : Kd w e f P Q c) (ha : Rg a) (hb : Rg b) (h : op - 139 = 12 ∧ w = 32 ∨ op - 153 = 12 ∧ w = 64) : Ap op a b (j8 f P Q 1 false (a % (2 * (P * Q))) (b % (2 * (P * Q)))) 0:=
 bW k.wm ha hb h (by decide) (by decide) (cK (Or.inr (Or.inr (Or.inr (Or.inr (Or.inr (Or.inr (Or.inr (Or.inr (Or.inr (Or.inr (Or.inr (Or.inr (Or.inl ⟨rfl,(show Ct _ _ _ from ab fun W => ah2 k W (k.wm.rg a).1 (k.wm.rg a).2 (k.wm.rg b).1 (k.wm.rg b).2).m⟩))))))))))))))
theorem agq {op w e f P Q c a b : Int} (k : Kd w e f P Q c) (ha : Rg a) (hb : Rg b) (h : op - 139 = 0 ∧ w = 32 ∨ op - 153 = 0 ∧ w = 64) : Ap op a b (sN f P Q false (a % (2 * (P * Q)))) 0:=
 bW k.wm ha hb h (by decide) (by decide) (cK (Or.inl ⟨rfl,uH k.wd (k.wm.rg a).1 (k.wm.rg a).2⟩))
theorem agr {op w e f P Q c a b : Int} (k : Kd w e f P Q c) (ha : Rg a) (hb : Rg b) (h : op - 139 = 1 ∧ w = 32 ∨ op - 153 = 1 ∧ w = 64) : Ap op a b (sN f P Q (!sg P Q (a % (2 * (P * Q)))) (a % (2 * (P * Q)))) 0:=
 bW k.wm ha hb h (by decide) (by decide) (cK (Or.inr (Or.inl ⟨rfl,aiq k.wd (k.wm.rg a).1 (k.wm.rg a).2⟩)))
theorem aab {op w e f P Q c a b : Int} (k : Kd w e f P Q c) (ha : Rg a) (hb : Rg b) (h : op - 139 = 13 ∧ w = 32 ∨ op - 153 = 13 ∧ w = 64) : Ap op a b (sN f P Q (sg P Q (b % (2 * (P * Q)))) (a % (2 * (P * Q)))) 0:=
 bW k.wm ha hb h (by decide) (by decide) (cK (Or.inr (Or.inr (Or.inr (Or.inr (Or.inr (Or.inr (Or.inr (Or.inr (Or.inr (Or.inr (Or.inr (Or.inr (Or.inr (⟨rfl,acj k.wd (k.wm.rg a).1 (k.wm.rg a).2 (k.wm.rg b).1 (k.wm.rg b).2⟩)))))))))))))))
theorem aac {op w e f P Q c a b : Int} (k : Kd w e f P Q c) (ha : Rg a) (hb : Rg b) {d : Nat} (hd : IsR f P Q c (a % (2 * (P * Q))) d) (h : op - 139 = 6 ∧ w = 32 ∨ op - 153 = 6 ∧ w = 64) : Ap op a b (sqB f P Q (a % (2 * (P * Q))) d) 0:=
 bW k.wm ha hb h (by decide) (by decide) (cK (Or.inr (Or.inr (Or.inr (Or.inr (Or.inr (Or.inr (Or.inl ⟨rfl,(show Ct _ _ _ from ab fun W => abf k W (k.wm.rg a).1 (k.wm.rg a).2 hd).m⟩))))))))
theorem al6 {op w e f P Q c a b : Int} (k : Kd w e f P Q c) (ha : Rg a) (hb : Rg b) (h : op - 91 = 0 ∧ w = 32 ∨ op - 97 = 0 ∧ w = 64) : Ap op a b (if (bT P Q (a % (2 * (P * Q))) (b % (2 * (P * Q))) == 0) then 1 else 0) 0:=
 gP k.wm ha hb h (by decide) (by decide) (ju (Or.inl ⟨rfl,(show Ct _ _ _ from ab fun W => nZ k W (k.wm.rg a).1 (k.wm.rg a).2 (k.wm.rg b).1 (k.wm.rg b).2).m⟩))
theorem al7 {op w e f P Q c a b : Int} (k : Kd w e f P Q c) (ha : Rg a) (hb : Rg b) (h : op - 91 = 1 ∧ w = 32 ∨ op - 97 = 1 ∧ w = 64) : Ap op a b (if (bT P Q (a % (2 * (P * Q))) (b % (2 * (P * Q))) != 0) then 1 else 0) 0:=
 gP k.wm ha hb h (by decide) (by decide) (ju (Or.inr (Or.inl ⟨rfl,(show Ct _ _ _ from ab fun W => am2 k W (k.wm.rg a).1 (k.wm.rg a).2 (k.wm.rg b).1 (k.wm.rg b).2).m⟩)))
theorem al8 {op w e f P Q c a b : Int} (k : Kd w e f P Q c) (ha : Rg a) (hb : Rg b) (h : op - 91 = 2 ∧ w = 32 ∨ op - 97 = 2 ∧ w = 64) : Ap op a b (if (bT P Q (a % (2 * (P * Q))) (b % (2 * (P * Q))) == -1) then 1 else 0) 0:=
 gP k.wm ha hb h (by decide) (by decide) (ju (Or.inr (Or.inr (Or.inl ⟨rfl,(show Ct _ _ _ from ab fun W => sK k W (k.wm.rg a).1 (k.wm.rg a).2 (k.wm.rg b).1 (k.wm.rg b).2).m⟩))))
theorem al9 {op w e f P Q c a b : Int} (k : Kd w e f P Q c) (ha : Rg a) (hb : Rg b) (h : op - 91 = 3 ∧ w = 32 ∨ op - 97 = 3 ∧ w = 64) : Ap op a b (if (bT P Q (a % (2 * (P * Q))) (b % (2 * (P * Q))) == 1) then 1 else 0) 0:=
 gP k.wm ha hb h (by decide) (by decide) (ju (Or.inr (Or.inr (Or.inr (Or.inl ⟨rfl,(show Ct _ _ _ from ab fun W => sM k W (k.wm.rg a).1 (k.wm.rg a).2 (k.wm.rg b).1 (k.wm.rg b).2).m⟩)))))
theorem ama {op w e f P Q c a b : Int} (k : Kd w e f P Q c) (ha : Rg a) (hb : Rg b) (h : op - 91 = 4 ∧ w = 32 ∨ op - 97 = 4 ∧ w = 64) : Ap op a b (if (bT P Q (a % (2 * (P * Q))) (b % (2 * (P * Q))) == -1 || bT P Q (a % (2 * (P * Q))) (b % (2 * (P * Q))) == 0) then 1 else 0) 0:=
 gP k.wm ha hb h (by decide) (by decide) (ju (Or.inr (Or.inr (Or.inr (Or.inr (Or.inl ⟨rfl,(show Ct _ _ _ from ab fun W => am0 k W (k.wm.rg a).1 (k.wm.rg a).2 (k.wm.rg b).1 (k.wm.rg b).2).m⟩))))))
theorem amb {op w e f P Q c a b : Int} (k : Kd w e f P Q c) (ha : Rg a) (hb : Rg b) (h : op - 91 = 5 ∧ w = 32 ∨ op - 97 = 5 ∧ w = 64) : Ap op a b (if (bT P Q (a % (2 * (P * Q))) (b % (2 * (P * Q))) == 1 || bT P Q (a % (2 * (P * Q))) (b % (2 * (P * Q))) == 0) then 1 else 0) 0:=
 gP k.wm ha hb h (by decide) (by decide) (ju (Or.inr (Or.inr (Or.inr (Or.inr (Or.inr (⟨rfl,(show Ct _ _ _ from ab fun W => am1 k W (k.wm.rg a).1 (k.wm.rg a).2 (k.wm.rg b).1 (k.wm.rg b).2).m⟩)))))))
theorem er {w e f P Q b X S : Int} (k : Kd w e f P Q b) (n : Bool) (h : Prt f P Q b 1 X S) (W : World) :
 Calls Tryz.prog 186 #[.agg #[.bool n,.int .i64 1,.int .i64 X,.int .u64 S]] W fun e w' => ∃ s,e = .returned (.tuple #[.agg #[s],.int .i64 (wh (mag X S)),.bool (decide (wr (mag X S) ≠ 0))]) ∧ ai w' s (wq (mag X S)) ∧ Below W.heap.size W w':=by
 obtain ⟨x0,x1,s0,-,s2⟩:=h.in k
 by_cases hX : 0 ≤ X
 ·obtain ⟨e1,e2,e3⟩:=jC (S:=S) hX
  have:=aip (K1:=1) (X1:=X) (S1:=S) (n1:=n) W (ab ⟨s0,by omega,by omega⟩) hX
  rw [e1,e2,e3,show decide ((0 : Nat) ≠ 0) = false from rfl]
  exact this
 ·obtain ⟨e1,-,e3⟩:=ma (-X).toNat (by omega) (X:=X) (S:=S) (by omega)
  have e2:=uD (-X).toNat (by omega) (X:=X) (S:=S) (by omega)
  have:=aio (K1:=1) (X1:=X) (S1:=S) (n1:=n) (-X).toNat W (ab ⟨s0,by omega,by omega⟩) hX (by rw [aj (by omega) (by omega)]; omega)
  rw [Nat.one_mul] at this
  rw [e1,e3]
  simp only [e2]
  exact this
theorem uJ {w e f P Q b X S : Int} (k : Kd w e f P Q b) (h : Prt f P Q b 1 X S) : wq (mag X S) < pw 100:=by
 obtain ⟨x0,x1,s0,-,s2⟩:=h.in k
 by_cases hX : 0 ≤ X
 ·rw [(jC hX).1]
  exact nS (by omega) (by omega)
 ·rw [(ma (-X).toNat (by omega) (X:=X) (S:=S) (by omega)).1]
  have h1:=nS (S:=S.toNat) (d:=0) (by omega) (by omega)
  rw [Nat.pow_zero,Nat.mul_one] at h1
  exact Nat.lt_of_le_of_lt (Nat.div_le_self _ _) h1
theorem kO {z : Nat} (h : z < pw 100) : z + 1 < pw 140:=by
 have h1 : pw 101 = _:=b8 100
 have h2:=ck (k:=101) 140 (x:=z + 1) (by omega) (by omega)
 exact h2
theorem et {w e f P Q b : Int} (k : Kd w e f P Q b) (n : Bool) (z : Nat) (hz : z < pw 140) :
 Hid (∀ (a : Option Addr) (m c : Nat) (W : World),ai W (.slice a m c) z → Calls Tryz.prog 185 #[.int .i64 w,.bool n,.agg #[.slice a m c],.int .i64 0] W fun r W' => r = .returned (.int .u64 (rd f P Q b n (z * 2 ^ Z5))) ∧ Below W.heap.size W W'):=
 pu k n z (z * 2 ^ Z5) hz (by omega) (by omega) (by rw [un])
theorem xk {w e f P Q b x : Int} (k : Kd w e f P Q b) (W : World) (x0 : 0 ≤ x) (x1 : x < 18446744073709551616) :
 Calls Tryz.prog 203 #[.int .i64 w,.int .u64 x,.int .i64 1] W fun r W' => r = .returned (.int .u64 (bC f P Q b 1 x)) ∧ Below W.heap.size W W':=by
 obtain ⟨X,S,ho,hp,hm⟩:=aL k x
 have HO:=fun W => aN x k W x0 x1 ho
 by_cases h3 : oK P Q x = 3
 ·unfold bC
  rw [if_pos h3]
  exact ie W (ab HO) (aH h3) (ab (fun W => bN k W))
 by_cases h1 : oK P Q x = 1
 ·have hB : bC f P Q b 1 x = rd f P Q b (oN P Q x) (bA 1 (oN P Q x) (mag X S) * 2 ^ Z5):=by
   unfold bC
   rw [if_neg h3,if_neg (fun h => h h1),hm]
  rw [hB]
  rw [h1] at hp HO
  have HD:=fun W => er k (oN P Q x) hp W
  have hz:=uJ k hp
  have hz0 : wq (mag X S) < pw 140:=ck 140 hz (by omega)
  have e0:=et k (oN P Q x) _ hz0
  have e1:=et k (oN P Q x) _ (kO hz)
  unfold bA
  generalize oN P Q x = nn at *
  by_cases hb : wr (mag X S) = 0
  ·rw [oe 1 nn hb]
   rw [df (fun h => h hb)] at HD
   exact ab8 W (ab HO) _ (au (by omega)) (dJ rfl) (ab HD) e0
  ·rw [dt hb] at HD
   have hu : upN 1 nn (mag X S) = !nn:=by unfold upN; rw [if_pos rfl,dt hb,Bool.true_and]
   rw [hu]
   cases nn
   ·exact acd W (ab HO) _ (au (by omega)) (dJ rfl) (ab HD) (ab hz) e1
   ·exact ab9 W (ab HO) _ (au (by omega)) (dJ rfl) (ab HD) e0
 ·unfold bC
  rw [if_neg h3,if_pos h1]
  exact ig W (ab HO) (au h3) (dj h1) (ab (fun W => bw x k W x0 x1))
theorem xl {w e f P Q b x : Int} (k : Kd w e f P Q b) (W : World) (x0 : 0 ≤ x) (x1 : x < 18446744073709551616) :
 Calls Tryz.prog 203 #[.int .i64 w,.int .u64 x,.int .i64 2] W fun r W' => r = .returned (.int .u64 (bC f P Q b 2 x)) ∧ Below W.heap.size W W':=by
 obtain ⟨X,S,ho,hp,hm⟩:=aL k x
 have HO:=fun W => aN x k W x0 x1 ho
 by_cases h3 : oK P Q x = 3
 ·unfold bC
  rw [if_pos h3]
  exact ie W (ab HO) (aH h3) (ab (fun W => bN k W))
 by_cases h1 : oK P Q x = 1
 ·have hB : bC f P Q b 2 x = rd f P Q b (oN P Q x) (bA 2 (oN P Q x) (mag X S) * 2 ^ Z5):=by
   unfold bC
   rw [if_neg h3,if_neg (fun h => h h1),hm]
  rw [hB]
  rw [h1] at hp HO
  have HD:=fun W => er k (oN P Q x) hp W
  have hz:=uJ k hp
  have hz0 : wq (mag X S) < pw 140:=ck 140 hz (by omega)
  have e0:=et k (oN P Q x) _ hz0
  have e1:=et k (oN P Q x) _ (kO hz)
  unfold bA
  generalize oN P Q x = nn at *
  by_cases hb : wr (mag X S) = 0
  ·rw [oe 2 nn hb]
   rw [df (fun h => h hb)] at HD
   exact aca W (ab HO) _ (au (by omega)) (dJ rfl) (ab HD) e0
  ·rw [dt hb] at HD
   have hu : upN 2 nn (mag X S) = nn:=by unfold upN; rw [if_neg (by omega),if_pos rfl,dt hb,Bool.true_and]
   rw [hu]
   cases nn
   ·exact acb W (ab HO) _ (au (by omega)) (dJ rfl) (ab HD) e0
   ·exact ace W (ab HO) _ (au (by omega)) (dJ rfl) (ab HD) (ab hz) e1
 ·unfold bC
  rw [if_neg h3,if_pos h1]
  exact ig W (ab HO) (au h3) (dj h1) (ab (fun W => bw x k W x0 x1))
theorem xo {w e f P Q b x : Int} (k : Kd w e f P Q b) (W : World) (x0 : 0 ≤ x) (x1 : x < 18446744073709551616) :
 Calls Tryz.prog 203 #[.int .i64 w,.int .u64 x,.int .i64 3] W fun r W' => r = .returned (.int .u64 (bC f P Q b 3 x)) ∧ Below W.heap.size W W':=by
 obtain ⟨X,S,ho,hp,hm⟩:=aL k x
 have HO:=fun W => aN x k W x0 x1 ho
 by_cases h3 : oK P Q x = 3
 ·unfold bC
  rw [if_pos h3]
  exact ie W (ab HO) (aH h3) (ab (fun W => bN k W))
 by_cases h1 : oK P Q x = 1
 ·have hB : bC f P Q b 3 x = rd f P Q b (oN P Q x) (bA 3 (oN P Q x) (mag X S) * 2 ^ Z5):=by
   unfold bC
   rw [if_neg h3,if_neg (fun h => h h1),hm]
  rw [hB]
  rw [h1] at hp HO
  have HD:=fun W => er k (oN P Q x) hp W
  have hz:=uJ k hp
  have hz0 : wq (mag X S) < pw 140:=ck 140 hz (by omega)
  have e0:=et k (oN P Q x) _ hz0
  have e1:=et k (oN P Q x) _ (kO hz)
  unfold bA
  rw [show upN 3 (oN P Q x) (mag X S) = false by unfold upN; rw [if_neg (by omega),if_neg (by omega),if_neg (by omega)]]
  exact aim W (ab HO) _ (au (by omega)) (dJ rfl) (ab HD) e0
 ·unfold bC
  rw [if_neg h3,if_pos h1]
  exact ig W (ab HO) (au h3) (dj h1) (ab (fun W => bw x k W x0 x1))
theorem xp {w e f P Q b x : Int} (k : Kd w e f P Q b) (W : World) (x0 : 0 ≤ x) (x1 : x < 18446744073709551616) :
 Calls Tryz.prog 203 #[.int .i64 w,.int .u64 x,.int .i64 4] W fun r W' => r = .returned (.int .u64 (bC f P Q b 4 x)) ∧ Below W.heap.size W W':=by
 obtain ⟨X,S,ho,hp,hm⟩:=aL k x
 have HO:=fun W => aN x k W x0 x1 ho
 by_cases h3 : oK P Q x = 3
 ·unfold bC
  rw [if_pos h3]
  exact ie W (ab HO) (aH h3) (ab (fun W => bN k W))
 by_cases h1 : oK P Q x = 1
 ·have hB : bC f P Q b 4 x = rd f P Q b (oN P Q x) (bA 4 (oN P Q x) (mag X S) * 2 ^ Z5):=by
   unfold bC
   rw [if_neg h3,if_neg (fun h => h h1),hm]
  rw [hB]
  rw [h1] at hp HO
  have HD:=fun W => er k (oN P Q x) hp W
  have hz:=uJ k hp
  have hz0 : wq (mag X S) < pw 140:=ck 140 hz (by omega)
  have e0:=et k (oN P Q x) _ hz0
  have e1:=et k (oN P Q x) _ (kO hz)
  unfold bA
  have hu : upN 4 (oN P Q x) (mag X S) = (decide (wh (mag X S) = 1) || (decide (wh (mag X S) = 0) && decide (wq (mag X S) % 2 = 1))):=by unfold upN; rw [if_neg (by omega),if_neg (by omega),if_pos rfl]
  rw [hu]
  have hl : (lo (wq (mag X S))).tmod 2 = ((wq (mag X S) % 2 : Nat) : Int):=by
   have h0:=ml (wq (mag X S))
   rw [Int.tmod_eq_emod_of_nonneg h0]
   unfold lo
   omega
  have hw : wh (mag X S) = -1 ∨ wh (mag X S) = 0 ∨ wh (mag X S) = 1:=by
   rcases od (wr (mag X S) * 2 ^ 1) (2 ^ Z5) with ⟨h,-⟩ | ⟨h,-⟩ | ⟨h,-⟩
   ·exact Or.inl h
   ·exact Or.inr (Or.inl h)
   ·exact Or.inr (Or.inr h)
  rcases hw with h | h | h <;> rw [h] at HD ⊢
  ·rw [show (decide ((-1 : Int) = 1) || (decide ((-1 : Int) = 0) && decide (wq (mag X S) % 2 = 1))) = false by simp]
   exact acc W (ab HO) _ (au (by omega)) (dJ rfl) (ab HD) e0
  ·by_cases hc : wq (mag X S) % 2 = 1
   ·rw [show (decide ((0 : Int) = 1) || (decide ((0 : Int) = 0) && decide (wq (mag X S) % 2 = 1))) = true by simp [hc]]
    exact acg W (ab HO) _ (au (by omega)) (dJ rfl) (ab HD) (ab hz) (ab rfl) (by rw [hl,hc]; rfl) e1
   ·rw [show (decide ((0 : Int) = 1) || (decide ((0 : Int) = 0) && decide (wq (mag X S) % 2 = 1))) = false by simp [hc]]
    exact ach W (ab HO) _ (au (by omega)) (dJ rfl) (ab HD) (ab rfl) (by rw [hl,show wq (mag X S) % 2 = 0 by omega]; rfl) e0
  ·rw [show (decide ((1 : Int) = 1) || (decide ((1 : Int) = 0) && decide (wq (mag X S) % 2 = 1))) = true by simp]
   exact acf W (ab HO) _ (au (by omega)) (dJ rfl) (ab HD) (ab hz) e1
 ·unfold bC
  rw [if_neg h3,if_pos h1]
  exact ig W (ab HO) (au h3) (dj h1) (ab (fun W => bw x k W x0 x1))
def Uf (op w a b M : Int) (s : ByteArray) : Prop:=∃ v,Ap op a b v 0 ∧ Ct 45 #[.string s,.int .i64 w,.int .u64 (a % M),.int .u64 (b % M)] (.int .u64 v)
theorem fK (P Q x y : Int) : bT P Q x y = -1 ∨ bT P Q x y = 0 ∨ bT P Q x y = 1 ∨ bT P Q x y = 2:=by
 have:=jB P Q x y
 omega
theorem ajp {op w e f P Q c a b : Int} (k : Kd w e f P Q c) (ha : Rg a) (hb : Rg b) (h : op - 91 = 0 ∧ w = 32 ∨ op - 97 = 0 ∧ w = 64) : Uf op w a b (2 * (P * Q)) ⟨#[101,113]⟩:=
 ⟨_,al6 k ha hb h,ctu (xj (ab fun W => aI k W (k.wm.rg a).1 (k.wm.rg a).2 (k.wm.rg b).1 (k.wm.rg b).2) (fK _ _ _ _) (Or.inl ⟨rfl,rfl⟩)) (cN rfl)⟩
theorem ajq {op w e f P Q c a b : Int} (k : Kd w e f P Q c) (ha : Rg a) (hb : Rg b) (h : op - 91 = 1 ∧ w = 32 ∨ op - 97 = 1 ∧ w = 64) : Uf op w a b (2 * (P * Q)) ⟨#[110,101]⟩:=
 ⟨_,al7 k ha hb h,ctu (xj (ab fun W => aI k W (k.wm.rg a).1 (k.wm.rg a).2 (k.wm.rg b).1 (k.wm.rg b).2) (fK _ _ _ _) (Or.inr (Or.inl ⟨rfl,rfl⟩))) (cN rfl)⟩
theorem ajr {op w e f P Q c a b : Int} (k : Kd w e f P Q c) (ha : Rg a) (hb : Rg b) (h : op - 91 = 2 ∧ w = 32 ∨ op - 97 = 2 ∧ w = 64) : Uf op w a b (2 * (P * Q)) ⟨#[108,116]⟩:=
 ⟨_,al8 k ha hb h,ctu (xj (ab fun W => aI k W (k.wm.rg a).1 (k.wm.rg a).2 (k.wm.rg b).1 (k.wm.rg b).2) (fK _ _ _ _) (Or.inr (Or.inr (Or.inl ⟨rfl,rfl⟩)))) (cN rfl)⟩
theorem ajs {op w e f P Q c a b : Int} (k : Kd w e f P Q c) (ha : Rg a) (hb : Rg b) (h : op - 91 = 3 ∧ w = 32 ∨ op - 97 = 3 ∧ w = 64) : Uf op w a b (2 * (P * Q)) ⟨#[103,116]⟩:=
 ⟨_,al9 k ha hb h,ctu (xj (ab fun W => aI k W (k.wm.rg a).1 (k.wm.rg a).2 (k.wm.rg b).1 (k.wm.rg b).2) (fK _ _ _ _) (Or.inr (Or.inr (Or.inr (Or.inl ⟨rfl,rfl⟩))))) (cN rfl)⟩
theorem ajt {op w e f P Q c a b : Int} (k : Kd w e f P Q c) (ha : Rg a) (hb : Rg b) (h : op - 91 = 4 ∧ w = 32 ∨ op - 97 = 4 ∧ w = 64) : Uf op w a b (2 * (P * Q)) ⟨#[108,101]⟩:=
 ⟨_,ama k ha hb h,ctu (xj (ab fun W => aI k W (k.wm.rg a).1 (k.wm.rg a).2 (k.wm.rg b).1 (k.wm.rg b).2) (fK _ _ _ _) (Or.inr (Or.inr (Or.inr (Or.inr (Or.inl ⟨rfl,rfl⟩)))))) (cN rfl)⟩
theorem aju {op w e f P Q c a b : Int} (k : Kd w e f P Q c) (ha : Rg a) (hb : Rg b) (h : op - 91 = 5 ∧ w = 32 ∨ op - 97 = 5 ∧ w = 64) : Uf op w a b (2 * (P * Q)) ⟨#[103,101]⟩:=
 ⟨_,amb k ha hb h,ctu (xj (ab fun W => aI k W (k.wm.rg a).1 (k.wm.rg a).2 (k.wm.rg b).1 (k.wm.rg b).2) (fK _ _ _ _) (Or.inr (Or.inr (Or.inr (Or.inr (Or.inr (⟨rfl,rfl⟩))))))) (cN rfl)⟩
theorem zV {op w e f P Q c a b : Int} (k : Kd w e f P Q c) (ha : Rg a) (hb : Rg b) (h : op - 139 = 0 ∧ w = 32 ∨ op - 153 = 0 ∧ w = 64) : Uf op w a b (2 * (P * Q)) ⟨#[97,98,115]⟩:=
 ⟨_,agq k ha hb h,jo (ab fun W => aI k W (k.wm.rg a).1 (k.wm.rg a).2 (k.wm.rg b).1 (k.wm.rg b).2) (Or.inr (Or.inr (Or.inr (Or.inr (Or.inr (Or.inr (Or.inr (⟨(Or.inl rfl),qQ (Or.inl ⟨rfl,(ab fun W => jE k false (k.wm.rg a).1 (k.wm.rg a).2 W)⟩)⟩))))))))⟩
theorem zW {op w e f P Q c a b : Int} (k : Kd w e f P Q c) (ha : Rg a) (hb : Rg b) (h : op - 139 = 1 ∧ w = 32 ∨ op - 153 = 1 ∧ w = 64) : Uf op w a b (2 * (P * Q)) ⟨#[110,101,103]⟩:=
 ⟨_,agr k ha hb h,jo (ab fun W => aI k W (k.wm.rg a).1 (k.wm.rg a).2 (k.wm.rg b).1 (k.wm.rg b).2) (Or.inr (Or.inr (Or.inr (Or.inr (Or.inr (Or.inr (Or.inr (⟨(Or.inr (Or.inl rfl)),qQ (Or.inr (Or.inl ⟨rfl,_,(ab fun W => dq _ k W (k.wm.rg a).1 (k.wm.rg a).2),(ab fun W => jE k _ (k.wm.rg a).1 (k.wm.rg a).2 W)⟩))⟩))))))))⟩
theorem t8 {op w e f P Q c a b : Int} (k : Kd w e f P Q c) (ha : Rg a) (hb : Rg b) (h : op - 139 = 2 ∧ w = 32 ∨ op - 153 = 2 ∧ w = 64) : Uf op w a b (2 * (P * Q)) ⟨#[99,101,105,108]⟩:=
 ⟨_,z9 k ha hb h,jo (ab fun W => aI k W (k.wm.rg a).1 (k.wm.rg a).2 (k.wm.rg b).1 (k.wm.rg b).2) (Or.inr (Or.inr (Or.inr (Or.inr (Or.inr (Or.inr (Or.inr (⟨(Or.inr (Or.inr (Or.inl rfl))),qQ (Or.inr (Or.inr (Or.inl ⟨rfl,ab fun W => xk k W (k.wm.rg a).1 (k.wm.rg a).2⟩)))⟩))))))))⟩
theorem pb {op w e f P Q c a b : Int} (k : Kd w e f P Q c) (ha : Rg a) (hb : Rg b) (h : op - 139 = 3 ∧ w = 32 ∨ op - 153 = 3 ∧ w = 64) : Uf op w a b (2 * (P * Q)) ⟨#[102,108,111,111,114]⟩:=
 ⟨_,vC k ha hb h,jo (ab fun W => aI k W (k.wm.rg a).1 (k.wm.rg a).2 (k.wm.rg b).1 (k.wm.rg b).2) (Or.inr (Or.inr (Or.inr (Or.inr (Or.inr (Or.inr (Or.inr (⟨(Or.inr (Or.inr (Or.inr (Or.inl rfl)))),qQ (Or.inr (Or.inr (Or.inr (Or.inl ⟨rfl,ab fun W => xl k W (k.wm.rg a).1 (k.wm.rg a).2⟩))))⟩))))))))⟩
theorem pc {op w e f P Q c a b : Int} (k : Kd w e f P Q c) (ha : Rg a) (hb : Rg b) (h : op - 139 = 4 ∧ w = 32 ∨ op - 153 = 4 ∧ w = 64) : Uf op w a b (2 * (P * Q)) ⟨#[116,114,117,110,99]⟩:=
 ⟨_,vD k ha hb h,jo (ab fun W => aI k W (k.wm.rg a).1 (k.wm.rg a).2 (k.wm.rg b).1 (k.wm.rg b).2) (Or.inr (Or.inr (Or.inr (Or.inr (Or.inr (Or.inr (Or.inr (⟨(Or.inr (Or.inr (Or.inr (Or.inr (Or.inl rfl))))),qQ (Or.inr (Or.inr (Or.inr (Or.inr (Or.inl ⟨rfl,ab fun W => xo k W (k.wm.rg a).1 (k.wm.rg a).2⟩)))))⟩))))))))⟩
theorem lE {op w e f P Q c a b : Int} (k : Kd w e f P Q c) (ha : Rg a) (hb : Rg b) (h : op - 139 = 5 ∧ w = 32 ∨ op - 153 = 5 ∧ w = 64) : Uf op w a b (2 * (P * Q)) ⟨#[110,101,97,114,101,115,116]⟩:=
 ⟨_,aaa k ha hb h,jo (ab fun W => aI k W (k.wm.rg a).1 (k.wm.rg a).2 (k.wm.rg b).1 (k.wm.rg b).2) (Or.inr (Or.inr (Or.inr (Or.inr (Or.inr (Or.inr (Or.inr (⟨(Or.inr (Or.inr (Or.inr (Or.inr (Or.inr (Or.inl rfl)))))),qQ (Or.inr (Or.inr (Or.inr (Or.inr (Or.inr (Or.inl ⟨rfl,ab fun W => xp k W (k.wm.rg a).1 (k.wm.rg a).2⟩))))))⟩))))))))⟩
theorem t9 {op w e f P Q c a b : Int} (k : Kd w e f P Q c) (ha : Rg a) (hb : Rg b) (h : op - 139 = 6 ∧ w = 32 ∨ op - 153 = 6 ∧ w = 64) : Uf op w a b (2 * (P * Q)) ⟨#[115,113,114,116]⟩:=by
 obtain ⟨d,hd⟩:=amu f P Q c (a % (2 * (P * Q)))
 exact ⟨_,aac k ha hb hd h,jo (ab fun W => aI k W (k.wm.rg a).1 (k.wm.rg a).2 (k.wm.rg b).1 (k.wm.rg b).2) (Or.inr (Or.inr (Or.inr (Or.inr (Or.inr (Or.inr (Or.inr (⟨(Or.inr (Or.inr (Or.inr (Or.inr (Or.inr (Or.inr (rfl))))))),qQ (Or.inr (Or.inr (Or.inr (Or.inr (Or.inr (Or.inr (⟨rfl,ab fun W => qh k W (k.wm.rg a).1 (k.wm.rg a).2 hd⟩)))))))⟩))))))))⟩
theorem zX {op w e f P Q c a b : Int} (k : Kd w e f P Q c) (ha : Rg a) (hb : Rg b) (h : op - 139 = 7 ∧ w = 32 ∨ op - 153 = 7 ∧ w = 64) : Uf op w a b (2 * (P * Q)) ⟨#[97,100,100]⟩:=
 ⟨_,ua k ha hb h,jo (ab fun W => aI k W (k.wm.rg a).1 (k.wm.rg a).2 (k.wm.rg b).1 (k.wm.rg b).2) (Or.inl ⟨rfl,(ab fun W => r8 k W (k.wm.rg a).1 (k.wm.rg a).2 (k.wm.rg b).1 (k.wm.rg b).2)⟩)⟩
theorem zY {op w e f P Q c a b : Int} (k : Kd w e f P Q c) (ha : Rg a) (hb : Rg b) (h : op - 139 = 8 ∧ w = 32 ∨ op - 153 = 8 ∧ w = 64) : Uf op w a b (2 * (P * Q)) ⟨#[115,117,98]⟩:=
 ⟨_,agl k ha hb h,jo (ab fun W => aI k W (k.wm.rg a).1 (k.wm.rg a).2 (k.wm.rg b).1 (k.wm.rg b).2) (Or.inr (Or.inl ⟨rfl,(ab fun W => r9 k W (k.wm.rg a).1 (k.wm.rg a).2 (k.wm.rg b).1 (k.wm.rg b).2)⟩))⟩
theorem zZ {op w e f P Q c a b : Int} (k : Kd w e f P Q c) (ha : Rg a) (hb : Rg b) (h : op - 139 = 9 ∧ w = 32 ∨ op - 153 = 9 ∧ w = 64) : Uf op w a b (2 * (P * Q)) ⟨#[109,117,108]⟩:=
 ⟨_,agm k ha hb h,jo (ab fun W => aI k W (k.wm.rg a).1 (k.wm.rg a).2 (k.wm.rg b).1 (k.wm.rg b).2) (Or.inr (Or.inr (Or.inl ⟨rfl,(ab fun W => pr k W (k.wm.rg a).1 (k.wm.rg a).2 (k.wm.rg b).1 (k.wm.rg b).2)⟩)))⟩
theorem z6 {op w e f P Q c a b : Int} (k : Kd w e f P Q c) (ha : Rg a) (hb : Rg b) (h : op - 139 = 10 ∧ w = 32 ∨ op - 153 = 10 ∧ w = 64) : Uf op w a b (2 * (P * Q)) ⟨#[100,105,118]⟩:=
 ⟨_,agn k ha hb h,jo (ab fun W => aI k W (k.wm.rg a).1 (k.wm.rg a).2 (k.wm.rg b).1 (k.wm.rg b).2) (Or.inr (Or.inr (Or.inr (Or.inl ⟨rfl,(ab fun W => pV k W (k.wm.rg a).1 (k.wm.rg a).2 (k.wm.rg b).1 (k.wm.rg b).2)⟩))))⟩
theorem z7 {op w e f P Q c a b : Int} (k : Kd w e f P Q c) (ha : Rg a) (hb : Rg b) (h : op - 139 = 11 ∧ w = 32 ∨ op - 153 = 11 ∧ w = 64) : Uf op w a b (2 * (P * Q)) ⟨#[109,105,110]⟩:=
 ⟨_,ago k ha hb h,jo (ab fun W => aI k W (k.wm.rg a).1 (k.wm.rg a).2 (k.wm.rg b).1 (k.wm.rg b).2) (Or.inr (Or.inr (Or.inr (Or.inr (Or.inl ⟨rfl,(ab fun W => j9 k (-1) true W (k.wm.rg a).1 (k.wm.rg a).2 (k.wm.rg b).1 (k.wm.rg b).2)⟩)))))⟩
theorem z8 {op w e f P Q c a b : Int} (k : Kd w e f P Q c) (ha : Rg a) (hb : Rg b) (h : op - 139 = 12 ∧ w = 32 ∨ op - 153 = 12 ∧ w = 64) : Uf op w a b (2 * (P * Q)) ⟨#[109,97,120]⟩:=
 ⟨_,agp k ha hb h,jo (ab fun W => aI k W (k.wm.rg a).1 (k.wm.rg a).2 (k.wm.rg b).1 (k.wm.rg b).2) (Or.inr (Or.inr (Or.inr (Or.inr (Or.inr (Or.inl ⟨rfl,(ab fun W => j9 k 1 false W (k.wm.rg a).1 (k.wm.rg a).2 (k.wm.rg b).1 (k.wm.rg b).2)⟩))))))⟩
theorem jW {op w e f P Q c a b : Int} (k : Kd w e f P Q c) (ha : Rg a) (hb : Rg b) (h : op - 139 = 13 ∧ w = 32 ∨ op - 153 = 13 ∧ w = 64) : Uf op w a b (2 * (P * Q)) ⟨#[99,111,112,121,115,105,103,110]⟩:=
 ⟨_,aab k ha hb h,jo (ab fun W => aI k W (k.wm.rg a).1 (k.wm.rg a).2 (k.wm.rg b).1 (k.wm.rg b).2) (Or.inr (Or.inr (Or.inr (Or.inr (Or.inr (Or.inr (Or.inl ⟨rfl,_,(ab fun W => dq _ k W (k.wm.rg b).1 (k.wm.rg b).2),(ab fun W => jE k _ (k.wm.rg a).1 (k.wm.rg a).2 W)⟩)))))))⟩
theorem k32 : Kd 32 8 23 8388608 256 127:=Or.inl ⟨rfl,rfl,rfl,rfl,rfl,rfl⟩
theorem k64 : Kd 64 11 52 4503599627370496 2048 1023:=Or.inr ⟨rfl,rfl,rfl,rfl,rfl,rfl⟩
theorem arf (a : Int) : Ct 97 #[.int .i64 64,.int .i64 32,.int .u64 (a % 4294967296),.bool true] (.int .u64 ((bX (fJ (a % 4294967296).toNat 32 true) 64 : Nat) : Int)):=by
 obtain ⟨h0,h1⟩:=am.rg a
 have h:=apz (f:=32) (m:=32) (b:=(a % 4294967296).toNat) ap (Or.inr (Or.inr (Or.inl ⟨rfl,rfl⟩))) (by omega) (by decide) true
 rw [show (((a % 4294967296).toNat : Nat) : Int) = a % 4294967296 by omega] at h
 exact h
theorem arg {a b : Int} (ha : Rg a) (hb : Rg b) : Ap 167 a b ((a % 18446744073709551616) % 4294967296) 0:=bK (k:=0) rfl rfl (by decide) (by decide) rfl rfl ap ha hb rfl (by decide) (eu (Or.inr (Or.inr (Or.inr (Or.inr (Or.inr (Or.inr (Or.inr (Or.inr (Or.inr (Or.inr (Or.inr (Or.inl ⟨rfl,(bG am (ap.rg a)).m⟩)))))))))))))
theorem arh {a b : Int} (ha : Rg a) (hb : Rg b) : Ap 168 a b (tvN 23 8388608 256 127 (8388608 * 256) true (a % 4294967296)) (trN 23 8388608 256 127 (8388608 * 256) true (a % 4294967296)):=bK (k:=1) rfl rfl (by decide) (by decide) rfl rfl am ha hb rfl (by decide) (kg (Or.inl ⟨rfl,(ex k32 k32 true (am.rg a).1 (am.rg a).2).m⟩))
theorem ari {a b : Int} (ha : Rg a) (hb : Rg b) : Ap 169 a b (tvN 23 8388608 256 127 (8388608 * 256) false (a % 4294967296)) (trN 23 8388608 256 127 (8388608 * 256) false (a % 4294967296)):=bK (k:=2) rfl rfl (by decide) (by decide) rfl rfl am ha hb rfl (by decide) (kg (Or.inr (Or.inr (Or.inr (Or.inr (Or.inl ⟨rfl,(ex k32 k32 false (am.rg a).1 (am.rg a).2).m⟩))))))
theorem arj {a b : Int} (ha : Rg a) (hb : Rg b) : Ap 170 a b (tvN 52 4503599627370496 2048 1023 (8388608 * 256) true (a % 18446744073709551616)) (trN 52 4503599627370496 2048 1023 (8388608 * 256) true (a % 18446744073709551616)):=bK (k:=3) rfl rfl (by decide) (by decide) rfl rfl ap ha hb rfl (by decide) (kg (Or.inr (Or.inl ⟨rfl,(ex k64 k32 true (ap.rg a).1 (ap.rg a).2).m⟩)))
theorem ark {a b : Int} (ha : Rg a) (hb : Rg b) : Ap 171 a b (tvN 52 4503599627370496 2048 1023 (8388608 * 256) false (a % 18446744073709551616)) (trN 52 4503599627370496 2048 1023 (8388608 * 256) false (a % 18446744073709551616)):=bK (k:=4) rfl rfl (by decide) (by decide) rfl rfl ap ha hb rfl (by decide) (kg (Or.inr (Or.inr (Or.inr (Or.inr (Or.inr (Or.inl ⟨rfl,(ex k64 k32 false (ap.rg a).1 (ap.rg a).2).m⟩)))))))
theorem arl {a b : Int} (ha : Rg a) (hb : Rg b) : Ap 172 a b ((bX (fJ (a % 4294967296).toNat 32 true) 64 : Nat) : Int) 0:=bK (k:=5) rfl rfl (by decide) (by decide) rfl rfl am ha hb rfl (by decide) (eu (Or.inr (Or.inr (Or.inr (Or.inr (Or.inr (Or.inr (Or.inr (Or.inr (Or.inr (Or.inr (Or.inl ⟨rfl,(arf a).m⟩))))))))))))
theorem arm {a b : Int} (ha : Rg a) (hb : Rg b) : Ap 173 a b ((a % 4294967296) % 18446744073709551616) 0:=bK (k:=6) rfl rfl (by decide) (by decide) rfl rfl am ha hb rfl (by decide) (eu (Or.inr (Or.inr (Or.inr (Or.inr (Or.inr (Or.inr (Or.inr (Or.inr (Or.inr (Or.inr (Or.inr (Or.inr (Or.inl ⟨rfl,(bG ap (am.rg a)).m⟩))))))))))))))
theorem arn {a b : Int} (ha : Rg a) (hb : Rg b) : Ap 174 a b (tvN 23 8388608 256 127 (4503599627370496 * 2048) true (a % 4294967296)) (trN 23 8388608 256 127 (4503599627370496 * 2048) true (a % 4294967296)):=bK (k:=7) rfl rfl (by decide) (by decide) rfl rfl am ha hb rfl (by decide) (kg (Or.inr (Or.inr (Or.inl ⟨rfl,(ex k32 k64 true (am.rg a).1 (am.rg a).2).m⟩))))
theorem aro {a b : Int} (ha : Rg a) (hb : Rg b) : Ap 175 a b (tvN 23 8388608 256 127 (4503599627370496 * 2048) false (a % 4294967296)) (trN 23 8388608 256 127 (4503599627370496 * 2048) false (a % 4294967296)):=bK (k:=8) rfl rfl (by decide) (by decide) rfl rfl am ha hb rfl (by decide) (kg (Or.inr (Or.inr (Or.inr (Or.inr (Or.inr (Or.inr (Or.inl ⟨rfl,(ex k32 k64 false (am.rg a).1 (am.rg a).2).m⟩))))))))
theorem arp {a b : Int} (ha : Rg a) (hb : Rg b) : Ap 176 a b (tvN 52 4503599627370496 2048 1023 (4503599627370496 * 2048) true (a % 18446744073709551616)) (trN 52 4503599627370496 2048 1023 (4503599627370496 * 2048) true (a % 18446744073709551616)):=bK (k:=9) rfl rfl (by decide) (by decide) rfl rfl ap ha hb rfl (by decide) (kg (Or.inr (Or.inr (Or.inr (Or.inl ⟨rfl,(ex k64 k64 true (ap.rg a).1 (ap.rg a).2).m⟩)))))
theorem anh {a b : Int} (ha : Rg a) (hb : Rg b) : Ap 177 a b (tvN 52 4503599627370496 2048 1023 (4503599627370496 * 2048) false (a % 18446744073709551616)) (trN 52 4503599627370496 2048 1023 (4503599627370496 * 2048) false (a % 18446744073709551616)):=bK (k:=10) rfl rfl (by decide) (by decide) rfl rfl ap ha hb rfl (by decide) (kg (Or.inr (Or.inr (Or.inr (Or.inr (Or.inr (Or.inr (Or.inr (⟨rfl,(ex k64 k64 false (ap.rg a).1 (ap.rg a).2).m⟩)))))))))
theorem ani {a b : Int} (ha : Rg a) (hb : Rg b) : Ap 178 a b (iF 23 8388608 256 127 (8388608 * 256) true (a % 4294967296)) 0:=bK (k:=11) rfl rfl (by decide) (by decide) rfl rfl am ha hb rfl (by decide) (eu (Or.inl ⟨rfl,(ij k32 k32 (am.rg a).1 (am.rg a).2).m⟩))
theorem anj {a b : Int} (ha : Rg a) (hb : Rg b) : Ap 179 a b (iF 23 8388608 256 127 (8388608 * 256) false (a % 4294967296)) 0:=bK (k:=12) rfl rfl (by decide) (by decide) rfl rfl am ha hb rfl (by decide) (eu (Or.inr (Or.inr (Or.inr (Or.inr (Or.inl ⟨rfl,(ii k32 k32 (am.rg a).1 (am.rg a).2).m⟩))))))
theorem ank {a b : Int} (ha : Rg a) (hb : Rg b) : Ap 180 a b (iF 23 8388608 256 127 (4503599627370496 * 2048) true (a % 18446744073709551616)) 0:=bK (k:=13) rfl rfl (by decide) (by decide) rfl rfl ap ha hb rfl (by decide) (eu (Or.inr (Or.inl ⟨rfl,(ij k32 k64 (ap.rg a).1 (ap.rg a).2).m⟩)))
theorem anl {a b : Int} (ha : Rg a) (hb : Rg b) : Ap 181 a b (iF 23 8388608 256 127 (4503599627370496 * 2048) false (a % 18446744073709551616)) 0:=bK (k:=14) rfl rfl (by decide) (by decide) rfl rfl ap ha hb rfl (by decide) (eu (Or.inr (Or.inr (Or.inr (Or.inr (Or.inr (Or.inl ⟨rfl,(ii k32 k64 (ap.rg a).1 (ap.rg a).2).m⟩)))))))
theorem anm {a b : Int} (ha : Rg a) (hb : Rg b) : Ap 182 a b (dF 23 8388608 256 127 (oN 4503599627370496 2048 (a % 18446744073709551616)) (oK 4503599627370496 2048 (a % 18446744073709551616)) (oM 52 4503599627370496 2048 1023 (a % 18446744073709551616))) 0:=bK (k:=15) rfl rfl (by decide) (by decide) rfl rfl ap ha hb rfl (by decide) (eu (Or.inr (Or.inr (Or.inr (Or.inr (Or.inr (Or.inr (Or.inr (Or.inr (Or.inl ⟨rfl,(sX (ap.rg a).1 (ap.rg a).2).m⟩))))))))))
theorem ann {a b : Int} (ha : Rg a) (hb : Rg b) : Ap 183 a b (iF 52 4503599627370496 2048 1023 (8388608 * 256) true (a % 4294967296)) 0:=bK (k:=16) rfl rfl (by decide) (by decide) rfl rfl am ha hb rfl (by decide) (eu (Or.inr (Or.inr (Or.inl ⟨rfl,(ij k64 k32 (am.rg a).1 (am.rg a).2).m⟩))))
theorem ano {a b : Int} (ha : Rg a) (hb : Rg b) : Ap 184 a b (iF 52 4503599627370496 2048 1023 (8388608 * 256) false (a % 4294967296)) 0:=bK (k:=17) rfl rfl (by decide) (by decide) rfl rfl am ha hb rfl (by decide) (eu (Or.inr (Or.inr (Or.inr (Or.inr (Or.inr (Or.inr (Or.inl ⟨rfl,(ii k64 k32 (am.rg a).1 (am.rg a).2).m⟩))))))))
theorem anp {a b : Int} (ha : Rg a) (hb : Rg b) : Ap 185 a b (iF 52 4503599627370496 2048 1023 (4503599627370496 * 2048) true (a % 18446744073709551616)) 0:=bK (k:=18) rfl rfl (by decide) (by decide) rfl rfl ap ha hb rfl (by decide) (eu (Or.inr (Or.inr (Or.inr (Or.inl ⟨rfl,(ij k64 k64 (ap.rg a).1 (ap.rg a).2).m⟩)))))
theorem anq {a b : Int} (ha : Rg a) (hb : Rg b) : Ap 186 a b (iF 52 4503599627370496 2048 1023 (4503599627370496 * 2048) false (a % 18446744073709551616)) 0:=bK (k:=19) rfl rfl (by decide) (by decide) rfl rfl ap ha hb rfl (by decide) (eu (Or.inr (Or.inr (Or.inr (Or.inr (Or.inr (Or.inr (Or.inr (Or.inl ⟨rfl,(ii k64 k64 (ap.rg a).1 (ap.rg a).2).m⟩)))))))))
theorem anr {a b : Int} (ha : Rg a) (hb : Rg b) : Ap 187 a b (dF 52 4503599627370496 2048 1023 (oN 8388608 256 (a % 4294967296)) (oK 8388608 256 (a % 4294967296)) (oM 23 8388608 256 127 (a % 4294967296))) 0:=bK (k:=20) rfl rfl (by decide) (by decide) rfl rfl am ha hb rfl (by decide) (eu (Or.inr (Or.inr (Or.inr (Or.inr (Or.inr (Or.inr (Or.inr (Or.inr (Or.inr (Or.inl ⟨rfl,(qv (am.rg a).1 (am.rg a).2).m⟩)))))))))))
theorem ans {a b : Int} (ha : Rg a) (hb : Rg b) : Ap 188 a b ((a % 4294967296) % 4294967296) 0:=bK (k:=21) rfl rfl (by decide) (by decide) rfl rfl am ha hb rfl (by decide) (eu (Or.inr (Or.inr (Or.inr (Or.inr (Or.inr (Or.inr (Or.inr (Or.inr (Or.inr (Or.inr (Or.inr (Or.inr (Or.inr (Or.inl ⟨rfl,(bG am (am.rg a)).m⟩)))))))))))))))
theorem ant {a b : Int} (ha : Rg a) (hb : Rg b) : Ap 189 a b ((a % 18446744073709551616) % 18446744073709551616) 0:=bK (k:=22) rfl rfl (by decide) (by decide) rfl rfl ap ha hb rfl (by decide) (eu (Or.inr (Or.inr (Or.inr (Or.inr (Or.inr (Or.inr (Or.inr (Or.inr (Or.inr (Or.inr (Or.inr (Or.inr (Or.inr (Or.inr (Or.inl ⟨rfl,(bG ap (ap.rg a)).m⟩))))))))))))))))
theorem anu {a b : Int} (ha : Rg a) (hb : Rg b) : Ap 190 a b ((a % 4294967296) % 4294967296) 0:=bK (k:=23) rfl rfl (by decide) (by decide) rfl rfl am ha hb rfl (by decide) (eu (Or.inr (Or.inr (Or.inr (Or.inr (Or.inr (Or.inr (Or.inr (Or.inr (Or.inr (Or.inr (Or.inr (Or.inr (Or.inr (Or.inr (Or.inr (Or.inl ⟨rfl,(bG am (am.rg a)).m⟩)))))))))))))))))
theorem anv {a b : Int} (ha : Rg a) (hb : Rg b) : Ap 191 a b ((a % 18446744073709551616) % 18446744073709551616) 0:=bK (k:=24) rfl rfl (by decide) (by decide) rfl rfl ap ha hb rfl (by decide) (eu (Or.inr (Or.inr (Or.inr (Or.inr (Or.inr (Or.inr (Or.inr (Or.inr (Or.inr (Or.inr (Or.inr (Or.inr (Or.inr (Or.inr (Or.inr (Or.inr (⟨rfl,(bG ap (ap.rg a)).m⟩))))))))))))))))))
theorem arq {a b : Int} (ha : Rg a) (hb : Rg b) : Ap 64512 a b (vaN 23 8388608 256 127 (8388608 * 256) true (a % 4294967296)) 0:=fs (k:=0) rfl rfl (by decide) (by decide) rfl rfl am ha hb rfl (by decide) rfl (gG (Or.inl ⟨rfl,(fz k32 k32 true (am.rg a).1 (am.rg a).2).m⟩))
theorem arr {a b : Int} (ha : Rg a) (hb : Rg b) : Ap 64513 a b (vaN 23 8388608 256 127 (8388608 * 256) false (a % 4294967296)) 0:=fs (k:=1) rfl rfl (by decide) (by decide) rfl rfl am ha hb rfl (by decide) rfl (gG (Or.inr (Or.inr (Or.inr (Or.inr (Or.inl ⟨rfl,(fz k32 k32 false (am.rg a).1 (am.rg a).2).m⟩))))))
theorem ars {a b : Int} (ha : Rg a) (hb : Rg b) : Ap 64514 a b (vaN 52 4503599627370496 2048 1023 (8388608 * 256) true (a % 18446744073709551616)) 0:=fs (k:=2) rfl rfl (by decide) (by decide) rfl rfl ap ha hb rfl (by decide) rfl (gG (Or.inr (Or.inl ⟨rfl,(fz k64 k32 true (ap.rg a).1 (ap.rg a).2).m⟩)))
theorem art {a b : Int} (ha : Rg a) (hb : Rg b) : Ap 64515 a b (vaN 52 4503599627370496 2048 1023 (8388608 * 256) false (a % 18446744073709551616)) 0:=fs (k:=3) rfl rfl (by decide) (by decide) rfl rfl ap ha hb rfl (by decide) rfl (gG (Or.inr (Or.inr (Or.inr (Or.inr (Or.inr (Or.inl ⟨rfl,(fz k64 k32 false (ap.rg a).1 (ap.rg a).2).m⟩)))))))
theorem aru {a b : Int} (ha : Rg a) (hb : Rg b) : Ap 64516 a b (vaN 23 8388608 256 127 (4503599627370496 * 2048) true (a % 4294967296)) 0:=fs (k:=4) rfl rfl (by decide) (by decide) rfl rfl am ha hb rfl (by decide) rfl (gG (Or.inr (Or.inr (Or.inl ⟨rfl,(fz k32 k64 true (am.rg a).1 (am.rg a).2).m⟩))))
theorem arv {a b : Int} (ha : Rg a) (hb : Rg b) : Ap 64517 a b (vaN 23 8388608 256 127 (4503599627370496 * 2048) false (a % 4294967296)) 0:=fs (k:=5) rfl rfl (by decide) (by decide) rfl rfl am ha hb rfl (by decide) rfl (gG (Or.inr (Or.inr (Or.inr (Or.inr (Or.inr (Or.inr (Or.inl ⟨rfl,(fz k32 k64 false (am.rg a).1 (am.rg a).2).m⟩))))))))
theorem arw {a b : Int} (ha : Rg a) (hb : Rg b) : Ap 64518 a b (vaN 52 4503599627370496 2048 1023 (4503599627370496 * 2048) true (a % 18446744073709551616)) 0:=fs (k:=6) rfl rfl (by decide) (by decide) rfl rfl ap ha hb rfl (by decide) rfl (gG (Or.inr (Or.inr (Or.inr (Or.inl ⟨rfl,(fz k64 k64 true (ap.rg a).1 (ap.rg a).2).m⟩)))))
theorem arx {a b : Int} (ha : Rg a) (hb : Rg b) : Ap 64519 a b (vaN 52 4503599627370496 2048 1023 (4503599627370496 * 2048) false (a % 18446744073709551616)) 0:=fs (k:=7) rfl rfl (by decide) (by decide) rfl rfl ap ha hb rfl (by decide) rfl (gG (Or.inr (Or.inr (Or.inr (Or.inr (Or.inr (Or.inr (Or.inr (⟨rfl,(fz k64 k64 false (ap.rg a).1 (ap.rg a).2).m⟩)))))))))
def chO (H : Int) (s n : Bool) (K : Int) (z : Nat) : Int:=if K = 3 then 1 else if K ≠ 2 ∧ (z : Int) ≤ dZ H s n then 0 else if n then 2 else 3
def chR (H : Int) (s n : Bool) (K : Int) (z : Nat) : Int:=if chO H s n K z = 0 then sgd H n z else 0
theorem qM {k e f P Q b : Int} (kk : Kd k e f P Q b) : IntKind.i64.wrap (k - 1) = k - 1 ∧ Ct 183 #[.int .i64 (k - 1)] (.int .u64 (P * Q)):=by
 rcases fO kk with ⟨rfl,h⟩ | ⟨rfl,h⟩ <;> rw [h]
 ·exact ⟨by decide,ab (fun W => dm 31 2147483648 W (by omega) (by omega) (by decide +kernel))⟩
 ·exact ⟨by decide,ab (fun W => dm 63 9223372036854775808 W (by omega) (by omega) (by decide +kernel))⟩
theorem uS {k e f P Q b : Int} (kk : Kd k e f P Q b) (s : Bool) : Ct 187 #[.int .i64 k,.bool s] (.int .u64 (tf (P * Q) s)):=by
 obtain ⟨h1,HT⟩:=qM kk
 cases s
 ·exact ab (fun W => ar8 W)
 ·exact ab (fun W => ar7 W h1 HT)
theorem qN {k e f P Q b : Int} (kk : Kd k e f P Q b) (s : Bool) : Ct 188 #[.int .i64 k,.bool s] (.int .u64 (mg (P * Q) s)):=by
 obtain ⟨h1,HT⟩:=qM kk
 have hk:=fO kk
 generalize P * Q = H at *
 have e1 : IntKind.u64.wrap (H - 1) = H - 1:=by rw [IntKind.wrap_u64]; omega
 cases s
 ·exact ab (fun W => an7 W h1 HT e1 (by show IntKind.u64.wrap (H - 1 + H) = 2 * H - 1; rw [IntKind.wrap_u64]; omega))
 ·exact ab (fun W => an6 W h1 HT e1)
theorem qO {z : Nat} {L : Int} (L0 : 0 ≤ L) : decide (0 < aK z L.toNat) = !decide ((z : Int) ≤ L):=by
 unfold aK
 by_cases h : (z : Int) ≤ L
 ·rw [dt h]
  split <;> (try split) <;> first | rfl | omega
 ·rw [df h,if_neg (by omega),if_pos (by omega)]
  rfl
theorem ac5 {H K : Int} {s n : Bool} {z : Nat} (h3 : K ≠ 3) (h : K = 2 ∨ ¬ (z : Int) ≤ dZ H s n) : chO H s n K z = (if n then 2 else 3) ∧ chR H s n K z = 0:=by
 have e : chO H s n K z = (if n then 2 else 3):=by
  unfold chO
  rw [if_neg h3,if_neg (fun g => h.elim g.1 (fun q => q g.2))]
 refine ⟨e,?_⟩
 unfold chR
 rw [e]
 cases n <;> rfl
theorem ac6 {H K : Int} {s n : Bool} {z : Nat} (h3 : K ≠ 3) (h2 : K ≠ 2) (h : (z : Int) ≤ dZ H s n) : chO H s n K z = 0 ∧ chR H s n K z = sgd H n z:=by
 have e : chO H s n K z = 0:=by
  unfold chO
  rw [if_neg h3,if_pos ⟨h2,h⟩]
 refine ⟨e,?_⟩
 unfold chR
 rw [if_pos e]
theorem ai4 {z : Nat} {L : Int} (h : (z : Int) ≤ L) (L1 : L < 18446744073709551616) : lo z = (z : Int):=by unfold lo; omega
theorem qP {w k e' f' P' Q' b' e f P Q b x X S K : Int} {n : Bool} (kw : Kd w e f P Q b) (kk : Kd k e' f' P' Q' b') (s : Bool) (h : Prt f P Q b K X S) (HO : Ct 101 #[.int .i64 w,.int .u64 x] (.agg #[.bool n,.int .i64 K,.int .i64 X,.int .u64 S])) :
 Ct 103 #[.int .i64 w,.int .i64 k,.int .u64 x,.bool s] (.tuple #[.int .i64 (chO (P' * Q') s n K (wq (mag X S))),.int .u64 (chR (P' * Q') s n K (wq (mag X S)))]):=by
 have HL:=uS kk s
 have HH:=qN kk s
 obtain ⟨e0,e1⟩:=kP kk s n
 have lr:=ab (kP kk s true)
 have hr:=ab (kP kk s false)
 have hH:=fO kk
 have hK : K = 0 ∨ K = 1 ∨ K = 2 ∨ K = 3:=by unfold Prt at h; omega
 have HC : ∀ y : Int,0 ≤ y → y < 18446744073709551616 → Ct 41 #[.int .i64 k,.int .u64 y] (.int .u64 (y % (2 * (P' * Q')))):=fun y y0 y1 => by
  have:=fun W => bw y kk W y0 y1
  rw [th kk] at this
  exact ab this
 rcases hK with rfl | rfl | rfl | rfl
 ·rw [h.mag0 (by decide),uQ]
  obtain ⟨q1,q2⟩:=ac6 (H:=P' * Q') (s:=s) (n:=n) (z:=0) (show (0 : Int) ≠ 3 by decide) (by decide) e0
  have hz:=HC 0 (by omega) (by omega)
  rw [Int.zero_emod] at hz
  have hs : sgd (P' * Q') n ((0 : Nat) : Int) = 0:=by
   unfold sgd
   cases n <;> simp
  have hg:=qO (z:=0) e0
  rw [dt (show ((0 : Nat) : Int) ≤ dZ (P' * Q') s n from e0)] at hg
  rw [q1,q2,hs]
  cases n
  ·exact ab (fun W => dR (m:=0) (y:=0) (y2:=0) (dc:=0) (dl:=false) (z:=0) W HO HL HH lr hr (Or.inr ⟨by decide,Or.inr ⟨by decide,rfl⟩,Or.inr ⟨rfl,Or.inr ⟨by decide,Or.inr ⟨of_decide_eq_false hg,rfl,rfl,hz⟩⟩⟩⟩))
  ·exact ab (fun W => dR (m:=0) (y:=0) (y2:=0) (dc:=0) (dl:=false) (z:=0) W HO HL HH lr hr (Or.inr ⟨by decide,Or.inr ⟨by decide,rfl⟩,Or.inl ⟨rfl,Or.inr ⟨by decide,Or.inr ⟨of_decide_eq_false hg,rfl,rfl,Or.inr ⟨by decide,hz⟩⟩⟩⟩⟩))
 ·have HD:=ab (fun W => er kw n h W)
  have hg:=qO (z:=wq (mag X S)) e0
  generalize wq (mag X S) = z at *
  by_cases hz : (z : Int) ≤ dZ (P' * Q') s n
  ·obtain ⟨q1,q2⟩:=ac6 (H:=P' * Q') (s:=s) (n:=n) (z:=z) (show (1 : Int) ≠ 3 by decide) (by decide) hz
   rw [dt hz] at hg
   have hl:=ai4 hz e1
   rw [q1,q2]
   cases n
   ·have hc:=HC (z : Int) (by omega) (by omega)
    rw [Int.emod_eq_of_lt (by omega) (by have hh : dZ (P' * Q') s false ≤ 2 * (P' * Q') - 1:=(by cases s; exact Int.le_refl _; show P' * Q' - 1 ≤ _; omega); omega)] at hc
    exact ab (fun W => dR (y:=0) (y2:=0) W HO HL HH lr hr (Or.inr ⟨by decide,Or.inl ⟨by decide,HD⟩,Or.inr ⟨rfl,Or.inr ⟨by decide,Or.inr ⟨of_decide_eq_false hg,rfl,hl,hc⟩⟩⟩⟩))
   ·by_cases h0 : z = 0
    ·subst h0
     have hc:=HC 0 (by omega) (by omega)
     rw [Int.zero_emod] at hc
     rw [show sgd (P' * Q') true ((0 : Nat) : Int) = 0 by unfold sgd; simp]
     exact ab (fun W => dR (m:=0) (y:=0) (y2:=0) W HO HL HH lr hr (Or.inr ⟨by decide,Or.inl ⟨by decide,HD⟩,Or.inl ⟨rfl,Or.inr ⟨by decide,Or.inr ⟨of_decide_eq_false hg,rfl,rfl,Or.inr ⟨by decide,hc⟩⟩⟩⟩⟩))
    ·have y1 : IntKind.u64.wrap (18446744073709551615 - (z : Int)) = 18446744073709551615 - (z : Int):=by rw [IntKind.wrap_u64]; omega
     have y2 : IntKind.u64.wrap (18446744073709551615 - (z : Int) + 1) = 18446744073709551616 - (z : Int):=by rw [IntKind.wrap_u64]; omega
     have hc:=HC (18446744073709551616 - (z : Int)) (by omega) (by omega)
     have e2 : (18446744073709551616 - (z : Int)) % (2 * (P' * Q')) = sgd (P' * Q') true (z : Int):=by
      show _ = -(z : Int) % (2 * (P' * Q'))
      rcases hH with ⟨-,h⟩ | ⟨-,h⟩ <;> rw [h] <;> omega
     rw [e2] at hc
     exact ab (fun W => dR  W HO HL HH lr hr (Or.inr ⟨by decide,Or.inl ⟨by decide,HD⟩,Or.inl ⟨rfl,Or.inr ⟨by decide,Or.inr ⟨of_decide_eq_false hg,rfl,hl,Or.inl ⟨by omega,y1,y2,hc⟩⟩⟩⟩⟩))
  ·obtain ⟨q1,q2⟩:=ac5 (H:=P' * Q') (s:=s) (n:=n) (z:=z) (show (1 : Int) ≠ 3 by decide) (Or.inr hz)
   rw [df hz] at hg
   rw [q1,q2]
   cases n
   ·exact ab (fun W => dR (m:=0) (y:=0) (y2:=0) W HO HL HH lr hr (Or.inr ⟨by decide,Or.inl ⟨by decide,HD⟩,Or.inr ⟨rfl,Or.inr ⟨by decide,Or.inl ⟨of_decide_eq_true hg,rfl,rfl⟩⟩⟩⟩))
   ·exact ab (fun W => dR (m:=0) (y:=0) (y2:=0) W HO HL HH lr hr (Or.inr ⟨by decide,Or.inl ⟨by decide,HD⟩,Or.inl ⟨rfl,Or.inr ⟨by decide,Or.inl ⟨of_decide_eq_true hg,rfl,rfl⟩⟩⟩⟩))
 ·obtain ⟨q1,q2⟩:=ac5 (H:=P' * Q') (s:=s) (n:=n) (z:=wq (mag X S)) (show (2 : Int) ≠ 3 by decide) (Or.inl rfl)
  rw [q1,q2]
  cases n
  ·exact ab (fun W => dR (m:=0) (y:=0) (y2:=0) (dc:=0) (dl:=false) (z:=0) W HO HL HH lr hr (Or.inr ⟨by decide,Or.inr ⟨by decide,rfl⟩,Or.inr ⟨rfl,Or.inl ⟨by decide,rfl,rfl⟩⟩⟩))
  ·exact ab (fun W => dR (m:=0) (y:=0) (y2:=0) (dc:=0) (dl:=false) (z:=0) W HO HL HH lr hr (Or.inr ⟨by decide,Or.inr ⟨by decide,rfl⟩,Or.inl ⟨rfl,Or.inl ⟨by decide,rfl,rfl⟩⟩⟩))
 ·have q1 : chO (P' * Q') s n 3 (wq (mag X S)) = 1:=by unfold chO; rw [if_pos rfl]
  have q2 : chR (P' * Q') s n 3 (wq (mag X S)) = 0:=by unfold chR; rw [q1]; rfl
  rw [q1,q2]
  cases n
  ·exact ab (fun W => dR (m:=0) (y:=0) (y2:=0) (dc:=0) (dl:=false) (z:=0) W HO HL HH lr hr (Or.inl ⟨by decide,rfl,rfl⟩))
  ·exact ab (fun W => dR (m:=0) (y:=0) (y2:=0) (dc:=0) (dl:=false) (z:=0) W HO HL HH lr hr (Or.inl ⟨by decide,rfl,rfl⟩))
theorem bB {w e f P Q b k e' f' P' Q' b' x : Int} (kw : Kd w e f P Q b) (kk : Kd k e' f' P' Q' b') (s : Bool) (x0 : 0 ≤ x) (x1 : x < 18446744073709551616) :
 Ct 103 #[.int .i64 w,.int .i64 k,.int .u64 x,.bool s] (.tuple #[.int .i64 (chO (P' * Q') s (oN P Q x) (oK P Q x) (wq (oM f P Q b x))),.int .u64 (chR (P' * Q') s (oN P Q x) (oK P Q x) (wq (oM f P Q b x)))]):=by
 obtain ⟨X,S,ho,hp,hm⟩:=aL kw x
 have:=qP kw kk s hp (ab (fun W => aN x kw W x0 x1 ho))
 rw [hm] at this
 exact this
set_option maxHeartbeats 4000000
set_option maxRecDepth 100000
theorem ai5 {r : Int} (H1 : Ap 106 4294967295 1 0 0) (H2 : Ap 110 5 0 r 2) (H3 : Ap 146 1065353216 1065353216 1073741824 0) : Cm 9 #[] (.bool true):=by
 refine ab (fun W m => ?_)
 have HM:=ab m
 clear m
 have HB:=rf W
 go_enter Tryz.func9,Tryz.ntmps9
 go_wp2_with fail
 refine (aa H1 _ (aa HM)).mono ?_
 rintro _ w1 ⟨rfl,hb⟩
 have HB:=bt HB hb
 have HM:=ab ((aa HM).below hb)
 clear hb
 go_wp2_with fail
 refine (aa H2 _ (aa HM)).mono ?_
 rintro _ w2 ⟨rfl,hb⟩
 have HB:=bt HB hb
 have HM:=ab ((aa HM).below hb)
 clear hb
 go_wp2_with fail
 refine (aa H3 _ (aa HM)).mono ?_
 rintro _ w3 ⟨rfl,hb⟩
 have HB:=bt HB hb
 clear hb
 go_wp2_with fail
 go_ret
 exact ⟨rfl,aa HB⟩
theorem auo : il 23 8388608 256 127 1065353216 1065353216 = 1073741824:=by decide +kernel
theorem xF : Cm 9 #[] (.bool true):=by
 have h3:=ua (op:=146) (a:=1065353216) (b:=1065353216) (Or.inl ⟨rfl,rfl,rfl,rfl,rfl,rfl⟩ : Kd 32 8 23 8388608 256 127) (by unfold Rg; omega) (by unfold Rg; omega) (Or.inl ⟨rfl,rfl⟩)
 rw [show (1065353216 : Int) % (2 * (8388608 * 256)) = 1065353216 from rfl,auo] at h3
 exact ai5 (tH (op:=106) am (by unfold Rg; omega) (by unfold Rg; omega) (Or.inl ⟨rfl,rfl⟩)) (kV (op:=110) am (by unfold Rg; omega) (by unfold Rg; omega) rfl (Or.inl ⟨rfl,rfl⟩)) h3
end Go.Proofs.YtpbgpdmffejdgaaGreatDoor
