/- MWLeafB. -/
import Derived.Test.YtpbgpdmffejdgaaGreatDoorG02
import Derived.Lib.BitFns
namespace Go.Proofs.YtpbgpdmffejdgaaGreatDoor.W
set_option maxHeartbeats 4000000
set_option maxRecDepth 100000
open Go.RowKit
theorem fP {k : IntKind} {a c : Int} (h1 : a = c) : Ending.returned (.int k a) = .returned (.int k c):=by rw [h1]
theorem ata {k : IntKind} {a b c d : Int} (h1 : a = c) (h2 : b = d) : Ending.returned (.tuple #[.int k a,.int k b]) = .returned (.tuple #[.int k c,.int k d]):=by rw [h1,h2]
theorem tM (i : Int) (h0 : 0 ≤ i) (h1 : i ≤ 255) (hh : i.toNat < Lib.len8tab.size) : ((Lib.len8tab[i.toNat].toNat : Nat) : Int) = (Lib.bitLen i.toNat : Int):=by
 have h:=Lib.len8_of i h0 h1
 unfold Lib.len8 at h
 rw [getElem?_pos Lib.len8tab i.toNat hh] at h
 exact h
theorem iv : ∀ n x : Nat,x < n → x < 18446744073709551616 → Lib.bitLen x = Go.bitLen x
 | 0,_,h,_ => by omega
 | n + 1,x,h,hx => by
  by_cases h0 : x = 0
  ·subst h0; rfl
  ·have ih:=iv n (x / 2) (by omega) (by omega)
   rw [Lib.bitLen_half x h0 hx,ih]
   by_cases h2 : x / 2 = 0
   ·have : x = 1:=by omega
    subst this; rfl
   ·have:=Go.bitLen_shift x 1 (by simpa using h2)
    simp only [Nat.pow_one] at this
    omega
theorem zm (x s p : Nat) (hp : 2 ^ s = p) (h : p ≤ x) : Go.bitLen x = s + Go.bitLen (x / p):=by
 subst hp
 refine Go.bitLen_shift x s ?_
 have:=Nat.div_pos h (Nat.two_pow_pos s)
 omega
theorem dU (c x i : Int) (s p : Nat) (hp : 2 ^ s = p) (hs : s ≤ 56) (hc : c = s) (h0 : 0 ≤ x) (hpx : (p : Int) ≤ x) (hi : i = x / p) (hi0 : 0 ≤ i) (hi1 : i < 256) (hh : i.toNat < Lib.len8tab.size) :
 wrap64 (c + wrap64 ((Lib.len8tab[i.toNat].toNat : Nat) : Int)) = (Go.bitLen x.toNat : Int):=by
 rw [tM i hi0 (by omega) hh,iv 256 i.toNat (by omega) (by omega)]
 have hl:=Go.bitLen_le8 i.toNat (by omega)
 have e:=zm x.toNat s p hp (by omega)
 have ei : i.toNat = x.toNat / p:=by
  rw [hi]
  obtain ⟨X,rfl⟩:=Int.eq_ofNat_of_zero_le h0
  rw [Int.toNat_natCast,← Int.natCast_ediv,Int.toNat_natCast]
 rw [e,← ei]
 unfold wrap64
 omega
theorem q7 (x : Int) (hi0 : 0 ≤ x) (hi1 : x < 256) (hh : x.toNat < Lib.len8tab.size) :
 wrap64 (wrap64 ((Lib.len8tab[x.toNat].toNat : Nat) : Int)) = (Go.bitLen x.toNat : Int):=by
 rw [tM x hi0 (by omega) hh,iv 256 x.toNat (by omega) (by omega)]
 have hl:=Go.bitLen_le8 x.toNat (by omega)
 unfold wrap64
 omega
theorem gS (x : Int) (w : World) (h0 : 0 ≤ x) (h1 : x < 18446744073709551616) :
 Calls Tryz.prog 222 #[.int .u64 x] w fun e w' => e = .returned (.int .i64 (Go.bitLen x.toNat)) ∧ w' = w:=by
 have hsz : Lib.len8tab.size = 256:=Lib.len8tab_size
 go_enter Tryz.func222,Tryz.ntmps222
 go_wp2
 all_goals (go_ret; refine ⟨fP ?_,rfl⟩)
 ·exact dU 56 x _ 56 72057594037927936 rfl (by omega) rfl h0 (by omega) (by omega) (by omega) (by omega) (by omega)
 ·exact dU 48 x _ 48 281474976710656 rfl (by omega) rfl h0 (by omega) (by omega) (by omega) (by omega) (by omega)
 ·exact dU 40 x _ 40 1099511627776 rfl (by omega) rfl h0 (by omega) (by omega) (by omega) (by omega) (by omega)
 ·exact dU 32 x _ 32 4294967296 rfl (by omega) rfl h0 (by omega) (by omega) (by omega) (by omega) (by omega)
 ·exact dU 24 x _ 24 16777216 rfl (by omega) rfl h0 (by omega) (by omega) (by omega) (by omega) (by omega)
 ·exact dU 16 x _ 16 65536 rfl (by omega) rfl h0 (by omega) (by omega) (by omega) (by omega) (by omega)
 ·exact dU 8 x _ 8 256 rfl (by omega) rfl h0 (by omega) (by omega) (by omega) (by omega) (by omega)
 ·exact q7 x h0 (by omega) (by omega)
def q8 (ah al bh bl : Int) : Int:=if ah < bh then -1 else if bh < ah then 1 else iP al bl
theorem vc {ah bh : Int} (al bl : Int) (hz : iP ah bh = 0) : iP al bl = q8 ah al bh bl:=by
 unfold iP at hz
 unfold q8
 by_cases h1 : ah < bh
 ·rw [if_pos h1] at hz; omega
 ·rw [if_neg h1] at hz ⊢
  by_cases h2 : bh < ah
  ·rw [if_pos h2] at hz; omega
  ·rw [if_neg h2]
theorem zn {ah bh : Int} (al bl : Int) (hz : ¬ iP ah bh = 0) : iP ah bh = q8 ah al bh bl:=by
 unfold iP at hz ⊢
 unfold q8
 by_cases h1 : ah < bh
 ·rw [if_pos h1,if_pos h1]
 ·rw [if_neg h1] at hz ⊢
  rw [if_neg h1]
  by_cases h2 : bh < ah
  ·rw [if_pos h2,if_pos h2]
  ·rw [if_neg h2] at hz; omega
theorem aq (w : World) (o1 o2 : Obj) : Below w.heap.size w ((w.alloc o1).alloc o2):=((Below.refl _ _).alloc (Nat.le_refl _) _).alloc (by simp) _
theorem ae (w : World) (o1 : Obj) : Below w.heap.size w (w.alloc o1):=(Below.refl _ _).alloc (Nat.le_refl _) _
theorem af0 (ah al bh bl : Int) (w : World) :
 Calls Tryz.prog 235 #[.agg #[.int .u64 ah,.int .u64 al],.agg #[.int .u64 bh,.int .u64 bl]] w fun e w' => e = .returned (.int .i64 (q8 ah al bh bl)) ∧ Below w.heap.size w w':=by
 by_cases hz : iP ah bh = 0
 ·have hb : (iP ah bh != 0) = false:=by simp [hz]
  have HC : Hid (iP al bl = q8 ah al bh bl):=vc al bl hz
  clear hz
  go_enter Tryz.func235,Tryz.ntmps235
  go_wp2_with (go_at_call 263; refine (jR _ _ _).mono ?_; rintro e w' ⟨rfl,rfl⟩)
  go_ret
  exact ⟨fP HC.out,aq _ _ _⟩
 ·have hb : (iP ah bh != 0) = true:=by simp [hz]
  have HC : Hid (iP ah bh = q8 ah al bh bl):=zn al bl hz
  clear hz
  go_enter Tryz.func235,Tryz.ntmps235
  go_wp2_with (go_at_call 263; refine (jR _ _ _).mono ?_; rintro e w' ⟨rfl,rfl⟩)
  go_ret
  exact ⟨fP HC.out,aq _ _ _⟩
def zo (h l : Int) : Int:=if h = 0 then (Go.bitLen l.toNat : Int) else 64 + (Go.bitLen h.toNat : Int)
theorem jQ (x : Nat) (h : x < 18446744073709551616) : Go.bitLen x ≤ 64:=by
 unfold Go.bitLen
 split
 ·omega
 ·rename_i h0
  have:=(Nat.log2_lt h0).2 (show x < 2 ^ 64 from h)
  omega
theorem af1 (h l : Int) (w : World) (h0 : 0 ≤ h) (h1 : h < 18446744073709551616) (l0 : 0 ≤ l) (l1 : l < 18446744073709551616) :
 Calls Tryz.prog 233 #[.agg #[.int .u64 h,.int .u64 l]] w fun e w' => e = .returned (.int .i64 (zo h l)) ∧ Below w.heap.size w w':=by
 by_cases hz : h = 0
 ·subst hz
  have HC : Hid ((Go.bitLen l.toNat : Int) = zo 0 l):=by unfold zo Hid; rw [if_pos rfl]
  go_enter Tryz.func233,Tryz.ntmps233
  go_wp2_with (go_at_call 222; refine (gS l _ l0 l1).mono ?_; rintro e w' ⟨rfl,rfl⟩)
  go_ret
  exact ⟨fP HC.out,ae _ _⟩
 ·have hb : (h != 0) = true:=by simp [hz]
  have b1:=jQ h.toNat (by omega)
  have HC : Hid (64 + (Go.bitLen h.toNat : Int) = zo h l):=by unfold zo Hid; rw [if_neg hz]
  clear hz
  go_enter Tryz.func233,Tryz.ntmps233
  go_wp2_with (go_at_call 222; refine (gS h _ h0 h1).mono ?_; rintro e w' ⟨rfl,rfl⟩)
  go_ret
  exact ⟨fP HC.out,ae _ _⟩
end Go.Proofs.YtpbgpdmffejdgaaGreatDoor.W
