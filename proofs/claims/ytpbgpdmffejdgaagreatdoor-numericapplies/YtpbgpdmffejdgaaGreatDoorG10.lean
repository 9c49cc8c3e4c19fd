/- MWWide2, MWLensB, MWRoot. -/
import Derived.Test.YtpbgpdmffejdgaaGreatDoorG09
import Derived.LoopTactic
namespace Go.Proofs.YtpbgpdmffejdgaaGreatDoor.W
set_option maxHeartbeats 1000000
open Go.RowKit
theorem d8 {W w1 : World} (hb : Below W.heap.size W w1) : (∀ b o,b < W.heap.size → w1.cell? ⟨b,o,none⟩ = W.cell? ⟨b,o,none⟩) ∧ (∀ b o,b < W.heap.size → w1.frozen? ⟨b,o,none⟩ = W.frozen? ⟨b,o,none⟩):=
 ⟨fun b o h => hb.cell (p:=⟨b,o,none⟩) h,fun b o h => hb.frozen (p:=⟨b,o,none⟩) h⟩
def bZ (v : Nat) (n : Int) : Nat:=v / 2 ^ n.toNat
theorem zu {v : Nat} (n : Int) (hv : W2 v) : W2 (bZ v n):=Nat.lt_of_le_of_lt (Nat.div_le_self _ _) hv
theorem alt (v : Nat) (n : Int) (w : World) (hv : W2 v) :
 Calls Tryz.prog 277 #[.agg #[.int .u64 (hi v),.int .u64 (lo v)],.int .i64 n] w fun e w' => e = .returned (.agg #[.int .u64 (hi (bZ v n)),.int .u64 (lo (bZ v n))]) ∧ Below w.heap.size w w':=by
 by_cases c1 : n ≤ 0
 ·have HE : Hid (v = bZ v n):=by
   unfold Hid bZ; rw [show n.toNat = 0 by omega,Nat.pow_zero,Nat.div_one]
  go_enter Tryz.func277,Tryz.ntmps277
  go_wp2
  exact bodyPost_ret (v:=.agg #[.int .u64 (hi v),.int .u64 (lo v)]) (by simp [results,Tryz.results277,go_sem]) rfl ⟨by rw [← HE.out],aq _ _ _⟩
 by_cases c2 : n < 64
 ·have HA : Hid (hi v / 2 ^ n.toNat = hi (bZ v n)):=by
   unfold Hid hi bZ
   rw [fQ,zC]
  have HB : Hid (bits .or .u64 (lo v / 2 ^ n.toNat) (IntKind.u64.wrap (hi v * 2 ^ (64 - n).toNat)) = lo (bZ v n)):=by
   unfold Hid hi lo bZ
   rw [fu,fQ,show (64 - n).toNat = 64 - n.toNat by omega]
   exact iS _ _ _ (Nat.lt_of_le_of_lt (Nat.div_le_self _ _) (by omega)) (by omega) (zB v n.toNat (by omega))
  go_enter Tryz.func277,Tryz.ntmps277
  go_wp2
  go_region
  go_wp2
  exact bodyPost_ret (v:=.agg #[.int .u64 (hi v / 2 ^ n.toNat),.int .u64 (bits .or .u64 (lo v / 2 ^ n.toNat) (IntKind.u64.wrap (hi v * 2 ^ (64 - n).toNat)))]) (by simp [results,Tryz.results277,go_sem]) rfl ⟨by rw [HA.out,HB.out],iR _ _ _⟩
 by_cases c3 : n < 128
 ·have HE : Hid ((hi v / 2 ^ (n - 64).toNat).toNat = bZ v n):=by
   unfold Hid hi bZ
   rw [fQ,Int.toNat_natCast,zD,show 64 + (n - 64).toNat = n.toNat by omega]
  have k0 : 0 ≤ hi v / 2 ^ (n - 64).toNat:=by unfold hi; rw [fQ]; exact Int.natCast_nonneg _
  have k1 : hi v / 2 ^ (n - 64).toNat < 18446744073709551616:=by
   have:=zx hv
   unfold hi at this ⊢; rw [fQ]
   exact Int.lt_of_le_of_lt (Int.ofNat_le.2 (Nat.div_le_self (v / 18446744073709551616) (2 ^ (n - 64).toNat))) this
  go_enter Tryz.func277,Tryz.ntmps277
  go_wp2_with fail
  refine (fG _ _ k0 k1).mono ?_
  rintro e w1 ⟨rfl,hb⟩
  rw [HE.out]
  obtain ⟨hc,hf⟩:=d8 hb
  have hz : w.heap.size + 1 < w1.heap.size:=by have:=hb.size; simp at this; omega
  go_wp2
  exact bodyPost_ret (v:=.agg #[.int .u64 (hi (bZ v n)),.int .u64 (lo (bZ v n))]) (by simp [results,Tryz.results277,go_sem,hc]) rfl ⟨rfl,(((aq _ _ _).trans (hb.mono (by simp; omega))).setCell (by simp) _).setCell (by simp) _⟩
 ·have HE : Hid (bZ v n = 0):=by
   unfold Hid bZ; rw [show n.toNat = 128 + (n - 128).toNat by omega,vk _ _ hv]
  go_enter Tryz.func277,Tryz.ntmps277
  go_wp2
  exact bodyPost_ret (v:=.agg #[.int .u64 0,.int .u64 0]) (by simp [results,Tryz.results277,go_sem]) rfl ⟨by rw [HE.out]; rfl,aq _ _ _⟩
def ft (v : Nat) (n : Int) : Bool:=decide (v % 2 ^ n.toNat ≠ 0)
theorem zv (v : Nat) (n : Int) (hv : W2 v) : b7 (bZ v n) n = v ↔ ft v n = false:=by
 unfold b7 bZ ft
 have h1 : v / 2 ^ n.toNat * 2 ^ n.toNat + v % 2 ^ n.toNat = v:=Nat.div_add_mod' _ _
 unfold W2 at hv
 rw [Nat.mod_eq_of_lt (by omega)]
 simp
 omega
theorem rj {w' : World} {b : Nat} {x0 x1 y0 y1 : Value}
 (h : w'.cell? ⟨b,0,none⟩ = some x0 ∧ w'.cell? ⟨b,1,none⟩ = some x1 ∧ w'.cell? ⟨b + 1,0,none⟩ = some y0 ∧ w'.cell? ⟨b + 1,1,none⟩ = some y1) :
 ((w'.setCell ⟨b + 1,0,none⟩ y0).setCell ⟨b + 1,1,none⟩ y1).cell? ⟨b,0,none⟩ = some x0 ∧ ((w'.setCell ⟨b + 1,0,none⟩ y0).setCell ⟨b + 1,1,none⟩ y1).cell? ⟨b,1,none⟩ = some x1 ∧
  ((w'.setCell ⟨b + 1,0,none⟩ y0).setCell ⟨b + 1,1,none⟩ y1).cell? ⟨b + 1,0,none⟩ = some y0 ∧ ((w'.setCell ⟨b + 1,0,none⟩ y0).setCell ⟨b + 1,1,none⟩ y1).cell? ⟨b + 1,1,none⟩ = some y1:=by
 obtain ⟨h1,h2,h3,h4⟩:=h
 refine ⟨?_,?_,?_,?_⟩
 ·rw [World.cell?_setCell_other _ _ _ _ (by simp),World.cell?_setCell_other _ _ _ _ (by simp)]; exact h1
 ·rw [World.cell?_setCell_other _ _ _ _ (by simp),World.cell?_setCell_other _ _ _ _ (by simp)]; exact h2
 ·rw [World.cell?_setCell_other _ _ _ _ (by simp)]; exact World.cell?_setCell_same _ _ _ h3
 ·exact World.cell?_setCell_same _ _ _ (u:=y1) (by rw [World.cell?_setCell_other _ _ _ _ (by simp)]; exact h4)
theorem rk (v : Nat) (n : Int) (w : World) (hv : W2 v) (b : Bool)
 (hq : (hi (b7 (bZ v n) n) == hi v) = true ∧ (lo (b7 (bZ v n) n) == lo v) = true ∧ b = false ∨ (hi (b7 (bZ v n) n) == hi v) = true ∧ (lo (b7 (bZ v n) n) == lo v) = false ∧ b = true ∨ (hi (b7 (bZ v n) n) == hi v) = false ∧ b = true) :
 Calls Tryz.prog 262 #[.agg #[.int .u64 (hi v),.int .u64 (lo v)],.int .i64 n] w fun e w' => e = .returned (.tuple #[.agg #[.int .u64 (hi (bZ v n)),.int .u64 (lo (bZ v n))],.bool b]) ∧ Below w.heap.size w w':=by
 rcases hq with ⟨q1,q2,rfl⟩ | ⟨q1,q2,rfl⟩ | ⟨q1,rfl⟩
 all_goals
  go_enter Tryz.func262,Tryz.ntmps262
  go_wp2_with fail
  refine (alt v n _ hv).mono ?_
  rintro e w1 ⟨rfl,hb⟩
  obtain ⟨hc,hf⟩:=d8 hb
  have hz : w.heap.size + 1 < w1.heap.size:=by have:=hb.size; simp at this; omega
  have hz' : w.heap.size < w1.heap.size:=by omega
  go_wp2_with fail
  go_region_held3 (fun w' => w'.cell? ⟨w.heap.size,0,none⟩ = some (.int .u64 (hi v)) ∧ w'.cell? ⟨w.heap.size,1,none⟩ = some (.int .u64 (lo v)) ∧ w'.cell? ⟨w.heap.size + 1,0,none⟩ = some (.int .u64 (hi (bZ v n))) ∧ w'.cell? ⟨w.heap.size + 1,1,none⟩ = some (.int .u64 (lo (bZ v n)))) (first | (simp [go_sem, *]; done) | exact rj ‹_›)
   (first | (go_at_call 234; refine (fR (bZ v n) n _ (zu n hv)).mono ?_; rintro e w2 ⟨rfl,hb2⟩; obtain ⟨hc2,hf2⟩:=d8 hb2))
  go_wp2
  refine bodyPost_ret (v:=.tuple #[.agg #[.int .u64 (hi (bZ v n)),.int .u64 (lo (bZ v n))],.bool _]) ?_ rfl ⟨rfl,?_⟩
  ·simp [results,Tryz.results262,go_sem, *]
  ·exact (((((((aq _ _ _).trans (hb.mono (by simp; omega))).setCell (by simp) _).setCell (by simp) _).drew).trans (hb2.mono (by simp; omega))).setCell (by simp) _).setCell (by simp) _
theorem iQ (v : Nat) (n : Int) (w : World) (hv : W2 v) :
 Calls Tryz.prog 262 #[.agg #[.int .u64 (hi v),.int .u64 (lo v)],.int .i64 n] w fun e w' => e = .returned (.tuple #[.agg #[.int .u64 (hi (bZ v n)),.int .u64 (lo (bZ v n))],.bool (ft v n)]) ∧ Below w.heap.size w w':=by
 refine rk v n w hv (ft v n) ?_
 have hl:=zv v n hv
 by_cases h1 : hi (b7 (bZ v n) n) = hi v
 ·by_cases h2 : lo (b7 (bZ v n) n) = lo v
  ·exact Or.inl ⟨by simp [h1],by simp [h2],hl.1 (mJ h1 h2)⟩
  ·refine Or.inr (Or.inl ⟨by simp [h1],by simp [h2],?_⟩)
   cases hb : ft v n with
   | true => rfl
   | false => exact absurd (by rw [hl.2 hb]) h2
 ·refine Or.inr (Or.inr ⟨by simp [h1],?_⟩)
  cases hb : ft v n with
  | true => rfl
  | false => exact absurd (by rw [hl.2 hb]) h1
theorem ab {p : Prop} (h : p) : Hid p:=h
theorem aa {p : Prop} (h : Hid p) : p:=h
theorem mI {W w' : World} {b : Nat} {x y : Value} (hb : Below W.heap.size W w') (hz : b < W.heap.size) (h : W.cell? ⟨b,0,none⟩ = some x ∧ W.cell? ⟨b,1,none⟩ = some y) :
 w'.cell? ⟨b,0,none⟩ = some x ∧ w'.cell? ⟨b,1,none⟩ = some y:=
 ⟨by rw [hb.cell (p:=⟨b,0,none⟩) hz]; exact h.1,by rw [hb.cell (p:=⟨b,1,none⟩) hz]; exact h.2⟩
theorem ac {a b c : World} (h : Below a.heap.size a b) (k : Below b.heap.size b c) : Below a.heap.size a c:=h.trans (k.mono h.size)
theorem ad {a b : World} (h : Below a.heap.size a b) (o : Obj) : Below a.heap.size a (b.alloc o):=h.alloc h.size o
theorem dC {v k : Nat} (h : v < 2 ^ k) : Go.bitLen v ≤ k:=by
 unfold Go.bitLen
 split
 ·omega
 ·rename_i h0
  have:=(Nat.log2_lt h0).2 h
  omega
theorem iy {v : Nat} (hv : W2 v) : Go.bitLen v ≤ 128:=dC hv
theorem aj {x : Int} (h1 : -9223372036854775808 ≤ x) (h2 : x < 9223372036854775808) : IntKind.i64.wrap x = x:=by
 simp only [IntKind.wrap,IntKind.bits,IntKind.signed]
 simp
 omega
def ge (v k r : Nat) : Prop:=r * r ≤ v ∧ v < (r + 2 ^ (64 - k)) * (r + 2 ^ (64 - k)) ∧ r % 2 ^ (64 - k) = 0 ∧ r + 2 ^ (64 - k) ≤ 18446744073709551616
theorem ahw (v : Nat) (hv : W2 v) : ge v 0 0:=⟨by omega,by unfold W2 at hv; simpa using hv,by simp,by simp⟩
theorem fo (k : Nat) (h : k < 64) : 2 ^ (64 - k) = 2 * 2 ^ (63 - k):=by
 rw [show 64 - k = (63 - k) + 1 by omega,Nat.pow_succ,Nat.mul_comm]
theorem mX {v k r : Nat} (h : k < 64) (hF : ge v k r) : r % 2 ^ (63 - k) = 0:=by
 have h3:=hF.2.2.1
 rw [fo k h] at h3
 exact Nat.mod_eq_zero_of_dvd (Nat.dvd_trans ⟨2,Nat.mul_comm _ _⟩ (Nat.dvd_of_mod_eq_zero h3))
theorem wR {v k r : Nat} (h : k < 64) (hF : ge v k r) (hle : (r + 2 ^ (63 - k)) * (r + 2 ^ (63 - k)) ≤ v) : ge v (k + 1) (r + 2 ^ (63 - k)):=by
 have hm:=mX h hF
 obtain ⟨h1,h2,h3,h4⟩:=hF
 unfold ge
 rw [show 64 - (k + 1) = 63 - k by omega]
 rw [fo k h] at h2 h4
 refine ⟨hle,?_,?_,by omega⟩
 ·rw [show r + 2 ^ (63 - k) + 2 ^ (63 - k) = r + 2 * 2 ^ (63 - k) by omega]; exact h2
 ·rw [Nat.add_mod_right]; exact hm
theorem abj {v k r : Nat} (h : k < 64) (hF : ge v k r) (hle : ¬ (r + 2 ^ (63 - k)) * (r + 2 ^ (63 - k)) ≤ v) : ge v (k + 1) r:=by
 have hm:=mX h hF
 obtain ⟨h1,h2,h3,h4⟩:=hF
 unfold ge
 rw [show 64 - (k + 1) = 63 - k by omega]
 rw [fo k h] at h4
 exact ⟨h1,by omega,hm,by omega⟩
theorem abk {v k r : Nat} (h : k < 64) (hF : ge v k r) : bits .or .u64 (r : Int) (IntKind.u64.wrap (2 ^ (63 - k))) = ((r + 2 ^ (63 - k) : Nat) : Int):=by
 obtain ⟨h1,h2,h3,h4⟩:=hF
 have hp:=Nat.two_pow_pos (63 - k)
 have e : IntKind.u64.wrap (2 ^ (63 - k)) = ((2 ^ (63 - k) : Nat) : Int):=by
  have:=fu 1 (63 - k)
  rw [Nat.one_mul,Nat.mod_eq_of_lt (by rw [fo k h] at h4; omega)] at this
  simpa using this
 rw [fo k h] at h4
 rw [e]
 refine iS _ _ _ (by omega) (by omega) (nE (64 - k) _ _ h3 ?_)
 rw [fo k h]; omega
theorem abl {v k r : Nat} (h : k < 64) (hF : ge v k r) : r + 2 ^ (63 - k) < 18446744073709551616:=by
 obtain ⟨h1,h2,h3,h4⟩:=hF
 have hp:=Nat.two_pow_pos (63 - k)
 rw [fo k h] at h4; omega
theorem nX (x y : Nat) (w : World) (hx : x < 18446744073709551616) (hy : y < 18446744073709551616) :
 Calls Tryz.prog 236 #[.int .u64 (x : Int),.int .u64 (y : Int)] w fun e w' => e = .returned (.agg #[.int .u64 (hi (x * y)),.int .u64 (lo (x * y))]) ∧ Below w.heap.size w w':=by
 have h:=aj0 x y w (by omega) (by omega) (by omega) (by omega)
 rw [Int.toNat_natCast,Int.toNat_natCast] at h
 exact h
theorem ahx {v u : Nat} (h : v ≤ u) : aK v u ≤ 0:=by
 unfold aK
 split
 ·omega
 ·rw [if_neg (by omega)]; omega
theorem ahy {v u : Nat} (h : ¬ v ≤ u) : 0 < aK v u:=by unfold aK; rw [if_neg (by omega),if_pos (by omega)]; omega
theorem uA {r v : Nat} (hv : W2 v) (h : r * r ≤ v) : r < 18446744073709551616:=by
 unfold W2 at hv
 refine Decidable.byContradiction fun hn => ?_
 have:=Nat.mul_le_mul (show 18446744073709551616 ≤ r by omega) (show 18446744073709551616 ≤ r by omega)
 omega
theorem amz (v : Nat) (w : World) (hv : W2 v) :
 Calls Tryz.prog 159 #[.agg #[.int .u64 (hi v),.int .u64 (lo v)]] w fun e w' => ∃ r : Nat,e = .returned (.tuple #[.int .u64 (r : Int),.bool (decide (r * r ≠ v))]) ∧ r * r ≤ v ∧ v < (r + 1) * (r + 1) ∧ Below w.heap.size w w':=by
 go_enter Tryz.func159,Tryz.ntmps159
 go_wp2
 go_loopw [2,6] (fun x i wr => ∃ r k : Nat,k ≤ 64 ∧ i = .int .i64 k ∧ x = .int .u64 r ∧ ge v k r ∧ Below (w.heap.size + 1) (w.alloc (.cells #[.int .u64 (hi v),.int .u64 (lo v)] 135)) wr) (fun _ i _ => 64 - (intOf i).toNat)
 case atStart => exact ⟨0,0,by omega,rfl,rfl,ahw v hv,Below.refl _ _⟩
 case round =>
  obtain ⟨r,k,hk,rfl,rfl,hF,hb⟩:=hrel
  have HF : Hid (ge v k r):=hF
  clear hF
  have q0 : wr.cell? ⟨w.heap.size,0,none⟩ = some (.int .u64 (hi v)):=by rw [hb.cell (by simp)]; simp [go_sem]
  have q1 : wr.cell? ⟨w.heap.size,1,none⟩ = some (.int .u64 (lo v)):=by rw [hb.cell (by simp)]; simp [go_sem]
  have hz : w.heap.size < wr.heap.size:=by have:=hb.size; simp at this; omega
  by_cases hlt : k < 64
  ·have HN:=ab (abk hlt HF.out)
   have HL:=ab (abl hlt HF.out)
   have HY:=ab (fun hle => wR hlt HF.out hle)
   have HO:=ab (fun hle => abj hlt HF.out hle)
   generalize r + 2 ^ (63 - k) = nx at HN HL HY HO
   by_cases hle : nx * nx ≤ v
   ·have ht:=ahx hle
    have HLE:=ab hle
    clear hle
    go_wp2_with fail
    rw [aa HN]
    go_region_held3 (fun w' => w'.cell? ⟨w.heap.size,0,none⟩ = some (.int .u64 (hi v)) ∧ w'.cell? ⟨w.heap.size,1,none⟩ = some (.int .u64 (lo v))) (first | exact mI hb3 (by first | assumption | (simp; omega)) ‹_› | exact mI hb2 (by first | assumption | (simp; omega)) ‹_› | (simp [go_sem,q0,q1]; done))
     (first | (go_at_call 236; refine (nX nx nx _ (aa HL) (aa HL)).mono ?_; rintro e w2 ⟨rfl,hb2⟩; obtain ⟨hc2,hf2⟩:=d8 hb2; have hz2 : w.heap.size < w2.heap.size:=by have:=hb2.size; simp at this; omega) | (go_at_call 235; refine (tO (nx * nx) v _).mono ?_; rintro e w3 ⟨rfl,hb3⟩; obtain ⟨hc3,hf3⟩:=d8 hb3))
    go_wp2
    go_roundw
    case rel => exact ⟨nx,k + 1,by omega,by go_num,rfl,aa HY (aa HLE),((hb.drew).trans (hb2.mono (by simp; omega))).trans (hb3.mono (by omega))⟩
    case measure => simp [intOf]; omega
   ·have ht:=ahy hle
    have HLE:=ab hle
    clear hle
    go_wp2_with fail
    rw [aa HN]
    go_region_held3 (fun w' => w'.cell? ⟨w.heap.size,0,none⟩ = some (.int .u64 (hi v)) ∧ w'.cell? ⟨w.heap.size,1,none⟩ = some (.int .u64 (lo v))) (first | exact mI hb3 (by first | assumption | (simp; omega)) ‹_› | exact mI hb2 (by first | assumption | (simp; omega)) ‹_› | (simp [go_sem,q0,q1]; done))
     (first | (go_at_call 236; refine (nX nx nx _ (aa HL) (aa HL)).mono ?_; rintro e w2 ⟨rfl,hb2⟩; obtain ⟨hc2,hf2⟩:=d8 hb2; have hz2 : w.heap.size < w2.heap.size:=by have:=hb2.size; simp at this; omega) | (go_at_call 235; refine (tO (nx * nx) v _).mono ?_; rintro e w3 ⟨rfl,hb3⟩; obtain ⟨hc3,hf3⟩:=d8 hb3))
    go_wp2
    go_roundw
    case rel => exact ⟨r,k + 1,by omega,by go_num,rfl,aa HO (aa HLE),((hb.drew).trans (hb2.mono (by simp; omega))).trans (hb3.mono (by omega))⟩
    case measure => simp [intOf]; omega
  ·have hk64 : k = 64:=by omega
   subst hk64
   have HS:=ab (show r * r ≤ v from HF.out.1)
   have HT:=ab (show v < (r + 1) * (r + 1) by have:=HF.out.2.1; simpa using this)
   have HL:=ab (uA hv HF.out.1)
   obtain ⟨b,hbq,hq⟩ : ∃ b : Bool,decide (r * r ≠ v) = b ∧ ((hi (r * r) == hi v) = true ∧ (lo (r * r) == lo v) = true ∧ b = false ∨ (hi (r * r) == hi v) = true ∧ (lo (r * r) == lo v) = false ∧ b = true ∨ (hi (r * r) == hi v) = false ∧ b = true):=by
    by_cases h1 : hi (r * r) = hi v
    ·by_cases h2 : lo (r * r) = lo v
     ·exact ⟨false,by simp [mJ h1 h2],Or.inl ⟨by simp [h1],by simp [h2],rfl⟩⟩
     ·exact ⟨true,by simp; intro h; exact h2 (by rw [h]),Or.inr (Or.inl ⟨by simp [h1],by simp [h2],rfl⟩)⟩
    ·exact ⟨true,by simp; intro h; exact h1 (by rw [h]),Or.inr (Or.inr ⟨by simp [h1],rfl⟩)⟩
   have HB:=ab hbq
   clear hbq
   rcases hq with ⟨p1,p2,rfl⟩ | ⟨p1,p2,rfl⟩ | ⟨p1,rfl⟩
   all_goals
    go_wp2_with fail
    go_region_held3 (fun w' => w'.cell? ⟨w.heap.size,0,none⟩ = some (.int .u64 (hi v)) ∧ w'.cell? ⟨w.heap.size,1,none⟩ = some (.int .u64 (lo v))) (first | exact mI hb2 (by first | assumption | (simp; omega)) ‹_› | (simp [go_sem,q0,q1]; done))
     (first | (go_at_call 236; refine (nX r r _ (aa HL) (aa HL)).mono ?_; rintro e w2 ⟨rfl,hb2⟩; obtain ⟨hc2,hf2⟩:=d8 hb2; have hz2 : w.heap.size < w2.heap.size:=by have:=hb2.size; simp at this; omega))
    go_wp2
    go_ret2
    exact ⟨r,by rw [aa HB]; rfl,aa HS,aa HT,((ae _ _).trans (hb.mono (by omega))).drew.trans (hb2.mono (by simp; omega))⟩
end Go.Proofs.YtpbgpdmffejdgaaGreatDoor.W
