/- MRbX, MRbY, MLawW. -/
import Derived.Test.YtpbgpdmffejdgaaGreatDoorG11
import Derived.Test.YtpbgpdmffejdgaaGreatDoorG19
import Derived.Test.YtpbgpdmffejdgaaGreatDoorG26
import Derived.Test.YtpbgpdmffejdgaaGreatDoorG28
import Derived.Test.YtpbgpdmffejdgaaGreatDoorG29
import Derived.Test.YtpbgpdmffejdgaaGreatDoorG31
import Derived.Test.YtpbgpdmffejdgaaGreatDoorG37
import Derived.Test.YtpbgpdmffejdgaaGreatDoorG42
import Derived.Test.YtpbgpdmffejdgaaGreatDoorG45
import Derived.Test.YtpbgpdmffejdgaaGreatDoorG46
import Derived.Test.YtpbgpdmffejdgaaGreatDoorG47
namespace Go.Proofs.YtpbgpdmffejdgaaGreatDoor
set_option maxRecDepth 100000
open Go.RowKit
open Go.Proofs.YtpbgpdmffejdgaaGreatDoor.W
def Ut (op a b M : Int) (s : ByteArray) : Prop:=∃ v t,Ap op a b v t ∧ Ct 43 #[.string s,.int .u64 (a % M)] (.tuple #[.int .u64 v,.int .i64 t])
theorem qt {w e f P Q b w' e' f' P' Q' b' x : Int} (k : Kd w e f P Q b) (k' : Kd w' e' f' P' Q' b') (x0 : 0 ≤ x) (x1 : x < 18446744073709551616) : ∃ V,Ct 101 #[.int .i64 w,.int .u64 x] (V) ∧ Ct 100 #[.int .i64 w',V] (Value.int .u64 (dF f' P' Q' b' (oN P Q x) (oK P Q x) (oM f P Q b x))):=by
 obtain ⟨X,S,ho,hp,hm⟩:=aL k x
 obtain ⟨a,c,s0,-,s1⟩:=hp.in k
 have hn:=fun W => ox k' (oN P Q x) (oK P Q x) X S s0 (by omega) (by omega) (by omega) W
 rw [gH k k' _ hp,hm] at hn
 exact ⟨_,ab (fun W => aN x k W x0 x1 ho),ab hn⟩
theorem uK (H : Int) (s n : Bool) (K : Int) (z : Nat) : (chO H s n K z = 0 ∧ chT H s n K z = 0 ∧ chV H s n K z = chR H s n K z) ∨ (chO H s n K z = 1 ∧ chT H s n K z = 4 ∧ chV H s n K z = 0 ∧ chR H s n K z = 0) ∨ (chO H s n K z = 2 ∧ chT H s n K z = 3 ∧ chV H s n K z = tf H s) ∨ (chO H s n K z = 3 ∧ chT H s n K z = 3 ∧ chV H s n K z = mg H s):=by
 unfold chR chO chT chV
 by_cases h3 : K = 3
 ·rw [if_pos h3,if_pos h3,if_pos h3]; exact Or.inr (Or.inl ⟨rfl,rfl,rfl,rfl⟩)
 ·rw [if_neg h3,if_neg h3,if_neg h3]
  by_cases h2 : K = 2
  ·rw [if_neg (by simp [h2]),if_pos h2,if_pos h2]
   unfold dZ
   cases n
   ·exact Or.inr (Or.inr (Or.inr ⟨rfl,rfl,rfl⟩))
   ·exact Or.inr (Or.inr (Or.inl ⟨rfl,rfl,rfl⟩))
  ·rw [if_neg h2,if_neg h2]
   by_cases hz : (z : Int) ≤ dZ H s n
   ·rw [if_pos ⟨h2,hz⟩,if_pos hz,if_pos hz]; exact Or.inl ⟨rfl,rfl,rfl⟩
   ·rw [if_neg (fun h => hz h.2),if_neg hz,if_neg hz]
    unfold dZ
    cases n
    ·exact Or.inr (Or.inr (Or.inr ⟨rfl,rfl,rfl⟩))
    ·exact Or.inr (Or.inr (Or.inl ⟨rfl,rfl,rfl⟩))
theorem opd {q : List (ByteArray × ByteArray)} (h : cj Op q) (i : Nat) {s o : ByteArray} (e : q[i]? = some (s,o):=by rfl) : Ct 31 #[.string s] (.string o):=cj.mem h (s,o) (List.mem_of_getElem? e)
theorem gE (f P Q b H : Int) (s : Bool) (x : Int) : (chO H s (oN P Q x) (oK P Q x) (wq (oM f P Q b x)) = 0 ∧ tvN f P Q b H s x = chR H s (oN P Q x) (oK P Q x) (wq (oM f P Q b x)) ∧ trN f P Q b H s x = 0) ∨ (chO H s (oN P Q x) (oK P Q x) (wq (oM f P Q b x)) = 1 ∧ tvN f P Q b H s x = 0 ∧ trN f P Q b H s x = 4) ∨ (chO H s (oN P Q x) (oK P Q x) (wq (oM f P Q b x)) = 2 ∧ tvN f P Q b H s x = 0 ∧ trN f P Q b H s x = 3) ∨ (chO H s (oN P Q x) (oK P Q x) (wq (oM f P Q b x)) = 3 ∧ tvN f P Q b H s x = 0 ∧ trN f P Q b H s x = 3):=by
 unfold tvN trN vaN
 rcases uK H s (oN P Q x) (oK P Q x) (wq (oM f P Q b x)) with ⟨h1,h2,h3⟩ | ⟨h1,h2,h3,h4⟩ | ⟨h1,h2,h3⟩ | ⟨h1,h2,h3⟩
 ·rw [h1,h2,if_pos rfl,h3]; exact Or.inl ⟨rfl,rfl,rfl⟩
 ·rw [h1,h2,if_neg (by omega)]; exact Or.inr (Or.inl ⟨rfl,rfl,rfl⟩)
 ·rw [h1,h2,if_neg (by omega)]; exact Or.inr (Or.inr (Or.inl ⟨rfl,rfl,rfl⟩))
 ·rw [h1,h2,if_neg (by omega)]; exact Or.inr (Or.inr (Or.inr ⟨rfl,rfl,rfl⟩))
theorem gF {w e f P Q b : Int} (k : Kd w e f P Q b) (f' P' Q' b' : Int) (s : Bool) (x : Int) : (chO (P * Q) s (oN P' Q' x) (oK P' Q' x) (wq (oM f' P' Q' b' x)) = 0 ∧ vaN f' P' Q' b' (P * Q) s x = chR (P * Q) s (oN P' Q' x) (oK P' Q' x) (wq (oM f' P' Q' b' x))) ∨ (chO (P * Q) s (oN P' Q' x) (oK P' Q' x) (wq (oM f' P' Q' b' x)) = 1 ∧ vaN f' P' Q' b' (P * Q) s x = chR (P * Q) s (oN P' Q' x) (oK P' Q' x) (wq (oM f' P' Q' b' x))) ∨ (chO (P * Q) s (oN P' Q' x) (oK P' Q' x) (wq (oM f' P' Q' b' x)) = 2 ∧ Ct 187 #[.int .i64 w,.bool s] (Value.int .u64 (vaN f' P' Q' b' (P * Q) s x))) ∨ (chO (P * Q) s (oN P' Q' x) (oK P' Q' x) (wq (oM f' P' Q' b' x)) = 3 ∧ Ct 188 #[.int .i64 w,.bool s] (Value.int .u64 (vaN f' P' Q' b' (P * Q) s x))):=by
 unfold vaN
 rcases uK (P * Q) s (oN P' Q' x) (oK P' Q' x) (wq (oM f' P' Q' b' x)) with ⟨h1,h2,h3⟩ | ⟨h1,h2,h3,h4⟩ | ⟨h1,h2,h3⟩ | ⟨h1,h2,h3⟩
 ·exact Or.inl ⟨h1,h3⟩
 ·exact Or.inr (Or.inl ⟨h1,h3.trans h4.symm⟩)
 ·rw [h3]; exact Or.inr (Or.inr (Or.inl ⟨h1,uS k s⟩))
 ·rw [h3]; exact Or.inr (Or.inr (Or.inr ⟨h1,qN k s⟩))
theorem acs (a : Int) (g : Bool) : Ct 99 #[.int .i64 64,.int .i64 32,.int .u64 (a % 4294967296),.bool g] (.int .u64 ((bX (fJ (a % 4294967296).toNat 32 g) 64 : Nat) : Int)):=by
 have h:=alv ap (f:=32) (m:=32) (b:=(a % 4294967296).toNat) (by unfold Pc; omega) (by omega) (by omega) g
 rw [show (((a % 4294967296).toNat : Nat) : Int) = a % 4294967296 by omega] at h
 exact h
theorem aqy (a : Int) : ((bX (fJ (a % 4294967296).toNat 32 false) 64 : Nat) : Int) = (a % 4294967296) % 18446744073709551616:=by
 have h : bX (fJ (a % 4294967296).toNat 32 false) 64 = (a % 4294967296).toNat:=fA (by omega) (fun i hi => by
  unfold fJ
  by_cases h : i < 32
  ·simp [h]
  ·simp [h]
   exact Nat.testBit_lt_two_pow (Nat.lt_of_lt_of_le (show (a % 4294967296).toNat < 2 ^ 32 by omega) (Nat.pow_le_pow_right (by omega) (by omega))))
 rw [h]
 omega
theorem at4 {a b : Int} (ha : Rg a) (hb : Rg b) : Ut 167 a b 18446744073709551616 ⟨#[105,51,50,46,119,114,97,112,95,105,54,52]⟩:=
 ⟨_,_,arg ha hb,mi (Or.inl rfl) (by kernel_rfl) (opd dH 2) bb (bR am (ap.rg a))⟩
theorem at5 {a b : Int} (ha : Rg a) (hb : Rg b) : Ut 168 a b 4294967296 ⟨#[105,51,50,46,116,114,117,110,99,95,102,51,50,95,115]⟩:=
 ⟨_,_,arh ha hb,gK (Or.inl ⟨rfl,rfl⟩) (gE _ _ _ _ _ _ _) (by kernel_rfl) (opd dH 3) bb aQ (bB k32 k32 true (am.rg a).1 (am.rg a).2)⟩
theorem at6 {a b : Int} (ha : Rg a) (hb : Rg b) : Ut 169 a b 4294967296 ⟨#[105,51,50,46,116,114,117,110,99,95,102,51,50,95,117]⟩:=
 ⟨_,_,ari ha hb,gK (Or.inr (Or.inl ⟨rfl,rfl⟩)) (gE _ _ _ _ _ _ _) (by kernel_rfl) (opd dH 4) bb aQ (bB k32 k32 false (am.rg a).1 (am.rg a).2)⟩
theorem at7 {a b : Int} (ha : Rg a) (hb : Rg b) : Ut 170 a b 18446744073709551616 ⟨#[105,51,50,46,116,114,117,110,99,95,102,54,52,95,115]⟩:=
 ⟨_,_,arj ha hb,gK (Or.inr (Or.inr (Or.inl ⟨rfl,rfl⟩))) (gE _ _ _ _ _ _ _) (by kernel_rfl) (opd dH 5) bb aR (bB k64 k32 true (ap.rg a).1 (ap.rg a).2)⟩
theorem at8 {a b : Int} (ha : Rg a) (hb : Rg b) : Ut 171 a b 18446744073709551616 ⟨#[105,51,50,46,116,114,117,110,99,95,102,54,52,95,117]⟩:=
 ⟨_,_,ark ha hb,gK (Or.inr (Or.inr (Or.inr (Or.inl ⟨rfl,rfl⟩)))) (gE _ _ _ _ _ _ _) (by kernel_rfl) (opd dH 6) bb aR (bB k64 k32 false (ap.rg a).1 (ap.rg a).2)⟩
theorem at9 {a b : Int} (ha : Rg a) (hb : Rg b) : Ut 172 a b 4294967296 ⟨#[105,54,52,46,101,120,116,101,110,100,95,105,51,50,95,115]⟩:=by
 refine ⟨_,_,arl ha hb,ac0 (tt:=⟨#[105,54,52]⟩) (Or.inl ⟨rfl,rfl⟩) (by kernel_rfl) (opd dH 7) ?_⟩
 exact acs a true
theorem aua {a b : Int} (ha : Rg a) (hb : Rg b) : Ut 173 a b 4294967296 ⟨#[105,54,52,46,101,120,116,101,110,100,95,105,51,50,95,117]⟩:=by
 refine ⟨_,_,arm ha hb,ac0 (tt:=⟨#[105,54,52]⟩) (Or.inr (⟨rfl,rfl⟩)) (by kernel_rfl) (opd cY 0) ?_⟩
 exact ctu (acs a false) (aqy a)
theorem aub {a b : Int} (ha : Rg a) (hb : Rg b) : Ut 174 a b 4294967296 ⟨#[105,54,52,46,116,114,117,110,99,95,102,51,50,95,115]⟩:=
 ⟨_,_,arn ha hb,gK (Or.inr (Or.inr (Or.inr (Or.inr (Or.inl ⟨rfl,rfl⟩))))) (gE _ _ _ _ _ _ _) (by kernel_rfl) (opd cY 1) bm aQ (bB k32 k64 true (am.rg a).1 (am.rg a).2)⟩
theorem auc {a b : Int} (ha : Rg a) (hb : Rg b) : Ut 175 a b 4294967296 ⟨#[105,54,52,46,116,114,117,110,99,95,102,51,50,95,117]⟩:=
 ⟨_,_,aro ha hb,gK (Or.inr (Or.inr (Or.inr (Or.inr (Or.inr (Or.inl ⟨rfl,rfl⟩)))))) (gE _ _ _ _ _ _ _) (by kernel_rfl) (opd cY 2) bm aQ (bB k32 k64 false (am.rg a).1 (am.rg a).2)⟩
theorem aud {a b : Int} (ha : Rg a) (hb : Rg b) : Ut 176 a b 18446744073709551616 ⟨#[105,54,52,46,116,114,117,110,99,95,102,54,52,95,115]⟩:=
 ⟨_,_,arp ha hb,gK (Or.inr (Or.inr (Or.inr (Or.inr (Or.inr (Or.inr (Or.inl ⟨rfl,rfl⟩))))))) (gE _ _ _ _ _ _ _) (by kernel_rfl) (opd cY 3) bm aR (bB k64 k64 true (ap.rg a).1 (ap.rg a).2)⟩
theorem aqz {a b : Int} (ha : Rg a) (hb : Rg b) : Ut 177 a b 18446744073709551616 ⟨#[105,54,52,46,116,114,117,110,99,95,102,54,52,95,117]⟩:=
 ⟨_,_,anh ha hb,gK (Or.inr (Or.inr (Or.inr (Or.inr (Or.inr (Or.inr (Or.inr (⟨rfl,rfl⟩)))))))) (gE _ _ _ _ _ _ _) (by kernel_rfl) (opd cY 4) bm aR (bB k64 k64 false (ap.rg a).1 (ap.rg a).2)⟩
theorem aq0 {a b : Int} (ha : Rg a) (hb : Rg b) : Ut 178 a b 4294967296 ⟨#[102,51,50,46,99,111,110,118,101,114,116,95,105,51,50,95,115]⟩:=
 ⟨_,_,ani ha hb,gJ (Or.inl ⟨rfl,rfl⟩) (by kernel_rfl) (opd cY 5) aQ bb (co k32 k32 true (am.rg a).1 (am.rg a).2)⟩
theorem aq1 {a b : Int} (ha : Rg a) (hb : Rg b) : Ut 179 a b 4294967296 ⟨#[102,51,50,46,99,111,110,118,101,114,116,95,105,51,50,95,117]⟩:=
 ⟨_,_,anj ha hb,gJ (Or.inr (Or.inl ⟨rfl,rfl⟩)) (by kernel_rfl) (opd cY 6) aQ bb (co k32 k32 false (am.rg a).1 (am.rg a).2)⟩
theorem aq2 {a b : Int} (ha : Rg a) (hb : Rg b) : Ut 180 a b 18446744073709551616 ⟨#[102,51,50,46,99,111,110,118,101,114,116,95,105,54,52,95,115]⟩:=
 ⟨_,_,ank ha hb,gJ (Or.inr (Or.inr (Or.inl ⟨rfl,rfl⟩))) (by kernel_rfl) (opd cY 7) aQ bm (co k32 k64 true (ap.rg a).1 (ap.rg a).2)⟩
theorem aq3 {a b : Int} (ha : Rg a) (hb : Rg b) : Ut 181 a b 18446744073709551616 ⟨#[102,51,50,46,99,111,110,118,101,114,116,95,105,54,52,95,117]⟩:=
 ⟨_,_,anl ha hb,gJ (Or.inr (Or.inr (Or.inr (Or.inl ⟨rfl,rfl⟩)))) (by kernel_rfl) (opd cZ 0) aQ bm (co k32 k64 false (ap.rg a).1 (ap.rg a).2)⟩
theorem aq4 {a b : Int} (ha : Rg a) (hb : Rg b) : Ut 182 a b 18446744073709551616 ⟨#[102,51,50,46,100,101,109,111,116,101,95,102,54,52]⟩:=by
 obtain ⟨V,O,Nn⟩:=qt k64 k32 (ap.rg a).1 (ap.rg a).2
 exact ⟨_,_,anm ha hb,ac1 (Or.inl rfl) (by kernel_rfl) (opd cZ 1) aQ aR O Nn⟩
theorem aq5 {a b : Int} (ha : Rg a) (hb : Rg b) : Ut 183 a b 4294967296 ⟨#[102,54,52,46,99,111,110,118,101,114,116,95,105,51,50,95,115]⟩:=
 ⟨_,_,ann ha hb,gJ (Or.inr (Or.inr (Or.inr (Or.inr (Or.inl ⟨rfl,rfl⟩))))) (by kernel_rfl) (opd cZ 2) aR bb (co k64 k32 true (am.rg a).1 (am.rg a).2)⟩
theorem aq6 {a b : Int} (ha : Rg a) (hb : Rg b) : Ut 184 a b 4294967296 ⟨#[102,54,52,46,99,111,110,118,101,114,116,95,105,51,50,95,117]⟩:=
 ⟨_,_,ano ha hb,gJ (Or.inr (Or.inr (Or.inr (Or.inr (Or.inr (Or.inl ⟨rfl,rfl⟩)))))) (by kernel_rfl) (opd cZ 3) aR bb (co k64 k32 false (am.rg a).1 (am.rg a).2)⟩
theorem aq7 {a b : Int} (ha : Rg a) (hb : Rg b) : Ut 185 a b 18446744073709551616 ⟨#[102,54,52,46,99,111,110,118,101,114,116,95,105,54,52,95,115]⟩:=
 ⟨_,_,anp ha hb,gJ (Or.inr (Or.inr (Or.inr (Or.inr (Or.inr (Or.inr (Or.inl ⟨rfl,rfl⟩))))))) (by kernel_rfl) (opd cZ 4) aR bm (co k64 k64 true (ap.rg a).1 (ap.rg a).2)⟩
theorem aq8 {a b : Int} (ha : Rg a) (hb : Rg b) : Ut 186 a b 18446744073709551616 ⟨#[102,54,52,46,99,111,110,118,101,114,116,95,105,54,52,95,117]⟩:=
 ⟨_,_,anq ha hb,gJ (Or.inr (Or.inr (Or.inr (Or.inr (Or.inr (Or.inr (Or.inr (⟨rfl,rfl⟩)))))))) (by kernel_rfl) (opd cZ 5) aR bm (co k64 k64 false (ap.rg a).1 (ap.rg a).2)⟩
theorem aq9 {a b : Int} (ha : Rg a) (hb : Rg b) : Ut 187 a b 4294967296 ⟨#[102,54,52,46,112,114,111,109,111,116,101,95,102,51,50]⟩:=by
 obtain ⟨V,O,Nn⟩:=qt k32 k64 (am.rg a).1 (am.rg a).2
 exact ⟨_,_,anr ha hb,ac1 (Or.inr (rfl)) (by kernel_rfl) (opd cZ 6) aR aQ O Nn⟩
theorem ara {a b : Int} (ha : Rg a) (hb : Rg b) : Ut 188 a b 4294967296 ⟨#[105,51,50,46,114,101,105,110,116,101,114,112,114,101,116,95,102,51,50]⟩:=
 ⟨_,_,ans ha hb,mi (Or.inr (Or.inl rfl)) (by kernel_rfl) (opd cZ 7) bb (bR am (am.rg a))⟩
theorem arb {a b : Int} (ha : Rg a) (hb : Rg b) : Ut 189 a b 18446744073709551616 ⟨#[105,54,52,46,114,101,105,110,116,101,114,112,114,101,116,95,102,54,52]⟩:=
 ⟨_,_,ant ha hb,mi (Or.inr (Or.inr (Or.inl rfl))) (by kernel_rfl) (opd da 0) bm (bR ap (ap.rg a))⟩
theorem arc {a b : Int} (ha : Rg a) (hb : Rg b) : Ut 190 a b 4294967296 ⟨#[102,51,50,46,114,101,105,110,116,101,114,112,114,101,116,95,105,51,50]⟩:=
 ⟨_,_,anu ha hb,mi (Or.inr (Or.inr (Or.inr (Or.inl rfl)))) (by kernel_rfl) (opd da 1) aQ (bR am (am.rg a))⟩
theorem ard {a b : Int} (ha : Rg a) (hb : Rg b) : Ut 191 a b 18446744073709551616 ⟨#[102,54,52,46,114,101,105,110,116,101,114,112,114,101,116,95,105,54,52]⟩:=
 ⟨_,_,anv ha hb,mi (Or.inr (Or.inr (Or.inr (Or.inr (rfl))))) (by kernel_rfl) (opd da 2) aR (bR ap (ap.rg a))⟩
theorem aue {a b : Int} (ha : Rg a) (hb : Rg b) : Ut 64512 a b 4294967296 ⟨#[105,51,50,46,116,114,117,110,99,95,115,97,116,95,102,51,50,95,115]⟩:=
 ⟨_,_,arq ha hb,gN (Or.inl ⟨rfl,rfl⟩) (by kernel_rfl) (opd da 3) bb aQ (bB k32 k32 true (am.rg a).1 (am.rg a).2) (qK (gF k32 _ _ _ _ _ _))⟩
theorem auf {a b : Int} (ha : Rg a) (hb : Rg b) : Ut 64513 a b 4294967296 ⟨#[105,51,50,46,116,114,117,110,99,95,115,97,116,95,102,51,50,95,117]⟩:=
 ⟨_,_,arr ha hb,gN (Or.inr (Or.inl ⟨rfl,rfl⟩)) (by kernel_rfl) (opd da 4) bb aQ (bB k32 k32 false (am.rg a).1 (am.rg a).2) (qK (gF k32 _ _ _ _ _ _))⟩
theorem aug {a b : Int} (ha : Rg a) (hb : Rg b) : Ut 64514 a b 18446744073709551616 ⟨#[105,51,50,46,116,114,117,110,99,95,115,97,116,95,102,54,52,95,115]⟩:=
 ⟨_,_,ars ha hb,gN (Or.inr (Or.inr (Or.inl ⟨rfl,rfl⟩))) (by kernel_rfl) (opd da 5) bb aR (bB k64 k32 true (ap.rg a).1 (ap.rg a).2) (qK (gF k32 _ _ _ _ _ _))⟩
theorem auh {a b : Int} (ha : Rg a) (hb : Rg b) : Ut 64515 a b 18446744073709551616 ⟨#[105,51,50,46,116,114,117,110,99,95,115,97,116,95,102,54,52,95,117]⟩:=
 ⟨_,_,art ha hb,gN (Or.inr (Or.inr (Or.inr (Or.inl ⟨rfl,rfl⟩)))) (by kernel_rfl) (opd da 6) bb aR (bB k64 k32 false (ap.rg a).1 (ap.rg a).2) (qK (gF k32 _ _ _ _ _ _))⟩
theorem aui {a b : Int} (ha : Rg a) (hb : Rg b) : Ut 64516 a b 4294967296 ⟨#[105,54,52,46,116,114,117,110,99,95,115,97,116,95,102,51,50,95,115]⟩:=
 ⟨_,_,aru ha hb,gN (Or.inr (Or.inr (Or.inr (Or.inr (Or.inl ⟨rfl,rfl⟩))))) (by kernel_rfl) (opd da 7) bm aQ (bB k32 k64 true (am.rg a).1 (am.rg a).2) (qK (gF k64 _ _ _ _ _ _))⟩
theorem auj {a b : Int} (ha : Rg a) (hb : Rg b) : Ut 64517 a b 4294967296 ⟨#[105,54,52,46,116,114,117,110,99,95,115,97,116,95,102,51,50,95,117]⟩:=
 ⟨_,_,arv ha hb,gN (Or.inr (Or.inr (Or.inr (Or.inr (Or.inr (Or.inl ⟨rfl,rfl⟩)))))) (by kernel_rfl) (opd jq 0) bm aQ (bB k32 k64 false (am.rg a).1 (am.rg a).2) (qK (gF k64 _ _ _ _ _ _))⟩
theorem auk {a b : Int} (ha : Rg a) (hb : Rg b) : Ut 64518 a b 18446744073709551616 ⟨#[105,54,52,46,116,114,117,110,99,95,115,97,116,95,102,54,52,95,115]⟩:=
 ⟨_,_,arw ha hb,gN (Or.inr (Or.inr (Or.inr (Or.inr (Or.inr (Or.inr (Or.inl ⟨rfl,rfl⟩))))))) (by kernel_rfl) (opd jq 1) bm aR (bB k64 k64 true (ap.rg a).1 (ap.rg a).2) (qK (gF k64 _ _ _ _ _ _))⟩
theorem aul {a b : Int} (ha : Rg a) (hb : Rg b) : Ut 64519 a b 18446744073709551616 ⟨#[105,54,52,46,116,114,117,110,99,95,115,97,116,95,102,54,52,95,117]⟩:=
 ⟨_,_,arx ha hb,gN (Or.inr (Or.inr (Or.inr (Or.inr (Or.inr (Or.inr (Or.inr (⟨rfl,rfl⟩)))))))) (by kernel_rfl) (opd jq 2) bm aR (bB k64 k64 false (ap.rg a).1 (ap.rg a).2) (qK (gF k64 _ _ _ _ _ _))⟩
set_option maxHeartbeats 4000000
def fC (op a b : Int) : Prop:=∃ r t,Ap op a b r t ∧ Ct 14 #[.int .i64 op,.int .u64 a,.int .u64 b] (.tuple #[.int .u64 r,.int .i64 t])
theorem bi {w a b H M : Int} {n : Nat} (k : Wm w n H M) (ha : Rg a) (hb : Rg b) (kk : Nat) {Nm Tt s : ByteArray} (HO : Ct 31 #[.string Nm] (.string Tt)) (hU : Un (69 + (kk : Int)) w a b M s)
 (ht : (Tt = ⟨#[105,51,50]⟩ ∧ w = 32) ∨ (Tt = ⟨#[105,54,52]⟩ ∧ w = 64):=by first | exact Or.inl ⟨rfl,rfl⟩ | exact Or.inr ⟨rfl,rfl⟩) (h2 : kk < 123:=by decide) (hx : (nh 0)[kk]? = some Nm:=by kernel_rfl) (hne : (Nm.toList == []) = false:=by kernel_rfl) (hsz : 4 ≤ Nm.size:=by decide) (hT : Nm.extract 0 3 = Tt:=by kernel_rfl) (hR : Nm.extract 4 Nm.size = s:=by kernel_rfl) : fC (69 + (kk : Int)) a b:=by
 obtain ⟨v,t,h3,h4⟩:=hU
 have HN:=kT (op:=69 + (kk : Int)) rfl h2 hx
 rcases ht with ⟨rfl,rfl⟩ | ⟨rfl,rfl⟩
 ·exact ⟨v,t,h3,ai6 (Or.inl rfl) HN hne hsz hT hR HO bb (bR k ha) (bR k hb) h4⟩
 ·exact ⟨v,t,h3,ai6 (Or.inr rfl) HN hne hsz hT hR HO bm (bR k ha) (bR k hb) h4⟩
theorem bfl {w e f P Q c a b : Int} (k : Kd w e f P Q c) (ha : Rg a) (hb : Rg b) (kk : Nat) {Nm Tt s : ByteArray} (HO : Ct 31 #[.string Nm] (.string Tt)) (hU : Uf (69 + (kk : Int)) w a b (2 * (P * Q)) s)
 (ht : (Tt = ⟨#[102,51,50]⟩ ∧ w = 32) ∨ (Tt = ⟨#[102,54,52]⟩ ∧ w = 64):=by first | exact Or.inl ⟨rfl,rfl⟩ | exact Or.inr ⟨rfl,rfl⟩) (h2 : kk < 123:=by decide) (hx : (nh 0)[kk]? = some Nm:=by kernel_rfl) (hne : (Nm.toList == []) = false:=by kernel_rfl) (hsz : 4 ≤ Nm.size:=by decide) (hT : Nm.extract 0 3 = Tt:=by kernel_rfl) (hR : Nm.extract 4 Nm.size = s:=by kernel_rfl) : fC (69 + (kk : Int)) a b:=by
 obtain ⟨v,h3,h4⟩:=hU
 have HN:=kT (op:=69 + (kk : Int)) rfl h2 hx
 have m:=k.wm
 rcases ht with ⟨rfl,rfl⟩ | ⟨rfl,rfl⟩
 ·exact ⟨v,0,h3,ai7 (Or.inl rfl) HN hne hsz hT hR HO aQ (bR m ha) (bR m hb) h4⟩
 ·exact ⟨v,0,h3,ai7 (Or.inr rfl) HN hne hsz hT hR HO aR (bR m ha) (bR m hb) h4⟩
theorem bq {op w a b H M : Int} {n : Nat} (k : Wm w n H M) (ha : Rg a) (hb : Rg b) (kk : Nat) {Nm Oo : ByteArray} (HO : Ct 31 #[.string Nm] (.string Oo)) (HW : Ct 42 #[.string Oo] (.int .i64 w)) (hU : Ut op a b M Nm)
 (h1 : op = 69 + (kk : Int):=by rfl) (h2 : kk < 123:=by decide) (hx : (nh 0)[kk]? = some Nm:=by kernel_rfl) (hne : (Nm.toList == []) = false:=by kernel_rfl) (hsz : 4 ≤ Nm.size:=by decide) (b3 : (Oo.toList == (Nm.extract 0 3).toList) = false:=by kernel_rfl) : fC (69 + (kk : Int)) a b:=by
 obtain ⟨v,t,h3,h4⟩:=hU
 have HN:=kT h1 h2 hx
 subst h1
 exact ⟨v,t,h3,oE HN hne hsz rfl HO HW (bR k ha) (bR k hb) b3 h4⟩
theorem bs {op w a b H M : Int} {n : Nat} (k : Wm w n H M) (ha : Rg a) (hb : Rg b) (kk : Nat) {Nm Oo : ByteArray} (HO : Ct 31 #[.string Nm] (.string Oo)) (HW : Ct 42 #[.string Oo] (.int .i64 w)) (hU : Ut op a b M Nm)
 (h1 : op = 64512 + (kk : Int):=by rfl) (h2 : kk < 8:=by decide) (hx : xU[kk]? = some Nm:=by kernel_rfl) (hne : (Nm.toList == []) = false:=by kernel_rfl) (hsz : 4 ≤ Nm.size:=by decide) (b3 : (Oo.toList == (Nm.extract 0 3).toList) = false:=by kernel_rfl) : fC (64512 + (kk : Int)) a b:=by
 obtain ⟨v,t,h3,h4⟩:=hU
 have HN:=akh (op:=op) (by omega) (by omega) (by rw [aj (by omega) (by omega),h1]; omega) h2 hx
 subst h1
 exact ⟨v,t,h3,oE HN hne hsz rfl HO HW (bR k ha) (bR k hb) b3 h4⟩
theorem aos {a b : Int} (ha : Rg a) (hb : Rg b) : cj (fun kk : Nat => fC (69 + (kk : Int)) a b) [0,1,2,3,4,5,6,7,8,9,10,11,12,13,14,15]:=
 ⟨bi am ha hb 0 (opd jG 0) (xX am ha hb (by decide)),bi am ha hb 1 (opd jG 1) (ajf am ha hb (by decide)),bi am ha hb 2 (opd jG 2) (ajg am ha hb (by decide)),bi am ha hb 3 (opd jG 3) (tw am ha hb (by decide)),bi am ha hb 4 (opd jG 4) (tx am ha hb (by decide)),bi am ha hb 5 (opd jG 5) (tz am ha hb (by decide)),bi am ha hb 6 (opd jG 6) (tA am ha hb (by decide)),bi am ha hb 7 (opd jG 7) (tB am ha hb (by decide)),bi am ha hb 8 (opd jH 0) (tC am ha hb (by decide)),bi am ha hb 9 (opd jH 1) (tD am ha hb (by decide)),bi am ha hb 10 (opd jH 2) (tE am ha hb (by decide)),bi ap ha hb 11 (opd jH 3) (xX ap ha hb (by decide)),bi ap ha hb 12 (opd jH 4) (ajf ap ha hb (by decide)),bi ap ha hb 13 (opd jH 5) (ajg ap ha hb (by decide)),bi ap ha hb 14 (opd jH 6) (tw ap ha hb (by decide)),bi ap ha hb 15 (opd jH 7) (tx ap ha hb (by decide)),trivial⟩
theorem aka {a b : Int} (ha : Rg a) (hb : Rg b) : cj (fun kk : Nat => fC (69 + (kk : Int)) a b) [16,17,18,19,20,21,22,23,24,25,26,27,28,29,30,31]:=
 ⟨bi ap ha hb 16 (opd jI 0) (tz ap ha hb (by decide)),bi ap ha hb 17 (opd jI 1) (tA ap ha hb (by decide)),bi ap ha hb 18 (opd jI 2) (tB ap ha hb (by decide)),bi ap ha hb 19 (opd jI 3) (tC ap ha hb (by decide)),bi ap ha hb 20 (opd jI 4) (tD ap ha hb (by decide)),bi ap ha hb 21 (opd jI 5) (tE ap ha hb (by decide)),bfl k32 ha hb 22 (opd jI 6) (ajp k32 ha hb (by decide)),bfl k32 ha hb 23 (opd jI 7) (ajq k32 ha hb (by decide)),bfl k32 ha hb 24 (opd jJ 0) (ajr k32 ha hb (by decide)),bfl k32 ha hb 25 (opd jJ 1) (ajs k32 ha hb (by decide)),bfl k32 ha hb 26 (opd jJ 2) (ajt k32 ha hb (by decide)),bfl k32 ha hb 27 (opd jJ 3) (aju k32 ha hb (by decide)),bfl k64 ha hb 28 (opd jJ 4) (ajp k64 ha hb (by decide)),bfl k64 ha hb 29 (opd jJ 5) (ajq k64 ha hb (by decide)),bfl k64 ha hb 30 (opd jJ 6) (ajr k64 ha hb (by decide)),bfl k64 ha hb 31 (opd jJ 7) (ajs k64 ha hb (by decide)),trivial⟩
theorem akb {a b : Int} (ha : Rg a) (hb : Rg b) : cj (fun kk : Nat => fC (69 + (kk : Int)) a b) [32,33,34,35,36,37,38,39,40,41,42,43,44,45,46,47]:=
 ⟨bfl k64 ha hb 32 (opd jK 0) (ajt k64 ha hb (by decide)),bfl k64 ha hb 33 (opd jK 1) (aju k64 ha hb (by decide)),bi am ha hb 34 (opd jK 2) (yc am ha hb (by decide)),bi am ha hb 35 (opd jK 3) (yd am ha hb (by decide)),bi am ha hb 36 (opd jK 4) (mC am ha hb (by decide)),bi am ha hb 37 (opd jK 5) (xY am ha hb (by decide)),bi am ha hb 38 (opd jK 6) (xZ am ha hb (by decide)),bi am ha hb 39 (opd jK 7) (x9 am ha hb (by decide)),bi am ha hb 40 (opd jL 0) (oH am ha hb (by decide)),bi am ha hb 41 (opd jL 1) (oI am ha hb (by decide)),bi am ha hb 42 (opd jL 2) (oJ am ha hb (by decide)),bi am ha hb 43 (opd jL 3) (oL am ha hb (by decide)),bi am ha hb 44 (opd jL 4) (ya am ha hb (by decide)),bi am ha hb 45 (opd jL 5) (ajh am ha hb (by decide)),bi am ha hb 46 (opd jL 6) (yb am ha hb (by decide)),bi am ha hb 47 (opd jL 7) (ye am ha hb (by decide)),trivial⟩
theorem akc {a b : Int} (ha : Rg a) (hb : Rg b) : cj (fun kk : Nat => fC (69 + (kk : Int)) a b) [48,49,50,51,52,53,54,55,56,57,58,59,60,61,62,63]:=
 ⟨bi am ha hb 48 (opd jM 0) (oF am ha hb (by decide)),bi am ha hb 49 (opd jM 1) (oG am ha hb (by decide)),bi am ha hb 50 (opd jM 2) (tF am ha hb (by decide)),bi am ha hb 51 (opd jM 3) (tG am ha hb (by decide)),bi ap ha hb 52 (opd jM 4) (yc ap ha hb (by decide)),bi ap ha hb 53 (opd jM 5) (yd ap ha hb (by decide)),bi ap ha hb 54 (opd jM 6) (mC ap ha hb (by decide)),bi ap ha hb 55 (opd jM 7) (xY ap ha hb (by decide)),bi ap ha hb 56 (opd jN 0) (xZ ap ha hb (by decide)),bi ap ha hb 57 (opd jN 1) (x9 ap ha hb (by decide)),bi ap ha hb 58 (opd jN 2) (oH ap ha hb (by decide)),bi ap ha hb 59 (opd jN 3) (oI ap ha hb (by decide)),bi ap ha hb 60 (opd jN 4) (oJ ap ha hb (by decide)),bi ap ha hb 61 (opd jN 5) (oL ap ha hb (by decide)),bi ap ha hb 62 (opd jN 6) (ya ap ha hb (by decide)),bi ap ha hb 63 (opd jN 7) (ajh ap ha hb (by decide)),trivial⟩
theorem akd {a b : Int} (ha : Rg a) (hb : Rg b) : cj (fun kk : Nat => fC (69 + (kk : Int)) a b) [64,65,66,67,68,69,70,71,72,73,74,75,76,77,78,79]:=
 ⟨bi ap ha hb 64 (opd jO 0) (yb ap ha hb (by decide)),bi ap ha hb 65 (opd jO 1) (ye ap ha hb (by decide)),bi ap ha hb 66 (opd jO 2) (oF ap ha hb (by decide)),bi ap ha hb 67 (opd jO 3) (oG ap ha hb (by decide)),bi ap ha hb 68 (opd jO 4) (tF ap ha hb (by decide)),bi ap ha hb 69 (opd jO 5) (tG ap ha hb (by decide)),bfl k32 ha hb 70 (opd jO 6) (zV k32 ha hb (by decide)),bfl k32 ha hb 71 (opd jO 7) (zW k32 ha hb (by decide)),bfl k32 ha hb 72 (opd jP 0) (t8 k32 ha hb (by decide)),bfl k32 ha hb 73 (opd jP 1) (pb k32 ha hb (by decide)),bfl k32 ha hb 74 (opd jP 2) (pc k32 ha hb (by decide)),bfl k32 ha hb 75 (opd jP 3) (lE k32 ha hb (by decide)),bfl k32 ha hb 76 (opd jP 4) (t9 k32 ha hb (by decide)),bfl k32 ha hb 77 (opd jP 5) (zX k32 ha hb (by decide)),bfl k32 ha hb 78 (opd jP 6) (zY k32 ha hb (by decide)),bfl k32 ha hb 79 (opd jP 7) (zZ k32 ha hb (by decide)),trivial⟩
theorem ake {a b : Int} (ha : Rg a) (hb : Rg b) : cj (fun kk : Nat => fC (69 + (kk : Int)) a b) [80,81,82,83,84,85,86,87,88,89,90,91,92,93,94,95]:=
 ⟨bfl k32 ha hb 80 (opd gk 0) (z6 k32 ha hb (by decide)),bfl k32 ha hb 81 (opd gk 1) (z7 k32 ha hb (by decide)),bfl k32 ha hb 82 (opd gk 2) (z8 k32 ha hb (by decide)),bfl k32 ha hb 83 (opd gk 3) (jW k32 ha hb (by decide)),bfl k64 ha hb 84 (opd gk 4) (zV k64 ha hb (by decide)),bfl k64 ha hb 85 (opd gk 5) (zW k64 ha hb (by decide)),bfl k64 ha hb 86 (opd gk 6) (t8 k64 ha hb (by decide)),bfl k64 ha hb 87 (opd gk 7) (pb k64 ha hb (by decide)),bfl k64 ha hb 88 (opd gl 0) (pc k64 ha hb (by decide)),bfl k64 ha hb 89 (opd gl 1) (lE k64 ha hb (by decide)),bfl k64 ha hb 90 (opd gl 2) (t9 k64 ha hb (by decide)),bfl k64 ha hb 91 (opd gl 3) (zX k64 ha hb (by decide)),bfl k64 ha hb 92 (opd gl 4) (zY k64 ha hb (by decide)),bfl k64 ha hb 93 (opd gl 5) (zZ k64 ha hb (by decide)),bfl k64 ha hb 94 (opd gl 6) (z6 k64 ha hb (by decide)),bfl k64 ha hb 95 (opd gl 7) (z7 k64 ha hb (by decide)),trivial⟩
theorem akf {a b : Int} (ha : Rg a) (hb : Rg b) : cj (fun kk : Nat => fC (69 + (kk : Int)) a b) [96,97,98,99,100,101,102,103,104,105,106,107,108,109,110,111]:=
 ⟨bfl k64 ha hb 96 (opd dH 0) (z8 k64 ha hb (by decide)),bfl k64 ha hb 97 (opd dH 1) (jW k64 ha hb (by decide)),bq ap ha hb 98 (opd dH 2) bm (at4 ha hb),bq am ha hb 99 (opd dH 3) aQ (at5 ha hb),bq am ha hb 100 (opd dH 4) aQ (at6 ha hb),bq ap ha hb 101 (opd dH 5) aR (at7 ha hb),bq ap ha hb 102 (opd dH 6) aR (at8 ha hb),bq am ha hb 103 (opd dH 7) bb (at9 ha hb),bq am ha hb 104 (opd cY 0) bb (aua ha hb),bq am ha hb 105 (opd cY 1) aQ (aub ha hb),bq am ha hb 106 (opd cY 2) aQ (auc ha hb),bq ap ha hb 107 (opd cY 3) aR (aud ha hb),bq ap ha hb 108 (opd cY 4) aR (aqz ha hb),bq am ha hb 109 (opd cY 5) bb (aq0 ha hb),bq am ha hb 110 (opd cY 6) bb (aq1 ha hb),bq ap ha hb 111 (opd cY 7) bm (aq2 ha hb),trivial⟩
theorem adb {a b : Int} (ha : Rg a) (hb : Rg b) : cj (fun kk : Nat => fC (69 + (kk : Int)) a b) [112,113,114,115,116,117,118,119,120,121,122]:=
 ⟨bq ap ha hb 112 (opd cZ 0) bm (aq3 ha hb),bq ap ha hb 113 (opd cZ 1) aR (aq4 ha hb),bq am ha hb 114 (opd cZ 2) bb (aq5 ha hb),bq am ha hb 115 (opd cZ 3) bb (aq6 ha hb),bq ap ha hb 116 (opd cZ 4) bm (aq7 ha hb),bq ap ha hb 117 (opd cZ 5) bm (aq8 ha hb),bq am ha hb 118 (opd cZ 6) aQ (aq9 ha hb),bq am ha hb 119 (opd cZ 7) aQ (ara ha hb),bq ap ha hb 120 (opd da 0) aR (arb ha hb),bq am ha hb 121 (opd da 1) bb (arc ha hb),bq ap ha hb 122 (opd da 2) bm (ard ha hb),trivial⟩
theorem aot {a b : Int} (ha : Rg a) (hb : Rg b) : cj (fun kk : Nat => fC (64512 + (kk : Int)) a b) [0,1,2,3,4,5,6,7]:=
 ⟨bs am ha hb 0 (opd da 3) aQ (aue ha hb),bs am ha hb 1 (opd da 4) aQ (auf ha hb),bs ap ha hb 2 (opd da 5) aR (aug ha hb),bs ap ha hb 3 (opd da 6) aR (auh ha hb),bs am ha hb 4 (opd da 7) aQ (aui ha hb),bs am ha hb 5 (opd jq 0) aQ (auj ha hb),bs ap ha hb 6 (opd jq 1) aR (auk ha hb),bs ap ha hb 7 (opd jq 2) aR (aul ha hb),trivial⟩
theorem dG (c n j : Nat) (h1 : c ≤ j) (h2 : j < c + n) {l : List Nat} (hl : l = List.range' c n) : j ∈ l:=by
 subst hl
 exact List.mem_range'.2 ⟨j - c,by omega,by omega⟩
theorem xI {op a b : Int} (ha : Rg a) (hb : Rg b) (o1 : op ≤ 9223372036854775807) : fC op a b:=by
 by_cases h1 : 69 ≤ op ∧ op < 192
 ·obtain ⟨j,hj⟩:=Int.eq_ofNat_of_zero_le (show 0 ≤ op - 69 by omega)
  obtain rfl : op = 69 + (j : Int):=by omega
  by_cases g0 : j < 16
  ·exact cj.mem (aos ha hb) j (dG 0 16 j (by omega) (by omega) rfl)
  by_cases g16 : j < 32
  ·exact cj.mem (aka ha hb) j (dG 16 16 j (by omega) (by omega) rfl)
  by_cases g32 : j < 48
  ·exact cj.mem (akb ha hb) j (dG 32 16 j (by omega) (by omega) rfl)
  by_cases g48 : j < 64
  ·exact cj.mem (akc ha hb) j (dG 48 16 j (by omega) (by omega) rfl)
  by_cases g64 : j < 80
  ·exact cj.mem (akd ha hb) j (dG 64 16 j (by omega) (by omega) rfl)
  by_cases g80 : j < 96
  ·exact cj.mem (ake ha hb) j (dG 80 16 j (by omega) (by omega) rfl)
  by_cases g96 : j < 112
  ·exact cj.mem (akf ha hb) j (dG 96 16 j (by omega) (by omega) rfl)
  exact cj.mem (adb ha hb) j (dG 112 11 j (by omega) (by omega) rfl)
 ·by_cases h2 : 64512 ≤ op ∧ op < 64520
  ·obtain ⟨j,hj⟩:=Int.eq_ofNat_of_zero_le (show 0 ≤ op - 64512 by omega)
   obtain rfl : op = 64512 + (j : Int):=by omega
   exact cj.mem (aot ha hb) j (dG 0 8 j (by omega) (by omega) rfl)
  ·exact ⟨0,0,ad9 (by omega),akg (adl (by omega))⟩
theorem uU {op a b r t : Int} (HA : Cm 9 #[] (.bool true)) (H1 : Ap op a b r t) (H2 : Ct 14 #[.int .i64 op,.int .u64 a,.int .u64 b] (.tuple #[.int .u64 r,.int .i64 t])) : Cm 4 #[.int .i64 op,.int .u64 a,.int .u64 b] (.bool true):=by
 refine ab (fun W m => ?_)
 have HM:=ab m
 clear m
 have HB:=rf W
 go_enter Tryz.func4,Tryz.ntmps4
 go_wp2_with fail
 refine (aa HA _ (aa HM)).mono ?_
 rintro _ wq ⟨rfl,hb⟩
 have HB:=bt HB hb
 have HM:=ab ((aa HM).below hb)
 clear hb
 go_wp2_with fail
 refine (aa H1 _ (aa HM)).mono ?_
 rintro _ wq ⟨rfl,hb⟩
 have HB:=bt HB hb
 have HM:=ab ((aa HM).below hb)
 clear hb
 go_wp2_with fail
 refine cg1 H2 fun wq hb => ?_
 have HB:=bt HB hb
 have HM:=ab ((aa HM).below hb)
 clear hb
 go_wp2_with fail
 go_ret
 exact ⟨by first | rfl | simp,aa HB⟩
theorem oD (W : World) (m : Mk W) (op : Int) (o1 : op ≤ 9223372036854775807) (a : Int) (a0 : 0 ≤ a) (a1 : a < 18446744073709551616) (b : Int) (b0 : 0 ≤ b) (b1 : b < 18446744073709551616) :
 Calls Tryz.prog 4 #[.int .i64 op,.int .u64 a,.int .u64 b] W fun r W' => r = .returned (.bool true) ∧ Below W.heap.size W W':=by
 obtain ⟨r,t,h1,h2⟩:=xI ⟨a0,a1⟩ ⟨b0,b1⟩ o1
 exact aa (uU xF h1 h2) W m
end Go.Proofs.YtpbgpdmffejdgaaGreatDoor
