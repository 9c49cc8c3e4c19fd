/- LawN, InL, InX, NuP, NuL, NuN. -/
import Derived.Test.YtpbgpdmffejdgabGreatDoorS01
import Derived.Test.YtpbgpdmffejdgabGreatDoorS05
import Derived.Test.YtpbgpdmffejdgabGreatDoorS08
import Derived.Test.YtpbgpdmffejdgabGreatDoorS12
import Derived.Test.YtpbgpdmffejdgabGreatDoorS15
import Derived.Test.YtpbgpdmffejdgabGreatDoorS21
import Derived.Test.YtpbgpdmffejdgabGreatDoorS36
import Derived.Test.YtpbgpdmffejdgabGreatDoorS37
import Derived.Test.YtpbgpdmffejdgabGreatDoorS38
import Derived.Test.YtpbgpdmffejdgabGreatDoorS39
import Derived.Deep.Cut
import Derived.Shelf.Spec.TrailingZeros
namespace Go.Proofs.YtpbgpdmffejdgabGreatDoor
open Go.RowKit

set_option maxHeartbeats 4000000 in
set_option maxRecDepth 100000 in
theorem tnans_no {op a b : Int} (H0 : Ap 146 2139095041 0 2143289344 0) (HK : Cm 5 #[.int .i64 op] (.tuple #[.int .u8 0, .int .i64 0, .int .u8 0, .bool false])) : Cm 3 #[.int .i64 op, .int .u64 a, .int .u64 b] (.bool true) := by
  refine hide (fun W m => ?_)
  have HM := hide m
  clear m
  have HB := hide (Below.refl W.heap.size W)
  go_enter Tryz.func3, Tryz.ntmps3
  go_wp2_with fail
  refine (unhide H0 _ (unhide HM)).mono ?_
  rintro _ w1 ⟨rfl, hb⟩
  have HB := hide (bthen (unhide HB) hb)
  have HM := hide ((unhide HM).below hb)
  clear hb
  go_wp2_with fail
  refine (unhide HK _ (unhide HM)).mono ?_
  rintro _ w2 ⟨rfl, hb⟩
  have HB := hide (bthen (unhide HB) hb)
  have HM := hide ((unhide HM).below hb)
  clear hb
  go_wp2_with fail
  go_ret
  exact ⟨rfl, unhide HB⟩
set_option maxHeartbeats 4000000 in
set_option maxRecDepth 100000 in
theorem tnans_t {op a b ti c tu : Int} (H0 : Ap 146 2139095041 0 2143289344 0) (HK : Cm 5 #[.int .i64 op] (.tuple #[.int .u8 ti, .int .i64 c, .int .u8 tu, .bool true])) (h : ((tu != 125) = true ∧ (tu != 124) = true) ∨ ((tu = 125 ∨ tu = 124) ∧ (ti != 125) = true ∧ (ti != 124) = true)) : Cm 3 #[.int .i64 op, .int .u64 a, .int .u64 b] (.bool true) := by
  refine hide (fun W m => ?_)
  have HM := hide m
  clear m
  have HB := hide (Below.refl W.heap.size W)
  go_enter Tryz.func3, Tryz.ntmps3
  go_wp2_with fail
  refine (unhide H0 _ (unhide HM)).mono ?_
  rintro _ w1 ⟨rfl, hb⟩
  have HB := hide (bthen (unhide HB) hb)
  have HM := hide ((unhide HM).below hb)
  clear hb
  go_wp2_with fail
  refine (unhide HK _ (unhide HM)).mono ?_
  rintro _ w2 ⟨rfl, hb⟩
  have HB := hide (bthen (unhide HB) hb)
  have HM := hide ((unhide HM).below hb)
  clear hb
  skip
  have HZ := HB
  rcases h with ⟨h1, h2⟩ | ⟨rfl | rfl, h3, h4⟩
  all_goals
    go_wp2_with fail
    go_ret
    exact ⟨rfl, unhide HZ⟩
set_option maxHeartbeats 4000000 in
set_option maxRecDepth 100000 in
theorem tnans_s {op a b c : Int} {ti : Int} (H0 : Ap 146 2139095041 0 2143289344 0) (HK : Cm 5 #[.int .i64 op] (.tuple #[.int .u8 ti, .int .i64 c, .int .u8 ti, .bool true])) (ht : ti = 125 ∨ ti = 124) (h : op = 139 ∨ op = 140 ∨ op = 152 ∨ op = 153 ∨ op = 154 ∨ op = 166) : Cm 3 #[.int .i64 op, .int .u64 a, .int .u64 b] (.bool true) := by
  refine hide (fun W m => ?_)
  have HM := hide m
  clear m
  have HB := hide (Below.refl W.heap.size W)
  go_enter Tryz.func3, Tryz.ntmps3
  go_wp2_with fail
  refine (unhide H0 _ (unhide HM)).mono ?_
  rintro _ w1 ⟨rfl, hb⟩
  have HB := hide (bthen (unhide HB) hb)
  have HM := hide ((unhide HM).below hb)
  clear hb
  go_wp2_with fail
  refine (unhide HK _ (unhide HM)).mono ?_
  rintro _ w2 ⟨rfl, hb⟩
  have HB := hide (bthen (unhide HB) hb)
  have HM := hide ((unhide HM).below hb)
  clear hb
  skip
  have HZ := HB
  rcases ht with rfl | rfl <;> rcases h with rfl | rfl | rfl | rfl | rfl | rfl
  all_goals
    go_wp2_with fail
    go_ret
    exact ⟨rfl, unhide HZ⟩
end Go.Proofs.YtpbgpdmffejdgabGreatDoor
namespace Go.Proofs.YtpbgpdmffejdgabGreatDoor
open Go.RowKit
open Go.Proofs.YtpbgpdmffejdgabGreatDoor.W

/-- A slice of bools that holds these. -/
def HoldsB (w : World) (s : Value) (g : Nat → Bool) (n : Nat) : Prop := ∃ b c, s = .slice (some ⟨b, 0, none⟩) n c ∧ b < w.heap.size ∧ n ≤ c ∧ ∀ i, i < n → w.cell? ⟨b, i, none⟩ = some (.bool (g i))
theorem HoldsB.below {w w' : World} {s : Value} {g : Nat → Bool} {n : Nat} (h : HoldsB w s g n) (hb : Below w.heap.size w w') : HoldsB w' s g n := by
  obtain ⟨b, c, h1, h2, h3, h4⟩ := h
  exact ⟨b, c, h1, Nat.lt_of_lt_of_le h2 hb.size, h3, fun i hi => by rw [hb.cell (p := ⟨b, i, none⟩) h2]; exact h4 i hi⟩
end Go.Proofs.YtpbgpdmffejdgabGreatDoor
namespace Go.Proofs.YtpbgpdmffejdgabGreatDoor
open Go.RowKit

theorem bn {x c : Int} (h : ¬ x = c) : (x != c) = true := by simpa using h
end Go.Proofs.YtpbgpdmffejdgabGreatDoor
namespace Go.Proofs.YtpbgpdmffejdgabGreatDoor
open Go.RowKit

theorem k32 : Kd 32 8 23 8388608 256 127 := Or.inl ⟨rfl, rfl, rfl, rfl, rfl, rfl⟩
theorem k64 : Kd 64 11 52 4503599627370496 2048 1023 := Or.inr ⟨rfl, rfl, rfl, rfl, rfl, rfl⟩
theorem apc_15 {a b : Int} (ha : Rg a) (hb : Rg b) : Ap 182 a b (turnB 23 8388608 256 127 (oN 4503599627370496 2048 (a % 18446744073709551616)) (oK 4503599627370496 2048 (a % 18446744073709551616)) (oM 52 4503599627370496 2048 1023 (a % 18446744073709551616))) 0 := ap_chg (k := 15) rfl rfl (by decide) (by decide) rfl rfl wm_64 ha hb rfl (by decide) (chg_o (Or.inr (Or.inr (Or.inr (Or.inr (Or.inr (Or.inr (Or.inr (Or.inr (Or.inl ⟨rfl, (demote_any (wm_64.rg a).1 (wm_64.rg a).2).m⟩))))))))))
theorem apc_20 {a b : Int} (ha : Rg a) (hb : Rg b) : Ap 187 a b (turnB 52 4503599627370496 2048 1023 (oN 8388608 256 (a % 4294967296)) (oK 8388608 256 (a % 4294967296)) (oM 23 8388608 256 127 (a % 4294967296))) 0 := ap_chg (k := 20) rfl rfl (by decide) (by decide) rfl rfl wm_32 ha hb rfl (by decide) (chg_o (Or.inr (Or.inr (Or.inr (Or.inr (Or.inr (Or.inr (Or.inr (Or.inr (Or.inr (Or.inl ⟨rfl, (promote_any (wm_32.rg a).1 (wm_32.rg a).2).m⟩)))))))))))
end Go.Proofs.YtpbgpdmffejdgabGreatDoor
namespace Go.Proofs.YtpbgpdmffejdgabGreatDoor
open Go.RowKit

/-- What Kind and Sat answer. -/
def Kn (op ti c tu : Int) (_z : Bool) : Prop := Cm 5 #[.int .i64 op] (.tuple #[.int .u8 ti, .int .i64 c, .int .u8 tu, .bool true]) ∧ True
theorem kn_0 {op : Int} (h0 : 69 ≤ op) (h1 : op < 80) : Kn op 127 (opn 0 (op - 69)) 127 false := ⟨kind_w (find_0 h0 h1) (types_0 _ _ _ _).m (opn_w (by decide)), trivial⟩
theorem kn_1 {op : Int} (h0 : 80 ≤ op) (h1 : op < 91) : Kn op 126 (opn 0 (op - 80)) 127 false := ⟨kind_w (find_1 h0 h1) (types_0 _ _ _ _).m (opn_w (by decide)), trivial⟩
theorem kn_2 {op : Int} (h0 : 91 ≤ op) (h1 : op < 97) : Kn op 125 (opn 1 (op - 91)) 127 false := ⟨kind_w (find_2 h0 h1) (types_1 _ _ _ _).m (opn_w (by decide)), trivial⟩
theorem kn_3 {op : Int} (h0 : 97 ≤ op) (h1 : op < 103) : Kn op 124 (opn 1 (op - 97)) 127 false := ⟨kind_w (find_3 h0 h1) (types_1 _ _ _ _).m (opn_w (by decide)), trivial⟩
theorem kn_4 {op : Int} (h0 : 103 ≤ op) (h1 : op < 121) : Kn op 127 (opn 2 (op - 103)) 127 false := ⟨kind_w (find_4 h0 h1) (types_2 _ _ _ _).m (opn_w (by decide)), trivial⟩
theorem kn_5 {op : Int} (h0 : 121 ≤ op) (h1 : op < 139) : Kn op 126 (opn 2 (op - 121)) 126 false := ⟨kind_w (find_5 h0 h1) (types_2 _ _ _ _).m (opn_w (by decide)), trivial⟩
theorem kn_6 {op : Int} (h0 : 139 ≤ op) (h1 : op < 153) : Kn op 125 (opn 3 (op - 139)) 125 false := ⟨kind_w (find_6 h0 h1) (types_3 _ _ _ _).m (opn_w (by decide)), trivial⟩
theorem kn_7 {op : Int} (h0 : 153 ≤ op) (h1 : op < 167) : Kn op 124 (opn 3 (op - 153)) 124 false := ⟨kind_w (find_7 h0 h1) (types_3 _ _ _ _).m (opn_w (by decide)), trivial⟩
theorem kn_8 {op ti tu : Int} {k : Nat} (hx : cL[k * 2]? = some (.int .u8 ti)) (hy : cL[k * 2 + 1]? = some (.int .u8 tu)) (h : op - 167 = (k : Int)) (hk : k < 25) : Kn op ti 1 tu false := by
  have HF := find_8 (op := op) (by omega) (by omega)
  rw [h] at HF
  exact ⟨kind_w HF (types_4 _ _ _ hk hx hy) (opn_w (by decide)), trivial⟩
theorem kn_9 {op ti tu : Int} {k : Nat} (hx : sL[k * 2]? = some (.int .u8 ti)) (hy : sL[k * 2 + 1]? = some (.int .u8 tu)) (h : op - 64512 = (k : Int)) (hk : k < 8) : Kn op ti 1 tu true := by
  have HF := find_9 (op := op) (by omega) (by omega)
  rw [h] at HF
  exact ⟨kind_w HF (types_5 _ _ _ hk hx hy) (opn_w (by decide)), trivial⟩
end Go.Proofs.YtpbgpdmffejdgabGreatDoor
namespace Go.Proofs.YtpbgpdmffejdgabGreatDoor
open Go.RowKit

theorem o_low {w e f P Q b : Int} (k : Kd w e f P Q b) (x : Int) : oK P Q (x % (2 * (P * Q))) = oK P Q x ∧ oN P Q (x % (2 * (P * Q))) = oN P Q x ∧ oM f P Q b (x % (2 * (P * Q))) = oM f P Q b x := by
  obtain ⟨p1, p2, q1, q2⟩ := k.pos
  obtain ⟨u, v⟩ := exp_in (x / P) (show 1 ≤ Q by omega)
  obtain ⟨u', v'⟩ := exp_in x (show 1 ≤ P by omega)
  obtain ⟨r0, r1, r2, r3, r4⟩ := put_in (n := sg P Q x) k u v u' v'
  rw [cut_put k.wd.sz, cut_kd k] at r0 r1 r2 r3 r4
  unfold oK oN oM oc
  rw [r2, r3, r4]
  exact ⟨rfl, rfl, rfl⟩
theorem Fl.nan {w e f P Q b r : Int} (k : Kd w e f P Q b) (h : Fl f P Q r) (hz : (r / P % Q == Q - 1 && r % P != 0) = true) : r = nanB f P Q := by
  rcases h with rfl | ⟨n, c, c0, c1, rfl⟩
  · rfl
  · rw [(fl_facts k n c0 c1).2.2.2.2.2] at hz
    cases hz
theorem nan_sub {f P Q b x y : Int} (h : oK P Q x = 3 ∨ oK P Q y = 3) : addB f P Q b x y = nanB f P Q ∧ subB f P Q b x y = nanB f P Q ∧ mulB f P Q b x y = nanB f P Q ∧ divB f P Q b x y = nanB f P Q := by
  unfold addB subB mulB divB addP mulP divP
  have h1 : ∀ R : Prop, oK P Q x = 3 ∨ oK P Q y = 3 ∨ R := fun R => by rcases h with h | h <;> simp [h]
  rw [if_pos (h1 _), if_pos (h1 _), if_pos (h1 _), if_pos (h1 _)]
  exact ⟨rfl, rfl, rfl, rfl⟩
theorem nan_pick {f P Q t x y : Int} {n : Bool} (h : oK P Q x = 3 ∨ oK P Q y = 3) : pickB f P Q t n x y = nanB f P Q := by
  unfold pickB
  rw [cmpB_nan h, if_pos rfl]
theorem nan_make {f P Q b t x : Int} (h : oK P Q x = 3) : makeB f P Q b t x = nanB f P Q := by unfold makeB; rw [if_pos h]
theorem nan_sq {f P Q x : Int} {c : Nat} (h : oK P Q x = 3) : sqB f P Q x c = nanB f P Q := by
  unfold sqB
  rw [if_neg (by omega), if_pos (Or.inl h)]
theorem nan_turn {f P Q b : Int} {n : Bool} {K : Int} {m : Nat} (h : K = 3) : turnB f P Q b n K m = nanB f P Q := by unfold turnB; rw [if_pos h]
/-- What is asked of an opcode that answers a float of floats. -/
def Nq (op a b f P Q p q c : Int) : Prop := ∃ r, Ap op a b r 0 ∧ Fl f P Q r ∧ (p = 3 ∨ c = 2 ∧ q = 3 → r = nanB f P Q)
theorem nans_f {op w e f P Q c k : Int} (kd : Kd w e f P Q c) {a b : Int} (ha : Rg a) (hb : Rg b) (k0 : 2 ≤ k) (k1 : k < 13) (h : op - 139 = k ∧ w = 32 ∨ op - 153 = k ∧ w = 64) : Nq op a b f P Q (oK P Q a) (oK P Q b) (opn 3 k) := by
  obtain ⟨d, hd⟩ := isR_ex f P Q c (a % (2 * (P * Q)))
  have hx := (o_low kd a).1
  have hy := (o_low kd b).1
  obtain rfl | rfl | rfl | rfl | rfl | rfl | rfl | rfl | rfl | rfl | rfl : k = 2 ∨ k = 3 ∨ k = 4 ∨ k = 5 ∨ k = 6 ∨ k = 7 ∨ k = 8 ∨ k = 9 ∨ k = 10 ∨ k = 11 ∨ k = 12 := by omega
  · exact ⟨_, apf_ceil kd ha hb h, fl_make kd _ _, fun h => nan_make (by rw [hx]; rcases h with h | h; exact h; exact absurd h.1 (by decide))⟩
  · exact ⟨_, apf_floor kd ha hb h, fl_make kd _ _, fun h => nan_make (by rw [hx]; rcases h with h | h; exact h; exact absurd h.1 (by decide))⟩
  · exact ⟨_, apf_trunc kd ha hb h, fl_make kd _ _, fun h => nan_make (by rw [hx]; rcases h with h | h; exact h; exact absurd h.1 (by decide))⟩
  · exact ⟨_, apf_near kd ha hb h, fl_make kd _ _, fun h => nan_make (by rw [hx]; rcases h with h | h; exact h; exact absurd h.1 (by decide))⟩
  · exact ⟨_, apf_sqrt kd ha hb hd h, fl_sq kd hd, fun h => nan_sq (by rw [hx]; rcases h with h | h; exact h; exact absurd h.1 (by decide))⟩
  · exact ⟨_, apf_add kd ha hb h, fl_add kd _ _, fun h => (nan_sub (by rw [hx, hy]; rcases h with h | h; exact Or.inl h; exact Or.inr h.2)).1⟩
  · exact ⟨_, apf_sub kd ha hb h, fl_sub kd _ _, fun h => (nan_sub (by rw [hx, hy]; rcases h with h | h; exact Or.inl h; exact Or.inr h.2)).2.1⟩
  · exact ⟨_, apf_mul kd ha hb h, fl_mul kd _ _, fun h => (nan_sub (by rw [hx, hy]; rcases h with h | h; exact Or.inl h; exact Or.inr h.2)).2.2.1⟩
  · exact ⟨_, apf_div kd ha hb h, fl_div kd _ _, fun h => (nan_sub (by rw [hx, hy]; rcases h with h | h; exact Or.inl h; exact Or.inr h.2)).2.2.2⟩
  · exact ⟨_, apf_min kd ha hb h, fl_pick kd _ _ _ _, fun h => nan_pick (by rw [hx, hy]; rcases h with h | h; exact Or.inl h; exact Or.inr h.2)⟩
  · exact ⟨_, apf_max kd ha hb h, fl_pick kd _ _ _ _, fun h => nan_pick (by rw [hx, hy]; rcases h with h | h; exact Or.inl h; exact Or.inr h.2)⟩
theorem nans_15 {a b : Int} (ha : Rg a) (hb : Rg b) : Nq 182 a b 23 8388608 256 (oK 4503599627370496 2048 a) (oK 4503599627370496 2048 b) 1 := by
  have hx := (o_low k64 a).1
  exact ⟨_, apc_15 ha hb, fl_turn k32 _ _ _, fun h => nan_turn (by rcases h with h | h; exact hx.trans h; exact absurd h.1 (by decide))⟩
theorem nans_20 {a b : Int} (ha : Rg a) (hb : Rg b) : Nq 187 a b 52 4503599627370496 2048 (oK 8388608 256 a) (oK 8388608 256 b) 1 := by
  have hx := (o_low k32 a).1
  exact ⟨_, apc_20 ha hb, fl_turn k64 _ _ _, fun h => nan_turn (by rcases h with h | h; exact hx.trans h; exact absurd h.1 (by decide))⟩
theorem aw_n : addB 23 8388608 256 127 2139095041 0 = 2143289344 := by decide +kernel
theorem awake_n : Ap 146 2139095041 0 2143289344 0 := by
  have h := apf_add (op := 146) (a := 2139095041) (b := 0) k32 (by unfold Rg; omega) (by unfold Rg; omega) (Or.inl ⟨rfl, rfl⟩)
  rw [show (2139095041 : Int) % (2 * (8388608 * 256)) = 2139095041 from rfl, show (0 : Int) % (2 * (8388608 * 256)) = 0 from rfl, aw_n] at h
  exact h
theorem nans_w0 {op a b c : Int} (W : World) (m : Mk W) (ha : Rg a) (hb : Rg b) (HK : Cm 5 #[.int .i64 op] (.tuple #[.int .u8 125, .int .i64 c, .int .u8 125, .bool true])) (n139 : (op == 139) = false) (n140 : (op == 140) = false) (n152 : (op == 152) = false) (n153 : (op == 153) = false) (n154 : (op == 154) = false) (n166 : (op == 166) = false) (hc : c = 1 ∨ c = 2) (h : Nq op a b 23 8388608 256 (oK 8388608 256 a) (oK 8388608 256 b) c) :
    Calls Tryz.prog 3 #[.int .i64 op, .int .u64 a, .int .u64 b] W fun r W' => r = .returned (.bool true) ∧ Below W.heap.size W W' := by
  obtain ⟨r, h1, h2, h3⟩ := h
  have hr := h2.cut k32
  have hr2 := (h2.rng k32).2
  have hn : nanB 23 8388608 256 = 2143289344 := by decide +kernel
  rw [hn] at h3
  refine unhide (tnans_0 awake_n HK n139 n140 n152 n153 n154 n166 h1 (hide fun W => isNanW_any r k32.wd W hr.2 (by omega)) (by have := fun W => nan_any k32.wd W; rw [show put 23 8388608 256 false (256 - 1) (8388608 / 2) = 2143289344 from hn] at this; exact hide this) (hide fun W => isNanW_any a k32.wd W ha.1 ha.2) (hide fun W => isNanW_any b k32.wd W hb.1 hb.2) hc (fun hz => by rw [(h2.nan k32 (by simpa using hz)).trans hn]; exact ⟨rfl, rfl⟩) (fun hp => ?_)) W m
  have h5 := h3 (by
    rcases hp with hp | ⟨h4, hp⟩
    · exact Or.inl ((oK_nan _ _ _).1 (by simpa using hp))
    · exact Or.inr ⟨h4, (oK_nan _ _ _).1 (by simpa using hp)⟩)
  rw [h5]
  rfl
theorem nans_w1 {op a b c : Int} (W : World) (m : Mk W) (ha : Rg a) (hb : Rg b) (HK : Cm 5 #[.int .i64 op] (.tuple #[.int .u8 124, .int .i64 c, .int .u8 124, .bool true])) (n139 : (op == 139) = false) (n140 : (op == 140) = false) (n152 : (op == 152) = false) (n153 : (op == 153) = false) (n154 : (op == 154) = false) (n166 : (op == 166) = false) (hc : c = 1 ∨ c = 2) (h : Nq op a b 52 4503599627370496 2048 (oK 4503599627370496 2048 a) (oK 4503599627370496 2048 b) c) :
    Calls Tryz.prog 3 #[.int .i64 op, .int .u64 a, .int .u64 b] W fun r W' => r = .returned (.bool true) ∧ Below W.heap.size W W' := by
  obtain ⟨r, h1, h2, h3⟩ := h
  have hr := h2.cut k64
  have hr2 := (h2.rng k64).2
  have hn : nanB 52 4503599627370496 2048 = 9221120237041090560 := by decide +kernel
  rw [hn] at h3
  refine unhide (tnans_1 awake_n HK n139 n140 n152 n153 n154 n166 h1 (hide fun W => isNanW_any r k64.wd W hr.2 (by omega)) (by have := fun W => nan_any k64.wd W; rw [show put 52 4503599627370496 2048 false (2048 - 1) (4503599627370496 / 2) = 9221120237041090560 from hn] at this; exact hide this) (hide fun W => isNanW_any a k64.wd W ha.1 ha.2) (hide fun W => isNanW_any b k64.wd W hb.1 hb.2) hc (fun hz => by rw [(h2.nan k64 (by simpa using hz)).trans hn]; exact ⟨rfl, rfl⟩) (fun hp => ?_)) W m
  have h5 := h3 (by
    rcases hp with hp | ⟨h4, hp⟩
    · exact Or.inl ((oK_nan _ _ _).1 (by simpa using hp))
    · exact Or.inr ⟨h4, (oK_nan _ _ _).1 (by simpa using hp)⟩)
  rw [h5]
  rfl
theorem nans_w2 {op a b c : Int} (W : World) (m : Mk W) (ha : Rg a) (hb : Rg b) (HK : Cm 5 #[.int .i64 op] (.tuple #[.int .u8 125, .int .i64 c, .int .u8 124, .bool true])) (n139 : (op == 139) = false) (n140 : (op == 140) = false) (n152 : (op == 152) = false) (n153 : (op == 153) = false) (n154 : (op == 154) = false) (n166 : (op == 166) = false) (hc : c = 1 ∨ c = 2) (h : Nq op a b 52 4503599627370496 2048 (oK 8388608 256 a) (oK 8388608 256 b) c) :
    Calls Tryz.prog 3 #[.int .i64 op, .int .u64 a, .int .u64 b] W fun r W' => r = .returned (.bool true) ∧ Below W.heap.size W W' := by
  obtain ⟨r, h1, h2, h3⟩ := h
  have hr := h2.cut k64
  have hr2 := (h2.rng k64).2
  have hn : nanB 52 4503599627370496 2048 = 9221120237041090560 := by decide +kernel
  rw [hn] at h3
  refine unhide (tnans_2 awake_n HK n139 n140 n152 n153 n154 n166 h1 (hide fun W => isNanW_any r k64.wd W hr.2 (by omega)) (by have := fun W => nan_any k64.wd W; rw [show put 52 4503599627370496 2048 false (2048 - 1) (4503599627370496 / 2) = 9221120237041090560 from hn] at this; exact hide this) (hide fun W => isNanW_any a k32.wd W ha.1 ha.2) (hide fun W => isNanW_any b k32.wd W hb.1 hb.2) hc (fun hz => by rw [(h2.nan k64 (by simpa using hz)).trans hn]; exact ⟨rfl, rfl⟩) (fun hp => ?_)) W m
  have h5 := h3 (by
    rcases hp with hp | ⟨h4, hp⟩
    · exact Or.inl ((oK_nan _ _ _).1 (by simpa using hp))
    · exact Or.inr ⟨h4, (oK_nan _ _ _).1 (by simpa using hp)⟩)
  rw [h5]
  rfl
theorem nans_w3 {op a b c : Int} (W : World) (m : Mk W) (ha : Rg a) (hb : Rg b) (HK : Cm 5 #[.int .i64 op] (.tuple #[.int .u8 124, .int .i64 c, .int .u8 125, .bool true])) (n139 : (op == 139) = false) (n140 : (op == 140) = false) (n152 : (op == 152) = false) (n153 : (op == 153) = false) (n154 : (op == 154) = false) (n166 : (op == 166) = false) (hc : c = 1 ∨ c = 2) (h : Nq op a b 23 8388608 256 (oK 4503599627370496 2048 a) (oK 4503599627370496 2048 b) c) :
    Calls Tryz.prog 3 #[.int .i64 op, .int .u64 a, .int .u64 b] W fun r W' => r = .returned (.bool true) ∧ Below W.heap.size W W' := by
  obtain ⟨r, h1, h2, h3⟩ := h
  have hr := h2.cut k32
  have hr2 := (h2.rng k32).2
  have hn : nanB 23 8388608 256 = 2143289344 := by decide +kernel
  rw [hn] at h3
  refine unhide (tnans_3 awake_n HK n139 n140 n152 n153 n154 n166 h1 (hide fun W => isNanW_any r k32.wd W hr.2 (by omega)) (by have := fun W => nan_any k32.wd W; rw [show put 23 8388608 256 false (256 - 1) (8388608 / 2) = 2143289344 from hn] at this; exact hide this) (hide fun W => isNanW_any a k64.wd W ha.1 ha.2) (hide fun W => isNanW_any b k64.wd W hb.1 hb.2) hc (fun hz => by rw [(h2.nan k32 (by simpa using hz)).trans hn]; exact ⟨rfl, rfl⟩) (fun hp => ?_)) W m
  have h5 := h3 (by
    rcases hp with hp | ⟨h4, hp⟩
    · exact Or.inl ((oK_nan _ _ _).1 (by simpa using hp))
    · exact Or.inr ⟨h4, (oK_nan _ _ _).1 (by simpa using hp)⟩)
  rw [h5]
  rfl
theorem opn_or (k : Int) : opn 3 k = 1 ∨ opn 3 k = 2 := by
  unfold opn
  simp
  omega
theorem topNans_any (W : World) (m : Mk W) (op : Int) (o1 : op ≤ 9223372036854775807) (a : Int) (a0 : 0 ≤ a) (a1 : a < 18446744073709551616) (b : Int) (b0 : 0 ≤ b) (b1 : b < 18446744073709551616) :
    Calls Tryz.prog 3 #[.int .i64 op, .int .u64 a, .int .u64 b] W fun r W' => r = .returned (.bool true) ∧ Below W.heap.size W W' := by
  have ha : Rg a := ⟨a0, a1⟩
  have hb : Rg b := ⟨b0, b1⟩
  by_cases hn : op < 69 ∨ (192 ≤ op ∧ op < 64512) ∨ (64520 ≤ op ∧ op ≤ 9223372036854775807)
  · exact unhide (tnans_no awake_n (kind_no (find_none hn))) W m
  obtain h | h | h | h | h | h | h | h | h | h : (69 ≤ op ∧ op < 80) ∨ (80 ≤ op ∧ op < 91) ∨ (91 ≤ op ∧ op < 97) ∨ (97 ≤ op ∧ op < 103) ∨ (103 ≤ op ∧ op < 121) ∨ (121 ≤ op ∧ op < 139) ∨ (139 ≤ op ∧ op < 153) ∨ (153 ≤ op ∧ op < 167) ∨ (167 ≤ op ∧ op < 192) ∨ (64512 ≤ op ∧ op < 64520) := by omega
  · exact unhide (tnans_t awake_n (kn_0 h.1 h.2).1 (Or.inl ⟨by decide, by decide⟩)) W m
  · exact unhide (tnans_t awake_n (kn_1 h.1 h.2).1 (Or.inl ⟨by decide, by decide⟩)) W m
  · exact unhide (tnans_t awake_n (kn_2 h.1 h.2).1 (Or.inl ⟨by decide, by decide⟩)) W m
  · exact unhide (tnans_t awake_n (kn_3 h.1 h.2).1 (Or.inl ⟨by decide, by decide⟩)) W m
  · exact unhide (tnans_t awake_n (kn_4 h.1 h.2).1 (Or.inl ⟨by decide, by decide⟩)) W m
  · exact unhide (tnans_t awake_n (kn_5 h.1 h.2).1 (Or.inl ⟨by decide, by decide⟩)) W m
  · have HK := (kn_6 h.1 h.2).1
    by_cases hs : op = 139 ∨ op = 140 ∨ op = 152 ∨ op = 153 ∨ op = 154 ∨ op = 166
    · exact unhide (tnans_s awake_n HK (by decide) hs) W m
    · exact nans_w0 W m ha hb HK (beq_false_of_ne (by omega)) (beq_false_of_ne (by omega)) (beq_false_of_ne (by omega)) (beq_false_of_ne (by omega)) (beq_false_of_ne (by omega)) (beq_false_of_ne (by omega)) (opn_or _) (nans_f k32 ha hb (by omega) (by omega) (Or.inl ⟨rfl, rfl⟩))
  · have HK := (kn_7 h.1 h.2).1
    by_cases hs : op = 139 ∨ op = 140 ∨ op = 152 ∨ op = 153 ∨ op = 154 ∨ op = 166
    · exact unhide (tnans_s awake_n HK (by decide) hs) W m
    · exact nans_w1 W m ha hb HK (beq_false_of_ne (by omega)) (beq_false_of_ne (by omega)) (beq_false_of_ne (by omega)) (beq_false_of_ne (by omega)) (beq_false_of_ne (by omega)) (beq_false_of_ne (by omega)) (opn_or _) (nans_f k64 ha hb (by omega) (by omega) (Or.inr ⟨rfl, rfl⟩))
  · obtain rfl | rfl | rfl | rfl | rfl | rfl | rfl | rfl | rfl | rfl | rfl | rfl | rfl | rfl | rfl | rfl | rfl | rfl | rfl | rfl | rfl | rfl | rfl | rfl | rfl : op = 167 ∨ op = 168 ∨ op = 169 ∨ op = 170 ∨ op = 171 ∨ op = 172 ∨ op = 173 ∨ op = 174 ∨ op = 175 ∨ op = 176 ∨ op = 177 ∨ op = 178 ∨ op = 179 ∨ op = 180 ∨ op = 181 ∨ op = 182 ∨ op = 183 ∨ op = 184 ∨ op = 185 ∨ op = 186 ∨ op = 187 ∨ op = 188 ∨ op = 189 ∨ op = 190 ∨ op = 191 := by omega
    · exact unhide (tnans_t awake_n (kn_8 (k := 0) rfl rfl rfl (by decide)).1 (Or.inl ⟨by decide, by decide⟩)) W m
    · exact unhide (tnans_t awake_n (kn_8 (k := 1) rfl rfl rfl (by decide)).1 (Or.inl ⟨by decide, by decide⟩)) W m
    · exact unhide (tnans_t awake_n (kn_8 (k := 2) rfl rfl rfl (by decide)).1 (Or.inl ⟨by decide, by decide⟩)) W m
    · exact unhide (tnans_t awake_n (kn_8 (k := 3) rfl rfl rfl (by decide)).1 (Or.inl ⟨by decide, by decide⟩)) W m
    · exact unhide (tnans_t awake_n (kn_8 (k := 4) rfl rfl rfl (by decide)).1 (Or.inl ⟨by decide, by decide⟩)) W m
    · exact unhide (tnans_t awake_n (kn_8 (k := 5) rfl rfl rfl (by decide)).1 (Or.inl ⟨by decide, by decide⟩)) W m
    · exact unhide (tnans_t awake_n (kn_8 (k := 6) rfl rfl rfl (by decide)).1 (Or.inl ⟨by decide, by decide⟩)) W m
    · exact unhide (tnans_t awake_n (kn_8 (k := 7) rfl rfl rfl (by decide)).1 (Or.inl ⟨by decide, by decide⟩)) W m
    · exact unhide (tnans_t awake_n (kn_8 (k := 8) rfl rfl rfl (by decide)).1 (Or.inl ⟨by decide, by decide⟩)) W m
    · exact unhide (tnans_t awake_n (kn_8 (k := 9) rfl rfl rfl (by decide)).1 (Or.inl ⟨by decide, by decide⟩)) W m
    · exact unhide (tnans_t awake_n (kn_8 (k := 10) rfl rfl rfl (by decide)).1 (Or.inl ⟨by decide, by decide⟩)) W m
    · exact unhide (tnans_t awake_n (kn_8 (k := 11) rfl rfl rfl (by decide)).1 (Or.inr ⟨by decide, by decide, by decide⟩)) W m
    · exact unhide (tnans_t awake_n (kn_8 (k := 12) rfl rfl rfl (by decide)).1 (Or.inr ⟨by decide, by decide, by decide⟩)) W m
    · exact unhide (tnans_t awake_n (kn_8 (k := 13) rfl rfl rfl (by decide)).1 (Or.inr ⟨by decide, by decide, by decide⟩)) W m
    · exact unhide (tnans_t awake_n (kn_8 (k := 14) rfl rfl rfl (by decide)).1 (Or.inr ⟨by decide, by decide, by decide⟩)) W m
    · exact nans_w3 W m ha hb (kn_8 (k := 15) rfl rfl rfl (by decide)).1 (by decide) (by decide) (by decide) (by decide) (by decide) (by decide) (Or.inl rfl) (nans_15 ha hb)
    · exact unhide (tnans_t awake_n (kn_8 (k := 16) rfl rfl rfl (by decide)).1 (Or.inr ⟨by decide, by decide, by decide⟩)) W m
    · exact unhide (tnans_t awake_n (kn_8 (k := 17) rfl rfl rfl (by decide)).1 (Or.inr ⟨by decide, by decide, by decide⟩)) W m
    · exact unhide (tnans_t awake_n (kn_8 (k := 18) rfl rfl rfl (by decide)).1 (Or.inr ⟨by decide, by decide, by decide⟩)) W m
    · exact unhide (tnans_t awake_n (kn_8 (k := 19) rfl rfl rfl (by decide)).1 (Or.inr ⟨by decide, by decide, by decide⟩)) W m
    · exact nans_w2 W m ha hb (kn_8 (k := 20) rfl rfl rfl (by decide)).1 (by decide) (by decide) (by decide) (by decide) (by decide) (by decide) (Or.inl rfl) (nans_20 ha hb)
    · exact unhide (tnans_t awake_n (kn_8 (k := 21) rfl rfl rfl (by decide)).1 (Or.inl ⟨by decide, by decide⟩)) W m
    · exact unhide (tnans_t awake_n (kn_8 (k := 22) rfl rfl rfl (by decide)).1 (Or.inl ⟨by decide, by decide⟩)) W m
    · exact unhide (tnans_t awake_n (kn_8 (k := 23) rfl rfl rfl (by decide)).1 (Or.inr ⟨by decide, by decide, by decide⟩)) W m
    · exact unhide (tnans_t awake_n (kn_8 (k := 24) rfl rfl rfl (by decide)).1 (Or.inr ⟨by decide, by decide, by decide⟩)) W m
  · obtain rfl | rfl | rfl | rfl | rfl | rfl | rfl | rfl : op = 64512 ∨ op = 64513 ∨ op = 64514 ∨ op = 64515 ∨ op = 64516 ∨ op = 64517 ∨ op = 64518 ∨ op = 64519 := by omega
    · exact unhide (tnans_t awake_n (kn_9 (k := 0) rfl rfl rfl (by decide)).1 (Or.inl ⟨by decide, by decide⟩)) W m
    · exact unhide (tnans_t awake_n (kn_9 (k := 1) rfl rfl rfl (by decide)).1 (Or.inl ⟨by decide, by decide⟩)) W m
    · exact unhide (tnans_t awake_n (kn_9 (k := 2) rfl rfl rfl (by decide)).1 (Or.inl ⟨by decide, by decide⟩)) W m
    · exact unhide (tnans_t awake_n (kn_9 (k := 3) rfl rfl rfl (by decide)).1 (Or.inl ⟨by decide, by decide⟩)) W m
    · exact unhide (tnans_t awake_n (kn_9 (k := 4) rfl rfl rfl (by decide)).1 (Or.inl ⟨by decide, by decide⟩)) W m
    · exact unhide (tnans_t awake_n (kn_9 (k := 5) rfl rfl rfl (by decide)).1 (Or.inl ⟨by decide, by decide⟩)) W m
    · exact unhide (tnans_t awake_n (kn_9 (k := 6) rfl rfl rfl (by decide)).1 (Or.inl ⟨by decide, by decide⟩)) W m
    · exact unhide (tnans_t awake_n (kn_9 (k := 7) rfl rfl rfl (by decide)).1 (Or.inl ⟨by decide, by decide⟩)) W m
end Go.Proofs.YtpbgpdmffejdgabGreatDoor
