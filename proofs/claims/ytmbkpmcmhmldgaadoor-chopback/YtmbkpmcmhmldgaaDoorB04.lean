/- WLeaf, WLeafB, Bits, Ends, CsT, Laid. -/
import Derived.Test.YtmbkpmcmhmldgaaDoorB01
import Derived.Test.YtmbkpmcmhmldgaaDoorRows
import Derived.WalkKit
import Derived.WalkSpells
import Derived.WalkLawsBesides
import Derived.Laws.MathBits
import Derived.Laws.Pointers
import Derived.Deep.RegionHeld3
import Derived.RowKit3
import Derived.Lib.BitFns
import Derived.Shelf.Spec.TrailingZeros
import Derived.Test.YtmbkpmcmhmldgaaDoorTie
import Derived.ProofKit
import Derived.LaidMore
import Derived.OpenShut
import Derived.Stop.Joined
import Derived.Lib.SmallJoins
namespace Go.Proofs.YtmbkpmcmhmldgaaDoor.W
open Go.RowKit

set_option maxHeartbeats 400000 in
theorem of_any (n : Int) (w : World) :
    Calls Tryd.prog 21 #[.int .u64 n] w fun e w' => e = .returned (.agg #[.int .u64 0, .int .u64 n]) ∧ Below w.heap.size w w' := by
  go_enter Tryd.func21, Tryd.ntmps21
  go_wp2
  exact bodyPost_ret (v := .agg #[.int .u64 0, .int .u64 n]) (by simp [results, Tryd.results21, go_sem]) rfl ⟨rfl, (Below.refl _ _).alloc (Nat.le_refl _) _⟩

/-- Which of two numbers is the lesser: -1, 0, 1. -/
def cmp1 (a b : Int) : Int := if a < b then -1 else if b < a then 1 else 0

end Go.Proofs.YtmbkpmcmhmldgaaDoor.W
namespace Go.Proofs.YtmbkpmcmhmldgaaDoor.W
open Go.RowKit

theorem ret1 {k : IntKind} {a c : Int} (h1 : a = c) : Ending.returned (.int k a) = .returned (.int k c) := by rw [h1]
theorem tab_len (i : Int) (h0 : 0 ≤ i) (h1 : i ≤ 255) (hh : i.toNat < Lib.len8tab.size) : ((Lib.len8tab[i.toNat].toNat : Nat) : Int) = (Lib.bitLen i.toNat : Int) := by
  have h := Lib.len8_of i h0 h1
  unfold Lib.len8 at h
  rw [getElem?_pos Lib.len8tab i.toNat hh] at h
  exact h

theorem bitLen_lib : ∀ n x : Nat, x < n → x < 18446744073709551616 → Lib.bitLen x = Go.bitLen x
  | 0, _, h, _ => by omega
  | n + 1, x, h, hx => by
    by_cases h0 : x = 0
    · subst h0; rfl
    · have ih := bitLen_lib n (x / 2) (by omega) (by omega)
      rw [Lib.bitLen_half x h0 hx, ih]
      by_cases h2 : x / 2 = 0
      · have : x = 1 := by omega
        subst this; rfl
      · have := Go.bitLen_shift x 1 (by simpa using h2)
        simp only [Nat.pow_one] at this
        omega

theorem bl_shift (x s p : Nat) (hp : 2 ^ s = p) (h : p ≤ x) : Go.bitLen x = s + Go.bitLen (x / p) := by
  subst hp
  refine Go.bitLen_shift x s ?_
  have := Nat.div_pos h (Nat.two_pow_pos s)
  omega

theorem len_close (c x i : Int) (s p : Nat) (hp : 2 ^ s = p) (hs : s ≤ 56) (hc : c = s) (h0 : 0 ≤ x) (hpx : (p : Int) ≤ x) (hi : i = x / p) (hi0 : 0 ≤ i) (hi1 : i < 256) (hh : i.toNat < Lib.len8tab.size) :
    wrap64 (c + wrap64 ((Lib.len8tab[i.toNat].toNat : Nat) : Int)) = (Go.bitLen x.toNat : Int) := by
  rw [tab_len i hi0 (by omega) hh, bitLen_lib 256 i.toNat (by omega) (by omega)]
  have hl := Go.bitLen_le8 i.toNat (by omega)
  have e := bl_shift x.toNat s p hp (by omega)
  have ei : i.toNat = x.toNat / p := by
    rw [hi]
    obtain ⟨X, rfl⟩ := Int.eq_ofNat_of_zero_le h0
    rw [Int.toNat_natCast, ← Int.natCast_ediv, Int.toNat_natCast]
  rw [e, ← ei]
  unfold wrap64
  omega

theorem len_close0 (x : Int) (hi0 : 0 ≤ x) (hi1 : x < 256) (hh : x.toNat < Lib.len8tab.size) :
    wrap64 (wrap64 ((Lib.len8tab[x.toNat].toNat : Nat) : Int)) = (Go.bitLen x.toNat : Int) := by
  rw [tab_len x hi0 (by omega) hh, bitLen_lib 256 x.toNat (by omega) (by omega)]
  have hl := Go.bitLen_le8 x.toNat (by omega)
  unfold wrap64
  omega

set_option maxHeartbeats 4000000 in
set_option maxRecDepth 100000 in
theorem len64_any (x : Int) (w : World) (h0 : 0 ≤ x) (h1 : x < 18446744073709551616) :
    Calls Tryd.prog 28 #[.int .u64 x] w fun e w' => e = .returned (.int .i64 (Go.bitLen x.toNat)) ∧ w' = w := by
  have hsz : Lib.len8tab.size = 256 := Lib.len8tab_size
  go_enter Tryd.func28, Tryd.ntmps28
  go_wp2
  all_goals (go_ret; refine ⟨ret1 ?_, rfl⟩)
  · exact len_close 56 x _ 56 72057594037927936 rfl (by omega) rfl h0 (by omega) (by omega) (by omega) (by omega) (by omega)
  · exact len_close 48 x _ 48 281474976710656 rfl (by omega) rfl h0 (by omega) (by omega) (by omega) (by omega) (by omega)
  · exact len_close 40 x _ 40 1099511627776 rfl (by omega) rfl h0 (by omega) (by omega) (by omega) (by omega) (by omega)
  · exact len_close 32 x _ 32 4294967296 rfl (by omega) rfl h0 (by omega) (by omega) (by omega) (by omega) (by omega)
  · exact len_close 24 x _ 24 16777216 rfl (by omega) rfl h0 (by omega) (by omega) (by omega) (by omega) (by omega)
  · exact len_close 16 x _ 16 65536 rfl (by omega) rfl h0 (by omega) (by omega) (by omega) (by omega) (by omega)
  · exact len_close 8 x _ 8 256 rfl (by omega) rfl h0 (by omega) (by omega) (by omega) (by omega) (by omega)
  · exact len_close0 x h0 (by omega) (by omega)

/-- Which of two numbers of two words is the lesser: -1, 0, 1. -/
def cmp2 (ah al bh bl : Int) : Int := if ah < bh then -1 else if bh < ah then 1 else cmp1 al bl

theorem cmp2_zero {ah bh : Int} (al bl : Int) (hz : cmp1 ah bh = 0) : cmp1 al bl = cmp2 ah al bh bl := by
  unfold cmp1 at hz
  unfold cmp2
  by_cases h1 : ah < bh
  · rw [if_pos h1] at hz; omega
  · rw [if_neg h1] at hz ⊢
    by_cases h2 : bh < ah
    · rw [if_pos h2] at hz; omega
    · rw [if_neg h2]
theorem cmp2_not {ah bh : Int} (al bl : Int) (hz : ¬ cmp1 ah bh = 0) : cmp1 ah bh = cmp2 ah al bh bl := by
  unfold cmp1 at hz ⊢
  unfold cmp2
  by_cases h1 : ah < bh
  · rw [if_pos h1, if_pos h1]
  · rw [if_neg h1] at hz ⊢
    rw [if_neg h1]
    by_cases h2 : bh < ah
    · rw [if_pos h2, if_pos h2]
    · rw [if_neg h2] at hz; omega
theorem below2 (w : World) (o1 o2 : Obj) : Below w.heap.size w ((w.alloc o1).alloc o2) := ((Below.refl _ _).alloc (Nat.le_refl _) _).alloc (by simp) _
theorem below1 (w : World) (o1 : Obj) : Below w.heap.size w (w.alloc o1) := (Below.refl _ _).alloc (Nat.le_refl _) _

/-- How many bits a number of two words has. -/
def len2 (h l : Int) : Int := if h = 0 then (Go.bitLen l.toNat : Int) else 64 + (Go.bitLen h.toNat : Int)

theorem bitLen_le64 (x : Nat) (h : x < 18446744073709551616) : Go.bitLen x ≤ 64 := by
  unfold Go.bitLen
  split
  · omega
  · rename_i h0
    have := (Nat.log2_lt h0).2 (show x < 2 ^ 64 from h)
    omega

set_option maxHeartbeats 400000 in
theorem len_any (h l : Int) (w : World) (h0 : 0 ≤ h) (h1 : h < 18446744073709551616) (l0 : 0 ≤ l) (l1 : l < 18446744073709551616) :
    Calls Tryd.prog 54 #[.agg #[.int .u64 h, .int .u64 l]] w fun e w' => e = .returned (.int .i64 (len2 h l)) ∧ Below w.heap.size w w' := by
  by_cases hz : h = 0
  · subst hz
    have HC : Hid ((Go.bitLen l.toNat : Int) = len2 0 l) := by unfold len2 Hid; rw [if_pos rfl]
    go_enter Tryd.func54, Tryd.ntmps54
    go_wp2_with (go_at_call 28; refine (len64_any l _ l0 l1).mono ?_; rintro e w' ⟨rfl, rfl⟩)
    go_ret
    exact ⟨ret1 HC.out, below1 _ _⟩
  · have hb : (h != 0) = true := by simp [hz]
    have b1 := bitLen_le64 h.toNat (by omega)
    have HC : Hid (64 + (Go.bitLen h.toNat : Int) = len2 h l) := by unfold len2 Hid; rw [if_neg hz]
    clear hz
    go_enter Tryd.func54, Tryd.ntmps54
    go_wp2_with (go_at_call 28; refine (len64_any h _ h0 h1).mono ?_; rintro e w' ⟨rfl, rfl⟩)
    go_ret
    exact ⟨ret1 HC.out, below1 _ _⟩

end Go.Proofs.YtmbkpmcmhmldgaaDoor.W
namespace Go.Proofs.YtmbkpmcmhmldgaaDoor
open Go.RowKit

theorem or_sum (k : Nat) (X Y : Int) (h0 : 0 ≤ X) (h1 : X < 18446744073709551616) (hm : X % ((2 ^ k : Nat) : Int) = 0) (y0 : 0 ≤ Y) (y1 : Y < ((2 ^ k : Nat) : Int)) (hk : k ≤ 63) : bits .or .u64 X Y = X + Y := by
  obtain ⟨A, rfl⟩ := Int.eq_ofNat_of_zero_le h0
  obtain ⟨B, rfl⟩ := Int.eq_ofNat_of_zero_le y0
  have hp : 2 ^ k ≤ 2 ^ 63 := Nat.pow_le_pow_right (by omega) hk
  rw [← Int.natCast_emod] at hm
  rw [Go.bits_or_u64_nat A B (by omega) (by omega), Go.nat_join k A B (by omega) (by omega), Int.natCast_add]
theorem or_sum' (k : Nat) (X Y : Int) (h0 : 0 ≤ X) (h1 : X < 18446744073709551616) (hm : X % ((2 ^ k : Nat) : Int) = 0) (y0 : 0 ≤ Y) (y1 : Y < ((2 ^ k : Nat) : Int)) (hk : k ≤ 63) : bits .or .u64 Y X = Y + X := by
  obtain ⟨A, rfl⟩ := Int.eq_ofNat_of_zero_le h0
  obtain ⟨B, rfl⟩ := Int.eq_ofNat_of_zero_le y0
  have hp : 2 ^ k ≤ 2 ^ 63 := Nat.pow_le_pow_right (by omega) hk
  rw [← Int.natCast_emod] at hm
  rw [Go.bits_or_u64_nat B A (by omega) (by omega), Nat.or_comm, Go.nat_join k A B (by omega) (by omega), Int.natCast_add, Int.add_comm]

theorem cells5 {W w1 : World} {v0 v1 v2 v3 v4 : Value} {t : TypeId} (hb : Below (W.alloc (.cells #[v0, v1, v2, v3, v4] t)).heap.size (W.alloc (.cells #[v0, v1, v2, v3, v4] t)) w1) : At5 W.heap.size v0 v1 v2 v3 v4 w1 :=
  At5.below (w := W.alloc (.cells #[v0, v1, v2, v3, v4] t)) (by unfold At5; simp [go_sem]) hb
set_option maxHeartbeats 1000000 in
theorem bits_no (n : Bool) (x y : Int) (W : World) :
    Calls Tryd.prog 43 #[.agg #[.int .i64 0, .int .i64 0, .bool n, .int .u64 x, .int .u64 y]] W fun r W' => r = .returned (.int .u64 0) ∧ Below W.heap.size W W' := by
  go_enter Tryd.func43, Tryd.ntmps43
  go_wp2_with fail
  refine (known_any 0 0 _).mono ?_
  rintro _ w1 ⟨rfl, hb1⟩
  go_wp2_with fail
  go_ret
  exact ⟨rfl, bthen (below1 _ _) hb1⟩

set_option maxHeartbeats 2000000 in
theorem bits_32p (x y : Int) (W : World) (x0 : 0 ≤ x) (x1 : x < 256) (y0 : 0 ≤ y) (y1 : y < 8388608) :
    Calls Tryd.prog 43 #[.agg #[.int .i64 8, .int .i64 23, .bool false, .int .u64 x, .int .u64 y]] W fun r W' => r = .returned (.int .u64 (x * 8388608 + y)) ∧ Below W.heap.size W W' := by
  have k1 : IntKind.u64.wrap (x * 8388608) = x * 8388608 := by rw [IntKind.wrap_u64]; omega
  have o1 : bits .or .u64 (x * 8388608) y = x * 8388608 + y := or_sum 23 _ _ (by omega) (by omega) (by omega) (by omega) (by omega) (by omega)
  clear x0 x1 y0 y1
  go_enter Tryd.func43, Tryd.ntmps43
  go_wp2_with fail
  refine (known_any 8 23 _).mono ?_
  rintro _ w1 ⟨rfl, hb1⟩
  obtain ⟨q0, q1, q2, q3, q4⟩ := cells5 hb1
  have HB := hide (bthen (below1 _ _) hb1)
  clear hb1
  go_wp2_with fail
  refine wp_region_held_drew (S := fun w' => w'.cell? ⟨W.heap.size, 0, none⟩ = some (.int .i64 8) ∧ w'.cell? ⟨W.heap.size, 1, none⟩ = some (.int .i64 23) ∧ w'.cell? ⟨W.heap.size, 2, none⟩ = some (.bool false) ∧ w'.cell? ⟨W.heap.size, 3, none⟩ = some (.int .u64 x) ∧ w'.cell? ⟨W.heap.size, 4, none⟩ = some (.int .u64 y)) (by kernel_rfl) ?_ (fun hHeld => ?_)
  · (try dsimp only)
    simp [go_sem, q0, q1, q2, q3, q4]
  refine lst0 10 (by kernel_rfl) ?_
  refine tkA 0 8 1 ?_
  refine tkA 1 9 3 ?_
  refine tkA 2 10 7 ?_
  refine tkA 3 11 15 ?_
  refine tkA 4 12 31 ?_
  refine tkA 5 13 63 ?_
  refine tkA 6 14 127 ?_
  refine tkA 7 15 255 ?_
  refine tkA 8 16 511 ?_
  refine tkA 9 3 1023 ?_
  refine wpAnyH_done (by kernel_rfl) ?_ _
  go_wp2_with fail
  go_ret
  exact ⟨rfl, (unhide HB).drew⟩

set_option maxHeartbeats 2000000 in
theorem bits_32m (x y : Int) (W : World) (x0 : 0 ≤ x) (x1 : x < 256) (y0 : 0 ≤ y) (y1 : y < 8388608) :
    Calls Tryd.prog 43 #[.agg #[.int .i64 8, .int .i64 23, .bool true, .int .u64 x, .int .u64 y]] W fun r W' => r = .returned (.int .u64 (x * 8388608 + y + 2147483648)) ∧ Below W.heap.size W W' := by
  have k1 : IntKind.u64.wrap (x * 8388608) = x * 8388608 := by rw [IntKind.wrap_u64]; omega
  have o1 : bits .or .u64 (x * 8388608) y = x * 8388608 + y := or_sum 23 _ _ (by omega) (by omega) (by omega) (by omega) (by omega) (by omega)
  have k2 : IntKind.i64.wrap 31 = 31 := by decide +kernel
  have o2 : bits .or .u64 (x * 8388608 + y) 2147483648 = x * 8388608 + y + 2147483648 := or_sum' 31 _ _ (by omega) (by omega) (by omega) (by omega) (by omega) (by omega)
  clear x0 x1 y0 y1
  go_enter Tryd.func43, Tryd.ntmps43
  go_wp2_with fail
  refine (known_any 8 23 _).mono ?_
  rintro _ w1 ⟨rfl, hb1⟩
  obtain ⟨q0, q1, q2, q3, q4⟩ := cells5 hb1
  have HB := hide (bthen (below1 _ _) hb1)
  clear hb1
  go_wp2_with fail
  refine wp_region_held_drew (S := fun w' => w'.cell? ⟨W.heap.size, 0, none⟩ = some (.int .i64 8) ∧ w'.cell? ⟨W.heap.size, 1, none⟩ = some (.int .i64 23) ∧ w'.cell? ⟨W.heap.size, 2, none⟩ = some (.bool true) ∧ w'.cell? ⟨W.heap.size, 3, none⟩ = some (.int .u64 x) ∧ w'.cell? ⟨W.heap.size, 4, none⟩ = some (.int .u64 y)) (by kernel_rfl) ?_ (fun hHeld => ?_)
  · (try dsimp only)
    simp [go_sem, q0, q1, q2, q3, q4]
  refine lst0 10 (by kernel_rfl) ?_
  refine tkA 0 8 1 ?_
  refine tkA 1 9 3 ?_
  refine tkA 2 10 7 ?_
  refine tkA 3 11 15 ?_
  refine tkA 4 12 31 ?_
  refine tkA 5 13 63 ?_
  refine tkA 6 14 127 ?_
  refine tkA 7 15 255 ?_
  refine tkA 8 16 511 ?_
  refine tkA 9 3 1023 ?_
  refine wpAnyH_done (by kernel_rfl) ?_ _
  go_wp2_with fail
  go_ret
  exact ⟨rfl, (unhide HB).drew⟩

set_option maxHeartbeats 2000000 in
theorem bits_64p (x y : Int) (W : World) (x0 : 0 ≤ x) (x1 : x < 2048) (y0 : 0 ≤ y) (y1 : y < 4503599627370496) :
    Calls Tryd.prog 43 #[.agg #[.int .i64 11, .int .i64 52, .bool false, .int .u64 x, .int .u64 y]] W fun r W' => r = .returned (.int .u64 (x * 4503599627370496 + y)) ∧ Below W.heap.size W W' := by
  have k1 : IntKind.u64.wrap (x * 4503599627370496) = x * 4503599627370496 := by rw [IntKind.wrap_u64]; omega
  have o1 : bits .or .u64 (x * 4503599627370496) y = x * 4503599627370496 + y := or_sum 52 _ _ (by omega) (by omega) (by omega) (by omega) (by omega) (by omega)
  clear x0 x1 y0 y1
  go_enter Tryd.func43, Tryd.ntmps43
  go_wp2_with fail
  refine (known_any 11 52 _).mono ?_
  rintro _ w1 ⟨rfl, hb1⟩
  obtain ⟨q0, q1, q2, q3, q4⟩ := cells5 hb1
  have HB := hide (bthen (below1 _ _) hb1)
  clear hb1
  go_wp2_with fail
  refine wp_region_held_drew (S := fun w' => w'.cell? ⟨W.heap.size, 0, none⟩ = some (.int .i64 11) ∧ w'.cell? ⟨W.heap.size, 1, none⟩ = some (.int .i64 52) ∧ w'.cell? ⟨W.heap.size, 2, none⟩ = some (.bool false) ∧ w'.cell? ⟨W.heap.size, 3, none⟩ = some (.int .u64 x) ∧ w'.cell? ⟨W.heap.size, 4, none⟩ = some (.int .u64 y)) (by kernel_rfl) ?_ (fun hHeld => ?_)
  · (try dsimp only)
    simp [go_sem, q0, q1, q2, q3, q4]
  refine lst0 10 (by kernel_rfl) ?_
  refine tkA 0 8 1 ?_
  refine tkA 1 9 3 ?_
  refine tkA 2 10 7 ?_
  refine tkA 3 11 15 ?_
  refine tkA 4 12 31 ?_
  refine tkA 5 13 63 ?_
  refine tkA 6 14 127 ?_
  refine tkA 7 15 255 ?_
  refine tkA 8 16 511 ?_
  refine tkA 9 3 1023 ?_
  refine wpAnyH_done (by kernel_rfl) ?_ _
  go_wp2_with fail
  go_ret
  exact ⟨rfl, (unhide HB).drew⟩

set_option maxHeartbeats 2000000 in
theorem bits_64m (x y : Int) (W : World) (x0 : 0 ≤ x) (x1 : x < 2048) (y0 : 0 ≤ y) (y1 : y < 4503599627370496) :
    Calls Tryd.prog 43 #[.agg #[.int .i64 11, .int .i64 52, .bool true, .int .u64 x, .int .u64 y]] W fun r W' => r = .returned (.int .u64 (x * 4503599627370496 + y + 9223372036854775808)) ∧ Below W.heap.size W W' := by
  have k1 : IntKind.u64.wrap (x * 4503599627370496) = x * 4503599627370496 := by rw [IntKind.wrap_u64]; omega
  have o1 : bits .or .u64 (x * 4503599627370496) y = x * 4503599627370496 + y := or_sum 52 _ _ (by omega) (by omega) (by omega) (by omega) (by omega) (by omega)
  have k2 : IntKind.i64.wrap 63 = 63 := by decide +kernel
  have o2 : bits .or .u64 (x * 4503599627370496 + y) 9223372036854775808 = x * 4503599627370496 + y + 9223372036854775808 := or_sum' 63 _ _ (by omega) (by omega) (by omega) (by omega) (by omega) (by omega)
  clear x0 x1 y0 y1
  go_enter Tryd.func43, Tryd.ntmps43
  go_wp2_with fail
  refine (known_any 11 52 _).mono ?_
  rintro _ w1 ⟨rfl, hb1⟩
  obtain ⟨q0, q1, q2, q3, q4⟩ := cells5 hb1
  have HB := hide (bthen (below1 _ _) hb1)
  clear hb1
  go_wp2_with fail
  refine wp_region_held_drew (S := fun w' => w'.cell? ⟨W.heap.size, 0, none⟩ = some (.int .i64 11) ∧ w'.cell? ⟨W.heap.size, 1, none⟩ = some (.int .i64 52) ∧ w'.cell? ⟨W.heap.size, 2, none⟩ = some (.bool true) ∧ w'.cell? ⟨W.heap.size, 3, none⟩ = some (.int .u64 x) ∧ w'.cell? ⟨W.heap.size, 4, none⟩ = some (.int .u64 y)) (by kernel_rfl) ?_ (fun hHeld => ?_)
  · (try dsimp only)
    simp [go_sem, q0, q1, q2, q3, q4]
  refine lst0 10 (by kernel_rfl) ?_
  refine tkA 0 8 1 ?_
  refine tkA 1 9 3 ?_
  refine tkA 2 10 7 ?_
  refine tkA 3 11 15 ?_
  refine tkA 4 12 31 ?_
  refine tkA 5 13 63 ?_
  refine tkA 6 14 127 ?_
  refine tkA 7 15 255 ?_
  refine tkA 8 16 511 ?_
  refine tkA 9 3 1023 ?_
  refine wpAnyH_done (by kernel_rfl) ?_ _
  go_wp2_with fail
  go_ret
  exact ⟨rfl, (unhide HB).drew⟩

end Go.Proofs.YtmbkpmcmhmldgaaDoor
namespace Go.Proofs.YtmbkpmcmhmldgaaDoor
open Go.RowKit

/-- A float of its fields; 0 of what is no width. -/
def put (f P Q : Int) (n : Bool) (x y : Int) : Int := if f = 0 then 0 else x * P + y + (if n then P * Q else 0)
/-- The sign's bit of a float. -/
def sg (P Q x : Int) : Bool := x / (P * Q) % 2 == 1

theorem take_any {w e f P Q b : Int} (x : Int) (h : Wd w e f P Q b) (W : World) (h0 : 0 ≤ x) (h1 : x < 18446744073709551616) :
    Calls Tryd.prog 31 #[.int .i64 w, .int .u64 x] W fun r W' => r = .returned (.agg #[.int .i64 e, .int .i64 f, .bool (sg P Q x), .int .u64 (x / P % Q), .int .u64 (x % P)]) ∧ Below W.heap.size W W' := by
  unfold sg
  rcases h with ⟨rfl, rfl, rfl, rfl, rfl, rfl⟩ | ⟨rfl, rfl, rfl, rfl, rfl, rfl⟩ | ⟨hw, rfl, rfl, rfl, rfl, rfl⟩
  · exact take_32 x W h0 h1
  · exact take_64 x W h0 h1
  · rw [Int.emod_one, Int.emod_one, Int.mul_one, Int.ediv_one]
    exact take_no w x W h0 h1 hw

theorem bits_any {e f P Q b : Int} (n : Bool) (x y : Int) (h : Sz e f P Q b) (W : World) (x0 : 0 ≤ x) (x1 : x < Q) (y0 : 0 ≤ y) (y1 : y < P) :
    Calls Tryd.prog 43 #[.agg #[.int .i64 e, .int .i64 f, .bool n, .int .u64 x, .int .u64 y]] W fun r W' => r = .returned (.int .u64 (put f P Q n x y)) ∧ Below W.heap.size W W' := by
  unfold put
  rcases h with ⟨rfl, rfl, rfl, rfl, rfl⟩ | ⟨rfl, rfl, rfl, rfl, rfl⟩ | ⟨rfl, rfl, rfl, rfl, rfl⟩
  · cases n
    · simpa using bits_32p x y W x0 x1 y0 y1
    · simpa using bits_32m x y W x0 x1 y0 y1
  · cases n
    · simpa using bits_64p x y W x0 x1 y0 y1
    · simpa using bits_64m x y W x0 x1 y0 y1
  · simpa using bits_no n x y W

theorem Sz.pos {e f P Q b : Int} (h : Sz e f P Q b) : 1 ≤ P ∧ P ≤ 4503599627370496 ∧ 1 ≤ Q ∧ Q ≤ 2048 := by rcases h with h | h | h <;> omega
theorem exp_in {Q : Int} (z : Int) (h : 1 ≤ Q) : 0 ≤ z % Q ∧ z % Q < Q := ⟨Int.emod_nonneg _ (by omega), Int.emod_lt_of_pos _ (by omega)⟩

/-- The lowest bits of a float's width. -/
def cutN (f P Q x : Int) : Int := if f = 0 then 0 else x % (2 * (P * Q))
theorem cut_put {e f P Q b : Int} (h : Sz e f P Q b) (x : Int) : put f P Q (sg P Q x) (x / P % Q) (x % P) = cutN f P Q x := by
  unfold put cutN sg
  rcases h with ⟨rfl, rfl, rfl, rfl, rfl⟩ | ⟨rfl, rfl, rfl, rfl, rfl⟩ | ⟨rfl, rfl, rfl, rfl, rfl⟩
  · show (if (23 : Int) = 0 then (0 : Int) else x / 8388608 % 256 * 8388608 + x % 8388608 + (if (x / 2147483648 % 2 == 1) = true then 2147483648 else 0)) = if (23 : Int) = 0 then 0 else x % 4294967296
    rw [if_neg (show ¬ (23 : Int) = 0 by decide), if_neg (show ¬ (23 : Int) = 0 by decide)]
    by_cases hn : x / 2147483648 % 2 = 1
    · rw [if_pos (by rw [hn]; rfl)]; omega
    · rw [if_neg (by simp [hn])]; omega
  · show (if (52 : Int) = 0 then (0 : Int) else x / 4503599627370496 % 2048 * 4503599627370496 + x % 4503599627370496 + (if (x / 9223372036854775808 % 2 == 1) = true then 9223372036854775808 else 0)) = if (52 : Int) = 0 then 0 else x % 18446744073709551616
    rw [if_neg (show ¬ (52 : Int) = 0 by decide), if_neg (show ¬ (52 : Int) = 0 by decide)]
    by_cases hn : x / 9223372036854775808 % 2 = 1
    · rw [if_pos (by rw [hn]; rfl)]; omega
    · rw [if_neg (by simp [hn])]; omega
  · rfl

set_option maxHeartbeats 1000000 in
theorem cut_any {w e f P Q b : Int} (x : Int) (h : Wd w e f P Q b) (W : World) (h0 : 0 ≤ x) (h1 : x < 18446744073709551616) :
    Calls Tryd.prog 38 #[.int .i64 w, .int .u64 x] W fun r W' => r = .returned (.int .u64 (cutN f P Q x)) ∧ Below W.heap.size W W' := by
  obtain ⟨p1, p2, p3, p4⟩ := h.sz.pos
  have E := exp_in (x / P) p3
  have F := exp_in x p1
  have HT := hide (fun W => take_any x h W h0 h1)
  have HC := hide (fun W => bits_any (sg P Q x) _ _ h.sz W E.1 E.2 F.1 F.2)
  have HE := hide (cut_put h.sz x)
  clear h0 h1 p1 p2 p3 p4 E F h
  generalize sg P Q x = n at *
  generalize x / P % Q = y at *
  generalize x % P = z at *
  go_enter Tryd.func38, Tryd.ntmps38
  go_wp2_with fail
  refine (unhide HT _).mono ?_
  rintro _ w1 ⟨rfl, hb1⟩
  go_wp2_with fail
  refine (unhide HC _).mono ?_
  rintro _ w2 ⟨rfl, hb2⟩
  go_wp2_with fail
  go_ret
  exact ⟨ret1 (unhide HE), bthen hb1 hb2⟩

set_option maxHeartbeats 1000000 in
theorem zero_any {w e f P Q b : Int} (n : Bool) (h : Wd w e f P Q b) (W : World) :
    Calls Tryd.prog 50 #[.int .i64 w, .bool n] W fun r W' => r = .returned (.int .u64 (put f P Q n 0 0)) ∧ Below W.heap.size W W' := by
  obtain ⟨p1, p2, p3, p4⟩ := h.sz.pos
  have HC := hide (fun W => bits_any n 0 0 h.sz W (by omega) (by omega) (by omega) (by omega))
  go_enter Tryd.func50, Tryd.ntmps50
  go_wp2_with fail
  refine (sizesOf_any h _).mono ?_
  rintro _ w1 ⟨rfl, hb1⟩
  go_wp2_with fail
  refine (unhide HC _).mono ?_
  rintro _ w2 ⟨rfl, hb2⟩
  go_wp2_with fail
  go_ret
  exact ⟨rfl, bthen hb1 hb2⟩

theorem and_not1 {e f P Q b : Int} (h : Sz e f P Q b) : ∃ M, bits .andNot .u64 (Q - 1) 1 = M ∧ 0 ≤ M ∧ M < Q ∧ (f ≠ 0 → M = Q - 2) := by
  rcases h with ⟨rfl, rfl, rfl, rfl, rfl⟩ | ⟨rfl, rfl, rfl, rfl, rfl⟩ | ⟨rfl, rfl, rfl, rfl, rfl⟩
  · exact ⟨254, by decide +kernel, by omega, by omega, by omega⟩
  · exact ⟨2046, by decide +kernel, by omega, by omega, by omega⟩
  · exact ⟨0, by decide +kernel, by omega, by omega, by omega⟩

set_option maxHeartbeats 2000000 in
theorem nan_any {w e f P Q b : Int} (h : Wd w e f P Q b) (W : World) :
    Calls Tryd.prog 58 #[.int .i64 w] W fun r W' => r = .returned (.int .u64 (put f P Q false (Q - 1) (P / 2))) ∧ Below W.heap.size W W' := by
  obtain ⟨p1, p2, p3, p4⟩ := h.sz.pos
  have hs := h.sz
  have HC := hide (fun W => bits_any false (Q - 1) (P / 2) h.sz W (by omega) (by omega) (by omega) (by omega))
  clear p1 p2 p3 p4
  go_enter Tryd.func58, Tryd.ntmps58
  go_wp2_with fail
  refine (sizesOf_any h _).mono ?_
  rintro _ w1 ⟨rfl, hb1⟩
  have HB := hide (balloc hb1 (.cells #[.int .i64 e, .int .i64 f] 56)).drew
  go_wp2_with fail
  refine wp_region_held_drew (S := fun w' => w'.cell? ⟨w1.heap.size, 0, none⟩ = some (.int .i64 e) ∧ w'.cell? ⟨w1.heap.size, 1, none⟩ = some (.int .i64 f)) (by kernel_rfl) ?_ (fun hHeld => ?_)
  · (try dsimp only)
    simp [go_sem]
  refine lst0 9 (by kernel_rfl) ?_
  refine tkA 0 6 1 ?_
  refine tkA 1 7 3 ?_
  refine tkA 3 9 11 ?_
  refine rdA 2 15 (fun Kk hKk => ?_)
  go_simp
  refine (last_any hs _).mono ?_
  rintro _ w2 ⟨rfl, hbl⟩
  have HB := hide (bthen (unhide HB) hbl)
  (try go_wp2_with fail)
  refine hKk.out _ _ ?_ (fun hHeld => ?_)
  · (try dsimp only)
    exact At2.below hHeld hbl
  clear hKk Kk
  (try simp only [List.setIfInBounds_toArray, List.set_cons_zero, List.set_cons_succ])
  refine rdA 4 31 (fun Kk hKk => ?_)
  go_simp
  refine (one_any hs _).mono ?_
  rintro _ w3 ⟨rfl, hbl⟩
  have HB := hide (bthen (unhide HB) hbl)
  (try go_wp2_with fail)
  refine hKk.out _ _ ?_ (fun hHeld => ?_)
  · (try dsimp only)
    exact At2.below hHeld hbl
  clear hKk Kk
  (try simp only [List.setIfInBounds_toArray, List.set_cons_zero, List.set_cons_succ])
  refine tkA 5 11 63 ?_
  refine tkA 6 12 127 ?_
  refine rdA 7 255 (fun Kk hKk => ?_)
  go_simp
  refine (unhide HC _).mono ?_
  rintro _ w4 ⟨rfl, hbl⟩
  have HB := hide (bthen (unhide HB) hbl)
  (try go_wp2_with fail)
  refine hKk.out _ _ ?_ (fun hHeld => ?_)
  · (try dsimp only)
    exact At2.below hHeld hbl
  clear hKk Kk
  (try simp only [List.setIfInBounds_toArray, List.set_cons_zero, List.set_cons_succ])
  refine tkA 8 2 511 ?_
  refine wpAnyH_done (by kernel_rfl) ?_ _
  go_wp2_with fail
  go_ret
  exact ⟨rfl, unhide HB⟩

set_option maxHeartbeats 2000000 in
theorem inf_any {w e f P Q b : Int} (n : Bool) (h : Wd w e f P Q b) (W : World) :
    Calls Tryd.prog 55 #[.int .i64 w, .bool n] W fun r W' => r = .returned (.int .u64 (put f P Q n (Q - 1) 0)) ∧ Below W.heap.size W W' := by
  obtain ⟨p1, p2, p3, p4⟩ := h.sz.pos
  have hs := h.sz
  have HC := hide (fun W => bits_any n (Q - 1) 0 h.sz W (by omega) (by omega) (by omega) (by omega))
  clear p1 p2 p3 p4
  go_enter Tryd.func55, Tryd.ntmps55
  go_wp2_with fail
  refine (sizesOf_any h _).mono ?_
  rintro _ w1 ⟨rfl, hb1⟩
  have HB := hide (balloc hb1 (.cells #[.int .i64 e, .int .i64 f] 56)).drew
  go_wp2_with fail
  refine wp_region_held_drew (S := fun w' => w'.cell? ⟨w1.heap.size, 0, none⟩ = some (.int .i64 e) ∧ w'.cell? ⟨w1.heap.size, 1, none⟩ = some (.int .i64 f)) (by kernel_rfl) ?_ (fun hHeld => ?_)
  · (try dsimp only)
    simp [go_sem]
  refine lst0 7 (by kernel_rfl) ?_
  refine tkA 0 8 1 ?_
  refine tkA 1 9 3 ?_
  refine tkA 2 10 7 ?_
  refine rdA 3 15 (fun Kk hKk => ?_)
  go_simp
  refine (last_any hs _).mono ?_
  rintro _ w2 ⟨rfl, hbl⟩
  have HB := hide (bthen (unhide HB) hbl)
  (try go_wp2_with fail)
  refine hKk.out _ _ ?_ (fun hHeld => ?_)
  · (try dsimp only)
    exact At2.below hHeld hbl
  clear hKk Kk
  (try simp only [List.setIfInBounds_toArray, List.set_cons_zero, List.set_cons_succ])
  refine tkA 4 12 31 ?_
  refine rdA 5 63 (fun Kk hKk => ?_)
  go_simp
  refine (unhide HC _).mono ?_
  rintro _ w4 ⟨rfl, hbl⟩
  have HB := hide (bthen (unhide HB) hbl)
  (try go_wp2_with fail)
  refine hKk.out _ _ ?_ (fun hHeld => ?_)
  · (try dsimp only)
    exact At2.below hHeld hbl
  clear hKk Kk
  (try simp only [List.setIfInBounds_toArray, List.set_cons_zero, List.set_cons_succ])
  refine tkA 6 4 127 ?_
  refine wpAnyH_done (by kernel_rfl) ?_ _
  go_wp2_with fail
  go_ret
  exact ⟨rfl, unhide HB⟩

set_option maxHeartbeats 2000000 in
theorem most_w {w e f P Q b : Int} (n : Bool) (h : Wd w e f P Q b) (W : World) :
    Calls Tryd.prog 48 #[.int .i64 w, .bool n] W fun r W' => r = .returned (.int .u64 (put f P Q n (Q - 2) (P - 1))) ∧ Below W.heap.size W W' := by
  obtain ⟨p1, p2, p3, p4⟩ := h.sz.pos
  have hs := h.sz
  obtain ⟨M, hM, m1, m2, m3⟩ := and_not1 hs
  have k1 : IntKind.u64.wrap (P - 1) = P - 1 := by rw [IntKind.wrap_u64]; omega
  have HC := hide (fun W => bits_any n M (P - 1) h.sz W (by omega) (by omega) (by omega) (by omega))
  have HE : Hid (put f P Q n M (P - 1) = put f P Q n (Q - 2) (P - 1)) := by
    by_cases hf : f = 0
    · simp [Hid, put, hf]
    · rw [m3 hf]; exact rfl
  clear p1 p2 p3 p4 m1 m2 m3
  go_enter Tryd.func48, Tryd.ntmps48
  go_wp2_with fail
  refine (sizesOf_any h _).mono ?_
  rintro _ w1 ⟨rfl, hb1⟩
  have HB := hide (balloc hb1 (.cells #[.int .i64 e, .int .i64 f] 56)).drew
  go_wp2_with fail
  refine wp_region_held_drew (S := fun w' => w'.cell? ⟨w1.heap.size, 0, none⟩ = some (.int .i64 e) ∧ w'.cell? ⟨w1.heap.size, 1, none⟩ = some (.int .i64 f)) (by kernel_rfl) ?_ (fun hHeld => ?_)
  · (try dsimp only)
    simp [go_sem]
  refine lst0 11 (by kernel_rfl) ?_
  refine tkA 0 8 1 ?_
  refine tkA 1 9 3 ?_
  refine tkA 2 10 7 ?_
  refine tkA 5 13 39 ?_
  refine rdA 3 47 (fun Kk hKk => ?_)
  go_simp
  refine (last_any hs _).mono ?_
  rintro _ w2 ⟨rfl, hbl⟩
  have HB := hide (bthen (unhide HB) hbl)
  (try go_wp2_with fail)
  refine hKk.out _ _ ?_ (fun hHeld => ?_)
  · (try dsimp only)
    exact At2.below hHeld hbl
  clear hKk Kk
  (try simp only [List.setIfInBounds_toArray, List.set_cons_zero, List.set_cons_succ])
  refine tkA 4 12 63 ?_
  refine rdA 6 127 (fun Kk hKk => ?_)
  go_simp
  refine (one_any hs _).mono ?_
  rintro _ w3 ⟨rfl, hbl⟩
  have HB := hide (bthen (unhide HB) hbl)
  (try go_wp2_with fail)
  refine hKk.out _ _ ?_ (fun hHeld => ?_)
  · (try dsimp only)
    exact At2.below hHeld hbl
  clear hKk Kk
  (try simp only [List.setIfInBounds_toArray, List.set_cons_zero, List.set_cons_succ])
  refine tkA 7 15 255 ?_
  refine tkA 8 16 511 ?_
  refine rdA 9 1023 (fun Kk hKk => ?_)
  go_simp
  refine (unhide HC _).mono ?_
  rintro _ w4 ⟨rfl, hbl⟩
  have HB := hide (bthen (unhide HB) hbl)
  (try go_wp2_with fail)
  refine hKk.out _ _ ?_ (fun hHeld => ?_)
  · (try dsimp only)
    exact At2.below hHeld hbl
  clear hKk Kk
  (try simp only [List.setIfInBounds_toArray, List.set_cons_zero, List.set_cons_succ])
  refine tkA 10 4 2047 ?_
  refine wpAnyH_done (by kernel_rfl) ?_ _
  go_wp2_with fail
  go_ret
  exact ⟨ret1 (unhide HE), unhide HB⟩

set_option maxHeartbeats 1000000 in
theorem fields_any {w e f P Q b : Int} (h : Wd w e f P Q b) (W : World) :
    Calls Tryd.prog 13 #[.int .i64 w] W fun r W' => r = .returned (.tuple #[.int .i64 e, .int .i64 f]) ∧ Below W.heap.size W W' := by
  go_enter Tryd.func13, Tryd.ntmps13
  go_wp2_with fail
  refine (sizesOf_any h _).mono ?_
  rintro _ w1 ⟨rfl, hb1⟩
  have HB := hide (balloc hb1 (.cells #[.int .i64 e, .int .i64 f] 56)).drew
  go_wp2_with fail
  refine wp_region_held_drew (S := fun w' => w'.cell? ⟨w1.heap.size, 0, none⟩ = some (.int .i64 e) ∧ w'.cell? ⟨w1.heap.size, 1, none⟩ = some (.int .i64 f)) (by kernel_rfl) ?_ (fun hHeld => ?_)
  · (try dsimp only)
    simp [go_sem]
  refine lst0 6 (by kernel_rfl) ?_
  refine tkA 0 7 1 ?_
  refine tkA 1 8 3 ?_
  refine tkA 2 9 7 ?_
  refine tkA 3 10 15 ?_
  refine tkA 4 2 31 ?_
  refine tkA 5 3 63 ?_
  refine wpAnyH_done (by kernel_rfl) ?_ _
  go_wp2_with fail
  go_ret2
  exact ⟨rfl, unhide HB⟩

end Go.Proofs.YtmbkpmcmhmldgaaDoor
namespace Go.Proofs.YtmbkpmcmhmldgaaDoor
open Go.RowKit
open Go.Proofs.YtmbkpmcmhmldgaaDoor.W

/-- The table of de Bruijn's numbers, in its variable. -/
def Mk (W : World) : Prop := ∀ j, j < 64 → W.cell? ⟨0, j, none⟩ = some (.int .u8 (Lib.deBruijn64tab.getD j 0 : Nat))
theorem Mk.below {w w' : World} (h : Mk w) (hb : Below w.heap.size w w') : Mk w' := fun j hj => keep1 hb (lt_of_cell (h j hj)) (h j hj)
/-- What a function answers where the table is so. -/
def Cm (f : Nat) (args : Array Value) (res : Value) : Prop := Hid (∀ W, Mk W → Calls Tryd.prog f args W fun r W' => r = .returned res ∧ Below W.heap.size W W')

/-- How the shelf's numbers of functions, types and variables are named here. -/
def ren : Go.Shelf.Ren := ⟨fun _ => 29, fun t => if t = 22 then 24 else if t = 25 then 65 else if t = 54 then 70 else t, fun _ => 0⟩
theorem lays : Go.Proofs.Lays7.n29 Tryd.prog ren where
  mixed := by kernel_rfl
  f29 := by kernel_rfl
  t0 := by kernel_rfl
  a0 := fun _ => by kernel_rfl
  z0 := fun _ => by kernel_rfl
  v0 := fun _ => by kernel_rfl
  i0 := by kernel_rfl
  t3 := by kernel_rfl
  a3 := fun _ => by kernel_rfl
  z3 := fun _ => by kernel_rfl
  v3 := fun _ => by kernel_rfl
  i3 := by kernel_rfl
  t4 := by kernel_rfl
  a4 := fun _ => by kernel_rfl
  z4 := fun _ => by kernel_rfl
  v4 := fun _ => by kernel_rfl
  i4 := by kernel_rfl
  t5 := by kernel_rfl
  a5 := fun _ => by kernel_rfl
  z5 := fun _ => by kernel_rfl
  v5 := fun _ => by kernel_rfl
  i5 := by kernel_rfl
  t22 := by kernel_rfl
  a22 := fun _ => by kernel_rfl
  z22 := fun _ => by kernel_rfl
  v22 := fun _ => by kernel_rfl
  i22 := by kernel_rfl
  t25 := by kernel_rfl
  a25 := fun _ => by kernel_rfl
  z25 := fun _ => by kernel_rfl
  v25 := fun _ => by kernel_rfl
  i25 := by kernel_rfl
  t54 := by kernel_rfl
  a54 := fun _ => by kernel_rfl
  z54 := fun _ => by kernel_rfl
  g1 := by kernel_rfl
theorem tz_any (x : Nat) (h1 : x < 18446744073709551616) (W : World) (m : Mk W) :
    Calls Tryd.prog 29 #[.int .u64 x] W fun r W' => r = .returned (.int .i64 (Lib.ctz 64 x : Nat)) ∧ W' = W :=
  Go.Proofs.Any7.bits_TrailingZeros64 lays x h1 W (fun _ => m)
theorem tz_zero (W : World) (m : Mk W) : Calls Tryd.prog 29 #[.int .u64 0] W fun r W' => r = .returned (.int .i64 64) ∧ W' = W := tz_any 0 (by omega) W m

set_option maxHeartbeats 4000000 in
set_option maxRecDepth 100000 in
theorem span_z (W : World) (HM : Hid (Mk W)) (HT : Hid (∀ W, Mk W → Calls Tryd.prog 29 #[.int .u64 0] W fun r W' => r = .returned (.int .i64 64) ∧ Below W.heap.size W W')) (HL : Ct 28 #[.int .u64 0] (.int .i64 0)) :
    Calls Tryd.prog 14 #[.int .u64 0] W fun r W' => r = .returned (.int .i64 0) ∧ Below W.heap.size W W' := by
  have HB := hide (Below.refl W.heap.size W)
  go_enter Tryd.func14, Tryd.ntmps14
  go_wp2_with fail
  refine (unhide HT _ (unhide HM)).mono ?_
  rintro _ w1 ⟨rfl, hb⟩
  have HB := hide (bthen (unhide HB) hb)
  have HM := hide ((unhide HM).below hb)
  clear hb
  go_wp2_with fail
  refine (unhide HL _).mono ?_
  rintro _ w2 ⟨rfl, hb⟩
  have HB := hide (bthen (unhide HB) hb)
  have HM := hide ((unhide HM).below hb)
  clear hb
  go_wp2_with fail
  go_ret
  exact ⟨rfl, unhide HB⟩
set_option maxHeartbeats 4000000 in
set_option maxRecDepth 100000 in
theorem span_n {x t y L : Int} (W : World) (HM : Hid (Mk W)) (t0 : 0 ≤ t) (t1 : t < 64) (HT : Cm 29 #[.int .u64 x] (.int .i64 t)) (h : x / 2 ^ t.toNat = y) (HL : Ct 28 #[.int .u64 y] (.int .i64 L)) :
    Calls Tryd.prog 14 #[.int .u64 x] W fun r W' => r = .returned (.int .i64 L) ∧ Below W.heap.size W W' := by
  have HB := hide (Below.refl W.heap.size W)
  go_enter Tryd.func14, Tryd.ntmps14
  go_wp2_with fail
  refine (unhide HT _ (unhide HM)).mono ?_
  rintro _ w1 ⟨rfl, hb⟩
  have HB := hide (bthen (unhide HB) hb)
  have HM := hide ((unhide HM).below hb)
  clear hb
  go_wp2_with fail
  refine (unhide HL _).mono ?_
  rintro _ w2 ⟨rfl, hb⟩
  have HB := hide (bthen (unhide HB) hb)
  have HM := hide ((unhide HM).below hb)
  clear hb
  go_wp2_with fail
  go_ret
  exact ⟨rfl, unhide HB⟩
set_option maxHeartbeats 4000000 in
set_option maxRecDepth 100000 in
theorem cknown_l {w e f : Int} (W : World) (HF : Ct 13 #[.int .i64 w] (.tuple #[.int .i64 e, .int .i64 f])) :
    Calls Tryd.prog 11 #[.int .i64 w] W fun r W' => r = .returned (.bool (e != 0)) ∧ Below W.heap.size W W' := by
  have HB := hide (Below.refl W.heap.size W)
  go_enter Tryd.func11, Tryd.ntmps11
  go_wp2_with fail
  refine (unhide HF _).mono ?_
  rintro _ w1 ⟨rfl, hb⟩
  have HB := hide (bthen (unhide HB) hb)
  clear hb
  go_wp2_with fail
  go_ret
  exact ⟨rfl, unhide HB⟩
set_option maxHeartbeats 4000000 in
set_option maxRecDepth 100000 in
theorem exact_no1 {w k x : Int} {s : Bool} (W : World) (HW : Ct 11 #[.int .i64 w] (.bool false)) :
    Calls Tryd.prog 7 #[.int .i64 w, .int .i64 k, .int .u64 x, .bool s] W fun r W' => r = .returned (.bool false) ∧ Below W.heap.size W W' := by
  have HB := hide (Below.refl W.heap.size W)
  go_enter Tryd.func7, Tryd.ntmps7
  go_wp2_with fail
  refine (unhide HW _).mono ?_
  rintro _ w1 ⟨rfl, hb⟩
  have HB := hide (bthen (unhide HB) hb)
  clear hb
  go_wp2_with fail
  go_ret
  exact ⟨rfl, unhide HB⟩
set_option maxHeartbeats 4000000 in
set_option maxRecDepth 100000 in
theorem exact_no2 {w k x : Int} {s : Bool} (W : World) (HW : Ct 11 #[.int .i64 w] (.bool true)) (HK : Ct 11 #[.int .i64 k] (.bool false)) :
    Calls Tryd.prog 7 #[.int .i64 w, .int .i64 k, .int .u64 x, .bool s] W fun r W' => r = .returned (.bool false) ∧ Below W.heap.size W W' := by
  have HB := hide (Below.refl W.heap.size W)
  go_enter Tryd.func7, Tryd.ntmps7
  go_wp2_with fail
  refine (unhide HW _).mono ?_
  rintro _ w1 ⟨rfl, hb⟩
  have HB := hide (bthen (unhide HB) hb)
  clear hb
  go_wp2_with fail
  refine (unhide HK _).mono ?_
  rintro _ w2 ⟨rfl, hb⟩
  have HB := hide (bthen (unhide HB) hb)
  clear hb
  go_wp2_with fail
  go_ret
  exact ⟨rfl, unhide HB⟩
set_option maxHeartbeats 4000000 in
set_option maxRecDepth 100000 in
theorem exact_yes {w k x a e f g L : Int} {s m : Bool} (W : World) (HM : Hid (Mk W)) (HW : Ct 11 #[.int .i64 w] (.bool true)) (HK : Ct 11 #[.int .i64 k] (.bool true)) (HN : Ct 12 #[.int .i64 k, .int .u64 x, .bool s] (.tuple #[.bool m, .int .u64 a])) (HF : Ct 13 #[.int .i64 w] (.tuple #[.int .i64 e, .int .i64 f])) (h : IntKind.i64.wrap (f + 1) = g) (HS : Cm 14 #[.int .u64 a] (.int .i64 L)) :
    Calls Tryd.prog 7 #[.int .i64 w, .int .i64 k, .int .u64 x, .bool s] W fun r W' => r = .returned (.bool (decide (L ≤ g))) ∧ Below W.heap.size W W' := by
  have HB := hide (Below.refl W.heap.size W)
  go_enter Tryd.func7, Tryd.ntmps7
  go_wp2_with fail
  refine (unhide HW _).mono ?_
  rintro _ w1 ⟨rfl, hb⟩
  have HB := hide (bthen (unhide HB) hb)
  have HM := hide ((unhide HM).below hb)
  clear hb
  go_wp2_with fail
  refine (unhide HK _).mono ?_
  rintro _ w2 ⟨rfl, hb⟩
  have HB := hide (bthen (unhide HB) hb)
  have HM := hide ((unhide HM).below hb)
  clear hb
  go_wp2_with fail
  refine (unhide HN _).mono ?_
  rintro _ w3 ⟨rfl, hb⟩
  have HB := hide (bthen (unhide HB) hb)
  have HM := hide ((unhide HM).below hb)
  clear hb
  go_wp2_with fail
  refine (unhide HF _).mono ?_
  rintro _ w4 ⟨rfl, hb⟩
  have HB := hide (bthen (unhide HB) hb)
  have HM := hide ((unhide HM).below hb)
  clear hb
  go_wp2_with fail
  refine (unhide HS _ (unhide HM)).mono ?_
  rintro _ w5 ⟨rfl, hb⟩
  have HB := hide (bthen (unhide HB) hb)
  have HM := hide ((unhide HM).below hb)
  clear hb
  go_wp2_with fail
  go_ret
  exact ⟨rfl, unhide HB⟩
end Go.Proofs.YtmbkpmcmhmldgaaDoor
namespace Go.Proofs.YtmbkpmcmhmldgaaDoor
open Go.ChangeShapes Go.WideShapes Go.ChangeAt Go.WideElems Go.RowKit
open Go.Proofs.YtmbkpmcmhmldgaaDoor.W

def laidL : List (String × DataW Unit) := [("math/bits.deBruijn64tab", Rows.laid_math_bits_deBruijn64tab)]
theorem own : ownKnob Tryd.prog.godebug = none := by kernel_rfl
theorem gTab : Tryd.prog.globalNamed "math/bits.deBruijn64tab" = some 0 := by kernel_rfl
theorem tTab : (Tryd.prog.globals[0]?).map (·.type) = some 70 := by kernel_rfl
/-- The heap that the initialiser leaves meets the condition. -/
theorem door_met (os : Os) (args : Array Value) : laidMetH Tryd.prog laidL ((World.doorLaid Tryd.prog 400 os).forCall (fun _ _ => 0) ⟨#[], args, []⟩).memory :=
  laidMetH_of_parts3 (fuel := 8) (laidMet_of_run' 8 (by kernel_rfl) (by kernel_rfl)) (by kernel_rfl) (by kernel_rfl)
theorem c5 : Tryd.prog.cellsOf 5 = 1 := by kernel_rfl
theorem tab_datum {H : Type} : (Rows.laid_math_bits_deBruijn64tab : DataW H) = .agg (Lib.deBruijn64tab.map fun n : Nat => .lit (.int .u8 (n : Int))) := rfl
theorem of_laid {W : World} (h : laidMetH Tryd.prog laidL W) : Mk W := by
  rw [MakeChecks.laidMetH_plain _ _ _ (by kernel_rfl)] at h
  obtain ⟨ps, ⟨g0, t0, cs0, f0, p0, q0, hg0, ht0, hv0, hd0, _, _⟩, _, _⟩ := h
  obtain rfl := Option.some.inj (gTab.symm.trans hg0)
  obtain rfl := Option.some.inj (tTab.symm.trans ht0)
  obtain ⟨xs, m1, rfl, hx1, hlen, hn3, hel⟩ := DataW.trod_array Tryd.underlying70 hd0
  simp only [Prod.mk.injEq] at hx1
  have hx := hx1.1
  rw [tab_datum] at hx
  injection hx with hx
  intro j hj
  have hj' := hel j hj
  rw [c5, Nat.mul_one, List.getElem?_eq_getElem (show j < xs.length by omega)] at hj'
  obtain ⟨k, e0, e1, -⟩ := DataW.trod_int Tryd.underlying5 hj'
  have h1 : (xs.map (·.1))[j]? = some (.lit (.int .u8 k)) := by
    rw [List.getElem?_map, List.getElem?_eq_getElem (show j < xs.length by omega), e1]
    rfl
  have hl : Lib.deBruijn64tab.length = 64 := rfl
  obtain ⟨d, hd⟩ : ∃ d, Lib.deBruijn64tab[j]? = some d := ⟨_, List.getElem?_eq_getElem (show j < Lib.deBruijn64tab.length by rw [hl]; exact hj)⟩
  rw [← hx, List.getElem?_map, hd] at h1
  simp only [Option.map_some, Option.some.injEq, DataW.lit.injEq, Lit.int.injEq, true_and] at h1
  have h2 : Lib.deBruijn64tab.getD j 0 = d := by
    rw [List.getD_eq_getElem?_getD, hd]
    rfl
  rw [h2, h1]
  have h3 := congrArg (·[0]?) e0
  simp [List.getElem?_drop] at h3
  have hc := World.var?_cell hg0 hv0 j
  rw [hc]
  simpa using h3
theorem word_of_wf {x : Int} (h : (Lit.int .u64 x).wf = true) : 0 ≤ x ∧ x < 18446744073709551616 := by
  simp [Lit.wf, IntKind.min, IntKind.max, IntKind.signed, IntKind.bits] at h
  exact ⟨by omega, by omega⟩
end Go.Proofs.YtmbkpmcmhmldgaaDoor
