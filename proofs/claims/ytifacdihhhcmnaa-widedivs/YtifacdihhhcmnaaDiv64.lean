/- The contract of math/bits.Div64: the quotient and the rest, where the upper word is below the divisor. -/
import Derived.Test.YtifacdihhhcmnaaAdd
import Derived.Test.YtifacdihhhcmnaaKnuth
import Derived.Deep.Cut
import Derived.Deep.CutBlock
import Derived.Deep.DeepCutAuto
namespace Go.Proofs.Ytifacdihhhcmnaa
open Go.RowKit

set_option maxHeartbeats 400000 in
theorem lz_any (y : Int) (w : World) (h0 : 0 ≤ y) (h1 : y < 18446744073709551616) :
    Calls Try.prog 48 #[.int .u64 y] w fun e w' => e = .returned (.int .i64 ((64 - Go.bitLen y.toNat : Nat) : Int)) ∧ w' = w := by
  have hb := bitLen_le64 y.toNat (by omega)
  have HC : Hid (64 - (Go.bitLen y.toNat : Int) = ((64 - Go.bitLen y.toNat : Nat) : Int)) := by unfold Hid; omega
  go_enter Try.func48, Try.ntmps48
  go_wp2_with (go_at_call 45; refine (len64_any y _ h0 h1).mono ?_; rintro e w' ⟨rfl, rfl⟩)
  go_ret
  exact ⟨ret1 HC.out, rfl⟩

theorem norm_ex (x l y : Int) (x0 : 0 ≤ x) (x1 : x < y) (l0 : 0 ≤ l) (l1 : l < 18446744073709551616) (y1 : y < 18446744073709551616) :
    ∃ (s : Nat) (Y U L a b c d : Int), s = 64 - Go.bitLen y.toNat ∧ s ≤ 63 ∧ IntKind.u64.wrap (y * 2 ^ s) = Y ∧ Y / 4294967296 = a ∧ bits .and .u64 Y 4294967295 = b ∧
      bits .or .u64 (IntKind.u64.wrap (x * 2 ^ s)) (l / 2 ^ (64 - s)) = U ∧ IntKind.u64.wrap (l * 2 ^ s) = L ∧ L / 4294967296 = c ∧ bits .and .u64 L 4294967295 = d ∧
      Norm U c a b ∧ 0 ≤ d ∧ d < 4294967296 ∧ Y = a * 4294967296 + b ∧ Y = y * 2 ^ s ∧ (x * 18446744073709551616 + l) * 2 ^ s = (U * 4294967296 + c) * 4294967296 + d := by
  obtain ⟨X, rfl⟩ := Int.eq_ofNat_of_zero_le x0
  obtain ⟨M, rfl⟩ := Int.eq_ofNat_of_zero_le l0
  obtain ⟨Z, rfl⟩ := Int.eq_ofNat_of_zero_le (show 0 ≤ y by omega)
  obtain ⟨s, U, hs, hs63, hY0, hY1, hU, hV, hlt⟩ := norm_nat X M Z (by omega) (by omega) (by omega)
  have eY : IntKind.u64.wrap ((Z : Int) * 2 ^ s) = ((Z * 2 ^ s : Nat) : Int) := by rw [shl_nat, Nat.mod_eq_of_lt hY1]
  have eL := shl_nat M s
  have eU : bits .or .u64 (IntKind.u64.wrap ((X : Int) * 2 ^ s)) ((M : Int) / 2 ^ (64 - s)) = (U : Int) := by
    rw [shl_nat, shr_nat]
    exact or_words _ _ _ (by omega) (Nat.lt_of_le_of_lt (Nat.div_le_self _ _) (by omega)) hU
  have hL : M * 2 ^ s % 18446744073709551616 < 18446744073709551616 := Nat.mod_lt _ (by omega)
  have ep : ((Z * 2 ^ s : Nat) : Int) = (Z : Int) * 2 ^ s := by rw [Int.natCast_mul, Int.natCast_pow]; rfl
  have eq : ((X : Int) * 18446744073709551616 + M) * 2 ^ s = (((X * 18446744073709551616 + M) * 2 ^ s : Nat) : Int) := by rw [Int.natCast_mul, Int.natCast_pow, Int.natCast_add, Int.natCast_mul]; rfl
  refine ⟨s, _, _, _, _, _, _, _, by rw [Int.toNat_natCast]; exact hs, hs63, eY, rfl, Go.and_low32 _ (by omega) (by omega), eU, eL, rfl, Go.and_low32 _ (by omega) (by omega), ?_, ?_, ?_, ?_, ep, ?_⟩
  · unfold Norm
    generalize M * 2 ^ s % 18446744073709551616 = L at *
    generalize Z * 2 ^ s = Y at *
    omega
  · omega
  · omega
  · omega
  · rw [eq, hV]
    generalize M * 2 ^ s % 18446744073709551616 = L at *
    omega

set_option maxHeartbeats 1000000 in
theorem div64_any (x l y : Int) (w : World) (x0 : 0 < x) (x1 : x < y) (l0 : 0 ≤ l) (l1 : l < 18446744073709551616) (y1 : y < 18446744073709551616) :
    Calls Try.prog 46 #[.int .u64 x, .int .u64 l, .int .u64 y] w fun e w' => e = .returned (.tuple #[.int .u64 ((x * 18446744073709551616 + l) / y), .int .u64 ((x * 18446744073709551616 + l) % y)]) ∧ w' = w := by
  have n0 : (y == 0) = false := by rw [beq_eq_false_iff_ne]; omega
  have n1 : (x == 0) = false := by rw [beq_eq_false_iff_ne]; omega
  have n2 : ¬ y ≤ x := by omega
  obtain ⟨s, Y, U, L, a, b, c, d, hs, hs63, eY, ea, eb, eU, eL, ec, ed, hN, hd0, hd1, eYa, eYp, eV⟩ := norm_ex x l y (by omega) x1 l0 l1 y1
  have HY := hide eY; have Ha := hide ea; have Hb := hide eb; have HU := hide eU; have HL := hide eL; have Hc := hide ec; have Hd := hide ed
  have HN := hide hN; have HYa := hide eYa; have HYp := hide eYp; have HV := hide eV
  clear eY ea eb eU eL ec ed eYa eYp eV
  have HS := hide hs
  clear hs
  go_enter Try.func46, Try.ntmps46
  go_wp2_with fail
  refine (lz_any y _ (by omega) y1).mono ?_
  rintro e w' ⟨rfl, rfl⟩
  rw [← unhide HS]
  go_upto_region 15 with fail
  rw [unhide HY, unhide HU, unhide HL, unhide Ha, unhide Hb, unhide Hc, unhide Hd]
  have a0 : 0 < a := by have := (unhide HN).1; omega
  have a1 : (a == 0) = false := by rw [beq_eq_false_iff_ne]; omega
  have U0 : 0 ≤ U := (unhide HN).2.2.2.2.1
  obtain ⟨q, r, eq1, er1, ht⟩ := start_ex (unhide HN)
  have Hq1 := hide eq1; have Hr1 := hide er1; have HT := hide ht
  clear eq1 er1 ht
  go_upto_region 16 with fail
  rw [unhide Hq1]
  go_upto_block 0 with fail
  rw [unhide Hr1]
  go_cut [15, 16] (fun t _ w1 => w1 = w' ∧ ∃ q : Int, t = .int .u64 q ∧ Digit U c a b q)
  case first =>
    go_wp2_with fail
    go_loop [15, 16] (fun t t' => ∃ q r : Int, t = .int .u64 q ∧ t' = .int .u64 r ∧ Trial U c a b q r) (fun t _ => (intOf t).toNat)
    case atStart => exact ⟨q, r, rfl, rfl, unhide HT⟩
    case round =>
      clear HT Hq1 Hr1
      obtain ⟨q, r, rfl, rfl, ht⟩ := hrel
      have HT := hide ht
      clear ht
      go_wp2_with fail
      · go_meet
        case rel => exact ⟨rfl, _, rfl, round_break (unhide HN) (unhide HT) (by assumption) (by assumption)⟩
      · have hn := round_next (unhide HN) (unhide HT) (by assumption) (by assumption)
        exact ⟨⟨_, _, rfl, rfl, hn.1⟩, hn.2⟩
      · go_meet
        case rel => exact ⟨rfl, _, rfl, round_stop (unhide HN) (unhide HT) (And.right (by assumption))⟩
      · go_meet
        case rel => exact ⟨rfl, _, rfl, round_break (unhide HN) (unhide HT) (Or.inl (by assumption)) (by assumption)⟩
      · have hn := round_next (unhide HN) (unhide HT) (Or.inl (by omega)) (by assumption)
        exact ⟨⟨_, _, rfl, rfl, hn.1⟩, hn.2⟩
  case rest =>
    obtain ⟨rfl, q, rfl, hD⟩ := hcut
    have HD := hide hD
    clear hD
    obtain ⟨R, eR, eR1, eR2, eR3⟩ := rest_ex (unhide HN) (unhide HD) (unhide HYa)
    have HR := hide eR; have HR1 := hide eR1
    have HN2 := hide (norm_next (d := d) (unhide HN) (unhide HYa) eR2 eR3 hd0 hd1)
    have HR2 := hide (And.intro eR2 eR3)
    clear eR eR1 eR2 eR3
    have R0 : 0 ≤ R := (unhide HR2).1
    obtain ⟨q', r', eq2, er2, ht2⟩ := start_ex (unhide HN2)
    have Hq2 := hide eq2; have Hr2 := hide er2; have HT2 := hide ht2
    clear eq2 er2 ht2
    go_upto_region 22 with fail
    rw [unhide HR]
    go_upto_region 23 with fail
    rw [unhide Hq2]
    go_upto_block 2 with fail
    rw [unhide Hr2]
    go_cut [18, 16] (fun t _ w1 => w1 = wc ∧ ∃ z : Int, t = .int .u64 z ∧ Digit R d a b z)
    case first =>
      go_wp2_with fail
      go_loop [18, 16] (fun t t' => ∃ q r : Int, t = .int .u64 q ∧ t' = .int .u64 r ∧ Trial R d a b q r) (fun t _ => (intOf t).toNat)
      case atStart => exact ⟨q', r', rfl, rfl, unhide HT2⟩
      case round =>
        clear HT2 Hq2 Hr2
        obtain ⟨p, r, rfl, rfl, ht⟩ := hrel
        have HT := hide ht
        clear ht
        go_wp2_with fail
        · go_meet
          case rel => exact ⟨rfl, _, rfl, round_break (unhide HN2) (unhide HT) (by assumption) (by assumption)⟩
        · have hn := round_next (unhide HN2) (unhide HT) (by assumption) (by assumption)
          exact ⟨⟨_, _, rfl, rfl, hn.1⟩, hn.2⟩
        · go_meet
          case rel => exact ⟨rfl, _, rfl, round_stop (unhide HN2) (unhide HT) (And.right (by assumption))⟩
        · go_meet
          case rel => exact ⟨rfl, _, rfl, round_break (unhide HN2) (unhide HT) (Or.inl (by assumption)) (by assumption)⟩
        · have hn := round_next (unhide HN2) (unhide HT) (Or.inl (by omega)) (by assumption)
          exact ⟨⟨_, _, rfl, rfl, hn.1⟩, hn.2⟩
    case rest =>
      obtain ⟨rfl, z, rfl, hD2⟩ := hcut
      obtain ⟨T, eT, eT1, eT2, eT3⟩ := rest_ex (unhide HN2) hD2 (unhide HYa)
      have hf := long_fin (x * 18446744073709551616 + l) y (2 ^ s) Y U c d R T q z (Int.pow_pos (by omega)) (by omega) (unhide HYp) (unhide HV) (unhide HR1) eT1 eT2 eT3
      have HJ := hide (quo_join (unhide HD).1 (unhide HD).2.1 hD2.1 hD2.2.1)
      have HF := hide hf
      have HTT := hide eT
      clear eT eT1 eT2 eT3 hD2 hf
      go_wp2
      rw [unhide HJ, unhide HTT, (unhide HF).1, (unhide HF).2]
      go_ret2
      exact ⟨rfl, rfl⟩

end Go.Proofs.Ytifacdihhhcmnaa
