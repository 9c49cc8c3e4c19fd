/- Uint and Sint of any bytes; awake. -/
import Derived.Test.YtphgljhlamjmgaaLbU
import Derived.Test.YtphgljhlamjmgaaLbS
import Derived.Test.YtphgljhlamjmgaaLbC
namespace Go.Proofs.Ytphgljhlamjmgaa
open Go.RowKit

theorem uint_any {a : Option Addr} {len cap k bits : Nat} {xs : List Int} {W : World} (HX : Hid (Byt xs)) (HS : Hid (Sl W a len cap xs)) (hk : k ≤ len) (b0 : 1 ≤ bits) (b1 : bits ≤ 64) :
    Calls Try.prog 67 #[.slice a len cap, .int .i64 (k : Int), .int .i64 (bits : Int)] W fun r W' => r = .returned (outT k (rd VU okU (xs.drop k) bits)) ∧ Below W.heap.size W W' := by
  refine uint_w ?_
  by_cases h : k = len
  · subst h
    exact readU_end HS b0 b1
  · exact readU_in (hide fun c n h1 _ h3 => lastU h1 h3) HX HS (by omega) b0 b1
theorem sint_any {a : Option Addr} {len cap k bits : Nat} {xs : List Int} {W : World} (HX : Hid (Byt xs)) (HS : Hid (Sl W a len cap xs)) (hk : k ≤ len) (b0 : 1 ≤ bits) (b1 : bits ≤ 64) :
    Calls Try.prog 70 #[.slice a len cap, .int .i64 (k : Int), .int .i64 (bits : Int)] W fun r W' => r = .returned (outT k (rd VS okS (xs.drop k) bits)) ∧ Below W.heap.size W W' := by
  refine sint_w ?_
  by_cases h : k = len
  · subst h
    exact readS_end HS b0 b1
  · exact readS_in (hide fun c n h1 h2 h3 => lastS h1 h2 h3) HX HS (by omega) b0 b1
theorem uint_no {a : Option Addr} {len cap : Nat} {k bits : Int} {W : World} (h : bits < 1 ∨ 64 < bits ∨ k < 0 ∨ (len : Int) < k) :
    Calls Try.prog 67 #[.slice a len cap, .int .i64 k, .int .i64 bits] W fun r W' => r = .returned (.tuple #[.int .u64 0, .int .i64 0, .int .i64 2]) ∧ Below W.heap.size W W' := uint_w (readU_no h)
theorem sint_no {a : Option Addr} {len cap : Nat} {k bits : Int} {W : World} (h : bits < 1 ∨ 64 < bits ∨ k < 0 ∨ (len : Int) < k) :
    Calls Try.prog 70 #[.slice a len cap, .int .i64 k, .int .i64 bits] W fun r W' => r = .returned (.tuple #[.int .u64 0, .int .i64 0, .int .i64 2]) ∧ Below W.heap.size W W' := sint_w (readS_no h)
end Go.Proofs.Ytphgljhlamjmgaa
