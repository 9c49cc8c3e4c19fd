/- LbV. -/
import Derived.Test.YtjoonmpjcophnaaGreatDoorUa14
import Derived.Test.YtjoonmpjcophnaaGreatDoorUa15
import Derived.Test.YtjoonmpjcophnaaGreatDoorUa16
namespace Go.Proofs.YtjoonmpjcophnaaGreatDoor
open Go.RowKit

theorem uint_any {a : Option Addr} {len cap k bits : Nat} {xs : List Int} {W : World} (HX : Hid (Byt xs)) (HS : Hid (Sl W a len cap xs)) (hk : k ≤ len) (b0 : 1 ≤ bits) (b1 : bits ≤ 64) :
    Calls Tryz.prog 67 #[.slice a len cap, .int .i64 (k : Int), .int .i64 (bits : Int)] W fun r W' => r = .returned (outT k (rd VU okU (xs.drop k) bits)) ∧ Below W.heap.size W W' := by
  refine uint_w ?_
  by_cases h : k = len
  · subst h
    exact readU_end HS b0 b1
  · exact readU_in (hide fun c n h1 _ h3 => lastU h1 h3) HX HS (by omega) b0 b1
theorem sint_any {a : Option Addr} {len cap k bits : Nat} {xs : List Int} {W : World} (HX : Hid (Byt xs)) (HS : Hid (Sl W a len cap xs)) (hk : k ≤ len) (b0 : 1 ≤ bits) (b1 : bits ≤ 64) :
    Calls Tryz.prog 186 #[.slice a len cap, .int .i64 (k : Int), .int .i64 (bits : Int)] W fun r W' => r = .returned (outT k (rd VS okS (xs.drop k) bits)) ∧ Below W.heap.size W W' := by
  refine sint_w ?_
  by_cases h : k = len
  · subst h
    exact readS_end HS b0 b1
  · exact readS_in (hide fun c n h1 h2 h3 => lastS h1 h2 h3) HX HS (by omega) b0 b1
end Go.Proofs.YtjoonmpjcophnaaGreatDoor
