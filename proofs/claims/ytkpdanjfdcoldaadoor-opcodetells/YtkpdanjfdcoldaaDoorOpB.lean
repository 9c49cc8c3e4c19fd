/- Cut at one byte. -/
import Derived.Test.YtkpdanjfdcoldaaDoorOpA
import Derived.Shelf.RegionOpenPlain
namespace Go.Proofs.YtkpdanjfdcoldaaDoor
open Go.RowKit

/-- A text of these bytes. -/
def bs (l : List UInt8) : ByteArray := ⟨l.toArray⟩
theorem ixb_skip (c : UInt8) : ∀ (a b : List UInt8), c ∉ a → Lib.indexByte (a ++ c :: b) c = a.length
  | [], b, _ => by simp [Lib.indexByte]
  | x :: a, b, h => by
    have hx : (x == c) = false := by simp; intro e; exact h (by simp [e])
    have ih := ixb_skip c a b (fun e => h (by simp [e]))
    simp only [List.cons_append, Lib.indexByte, hx, ih]
    simp
theorem ixb_none (c : UInt8) : ∀ (a : List UInt8), c ∉ a → Lib.indexByte a c = -1
  | [], _ => by simp [Lib.indexByte]
  | x :: a, h => by
    have hx : (x == c) = false := by simp; intro e; exact h (by simp [e])
    simp [Lib.indexByte, hx, ixb_none c a (fun e => h (by simp [e]))]
theorem bs_ext {a b : ByteArray} (h : a.data.toList = b.data.toList) : a = b := by
  cases a; cases b; congr; simpa using h
theorem ext_left (c : UInt8) (a b : List UInt8) : (bs (a ++ c :: b)).extract 0 a.length = bs a := by
  apply bs_ext; simp [bs, ByteArray.data_extract]
theorem ext_right (c : UInt8) (a b : List UInt8) : (bs (a ++ c :: b)).extract (a.length + 1) (bs (a ++ c :: b)).size = bs b := by
  apply bs_ext; simp [bs, ByteArray.data_extract, ByteArray.size]; rw [List.take_of_length_le (by omega)]

set_option maxHeartbeats 2000000 in
set_option maxRecDepth 100000 in
theorem lcut_hit (s : ByteArray) (c : UInt8) (i : Nat) (h : Lib.indexByte s.data.toList c = i) (hi : i + 1 ≤ s.size) (hs : s.size < 4294967281) (W : World) :
    Calls Tryd.prog 36 #[.string s, .string ⟨#[c]⟩] W fun e W' => e = .returned (.tuple #[.string (s.extract 0 i), .string (s.extract (i + 1) s.size), .bool true]) ∧ ∃ n, W' = W.drewN n := by
  have mixed : Tryd.prog.follows .mixedOrders = true := by kernel_rfl
  have c5 : IntKind.i64.wrap (↑i + 1) = ↑i + 1 := i64_id (by omega) (by omega)
  have c1 : (0 : Int) ≤ ↑i := by omega
  have c2 : (↑i : Int) ≤ ↑s.size := by omega
  have c3 : (0 : Int) ≤ ↑i + 1 := by omega
  have c4 : (↑i + 1 : Int) ≤ ↑s.size := by omega
  go_enter Tryd.func36, Tryd.ntmps36
  go_wp2_with (go_at_call 46; refine (ix_one _ _ _).mono ?_; rintro e w' ⟨rfl, rfl⟩; rw [h])
  go_region_o
  go_wp2
  go_ret3
  exact ⟨rfl, 1, rfl⟩
set_option maxHeartbeats 2000000 in
set_option maxRecDepth 100000 in
theorem lcut_miss (s : ByteArray) (c : UInt8) (h : Lib.indexByte s.data.toList c = -1) (W : World) :
    Calls Tryd.prog 36 #[.string s, .string ⟨#[c]⟩] W fun e W' => e = .returned (.tuple #[.string s, .string ByteArray.empty, .bool false]) ∧ ∃ n, W' = W.drewN n := by
  go_enter Tryd.func36, Tryd.ntmps36
  go_wp2_with (go_at_call 46; refine (ix_one _ _ _).mono ?_; rintro e w' ⟨rfl, rfl⟩; rw [h])
  go_ret3
  exact ⟨rfl, 0, rfl⟩
set_option maxHeartbeats 2000000 in
set_option maxRecDepth 100000 in
theorem cut_of (s : ByteArray) (c : UInt8) (x y : ByteArray) (t : Bool) (W : World) (H : Hid (∀ W, Calls Tryd.prog 36 #[.string s, .string ⟨#[c]⟩] W fun e W' => e = .returned (.tuple #[.string x, .string y, .bool t]) ∧ ∃ n, W' = W.drewN n)) :
    Calls Tryd.prog 22 #[.string s, .string ⟨#[c]⟩] W fun e W' => e = .returned (.tuple #[.string x, .string y, .bool t]) ∧ ∃ n, W' = W.drewN n := by
  go_enter Tryd.func22, Tryd.ntmps22
  go_wp2_with (go_at_call 36; refine ((unhide H) _).mono ?_; rintro e w' ⟨rfl, n, rfl⟩)
  go_ret3
  exact ⟨rfl, n, rfl⟩
/-- What is cut at its first byte c. -/
theorem cut_hit (c : UInt8) (a b : List UInt8) (h : c ∉ a) (hl : (bs (a ++ c :: b)).size < 4294967281) (W : World) :
    Calls Tryd.prog 22 #[.string (bs (a ++ c :: b)), .string ⟨#[c]⟩] W fun e W' => e = .returned (.tuple #[.string (bs a), .string (bs b), .bool true]) ∧ ∃ n, W' = W.drewN n := by
  refine cut_of _ c _ _ _ W (hide fun W => ?_)
  have := lcut_hit (bs (a ++ c :: b)) c a.length (by simpa [bs] using ixb_skip c a b h) (by simp [bs, ByteArray.size]) hl W
  rwa [ext_left, ext_right] at this
theorem cut_miss (c : UInt8) (a : List UInt8) (h : c ∉ a) (W : World) :
    Calls Tryd.prog 22 #[.string (bs a), .string ⟨#[c]⟩] W fun e W' => e = .returned (.tuple #[.string (bs a), .string (bs []), .bool false]) ∧ ∃ n, W' = W.drewN n :=
  cut_of _ c _ _ _ W (hide fun W => lcut_miss (bs a) c (by simpa [bs] using ixb_none c a h) W)

end Go.Proofs.YtkpdanjfdcoldaaDoor
