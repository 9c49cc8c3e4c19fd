/- Package strings' functions, by the shelf. -/
import Derived.Test.YtkpdanjfdcoldaaDoorTk
import Derived.Shelf.Strings.Cut
import Derived.Shelf.Strings.Prefix
import Derived.Shelf.Strings.Search3
namespace Go.Proofs.YtkpdanjfdcoldaaDoor
open Go.RowKit

/-- How the shelf's numbers are named here. -/
def ren : Go.Shelf.Ren := ⟨fun k => if k = 145 then 22 else if k = 220 then 36 else if k = 219 then 46 else if k = 217 then 48 else if k = 224 then 50 else if k = 225 then 49 else if k = 266 then 52 else if k = 267 then 51 else if k = 314 then 53 else if k = 143 then 47 else if k = 144 then 37 else if k = 99 then 26 else if k = 100 then 25 else if k = 206 then 39 else if k = 207 then 38 else 0, fun k => if k = 3 then 3 else if k = 4 then 4 else if k = 5 then 5 else if k = 9 then 9 else if k = 46 then 72 else if k = 51 then 73 else if k = 59 then 47 else if k = 146 then 74 else k, fun _ => 3⟩
theorem lays145 : Go.Proofs.Lays.n145 Tryd.prog ren where
  mixed := by kernel_rfl
  f145 := by kernel_rfl
  f217 := by kernel_rfl
  f219 := by kernel_rfl
  f220 := by kernel_rfl
  f224 := by kernel_rfl
  f225 := by kernel_rfl
  f266 := by kernel_rfl
  f267 := by kernel_rfl
  f314 := by kernel_rfl
  t3 := by kernel_rfl
  a3 := fun _ => by kernel_rfl
  z3 := fun _ => by kernel_rfl
  v3 := fun _ => by kernel_rfl
  t4 := by kernel_rfl
  a4 := fun _ => by kernel_rfl
  z4 := fun _ => by kernel_rfl
  v4 := fun _ => by kernel_rfl
  t5 := by kernel_rfl
  a5 := fun _ => by kernel_rfl
  z5 := fun _ => by kernel_rfl
  v5 := fun _ => by kernel_rfl
  t9 := by kernel_rfl
  a9 := fun _ => by kernel_rfl
  z9 := fun _ => by kernel_rfl
  v9 := fun _ => by kernel_rfl
  t46 := by kernel_rfl
  a46 := fun _ => by kernel_rfl
  z46 := fun _ => by kernel_rfl
  v46 := fun _ => by kernel_rfl
  t51 := by kernel_rfl
  a51 := fun _ => by kernel_rfl
  z51 := fun _ => by kernel_rfl
  v51 := fun _ => by kernel_rfl
  t59 := by kernel_rfl
  a59 := fun _ => by kernel_rfl
  z59 := fun _ => by kernel_rfl
  v59 := fun _ => by kernel_rfl
  t146 := by kernel_rfl
  a146 := fun _ => by kernel_rfl
  z146 := fun _ => by kernel_rfl
  v146 := fun _ => by kernel_rfl
  g1 := by kernel_rfl
theorem lays144 : Go.Proofs.Lays.n144 Tryd.prog ren where
  mixed := by kernel_rfl
  f143 := by kernel_rfl
  f144 := by kernel_rfl
  f217 := by kernel_rfl
  f219 := by kernel_rfl
  f224 := by kernel_rfl
  f225 := by kernel_rfl
  f266 := by kernel_rfl
  f267 := by kernel_rfl
  f314 := by kernel_rfl
  t3 := by kernel_rfl
  a3 := fun _ => by kernel_rfl
  z3 := fun _ => by kernel_rfl
  v3 := fun _ => by kernel_rfl
  t4 := by kernel_rfl
  a4 := fun _ => by kernel_rfl
  z4 := fun _ => by kernel_rfl
  v4 := fun _ => by kernel_rfl
  t5 := by kernel_rfl
  a5 := fun _ => by kernel_rfl
  z5 := fun _ => by kernel_rfl
  v5 := fun _ => by kernel_rfl
  t9 := by kernel_rfl
  a9 := fun _ => by kernel_rfl
  z9 := fun _ => by kernel_rfl
  v9 := fun _ => by kernel_rfl
  t46 := by kernel_rfl
  a46 := fun _ => by kernel_rfl
  z46 := fun _ => by kernel_rfl
  v46 := fun _ => by kernel_rfl
  t51 := by kernel_rfl
  a51 := fun _ => by kernel_rfl
  z51 := fun _ => by kernel_rfl
  v51 := fun _ => by kernel_rfl
  t146 := by kernel_rfl
  a146 := fun _ => by kernel_rfl
  z146 := fun _ => by kernel_rfl
  v146 := fun _ => by kernel_rfl
  g1 := by kernel_rfl
theorem lays99 : Go.Proofs.Lays.n99 Tryd.prog ren where
  mixed := by kernel_rfl
  f99 := by kernel_rfl
  f206 := by kernel_rfl
  t3 := by kernel_rfl
  a3 := fun _ => by kernel_rfl
  z3 := fun _ => by kernel_rfl
  v3 := fun _ => by kernel_rfl
  t4 := by kernel_rfl
  a4 := fun _ => by kernel_rfl
  z4 := fun _ => by kernel_rfl
  v4 := fun _ => by kernel_rfl
  t9 := by kernel_rfl
  a9 := fun _ => by kernel_rfl
  z9 := fun _ => by kernel_rfl
  v9 := fun _ => by kernel_rfl
theorem lays100 : Go.Proofs.Lays.n100 Tryd.prog ren where
  mixed := by kernel_rfl
  f100 := by kernel_rfl
  f207 := by kernel_rfl
  t3 := by kernel_rfl
  a3 := fun _ => by kernel_rfl
  z3 := fun _ => by kernel_rfl
  v3 := fun _ => by kernel_rfl
  t4 := by kernel_rfl
  a4 := fun _ => by kernel_rfl
  z4 := fun _ => by kernel_rfl
  v4 := fun _ => by kernel_rfl
  t9 := by kernel_rfl
  a9 := fun _ => by kernel_rfl
  z9 := fun _ => by kernel_rfl
  v9 := fun _ => by kernel_rfl

theorem cont_one (s : ByteArray) (c : UInt8) (W : World) : Calls Tryd.prog 37 #[.string s, .string ⟨#[c]⟩] W fun e W' => e = .returned (.bool (decide (0 ≤ Lib.indexByte s.data.toList c))) ∧ W' = W := Go.Proofs.Any.strings_Contains_one lays144 s c W
theorem cont_any (s t : ByteArray) (m : Int) (W : World) (hs : s.size < 4294967281) (hm : W.cell? ⟨3, 0, none⟩ = some (.int .i64 m)) : Calls Tryd.prog 37 #[.string s, .string t] W fun e W' => e = .returned (.bool (Lib.contains s.data.toList t.data.toList)) ∧ W' = W := Go.Proofs.Any.strings_Contains lays144 s t m W hs hm
theorem pre_any (s t : ByteArray) (W : World) : Calls Tryd.prog 26 #[.string s, .string t] W fun e W' => e = .returned (.bool (Lib.hasPrefix s.data.toList t.data.toList)) ∧ W' = W := Go.Proofs.Any.strings_HasPrefix lays99 s t W
theorem suf_any (s t : ByteArray) (W : World) (h : s.size ≤ 9223372036854775807) : Calls Tryd.prog 25 #[.string s, .string t] W fun e W' => e = .returned (.bool (Lib.hasSuffix s.data.toList t.data.toList)) ∧ W' = W := Go.Proofs.Any.strings_HasSuffix lays100 s t W h
theorem ix_one (s : ByteArray) (c : UInt8) (W : World) : Calls Tryd.prog 46 #[.string s, .string ⟨#[c]⟩] W fun e W' => e = .returned (.int .i64 (Lib.indexByte s.data.toList c)) ∧ W' = W := Go.Proofs.Any.stringslite_Index_one { lays145 with } s c W

end Go.Proofs.YtkpdanjfdcoldaaDoor
