/- Access of loads and stores. -/
import Derived.Test.YtkpdanjfdcoldaaDoorAcA
namespace Go.Proofs.YtkpdanjfdcoldaaDoor
open Go.RowKit

theorem nm_40 : nm 40 = [105, 51, 50] ++ 46 :: [108, 111, 97, 100] := by kernel_rfl
theorem acc_40 : Cl 10 #[.int .i64 40] (.tuple #[.agg #[.int .u8 127, .int .i64 4, .bool false, .bool false], .bool true]) := hide fun W hW =>
  access_s Ml (fun _ _ h hb => h.below hb) 40 (nm 40) [105, 51, 50] [108, 111, 97, 100] (isacc 40 true (.inl ⟨⟨by omega, by omega⟩, rfl⟩)) (name_any 40) nm_40 (by decide) (by rw [nm_40, bs_size]; decide) 127 4 4 typeOf_i32 (moved_all [108, 111, 97, 100] 4 (by decide) (by rw [bs_size]; decide) (by decide) (by decide)) W hW
theorem nm_41 : nm 41 = [105, 54, 52] ++ 46 :: [108, 111, 97, 100] := by kernel_rfl
theorem acc_41 : Cl 10 #[.int .i64 41] (.tuple #[.agg #[.int .u8 126, .int .i64 8, .bool false, .bool false], .bool true]) := hide fun W hW =>
  access_s Ml (fun _ _ h hb => h.below hb) 41 (nm 41) [105, 54, 52] [108, 111, 97, 100] (isacc 41 true (.inl ⟨⟨by omega, by omega⟩, rfl⟩)) (name_any 41) nm_41 (by decide) (by rw [nm_41, bs_size]; decide) 126 8 8 typeOf_i64 (moved_all [108, 111, 97, 100] 8 (by decide) (by rw [bs_size]; decide) (by decide) (by decide)) W hW
theorem nm_42 : nm 42 = [102, 51, 50] ++ 46 :: [108, 111, 97, 100] := by kernel_rfl
theorem acc_42 : Cl 10 #[.int .i64 42] (.tuple #[.agg #[.int .u8 125, .int .i64 4, .bool false, .bool false], .bool true]) := hide fun W hW =>
  access_s Ml (fun _ _ h hb => h.below hb) 42 (nm 42) [102, 51, 50] [108, 111, 97, 100] (isacc 42 true (.inl ⟨⟨by omega, by omega⟩, rfl⟩)) (name_any 42) nm_42 (by decide) (by rw [nm_42, bs_size]; decide) 125 4 4 typeOf_f32 (moved_all [108, 111, 97, 100] 4 (by decide) (by rw [bs_size]; decide) (by decide) (by decide)) W hW
theorem nm_43 : nm 43 = [102, 54, 52] ++ 46 :: [108, 111, 97, 100] := by kernel_rfl
theorem acc_43 : Cl 10 #[.int .i64 43] (.tuple #[.agg #[.int .u8 124, .int .i64 8, .bool false, .bool false], .bool true]) := hide fun W hW =>
  access_s Ml (fun _ _ h hb => h.below hb) 43 (nm 43) [102, 54, 52] [108, 111, 97, 100] (isacc 43 true (.inl ⟨⟨by omega, by omega⟩, rfl⟩)) (name_any 43) nm_43 (by decide) (by rw [nm_43, bs_size]; decide) 124 8 8 typeOf_f64 (moved_all [108, 111, 97, 100] 8 (by decide) (by rw [bs_size]; decide) (by decide) (by decide)) W hW
theorem nm_44 : nm 44 = [105, 51, 50] ++ 46 :: [108, 111, 97, 100, 56, 95, 115] := by kernel_rfl
theorem acc_44 : Cl 10 #[.int .i64 44] (.tuple #[.agg #[.int .u8 127, .int .i64 1, .bool true, .bool false], .bool true]) := hide fun W hW =>
  access_s Ml (fun _ _ h hb => h.below hb) 44 (nm 44) [105, 51, 50] [108, 111, 97, 100, 56, 95, 115] (isacc 44 true (.inl ⟨⟨by omega, by omega⟩, rfl⟩)) (name_any 44) nm_44 (by decide) (by rw [nm_44, bs_size]; decide) 127 4 1 typeOf_i32 (hide fun W _ => unhide (moved_8 [108, 111, 97, 100, 56, 95, 115] 4 (by decide)) W) W hW
theorem nm_45 : nm 45 = [105, 51, 50] ++ 46 :: [108, 111, 97, 100, 56, 95, 117] := by kernel_rfl
theorem acc_45 : Cl 10 #[.int .i64 45] (.tuple #[.agg #[.int .u8 127, .int .i64 1, .bool false, .bool false], .bool true]) := hide fun W hW =>
  access_s Ml (fun _ _ h hb => h.below hb) 45 (nm 45) [105, 51, 50] [108, 111, 97, 100, 56, 95, 117] (isacc 45 true (.inl ⟨⟨by omega, by omega⟩, rfl⟩)) (name_any 45) nm_45 (by decide) (by rw [nm_45, bs_size]; decide) 127 4 1 typeOf_i32 (hide fun W _ => unhide (moved_8 [108, 111, 97, 100, 56, 95, 117] 4 (by decide)) W) W hW
theorem nm_46 : nm 46 = [105, 51, 50] ++ 46 :: [108, 111, 97, 100, 49, 54, 95, 115] := by kernel_rfl
theorem acc_46 : Cl 10 #[.int .i64 46] (.tuple #[.agg #[.int .u8 127, .int .i64 2, .bool true, .bool false], .bool true]) := hide fun W hW =>
  access_s Ml (fun _ _ h hb => h.below hb) 46 (nm 46) [105, 51, 50] [108, 111, 97, 100, 49, 54, 95, 115] (isacc 46 true (.inl ⟨⟨by omega, by omega⟩, rfl⟩)) (name_any 46) nm_46 (by decide) (by rw [nm_46, bs_size]; decide) 127 4 2 typeOf_i32 (moved_16 [108, 111, 97, 100, 49, 54, 95, 115] 4 (by decide) (by rw [bs_size]; decide) (by decide)) W hW
theorem nm_47 : nm 47 = [105, 51, 50] ++ 46 :: [108, 111, 97, 100, 49, 54, 95, 117] := by kernel_rfl
theorem acc_47 : Cl 10 #[.int .i64 47] (.tuple #[.agg #[.int .u8 127, .int .i64 2, .bool false, .bool false], .bool true]) := hide fun W hW =>
  access_s Ml (fun _ _ h hb => h.below hb) 47 (nm 47) [105, 51, 50] [108, 111, 97, 100, 49, 54, 95, 117] (isacc 47 true (.inl ⟨⟨by omega, by omega⟩, rfl⟩)) (name_any 47) nm_47 (by decide) (by rw [nm_47, bs_size]; decide) 127 4 2 typeOf_i32 (moved_16 [108, 111, 97, 100, 49, 54, 95, 117] 4 (by decide) (by rw [bs_size]; decide) (by decide)) W hW
theorem nm_48 : nm 48 = [105, 54, 52] ++ 46 :: [108, 111, 97, 100, 56, 95, 115] := by kernel_rfl
theorem acc_48 : Cl 10 #[.int .i64 48] (.tuple #[.agg #[.int .u8 126, .int .i64 1, .bool true, .bool false], .bool true]) := hide fun W hW =>
  access_s Ml (fun _ _ h hb => h.below hb) 48 (nm 48) [105, 54, 52] [108, 111, 97, 100, 56, 95, 115] (isacc 48 true (.inl ⟨⟨by omega, by omega⟩, rfl⟩)) (name_any 48) nm_48 (by decide) (by rw [nm_48, bs_size]; decide) 126 8 1 typeOf_i64 (hide fun W _ => unhide (moved_8 [108, 111, 97, 100, 56, 95, 115] 8 (by decide)) W) W hW
theorem nm_49 : nm 49 = [105, 54, 52] ++ 46 :: [108, 111, 97, 100, 56, 95, 117] := by kernel_rfl
theorem acc_49 : Cl 10 #[.int .i64 49] (.tuple #[.agg #[.int .u8 126, .int .i64 1, .bool false, .bool false], .bool true]) := hide fun W hW =>
  access_s Ml (fun _ _ h hb => h.below hb) 49 (nm 49) [105, 54, 52] [108, 111, 97, 100, 56, 95, 117] (isacc 49 true (.inl ⟨⟨by omega, by omega⟩, rfl⟩)) (name_any 49) nm_49 (by decide) (by rw [nm_49, bs_size]; decide) 126 8 1 typeOf_i64 (hide fun W _ => unhide (moved_8 [108, 111, 97, 100, 56, 95, 117] 8 (by decide)) W) W hW
theorem nm_50 : nm 50 = [105, 54, 52] ++ 46 :: [108, 111, 97, 100, 49, 54, 95, 115] := by kernel_rfl
theorem acc_50 : Cl 10 #[.int .i64 50] (.tuple #[.agg #[.int .u8 126, .int .i64 2, .bool true, .bool false], .bool true]) := hide fun W hW =>
  access_s Ml (fun _ _ h hb => h.below hb) 50 (nm 50) [105, 54, 52] [108, 111, 97, 100, 49, 54, 95, 115] (isacc 50 true (.inl ⟨⟨by omega, by omega⟩, rfl⟩)) (name_any 50) nm_50 (by decide) (by rw [nm_50, bs_size]; decide) 126 8 2 typeOf_i64 (moved_16 [108, 111, 97, 100, 49, 54, 95, 115] 8 (by decide) (by rw [bs_size]; decide) (by decide)) W hW
theorem nm_51 : nm 51 = [105, 54, 52] ++ 46 :: [108, 111, 97, 100, 49, 54, 95, 117] := by kernel_rfl
theorem acc_51 : Cl 10 #[.int .i64 51] (.tuple #[.agg #[.int .u8 126, .int .i64 2, .bool false, .bool false], .bool true]) := hide fun W hW =>
  access_s Ml (fun _ _ h hb => h.below hb) 51 (nm 51) [105, 54, 52] [108, 111, 97, 100, 49, 54, 95, 117] (isacc 51 true (.inl ⟨⟨by omega, by omega⟩, rfl⟩)) (name_any 51) nm_51 (by decide) (by rw [nm_51, bs_size]; decide) 126 8 2 typeOf_i64 (moved_16 [108, 111, 97, 100, 49, 54, 95, 117] 8 (by decide) (by rw [bs_size]; decide) (by decide)) W hW
theorem nm_52 : nm 52 = [105, 54, 52] ++ 46 :: [108, 111, 97, 100, 51, 50, 95, 115] := by kernel_rfl
theorem acc_52 : Cl 10 #[.int .i64 52] (.tuple #[.agg #[.int .u8 126, .int .i64 4, .bool true, .bool false], .bool true]) := hide fun W hW =>
  access_s Ml (fun _ _ h hb => h.below hb) 52 (nm 52) [105, 54, 52] [108, 111, 97, 100, 51, 50, 95, 115] (isacc 52 true (.inl ⟨⟨by omega, by omega⟩, rfl⟩)) (name_any 52) nm_52 (by decide) (by rw [nm_52, bs_size]; decide) 126 8 4 typeOf_i64 (moved_32 [108, 111, 97, 100, 51, 50, 95, 115] 8 (by decide) (by rw [bs_size]; decide) (by decide) (by decide)) W hW
theorem nm_53 : nm 53 = [105, 54, 52] ++ 46 :: [108, 111, 97, 100, 51, 50, 95, 117] := by kernel_rfl
theorem acc_53 : Cl 10 #[.int .i64 53] (.tuple #[.agg #[.int .u8 126, .int .i64 4, .bool false, .bool false], .bool true]) := hide fun W hW =>
  access_s Ml (fun _ _ h hb => h.below hb) 53 (nm 53) [105, 54, 52] [108, 111, 97, 100, 51, 50, 95, 117] (isacc 53 true (.inl ⟨⟨by omega, by omega⟩, rfl⟩)) (name_any 53) nm_53 (by decide) (by rw [nm_53, bs_size]; decide) 126 8 4 typeOf_i64 (moved_32 [108, 111, 97, 100, 51, 50, 95, 117] 8 (by decide) (by rw [bs_size]; decide) (by decide) (by decide)) W hW
theorem nm_54 : nm 54 = [105, 51, 50] ++ 46 :: [115, 116, 111, 114, 101] := by kernel_rfl
theorem acc_54 : Cl 10 #[.int .i64 54] (.tuple #[.agg #[.int .u8 127, .int .i64 4, .bool false, .bool true], .bool true]) := hide fun W hW =>
  access_s Ml (fun _ _ h hb => h.below hb) 54 (nm 54) [105, 51, 50] [115, 116, 111, 114, 101] (isacc 54 true (.inl ⟨⟨by omega, by omega⟩, rfl⟩)) (name_any 54) nm_54 (by decide) (by rw [nm_54, bs_size]; decide) 127 4 4 typeOf_i32 (moved_all [115, 116, 111, 114, 101] 4 (by decide) (by rw [bs_size]; decide) (by decide) (by decide)) W hW
theorem nm_55 : nm 55 = [105, 54, 52] ++ 46 :: [115, 116, 111, 114, 101] := by kernel_rfl
theorem acc_55 : Cl 10 #[.int .i64 55] (.tuple #[.agg #[.int .u8 126, .int .i64 8, .bool false, .bool true], .bool true]) := hide fun W hW =>
  access_s Ml (fun _ _ h hb => h.below hb) 55 (nm 55) [105, 54, 52] [115, 116, 111, 114, 101] (isacc 55 true (.inl ⟨⟨by omega, by omega⟩, rfl⟩)) (name_any 55) nm_55 (by decide) (by rw [nm_55, bs_size]; decide) 126 8 8 typeOf_i64 (moved_all [115, 116, 111, 114, 101] 8 (by decide) (by rw [bs_size]; decide) (by decide) (by decide)) W hW
theorem nm_56 : nm 56 = [102, 51, 50] ++ 46 :: [115, 116, 111, 114, 101] := by kernel_rfl
theorem acc_56 : Cl 10 #[.int .i64 56] (.tuple #[.agg #[.int .u8 125, .int .i64 4, .bool false, .bool true], .bool true]) := hide fun W hW =>
  access_s Ml (fun _ _ h hb => h.below hb) 56 (nm 56) [102, 51, 50] [115, 116, 111, 114, 101] (isacc 56 true (.inl ⟨⟨by omega, by omega⟩, rfl⟩)) (name_any 56) nm_56 (by decide) (by rw [nm_56, bs_size]; decide) 125 4 4 typeOf_f32 (moved_all [115, 116, 111, 114, 101] 4 (by decide) (by rw [bs_size]; decide) (by decide) (by decide)) W hW
theorem nm_57 : nm 57 = [102, 54, 52] ++ 46 :: [115, 116, 111, 114, 101] := by kernel_rfl
theorem acc_57 : Cl 10 #[.int .i64 57] (.tuple #[.agg #[.int .u8 124, .int .i64 8, .bool false, .bool true], .bool true]) := hide fun W hW =>
  access_s Ml (fun _ _ h hb => h.below hb) 57 (nm 57) [102, 54, 52] [115, 116, 111, 114, 101] (isacc 57 true (.inl ⟨⟨by omega, by omega⟩, rfl⟩)) (name_any 57) nm_57 (by decide) (by rw [nm_57, bs_size]; decide) 124 8 8 typeOf_f64 (moved_all [115, 116, 111, 114, 101] 8 (by decide) (by rw [bs_size]; decide) (by decide) (by decide)) W hW
theorem nm_58 : nm 58 = [105, 51, 50] ++ 46 :: [115, 116, 111, 114, 101, 56] := by kernel_rfl
theorem acc_58 : Cl 10 #[.int .i64 58] (.tuple #[.agg #[.int .u8 127, .int .i64 1, .bool false, .bool true], .bool true]) := hide fun W hW =>
  access_s Ml (fun _ _ h hb => h.below hb) 58 (nm 58) [105, 51, 50] [115, 116, 111, 114, 101, 56] (isacc 58 true (.inl ⟨⟨by omega, by omega⟩, rfl⟩)) (name_any 58) nm_58 (by decide) (by rw [nm_58, bs_size]; decide) 127 4 1 typeOf_i32 (hide fun W _ => unhide (moved_8 [115, 116, 111, 114, 101, 56] 4 (by decide)) W) W hW
theorem nm_59 : nm 59 = [105, 51, 50] ++ 46 :: [115, 116, 111, 114, 101, 49, 54] := by kernel_rfl
theorem acc_59 : Cl 10 #[.int .i64 59] (.tuple #[.agg #[.int .u8 127, .int .i64 2, .bool false, .bool true], .bool true]) := hide fun W hW =>
  access_s Ml (fun _ _ h hb => h.below hb) 59 (nm 59) [105, 51, 50] [115, 116, 111, 114, 101, 49, 54] (isacc 59 true (.inl ⟨⟨by omega, by omega⟩, rfl⟩)) (name_any 59) nm_59 (by decide) (by rw [nm_59, bs_size]; decide) 127 4 2 typeOf_i32 (moved_16 [115, 116, 111, 114, 101, 49, 54] 4 (by decide) (by rw [bs_size]; decide) (by decide)) W hW
theorem nm_60 : nm 60 = [105, 54, 52] ++ 46 :: [115, 116, 111, 114, 101, 56] := by kernel_rfl
theorem acc_60 : Cl 10 #[.int .i64 60] (.tuple #[.agg #[.int .u8 126, .int .i64 1, .bool false, .bool true], .bool true]) := hide fun W hW =>
  access_s Ml (fun _ _ h hb => h.below hb) 60 (nm 60) [105, 54, 52] [115, 116, 111, 114, 101, 56] (isacc 60 true (.inl ⟨⟨by omega, by omega⟩, rfl⟩)) (name_any 60) nm_60 (by decide) (by rw [nm_60, bs_size]; decide) 126 8 1 typeOf_i64 (hide fun W _ => unhide (moved_8 [115, 116, 111, 114, 101, 56] 8 (by decide)) W) W hW
theorem nm_61 : nm 61 = [105, 54, 52] ++ 46 :: [115, 116, 111, 114, 101, 49, 54] := by kernel_rfl
theorem acc_61 : Cl 10 #[.int .i64 61] (.tuple #[.agg #[.int .u8 126, .int .i64 2, .bool false, .bool true], .bool true]) := hide fun W hW =>
  access_s Ml (fun _ _ h hb => h.below hb) 61 (nm 61) [105, 54, 52] [115, 116, 111, 114, 101, 49, 54] (isacc 61 true (.inl ⟨⟨by omega, by omega⟩, rfl⟩)) (name_any 61) nm_61 (by decide) (by rw [nm_61, bs_size]; decide) 126 8 2 typeOf_i64 (moved_16 [115, 116, 111, 114, 101, 49, 54] 8 (by decide) (by rw [bs_size]; decide) (by decide)) W hW
theorem nm_62 : nm 62 = [105, 54, 52] ++ 46 :: [115, 116, 111, 114, 101, 51, 50] := by kernel_rfl
theorem acc_62 : Cl 10 #[.int .i64 62] (.tuple #[.agg #[.int .u8 126, .int .i64 4, .bool false, .bool true], .bool true]) := hide fun W hW =>
  access_s Ml (fun _ _ h hb => h.below hb) 62 (nm 62) [105, 54, 52] [115, 116, 111, 114, 101, 51, 50] (isacc 62 true (.inl ⟨⟨by omega, by omega⟩, rfl⟩)) (name_any 62) nm_62 (by decide) (by rw [nm_62, bs_size]; decide) 126 8 4 typeOf_i64 (moved_32 [115, 116, 111, 114, 101, 51, 50] 8 (by decide) (by rw [bs_size]; decide) (by decide) (by decide)) W hW

end Go.Proofs.YtkpdanjfdcoldaaDoor
