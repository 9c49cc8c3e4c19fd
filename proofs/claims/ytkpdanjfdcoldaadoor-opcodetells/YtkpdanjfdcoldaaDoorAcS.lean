/- The reference's Access of loads and stores. -/
import Derived.Test.YtkpdanjfdcoldaaDoorAcR
namespace Go.Proofs.YtkpdanjfdcoldaaDoor
open Go.RowKit

theorem racc_40 : Ct 11 #[.int .i64 40] (.tuple #[.int .u8 127, .int .i64 4, .bool false, .bool false]) :=
  racc_f 40 0 ⟨#[105, 51, 50, 46, 108, 111, 97, 100]⟩ ⟨#[105, 51, 50]⟩ 127 4 7 false 108 (by omega) (by omega) (by omega) rfl rfl (by kernel_rfl) (by decide) (by kernel_rfl) (by decide) 100 (fun _ => rfl) (by decide) (by decide) (fun _ => rfl) (by decide) rtype_i32
theorem racc_41 : Ct 11 #[.int .i64 41] (.tuple #[.int .u8 126, .int .i64 8, .bool false, .bool false]) :=
  racc_f 41 1 ⟨#[105, 54, 52, 46, 108, 111, 97, 100]⟩ ⟨#[105, 54, 52]⟩ 126 8 7 false 108 (by omega) (by omega) (by omega) rfl rfl (by kernel_rfl) (by decide) (by kernel_rfl) (by decide) 100 (fun _ => rfl) (by decide) (by decide) (fun _ => rfl) (by decide) rtype_i64
theorem racc_42 : Ct 11 #[.int .i64 42] (.tuple #[.int .u8 125, .int .i64 4, .bool false, .bool false]) :=
  racc_f 42 2 ⟨#[102, 51, 50, 46, 108, 111, 97, 100]⟩ ⟨#[102, 51, 50]⟩ 125 4 7 false 108 (by omega) (by omega) (by omega) rfl rfl (by kernel_rfl) (by decide) (by kernel_rfl) (by decide) 100 (fun _ => rfl) (by decide) (by decide) (fun _ => rfl) (by decide) rtype_f32
theorem racc_43 : Ct 11 #[.int .i64 43] (.tuple #[.int .u8 124, .int .i64 8, .bool false, .bool false]) :=
  racc_f 43 3 ⟨#[102, 54, 52, 46, 108, 111, 97, 100]⟩ ⟨#[102, 54, 52]⟩ 124 8 7 false 108 (by omega) (by omega) (by omega) rfl rfl (by kernel_rfl) (by decide) (by kernel_rfl) (by decide) 100 (fun _ => rfl) (by decide) (by decide) (fun _ => rfl) (by decide) rtype_f64
theorem racc_44 : Ct 11 #[.int .i64 44] (.tuple #[.int .u8 127, .int .i64 1, .bool true, .bool false]) :=
  racc_t 44 4 ⟨#[105, 51, 50, 46, 108, 111, 97, 100, 56, 95, 115]⟩ ⟨#[105, 51, 50]⟩ 127 1 10 9 false 108 (by omega) (by omega) (by omega) rfl rfl (by kernel_rfl) (by decide) (by kernel_rfl) (by kernel_rfl) (by decide) (fun _ => rfl) (by decide) (fun _ => rfl) (by decide) (fun _ => rfl) (by decide) rtype_i32
theorem racc_45 : Ct 11 #[.int .i64 45] (.tuple #[.int .u8 127, .int .i64 1, .bool false, .bool false]) :=
  racc_f 45 5 ⟨#[105, 51, 50, 46, 108, 111, 97, 100, 56, 95, 117]⟩ ⟨#[105, 51, 50]⟩ 127 1 10 false 108 (by omega) (by omega) (by omega) rfl rfl (by kernel_rfl) (by decide) (by kernel_rfl) (by decide) 117 (fun _ => rfl) (by decide) (by decide) (fun _ => rfl) (by decide) rtype_i32
theorem racc_46 : Ct 11 #[.int .i64 46] (.tuple #[.int .u8 127, .int .i64 2, .bool true, .bool false]) :=
  racc_t 46 6 ⟨#[105, 51, 50, 46, 108, 111, 97, 100, 49, 54, 95, 115]⟩ ⟨#[105, 51, 50]⟩ 127 2 11 10 false 108 (by omega) (by omega) (by omega) rfl rfl (by kernel_rfl) (by decide) (by kernel_rfl) (by kernel_rfl) (by decide) (fun _ => rfl) (by decide) (fun _ => rfl) (by decide) (fun _ => rfl) (by decide) rtype_i32
theorem racc_47 : Ct 11 #[.int .i64 47] (.tuple #[.int .u8 127, .int .i64 2, .bool false, .bool false]) :=
  racc_f 47 7 ⟨#[105, 51, 50, 46, 108, 111, 97, 100, 49, 54, 95, 117]⟩ ⟨#[105, 51, 50]⟩ 127 2 11 false 108 (by omega) (by omega) (by omega) rfl rfl (by kernel_rfl) (by decide) (by kernel_rfl) (by decide) 117 (fun _ => rfl) (by decide) (by decide) (fun _ => rfl) (by decide) rtype_i32
theorem racc_48 : Ct 11 #[.int .i64 48] (.tuple #[.int .u8 126, .int .i64 1, .bool true, .bool false]) :=
  racc_t 48 8 ⟨#[105, 54, 52, 46, 108, 111, 97, 100, 56, 95, 115]⟩ ⟨#[105, 54, 52]⟩ 126 1 10 9 false 108 (by omega) (by omega) (by omega) rfl rfl (by kernel_rfl) (by decide) (by kernel_rfl) (by kernel_rfl) (by decide) (fun _ => rfl) (by decide) (fun _ => rfl) (by decide) (fun _ => rfl) (by decide) rtype_i64
theorem racc_49 : Ct 11 #[.int .i64 49] (.tuple #[.int .u8 126, .int .i64 1, .bool false, .bool false]) :=
  racc_f 49 9 ⟨#[105, 54, 52, 46, 108, 111, 97, 100, 56, 95, 117]⟩ ⟨#[105, 54, 52]⟩ 126 1 10 false 108 (by omega) (by omega) (by omega) rfl rfl (by kernel_rfl) (by decide) (by kernel_rfl) (by decide) 117 (fun _ => rfl) (by decide) (by decide) (fun _ => rfl) (by decide) rtype_i64
theorem racc_50 : Ct 11 #[.int .i64 50] (.tuple #[.int .u8 126, .int .i64 2, .bool true, .bool false]) :=
  racc_t 50 10 ⟨#[105, 54, 52, 46, 108, 111, 97, 100, 49, 54, 95, 115]⟩ ⟨#[105, 54, 52]⟩ 126 2 11 10 false 108 (by omega) (by omega) (by omega) rfl rfl (by kernel_rfl) (by decide) (by kernel_rfl) (by kernel_rfl) (by decide) (fun _ => rfl) (by decide) (fun _ => rfl) (by decide) (fun _ => rfl) (by decide) rtype_i64
theorem racc_51 : Ct 11 #[.int .i64 51] (.tuple #[.int .u8 126, .int .i64 2, .bool false, .bool false]) :=
  racc_f 51 11 ⟨#[105, 54, 52, 46, 108, 111, 97, 100, 49, 54, 95, 117]⟩ ⟨#[105, 54, 52]⟩ 126 2 11 false 108 (by omega) (by omega) (by omega) rfl rfl (by kernel_rfl) (by decide) (by kernel_rfl) (by decide) 117 (fun _ => rfl) (by decide) (by decide) (fun _ => rfl) (by decide) rtype_i64
theorem racc_52 : Ct 11 #[.int .i64 52] (.tuple #[.int .u8 126, .int .i64 4, .bool true, .bool false]) :=
  racc_t 52 12 ⟨#[105, 54, 52, 46, 108, 111, 97, 100, 51, 50, 95, 115]⟩ ⟨#[105, 54, 52]⟩ 126 4 11 10 false 108 (by omega) (by omega) (by omega) rfl rfl (by kernel_rfl) (by decide) (by kernel_rfl) (by kernel_rfl) (by decide) (fun _ => rfl) (by decide) (fun _ => rfl) (by decide) (fun _ => rfl) (by decide) rtype_i64
theorem racc_53 : Ct 11 #[.int .i64 53] (.tuple #[.int .u8 126, .int .i64 4, .bool false, .bool false]) :=
  racc_f 53 13 ⟨#[105, 54, 52, 46, 108, 111, 97, 100, 51, 50, 95, 117]⟩ ⟨#[105, 54, 52]⟩ 126 4 11 false 108 (by omega) (by omega) (by omega) rfl rfl (by kernel_rfl) (by decide) (by kernel_rfl) (by decide) 117 (fun _ => rfl) (by decide) (by decide) (fun _ => rfl) (by decide) rtype_i64
theorem racc_54 : Ct 11 #[.int .i64 54] (.tuple #[.int .u8 127, .int .i64 4, .bool false, .bool true]) :=
  racc_f 54 14 ⟨#[105, 51, 50, 46, 115, 116, 111, 114, 101]⟩ ⟨#[105, 51, 50]⟩ 127 4 8 true 115 (by omega) (by omega) (by omega) rfl rfl (by kernel_rfl) (by decide) (by kernel_rfl) (by decide) 101 (fun _ => rfl) (by decide) (by decide) (fun _ => rfl) (by decide) rtype_i32
theorem racc_55 : Ct 11 #[.int .i64 55] (.tuple #[.int .u8 126, .int .i64 8, .bool false, .bool true]) :=
  racc_f 55 15 ⟨#[105, 54, 52, 46, 115, 116, 111, 114, 101]⟩ ⟨#[105, 54, 52]⟩ 126 8 8 true 115 (by omega) (by omega) (by omega) rfl rfl (by kernel_rfl) (by decide) (by kernel_rfl) (by decide) 101 (fun _ => rfl) (by decide) (by decide) (fun _ => rfl) (by decide) rtype_i64
theorem racc_56 : Ct 11 #[.int .i64 56] (.tuple #[.int .u8 125, .int .i64 4, .bool false, .bool true]) :=
  racc_f 56 16 ⟨#[102, 51, 50, 46, 115, 116, 111, 114, 101]⟩ ⟨#[102, 51, 50]⟩ 125 4 8 true 115 (by omega) (by omega) (by omega) rfl rfl (by kernel_rfl) (by decide) (by kernel_rfl) (by decide) 101 (fun _ => rfl) (by decide) (by decide) (fun _ => rfl) (by decide) rtype_f32
theorem racc_57 : Ct 11 #[.int .i64 57] (.tuple #[.int .u8 124, .int .i64 8, .bool false, .bool true]) :=
  racc_f 57 17 ⟨#[102, 54, 52, 46, 115, 116, 111, 114, 101]⟩ ⟨#[102, 54, 52]⟩ 124 8 8 true 115 (by omega) (by omega) (by omega) rfl rfl (by kernel_rfl) (by decide) (by kernel_rfl) (by decide) 101 (fun _ => rfl) (by decide) (by decide) (fun _ => rfl) (by decide) rtype_f64
theorem racc_58 : Ct 11 #[.int .i64 58] (.tuple #[.int .u8 127, .int .i64 1, .bool false, .bool true]) :=
  racc_f 58 18 ⟨#[105, 51, 50, 46, 115, 116, 111, 114, 101, 56]⟩ ⟨#[105, 51, 50]⟩ 127 1 9 true 115 (by omega) (by omega) (by omega) rfl rfl (by kernel_rfl) (by decide) (by kernel_rfl) (by decide) 56 (fun _ => rfl) (by decide) (by decide) (fun _ => rfl) (by decide) rtype_i32
theorem racc_59 : Ct 11 #[.int .i64 59] (.tuple #[.int .u8 127, .int .i64 2, .bool false, .bool true]) :=
  racc_f 59 19 ⟨#[105, 51, 50, 46, 115, 116, 111, 114, 101, 49, 54]⟩ ⟨#[105, 51, 50]⟩ 127 2 10 true 115 (by omega) (by omega) (by omega) rfl rfl (by kernel_rfl) (by decide) (by kernel_rfl) (by decide) 54 (fun _ => rfl) (by decide) (by decide) (fun _ => rfl) (by decide) rtype_i32
theorem racc_60 : Ct 11 #[.int .i64 60] (.tuple #[.int .u8 126, .int .i64 1, .bool false, .bool true]) :=
  racc_f 60 20 ⟨#[105, 54, 52, 46, 115, 116, 111, 114, 101, 56]⟩ ⟨#[105, 54, 52]⟩ 126 1 9 true 115 (by omega) (by omega) (by omega) rfl rfl (by kernel_rfl) (by decide) (by kernel_rfl) (by decide) 56 (fun _ => rfl) (by decide) (by decide) (fun _ => rfl) (by decide) rtype_i64
theorem racc_61 : Ct 11 #[.int .i64 61] (.tuple #[.int .u8 126, .int .i64 2, .bool false, .bool true]) :=
  racc_f 61 21 ⟨#[105, 54, 52, 46, 115, 116, 111, 114, 101, 49, 54]⟩ ⟨#[105, 54, 52]⟩ 126 2 10 true 115 (by omega) (by omega) (by omega) rfl rfl (by kernel_rfl) (by decide) (by kernel_rfl) (by decide) 54 (fun _ => rfl) (by decide) (by decide) (fun _ => rfl) (by decide) rtype_i64
theorem racc_62 : Ct 11 #[.int .i64 62] (.tuple #[.int .u8 126, .int .i64 4, .bool false, .bool true]) :=
  racc_f 62 22 ⟨#[105, 54, 52, 46, 115, 116, 111, 114, 101, 51, 50]⟩ ⟨#[105, 54, 52]⟩ 126 4 10 true 115 (by omega) (by omega) (by omega) rfl rfl (by kernel_rfl) (by decide) (by kernel_rfl) (by decide) 50 (fun _ => rfl) (by decide) (by decide) (fun _ => rfl) (by decide) rtype_i64

end Go.Proofs.YtkpdanjfdcoldaaDoor
