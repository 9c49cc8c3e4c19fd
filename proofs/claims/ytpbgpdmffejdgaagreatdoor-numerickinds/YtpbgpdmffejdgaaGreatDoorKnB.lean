/- The walks of the reference's Kind and of NumericKinds. -/
import Derived.Test.YtpbgpdmffejdgaaGreatDoorRnA
import Derived.Test.YtpbgpdmffejdgaaGreatDoorRnD
import Derived.Test.YtpbgpdmffejdgaaGreatDoorNuF
namespace Go.Proofs.YtpbgpdmffejdgaaGreatDoor
open Go.RowKit

def oneL : List ByteArray := [⟨#[101, 113, 122]⟩, ⟨#[99, 108, 122]⟩, ⟨#[99, 116, 122]⟩, ⟨#[112, 111, 112, 99, 110, 116]⟩, ⟨#[97, 98, 115]⟩, ⟨#[110, 101, 103]⟩, ⟨#[99, 101, 105, 108]⟩, ⟨#[102, 108, 111, 111, 114]⟩, ⟨#[116, 114, 117, 110, 99]⟩, ⟨#[110, 101, 97, 114, 101, 115, 116]⟩, ⟨#[115, 113, 114, 116]⟩]
set_option maxHeartbeats 4000000 in
set_option maxRecDepth 100000 in
theorem rkw_00 {op x : Int} {Nm Tt Rr Oo : ByteArray} (HN : Ct 27 #[.int .i64 op] (.string Nm)) (hne : (Nm.toList == []) = false) (hT : Nm.extract 0 3 = Tt) (hR : Nm.extract 4 Nm.size = Rr) (hsz : 4 ≤ Nm.size) (HO : Ct 31 #[.string Nm] (.string Oo)) (HX : Ct 32 #[.string Oo] (.int .u8 x)) (b1 : (relL.any fun x => x.toList == Rr.toList) = true) (b3 : (Oo.toList == Tt.toList) = false) :
    Ct 11 #[.int .i64 op] (.tuple #[.int .u8 x, .int .i64 1, .int .u8 127]) := by
  refine hide (fun W => ?_)
  have HB := hide (Below.refl W.heap.size W)
  go_enter Tryz.func11, Tryz.ntmps11
  go_wp2_with fail
  refine (unhide HN _).mono ?_
  rintro _ w1 ⟨rfl, hb⟩
  have HB := hide (bthen (unhide HB) hb)
  clear hb
  go_wp2_with fail
  refine (unhide relL_l _).mono ?_
  rintro _ w2 ⟨k2, rfl, hT2, hb⟩
  have HB := hide (bthen (unhide HB) hb)
  have HT2 := hide hT2
  clear hb hT2
  go_wp2_with fail
  refine (in_any (L := relL) (by decide) _ (unhide HT2)).mono ?_
  rintro _ w3 ⟨rfl, hb⟩
  have HB := hide (bthen (unhide HB) hb)
  clear hb HT2
  rw [b1]
  go_wp2_with fail
  refine (unhide HO _).mono ?_
  rintro _ w6 ⟨rfl, hb⟩
  have HB := hide (bthen (unhide HB) hb)
  clear hb
  go_wp2_with fail
  refine (unhide HO _).mono ?_
  rintro _ w8 ⟨rfl, hb⟩
  have HB := hide (bthen (unhide HB) hb)
  clear hb
  go_wp2_with fail
  refine (unhide HX _).mono ?_
  rintro _ w9 ⟨rfl, hb⟩
  have HB := hide (bthen (unhide HB) hb)
  clear hb
  go_wp2_with fail
  refine (unhide typ_i32 _).mono ?_
  rintro _ w10 ⟨rfl, hb⟩
  have HB := hide (bthen (unhide HB) hb)
  clear hb
  go_wp2_with fail
  exact bodyPost_ret (v := .tuple #[.int .u8 _, .int .i64 _, .int .u8 _]) (by simp [results, Tryz.results11, go_sem]) rfl ⟨rfl, unhide HB⟩
set_option maxHeartbeats 4000000 in
set_option maxRecDepth 100000 in
theorem rkw_01 {op x : Int} {Nm Tt Rr Oo : ByteArray} (HN : Ct 27 #[.int .i64 op] (.string Nm)) (hne : (Nm.toList == []) = false) (hT : Nm.extract 0 3 = Tt) (hR : Nm.extract 4 Nm.size = Rr) (hsz : 4 ≤ Nm.size) (HO : Ct 31 #[.string Nm] (.string Oo)) (HX : Ct 32 #[.string Oo] (.int .u8 x)) (b1 : (relL.any fun x => x.toList == Rr.toList) = true) (b3 : (Oo.toList == Tt.toList) = true) (b4 : (oneL.any fun x => x.toList == Rr.toList) = true) :
    Ct 11 #[.int .i64 op] (.tuple #[.int .u8 x, .int .i64 1, .int .u8 127]) := by
  refine hide (fun W => ?_)
  have HB := hide (Below.refl W.heap.size W)
  go_enter Tryz.func11, Tryz.ntmps11
  go_wp2_with fail
  refine (unhide HN _).mono ?_
  rintro _ w1 ⟨rfl, hb⟩
  have HB := hide (bthen (unhide HB) hb)
  clear hb
  go_wp2_with fail
  refine (unhide relL_l _).mono ?_
  rintro _ w2 ⟨k2, rfl, hT2, hb⟩
  have HB := hide (bthen (unhide HB) hb)
  have HT2 := hide hT2
  clear hb hT2
  go_wp2_with fail
  refine (in_any (L := relL) (by decide) _ (unhide HT2)).mono ?_
  rintro _ w3 ⟨rfl, hb⟩
  have HB := hide (bthen (unhide HB) hb)
  clear hb HT2
  rw [b1]
  go_wp2_with fail
  refine (unhide HO _).mono ?_
  rintro _ w6 ⟨rfl, hb⟩
  have HB := hide (bthen (unhide HB) hb)
  clear hb
  go_wp2_with fail
  refine (in_any (L := oneL) (by decide) _ (tab_alloc _ (oneL.map Value.string) 9)).mono ?_
  rintro _ w7 ⟨rfl, hb⟩
  have HB := hide (bthen (balloc (unhide HB) (.cells (oneL.map Value.string).toArray 9)) hb)
  clear hb
  rw [b4]
  go_wp2_with fail
  refine (unhide HO _).mono ?_
  rintro _ w8 ⟨rfl, hb⟩
  have HB := hide (bthen (unhide HB) hb)
  clear hb
  go_wp2_with fail
  refine (unhide HX _).mono ?_
  rintro _ w9 ⟨rfl, hb⟩
  have HB := hide (bthen (unhide HB) hb)
  clear hb
  go_wp2_with fail
  refine (unhide typ_i32 _).mono ?_
  rintro _ w10 ⟨rfl, hb⟩
  have HB := hide (bthen (unhide HB) hb)
  clear hb
  go_wp2_with fail
  exact bodyPost_ret (v := .tuple #[.int .u8 _, .int .i64 _, .int .u8 _]) (by simp [results, Tryz.results11, go_sem]) rfl ⟨rfl, unhide HB⟩
set_option maxHeartbeats 4000000 in
set_option maxRecDepth 100000 in
theorem rkw_02 {op x : Int} {Nm Tt Rr Oo : ByteArray} (HN : Ct 27 #[.int .i64 op] (.string Nm)) (hne : (Nm.toList == []) = false) (hT : Nm.extract 0 3 = Tt) (hR : Nm.extract 4 Nm.size = Rr) (hsz : 4 ≤ Nm.size) (HO : Ct 31 #[.string Nm] (.string Oo)) (HX : Ct 32 #[.string Oo] (.int .u8 x)) (b1 : (relL.any fun x => x.toList == Rr.toList) = true) (b3 : (Oo.toList == Tt.toList) = true) (b4 : (oneL.any fun x => x.toList == Rr.toList) = false) :
    Ct 11 #[.int .i64 op] (.tuple #[.int .u8 x, .int .i64 2, .int .u8 127]) := by
  refine hide (fun W => ?_)
  have HB := hide (Below.refl W.heap.size W)
  go_enter Tryz.func11, Tryz.ntmps11
  go_wp2_with fail
  refine (unhide HN _).mono ?_
  rintro _ w1 ⟨rfl, hb⟩
  have HB := hide (bthen (unhide HB) hb)
  clear hb
  go_wp2_with fail
  refine (unhide relL_l _).mono ?_
  rintro _ w2 ⟨k2, rfl, hT2, hb⟩
  have HB := hide (bthen (unhide HB) hb)
  have HT2 := hide hT2
  clear hb hT2
  go_wp2_with fail
  refine (in_any (L := relL) (by decide) _ (unhide HT2)).mono ?_
  rintro _ w3 ⟨rfl, hb⟩
  have HB := hide (bthen (unhide HB) hb)
  clear hb HT2
  rw [b1]
  go_wp2_with fail
  refine (unhide HO _).mono ?_
  rintro _ w6 ⟨rfl, hb⟩
  have HB := hide (bthen (unhide HB) hb)
  clear hb
  go_wp2_with fail
  refine (in_any (L := oneL) (by decide) _ (tab_alloc _ (oneL.map Value.string) 9)).mono ?_
  rintro _ w7 ⟨rfl, hb⟩
  have HB := hide (bthen (balloc (unhide HB) (.cells (oneL.map Value.string).toArray 9)) hb)
  clear hb
  rw [b4]
  go_wp2_with fail
  refine (unhide HO _).mono ?_
  rintro _ w8 ⟨rfl, hb⟩
  have HB := hide (bthen (unhide HB) hb)
  clear hb
  go_wp2_with fail
  refine (unhide HX _).mono ?_
  rintro _ w9 ⟨rfl, hb⟩
  have HB := hide (bthen (unhide HB) hb)
  clear hb
  go_wp2_with fail
  refine (unhide typ_i32 _).mono ?_
  rintro _ w10 ⟨rfl, hb⟩
  have HB := hide (bthen (unhide HB) hb)
  clear hb
  go_wp2_with fail
  exact bodyPost_ret (v := .tuple #[.int .u8 _, .int .i64 _, .int .u8 _]) (by simp [results, Tryz.results11, go_sem]) rfl ⟨rfl, unhide HB⟩

set_option maxHeartbeats 4000000 in
set_option maxRecDepth 100000 in
theorem rkw_10 {op x : Int} {Nm Tt Rr Oo : ByteArray} (HN : Ct 27 #[.int .i64 op] (.string Nm)) (hne : (Nm.toList == []) = false) (hT : Nm.extract 0 3 = Tt) (hR : Nm.extract 4 Nm.size = Rr) (hsz : 4 ≤ Nm.size) (HO : Ct 31 #[.string Nm] (.string Oo)) (HX : Ct 32 #[.string Oo] (.int .u8 x)) (b1 : (relL.any fun x => x.toList == Rr.toList) = false) (b2 : (floL.any fun x => x.toList == Rr.toList) = true) (b3 : (Oo.toList == Tt.toList) = false) :
    Ct 11 #[.int .i64 op] (.tuple #[.int .u8 x, .int .i64 1, .int .u8 127]) := by
  refine hide (fun W => ?_)
  have HB := hide (Below.refl W.heap.size W)
  go_enter Tryz.func11, Tryz.ntmps11
  go_wp2_with fail
  refine (unhide HN _).mono ?_
  rintro _ w1 ⟨rfl, hb⟩
  have HB := hide (bthen (unhide HB) hb)
  clear hb
  go_wp2_with fail
  refine (unhide relL_l _).mono ?_
  rintro _ w2 ⟨k2, rfl, hT2, hb⟩
  have HB := hide (bthen (unhide HB) hb)
  have HT2 := hide hT2
  clear hb hT2
  go_wp2_with fail
  refine (in_any (L := relL) (by decide) _ (unhide HT2)).mono ?_
  rintro _ w3 ⟨rfl, hb⟩
  have HB := hide (bthen (unhide HB) hb)
  clear hb HT2
  rw [b1]
  go_wp2_with fail
  refine (unhide floL_l _).mono ?_
  rintro _ w4 ⟨k4, rfl, hT4, hb⟩
  have HB := hide (bthen (unhide HB) hb)
  have HT4 := hide hT4
  clear hb hT4
  go_wp2_with fail
  refine (in_any (L := floL) (by decide) _ (unhide HT4)).mono ?_
  rintro _ w5 ⟨rfl, hb⟩
  have HB := hide (bthen (unhide HB) hb)
  clear hb HT4
  rw [b2]
  go_wp2_with fail
  refine (unhide HO _).mono ?_
  rintro _ w6 ⟨rfl, hb⟩
  have HB := hide (bthen (unhide HB) hb)
  clear hb
  go_wp2_with fail
  refine (unhide HO _).mono ?_
  rintro _ w8 ⟨rfl, hb⟩
  have HB := hide (bthen (unhide HB) hb)
  clear hb
  go_wp2_with fail
  refine (unhide HX _).mono ?_
  rintro _ w9 ⟨rfl, hb⟩
  have HB := hide (bthen (unhide HB) hb)
  clear hb
  go_wp2_with fail
  refine (unhide typ_i32 _).mono ?_
  rintro _ w10 ⟨rfl, hb⟩
  have HB := hide (bthen (unhide HB) hb)
  clear hb
  go_wp2_with fail
  exact bodyPost_ret (v := .tuple #[.int .u8 _, .int .i64 _, .int .u8 _]) (by simp [results, Tryz.results11, go_sem]) rfl ⟨rfl, unhide HB⟩
set_option maxHeartbeats 4000000 in
set_option maxRecDepth 100000 in
theorem rkw_11 {op x : Int} {Nm Tt Rr Oo : ByteArray} (HN : Ct 27 #[.int .i64 op] (.string Nm)) (hne : (Nm.toList == []) = false) (hT : Nm.extract 0 3 = Tt) (hR : Nm.extract 4 Nm.size = Rr) (hsz : 4 ≤ Nm.size) (HO : Ct 31 #[.string Nm] (.string Oo)) (HX : Ct 32 #[.string Oo] (.int .u8 x)) (b1 : (relL.any fun x => x.toList == Rr.toList) = false) (b2 : (floL.any fun x => x.toList == Rr.toList) = true) (b3 : (Oo.toList == Tt.toList) = true) (b4 : (oneL.any fun x => x.toList == Rr.toList) = true) :
    Ct 11 #[.int .i64 op] (.tuple #[.int .u8 x, .int .i64 1, .int .u8 127]) := by
  refine hide (fun W => ?_)
  have HB := hide (Below.refl W.heap.size W)
  go_enter Tryz.func11, Tryz.ntmps11
  go_wp2_with fail
  refine (unhide HN _).mono ?_
  rintro _ w1 ⟨rfl, hb⟩
  have HB := hide (bthen (unhide HB) hb)
  clear hb
  go_wp2_with fail
  refine (unhide relL_l _).mono ?_
  rintro _ w2 ⟨k2, rfl, hT2, hb⟩
  have HB := hide (bthen (unhide HB) hb)
  have HT2 := hide hT2
  clear hb hT2
  go_wp2_with fail
  refine (in_any (L := relL) (by decide) _ (unhide HT2)).mono ?_
  rintro _ w3 ⟨rfl, hb⟩
  have HB := hide (bthen (unhide HB) hb)
  clear hb HT2
  rw [b1]
  go_wp2_with fail
  refine (unhide floL_l _).mono ?_
  rintro _ w4 ⟨k4, rfl, hT4, hb⟩
  have HB := hide (bthen (unhide HB) hb)
  have HT4 := hide hT4
  clear hb hT4
  go_wp2_with fail
  refine (in_any (L := floL) (by decide) _ (unhide HT4)).mono ?_
  rintro _ w5 ⟨rfl, hb⟩
  have HB := hide (bthen (unhide HB) hb)
  clear hb HT4
  rw [b2]
  go_wp2_with fail
  refine (unhide HO _).mono ?_
  rintro _ w6 ⟨rfl, hb⟩
  have HB := hide (bthen (unhide HB) hb)
  clear hb
  go_wp2_with fail
  refine (in_any (L := oneL) (by decide) _ (tab_alloc _ (oneL.map Value.string) 9)).mono ?_
  rintro _ w7 ⟨rfl, hb⟩
  have HB := hide (bthen (balloc (unhide HB) (.cells (oneL.map Value.string).toArray 9)) hb)
  clear hb
  rw [b4]
  go_wp2_with fail
  refine (unhide HO _).mono ?_
  rintro _ w8 ⟨rfl, hb⟩
  have HB := hide (bthen (unhide HB) hb)
  clear hb
  go_wp2_with fail
  refine (unhide HX _).mono ?_
  rintro _ w9 ⟨rfl, hb⟩
  have HB := hide (bthen (unhide HB) hb)
  clear hb
  go_wp2_with fail
  refine (unhide typ_i32 _).mono ?_
  rintro _ w10 ⟨rfl, hb⟩
  have HB := hide (bthen (unhide HB) hb)
  clear hb
  go_wp2_with fail
  exact bodyPost_ret (v := .tuple #[.int .u8 _, .int .i64 _, .int .u8 _]) (by simp [results, Tryz.results11, go_sem]) rfl ⟨rfl, unhide HB⟩
set_option maxHeartbeats 4000000 in
set_option maxRecDepth 100000 in
theorem rkw_12 {op x : Int} {Nm Tt Rr Oo : ByteArray} (HN : Ct 27 #[.int .i64 op] (.string Nm)) (hne : (Nm.toList == []) = false) (hT : Nm.extract 0 3 = Tt) (hR : Nm.extract 4 Nm.size = Rr) (hsz : 4 ≤ Nm.size) (HO : Ct 31 #[.string Nm] (.string Oo)) (HX : Ct 32 #[.string Oo] (.int .u8 x)) (b1 : (relL.any fun x => x.toList == Rr.toList) = false) (b2 : (floL.any fun x => x.toList == Rr.toList) = true) (b3 : (Oo.toList == Tt.toList) = true) (b4 : (oneL.any fun x => x.toList == Rr.toList) = false) :
    Ct 11 #[.int .i64 op] (.tuple #[.int .u8 x, .int .i64 2, .int .u8 127]) := by
  refine hide (fun W => ?_)
  have HB := hide (Below.refl W.heap.size W)
  go_enter Tryz.func11, Tryz.ntmps11
  go_wp2_with fail
  refine (unhide HN _).mono ?_
  rintro _ w1 ⟨rfl, hb⟩
  have HB := hide (bthen (unhide HB) hb)
  clear hb
  go_wp2_with fail
  refine (unhide relL_l _).mono ?_
  rintro _ w2 ⟨k2, rfl, hT2, hb⟩
  have HB := hide (bthen (unhide HB) hb)
  have HT2 := hide hT2
  clear hb hT2
  go_wp2_with fail
  refine (in_any (L := relL) (by decide) _ (unhide HT2)).mono ?_
  rintro _ w3 ⟨rfl, hb⟩
  have HB := hide (bthen (unhide HB) hb)
  clear hb HT2
  rw [b1]
  go_wp2_with fail
  refine (unhide floL_l _).mono ?_
  rintro _ w4 ⟨k4, rfl, hT4, hb⟩
  have HB := hide (bthen (unhide HB) hb)
  have HT4 := hide hT4
  clear hb hT4
  go_wp2_with fail
  refine (in_any (L := floL) (by decide) _ (unhide HT4)).mono ?_
  rintro _ w5 ⟨rfl, hb⟩
  have HB := hide (bthen (unhide HB) hb)
  clear hb HT4
  rw [b2]
  go_wp2_with fail
  refine (unhide HO _).mono ?_
  rintro _ w6 ⟨rfl, hb⟩
  have HB := hide (bthen (unhide HB) hb)
  clear hb
  go_wp2_with fail
  refine (in_any (L := oneL) (by decide) _ (tab_alloc _ (oneL.map Value.string) 9)).mono ?_
  rintro _ w7 ⟨rfl, hb⟩
  have HB := hide (bthen (balloc (unhide HB) (.cells (oneL.map Value.string).toArray 9)) hb)
  clear hb
  rw [b4]
  go_wp2_with fail
  refine (unhide HO _).mono ?_
  rintro _ w8 ⟨rfl, hb⟩
  have HB := hide (bthen (unhide HB) hb)
  clear hb
  go_wp2_with fail
  refine (unhide HX _).mono ?_
  rintro _ w9 ⟨rfl, hb⟩
  have HB := hide (bthen (unhide HB) hb)
  clear hb
  go_wp2_with fail
  refine (unhide typ_i32 _).mono ?_
  rintro _ w10 ⟨rfl, hb⟩
  have HB := hide (bthen (unhide HB) hb)
  clear hb
  go_wp2_with fail
  exact bodyPost_ret (v := .tuple #[.int .u8 _, .int .i64 _, .int .u8 _]) (by simp [results, Tryz.results11, go_sem]) rfl ⟨rfl, unhide HB⟩

set_option maxHeartbeats 4000000 in
set_option maxRecDepth 100000 in
theorem rkw_20 {op x y : Int} {Nm Tt Rr Oo : ByteArray} (HN : Ct 27 #[.int .i64 op] (.string Nm)) (hne : (Nm.toList == []) = false) (hT : Nm.extract 0 3 = Tt) (hR : Nm.extract 4 Nm.size = Rr) (hsz : 4 ≤ Nm.size) (HO : Ct 31 #[.string Nm] (.string Oo)) (HX : Ct 32 #[.string Oo] (.int .u8 x)) (HY : Ct 32 #[.string Tt] (.int .u8 y)) (b1 : (relL.any fun x => x.toList == Rr.toList) = false) (b2 : (floL.any fun x => x.toList == Rr.toList) = false) (b3 : (Oo.toList == Tt.toList) = false) :
    Ct 11 #[.int .i64 op] (.tuple #[.int .u8 x, .int .i64 1, .int .u8 y]) := by
  refine hide (fun W => ?_)
  have HB := hide (Below.refl W.heap.size W)
  go_enter Tryz.func11, Tryz.ntmps11
  go_wp2_with fail
  refine (unhide HN _).mono ?_
  rintro _ w1 ⟨rfl, hb⟩
  have HB := hide (bthen (unhide HB) hb)
  clear hb
  go_wp2_with fail
  refine (unhide relL_l _).mono ?_
  rintro _ w2 ⟨k2, rfl, hT2, hb⟩
  have HB := hide (bthen (unhide HB) hb)
  have HT2 := hide hT2
  clear hb hT2
  go_wp2_with fail
  refine (in_any (L := relL) (by decide) _ (unhide HT2)).mono ?_
  rintro _ w3 ⟨rfl, hb⟩
  have HB := hide (bthen (unhide HB) hb)
  clear hb HT2
  rw [b1]
  go_wp2_with fail
  refine (unhide floL_l _).mono ?_
  rintro _ w4 ⟨k4, rfl, hT4, hb⟩
  have HB := hide (bthen (unhide HB) hb)
  have HT4 := hide hT4
  clear hb hT4
  go_wp2_with fail
  refine (in_any (L := floL) (by decide) _ (unhide HT4)).mono ?_
  rintro _ w5 ⟨rfl, hb⟩
  have HB := hide (bthen (unhide HB) hb)
  clear hb HT4
  rw [b2]
  go_wp2_with fail
  refine (unhide HO _).mono ?_
  rintro _ w6 ⟨rfl, hb⟩
  have HB := hide (bthen (unhide HB) hb)
  clear hb
  go_wp2_with fail
  refine (unhide HO _).mono ?_
  rintro _ w8 ⟨rfl, hb⟩
  have HB := hide (bthen (unhide HB) hb)
  clear hb
  go_wp2_with fail
  refine (unhide HX _).mono ?_
  rintro _ w9 ⟨rfl, hb⟩
  have HB := hide (bthen (unhide HB) hb)
  clear hb
  go_wp2_with fail
  refine (unhide HY _).mono ?_
  rintro _ w10 ⟨rfl, hb⟩
  have HB := hide (bthen (unhide HB) hb)
  clear hb
  go_wp2_with fail
  exact bodyPost_ret (v := .tuple #[.int .u8 _, .int .i64 _, .int .u8 _]) (by simp [results, Tryz.results11, go_sem]) rfl ⟨rfl, unhide HB⟩
set_option maxHeartbeats 4000000 in
set_option maxRecDepth 100000 in
theorem rkw_21 {op x y : Int} {Nm Tt Rr Oo : ByteArray} (HN : Ct 27 #[.int .i64 op] (.string Nm)) (hne : (Nm.toList == []) = false) (hT : Nm.extract 0 3 = Tt) (hR : Nm.extract 4 Nm.size = Rr) (hsz : 4 ≤ Nm.size) (HO : Ct 31 #[.string Nm] (.string Oo)) (HX : Ct 32 #[.string Oo] (.int .u8 x)) (HY : Ct 32 #[.string Tt] (.int .u8 y)) (b1 : (relL.any fun x => x.toList == Rr.toList) = false) (b2 : (floL.any fun x => x.toList == Rr.toList) = false) (b3 : (Oo.toList == Tt.toList) = true) (b4 : (oneL.any fun x => x.toList == Rr.toList) = true) :
    Ct 11 #[.int .i64 op] (.tuple #[.int .u8 x, .int .i64 1, .int .u8 y]) := by
  refine hide (fun W => ?_)
  have HB := hide (Below.refl W.heap.size W)
  go_enter Tryz.func11, Tryz.ntmps11
  go_wp2_with fail
  refine (unhide HN _).mono ?_
  rintro _ w1 ⟨rfl, hb⟩
  have HB := hide (bthen (unhide HB) hb)
  clear hb
  go_wp2_with fail
  refine (unhide relL_l _).mono ?_
  rintro _ w2 ⟨k2, rfl, hT2, hb⟩
  have HB := hide (bthen (unhide HB) hb)
  have HT2 := hide hT2
  clear hb hT2
  go_wp2_with fail
  refine (in_any (L := relL) (by decide) _ (unhide HT2)).mono ?_
  rintro _ w3 ⟨rfl, hb⟩
  have HB := hide (bthen (unhide HB) hb)
  clear hb HT2
  rw [b1]
  go_wp2_with fail
  refine (unhide floL_l _).mono ?_
  rintro _ w4 ⟨k4, rfl, hT4, hb⟩
  have HB := hide (bthen (unhide HB) hb)
  have HT4 := hide hT4
  clear hb hT4
  go_wp2_with fail
  refine (in_any (L := floL) (by decide) _ (unhide HT4)).mono ?_
  rintro _ w5 ⟨rfl, hb⟩
  have HB := hide (bthen (unhide HB) hb)
  clear hb HT4
  rw [b2]
  go_wp2_with fail
  refine (unhide HO _).mono ?_
  rintro _ w6 ⟨rfl, hb⟩
  have HB := hide (bthen (unhide HB) hb)
  clear hb
  go_wp2_with fail
  refine (in_any (L := oneL) (by decide) _ (tab_alloc _ (oneL.map Value.string) 9)).mono ?_
  rintro _ w7 ⟨rfl, hb⟩
  have HB := hide (bthen (balloc (unhide HB) (.cells (oneL.map Value.string).toArray 9)) hb)
  clear hb
  rw [b4]
  go_wp2_with fail
  refine (unhide HO _).mono ?_
  rintro _ w8 ⟨rfl, hb⟩
  have HB := hide (bthen (unhide HB) hb)
  clear hb
  go_wp2_with fail
  refine (unhide HX _).mono ?_
  rintro _ w9 ⟨rfl, hb⟩
  have HB := hide (bthen (unhide HB) hb)
  clear hb
  go_wp2_with fail
  refine (unhide HY _).mono ?_
  rintro _ w10 ⟨rfl, hb⟩
  have HB := hide (bthen (unhide HB) hb)
  clear hb
  go_wp2_with fail
  exact bodyPost_ret (v := .tuple #[.int .u8 _, .int .i64 _, .int .u8 _]) (by simp [results, Tryz.results11, go_sem]) rfl ⟨rfl, unhide HB⟩
set_option maxHeartbeats 4000000 in
set_option maxRecDepth 100000 in
theorem rkw_22 {op x y : Int} {Nm Tt Rr Oo : ByteArray} (HN : Ct 27 #[.int .i64 op] (.string Nm)) (hne : (Nm.toList == []) = false) (hT : Nm.extract 0 3 = Tt) (hR : Nm.extract 4 Nm.size = Rr) (hsz : 4 ≤ Nm.size) (HO : Ct 31 #[.string Nm] (.string Oo)) (HX : Ct 32 #[.string Oo] (.int .u8 x)) (HY : Ct 32 #[.string Tt] (.int .u8 y)) (b1 : (relL.any fun x => x.toList == Rr.toList) = false) (b2 : (floL.any fun x => x.toList == Rr.toList) = false) (b3 : (Oo.toList == Tt.toList) = true) (b4 : (oneL.any fun x => x.toList == Rr.toList) = false) :
    Ct 11 #[.int .i64 op] (.tuple #[.int .u8 x, .int .i64 2, .int .u8 y]) := by
  refine hide (fun W => ?_)
  have HB := hide (Below.refl W.heap.size W)
  go_enter Tryz.func11, Tryz.ntmps11
  go_wp2_with fail
  refine (unhide HN _).mono ?_
  rintro _ w1 ⟨rfl, hb⟩
  have HB := hide (bthen (unhide HB) hb)
  clear hb
  go_wp2_with fail
  refine (unhide relL_l _).mono ?_
  rintro _ w2 ⟨k2, rfl, hT2, hb⟩
  have HB := hide (bthen (unhide HB) hb)
  have HT2 := hide hT2
  clear hb hT2
  go_wp2_with fail
  refine (in_any (L := relL) (by decide) _ (unhide HT2)).mono ?_
  rintro _ w3 ⟨rfl, hb⟩
  have HB := hide (bthen (unhide HB) hb)
  clear hb HT2
  rw [b1]
  go_wp2_with fail
  refine (unhide floL_l _).mono ?_
  rintro _ w4 ⟨k4, rfl, hT4, hb⟩
  have HB := hide (bthen (unhide HB) hb)
  have HT4 := hide hT4
  clear hb hT4
  go_wp2_with fail
  refine (in_any (L := floL) (by decide) _ (unhide HT4)).mono ?_
  rintro _ w5 ⟨rfl, hb⟩
  have HB := hide (bthen (unhide HB) hb)
  clear hb HT4
  rw [b2]
  go_wp2_with fail
  refine (unhide HO _).mono ?_
  rintro _ w6 ⟨rfl, hb⟩
  have HB := hide (bthen (unhide HB) hb)
  clear hb
  go_wp2_with fail
  refine (in_any (L := oneL) (by decide) _ (tab_alloc _ (oneL.map Value.string) 9)).mono ?_
  rintro _ w7 ⟨rfl, hb⟩
  have HB := hide (bthen (balloc (unhide HB) (.cells (oneL.map Value.string).toArray 9)) hb)
  clear hb
  rw [b4]
  go_wp2_with fail
  refine (unhide HO _).mono ?_
  rintro _ w8 ⟨rfl, hb⟩
  have HB := hide (bthen (unhide HB) hb)
  clear hb
  go_wp2_with fail
  refine (unhide HX _).mono ?_
  rintro _ w9 ⟨rfl, hb⟩
  have HB := hide (bthen (unhide HB) hb)
  clear hb
  go_wp2_with fail
  refine (unhide HY _).mono ?_
  rintro _ w10 ⟨rfl, hb⟩
  have HB := hide (bthen (unhide HB) hb)
  clear hb
  go_wp2_with fail
  exact bodyPost_ret (v := .tuple #[.int .u8 _, .int .i64 _, .int .u8 _]) (by simp [results, Tryz.results11, go_sem]) rfl ⟨rfl, unhide HB⟩

theorem rkind_w {op x y : Int} {Nm Tt Rr Oo : ByteArray} {q1 q2 q3 q4 : Bool} (HN : Ct 27 #[.int .i64 op] (.string Nm)) (hne : (Nm.toList == []) = false) (hT : Nm.extract 0 3 = Tt) (hR : Nm.extract 4 Nm.size = Rr) (hsz : 4 ≤ Nm.size) (HO : Ct 31 #[.string Nm] (.string Oo)) (HX : Ct 32 #[.string Oo] (.int .u8 x)) (HY : Ct 32 #[.string Tt] (.int .u8 y))
    (b1 : (relL.any fun x => x.toList == Rr.toList) = q1) (b2 : (floL.any fun x => x.toList == Rr.toList) = q2) (b3 : (Oo.toList == Tt.toList) = q3) (b4 : (oneL.any fun x => x.toList == Rr.toList) = q4) :
    Ct 11 #[.int .i64 op] (.tuple #[.int .u8 x, .int .i64 (bif q3 then (bif q4 then 1 else 2) else 1), .int .u8 (bif q1 || q2 then 127 else y)]) := by
  cases q1 <;> cases q2 <;> cases q3 <;> cases q4
  · exact rkw_20 HN hne hT hR hsz HO HX HY b1 b2 b3
  · exact rkw_20 HN hne hT hR hsz HO HX HY b1 b2 b3
  · exact rkw_22 HN hne hT hR hsz HO HX HY b1 b2 b3 b4
  · exact rkw_21 HN hne hT hR hsz HO HX HY b1 b2 b3 b4
  · exact rkw_10 HN hne hT hR hsz HO HX b1 b2 b3
  · exact rkw_10 HN hne hT hR hsz HO HX b1 b2 b3
  · exact rkw_12 HN hne hT hR hsz HO HX b1 b2 b3 b4
  · exact rkw_11 HN hne hT hR hsz HO HX b1 b2 b3 b4
  · exact rkw_00 HN hne hT hR hsz HO HX b1 b3
  · exact rkw_00 HN hne hT hR hsz HO HX b1 b3
  · exact rkw_02 HN hne hT hR hsz HO HX b1 b3 b4
  · exact rkw_01 HN hne hT hR hsz HO HX b1 b3 b4
  · exact rkw_00 HN hne hT hR hsz HO HX b1 b3
  · exact rkw_00 HN hne hT hR hsz HO HX b1 b3
  · exact rkw_02 HN hne hT hR hsz HO HX b1 b3 b4
  · exact rkw_01 HN hne hT hR hsz HO HX b1 b3 b4

set_option maxHeartbeats 4000000 in
set_option maxRecDepth 100000 in
theorem rkind_no {op : Int} (HN : Ct 27 #[.int .i64 op] (.string ⟨#[]⟩)) : Ct 11 #[.int .i64 op] (.tuple #[.int .u8 0, .int .i64 0, .int .u8 0]) := by
  refine hide (fun W => ?_)
  have HB := hide (Below.refl W.heap.size W)
  go_enter Tryz.func11, Tryz.ntmps11
  go_wp2_with fail
  refine (unhide HN _).mono ?_
  rintro _ w1 ⟨rfl, hb⟩
  have HB := hide (bthen (unhide HB) hb)
  clear hb
  go_wp2_with fail
  exact bodyPost_ret (v := .tuple #[.int .u8 0, .int .i64 0, .int .u8 0]) (by simp [results, Tryz.results11, go_sem]) rfl ⟨rfl, unhide HB⟩
set_option maxHeartbeats 4000000 in
set_option maxRecDepth 100000 in
theorem kinds_w {op ti c tu : Int} {z k : Bool} (HA : Cm 9 #[] (.bool true)) (HK : Cm 10 #[.int .i64 op] (.tuple #[.int .u8 ti, .int .i64 c, .int .u8 tu, .bool k])) (HS : Cm 12 #[.int .i64 op] (.bool z)) (HR : Ct 11 #[.int .i64 op] (.tuple #[.int .u8 ti, .int .i64 c, .int .u8 tu])) (hc : 0 < c ∧ k = true ∨ ¬ 0 < c ∧ k = false)
    (hz : 64512 ≤ op ∧ op ≤ 64519 ∧ z = true ∨ 64512 ≤ op ∧ ¬ op ≤ 64519 ∧ z = false ∨ ¬ 64512 ≤ op ∧ z = false) : Cm 3 #[.int .i64 op] (.bool true) := by
  refine hide (fun W m => ?_)
  rcases hc with ⟨hc, rfl⟩ | ⟨hc, rfl⟩ <;> rcases hz with ⟨g1, g2, rfl⟩ | ⟨g1, g2, rfl⟩ | ⟨g1, rfl⟩
  all_goals
    have HM := hide m
    have HB := hide (Below.refl W.heap.size W)
    go_enter Tryz.func3, Tryz.ntmps3
    go_wp2_with fail
    refine (unhide HA _ (unhide HM)).mono ?_
    rintro _ w1 ⟨rfl, hb⟩
    have HB := hide (bthen (unhide HB) hb)
    have HM := hide ((unhide HM).below hb)
    clear hb
    go_wp2_with fail
    refine (unhide HK _ (unhide HM)).mono ?_
    rintro _ w2 ⟨rfl, hb⟩
    have HB := hide (bthen (unhide HB) hb)
    have HM := hide ((unhide HM).below hb)
    clear hb
    go_wp2_with fail
    refine (unhide HR _).mono ?_
    rintro _ w3 ⟨rfl, hb⟩
    have HB := hide (bthen (unhide HB) hb)
    have HM := hide ((unhide HM).below hb)
    clear hb
    go_wp2_with fail
    refine (unhide HS _ (unhide HM)).mono ?_
    rintro _ w4 ⟨rfl, hb⟩
    have HB := hide (bthen (unhide HB) hb)
    have HM := hide ((unhide HM).below hb)
    clear hb
    go_wp2_with fail
    go_ret
    exact ⟨by first | rfl | (simp; done) | (simp; omega), unhide HB⟩
end Go.Proofs.YtpbgpdmffejdgaaGreatDoor
