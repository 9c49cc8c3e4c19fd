/- MRbH. -/
import Derived.Test.YtpbgpdmffejdgaaGreatDoorG26
namespace Go.Proofs.YtpbgpdmffejdgaaGreatDoor
set_option maxHeartbeats 4000000
set_option maxRecDepth 100000
open Go.RowKit
theorem gK {s tt oo : ByteArray} {a n k v t wt wo : Int} {g : Bool} (hs : s = ⟨#[105,51,50,46,116,114,117,110,99,95,102,51,50,95,115]⟩ ∧ g = true ∨ s = ⟨#[105,51,50,46,116,114,117,110,99,95,102,51,50,95,117]⟩ ∧ g = false ∨ s = ⟨#[105,51,50,46,116,114,117,110,99,95,102,54,52,95,115]⟩ ∧ g = true ∨ s = ⟨#[105,51,50,46,116,114,117,110,99,95,102,54,52,95,117]⟩ ∧ g = false ∨ s = ⟨#[105,54,52,46,116,114,117,110,99,95,102,51,50,95,115]⟩ ∧ g = true ∨ s = ⟨#[105,54,52,46,116,114,117,110,99,95,102,51,50,95,117]⟩ ∧ g = false ∨ s = ⟨#[105,54,52,46,116,114,117,110,99,95,102,54,52,95,115]⟩ ∧ g = true ∨ s = ⟨#[105,54,52,46,116,114,117,110,99,95,102,54,52,95,117]⟩ ∧ g = false) (hk : (k = 0 ∧ v = n ∧ t = 0) ∨ (k = 1 ∧ v = 0 ∧ t = 4) ∨ (k = 2 ∧ v = 0 ∧ t = 3) ∨ (k = 3 ∧ v = 0 ∧ t = 3)) (hT : s.extract 0 3 = tt) (HO : Ct 31 #[.string s] (.string oo)) (HW : Ct 42 #[.string tt] (.int .i64 wt)) (HV : Ct 42 #[.string oo] (.int .i64 wo)) (H1 : Ct 103 #[.int .i64 wo,.int .i64 wt,.int .u64 a,.bool g] (.tuple #[.int .i64 k,.int .u64 n])) : Ct 43 #[.string s,.int .u64 a] (.tuple #[.int .u64 v,.int .i64 t]):=by
 refine ab (fun W => ?_)
 have HB:=rf W
 rcases hs with ⟨rfl,rfl⟩ | ⟨rfl,rfl⟩ | ⟨rfl,rfl⟩ | ⟨rfl,rfl⟩ | ⟨rfl,rfl⟩ | ⟨rfl,rfl⟩ | ⟨rfl,rfl⟩ | ⟨rfl,rfl⟩
 all_goals
  rcases hk with ⟨rfl,rfl,rfl⟩ | ⟨rfl,rfl,rfl⟩ | ⟨rfl,rfl,rfl⟩ | ⟨rfl,rfl,rfl⟩
  all_goals
   go_enter Tryz.func43,Tryz.ntmps43
   go_wp2_with fail
   refine cg0 HO HB fun wq HB => ?_
   go_wp2_with fail
   refine cg0 HV HB fun wq HB => ?_
   go_wp2_with fail
   refine cg0 HW HB fun wq HB => ?_
   go_wp2_with fail
   refine cg0 H1 HB fun wq HB => ?_
   go_wp2_with fail
   exact bodyPost_ret (v:=.tuple #[.int .u64 _,.int .i64 _]) (by simp [results,Tryz.results43,go_sem]) rfl ⟨rfl,aa HB⟩
end Go.Proofs.YtpbgpdmffejdgaaGreatDoor
