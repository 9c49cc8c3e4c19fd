/- MRbE. -/
import Derived.Test.YtpbgpdmffejdgaaGreatDoorG26
import Derived.Test.YtpbgpdmffejdgaaGreatDoorG28
namespace Go.Proofs.YtpbgpdmffejdgaaGreatDoor
set_option maxHeartbeats 4000000
set_option maxRecDepth 100000
open Go.RowKit
def o4 : List ByteArray:=[⟨#[100,105,118,95,115]⟩,⟨#[100,105,118,95,117]⟩,⟨#[114,101,109,95,115]⟩,⟨#[114,101,109,95,117]⟩]
theorem ez {s : ByteArray} {w a b r : Int} (hs : s = ⟨#[101,113,122]⟩ ∨ s = ⟨#[101,113]⟩ ∨ s = ⟨#[110,101]⟩ ∨ s = ⟨#[108,116,95,115]⟩ ∨ s = ⟨#[108,116,95,117]⟩ ∨ s = ⟨#[103,116,95,115]⟩ ∨ s = ⟨#[103,116,95,117]⟩ ∨ s = ⟨#[108,101,95,115]⟩ ∨ s = ⟨#[108,101,95,117]⟩ ∨ s = ⟨#[103,101,95,115]⟩ ∨ s = ⟨#[103,101,95,117]⟩ ∨ s = ⟨#[99,108,122]⟩ ∨ s = ⟨#[99,116,122]⟩ ∨ s = ⟨#[112,111,112,99,110,116]⟩ ∨ s = ⟨#[97,100,100]⟩ ∨ s = ⟨#[115,117,98]⟩ ∨ s = ⟨#[109,117,108]⟩ ∨ s = ⟨#[97,110,100]⟩ ∨ s = ⟨#[111,114]⟩ ∨ s = ⟨#[120,111,114]⟩ ∨ s = ⟨#[115,104,108]⟩ ∨ s = ⟨#[115,104,114,95,115]⟩ ∨ s = ⟨#[115,104,114,95,117]⟩ ∨ s = ⟨#[114,111,116,108]⟩ ∨ s = ⟨#[114,111,116,114]⟩) (H : Ct 107 #[.string s,.int .i64 w,.int .u64 a,.int .u64 b] (.int .u64 r)) : Ct 44 #[.string s,.int .i64 w,.int .u64 a,.int .u64 b] (.tuple #[.int .u64 r,.int .i64 0]):=by
 refine ab (fun W => ?_)
 have HB:=rf W
 have HF : Hid ((o4.any fun x => x.toList == s.toList) = false):=ab (by rcases hs with rfl | rfl | rfl | rfl | rfl | rfl | rfl | rfl | rfl | rfl | rfl | rfl | rfl | rfl | rfl | rfl | rfl | rfl | rfl | rfl | rfl | rfl | rfl | rfl | rfl <;> kernel_rfl)
 by_cases HZ : b = 0
 ·subst HZ
  rcases hs with rfl | rfl | rfl | rfl | rfl | rfl | rfl | rfl | rfl | rfl | rfl | rfl | rfl | rfl | rfl | rfl | rfl | rfl | rfl | rfl | rfl | rfl | rfl | rfl | rfl
  all_goals
   go_enter Tryz.func44,Tryz.ntmps44
   go_wp2_with fail
   refine (xV (L:=o4) (by decide) _ (aJ _ (o4.map Value.string) 9)).mono ?_
   rintro _ w7 ⟨rfl,hb⟩
   have HB:=ab (ac (ad (aa HB) (.cells (o4.map Value.string).toArray 9)) hb)
   clear hb
   rw [aa HF]
   go_wp2_with fail
   refine cg0 H HB fun wq HB => ?_
   go_wp2_with fail
   exact bodyPost_ret (v:=.tuple #[.int .u64 _,.int .i64 _]) (by simp [results,Tryz.results44,go_sem]) rfl ⟨rfl,aa HB⟩
 ·rcases hs with rfl | rfl | rfl | rfl | rfl | rfl | rfl | rfl | rfl | rfl | rfl | rfl | rfl | rfl | rfl | rfl | rfl | rfl | rfl | rfl | rfl | rfl | rfl | rfl | rfl
  all_goals
   go_enter Tryz.func44,Tryz.ntmps44
   go_wp2_with fail
   refine cg0 H HB fun wq HB => ?_
   go_wp2_with fail
   exact bodyPost_ret (v:=.tuple #[.int .u64 _,.int .i64 _]) (by simp [results,Tryz.results44,go_sem]) rfl ⟨rfl,aa HB⟩
theorem nG {s : ByteArray} {w a : Int} (hs : s = ⟨#[100,105,118,95,115]⟩ ∨ s = ⟨#[100,105,118,95,117]⟩ ∨ s = ⟨#[114,101,109,95,115]⟩ ∨ s = ⟨#[114,101,109,95,117]⟩) : Ct 44 #[.string s,.int .i64 w,.int .u64 a,.int .u64 0] (.tuple #[.int .u64 0,.int .i64 2]):=by
 refine ab (fun W => ?_)
 have HB:=rf W
 have HF : Hid ((o4.any fun x => x.toList == s.toList) = true):=ab (by rcases hs with rfl | rfl | rfl | rfl <;> kernel_rfl)
 rcases hs with rfl | rfl | rfl | rfl
 all_goals
  go_enter Tryz.func44,Tryz.ntmps44
  go_wp2_with fail
  refine (xV (L:=o4) (by decide) _ (aJ _ (o4.map Value.string) 9)).mono ?_
  rintro _ w7 ⟨rfl,hb⟩
  have HB:=ab (ac (ad (aa HB) (.cells (o4.map Value.string).toArray 9)) hb)
  clear hb
  rw [aa HF]
  go_wp2_with fail
  exact bodyPost_ret (v:=.tuple #[.int .u64 _,.int .i64 _]) (by simp [results,Tryz.results44,go_sem]) rfl ⟨rfl,aa HB⟩
def atf (s : ByteArray) (w a b v t : Int) : Prop:=(s = ⟨#[100,105,118,95,115]⟩ ∧ v = 0 ∧ t = 3 ∧ ∃ q r,Ct 105 #[.int .i64 w,.int .u64 a,.int .u64 b] (.tuple #[.int .u64 q,.int .u64 r,.bool true])) ∨ (s = ⟨#[100,105,118,95,115]⟩ ∧ t = 0 ∧ ∃ r,Ct 105 #[.int .i64 w,.int .u64 a,.int .u64 b] (.tuple #[.int .u64 v,.int .u64 r,.bool false])) ∨ (s = ⟨#[114,101,109,95,115]⟩ ∧ t = 0 ∧ ∃ q o,Ct 105 #[.int .i64 w,.int .u64 a,.int .u64 b] (.tuple #[.int .u64 q,.int .u64 v,.bool o])) ∨ (s = ⟨#[100,105,118,95,117]⟩ ∧ t = 0 ∧ ∃ r,Ct 106 #[.int .i64 w,.int .u64 a,.int .u64 b] (.tuple #[.int .u64 v,.int .u64 r])) ∨ (s = ⟨#[114,101,109,95,117]⟩ ∧ t = 0 ∧ ∃ q,Ct 106 #[.int .i64 w,.int .u64 a,.int .u64 b] (.tuple #[.int .u64 q,.int .u64 v]))
theorem jv {s : ByteArray} {w a b v t : Int} (HZ : ¬ b = 0) (h : atf s w a b v t) : Ct 44 #[.string s,.int .i64 w,.int .u64 a,.int .u64 b] (.tuple #[.int .u64 v,.int .i64 t]):=by
 refine ab (fun W => ?_)
 have HB:=rf W
 rcases h with ⟨rfl,rfl,rfl,q,r,H⟩ | ⟨rfl,rfl,r,H⟩ | ⟨rfl,rfl,q,o,H⟩ | ⟨rfl,rfl,r,H⟩ | ⟨rfl,rfl,q,H⟩
 all_goals
  go_enter Tryz.func44,Tryz.ntmps44
  go_wp2_with fail
  refine cg0 H HB fun wq HB => ?_
  go_wp2_with fail
  exact bodyPost_ret (v:=.tuple #[.int .u64 _,.int .i64 _]) (by simp [results,Tryz.results44,go_sem]) rfl ⟨rfl,aa HB⟩
end Go.Proofs.YtpbgpdmffejdgaaGreatDoor
