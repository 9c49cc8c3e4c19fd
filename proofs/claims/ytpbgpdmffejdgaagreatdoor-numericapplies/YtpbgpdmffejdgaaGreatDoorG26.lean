/- MRbA, MRbG, MRbC, MRbB. -/
import Derived.Test.YtpbgpdmffejdgaaGreatDoorG01
import Derived.Test.YtpbgpdmffejdgaaGreatDoorG11
namespace Go.Proofs.YtpbgpdmffejdgaaGreatDoor
set_option maxHeartbeats 4000000
set_option maxRecDepth 100000
open Go.RowKit
theorem bb : Ct 42 #[.string ⟨#[105,51,50]⟩] (.int .i64 32):=aF 300 Tryz.func42 (fun _ _ => by kernel_rfl) (fun _ _ => ⟨by kernel_rfl,by kernel_rfl,by kernel_rfl,by kernel_rfl⟩) (fun _ _ => by kernel_rfl)
theorem aQ : Ct 42 #[.string ⟨#[102,51,50]⟩] (.int .i64 32):=aF 300 Tryz.func42 (fun _ _ => by kernel_rfl) (fun _ _ => ⟨by kernel_rfl,by kernel_rfl,by kernel_rfl,by kernel_rfl⟩) (fun _ _ => by kernel_rfl)
theorem bm : Ct 42 #[.string ⟨#[105,54,52]⟩] (.int .i64 64):=aF 300 Tryz.func42 (fun _ _ => by kernel_rfl) (fun _ _ => ⟨by kernel_rfl,by kernel_rfl,by kernel_rfl,by kernel_rfl⟩) (fun _ _ => by kernel_rfl)
theorem aR : Ct 42 #[.string ⟨#[102,54,52]⟩] (.int .i64 64):=aF 300 Tryz.func42 (fun _ _ => by kernel_rfl) (fun _ _ => ⟨by kernel_rfl,by kernel_rfl,by kernel_rfl,by kernel_rfl⟩) (fun _ _ => by kernel_rfl)
def tru (z : Bool) : Int:=bif z then 1 else 0
theorem tn (z : Bool) : Ct 109 #[.bool z] (.int .u64 (tru z)):=by
 refine ab (fun W => ?_)
 cases z <;> (go_enter Tryz.func109,Tryz.ntmps109; go_wp2_with fail; go_ret; exact ⟨rfl,Below.refl _ _⟩)
def asz (s : ByteArray) (w a r : Int) : Prop:=(s = ⟨#[97,98,115]⟩ ∧ Ct 115 #[.int .i64 w,.int .u64 a,.bool false] (.int .u64 r)) ∨ (s = ⟨#[110,101,103]⟩ ∧ ∃ n,Ct 116 #[.int .i64 w,.int .u64 a] (.bool n) ∧ Ct 115 #[.int .i64 w,.int .u64 a,.bool (!n)] (.int .u64 r)) ∨ (s = ⟨#[99,101,105,108]⟩ ∧ Ct 203 #[.int .i64 w,.int .u64 a,.int .i64 1] (.int .u64 r)) ∨ (s = ⟨#[102,108,111,111,114]⟩ ∧ Ct 203 #[.int .i64 w,.int .u64 a,.int .i64 2] (.int .u64 r)) ∨ (s = ⟨#[116,114,117,110,99]⟩ ∧ Ct 203 #[.int .i64 w,.int .u64 a,.int .i64 3] (.int .u64 r)) ∨ (s = ⟨#[110,101,97,114,101,115,116]⟩ ∧ Ct 203 #[.int .i64 w,.int .u64 a,.int .i64 4] (.int .u64 r)) ∨ (s = ⟨#[115,113,114,116]⟩ ∧ Ct 204 #[.int .i64 w,.int .u64 a] (.int .u64 r))
theorem qQ {s : ByteArray} {w a r : Int} (h : asz s w a r) : Ct 117 #[.string s,.int .i64 w,.int .u64 a] (.int .u64 r):=by
 refine ab (fun W => ?_)
 have HB:=rf W
 rcases h with ⟨rfl,H⟩ | ⟨rfl,n,H0,H⟩ | ⟨rfl,H⟩ | ⟨rfl,H⟩ | ⟨rfl,H⟩ | ⟨rfl,H⟩ | ⟨rfl,H⟩
 all_goals
  go_enter Tryz.func117,Tryz.ntmps117
  go_wp2_with fail
  try
   refine cg0 H0 HB fun wq HB => ?_
   go_wp2_with fail
  refine cg0 H HB fun wq HB => ?_
  go_wp2_with fail
  go_ret
  exact ⟨by first | rfl | simp,aa HB⟩
theorem akg {op a b : Int} (HN : Ct 27 #[.int .i64 op] (.string ⟨#[]⟩)) : Ct 14 #[.int .i64 op,.int .u64 a,.int .u64 b] (.tuple #[.int .u64 0,.int .i64 0]):=by
 refine ab (fun W => ?_)
 have HB:=rf W
 go_enter Tryz.func14,Tryz.ntmps14
 go_wp2_with fail
 refine cg0 HN HB fun wq HB => ?_
 go_wp2_with fail
 exact bodyPost_ret (v:=.tuple #[.int .u64 _,.int .i64 _]) (by simp [results,Tryz.results14,go_sem]) rfl ⟨rfl,aa HB⟩
theorem oE {op a b x y w v t : Int} {Nm Tt Oo : ByteArray} (HN : Ct 27 #[.int .i64 op] (.string Nm)) (hne : (Nm.toList == []) = false) (hsz : 4 ≤ Nm.size) (hT : Nm.extract 0 3 = Tt) (HO : Ct 31 #[.string Nm] (.string Oo)) (HW : Ct 42 #[.string Oo] (.int .i64 w)) (H1 : Ct 41 #[.int .i64 w,.int .u64 a] (.int .u64 x)) (H2 : Ct 41 #[.int .i64 w,.int .u64 b] (.int .u64 y)) (b3 : (Oo.toList == Tt.toList) = false) (HU : Ct 43 #[.string Nm,.int .u64 x] (.tuple #[.int .u64 v,.int .i64 t])) : Ct 14 #[.int .i64 op,.int .u64 a,.int .u64 b] (.tuple #[.int .u64 v,.int .i64 t]):=by
 have b6 : ¬ Oo.toList = Tt.toList:=by simpa using b3
 refine ab (fun W => ?_)
 have HB:=rf W
 go_enter Tryz.func14,Tryz.ntmps14
 go_wp2_with fail
 refine cg0 HN HB fun wq HB => ?_
 go_wp2_with fail
 refine cg0 HO HB fun wq HB => ?_
 go_wp2_with fail
 refine cg0 HW HB fun wq HB => ?_
 go_wp2_with fail
 refine cg0 H1 HB fun wq HB => ?_
 go_wp2_with fail
 refine cg0 HW HB fun wq HB => ?_
 go_wp2_with fail
 refine cg0 H2 HB fun wq HB => ?_
 go_wp2_with fail
 refine cg0 HU HB fun wq HB => ?_
 go_wp2_with fail
 exact bodyPost_ret (v:=.tuple #[.int .u64 _,.int .i64 _]) (by simp [results,Tryz.results14,go_sem]) rfl ⟨rfl,aa HB⟩
theorem ai6 {op a b x y v t w : Int} {Nm Rr Tt : ByteArray} (ht : Tt = ⟨#[105,51,50]⟩ ∨ Tt = ⟨#[105,54,52]⟩) (HN : Ct 27 #[.int .i64 op] (.string Nm)) (hne : (Nm.toList == []) = false) (hsz : 4 ≤ Nm.size) (hT : Nm.extract 0 3 = Tt) (hR : Nm.extract 4 Nm.size = Rr) (HO : Ct 31 #[.string Nm] (.string Tt)) (HW : Ct 42 #[.string Tt] (.int .i64 w)) (H1 : Ct 41 #[.int .i64 w,.int .u64 a] (.int .u64 x)) (H2 : Ct 41 #[.int .i64 w,.int .u64 b] (.int .u64 y)) (HU : Ct 44 #[.string Rr,.int .i64 w,.int .u64 x,.int .u64 y] (.tuple #[.int .u64 v,.int .i64 t])) : Ct 14 #[.int .i64 op,.int .u64 a,.int .u64 b] (.tuple #[.int .u64 v,.int .i64 t]):=by
 have h4 : (4 : Int) ≤ (Nm.size : Int):=by omega
 refine ab (fun W => ?_)
 have HB:=rf W
 rcases ht with rfl | rfl
 all_goals
  go_enter Tryz.func14,Tryz.ntmps14
  go_wp2_with fail
  refine cg0 HN HB fun wq HB => ?_
  go_wp2_with fail
  refine cg0 HO HB fun wq HB => ?_
  go_wp2_with fail
  refine cg0 HW HB fun wq HB => ?_
  go_wp2_with fail
  refine cg0 H1 HB fun wq HB => ?_
  go_wp2_with fail
  refine cg0 HW HB fun wq HB => ?_
  go_wp2_with fail
  refine cg0 H2 HB fun wq HB => ?_
  go_wp2_with fail
  refine wp_region_held_drew (S:=fun _ => True) (by kernel_rfl) trivial (fun hHeld => ?_)
  have HB:=ab ((aa HB).drew)
  refine aC 11 (by kernel_rfl) ?_
  refine tkA 0 36 1 ?_
  refine tkA 2 38 5 ?_
  refine tkA 4 40 21 ?_
  refine tkA 5 41 53 ?_
  refine tkA 1 37 55 ?_
  refine rdA 3 63 (fun Kk hKk => ?_)
  go_simp
  refine cg0 HW HB fun wq HB => ?_
  (try go_wp2_with fail)
  refine hKk.out _ _ trivial (fun _ => ?_)
  clear hKk Kk
  (try simp only [List.setIfInBounds_toArray,List.set_cons_zero,List.set_cons_succ])
  refine rdA 6 127 (fun Kk hKk => ?_)
  go_simp
  refine cg0 HU HB fun wq HB => ?_
  (try go_wp2_with fail)
  refine hKk.out _ _ trivial (fun _ => ?_)
  clear hKk Kk
  (try simp only [List.setIfInBounds_toArray,List.set_cons_zero,List.set_cons_succ])
  refine tkA 7 43 255 ?_
  refine tkA 8 44 511 ?_
  refine tkA 9 6 1023 ?_
  refine tkA 10 7 2047 ?_
  refine wpAnyH_done (by kernel_rfl) ?_ _
  clear hHeld
  go_wp2_with fail
  exact bodyPost_ret (v:=.tuple #[.int .u64 _,.int .i64 _]) (by simp [results,Tryz.results14,go_sem]) rfl ⟨rfl,aa HB⟩
theorem ai7 {op a b x y v w : Int} {Nm Rr Tt : ByteArray} (ht : Tt = ⟨#[102,51,50]⟩ ∨ Tt = ⟨#[102,54,52]⟩) (HN : Ct 27 #[.int .i64 op] (.string Nm)) (hne : (Nm.toList == []) = false) (hsz : 4 ≤ Nm.size) (hT : Nm.extract 0 3 = Tt) (hR : Nm.extract 4 Nm.size = Rr) (HO : Ct 31 #[.string Nm] (.string Tt)) (HW : Ct 42 #[.string Tt] (.int .i64 w)) (H1 : Ct 41 #[.int .i64 w,.int .u64 a] (.int .u64 x)) (H2 : Ct 41 #[.int .i64 w,.int .u64 b] (.int .u64 y)) (HU : Ct 45 #[.string Rr,.int .i64 w,.int .u64 x,.int .u64 y] (.int .u64 v)) : Ct 14 #[.int .i64 op,.int .u64 a,.int .u64 b] (.tuple #[.int .u64 v,.int .i64 0]):=by
 have h4 : (4 : Int) ≤ (Nm.size : Int):=by omega
 refine ab (fun W => ?_)
 have HB:=rf W
 rcases ht with rfl | rfl
 all_goals
  go_enter Tryz.func14,Tryz.ntmps14
  go_wp2_with fail
  refine cg0 HN HB fun wq HB => ?_
  go_wp2_with fail
  refine cg0 HO HB fun wq HB => ?_
  go_wp2_with fail
  refine cg0 HW HB fun wq HB => ?_
  go_wp2_with fail
  refine cg0 H1 HB fun wq HB => ?_
  go_wp2_with fail
  refine cg0 HW HB fun wq HB => ?_
  go_wp2_with fail
  refine cg0 H2 HB fun wq HB => ?_
  go_wp2_with fail
  refine wp_region_held_drew (S:=fun _ => True) (by kernel_rfl) trivial (fun hHeld => ?_)
  have HB:=ab ((aa HB).drew)
  refine aC 9 (by kernel_rfl) ?_
  refine tkA 0 45 1 ?_
  refine tkA 2 47 5 ?_
  refine tkA 4 49 21 ?_
  refine tkA 5 50 53 ?_
  refine tkA 1 46 55 ?_
  refine rdA 3 63 (fun Kk hKk => ?_)
  go_simp
  refine cg0 HW HB fun wq HB => ?_
  (try go_wp2_with fail)
  refine hKk.out _ _ trivial (fun _ => ?_)
  clear hKk Kk
  (try simp only [List.setIfInBounds_toArray,List.set_cons_zero,List.set_cons_succ])
  refine rdA 6 127 (fun Kk hKk => ?_)
  go_simp
  refine cg0 HU HB fun wq HB => ?_
  (try go_wp2_with fail)
  refine hKk.out _ _ trivial (fun _ => ?_)
  clear hKk Kk
  (try simp only [List.setIfInBounds_toArray,List.set_cons_zero,List.set_cons_succ])
  refine tkA 7 6 255 ?_
  refine tkA 8 7 511 ?_
  refine wpAnyH_done (by kernel_rfl) ?_ _
  clear hHeld
  go_wp2_with fail
  exact bodyPost_ret (v:=.tuple #[.int .u64 _,.int .i64 _]) (by simp [results,Tryz.results14,go_sem]) rfl ⟨rfl,aa HB⟩
def atb (s : ByteArray) (w a b r : Int) : Prop:=(s = ⟨#[99,108,122]⟩ ∧ Ct 194 #[.int .i64 w,.int .u64 a,.bool true] (.int .u64 r)) ∨ (s = ⟨#[99,116,122]⟩ ∧ Ct 194 #[.int .i64 w,.int .u64 a,.bool false] (.int .u64 r)) ∨ (s = ⟨#[112,111,112,99,110,116]⟩ ∧ Ct 195 #[.int .i64 w,.int .u64 a] (.int .u64 r)) ∨ (s = ⟨#[97,100,100]⟩ ∧ Ct 196 #[.int .i64 w,.int .u64 a,.int .u64 b] (.int .u64 r)) ∨ (s = ⟨#[115,117,98]⟩ ∧ Ct 192 #[.int .i64 w,.int .u64 a,.int .u64 b] (.int .u64 r)) ∨ (s = ⟨#[109,117,108]⟩ ∧ Ct 197 #[.int .i64 w,.int .u64 a,.int .u64 b] (.int .u64 r)) ∨ (s = ⟨#[115,104,108]⟩ ∧ ∀ z : Int,z = b % w → Ct 198 #[.int .i64 w,.int .u64 a,.int .i64 z,.bool false,.bool false] (.int .u64 r)) ∨ (s = ⟨#[115,104,114,95,117]⟩ ∧ ∀ z : Int,z = -(b % w) → Ct 198 #[.int .i64 w,.int .u64 a,.int .i64 z,.bool false,.bool false] (.int .u64 r)) ∨ (s = ⟨#[114,111,116,108]⟩ ∧ ∀ z : Int,z = b % w → Ct 198 #[.int .i64 w,.int .u64 a,.int .i64 z,.bool true,.bool false] (.int .u64 r)) ∨ (s = ⟨#[114,111,116,114]⟩ ∧ ∀ z : Int,z = -(b % w) → Ct 198 #[.int .i64 w,.int .u64 a,.int .i64 z,.bool true,.bool false] (.int .u64 r)) ∨ (s = ⟨#[115,104,114,95,115]⟩ ∧ ∃ n,Ct 116 #[.int .i64 w,.int .u64 a] (.bool n) ∧ ∀ z : Int,z = -(b % w) → Ct 198 #[.int .i64 w,.int .u64 a,.int .i64 z,.bool false,.bool n] (.int .u64 r)) ∨ ((s = ⟨#[101,113,122]⟩ ∨ s = ⟨#[101,113]⟩ ∨ s = ⟨#[110,101]⟩ ∨ s = ⟨#[108,116,95,115]⟩ ∨ s = ⟨#[108,116,95,117]⟩ ∨ s = ⟨#[103,116,95,115]⟩ ∨ s = ⟨#[103,116,95,117]⟩ ∨ s = ⟨#[108,101,95,115]⟩ ∨ s = ⟨#[108,101,95,117]⟩ ∨ s = ⟨#[103,101,95,115]⟩ ∨ s = ⟨#[103,101,95,117]⟩ ∨ s = ⟨#[97,110,100]⟩ ∨ s = ⟨#[111,114]⟩ ∨ s = ⟨#[120,111,114]⟩) ∧ Ct 199 #[.string s,.int .i64 w,.int .u64 a,.int .u64 b] (.int .u64 r))
theorem ey {s : ByteArray} {w a b r : Int} (hw : w = 32 ∨ w = 64) (b0 : 0 ≤ b) (b1 : b < 18446744073709551616) (h : atb s w a b r) : Ct 107 #[.string s,.int .i64 w,.int .u64 a,.int .u64 b] (.int .u64 r):=by
 refine ab (fun W => ?_)
 have HB:=rf W
 have hm : b.tmod w = b % w:=Int.tmod_eq_emod_of_nonneg b0
 rcases h with ⟨rfl,H⟩ | ⟨rfl,H⟩ | ⟨rfl,H⟩ | ⟨rfl,H⟩ | ⟨rfl,H⟩ | ⟨rfl,H⟩ | ⟨rfl,HT⟩ | ⟨rfl,HT⟩ | ⟨rfl,HT⟩ | ⟨rfl,HT⟩ | ⟨rfl,n,H0,HT⟩ | ⟨rfl | rfl | rfl | rfl | rfl | rfl | rfl | rfl | rfl | rfl | rfl | rfl | rfl | rfl,H⟩
 all_goals
  rcases hw with rfl | rfl
  all_goals
   clear hm
   go_enter Tryz.func107,Tryz.ntmps107
   go_wp2_with fail
   try
    refine cg0 H0 HB fun wq HB => ?_
    go_wp2_with fail
   first
    | refine (aa H _).mono ?_
    | refine (aa (HT _ (by omega)) _).mono ?_
   rintro _ wq ⟨rfl,hb⟩
   have HB:=bt HB hb
   clear hb
   go_wp2_with fail
   go_ret
   exact ⟨by first | rfl | simp,aa HB⟩
def at2 (s : ByteArray) (c : Int) (z : Bool) : Prop:=s = ⟨#[101,113]⟩ ∧ z = (c == 0) ∨ s = ⟨#[110,101]⟩ ∧ z = (c != 0) ∨ s = ⟨#[108,116]⟩ ∧ z = (c == -1) ∨ s = ⟨#[103,116]⟩ ∧ z = (c == 1) ∨ s = ⟨#[108,101]⟩ ∧ z = ((c == -1 || c == 0)) ∨ s = ⟨#[103,101]⟩ ∧ z = ((c == 1 || c == 0))
theorem xj {s : ByteArray} {w a b c : Int} {z : Bool} (HC : Ct 108 #[.int .i64 w,.int .u64 a,.int .u64 b] (.int .i64 c)) (hc : c = -1 ∨ c = 0 ∨ c = 1 ∨ c = 2) (h : at2 s c z) : Ct 45 #[.string s,.int .i64 w,.int .u64 a,.int .u64 b] (.int .u64 (tru z)):=by
 refine ab (fun W => ?_)
 have HB:=rf W
 rcases h with ⟨rfl,rfl⟩ | ⟨rfl,rfl⟩ | ⟨rfl,rfl⟩ | ⟨rfl,rfl⟩ | ⟨rfl,rfl⟩ | ⟨rfl,rfl⟩
 all_goals
  rcases hc with rfl | rfl | rfl | rfl
  all_goals
   go_enter Tryz.func45,Tryz.ntmps45
   go_wp2_with fail
   refine cg0 HC HB fun wq HB => ?_
   go_wp2_with fail
   refine (aa (tn _) _).mono ?_
   rintro _ wq ⟨rfl,hb⟩
   have HB:=bt HB hb
   clear hb
   go_wp2_with fail
   go_ret
   exact ⟨by first | rfl | simp,aa HB⟩
def at3 (s : ByteArray) (w a b r : Int) : Prop:=(s = ⟨#[97,100,100]⟩ ∧ Ct 110 #[.int .i64 w,.int .u64 a,.int .u64 b] (.int .u64 r)) ∨ (s = ⟨#[115,117,98]⟩ ∧ Ct 111 #[.int .i64 w,.int .u64 a,.int .u64 b] (.int .u64 r)) ∨ (s = ⟨#[109,117,108]⟩ ∧ Ct 112 #[.int .i64 w,.int .u64 a,.int .u64 b] (.int .u64 r)) ∨ (s = ⟨#[100,105,118]⟩ ∧ Ct 113 #[.int .i64 w,.int .u64 a,.int .u64 b] (.int .u64 r)) ∨ (s = ⟨#[109,105,110]⟩ ∧ Ct 114 #[.int .i64 w,.int .u64 a,.int .u64 b,.int .i64 (-1),.bool true] (.int .u64 r)) ∨ (s = ⟨#[109,97,120]⟩ ∧ Ct 114 #[.int .i64 w,.int .u64 a,.int .u64 b,.int .i64 1,.bool false] (.int .u64 r)) ∨ (s = ⟨#[99,111,112,121,115,105,103,110]⟩ ∧ ∃ n,Ct 116 #[.int .i64 w,.int .u64 b] (.bool n) ∧ Ct 115 #[.int .i64 w,.int .u64 a,.bool n] (.int .u64 r)) ∨ ((s = ⟨#[97,98,115]⟩ ∨ s = ⟨#[110,101,103]⟩ ∨ s = ⟨#[99,101,105,108]⟩ ∨ s = ⟨#[102,108,111,111,114]⟩ ∨ s = ⟨#[116,114,117,110,99]⟩ ∨ s = ⟨#[110,101,97,114,101,115,116]⟩ ∨ s = ⟨#[115,113,114,116]⟩) ∧ Ct 117 #[.string s,.int .i64 w,.int .u64 a] (.int .u64 r))
theorem jo {s : ByteArray} {w a b c r : Int} (HC : Ct 108 #[.int .i64 w,.int .u64 a,.int .u64 b] (.int .i64 c)) (h : at3 s w a b r) : Ct 45 #[.string s,.int .i64 w,.int .u64 a,.int .u64 b] (.int .u64 r):=by
 refine ab (fun W => ?_)
 have HB:=rf W
 rcases h with ⟨rfl,H⟩ | ⟨rfl,H⟩ | ⟨rfl,H⟩ | ⟨rfl,H⟩ | ⟨rfl,H⟩ | ⟨rfl,H⟩ | ⟨rfl,n,H0,H⟩ | ⟨rfl | rfl | rfl | rfl | rfl | rfl | rfl,H⟩
 all_goals
  go_enter Tryz.func45,Tryz.ntmps45
  go_wp2_with fail
  refine cg0 HC HB fun wq HB => ?_
  go_wp2_with fail
  try
   refine cg0 H0 HB fun wq HB => ?_
   go_wp2_with fail
  refine cg0 H HB fun wq HB => ?_
  go_wp2_with fail
  go_ret
  exact ⟨by first | rfl | simp,aa HB⟩
end Go.Proofs.YtpbgpdmffejdgaaGreatDoor
