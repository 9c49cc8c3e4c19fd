/- MRnA, MRbF. -/
import Derived.Test.YtpbgpdmffejdgaaGreatDoorG12
import Derived.Test.YtpbgpdmffejdgaaGreatDoorG26
namespace Go.Proofs.YtpbgpdmffejdgaaGreatDoor
set_option maxHeartbeats 4000000
set_option maxRecDepth 100000
open Go.RowKit
theorem aJ (W : World) (L : List Value) (t : TypeId) : Tab (W.alloc (.cells L.toArray t)) W.heap.size L:=fun j v hv => by
 rw [cell_of_row (W.alloc (.cells L.toArray t)) W.heap.size j L.toArray t (0,0) (heap_alloc_new _ _)]
 simpa using hv
def Lst (f : Nat) (args : Array Value) (L : List ByteArray) : Prop:=Hid (∀ W,Calls Tryz.prog f args W fun r W' => ∃ b,r = .returned (.slice (some ⟨b,0,none⟩) L.length L.length) ∧ Tab W' b (L.map Value.string) ∧ Below W.heap.size W W')
def uX : List ByteArray:=[⟨#[101,113,122]⟩,⟨#[101,113]⟩,⟨#[110,101]⟩,⟨#[108,116,95,115]⟩,⟨#[108,116,95,117]⟩,⟨#[103,116,95,115]⟩,⟨#[103,116,95,117]⟩,⟨#[108,101,95,115]⟩,⟨#[108,101,95,117]⟩,⟨#[103,101,95,115]⟩,⟨#[103,101,95,117]⟩]
theorem xQ : Lst 29 #[] uX:=by
 refine ab (fun W => ?_)
 go_enter Tryz.func29,Tryz.ntmps29
 go_wp2_with fail
 go_ret
 exact ⟨_,rfl,aJ W (uX.map Value.string) 9,ae _ _⟩
def uY : List ByteArray:=[⟨#[101,113]⟩,⟨#[110,101]⟩,⟨#[108,116]⟩,⟨#[103,116]⟩,⟨#[108,101]⟩,⟨#[103,101]⟩]
theorem xR : Lst 30 #[] uY:=by
 refine ab (fun W => ?_)
 go_enter Tryz.func30,Tryz.ntmps30
 go_wp2_with fail
 go_ret
 exact ⟨_,rfl,aJ W (uY.map Value.string) 9,ae _ _⟩
def uZ : List ByteArray:=[⟨#[99,108,122]⟩,⟨#[99,116,122]⟩,⟨#[112,111,112,99,110,116]⟩,⟨#[97,100,100]⟩,⟨#[115,117,98]⟩,⟨#[109,117,108]⟩,⟨#[100,105,118,95,115]⟩,⟨#[100,105,118,95,117]⟩,⟨#[114,101,109,95,115]⟩,⟨#[114,101,109,95,117]⟩,⟨#[97,110,100]⟩,⟨#[111,114]⟩,⟨#[120,111,114]⟩,⟨#[115,104,108]⟩,⟨#[115,104,114,95,115]⟩,⟨#[115,104,114,95,117]⟩,⟨#[114,111,116,108]⟩,⟨#[114,111,116,114]⟩]
theorem xS : Lst 120 #[] uZ:=by
 refine ab (fun W => ?_)
 go_enter Tryz.func120,Tryz.ntmps120
 go_wp2_with fail
 go_ret
 exact ⟨_,rfl,aJ W (uZ.map Value.string) 9,ae _ _⟩
def u6 : List ByteArray:=[⟨#[97,98,115]⟩,⟨#[110,101,103]⟩,⟨#[99,101,105,108]⟩,⟨#[102,108,111,111,114]⟩,⟨#[116,114,117,110,99]⟩,⟨#[110,101,97,114,101,115,116]⟩,⟨#[115,113,114,116]⟩,⟨#[97,100,100]⟩,⟨#[115,117,98]⟩,⟨#[109,117,108]⟩,⟨#[100,105,118]⟩,⟨#[109,105,110]⟩,⟨#[109,97,120]⟩,⟨#[99,111,112,121,115,105,103,110]⟩]
theorem xT : Lst 121 #[] u6:=by
 refine ab (fun W => ?_)
 go_enter Tryz.func121,Tryz.ntmps121
 go_wp2_with fail
 go_ret
 exact ⟨_,rfl,aJ W (u6.map Value.string) 9,ae _ _⟩
def adm : List ByteArray:=[⟨#[105,51,50,46,119,114,97,112,95,105,54,52]⟩,⟨#[105,51,50,46,116,114,117,110,99,95,102,51,50,95,115]⟩,⟨#[105,51,50,46,116,114,117,110,99,95,102,51,50,95,117]⟩,⟨#[105,51,50,46,116,114,117,110,99,95,102,54,52,95,115]⟩,⟨#[105,51,50,46,116,114,117,110,99,95,102,54,52,95,117]⟩,⟨#[105,54,52,46,101,120,116,101,110,100,95,105,51,50,95,115]⟩,⟨#[105,54,52,46,101,120,116,101,110,100,95,105,51,50,95,117]⟩,⟨#[105,54,52,46,116,114,117,110,99,95,102,51,50,95,115]⟩,⟨#[105,54,52,46,116,114,117,110,99,95,102,51,50,95,117]⟩,⟨#[105,54,52,46,116,114,117,110,99,95,102,54,52,95,115]⟩,⟨#[105,54,52,46,116,114,117,110,99,95,102,54,52,95,117]⟩,⟨#[102,51,50,46,99,111,110,118,101,114,116,95,105,51,50,95,115]⟩,⟨#[102,51,50,46,99,111,110,118,101,114,116,95,105,51,50,95,117]⟩,⟨#[102,51,50,46,99,111,110,118,101,114,116,95,105,54,52,95,115]⟩,⟨#[102,51,50,46,99,111,110,118,101,114,116,95,105,54,52,95,117]⟩,⟨#[102,51,50,46,100,101,109,111,116,101,95,102,54,52]⟩,⟨#[102,54,52,46,99,111,110,118,101,114,116,95,105,51,50,95,115]⟩,⟨#[102,54,52,46,99,111,110,118,101,114,116,95,105,51,50,95,117]⟩,⟨#[102,54,52,46,99,111,110,118,101,114,116,95,105,54,52,95,115]⟩,⟨#[102,54,52,46,99,111,110,118,101,114,116,95,105,54,52,95,117]⟩,⟨#[102,54,52,46,112,114,111,109,111,116,101,95,102,51,50]⟩,⟨#[105,51,50,46,114,101,105,110,116,101,114,112,114,101,116,95,102,51,50]⟩,⟨#[105,54,52,46,114,101,105,110,116,101,114,112,114,101,116,95,102,54,52]⟩,⟨#[102,51,50,46,114,101,105,110,116,101,114,112,114,101,116,95,105,51,50]⟩,⟨#[102,54,52,46,114,101,105,110,116,101,114,112,114,101,116,95,105,54,52]⟩]
theorem aki : Lst 122 #[] adm:=by
 refine ab (fun W => ?_)
 go_enter Tryz.func122,Tryz.ntmps122
 go_wp2_with fail
 go_ret
 exact ⟨_,rfl,aJ W (adm.map Value.string) 9,ae _ _⟩
def xU : List ByteArray:=[⟨#[105,51,50,46,116,114,117,110,99,95,115,97,116,95,102,51,50,95,115]⟩,⟨#[105,51,50,46,116,114,117,110,99,95,115,97,116,95,102,51,50,95,117]⟩,⟨#[105,51,50,46,116,114,117,110,99,95,115,97,116,95,102,54,52,95,115]⟩,⟨#[105,51,50,46,116,114,117,110,99,95,115,97,116,95,102,54,52,95,117]⟩,⟨#[105,54,52,46,116,114,117,110,99,95,115,97,116,95,102,51,50,95,115]⟩,⟨#[105,54,52,46,116,114,117,110,99,95,115,97,116,95,102,51,50,95,117]⟩,⟨#[105,54,52,46,116,114,117,110,99,95,115,97,116,95,102,54,52,95,115]⟩,⟨#[105,54,52,46,116,114,117,110,99,95,115,97,116,95,102,54,52,95,117]⟩]
theorem akj : Lst 62 #[] xU:=by
 refine ab (fun W => ?_)
 go_enter Tryz.func62,Tryz.ntmps62
 go_wp2_with fail
 go_ret
 exact ⟨_,rfl,aJ W (xU.map Value.string) 9,ae _ _⟩
theorem xV {L : List ByteArray} {s : ByteArray} {b c : Nat} (hn : L.length ≤ 100) (W : World) (hT : Tab W b (L.map Value.string)) :
 Calls Tryz.prog 28 #[.slice (some ⟨b,0,none⟩) L.length c,.string s] W fun r W' => r = .returned (.bool (L.any fun x => x.toList == s.toList)) ∧ Below W.heap.size W W':=by
 have HT:=ab hT
 clear hT
 generalize hr : (L.any fun x => x.toList == s.toList) = res
 have HR:=ab hr
 generalize hl : L.length = n at *
 clear hr
 go_enter Tryz.func28,Tryz.ntmps28
 go_wp2_with fail
 go_loop [5] (fun v5 => ∃ i : Nat,i ≤ n ∧ v5 = .int .i64 (i : Int) ∧ ∀ j x,j < i → L[j]? = some x → (x.toList == s.toList) = false) (fun v5 => n - (intOf v5).toNat)
 case atStart => exact ⟨0,by omega,rfl,fun j x h _ => by omega⟩
 case round =>
  obtain ⟨i,hi,rfl,hno⟩:=hrel
  have HN:=ab hno
  clear hno
  by_cases hc : i < n
  ·obtain ⟨x,hx⟩ : ∃ x,L[i]? = some x:=⟨_,List.getElem?_eq_getElem (by omega)⟩
   have hcell:=aa HT i (.string x) (by rw [List.getElem?_map,hx]; rfl)
   have HX:=ab hx
   have ei : IntKind.i64.wrap ((i : Int) + 1) = (i : Int) + 1:=aj (by omega) (by omega)
   clear hx
   cases he : (x.toList == s.toList)
   ·go_wp2_with fail
    refine ⟨⟨i + 1,by omega,by go_num,fun j y hj hy => ?_⟩,by simp [intOf]; omega⟩
    by_cases hji : j = i
    ·subst hji
     rw [aa HX] at hy
     injection hy with hy
     subst hy
     exact he
    ·exact aa HN j y (by omega) hy
   ·have hres : res = true:=by
     rw [← aa HR,List.any_eq_true]
     exact ⟨x,List.mem_of_getElem? (aa HX),he⟩
    go_wp2_with fail
    go_ret
    exact ⟨rfl,Below.refl _ _⟩
  ·have hres : res = false:=by
    rw [← aa HR,List.any_eq_false]
    intro x hx
    obtain ⟨j,hj,rfl⟩:=List.getElem_of_mem hx
    have:=aa HN j _ (by omega) (List.getElem?_eq_getElem hj)
    simp only [this,Bool.false_eq_true,not_false_eq_true]
   go_wp2_with fail
   go_ret
   exact ⟨rfl,Below.refl _ _⟩
theorem qK {k n t r : Int} {g : Bool} (h : (k = 0 ∧ r = n) ∨ (k = 1 ∧ r = n) ∨ (k = 2 ∧ Ct 187 #[.int .i64 t,.bool g] (.int .u64 r)) ∨ (k = 3 ∧ Ct 188 #[.int .i64 t,.bool g] (.int .u64 r))) : Ct 104 #[.int .i64 k,.int .u64 n,.int .i64 t,.bool g] (.int .u64 r):=by
 refine ab (fun W => ?_)
 have HB:=rf W
 rcases h with ⟨rfl,rfl⟩ | ⟨rfl,rfl⟩ | ⟨rfl,H⟩ | ⟨rfl,H⟩
 all_goals
  go_enter Tryz.func104,Tryz.ntmps104
  go_wp2_with fail
  try
   refine cg0 H HB fun wq HB => ?_
   go_wp2_with fail
  go_ret
  exact ⟨by first | rfl | simp,aa HB⟩
theorem mi {s tt oo : ByteArray} {a r wt : Int} (hs : s = ⟨#[105,51,50,46,119,114,97,112,95,105,54,52]⟩ ∨ s = ⟨#[105,51,50,46,114,101,105,110,116,101,114,112,114,101,116,95,102,51,50]⟩ ∨ s = ⟨#[105,54,52,46,114,101,105,110,116,101,114,112,114,101,116,95,102,54,52]⟩ ∨ s = ⟨#[102,51,50,46,114,101,105,110,116,101,114,112,114,101,116,95,105,51,50]⟩ ∨ s = ⟨#[102,54,52,46,114,101,105,110,116,101,114,112,114,101,116,95,105,54,52]⟩) (hT : s.extract 0 3 = tt) (HO : Ct 31 #[.string s] (.string oo)) (HW : Ct 42 #[.string tt] (.int .i64 wt)) (H1 : Ct 41 #[.int .i64 wt,.int .u64 a] (.int .u64 r)) : Ct 43 #[.string s,.int .u64 a] (.tuple #[.int .u64 r,.int .i64 0]):=by
 refine ab (fun W => ?_)
 have HB:=rf W
 rcases hs with rfl | rfl | rfl | rfl | rfl
 all_goals
  go_enter Tryz.func43,Tryz.ntmps43
  go_wp2_with fail
  refine cg0 HO HB fun wq HB => ?_
  go_wp2_with fail
  refine cg0 HW HB fun wq HB => ?_
  go_wp2_with fail
  refine cg0 H1 HB fun wq HB => ?_
  go_wp2_with fail
  exact bodyPost_ret (v:=.tuple #[.int .u64 _,.int .i64 _]) (by simp [results,Tryz.results43,go_sem]) rfl ⟨rfl,aa HB⟩
theorem ac0 {s tt oo : ByteArray} {a r : Int} {g : Bool} (hs : s = ⟨#[105,54,52,46,101,120,116,101,110,100,95,105,51,50,95,115]⟩ ∧ g = true ∨ s = ⟨#[105,54,52,46,101,120,116,101,110,100,95,105,51,50,95,117]⟩ ∧ g = false) (hT : s.extract 0 3 = tt) (HO : Ct 31 #[.string s] (.string oo)) (H1 : Ct 99 #[.int .i64 64,.int .i64 32,.int .u64 a,.bool g] (.int .u64 r)) : Ct 43 #[.string s,.int .u64 a] (.tuple #[.int .u64 r,.int .i64 0]):=by
 refine ab (fun W => ?_)
 have HB:=rf W
 rcases hs with ⟨rfl,rfl⟩ | ⟨rfl,rfl⟩
 all_goals
  go_enter Tryz.func43,Tryz.ntmps43
  go_wp2_with fail
  refine cg0 HO HB fun wq HB => ?_
  go_wp2_with fail
  refine cg0 H1 HB fun wq HB => ?_
  go_wp2_with fail
  exact bodyPost_ret (v:=.tuple #[.int .u64 _,.int .i64 _]) (by simp [results,Tryz.results43,go_sem]) rfl ⟨rfl,aa HB⟩
theorem ac1 {s tt oo : ByteArray} {a r wt wo : Int} {P : Value} (hs : s = ⟨#[102,51,50,46,100,101,109,111,116,101,95,102,54,52]⟩ ∨ s = ⟨#[102,54,52,46,112,114,111,109,111,116,101,95,102,51,50]⟩) (hT : s.extract 0 3 = tt) (HO : Ct 31 #[.string s] (.string oo)) (HW : Ct 42 #[.string tt] (.int .i64 wt)) (HV : Ct 42 #[.string oo] (.int .i64 wo)) (H1 : Ct 101 #[.int .i64 wo,.int .u64 a] (P)) (H2 : Ct 100 #[.int .i64 wt,P] (.int .u64 r)) : Ct 43 #[.string s,.int .u64 a] (.tuple #[.int .u64 r,.int .i64 0]):=by
 refine ab (fun W => ?_)
 have HB:=rf W
 rcases hs with rfl | rfl
 all_goals
  go_enter Tryz.func43,Tryz.ntmps43
  go_wp2_with fail
  refine cg0 HO HB fun wq HB => ?_
  go_wp2_with fail
  refine cg0 HW HB fun wq HB => ?_
  go_wp2_with fail
  refine cg0 HV HB fun wq HB => ?_
  go_wp2_with fail
  refine cg0 H1 HB fun wq HB => ?_
  go_wp2_with fail
  refine cg0 H2 HB fun wq HB => ?_
  go_wp2_with fail
  exact bodyPost_ret (v:=.tuple #[.int .u64 _,.int .i64 _]) (by simp [results,Tryz.results43,go_sem]) rfl ⟨rfl,aa HB⟩
theorem gJ {s tt oo : ByteArray} {a r wt wo : Int} {g : Bool} (hs : s = ⟨#[102,51,50,46,99,111,110,118,101,114,116,95,105,51,50,95,115]⟩ ∧ g = true ∨ s = ⟨#[102,51,50,46,99,111,110,118,101,114,116,95,105,51,50,95,117]⟩ ∧ g = false ∨ s = ⟨#[102,51,50,46,99,111,110,118,101,114,116,95,105,54,52,95,115]⟩ ∧ g = true ∨ s = ⟨#[102,51,50,46,99,111,110,118,101,114,116,95,105,54,52,95,117]⟩ ∧ g = false ∨ s = ⟨#[102,54,52,46,99,111,110,118,101,114,116,95,105,51,50,95,115]⟩ ∧ g = true ∨ s = ⟨#[102,54,52,46,99,111,110,118,101,114,116,95,105,51,50,95,117]⟩ ∧ g = false ∨ s = ⟨#[102,54,52,46,99,111,110,118,101,114,116,95,105,54,52,95,115]⟩ ∧ g = true ∨ s = ⟨#[102,54,52,46,99,111,110,118,101,114,116,95,105,54,52,95,117]⟩ ∧ g = false) (hT : s.extract 0 3 = tt) (HO : Ct 31 #[.string s] (.string oo)) (HW : Ct 42 #[.string tt] (.int .i64 wt)) (HV : Ct 42 #[.string oo] (.int .i64 wo)) (H1 : Ct 102 #[.int .i64 wt,.int .i64 wo,.int .u64 a,.bool g] (.int .u64 r)) : Ct 43 #[.string s,.int .u64 a] (.tuple #[.int .u64 r,.int .i64 0]):=by
 refine ab (fun W => ?_)
 have HB:=rf W
 rcases hs with ⟨rfl,rfl⟩ | ⟨rfl,rfl⟩ | ⟨rfl,rfl⟩ | ⟨rfl,rfl⟩ | ⟨rfl,rfl⟩ | ⟨rfl,rfl⟩ | ⟨rfl,rfl⟩ | ⟨rfl,rfl⟩
 all_goals
  go_enter Tryz.func43,Tryz.ntmps43
  go_wp2_with fail
  refine cg0 HO HB fun wq HB => ?_
  go_wp2_with fail
  refine cg0 HW HB fun wq HB => ?_
  go_wp2_with fail
  refine cg0 HV HB fun wq HB => ?_
  go_wp2_with fail
  refine cg0 H1 HB fun wq HB => ?_
  go_wp2_with fail
  exact bodyPost_ret (v:=.tuple #[.int .u64 _,.int .i64 _]) (by simp [results,Tryz.results43,go_sem]) rfl ⟨rfl,aa HB⟩
end Go.Proofs.YtpbgpdmffejdgaaGreatDoor
