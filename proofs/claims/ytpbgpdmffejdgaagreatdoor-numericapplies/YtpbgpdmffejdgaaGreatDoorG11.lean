/- MRnD. -/
import Derived.Test.YtpbgpdmffejdgaaGreatDoorG05
namespace Go.Proofs.YtpbgpdmffejdgaaGreatDoor
set_option maxRecDepth 100000
open Go.RowKit
def uV (P : Program) : Nat → Machine → Option Machine
 | 0,_ => none
 | n + 1,m => match m.gs[0]? with
  | some g => match g.frame.mode with
   | .returning => some m
   | _ => match step P m with
    | .next m' => uV P n m'
    | _ => none
  | none => none
theorem kQ {P : Program} : ∀ (n : Nat) (m m' : Machine),uV P n m = some m' → Steps P m m'
 | 0,_,_,h => by simp [uV] at h
 | n + 1,m,m',h => by
  unfold uV at h
  split at h
  ·split at h
   ·injection h with h
    subst h
    exact Steps.refl _ _
   ·split at h
    ·rename_i hs
     exact Steps.head hs (kQ n _ _ h)
    ·cases h
  ·cases h
def mB (P : Program) (n : Nat) (fr : Frame) (cs : List Frame) (w : World) : Frame:=((uV P n (lone fr cs w)).bind fun m => (m.gs[0]?).map (·.frame)).getD fr
theorem aF {f : FuncId} {fn : Func} {args : Array Value} {v : Value} (n : Nat) (hf : Tryz.prog.funcs[f]? = some fn)
 (h1 : ∀ cs w,uV Tryz.prog n (lone (Frame.enter Tryz.prog f args .normal) cs w) = some (lone (mB Tryz.prog n (Frame.enter Tryz.prog f args .normal) cs w) cs w))
 (h2 : ∀ cs w,(mB Tryz.prog n (Frame.enter Tryz.prog f args .normal) cs w).fn = f ∧ (mB Tryz.prog n (Frame.enter Tryz.prog f args .normal) cs w).mode = .returning ∧ (mB Tryz.prog n (Frame.enter Tryz.prog f args .normal) cs w).defers = [] ∧ (mB Tryz.prog n (Frame.enter Tryz.prog f args .normal) cs w).kind = .normal)
 (h3 : ∀ cs w,(results fn (mB Tryz.prog n (Frame.enter Tryz.prog f args .normal) cs w).tmps).run Tryz.prog w = .ok v w) : Ct f args v:=by
 refine ab (fun W cs => ?_)
 obtain ⟨e1,e2,e3,e4⟩:=h2 cs W
 exact ⟨.returned v,W,_,⟨rfl,Below.refl _ _⟩,kQ _ _ _ (h1 cs W),e1,e2,e3,e4,fn,by rw [e1]; exact hf,h3 cs W⟩
def Op (p : ByteArray × ByteArray) : Prop:=Ct 31 #[.string p.1] (.string p.2)
def cj {α : Type} (P : α → Prop) : List α → Prop
 | [] => True
 | a :: l => P a ∧ cj P l
theorem cj.mem {α : Type} {P : α → Prop} : ∀ {l : List α},cj P l → ∀ a ∈ l,P a
 | [],_,_,h => by cases h
 | b :: l,h,a,ha => by
  rcases List.mem_cons.1 ha with rfl | ha
  ·exact h.1
  ·exact cj.mem h.2 a ha
def aou : List (ByteArray × ByteArray):=[(⟨#[105,51,50,46,101,113,122]⟩,⟨#[105,51,50]⟩),(⟨#[105,51,50,46,101,113]⟩,⟨#[105,51,50]⟩),(⟨#[105,51,50,46,110,101]⟩,⟨#[105,51,50]⟩),(⟨#[105,51,50,46,108,116,95,115]⟩,⟨#[105,51,50]⟩),(⟨#[105,51,50,46,108,116,95,117]⟩,⟨#[105,51,50]⟩),(⟨#[105,51,50,46,103,116,95,115]⟩,⟨#[105,51,50]⟩),(⟨#[105,51,50,46,103,116,95,117]⟩,⟨#[105,51,50]⟩),(⟨#[105,51,50,46,108,101,95,115]⟩,⟨#[105,51,50]⟩)]
theorem jG : cj Op aou:=by
 unfold aou
 repeat (refine ⟨aF 300 Tryz.func31 (fun _ _ => by kernel_rfl) (fun _ _ => ⟨by kernel_rfl,by kernel_rfl,by kernel_rfl,by kernel_rfl⟩) (fun _ _ => by kernel_rfl),?_⟩)
 exact trivial
def aov : List (ByteArray × ByteArray):=[(⟨#[105,51,50,46,108,101,95,117]⟩,⟨#[105,51,50]⟩),(⟨#[105,51,50,46,103,101,95,115]⟩,⟨#[105,51,50]⟩),(⟨#[105,51,50,46,103,101,95,117]⟩,⟨#[105,51,50]⟩),(⟨#[105,54,52,46,101,113,122]⟩,⟨#[105,54,52]⟩),(⟨#[105,54,52,46,101,113]⟩,⟨#[105,54,52]⟩),(⟨#[105,54,52,46,110,101]⟩,⟨#[105,54,52]⟩),(⟨#[105,54,52,46,108,116,95,115]⟩,⟨#[105,54,52]⟩),(⟨#[105,54,52,46,108,116,95,117]⟩,⟨#[105,54,52]⟩)]
theorem jH : cj Op aov:=by
 unfold aov
 repeat (refine ⟨aF 300 Tryz.func31 (fun _ _ => by kernel_rfl) (fun _ _ => ⟨by kernel_rfl,by kernel_rfl,by kernel_rfl,by kernel_rfl⟩) (fun _ _ => by kernel_rfl),?_⟩)
 exact trivial
def aow : List (ByteArray × ByteArray):=[(⟨#[105,54,52,46,103,116,95,115]⟩,⟨#[105,54,52]⟩),(⟨#[105,54,52,46,103,116,95,117]⟩,⟨#[105,54,52]⟩),(⟨#[105,54,52,46,108,101,95,115]⟩,⟨#[105,54,52]⟩),(⟨#[105,54,52,46,108,101,95,117]⟩,⟨#[105,54,52]⟩),(⟨#[105,54,52,46,103,101,95,115]⟩,⟨#[105,54,52]⟩),(⟨#[105,54,52,46,103,101,95,117]⟩,⟨#[105,54,52]⟩),(⟨#[102,51,50,46,101,113]⟩,⟨#[102,51,50]⟩),(⟨#[102,51,50,46,110,101]⟩,⟨#[102,51,50]⟩)]
theorem jI : cj Op aow:=by
 unfold aow
 repeat (refine ⟨aF 300 Tryz.func31 (fun _ _ => by kernel_rfl) (fun _ _ => ⟨by kernel_rfl,by kernel_rfl,by kernel_rfl,by kernel_rfl⟩) (fun _ _ => by kernel_rfl),?_⟩)
 exact trivial
def aox : List (ByteArray × ByteArray):=[(⟨#[102,51,50,46,108,116]⟩,⟨#[102,51,50]⟩),(⟨#[102,51,50,46,103,116]⟩,⟨#[102,51,50]⟩),(⟨#[102,51,50,46,108,101]⟩,⟨#[102,51,50]⟩),(⟨#[102,51,50,46,103,101]⟩,⟨#[102,51,50]⟩),(⟨#[102,54,52,46,101,113]⟩,⟨#[102,54,52]⟩),(⟨#[102,54,52,46,110,101]⟩,⟨#[102,54,52]⟩),(⟨#[102,54,52,46,108,116]⟩,⟨#[102,54,52]⟩),(⟨#[102,54,52,46,103,116]⟩,⟨#[102,54,52]⟩)]
theorem jJ : cj Op aox:=by
 unfold aox
 repeat (refine ⟨aF 300 Tryz.func31 (fun _ _ => by kernel_rfl) (fun _ _ => ⟨by kernel_rfl,by kernel_rfl,by kernel_rfl,by kernel_rfl⟩) (fun _ _ => by kernel_rfl),?_⟩)
 exact trivial
def aoy : List (ByteArray × ByteArray):=[(⟨#[102,54,52,46,108,101]⟩,⟨#[102,54,52]⟩),(⟨#[102,54,52,46,103,101]⟩,⟨#[102,54,52]⟩),(⟨#[105,51,50,46,99,108,122]⟩,⟨#[105,51,50]⟩),(⟨#[105,51,50,46,99,116,122]⟩,⟨#[105,51,50]⟩),(⟨#[105,51,50,46,112,111,112,99,110,116]⟩,⟨#[105,51,50]⟩),(⟨#[105,51,50,46,97,100,100]⟩,⟨#[105,51,50]⟩),(⟨#[105,51,50,46,115,117,98]⟩,⟨#[105,51,50]⟩),(⟨#[105,51,50,46,109,117,108]⟩,⟨#[105,51,50]⟩)]
theorem jK : cj Op aoy:=by
 unfold aoy
 repeat (refine ⟨aF 300 Tryz.func31 (fun _ _ => by kernel_rfl) (fun _ _ => ⟨by kernel_rfl,by kernel_rfl,by kernel_rfl,by kernel_rfl⟩) (fun _ _ => by kernel_rfl),?_⟩)
 exact trivial
def aoz : List (ByteArray × ByteArray):=[(⟨#[105,51,50,46,100,105,118,95,115]⟩,⟨#[105,51,50]⟩),(⟨#[105,51,50,46,100,105,118,95,117]⟩,⟨#[105,51,50]⟩),(⟨#[105,51,50,46,114,101,109,95,115]⟩,⟨#[105,51,50]⟩),(⟨#[105,51,50,46,114,101,109,95,117]⟩,⟨#[105,51,50]⟩),(⟨#[105,51,50,46,97,110,100]⟩,⟨#[105,51,50]⟩),(⟨#[105,51,50,46,111,114]⟩,⟨#[105,51,50]⟩),(⟨#[105,51,50,46,120,111,114]⟩,⟨#[105,51,50]⟩),(⟨#[105,51,50,46,115,104,108]⟩,⟨#[105,51,50]⟩)]
theorem jL : cj Op aoz:=by
 unfold aoz
 repeat (refine ⟨aF 300 Tryz.func31 (fun _ _ => by kernel_rfl) (fun _ _ => ⟨by kernel_rfl,by kernel_rfl,by kernel_rfl,by kernel_rfl⟩) (fun _ _ => by kernel_rfl),?_⟩)
 exact trivial
def ao0 : List (ByteArray × ByteArray):=[(⟨#[105,51,50,46,115,104,114,95,115]⟩,⟨#[105,51,50]⟩),(⟨#[105,51,50,46,115,104,114,95,117]⟩,⟨#[105,51,50]⟩),(⟨#[105,51,50,46,114,111,116,108]⟩,⟨#[105,51,50]⟩),(⟨#[105,51,50,46,114,111,116,114]⟩,⟨#[105,51,50]⟩),(⟨#[105,54,52,46,99,108,122]⟩,⟨#[105,54,52]⟩),(⟨#[105,54,52,46,99,116,122]⟩,⟨#[105,54,52]⟩),(⟨#[105,54,52,46,112,111,112,99,110,116]⟩,⟨#[105,54,52]⟩),(⟨#[105,54,52,46,97,100,100]⟩,⟨#[105,54,52]⟩)]
theorem jM : cj Op ao0:=by
 unfold ao0
 repeat (refine ⟨aF 300 Tryz.func31 (fun _ _ => by kernel_rfl) (fun _ _ => ⟨by kernel_rfl,by kernel_rfl,by kernel_rfl,by kernel_rfl⟩) (fun _ _ => by kernel_rfl),?_⟩)
 exact trivial
def ao1 : List (ByteArray × ByteArray):=[(⟨#[105,54,52,46,115,117,98]⟩,⟨#[105,54,52]⟩),(⟨#[105,54,52,46,109,117,108]⟩,⟨#[105,54,52]⟩),(⟨#[105,54,52,46,100,105,118,95,115]⟩,⟨#[105,54,52]⟩),(⟨#[105,54,52,46,100,105,118,95,117]⟩,⟨#[105,54,52]⟩),(⟨#[105,54,52,46,114,101,109,95,115]⟩,⟨#[105,54,52]⟩),(⟨#[105,54,52,46,114,101,109,95,117]⟩,⟨#[105,54,52]⟩),(⟨#[105,54,52,46,97,110,100]⟩,⟨#[105,54,52]⟩),(⟨#[105,54,52,46,111,114]⟩,⟨#[105,54,52]⟩)]
theorem jN : cj Op ao1:=by
 unfold ao1
 repeat (refine ⟨aF 300 Tryz.func31 (fun _ _ => by kernel_rfl) (fun _ _ => ⟨by kernel_rfl,by kernel_rfl,by kernel_rfl,by kernel_rfl⟩) (fun _ _ => by kernel_rfl),?_⟩)
 exact trivial
def ao2 : List (ByteArray × ByteArray):=[(⟨#[105,54,52,46,120,111,114]⟩,⟨#[105,54,52]⟩),(⟨#[105,54,52,46,115,104,108]⟩,⟨#[105,54,52]⟩),(⟨#[105,54,52,46,115,104,114,95,115]⟩,⟨#[105,54,52]⟩),(⟨#[105,54,52,46,115,104,114,95,117]⟩,⟨#[105,54,52]⟩),(⟨#[105,54,52,46,114,111,116,108]⟩,⟨#[105,54,52]⟩),(⟨#[105,54,52,46,114,111,116,114]⟩,⟨#[105,54,52]⟩),(⟨#[102,51,50,46,97,98,115]⟩,⟨#[102,51,50]⟩),(⟨#[102,51,50,46,110,101,103]⟩,⟨#[102,51,50]⟩)]
theorem jO : cj Op ao2:=by
 unfold ao2
 repeat (refine ⟨aF 300 Tryz.func31 (fun _ _ => by kernel_rfl) (fun _ _ => ⟨by kernel_rfl,by kernel_rfl,by kernel_rfl,by kernel_rfl⟩) (fun _ _ => by kernel_rfl),?_⟩)
 exact trivial
def ao3 : List (ByteArray × ByteArray):=[(⟨#[102,51,50,46,99,101,105,108]⟩,⟨#[102,51,50]⟩),(⟨#[102,51,50,46,102,108,111,111,114]⟩,⟨#[102,51,50]⟩),(⟨#[102,51,50,46,116,114,117,110,99]⟩,⟨#[102,51,50]⟩),(⟨#[102,51,50,46,110,101,97,114,101,115,116]⟩,⟨#[102,51,50]⟩),(⟨#[102,51,50,46,115,113,114,116]⟩,⟨#[102,51,50]⟩),(⟨#[102,51,50,46,97,100,100]⟩,⟨#[102,51,50]⟩),(⟨#[102,51,50,46,115,117,98]⟩,⟨#[102,51,50]⟩),(⟨#[102,51,50,46,109,117,108]⟩,⟨#[102,51,50]⟩)]
theorem jP : cj Op ao3:=by
 unfold ao3
 repeat (refine ⟨aF 300 Tryz.func31 (fun _ _ => by kernel_rfl) (fun _ _ => ⟨by kernel_rfl,by kernel_rfl,by kernel_rfl,by kernel_rfl⟩) (fun _ _ => by kernel_rfl),?_⟩)
 exact trivial
def ai8 : List (ByteArray × ByteArray):=[(⟨#[102,51,50,46,100,105,118]⟩,⟨#[102,51,50]⟩),(⟨#[102,51,50,46,109,105,110]⟩,⟨#[102,51,50]⟩),(⟨#[102,51,50,46,109,97,120]⟩,⟨#[102,51,50]⟩),(⟨#[102,51,50,46,99,111,112,121,115,105,103,110]⟩,⟨#[102,51,50]⟩),(⟨#[102,54,52,46,97,98,115]⟩,⟨#[102,54,52]⟩),(⟨#[102,54,52,46,110,101,103]⟩,⟨#[102,54,52]⟩),(⟨#[102,54,52,46,99,101,105,108]⟩,⟨#[102,54,52]⟩),(⟨#[102,54,52,46,102,108,111,111,114]⟩,⟨#[102,54,52]⟩)]
theorem gk : cj Op ai8:=by
 unfold ai8
 repeat (refine ⟨aF 300 Tryz.func31 (fun _ _ => by kernel_rfl) (fun _ _ => ⟨by kernel_rfl,by kernel_rfl,by kernel_rfl,by kernel_rfl⟩) (fun _ _ => by kernel_rfl),?_⟩)
 exact trivial
def ai9 : List (ByteArray × ByteArray):=[(⟨#[102,54,52,46,116,114,117,110,99]⟩,⟨#[102,54,52]⟩),(⟨#[102,54,52,46,110,101,97,114,101,115,116]⟩,⟨#[102,54,52]⟩),(⟨#[102,54,52,46,115,113,114,116]⟩,⟨#[102,54,52]⟩),(⟨#[102,54,52,46,97,100,100]⟩,⟨#[102,54,52]⟩),(⟨#[102,54,52,46,115,117,98]⟩,⟨#[102,54,52]⟩),(⟨#[102,54,52,46,109,117,108]⟩,⟨#[102,54,52]⟩),(⟨#[102,54,52,46,100,105,118]⟩,⟨#[102,54,52]⟩),(⟨#[102,54,52,46,109,105,110]⟩,⟨#[102,54,52]⟩)]
theorem gl : cj Op ai9:=by
 unfold ai9
 repeat (refine ⟨aF 300 Tryz.func31 (fun _ _ => by kernel_rfl) (fun _ _ => ⟨by kernel_rfl,by kernel_rfl,by kernel_rfl,by kernel_rfl⟩) (fun _ _ => by kernel_rfl),?_⟩)
 exact trivial
def aja : List (ByteArray × ByteArray):=[(⟨#[102,54,52,46,109,97,120]⟩,⟨#[102,54,52]⟩),(⟨#[102,54,52,46,99,111,112,121,115,105,103,110]⟩,⟨#[102,54,52]⟩),(⟨#[105,51,50,46,119,114,97,112,95,105,54,52]⟩,⟨#[105,54,52]⟩),(⟨#[105,51,50,46,116,114,117,110,99,95,102,51,50,95,115]⟩,⟨#[102,51,50]⟩),(⟨#[105,51,50,46,116,114,117,110,99,95,102,51,50,95,117]⟩,⟨#[102,51,50]⟩),(⟨#[105,51,50,46,116,114,117,110,99,95,102,54,52,95,115]⟩,⟨#[102,54,52]⟩),(⟨#[105,51,50,46,116,114,117,110,99,95,102,54,52,95,117]⟩,⟨#[102,54,52]⟩),(⟨#[105,54,52,46,101,120,116,101,110,100,95,105,51,50,95,115]⟩,⟨#[105,51,50]⟩)]
theorem dH : cj Op aja:=by
 unfold aja
 repeat (refine ⟨aF 300 Tryz.func31 (fun _ _ => by kernel_rfl) (fun _ _ => ⟨by kernel_rfl,by kernel_rfl,by kernel_rfl,by kernel_rfl⟩) (fun _ _ => by kernel_rfl),?_⟩)
 exact trivial
def ajb : List (ByteArray × ByteArray):=[(⟨#[105,54,52,46,101,120,116,101,110,100,95,105,51,50,95,117]⟩,⟨#[105,51,50]⟩),(⟨#[105,54,52,46,116,114,117,110,99,95,102,51,50,95,115]⟩,⟨#[102,51,50]⟩),(⟨#[105,54,52,46,116,114,117,110,99,95,102,51,50,95,117]⟩,⟨#[102,51,50]⟩),(⟨#[105,54,52,46,116,114,117,110,99,95,102,54,52,95,115]⟩,⟨#[102,54,52]⟩),(⟨#[105,54,52,46,116,114,117,110,99,95,102,54,52,95,117]⟩,⟨#[102,54,52]⟩),(⟨#[102,51,50,46,99,111,110,118,101,114,116,95,105,51,50,95,115]⟩,⟨#[105,51,50]⟩),(⟨#[102,51,50,46,99,111,110,118,101,114,116,95,105,51,50,95,117]⟩,⟨#[105,51,50]⟩),(⟨#[102,51,50,46,99,111,110,118,101,114,116,95,105,54,52,95,115]⟩,⟨#[105,54,52]⟩)]
theorem cY : cj Op ajb:=by
 unfold ajb
 repeat (refine ⟨aF 300 Tryz.func31 (fun _ _ => by kernel_rfl) (fun _ _ => ⟨by kernel_rfl,by kernel_rfl,by kernel_rfl,by kernel_rfl⟩) (fun _ _ => by kernel_rfl),?_⟩)
 exact trivial
def ajc : List (ByteArray × ByteArray):=[(⟨#[102,51,50,46,99,111,110,118,101,114,116,95,105,54,52,95,117]⟩,⟨#[105,54,52]⟩),(⟨#[102,51,50,46,100,101,109,111,116,101,95,102,54,52]⟩,⟨#[102,54,52]⟩),(⟨#[102,54,52,46,99,111,110,118,101,114,116,95,105,51,50,95,115]⟩,⟨#[105,51,50]⟩),(⟨#[102,54,52,46,99,111,110,118,101,114,116,95,105,51,50,95,117]⟩,⟨#[105,51,50]⟩),(⟨#[102,54,52,46,99,111,110,118,101,114,116,95,105,54,52,95,115]⟩,⟨#[105,54,52]⟩),(⟨#[102,54,52,46,99,111,110,118,101,114,116,95,105,54,52,95,117]⟩,⟨#[105,54,52]⟩),(⟨#[102,54,52,46,112,114,111,109,111,116,101,95,102,51,50]⟩,⟨#[102,51,50]⟩),(⟨#[105,51,50,46,114,101,105,110,116,101,114,112,114,101,116,95,102,51,50]⟩,⟨#[102,51,50]⟩)]
theorem cZ : cj Op ajc:=by
 unfold ajc
 repeat (refine ⟨aF 300 Tryz.func31 (fun _ _ => by kernel_rfl) (fun _ _ => ⟨by kernel_rfl,by kernel_rfl,by kernel_rfl,by kernel_rfl⟩) (fun _ _ => by kernel_rfl),?_⟩)
 exact trivial
def ajd : List (ByteArray × ByteArray):=[(⟨#[105,54,52,46,114,101,105,110,116,101,114,112,114,101,116,95,102,54,52]⟩,⟨#[102,54,52]⟩),(⟨#[102,51,50,46,114,101,105,110,116,101,114,112,114,101,116,95,105,51,50]⟩,⟨#[105,51,50]⟩),(⟨#[102,54,52,46,114,101,105,110,116,101,114,112,114,101,116,95,105,54,52]⟩,⟨#[105,54,52]⟩),(⟨#[105,51,50,46,116,114,117,110,99,95,115,97,116,95,102,51,50,95,115]⟩,⟨#[102,51,50]⟩),(⟨#[105,51,50,46,116,114,117,110,99,95,115,97,116,95,102,51,50,95,117]⟩,⟨#[102,51,50]⟩),(⟨#[105,51,50,46,116,114,117,110,99,95,115,97,116,95,102,54,52,95,115]⟩,⟨#[102,54,52]⟩),(⟨#[105,51,50,46,116,114,117,110,99,95,115,97,116,95,102,54,52,95,117]⟩,⟨#[102,54,52]⟩),(⟨#[105,54,52,46,116,114,117,110,99,95,115,97,116,95,102,51,50,95,115]⟩,⟨#[102,51,50]⟩)]
theorem da : cj Op ajd:=by
 unfold ajd
 repeat (refine ⟨aF 300 Tryz.func31 (fun _ _ => by kernel_rfl) (fun _ _ => ⟨by kernel_rfl,by kernel_rfl,by kernel_rfl,by kernel_rfl⟩) (fun _ _ => by kernel_rfl),?_⟩)
 exact trivial
def aje : List (ByteArray × ByteArray):=[(⟨#[105,54,52,46,116,114,117,110,99,95,115,97,116,95,102,51,50,95,117]⟩,⟨#[102,51,50]⟩),(⟨#[105,54,52,46,116,114,117,110,99,95,115,97,116,95,102,54,52,95,115]⟩,⟨#[102,54,52]⟩),(⟨#[105,54,52,46,116,114,117,110,99,95,115,97,116,95,102,54,52,95,117]⟩,⟨#[102,54,52]⟩)]
theorem jq : cj Op aje:=by
 unfold aje
 repeat (refine ⟨aF 300 Tryz.func31 (fun _ _ => by kernel_rfl) (fun _ _ => ⟨by kernel_rfl,by kernel_rfl,by kernel_rfl,by kernel_rfl⟩) (fun _ _ => by kernel_rfl),?_⟩)
 exact trivial
end Go.Proofs.YtpbgpdmffejdgaaGreatDoor
