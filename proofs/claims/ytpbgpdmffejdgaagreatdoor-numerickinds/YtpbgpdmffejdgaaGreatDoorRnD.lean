/- Closed calls by the kernel. -/
import Derived.Test.YtpbgpdmffejdgaaGreatDoorNuA
namespace Go.Proofs.YtpbgpdmffejdgaaGreatDoor
open Go.RowKit

/-- The machine goes on till the frame is to be left. -/
def goTo (P : Program) : Nat → Machine → Option Machine
  | 0, _ => none
  | n + 1, m => match m.gs[0]? with
    | some g => match g.frame.mode with
      | .returning => some m
      | _ => match step P m with
        | .next m' => goTo P n m'
        | _ => none
    | none => none
theorem goTo_steps {P : Program} : ∀ (n : Nat) (m m' : Machine), goTo P n m = some m' → Steps P m m'
  | 0, _, _, h => by simp [goTo] at h
  | n + 1, m, m', h => by
    unfold goTo at h
    split at h
    · split at h
      · injection h with h
        subst h
        exact Steps.refl _ _
      · split at h
        · rename_i hs
          exact Steps.head hs (goTo_steps n _ _ h)
        · cases h
    · cases h
def lastF (P : Program) (n : Nat) (fr : Frame) (cs : List Frame) (w : World) : Frame := ((goTo P n (lone fr cs w)).bind fun m => (m.gs[0]?).map (·.frame)).getD fr
theorem calls_goTo {f : FuncId} {fn : Func} {args : Array Value} {v : Value} (n : Nat) (hf : Tryz.prog.funcs[f]? = some fn)
    (h1 : ∀ cs w, goTo Tryz.prog n (lone (Frame.enter Tryz.prog f args .normal) cs w) = some (lone (lastF Tryz.prog n (Frame.enter Tryz.prog f args .normal) cs w) cs w))
    (h2 : ∀ cs w, (lastF Tryz.prog n (Frame.enter Tryz.prog f args .normal) cs w).fn = f ∧ (lastF Tryz.prog n (Frame.enter Tryz.prog f args .normal) cs w).mode = .returning ∧ (lastF Tryz.prog n (Frame.enter Tryz.prog f args .normal) cs w).defers = [] ∧ (lastF Tryz.prog n (Frame.enter Tryz.prog f args .normal) cs w).kind = .normal)
    (h3 : ∀ cs w, (results fn (lastF Tryz.prog n (Frame.enter Tryz.prog f args .normal) cs w).tmps).run Tryz.prog w = .ok v w) : Ct f args v := by
  refine hide (fun W cs => ?_)
  obtain ⟨e1, e2, e3, e4⟩ := h2 cs W
  exact ⟨.returned v, W, _, ⟨rfl, Below.refl _ _⟩, goTo_steps _ _ _ (h1 cs W), e1, e2, e3, e4, fn, by rw [e1]; exact hf, h3 cs W⟩
/-- A string as bytes. -/
def Op (p : ByteArray × ByteArray) : Prop := Ct 31 #[.string p.1] (.string p.2)
def AllP {α : Type} (P : α → Prop) : List α → Prop
  | [] => True
  | a :: l => P a ∧ AllP P l
theorem AllP.mem {α : Type} {P : α → Prop} : ∀ {l : List α}, AllP P l → ∀ a ∈ l, P a
  | [], _, _, h => by cases h
  | b :: l, h, a, ha => by
    rcases List.mem_cons.1 ha with rfl | ha
    · exact h.1
    · exact AllP.mem h.2 a ha
def opT0 : List (ByteArray × ByteArray) := [(⟨#[105, 51, 50, 46, 101, 113, 122]⟩, ⟨#[105, 51, 50]⟩), (⟨#[105, 51, 50, 46, 101, 113]⟩, ⟨#[105, 51, 50]⟩), (⟨#[105, 51, 50, 46, 110, 101]⟩, ⟨#[105, 51, 50]⟩), (⟨#[105, 51, 50, 46, 108, 116, 95, 115]⟩, ⟨#[105, 51, 50]⟩), (⟨#[105, 51, 50, 46, 108, 116, 95, 117]⟩, ⟨#[105, 51, 50]⟩), (⟨#[105, 51, 50, 46, 103, 116, 95, 115]⟩, ⟨#[105, 51, 50]⟩), (⟨#[105, 51, 50, 46, 103, 116, 95, 117]⟩, ⟨#[105, 51, 50]⟩), (⟨#[105, 51, 50, 46, 108, 101, 95, 115]⟩, ⟨#[105, 51, 50]⟩)]
set_option maxRecDepth 100000 in
theorem opd_0 : AllP Op opT0 := by
  unfold opT0
  repeat (refine ⟨calls_goTo 300 Tryz.func31 (fun _ _ => by kernel_rfl) (fun _ _ => ⟨by kernel_rfl, by kernel_rfl, by kernel_rfl, by kernel_rfl⟩) (fun _ _ => by kernel_rfl), ?_⟩)
  exact trivial
def opT1 : List (ByteArray × ByteArray) := [(⟨#[105, 51, 50, 46, 108, 101, 95, 117]⟩, ⟨#[105, 51, 50]⟩), (⟨#[105, 51, 50, 46, 103, 101, 95, 115]⟩, ⟨#[105, 51, 50]⟩), (⟨#[105, 51, 50, 46, 103, 101, 95, 117]⟩, ⟨#[105, 51, 50]⟩), (⟨#[105, 54, 52, 46, 101, 113, 122]⟩, ⟨#[105, 54, 52]⟩), (⟨#[105, 54, 52, 46, 101, 113]⟩, ⟨#[105, 54, 52]⟩), (⟨#[105, 54, 52, 46, 110, 101]⟩, ⟨#[105, 54, 52]⟩), (⟨#[105, 54, 52, 46, 108, 116, 95, 115]⟩, ⟨#[105, 54, 52]⟩), (⟨#[105, 54, 52, 46, 108, 116, 95, 117]⟩, ⟨#[105, 54, 52]⟩)]
set_option maxRecDepth 100000 in
theorem opd_1 : AllP Op opT1 := by
  unfold opT1
  repeat (refine ⟨calls_goTo 300 Tryz.func31 (fun _ _ => by kernel_rfl) (fun _ _ => ⟨by kernel_rfl, by kernel_rfl, by kernel_rfl, by kernel_rfl⟩) (fun _ _ => by kernel_rfl), ?_⟩)
  exact trivial
def opT2 : List (ByteArray × ByteArray) := [(⟨#[105, 54, 52, 46, 103, 116, 95, 115]⟩, ⟨#[105, 54, 52]⟩), (⟨#[105, 54, 52, 46, 103, 116, 95, 117]⟩, ⟨#[105, 54, 52]⟩), (⟨#[105, 54, 52, 46, 108, 101, 95, 115]⟩, ⟨#[105, 54, 52]⟩), (⟨#[105, 54, 52, 46, 108, 101, 95, 117]⟩, ⟨#[105, 54, 52]⟩), (⟨#[105, 54, 52, 46, 103, 101, 95, 115]⟩, ⟨#[105, 54, 52]⟩), (⟨#[105, 54, 52, 46, 103, 101, 95, 117]⟩, ⟨#[105, 54, 52]⟩), (⟨#[102, 51, 50, 46, 101, 113]⟩, ⟨#[102, 51, 50]⟩), (⟨#[102, 51, 50, 46, 110, 101]⟩, ⟨#[102, 51, 50]⟩)]
set_option maxRecDepth 100000 in
theorem opd_2 : AllP Op opT2 := by
  unfold opT2
  repeat (refine ⟨calls_goTo 300 Tryz.func31 (fun _ _ => by kernel_rfl) (fun _ _ => ⟨by kernel_rfl, by kernel_rfl, by kernel_rfl, by kernel_rfl⟩) (fun _ _ => by kernel_rfl), ?_⟩)
  exact trivial
def opT3 : List (ByteArray × ByteArray) := [(⟨#[102, 51, 50, 46, 108, 116]⟩, ⟨#[102, 51, 50]⟩), (⟨#[102, 51, 50, 46, 103, 116]⟩, ⟨#[102, 51, 50]⟩), (⟨#[102, 51, 50, 46, 108, 101]⟩, ⟨#[102, 51, 50]⟩), (⟨#[102, 51, 50, 46, 103, 101]⟩, ⟨#[102, 51, 50]⟩), (⟨#[102, 54, 52, 46, 101, 113]⟩, ⟨#[102, 54, 52]⟩), (⟨#[102, 54, 52, 46, 110, 101]⟩, ⟨#[102, 54, 52]⟩), (⟨#[102, 54, 52, 46, 108, 116]⟩, ⟨#[102, 54, 52]⟩), (⟨#[102, 54, 52, 46, 103, 116]⟩, ⟨#[102, 54, 52]⟩)]
set_option maxRecDepth 100000 in
theorem opd_3 : AllP Op opT3 := by
  unfold opT3
  repeat (refine ⟨calls_goTo 300 Tryz.func31 (fun _ _ => by kernel_rfl) (fun _ _ => ⟨by kernel_rfl, by kernel_rfl, by kernel_rfl, by kernel_rfl⟩) (fun _ _ => by kernel_rfl), ?_⟩)
  exact trivial
def opT4 : List (ByteArray × ByteArray) := [(⟨#[102, 54, 52, 46, 108, 101]⟩, ⟨#[102, 54, 52]⟩), (⟨#[102, 54, 52, 46, 103, 101]⟩, ⟨#[102, 54, 52]⟩), (⟨#[105, 51, 50, 46, 99, 108, 122]⟩, ⟨#[105, 51, 50]⟩), (⟨#[105, 51, 50, 46, 99, 116, 122]⟩, ⟨#[105, 51, 50]⟩), (⟨#[105, 51, 50, 46, 112, 111, 112, 99, 110, 116]⟩, ⟨#[105, 51, 50]⟩), (⟨#[105, 51, 50, 46, 97, 100, 100]⟩, ⟨#[105, 51, 50]⟩), (⟨#[105, 51, 50, 46, 115, 117, 98]⟩, ⟨#[105, 51, 50]⟩), (⟨#[105, 51, 50, 46, 109, 117, 108]⟩, ⟨#[105, 51, 50]⟩)]
set_option maxRecDepth 100000 in
theorem opd_4 : AllP Op opT4 := by
  unfold opT4
  repeat (refine ⟨calls_goTo 300 Tryz.func31 (fun _ _ => by kernel_rfl) (fun _ _ => ⟨by kernel_rfl, by kernel_rfl, by kernel_rfl, by kernel_rfl⟩) (fun _ _ => by kernel_rfl), ?_⟩)
  exact trivial
def opT5 : List (ByteArray × ByteArray) := [(⟨#[105, 51, 50, 46, 100, 105, 118, 95, 115]⟩, ⟨#[105, 51, 50]⟩), (⟨#[105, 51, 50, 46, 100, 105, 118, 95, 117]⟩, ⟨#[105, 51, 50]⟩), (⟨#[105, 51, 50, 46, 114, 101, 109, 95, 115]⟩, ⟨#[105, 51, 50]⟩), (⟨#[105, 51, 50, 46, 114, 101, 109, 95, 117]⟩, ⟨#[105, 51, 50]⟩), (⟨#[105, 51, 50, 46, 97, 110, 100]⟩, ⟨#[105, 51, 50]⟩), (⟨#[105, 51, 50, 46, 111, 114]⟩, ⟨#[105, 51, 50]⟩), (⟨#[105, 51, 50, 46, 120, 111, 114]⟩, ⟨#[105, 51, 50]⟩), (⟨#[105, 51, 50, 46, 115, 104, 108]⟩, ⟨#[105, 51, 50]⟩)]
set_option maxRecDepth 100000 in
theorem opd_5 : AllP Op opT5 := by
  unfold opT5
  repeat (refine ⟨calls_goTo 300 Tryz.func31 (fun _ _ => by kernel_rfl) (fun _ _ => ⟨by kernel_rfl, by kernel_rfl, by kernel_rfl, by kernel_rfl⟩) (fun _ _ => by kernel_rfl), ?_⟩)
  exact trivial
def opT6 : List (ByteArray × ByteArray) := [(⟨#[105, 51, 50, 46, 115, 104, 114, 95, 115]⟩, ⟨#[105, 51, 50]⟩), (⟨#[105, 51, 50, 46, 115, 104, 114, 95, 117]⟩, ⟨#[105, 51, 50]⟩), (⟨#[105, 51, 50, 46, 114, 111, 116, 108]⟩, ⟨#[105, 51, 50]⟩), (⟨#[105, 51, 50, 46, 114, 111, 116, 114]⟩, ⟨#[105, 51, 50]⟩), (⟨#[105, 54, 52, 46, 99, 108, 122]⟩, ⟨#[105, 54, 52]⟩), (⟨#[105, 54, 52, 46, 99, 116, 122]⟩, ⟨#[105, 54, 52]⟩), (⟨#[105, 54, 52, 46, 112, 111, 112, 99, 110, 116]⟩, ⟨#[105, 54, 52]⟩), (⟨#[105, 54, 52, 46, 97, 100, 100]⟩, ⟨#[105, 54, 52]⟩)]
set_option maxRecDepth 100000 in
theorem opd_6 : AllP Op opT6 := by
  unfold opT6
  repeat (refine ⟨calls_goTo 300 Tryz.func31 (fun _ _ => by kernel_rfl) (fun _ _ => ⟨by kernel_rfl, by kernel_rfl, by kernel_rfl, by kernel_rfl⟩) (fun _ _ => by kernel_rfl), ?_⟩)
  exact trivial
def opT7 : List (ByteArray × ByteArray) := [(⟨#[105, 54, 52, 46, 115, 117, 98]⟩, ⟨#[105, 54, 52]⟩), (⟨#[105, 54, 52, 46, 109, 117, 108]⟩, ⟨#[105, 54, 52]⟩), (⟨#[105, 54, 52, 46, 100, 105, 118, 95, 115]⟩, ⟨#[105, 54, 52]⟩), (⟨#[105, 54, 52, 46, 100, 105, 118, 95, 117]⟩, ⟨#[105, 54, 52]⟩), (⟨#[105, 54, 52, 46, 114, 101, 109, 95, 115]⟩, ⟨#[105, 54, 52]⟩), (⟨#[105, 54, 52, 46, 114, 101, 109, 95, 117]⟩, ⟨#[105, 54, 52]⟩), (⟨#[105, 54, 52, 46, 97, 110, 100]⟩, ⟨#[105, 54, 52]⟩), (⟨#[105, 54, 52, 46, 111, 114]⟩, ⟨#[105, 54, 52]⟩)]
set_option maxRecDepth 100000 in
theorem opd_7 : AllP Op opT7 := by
  unfold opT7
  repeat (refine ⟨calls_goTo 300 Tryz.func31 (fun _ _ => by kernel_rfl) (fun _ _ => ⟨by kernel_rfl, by kernel_rfl, by kernel_rfl, by kernel_rfl⟩) (fun _ _ => by kernel_rfl), ?_⟩)
  exact trivial
def opT8 : List (ByteArray × ByteArray) := [(⟨#[105, 54, 52, 46, 120, 111, 114]⟩, ⟨#[105, 54, 52]⟩), (⟨#[105, 54, 52, 46, 115, 104, 108]⟩, ⟨#[105, 54, 52]⟩), (⟨#[105, 54, 52, 46, 115, 104, 114, 95, 115]⟩, ⟨#[105, 54, 52]⟩), (⟨#[105, 54, 52, 46, 115, 104, 114, 95, 117]⟩, ⟨#[105, 54, 52]⟩), (⟨#[105, 54, 52, 46, 114, 111, 116, 108]⟩, ⟨#[105, 54, 52]⟩), (⟨#[105, 54, 52, 46, 114, 111, 116, 114]⟩, ⟨#[105, 54, 52]⟩), (⟨#[102, 51, 50, 46, 97, 98, 115]⟩, ⟨#[102, 51, 50]⟩), (⟨#[102, 51, 50, 46, 110, 101, 103]⟩, ⟨#[102, 51, 50]⟩)]
set_option maxRecDepth 100000 in
theorem opd_8 : AllP Op opT8 := by
  unfold opT8
  repeat (refine ⟨calls_goTo 300 Tryz.func31 (fun _ _ => by kernel_rfl) (fun _ _ => ⟨by kernel_rfl, by kernel_rfl, by kernel_rfl, by kernel_rfl⟩) (fun _ _ => by kernel_rfl), ?_⟩)
  exact trivial
def opT9 : List (ByteArray × ByteArray) := [(⟨#[102, 51, 50, 46, 99, 101, 105, 108]⟩, ⟨#[102, 51, 50]⟩), (⟨#[102, 51, 50, 46, 102, 108, 111, 111, 114]⟩, ⟨#[102, 51, 50]⟩), (⟨#[102, 51, 50, 46, 116, 114, 117, 110, 99]⟩, ⟨#[102, 51, 50]⟩), (⟨#[102, 51, 50, 46, 110, 101, 97, 114, 101, 115, 116]⟩, ⟨#[102, 51, 50]⟩), (⟨#[102, 51, 50, 46, 115, 113, 114, 116]⟩, ⟨#[102, 51, 50]⟩), (⟨#[102, 51, 50, 46, 97, 100, 100]⟩, ⟨#[102, 51, 50]⟩), (⟨#[102, 51, 50, 46, 115, 117, 98]⟩, ⟨#[102, 51, 50]⟩), (⟨#[102, 51, 50, 46, 109, 117, 108]⟩, ⟨#[102, 51, 50]⟩)]
set_option maxRecDepth 100000 in
theorem opd_9 : AllP Op opT9 := by
  unfold opT9
  repeat (refine ⟨calls_goTo 300 Tryz.func31 (fun _ _ => by kernel_rfl) (fun _ _ => ⟨by kernel_rfl, by kernel_rfl, by kernel_rfl, by kernel_rfl⟩) (fun _ _ => by kernel_rfl), ?_⟩)
  exact trivial
def opT10 : List (ByteArray × ByteArray) := [(⟨#[102, 51, 50, 46, 100, 105, 118]⟩, ⟨#[102, 51, 50]⟩), (⟨#[102, 51, 50, 46, 109, 105, 110]⟩, ⟨#[102, 51, 50]⟩), (⟨#[102, 51, 50, 46, 109, 97, 120]⟩, ⟨#[102, 51, 50]⟩), (⟨#[102, 51, 50, 46, 99, 111, 112, 121, 115, 105, 103, 110]⟩, ⟨#[102, 51, 50]⟩), (⟨#[102, 54, 52, 46, 97, 98, 115]⟩, ⟨#[102, 54, 52]⟩), (⟨#[102, 54, 52, 46, 110, 101, 103]⟩, ⟨#[102, 54, 52]⟩), (⟨#[102, 54, 52, 46, 99, 101, 105, 108]⟩, ⟨#[102, 54, 52]⟩), (⟨#[102, 54, 52, 46, 102, 108, 111, 111, 114]⟩, ⟨#[102, 54, 52]⟩)]
set_option maxRecDepth 100000 in
theorem opd_10 : AllP Op opT10 := by
  unfold opT10
  repeat (refine ⟨calls_goTo 300 Tryz.func31 (fun _ _ => by kernel_rfl) (fun _ _ => ⟨by kernel_rfl, by kernel_rfl, by kernel_rfl, by kernel_rfl⟩) (fun _ _ => by kernel_rfl), ?_⟩)
  exact trivial
def opT11 : List (ByteArray × ByteArray) := [(⟨#[102, 54, 52, 46, 116, 114, 117, 110, 99]⟩, ⟨#[102, 54, 52]⟩), (⟨#[102, 54, 52, 46, 110, 101, 97, 114, 101, 115, 116]⟩, ⟨#[102, 54, 52]⟩), (⟨#[102, 54, 52, 46, 115, 113, 114, 116]⟩, ⟨#[102, 54, 52]⟩), (⟨#[102, 54, 52, 46, 97, 100, 100]⟩, ⟨#[102, 54, 52]⟩), (⟨#[102, 54, 52, 46, 115, 117, 98]⟩, ⟨#[102, 54, 52]⟩), (⟨#[102, 54, 52, 46, 109, 117, 108]⟩, ⟨#[102, 54, 52]⟩), (⟨#[102, 54, 52, 46, 100, 105, 118]⟩, ⟨#[102, 54, 52]⟩), (⟨#[102, 54, 52, 46, 109, 105, 110]⟩, ⟨#[102, 54, 52]⟩)]
set_option maxRecDepth 100000 in
theorem opd_11 : AllP Op opT11 := by
  unfold opT11
  repeat (refine ⟨calls_goTo 300 Tryz.func31 (fun _ _ => by kernel_rfl) (fun _ _ => ⟨by kernel_rfl, by kernel_rfl, by kernel_rfl, by kernel_rfl⟩) (fun _ _ => by kernel_rfl), ?_⟩)
  exact trivial
def opT12 : List (ByteArray × ByteArray) := [(⟨#[102, 54, 52, 46, 109, 97, 120]⟩, ⟨#[102, 54, 52]⟩), (⟨#[102, 54, 52, 46, 99, 111, 112, 121, 115, 105, 103, 110]⟩, ⟨#[102, 54, 52]⟩), (⟨#[105, 51, 50, 46, 119, 114, 97, 112, 95, 105, 54, 52]⟩, ⟨#[105, 54, 52]⟩), (⟨#[105, 51, 50, 46, 116, 114, 117, 110, 99, 95, 102, 51, 50, 95, 115]⟩, ⟨#[102, 51, 50]⟩), (⟨#[105, 51, 50, 46, 116, 114, 117, 110, 99, 95, 102, 51, 50, 95, 117]⟩, ⟨#[102, 51, 50]⟩), (⟨#[105, 51, 50, 46, 116, 114, 117, 110, 99, 95, 102, 54, 52, 95, 115]⟩, ⟨#[102, 54, 52]⟩), (⟨#[105, 51, 50, 46, 116, 114, 117, 110, 99, 95, 102, 54, 52, 95, 117]⟩, ⟨#[102, 54, 52]⟩), (⟨#[105, 54, 52, 46, 101, 120, 116, 101, 110, 100, 95, 105, 51, 50, 95, 115]⟩, ⟨#[105, 51, 50]⟩)]
set_option maxRecDepth 100000 in
theorem opd_12 : AllP Op opT12 := by
  unfold opT12
  repeat (refine ⟨calls_goTo 300 Tryz.func31 (fun _ _ => by kernel_rfl) (fun _ _ => ⟨by kernel_rfl, by kernel_rfl, by kernel_rfl, by kernel_rfl⟩) (fun _ _ => by kernel_rfl), ?_⟩)
  exact trivial
def opT13 : List (ByteArray × ByteArray) := [(⟨#[105, 54, 52, 46, 101, 120, 116, 101, 110, 100, 95, 105, 51, 50, 95, 117]⟩, ⟨#[105, 51, 50]⟩), (⟨#[105, 54, 52, 46, 116, 114, 117, 110, 99, 95, 102, 51, 50, 95, 115]⟩, ⟨#[102, 51, 50]⟩), (⟨#[105, 54, 52, 46, 116, 114, 117, 110, 99, 95, 102, 51, 50, 95, 117]⟩, ⟨#[102, 51, 50]⟩), (⟨#[105, 54, 52, 46, 116, 114, 117, 110, 99, 95, 102, 54, 52, 95, 115]⟩, ⟨#[102, 54, 52]⟩), (⟨#[105, 54, 52, 46, 116, 114, 117, 110, 99, 95, 102, 54, 52, 95, 117]⟩, ⟨#[102, 54, 52]⟩), (⟨#[102, 51, 50, 46, 99, 111, 110, 118, 101, 114, 116, 95, 105, 51, 50, 95, 115]⟩, ⟨#[105, 51, 50]⟩), (⟨#[102, 51, 50, 46, 99, 111, 110, 118, 101, 114, 116, 95, 105, 51, 50, 95, 117]⟩, ⟨#[105, 51, 50]⟩), (⟨#[102, 51, 50, 46, 99, 111, 110, 118, 101, 114, 116, 95, 105, 54, 52, 95, 115]⟩, ⟨#[105, 54, 52]⟩)]
set_option maxRecDepth 100000 in
theorem opd_13 : AllP Op opT13 := by
  unfold opT13
  repeat (refine ⟨calls_goTo 300 Tryz.func31 (fun _ _ => by kernel_rfl) (fun _ _ => ⟨by kernel_rfl, by kernel_rfl, by kernel_rfl, by kernel_rfl⟩) (fun _ _ => by kernel_rfl), ?_⟩)
  exact trivial
def opT14 : List (ByteArray × ByteArray) := [(⟨#[102, 51, 50, 46, 99, 111, 110, 118, 101, 114, 116, 95, 105, 54, 52, 95, 117]⟩, ⟨#[105, 54, 52]⟩), (⟨#[102, 51, 50, 46, 100, 101, 109, 111, 116, 101, 95, 102, 54, 52]⟩, ⟨#[102, 54, 52]⟩), (⟨#[102, 54, 52, 46, 99, 111, 110, 118, 101, 114, 116, 95, 105, 51, 50, 95, 115]⟩, ⟨#[105, 51, 50]⟩), (⟨#[102, 54, 52, 46, 99, 111, 110, 118, 101, 114, 116, 95, 105, 51, 50, 95, 117]⟩, ⟨#[105, 51, 50]⟩), (⟨#[102, 54, 52, 46, 99, 111, 110, 118, 101, 114, 116, 95, 105, 54, 52, 95, 115]⟩, ⟨#[105, 54, 52]⟩), (⟨#[102, 54, 52, 46, 99, 111, 110, 118, 101, 114, 116, 95, 105, 54, 52, 95, 117]⟩, ⟨#[105, 54, 52]⟩), (⟨#[102, 54, 52, 46, 112, 114, 111, 109, 111, 116, 101, 95, 102, 51, 50]⟩, ⟨#[102, 51, 50]⟩), (⟨#[105, 51, 50, 46, 114, 101, 105, 110, 116, 101, 114, 112, 114, 101, 116, 95, 102, 51, 50]⟩, ⟨#[102, 51, 50]⟩)]
set_option maxRecDepth 100000 in
theorem opd_14 : AllP Op opT14 := by
  unfold opT14
  repeat (refine ⟨calls_goTo 300 Tryz.func31 (fun _ _ => by kernel_rfl) (fun _ _ => ⟨by kernel_rfl, by kernel_rfl, by kernel_rfl, by kernel_rfl⟩) (fun _ _ => by kernel_rfl), ?_⟩)
  exact trivial
def opT15 : List (ByteArray × ByteArray) := [(⟨#[105, 54, 52, 46, 114, 101, 105, 110, 116, 101, 114, 112, 114, 101, 116, 95, 102, 54, 52]⟩, ⟨#[102, 54, 52]⟩), (⟨#[102, 51, 50, 46, 114, 101, 105, 110, 116, 101, 114, 112, 114, 101, 116, 95, 105, 51, 50]⟩, ⟨#[105, 51, 50]⟩), (⟨#[102, 54, 52, 46, 114, 101, 105, 110, 116, 101, 114, 112, 114, 101, 116, 95, 105, 54, 52]⟩, ⟨#[105, 54, 52]⟩), (⟨#[105, 51, 50, 46, 116, 114, 117, 110, 99, 95, 115, 97, 116, 95, 102, 51, 50, 95, 115]⟩, ⟨#[102, 51, 50]⟩), (⟨#[105, 51, 50, 46, 116, 114, 117, 110, 99, 95, 115, 97, 116, 95, 102, 51, 50, 95, 117]⟩, ⟨#[102, 51, 50]⟩), (⟨#[105, 51, 50, 46, 116, 114, 117, 110, 99, 95, 115, 97, 116, 95, 102, 54, 52, 95, 115]⟩, ⟨#[102, 54, 52]⟩), (⟨#[105, 51, 50, 46, 116, 114, 117, 110, 99, 95, 115, 97, 116, 95, 102, 54, 52, 95, 117]⟩, ⟨#[102, 54, 52]⟩), (⟨#[105, 54, 52, 46, 116, 114, 117, 110, 99, 95, 115, 97, 116, 95, 102, 51, 50, 95, 115]⟩, ⟨#[102, 51, 50]⟩)]
set_option maxRecDepth 100000 in
theorem opd_15 : AllP Op opT15 := by
  unfold opT15
  repeat (refine ⟨calls_goTo 300 Tryz.func31 (fun _ _ => by kernel_rfl) (fun _ _ => ⟨by kernel_rfl, by kernel_rfl, by kernel_rfl, by kernel_rfl⟩) (fun _ _ => by kernel_rfl), ?_⟩)
  exact trivial
def opT16 : List (ByteArray × ByteArray) := [(⟨#[105, 54, 52, 46, 116, 114, 117, 110, 99, 95, 115, 97, 116, 95, 102, 51, 50, 95, 117]⟩, ⟨#[102, 51, 50]⟩), (⟨#[105, 54, 52, 46, 116, 114, 117, 110, 99, 95, 115, 97, 116, 95, 102, 54, 52, 95, 115]⟩, ⟨#[102, 54, 52]⟩), (⟨#[105, 54, 52, 46, 116, 114, 117, 110, 99, 95, 115, 97, 116, 95, 102, 54, 52, 95, 117]⟩, ⟨#[102, 54, 52]⟩)]
set_option maxRecDepth 100000 in
theorem opd_16 : AllP Op opT16 := by
  unfold opT16
  repeat (refine ⟨calls_goTo 300 Tryz.func31 (fun _ _ => by kernel_rfl) (fun _ _ => ⟨by kernel_rfl, by kernel_rfl, by kernel_rfl, by kernel_rfl⟩) (fun _ _ => by kernel_rfl), ?_⟩)
  exact trivial
theorem typ_i32 : Ct 32 #[.string ⟨#[105, 51, 50]⟩] (.int .u8 127) := calls_goTo 300 Tryz.func32 (fun _ _ => by kernel_rfl) (fun _ _ => ⟨by kernel_rfl, by kernel_rfl, by kernel_rfl, by kernel_rfl⟩) (fun _ _ => by kernel_rfl)
theorem typ_i64 : Ct 32 #[.string ⟨#[105, 54, 52]⟩] (.int .u8 126) := calls_goTo 300 Tryz.func32 (fun _ _ => by kernel_rfl) (fun _ _ => ⟨by kernel_rfl, by kernel_rfl, by kernel_rfl, by kernel_rfl⟩) (fun _ _ => by kernel_rfl)
theorem typ_f32 : Ct 32 #[.string ⟨#[102, 51, 50]⟩] (.int .u8 125) := calls_goTo 300 Tryz.func32 (fun _ _ => by kernel_rfl) (fun _ _ => ⟨by kernel_rfl, by kernel_rfl, by kernel_rfl, by kernel_rfl⟩) (fun _ _ => by kernel_rfl)
theorem typ_f64 : Ct 32 #[.string ⟨#[102, 54, 52]⟩] (.int .u8 124) := calls_goTo 300 Tryz.func32 (fun _ _ => by kernel_rfl) (fun _ _ => ⟨by kernel_rfl, by kernel_rfl, by kernel_rfl, by kernel_rfl⟩) (fun _ _ => by kernel_rfl)
end Go.Proofs.YtpbgpdmffejdgaaGreatDoor
