/- The words of a text one by one. -/
import Derived.Test.YtkpdanjfdcoldaaDoorOpB
import Derived.RangeFuncNested
import Derived.RangeFuncBound
import Derived.RangeFuncCalls
import Derived.RangeFuncLeaves
import Derived.Shelf.Abstract
import Derived.Shelf.RegionOpen
import Derived.WalkKit
import Derived.OwnWalkIn
import Derived.TacticsInMore
import Derived.LoopNIn
import Derived.LoopIn
namespace Go.Proofs.YtkpdanjfdcoldaaDoor
open Go.RowKit
attribute [local go_sem] Oper.semAt_some

/-- Words with a blank between two. -/
def jn : List (List UInt8) → List UInt8
  | [] => []
  | [w] => w
  | w :: v :: r => w ++ 32 :: jn (v :: r)
/-- Words that have bytes, and no blank. -/
def Wds (ws : List (List UInt8)) : Prop := ∀ w ∈ ws, w ≠ [] ∧ (32 : UInt8) ∉ w
/-- The words with their numbers. -/
def prs (f : Int) : List (List UInt8) → List (Int × List UInt8)
  | [] => []
  | w :: r => (f, w) :: prs (f + 1) r
theorem prs_app : ∀ (a b : List (List UInt8)) (f : Int), prs f (a ++ b) = prs f a ++ prs (f + a.length) b
  | [], b, f => by simp [prs]
  | w :: a, b, f => by
    have : f + 1 + (a.length : Int) = f + ((a.length : Int) + 1) := by omega
    simp [prs, prs_app a b (f + 1), this]
theorem prs_len : ∀ (a : List (List UInt8)) (f : Int), (prs f a).length = a.length
  | [], _ => rfl
  | w :: a, f => by simp [prs, prs_len a]
theorem jn_ne {w : List UInt8} {r : List (List UInt8)} (h : w ≠ []) : jn (w :: r) ≠ [] := by
  cases r with
  | nil => exact h
  | cons v r => simp [jn]
theorem bs_size (l : List UInt8) : (bs l).size = l.length := by simp [bs, ByteArray.size]
theorem jn_lt' (w : List UInt8) (r : List (List UInt8)) (h : w ≠ []) : (jn r).length < (jn (w :: r)).length := by
  have : 0 < w.length := List.length_pos_iff.2 h
  cases r with
  | nil => simpa [jn] using this
  | cons v r => simp [jn]; omega
theorem jn_lt (w : List UInt8) (r : List (List UInt8)) (h : w ≠ []) : (bs (jn r)).size < (bs (jn (w :: r))).size := by
  rw [bs_size, bs_size]; exact jn_lt' w r h
theorem jn_le : ∀ (a b : List (List UInt8)), (bs (jn b)).size ≤ (bs (jn (a ++ b))).size
  | [], b => Nat.le_refl _
  | w :: a, b => Nat.le_trans (jn_le a b) (by
      rw [bs_size, bs_size]
      cases h : a ++ b with
      | nil => simp [jn]
      | cons v r => simp [h, jn]; omega)
abbrev en2 (p : Int × List UInt8) : Array Value := #[.int .i64 p.1, .string (bs p.2)]
def szs : Value → Nat
  | .string s => s.size
  | _ => 0
/-- A cut of the next word: whatever stands behind it. -/
theorem cut_word (w : List UInt8) (r : List (List UInt8)) (h : (32 : UInt8) ∉ w) (hl : (bs (jn (w :: r))).size < 4294967281) (W : World) :
    Calls Tryd.prog 22 #[.string (bs (jn (w :: r))), .string ⟨#[32]⟩] W fun e W' => (∃ t, e = .returned (.tuple #[.string (bs w), .string (bs (jn r)), .bool t])) ∧ ∃ n, W' = W.drewN n := by
  cases r with
  | nil => exact (cut_miss 32 w h W).mono fun e W' h => ⟨⟨_, h.1⟩, h.2⟩
  | cons v r => exact (cut_hit 32 w (jn (v :: r)) h hl W).mono fun e W' h => ⟨⟨_, h.1⟩, h.2⟩
theorem drewN_heap (W : World) : ∀ n, (W.drewN n).heap = W.heap
  | 0 => rfl
  | n + 1 => drewN_heap W.drew n
theorem grown_drewN (W : World) (n : Nat) : W.grownBy (W.drewN n) none := by
  induction n generalizing W with
  | zero => exact ⟨rfl, rfl, rfl, Nat.le_refl _, fun i hi _ => rfl⟩
  | succ n ih =>
    have h := ih W.drew
    exact ⟨h.os, h.tape, h.output, h.size, h.block⟩

set_option maxHeartbeats 4000000 in
set_option maxRecDepth 100000 in
theorem iter_in (n : Nat) (hn : 1 ≤ n) (l Bn B : Nat) (f : Int) (ws : List (List UInt8)) (hws : Wds ws) (hl : (bs (jn ws)).size < 4294967281) (hf0 : 0 ≤ f) (hf1 : f + ws.length < 4294967296) (J Jx : List (Int × List UInt8) → World → Prop) (hJ : AbidesFrom B J)
    (hY : ∀ pre x W, J pre W → pre.length < ws.length → YieldAt Fence.wide (n - 1) Tryd.prog l (en2 x) W fun e W' => (e = .returned (.bool true) ∧ J (pre ++ [x]) W' ∧ True) ∨ (e = .returned (.bool false) ∧ Jx (pre ++ [x]) W'))
    (W : World) (hB0 : W.cell? ⟨Bn, 0, none⟩ = some (.int .i64 f)) (hB1 : W.cell? ⟨Bn, 1, none⟩ = some (.string (bs (jn ws)))) (h0 : J [] W) :
    CallsIn Fence.wide n Tryd.prog 35 #[.func (.yield l) #[] #[], .pointer (some ⟨Bn, 0, none⟩)] W fun e W' => (∃ v, e = .returned v) ∧
      ((∃ ys, ys = prs f ws ∧ J ys W') ∨ (∃ pre, pre <+: prs f ws ∧ Jx pre W')) := by
  have mixed : Tryd.prog.follows .mixedOrders = true := by kernel_rfl
  refine callsIn_of_wp Tryd.func35 rfl trivial ?_ rfl
  simp only [Tryd.ntmps35, List.size_toArray, List.length_cons, List.length_nil, Nat.reduceAdd, Nat.reduceSub, Array.replicate_succ, Array.replicate_zero, List.push_toArray, List.append_toArray, List.nil_append, List.cons_append]
  gi_wp2
  gi_region_o
  gi_wp2
  have hJd : J [] W.drew := hJ _ _ _ none h0 (grown_drewN W 1) (fun r e => by cases e)
  gi_loopw [3, 4] (fun p q wr => ∃ (pre rest : List (List UInt8)), p = .int .i64 (f + (pre.length : Int)) ∧ q = .string (bs (jn rest)) ∧ ws = pre ++ rest ∧ J (prs f pre) wr)
    (fun _ q _ => szs q)
  case atStart => exact ⟨[], ws, by simp, rfl, rfl, hJd⟩
  case round =>
    obtain ⟨pre, rest, rfl, rfl, hx, hJs⟩ := hrel
    cases rest with
    | nil =>
      have he : (bs (jn ([] : List (List UInt8)))).toList.isEmpty = true := by simp [jn, bs, Lib.toList_data]
      gi_wp2
      go_end0
      exact ⟨⟨_, rfl⟩, .inl ⟨_, by simp [hx], hJs⟩⟩
    | cons x rest =>
      have hm : x ∈ ws := by rw [hx]; simp
      obtain ⟨hx0, hx1⟩ := hws x hm
      have hlen : pre.length < ws.length := by rw [hx]; simp
      have hne := jn_ne (r := rest) hx0
      have he : (bs (jn (x :: rest))).toList.isEmpty = false := by simp [bs, Lib.toList_data, hne]
      have hl2 : (bs (jn (x :: rest))).size < 4294967281 := Nat.lt_of_le_of_lt (jn_le pre (x :: rest)) (by rw [hx] at hl; exact hl)
      replace hx := hide hx
      gi_wp2
      refine ⟨trivial, callsIn_wide.2 ((cut_word x rest hx1 hl2 wr).mono ?_)⟩
      rintro e w' ⟨⟨t, rfl⟩, k, rfl⟩
      have hJ2 : J (prs f pre) (wr.drewN k) := hJ _ _ _ none hJs (grown_drewN wr k) (fun r e => by cases e)
      generalize wr.drewN k = wk at hJ2 ⊢
      obtain ⟨fn, tmps, assign, body, hy, hR⟩ := hY (prs f pre) (f + (pre.length : Int), x) wk hJ2 (by rw [prs_len]; exact hlen)
      dsimp only [en2] at hy
      gi_wp2
      refine hR.mono ?_
      rintro e W3 (⟨rfl, hJ3, -⟩ | ⟨rfl, hJx3⟩)
      · have hw : IntKind.i64.wrap (f + (pre.length : Int) + 1) = f + ((pre ++ [x]).length : Int) := by rw [i64_id (by omega) (by omega)]; simp; omega
        gi_wp2
        go_roundw
        case rel => exact ⟨pre ++ [x], rest, by simp, rfl, by simp [unhide hx], by rw [prs_app]; exact hJ3⟩
        case measure => exact jn_lt x rest hx0
      · gi_wp2
        refine bodyPost_ret (results_none rfl _ _ _) rfl ?_
        refine ⟨⟨_, rfl⟩, .inr ⟨_, ?_, hJx3⟩⟩
        rw [unhide hx, prs_app]
        simp [prs]

end Go.Proofs.YtkpdanjfdcoldaaDoor
