/- The walk of Next. -/
import Derived.Test.YtfjoejgioinfhaaUtB
namespace Go.Proofs.Ytfjoejgioinfhaa
open Go.RowKit

set_option maxHeartbeats 1000000 in
set_option maxRecDepth 100000 in
theorem next_no {a : Option Addr} {len cap : Nat} {k : Int} {W : World} (h : k < 0 ∨ (len : Int) < k) :
    Calls Try.prog 8 #[.slice a len cap, .int .i64 k] W fun r W' => r = .returned (.tuple #[.int .i32 0, .int .i64 0, .bool false]) ∧ Below W.heap.size W W' := by
  have HB := hide (Below.refl W.heap.size W)
  by_cases h1 : k < 0
  · go_enter Try.func8, Try.ntmps8
    go_wp2_with fail
    exact bodyPost_ret (v := .tuple #[.int .i32 0, .int .i64 0, .bool false]) (by simp [results, Try.results8, go_sem]) rfl ⟨rfl, unhide HB⟩
  · have h2 : (len : Int) < k := by omega
    clear h
    go_enter Try.func8, Try.ntmps8
    go_wp2_with fail
    exact bodyPost_ret (v := .tuple #[.int .i32 0, .int .i64 0, .bool false]) (by simp [results, Try.results8, go_sem]) rfl ⟨rfl, unhide HB⟩
set_option maxHeartbeats 1000000 in
set_option maxRecDepth 100000 in
theorem next_in {b off len cap k m : Nat} {s : ByteArray} {c z : Int} {wd : Nat} {W : World} (hk : k ≤ len) (hlc : len ≤ cap) (hc : ¬ cap = k) (hl : len ≤ 140737488355328) (hm : len - k ≤ 4 ∧ m = len - k ∨ 4 < len - k ∧ m = 4)
    (hcv : (convert 22 9 (.slice (some ⟨b, off + k, none⟩) m (cap - k))).run Try.prog W = .ok (.string s) W)
    (HF : Hid (∀ W, Calls Try.prog 15 #[.string s] W fun r W' => r = .returned (.tuple #[.int .i32 c, .int .i64 (wd : Int)]) ∧ Below W.heap.size W W')) (hw : wd ≤ 4)
    (HZ : Hid (∀ W, Calls Try.prog 16 #[.int .i32 c] W fun r W' => r = .returned (.int .i64 z) ∧ W' = W)) (hz : z = (wd : Int)) :
    Calls Try.prog 8 #[.slice (some ⟨b, off, none⟩) len cap, .int .i64 (k : Int)] W fun r W' => r = .returned (.tuple #[.int .i32 c, .int .i64 ((k + wd : Nat) : Int), .bool true]) ∧ Below W.heap.size W W' := by
  have hcl : k ≤ cap := by omega
  rcases hm with ⟨h4, rfl⟩ | ⟨h4, rfl⟩
  · have h5 : ((len - k : Nat) : Int) ≤ 4 := by omega
    go_enter Try.func8, Try.ntmps8
    go_wp2_with fail
    refine (unhide HF _).mono ?_
    rintro _ w1 ⟨rfl, hb⟩
    have HB := hide hb
    clear hb
    go_wp2_with fail
    refine (unhide HZ _).mono ?_
    rintro _ w2 ⟨rfl, rfl⟩
    go_wp2_with fail
    exact bodyPost_ret (v := .tuple #[.int .i32 c, .int .i64 ((k + wd : Nat) : Int), .bool true]) (by simp [results, Try.results8, go_sem]) rfl ⟨rfl, unhide HB⟩
  · have h5 : ¬ ((len - k : Nat) : Int) ≤ 4 := by omega
    have h6 : 4 ≤ cap - k := by omega
    go_enter Try.func8, Try.ntmps8
    go_wp2_with fail
    refine (unhide HF _).mono ?_
    rintro _ w1 ⟨rfl, hb⟩
    have HB := hide hb
    clear hb
    go_wp2_with fail
    refine (unhide HZ _).mono ?_
    rintro _ w2 ⟨rfl, rfl⟩
    go_wp2_with fail
    exact bodyPost_ret (v := .tuple #[.int .i32 c, .int .i64 ((k + wd : Nat) : Int), .bool true]) (by simp [results, Try.results8, go_sem]) rfl ⟨rfl, unhide HB⟩
set_option maxHeartbeats 1000000 in
set_option maxRecDepth 100000 in
theorem next_bad {b off len cap k m : Nat} {s : ByteArray} {c z : Int} {wd : Nat} {W : World} (hk : k ≤ len) (hlc : len ≤ cap) (hc : ¬ cap = k) (hl : len ≤ 140737488355328) (hm : len - k ≤ 4 ∧ m = len - k ∨ 4 < len - k ∧ m = 4)
    (hcv : (convert 22 9 (.slice (some ⟨b, off + k, none⟩) m (cap - k))).run Try.prog W = .ok (.string s) W)
    (HF : Hid (∀ W, Calls Try.prog 15 #[.string s] W fun r W' => r = .returned (.tuple #[.int .i32 c, .int .i64 (wd : Int)]) ∧ Below W.heap.size W W'))
    (HZ : Hid (∀ W, Calls Try.prog 16 #[.int .i32 c] W fun r W' => r = .returned (.int .i64 z) ∧ W' = W)) (hz : ¬ (wd : Int) = z) :
    Calls Try.prog 8 #[.slice (some ⟨b, off, none⟩) len cap, .int .i64 (k : Int)] W fun r W' => r = .returned (.tuple #[.int .i32 0, .int .i64 0, .bool false]) ∧ Below W.heap.size W W' := by
  have hcl : k ≤ cap := by omega
  rcases hm with ⟨h4, rfl⟩ | ⟨h4, rfl⟩
  · have h5 : ((len - k : Nat) : Int) ≤ 4 := by omega
    go_enter Try.func8, Try.ntmps8
    go_wp2_with fail
    refine (unhide HF _).mono ?_
    rintro _ w1 ⟨rfl, hb⟩
    have HB := hide hb
    clear hb
    go_wp2_with fail
    refine (unhide HZ _).mono ?_
    rintro _ w2 ⟨rfl, rfl⟩
    go_wp2_with fail
    exact bodyPost_ret (v := .tuple #[.int .i32 0, .int .i64 0, .bool false]) (by simp [results, Try.results8, go_sem]) rfl ⟨rfl, unhide HB⟩
  · have h5 : ¬ ((len - k : Nat) : Int) ≤ 4 := by omega
    have h6 : 4 ≤ cap - k := by omega
    go_enter Try.func8, Try.ntmps8
    go_wp2_with fail
    refine (unhide HF _).mono ?_
    rintro _ w1 ⟨rfl, hb⟩
    have HB := hide hb
    clear hb
    go_wp2_with fail
    refine (unhide HZ _).mono ?_
    rintro _ w2 ⟨rfl, rfl⟩
    go_wp2_with fail
    exact bodyPost_ret (v := .tuple #[.int .i32 0, .int .i64 0, .bool false]) (by simp [results, Try.results8, go_sem]) rfl ⟨rfl, unhide HB⟩
set_option maxHeartbeats 1000000 in
set_option maxRecDepth 100000 in
theorem next_end {b off k : Nat} {s : ByteArray} {c z : Int} {wd : Nat} {W : World}
    (hcv : (convert 22 9 (.slice (some ⟨b, off, none⟩) 0 0)).run Try.prog W = .ok (.string s) W)
    (HF : Hid (∀ W, Calls Try.prog 15 #[.string s] W fun r W' => r = .returned (.tuple #[.int .i32 c, .int .i64 (wd : Int)]) ∧ Below W.heap.size W W'))
    (HZ : Hid (∀ W, Calls Try.prog 16 #[.int .i32 c] W fun r W' => r = .returned (.int .i64 z) ∧ W' = W)) (hz : ¬ (wd : Int) = z) :
    Calls Try.prog 8 #[.slice (some ⟨b, off, none⟩) k k, .int .i64 (k : Int)] W fun r W' => r = .returned (.tuple #[.int .i32 0, .int .i64 0, .bool false]) ∧ Below W.heap.size W W' := by
  go_enter Try.func8, Try.ntmps8
  go_wp2_with fail
  refine (unhide HF _).mono ?_
  rintro _ w1 ⟨rfl, hb⟩
  have HB := hide hb
  clear hb
  go_wp2_with fail
  refine (unhide HZ _).mono ?_
  rintro _ w2 ⟨rfl, rfl⟩
  go_wp2_with fail
  exact bodyPost_ret (v := .tuple #[.int .i32 0, .int .i64 0, .bool false]) (by simp [results, Try.results8, go_sem]) rfl ⟨rfl, unhide HB⟩
set_option maxHeartbeats 1000000 in
set_option maxRecDepth 100000 in
theorem next_nil {s : ByteArray} {c z : Int} {wd : Nat} {W : World}
    (hcv : (convert 22 9 (.slice none 0 0)).run Try.prog W = .ok (.string s) W)
    (HF : Hid (∀ W, Calls Try.prog 15 #[.string s] W fun r W' => r = .returned (.tuple #[.int .i32 c, .int .i64 (wd : Int)]) ∧ Below W.heap.size W W'))
    (HZ : Hid (∀ W, Calls Try.prog 16 #[.int .i32 c] W fun r W' => r = .returned (.int .i64 z) ∧ W' = W)) (hz : ¬ (wd : Int) = z) :
    Calls Try.prog 8 #[.slice none 0 0, .int .i64 0] W fun r W' => r = .returned (.tuple #[.int .i32 0, .int .i64 0, .bool false]) ∧ Below W.heap.size W W' := by
  go_enter Try.func8, Try.ntmps8
  go_wp2_with fail
  refine (unhide HF _).mono ?_
  rintro _ w1 ⟨rfl, hb⟩
  have HB := hide hb
  clear hb
  go_wp2_with fail
  refine (unhide HZ _).mono ?_
  rintro _ w2 ⟨rfl, rfl⟩
  go_wp2_with fail
  exact bodyPost_ret (v := .tuple #[.int .i32 0, .int .i64 0, .bool false]) (by simp [results, Try.results8, go_sem]) rfl ⟨rfl, unhide HB⟩
end Go.Proofs.Ytfjoejgioinfhaa
