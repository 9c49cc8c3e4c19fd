/- What parts are narrowed to. -/
import Derived.Test.YtpbgpdmffejdgaaGreatDoorKeepsA
namespace Go.Proofs.YtpbgpdmffejdgaaGreatDoor
open Go.RowKit
open Go.Proofs.YtpbgpdmffejdgaaGreatDoor.W

theorem small_w2 {x : Int} (x0 : 0 ≤ x) (x1 : x < 18446744073709551616) : W2 x.toNat := by unfold W2; omega
/-- What parts are narrowed to. -/
def narrowN (f P Q b : Int) (n : Bool) (K X S : Int) : Int :=
  if K = 0 then put f P Q n 0 0 else if K = 1 then fl f P Q n (lid P Q (code f.toNat (lowN f b) (num S.toNat false (cap X)) : Nat)) else if K = 2 then put f P Q n (Q - 1) 0 else if K = 3 then put f P Q false (Q - 1) (P / 2) else 0

theorem narrow_any {w e f P Q b : Int} (k : Kd w e f P Q b) (n : Bool) (K X S : Int) (s0 : 0 ≤ S) (s1 : S < 18446744073709551616) (W : World) :
    Calls Tryz.prog 170 #[.int .i64 w, .agg #[.bool n, .int .i64 K, .int .i64 X, .int .u64 S]] W fun r W' => r = .returned (.int .u64 (narrowN f P Q b n K X S)) ∧ Below W.heap.size W W' := by
  unfold narrowN
  by_cases k0 : K = 0
  · rw [if_pos k0]
    exact narrow_zero W (eq_t k0) (hide (fun W => zero_any n k.wd W))
  · rw [if_neg k0]
    by_cases k1 : K = 1
    · rw [if_pos k1]
      exact narrow_fin W (eq_f k0) (eq_t k1) (hide (fun W => of_n S W s0 s1)) (hide (fun W => pack_known S.toNat n false X k (small_w2 s0 s1) W))
    · rw [if_neg k1]
      by_cases k2 : K = 2
      · rw [if_pos k2]
        exact narrow_inf W (eq_f k0) (eq_f k1) (eq_t k2) (hide (fun W => inf_any n k.wd W))
      · rw [if_neg k2]
        by_cases k3 : K = 3
        · rw [if_pos k3]
          exact narrow_nan W (eq_f k0) (eq_f k1) (eq_f k2) (eq_t k3) (hide (fun W => nan_any k.wd W))
        · rw [if_neg k3]
          exact narrow_oth W (eq_f k0) (eq_f k1) (eq_f k2) (eq_f k3)
theorem narrow_no {w e f P Q b : Int} (k : Wd w e f P Q b) (hf : f = 0) (n : Bool) (K X S : Int) (s0 : 0 ≤ S) (s1 : S < 18446744073709551616) (W : World) :
    Calls Tryz.prog 170 #[.int .i64 w, .agg #[.bool n, .int .i64 K, .int .i64 X, .int .u64 S]] W fun r W' => r = .returned (.int .u64 0) ∧ Below W.heap.size W W' := by
  have p0 : ∀ (n : Bool) (x y : Int), put f P Q n x y = 0 := fun n x y => by unfold put; rw [if_pos hf]
  by_cases k0 : K = 0
  · have h := fun W => zero_any n k W
    rw [p0] at h
    exact narrow_zero W (eq_t k0) (hide h)
  · by_cases k1 : K = 1
    · exact narrow_fin W (eq_f k0) (eq_t k1) (hide (fun W => of_n S W s0 s1)) (hide (fun W => pack_no S.toNat n false X k hf (small_w2 s0 s1) W))
    · by_cases k2 : K = 2
      · have h := fun W => inf_any n k W
        rw [p0] at h
        exact narrow_inf W (eq_f k0) (eq_f k1) (eq_t k2) (hide h)
      · by_cases k3 : K = 3
        · have h := fun W => nan_any k W
          rw [p0] at h
          exact narrow_nan W (eq_f k0) (eq_f k1) (eq_f k2) (eq_t k3) (hide h)
        · exact narrow_oth W (eq_f k0) (eq_f k1) (eq_f k2) (eq_f k3)
end Go.Proofs.YtpbgpdmffejdgaaGreatDoor
