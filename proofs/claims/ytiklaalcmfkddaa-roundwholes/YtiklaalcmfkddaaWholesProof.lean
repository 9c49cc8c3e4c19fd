/- For every int w, every word n and all Parts p the law RoundWholes answers true, and w, n and p read as before: any whole number, and any parts, are rounded to the document's float; no condition. -/
import Derived.Test.YtiklaalcmfkddaaWholes
import Derived.Test.YtiklaalcmfkddaaExactX
import Derived.Test.YtiklaalcmfkddaaKeepsA
import Derived.Test.YtiklaalcmfkddaaNumber
namespace Go.Proofs.Ytiklaalcmfkddaa
open Go.ChangeShapes Go.WideShapes Go.ChangeAt Go.RowKit Go.Joins
open Go.Proofs.Ytiklaalcmfkddaa.W

theorem exact_whole {w e f P Q b : Int} (kd : Kd w e f P Q b) (n : Bool) (x : Nat) : exactN f P Q b n x 0 = fl f P Q n (lid P Q (code f.toNat (lowN f b) (num x false (cap 0)) : Nat)) := by
  rw [show cap 0 = 0 from rfl, num_plain x 0 (by omega)]
  unfold exactN
  by_cases h : x = 0
  · rw [if_pos (Or.inl h)]
    refine (zero_code kd n ?_).symm
    rw [h, Nat.zero_mul, code_zero]
  · rw [if_neg (by omega), if_neg (by omega)]

theorem small_w2 {x : Int} (x0 : 0 ≤ x) (x1 : x < 18446744073709551616) : W2 x.toNat := by unfold W2; omega
theorem small_140 {x : Int} (x0 : 0 ≤ x) (x1 : x < 18446744073709551616) : x.toNat < pw 140 := lt_pw (k := 2) 140 (by rw [pw_2]; omega) (by omega)

/-- What parts are narrowed to. -/
def narrowN (f P Q b : Int) (n : Bool) (K X S : Int) : Int :=
  if K = 0 then put f P Q n 0 0 else if K = 1 then fl f P Q n (lid P Q (code f.toNat (lowN f b) (num S.toNat false (cap X)) : Nat)) else if K = 2 then put f P Q n (Q - 1) 0 else if K = 3 then put f P Q false (Q - 1) (P / 2) else 0

theorem narrow_any {w e f P Q b : Int} (k : Kd w e f P Q b) (n : Bool) (K X S : Int) (s0 : 0 ≤ S) (s1 : S < 18446744073709551616) (W : World) :
    Calls Try.prog 12 #[.int .i64 w, .agg #[.bool n, .int .i64 K, .int .i64 X, .int .u64 S]] W fun r W' => r = .returned (.int .u64 (narrowN f P Q b n K X S)) ∧ Below W.heap.size W W' := by
  unfold narrowN
  by_cases k0 : K = 0
  · rw [if_pos k0]
    exact narrow_zero W (eq_t k0) (hide (fun W => zero_any n k.wd W))
  · rw [if_neg k0]
    by_cases k1 : K = 1
    · rw [if_pos k1]
      exact narrow_fin W (eq_f k0) (eq_t k1) (hide (fun W => of_n S W s0 s1)) (hide (fun W => pack_known S.toNat n false X k (small_w2 s0 s1) W))
    · rw [if_neg k1]
      by_cases k2 : K = 2
      · rw [if_pos k2]
        exact narrow_inf W (eq_f k0) (eq_f k1) (eq_t k2) (hide (fun W => inf_any n k.wd W))
      · rw [if_neg k2]
        by_cases k3 : K = 3
        · rw [if_pos k3]
          exact narrow_nan W (eq_f k0) (eq_f k1) (eq_f k2) (eq_t k3) (hide (fun W => nan_any k.wd W))
        · rw [if_neg k3]
          exact narrow_oth W (eq_f k0) (eq_f k1) (eq_f k2) (eq_f k3)
theorem narrow_no {w e f P Q b : Int} (k : Wd w e f P Q b) (hf : f = 0) (n : Bool) (K X S : Int) (s0 : 0 ≤ S) (s1 : S < 18446744073709551616) (W : World) :
    Calls Try.prog 12 #[.int .i64 w, .agg #[.bool n, .int .i64 K, .int .i64 X, .int .u64 S]] W fun r W' => r = .returned (.int .u64 0) ∧ Below W.heap.size W W' := by
  have p0 : ∀ (n : Bool) (x y : Int), put f P Q n x y = 0 := fun n x y => by unfold put; rw [if_pos hf]
  by_cases k0 : K = 0
  · have h := fun W => zero_any n k W
    rw [p0] at h
    exact narrow_zero W (eq_t k0) (hide h)
  · by_cases k1 : K = 1
    · exact narrow_fin W (eq_f k0) (eq_t k1) (hide (fun W => of_n S W s0 s1)) (hide (fun W => pack_no S.toNat n false X k hf (small_w2 s0 s1) W))
    · by_cases k2 : K = 2
      · have h := fun W => inf_any n k W
        rw [p0] at h
        exact narrow_inf W (eq_f k0) (eq_f k1) (eq_t k2) (hide h)
      · by_cases k3 : K = 3
        · have h := fun W => nan_any k W
          rw [p0] at h
          exact narrow_nan W (eq_f k0) (eq_f k1) (eq_f k2) (eq_t k3) (hide h)
        · exact narrow_oth W (eq_f k0) (eq_f k1) (eq_f k2) (eq_f k3)
theorem refNarrow_any {w e f P Q b : Int} (k : Kd w e f P Q b) (n : Bool) (K X S : Int) (s0 : 0 ≤ S) (s1 : S < 18446744073709551616) (W : World) :
    Calls Try.prog 15 #[.int .i64 w, .agg #[.bool n, .int .i64 K, .int .i64 X, .int .u64 S]] W fun r W' => r = .returned (.int .u64 (narrowN f P Q b n K X S)) ∧ Below W.heap.size W W' := by
  obtain ⟨p1, p2, q1, q2⟩ := k.pos
  unfold narrowN
  by_cases k0 : K = 0
  · rw [if_pos k0]
    exact refNarrow_zero W (eq_t k0) (hide (fun W => make_any n 0 0 k W (by omega) (by omega) (by omega) (by omega)))
  · rw [if_neg k0]
    by_cases k1 : K = 1
    · rw [if_pos k1]
      obtain ⟨e1, e2⟩ := words_of S s0 s1
      have h := fun W => refPack_any k n false S.toNat X (small_w2 s0 s1) W
      rw [e1, e2] at h
      exact refNarrow_fin W (eq_f k0) (eq_t k1) (hide h)
    · rw [if_neg k1]
      by_cases k2 : K = 2
      · rw [if_pos k2]
        exact refNarrow_inf W (eq_f k0) (eq_f k1) (eq_t k2) (hide (fun W => refInf_any n k W))
      · rw [if_neg k2]
        by_cases k3 : K = 3
        · rw [if_pos k3]
          exact refNarrow_nan W (eq_f k0) (eq_f k1) (eq_f k2) (eq_t k3) (hide (fun W => refNan_any k W))
        · rw [if_neg k3]
          exact refNarrow_oth W (eq_f k0) (eq_f k1) (eq_f k2) (eq_f k3)

theorem wholes_any (w x : Int) (n : Bool) (K X S : Int) (W : World) (x0 : 0 ≤ x) (x1 : x < 18446744073709551616) (s0 : 0 ≤ S) (s1 : S < 18446744073709551616) :
    Calls Try.prog 4 #[.int .i64 w, .int .u64 x, .agg #[.bool n, .int .i64 K, .int .i64 X, .int .u64 S]] W fun r W' => r = .returned (.bool true) ∧ Below W.heap.size W W' := by
  obtain ⟨e, f, P, Q, b, h⟩ := wd_ex w
  have HK := fun W => refKnown_any h W
  have HO := hide (fun W => of_n x W x0 x1)
  have hw := small_w2 x0 x1
  by_cases hf : f = 0
  · rw [ne_f hf] at HK
    exact wholes_no W (hide (fun W => whole_t W rfl HO (hide (fun W => pack_no x.toNat _ false 0 h hf hw W)))) (hide (fun W => whole_f W HO (hide (fun W => pack_no x.toNat false false 0 h hf hw W)))) (hide (fun W => narrow_no h hf n K X S s0 s1 W)) (hide HK)
  · rw [ne_t hf] at HK
    have k := h.known hf
    have kg : decide (0 < x) = (x != 0) := by
      by_cases hx : x = 0
      · rw [ne_f hx, df (by omega)]
      · rw [ne_t hx, dt (by omega)]
    have hE := fun (g : Bool) (a : Option Addr) (na ca : Nat) (W : World) hx => exact_any (k := 0) (n := g) k x.toNat (small_140 x0 x1) a na ca W hx
    have hE1 := hE (x != 0)
    have hE2 := hE false
    rw [exact_whole k] at hE1 hE2
    exact wholes_k W (hide (fun W => whole_t W rfl HO (hide (fun W => pack_known x.toNat _ false 0 k hw W)))) (hide (fun W => whole_f W HO (hide (fun W => pack_known x.toNat false false 0 k hw W)))) (hide (fun W => narrow_any k n K X S s0 s1 W)) (hide HK) x0 x1 kg
      (hide hE1) (hide hE2) (hide (fun W => refNarrow_any k n K X S s0 s1 W))

set_option maxRecDepth 100000 in
theorem roundWholes_lifted (os : Os) (started : os.Started) (H : Type) (enc : TypeId × Value → H) :
    ReturnsInHanded {} Try.checked os 4 .any (Rows.roundWholesSpec.pre6 enc Try.prog Try.f4 Rows.roundWholesRow.domain false) (Rows.roundWholesSpec.post enc Try.prog Try.f4 false true false false) := by
  refine returnsInHanded_of_change (C := Try.checked) Try.own started (by kernel_rfl) Try.func4
    (ChangeSpec.witness6 (enc := enc) (C := Try.checked) false ⟨#[], #[.int .i64 0, .int .u64 0, .agg #[.bool false, .int .i64 0, .int .i64 0, .int .u64 0]], []⟩ 8 (by kernel_rfl) (by kernel_rfl) (by kernel_rfl) (by kernel_rfl)) ?_
  intro W base args ds gs before hval0 hW hcnd _
  have hval : ∀ (j : Nat) t v, Try.f4.params[j]? = some t → args[j]? = some v → Value.okWide Try.prog W .any base t v := hval0
  have hW' := hW
  obtain ⟨p, q, hA0, hV, rfl, hfz, hnd⟩ := hW
  have hA : DataW.TrodAll enc Try.prog W 0 (fun _ => true) true Try.f4.params.toList args.toList ds p := hA0
  rw [Try.params4] at hA hval
  obtain ⟨v0, v1, v2, d0, d1, d2, p0, p1, p2, rfl, rfl, rfl, h0, h1, h2⟩ := trodAll_three hA
  obtain ⟨rfl, rfl⟩ := trodVars_none hV
  obtain ⟨w, rfl, rfl, rfl, ww⟩ := open_int Try.underlying3 (hval 0 3 v0 rfl rfl) h0
  obtain ⟨x, rfl, rfl, rfl, wx⟩ := open_int Try.underlying22 (hval 1 22 v1 rfl rfl) h1
  obtain ⟨n, K, X, S, hS, rfl, rfl, rd⟩ := open_parts (hval 2 33 v2 rfl rfl) h2
  clear hA0 hval0
  simp only [List.append_nil] at hW'
  refine (wholes_any w x n K X S W (word_of_wf wx).1 (word_of_wf wx).2 hS.1 hS.2).mono fun e W' ⟨he, hb⟩ => ?_
  subst he
  exact ⟨_, rfl, ⟨_, _, _, [], [], [], hW', trodAll_mk1 (shut_bool Try.underlying4 _), trodAll_mk3 (shut_int Try.underlying3 ww) (shut_int Try.underlying22 wx) (rd _ _ _ _), rfl, hb.frame _, fun h => by cases h⟩⟩

theorem roundWholes_holds : Rows.RoundWholesSaid :=
  OpenClaim.holds_of_wide 4 Try.f4 rfl rfl rfl rfl rfl rfl rfl ⟨rfl, rfl, rfl, rfl, rfl⟩ rfl rfl rfl rfl rfl (by kernel_rfl) Try.func4 (by kernel_rfl)
    (of_decide_eq_true (by kernel_rfl)) (by unfold Func.isWrapper; first | (rw [if_pos (by decide +kernel)]; kernel_rfl) | (rw [if_neg (by decide +kernel)]; exact ⟨rfl, rfl⟩))
    (fun os started H enc _ => roundWholes_lifted os started H enc)

#print axioms roundWholes_holds
end Go.Proofs.Ytiklaalcmfkddaa
