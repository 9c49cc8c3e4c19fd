/- The reference's Near, of a whole number times a power of two: the code's float. -/
import Derived.Test.YtlkmongiknpejaaNearA
import Derived.Test.YtlkmongiknpejaaNearB
import Derived.Test.YtlkmongiknpejaaNearC
import Derived.Test.YtlkmongiknpejaaPackB
namespace Go.Proofs.Ytlkmongiknpejaa
open Go.RowKit
open Go.Proofs.Ytlkmongiknpejaa.W

theorem pw_of_len {x i : Nat} (h : Go.bitLen x ≤ 32 * i) : x < pw i := by rw [pw_two]; exact bl_lt h
theorem one_pw : 1 < pw 300 := lt_pw (k := 1) 300 (by rw [pw_1]; omega) (by omega)
theorem cmp_not {x y : Nat} (h : y ≤ x) : decide (cmpN x y < 0) = false := df (fun hn => by have := cmpN_ge h; omega)

/-- The last bit's place of the float that is nearest to x times 2^k, and what is taken there. -/
theorem grain_known {f b k : Int} (x : Nat) (hx0 : x ≠ 0) (f0 : 0 ≤ f ∧ f ≤ 52) (hL : -1074 ≤ 1 - b - f ∧ 1 - b - f ≤ 0) (k0 : -4000 ≤ k) (k1 : k ≤ 4000) (hx : x < pw 140) {q : Int}
    (hq : q = if (Go.bitLen x : Int) - 1 + k - f < 1 - b - f then 1 - b - f else (Go.bitLen x : Int) - 1 + k - f) :
    unitOf f.toNat (lowN f b) (x * 2 ^ (k + 5000).toNat) = (q + 5000).toNat ∧
    ∀ (a b' : Option Addr) (na ca nb cb : Nat) (W : World), IsNat W (.slice a na ca) x → IsNat W (.slice b' nb cb) 1 →
      Calls Try.prog 67 #[.agg #[.slice a na ca], .agg #[.slice b' nb cb], .int .i64 (k - q)] W fun r W' => ∃ s', r = .returned (.agg #[s']) ∧ IsNat W' s' (near (x * 2 ^ (k + 5000).toNat) (2 ^ (q + 5000).toNat)) ∧ Below W.heap.size W W' := by
  have hl := bl_shl x (k + 5000).toNat hx0
  have hbp := bl_pos hx0
  have hb140 : Go.bitLen x ≤ 4480 := by have := bitLen_pw hx; omega
  have hqr : 1 - b - f ≤ q ∧ (Go.bitLen x : Int) - 1 + k - f ≤ q ∧ q ≤ 9000 ∧ q - k ≤ 8600 := by rw [hq]; split <;> omega
  refine ⟨?_, ?_⟩
  · unfold unitOf lowN
    rw [hl, hq]
    split <;> omega
  · intro a b' na ca nb cb W ha hb
    have h1 := one_pw
    have h300 : x < pw 300 := lt_pw 300 hx (by omega)
    by_cases h0 : 0 ≤ k - q
    · have e : near (x * 2 ^ (k + 5000).toNat) (2 ^ (q + 5000).toNat) = near (x * 2 ^ (k - q).toNat) 1 := by
        rw [pow_split2 (k + 5000).toNat (k - q).toNat (q + 5000).toNat (by omega), ← Nat.mul_assoc]
        have := near_scale (x * 2 ^ (k - q).toNat) 1 (2 ^ (q + 5000).toNat) (Nat.two_pow_pos _)
        rw [Nat.one_mul] at this
        exact this
      rw [e]
      refine grain_up a b' na ca nb cb x 1 (k - q) W ha hb h300 ?_ (by omega) h1 h0 (by omega)
      refine pw_of_len ?_
      rw [bl_shl x _ hx0]
      omega
    · have e : near (x * 2 ^ (k + 5000).toNat) (2 ^ (q + 5000).toNat) = near x (1 * 2 ^ (-(k - q)).toNat) := by
        rw [pow_split2 (q + 5000).toNat (-(k - q)).toNat (k + 5000).toNat (by omega), near_scale _ _ _ (Nat.two_pow_pos _), Nat.one_mul]
      rw [e]
      exact grain_dn a b' na ca nb cb x 1 (k - q) W ha hb h300 (pow_ne _) h1 (pow_pw (by omega)) h0 (by omega) (i64_id (by omega) (by omega))

set_option maxHeartbeats 2000000 in
theorem near_known {w e f P Q b k : Int} {n : Bool} (kd : Kd w e f P Q b) (a b' : Option Addr) (na ca nb cb x : Nat) (w0 : World) (hx : IsNat w0 (.slice a na ca) x) (hy : IsNat w0 (.slice b' nb cb) 1)
    (hx0 : x ≠ 0) (k0 : -4000 ≤ k) (k1 : k ≤ 4000) (h140 : x < pw 140) :
    Calls Try.prog 53 #[.int .i64 w, .bool n, .agg #[.slice a na ca], .agg #[.slice b' nb cb], .int .i64 k] w0 fun r W' => r = .returned (.int .u64 (fl f P Q n (lid P Q (code f.toNat (lowN f b) (x * 2 ^ (k + 5000).toNat) : Nat)))) ∧ Below w0.heap.size w0 W' := by
  obtain ⟨hP, f0, f1, l0, l1, b0, b1⟩ := kd.pow
  obtain ⟨q, hq0⟩ : ∃ q : Int, q = if (Go.bitLen x : Int) - 1 + k - f < 1 - b - f then 1 - b - f else (Go.bitLen x : Int) - 1 + k - f := ⟨_, rfl⟩
  obtain ⟨hu, hg⟩ := grain_known x hx0 ⟨f0, f1⟩ ⟨l0, l1⟩ k0 k1 h140 hq0
  have hbp := bl_pos hx0
  have hb140 : Go.bitLen x ≤ 4480 := by have := bitLen_pw h140; omega
  have hup := unit_up f.toNat (lowN f b) (x * 2 ^ (k + 5000).toNat)
  have hdn := fun h => unit_dn (f := f.toNat) (L := lowN f b) (X := x * 2 ^ (k + 5000).toNat) h
  have hqr : 1 - b - f ≤ q ∧ q ≤ 9000 := by rw [hq0]; split <;> omega
  have hcode : ((code f.toNat (lowN f b) (x * 2 ^ (k + 5000).toNat) : Nat) : Int) = (q - (1 - b - f)) * P + (near (x * 2 ^ (k + 5000).toNat) (2 ^ (q + 5000).toNat) : Nat) := by
    unfold code
    rw [hu, hP, show q - (1 - b - f) = (((q + 5000).toNat - lowN f b : Nat) : Int) by unfold lowN; omega]
    simp
  rw [hcode]
  rw [hu] at hup hdn
  generalize near (x * 2 ^ (k + 5000).toNat) (2 ^ (q + 5000).toNat) = G at *
  have hup' : (G : Int) ≤ 2 * P := by rw [hP]; omega
  have hdn' : 1 - b - f < q → P ≤ (G : Int) := fun h => by
    rw [hP]
    have := hdn (by unfold lowN; omega)
    omega
  clear hcode hup hdn hu
  have HF := hide (fun W => refF_any kd W)
  have HL := hide (fun W => refLow_any kd W)
  have HT := hide (fun W => refTop_any kd W)
  have H2 := hide (fun W => two_f kd W)
  have HI := hide (fun W => refInf_any n kd W)
  have HM := fun (X Y : Int) (x0 : 0 ≤ X) (x1 : X < Q) (y0 : 0 ≤ Y) (y1 : Y < P) W => make_any n X Y kd W x0 x1 y0 y1
  have HG := hide (hg a b' na ca nb cb)
  have hq : ((Go.bitLen x : Int) - (Go.bitLen 1 : Int) + k - f < 1 - b - f ∧ q = 1 - b - f) ∨ ((Go.bitLen x : Int) - (Go.bitLen 1 : Int) + k - f = 1 - b - f ∧ q = 1 - b - f) ∨ (1 - b - f < (Go.bitLen x : Int) - (Go.bitLen 1 : Int) + k - f ∧ q = (Go.bitLen x : Int) - (Go.bitLen 1 : Int) + k - f) := by
    rw [show Go.bitLen 1 = 1 from rfl, hq0]
    split <;> omega
  have HU : 1 - b - f < (Go.bitLen x : Int) - (Go.bitLen 1 : Int) + k - f → Hid (∀ W, IsNat W (.slice a na ca) x → IsNat W (.slice b' nb cb) 1 → Calls Try.prog 66 #[.agg #[.slice a na ca], .agg #[.slice b' nb cb], .int .i64 (k - q - f)] W fun r W' => r = .returned (.bool false) ∧ Below W.heap.size W W') := by
    intro hlt W ha hb
    have hs : k - q - f = 1 - (Go.bitLen x : Int) := by
      rw [show Go.bitLen 1 = 1 from rfl] at hlt
      rw [hq0, if_neg (by omega)]
      omega
    have hxl := bl_ge (x := x) (k := Go.bitLen x - 1) (by omega)
    rw [hs]
    by_cases h1 : 0 ≤ 1 - (Go.bitLen x : Int)
    · have hu := under_up a b' na ca nb cb x 1 (1 - (Go.bitLen x : Int)) W ha hb (lt_pw 300 h140 (by omega)) h1 (by omega)
      rw [cmp_not (by have := Nat.two_pow_pos (1 - (Go.bitLen x : Int)).toNat; exact Nat.mul_pos (by omega) this)] at hu
      exact hu
    · have hu := under_dn a b' na ca nb cb x 1 (1 - (Go.bitLen x : Int)) W ha hb one_pw h1 (by omega) (i64_id (by omega) (by omega))
      rw [cmp_not (by rw [show (-(1 - (Go.bitLen x : Int))).toNat = Go.bitLen x - 1 by omega]; omega)] at hu
      exact hu
  have hl1 : (Go.bitLen 1 : Int) = 1 := rfl
  have hG3 : G < pw 300 := by
    have h2 : G < 2 ^ 54 := by rcases kd with ⟨_, _, _, rfl, _⟩ | ⟨_, _, _, rfl, _⟩ <;> omega
    exact pw_of_len (Nat.le_trans (bitLen_of h2) (by omega))
  clear hq0 hg
  rcases kd with ⟨rfl, rfl, rfl, rfl, rfl, rfl⟩ | ⟨rfl, rfl, rfl, rfl, rfl, rfl⟩
  · by_cases hbig : 2 * 8388608 ≤ G
    · have hG : G = 2 * 8388608 := by omega
      have hs2 : lo (G / 2 ^ 1) = 8388608 := by rw [hG]; rfl
      have d : (23 : Int) + 1 < (Go.bitLen G : Int) := by rw [hG]; decide +kernel
      by_cases g : 1 - 127 - 23 + (256 - 1) - 2 < q + 1
      · unfold lid
        rw [if_pos (by omega), fl_eq n (x := 256 - 1) (y := 0) (by rfl) (by rfl)]
        exact near_bi a b' na ca nb cb x 1 G w0 hx hy HF HL HT H2 rfl rfl (by omega) (by omega) (by omega) (by omega) (by omega) (by omega) rfl hq HU HG rfl d hG3 (dt g) HI
      · unfold lid
        rw [if_neg (by omega), fl_eq n (x := q + 1 - (1 - 127 - 23) + 1) (y := 8388608 - 8388608) (by omega) (by omega)]
        exact near_bn a b' na ca nb cb x 1 G w0 hx hy HF HL HT H2 rfl rfl (by omega) (by omega) (by omega) (by omega) (by omega) (by omega) rfl hq HU HG rfl d hG3 (df g) hs2 (df (by omega)) (i64_id (by omega) (by omega)) (i64_id (by omega) (by omega)) (by rw [IntKind.wrap_u64]; rfl) (hide (fun W => HM _ _ (by omega) (by omega) (by omega) (by omega) W))
    · have hs2 : lo G = (G : Int) := lo_small (by omega)
      have d : ¬ (23 : Int) + 1 < (Go.bitLen G : Int) := by
        have := bitLen_of (v := G) (k := 23 + 1) (by omega)
        omega
      by_cases g : 1 - 127 - 23 + (256 - 1) - 2 < q
      · unfold lid
        rw [if_pos (by omega), fl_eq n (x := 256 - 1) (y := 0) (by rfl) (by rfl)]
        exact near_si a b' na ca nb cb x 1 G w0 hx hy HF HL HT H2 rfl rfl (by omega) (by omega) (by omega) (by omega) (by omega) (by omega) rfl hq HU HG rfl d (dt g) HI
      · unfold lid
        rw [if_neg (by omega)]
        by_cases t : (G : Int) < 8388608
        · rw [fl_eq n (x := 0) (y := (G : Int)) (by omega) (by omega)]
          exact near_ss a b' na ca nb cb x 1 G w0 hx hy HF HL HT H2 rfl rfl (by omega) (by omega) (by omega) (by omega) (by omega) (by omega) rfl hq HU HG rfl d (df g) hs2 (dt t) (hide (fun W => HM _ _ (by omega) (by omega) (by omega) (by omega) W))
        · rw [fl_eq n (x := q - (1 - 127 - 23) + 1) (y := (G : Int) - 8388608) (by omega) (by omega)]
          exact near_sn a b' na ca nb cb x 1 G w0 hx hy HF HL HT H2 rfl rfl (by omega) (by omega) (by omega) (by omega) (by omega) (by omega) rfl hq HU HG rfl d (df g) hs2 (df t) (i64_id (by omega) (by omega)) (i64_id (by omega) (by omega)) (by rw [IntKind.wrap_u64]; omega) (hide (fun W => HM _ _ (by omega) (by omega) (by omega) (by omega) W))
  · by_cases hbig : 2 * 4503599627370496 ≤ G
    · have hG : G = 2 * 4503599627370496 := by omega
      have hs2 : lo (G / 2 ^ 1) = 4503599627370496 := by rw [hG]; rfl
      have d : (52 : Int) + 1 < (Go.bitLen G : Int) := by rw [hG]; decide +kernel
      by_cases g : 1 - 1023 - 52 + (2048 - 1) - 2 < q + 1
      · unfold lid
        rw [if_pos (by omega), fl_eq n (x := 2048 - 1) (y := 0) (by rfl) (by rfl)]
        exact near_bi a b' na ca nb cb x 1 G w0 hx hy HF HL HT H2 rfl rfl (by omega) (by omega) (by omega) (by omega) (by omega) (by omega) rfl hq HU HG rfl d hG3 (dt g) HI
      · unfold lid
        rw [if_neg (by omega), fl_eq n (x := q + 1 - (1 - 1023 - 52) + 1) (y := 4503599627370496 - 4503599627370496) (by omega) (by omega)]
        exact near_bn a b' na ca nb cb x 1 G w0 hx hy HF HL HT H2 rfl rfl (by omega) (by omega) (by omega) (by omega) (by omega) (by omega) rfl hq HU HG rfl d hG3 (df g) hs2 (df (by omega)) (i64_id (by omega) (by omega)) (i64_id (by omega) (by omega)) (by rw [IntKind.wrap_u64]; rfl) (hide (fun W => HM _ _ (by omega) (by omega) (by omega) (by omega) W))
    · have hs2 : lo G = (G : Int) := lo_small (by omega)
      have d : ¬ (52 : Int) + 1 < (Go.bitLen G : Int) := by
        have := bitLen_of (v := G) (k := 52 + 1) (by omega)
        omega
      by_cases g : 1 - 1023 - 52 + (2048 - 1) - 2 < q
      · unfold lid
        rw [if_pos (by omega), fl_eq n (x := 2048 - 1) (y := 0) (by rfl) (by rfl)]
        exact near_si a b' na ca nb cb x 1 G w0 hx hy HF HL HT H2 rfl rfl (by omega) (by omega) (by omega) (by omega) (by omega) (by omega) rfl hq HU HG rfl d (dt g) HI
      · unfold lid
        rw [if_neg (by omega)]
        by_cases t : (G : Int) < 4503599627370496
        · rw [fl_eq n (x := 0) (y := (G : Int)) (by omega) (by omega)]
          exact near_ss a b' na ca nb cb x 1 G w0 hx hy HF HL HT H2 rfl rfl (by omega) (by omega) (by omega) (by omega) (by omega) (by omega) rfl hq HU HG rfl d (df g) hs2 (dt t) (hide (fun W => HM _ _ (by omega) (by omega) (by omega) (by omega) W))
        · rw [fl_eq n (x := q - (1 - 1023 - 52) + 1) (y := (G : Int) - 4503599627370496) (by omega) (by omega)]
          exact near_sn a b' na ca nb cb x 1 G w0 hx hy HF HL HT H2 rfl rfl (by omega) (by omega) (by omega) (by omega) (by omega) (by omega) rfl hq HU HG rfl d (df g) hs2 (df t) (i64_id (by omega) (by omega)) (i64_id (by omega) (by omega)) (by rw [IntKind.wrap_u64]; omega) (hide (fun W => HM _ _ (by omega) (by omega) (by omega) (by omega) W))

end Go.Proofs.Ytlkmongiknpejaa
