/- NearQ, QuoB, WKnuth, WDiv64. -/
import Derived.Test.YtcgnlpamfhdiiaaG06
import Derived.Test.YtcgnlpamfhdiiaaG15
import Derived.Laws.MathBits
import Derived.Shelf.Spec.BitsCarry
import Derived.Handy
import Derived.Deep.Cut
import Derived.Deep.CutBlock
import Derived.Deep.DeepCutAuto
namespace Go.Proofs.Ytcgnlpamfhdiiaa
open Go.RowKit
open Go.Proofs.Ytcgnlpamfhdiiaa.W

/-- The float that is nearest to X by D, 5000 bits up. -/
def rdQ (f P Q b : Int) (n : Bool) (X D : Nat) : Int := fl f P Q n (lid P Q (codeQ f.toNat (lowN f b) X D : Nat))

theorem bl_64 {x : Nat} (h : x < 18446744073709551616) : Go.bitLen x ≤ 64 := bitLen_of (k := 64) (by omega)
/-- How long a quotient is. -/
theorem bl_quot {x y e t : Nat} (hx : x ≠ 0) (hy : y ≠ 0) (ht : t + Go.bitLen y = Go.bitLen x + e) (h1 : 1 ≤ t) :
    (y * 2 ^ t ≤ x * 2 ^ e → Go.bitLen (x * 2 ^ e / y) = t + 1) ∧ (x * 2 ^ e < y * 2 ^ t → Go.bitLen (x * 2 ^ e / y) = t) := by
  have hyp : 0 < y := by omega
  have hx1 := bl_lt (x := x) (k := Go.bitLen x) (Nat.le_refl _)
  have hx2 := bl_ge (x := x) (k := Go.bitLen x - 1) (by have := bl_pos hx; omega)
  have hy1 := bl_lt (x := y) (k := Go.bitLen y) (Nat.le_refl _)
  have hy2 := bl_ge (x := y) (k := Go.bitLen y - 1) (by have := bl_pos hy; omega)
  have px := bl_pos hx
  have py := bl_pos hy
  constructor
  · intro h
    refine bl_eq ((Nat.le_div_iff_mul_le hyp).2 (by rw [Nat.mul_comm]; exact h)) ((Nat.div_lt_iff_lt_mul hyp).2 ?_)
    have h3 : x * 2 ^ e < 2 ^ Go.bitLen x * 2 ^ e := Nat.mul_lt_mul_of_pos_right hx1 (Nat.two_pow_pos e)
    have h4 : 2 ^ (t + 1) * 2 ^ (Go.bitLen y - 1) ≤ 2 ^ (t + 1) * y := Nat.mul_le_mul_left _ hy2
    rw [← Nat.pow_add] at h3 h4
    rw [show t + 1 + (Go.bitLen y - 1) = Go.bitLen x + e by omega] at h4
    omega
  · intro h
    obtain ⟨i, rfl⟩ : ∃ i, t = i + 1 := ⟨t - 1, by omega⟩
    refine bl_eq ((Nat.le_div_iff_mul_le hyp).2 ?_) ((Nat.div_lt_iff_lt_mul hyp).2 (by rw [Nat.mul_comm (2 ^ (i + 1))]; exact h))
    have h3 : 2 ^ (Go.bitLen x - 1) * 2 ^ e ≤ x * 2 ^ e := Nat.mul_le_mul_right _ hx2
    have h4 : 2 ^ i * y ≤ 2 ^ i * 2 ^ Go.bitLen y := Nat.mul_le_mul_left _ (Nat.le_of_lt hy1)
    rw [← Nat.pow_add] at h3 h4
    rw [show i + Go.bitLen y = Go.bitLen x - 1 + e by omega] at h4
    omega

theorem pow_bl {x d i : Nat} (hx : x < 18446744073709551616) (h : 64 + d ≤ 32 * i) : x * 2 ^ d < pw i := by
  rw [pw_two]
  have h1 : x * 2 ^ d < 2 ^ 64 * 2 ^ d := Nat.mul_lt_mul_of_pos_right (by omega) (Nat.two_pow_pos d)
  rw [← Nat.pow_add] at h1
  exact Nat.lt_of_lt_of_le h1 (Nat.pow_le_pow_right (by omega) h)
theorem w64_pw {x : Nat} (hx : x < 18446744073709551616) : x < pw 300 := by
  have := pow_bl (d := 0) (i := 300) hx (by omega)
  rwa [Nat.pow_zero, Nat.mul_one] at this
/-- What is taken at a place. -/
theorem grain_gen {k q : Int} (x y : Nat) (hy0 : y ≠ 0) (hx : x < 18446744073709551616) (hy : y < 18446744073709551616) (k0 : -2500 ≤ k) (k1 : k ≤ 2500) (q0 : -1100 ≤ q) (q1 : q ≤ 3000)
    (a b' : Option Addr) (na ca nb cb : Nat) (W : World) (ha : IsNat W (.slice a na ca) x) (hb : IsNat W (.slice b' nb cb) y) :
      Calls Try.prog 53 #[.agg #[.slice a na ca], .agg #[.slice b' nb cb], .int .i64 (k - q)] W fun r W' => ∃ s', r = .returned (.agg #[s']) ∧ IsNat W' s' (near (x * 2 ^ (k + 5000).toNat) (y * 2 ^ (q + 5000).toNat)) ∧ Below W.heap.size W W' := by
  by_cases h0 : 0 ≤ k - q
  · have e : near (x * 2 ^ (k + 5000).toNat) (y * 2 ^ (q + 5000).toNat) = near (x * 2 ^ (k - q).toNat) y := by
      rw [pow_split2 (k + 5000).toNat (k - q).toNat (q + 5000).toNat (by omega), ← Nat.mul_assoc]
      exact near_scale (x * 2 ^ (k - q).toNat) y (2 ^ (q + 5000).toNat) (Nat.two_pow_pos _)
    rw [e]
    exact grain_up a b' na ca nb cb x y (k - q) W ha hb (w64_pw hx) (pow_bl hx (by omega)) hy0 (w64_pw hy) h0 (by omega)
  · have e : near (x * 2 ^ (k + 5000).toNat) (y * 2 ^ (q + 5000).toNat) = near x (y * 2 ^ (-(k - q)).toNat) := by
      rw [pow_split2 (q + 5000).toNat (-(k - q)).toNat (k + 5000).toNat (by omega), ← Nat.mul_assoc, near_scale _ _ _ (Nat.two_pow_pos _)]
    rw [e]
    exact grain_dn a b' na ca nb cb x y (k - q) W ha hb (w64_pw hx) (Nat.pos_iff_ne_zero.1 (Nat.mul_pos (by omega) (Nat.two_pow_pos _))) (w64_pw hy) (pow_bl hy (by omega)) h0 (by omega) (i64_id (by omega) (by omega))
theorem cmp_lt {x y : Nat} : decide (cmpN x y < 0) = decide (x < y) := by
  unfold cmpN
  by_cases h : x < y
  · rw [if_pos h, dt h]
    rfl
  · rw [if_neg h, df h]
    split <;> rfl
/-- Whether a quotient lies below a power of two. -/
theorem under_gen {k s : Int} {t : Nat} (x y : Nat) (hx : x < 18446744073709551616) (hy : y < 18446744073709551616) (k0 : -2500 ≤ k) (k1 : k ≤ 2500) (s0 : -100 ≤ s) (s1 : s ≤ 100) (ht : (t : Int) = k + 5000 - s)
    (a b' : Option Addr) (na ca nb cb : Nat) (W : World) (ha : IsNat W (.slice a na ca) x) (hb : IsNat W (.slice b' nb cb) y) :
      Calls Try.prog 52 #[.agg #[.slice a na ca], .agg #[.slice b' nb cb], .int .i64 s] W fun r W' => r = .returned (.bool (decide (x * 2 ^ (k + 5000).toNat < y * 2 ^ t))) ∧ Below W.heap.size W W' := by
  by_cases h0 : 0 ≤ s
  · have hu := under_up a b' na ca nb cb x y s W ha hb (w64_pw hx) h0 (by omega)
    rw [cmp_lt] at hu
    have e : (x * 2 ^ (k + 5000).toNat < y * 2 ^ t) = (x * 2 ^ s.toNat < y) := by
      rw [pow_split2 (k + 5000).toNat s.toNat t (by omega), ← Nat.mul_assoc]
      exact propext (Nat.mul_lt_mul_right (Nat.two_pow_pos t))
    simp only [e]
    exact hu
  · have hu := under_dn a b' na ca nb cb x y s W ha hb (w64_pw hy) h0 (by omega) (i64_id (by omega) (by omega))
    rw [cmp_lt] at hu
    have e : (x * 2 ^ (k + 5000).toNat < y * 2 ^ t) = (x < y * 2 ^ (-s).toNat) := by
      rw [pow_split2 t (-s).toNat (k + 5000).toNat (by omega), ← Nat.mul_assoc]
      exact propext (Nat.mul_lt_mul_right (Nat.two_pow_pos (k + 5000).toNat))
    simp only [e]
    exact hu

set_option maxHeartbeats 2000000 in
theorem near_gen {w e f P Q b k : Int} {n : Bool} (kd : Kd w e f P Q b) (a b' : Option Addr) (na ca nb cb x y : Nat) (w0 : World) (hx : IsNat w0 (.slice a na ca) x) (hy : IsNat w0 (.slice b' nb cb) y)
    (hx0 : x ≠ 0) (hy0 : y ≠ 0) (hx6 : x < 18446744073709551616) (hy6 : y < 18446744073709551616) (k0 : -2500 ≤ k) (k1 : k ≤ 2500) :
    Calls Try.prog 25 #[.int .i64 w, .bool n, .agg #[.slice a na ca], .agg #[.slice b' nb cb], .int .i64 k] w0 fun r W' => r = .returned (.int .u64 (rdQ f P Q b n (x * 2 ^ (k + 5000).toNat) y)) ∧ Below w0.heap.size w0 W' := by
  obtain ⟨hP, f0, f1, l0, l1, b0, b1⟩ := kd.pow
  have hbx := bl_64 hx6
  have hby := bl_64 hy6
  have pbx := bl_pos hx0
  have pby := bl_pos hy0
  obtain ⟨t, ht⟩ : ∃ t : Nat, (t : Int) = (Go.bitLen x : Int) - Go.bitLen y + k + 5000 := ⟨((Go.bitLen x : Int) - Go.bitLen y + k + 5000).toNat, by omega⟩
  obtain ⟨hge, hlt⟩ := bl_quot (e := (k + 5000).toNat) (t := t) hx0 hy0 (by omega) (by omega)
  have hund := fun W ha hb => under_gen (k := k) (s := k - ((Go.bitLen x : Int) - Go.bitLen y + k - f) - f) (t := t) x y hx6 hy6 k0 k1 (by omega) (by omega) (by omega) a b' na ca nb cb W ha hb
  obtain ⟨q, hu, q0, q1, hw⟩ : ∃ q : Int, unitQ f.toNat (lowN f b) (x * 2 ^ (k + 5000).toNat) y = (q + 5000).toNat ∧ 1 - b - f ≤ q ∧ q ≤ 3000 ∧
      (((((Go.bitLen x : Int) - (Go.bitLen y : Int) + k - f < 1 - b - f ∧ q = 1 - b - f) ∨ ((Go.bitLen x : Int) - (Go.bitLen y : Int) + k - f = 1 - b - f ∧ q = 1 - b - f) ∨ (1 - b - f < (Go.bitLen x : Int) - (Go.bitLen y : Int) + k - f ∧ q = (Go.bitLen x : Int) - (Go.bitLen y : Int) + k - f)) ∧
        (1 - b - f < (Go.bitLen x : Int) - (Go.bitLen y : Int) + k - f → Hid (∀ W, IsNat W (.slice a na ca) x → IsNat W (.slice b' nb cb) y → Calls Try.prog 52 #[.agg #[.slice a na ca], .agg #[.slice b' nb cb], .int .i64 (k - q - f)] W fun r W' => r = .returned (.bool false) ∧ Below W.heap.size W W'))) ∨
       (1 - b - f < (Go.bitLen x : Int) - (Go.bitLen y : Int) + k - f ∧ IntKind.i64.wrap ((Go.bitLen x : Int) - (Go.bitLen y : Int) + k - f - 1) = q ∧
        Hid (∀ W, IsNat W (.slice a na ca) x → IsNat W (.slice b' nb cb) y → Calls Try.prog 52 #[.agg #[.slice a na ca], .agg #[.slice b' nb cb], .int .i64 (k - ((Go.bitLen x : Int) - (Go.bitLen y : Int) + k - f) - f)] W fun r W' => r = .returned (.bool true) ∧ Below W.heap.size W W'))) := by
    have hb : Go.bitLen (x * 2 ^ (k + 5000).toNat / y) = t + 1 ∨ Go.bitLen (x * 2 ^ (k + 5000).toNat / y) = t := by
      by_cases h : x * 2 ^ (k + 5000).toNat < y * 2 ^ t
      · exact Or.inr (hlt h)
      · exact Or.inl (hge (by omega))
    by_cases hL : (Go.bitLen x : Int) - (Go.bitLen y : Int) + k - f ≤ 1 - b - f
    · refine ⟨1 - b - f, ?_, by omega, by omega, Or.inl ⟨by omega, fun h => absurd h (by omega)⟩⟩
      unfold unitQ lowN
      rcases hb with hb | hb <;> rw [hb] <;> omega
    · by_cases h : x * 2 ^ (k + 5000).toNat < y * 2 ^ t
      · refine ⟨(Go.bitLen x : Int) - (Go.bitLen y : Int) + k - f - 1, ?_, by omega, by omega, Or.inr ⟨by omega, i64_id (by omega) (by omega), hide (fun W ha hb => ?_)⟩⟩
        · unfold unitQ lowN
          rw [hlt h]
          omega
        · have := hund W ha hb
          rw [dt h] at this
          exact this
      · refine ⟨(Go.bitLen x : Int) - (Go.bitLen y : Int) + k - f, ?_, by omega, by omega, Or.inl ⟨by omega, fun _ => hide (fun W ha hb => ?_)⟩⟩
        · unfold unitQ lowN
          rw [hge (by omega)]
          omega
        · have := hund W ha hb
          rw [df h] at this
          exact this
  have hg := fun W ha hb => grain_gen (k := k) (q := q) x y hy0 hx6 hy6 k0 k1 (by omega) q1 a b' na ca nb cb W ha hb
  have hup := unitQ_up f.toNat (lowN f b) (x * 2 ^ (k + 5000).toNat) y (by omega)
  have hdn := fun h => unitQ_dn (f := f.toNat) (L := lowN f b) (X := x * 2 ^ (k + 5000).toNat) (D := y) (by omega) h
  have hcode : ((codeQ f.toNat (lowN f b) (x * 2 ^ (k + 5000).toNat) y : Nat) : Int) = (q - (1 - b - f)) * P + (near (x * 2 ^ (k + 5000).toNat) (y * 2 ^ (q + 5000).toNat) : Nat) := by
    unfold codeQ
    rw [hu, hP, show q - (1 - b - f) = (((q + 5000).toNat - lowN f b : Nat) : Int) by unfold lowN; omega]
    simp
  unfold rdQ
  rw [hcode]
  rw [hu] at hup hdn
  generalize near (x * 2 ^ (k + 5000).toNat) (y * 2 ^ (q + 5000).toNat) = G at *
  have hup' : (G : Int) ≤ 2 * P := by rw [hP]; omega
  have hdn' : 1 - b - f < q → P ≤ (G : Int) := fun h => by
    rw [hP]
    have := hdn (by unfold lowN; omega)
    omega
  clear hcode hup hdn hu hge hlt hund
  have HF := hide (fun W => refF_any kd W)
  have HL := hide (fun W => refLow_any kd W)
  have HT := hide (fun W => refTop_any kd W)
  have H2 := hide (fun W => two_f kd W)
  have HI := hide (fun W => refInf_any n kd W)
  have HM := fun (X Y : Int) (x0 : 0 ≤ X) (x1 : X < Q) (y0 : 0 ≤ Y) (y1 : Y < P) W => make_any n X Y kd W x0 x1 y0 y1
  have HG := hide hg
  have hG3 : G < pw 300 := by
    have h2 : G < 2 ^ 54 := by rcases kd with ⟨_, _, _, rfl, _⟩ | ⟨_, _, _, rfl, _⟩ <;> omega
    exact pw_of_len (Nat.le_trans (bitLen_of h2) (by omega))
  clear hg ht
  rcases kd with ⟨rfl, rfl, rfl, rfl, rfl, rfl⟩ | ⟨rfl, rfl, rfl, rfl, rfl, rfl⟩
  · by_cases hbig : 2 * 8388608 ≤ G
    · have hG : G = 2 * 8388608 := by omega
      have hs2 : lo (G / 2 ^ 1) = 8388608 := by rw [hG]; rfl
      have d : (23 : Int) + 1 < (Go.bitLen G : Int) := by rw [hG]; decide +kernel
      by_cases g : 1 - 127 - 23 + (256 - 1) - 2 < q + 1
      · unfold lid
        rw [if_pos (by omega), fl_eq n (x := 256 - 1) (y := 0) (by rfl) (by rfl)]
        rcases hw with ⟨hq, HU⟩ | ⟨xm, k6, HU⟩
        · exact near_bi a b' na ca nb cb x y G w0 hx hy HF HL HT H2 rfl rfl (by omega) (by omega) (by omega) (by omega) (by omega) (by omega) rfl hq HU HG rfl d hG3 (dt g) HI
        · exact nearT_bi a b' na ca nb cb x y G w0 hx hy HF HL HT H2 rfl rfl (by omega) (by omega) (by omega) (by omega) (by omega) (by omega) rfl xm k6 (by omega) HU HG rfl d hG3 (dt g) HI
      · unfold lid
        rw [if_neg (by omega), fl_eq n (x := q + 1 - (1 - 127 - 23) + 1) (y := 8388608 - 8388608) (by omega) (by omega)]
        rcases hw with ⟨hq, HU⟩ | ⟨xm, k6, HU⟩
        · exact near_bn a b' na ca nb cb x y G w0 hx hy HF HL HT H2 rfl rfl (by omega) (by omega) (by omega) (by omega) (by omega) (by omega) rfl hq HU HG rfl d hG3 (df g) hs2 (df (by omega)) (i64_id (by omega) (by omega)) (i64_id (by omega) (by omega)) (by rw [IntKind.wrap_u64]; rfl) (hide (fun W => HM _ _ (by omega) (by omega) (by omega) (by omega) W))
        · exact nearT_bn a b' na ca nb cb x y G w0 hx hy HF HL HT H2 rfl rfl (by omega) (by omega) (by omega) (by omega) (by omega) (by omega) rfl xm k6 (by omega) HU HG rfl d hG3 (df g) hs2 (df (by omega)) (i64_id (by omega) (by omega)) (i64_id (by omega) (by omega)) (by rw [IntKind.wrap_u64]; rfl) (hide (fun W => HM _ _ (by omega) (by omega) (by omega) (by omega) W))
    · have hs2 : lo G = (G : Int) := lo_small (by omega)
      have d : ¬ (23 : Int) + 1 < (Go.bitLen G : Int) := by
        have := bitLen_of (v := G) (k := 23 + 1) (by omega)
        omega
      by_cases g : 1 - 127 - 23 + (256 - 1) - 2 < q
      · unfold lid
        rw [if_pos (by omega), fl_eq n (x := 256 - 1) (y := 0) (by rfl) (by rfl)]
        rcases hw with ⟨hq, HU⟩ | ⟨xm, k6, HU⟩
        · exact near_si a b' na ca nb cb x y G w0 hx hy HF HL HT H2 rfl rfl (by omega) (by omega) (by omega) (by omega) (by omega) (by omega) rfl hq HU HG rfl d (dt g) HI
        · exact nearT_si a b' na ca nb cb x y G w0 hx hy HF HL HT H2 rfl rfl (by omega) (by omega) (by omega) (by omega) (by omega) (by omega) rfl xm k6 (by omega) HU HG rfl d (dt g) HI
      · unfold lid
        rw [if_neg (by omega)]
        by_cases t : (G : Int) < 8388608
        · rw [fl_eq n (x := 0) (y := (G : Int)) (by omega) (by omega)]
          rcases hw with ⟨hq, HU⟩ | ⟨xm, k6, HU⟩
          · exact near_ss a b' na ca nb cb x y G w0 hx hy HF HL HT H2 rfl rfl (by omega) (by omega) (by omega) (by omega) (by omega) (by omega) rfl hq HU HG rfl d (df g) hs2 (dt t) (hide (fun W => HM _ _ (by omega) (by omega) (by omega) (by omega) W))
          · exact nearT_ss a b' na ca nb cb x y G w0 hx hy HF HL HT H2 rfl rfl (by omega) (by omega) (by omega) (by omega) (by omega) (by omega) rfl xm k6 (by omega) HU HG rfl d (df g) hs2 (dt t) (hide (fun W => HM _ _ (by omega) (by omega) (by omega) (by omega) W))
        · rw [fl_eq n (x := q - (1 - 127 - 23) + 1) (y := (G : Int) - 8388608) (by omega) (by omega)]
          rcases hw with ⟨hq, HU⟩ | ⟨xm, k6, HU⟩
          · exact near_sn a b' na ca nb cb x y G w0 hx hy HF HL HT H2 rfl rfl (by omega) (by omega) (by omega) (by omega) (by omega) (by omega) rfl hq HU HG rfl d (df g) hs2 (df t) (i64_id (by omega) (by omega)) (i64_id (by omega) (by omega)) (by rw [IntKind.wrap_u64]; omega) (hide (fun W => HM _ _ (by omega) (by omega) (by omega) (by omega) W))
          · exact nearT_sn a b' na ca nb cb x y G w0 hx hy HF HL HT H2 rfl rfl (by omega) (by omega) (by omega) (by omega) (by omega) (by omega) rfl xm k6 (by omega) HU HG rfl d (df g) hs2 (df t) (i64_id (by omega) (by omega)) (i64_id (by omega) (by omega)) (by rw [IntKind.wrap_u64]; omega) (hide (fun W => HM _ _ (by omega) (by omega) (by omega) (by omega) W))
  · by_cases hbig : 2 * 4503599627370496 ≤ G
    · have hG : G = 2 * 4503599627370496 := by omega
      have hs2 : lo (G / 2 ^ 1) = 4503599627370496 := by rw [hG]; rfl
      have d : (52 : Int) + 1 < (Go.bitLen G : Int) := by rw [hG]; decide +kernel
      by_cases g : 1 - 1023 - 52 + (2048 - 1) - 2 < q + 1
      · unfold lid
        rw [if_pos (by omega), fl_eq n (x := 2048 - 1) (y := 0) (by rfl) (by rfl)]
        rcases hw with ⟨hq, HU⟩ | ⟨xm, k6, HU⟩
        · exact near_bi a b' na ca nb cb x y G w0 hx hy HF HL HT H2 rfl rfl (by omega) (by omega) (by omega) (by omega) (by omega) (by omega) rfl hq HU HG rfl d hG3 (dt g) HI
        · exact nearT_bi a b' na ca nb cb x y G w0 hx hy HF HL HT H2 rfl rfl (by omega) (by omega) (by omega) (by omega) (by omega) (by omega) rfl xm k6 (by omega) HU HG rfl d hG3 (dt g) HI
      · unfold lid
        rw [if_neg (by omega), fl_eq n (x := q + 1 - (1 - 1023 - 52) + 1) (y := 4503599627370496 - 4503599627370496) (by omega) (by omega)]
        rcases hw with ⟨hq, HU⟩ | ⟨xm, k6, HU⟩
        · exact near_bn a b' na ca nb cb x y G w0 hx hy HF HL HT H2 rfl rfl (by omega) (by omega) (by omega) (by omega) (by omega) (by omega) rfl hq HU HG rfl d hG3 (df g) hs2 (df (by omega)) (i64_id (by omega) (by omega)) (i64_id (by omega) (by omega)) (by rw [IntKind.wrap_u64]; rfl) (hide (fun W => HM _ _ (by omega) (by omega) (by omega) (by omega) W))
        · exact nearT_bn a b' na ca nb cb x y G w0 hx hy HF HL HT H2 rfl rfl (by omega) (by omega) (by omega) (by omega) (by omega) (by omega) rfl xm k6 (by omega) HU HG rfl d hG3 (df g) hs2 (df (by omega)) (i64_id (by omega) (by omega)) (i64_id (by omega) (by omega)) (by rw [IntKind.wrap_u64]; rfl) (hide (fun W => HM _ _ (by omega) (by omega) (by omega) (by omega) W))
    · have hs2 : lo G = (G : Int) := lo_small (by omega)
      have d : ¬ (52 : Int) + 1 < (Go.bitLen G : Int) := by
        have := bitLen_of (v := G) (k := 52 + 1) (by omega)
        omega
      by_cases g : 1 - 1023 - 52 + (2048 - 1) - 2 < q
      · unfold lid
        rw [if_pos (by omega), fl_eq n (x := 2048 - 1) (y := 0) (by rfl) (by rfl)]
        rcases hw with ⟨hq, HU⟩ | ⟨xm, k6, HU⟩
        · exact near_si a b' na ca nb cb x y G w0 hx hy HF HL HT H2 rfl rfl (by omega) (by omega) (by omega) (by omega) (by omega) (by omega) rfl hq HU HG rfl d (dt g) HI
        · exact nearT_si a b' na ca nb cb x y G w0 hx hy HF HL HT H2 rfl rfl (by omega) (by omega) (by omega) (by omega) (by omega) (by omega) rfl xm k6 (by omega) HU HG rfl d (dt g) HI
      · unfold lid
        rw [if_neg (by omega)]
        by_cases t : (G : Int) < 4503599627370496
        · rw [fl_eq n (x := 0) (y := (G : Int)) (by omega) (by omega)]
          rcases hw with ⟨hq, HU⟩ | ⟨xm, k6, HU⟩
          · exact near_ss a b' na ca nb cb x y G w0 hx hy HF HL HT H2 rfl rfl (by omega) (by omega) (by omega) (by omega) (by omega) (by omega) rfl hq HU HG rfl d (df g) hs2 (dt t) (hide (fun W => HM _ _ (by omega) (by omega) (by omega) (by omega) W))
          · exact nearT_ss a b' na ca nb cb x y G w0 hx hy HF HL HT H2 rfl rfl (by omega) (by omega) (by omega) (by omega) (by omega) (by omega) rfl xm k6 (by omega) HU HG rfl d (df g) hs2 (dt t) (hide (fun W => HM _ _ (by omega) (by omega) (by omega) (by omega) W))
        · rw [fl_eq n (x := q - (1 - 1023 - 52) + 1) (y := (G : Int) - 4503599627370496) (by omega) (by omega)]
          rcases hw with ⟨hq, HU⟩ | ⟨xm, k6, HU⟩
          · exact near_sn a b' na ca nb cb x y G w0 hx hy HF HL HT H2 rfl rfl (by omega) (by omega) (by omega) (by omega) (by omega) (by omega) rfl hq HU HG rfl d (df g) hs2 (df t) (i64_id (by omega) (by omega)) (i64_id (by omega) (by omega)) (by rw [IntKind.wrap_u64]; omega) (hide (fun W => HM _ _ (by omega) (by omega) (by omega) (by omega) W))
          · exact nearT_sn a b' na ca nb cb x y G w0 hx hy HF HL HT H2 rfl rfl (by omega) (by omega) (by omega) (by omega) (by omega) (by omega) rfl xm k6 (by omega) HU HG rfl d (df g) hs2 (df t) (i64_id (by omega) (by omega)) (i64_id (by omega) (by omega)) (by rw [IntKind.wrap_u64]; omega) (hide (fun W => HM _ _ (by omega) (by omega) (by omega) (by omega) W))

end Go.Proofs.Ytcgnlpamfhdiiaa
namespace Go.Proofs.Ytcgnlpamfhdiiaa
open Go.RowKit
open Go.Proofs.Ytcgnlpamfhdiiaa.W

/-- The quotient of two floats that are taken apart. -/
def divP (f P Q b : Int) (n1 : Bool) (K1 : Int) (M1 : Nat) (n2 : Bool) (K2 : Int) (M2 : Nat) : Int :=
  if K1 = 3 ∨ K2 = 3 ∨ (K1 = 2 ∧ K2 = 2) ∨ (K1 = 0 ∧ K2 = 0) then nanB f P Q
  else if K1 = 2 ∨ K2 = 0 then put f P Q (n1 != n2) (Q - 1) 0
  else if K1 = 0 ∨ K2 = 2 then put f P Q (n1 != n2) 0 0
  else rdQ f P Q b (n1 != n2) (M1 * 2 ^ Z5) M2
/-- The quotient of two floats. -/
def divB (f P Q b x y : Int) : Int := divP f P Q b (oN P Q x) (oK P Q x) (oM f P Q b x) (oN P Q y) (oK P Q y) (oM f P Q b y)

theorem mag_div (f P Q b : Int) (n : Bool) {X1 S1 X2 S2 : Int} (h1 : -1200 ≤ X1) (h2 : -1200 ≤ X2) (h3 : X2 ≤ 1100) :
    rdQ f P Q b n (mag X1 S1 * 2 ^ Z5) (mag X2 S2) = rdQ f P Q b n (S1.toNat * 2 ^ (X1 - X2 + 5000).toNat) S2.toNat := by
  unfold rdQ mag
  have e : S1.toNat * 2 ^ (X1 + 5000).toNat * 2 ^ Z5 = S1.toNat * 2 ^ (X1 - X2 + 5000).toNat * 2 ^ (X2 + 5000).toNat := by
    rw [Nat.mul_assoc, ← Nat.pow_add, Nat.mul_assoc, ← Nat.pow_add, show (X1 + 5000).toNat + Z5 = (X1 - X2 + 5000).toNat + (X2 + 5000).toNat by unfold Z5; omega]
  rw [e, codeQ_scale _ _ _ _ _ (Nat.two_pow_pos _)]

/-- What a quotient is: the canonical NaN, or a float of that sign. -/
theorem div_form {w e f P Q b : Int} (k : Kd w e f P Q b) (K1 K2 : Int) (M1 M2 : Nat) :
    (∀ n1 n2, divP f P Q b n1 K1 M1 n2 K2 M2 = nanB f P Q) ∨ ∃ c, 0 ≤ c ∧ c ≤ top P Q ∧ ∀ n1 n2, divP f P Q b n1 K1 M1 n2 K2 M2 = fl f P Q (n1 != n2) c := by
  have ht := top_pos k
  unfold divP
  by_cases h : K1 = 3 ∨ K2 = 3 ∨ (K1 = 2 ∧ K2 = 2) ∨ (K1 = 0 ∧ K2 = 0)
  · exact Or.inl (fun _ _ => if_pos h)
  · refine Or.inr ?_
    by_cases h2 : K1 = 2 ∨ K2 = 0
    · exact ⟨_, Int.le_of_lt ht, Int.le_refl _, fun n1 n2 => by rw [if_neg h, if_pos h2]; exact put_inf k _⟩
    · by_cases h3 : K1 = 0 ∨ K2 = 2
      · exact ⟨0, Int.le_refl _, Int.le_of_lt ht, fun n1 n2 => by rw [if_neg h, if_neg h2, if_pos h3]; exact put_nought _⟩
      · exact ⟨_, (lid_top k _).1, (lid_top k _).2, fun n1 n2 => by rw [if_neg h, if_neg h2, if_neg h3]; rfl⟩
/-- The bits of a power of two. -/
theorem pow_any {w e f P Q b E : Int} (k : Kd w e f P Q b) (j0 : 1 ≤ E) (j1 : E < Q - 1) :
    0 ≤ put f P Q false E 0 ∧ put f P Q false E 0 < 18446744073709551616 ∧ oK P Q (put f P Q false E 0) = 1 ∧ oN P Q (put f P Q false E 0) = false ∧ oM f P Q b (put f P Q false E 0) = 2 ^ (5000 + E - b).toNat := by
  obtain ⟨p1, p2, q1, q2⟩ := k.pos
  obtain ⟨hP, f0, f1, l0, l1, b0, b1⟩ := k.pow
  obtain ⟨r0, r1, r2, r3, r4⟩ := put_in (x := E) (y := 0) (n := false) k (by omega) (by omega) (by omega) (by omega)
  refine ⟨r0, r1, ?_, ?_, ?_⟩
  · unfold oK
    rw [r3, r4, if_neg (by omega), if_neg (by omega)]
  · unfold oN
    rw [r3, r4, if_neg (by omega), r2]
  · unfold oM oc
    rw [r3, r4, if_neg (by omega)]
    have hv := fval_norm f.toNat (lowN f b) (2 ^ f.toNat) (lowN f b + (E.toNat - 1)) (by rw [Nat.pow_succ]; have := Nat.two_pow_pos f.toNat; omega) (by omega) (fun _ => Nat.le_refl _)
    rw [← Nat.pow_add] at hv
    have e1 : (E * P + 0).toNat = (lowN f b + (E.toNat - 1) - lowN f b) * 2 ^ f.toNat + 2 ^ f.toNat := by
      rw [show lowN f b + (E.toNat - 1) - lowN f b = E.toNat - 1 by omega]
      have : ((E.toNat * 2 ^ f.toNat : Nat) : Int) = E * P := by
        rw [Int.natCast_mul, ← hP, Int.toNat_of_nonneg (by omega)]
      obtain ⟨i, hi⟩ : ∃ i, E.toNat = i + 1 := ⟨E.toNat - 1, by omega⟩
      rw [hi] at this ⊢
      rw [Nat.add_sub_cancel]
      rw [Nat.add_mul, Nat.one_mul] at this
      omega
    rw [e1, hv]
    congr 1
    unfold lowN
    omega

theorem mag_shift {X S N : Int} (h0 : -1200 ≤ X) (h1 : -1100 ≤ N) (h2 : N ≤ 1100) : mag X S * 2 ^ Z5 / 2 ^ (5000 - N).toNat = S.toNat * 2 ^ (X + N + 5000).toNat ∧ mag X S * 2 ^ Z5 = S.toNat * 2 ^ (X + N + 5000).toNat * 2 ^ (5000 - N).toNat := by
  have e : mag X S * 2 ^ Z5 = S.toNat * 2 ^ (X + N + 5000).toNat * 2 ^ (5000 - N).toNat := by
    unfold mag
    rw [Nat.mul_assoc, ← Nat.pow_add, Nat.mul_assoc, ← Nat.pow_add, show (X + 5000).toNat + Z5 = (X + N + 5000).toNat + (5000 - N).toNat by unfold Z5; omega]
  exact ⟨by rw [e]; exact Nat.mul_div_cancel _ (Nat.two_pow_pos _), e⟩

/-- By a power of two. -/
theorem div_pow {w e f P Q b E : Int} (k : Kd w e f P Q b) (x : Int) (j0 : 1 ≤ E) (j1 : E < Q - 1) :
    divB f P Q b x (put f P Q false E 0) = if oK P Q x = 3 then nanB f P Q else if oK P Q x = 2 then put f P Q (oN P Q x) (Q - 1) 0 else rd f P Q b (oN P Q x) (oM f P Q b x * 2 ^ Z5 / 2 ^ (5000 + E - b).toNat) := by
  obtain ⟨-, -, h1, h2, h3⟩ := pow_any k j0 j1
  obtain ⟨X, S, -, p1, m1⟩ := open_kd k x
  obtain ⟨u0, u1, -⟩ := p1.in k
  have hE : -1100 ≤ b - E ∧ b - E ≤ 1100 := by rcases k with ⟨-, -, -, -, rfl, rfl⟩ | ⟨-, -, -, -, rfl, rfl⟩ <;> omega
  unfold divB
  rw [h1, h2, h3]
  unfold divP
  have hn : (oN P Q x != false) = oN P Q x := by cases oN P Q x <;> rfl
  rw [hn]
  by_cases k3 : oK P Q x = 3
  · rw [if_pos (Or.inl k3), if_pos k3]
  · rw [if_neg (by omega), if_neg k3]
    by_cases k2 : oK P Q x = 2
    · rw [if_pos (Or.inl k2), if_pos k2]
    · rw [if_neg (by omega), if_neg k2]
      by_cases k0 : oK P Q x = 0
      · have hm : oM f P Q b x = 0 := by rw [← m1]; exact p1.mag0 (by omega)
        rw [if_pos (Or.inl k0), hm, Nat.zero_mul, Nat.zero_div, rd_zero k]
      · rw [if_neg (by omega), ← m1]
        obtain ⟨s1, s2⟩ := mag_shift (X := X) (S := S) (N := b - E) u0 hE.1 hE.2
        rw [show (5000 + E - b) = 5000 - (b - E) by omega, s1, s2]
        unfold rdQ rd
        rw [codeQ_even _ _ _ _ (Nat.two_pow_pos _)]
/-- By one. -/
theorem div_one {w e f P Q b : Int} (k : Kd w e f P Q b) {x : Int} (h : oK P Q x ≠ 3) : divB f P Q b x (put f P Q false b 0) = cutN f P Q x := by
  have hb : 1 ≤ b ∧ b < Q - 1 := by rcases k with ⟨-, -, -, -, rfl, rfl⟩ | ⟨-, -, -, -, rfl, rfl⟩ <;> omega
  rw [div_pow k x hb.1 hb.2, cut_fl k h, if_neg h]
  by_cases k2 : oK P Q x = 2
  · rw [if_pos k2, put_inf k]
    rcases kind_oc k x with ⟨h1, _⟩ | ⟨_, h1, _⟩ | ⟨h1, _⟩ | ⟨h1, _⟩
    · exact absurd h1 h
    · rw [h1]
    · omega
    · omega
  · obtain ⟨h1, h2⟩ := oM_fin k ⟨h, k2⟩
    rw [if_neg k2, show (5000 + b - b).toNat = Z5 by unfold Z5; omega, Nat.mul_div_cancel _ (Nat.two_pow_pos Z5), h1, rd_val k _ h2]
/-- One. -/
theorem rd_one {w e f P Q b : Int} (k : Kd w e f P Q b) : rd f P Q b false (2 ^ Z5) = put f P Q false b 0 := by
  have hb : 1 ≤ b ∧ b < Q - 1 := by rcases k with ⟨-, -, -, -, rfl, rfl⟩ | ⟨-, -, -, -, rfl, rfl⟩ <;> omega
  obtain ⟨p1, p2, q1, q2⟩ := k.pos
  obtain ⟨r0, r1, h1, h2, h3⟩ := pow_any k hb.1 hb.2
  obtain ⟨g1, g2⟩ := oM_fin (x := put f P Q false b 0) k ⟨by omega, by omega⟩
  have hc : cutN f P Q (put f P Q false b 0) = put f P Q false b 0 := by
    obtain ⟨-, -, c2, c3, c4⟩ := put_in (n := false) (x := b) (y := 0) k (by omega) (by omega) (by omega) (by omega)
    rw [← cut_put k.wd.sz, c2, c3, c4]
  rw [show Z5 = (5000 + b - b).toNat by unfold Z5; omega, ← h3, g1, rd_val k _ g2]
  have := cut_fl k (x := put f P Q false b 0) (by omega)
  rw [hc, h2] at this
  exact this.symm
/-- By itself. -/
theorem div_self {w e f P Q b : Int} (k : Kd w e f P Q b) {x : Int} (h : oK P Q x = 1) : divB f P Q b x x = put f P Q false b 0 := by
  unfold divB divP
  rw [h, if_neg (by omega), if_neg (by omega), if_neg (by omega), show (oN P Q x != oN P Q x) = false by cases oN P Q x <;> rfl, ← rd_one k, Nat.mul_comm]
  unfold rdQ rd
  have hm : 0 < oM f P Q b x := by
    rcases kind_oc k x with ⟨h1, _⟩ | ⟨h1, _⟩ | ⟨_, h1, _, h2⟩ | ⟨h1, _⟩
    · omega
    · omega
    · rw [h2]
      exact fval_pos (by omega)
    · omega
  rw [codeQ_even _ _ _ _ hm]

/-- A quotient of 128 bits and a bit for the rest. -/
theorem quo_pack {w e f P Q b X1 S1 X2 S2 : Int} (k : Kd w e f P Q b) (h1 : Prt f P Q b 1 X1 S1) (h2 : Prt f P Q b 1 X2 S2) (up : Nat) (hup : up + Go.bitLen S1.toNat = 128) (m : Bool)
    (hm : m = (S1.toNat * 2 ^ up % S2.toNat != 0)) :
    code f.toNat (lowN f b) (num (S1.toNat * 2 ^ up / S2.toNat) m (cap (X1 - up - X2))) = codeQ f.toNat (lowN f b) (S1.toNat * 2 ^ (X1 - X2 + 5000).toNat) S2.toNat := by
  obtain ⟨x0, x1, s0, -, s1⟩ := h1.in k
  obtain ⟨y0, y1, t0, -, t1⟩ := h2.in k
  obtain ⟨hP, f0, f1, l0, l1, b0, b1⟩ := k.pow
  have hS1 : S1.toNat ≠ 0 := by unfold Prt at h1; omega
  have hS2 : 0 < S2.toNat := by unfold Prt at h2; omega
  have hu1 : up ≤ 128 := by omega
  rw [cap_id (by omega) (by omega)]
  obtain ⟨j, hj⟩ : ∃ j : Nat, (j : Int) = X1 - up - X2 + 5000 := ⟨(X1 - up - X2 + 5000).toNat, by omega⟩
  have e1 : S1.toNat * 2 ^ (X1 - X2 + 5000).toNat = S1.toNat * 2 ^ up * 2 ^ j := by
    rw [Nat.mul_assoc, ← Nat.pow_add, show (X1 - X2 + 5000).toNat = up + j by omega]
  have e2 : S1.toNat * 2 ^ (X1 - X2 + 5000).toNat / (S2.toNat * 2 ^ j) = S1.toNat * 2 ^ up / S2.toNat := by
    rw [e1, Nat.mul_div_mul_right _ _ (Nat.two_pow_pos j)]
  have e3 : S1.toNat * 2 ^ (X1 - X2 + 5000).toNat % (S2.toNat * 2 ^ j) = S1.toNat * 2 ^ up % S2.toNat * 2 ^ j := by
    rw [e1, Nat.mul_mod_mul_right]
  have hlen : Go.bitLen (S1.toNat * 2 ^ up) = 128 := by rw [bl_shl _ _ hS1]; omega
  have hbig : 2 ^ 74 ≤ S1.toNat * 2 ^ up / S2.toNat := by
    rw [Nat.le_div_iff_mul_le hS2]
    have h3 : 2 ^ 127 ≤ S1.toNat * 2 ^ up := bl_ge (by omega)
    have h4 : 2 ^ 74 * S2.toNat ≤ 2 ^ 74 * 9007199254740992 := Nat.mul_le_mul_left _ (by omega)
    omega
  have hq0 : S1.toNat * 2 ^ up / S2.toNat ≠ 0 := by omega
  have hqb : 75 ≤ Go.bitLen (S1.toNat * 2 ^ up / S2.toNat) := by
    have := bl_mono hbig
    rw [show Go.bitLen (2 ^ 74) = 75 from by decide +kernel] at this
    exact this
  have hun : j + 1 ≤ unitQ f.toNat (lowN f b) (S1.toNat * 2 ^ (X1 - X2 + 5000).toNat) S2.toNat := by
    unfold unitQ
    have : Go.bitLen (S1.toNat * 2 ^ (X1 - X2 + 5000).toNat / S2.toNat) = j + Go.bitLen (S1.toNat * 2 ^ up / S2.toNat) := by
      rw [← e2, ← Nat.div_div_eq_div_mul]
      exact Go.bitLen_shift _ j (by rw [Nat.div_div_eq_div_mul, e2]; exact hq0)
    omega
  rw [codeQ_sticky _ _ _ _ j hS2 (by omega) (by rw [e2]; exact hq0) hun, e2, e3]
  unfold num
  rw [show (X1 - ↑up - X2 + 4999).toNat = j - 1 by omega]
  congr 3
  rw [hm]
  by_cases hr : S1.toNat * 2 ^ up % S2.toNat = 0
  · rw [hr, Nat.zero_mul, if_pos rfl]
    rfl
  · rw [if_neg (by
      intro h
      rcases Nat.mul_eq_zero.1 h with h | h
      · exact hr h
      · exact absurd h (Nat.ne_of_gt (Nat.two_pow_pos j)))]
    rw [show (S1.toNat * 2 ^ up % S2.toNat != 0) = true by simpa using hr]
    rfl

end Go.Proofs.Ytcgnlpamfhdiiaa
namespace Go.Proofs.Ytcgnlpamfhdiiaa.W

/-- A normalised divisor of two half words a, b; what is divided: a word U below it, and a half word u. -/
def Norm (U u a b : Int) : Prop := 2147483648 ≤ a ∧ a < 4294967296 ∧ 0 ≤ b ∧ b < 4294967296 ∧ 0 ≤ U ∧ U < a * 4294967296 + b ∧ 0 ≤ u ∧ u < 4294967296
/-- A trial quotient q with its rest r: never too small. -/
def Trial (U u a b q r : Int) : Prop := q * a + r = U ∧ 0 ≤ r ∧ r < 4294967296 ∧ 0 ≤ q ∧ q ≤ 4294967297 ∧ U * 4294967296 + u < (q + 1) * (a * 4294967296 + b)
/-- The quotient itself. -/
def Digit (U u a b q : Int) : Prop := 0 ≤ q ∧ q < 4294967296 ∧ q * (a * 4294967296 + b) ≤ U * 4294967296 + u ∧ U * 4294967296 + u < (q + 1) * (a * 4294967296 + b)

theorem mul_y (q a b : Int) : q * (a * 4294967296 + b) = (q * a) * 4294967296 + q * b := by rw [Int.mul_add, Int.mul_assoc]
theorem succ_mul_y (q a b : Int) : (q + 1) * (a * 4294967296 + b) = (q * a) * 4294967296 + q * b + a * 4294967296 + b := by
  rw [Int.add_mul, mul_y, Int.one_mul, Int.add_assoc]; omega

theorem trial_0 {U u a b : Int} (h : Norm U u a b) : Trial U u a b (U / a) (U - U / a * a) := by
  obtain ⟨h1, h2, h3, h4, h5, h6, h7, h8⟩ := h
  have e := Int.mul_ediv_add_emod U a
  have m0 := Int.emod_nonneg U (show a ≠ 0 by omega)
  have m1 := Int.emod_lt_of_pos U (show 0 < a by omega)
  have q0 : 0 ≤ U / a := Int.ediv_nonneg h5 (by omega)
  unfold Trial
  rw [succ_mul_y]
  have hb : 0 ≤ U / a * b := Int.mul_nonneg q0 h3
  have ec : a * (U / a) = U / a * a := Int.mul_comm _ _
  have hq : U / a ≤ 4294967297 := Decidable.byContradiction fun hn => by
    have := Int.mul_le_mul_of_nonneg_right (show 4294967298 ≤ U / a by omega) (show 0 ≤ a by omega)
    omega
  generalize U / a * b = Q at *
  generalize U / a * a = P at *
  refine ⟨by omega, by omega, by omega, q0, hq, by omega⟩

theorem trial_step {U u a b q r : Int} (h : Norm U u a b) (t : Trial U u a b q r) (c : 4294967296 ≤ q ∨ 4294967296 * r + u < q * b) :
    0 < q ∧ q - 1 ≤ 4294967296 ∧ (q - 1) * a + (r + a) = U ∧ U * 4294967296 + u < (q - 1 + 1) * (a * 4294967296 + b) := by
  obtain ⟨h1, h2, h3, h4, h5, h6, h7, h8⟩ := h
  obtain ⟨t1, t2, t3, t4, t5, t6⟩ := t
  have hq : 0 < q := by
    rcases c with c | c
    · omega
    · refine Decidable.byContradiction fun hn => ?_
      have : q = 0 := by omega
      subst this
      omega
  refine ⟨hq, by omega, by rw [Int.sub_mul, Int.one_mul]; omega, ?_⟩
  rw [Int.sub_add_cancel, mul_y]
  rcases c with c | c
  · have h9 := Int.mul_le_mul_of_nonneg_right c (show 0 ≤ a * 4294967296 + b by omega)
    rw [mul_y q a b] at h9
    generalize q * b = Q at *
    generalize q * a = P at *
    omega
  · generalize q * b = Q at *
    generalize q * a = P at *
    omega

theorem trial_end {U u a b q r : Int} (h : Norm U u a b) (e : q * a + r = U) (q0 : 0 ≤ q) (hb : q * b ≤ 4294967296 * r + u) (hlt : U * 4294967296 + u < (q + 1) * (a * 4294967296 + b)) : Digit U u a b q := by
  obtain ⟨h1, h2, h3, h4, h5, h6, h7, h8⟩ := h
  have hle : q * (a * 4294967296 + b) ≤ U * 4294967296 + u := by
    rw [mul_y]
    generalize q * b = Q at *
    generalize q * a = P at *
    omega
  refine ⟨q0, Decidable.byContradiction fun hn => ?_, hle, hlt⟩
  have h9 := Int.mul_le_mul_of_nonneg_right (show 4294967296 ≤ q by omega) (show 0 ≤ a * 4294967296 + b by omega)
  omega

theorem trial_stop {U u a b q r : Int} (h : Norm U u a b) (t : Trial U u a b q r) (c2 : ¬ 4294967296 * r + u < q * b) : Digit U u a b q :=
  trial_end h t.1 t.2.2.2.1 (by omega) t.2.2.2.2.2

theorem trial_break {U u a b q r : Int} (h : Norm U u a b) (e : q * a + r = U) (q0 : 0 ≤ q) (q1 : q ≤ 4294967296) (hr : 4294967296 ≤ r) (hlt : U * 4294967296 + u < (q + 1) * (a * 4294967296 + b)) : Digit U u a b q := by
  refine trial_end h e q0 ?_ hlt
  obtain ⟨h1, h2, h3, h4, h5, h6, h7, h8⟩ := h
  have h9 := Int.mul_le_mul_of_nonneg_right q1 h3
  omega

theorem trial_wraps {U u a b q r : Int} (h : Norm U u a b) (t : Trial U u a b q r) :
    IntKind.u64.wrap (IntKind.u64.wrap (4294967296 * r) + u) = 4294967296 * r + u ∧ IntKind.u64.wrap (q * b) = q * b ∧ IntKind.u64.wrap (r + a) = r + a := by
  obtain ⟨h1, h2, h3, h4, h5, h6, h7, h8⟩ := h
  obtain ⟨t1, t2, t3, t4, t5, t6⟩ := t
  have p0 : 0 ≤ q * b := Int.mul_nonneg t4 h3
  have p1 := Int.mul_le_mul_of_nonneg_right t5 h3
  rw [IntKind.wrap_u64, IntKind.wrap_u64, IntKind.wrap_u64, IntKind.wrap_u64]
  generalize q * b = Q at *
  refine ⟨by omega, by omega, by omega⟩

/-- The three ends of a round, in the walk's own words. -/
theorem round_break {U u a b q r : Int} (h : Norm U u a b) (t : Trial U u a b q r) (c : 4294967296 ≤ q ∨ IntKind.u64.wrap (IntKind.u64.wrap (4294967296 * r) + u) < IntKind.u64.wrap (q * b)) (hr : 4294967296 ≤ IntKind.u64.wrap (r + a)) :
    Digit U u a b (IntKind.u64.wrap (q - 1)) := by
  obtain ⟨w1, w2, w3⟩ := trial_wraps h t
  rw [w1, w2] at c
  rw [w3] at hr
  obtain ⟨s1, s2, s3, s4⟩ := trial_step h t c
  have e : IntKind.u64.wrap (q - 1) = q - 1 := by rw [IntKind.wrap_u64]; omega
  rw [e]
  exact trial_break h s3 (by omega) s2 hr s4
theorem round_next {U u a b q r : Int} (h : Norm U u a b) (t : Trial U u a b q r) (c : 4294967296 ≤ q ∨ IntKind.u64.wrap (IntKind.u64.wrap (4294967296 * r) + u) < IntKind.u64.wrap (q * b)) (hr : IntKind.u64.wrap (r + a) < 4294967296) :
    Trial U u a b (IntKind.u64.wrap (q - 1)) (IntKind.u64.wrap (r + a)) ∧ (IntKind.u64.wrap (q - 1)).toNat < q.toNat := by
  obtain ⟨w1, w2, w3⟩ := trial_wraps h t
  rw [w1, w2] at c
  rw [w3] at hr ⊢
  obtain ⟨s1, s2, s3, s4⟩ := trial_step h t c
  have hq := t.2.2.2.2.1
  have hr0 := t.2.1
  have ha := h.1
  have e : IntKind.u64.wrap (q - 1) = q - 1 := by rw [IntKind.wrap_u64]; omega
  rw [e]
  exact ⟨⟨s3, by omega, hr, by omega, by omega, s4⟩, by omega⟩
theorem round_stop {U u a b q r : Int} (h : Norm U u a b) (t : Trial U u a b q r) (c : IntKind.u64.wrap (q * b) ≤ IntKind.u64.wrap (IntKind.u64.wrap (4294967296 * r) + u)) : Digit U u a b q := by
  obtain ⟨w1, w2, w3⟩ := trial_wraps h t
  rw [w1, w2] at c
  exact trial_stop h t (by omega)

/-- The rest of one digit. -/
theorem digit_rest {U u a b q : Int} (d : Digit U u a b q) : 0 ≤ U * 4294967296 + u - q * (a * 4294967296 + b) ∧ U * 4294967296 + u - q * (a * 4294967296 + b) < a * 4294967296 + b := by
  obtain ⟨d1, d2, d3, d4⟩ := d
  rw [Int.add_mul, Int.one_mul] at d4
  omega

theorem start_ex {U u a b : Int} (h : Norm U u a b) : ∃ q r : Int, IntKind.u64.wrap (U.tdiv a) = q ∧ IntKind.u64.wrap (U - IntKind.u64.wrap (q * a)) = r ∧ Trial U u a b q r := by
  have t := trial_0 h
  obtain ⟨h1, h2, h3, h4, h5, h6, h7, h8⟩ := h
  have e : U.tdiv a = U / a := Int.tdiv_eq_ediv_of_nonneg h5
  have q0 := t.2.2.2.1
  have q1 := t.2.2.2.2.1
  have r0 := t.2.1
  have r1 := t.2.2.1
  have p0 : 0 ≤ U / a * a := Int.mul_nonneg q0 (by omega)
  refine ⟨U / a, U - U / a * a, ?_, ?_, t⟩
  · rw [e, IntKind.wrap_u64, Int.emod_eq_of_lt q0 (by omega)]
  · rw [IntKind.wrap_u64, IntKind.wrap_u64, Int.emod_eq_of_lt p0 (by omega), Int.emod_eq_of_lt r0 (by omega)]

theorem mod_sub_mod (T p : Int) (h0 : 0 ≤ T - p) (h1 : T - p < 18446744073709551616) : (T % 18446744073709551616 - p % 18446744073709551616) % 18446744073709551616 = T - p := by omega

theorem rest_ex {U u a b q Y : Int} (h : Norm U u a b) (d : Digit U u a b q) (eY : Y = a * 4294967296 + b) :
    ∃ R : Int, IntKind.u64.wrap (IntKind.u64.wrap (IntKind.u64.wrap (U * 4294967296) + u) - IntKind.u64.wrap (q * Y)) = R ∧ U * 4294967296 + u = q * Y + R ∧ 0 ≤ R ∧ R < Y := by
  obtain ⟨r0, r1⟩ := digit_rest d
  obtain ⟨h1, h2, h3, h4, h5, h6, h7, h8⟩ := h
  rw [← eY] at r0 r1
  refine ⟨U * 4294967296 + u - q * Y, ?_, by omega, r0, r1⟩
  rw [IntKind.wrap_u64, IntKind.wrap_u64, IntKind.wrap_u64, IntKind.wrap_u64, Int.emod_add_emod]
  exact mod_sub_mod _ _ r0 (by omega)

theorem norm_next {U u a b R d Y : Int} (h : Norm U u a b) (eY : Y = a * 4294967296 + b) (r0 : 0 ≤ R) (r1 : R < Y) (d0 : 0 ≤ d) (d1 : d < 4294967296) : Norm R d a b := by
  obtain ⟨h1, h2, h3, h4, h5, h6, h7, h8⟩ := h
  exact ⟨h1, h2, h3, h4, r0, by omega, d0, d1⟩

theorem quo_join {q p : Int} (q0 : 0 ≤ q) (q1 : q < 4294967296) (p0 : 0 ≤ p) (p1 : p < 4294967296) : IntKind.u64.wrap (IntKind.u64.wrap (q * 4294967296) + p) = q * 4294967296 + p := by
  rw [IntKind.wrap_u64, IntKind.wrap_u64]; omega

theorem fin_div (v y q R p : Int) (hp : 0 < p) (hy : 0 < y) (e : v * p = q * (y * p) + R) (r0 : 0 ≤ R) (r1 : R < y * p) : v / y = q ∧ v % y = R / p := by
  have e1 : R = (v - q * y) * p := by rw [Int.sub_mul, Int.mul_assoc]; omega
  generalize ht : v - q * y = t at *
  have e2 : R / p = t := by rw [e1]; exact Int.mul_ediv_cancel _ (by omega)
  have t0 : 0 ≤ t := Decidable.byContradiction fun hn => by
    have := Int.mul_le_mul_of_nonneg_right (show t ≤ -1 by omega) (show 0 ≤ p by omega)
    omega
  have t1 : t < y := Decidable.byContradiction fun hn => by
    have := Int.mul_le_mul_of_nonneg_right (show y ≤ t by omega) (show 0 ≤ p by omega)
    omega
  rw [e2]
  have ev : v = t + y * q := by rw [Int.mul_comm y q]; omega
  subst ev
  constructor
  · rw [Int.add_mul_ediv_left _ _ (by omega), Int.ediv_eq_zero_of_lt t0 t1]; omega
  · rw [Int.add_mul_emod_self_left, Int.emod_eq_of_lt t0 t1]

theorem long_fin (v y p Y U c d R T q z : Int) (hp : 0 < p) (hy : 0 < y) (eYp : Y = y * p) (eV : v * p = (U * 4294967296 + c) * 4294967296 + d) (e1 : U * 4294967296 + c = q * Y + R) (e2 : R * 4294967296 + d = z * Y + T) (t0 : 0 ≤ T) (t1 : T < Y) :
    q * 4294967296 + z = v / y ∧ T / p = v % y := by
  have e : v * p = (q * 4294967296 + z) * (y * p) + T := by
    rw [eV, e1, ← eYp, Int.add_mul (q * 4294967296) z Y, Int.mul_right_comm q 4294967296 Y, Int.add_mul]
    omega
  obtain ⟨f1, f2⟩ := fin_div v y (q * 4294967296 + z) T p hp hy e t0 (by rw [← eYp]; exact t1)
  exact ⟨f1.symm, f2.symm⟩

theorem norm_nat (x l y : Nat) (x1 : x < y) (l1 : l < 18446744073709551616) (y1 : y < 18446744073709551616) :
    ∃ s U : Nat, s = 64 - Go.bitLen y ∧ s ≤ 63 ∧ 9223372036854775808 ≤ y * 2 ^ s ∧ y * 2 ^ s < 18446744073709551616 ∧
      (x * 2 ^ s % 18446744073709551616 ||| l / 2 ^ (64 - s)) = U ∧ (x * 18446744073709551616 + l) * 2 ^ s = U * 18446744073709551616 + l * 2 ^ s % 18446744073709551616 ∧ U < y * 2 ^ s := by
  have hy : y ≠ 0 := by omega
  obtain ⟨g1, g2⟩ := Go.bitLen_spec y
  have g2 := g2 hy
  have gb : Go.bitLen y ≤ 64 := by
    unfold Go.bitLen
    rw [if_neg hy]
    have := (Nat.log2_lt hy).2 (show y < 2 ^ 64 from y1)
    omega
  have g0 : 0 < Go.bitLen y := by unfold Go.bitLen; rw [if_neg hy]; omega
  refine ⟨64 - Go.bitLen y, _, rfl, by omega, ?_, ?_, rfl, ?_⟩
  · have h := Nat.mul_le_mul_right (2 ^ (64 - Go.bitLen y)) g2
    rw [← Nat.pow_add, show Go.bitLen y - 1 + (64 - Go.bitLen y) = 63 by omega] at h
    exact h
  · have h := Nat.mul_lt_mul_of_pos_right g1 (Nat.two_pow_pos (64 - Go.bitLen y))
    rw [← Nat.pow_add, show Go.bitLen y + (64 - Go.bitLen y) = 64 by omega] at h
    exact h
  have hY : y * 2 ^ (64 - Go.bitLen y) < 18446744073709551616 := by
    have h := Nat.mul_lt_mul_of_pos_right g1 (Nat.two_pow_pos (64 - Go.bitLen y))
    rw [← Nat.pow_add, show Go.bitLen y + (64 - Go.bitLen y) = 64 by omega] at h
    exact h
  have hs : 64 - Go.bitLen y < 64 := by omega
  generalize 64 - Go.bitLen y = s at *
  have hv : x * 18446744073709551616 + l < y * 18446744073709551616 := by omega
  have hV : (x * 18446744073709551616 + l) * 2 ^ s < y * 2 ^ s * 18446744073709551616 := by
    have := Nat.mul_lt_mul_of_pos_right hv (Nat.two_pow_pos s)
    rw [Nat.mul_right_comm y 18446744073709551616 (2 ^ s)] at this
    exact this
  have h1 := left_hi (x * 18446744073709551616 + l) s hs
  have h2 := left_lo (x * 18446744073709551616 + l) s
  rw [show (x * 18446744073709551616 + l) / 18446744073709551616 = x by omega, show (x * 18446744073709551616 + l) % 18446744073709551616 = l by omega] at h1
  rw [show (x * 18446744073709551616 + l) % 18446744073709551616 = l by omega] at h2
  rw [h1, h2]
  generalize (x * 18446744073709551616 + l) * 2 ^ s = V at *
  generalize y * 2 ^ s = Y at *
  omega

end Go.Proofs.Ytcgnlpamfhdiiaa.W
namespace Go.Proofs.Ytcgnlpamfhdiiaa.W
open Go.RowKit

set_option maxHeartbeats 400000 in
theorem lz_any (y : Int) (w : World) (h0 : 0 ≤ y) (h1 : y < 18446744073709551616) :
    Calls Try.prog 79 #[.int .u64 y] w fun e w' => e = .returned (.int .i64 ((64 - Go.bitLen y.toNat : Nat) : Int)) ∧ w' = w := by
  have hb := bitLen_le64 y.toNat (by omega)
  have HC : Hid (64 - (Go.bitLen y.toNat : Int) = ((64 - Go.bitLen y.toNat : Nat) : Int)) := by unfold Hid; omega
  go_enter Try.func79, Try.ntmps79
  go_wp2_with (go_at_call 69; refine (len64_any y _ h0 h1).mono ?_; rintro e w' ⟨rfl, rfl⟩)
  go_ret
  exact ⟨ret1 HC.out, rfl⟩

theorem norm_ex (x l y : Int) (x0 : 0 ≤ x) (x1 : x < y) (l0 : 0 ≤ l) (l1 : l < 18446744073709551616) (y1 : y < 18446744073709551616) :
    ∃ (s : Nat) (Y U L a b c d : Int), s = 64 - Go.bitLen y.toNat ∧ s ≤ 63 ∧ IntKind.u64.wrap (y * 2 ^ s) = Y ∧ Y / 4294967296 = a ∧ bits .and .u64 Y 4294967295 = b ∧
      bits .or .u64 (IntKind.u64.wrap (x * 2 ^ s)) (l / 2 ^ (64 - s)) = U ∧ IntKind.u64.wrap (l * 2 ^ s) = L ∧ L / 4294967296 = c ∧ bits .and .u64 L 4294967295 = d ∧
      Norm U c a b ∧ 0 ≤ d ∧ d < 4294967296 ∧ Y = a * 4294967296 + b ∧ Y = y * 2 ^ s ∧ (x * 18446744073709551616 + l) * 2 ^ s = (U * 4294967296 + c) * 4294967296 + d := by
  obtain ⟨X, rfl⟩ := Int.eq_ofNat_of_zero_le x0
  obtain ⟨M, rfl⟩ := Int.eq_ofNat_of_zero_le l0
  obtain ⟨Z, rfl⟩ := Int.eq_ofNat_of_zero_le (show 0 ≤ y by omega)
  obtain ⟨s, U, hs, hs63, hY0, hY1, hU, hV, hlt⟩ := norm_nat X M Z (by omega) (by omega) (by omega)
  have eY : IntKind.u64.wrap ((Z : Int) * 2 ^ s) = ((Z * 2 ^ s : Nat) : Int) := by rw [shl_nat, Nat.mod_eq_of_lt hY1]
  have eL := shl_nat M s
  have eU : bits .or .u64 (IntKind.u64.wrap ((X : Int) * 2 ^ s)) ((M : Int) / 2 ^ (64 - s)) = (U : Int) := by
    rw [shl_nat, shr_nat]
    exact or_words _ _ _ (by omega) (Nat.lt_of_le_of_lt (Nat.div_le_self _ _) (by omega)) hU
  have hL : M * 2 ^ s % 18446744073709551616 < 18446744073709551616 := Nat.mod_lt _ (by omega)
  have ep : ((Z * 2 ^ s : Nat) : Int) = (Z : Int) * 2 ^ s := by rw [Int.natCast_mul, Int.natCast_pow]; rfl
  have eq : ((X : Int) * 18446744073709551616 + M) * 2 ^ s = (((X * 18446744073709551616 + M) * 2 ^ s : Nat) : Int) := by rw [Int.natCast_mul, Int.natCast_pow, Int.natCast_add, Int.natCast_mul]; rfl
  refine ⟨s, _, _, _, _, _, _, _, by rw [Int.toNat_natCast]; exact hs, hs63, eY, rfl, Go.and_low32 _ (by omega) (by omega), eU, eL, rfl, Go.and_low32 _ (by omega) (by omega), ?_, ?_, ?_, ?_, ep, ?_⟩
  · unfold Norm
    generalize M * 2 ^ s % 18446744073709551616 = L at *
    generalize Z * 2 ^ s = Y at *
    omega
  · omega
  · omega
  · omega
  · rw [eq, hV]
    generalize M * 2 ^ s % 18446744073709551616 = L at *
    omega

set_option maxHeartbeats 1000000 in
theorem div64_any (x l y : Int) (w : World) (x0 : 0 < x) (x1 : x < y) (l0 : 0 ≤ l) (l1 : l < 18446744073709551616) (y1 : y < 18446744073709551616) :
    Calls Try.prog 70 #[.int .u64 x, .int .u64 l, .int .u64 y] w fun e w' => e = .returned (.tuple #[.int .u64 ((x * 18446744073709551616 + l) / y), .int .u64 ((x * 18446744073709551616 + l) % y)]) ∧ w' = w := by
  have n0 : (y == 0) = false := by rw [beq_eq_false_iff_ne]; omega
  have n1 : (x == 0) = false := by rw [beq_eq_false_iff_ne]; omega
  have n2 : ¬ y ≤ x := by omega
  obtain ⟨s, Y, U, L, a, b, c, d, hs, hs63, eY, ea, eb, eU, eL, ec, ed, hN, hd0, hd1, eYa, eYp, eV⟩ := norm_ex x l y (by omega) x1 l0 l1 y1
  have HY := hide eY; have Ha := hide ea; have Hb := hide eb; have HU := hide eU; have HL := hide eL; have Hc := hide ec; have Hd := hide ed
  have HN := hide hN; have HYa := hide eYa; have HYp := hide eYp; have HV := hide eV
  clear eY ea eb eU eL ec ed eYa eYp eV
  have HS := hide hs
  clear hs
  go_enter Try.func70, Try.ntmps70
  go_wp2_with fail
  refine (lz_any y _ (by omega) y1).mono ?_
  rintro e w' ⟨rfl, rfl⟩
  rw [← unhide HS]
  go_upto_region 15 with fail
  rw [unhide HY, unhide HU, unhide HL, unhide Ha, unhide Hb, unhide Hc, unhide Hd]
  have a0 : 0 < a := by have := (unhide HN).1; omega
  have a1 : (a == 0) = false := by rw [beq_eq_false_iff_ne]; omega
  have U0 : 0 ≤ U := (unhide HN).2.2.2.2.1
  obtain ⟨q, r, eq1, er1, ht⟩ := start_ex (unhide HN)
  have Hq1 := hide eq1; have Hr1 := hide er1; have HT := hide ht
  clear eq1 er1 ht
  go_upto_region 16 with fail
  rw [unhide Hq1]
  go_upto_block 0 with fail
  rw [unhide Hr1]
  go_cut [15, 16] (fun t _ w1 => w1 = w' ∧ ∃ q : Int, t = .int .u64 q ∧ Digit U c a b q)
  case first =>
    go_wp2_with fail
    go_loop [15, 16] (fun t t' => ∃ q r : Int, t = .int .u64 q ∧ t' = .int .u64 r ∧ Trial U c a b q r) (fun t _ => (intOf t).toNat)
    case atStart => exact ⟨q, r, rfl, rfl, unhide HT⟩
    case round =>
      clear HT Hq1 Hr1
      obtain ⟨q, r, rfl, rfl, ht⟩ := hrel
      have HT := hide ht
      clear ht
      go_wp2_with fail
      · go_meet
        case rel => exact ⟨rfl, _, rfl, round_break (unhide HN) (unhide HT) (by assumption) (by assumption)⟩
      · have hn := round_next (unhide HN) (unhide HT) (by assumption) (by assumption)
        exact ⟨⟨_, _, rfl, rfl, hn.1⟩, hn.2⟩
      · go_meet
        case rel => exact ⟨rfl, _, rfl, round_stop (unhide HN) (unhide HT) (And.right (by assumption))⟩
      · go_meet
        case rel => exact ⟨rfl, _, rfl, round_break (unhide HN) (unhide HT) (Or.inl (by assumption)) (by assumption)⟩
      · have hn := round_next (unhide HN) (unhide HT) (Or.inl (by omega)) (by assumption)
        exact ⟨⟨_, _, rfl, rfl, hn.1⟩, hn.2⟩
  case rest =>
    obtain ⟨rfl, q, rfl, hD⟩ := hcut
    have HD := hide hD
    clear hD
    obtain ⟨R, eR, eR1, eR2, eR3⟩ := rest_ex (unhide HN) (unhide HD) (unhide HYa)
    have HR := hide eR; have HR1 := hide eR1
    have HN2 := hide (norm_next (d := d) (unhide HN) (unhide HYa) eR2 eR3 hd0 hd1)
    have HR2 := hide (And.intro eR2 eR3)
    clear eR eR1 eR2 eR3
    have R0 : 0 ≤ R := (unhide HR2).1
    obtain ⟨q', r', eq2, er2, ht2⟩ := start_ex (unhide HN2)
    have Hq2 := hide eq2; have Hr2 := hide er2; have HT2 := hide ht2
    clear eq2 er2 ht2
    go_upto_region 22 with fail
    rw [unhide HR]
    go_upto_region 23 with fail
    rw [unhide Hq2]
    go_upto_block 2 with fail
    rw [unhide Hr2]
    go_cut [18, 16] (fun t _ w1 => w1 = wc ∧ ∃ z : Int, t = .int .u64 z ∧ Digit R d a b z)
    case first =>
      go_wp2_with fail
      go_loop [18, 16] (fun t t' => ∃ q r : Int, t = .int .u64 q ∧ t' = .int .u64 r ∧ Trial R d a b q r) (fun t _ => (intOf t).toNat)
      case atStart => exact ⟨q', r', rfl, rfl, unhide HT2⟩
      case round =>
        clear HT2 Hq2 Hr2
        obtain ⟨p, r, rfl, rfl, ht⟩ := hrel
        have HT := hide ht
        clear ht
        go_wp2_with fail
        · go_meet
          case rel => exact ⟨rfl, _, rfl, round_break (unhide HN2) (unhide HT) (by assumption) (by assumption)⟩
        · have hn := round_next (unhide HN2) (unhide HT) (by assumption) (by assumption)
          exact ⟨⟨_, _, rfl, rfl, hn.1⟩, hn.2⟩
        · go_meet
          case rel => exact ⟨rfl, _, rfl, round_stop (unhide HN2) (unhide HT) (And.right (by assumption))⟩
        · go_meet
          case rel => exact ⟨rfl, _, rfl, round_break (unhide HN2) (unhide HT) (Or.inl (by assumption)) (by assumption)⟩
        · have hn := round_next (unhide HN2) (unhide HT) (Or.inl (by omega)) (by assumption)
          exact ⟨⟨_, _, rfl, rfl, hn.1⟩, hn.2⟩
    case rest =>
      obtain ⟨rfl, z, rfl, hD2⟩ := hcut
      obtain ⟨T, eT, eT1, eT2, eT3⟩ := rest_ex (unhide HN2) hD2 (unhide HYa)
      have hf := long_fin (x * 18446744073709551616 + l) y (2 ^ s) Y U c d R T q z (Int.pow_pos (by omega)) (by omega) (unhide HYp) (unhide HV) (unhide HR1) eT1 eT2 eT3
      have HJ := hide (quo_join (unhide HD).1 (unhide HD).2.1 hD2.1 hD2.2.1)
      have HF := hide hf
      have HTT := hide eT
      clear eT eT1 eT2 eT3 hD2 hf
      go_wp2
      rw [unhide HJ, unhide HTT, (unhide HF).1, (unhide HF).2]
      go_ret2
      exact ⟨rfl, rfl⟩

end Go.Proofs.Ytcgnlpamfhdiiaa.W
