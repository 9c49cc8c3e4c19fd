/- NearX, Exact, ExactX, CsM, CsC, LawT, RpA. -/
import Derived.Test.YtahdcbjfabccpaaT01
import Derived.Test.YtahdcbjfabccpaaT08
import Derived.Test.YtahdcbjfabccpaaT10
import Derived.Test.YtahdcbjfabccpaaT15
import Derived.Test.YtahdcbjfabccpaaT20
import Derived.Test.YtahdcbjfabccpaaT23
import Derived.Test.YtahdcbjfabccpaaT30
import Derived.Test.YtahdcbjfabccpaaT31
import Derived.Test.YtahdcbjfabccpaaT32
import Derived.Test.YtahdcbjfabccpaaT33
namespace Go.Proofs.Ytahdcbjfabccpaa
open Go.RowKit
open Go.Proofs.Ytahdcbjfabccpaa.W

theorem pw_of_len {x i : Nat} (h : Go.bitLen x ≤ 32 * i) : x < pw i := by rw [pw_two]; exact bl_lt h
theorem one_pw : 1 < pw 300 := lt_pw (k := 1) 300 (by rw [pw_1]; omega) (by omega)
theorem cmp_not {x y : Nat} (h : y ≤ x) : decide (cmpN x y < 0) = false := df (fun hn => by have := cmpN_ge h; omega)

/-- The last bit's place of the float that is nearest to x times 2^k, and what is taken there. -/
theorem grain_known {f b k : Int} (x : Nat) (hx0 : x ≠ 0) (f0 : 0 ≤ f ∧ f ≤ 52) (hL : -1074 ≤ 1 - b - f ∧ 1 - b - f ≤ 0) (k0 : -4000 ≤ k) (k1 : k ≤ 4000) (hx : x < pw 140) {q : Int}
    (hq : q = if (Go.bitLen x : Int) - 1 + k - f < 1 - b - f then 1 - b - f else (Go.bitLen x : Int) - 1 + k - f) :
    unitOf f.toNat (lowN f b) (x * 2 ^ (k + 5000).toNat) = (q + 5000).toNat ∧
    ∀ (a b' : Option Addr) (na ca nb cb : Nat) (W : World), IsNat W (.slice a na ca) x → IsNat W (.slice b' nb cb) 1 →
      Calls Try.prog 67 #[.agg #[.slice a na ca], .agg #[.slice b' nb cb], .int .i64 (k - q)] W fun r W' => ∃ s', r = .returned (.agg #[s']) ∧ IsNat W' s' (near (x * 2 ^ (k + 5000).toNat) (2 ^ (q + 5000).toNat)) ∧ Below W.heap.size W W' := by
  have hl := bl_shl x (k + 5000).toNat hx0
  have hbp := bl_pos hx0
  have hb140 : Go.bitLen x ≤ 4480 := by have := bitLen_pw hx; omega
  have hqr : 1 - b - f ≤ q ∧ (Go.bitLen x : Int) - 1 + k - f ≤ q ∧ q ≤ 9000 ∧ q - k ≤ 8600 := by rw [hq]; split <;> omega
  refine ⟨?_, ?_⟩
  · unfold unitOf lowN
    rw [hl, hq]
    split <;> omega
  · intro a b' na ca nb cb W ha hb
    have h1 := one_pw
    have h300 : x < pw 300 := lt_pw 300 hx (by omega)
    by_cases h0 : 0 ≤ k - q
    · have e : near (x * 2 ^ (k + 5000).toNat) (2 ^ (q + 5000).toNat) = near (x * 2 ^ (k - q).toNat) 1 := by
        rw [pow_split2 (k + 5000).toNat (k - q).toNat (q + 5000).toNat (by omega), ← Nat.mul_assoc]
        have := near_scale (x * 2 ^ (k - q).toNat) 1 (2 ^ (q + 5000).toNat) (Nat.two_pow_pos _)
        rw [Nat.one_mul] at this
        exact this
      rw [e]
      refine grain_up a b' na ca nb cb x 1 (k - q) W ha hb h300 ?_ (by omega) h1 h0 (by omega)
      refine pw_of_len ?_
      rw [bl_shl x _ hx0]
      omega
    · have e : near (x * 2 ^ (k + 5000).toNat) (2 ^ (q + 5000).toNat) = near x (1 * 2 ^ (-(k - q)).toNat) := by
        rw [pow_split2 (q + 5000).toNat (-(k - q)).toNat (k + 5000).toNat (by omega), near_scale _ _ _ (Nat.two_pow_pos _), Nat.one_mul]
      rw [e]
      exact grain_dn a b' na ca nb cb x 1 (k - q) W ha hb h300 (pow_ne _) h1 (pow_pw (by omega)) h0 (by omega) (i64_id (by omega) (by omega))

set_option maxHeartbeats 2000000 in
theorem near_known {w e f P Q b k : Int} {n : Bool} (kd : Kd w e f P Q b) (a b' : Option Addr) (na ca nb cb x : Nat) (w0 : World) (hx : IsNat w0 (.slice a na ca) x) (hy : IsNat w0 (.slice b' nb cb) 1)
    (hx0 : x ≠ 0) (k0 : -4000 ≤ k) (k1 : k ≤ 4000) (h140 : x < pw 140) :
    Calls Try.prog 53 #[.int .i64 w, .bool n, .agg #[.slice a na ca], .agg #[.slice b' nb cb], .int .i64 k] w0 fun r W' => r = .returned (.int .u64 (fl f P Q n (lid P Q (code f.toNat (lowN f b) (x * 2 ^ (k + 5000).toNat) : Nat)))) ∧ Below w0.heap.size w0 W' := by
  obtain ⟨hP, f0, f1, l0, l1, b0, b1⟩ := kd.pow
  obtain ⟨q, hq0⟩ : ∃ q : Int, q = if (Go.bitLen x : Int) - 1 + k - f < 1 - b - f then 1 - b - f else (Go.bitLen x : Int) - 1 + k - f := ⟨_, rfl⟩
  obtain ⟨hu, hg⟩ := grain_known x hx0 ⟨f0, f1⟩ ⟨l0, l1⟩ k0 k1 h140 hq0
  have hbp := bl_pos hx0
  have hb140 : Go.bitLen x ≤ 4480 := by have := bitLen_pw h140; omega
  have hup := unit_up f.toNat (lowN f b) (x * 2 ^ (k + 5000).toNat)
  have hdn := fun h => unit_dn (f := f.toNat) (L := lowN f b) (X := x * 2 ^ (k + 5000).toNat) h
  have hqr : 1 - b - f ≤ q ∧ q ≤ 9000 := by rw [hq0]; split <;> omega
  have hcode : ((code f.toNat (lowN f b) (x * 2 ^ (k + 5000).toNat) : Nat) : Int) = (q - (1 - b - f)) * P + (near (x * 2 ^ (k + 5000).toNat) (2 ^ (q + 5000).toNat) : Nat) := by
    unfold code
    rw [hu, hP, show q - (1 - b - f) = (((q + 5000).toNat - lowN f b : Nat) : Int) by unfold lowN; omega]
    simp
  rw [hcode]
  rw [hu] at hup hdn
  generalize near (x * 2 ^ (k + 5000).toNat) (2 ^ (q + 5000).toNat) = G at *
  have hup' : (G : Int) ≤ 2 * P := by rw [hP]; omega
  have hdn' : 1 - b - f < q → P ≤ (G : Int) := fun h => by
    rw [hP]
    have := hdn (by unfold lowN; omega)
    omega
  clear hcode hup hdn hu
  have HF := hide (fun W => refF_any kd W)
  have HL := hide (fun W => refLow_any kd W)
  have HT := hide (fun W => refTop_any kd W)
  have H2 := hide (fun W => two_f kd W)
  have HI := hide (fun W => refInf_any n kd W)
  have HM := fun (X Y : Int) (x0 : 0 ≤ X) (x1 : X < Q) (y0 : 0 ≤ Y) (y1 : Y < P) W => make_any n X Y kd W x0 x1 y0 y1
  have HG := hide (hg a b' na ca nb cb)
  have hq : ((Go.bitLen x : Int) - (Go.bitLen 1 : Int) + k - f < 1 - b - f ∧ q = 1 - b - f) ∨ ((Go.bitLen x : Int) - (Go.bitLen 1 : Int) + k - f = 1 - b - f ∧ q = 1 - b - f) ∨ (1 - b - f < (Go.bitLen x : Int) - (Go.bitLen 1 : Int) + k - f ∧ q = (Go.bitLen x : Int) - (Go.bitLen 1 : Int) + k - f) := by
    rw [show Go.bitLen 1 = 1 from rfl, hq0]
    split <;> omega
  have HU : 1 - b - f < (Go.bitLen x : Int) - (Go.bitLen 1 : Int) + k - f → Hid (∀ W, IsNat W (.slice a na ca) x → IsNat W (.slice b' nb cb) 1 → Calls Try.prog 66 #[.agg #[.slice a na ca], .agg #[.slice b' nb cb], .int .i64 (k - q - f)] W fun r W' => r = .returned (.bool false) ∧ Below W.heap.size W W') := by
    intro hlt W ha hb
    have hs : k - q - f = 1 - (Go.bitLen x : Int) := by
      rw [show Go.bitLen 1 = 1 from rfl] at hlt
      rw [hq0, if_neg (by omega)]
      omega
    have hxl := bl_ge (x := x) (k := Go.bitLen x - 1) (by omega)
    rw [hs]
    by_cases h1 : 0 ≤ 1 - (Go.bitLen x : Int)
    · have hu := under_up a b' na ca nb cb x 1 (1 - (Go.bitLen x : Int)) W ha hb (lt_pw 300 h140 (by omega)) h1 (by omega)
      rw [cmp_not (by have := Nat.two_pow_pos (1 - (Go.bitLen x : Int)).toNat; exact Nat.mul_pos (by omega) this)] at hu
      exact hu
    · have hu := under_dn a b' na ca nb cb x 1 (1 - (Go.bitLen x : Int)) W ha hb one_pw h1 (by omega) (i64_id (by omega) (by omega))
      rw [cmp_not (by rw [show (-(1 - (Go.bitLen x : Int))).toNat = Go.bitLen x - 1 by omega]; omega)] at hu
      exact hu
  have hl1 : (Go.bitLen 1 : Int) = 1 := rfl
  have hG3 : G < pw 300 := by
    have h2 : G < 2 ^ 54 := by rcases kd with ⟨_, _, _, rfl, _⟩ | ⟨_, _, _, rfl, _⟩ <;> omega
    exact pw_of_len (Nat.le_trans (bitLen_of h2) (by omega))
  clear hq0 hg
  rcases kd with ⟨rfl, rfl, rfl, rfl, rfl, rfl⟩ | ⟨rfl, rfl, rfl, rfl, rfl, rfl⟩
  · by_cases hbig : 2 * 8388608 ≤ G
    · have hG : G = 2 * 8388608 := by omega
      have hs2 : lo (G / 2 ^ 1) = 8388608 := by rw [hG]; rfl
      have d : (23 : Int) + 1 < (Go.bitLen G : Int) := by rw [hG]; decide +kernel
      by_cases g : 1 - 127 - 23 + (256 - 1) - 2 < q + 1
      · unfold lid
        rw [if_pos (by omega), fl_eq n (x := 256 - 1) (y := 0) (by rfl) (by rfl)]
        exact near_bi a b' na ca nb cb x 1 G w0 hx hy HF HL HT H2 rfl rfl (by omega) (by omega) (by omega) (by omega) (by omega) (by omega) rfl hq HU HG rfl d hG3 (dt g) HI
      · unfold lid
        rw [if_neg (by omega), fl_eq n (x := q + 1 - (1 - 127 - 23) + 1) (y := 8388608 - 8388608) (by omega) (by omega)]
        exact near_bn a b' na ca nb cb x 1 G w0 hx hy HF HL HT H2 rfl rfl (by omega) (by omega) (by omega) (by omega) (by omega) (by omega) rfl hq HU HG rfl d hG3 (df g) hs2 (df (by omega)) (i64_id (by omega) (by omega)) (i64_id (by omega) (by omega)) (by rw [IntKind.wrap_u64]; rfl) (hide (fun W => HM _ _ (by omega) (by omega) (by omega) (by omega) W))
    · have hs2 : lo G = (G : Int) := lo_small (by omega)
      have d : ¬ (23 : Int) + 1 < (Go.bitLen G : Int) := by
        have := bitLen_of (v := G) (k := 23 + 1) (by omega)
        omega
      by_cases g : 1 - 127 - 23 + (256 - 1) - 2 < q
      · unfold lid
        rw [if_pos (by omega), fl_eq n (x := 256 - 1) (y := 0) (by rfl) (by rfl)]
        exact near_si a b' na ca nb cb x 1 G w0 hx hy HF HL HT H2 rfl rfl (by omega) (by omega) (by omega) (by omega) (by omega) (by omega) rfl hq HU HG rfl d (dt g) HI
      · unfold lid
        rw [if_neg (by omega)]
        by_cases t : (G : Int) < 8388608
        · rw [fl_eq n (x := 0) (y := (G : Int)) (by omega) (by omega)]
          exact near_ss a b' na ca nb cb x 1 G w0 hx hy HF HL HT H2 rfl rfl (by omega) (by omega) (by omega) (by omega) (by omega) (by omega) rfl hq HU HG rfl d (df g) hs2 (dt t) (hide (fun W => HM _ _ (by omega) (by omega) (by omega) (by omega) W))
        · rw [fl_eq n (x := q - (1 - 127 - 23) + 1) (y := (G : Int) - 8388608) (by omega) (by omega)]
          exact near_sn a b' na ca nb cb x 1 G w0 hx hy HF HL HT H2 rfl rfl (by omega) (by omega) (by omega) (by omega) (by omega) (by omega) rfl hq HU HG rfl d (df g) hs2 (df t) (i64_id (by omega) (by omega)) (i64_id (by omega) (by omega)) (by rw [IntKind.wrap_u64]; omega) (hide (fun W => HM _ _ (by omega) (by omega) (by omega) (by omega) W))
  · by_cases hbig : 2 * 4503599627370496 ≤ G
    · have hG : G = 2 * 4503599627370496 := by omega
      have hs2 : lo (G / 2 ^ 1) = 4503599627370496 := by rw [hG]; rfl
      have d : (52 : Int) + 1 < (Go.bitLen G : Int) := by rw [hG]; decide +kernel
      by_cases g : 1 - 1023 - 52 + (2048 - 1) - 2 < q + 1
      · unfold lid
        rw [if_pos (by omega), fl_eq n (x := 2048 - 1) (y := 0) (by rfl) (by rfl)]
        exact near_bi a b' na ca nb cb x 1 G w0 hx hy HF HL HT H2 rfl rfl (by omega) (by omega) (by omega) (by omega) (by omega) (by omega) rfl hq HU HG rfl d hG3 (dt g) HI
      · unfold lid
        rw [if_neg (by omega), fl_eq n (x := q + 1 - (1 - 1023 - 52) + 1) (y := 4503599627370496 - 4503599627370496) (by omega) (by omega)]
        exact near_bn a b' na ca nb cb x 1 G w0 hx hy HF HL HT H2 rfl rfl (by omega) (by omega) (by omega) (by omega) (by omega) (by omega) rfl hq HU HG rfl d hG3 (df g) hs2 (df (by omega)) (i64_id (by omega) (by omega)) (i64_id (by omega) (by omega)) (by rw [IntKind.wrap_u64]; rfl) (hide (fun W => HM _ _ (by omega) (by omega) (by omega) (by omega) W))
    · have hs2 : lo G = (G : Int) := lo_small (by omega)
      have d : ¬ (52 : Int) + 1 < (Go.bitLen G : Int) := by
        have := bitLen_of (v := G) (k := 52 + 1) (by omega)
        omega
      by_cases g : 1 - 1023 - 52 + (2048 - 1) - 2 < q
      · unfold lid
        rw [if_pos (by omega), fl_eq n (x := 2048 - 1) (y := 0) (by rfl) (by rfl)]
        exact near_si a b' na ca nb cb x 1 G w0 hx hy HF HL HT H2 rfl rfl (by omega) (by omega) (by omega) (by omega) (by omega) (by omega) rfl hq HU HG rfl d (dt g) HI
      · unfold lid
        rw [if_neg (by omega)]
        by_cases t : (G : Int) < 4503599627370496
        · rw [fl_eq n (x := 0) (y := (G : Int)) (by omega) (by omega)]
          exact near_ss a b' na ca nb cb x 1 G w0 hx hy HF HL HT H2 rfl rfl (by omega) (by omega) (by omega) (by omega) (by omega) (by omega) rfl hq HU HG rfl d (df g) hs2 (dt t) (hide (fun W => HM _ _ (by omega) (by omega) (by omega) (by omega) W))
        · rw [fl_eq n (x := q - (1 - 1023 - 52) + 1) (y := (G : Int) - 4503599627370496) (by omega) (by omega)]
          exact near_sn a b' na ca nb cb x 1 G w0 hx hy HF HL HT H2 rfl rfl (by omega) (by omega) (by omega) (by omega) (by omega) (by omega) rfl hq HU HG rfl d (df g) hs2 (df t) (i64_id (by omega) (by omega)) (i64_id (by omega) (by omega)) (by rw [IntKind.wrap_u64]; omega) (hide (fun W => HM _ _ (by omega) (by omega) (by omega) (by omega) W))

end Go.Proofs.Ytahdcbjfabccpaa
namespace Go.Proofs.Ytahdcbjfabccpaa
open Go.RowKit
open Go.Proofs.Ytahdcbjfabccpaa.W

set_option maxRecDepth 100000 in
set_option maxHeartbeats 1000000 in
theorem exact_z {w k V : Int} {n : Bool} (a : Option Addr) (na ca : Nat) (w0 : World) (hz : ((na : Int) == 0) = true) (HC : Ct 14 #[.int .i64 w, .bool n, .int .i64 0, .int .u64 0] (.int .u64 V)) :
    Calls Try.prog 42 #[.int .i64 w, .bool n, .agg #[.slice a na ca], .int .i64 k] w0 fun r W' => r = .returned (.int .u64 V) ∧ Below w0.heap.size w0 W' := by
  go_enter Try.func42, Try.ntmps42
  go_wp2_with fail
  refine (unhide HC _).mono ?_
  rintro _ w1 ⟨rfl, hb⟩
  have HB := hide (bthen (below1 _ _) hb)
  clear hb
  go_wp2_with fail
  go_ret
  exact ⟨rfl, unhide HB⟩
set_option maxRecDepth 100000 in
set_option maxHeartbeats 1000000 in
theorem exact_l {w k V : Int} {n : Bool} (a : Option Addr) (na ca : Nat) (w0 : World) (hz : ((na : Int) == 0) = false) (g : decide (k < -4000) = true) (HC : Ct 14 #[.int .i64 w, .bool n, .int .i64 0, .int .u64 0] (.int .u64 V)) :
    Calls Try.prog 42 #[.int .i64 w, .bool n, .agg #[.slice a na ca], .int .i64 k] w0 fun r W' => r = .returned (.int .u64 V) ∧ Below w0.heap.size w0 W' := by
  go_enter Try.func42, Try.ntmps42
  go_wp2_with fail
  refine (unhide HC _).mono ?_
  rintro _ w1 ⟨rfl, hb⟩
  have HB := hide (bthen (below1 _ _) hb)
  clear hb
  go_wp2_with fail
  go_ret
  exact ⟨rfl, unhide HB⟩
set_option maxRecDepth 100000 in
set_option maxHeartbeats 1000000 in
theorem exact_h {w k V : Int} {n : Bool} (a : Option Addr) (na ca : Nat) (w0 : World) (hz : ((na : Int) == 0) = false) (g : decide (k < -4000) = false) (g2 : decide (4000 < k) = true) (HC : Ct 16 #[.int .i64 w, .bool n] (.int .u64 V)) :
    Calls Try.prog 42 #[.int .i64 w, .bool n, .agg #[.slice a na ca], .int .i64 k] w0 fun r W' => r = .returned (.int .u64 V) ∧ Below w0.heap.size w0 W' := by
  go_enter Try.func42, Try.ntmps42
  go_wp2_with fail
  refine (unhide HC _).mono ?_
  rintro _ w1 ⟨rfl, hb⟩
  have HB := hide (bthen (below1 _ _) hb)
  clear hb
  go_wp2_with fail
  go_ret
  exact ⟨rfl, unhide HB⟩
set_option maxRecDepth 100000 in
set_option maxHeartbeats 1000000 in
theorem exact_n {w k V : Int} {n : Bool} (a : Option Addr) (na ca x : Nat) (w0 : World) (hx : IsNat w0 (.slice a na ca) x) (hz : ((na : Int) == 0) = false) (g : decide (k < -4000) = false) (g2 : decide (4000 < k) = false)
    (HN : Hid (∀ (b' : Option Addr) (nb cb : Nat) (W : World), IsNat W (.slice a na ca) x → IsNat W (.slice b' nb cb) 1 → Calls Try.prog 53 #[.int .i64 w, .bool n, .agg #[.slice a na ca], .agg #[.slice b' nb cb], .int .i64 k] W fun r W' => r = .returned (.int .u64 V) ∧ Below W.heap.size W W')) :
    Calls Try.prog 42 #[.int .i64 w, .bool n, .agg #[.slice a na ca], .int .i64 k] w0 fun r W' => r = .returned (.int .u64 V) ∧ Below w0.heap.size w0 W' := by
  go_enter Try.func42, Try.ntmps42
  go_wp2_with fail
  have HB := hide (below1 w0 (.cells #[.slice a na ca] 57)).drew
  have HX := hide (hx.below (unhide HB))
  have HA : Hid ((w0.alloc (.cells #[.slice a na ca] 57)).drew.cell? ⟨w0.heap.size, 0, none⟩ = some (.slice a na ca)) := by unfold Hid; simp [go_sem]
  clear hx
  refine wp_region_held_drew (S := fun w' => w'.cell? ⟨w0.heap.size, 0, none⟩ = some (.slice a na ca)) (by kernel_rfl) ?_ (fun hHeld => ?_)
  · (try dsimp only)
    exact unhide HA
  refine lst0 7 (by kernel_rfl) ?_
  refine tkA 0 25 1 ?_
  refine tkA 1 26 3 ?_
  refine tkA 2 27 7 ?_
  refine tkA 4 29 23 ?_
  refine rdA 3 31 (fun Kk hKk => ?_)
  go_simp
  refine (refOf_1 _).mono ?_
  rintro _ w8 ⟨s8, rfl, hN8, hbl⟩
  obtain ⟨a8, n8, c8, rfl⟩ := hN8.slice
  have H8 := hide hN8
  have HX := hide ((unhide HX).below hbl)
  have HA := hide (keep1 hbl (lt_of_cell (unhide HA)) (unhide HA))
  have HB := hide (bthen (unhide HB) hbl)
  clear hbl hN8
  (try go_wp2_with fail)
  refine hKk.out _ _ ?_ (fun hHeld => ?_)
  · (try dsimp only)
    exact unhide HA
  clear hKk Kk
  (try simp only [List.setIfInBounds_toArray, List.set_cons_zero, List.set_cons_succ])
  refine rdA 5 63 (fun Kk hKk => ?_)
  go_simp
  refine (unhide HN _ _ _ _ (unhide HX) (unhide H8)).mono ?_
  rintro _ w9 ⟨rfl, hbl⟩
  have HA := hide (keep1 hbl (lt_of_cell (unhide HA)) (unhide HA))
  have HB := hide (bthen (unhide HB) hbl)
  clear hbl
  (try go_wp2_with fail)
  refine hKk.out _ _ ?_ (fun hHeld => ?_)
  · (try dsimp only)
    exact unhide HA
  clear hKk Kk
  (try simp only [List.setIfInBounds_toArray, List.set_cons_zero, List.set_cons_succ])
  refine tkA 6 8 127 ?_
  refine wpAnyH_done (by kernel_rfl) ?_ _
  clear hHeld
  go_wp2
  go_ret
  exact ⟨rfl, unhide HB⟩

end Go.Proofs.Ytahdcbjfabccpaa
namespace Go.Proofs.Ytahdcbjfabccpaa
open Go.RowKit
open Go.Proofs.Ytahdcbjfabccpaa.W

/-- What the document's Exact is of x times 2^k. -/
def exactN (f P Q b : Int) (n : Bool) (x : Nat) (k : Int) : Int :=
  if x = 0 ∨ k < -4000 then put f P Q n 0 0 else if 4000 < k then put f P Q n (Q - 1) 0 else fl f P Q n (lid P Q (code f.toNat (lowN f b) (x * 2 ^ (k + 5000).toNat) : Nat))

theorem exact_any {w e f P Q b k : Int} {n : Bool} (kd : Kd w e f P Q b) (x : Nat) (h140 : x < pw 140) (a : Option Addr) (na ca : Nat) (W : World) (hx : IsNat W (.slice a na ca) x) :
    Calls Try.prog 42 #[.int .i64 w, .bool n, .agg #[.slice a na ca], .int .i64 k] W fun r W' => r = .returned (.int .u64 (exactN f P Q b n x k)) ∧ Below W.heap.size W W' := by
  obtain ⟨p1, p2, q1, q2⟩ := kd.pos
  have HM := hide (fun W => make_any n 0 0 kd W (by omega) (by omega) (by omega) (by omega))
  have hp := hx.pos
  unfold exactN
  by_cases h0 : x = 0
  · rw [if_pos (Or.inl h0)]
    have : ¬ 0 < na := by rw [hp]; exact fun h => h h0
    exact exact_z a na ca W (eq_t (by omega)) HM
  · have hz : ((na : Int) == 0) = false := eq_f (by have : 0 < na := (by rw [hp]; exact h0); omega)
    by_cases h1 : k < -4000
    · rw [if_pos (Or.inr h1)]
      exact exact_l a na ca W hz (dt h1) HM
    · rw [if_neg (fun h => h.elim h0 h1)]
      by_cases h2 : 4000 < k
      · rw [if_pos h2]
        exact exact_h a na ca W hz (df h1) (dt h2) (hide (fun W => refInf_any n kd W))
      · rw [if_neg h2]
        exact exact_n a na ca x W hx hz (df h1) (df h2) (hide (fun b' nb cb W ha hb => near_known kd a b' na ca nb cb x W ha hb h0 (by omega) (by omega) h140))

theorem code_tiny {f L X : Nat} (h : Go.bitLen X < L) : code f L X = 0 := by
  have hu : unitOf f L X = L := by unfold unitOf; omega
  have hX : X < 2 ^ (L - 1) := bl_lt (by omega)
  have hp : 2 ^ L = 2 * 2 ^ (L - 1) := by
    have := pow_split2 L 1 (L - 1) (by omega)
    omega
  unfold code
  rw [hu, Nat.sub_self, Nat.zero_mul, Nat.zero_add]
  unfold near
  rw [Nat.mod_eq_of_lt (by omega), Nat.div_eq_of_lt (by omega), if_neg (by omega)]
theorem code_huge {f L X c : Nat} (h : L + f + 1 + c ≤ Go.bitLen X) : c * 2 ^ f ≤ code f L X := by
  unfold code
  have hu : c ≤ unitOf f L X - L := by unfold unitOf; omega
  exact Nat.le_trans (Nat.mul_le_mul_right _ hu) (Nat.le_add_right _ _)

theorem zero_code {w e f P Q b : Int} (kd : Kd w e f P Q b) (n : Bool) {X : Nat} (h : code f.toNat (lowN f b) X = 0) : fl f P Q n (lid P Q (code f.toNat (lowN f b) X : Nat)) = put f P Q n 0 0 := by
  rw [h]
  unfold lid
  rw [if_neg (by rcases kd with ⟨-, -, -, rfl, rfl, -⟩ | ⟨-, -, -, rfl, rfl, -⟩ <;> omega)]
  exact fl_eq n (by simp) (by simp)
theorem inf_code {w e f P Q b : Int} (kd : Kd w e f P Q b) (n : Bool) {X : Nat} (h : lowN f b + f.toNat + 1 + 2048 ≤ Go.bitLen X) : fl f P Q n (lid P Q (code f.toNat (lowN f b) X : Nat)) = put f P Q n (Q - 1) 0 := by
  have hc := code_huge h
  have hP := kd.pow.1
  have hc' : 2048 * P ≤ ((code f.toNat (lowN f b) X : Nat) : Int) := by rw [hP]; omega
  generalize ((code f.toNat (lowN f b) X : Nat) : Int) = cc at *
  clear hc hP h
  rcases kd with ⟨rfl, rfl, rfl, rfl, rfl, rfl⟩ | ⟨rfl, rfl, rfl, rfl, rfl, rfl⟩
  · unfold lid
    rw [if_pos (by omega)]
    exact fl_eq n (by rfl) (by rfl)
  · unfold lid
    rw [if_pos (by omega)]
    exact fl_eq n (by rfl) (by rfl)

/-- An exponent as the document's Pack takes it. -/
def capR (X : Int) : Int := if X < -10000 then -10001 else if 10000 < X then 9999 else X - 1

theorem exact_pack {w e f P Q b : Int} (kd : Kd w e f P Q b) (n m : Bool) (v : Nat) (X : Int) (hv : W2 v) :
    exactN f P Q b n (2 * v + m.toNat) (capR X) = fl f P Q n (lid P Q (code f.toNat (lowN f b) (num v m (cap X)) : Nat)) := by
  obtain ⟨hP, f0, f1, l0, l1, b0, b1⟩ := kd.pow
  have hb : Go.bitLen v ≤ 128 := bitLen_128 hv
  have hzm : ¬ 2 * v + m.toNat = 0 → ¬ (v = 0 ∧ m = false) := fun h hh => h (by rw [hh.1, hh.2]; rfl)
  unfold exactN
  by_cases h0 : 2 * v + m.toNat = 0
  · rw [if_pos (Or.inl h0)]
    refine (zero_code kd n ?_).symm
    unfold num
    rw [h0, Nat.zero_mul, code_zero]
  · have hl := fun E => num_len v m E (hzm h0)
    by_cases h1 : capR X < -4000
    · rw [if_pos (Or.inr h1)]
      refine (zero_code kd n (code_tiny ?_)).symm
      rw [hl]
      have : cap X ≤ -4000 := by unfold capR at h1; unfold cap; split at h1 <;> (try split at h1) <;> split <;> (try split) <;> omega
      unfold lowN
      omega
    · rw [if_neg (fun h => h.elim h0 h1)]
      by_cases h2 : 4000 < capR X
      · rw [if_pos h2]
        refine (inf_code kd n ?_).symm
        rw [hl]
        have : 4002 ≤ cap X := by unfold capR at h2; unfold cap; split at h2 <;> (try split at h2) <;> split <;> (try split) <;> omega
        unfold lowN
        omega
      · rw [if_neg h2]
        have hX : capR X = X - 1 ∧ -3999 ≤ X ∧ X ≤ 4001 := by unfold capR at h1 h2 ⊢; split at h1 <;> (try split at h1) <;> omega
        have hc : cap X = X := by unfold cap; rw [if_neg (by omega), if_neg (by omega)]
        unfold num
        rw [hc, hX.1, show X - 1 + 5000 = X + 4999 by omega]

theorem pw5_140 {x : Nat} (h : x < pw 5) : x < pw 140 := lt_pw 140 h (by omega)
theorem two_pw {v : Nat} (hv : W2 v) (m : Bool) : 2 * v + m.toNat < pw 140 := by
  refine pw5_140 ?_
  have := pw_succ 4
  rw [pw_4] at this
  rw [this]
  unfold W2 at hv
  have : m.toNat ≤ 1 := by cases m <;> simp
  omega

end Go.Proofs.Ytahdcbjfabccpaa
namespace Go.Proofs.Ytahdcbjfabccpaa
open Go.RowKit
open Go.Proofs.Ytahdcbjfabccpaa.W

/-- How far up a number lies. -/
def Z5 : Nat := 5000
theorem Z5_at : ((0 : Int) + 5000).toNat = Z5 := rfl
/-- A whole number's sign: H is half of what there is room for. -/
def ngs (H : Int) (s : Bool) (x : Int) : Bool := s && decide (H ≤ x % (2 * H))
/-- A whole number's amount. -/
def amt (H : Int) (s : Bool) (x : Int) : Int := if ngs H s x = true then 2 * H - x % (2 * H) else x % (2 * H)
/-- The float that is nearest to it. -/
def makC (f P Q b H : Int) (s : Bool) (x : Int) : Int := rd f P Q b (ngs H s x) ((amt H s x).toNat * 2 ^ Z5)
/-- The float that is nearest to a float of another width. -/
def turnB (f P Q b : Int) (n : Bool) (K : Int) (M : Nat) : Int := if K = 3 then nanB f P Q else if K = 2 then put f P Q n (Q - 1) 0 else rd f P Q b n M

theorem ngs_f (H x : Int) : ngs H false x = false := rfl
theorem amt_f (H x : Int) : amt H false x = x % (2 * H) := by unfold amt; rw [ngs_f, if_neg (by decide)]
theorem ngs_t {H x : Int} (h : H ≤ x % (2 * H)) : ngs H true x = true := by unfold ngs; simpa using h
theorem ngs_p {H x : Int} (h : ¬ H ≤ x % (2 * H)) : ngs H true x = false := by unfold ngs; simpa using h
theorem amt_t {H x : Int} (h : H ≤ x % (2 * H)) : amt H true x = 2 * H - x % (2 * H) := by unfold amt; rw [ngs_t h, if_pos rfl]
theorem amt_p {H x : Int} (h : ¬ H ≤ x % (2 * H)) : amt H true x = x % (2 * H) := by unfold amt; rw [ngs_p h, if_neg (by decide)]
/-- What half of a width's room is. -/
theorem kd_half {w e f P Q b : Int} (k : Kd w e f P Q b) : (w = 32 ∧ P * Q = 2147483648) ∨ (w = 64 ∧ P * Q = 9223372036854775808) := by
  rcases k with ⟨rfl, -, -, rfl, rfl, -⟩ | ⟨rfl, -, -, rfl, rfl, -⟩
  · exact Or.inl ⟨rfl, rfl⟩
  · exact Or.inr ⟨rfl, rfl⟩
theorem amt_in {w e f P Q b : Int} (k : Kd w e f P Q b) (s : Bool) (x : Int) : 0 ≤ amt (P * Q) s x ∧ amt (P * Q) s x < 18446744073709551616 ∧ (ngs (P * Q) s x = true → amt (P * Q) s x ≠ 0) := by
  have hk := kd_half k
  generalize P * Q = H at *
  have hm : 0 ≤ x % (2 * H) ∧ x % (2 * H) < 2 * H := ⟨Int.emod_nonneg _ (by omega), Int.emod_lt_of_pos _ (by omega)⟩
  cases s
  · rw [amt_f, ngs_f]
    exact ⟨hm.1, by omega, fun h => by cases h⟩
  · by_cases h : H ≤ x % (2 * H)
    · rw [amt_t h]
      exact ⟨by omega, by omega, fun _ => by omega⟩
    · rw [amt_p h, ngs_p h]
      exact ⟨hm.1, by omega, fun h => by cases h⟩

end Go.Proofs.Ytahdcbjfabccpaa
namespace Go.Proofs.Ytahdcbjfabccpaa
open Go.RowKit
open Go.Proofs.Ytahdcbjfabccpaa.W

theorem i32_low (x : Int) : IntKind.i32.wrap x = if 2147483648 ≤ x % 4294967296 then x % 4294967296 - 4294967296 else x % 4294967296 := by
  simp only [IntKind.wrap, IntKind.bits, IntKind.signed]
  simp
theorem i64_low (x : Int) : IntKind.i64.wrap x = if 9223372036854775808 ≤ x % 18446744073709551616 then x % 18446744073709551616 - 18446744073709551616 else x % 18446744073709551616 := by
  simp only [IntKind.wrap, IntKind.bits, IntKind.signed]
  simp
theorem u32_low (x : Int) : IntKind.u32.wrap x = x % 4294967296 := by
  simp only [IntKind.wrap, IntKind.bits, IntKind.signed]
  simp
theorem number_any {k e f P Q b x : Int} (kd : Kd k e f P Q b) (s : Bool) (x0 : 0 ≤ x) (x1 : x < 18446744073709551616) : Ct 45 #[.int .i64 k, .int .u64 x, .bool s] (.tuple #[.bool (ngs (P * Q) s x), .int .u64 (amt (P * Q) s x)]) := by
  rcases kd_half kd with ⟨rfl, h⟩ | ⟨rfl, h⟩ <;> rw [h] <;> clear h kd
  · cases s
    · rw [ngs_f, amt_f]
      exact hide (fun W => number_32_f W (u32_low x) (hide (fun W => split_u32_p W (by omega) (by rw [IntKind.wrap_u64]; omega))))
    · by_cases g : 2147483648 ≤ x % (2 * 2147483648)
      · rw [ngs_t g, amt_t g]
        exact hide (fun W => number_32_t W (y := x % 4294967296 - 4294967296) (by rw [i32_low, if_pos (by omega)]) (hide (fun W => split_i32_n W (by omega) rfl (by rw [IntKind.wrap_u64, IntKind.wrap_u64]; omega))))
      · rw [ngs_p g, amt_p g]
        exact hide (fun W => number_32_t W (y := x % 4294967296) (by rw [i32_low, if_neg (by omega)]) (hide (fun W => split_i32_p W (by omega) (by rw [IntKind.wrap_u64]; omega))))
  · cases s
    · rw [ngs_f, amt_f, show x % (2 * 9223372036854775808) = x by omega]
      exact hide (fun W => number_64_f W (hide (fun W => split_u64_p W (by omega))))
    · by_cases g : 9223372036854775808 ≤ x % (2 * 9223372036854775808)
      · rw [ngs_t g, amt_t g]
        exact hide (fun W => number_64_t W (y := x % 18446744073709551616 - 18446744073709551616) (by rw [i64_low, if_pos (by omega)]) (hide (fun W => split_i64_n W (by omega) rfl (by rw [IntKind.wrap_u64, IntKind.wrap_u64]; omega))))
      · rw [ngs_p g, amt_p g]
        exact hide (fun W => number_64_t W (y := x % 18446744073709551616) (by rw [i64_low, if_neg (by omega)]) (hide (fun W => split_i64_p W (by omega) (by rw [IntKind.wrap_u64]; omega))))
theorem whole_any {w e f P Q b a : Int} (k : Kd w e f P Q b) (n : Bool) (a0 : 0 ≤ a) (a1 : a < 18446744073709551616) (hn : n = true → a ≠ 0) : Ct 46 #[.int .i64 w, .bool n, .int .u64 a] (.int .u64 (rd f P Q b n (a.toNat * 2 ^ Z5))) := by
  have hp := fun W => pack_at (E := 0) k n a.toNat (small_w2 a0 a1) (by omega) (by omega) W
  rw [Z5_at] at hp
  cases n
  · exact hide (fun W => whole_f W (hide (fun W => of_n a W a0 a1)) (hide hp))
  · exact hide (fun W => whole_t W (nb := true) (ne_t (hn rfl)) (hide (fun W => of_n a W a0 a1)) (hide hp))
theorem from_any {w e f P Q b k e' f' P' Q' b' x : Int} (kw : Kd w e f P Q b) (kk : Kd k e' f' P' Q' b') (s : Bool) (x0 : 0 ≤ x) (x1 : x < 18446744073709551616) : Ct 25 #[.int .i64 w, .int .i64 k, .int .u64 x, .bool s] (.int .u64 (makC f P Q b (P' * Q') s x)) := by
  obtain ⟨a0, a1, a2⟩ := amt_in kk s x
  exact hide (fun W => nearest_l W (number_any kk s x0 x1) (whole_any kw _ a0 a1 a2))
theorem fromU_any {w e f P Q b k e' f' P' Q' b' x : Int} (kw : Kd w e f P Q b) (kk : Kd k e' f' P' Q' b') (x0 : 0 ≤ x) (x1 : x < 18446744073709551616) : Ct 10 #[.int .i64 w, .int .i64 k, .int .u64 x] (.int .u64 (makC f P Q b (P' * Q') false x)) := hide (fun W => fromUint_l W (from_any kw kk false x0 x1))
theorem fromI_any {w e f P Q b k e' f' P' Q' b' x : Int} (kw : Kd w e f P Q b) (kk : Kd k e' f' P' Q' b') (x0 : 0 ≤ x) (x1 : x < 18446744073709551616) : Ct 11 #[.int .i64 w, .int .i64 k, .int .u64 x] (.int .u64 (makC f P Q b (P' * Q') true x)) := hide (fun W => fromInt_l W (from_any kw kk true x0 x1))

theorem narrow_turn {w e f P Q b w' e' f' P' Q' b' K X S : Int} (k : Kd w e f P Q b) (k' : Kd w' e' f' P' Q' b') (n : Bool) (h : Prt f P Q b K X S) : narrowN f' P' Q' b' n K X S = turnB f' P' Q' b' n K (mag X S) := by
  obtain ⟨a, c, -⟩ := h.in k
  unfold narrowN turnB nanB
  rw [num_mag S a c]
  have hK : K = 0 ∨ K = 1 ∨ K = 2 ∨ K = 3 := by unfold Prt at h; omega
  rcases hK with rfl | rfl | rfl | rfl
  · rw [if_pos rfl, if_neg (by decide), if_neg (by decide), h.mag0 (by decide), rd_zero k']
  · rw [if_neg (by decide), if_pos rfl, if_neg (by decide), if_neg (by decide)]
    rfl
  · simp
  · simp
theorem promote_any {x : Int} (x0 : 0 ≤ x) (x1 : x < 18446744073709551616) : Ct 6 #[.int .u64 x] (.int .u64 (turnB 52 4503599627370496 2048 1023 (oN 8388608 256 x) (oK 8388608 256 x) (oM 23 8388608 256 127 x))) := by
  obtain ⟨X, S, ho, hp, hm⟩ := open_kd kd_32 x
  obtain ⟨-, -, s0, -, s1⟩ := hp.in kd_32
  have hn := fun W => narrow_any kd_64 (oN 8388608 256 x) (oK 8388608 256 x) X S s0 (by omega) W
  rw [narrow_turn kd_32 kd_64 _ hp, hm] at hn
  exact hide (fun W => promote_l W (hide (fun W => open_any x kd_32.wd W x0 x1 ho)) (hide hn))
theorem demote_any {x : Int} (x0 : 0 ≤ x) (x1 : x < 18446744073709551616) : Ct 9 #[.int .u64 x] (.int .u64 (turnB 23 8388608 256 127 (oN 4503599627370496 2048 x) (oK 4503599627370496 2048 x) (oM 52 4503599627370496 2048 1023 x))) := by
  obtain ⟨X, S, ho, hp, hm⟩ := open_kd kd_64 x
  obtain ⟨-, -, s0, -, s1⟩ := hp.in kd_64
  have hn := fun W => narrow_any kd_32 (oN 4503599627370496 2048 x) (oK 4503599627370496 2048 x) X S s0 (by omega) W
  rw [narrow_turn kd_64 kd_32 _ hp, hm] at hn
  exact hide (fun W => demote_l W (hide (fun W => open_any x kd_64.wd W x0 x1 ho)) (hide hn))

theorem aw_1 : makC 23 8388608 256 127 (8388608 * 256) true 4294967295 = 3212836864 := by decide +kernel
theorem aw_2 : turnB 23 8388608 256 127 (oN 4503599627370496 2048 9218868437227405311) (oK 4503599627370496 2048 9218868437227405311) (oM 52 4503599627370496 2048 1023 9218868437227405311) = 2139095040 := by decide +kernel
theorem aw_3 : makC 52 4503599627370496 2048 1023 (8388608 * 256) false 1 = 4607182418800017408 := by decide +kernel
theorem awake_any : Ct 5 #[] (.bool true) := by
  have h1 := fromI_any kd_32 kd_32 (x := 4294967295) (by omega) (by omega)
  have h2 := demote_any (x := 9218868437227405311) (by omega) (by omega)
  have h3 := fromU_any kd_64 kd_32 (x := 1) (by omega) (by omega)
  rw [aw_1] at h1
  rw [aw_2] at h2
  rw [aw_3] at h3
  exact hide (fun W => awake_l W h1 h2 h3)
end Go.Proofs.Ytahdcbjfabccpaa
namespace Go.Proofs.Ytahdcbjfabccpaa
open Go.RowKit
open Go.Proofs.Ytahdcbjfabccpaa.W

set_option maxHeartbeats 4000000 in
set_option maxRecDepth 100000 in
theorem turns_w {x a c K1 E1 S1 K2 E2 S2 : Int} {n1 n2 : Bool} (W : World) (HA : Ct 5 #[] (.bool true)) (H1 : Ct 6 #[.int .u64 x] (.int .u64 a)) (O1 : Ct 8 #[.int .i64 32, .int .u64 x] (.agg #[.bool n1, .int .i64 K1, .int .i64 E1, .int .u64 S1])) (N1 : Ct 7 #[.int .i64 64, .agg #[.bool n1, .int .i64 K1, .int .i64 E1, .int .u64 S1]] (.int .u64 a)) (H2 : Ct 9 #[.int .u64 x] (.int .u64 c)) (O2 : Ct 8 #[.int .i64 64, .int .u64 x] (.agg #[.bool n2, .int .i64 K2, .int .i64 E2, .int .u64 S2])) (N2 : Ct 7 #[.int .i64 32, .agg #[.bool n2, .int .i64 K2, .int .i64 E2, .int .u64 S2]] (.int .u64 c)) :
    Calls Try.prog 3 #[.int .u64 x] W fun r W' => r = .returned (.bool true) ∧ Below W.heap.size W W' := by
  have HB := hide (Below.refl W.heap.size W)
  go_enter Try.func3, Try.ntmps3
  go_wp2_with fail
  refine (unhide HA _).mono ?_
  rintro _ w1 ⟨rfl, hb⟩
  have HB := hide (bthen (unhide HB) hb)
  clear hb
  go_wp2_with fail
  refine (unhide H1 _).mono ?_
  rintro _ w2 ⟨rfl, hb⟩
  have HB := hide (bthen (unhide HB) hb)
  clear hb
  go_wp2_with fail
  refine (unhide O1 _).mono ?_
  rintro _ w3 ⟨rfl, hb⟩
  have HB := hide (bthen (unhide HB) hb)
  clear hb
  go_wp2_with fail
  refine (unhide N1 _).mono ?_
  rintro _ w4 ⟨rfl, hb⟩
  have HB := hide (bthen (unhide HB) hb)
  clear hb
  go_wp2_with fail
  refine (unhide H2 _).mono ?_
  rintro _ w5 ⟨rfl, hb⟩
  have HB := hide (bthen (unhide HB) hb)
  clear hb
  go_wp2_with fail
  refine (unhide O2 _).mono ?_
  rintro _ w6 ⟨rfl, hb⟩
  have HB := hide (bthen (unhide HB) hb)
  clear hb
  go_wp2_with fail
  refine (unhide N2 _).mono ?_
  rintro _ w7 ⟨rfl, hb⟩
  have HB := hide (bthen (unhide HB) hb)
  clear hb
  go_wp2_with fail
  go_ret
  exact ⟨by simp, unhide HB⟩
end Go.Proofs.Ytahdcbjfabccpaa
namespace Go.Proofs.Ytahdcbjfabccpaa
open Go.RowKit
open Go.Proofs.Ytahdcbjfabccpaa.W

set_option maxHeartbeats 1000000 in
theorem pair_any (v : Nat) (w : World) (hv : W2 v) :
    Calls Try.prog 39 #[.int .u64 (hi v), .int .u64 (lo v)] w fun e w' => ∃ s', e = .returned (.agg #[s']) ∧ IsNat w' s' v ∧ Below w.heap.size w w' := by
  have h1 := hi_1 hv
  have HV : Hid ((hi v).toNat * 2 ^ 64 + (lo v).toNat = v) := by unfold Hid hi lo; rw [Int.toNat_natCast, Int.toNat_natCast, show (2 : Nat) ^ 64 = 18446744073709551616 from rfl]; omega
  have HH := hide h1
  clear h1
  go_enter Try.func39, Try.ntmps39
  go_wp2_with fail
  refine (refOf_any (hi v) _ (hi_0 v) (unhide HH)).mono ?_
  rintro e w1 ⟨s1, rfl, hN1, hb1⟩
  obtain ⟨a1, n1, c1, rfl⟩ := hN1.slice
  have H1 := hide hN1
  clear hN1
  go_wp2_with fail
  refine (shl_lit _ _ _ _ _ (unhide H1) (Nat.le_trans ((unhide H1).short (k := 2) (by rw [pw_2]; have := unhide HH; have := hi_0 v; omega)) (by omega))).mono ?_
  rintro e w2 ⟨s2, rfl, hN2, hb2⟩
  obtain ⟨a2, n2, c2, rfl⟩ := hN2.slice
  have H2 := hide hN2
  clear hN2
  go_wp2_with fail
  refine (refOf_any (lo v) _ (lo_0 v) (lo_1 v)).mono ?_
  rintro e w3 ⟨s3, rfl, hN3, hb3⟩
  obtain ⟨a3, n3, c3, rfl⟩ := hN3.slice
  have H3 := hide hN3
  have H2' := hide ((unhide H2).below hb3)
  clear hN3
  go_wp2_with fail
  refine (refAdd_any _ _ _ _ _ _ _ _ _ (unhide H2') (unhide H3) (Nat.le_trans ((unhide H2').short (k := 4) (by rw [pw_4]; have := unhide HV; unfold W2 at hv; omega)) (by omega)) (Nat.le_trans ((unhide H3).short (k := 2) (by rw [pw_2]; have := lo_1 v; have := lo_0 v; omega)) (by omega))).mono ?_
  rintro e w4 ⟨s4, rfl, hN4, hb4⟩
  obtain ⟨a4, n4, c4, rfl⟩ := hN4.slice
  rw [unhide HV] at hN4
  have H4 := hide hN4
  have HB := hide (bthen (bthen (bthen (bthen (below1 w (.cells #[.slice none 0 0] 57)) hb1) hb2) hb3) hb4)
  have hB := bthen (bthen (bthen hb1 hb2) hb3) hb4
  have hc0 : w4.cell? ⟨w.heap.size, 0, none⟩ = some (.slice none 0 0) := by rw [hB.cell (by simp)]; simp [go_sem]
  have hf0 : w4.frozen? ⟨w.heap.size, 0, none⟩ = false := by rw [hB.frozen (by simp)]; simp [go_sem]
  clear hN4 hB
  go_wp2
  refine bodyPost_ret (v := .agg #[.slice a4 n4 c4]) (by simp [results, Try.results39, go_sem, hc0]) rfl ⟨_, rfl, (unhide H4).store hc0 _, ?_⟩
  exact (unhide HB).setCell (by simp) _
set_option maxRecDepth 100000 in
set_option maxHeartbeats 2000000 in
theorem refPack_mf {w X V : Int} {n : Bool} (v : Nat) (w0 : World) (hv : W2 v) (xa : ¬ X < -10000) (xb : ¬ 10000 < X) (kx : IntKind.i64.wrap (X - 1) = X - 1)
    (HE : Hid (∀ (a : Option Addr) (na ca : Nat) (W : World), IsNat W (.slice a na ca) (v * 2 ^ 1) → Calls Try.prog 42 #[.int .i64 w, .bool n, .agg #[.slice a na ca], .int .i64 (X - 1)] W fun r W' => r = .returned (.int .u64 V) ∧ Below W.heap.size W W')) :
    Calls Try.prog 15 #[.int .i64 w, .bool n, .int .u64 (hi v), .int .u64 (lo v), .int .i64 X, .bool false] w0 fun r W' => r = .returned (.int .u64 V) ∧ Below w0.heap.size w0 W' := by
  go_enter Try.func15, Try.ntmps15
  go_wp2_with fail
  refine (pair_any v _ hv).mono ?_
  rintro _ w1 ⟨s1, rfl, hN1, hb1⟩
  obtain ⟨a1, n1, c1, rfl⟩ := hN1.slice
  go_wp2_with fail
  refine (shl_one _ _ _ _ _ hN1 (Nat.le_trans (hN1.short (k := 4) (by rw [pw_4]; exact hv)) (by omega))).mono ?_
  rintro _ w2 ⟨s2, rfl, hN2, hb2⟩
  obtain ⟨a2, n2, c2, rfl⟩ := hN2.slice
  have HB := hide (balloc (bthen hb1 hb2) (.cells #[.slice a2 n2 c2] 57))
  have hz2 : w0.heap.size ≤ w2.heap.size := (bthen hb1 hb2).size
  have H2 := hide (hN2.below (below1 _ (.cells #[.slice a2 n2 c2] 57)))
  clear hb1 hb2 hN1 hN2
  go_wp2_with fail
  refine (unhide HE _ _ _ _ (unhide H2)).mono ?_
  rintro _ wz ⟨rfl, hbl⟩
  have HB := hide (bthen (unhide HB) hbl)
  go_wp2_with fail
  go_ret
  exact ⟨rfl, unhide HB⟩
set_option maxRecDepth 100000 in
set_option maxHeartbeats 1000000 in
theorem refNarrow_zero {w K X S V : Int} {n : Bool} (W : World) (k0 : (K == 0) = true) (HC : Hid (∀ W, Calls Try.prog 14 #[.int .i64 w, .bool n, .int .i64 0, .int .u64 0] W fun r W' => r = .returned (.int .u64 V) ∧ Below W.heap.size W W')) :
    Calls Try.prog 7 #[.int .i64 w, .agg #[.bool n, .int .i64 K, .int .i64 X, .int .u64 S]] W fun r W' => r = .returned (.int .u64 V) ∧ Below W.heap.size W W' := by
  go_enter Try.func7, Try.ntmps7
  go_wp2_with fail
  refine (unhide HC _).mono ?_
  rintro _ w1 ⟨rfl, hb⟩
  have HB := hide (bthen (below1 _ _) hb)
  clear hb
  go_wp2_with fail
  go_ret
  exact ⟨rfl, unhide HB⟩
set_option maxRecDepth 100000 in
set_option maxHeartbeats 1000000 in
theorem refNarrow_fin {w K X S V : Int} {n : Bool} (W : World) (k0 : (K == 0) = false) (k1 : (K == 1) = true) (HC : Hid (∀ W, Calls Try.prog 15 #[.int .i64 w, .bool n, .int .u64 0, .int .u64 S, .int .i64 X, .bool false] W fun r W' => r = .returned (.int .u64 V) ∧ Below W.heap.size W W')) :
    Calls Try.prog 7 #[.int .i64 w, .agg #[.bool n, .int .i64 K, .int .i64 X, .int .u64 S]] W fun r W' => r = .returned (.int .u64 V) ∧ Below W.heap.size W W' := by
  go_enter Try.func7, Try.ntmps7
  go_wp2_with fail
  refine (unhide HC _).mono ?_
  rintro _ w1 ⟨rfl, hb⟩
  have HB := hide (bthen (below1 _ _) hb)
  clear hb
  go_wp2_with fail
  go_ret
  exact ⟨rfl, unhide HB⟩
set_option maxRecDepth 100000 in
set_option maxHeartbeats 1000000 in
theorem refNarrow_inf {w K X S V : Int} {n : Bool} (W : World) (k0 : (K == 0) = false) (k1 : (K == 1) = false) (k2 : (K == 2) = true) (HC : Hid (∀ W, Calls Try.prog 16 #[.int .i64 w, .bool n] W fun r W' => r = .returned (.int .u64 V) ∧ Below W.heap.size W W')) :
    Calls Try.prog 7 #[.int .i64 w, .agg #[.bool n, .int .i64 K, .int .i64 X, .int .u64 S]] W fun r W' => r = .returned (.int .u64 V) ∧ Below W.heap.size W W' := by
  go_enter Try.func7, Try.ntmps7
  go_wp2_with fail
  refine (unhide HC _).mono ?_
  rintro _ w1 ⟨rfl, hb⟩
  have HB := hide (bthen (below1 _ _) hb)
  clear hb
  go_wp2_with fail
  go_ret
  exact ⟨rfl, unhide HB⟩
set_option maxRecDepth 100000 in
set_option maxHeartbeats 1000000 in
theorem refNarrow_nan {w K X S V : Int} {n : Bool} (W : World) (k0 : (K == 0) = false) (k1 : (K == 1) = false) (k2 : (K == 2) = false) (k3 : (K == 3) = true) (HC : Hid (∀ W, Calls Try.prog 17 #[.int .i64 w] W fun r W' => r = .returned (.int .u64 V) ∧ Below W.heap.size W W')) :
    Calls Try.prog 7 #[.int .i64 w, .agg #[.bool n, .int .i64 K, .int .i64 X, .int .u64 S]] W fun r W' => r = .returned (.int .u64 V) ∧ Below W.heap.size W W' := by
  go_enter Try.func7, Try.ntmps7
  go_wp2_with fail
  refine (unhide HC _).mono ?_
  rintro _ w1 ⟨rfl, hb⟩
  have HB := hide (bthen (below1 _ _) hb)
  clear hb
  go_wp2_with fail
  go_ret
  exact ⟨rfl, unhide HB⟩
set_option maxRecDepth 100000 in
set_option maxHeartbeats 1000000 in
theorem refNarrow_oth {w K X S : Int} {n : Bool} (W : World) (k0 : (K == 0) = false) (k1 : (K == 1) = false) (k2 : (K == 2) = false) (k3 : (K == 3) = false) :
    Calls Try.prog 7 #[.int .i64 w, .agg #[.bool n, .int .i64 K, .int .i64 X, .int .u64 S]] W fun r W' => r = .returned (.int .u64 0) ∧ Below W.heap.size W W' := by
  go_enter Try.func7, Try.ntmps7
  go_wp2_with fail
  go_ret
  exact ⟨rfl, below1 _ _⟩
theorem refPack_in {w e f P Q b : Int} (kd : Kd w e f P Q b) (n : Bool) (v : Nat) (X : Int) (hv : W2 v) (h1 : ¬ X < -10000) (h2 : ¬ 10000 < X) (W : World) :
    Calls Try.prog 15 #[.int .i64 w, .bool n, .int .u64 (hi v), .int .u64 (lo v), .int .i64 X, .bool false] W fun r W' => r = .returned (.int .u64 (fl f P Q n (lid P Q (code f.toNat (lowN f b) (num v false (cap X)) : Nat)))) ∧ Below W.heap.size W W' := by
  rw [← exact_pack kd n false v X hv]
  have h140 := two_pw hv false
  have hE := fun (a : Option Addr) (na ca : Nat) (W : World) hx => exact_any (k := capR X) (n := n) kd (2 * v + Bool.toNat false) h140 a na ca W hx
  rw [show 2 * v + Bool.toNat false = v * 2 ^ 1 by simp; omega] at hE ⊢
  have : capR X = X - 1 := by unfold capR; rw [if_neg h1, if_neg h2]
  rw [this] at hE ⊢
  exact refPack_mf v W hv h1 h2 (i64_id (by omega) (by omega)) (hide hE)
theorem refNarrow_in {w e f P Q b : Int} (k : Kd w e f P Q b) (n : Bool) (K X S : Int) (s0 : 0 ≤ S) (s1 : S < 18446744073709551616) (h1 : ¬ X < -10000) (h2 : ¬ 10000 < X) (W : World) :
    Calls Try.prog 7 #[.int .i64 w, .agg #[.bool n, .int .i64 K, .int .i64 X, .int .u64 S]] W fun r W' => r = .returned (.int .u64 (narrowN f P Q b n K X S)) ∧ Below W.heap.size W W' := by
  obtain ⟨p1, p2, q1, q2⟩ := k.pos
  unfold narrowN
  by_cases k0 : K = 0
  · rw [if_pos k0]
    exact refNarrow_zero W (eq_t k0) (hide (fun W => make_any n 0 0 k W (by omega) (by omega) (by omega) (by omega)))
  · rw [if_neg k0]
    by_cases k1 : K = 1
    · rw [if_pos k1]
      obtain ⟨e1, e2⟩ := words_of S s0 s1
      have h := fun W => refPack_in k n S.toNat X (small_w2 s0 s1) h1 h2 W
      rw [e1, e2] at h
      exact refNarrow_fin W (eq_f k0) (eq_t k1) (hide h)
    · rw [if_neg k1]
      by_cases k2 : K = 2
      · rw [if_pos k2]
        exact refNarrow_inf W (eq_f k0) (eq_f k1) (eq_t k2) (hide (fun W => refInf_any n k W))
      · rw [if_neg k2]
        by_cases k3 : K = 3
        · rw [if_pos k3]
          exact refNarrow_nan W (eq_f k0) (eq_f k1) (eq_f k2) (eq_t k3) (hide (fun W => refNan_any k W))
        · rw [if_neg k3]
          exact refNarrow_oth W (eq_f k0) (eq_f k1) (eq_f k2) (eq_f k3)
end Go.Proofs.Ytahdcbjfabccpaa
