/- NearX, ExactX, ProdB, NearTA, NearTB, NearTC, QuoA. -/
import Derived.Test.YtcgnlpamfhdiiaaG01
import Derived.Test.YtcgnlpamfhdiiaaG06
import Derived.Test.YtcgnlpamfhdiiaaG09
import Derived.Test.YtcgnlpamfhdiiaaG10
import Derived.Test.YtcgnlpamfhdiiaaG13
import Derived.Test.YtcgnlpamfhdiiaaG14
namespace Go.Proofs.Ytcgnlpamfhdiiaa
open Go.RowKit
open Go.Proofs.Ytcgnlpamfhdiiaa.W

theorem pw_of_len {x i : Nat} (h : Go.bitLen x ≤ 32 * i) : x < pw i := by rw [pw_two]; exact bl_lt h
end Go.Proofs.Ytcgnlpamfhdiiaa
namespace Go.Proofs.Ytcgnlpamfhdiiaa
open Go.RowKit
open Go.Proofs.Ytcgnlpamfhdiiaa.W

/-- What the document's Exact is of x times 2^k. -/
def exactN (f P Q b : Int) (n : Bool) (x : Nat) (k : Int) : Int :=
  if x = 0 ∨ k < -4000 then put f P Q n 0 0 else if 4000 < k then put f P Q n (Q - 1) 0 else fl f P Q n (lid P Q (code f.toNat (lowN f b) (x * 2 ^ (k + 5000).toNat) : Nat))

theorem code_tiny {f L X : Nat} (h : Go.bitLen X < L) : code f L X = 0 := by
  have hu : unitOf f L X = L := by unfold unitOf; omega
  have hX : X < 2 ^ (L - 1) := bl_lt (by omega)
  have hp : 2 ^ L = 2 * 2 ^ (L - 1) := by
    have := pow_split2 L 1 (L - 1) (by omega)
    omega
  unfold code
  rw [hu, Nat.sub_self, Nat.zero_mul, Nat.zero_add]
  unfold near
  rw [Nat.mod_eq_of_lt (by omega), Nat.div_eq_of_lt (by omega), if_neg (by omega)]
theorem code_huge {f L X c : Nat} (h : L + f + 1 + c ≤ Go.bitLen X) : c * 2 ^ f ≤ code f L X := by
  unfold code
  have hu : c ≤ unitOf f L X - L := by unfold unitOf; omega
  exact Nat.le_trans (Nat.mul_le_mul_right _ hu) (Nat.le_add_right _ _)

theorem zero_code {w e f P Q b : Int} (kd : Kd w e f P Q b) (n : Bool) {X : Nat} (h : code f.toNat (lowN f b) X = 0) : fl f P Q n (lid P Q (code f.toNat (lowN f b) X : Nat)) = put f P Q n 0 0 := by
  rw [h]
  unfold lid
  rw [if_neg (by rcases kd with ⟨-, -, -, rfl, rfl, -⟩ | ⟨-, -, -, rfl, rfl, -⟩ <;> omega)]
  exact fl_eq n (by simp) (by simp)
theorem inf_code {w e f P Q b : Int} (kd : Kd w e f P Q b) (n : Bool) {X : Nat} (h : lowN f b + f.toNat + 1 + 2048 ≤ Go.bitLen X) : fl f P Q n (lid P Q (code f.toNat (lowN f b) X : Nat)) = put f P Q n (Q - 1) 0 := by
  have hc := code_huge h
  have hP := kd.pow.1
  have hc' : 2048 * P ≤ ((code f.toNat (lowN f b) X : Nat) : Int) := by rw [hP]; omega
  generalize ((code f.toNat (lowN f b) X : Nat) : Int) = cc at *
  clear hc hP h
  rcases kd with ⟨rfl, rfl, rfl, rfl, rfl, rfl⟩ | ⟨rfl, rfl, rfl, rfl, rfl, rfl⟩
  · unfold lid
    rw [if_pos (by omega)]
    exact fl_eq n (by rfl) (by rfl)
  · unfold lid
    rw [if_pos (by omega)]
    exact fl_eq n (by rfl) (by rfl)

end Go.Proofs.Ytcgnlpamfhdiiaa
namespace Go.Proofs.Ytcgnlpamfhdiiaa
open Go.RowKit
open Go.Proofs.Ytcgnlpamfhdiiaa.W

/-- How many bits up a number lies. -/
def Z5 : Nat := 5000
/-- The bits of a power of two. -/
theorem pow_open {w e f P Q b j : Int} (k : Kd w e f P Q b) (j0 : 0 ≤ j) (j1 : j ≤ 1) :
    0 ≤ put f P Q false (b + j) 0 ∧ put f P Q false (b + j) 0 < 18446744073709551616 ∧ oK P Q (put f P Q false (b + j) 0) = 1 ∧ oN P Q (put f P Q false (b + j) 0) = false ∧ oM f P Q b (put f P Q false (b + j) 0) = 2 ^ (Z5 + j.toNat) := by
  obtain ⟨p1, p2, q1, q2⟩ := k.pos
  have hb : 0 < b ∧ b + 1 < Q - 1 := by rcases k with ⟨-, -, -, -, rfl, rfl⟩ | ⟨-, -, -, -, rfl, rfl⟩ <;> omega
  obtain ⟨hP, f0, f1, l0, l1, b0, b1⟩ := k.pow
  obtain ⟨r0, r1, r2, r3, r4⟩ := put_in (x := b + j) (y := 0) (n := false) k (by omega) (by omega) (by omega) (by omega)
  refine ⟨r0, r1, ?_, ?_, ?_⟩
  · unfold oK
    rw [r3, r4, if_neg (by omega), if_neg (by omega)]
  · unfold oN
    rw [r3, r4, if_neg (by omega), r2]
  · unfold oM oc
    rw [r3, r4, if_neg (by omega)]
    have hv := fval_norm f.toNat (lowN f b) (2 ^ f.toNat) (lowN f b + ((b + j).toNat - 1)) (by rw [Nat.pow_succ]; have := Nat.two_pow_pos f.toNat; omega) (by omega) (fun _ => Nat.le_refl _)
    rw [← Nat.pow_add] at hv
    have e1 : ((b + j) * P + 0).toNat = (lowN f b + ((b + j).toNat - 1) - lowN f b) * 2 ^ f.toNat + 2 ^ f.toNat := by
      rw [show lowN f b + ((b + j).toNat - 1) - lowN f b = (b + j).toNat - 1 by omega]
      have : (((b + j).toNat * 2 ^ f.toNat : Nat) : Int) = (b + j) * P := by
        rw [Int.natCast_mul, ← hP, Int.toNat_of_nonneg (by omega)]
      obtain ⟨i, hi⟩ : ∃ i, (b + j).toNat = i + 1 := ⟨(b + j).toNat - 1, by omega⟩
      rw [hi] at this ⊢
      rw [Nat.add_sub_cancel]
      rw [Nat.add_mul, Nat.one_mul] at this
      omega
    rw [e1, hv]
    congr 1
    unfold lowN Z5
    omega

/-- A float of the other sign, by its bits. -/
theorem xor_put {w e f P Q b x y : Int} (k : Kd w e f P Q b) (n : Bool) (x0 : 0 ≤ x) (x1 : x < Q) (y0 : 0 ≤ y) (y1 : y < P) :
    bits .xor .u64 (put f P Q n x y) (put f P Q true 0 0) = put f P Q (!n) x y := by
  obtain ⟨r0, r1, r2, r3, r4⟩ := put_in (n := n) k x0 x1 y0 y1
  obtain ⟨x', hx', u0, u1, u2, u3, u4⟩ := other_sign k r0 r1
  have hf := k.f0
  have hlt : put f P Q n x y < 2 * (P * Q) → x' < 2 * (P * Q) := by
    intro h
    rcases k with ⟨-, -, -, rfl, rfl, -⟩ | ⟨-, -, -, rfl, rfl, -⟩
    · obtain ⟨m, hm⟩ := Int.eq_ofNat_of_zero_le r0
      rw [hm] at h hx'
      rw [put_yes hf, show (0 : Int) * 8388608 + 0 + 8388608 * 256 = ((2147483648 : Nat) : Int) from rfl, u64_xor_nat m 2147483648 (by omega) (by omega)] at hx'
      have hb : m ^^^ 2147483648 < 2 ^ 32 := Nat.xor_lt_two_pow (by omega) (by decide)
      generalize m ^^^ 2147483648 = t at *
      omega
    · omega
  rw [hx', r3] at *
  rw [r4] at u3
  rw [r2] at u4
  have hv : put f P Q n x y < 2 * (P * Q) := by
    cases n
    · rw [put_no k.f0]
      rcases k with ⟨-, -, -, rfl, rfl, -⟩ | ⟨-, -, -, rfl, rfl, -⟩ <;> omega
    · rw [put_yes k.f0]
      rcases k with ⟨-, -, -, rfl, rfl, -⟩ | ⟨-, -, -, rfl, rfl, -⟩ <;> omega
  have hx := hlt hv
  clear hlt hv hx' r0 r1 r2 r3 r4
  unfold sg at u4
  cases n
  · rw [Bool.not_false, put_yes k.f0]
    simp only [Bool.not_false, beq_iff_eq] at u4
    rcases k with ⟨-, -, -, rfl, rfl, -⟩ | ⟨-, -, -, rfl, rfl, -⟩ <;> omega
  · rw [Bool.not_true, put_no k.f0]
    simp only [Bool.not_true, beq_eq_false_iff_ne] at u4
    rcases k with ⟨-, -, -, rfl, rfl, -⟩ | ⟨-, -, -, rfl, rfl, -⟩ <;> omega
theorem xor_fl {w e f P Q b c : Int} (k : Kd w e f P Q b) (n : Bool) (c0 : 0 ≤ c) (c1 : c ≤ top P Q) : bits .xor .u64 (fl f P Q n c) (put f P Q true 0 0) = fl f P Q (!n) c := by
  obtain ⟨a0, a1, d0, d1, -⟩ := code_parts k c0 c1
  exact xor_put k n a0 a1 d0 d1
/-- Of the other sign: kind and number are the same. -/
theorem other_parts {f P Q b x x' : Int} (h : oK P Q x ≠ 3) (h1 : x' / P % Q = x / P % Q) (h2 : x' % P = x % P) (h3 : sg P Q x' = !sg P Q x) : oK P Q x' = oK P Q x ∧ oM f P Q b x' = oM f P Q b x ∧ oN P Q x' = !oN P Q x := by
  refine ⟨by unfold oK; rw [h1, h2], by unfold oM oc; rw [h1, h2], ?_⟩
  unfold oN
  rw [h1, h2, h3]
  unfold oK at h
  by_cases g1 : x / P % Q = Q - 1
  · rw [if_pos g1] at h
    by_cases g2 : x % P = 0
    · rw [if_neg (fun h' => h'.2 g2), if_neg (fun h' => h'.2 g2)]
    · rw [if_neg g2] at h
      exact absurd rfl h
  · rw [if_neg (fun h' => g1 h'.1), if_neg (fun h' => g1 h'.1)]

end Go.Proofs.Ytcgnlpamfhdiiaa
namespace Go.Proofs.Ytcgnlpamfhdiiaa
open Go.RowKit
open Go.Proofs.Ytcgnlpamfhdiiaa.W

set_option maxRecDepth 100000 in
set_option maxHeartbeats 2000000 in
theorem nearT_si {w f L Tp P k LA LB TF q : Int} {n : Bool} (a b : Option Addr) (na ca nb cb x y G : Nat) (w0 : World) (hx : IsNat w0 (.slice a na ca) x) (hy : IsNat w0 (.slice b nb cb) y)
    (HF : Hid (∀ W, Calls Try.prog 37 #[.int .i64 w] W fun r W' => r = .returned (.int .i64 f) ∧ Below W.heap.size W W')) (HL : Hid (∀ W, Calls Try.prog 51 #[.int .i64 w] W fun r W' => r = .returned (.int .i64 L) ∧ Below W.heap.size W W')) (HT : Hid (∀ W, Calls Try.prog 49 #[.int .i64 w] W fun r W' => r = .returned (.int .i64 Tp) ∧ Below W.heap.size W W')) (_ : Hid (∀ W, Calls Try.prog 36 #[.int .i64 f] W fun r W' => r = .returned (.int .u64 P) ∧ Below W.heap.size W W'))
    (hla : (Go.bitLen x : Int) = LA) (hlb : (Go.bitLen y : Int) = LB) 
    (r1 : LA ≤ 20000) (r2 : LB ≤ 20000) (r3 : -20000 ≤ k ∧ k ≤ 20000) (r4 : 0 ≤ f ∧ f ≤ 63) (r5 : -20000 ≤ L ∧ L ≤ 20000) (r6 : -20000 ≤ Tp ∧ Tp ≤ 20000)
    (htf : LA - LB + k - f = TF) (xm : L < TF) (k6 : IntKind.i64.wrap (TF - 1) = q) (rq1 : -200001 ≤ q ∧ q ≤ 200000)
    (HU : Hid (∀ W, IsNat W (.slice a na ca) x → IsNat W (.slice b nb cb) y → Calls Try.prog 52 #[.agg #[.slice a na ca], .agg #[.slice b nb cb], .int .i64 (k - TF - f)] W fun r W' => r = .returned (.bool true) ∧ Below W.heap.size W W'))
    (HG : Hid (∀ W, IsNat W (.slice a na ca) x → IsNat W (.slice b nb cb) y → Calls Try.prog 53 #[.agg #[.slice a na ca], .agg #[.slice b nb cb], .int .i64 (k - q)] W fun r W' => ∃ s', r = .returned (.agg #[s']) ∧ IsNat W' s' G ∧ Below W.heap.size W W'))
    {LG VI : Int} (hlg' : (Go.bitLen G : Int) = LG) (d : ¬ f + 1 < LG) (z : decide (L + Tp - 2 < q) = true) (HI : Hid (∀ W, Calls Try.prog 24 #[.int .i64 w, .bool n] W fun r W' => r = .returned (.int .u64 VI) ∧ Below W.heap.size W W')) :
    Calls Try.prog 25 #[.int .i64 w, .bool n, .agg #[.slice a na ca], .agg #[.slice b nb cb], .int .i64 k] w0 fun r W' => r = .returned (.int .u64 VI) ∧ Below w0.heap.size w0 W' := by
  have k1 : IntKind.i64.wrap (LA - LB) = LA - LB := i64_id (by omega) (by omega)
  have k2 : IntKind.i64.wrap (LA - LB + k) = LA - LB + k := i64_id (by omega) (by omega)
  have k3 : IntKind.i64.wrap (LA - LB + k - f) = TF := by rw [← htf]; exact i64_id (by omega) (by omega)
  have xn : ¬ TF < L := by omega
  have xd := dt xm
  have k4 : IntKind.i64.wrap (k - TF) = k - TF := i64_id (by omega) (by omega)
  have k5 : IntKind.i64.wrap (k - TF - f) = k - TF - f := i64_id (by omega) (by omega)
  have k7 : IntKind.i64.wrap (k - q) = k - q := i64_id (by omega) (by omega)
  have k8 : IntKind.i64.wrap (f + 1) = f + 1 := i64_id (by omega) (by omega)
  have k9 : IntKind.i64.wrap (q + 1) = q + 1 := i64_id (by omega) (by omega)
  have k10 : IntKind.i64.wrap (L + Tp) = L + Tp := i64_id (by omega) (by omega)
  have k11 : IntKind.i64.wrap (L + Tp - 2) = L + Tp - 2 := i64_id (by omega) (by omega)
  have HLA := hide hla; have HLB := hide hlb
  clear hla hlb r1 r2 r3 r4 r5 r6 rq1 htf
  have HLG := hide hlg'
  clear hlg'
  
  have HX := hide hx; have HY := hide hy
  clear hx hy
  go_enter Try.func25, Try.ntmps25
  go_wp2_with fail
  have HK : Hid (TwoSt w0.heap.size w0 (.slice a na ca) (.slice b nb cb) x y ((w0.alloc (.cells #[.slice a na ca] 50)).alloc (.cells #[.slice b nb cb] 50))) :=
    { ca := by simp [go_sem], cb := by simp [go_sem], na := (unhide HX).below (below2 _ _ _), nb := (unhide HY).below (below2 _ _ _), bel := below2 _ _ _ }
  clear HX HY
  refine (unhide HF _).mono ?_
  rintro _ w1 ⟨rfl, hbl⟩
  have HK := hide ((unhide HK).below hbl)
  clear hbl
  
  go_wp2_with fail
  have HK := hide ((unhide HK).below ((Below.refl _ _).drew))
  refine wp_region_held_drew (S := fun w' => w'.cell? ⟨w0.heap.size, 0, none⟩ = some (.slice a na ca) ∧ w'.cell? ⟨w0.heap.size + 1, 0, none⟩ = some (.slice b nb cb)) (by kernel_rfl) ?_ (fun hHeld => ?_)
  · (try dsimp only)
    exact ⟨(unhide HK).ca, (unhide HK).cb⟩
  refine anyH_at #[false, false, false, false, false, false, false, false] (by kernel_rfl) ?_
  refine wpAnyH_take (i := 0) (oi := { dst := some 18, op := _, type := _, pos := _, after := _, guard := _ }) (v := ?vv0r2) rfl (by kernel_rfl) (by kernel_rfl) (by kernel_rfl) (fun _ _ _ h => h) (Or.inl ⟨by rfl, ?hy0r2⟩) (by assumption) ?rest0r2
  case hy0r2 => ((intro w hSw; (try dsimp only at hSw); go_simp) <;> with_reducible rfl)
  case rest0r2 =>
    (try simp only [Act.put, List.setIfInBounds_toArray, List.set_cons_zero, List.set_cons_succ])
    refine anyH_at #[true, false, false, false, false, false, false, false] (by kernel_rfl) ?_
    refine wpAnyH_take (i := 2) (oi := { dst := some 20, op := _, type := _, pos := _, after := _, guard := _ }) (v := ?vv2r2) rfl (by kernel_rfl) (by kernel_rfl) (by kernel_rfl) (fun _ _ _ h => h) (Or.inl ⟨by rfl, ?hy2r2⟩) (by assumption) ?rest2r2
    case hy2r2 => ((intro w hSw; (try dsimp only at hSw); go_simp) <;> with_reducible rfl)
    case rest2r2 =>
      (try simp only [Act.put, List.setIfInBounds_toArray, List.set_cons_zero, List.set_cons_succ])
      refine anyH_at #[true, false, true, false, false, false, false, false] (by kernel_rfl) ?_
      refine wpAnyH_take (i := 5) (oi := { dst := some 23, op := _, type := _, pos := _, after := _, guard := _ }) (v := ?vv5r2) rfl (by kernel_rfl) (by kernel_rfl) (by kernel_rfl) (fun _ _ _ h => h) (Or.inl ⟨by rfl, ?hy5r2⟩) (by assumption) ?rest5r2
      case hy5r2 => ((intro w hSw; (try dsimp only at hSw); go_simp) <;> with_reducible rfl)
      case rest5r2 =>
        (try simp only [Act.put, List.setIfInBounds_toArray, List.set_cons_zero, List.set_cons_succ])
        refine anyH_at #[true, false, true, false, false, true, false, false] (by kernel_rfl) ?_
        refine wpAnyH_ready (rs := [1]) (by kernel_rfl) (by simp) ?_
        refine AllReadyH.cons (o := { dst := some 19, op := _, type := _, pos := _, after := _, guard := _ }) rfl (fun Kk hKk => ?_) AllReadyH.nil
        go_simp
        refine (refLen_any _ _ _ _ _ (unhide HK).na).mono ?_
        rw [unhide HLA]
        rintro _ w2 ⟨rfl, hbl⟩
        have HK := hide ((unhide HK).below hbl)
        clear hbl
        (try go_wp2_with fail)
        refine hKk.out _ _ ?_ (fun hHeld => ?_)
        · (try dsimp only)
          exact ⟨(unhide HK).ca, (unhide HK).cb⟩
        clear hKk Kk
        (try simp only [List.setIfInBounds_toArray, List.set_cons_zero, List.set_cons_succ])
        refine anyH_at #[true, true, true, false, false, true, false, false] (by kernel_rfl) ?_
        refine wpAnyH_ready (rs := [3]) (by kernel_rfl) (by simp) ?_
        refine AllReadyH.cons (o := { dst := some 21, op := _, type := _, pos := _, after := _, guard := _ }) rfl (fun Kk hKk => ?_) AllReadyH.nil
        go_simp
        refine (refLen_any _ _ _ _ _ (unhide HK).nb).mono ?_
        rw [unhide HLB]
        rintro _ w3 ⟨rfl, hbl⟩
        have HK := hide ((unhide HK).below hbl)
        clear hbl
        (try go_wp2_with fail)
        refine hKk.out _ _ ?_ (fun hHeld => ?_)
        · (try dsimp only)
          exact ⟨(unhide HK).ca, (unhide HK).cb⟩
        clear hKk Kk
        (try simp only [List.setIfInBounds_toArray, List.set_cons_zero, List.set_cons_succ])
        refine anyH_at #[true, true, true, true, false, true, false, false] (by kernel_rfl) ?_
        refine wpAnyH_take (i := 4) (oi := { dst := some 22, op := _, type := _, pos := _, after := _, guard := _ }) (v := ?vv4r2) rfl (by kernel_rfl) (by kernel_rfl) (by kernel_rfl) (fun _ _ _ h => h) (Or.inl ⟨by rfl, ?hy4r2⟩) (by assumption) ?rest4r2
        case hy4r2 => ((intro w hSw; (try dsimp only at hSw); go_simp) <;> with_reducible rfl)
        case rest4r2 =>
          (try simp only [Act.put, List.setIfInBounds_toArray, List.set_cons_zero, List.set_cons_succ])
          refine anyH_at #[true, true, true, true, true, true, false, false] (by kernel_rfl) ?_
          refine wpAnyH_take (i := 6) (oi := { dst := some 24, op := _, type := _, pos := _, after := _, guard := _ }) (v := ?vv6r2) rfl (by kernel_rfl) (by kernel_rfl) (by kernel_rfl) (fun _ _ _ h => h) (Or.inl ⟨by rfl, ?hy6r2⟩) (by assumption) ?rest6r2
          case hy6r2 => ((intro w hSw; (try dsimp only at hSw); go_simp) <;> with_reducible rfl)
          case rest6r2 =>
            (try simp only [Act.put, List.setIfInBounds_toArray, List.set_cons_zero, List.set_cons_succ])
            refine anyH_at #[true, true, true, true, true, true, true, false] (by kernel_rfl) ?_
            refine wpAnyH_take (i := 7) (oi := { dst := some 12, op := _, type := _, pos := _, after := _, guard := _ }) (v := ?vv7r2) rfl (by kernel_rfl) (by kernel_rfl) (by kernel_rfl) (fun _ _ _ h => h) (Or.inl ⟨by rfl, ?hy7r2⟩) (by assumption) ?rest7r2
            case hy7r2 => ((intro w hSw; (try dsimp only at hSw); go_simp) <;> with_reducible rfl)
            case rest7r2 =>
              (try simp only [Act.put, List.setIfInBounds_toArray, List.set_cons_zero, List.set_cons_succ])
              refine anyH_at #[true, true, true, true, true, true, true, true] (by kernel_rfl) ?_
              refine wpAnyH_done (by kernel_rfl) ?_ _
              clear hHeld
              go_wp2_with fail
              refine (unhide HL _).mono ?_
              rintro _ w4 ⟨rfl, hbl⟩
              have HK := hide ((unhide HK).below hbl)
              clear hbl
              go_wp2_with fail
              refine (unhide HL _).mono ?_
              rintro _ w5 ⟨rfl, hbl⟩
              have HK := hide ((unhide HK).below hbl)
              clear hbl
              have ca' := (unhide HK).ca; have cb' := (unhide HK).cb
              go_wp2_with fail
              clear ca' cb'
              refine (unhide HU _ (unhide HK).na (unhide HK).nb).mono ?_
              rintro _ w6 ⟨rfl, hbl⟩
              have HK := hide ((unhide HK).below hbl)
              clear hbl
              have ca' := (unhide HK).ca; have cb' := (unhide HK).cb
              go_wp2_with fail
              clear ca' cb'
              refine (unhide HG _ (unhide HK).na (unhide HK).nb).mono ?_
              rintro _ w7 ⟨s7, rfl, hN7, hbl⟩
              obtain ⟨a7, n7, c7, rfl⟩ := hN7.slice
              have HK := hide ((unhide HK).below hbl)
              clear hbl
              have HN : Hid ((w7.alloc (.cells #[.slice a7 n7 c7] 50)).cell? ⟨w7.heap.size, 0, none⟩ = some (.slice a7 n7 c7) ∧ (w7.alloc (.cells #[.slice a7 n7 c7] 50)).frozen? ⟨w7.heap.size, 0, none⟩ = false ∧ IsNat (w7.alloc (.cells #[.slice a7 n7 c7] 50)) (.slice a7 n7 c7) G) := ⟨by simp [go_sem], by simp [go_sem], hN7.below (below1 _ _)⟩
              have HB := hide (balloc (unhide HK).bel (.cells #[.slice a7 n7 c7] 50))
              have hz7 : w0.heap.size ≤ w7.heap.size := (unhide HK).bel.size
              clear hN7 HK
              go_wp2_with fail
              refine (refLen_any _ _ _ _ _ (unhide HN).2.2).mono ?_
              rw [unhide HLG]
              rintro _ w8 ⟨rfl, hbl⟩
              have HN := hide (And.intro (keep1 hbl (lt_of_cell (unhide HN).1) (unhide HN).1) (And.intro ((hbl.frozen (lt_of_cell (unhide HN).1)).trans (unhide HN).2.1) ((unhide HN).2.2.below hbl)))
              have HB := hide (bthen (unhide HB) hbl)
              clear hbl
              go_wp2_with fail
              refine (unhide HL _).mono ?_
              rintro _ w10 ⟨rfl, hbl⟩
              have HN := hide (And.intro (keep1 hbl (lt_of_cell (unhide HN).1) (unhide HN).1) (And.intro ((hbl.frozen (lt_of_cell (unhide HN).1)).trans (unhide HN).2.1) ((unhide HN).2.2.below hbl)))
              have HB := hide (bthen (unhide HB) hbl)
              clear hbl
              go_wp2_with fail
              refine (unhide HT _).mono ?_
              rintro _ w11 ⟨rfl, hbl⟩
              have HN := hide (And.intro (keep1 hbl (lt_of_cell (unhide HN).1) (unhide HN).1) (And.intro ((hbl.frozen (lt_of_cell (unhide HN).1)).trans (unhide HN).2.1) ((unhide HN).2.2.below hbl)))
              have HB := hide (bthen (unhide HB) hbl)
              clear hbl
              go_wp2_with fail
              refine (unhide HI _).mono ?_
              rintro _ w12 ⟨rfl, hbl⟩
              have HB := hide (bthen (unhide HB) hbl)
              go_wp2_with fail
              go_ret
              exact ⟨rfl, unhide HB⟩

set_option maxRecDepth 100000 in
set_option maxHeartbeats 2000000 in
theorem nearT_ss {w f L Tp P k LA LB TF q : Int} {n : Bool} (a b : Option Addr) (na ca nb cb x y G : Nat) (w0 : World) (hx : IsNat w0 (.slice a na ca) x) (hy : IsNat w0 (.slice b nb cb) y)
    (HF : Hid (∀ W, Calls Try.prog 37 #[.int .i64 w] W fun r W' => r = .returned (.int .i64 f) ∧ Below W.heap.size W W')) (HL : Hid (∀ W, Calls Try.prog 51 #[.int .i64 w] W fun r W' => r = .returned (.int .i64 L) ∧ Below W.heap.size W W')) (HT : Hid (∀ W, Calls Try.prog 49 #[.int .i64 w] W fun r W' => r = .returned (.int .i64 Tp) ∧ Below W.heap.size W W')) (H2 : Hid (∀ W, Calls Try.prog 36 #[.int .i64 f] W fun r W' => r = .returned (.int .u64 P) ∧ Below W.heap.size W W'))
    (hla : (Go.bitLen x : Int) = LA) (hlb : (Go.bitLen y : Int) = LB) 
    (r1 : LA ≤ 20000) (r2 : LB ≤ 20000) (r3 : -20000 ≤ k ∧ k ≤ 20000) (r4 : 0 ≤ f ∧ f ≤ 63) (r5 : -20000 ≤ L ∧ L ≤ 20000) (r6 : -20000 ≤ Tp ∧ Tp ≤ 20000)
    (htf : LA - LB + k - f = TF) (xm : L < TF) (k6 : IntKind.i64.wrap (TF - 1) = q) (rq1 : -200001 ≤ q ∧ q ≤ 200000)
    (HU : Hid (∀ W, IsNat W (.slice a na ca) x → IsNat W (.slice b nb cb) y → Calls Try.prog 52 #[.agg #[.slice a na ca], .agg #[.slice b nb cb], .int .i64 (k - TF - f)] W fun r W' => r = .returned (.bool true) ∧ Below W.heap.size W W'))
    (HG : Hid (∀ W, IsNat W (.slice a na ca) x → IsNat W (.slice b nb cb) y → Calls Try.prog 53 #[.agg #[.slice a na ca], .agg #[.slice b nb cb], .int .i64 (k - q)] W fun r W' => ∃ s', r = .returned (.agg #[s']) ∧ IsNat W' s' G ∧ Below W.heap.size W W'))
    {LG S V : Int} (hlg' : (Go.bitLen G : Int) = LG) (d : ¬ f + 1 < LG) (z : decide (L + Tp - 2 < q) = false) (hs : lo G = S) (t : decide (S < P) = true) (HM : Hid (∀ W, Calls Try.prog 18 #[.int .i64 w, .bool n, .int .i64 0, .int .u64 S] W fun r W' => r = .returned (.int .u64 V) ∧ Below W.heap.size W W')) :
    Calls Try.prog 25 #[.int .i64 w, .bool n, .agg #[.slice a na ca], .agg #[.slice b nb cb], .int .i64 k] w0 fun r W' => r = .returned (.int .u64 V) ∧ Below w0.heap.size w0 W' := by
  have k1 : IntKind.i64.wrap (LA - LB) = LA - LB := i64_id (by omega) (by omega)
  have k2 : IntKind.i64.wrap (LA - LB + k) = LA - LB + k := i64_id (by omega) (by omega)
  have k3 : IntKind.i64.wrap (LA - LB + k - f) = TF := by rw [← htf]; exact i64_id (by omega) (by omega)
  have xn : ¬ TF < L := by omega
  have xd := dt xm
  have k4 : IntKind.i64.wrap (k - TF) = k - TF := i64_id (by omega) (by omega)
  have k5 : IntKind.i64.wrap (k - TF - f) = k - TF - f := i64_id (by omega) (by omega)
  have k7 : IntKind.i64.wrap (k - q) = k - q := i64_id (by omega) (by omega)
  have k8 : IntKind.i64.wrap (f + 1) = f + 1 := i64_id (by omega) (by omega)
  have k9 : IntKind.i64.wrap (q + 1) = q + 1 := i64_id (by omega) (by omega)
  have k10 : IntKind.i64.wrap (L + Tp) = L + Tp := i64_id (by omega) (by omega)
  have k11 : IntKind.i64.wrap (L + Tp - 2) = L + Tp - 2 := i64_id (by omega) (by omega)
  have HLA := hide hla; have HLB := hide hlb
  clear hla hlb r1 r2 r3 r4 r5 r6 rq1 htf
  have HLG := hide hlg'
  clear hlg'
  have HS := hide hs
  clear hs
  
  have HX := hide hx; have HY := hide hy
  clear hx hy
  go_enter Try.func25, Try.ntmps25
  go_wp2_with fail
  have HK : Hid (TwoSt w0.heap.size w0 (.slice a na ca) (.slice b nb cb) x y ((w0.alloc (.cells #[.slice a na ca] 50)).alloc (.cells #[.slice b nb cb] 50))) :=
    { ca := by simp [go_sem], cb := by simp [go_sem], na := (unhide HX).below (below2 _ _ _), nb := (unhide HY).below (below2 _ _ _), bel := below2 _ _ _ }
  clear HX HY
  refine (unhide HF _).mono ?_
  rintro _ w1 ⟨rfl, hbl⟩
  have HK := hide ((unhide HK).below hbl)
  clear hbl
  
  go_wp2_with fail
  have HK := hide ((unhide HK).below ((Below.refl _ _).drew))
  refine wp_region_held_drew (S := fun w' => w'.cell? ⟨w0.heap.size, 0, none⟩ = some (.slice a na ca) ∧ w'.cell? ⟨w0.heap.size + 1, 0, none⟩ = some (.slice b nb cb)) (by kernel_rfl) ?_ (fun hHeld => ?_)
  · (try dsimp only)
    exact ⟨(unhide HK).ca, (unhide HK).cb⟩
  refine anyH_at #[false, false, false, false, false, false, false, false] (by kernel_rfl) ?_
  refine wpAnyH_take (i := 0) (oi := { dst := some 18, op := _, type := _, pos := _, after := _, guard := _ }) (v := ?vv0r2) rfl (by kernel_rfl) (by kernel_rfl) (by kernel_rfl) (fun _ _ _ h => h) (Or.inl ⟨by rfl, ?hy0r2⟩) (by assumption) ?rest0r2
  case hy0r2 => ((intro w hSw; (try dsimp only at hSw); go_simp) <;> with_reducible rfl)
  case rest0r2 =>
    (try simp only [Act.put, List.setIfInBounds_toArray, List.set_cons_zero, List.set_cons_succ])
    refine anyH_at #[true, false, false, false, false, false, false, false] (by kernel_rfl) ?_
    refine wpAnyH_take (i := 2) (oi := { dst := some 20, op := _, type := _, pos := _, after := _, guard := _ }) (v := ?vv2r2) rfl (by kernel_rfl) (by kernel_rfl) (by kernel_rfl) (fun _ _ _ h => h) (Or.inl ⟨by rfl, ?hy2r2⟩) (by assumption) ?rest2r2
    case hy2r2 => ((intro w hSw; (try dsimp only at hSw); go_simp) <;> with_reducible rfl)
    case rest2r2 =>
      (try simp only [Act.put, List.setIfInBounds_toArray, List.set_cons_zero, List.set_cons_succ])
      refine anyH_at #[true, false, true, false, false, false, false, false] (by kernel_rfl) ?_
      refine wpAnyH_take (i := 5) (oi := { dst := some 23, op := _, type := _, pos := _, after := _, guard := _ }) (v := ?vv5r2) rfl (by kernel_rfl) (by kernel_rfl) (by kernel_rfl) (fun _ _ _ h => h) (Or.inl ⟨by rfl, ?hy5r2⟩) (by assumption) ?rest5r2
      case hy5r2 => ((intro w hSw; (try dsimp only at hSw); go_simp) <;> with_reducible rfl)
      case rest5r2 =>
        (try simp only [Act.put, List.setIfInBounds_toArray, List.set_cons_zero, List.set_cons_succ])
        refine anyH_at #[true, false, true, false, false, true, false, false] (by kernel_rfl) ?_
        refine wpAnyH_ready (rs := [1]) (by kernel_rfl) (by simp) ?_
        refine AllReadyH.cons (o := { dst := some 19, op := _, type := _, pos := _, after := _, guard := _ }) rfl (fun Kk hKk => ?_) AllReadyH.nil
        go_simp
        refine (refLen_any _ _ _ _ _ (unhide HK).na).mono ?_
        rw [unhide HLA]
        rintro _ w2 ⟨rfl, hbl⟩
        have HK := hide ((unhide HK).below hbl)
        clear hbl
        (try go_wp2_with fail)
        refine hKk.out _ _ ?_ (fun hHeld => ?_)
        · (try dsimp only)
          exact ⟨(unhide HK).ca, (unhide HK).cb⟩
        clear hKk Kk
        (try simp only [List.setIfInBounds_toArray, List.set_cons_zero, List.set_cons_succ])
        refine anyH_at #[true, true, true, false, false, true, false, false] (by kernel_rfl) ?_
        refine wpAnyH_ready (rs := [3]) (by kernel_rfl) (by simp) ?_
        refine AllReadyH.cons (o := { dst := some 21, op := _, type := _, pos := _, after := _, guard := _ }) rfl (fun Kk hKk => ?_) AllReadyH.nil
        go_simp
        refine (refLen_any _ _ _ _ _ (unhide HK).nb).mono ?_
        rw [unhide HLB]
        rintro _ w3 ⟨rfl, hbl⟩
        have HK := hide ((unhide HK).below hbl)
        clear hbl
        (try go_wp2_with fail)
        refine hKk.out _ _ ?_ (fun hHeld => ?_)
        · (try dsimp only)
          exact ⟨(unhide HK).ca, (unhide HK).cb⟩
        clear hKk Kk
        (try simp only [List.setIfInBounds_toArray, List.set_cons_zero, List.set_cons_succ])
        refine anyH_at #[true, true, true, true, false, true, false, false] (by kernel_rfl) ?_
        refine wpAnyH_take (i := 4) (oi := { dst := some 22, op := _, type := _, pos := _, after := _, guard := _ }) (v := ?vv4r2) rfl (by kernel_rfl) (by kernel_rfl) (by kernel_rfl) (fun _ _ _ h => h) (Or.inl ⟨by rfl, ?hy4r2⟩) (by assumption) ?rest4r2
        case hy4r2 => ((intro w hSw; (try dsimp only at hSw); go_simp) <;> with_reducible rfl)
        case rest4r2 =>
          (try simp only [Act.put, List.setIfInBounds_toArray, List.set_cons_zero, List.set_cons_succ])
          refine anyH_at #[true, true, true, true, true, true, false, false] (by kernel_rfl) ?_
          refine wpAnyH_take (i := 6) (oi := { dst := some 24, op := _, type := _, pos := _, after := _, guard := _ }) (v := ?vv6r2) rfl (by kernel_rfl) (by kernel_rfl) (by kernel_rfl) (fun _ _ _ h => h) (Or.inl ⟨by rfl, ?hy6r2⟩) (by assumption) ?rest6r2
          case hy6r2 => ((intro w hSw; (try dsimp only at hSw); go_simp) <;> with_reducible rfl)
          case rest6r2 =>
            (try simp only [Act.put, List.setIfInBounds_toArray, List.set_cons_zero, List.set_cons_succ])
            refine anyH_at #[true, true, true, true, true, true, true, false] (by kernel_rfl) ?_
            refine wpAnyH_take (i := 7) (oi := { dst := some 12, op := _, type := _, pos := _, after := _, guard := _ }) (v := ?vv7r2) rfl (by kernel_rfl) (by kernel_rfl) (by kernel_rfl) (fun _ _ _ h => h) (Or.inl ⟨by rfl, ?hy7r2⟩) (by assumption) ?rest7r2
            case hy7r2 => ((intro w hSw; (try dsimp only at hSw); go_simp) <;> with_reducible rfl)
            case rest7r2 =>
              (try simp only [Act.put, List.setIfInBounds_toArray, List.set_cons_zero, List.set_cons_succ])
              refine anyH_at #[true, true, true, true, true, true, true, true] (by kernel_rfl) ?_
              refine wpAnyH_done (by kernel_rfl) ?_ _
              clear hHeld
              go_wp2_with fail
              refine (unhide HL _).mono ?_
              rintro _ w4 ⟨rfl, hbl⟩
              have HK := hide ((unhide HK).below hbl)
              clear hbl
              go_wp2_with fail
              refine (unhide HL _).mono ?_
              rintro _ w5 ⟨rfl, hbl⟩
              have HK := hide ((unhide HK).below hbl)
              clear hbl
              have ca' := (unhide HK).ca; have cb' := (unhide HK).cb
              go_wp2_with fail
              clear ca' cb'
              refine (unhide HU _ (unhide HK).na (unhide HK).nb).mono ?_
              rintro _ w6 ⟨rfl, hbl⟩
              have HK := hide ((unhide HK).below hbl)
              clear hbl
              have ca' := (unhide HK).ca; have cb' := (unhide HK).cb
              go_wp2_with fail
              clear ca' cb'
              refine (unhide HG _ (unhide HK).na (unhide HK).nb).mono ?_
              rintro _ w7 ⟨s7, rfl, hN7, hbl⟩
              obtain ⟨a7, n7, c7, rfl⟩ := hN7.slice
              have HK := hide ((unhide HK).below hbl)
              clear hbl
              have HN : Hid ((w7.alloc (.cells #[.slice a7 n7 c7] 50)).cell? ⟨w7.heap.size, 0, none⟩ = some (.slice a7 n7 c7) ∧ (w7.alloc (.cells #[.slice a7 n7 c7] 50)).frozen? ⟨w7.heap.size, 0, none⟩ = false ∧ IsNat (w7.alloc (.cells #[.slice a7 n7 c7] 50)) (.slice a7 n7 c7) G) := ⟨by simp [go_sem], by simp [go_sem], hN7.below (below1 _ _)⟩
              have HB := hide (balloc (unhide HK).bel (.cells #[.slice a7 n7 c7] 50))
              have hz7 : w0.heap.size ≤ w7.heap.size := (unhide HK).bel.size
              clear hN7 HK
              go_wp2_with fail
              refine (refLen_any _ _ _ _ _ (unhide HN).2.2).mono ?_
              rw [unhide HLG]
              rintro _ w8 ⟨rfl, hbl⟩
              have HN := hide (And.intro (keep1 hbl (lt_of_cell (unhide HN).1) (unhide HN).1) (And.intro ((hbl.frozen (lt_of_cell (unhide HN).1)).trans (unhide HN).2.1) ((unhide HN).2.2.below hbl)))
              have HB := hide (bthen (unhide HB) hbl)
              clear hbl
              go_wp2_with fail
              refine (unhide HL _).mono ?_
              rintro _ w10 ⟨rfl, hbl⟩
              have HN := hide (And.intro (keep1 hbl (lt_of_cell (unhide HN).1) (unhide HN).1) (And.intro ((hbl.frozen (lt_of_cell (unhide HN).1)).trans (unhide HN).2.1) ((unhide HN).2.2.below hbl)))
              have HB := hide (bthen (unhide HB) hbl)
              clear hbl
              go_wp2_with fail
              refine (unhide HT _).mono ?_
              rintro _ w11 ⟨rfl, hbl⟩
              have HN := hide (And.intro (keep1 hbl (lt_of_cell (unhide HN).1) (unhide HN).1) (And.intro ((hbl.frozen (lt_of_cell (unhide HN).1)).trans (unhide HN).2.1) ((unhide HN).2.2.below hbl)))
              have HB := hide (bthen (unhide HB) hbl)
              clear hbl
              have cn := (unhide HN).1
              go_wp2_with fail
              clear cn
              refine (uint_any _ _ _ _ _ (unhide HN).2.2).mono ?_
              rw [unhide HS]
              rintro _ w12 ⟨rfl, hbl⟩
              have HB := hide (bthen (unhide HB) hbl)
              clear hbl HN
              go_wp2_with fail
              refine (unhide H2 _).mono ?_
              rintro _ w13 ⟨rfl, hbl⟩
              have HB := hide (bthen (unhide HB) hbl)
              clear hbl
              go_wp2_with fail
              refine (unhide HM _).mono ?_
              rintro _ w14 ⟨rfl, hbl⟩
              have HB := hide (bthen (unhide HB) hbl)
              go_wp2_with fail
              go_ret
              exact ⟨rfl, unhide HB⟩

end Go.Proofs.Ytcgnlpamfhdiiaa
namespace Go.Proofs.Ytcgnlpamfhdiiaa
open Go.RowKit
open Go.Proofs.Ytcgnlpamfhdiiaa.W

set_option maxRecDepth 100000 in
set_option maxHeartbeats 2000000 in
theorem nearT_sn {w f L Tp P k LA LB TF q : Int} {n : Bool} (a b : Option Addr) (na ca nb cb x y G : Nat) (w0 : World) (hx : IsNat w0 (.slice a na ca) x) (hy : IsNat w0 (.slice b nb cb) y)
    (HF : Hid (∀ W, Calls Try.prog 37 #[.int .i64 w] W fun r W' => r = .returned (.int .i64 f) ∧ Below W.heap.size W W')) (HL : Hid (∀ W, Calls Try.prog 51 #[.int .i64 w] W fun r W' => r = .returned (.int .i64 L) ∧ Below W.heap.size W W')) (HT : Hid (∀ W, Calls Try.prog 49 #[.int .i64 w] W fun r W' => r = .returned (.int .i64 Tp) ∧ Below W.heap.size W W')) (H2 : Hid (∀ W, Calls Try.prog 36 #[.int .i64 f] W fun r W' => r = .returned (.int .u64 P) ∧ Below W.heap.size W W'))
    (hla : (Go.bitLen x : Int) = LA) (hlb : (Go.bitLen y : Int) = LB) 
    (r1 : LA ≤ 20000) (r2 : LB ≤ 20000) (r3 : -20000 ≤ k ∧ k ≤ 20000) (r4 : 0 ≤ f ∧ f ≤ 63) (r5 : -20000 ≤ L ∧ L ≤ 20000) (r6 : -20000 ≤ Tp ∧ Tp ≤ 20000)
    (htf : LA - LB + k - f = TF) (xm : L < TF) (k6 : IntKind.i64.wrap (TF - 1) = q) (rq1 : -200001 ≤ q ∧ q ≤ 200000)
    (HU : Hid (∀ W, IsNat W (.slice a na ca) x → IsNat W (.slice b nb cb) y → Calls Try.prog 52 #[.agg #[.slice a na ca], .agg #[.slice b nb cb], .int .i64 (k - TF - f)] W fun r W' => r = .returned (.bool true) ∧ Below W.heap.size W W'))
    (HG : Hid (∀ W, IsNat W (.slice a na ca) x → IsNat W (.slice b nb cb) y → Calls Try.prog 53 #[.agg #[.slice a na ca], .agg #[.slice b nb cb], .int .i64 (k - q)] W fun r W' => ∃ s', r = .returned (.agg #[s']) ∧ IsNat W' s' G ∧ Below W.heap.size W W'))
    {LG S V : Int} (hlg' : (Go.bitLen G : Int) = LG) (d : ¬ f + 1 < LG) (z : decide (L + Tp - 2 < q) = false) (hs : lo G = S) (t : decide (S < P) = false) (k12 : IntKind.i64.wrap (q - L) = q - L) (k13 : IntKind.i64.wrap (q - L + 1) = q - L + 1) (k14 : IntKind.u64.wrap (S - P) = S - P) (HM : Hid (∀ W, Calls Try.prog 18 #[.int .i64 w, .bool n, .int .i64 (q - L + 1), .int .u64 (S - P)] W fun r W' => r = .returned (.int .u64 V) ∧ Below W.heap.size W W')) :
    Calls Try.prog 25 #[.int .i64 w, .bool n, .agg #[.slice a na ca], .agg #[.slice b nb cb], .int .i64 k] w0 fun r W' => r = .returned (.int .u64 V) ∧ Below w0.heap.size w0 W' := by
  have k1 : IntKind.i64.wrap (LA - LB) = LA - LB := i64_id (by omega) (by omega)
  have k2 : IntKind.i64.wrap (LA - LB + k) = LA - LB + k := i64_id (by omega) (by omega)
  have k3 : IntKind.i64.wrap (LA - LB + k - f) = TF := by rw [← htf]; exact i64_id (by omega) (by omega)
  have xn : ¬ TF < L := by omega
  have xd := dt xm
  have k4 : IntKind.i64.wrap (k - TF) = k - TF := i64_id (by omega) (by omega)
  have k5 : IntKind.i64.wrap (k - TF - f) = k - TF - f := i64_id (by omega) (by omega)
  have k7 : IntKind.i64.wrap (k - q) = k - q := i64_id (by omega) (by omega)
  have k8 : IntKind.i64.wrap (f + 1) = f + 1 := i64_id (by omega) (by omega)
  have k9 : IntKind.i64.wrap (q + 1) = q + 1 := i64_id (by omega) (by omega)
  have k10 : IntKind.i64.wrap (L + Tp) = L + Tp := i64_id (by omega) (by omega)
  have k11 : IntKind.i64.wrap (L + Tp - 2) = L + Tp - 2 := i64_id (by omega) (by omega)
  have HLA := hide hla; have HLB := hide hlb
  clear hla hlb r1 r2 r3 r4 r5 r6 rq1 htf
  have HLG := hide hlg'
  clear hlg'
  have HS := hide hs
  clear hs
  
  have HX := hide hx; have HY := hide hy
  clear hx hy
  go_enter Try.func25, Try.ntmps25
  go_wp2_with fail
  have HK : Hid (TwoSt w0.heap.size w0 (.slice a na ca) (.slice b nb cb) x y ((w0.alloc (.cells #[.slice a na ca] 50)).alloc (.cells #[.slice b nb cb] 50))) :=
    { ca := by simp [go_sem], cb := by simp [go_sem], na := (unhide HX).below (below2 _ _ _), nb := (unhide HY).below (below2 _ _ _), bel := below2 _ _ _ }
  clear HX HY
  refine (unhide HF _).mono ?_
  rintro _ w1 ⟨rfl, hbl⟩
  have HK := hide ((unhide HK).below hbl)
  clear hbl
  
  go_wp2_with fail
  have HK := hide ((unhide HK).below ((Below.refl _ _).drew))
  refine wp_region_held_drew (S := fun w' => w'.cell? ⟨w0.heap.size, 0, none⟩ = some (.slice a na ca) ∧ w'.cell? ⟨w0.heap.size + 1, 0, none⟩ = some (.slice b nb cb)) (by kernel_rfl) ?_ (fun hHeld => ?_)
  · (try dsimp only)
    exact ⟨(unhide HK).ca, (unhide HK).cb⟩
  refine anyH_at #[false, false, false, false, false, false, false, false] (by kernel_rfl) ?_
  refine wpAnyH_take (i := 0) (oi := { dst := some 18, op := _, type := _, pos := _, after := _, guard := _ }) (v := ?vv0r2) rfl (by kernel_rfl) (by kernel_rfl) (by kernel_rfl) (fun _ _ _ h => h) (Or.inl ⟨by rfl, ?hy0r2⟩) (by assumption) ?rest0r2
  case hy0r2 => ((intro w hSw; (try dsimp only at hSw); go_simp) <;> with_reducible rfl)
  case rest0r2 =>
    (try simp only [Act.put, List.setIfInBounds_toArray, List.set_cons_zero, List.set_cons_succ])
    refine anyH_at #[true, false, false, false, false, false, false, false] (by kernel_rfl) ?_
    refine wpAnyH_take (i := 2) (oi := { dst := some 20, op := _, type := _, pos := _, after := _, guard := _ }) (v := ?vv2r2) rfl (by kernel_rfl) (by kernel_rfl) (by kernel_rfl) (fun _ _ _ h => h) (Or.inl ⟨by rfl, ?hy2r2⟩) (by assumption) ?rest2r2
    case hy2r2 => ((intro w hSw; (try dsimp only at hSw); go_simp) <;> with_reducible rfl)
    case rest2r2 =>
      (try simp only [Act.put, List.setIfInBounds_toArray, List.set_cons_zero, List.set_cons_succ])
      refine anyH_at #[true, false, true, false, false, false, false, false] (by kernel_rfl) ?_
      refine wpAnyH_take (i := 5) (oi := { dst := some 23, op := _, type := _, pos := _, after := _, guard := _ }) (v := ?vv5r2) rfl (by kernel_rfl) (by kernel_rfl) (by kernel_rfl) (fun _ _ _ h => h) (Or.inl ⟨by rfl, ?hy5r2⟩) (by assumption) ?rest5r2
      case hy5r2 => ((intro w hSw; (try dsimp only at hSw); go_simp) <;> with_reducible rfl)
      case rest5r2 =>
        (try simp only [Act.put, List.setIfInBounds_toArray, List.set_cons_zero, List.set_cons_succ])
        refine anyH_at #[true, false, true, false, false, true, false, false] (by kernel_rfl) ?_
        refine wpAnyH_ready (rs := [1]) (by kernel_rfl) (by simp) ?_
        refine AllReadyH.cons (o := { dst := some 19, op := _, type := _, pos := _, after := _, guard := _ }) rfl (fun Kk hKk => ?_) AllReadyH.nil
        go_simp
        refine (refLen_any _ _ _ _ _ (unhide HK).na).mono ?_
        rw [unhide HLA]
        rintro _ w2 ⟨rfl, hbl⟩
        have HK := hide ((unhide HK).below hbl)
        clear hbl
        (try go_wp2_with fail)
        refine hKk.out _ _ ?_ (fun hHeld => ?_)
        · (try dsimp only)
          exact ⟨(unhide HK).ca, (unhide HK).cb⟩
        clear hKk Kk
        (try simp only [List.setIfInBounds_toArray, List.set_cons_zero, List.set_cons_succ])
        refine anyH_at #[true, true, true, false, false, true, false, false] (by kernel_rfl) ?_
        refine wpAnyH_ready (rs := [3]) (by kernel_rfl) (by simp) ?_
        refine AllReadyH.cons (o := { dst := some 21, op := _, type := _, pos := _, after := _, guard := _ }) rfl (fun Kk hKk => ?_) AllReadyH.nil
        go_simp
        refine (refLen_any _ _ _ _ _ (unhide HK).nb).mono ?_
        rw [unhide HLB]
        rintro _ w3 ⟨rfl, hbl⟩
        have HK := hide ((unhide HK).below hbl)
        clear hbl
        (try go_wp2_with fail)
        refine hKk.out _ _ ?_ (fun hHeld => ?_)
        · (try dsimp only)
          exact ⟨(unhide HK).ca, (unhide HK).cb⟩
        clear hKk Kk
        (try simp only [List.setIfInBounds_toArray, List.set_cons_zero, List.set_cons_succ])
        refine anyH_at #[true, true, true, true, false, true, false, false] (by kernel_rfl) ?_
        refine wpAnyH_take (i := 4) (oi := { dst := some 22, op := _, type := _, pos := _, after := _, guard := _ }) (v := ?vv4r2) rfl (by kernel_rfl) (by kernel_rfl) (by kernel_rfl) (fun _ _ _ h => h) (Or.inl ⟨by rfl, ?hy4r2⟩) (by assumption) ?rest4r2
        case hy4r2 => ((intro w hSw; (try dsimp only at hSw); go_simp) <;> with_reducible rfl)
        case rest4r2 =>
          (try simp only [Act.put, List.setIfInBounds_toArray, List.set_cons_zero, List.set_cons_succ])
          refine anyH_at #[true, true, true, true, true, true, false, false] (by kernel_rfl) ?_
          refine wpAnyH_take (i := 6) (oi := { dst := some 24, op := _, type := _, pos := _, after := _, guard := _ }) (v := ?vv6r2) rfl (by kernel_rfl) (by kernel_rfl) (by kernel_rfl) (fun _ _ _ h => h) (Or.inl ⟨by rfl, ?hy6r2⟩) (by assumption) ?rest6r2
          case hy6r2 => ((intro w hSw; (try dsimp only at hSw); go_simp) <;> with_reducible rfl)
          case rest6r2 =>
            (try simp only [Act.put, List.setIfInBounds_toArray, List.set_cons_zero, List.set_cons_succ])
            refine anyH_at #[true, true, true, true, true, true, true, false] (by kernel_rfl) ?_
            refine wpAnyH_take (i := 7) (oi := { dst := some 12, op := _, type := _, pos := _, after := _, guard := _ }) (v := ?vv7r2) rfl (by kernel_rfl) (by kernel_rfl) (by kernel_rfl) (fun _ _ _ h => h) (Or.inl ⟨by rfl, ?hy7r2⟩) (by assumption) ?rest7r2
            case hy7r2 => ((intro w hSw; (try dsimp only at hSw); go_simp) <;> with_reducible rfl)
            case rest7r2 =>
              (try simp only [Act.put, List.setIfInBounds_toArray, List.set_cons_zero, List.set_cons_succ])
              refine anyH_at #[true, true, true, true, true, true, true, true] (by kernel_rfl) ?_
              refine wpAnyH_done (by kernel_rfl) ?_ _
              clear hHeld
              go_wp2_with fail
              refine (unhide HL _).mono ?_
              rintro _ w4 ⟨rfl, hbl⟩
              have HK := hide ((unhide HK).below hbl)
              clear hbl
              go_wp2_with fail
              refine (unhide HL _).mono ?_
              rintro _ w5 ⟨rfl, hbl⟩
              have HK := hide ((unhide HK).below hbl)
              clear hbl
              have ca' := (unhide HK).ca; have cb' := (unhide HK).cb
              go_wp2_with fail
              clear ca' cb'
              refine (unhide HU _ (unhide HK).na (unhide HK).nb).mono ?_
              rintro _ w6 ⟨rfl, hbl⟩
              have HK := hide ((unhide HK).below hbl)
              clear hbl
              have ca' := (unhide HK).ca; have cb' := (unhide HK).cb
              go_wp2_with fail
              clear ca' cb'
              refine (unhide HG _ (unhide HK).na (unhide HK).nb).mono ?_
              rintro _ w7 ⟨s7, rfl, hN7, hbl⟩
              obtain ⟨a7, n7, c7, rfl⟩ := hN7.slice
              have HK := hide ((unhide HK).below hbl)
              clear hbl
              have HN : Hid ((w7.alloc (.cells #[.slice a7 n7 c7] 50)).cell? ⟨w7.heap.size, 0, none⟩ = some (.slice a7 n7 c7) ∧ (w7.alloc (.cells #[.slice a7 n7 c7] 50)).frozen? ⟨w7.heap.size, 0, none⟩ = false ∧ IsNat (w7.alloc (.cells #[.slice a7 n7 c7] 50)) (.slice a7 n7 c7) G) := ⟨by simp [go_sem], by simp [go_sem], hN7.below (below1 _ _)⟩
              have HB := hide (balloc (unhide HK).bel (.cells #[.slice a7 n7 c7] 50))
              have hz7 : w0.heap.size ≤ w7.heap.size := (unhide HK).bel.size
              clear hN7 HK
              go_wp2_with fail
              refine (refLen_any _ _ _ _ _ (unhide HN).2.2).mono ?_
              rw [unhide HLG]
              rintro _ w8 ⟨rfl, hbl⟩
              have HN := hide (And.intro (keep1 hbl (lt_of_cell (unhide HN).1) (unhide HN).1) (And.intro ((hbl.frozen (lt_of_cell (unhide HN).1)).trans (unhide HN).2.1) ((unhide HN).2.2.below hbl)))
              have HB := hide (bthen (unhide HB) hbl)
              clear hbl
              go_wp2_with fail
              refine (unhide HL _).mono ?_
              rintro _ w10 ⟨rfl, hbl⟩
              have HN := hide (And.intro (keep1 hbl (lt_of_cell (unhide HN).1) (unhide HN).1) (And.intro ((hbl.frozen (lt_of_cell (unhide HN).1)).trans (unhide HN).2.1) ((unhide HN).2.2.below hbl)))
              have HB := hide (bthen (unhide HB) hbl)
              clear hbl
              go_wp2_with fail
              refine (unhide HT _).mono ?_
              rintro _ w11 ⟨rfl, hbl⟩
              have HN := hide (And.intro (keep1 hbl (lt_of_cell (unhide HN).1) (unhide HN).1) (And.intro ((hbl.frozen (lt_of_cell (unhide HN).1)).trans (unhide HN).2.1) ((unhide HN).2.2.below hbl)))
              have HB := hide (bthen (unhide HB) hbl)
              clear hbl
              have cn := (unhide HN).1
              go_wp2_with fail
              clear cn
              refine (uint_any _ _ _ _ _ (unhide HN).2.2).mono ?_
              rw [unhide HS]
              rintro _ w12 ⟨rfl, hbl⟩
              have HB := hide (bthen (unhide HB) hbl)
              clear hbl HN
              go_wp2_with fail
              refine (unhide H2 _).mono ?_
              rintro _ w13 ⟨rfl, hbl⟩
              have HB := hide (bthen (unhide HB) hbl)
              clear hbl
              go_wp2_with fail
              refine (unhide HL _).mono ?_
              rintro _ w15 ⟨rfl, hbl⟩
              have HB := hide (bthen (unhide HB) hbl)
              clear hbl
              go_wp2_with fail
              refine (unhide H2 _).mono ?_
              rintro _ w16 ⟨rfl, hbl⟩
              have HB := hide (bthen (unhide HB) hbl)
              clear hbl
              go_wp2_with fail
              refine (unhide HM _).mono ?_
              rintro _ w14 ⟨rfl, hbl⟩
              have HB := hide (bthen (unhide HB) hbl)
              go_wp2_with fail
              go_ret
              exact ⟨rfl, unhide HB⟩

end Go.Proofs.Ytcgnlpamfhdiiaa
namespace Go.Proofs.Ytcgnlpamfhdiiaa
open Go.RowKit
open Go.Proofs.Ytcgnlpamfhdiiaa.W

set_option maxRecDepth 100000 in
set_option maxHeartbeats 2000000 in
theorem nearT_bi {w f L Tp P k LA LB TF q : Int} {n : Bool} (a b : Option Addr) (na ca nb cb x y G : Nat) (w0 : World) (hx : IsNat w0 (.slice a na ca) x) (hy : IsNat w0 (.slice b nb cb) y)
    (HF : Hid (∀ W, Calls Try.prog 37 #[.int .i64 w] W fun r W' => r = .returned (.int .i64 f) ∧ Below W.heap.size W W')) (HL : Hid (∀ W, Calls Try.prog 51 #[.int .i64 w] W fun r W' => r = .returned (.int .i64 L) ∧ Below W.heap.size W W')) (HT : Hid (∀ W, Calls Try.prog 49 #[.int .i64 w] W fun r W' => r = .returned (.int .i64 Tp) ∧ Below W.heap.size W W')) (_ : Hid (∀ W, Calls Try.prog 36 #[.int .i64 f] W fun r W' => r = .returned (.int .u64 P) ∧ Below W.heap.size W W'))
    (hla : (Go.bitLen x : Int) = LA) (hlb : (Go.bitLen y : Int) = LB) 
    (r1 : LA ≤ 20000) (r2 : LB ≤ 20000) (r3 : -20000 ≤ k ∧ k ≤ 20000) (r4 : 0 ≤ f ∧ f ≤ 63) (r5 : -20000 ≤ L ∧ L ≤ 20000) (r6 : -20000 ≤ Tp ∧ Tp ≤ 20000)
    (htf : LA - LB + k - f = TF) (xm : L < TF) (k6 : IntKind.i64.wrap (TF - 1) = q) (rq1 : -200001 ≤ q ∧ q ≤ 200000)
    (HU : Hid (∀ W, IsNat W (.slice a na ca) x → IsNat W (.slice b nb cb) y → Calls Try.prog 52 #[.agg #[.slice a na ca], .agg #[.slice b nb cb], .int .i64 (k - TF - f)] W fun r W' => r = .returned (.bool true) ∧ Below W.heap.size W W'))
    (HG : Hid (∀ W, IsNat W (.slice a na ca) x → IsNat W (.slice b nb cb) y → Calls Try.prog 53 #[.agg #[.slice a na ca], .agg #[.slice b nb cb], .int .i64 (k - q)] W fun r W' => ∃ s', r = .returned (.agg #[s']) ∧ IsNat W' s' G ∧ Below W.heap.size W W'))
    {LG VI : Int} (hlg' : (Go.bitLen G : Int) = LG) (d : f + 1 < LG) (hG3 : G < pw 300) (z : decide (L + Tp - 2 < (q + 1)) = true) (HI : Hid (∀ W, Calls Try.prog 24 #[.int .i64 w, .bool n] W fun r W' => r = .returned (.int .u64 VI) ∧ Below W.heap.size W W')) :
    Calls Try.prog 25 #[.int .i64 w, .bool n, .agg #[.slice a na ca], .agg #[.slice b nb cb], .int .i64 k] w0 fun r W' => r = .returned (.int .u64 VI) ∧ Below w0.heap.size w0 W' := by
  have k1 : IntKind.i64.wrap (LA - LB) = LA - LB := i64_id (by omega) (by omega)
  have k2 : IntKind.i64.wrap (LA - LB + k) = LA - LB + k := i64_id (by omega) (by omega)
  have k3 : IntKind.i64.wrap (LA - LB + k - f) = TF := by rw [← htf]; exact i64_id (by omega) (by omega)
  have xn : ¬ TF < L := by omega
  have xd := dt xm
  have k4 : IntKind.i64.wrap (k - TF) = k - TF := i64_id (by omega) (by omega)
  have k5 : IntKind.i64.wrap (k - TF - f) = k - TF - f := i64_id (by omega) (by omega)
  have k7 : IntKind.i64.wrap (k - q) = k - q := i64_id (by omega) (by omega)
  have k8 : IntKind.i64.wrap (f + 1) = f + 1 := i64_id (by omega) (by omega)
  have k9 : IntKind.i64.wrap (q + 1) = q + 1 := i64_id (by omega) (by omega)
  have k10 : IntKind.i64.wrap (L + Tp) = L + Tp := i64_id (by omega) (by omega)
  have k11 : IntKind.i64.wrap (L + Tp - 2) = L + Tp - 2 := i64_id (by omega) (by omega)
  have HLA := hide hla; have HLB := hide hlb
  clear hla hlb r1 r2 r3 r4 r5 r6 rq1 htf
  have HLG := hide hlg'
  clear hlg'
  have HG3 := hide hG3
  clear hG3
  
  have HX := hide hx; have HY := hide hy
  clear hx hy
  go_enter Try.func25, Try.ntmps25
  go_wp2_with fail
  have HK : Hid (TwoSt w0.heap.size w0 (.slice a na ca) (.slice b nb cb) x y ((w0.alloc (.cells #[.slice a na ca] 50)).alloc (.cells #[.slice b nb cb] 50))) :=
    { ca := by simp [go_sem], cb := by simp [go_sem], na := (unhide HX).below (below2 _ _ _), nb := (unhide HY).below (below2 _ _ _), bel := below2 _ _ _ }
  clear HX HY
  refine (unhide HF _).mono ?_
  rintro _ w1 ⟨rfl, hbl⟩
  have HK := hide ((unhide HK).below hbl)
  clear hbl
  
  go_wp2_with fail
  have HK := hide ((unhide HK).below ((Below.refl _ _).drew))
  refine wp_region_held_drew (S := fun w' => w'.cell? ⟨w0.heap.size, 0, none⟩ = some (.slice a na ca) ∧ w'.cell? ⟨w0.heap.size + 1, 0, none⟩ = some (.slice b nb cb)) (by kernel_rfl) ?_ (fun hHeld => ?_)
  · (try dsimp only)
    exact ⟨(unhide HK).ca, (unhide HK).cb⟩
  refine anyH_at #[false, false, false, false, false, false, false, false] (by kernel_rfl) ?_
  refine wpAnyH_take (i := 0) (oi := { dst := some 18, op := _, type := _, pos := _, after := _, guard := _ }) (v := ?vv0r2) rfl (by kernel_rfl) (by kernel_rfl) (by kernel_rfl) (fun _ _ _ h => h) (Or.inl ⟨by rfl, ?hy0r2⟩) (by assumption) ?rest0r2
  case hy0r2 => ((intro w hSw; (try dsimp only at hSw); go_simp) <;> with_reducible rfl)
  case rest0r2 =>
    (try simp only [Act.put, List.setIfInBounds_toArray, List.set_cons_zero, List.set_cons_succ])
    refine anyH_at #[true, false, false, false, false, false, false, false] (by kernel_rfl) ?_
    refine wpAnyH_take (i := 2) (oi := { dst := some 20, op := _, type := _, pos := _, after := _, guard := _ }) (v := ?vv2r2) rfl (by kernel_rfl) (by kernel_rfl) (by kernel_rfl) (fun _ _ _ h => h) (Or.inl ⟨by rfl, ?hy2r2⟩) (by assumption) ?rest2r2
    case hy2r2 => ((intro w hSw; (try dsimp only at hSw); go_simp) <;> with_reducible rfl)
    case rest2r2 =>
      (try simp only [Act.put, List.setIfInBounds_toArray, List.set_cons_zero, List.set_cons_succ])
      refine anyH_at #[true, false, true, false, false, false, false, false] (by kernel_rfl) ?_
      refine wpAnyH_take (i := 5) (oi := { dst := some 23, op := _, type := _, pos := _, after := _, guard := _ }) (v := ?vv5r2) rfl (by kernel_rfl) (by kernel_rfl) (by kernel_rfl) (fun _ _ _ h => h) (Or.inl ⟨by rfl, ?hy5r2⟩) (by assumption) ?rest5r2
      case hy5r2 => ((intro w hSw; (try dsimp only at hSw); go_simp) <;> with_reducible rfl)
      case rest5r2 =>
        (try simp only [Act.put, List.setIfInBounds_toArray, List.set_cons_zero, List.set_cons_succ])
        refine anyH_at #[true, false, true, false, false, true, false, false] (by kernel_rfl) ?_
        refine wpAnyH_ready (rs := [1]) (by kernel_rfl) (by simp) ?_
        refine AllReadyH.cons (o := { dst := some 19, op := _, type := _, pos := _, after := _, guard := _ }) rfl (fun Kk hKk => ?_) AllReadyH.nil
        go_simp
        refine (refLen_any _ _ _ _ _ (unhide HK).na).mono ?_
        rw [unhide HLA]
        rintro _ w2 ⟨rfl, hbl⟩
        have HK := hide ((unhide HK).below hbl)
        clear hbl
        (try go_wp2_with fail)
        refine hKk.out _ _ ?_ (fun hHeld => ?_)
        · (try dsimp only)
          exact ⟨(unhide HK).ca, (unhide HK).cb⟩
        clear hKk Kk
        (try simp only [List.setIfInBounds_toArray, List.set_cons_zero, List.set_cons_succ])
        refine anyH_at #[true, true, true, false, false, true, false, false] (by kernel_rfl) ?_
        refine wpAnyH_ready (rs := [3]) (by kernel_rfl) (by simp) ?_
        refine AllReadyH.cons (o := { dst := some 21, op := _, type := _, pos := _, after := _, guard := _ }) rfl (fun Kk hKk => ?_) AllReadyH.nil
        go_simp
        refine (refLen_any _ _ _ _ _ (unhide HK).nb).mono ?_
        rw [unhide HLB]
        rintro _ w3 ⟨rfl, hbl⟩
        have HK := hide ((unhide HK).below hbl)
        clear hbl
        (try go_wp2_with fail)
        refine hKk.out _ _ ?_ (fun hHeld => ?_)
        · (try dsimp only)
          exact ⟨(unhide HK).ca, (unhide HK).cb⟩
        clear hKk Kk
        (try simp only [List.setIfInBounds_toArray, List.set_cons_zero, List.set_cons_succ])
        refine anyH_at #[true, true, true, true, false, true, false, false] (by kernel_rfl) ?_
        refine wpAnyH_take (i := 4) (oi := { dst := some 22, op := _, type := _, pos := _, after := _, guard := _ }) (v := ?vv4r2) rfl (by kernel_rfl) (by kernel_rfl) (by kernel_rfl) (fun _ _ _ h => h) (Or.inl ⟨by rfl, ?hy4r2⟩) (by assumption) ?rest4r2
        case hy4r2 => ((intro w hSw; (try dsimp only at hSw); go_simp) <;> with_reducible rfl)
        case rest4r2 =>
          (try simp only [Act.put, List.setIfInBounds_toArray, List.set_cons_zero, List.set_cons_succ])
          refine anyH_at #[true, true, true, true, true, true, false, false] (by kernel_rfl) ?_
          refine wpAnyH_take (i := 6) (oi := { dst := some 24, op := _, type := _, pos := _, after := _, guard := _ }) (v := ?vv6r2) rfl (by kernel_rfl) (by kernel_rfl) (by kernel_rfl) (fun _ _ _ h => h) (Or.inl ⟨by rfl, ?hy6r2⟩) (by assumption) ?rest6r2
          case hy6r2 => ((intro w hSw; (try dsimp only at hSw); go_simp) <;> with_reducible rfl)
          case rest6r2 =>
            (try simp only [Act.put, List.setIfInBounds_toArray, List.set_cons_zero, List.set_cons_succ])
            refine anyH_at #[true, true, true, true, true, true, true, false] (by kernel_rfl) ?_
            refine wpAnyH_take (i := 7) (oi := { dst := some 12, op := _, type := _, pos := _, after := _, guard := _ }) (v := ?vv7r2) rfl (by kernel_rfl) (by kernel_rfl) (by kernel_rfl) (fun _ _ _ h => h) (Or.inl ⟨by rfl, ?hy7r2⟩) (by assumption) ?rest7r2
            case hy7r2 => ((intro w hSw; (try dsimp only at hSw); go_simp) <;> with_reducible rfl)
            case rest7r2 =>
              (try simp only [Act.put, List.setIfInBounds_toArray, List.set_cons_zero, List.set_cons_succ])
              refine anyH_at #[true, true, true, true, true, true, true, true] (by kernel_rfl) ?_
              refine wpAnyH_done (by kernel_rfl) ?_ _
              clear hHeld
              go_wp2_with fail
              refine (unhide HL _).mono ?_
              rintro _ w4 ⟨rfl, hbl⟩
              have HK := hide ((unhide HK).below hbl)
              clear hbl
              go_wp2_with fail
              refine (unhide HL _).mono ?_
              rintro _ w5 ⟨rfl, hbl⟩
              have HK := hide ((unhide HK).below hbl)
              clear hbl
              have ca' := (unhide HK).ca; have cb' := (unhide HK).cb
              go_wp2_with fail
              clear ca' cb'
              refine (unhide HU _ (unhide HK).na (unhide HK).nb).mono ?_
              rintro _ w6 ⟨rfl, hbl⟩
              have HK := hide ((unhide HK).below hbl)
              clear hbl
              have ca' := (unhide HK).ca; have cb' := (unhide HK).cb
              go_wp2_with fail
              clear ca' cb'
              refine (unhide HG _ (unhide HK).na (unhide HK).nb).mono ?_
              rintro _ w7 ⟨s7, rfl, hN7, hbl⟩
              obtain ⟨a7, n7, c7, rfl⟩ := hN7.slice
              have HK := hide ((unhide HK).below hbl)
              clear hbl
              have HN : Hid ((w7.alloc (.cells #[.slice a7 n7 c7] 50)).cell? ⟨w7.heap.size, 0, none⟩ = some (.slice a7 n7 c7) ∧ (w7.alloc (.cells #[.slice a7 n7 c7] 50)).frozen? ⟨w7.heap.size, 0, none⟩ = false ∧ IsNat (w7.alloc (.cells #[.slice a7 n7 c7] 50)) (.slice a7 n7 c7) G) := ⟨by simp [go_sem], by simp [go_sem], hN7.below (below1 _ _)⟩
              have HB := hide (balloc (unhide HK).bel (.cells #[.slice a7 n7 c7] 50))
              have hz7 : w0.heap.size ≤ w7.heap.size := (unhide HK).bel.size
              clear hN7 HK
              go_wp2_with fail
              refine (refLen_any _ _ _ _ _ (unhide HN).2.2).mono ?_
              rw [unhide HLG]
              rintro _ w8 ⟨rfl, hbl⟩
              have HN := hide (And.intro (keep1 hbl (lt_of_cell (unhide HN).1) (unhide HN).1) (And.intro ((hbl.frozen (lt_of_cell (unhide HN).1)).trans (unhide HN).2.1) ((unhide HN).2.2.below hbl)))
              have HB := hide (bthen (unhide HB) hbl)
              clear hbl
              have cn := (unhide HN).1
              go_wp2_with fail
              clear cn
              refine (half_one _ _ _ _ _ (unhide HN).2.2 (unhide HG3)).mono ?_
              rintro _ w9 ⟨s9, rfl, hN9, hbl⟩
              obtain ⟨a9, n9, c9, rfl⟩ := hN9.slice
              have HN := hide (And.intro (keep1 hbl (lt_of_cell (unhide HN).1) (unhide HN).1) (And.intro ((hbl.frozen (lt_of_cell (unhide HN).1)).trans (unhide HN).2.1) ((unhide HN).2.2.below hbl)))
              have HB := hide (bthen (unhide HB) hbl)
              clear hbl
              have cn := (unhide HN).1
              have fn := (unhide HN).2.1
              go_wp2_with fail
              have HN : Hid ((w9.setCell ⟨w7.heap.size, 0, none⟩ (.slice a9 n9 c9)).cell? ⟨w7.heap.size, 0, none⟩ = some (.slice a9 n9 c9) ∧ (w9.setCell ⟨w7.heap.size, 0, none⟩ (.slice a9 n9 c9)).frozen? ⟨w7.heap.size, 0, none⟩ = false ∧ IsNat (w9.setCell ⟨w7.heap.size, 0, none⟩ (.slice a9 n9 c9)) (.slice a9 n9 c9) (G / 2 ^ 1)) := ⟨World.cell?_setCell_same _ _ _ cn, by rw [frozen_set]; exact fn, hN9.store cn _⟩
              have HB := hide (bset (unhide HB) w7.heap.size hz7 0 (.slice a9 n9 c9))
              clear cn fn hN9
              generalize w9.setCell ⟨w7.heap.size, 0, none⟩ (.slice a9 n9 c9) = w9s at *
              go_wp2_with fail
              refine (unhide HL _).mono ?_
              rintro _ w10 ⟨rfl, hbl⟩
              have HN := hide (And.intro (keep1 hbl (lt_of_cell (unhide HN).1) (unhide HN).1) (And.intro ((hbl.frozen (lt_of_cell (unhide HN).1)).trans (unhide HN).2.1) ((unhide HN).2.2.below hbl)))
              have HB := hide (bthen (unhide HB) hbl)
              clear hbl
              go_wp2_with fail
              refine (unhide HT _).mono ?_
              rintro _ w11 ⟨rfl, hbl⟩
              have HN := hide (And.intro (keep1 hbl (lt_of_cell (unhide HN).1) (unhide HN).1) (And.intro ((hbl.frozen (lt_of_cell (unhide HN).1)).trans (unhide HN).2.1) ((unhide HN).2.2.below hbl)))
              have HB := hide (bthen (unhide HB) hbl)
              clear hbl
              go_wp2_with fail
              refine (unhide HI _).mono ?_
              rintro _ w12 ⟨rfl, hbl⟩
              have HB := hide (bthen (unhide HB) hbl)
              go_wp2_with fail
              go_ret
              exact ⟨rfl, unhide HB⟩

set_option maxRecDepth 100000 in
set_option maxHeartbeats 2000000 in
theorem nearT_bn {w f L Tp P k LA LB TF q : Int} {n : Bool} (a b : Option Addr) (na ca nb cb x y G : Nat) (w0 : World) (hx : IsNat w0 (.slice a na ca) x) (hy : IsNat w0 (.slice b nb cb) y)
    (HF : Hid (∀ W, Calls Try.prog 37 #[.int .i64 w] W fun r W' => r = .returned (.int .i64 f) ∧ Below W.heap.size W W')) (HL : Hid (∀ W, Calls Try.prog 51 #[.int .i64 w] W fun r W' => r = .returned (.int .i64 L) ∧ Below W.heap.size W W')) (HT : Hid (∀ W, Calls Try.prog 49 #[.int .i64 w] W fun r W' => r = .returned (.int .i64 Tp) ∧ Below W.heap.size W W')) (H2 : Hid (∀ W, Calls Try.prog 36 #[.int .i64 f] W fun r W' => r = .returned (.int .u64 P) ∧ Below W.heap.size W W'))
    (hla : (Go.bitLen x : Int) = LA) (hlb : (Go.bitLen y : Int) = LB) 
    (r1 : LA ≤ 20000) (r2 : LB ≤ 20000) (r3 : -20000 ≤ k ∧ k ≤ 20000) (r4 : 0 ≤ f ∧ f ≤ 63) (r5 : -20000 ≤ L ∧ L ≤ 20000) (r6 : -20000 ≤ Tp ∧ Tp ≤ 20000)
    (htf : LA - LB + k - f = TF) (xm : L < TF) (k6 : IntKind.i64.wrap (TF - 1) = q) (rq1 : -200001 ≤ q ∧ q ≤ 200000)
    (HU : Hid (∀ W, IsNat W (.slice a na ca) x → IsNat W (.slice b nb cb) y → Calls Try.prog 52 #[.agg #[.slice a na ca], .agg #[.slice b nb cb], .int .i64 (k - TF - f)] W fun r W' => r = .returned (.bool true) ∧ Below W.heap.size W W'))
    (HG : Hid (∀ W, IsNat W (.slice a na ca) x → IsNat W (.slice b nb cb) y → Calls Try.prog 53 #[.agg #[.slice a na ca], .agg #[.slice b nb cb], .int .i64 (k - q)] W fun r W' => ∃ s', r = .returned (.agg #[s']) ∧ IsNat W' s' G ∧ Below W.heap.size W W'))
    {LG S V : Int} (hlg' : (Go.bitLen G : Int) = LG) (d : f + 1 < LG) (hG3 : G < pw 300) (z : decide (L + Tp - 2 < (q + 1)) = false) (hs : lo (G / 2 ^ 1) = S) (t : decide (S < P) = false) (k12 : IntKind.i64.wrap ((q + 1) - L) = (q + 1) - L) (k13 : IntKind.i64.wrap ((q + 1) - L + 1) = (q + 1) - L + 1) (k14 : IntKind.u64.wrap (S - P) = S - P) (HM : Hid (∀ W, Calls Try.prog 18 #[.int .i64 w, .bool n, .int .i64 ((q + 1) - L + 1), .int .u64 (S - P)] W fun r W' => r = .returned (.int .u64 V) ∧ Below W.heap.size W W')) :
    Calls Try.prog 25 #[.int .i64 w, .bool n, .agg #[.slice a na ca], .agg #[.slice b nb cb], .int .i64 k] w0 fun r W' => r = .returned (.int .u64 V) ∧ Below w0.heap.size w0 W' := by
  have k1 : IntKind.i64.wrap (LA - LB) = LA - LB := i64_id (by omega) (by omega)
  have k2 : IntKind.i64.wrap (LA - LB + k) = LA - LB + k := i64_id (by omega) (by omega)
  have k3 : IntKind.i64.wrap (LA - LB + k - f) = TF := by rw [← htf]; exact i64_id (by omega) (by omega)
  have xn : ¬ TF < L := by omega
  have xd := dt xm
  have k4 : IntKind.i64.wrap (k - TF) = k - TF := i64_id (by omega) (by omega)
  have k5 : IntKind.i64.wrap (k - TF - f) = k - TF - f := i64_id (by omega) (by omega)
  have k7 : IntKind.i64.wrap (k - q) = k - q := i64_id (by omega) (by omega)
  have k8 : IntKind.i64.wrap (f + 1) = f + 1 := i64_id (by omega) (by omega)
  have k9 : IntKind.i64.wrap (q + 1) = q + 1 := i64_id (by omega) (by omega)
  have k10 : IntKind.i64.wrap (L + Tp) = L + Tp := i64_id (by omega) (by omega)
  have k11 : IntKind.i64.wrap (L + Tp - 2) = L + Tp - 2 := i64_id (by omega) (by omega)
  have HLA := hide hla; have HLB := hide hlb
  clear hla hlb r1 r2 r3 r4 r5 r6 rq1 htf
  have HLG := hide hlg'
  clear hlg'
  have HG3 := hide hG3
  clear hG3
  have HS := hide hs
  clear hs
  
  have HX := hide hx; have HY := hide hy
  clear hx hy
  go_enter Try.func25, Try.ntmps25
  go_wp2_with fail
  have HK : Hid (TwoSt w0.heap.size w0 (.slice a na ca) (.slice b nb cb) x y ((w0.alloc (.cells #[.slice a na ca] 50)).alloc (.cells #[.slice b nb cb] 50))) :=
    { ca := by simp [go_sem], cb := by simp [go_sem], na := (unhide HX).below (below2 _ _ _), nb := (unhide HY).below (below2 _ _ _), bel := below2 _ _ _ }
  clear HX HY
  refine (unhide HF _).mono ?_
  rintro _ w1 ⟨rfl, hbl⟩
  have HK := hide ((unhide HK).below hbl)
  clear hbl
  
  go_wp2_with fail
  have HK := hide ((unhide HK).below ((Below.refl _ _).drew))
  refine wp_region_held_drew (S := fun w' => w'.cell? ⟨w0.heap.size, 0, none⟩ = some (.slice a na ca) ∧ w'.cell? ⟨w0.heap.size + 1, 0, none⟩ = some (.slice b nb cb)) (by kernel_rfl) ?_ (fun hHeld => ?_)
  · (try dsimp only)
    exact ⟨(unhide HK).ca, (unhide HK).cb⟩
  refine anyH_at #[false, false, false, false, false, false, false, false] (by kernel_rfl) ?_
  refine wpAnyH_take (i := 0) (oi := { dst := some 18, op := _, type := _, pos := _, after := _, guard := _ }) (v := ?vv0r2) rfl (by kernel_rfl) (by kernel_rfl) (by kernel_rfl) (fun _ _ _ h => h) (Or.inl ⟨by rfl, ?hy0r2⟩) (by assumption) ?rest0r2
  case hy0r2 => ((intro w hSw; (try dsimp only at hSw); go_simp) <;> with_reducible rfl)
  case rest0r2 =>
    (try simp only [Act.put, List.setIfInBounds_toArray, List.set_cons_zero, List.set_cons_succ])
    refine anyH_at #[true, false, false, false, false, false, false, false] (by kernel_rfl) ?_
    refine wpAnyH_take (i := 2) (oi := { dst := some 20, op := _, type := _, pos := _, after := _, guard := _ }) (v := ?vv2r2) rfl (by kernel_rfl) (by kernel_rfl) (by kernel_rfl) (fun _ _ _ h => h) (Or.inl ⟨by rfl, ?hy2r2⟩) (by assumption) ?rest2r2
    case hy2r2 => ((intro w hSw; (try dsimp only at hSw); go_simp) <;> with_reducible rfl)
    case rest2r2 =>
      (try simp only [Act.put, List.setIfInBounds_toArray, List.set_cons_zero, List.set_cons_succ])
      refine anyH_at #[true, false, true, false, false, false, false, false] (by kernel_rfl) ?_
      refine wpAnyH_take (i := 5) (oi := { dst := some 23, op := _, type := _, pos := _, after := _, guard := _ }) (v := ?vv5r2) rfl (by kernel_rfl) (by kernel_rfl) (by kernel_rfl) (fun _ _ _ h => h) (Or.inl ⟨by rfl, ?hy5r2⟩) (by assumption) ?rest5r2
      case hy5r2 => ((intro w hSw; (try dsimp only at hSw); go_simp) <;> with_reducible rfl)
      case rest5r2 =>
        (try simp only [Act.put, List.setIfInBounds_toArray, List.set_cons_zero, List.set_cons_succ])
        refine anyH_at #[true, false, true, false, false, true, false, false] (by kernel_rfl) ?_
        refine wpAnyH_ready (rs := [1]) (by kernel_rfl) (by simp) ?_
        refine AllReadyH.cons (o := { dst := some 19, op := _, type := _, pos := _, after := _, guard := _ }) rfl (fun Kk hKk => ?_) AllReadyH.nil
        go_simp
        refine (refLen_any _ _ _ _ _ (unhide HK).na).mono ?_
        rw [unhide HLA]
        rintro _ w2 ⟨rfl, hbl⟩
        have HK := hide ((unhide HK).below hbl)
        clear hbl
        (try go_wp2_with fail)
        refine hKk.out _ _ ?_ (fun hHeld => ?_)
        · (try dsimp only)
          exact ⟨(unhide HK).ca, (unhide HK).cb⟩
        clear hKk Kk
        (try simp only [List.setIfInBounds_toArray, List.set_cons_zero, List.set_cons_succ])
        refine anyH_at #[true, true, true, false, false, true, false, false] (by kernel_rfl) ?_
        refine wpAnyH_ready (rs := [3]) (by kernel_rfl) (by simp) ?_
        refine AllReadyH.cons (o := { dst := some 21, op := _, type := _, pos := _, after := _, guard := _ }) rfl (fun Kk hKk => ?_) AllReadyH.nil
        go_simp
        refine (refLen_any _ _ _ _ _ (unhide HK).nb).mono ?_
        rw [unhide HLB]
        rintro _ w3 ⟨rfl, hbl⟩
        have HK := hide ((unhide HK).below hbl)
        clear hbl
        (try go_wp2_with fail)
        refine hKk.out _ _ ?_ (fun hHeld => ?_)
        · (try dsimp only)
          exact ⟨(unhide HK).ca, (unhide HK).cb⟩
        clear hKk Kk
        (try simp only [List.setIfInBounds_toArray, List.set_cons_zero, List.set_cons_succ])
        refine anyH_at #[true, true, true, true, false, true, false, false] (by kernel_rfl) ?_
        refine wpAnyH_take (i := 4) (oi := { dst := some 22, op := _, type := _, pos := _, after := _, guard := _ }) (v := ?vv4r2) rfl (by kernel_rfl) (by kernel_rfl) (by kernel_rfl) (fun _ _ _ h => h) (Or.inl ⟨by rfl, ?hy4r2⟩) (by assumption) ?rest4r2
        case hy4r2 => ((intro w hSw; (try dsimp only at hSw); go_simp) <;> with_reducible rfl)
        case rest4r2 =>
          (try simp only [Act.put, List.setIfInBounds_toArray, List.set_cons_zero, List.set_cons_succ])
          refine anyH_at #[true, true, true, true, true, true, false, false] (by kernel_rfl) ?_
          refine wpAnyH_take (i := 6) (oi := { dst := some 24, op := _, type := _, pos := _, after := _, guard := _ }) (v := ?vv6r2) rfl (by kernel_rfl) (by kernel_rfl) (by kernel_rfl) (fun _ _ _ h => h) (Or.inl ⟨by rfl, ?hy6r2⟩) (by assumption) ?rest6r2
          case hy6r2 => ((intro w hSw; (try dsimp only at hSw); go_simp) <;> with_reducible rfl)
          case rest6r2 =>
            (try simp only [Act.put, List.setIfInBounds_toArray, List.set_cons_zero, List.set_cons_succ])
            refine anyH_at #[true, true, true, true, true, true, true, false] (by kernel_rfl) ?_
            refine wpAnyH_take (i := 7) (oi := { dst := some 12, op := _, type := _, pos := _, after := _, guard := _ }) (v := ?vv7r2) rfl (by kernel_rfl) (by kernel_rfl) (by kernel_rfl) (fun _ _ _ h => h) (Or.inl ⟨by rfl, ?hy7r2⟩) (by assumption) ?rest7r2
            case hy7r2 => ((intro w hSw; (try dsimp only at hSw); go_simp) <;> with_reducible rfl)
            case rest7r2 =>
              (try simp only [Act.put, List.setIfInBounds_toArray, List.set_cons_zero, List.set_cons_succ])
              refine anyH_at #[true, true, true, true, true, true, true, true] (by kernel_rfl) ?_
              refine wpAnyH_done (by kernel_rfl) ?_ _
              clear hHeld
              go_wp2_with fail
              refine (unhide HL _).mono ?_
              rintro _ w4 ⟨rfl, hbl⟩
              have HK := hide ((unhide HK).below hbl)
              clear hbl
              go_wp2_with fail
              refine (unhide HL _).mono ?_
              rintro _ w5 ⟨rfl, hbl⟩
              have HK := hide ((unhide HK).below hbl)
              clear hbl
              have ca' := (unhide HK).ca; have cb' := (unhide HK).cb
              go_wp2_with fail
              clear ca' cb'
              refine (unhide HU _ (unhide HK).na (unhide HK).nb).mono ?_
              rintro _ w6 ⟨rfl, hbl⟩
              have HK := hide ((unhide HK).below hbl)
              clear hbl
              have ca' := (unhide HK).ca; have cb' := (unhide HK).cb
              go_wp2_with fail
              clear ca' cb'
              refine (unhide HG _ (unhide HK).na (unhide HK).nb).mono ?_
              rintro _ w7 ⟨s7, rfl, hN7, hbl⟩
              obtain ⟨a7, n7, c7, rfl⟩ := hN7.slice
              have HK := hide ((unhide HK).below hbl)
              clear hbl
              have HN : Hid ((w7.alloc (.cells #[.slice a7 n7 c7] 50)).cell? ⟨w7.heap.size, 0, none⟩ = some (.slice a7 n7 c7) ∧ (w7.alloc (.cells #[.slice a7 n7 c7] 50)).frozen? ⟨w7.heap.size, 0, none⟩ = false ∧ IsNat (w7.alloc (.cells #[.slice a7 n7 c7] 50)) (.slice a7 n7 c7) G) := ⟨by simp [go_sem], by simp [go_sem], hN7.below (below1 _ _)⟩
              have HB := hide (balloc (unhide HK).bel (.cells #[.slice a7 n7 c7] 50))
              have hz7 : w0.heap.size ≤ w7.heap.size := (unhide HK).bel.size
              clear hN7 HK
              go_wp2_with fail
              refine (refLen_any _ _ _ _ _ (unhide HN).2.2).mono ?_
              rw [unhide HLG]
              rintro _ w8 ⟨rfl, hbl⟩
              have HN := hide (And.intro (keep1 hbl (lt_of_cell (unhide HN).1) (unhide HN).1) (And.intro ((hbl.frozen (lt_of_cell (unhide HN).1)).trans (unhide HN).2.1) ((unhide HN).2.2.below hbl)))
              have HB := hide (bthen (unhide HB) hbl)
              clear hbl
              have cn := (unhide HN).1
              go_wp2_with fail
              clear cn
              refine (half_one _ _ _ _ _ (unhide HN).2.2 (unhide HG3)).mono ?_
              rintro _ w9 ⟨s9, rfl, hN9, hbl⟩
              obtain ⟨a9, n9, c9, rfl⟩ := hN9.slice
              have HN := hide (And.intro (keep1 hbl (lt_of_cell (unhide HN).1) (unhide HN).1) (And.intro ((hbl.frozen (lt_of_cell (unhide HN).1)).trans (unhide HN).2.1) ((unhide HN).2.2.below hbl)))
              have HB := hide (bthen (unhide HB) hbl)
              clear hbl
              have cn := (unhide HN).1
              have fn := (unhide HN).2.1
              go_wp2_with fail
              have HN : Hid ((w9.setCell ⟨w7.heap.size, 0, none⟩ (.slice a9 n9 c9)).cell? ⟨w7.heap.size, 0, none⟩ = some (.slice a9 n9 c9) ∧ (w9.setCell ⟨w7.heap.size, 0, none⟩ (.slice a9 n9 c9)).frozen? ⟨w7.heap.size, 0, none⟩ = false ∧ IsNat (w9.setCell ⟨w7.heap.size, 0, none⟩ (.slice a9 n9 c9)) (.slice a9 n9 c9) (G / 2 ^ 1)) := ⟨World.cell?_setCell_same _ _ _ cn, by rw [frozen_set]; exact fn, hN9.store cn _⟩
              have HB := hide (bset (unhide HB) w7.heap.size hz7 0 (.slice a9 n9 c9))
              clear cn fn hN9
              generalize w9.setCell ⟨w7.heap.size, 0, none⟩ (.slice a9 n9 c9) = w9s at *
              go_wp2_with fail
              refine (unhide HL _).mono ?_
              rintro _ w10 ⟨rfl, hbl⟩
              have HN := hide (And.intro (keep1 hbl (lt_of_cell (unhide HN).1) (unhide HN).1) (And.intro ((hbl.frozen (lt_of_cell (unhide HN).1)).trans (unhide HN).2.1) ((unhide HN).2.2.below hbl)))
              have HB := hide (bthen (unhide HB) hbl)
              clear hbl
              go_wp2_with fail
              refine (unhide HT _).mono ?_
              rintro _ w11 ⟨rfl, hbl⟩
              have HN := hide (And.intro (keep1 hbl (lt_of_cell (unhide HN).1) (unhide HN).1) (And.intro ((hbl.frozen (lt_of_cell (unhide HN).1)).trans (unhide HN).2.1) ((unhide HN).2.2.below hbl)))
              have HB := hide (bthen (unhide HB) hbl)
              clear hbl
              have cn := (unhide HN).1
              go_wp2_with fail
              clear cn
              refine (uint_any _ _ _ _ _ (unhide HN).2.2).mono ?_
              rw [unhide HS]
              rintro _ w12 ⟨rfl, hbl⟩
              have HB := hide (bthen (unhide HB) hbl)
              clear hbl HN
              go_wp2_with fail
              refine (unhide H2 _).mono ?_
              rintro _ w13 ⟨rfl, hbl⟩
              have HB := hide (bthen (unhide HB) hbl)
              clear hbl
              go_wp2_with fail
              refine (unhide HL _).mono ?_
              rintro _ w15 ⟨rfl, hbl⟩
              have HB := hide (bthen (unhide HB) hbl)
              clear hbl
              go_wp2_with fail
              refine (unhide H2 _).mono ?_
              rintro _ w16 ⟨rfl, hbl⟩
              have HB := hide (bthen (unhide HB) hbl)
              clear hbl
              go_wp2_with fail
              refine (unhide HM _).mono ?_
              rintro _ w14 ⟨rfl, hbl⟩
              have HB := hide (bthen (unhide HB) hbl)
              go_wp2_with fail
              go_ret
              exact ⟨rfl, unhide HB⟩

end Go.Proofs.Ytcgnlpamfhdiiaa
namespace Go.Proofs.Ytcgnlpamfhdiiaa

/-- The place of the last bit of the float that is nearest to X by D. -/
def unitQ (f L X D : Nat) : Nat := max (Go.bitLen (X / D) - (f + 1)) L
/-- That float's number among the floats. -/
def codeQ (f L X D : Nat) : Nat := (unitQ f L X D - L) * 2 ^ f + near X (D * 2 ^ unitQ f L X D)

theorem codeQ_one (f L X : Nat) : codeQ f L X 1 = code f L X := by
  unfold codeQ code unitQ unitOf
  rw [Nat.div_one, Nat.one_mul]
theorem codeQ_scale (f L X D c : Nat) (hc : 0 < c) : codeQ f L (X * c) (D * c) = codeQ f L X D := by
  have hu : unitQ f L (X * c) (D * c) = unitQ f L X D := by
    unfold unitQ
    rw [Nat.mul_div_mul_right _ _ hc]
  unfold codeQ
  rw [hu, Nat.mul_right_comm, near_scale _ _ _ hc]
/-- What goes out even. -/
theorem codeQ_even (f L X D : Nat) (hD : 0 < D) : codeQ f L (X * D) D = code f L X := by
  have := codeQ_scale f L X 1 D hD
  rw [Nat.one_mul] at this
  rw [this, codeQ_one]
theorem unitQ_up (f L X D : Nat) (hD : 0 < D) : near X (D * 2 ^ unitQ f L X D) ≤ 2 * 2 ^ f := by
  refine near_le (Nat.mul_pos hD (Nat.two_pow_pos _)) ?_
  have h1 : X / D < 2 ^ (f + 1 + unitQ f L X D) := bl_lt (by unfold unitQ; omega)
  have h2 := (Nat.div_lt_iff_lt_mul hD).1 h1
  rw [show 2 * 2 ^ f * (D * 2 ^ unitQ f L X D) = 2 ^ (f + 1 + unitQ f L X D) * D by
    rw [show 2 * 2 ^ f = 2 ^ (f + 1) by rw [Nat.pow_succ]; omega, Nat.mul_comm D, ← Nat.mul_assoc, ← Nat.pow_add]]
  omega
theorem unitQ_dn {f L X D : Nat} (hD : 0 < D) (h : L < unitQ f L X D) : 2 ^ f ≤ near X (D * 2 ^ unitQ f L X D) := by
  refine near_ge (Nat.mul_pos hD (Nat.two_pow_pos _)) ?_
  have h1 : 2 ^ (f + unitQ f L X D) ≤ X / D := bl_ge (by unfold unitQ at h ⊢; omega)
  have h2 := (Nat.le_div_iff_mul_le hD).1 h1
  rw [show 2 ^ f * (D * 2 ^ unitQ f L X D) = 2 ^ (f + unitQ f L X D) * D by rw [Nat.mul_comm D, ← Nat.mul_assoc, ← Nat.pow_add]]
  exact h2

/-- A rest is no more than a bit below the halves. -/
theorem near_sticky (q E r C m : Nat) (hr : r < E) (hm : m = if r = 0 then 0 else 1) (hC : 0 < C) : near (q * E + r) (E * (2 * C)) = near (2 * q + m) (2 * (2 * C)) := by
  have hE : 0 < E := by omega
  have hm1 : m ≤ 1 := by rw [hm]; split <;> omega
  have hmr : r = 0 ↔ m = 0 := by
    rw [hm]
    split
    · simp_all
    · simp_all
  clear hm
  have hq := Nat.div_add_mod q (2 * C)
  have ht := Nat.mod_lt q (show 0 < 2 * C by omega)
  generalize q / (2 * C) = s at *
  generalize q % (2 * C) = t at *
  have h1 : t * E + r < E * (2 * C) := by
    have := Nat.mul_le_mul_left E (show t + 1 ≤ 2 * C by omega)
    rw [Nat.mul_add, Nat.mul_one, Nat.mul_comm E t] at this
    omega
  have e1 : q * E + r = E * (2 * C) * s + (t * E + r) := by
    rw [← hq, Nat.add_mul, Nat.mul_comm (2 * C * s) E, ← Nat.mul_assoc E (2 * C) s]
    omega
  have e2 : 2 * q + m = 2 * (2 * C) * s + (2 * t + m) := by
    rw [← hq, Nat.mul_add, ← Nat.mul_assoc 2 (2 * C) s]
    omega
  have a1 : (q * E + r) / (E * (2 * C)) = s := by
    rw [e1, Nat.mul_add_div (by omega), Nat.div_eq_of_lt h1]
    rfl
  have a2 : (q * E + r) % (E * (2 * C)) = t * E + r := by rw [e1, Nat.mul_add_mod, Nat.mod_eq_of_lt h1]
  have b1 : (2 * q + m) / (2 * (2 * C)) = s := by
    rw [e2, Nat.mul_add_div (by omega), Nat.div_eq_of_lt (by omega)]
    rfl
  have b2 : (2 * q + m) % (2 * (2 * C)) = 2 * t + m := by rw [e2, Nat.mul_add_mod, Nat.mod_eq_of_lt (by omega)]
  unfold near
  rw [a1, a2, b1, b2]
  have eC : E * (2 * C) = 2 * (C * E) := by rw [Nat.mul_left_comm, Nat.mul_comm E C]
  rw [eC]
  clear a1 a2 b1 b2 e1 e2 hq h1 eC
  rcases Nat.lt_trichotomy t C with h | h | h
  · have h2 := Nat.mul_le_mul_right E (show t + 1 ≤ C by omega)
    rw [Nat.add_mul, Nat.one_mul] at h2
    generalize t * E = te at *
    generalize C * E = ce at *
    rw [if_neg (by omega), if_neg (by omega)]
  · subst h
    generalize t * E = te at *
    by_cases hr0 : r = 0
    · have hm0 := hmr.1 hr0
      by_cases hs : s % 2 = 1
      · rw [if_pos (by omega), if_pos (by omega)]
      · rw [if_neg (by omega), if_neg (by omega)]
    · have hm0 : m ≠ 0 := fun h => hr0 (hmr.2 h)
      rw [if_pos (by omega), if_pos (by omega)]
  · have h2 := Nat.mul_le_mul_right E (show C + 1 ≤ t by omega)
    rw [Nat.add_mul, Nat.one_mul] at h2
    generalize t * E = te at *
    generalize C * E = ce at *
    rw [if_pos (by omega), if_pos (by omega)]

/-- A quotient of enough bits and a bit for the rest are rounded as the quotient itself. -/
theorem codeQ_sticky (f L X D j : Nat) (hD : 0 < D) (hj : 1 ≤ j) (hq : X / (D * 2 ^ j) ≠ 0) (hu : j + 1 ≤ unitQ f L X D) :
    codeQ f L X D = code f L ((2 * (X / (D * 2 ^ j)) + (if X % (D * 2 ^ j) = 0 then 0 else 1)) * 2 ^ (j - 1)) := by
  have hE : 0 < D * 2 ^ j := Nat.mul_pos hD (Nat.two_pow_pos j)
  have hX := Nat.div_add_mod X (D * 2 ^ j)
  have hr := Nat.mod_lt X hE
  obtain ⟨m, hm⟩ : ∃ m, m = if X % (D * 2 ^ j) = 0 then 0 else 1 := ⟨_, rfl⟩
  have hm1 : m ≤ 1 := by rw [hm]; split <;> omega
  rw [← hm]
  have hb : Go.bitLen (X / D) = j + Go.bitLen (X / (D * 2 ^ j)) := by
    rw [← Nat.div_div_eq_div_mul]
    exact Go.bitLen_shift (X / D) j (by rw [Nat.div_div_eq_div_mul]; exact hq)
  have hl : unitOf f L ((2 * (X / (D * 2 ^ j)) + m) * 2 ^ (j - 1)) = unitQ f L X D := by
    unfold unitOf unitQ
    rw [bl_shl _ _ (by omega), bl_two _ m hm1 (by omega), hb]
    omega
  unfold codeQ code
  rw [hl]
  congr 1
  obtain ⟨c, hc⟩ : ∃ c, unitQ f L X D = j + (c + 1) := ⟨unitQ f L X D - j - 1, by omega⟩
  rw [hc]
  have e1 : D * 2 ^ (j + (c + 1)) = D * 2 ^ j * (2 * 2 ^ c) := by
    rw [Nat.pow_add, Nat.pow_succ, Nat.mul_comm (2 ^ c) 2, ← Nat.mul_assoc]
  have e2 : 2 ^ (j + (c + 1)) = 2 * (2 * 2 ^ c) * 2 ^ (j - 1) := by
    rw [show j + (c + 1) = c + 2 + (j - 1) by omega, Nat.pow_add, show c + 2 = c + 1 + 1 by omega, Nat.pow_succ, Nat.pow_succ, Nat.mul_comm (2 ^ c * 2) 2, Nat.mul_comm (2 ^ c) 2]
  rw [e1, e2, near_scale _ _ _ (Nat.two_pow_pos _)]
  have := near_sticky (X / (D * 2 ^ j)) (D * 2 ^ j) (X % (D * 2 ^ j)) (2 ^ c) m hr hm (Nat.two_pow_pos c)
  rw [← this]
  congr 1
  rw [Nat.mul_comm]
  omega

end Go.Proofs.Ytcgnlpamfhdiiaa
