/- RefOpen, NearA. -/
import Derived.Test.YtahdcbjfabccpaaT01
import Derived.Test.YtahdcbjfabccpaaT17
import Derived.Test.YtahdcbjfabccpaaT23
namespace Go.Proofs.Ytahdcbjfabccpaa
open Go.RowKit

set_option maxRecDepth 100000 in
set_option maxHeartbeats 2000000 in
theorem refOpen_nan {w e f P Q b x xx yy : Int} {n : Bool} (W : World)
    (HX : Ct 18 #[.int .i64 w, .int .u64 x] (.int .i64 xx))
    (HY : Ct 19 #[.int .i64 w, .int .u64 x] (.int .u64 yy))
    (HN : Ct 20 #[.int .i64 w, .int .u64 x] (.bool n))
    (h : Kd w e f P Q b) (h1 : (xx == Q - 1) = true) (h2 : (yy != 0) = true) :
    Calls Try.prog 8 #[.int .i64 w, .int .u64 x] W fun r W' => r = .returned (.agg #[.bool false, .int .i64 3, .int .i64 0, .int .u64 0]) ∧ Below W.heap.size W W' := by
  have HT := hide (fun W => refTop_any h W)
  clear h
  go_enter Try.func8, Try.ntmps8
  go_wp2_with fail
  refine (unhide HX _).mono ?_
  rintro _ w1 ⟨rfl, hbl⟩
  have HR := hide (room4 hbl)
  have HB := hide (bthen (below1 _ _) hbl)
  clear hbl
  go_wp2_with fail
  refine (unhide HY _).mono ?_
  rintro _ w2 ⟨rfl, hbl⟩
  have HR := hide ((unhide HR).below hbl)
  have HB := hide (bthen (unhide HB) hbl)
  clear hbl
  go_wp2_with fail
  refine (unhide HN _).mono ?_
  rintro _ w3 ⟨rfl, hbl⟩
  have HR := hide ((unhide HR).below hbl)
  have HB := hide (bthen (unhide HB) hbl)
  clear hbl
  go_wp2_with fail
  refine (unhide HT _).mono ?_
  rintro _ w4 ⟨rfl, hbl⟩
  have HR := hide ((unhide HR).below hbl)
  have HB := hide (bthen (unhide HB) hbl)
  clear hbl
  obtain ⟨⟨v0, c0⟩, f0⟩ := (unhide HR) 0 (by omega)
  obtain ⟨⟨v1, c1⟩, f1⟩ := (unhide HR) 1 (by omega)
  obtain ⟨⟨v2, c2⟩, f2⟩ := (unhide HR) 2 (by omega)
  obtain ⟨⟨v3, c3⟩, f3⟩ := (unhide HR) 3 (by omega)
  go_wp2_with fail
  exact bodyPost_ret (v := .agg #[.bool false, .int .i64 3, .int .i64 0, .int .u64 0]) (by simp (maxDischargeDepth := 8) [results, Try.results8, go_sem, c0, c1, c2, c3]) rfl ⟨rfl, bset4 (unhide HB) _ _ _ _⟩

set_option maxRecDepth 100000 in
set_option maxHeartbeats 2000000 in
theorem refOpen_inf {w e f P Q b x xx yy : Int} {n : Bool} (W : World)
    (HX : Ct 18 #[.int .i64 w, .int .u64 x] (.int .i64 xx))
    (HY : Ct 19 #[.int .i64 w, .int .u64 x] (.int .u64 yy))
    (HN : Ct 20 #[.int .i64 w, .int .u64 x] (.bool n))
    (h : Kd w e f P Q b) (h1 : (xx == Q - 1) = true) (h2 : (yy != 0) = false) :
    Calls Try.prog 8 #[.int .i64 w, .int .u64 x] W fun r W' => r = .returned (.agg #[.bool n, .int .i64 2, .int .i64 0, .int .u64 0]) ∧ Below W.heap.size W W' := by
  have HT := hide (fun W => refTop_any h W)
  clear h
  go_enter Try.func8, Try.ntmps8
  go_wp2_with fail
  refine (unhide HX _).mono ?_
  rintro _ w1 ⟨rfl, hbl⟩
  have HR := hide (room4 hbl)
  have HB := hide (bthen (below1 _ _) hbl)
  clear hbl
  go_wp2_with fail
  refine (unhide HY _).mono ?_
  rintro _ w2 ⟨rfl, hbl⟩
  have HR := hide ((unhide HR).below hbl)
  have HB := hide (bthen (unhide HB) hbl)
  clear hbl
  go_wp2_with fail
  refine (unhide HN _).mono ?_
  rintro _ w3 ⟨rfl, hbl⟩
  have HR := hide ((unhide HR).below hbl)
  have HB := hide (bthen (unhide HB) hbl)
  clear hbl
  go_wp2_with fail
  refine (unhide HT _).mono ?_
  rintro _ w4 ⟨rfl, hbl⟩
  have HR := hide ((unhide HR).below hbl)
  have HB := hide (bthen (unhide HB) hbl)
  clear hbl
  obtain ⟨⟨v0, c0⟩, f0⟩ := (unhide HR) 0 (by omega)
  obtain ⟨⟨v1, c1⟩, f1⟩ := (unhide HR) 1 (by omega)
  obtain ⟨⟨v2, c2⟩, f2⟩ := (unhide HR) 2 (by omega)
  obtain ⟨⟨v3, c3⟩, f3⟩ := (unhide HR) 3 (by omega)
  go_wp2_with fail
  exact bodyPost_ret (v := .agg #[.bool n, .int .i64 2, .int .i64 0, .int .u64 0]) (by simp (maxDischargeDepth := 8) [results, Try.results8, go_sem, c0, c1, c2, c3]) rfl ⟨rfl, bset4 (unhide HB) _ _ _ _⟩

set_option maxRecDepth 100000 in
set_option maxHeartbeats 2000000 in
theorem refOpen_zer {w e f P Q b x xx yy : Int} {n : Bool} (W : World)
    (HX : Ct 18 #[.int .i64 w, .int .u64 x] (.int .i64 xx))
    (HY : Ct 19 #[.int .i64 w, .int .u64 x] (.int .u64 yy))
    (HN : Ct 20 #[.int .i64 w, .int .u64 x] (.bool n))
    (h : Kd w e f P Q b) (h1 : (xx == Q - 1) = false) (h3 : (xx == 0) = true) (h2 : (yy == 0) = true) :
    Calls Try.prog 8 #[.int .i64 w, .int .u64 x] W fun r W' => r = .returned (.agg #[.bool n, .int .i64 0, .int .i64 0, .int .u64 0]) ∧ Below W.heap.size W W' := by
  have HT := hide (fun W => refTop_any h W)
  clear h
  go_enter Try.func8, Try.ntmps8
  go_wp2_with fail
  refine (unhide HX _).mono ?_
  rintro _ w1 ⟨rfl, hbl⟩
  have HR := hide (room4 hbl)
  have HB := hide (bthen (below1 _ _) hbl)
  clear hbl
  go_wp2_with fail
  refine (unhide HY _).mono ?_
  rintro _ w2 ⟨rfl, hbl⟩
  have HR := hide ((unhide HR).below hbl)
  have HB := hide (bthen (unhide HB) hbl)
  clear hbl
  go_wp2_with fail
  refine (unhide HN _).mono ?_
  rintro _ w3 ⟨rfl, hbl⟩
  have HR := hide ((unhide HR).below hbl)
  have HB := hide (bthen (unhide HB) hbl)
  clear hbl
  go_wp2_with fail
  refine (unhide HT _).mono ?_
  rintro _ w4 ⟨rfl, hbl⟩
  have HR := hide ((unhide HR).below hbl)
  have HB := hide (bthen (unhide HB) hbl)
  clear hbl
  obtain ⟨⟨v0, c0⟩, f0⟩ := (unhide HR) 0 (by omega)
  obtain ⟨⟨v1, c1⟩, f1⟩ := (unhide HR) 1 (by omega)
  obtain ⟨⟨v2, c2⟩, f2⟩ := (unhide HR) 2 (by omega)
  obtain ⟨⟨v3, c3⟩, f3⟩ := (unhide HR) 3 (by omega)
  go_wp2_with fail
  exact bodyPost_ret (v := .agg #[.bool n, .int .i64 0, .int .i64 0, .int .u64 0]) (by simp (maxDischargeDepth := 8) [results, Try.results8, go_sem, c0, c1, c2, c3]) rfl ⟨rfl, bset4 (unhide HB) _ _ _ _⟩

set_option maxRecDepth 100000 in
set_option maxHeartbeats 2000000 in
theorem refOpen_sub {w e f P Q b x xx yy : Int} {n : Bool} (W : World)
    (HX : Ct 18 #[.int .i64 w, .int .u64 x] (.int .i64 xx))
    (HY : Ct 19 #[.int .i64 w, .int .u64 x] (.int .u64 yy))
    (HN : Ct 20 #[.int .i64 w, .int .u64 x] (.bool n))
    (h : Kd w e f P Q b) (h1 : (xx == Q - 1) = false) (h3 : (xx == 0) = true) (h2 : (yy == 0) = false) (k1 : IntKind.i64.wrap (1 - b) = 1 - b) (k2 : IntKind.i64.wrap (1 - b - f) = 1 - b - f) :
    Calls Try.prog 8 #[.int .i64 w, .int .u64 x] W fun r W' => r = .returned (.agg #[.bool n, .int .i64 1, .int .i64 (1 - b - f), .int .u64 yy]) ∧ Below W.heap.size W W' := by
  have HT := hide (fun W => refTop_any h W)
  have HBb := hide (fun W => refB_any h W)
  have HF := hide (fun W => refF_any h W)
  clear h
  go_enter Try.func8, Try.ntmps8
  go_wp2_with fail
  refine (unhide HX _).mono ?_
  rintro _ w1 ⟨rfl, hbl⟩
  have HR := hide (room4 hbl)
  have HB := hide (bthen (below1 _ _) hbl)
  clear hbl
  go_wp2_with fail
  refine (unhide HY _).mono ?_
  rintro _ w2 ⟨rfl, hbl⟩
  have HR := hide ((unhide HR).below hbl)
  have HB := hide (bthen (unhide HB) hbl)
  clear hbl
  go_wp2_with fail
  refine (unhide HN _).mono ?_
  rintro _ w3 ⟨rfl, hbl⟩
  have HR := hide ((unhide HR).below hbl)
  have HB := hide (bthen (unhide HB) hbl)
  clear hbl
  go_wp2_with fail
  refine (unhide HT _).mono ?_
  rintro _ w4 ⟨rfl, hbl⟩
  have HR := hide ((unhide HR).below hbl)
  have HB := hide (bthen (unhide HB) hbl)
  clear hbl
  go_wp2_with fail
  refine (unhide HBb _).mono ?_
  rintro _ w5 ⟨rfl, hbl⟩
  have HR := hide ((unhide HR).below hbl)
  have HB := hide (bthen (unhide HB) hbl)
  clear hbl
  go_wp2_with fail
  refine (unhide HF _).mono ?_
  rintro _ w6 ⟨rfl, hbl⟩
  have HR := hide ((unhide HR).below hbl)
  have HB := hide (bthen (unhide HB) hbl)
  clear hbl
  obtain ⟨⟨v0, c0⟩, f0⟩ := (unhide HR) 0 (by omega)
  obtain ⟨⟨v1, c1⟩, f1⟩ := (unhide HR) 1 (by omega)
  obtain ⟨⟨v2, c2⟩, f2⟩ := (unhide HR) 2 (by omega)
  obtain ⟨⟨v3, c3⟩, f3⟩ := (unhide HR) 3 (by omega)
  go_wp2_with fail
  exact bodyPost_ret (v := .agg #[.bool n, .int .i64 1, .int .i64 (1 - b - f), .int .u64 yy]) (by simp (maxDischargeDepth := 8) [results, Try.results8, go_sem, c0, c1, c2, c3]) rfl ⟨rfl, bset4 (unhide HB) _ _ _ _⟩

set_option maxRecDepth 100000 in
set_option maxHeartbeats 2000000 in
theorem refOpen_nor {w e f P Q b x xx yy : Int} {n : Bool} (W : World)
    (HX : Ct 18 #[.int .i64 w, .int .u64 x] (.int .i64 xx))
    (HY : Ct 19 #[.int .i64 w, .int .u64 x] (.int .u64 yy))
    (HN : Ct 20 #[.int .i64 w, .int .u64 x] (.bool n))
    (h : Kd w e f P Q b) (h1 : (xx == Q - 1) = false) (h3 : (xx == 0) = false) (k1 : IntKind.i64.wrap (xx - b) = xx - b) (k2 : IntKind.i64.wrap (xx - b - f) = xx - b - f) (k3 : IntKind.u64.wrap (P + yy) = P + yy) :
    Calls Try.prog 8 #[.int .i64 w, .int .u64 x] W fun r W' => r = .returned (.agg #[.bool n, .int .i64 1, .int .i64 (xx - b - f), .int .u64 (P + yy)]) ∧ Below W.heap.size W W' := by
  have HT := hide (fun W => refTop_any h W)
  have HBb := hide (fun W => refB_any h W)
  have HF := hide (fun W => refF_any h W)
  have H2 := hide (fun W => two_f h W)
  clear h
  go_enter Try.func8, Try.ntmps8
  go_wp2_with fail
  refine (unhide HX _).mono ?_
  rintro _ w1 ⟨rfl, hbl⟩
  have HR := hide (room4 hbl)
  have HB := hide (bthen (below1 _ _) hbl)
  clear hbl
  go_wp2_with fail
  refine (unhide HY _).mono ?_
  rintro _ w2 ⟨rfl, hbl⟩
  have HR := hide ((unhide HR).below hbl)
  have HB := hide (bthen (unhide HB) hbl)
  clear hbl
  go_wp2_with fail
  refine (unhide HN _).mono ?_
  rintro _ w3 ⟨rfl, hbl⟩
  have HR := hide ((unhide HR).below hbl)
  have HB := hide (bthen (unhide HB) hbl)
  clear hbl
  go_wp2_with fail
  refine (unhide HT _).mono ?_
  rintro _ w4 ⟨rfl, hbl⟩
  have HR := hide ((unhide HR).below hbl)
  have HB := hide (bthen (unhide HB) hbl)
  clear hbl
  go_wp2_with fail
  refine (unhide HBb _).mono ?_
  rintro _ w5 ⟨rfl, hbl⟩
  have HR := hide ((unhide HR).below hbl)
  have HB := hide (bthen (unhide HB) hbl)
  clear hbl
  go_wp2_with fail
  refine (unhide HF _).mono ?_
  rintro _ w6 ⟨rfl, hbl⟩
  have HR := hide ((unhide HR).below hbl)
  have HB := hide (bthen (unhide HB) hbl)
  clear hbl
  go_wp2_with fail
  refine (unhide HF _).mono ?_
  rintro _ w7 ⟨rfl, hbl⟩
  have HR := hide ((unhide HR).below hbl)
  have HB := hide (bthen (unhide HB) hbl)
  clear hbl
  go_wp2_with fail
  refine (unhide H2 _).mono ?_
  rintro _ w8 ⟨rfl, hbl⟩
  have HR := hide ((unhide HR).below hbl)
  have HB := hide (bthen (unhide HB) hbl)
  clear hbl
  obtain ⟨⟨v0, c0⟩, f0⟩ := (unhide HR) 0 (by omega)
  obtain ⟨⟨v1, c1⟩, f1⟩ := (unhide HR) 1 (by omega)
  obtain ⟨⟨v2, c2⟩, f2⟩ := (unhide HR) 2 (by omega)
  obtain ⟨⟨v3, c3⟩, f3⟩ := (unhide HR) 3 (by omega)
  go_wp2_with fail
  exact bodyPost_ret (v := .agg #[.bool n, .int .i64 1, .int .i64 (xx - b - f), .int .u64 (P + yy)]) (by simp (maxDischargeDepth := 8) [results, Try.results8, go_sem, c0, c1, c2, c3]) rfl ⟨rfl, bset4 (unhide HB) _ _ _ _⟩

theorem refOpen_any {w e f P Q b : Int} (x : Int) {N : Bool} {K X S : Int} (h : Kd w e f P Q b) (W : World) (h0 : 0 ≤ x) (h1 : x < 18446744073709551616)
    (ho : Opened f P Q b (sg P Q x) (x / P % Q) (x % P) N K X S) :
    Calls Try.prog 8 #[.int .i64 w, .int .u64 x] W fun r W' => r = .returned (.agg #[.bool N, .int .i64 K, .int .i64 X, .int .u64 S]) ∧ Below W.heap.size W W' := by
  have HX := hide (fun W => refExp_any x h W h0 h1)
  have HY := hide (fun W => refFrac_any x h W h0)
  have HN := hide (fun W => refNeg_any x h W h0 h1)
  obtain ⟨p1, p2, q1, q2⟩ := h.wd.sz.pos
  obtain ⟨u, v⟩ := exp_in (x / P) q1
  obtain ⟨u', v'⟩ := exp_in x p1
  have hb : 0 ≤ b ∧ b ≤ 2000 ∧ 0 ≤ f ∧ f ≤ 60 := by rcases h with h | h <;> omega
  rcases ho with ⟨a, -⟩ | ⟨a, c, d, rfl, rfl, rfl, rfl⟩ | ⟨a, c, d, rfl, rfl, rfl, rfl⟩ | ⟨a, c, d, rfl, rfl, rfl, rfl⟩ | ⟨a, c, d, g, rfl, rfl, rfl, rfl⟩ | ⟨a, c, d, g, rfl, rfl, rfl, rfl⟩
  · exact absurd a h.f0
  · exact refOpen_nan W HX HY HN h (eq_t c) (ne_t d)
  · exact refOpen_inf W HX HY HN h (eq_t c) (ne_f d)
  · exact refOpen_nor W HX HY HN h (eq_f c) (eq_f d) (i64_id (by omega) (by omega)) (i64_id (by omega) (by omega)) (by rw [IntKind.wrap_u64]; omega)
  · exact refOpen_sub W HX HY HN h (eq_f c) (eq_t d) (eq_f g) (i64_id (by omega) (by omega)) (i64_id (by omega) (by omega))
  · exact refOpen_zer W HX HY HN h (eq_f c) (eq_t d) (eq_t g)

end Go.Proofs.Ytahdcbjfabccpaa
namespace Go.Proofs.Ytahdcbjfabccpaa
open Go.RowKit
open Go.Proofs.Ytahdcbjfabccpaa.W

set_option maxRecDepth 100000 in
set_option maxHeartbeats 8000000 in
theorem near_si {w f L Tp P k LA LB TF q : Int} {n : Bool} (a b : Option Addr) (na ca nb cb x y G : Nat) (w0 : World) (hx : IsNat w0 (.slice a na ca) x) (hy : IsNat w0 (.slice b nb cb) y)
    (HF : Ct 23 #[.int .i64 w] (.int .i64 f)) (HL : Ct 65 #[.int .i64 w] (.int .i64 L)) (HT : Ct 21 #[.int .i64 w] (.int .i64 Tp)) (_ : Ct 24 #[.int .i64 f] (.int .u64 P))
    (hla : (Go.bitLen x : Int) = LA) (hlb : (Go.bitLen y : Int) = LB) 
    (r1 : LA ≤ 20000) (r2 : LB ≤ 20000) (r3 : -20000 ≤ k ∧ k ≤ 20000) (r4 : 0 ≤ f ∧ f ≤ 63) (r5 : -20000 ≤ L ∧ L ≤ 20000) (r6 : -20000 ≤ Tp ∧ Tp ≤ 20000)
    (htf : LA - LB + k - f = TF) (hq : (TF < L ∧ q = L) ∨ (TF = L ∧ q = L) ∨ (L < TF ∧ q = TF))
    (HU : L < TF → Hid (∀ W, IsNat W (.slice a na ca) x → IsNat W (.slice b nb cb) y → Calls Try.prog 66 #[.agg #[.slice a na ca], .agg #[.slice b nb cb], .int .i64 (k - q - f)] W fun r W' => r = .returned (.bool false) ∧ Below W.heap.size W W'))
    (HG : Hid (∀ W, IsNat W (.slice a na ca) x → IsNat W (.slice b nb cb) y → Calls Try.prog 67 #[.agg #[.slice a na ca], .agg #[.slice b nb cb], .int .i64 (k - q)] W fun r W' => ∃ s', r = .returned (.agg #[s']) ∧ IsNat W' s' G ∧ Below W.heap.size W W'))
    {LG VI : Int} (hlg' : (Go.bitLen G : Int) = LG) (d : ¬ f + 1 < LG) (z : decide (L + Tp - 2 < q) = true) (HI : Ct 16 #[.int .i64 w, .bool n] (.int .u64 VI)) :
    Calls Try.prog 53 #[.int .i64 w, .bool n, .agg #[.slice a na ca], .agg #[.slice b nb cb], .int .i64 k] w0 fun r W' => r = .returned (.int .u64 VI) ∧ Below w0.heap.size w0 W' := by
  have k1 : IntKind.i64.wrap (LA - LB) = LA - LB := i64_id (by omega) (by omega)
  have k2 : IntKind.i64.wrap (LA - LB + k) = LA - LB + k := i64_id (by omega) (by omega)
  have k3 : IntKind.i64.wrap (LA - LB + k - f) = TF := by rw [← htf]; exact i64_id (by omega) (by omega)
  have rq1 : -200001 ≤ q ∧ q ≤ 200000 := by rcases hq with h | h | h <;> omega
  have k5 : IntKind.i64.wrap (k - q - f) = k - q - f := i64_id (by omega) (by omega)
  have k7 : IntKind.i64.wrap (k - q) = k - q := i64_id (by omega) (by omega)
  have k8 : IntKind.i64.wrap (f + 1) = f + 1 := i64_id (by omega) (by omega)
  have k9 : IntKind.i64.wrap (q + 1) = q + 1 := i64_id (by omega) (by omega)
  have k10 : IntKind.i64.wrap (L + Tp) = L + Tp := i64_id (by omega) (by omega)
  have k11 : IntKind.i64.wrap (L + Tp - 2) = L + Tp - 2 := i64_id (by omega) (by omega)
  have HLA := hide hla; have HLB := hide hlb
  clear hla hlb r1 r2 r3 r4 r5 r6 rq1 htf
  have HLG := hide hlg'
  clear hlg'
  
  have HX := hide hx; have HY := hide hy
  clear hx hy
  go_enter Try.func53, Try.ntmps53
  go_wp2_with fail
  have HK : Hid (TwoSt w0.heap.size w0 (.slice a na ca) (.slice b nb cb) x y ((w0.alloc (.cells #[.slice a na ca] 57)).alloc (.cells #[.slice b nb cb] 57))) :=
    { ca := by simp [go_sem], cb := by simp [go_sem], na := (unhide HX).below (below2 _ _ _), nb := (unhide HY).below (below2 _ _ _), bel := below2 _ _ _ }
  clear HX HY
  refine (unhide HF _).mono ?_
  rintro _ w1 ⟨rfl, hbl⟩
  have HK := hide ((unhide HK).below hbl)
  clear hbl
  
  go_wp2_with fail
  have HK := hide ((unhide HK).below ((Below.refl _ _).drew))
  refine wp_region_held_drew (S := fun w' => w'.cell? ⟨w0.heap.size, 0, none⟩ = some (.slice a na ca) ∧ w'.cell? ⟨w0.heap.size + 1, 0, none⟩ = some (.slice b nb cb)) (by kernel_rfl) ?_ (fun hHeld => ?_)
  · (try dsimp only)
    exact ⟨(unhide HK).ca, (unhide HK).cb⟩
  refine lst0 8 (by kernel_rfl) ?_
  refine tkA 0 18 1 ?_
  refine tkA 2 20 5 ?_
  refine tkA 5 23 37 ?_
  refine rdA 1 39 (fun Kk hKk => ?_)
  go_simp
  refine (refLen_any _ _ _ _ _ (unhide HK).na).mono ?_
  rw [unhide HLA]
  rintro _ w2 ⟨rfl, hbl⟩
  have HK := hide ((unhide HK).below hbl)
  clear hbl
  (try go_wp2_with fail)
  refine hKk.out _ _ ?_ (fun hHeld => ?_)
  · (try dsimp only)
    exact ⟨(unhide HK).ca, (unhide HK).cb⟩
  clear hKk Kk
  (try simp only [List.setIfInBounds_toArray, List.set_cons_zero, List.set_cons_succ])
  refine rdA 3 47 (fun Kk hKk => ?_)
  go_simp
  refine (refLen_any _ _ _ _ _ (unhide HK).nb).mono ?_
  rw [unhide HLB]
  rintro _ w3 ⟨rfl, hbl⟩
  have HK := hide ((unhide HK).below hbl)
  clear hbl
  (try go_wp2_with fail)
  refine hKk.out _ _ ?_ (fun hHeld => ?_)
  · (try dsimp only)
    exact ⟨(unhide HK).ca, (unhide HK).cb⟩
  clear hKk Kk
  (try simp only [List.setIfInBounds_toArray, List.set_cons_zero, List.set_cons_succ])
  refine tkA 4 22 63 ?_
  refine tkA 6 24 127 ?_
  refine tkA 7 12 255 ?_
  refine wpAnyH_done (by kernel_rfl) ?_ _
  clear hHeld
  go_wp2_with fail
  refine (unhide HL _).mono ?_
  rintro _ w4 ⟨rfl, hbl⟩
  have HK := hide ((unhide HK).below hbl)
  clear hbl
  rcases hq with ⟨xm, rfl⟩ | ⟨rfl, rfl⟩ | ⟨xm, rfl⟩
  · clear HU
    go_wp2_with fail
    refine (unhide HL _).mono ?_
    rintro _ w5 ⟨rfl, hbl⟩
    have HK := hide ((unhide HK).below hbl)
    clear hbl
    have ca' := (unhide HK).ca; have cb' := (unhide HK).cb
    go_wp2_with fail
    clear ca' cb'
    refine (unhide HG _ (unhide HK).na (unhide HK).nb).mono ?_
    rintro _ w7 ⟨s7, rfl, hN7, hbl⟩
    obtain ⟨a7, n7, c7, rfl⟩ := hN7.slice
    have HK := hide ((unhide HK).below hbl)
    clear hbl
    have HN : Hid ((w7.alloc (.cells #[.slice a7 n7 c7] 57)).cell? ⟨w7.heap.size, 0, none⟩ = some (.slice a7 n7 c7) ∧ (w7.alloc (.cells #[.slice a7 n7 c7] 57)).frozen? ⟨w7.heap.size, 0, none⟩ = false ∧ IsNat (w7.alloc (.cells #[.slice a7 n7 c7] 57)) (.slice a7 n7 c7) G) := ⟨by simp [go_sem], by simp [go_sem], hN7.below (below1 _ _)⟩
    have HB := hide (balloc (unhide HK).bel (.cells #[.slice a7 n7 c7] 57))
    have hz7 : w0.heap.size ≤ w7.heap.size := (unhide HK).bel.size
    clear hN7 HK
    go_wp2_with fail
    refine (refLen_any _ _ _ _ _ (unhide HN).2.2).mono ?_
    rw [unhide HLG]
    rintro _ w8 ⟨rfl, hbl⟩
    have HN := hide (And.intro (keep1 hbl (lt_of_cell (unhide HN).1) (unhide HN).1) (And.intro ((hbl.frozen (lt_of_cell (unhide HN).1)).trans (unhide HN).2.1) ((unhide HN).2.2.below hbl)))
    have HB := hide (bthen (unhide HB) hbl)
    clear hbl
    go_wp2_with fail
    refine (unhide HL _).mono ?_
    rintro _ w10 ⟨rfl, hbl⟩
    have HN := hide (And.intro (keep1 hbl (lt_of_cell (unhide HN).1) (unhide HN).1) (And.intro ((hbl.frozen (lt_of_cell (unhide HN).1)).trans (unhide HN).2.1) ((unhide HN).2.2.below hbl)))
    have HB := hide (bthen (unhide HB) hbl)
    clear hbl
    go_wp2_with fail
    refine (unhide HT _).mono ?_
    rintro _ w11 ⟨rfl, hbl⟩
    have HN := hide (And.intro (keep1 hbl (lt_of_cell (unhide HN).1) (unhide HN).1) (And.intro ((hbl.frozen (lt_of_cell (unhide HN).1)).trans (unhide HN).2.1) ((unhide HN).2.2.below hbl)))
    have HB := hide (bthen (unhide HB) hbl)
    clear hbl
    go_wp2_with fail
    refine (unhide HI _).mono ?_
    rintro _ w12 ⟨rfl, hbl⟩
    have HB := hide (bthen (unhide HB) hbl)
    go_wp2_with fail
    go_ret
    exact ⟨rfl, unhide HB⟩
                
  · clear HU
    go_wp2_with fail
    refine (unhide HL _).mono ?_
    rintro _ w5 ⟨rfl, hbl⟩
    have HK := hide ((unhide HK).below hbl)
    clear hbl
    have ca' := (unhide HK).ca; have cb' := (unhide HK).cb
    go_wp2_with fail
    clear ca' cb'
    refine (unhide HG _ (unhide HK).na (unhide HK).nb).mono ?_
    rintro _ w7 ⟨s7, rfl, hN7, hbl⟩
    obtain ⟨a7, n7, c7, rfl⟩ := hN7.slice
    have HK := hide ((unhide HK).below hbl)
    clear hbl
    have HN : Hid ((w7.alloc (.cells #[.slice a7 n7 c7] 57)).cell? ⟨w7.heap.size, 0, none⟩ = some (.slice a7 n7 c7) ∧ (w7.alloc (.cells #[.slice a7 n7 c7] 57)).frozen? ⟨w7.heap.size, 0, none⟩ = false ∧ IsNat (w7.alloc (.cells #[.slice a7 n7 c7] 57)) (.slice a7 n7 c7) G) := ⟨by simp [go_sem], by simp [go_sem], hN7.below (below1 _ _)⟩
    have HB := hide (balloc (unhide HK).bel (.cells #[.slice a7 n7 c7] 57))
    have hz7 : w0.heap.size ≤ w7.heap.size := (unhide HK).bel.size
    clear hN7 HK
    go_wp2_with fail
    refine (refLen_any _ _ _ _ _ (unhide HN).2.2).mono ?_
    rw [unhide HLG]
    rintro _ w8 ⟨rfl, hbl⟩
    have HN := hide (And.intro (keep1 hbl (lt_of_cell (unhide HN).1) (unhide HN).1) (And.intro ((hbl.frozen (lt_of_cell (unhide HN).1)).trans (unhide HN).2.1) ((unhide HN).2.2.below hbl)))
    have HB := hide (bthen (unhide HB) hbl)
    clear hbl
    go_wp2_with fail
    refine (unhide HL _).mono ?_
    rintro _ w10 ⟨rfl, hbl⟩
    have HN := hide (And.intro (keep1 hbl (lt_of_cell (unhide HN).1) (unhide HN).1) (And.intro ((hbl.frozen (lt_of_cell (unhide HN).1)).trans (unhide HN).2.1) ((unhide HN).2.2.below hbl)))
    have HB := hide (bthen (unhide HB) hbl)
    clear hbl
    go_wp2_with fail
    refine (unhide HT _).mono ?_
    rintro _ w11 ⟨rfl, hbl⟩
    have HN := hide (And.intro (keep1 hbl (lt_of_cell (unhide HN).1) (unhide HN).1) (And.intro ((hbl.frozen (lt_of_cell (unhide HN).1)).trans (unhide HN).2.1) ((unhide HN).2.2.below hbl)))
    have HB := hide (bthen (unhide HB) hbl)
    clear hbl
    go_wp2_with fail
    refine (unhide HI _).mono ?_
    rintro _ w12 ⟨rfl, hbl⟩
    have HB := hide (bthen (unhide HB) hbl)
    go_wp2_with fail
    go_ret
    exact ⟨rfl, unhide HB⟩
                
  · have HU := HU xm
    have xn : ¬ q < L := by omega
    have xd := dt xm
    go_wp2_with fail
    refine (unhide HL _).mono ?_
    rintro _ w5 ⟨rfl, hbl⟩
    have HK := hide ((unhide HK).below hbl)
    clear hbl
    have ca' := (unhide HK).ca; have cb' := (unhide HK).cb
    go_wp2_with fail
    clear ca' cb'
    refine (unhide HU _ (unhide HK).na (unhide HK).nb).mono ?_
    rintro _ w6 ⟨rfl, hbl⟩
    have HK := hide ((unhide HK).below hbl)
    clear hbl
    have ca' := (unhide HK).ca; have cb' := (unhide HK).cb
    go_wp2_with fail
    clear ca' cb'
    refine (unhide HG _ (unhide HK).na (unhide HK).nb).mono ?_
    rintro _ w7 ⟨s7, rfl, hN7, hbl⟩
    obtain ⟨a7, n7, c7, rfl⟩ := hN7.slice
    have HK := hide ((unhide HK).below hbl)
    clear hbl
    have HN : Hid ((w7.alloc (.cells #[.slice a7 n7 c7] 57)).cell? ⟨w7.heap.size, 0, none⟩ = some (.slice a7 n7 c7) ∧ (w7.alloc (.cells #[.slice a7 n7 c7] 57)).frozen? ⟨w7.heap.size, 0, none⟩ = false ∧ IsNat (w7.alloc (.cells #[.slice a7 n7 c7] 57)) (.slice a7 n7 c7) G) := ⟨by simp [go_sem], by simp [go_sem], hN7.below (below1 _ _)⟩
    have HB := hide (balloc (unhide HK).bel (.cells #[.slice a7 n7 c7] 57))
    have hz7 : w0.heap.size ≤ w7.heap.size := (unhide HK).bel.size
    clear hN7 HK
    go_wp2_with fail
    refine (refLen_any _ _ _ _ _ (unhide HN).2.2).mono ?_
    rw [unhide HLG]
    rintro _ w8 ⟨rfl, hbl⟩
    have HN := hide (And.intro (keep1 hbl (lt_of_cell (unhide HN).1) (unhide HN).1) (And.intro ((hbl.frozen (lt_of_cell (unhide HN).1)).trans (unhide HN).2.1) ((unhide HN).2.2.below hbl)))
    have HB := hide (bthen (unhide HB) hbl)
    clear hbl
    go_wp2_with fail
    refine (unhide HL _).mono ?_
    rintro _ w10 ⟨rfl, hbl⟩
    have HN := hide (And.intro (keep1 hbl (lt_of_cell (unhide HN).1) (unhide HN).1) (And.intro ((hbl.frozen (lt_of_cell (unhide HN).1)).trans (unhide HN).2.1) ((unhide HN).2.2.below hbl)))
    have HB := hide (bthen (unhide HB) hbl)
    clear hbl
    go_wp2_with fail
    refine (unhide HT _).mono ?_
    rintro _ w11 ⟨rfl, hbl⟩
    have HN := hide (And.intro (keep1 hbl (lt_of_cell (unhide HN).1) (unhide HN).1) (And.intro ((hbl.frozen (lt_of_cell (unhide HN).1)).trans (unhide HN).2.1) ((unhide HN).2.2.below hbl)))
    have HB := hide (bthen (unhide HB) hbl)
    clear hbl
    go_wp2_with fail
    refine (unhide HI _).mono ?_
    rintro _ w12 ⟨rfl, hbl⟩
    have HB := hide (bthen (unhide HB) hbl)
    go_wp2_with fail
    go_ret
    exact ⟨rfl, unhide HB⟩
                

set_option maxRecDepth 100000 in
set_option maxHeartbeats 8000000 in
theorem near_ss {w f L Tp P k LA LB TF q : Int} {n : Bool} (a b : Option Addr) (na ca nb cb x y G : Nat) (w0 : World) (hx : IsNat w0 (.slice a na ca) x) (hy : IsNat w0 (.slice b nb cb) y)
    (HF : Ct 23 #[.int .i64 w] (.int .i64 f)) (HL : Ct 65 #[.int .i64 w] (.int .i64 L)) (HT : Ct 21 #[.int .i64 w] (.int .i64 Tp)) (H2 : Ct 24 #[.int .i64 f] (.int .u64 P))
    (hla : (Go.bitLen x : Int) = LA) (hlb : (Go.bitLen y : Int) = LB) 
    (r1 : LA ≤ 20000) (r2 : LB ≤ 20000) (r3 : -20000 ≤ k ∧ k ≤ 20000) (r4 : 0 ≤ f ∧ f ≤ 63) (r5 : -20000 ≤ L ∧ L ≤ 20000) (r6 : -20000 ≤ Tp ∧ Tp ≤ 20000)
    (htf : LA - LB + k - f = TF) (hq : (TF < L ∧ q = L) ∨ (TF = L ∧ q = L) ∨ (L < TF ∧ q = TF))
    (HU : L < TF → Hid (∀ W, IsNat W (.slice a na ca) x → IsNat W (.slice b nb cb) y → Calls Try.prog 66 #[.agg #[.slice a na ca], .agg #[.slice b nb cb], .int .i64 (k - q - f)] W fun r W' => r = .returned (.bool false) ∧ Below W.heap.size W W'))
    (HG : Hid (∀ W, IsNat W (.slice a na ca) x → IsNat W (.slice b nb cb) y → Calls Try.prog 67 #[.agg #[.slice a na ca], .agg #[.slice b nb cb], .int .i64 (k - q)] W fun r W' => ∃ s', r = .returned (.agg #[s']) ∧ IsNat W' s' G ∧ Below W.heap.size W W'))
    {LG S V : Int} (hlg' : (Go.bitLen G : Int) = LG) (d : ¬ f + 1 < LG) (z : decide (L + Tp - 2 < q) = false) (hs : lo G = S) (t : decide (S < P) = true) (HM : Ct 14 #[.int .i64 w, .bool n, .int .i64 0, .int .u64 S] (.int .u64 V)) :
    Calls Try.prog 53 #[.int .i64 w, .bool n, .agg #[.slice a na ca], .agg #[.slice b nb cb], .int .i64 k] w0 fun r W' => r = .returned (.int .u64 V) ∧ Below w0.heap.size w0 W' := by
  have k1 : IntKind.i64.wrap (LA - LB) = LA - LB := i64_id (by omega) (by omega)
  have k2 : IntKind.i64.wrap (LA - LB + k) = LA - LB + k := i64_id (by omega) (by omega)
  have k3 : IntKind.i64.wrap (LA - LB + k - f) = TF := by rw [← htf]; exact i64_id (by omega) (by omega)
  have rq1 : -200001 ≤ q ∧ q ≤ 200000 := by rcases hq with h | h | h <;> omega
  have k5 : IntKind.i64.wrap (k - q - f) = k - q - f := i64_id (by omega) (by omega)
  have k7 : IntKind.i64.wrap (k - q) = k - q := i64_id (by omega) (by omega)
  have k8 : IntKind.i64.wrap (f + 1) = f + 1 := i64_id (by omega) (by omega)
  have k9 : IntKind.i64.wrap (q + 1) = q + 1 := i64_id (by omega) (by omega)
  have k10 : IntKind.i64.wrap (L + Tp) = L + Tp := i64_id (by omega) (by omega)
  have k11 : IntKind.i64.wrap (L + Tp - 2) = L + Tp - 2 := i64_id (by omega) (by omega)
  have HLA := hide hla; have HLB := hide hlb
  clear hla hlb r1 r2 r3 r4 r5 r6 rq1 htf
  have HLG := hide hlg'
  clear hlg'
  have HS := hide hs
  clear hs
  
  have HX := hide hx; have HY := hide hy
  clear hx hy
  go_enter Try.func53, Try.ntmps53
  go_wp2_with fail
  have HK : Hid (TwoSt w0.heap.size w0 (.slice a na ca) (.slice b nb cb) x y ((w0.alloc (.cells #[.slice a na ca] 57)).alloc (.cells #[.slice b nb cb] 57))) :=
    { ca := by simp [go_sem], cb := by simp [go_sem], na := (unhide HX).below (below2 _ _ _), nb := (unhide HY).below (below2 _ _ _), bel := below2 _ _ _ }
  clear HX HY
  refine (unhide HF _).mono ?_
  rintro _ w1 ⟨rfl, hbl⟩
  have HK := hide ((unhide HK).below hbl)
  clear hbl
  
  go_wp2_with fail
  have HK := hide ((unhide HK).below ((Below.refl _ _).drew))
  refine wp_region_held_drew (S := fun w' => w'.cell? ⟨w0.heap.size, 0, none⟩ = some (.slice a na ca) ∧ w'.cell? ⟨w0.heap.size + 1, 0, none⟩ = some (.slice b nb cb)) (by kernel_rfl) ?_ (fun hHeld => ?_)
  · (try dsimp only)
    exact ⟨(unhide HK).ca, (unhide HK).cb⟩
  refine lst0 8 (by kernel_rfl) ?_
  refine tkA 0 18 1 ?_
  refine tkA 2 20 5 ?_
  refine tkA 5 23 37 ?_
  refine rdA 1 39 (fun Kk hKk => ?_)
  go_simp
  refine (refLen_any _ _ _ _ _ (unhide HK).na).mono ?_
  rw [unhide HLA]
  rintro _ w2 ⟨rfl, hbl⟩
  have HK := hide ((unhide HK).below hbl)
  clear hbl
  (try go_wp2_with fail)
  refine hKk.out _ _ ?_ (fun hHeld => ?_)
  · (try dsimp only)
    exact ⟨(unhide HK).ca, (unhide HK).cb⟩
  clear hKk Kk
  (try simp only [List.setIfInBounds_toArray, List.set_cons_zero, List.set_cons_succ])
  refine rdA 3 47 (fun Kk hKk => ?_)
  go_simp
  refine (refLen_any _ _ _ _ _ (unhide HK).nb).mono ?_
  rw [unhide HLB]
  rintro _ w3 ⟨rfl, hbl⟩
  have HK := hide ((unhide HK).below hbl)
  clear hbl
  (try go_wp2_with fail)
  refine hKk.out _ _ ?_ (fun hHeld => ?_)
  · (try dsimp only)
    exact ⟨(unhide HK).ca, (unhide HK).cb⟩
  clear hKk Kk
  (try simp only [List.setIfInBounds_toArray, List.set_cons_zero, List.set_cons_succ])
  refine tkA 4 22 63 ?_
  refine tkA 6 24 127 ?_
  refine tkA 7 12 255 ?_
  refine wpAnyH_done (by kernel_rfl) ?_ _
  clear hHeld
  go_wp2_with fail
  refine (unhide HL _).mono ?_
  rintro _ w4 ⟨rfl, hbl⟩
  have HK := hide ((unhide HK).below hbl)
  clear hbl
  rcases hq with ⟨xm, rfl⟩ | ⟨rfl, rfl⟩ | ⟨xm, rfl⟩
  · clear HU
    go_wp2_with fail
    refine (unhide HL _).mono ?_
    rintro _ w5 ⟨rfl, hbl⟩
    have HK := hide ((unhide HK).below hbl)
    clear hbl
    have ca' := (unhide HK).ca; have cb' := (unhide HK).cb
    go_wp2_with fail
    clear ca' cb'
    refine (unhide HG _ (unhide HK).na (unhide HK).nb).mono ?_
    rintro _ w7 ⟨s7, rfl, hN7, hbl⟩
    obtain ⟨a7, n7, c7, rfl⟩ := hN7.slice
    have HK := hide ((unhide HK).below hbl)
    clear hbl
    have HN : Hid ((w7.alloc (.cells #[.slice a7 n7 c7] 57)).cell? ⟨w7.heap.size, 0, none⟩ = some (.slice a7 n7 c7) ∧ (w7.alloc (.cells #[.slice a7 n7 c7] 57)).frozen? ⟨w7.heap.size, 0, none⟩ = false ∧ IsNat (w7.alloc (.cells #[.slice a7 n7 c7] 57)) (.slice a7 n7 c7) G) := ⟨by simp [go_sem], by simp [go_sem], hN7.below (below1 _ _)⟩
    have HB := hide (balloc (unhide HK).bel (.cells #[.slice a7 n7 c7] 57))
    have hz7 : w0.heap.size ≤ w7.heap.size := (unhide HK).bel.size
    clear hN7 HK
    go_wp2_with fail
    refine (refLen_any _ _ _ _ _ (unhide HN).2.2).mono ?_
    rw [unhide HLG]
    rintro _ w8 ⟨rfl, hbl⟩
    have HN := hide (And.intro (keep1 hbl (lt_of_cell (unhide HN).1) (unhide HN).1) (And.intro ((hbl.frozen (lt_of_cell (unhide HN).1)).trans (unhide HN).2.1) ((unhide HN).2.2.below hbl)))
    have HB := hide (bthen (unhide HB) hbl)
    clear hbl
    go_wp2_with fail
    refine (unhide HL _).mono ?_
    rintro _ w10 ⟨rfl, hbl⟩
    have HN := hide (And.intro (keep1 hbl (lt_of_cell (unhide HN).1) (unhide HN).1) (And.intro ((hbl.frozen (lt_of_cell (unhide HN).1)).trans (unhide HN).2.1) ((unhide HN).2.2.below hbl)))
    have HB := hide (bthen (unhide HB) hbl)
    clear hbl
    go_wp2_with fail
    refine (unhide HT _).mono ?_
    rintro _ w11 ⟨rfl, hbl⟩
    have HN := hide (And.intro (keep1 hbl (lt_of_cell (unhide HN).1) (unhide HN).1) (And.intro ((hbl.frozen (lt_of_cell (unhide HN).1)).trans (unhide HN).2.1) ((unhide HN).2.2.below hbl)))
    have HB := hide (bthen (unhide HB) hbl)
    clear hbl
    have cn := (unhide HN).1
    go_wp2_with fail
    clear cn
    refine (uint_any _ _ _ _ _ (unhide HN).2.2).mono ?_
    rw [unhide HS]
    rintro _ w12 ⟨rfl, hbl⟩
    have HB := hide (bthen (unhide HB) hbl)
    clear hbl HN
    go_wp2_with fail
    refine (unhide H2 _).mono ?_
    rintro _ w13 ⟨rfl, hbl⟩
    have HB := hide (bthen (unhide HB) hbl)
    clear hbl
    go_wp2_with fail
    refine (unhide HM _).mono ?_
    rintro _ w14 ⟨rfl, hbl⟩
    have HB := hide (bthen (unhide HB) hbl)
    go_wp2_with fail
    go_ret
    exact ⟨rfl, unhide HB⟩
                
  · clear HU
    go_wp2_with fail
    refine (unhide HL _).mono ?_
    rintro _ w5 ⟨rfl, hbl⟩
    have HK := hide ((unhide HK).below hbl)
    clear hbl
    have ca' := (unhide HK).ca; have cb' := (unhide HK).cb
    go_wp2_with fail
    clear ca' cb'
    refine (unhide HG _ (unhide HK).na (unhide HK).nb).mono ?_
    rintro _ w7 ⟨s7, rfl, hN7, hbl⟩
    obtain ⟨a7, n7, c7, rfl⟩ := hN7.slice
    have HK := hide ((unhide HK).below hbl)
    clear hbl
    have HN : Hid ((w7.alloc (.cells #[.slice a7 n7 c7] 57)).cell? ⟨w7.heap.size, 0, none⟩ = some (.slice a7 n7 c7) ∧ (w7.alloc (.cells #[.slice a7 n7 c7] 57)).frozen? ⟨w7.heap.size, 0, none⟩ = false ∧ IsNat (w7.alloc (.cells #[.slice a7 n7 c7] 57)) (.slice a7 n7 c7) G) := ⟨by simp [go_sem], by simp [go_sem], hN7.below (below1 _ _)⟩
    have HB := hide (balloc (unhide HK).bel (.cells #[.slice a7 n7 c7] 57))
    have hz7 : w0.heap.size ≤ w7.heap.size := (unhide HK).bel.size
    clear hN7 HK
    go_wp2_with fail
    refine (refLen_any _ _ _ _ _ (unhide HN).2.2).mono ?_
    rw [unhide HLG]
    rintro _ w8 ⟨rfl, hbl⟩
    have HN := hide (And.intro (keep1 hbl (lt_of_cell (unhide HN).1) (unhide HN).1) (And.intro ((hbl.frozen (lt_of_cell (unhide HN).1)).trans (unhide HN).2.1) ((unhide HN).2.2.below hbl)))
    have HB := hide (bthen (unhide HB) hbl)
    clear hbl
    go_wp2_with fail
    refine (unhide HL _).mono ?_
    rintro _ w10 ⟨rfl, hbl⟩
    have HN := hide (And.intro (keep1 hbl (lt_of_cell (unhide HN).1) (unhide HN).1) (And.intro ((hbl.frozen (lt_of_cell (unhide HN).1)).trans (unhide HN).2.1) ((unhide HN).2.2.below hbl)))
    have HB := hide (bthen (unhide HB) hbl)
    clear hbl
    go_wp2_with fail
    refine (unhide HT _).mono ?_
    rintro _ w11 ⟨rfl, hbl⟩
    have HN := hide (And.intro (keep1 hbl (lt_of_cell (unhide HN).1) (unhide HN).1) (And.intro ((hbl.frozen (lt_of_cell (unhide HN).1)).trans (unhide HN).2.1) ((unhide HN).2.2.below hbl)))
    have HB := hide (bthen (unhide HB) hbl)
    clear hbl
    have cn := (unhide HN).1
    go_wp2_with fail
    clear cn
    refine (uint_any _ _ _ _ _ (unhide HN).2.2).mono ?_
    rw [unhide HS]
    rintro _ w12 ⟨rfl, hbl⟩
    have HB := hide (bthen (unhide HB) hbl)
    clear hbl HN
    go_wp2_with fail
    refine (unhide H2 _).mono ?_
    rintro _ w13 ⟨rfl, hbl⟩
    have HB := hide (bthen (unhide HB) hbl)
    clear hbl
    go_wp2_with fail
    refine (unhide HM _).mono ?_
    rintro _ w14 ⟨rfl, hbl⟩
    have HB := hide (bthen (unhide HB) hbl)
    go_wp2_with fail
    go_ret
    exact ⟨rfl, unhide HB⟩
                
  · have HU := HU xm
    have xn : ¬ q < L := by omega
    have xd := dt xm
    go_wp2_with fail
    refine (unhide HL _).mono ?_
    rintro _ w5 ⟨rfl, hbl⟩
    have HK := hide ((unhide HK).below hbl)
    clear hbl
    have ca' := (unhide HK).ca; have cb' := (unhide HK).cb
    go_wp2_with fail
    clear ca' cb'
    refine (unhide HU _ (unhide HK).na (unhide HK).nb).mono ?_
    rintro _ w6 ⟨rfl, hbl⟩
    have HK := hide ((unhide HK).below hbl)
    clear hbl
    have ca' := (unhide HK).ca; have cb' := (unhide HK).cb
    go_wp2_with fail
    clear ca' cb'
    refine (unhide HG _ (unhide HK).na (unhide HK).nb).mono ?_
    rintro _ w7 ⟨s7, rfl, hN7, hbl⟩
    obtain ⟨a7, n7, c7, rfl⟩ := hN7.slice
    have HK := hide ((unhide HK).below hbl)
    clear hbl
    have HN : Hid ((w7.alloc (.cells #[.slice a7 n7 c7] 57)).cell? ⟨w7.heap.size, 0, none⟩ = some (.slice a7 n7 c7) ∧ (w7.alloc (.cells #[.slice a7 n7 c7] 57)).frozen? ⟨w7.heap.size, 0, none⟩ = false ∧ IsNat (w7.alloc (.cells #[.slice a7 n7 c7] 57)) (.slice a7 n7 c7) G) := ⟨by simp [go_sem], by simp [go_sem], hN7.below (below1 _ _)⟩
    have HB := hide (balloc (unhide HK).bel (.cells #[.slice a7 n7 c7] 57))
    have hz7 : w0.heap.size ≤ w7.heap.size := (unhide HK).bel.size
    clear hN7 HK
    go_wp2_with fail
    refine (refLen_any _ _ _ _ _ (unhide HN).2.2).mono ?_
    rw [unhide HLG]
    rintro _ w8 ⟨rfl, hbl⟩
    have HN := hide (And.intro (keep1 hbl (lt_of_cell (unhide HN).1) (unhide HN).1) (And.intro ((hbl.frozen (lt_of_cell (unhide HN).1)).trans (unhide HN).2.1) ((unhide HN).2.2.below hbl)))
    have HB := hide (bthen (unhide HB) hbl)
    clear hbl
    go_wp2_with fail
    refine (unhide HL _).mono ?_
    rintro _ w10 ⟨rfl, hbl⟩
    have HN := hide (And.intro (keep1 hbl (lt_of_cell (unhide HN).1) (unhide HN).1) (And.intro ((hbl.frozen (lt_of_cell (unhide HN).1)).trans (unhide HN).2.1) ((unhide HN).2.2.below hbl)))
    have HB := hide (bthen (unhide HB) hbl)
    clear hbl
    go_wp2_with fail
    refine (unhide HT _).mono ?_
    rintro _ w11 ⟨rfl, hbl⟩
    have HN := hide (And.intro (keep1 hbl (lt_of_cell (unhide HN).1) (unhide HN).1) (And.intro ((hbl.frozen (lt_of_cell (unhide HN).1)).trans (unhide HN).2.1) ((unhide HN).2.2.below hbl)))
    have HB := hide (bthen (unhide HB) hbl)
    clear hbl
    have cn := (unhide HN).1
    go_wp2_with fail
    clear cn
    refine (uint_any _ _ _ _ _ (unhide HN).2.2).mono ?_
    rw [unhide HS]
    rintro _ w12 ⟨rfl, hbl⟩
    have HB := hide (bthen (unhide HB) hbl)
    clear hbl HN
    go_wp2_with fail
    refine (unhide H2 _).mono ?_
    rintro _ w13 ⟨rfl, hbl⟩
    have HB := hide (bthen (unhide HB) hbl)
    clear hbl
    go_wp2_with fail
    refine (unhide HM _).mono ?_
    rintro _ w14 ⟨rfl, hbl⟩
    have HB := hide (bthen (unhide HB) hbl)
    go_wp2_with fail
    go_ret
    exact ⟨rfl, unhide HB⟩
                

end Go.Proofs.Ytahdcbjfabccpaa
