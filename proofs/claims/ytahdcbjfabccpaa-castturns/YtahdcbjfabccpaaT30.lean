/- NearA. -/
import Derived.Test.YtahdcbjfabccpaaT01
import Derived.Test.YtahdcbjfabccpaaT27
import Derived.Test.YtahdcbjfabccpaaT28
namespace Go.Proofs.Ytahdcbjfabccpaa
open Go.RowKit
open Go.Proofs.Ytahdcbjfabccpaa.W

set_option maxRecDepth 100000 in
set_option maxHeartbeats 8000000 in
theorem near_si {w f L Tp P k LA LB TF q : Int} {n : Bool} (a b : Option Addr) (na ca nb cb x y G : Nat) (w0 : World) (hx : IsNat w0 (.slice a na ca) x) (hy : IsNat w0 (.slice b nb cb) y)
    (HF : Ct 23 #[.int .i64 w] (.int .i64 f)) (HL : Ct 65 #[.int .i64 w] (.int .i64 L)) (HT : Ct 21 #[.int .i64 w] (.int .i64 Tp)) (_ : Ct 24 #[.int .i64 f] (.int .u64 P))
    (hla : (Go.bitLen x : Int) = LA) (hlb : (Go.bitLen y : Int) = LB) 
    (r1 : LA ≤ 20000) (r2 : LB ≤ 20000) (r3 : -20000 ≤ k ∧ k ≤ 20000) (r4 : 0 ≤ f ∧ f ≤ 63) (r5 : -20000 ≤ L ∧ L ≤ 20000) (r6 : -20000 ≤ Tp ∧ Tp ≤ 20000)
    (htf : LA - LB + k - f = TF) (hq : (TF < L ∧ q = L) ∨ (TF = L ∧ q = L) ∨ (L < TF ∧ q = TF))
    (HU : L < TF → Hid (∀ W, IsNat W (.slice a na ca) x → IsNat W (.slice b nb cb) y → Calls Try.prog 66 #[.agg #[.slice a na ca], .agg #[.slice b nb cb], .int .i64 (k - q - f)] W fun r W' => r = .returned (.bool false) ∧ Below W.heap.size W W'))
    (HG : Hid (∀ W, IsNat W (.slice a na ca) x → IsNat W (.slice b nb cb) y → Calls Try.prog 67 #[.agg #[.slice a na ca], .agg #[.slice b nb cb], .int .i64 (k - q)] W fun r W' => ∃ s', r = .returned (.agg #[s']) ∧ IsNat W' s' G ∧ Below W.heap.size W W'))
    {LG VI : Int} (hlg' : (Go.bitLen G : Int) = LG) (d : ¬ f + 1 < LG) (z : decide (L + Tp - 2 < q) = true) (HI : Ct 16 #[.int .i64 w, .bool n] (.int .u64 VI)) :
    Calls Try.prog 53 #[.int .i64 w, .bool n, .agg #[.slice a na ca], .agg #[.slice b nb cb], .int .i64 k] w0 fun r W' => r = .returned (.int .u64 VI) ∧ Below w0.heap.size w0 W' := by
  have k1 : IntKind.i64.wrap (LA - LB) = LA - LB := i64_id (by omega) (by omega)
  have k2 : IntKind.i64.wrap (LA - LB + k) = LA - LB + k := i64_id (by omega) (by omega)
  have k3 : IntKind.i64.wrap (LA - LB + k - f) = TF := by rw [← htf]; exact i64_id (by omega) (by omega)
  have rq1 : -200001 ≤ q ∧ q ≤ 200000 := by rcases hq with h | h | h <;> omega
  have k5 : IntKind.i64.wrap (k - q - f) = k - q - f := i64_id (by omega) (by omega)
  have k7 : IntKind.i64.wrap (k - q) = k - q := i64_id (by omega) (by omega)
  have k8 : IntKind.i64.wrap (f + 1) = f + 1 := i64_id (by omega) (by omega)
  have k9 : IntKind.i64.wrap (q + 1) = q + 1 := i64_id (by omega) (by omega)
  have k10 : IntKind.i64.wrap (L + Tp) = L + Tp := i64_id (by omega) (by omega)
  have k11 : IntKind.i64.wrap (L + Tp - 2) = L + Tp - 2 := i64_id (by omega) (by omega)
  have HLA := hide hla; have HLB := hide hlb
  clear hla hlb r1 r2 r3 r4 r5 r6 rq1 htf
  have HLG := hide hlg'
  clear hlg'
  
  have HX := hide hx; have HY := hide hy
  clear hx hy
  go_enter Try.func53, Try.ntmps53
  go_wp2_with fail
  have HK : Hid (TwoSt w0.heap.size w0 (.slice a na ca) (.slice b nb cb) x y ((w0.alloc (.cells #[.slice a na ca] 57)).alloc (.cells #[.slice b nb cb] 57))) :=
    { ca := by simp [go_sem], cb := by simp [go_sem], na := (unhide HX).below (below2 _ _ _), nb := (unhide HY).below (below2 _ _ _), bel := below2 _ _ _ }
  clear HX HY
  refine (unhide HF _).mono ?_
  rintro _ w1 ⟨rfl, hbl⟩
  have HK := hide ((unhide HK).below hbl)
  clear hbl
  
  go_wp2_with fail
  have HK := hide ((unhide HK).below ((Below.refl _ _).drew))
  refine wp_region_held_drew (S := fun w' => w'.cell? ⟨w0.heap.size, 0, none⟩ = some (.slice a na ca) ∧ w'.cell? ⟨w0.heap.size + 1, 0, none⟩ = some (.slice b nb cb)) (by kernel_rfl) ?_ (fun hHeld => ?_)
  · (try dsimp only)
    exact ⟨(unhide HK).ca, (unhide HK).cb⟩
  refine lst0 8 (by kernel_rfl) ?_
  refine tkA 0 18 1 ?_
  refine tkA 2 20 5 ?_
  refine tkA 5 23 37 ?_
  refine rdA 1 39 (fun Kk hKk => ?_)
  go_simp
  refine (refLen_any _ _ _ _ _ (unhide HK).na).mono ?_
  rw [unhide HLA]
  rintro _ w2 ⟨rfl, hbl⟩
  have HK := hide ((unhide HK).below hbl)
  clear hbl
  (try go_wp2_with fail)
  refine hKk.out _ _ ?_ (fun hHeld => ?_)
  · (try dsimp only)
    exact ⟨(unhide HK).ca, (unhide HK).cb⟩
  clear hKk Kk
  (try simp only [List.setIfInBounds_toArray, List.set_cons_zero, List.set_cons_succ])
  refine rdA 3 47 (fun Kk hKk => ?_)
  go_simp
  refine (refLen_any _ _ _ _ _ (unhide HK).nb).mono ?_
  rw [unhide HLB]
  rintro _ w3 ⟨rfl, hbl⟩
  have HK := hide ((unhide HK).below hbl)
  clear hbl
  (try go_wp2_with fail)
  refine hKk.out _ _ ?_ (fun hHeld => ?_)
  · (try dsimp only)
    exact ⟨(unhide HK).ca, (unhide HK).cb⟩
  clear hKk Kk
  (try simp only [List.setIfInBounds_toArray, List.set_cons_zero, List.set_cons_succ])
  refine tkA 4 22 63 ?_
  refine tkA 6 24 127 ?_
  refine tkA 7 12 255 ?_
  refine wpAnyH_done (by kernel_rfl) ?_ _
  clear hHeld
  go_wp2_with fail
  refine (unhide HL _).mono ?_
  rintro _ w4 ⟨rfl, hbl⟩
  have HK := hide ((unhide HK).below hbl)
  clear hbl
  rcases hq with ⟨xm, rfl⟩ | ⟨rfl, rfl⟩ | ⟨xm, rfl⟩
  · clear HU
    go_wp2_with fail
    refine (unhide HL _).mono ?_
    rintro _ w5 ⟨rfl, hbl⟩
    have HK := hide ((unhide HK).below hbl)
    clear hbl
    have ca' := (unhide HK).ca; have cb' := (unhide HK).cb
    go_wp2_with fail
    clear ca' cb'
    refine (unhide HG _ (unhide HK).na (unhide HK).nb).mono ?_
    rintro _ w7 ⟨s7, rfl, hN7, hbl⟩
    obtain ⟨a7, n7, c7, rfl⟩ := hN7.slice
    have HK := hide ((unhide HK).below hbl)
    clear hbl
    have HN : Hid ((w7.alloc (.cells #[.slice a7 n7 c7] 57)).cell? ⟨w7.heap.size, 0, none⟩ = some (.slice a7 n7 c7) ∧ (w7.alloc (.cells #[.slice a7 n7 c7] 57)).frozen? ⟨w7.heap.size, 0, none⟩ = false ∧ IsNat (w7.alloc (.cells #[.slice a7 n7 c7] 57)) (.slice a7 n7 c7) G) := ⟨by simp [go_sem], by simp [go_sem], hN7.below (below1 _ _)⟩
    have HB := hide (balloc (unhide HK).bel (.cells #[.slice a7 n7 c7] 57))
    have hz7 : w0.heap.size ≤ w7.heap.size := (unhide HK).bel.size
    clear hN7 HK
    go_wp2_with fail
    refine (refLen_any _ _ _ _ _ (unhide HN).2.2).mono ?_
    rw [unhide HLG]
    rintro _ w8 ⟨rfl, hbl⟩
    have HN := hide (And.intro (keep1 hbl (lt_of_cell (unhide HN).1) (unhide HN).1) (And.intro ((hbl.frozen (lt_of_cell (unhide HN).1)).trans (unhide HN).2.1) ((unhide HN).2.2.below hbl)))
    have HB := hide (bthen (unhide HB) hbl)
    clear hbl
    go_wp2_with fail
    refine (unhide HL _).mono ?_
    rintro _ w10 ⟨rfl, hbl⟩
    have HN := hide (And.intro (keep1 hbl (lt_of_cell (unhide HN).1) (unhide HN).1) (And.intro ((hbl.frozen (lt_of_cell (unhide HN).1)).trans (unhide HN).2.1) ((unhide HN).2.2.below hbl)))
    have HB := hide (bthen (unhide HB) hbl)
    clear hbl
    go_wp2_with fail
    refine (unhide HT _).mono ?_
    rintro _ w11 ⟨rfl, hbl⟩
    have HN := hide (And.intro (keep1 hbl (lt_of_cell (unhide HN).1) (unhide HN).1) (And.intro ((hbl.frozen (lt_of_cell (unhide HN).1)).trans (unhide HN).2.1) ((unhide HN).2.2.below hbl)))
    have HB := hide (bthen (unhide HB) hbl)
    clear hbl
    go_wp2_with fail
    refine (unhide HI _).mono ?_
    rintro _ w12 ⟨rfl, hbl⟩
    have HB := hide (bthen (unhide HB) hbl)
    go_wp2_with fail
    go_ret
    exact ⟨rfl, unhide HB⟩
                
  · clear HU
    go_wp2_with fail
    refine (unhide HL _).mono ?_
    rintro _ w5 ⟨rfl, hbl⟩
    have HK := hide ((unhide HK).below hbl)
    clear hbl
    have ca' := (unhide HK).ca; have cb' := (unhide HK).cb
    go_wp2_with fail
    clear ca' cb'
    refine (unhide HG _ (unhide HK).na (unhide HK).nb).mono ?_
    rintro _ w7 ⟨s7, rfl, hN7, hbl⟩
    obtain ⟨a7, n7, c7, rfl⟩ := hN7.slice
    have HK := hide ((unhide HK).below hbl)
    clear hbl
    have HN : Hid ((w7.alloc (.cells #[.slice a7 n7 c7] 57)).cell? ⟨w7.heap.size, 0, none⟩ = some (.slice a7 n7 c7) ∧ (w7.alloc (.cells #[.slice a7 n7 c7] 57)).frozen? ⟨w7.heap.size, 0, none⟩ = false ∧ IsNat (w7.alloc (.cells #[.slice a7 n7 c7] 57)) (.slice a7 n7 c7) G) := ⟨by simp [go_sem], by simp [go_sem], hN7.below (below1 _ _)⟩
    have HB := hide (balloc (unhide HK).bel (.cells #[.slice a7 n7 c7] 57))
    have hz7 : w0.heap.size ≤ w7.heap.size := (unhide HK).bel.size
    clear hN7 HK
    go_wp2_with fail
    refine (refLen_any _ _ _ _ _ (unhide HN).2.2).mono ?_
    rw [unhide HLG]
    rintro _ w8 ⟨rfl, hbl⟩
    have HN := hide (And.intro (keep1 hbl (lt_of_cell (unhide HN).1) (unhide HN).1) (And.intro ((hbl.frozen (lt_of_cell (unhide HN).1)).trans (unhide HN).2.1) ((unhide HN).2.2.below hbl)))
    have HB := hide (bthen (unhide HB) hbl)
    clear hbl
    go_wp2_with fail
    refine (unhide HL _).mono ?_
    rintro _ w10 ⟨rfl, hbl⟩
    have HN := hide (And.intro (keep1 hbl (lt_of_cell (unhide HN).1) (unhide HN).1) (And.intro ((hbl.frozen (lt_of_cell (unhide HN).1)).trans (unhide HN).2.1) ((unhide HN).2.2.below hbl)))
    have HB := hide (bthen (unhide HB) hbl)
    clear hbl
    go_wp2_with fail
    refine (unhide HT _).mono ?_
    rintro _ w11 ⟨rfl, hbl⟩
    have HN := hide (And.intro (keep1 hbl (lt_of_cell (unhide HN).1) (unhide HN).1) (And.intro ((hbl.frozen (lt_of_cell (unhide HN).1)).trans (unhide HN).2.1) ((unhide HN).2.2.below hbl)))
    have HB := hide (bthen (unhide HB) hbl)
    clear hbl
    go_wp2_with fail
    refine (unhide HI _).mono ?_
    rintro _ w12 ⟨rfl, hbl⟩
    have HB := hide (bthen (unhide HB) hbl)
    go_wp2_with fail
    go_ret
    exact ⟨rfl, unhide HB⟩
                
  · have HU := HU xm
    have xn : ¬ q < L := by omega
    have xd := dt xm
    go_wp2_with fail
    refine (unhide HL _).mono ?_
    rintro _ w5 ⟨rfl, hbl⟩
    have HK := hide ((unhide HK).below hbl)
    clear hbl
    have ca' := (unhide HK).ca; have cb' := (unhide HK).cb
    go_wp2_with fail
    clear ca' cb'
    refine (unhide HU _ (unhide HK).na (unhide HK).nb).mono ?_
    rintro _ w6 ⟨rfl, hbl⟩
    have HK := hide ((unhide HK).below hbl)
    clear hbl
    have ca' := (unhide HK).ca; have cb' := (unhide HK).cb
    go_wp2_with fail
    clear ca' cb'
    refine (unhide HG _ (unhide HK).na (unhide HK).nb).mono ?_
    rintro _ w7 ⟨s7, rfl, hN7, hbl⟩
    obtain ⟨a7, n7, c7, rfl⟩ := hN7.slice
    have HK := hide ((unhide HK).below hbl)
    clear hbl
    have HN : Hid ((w7.alloc (.cells #[.slice a7 n7 c7] 57)).cell? ⟨w7.heap.size, 0, none⟩ = some (.slice a7 n7 c7) ∧ (w7.alloc (.cells #[.slice a7 n7 c7] 57)).frozen? ⟨w7.heap.size, 0, none⟩ = false ∧ IsNat (w7.alloc (.cells #[.slice a7 n7 c7] 57)) (.slice a7 n7 c7) G) := ⟨by simp [go_sem], by simp [go_sem], hN7.below (below1 _ _)⟩
    have HB := hide (balloc (unhide HK).bel (.cells #[.slice a7 n7 c7] 57))
    have hz7 : w0.heap.size ≤ w7.heap.size := (unhide HK).bel.size
    clear hN7 HK
    go_wp2_with fail
    refine (refLen_any _ _ _ _ _ (unhide HN).2.2).mono ?_
    rw [unhide HLG]
    rintro _ w8 ⟨rfl, hbl⟩
    have HN := hide (And.intro (keep1 hbl (lt_of_cell (unhide HN).1) (unhide HN).1) (And.intro ((hbl.frozen (lt_of_cell (unhide HN).1)).trans (unhide HN).2.1) ((unhide HN).2.2.below hbl)))
    have HB := hide (bthen (unhide HB) hbl)
    clear hbl
    go_wp2_with fail
    refine (unhide HL _).mono ?_
    rintro _ w10 ⟨rfl, hbl⟩
    have HN := hide (And.intro (keep1 hbl (lt_of_cell (unhide HN).1) (unhide HN).1) (And.intro ((hbl.frozen (lt_of_cell (unhide HN).1)).trans (unhide HN).2.1) ((unhide HN).2.2.below hbl)))
    have HB := hide (bthen (unhide HB) hbl)
    clear hbl
    go_wp2_with fail
    refine (unhide HT _).mono ?_
    rintro _ w11 ⟨rfl, hbl⟩
    have HN := hide (And.intro (keep1 hbl (lt_of_cell (unhide HN).1) (unhide HN).1) (And.intro ((hbl.frozen (lt_of_cell (unhide HN).1)).trans (unhide HN).2.1) ((unhide HN).2.2.below hbl)))
    have HB := hide (bthen (unhide HB) hbl)
    clear hbl
    go_wp2_with fail
    refine (unhide HI _).mono ?_
    rintro _ w12 ⟨rfl, hbl⟩
    have HB := hide (bthen (unhide HB) hbl)
    go_wp2_with fail
    go_ret
    exact ⟨rfl, unhide HB⟩
                

set_option maxRecDepth 100000 in
set_option maxHeartbeats 8000000 in
theorem near_ss {w f L Tp P k LA LB TF q : Int} {n : Bool} (a b : Option Addr) (na ca nb cb x y G : Nat) (w0 : World) (hx : IsNat w0 (.slice a na ca) x) (hy : IsNat w0 (.slice b nb cb) y)
    (HF : Ct 23 #[.int .i64 w] (.int .i64 f)) (HL : Ct 65 #[.int .i64 w] (.int .i64 L)) (HT : Ct 21 #[.int .i64 w] (.int .i64 Tp)) (H2 : Ct 24 #[.int .i64 f] (.int .u64 P))
    (hla : (Go.bitLen x : Int) = LA) (hlb : (Go.bitLen y : Int) = LB) 
    (r1 : LA ≤ 20000) (r2 : LB ≤ 20000) (r3 : -20000 ≤ k ∧ k ≤ 20000) (r4 : 0 ≤ f ∧ f ≤ 63) (r5 : -20000 ≤ L ∧ L ≤ 20000) (r6 : -20000 ≤ Tp ∧ Tp ≤ 20000)
    (htf : LA - LB + k - f = TF) (hq : (TF < L ∧ q = L) ∨ (TF = L ∧ q = L) ∨ (L < TF ∧ q = TF))
    (HU : L < TF → Hid (∀ W, IsNat W (.slice a na ca) x → IsNat W (.slice b nb cb) y → Calls Try.prog 66 #[.agg #[.slice a na ca], .agg #[.slice b nb cb], .int .i64 (k - q - f)] W fun r W' => r = .returned (.bool false) ∧ Below W.heap.size W W'))
    (HG : Hid (∀ W, IsNat W (.slice a na ca) x → IsNat W (.slice b nb cb) y → Calls Try.prog 67 #[.agg #[.slice a na ca], .agg #[.slice b nb cb], .int .i64 (k - q)] W fun r W' => ∃ s', r = .returned (.agg #[s']) ∧ IsNat W' s' G ∧ Below W.heap.size W W'))
    {LG S V : Int} (hlg' : (Go.bitLen G : Int) = LG) (d : ¬ f + 1 < LG) (z : decide (L + Tp - 2 < q) = false) (hs : lo G = S) (t : decide (S < P) = true) (HM : Ct 14 #[.int .i64 w, .bool n, .int .i64 0, .int .u64 S] (.int .u64 V)) :
    Calls Try.prog 53 #[.int .i64 w, .bool n, .agg #[.slice a na ca], .agg #[.slice b nb cb], .int .i64 k] w0 fun r W' => r = .returned (.int .u64 V) ∧ Below w0.heap.size w0 W' := by
  have k1 : IntKind.i64.wrap (LA - LB) = LA - LB := i64_id (by omega) (by omega)
  have k2 : IntKind.i64.wrap (LA - LB + k) = LA - LB + k := i64_id (by omega) (by omega)
  have k3 : IntKind.i64.wrap (LA - LB + k - f) = TF := by rw [← htf]; exact i64_id (by omega) (by omega)
  have rq1 : -200001 ≤ q ∧ q ≤ 200000 := by rcases hq with h | h | h <;> omega
  have k5 : IntKind.i64.wrap (k - q - f) = k - q - f := i64_id (by omega) (by omega)
  have k7 : IntKind.i64.wrap (k - q) = k - q := i64_id (by omega) (by omega)
  have k8 : IntKind.i64.wrap (f + 1) = f + 1 := i64_id (by omega) (by omega)
  have k9 : IntKind.i64.wrap (q + 1) = q + 1 := i64_id (by omega) (by omega)
  have k10 : IntKind.i64.wrap (L + Tp) = L + Tp := i64_id (by omega) (by omega)
  have k11 : IntKind.i64.wrap (L + Tp - 2) = L + Tp - 2 := i64_id (by omega) (by omega)
  have HLA := hide hla; have HLB := hide hlb
  clear hla hlb r1 r2 r3 r4 r5 r6 rq1 htf
  have HLG := hide hlg'
  clear hlg'
  have HS := hide hs
  clear hs
  
  have HX := hide hx; have HY := hide hy
  clear hx hy
  go_enter Try.func53, Try.ntmps53
  go_wp2_with fail
  have HK : Hid (TwoSt w0.heap.size w0 (.slice a na ca) (.slice b nb cb) x y ((w0.alloc (.cells #[.slice a na ca] 57)).alloc (.cells #[.slice b nb cb] 57))) :=
    { ca := by simp [go_sem], cb := by simp [go_sem], na := (unhide HX).below (below2 _ _ _), nb := (unhide HY).below (below2 _ _ _), bel := below2 _ _ _ }
  clear HX HY
  refine (unhide HF _).mono ?_
  rintro _ w1 ⟨rfl, hbl⟩
  have HK := hide ((unhide HK).below hbl)
  clear hbl
  
  go_wp2_with fail
  have HK := hide ((unhide HK).below ((Below.refl _ _).drew))
  refine wp_region_held_drew (S := fun w' => w'.cell? ⟨w0.heap.size, 0, none⟩ = some (.slice a na ca) ∧ w'.cell? ⟨w0.heap.size + 1, 0, none⟩ = some (.slice b nb cb)) (by kernel_rfl) ?_ (fun hHeld => ?_)
  · (try dsimp only)
    exact ⟨(unhide HK).ca, (unhide HK).cb⟩
  refine lst0 8 (by kernel_rfl) ?_
  refine tkA 0 18 1 ?_
  refine tkA 2 20 5 ?_
  refine tkA 5 23 37 ?_
  refine rdA 1 39 (fun Kk hKk => ?_)
  go_simp
  refine (refLen_any _ _ _ _ _ (unhide HK).na).mono ?_
  rw [unhide HLA]
  rintro _ w2 ⟨rfl, hbl⟩
  have HK := hide ((unhide HK).below hbl)
  clear hbl
  (try go_wp2_with fail)
  refine hKk.out _ _ ?_ (fun hHeld => ?_)
  · (try dsimp only)
    exact ⟨(unhide HK).ca, (unhide HK).cb⟩
  clear hKk Kk
  (try simp only [List.setIfInBounds_toArray, List.set_cons_zero, List.set_cons_succ])
  refine rdA 3 47 (fun Kk hKk => ?_)
  go_simp
  refine (refLen_any _ _ _ _ _ (unhide HK).nb).mono ?_
  rw [unhide HLB]
  rintro _ w3 ⟨rfl, hbl⟩
  have HK := hide ((unhide HK).below hbl)
  clear hbl
  (try go_wp2_with fail)
  refine hKk.out _ _ ?_ (fun hHeld => ?_)
  · (try dsimp only)
    exact ⟨(unhide HK).ca, (unhide HK).cb⟩
  clear hKk Kk
  (try simp only [List.setIfInBounds_toArray, List.set_cons_zero, List.set_cons_succ])
  refine tkA 4 22 63 ?_
  refine tkA 6 24 127 ?_
  refine tkA 7 12 255 ?_
  refine wpAnyH_done (by kernel_rfl) ?_ _
  clear hHeld
  go_wp2_with fail
  refine (unhide HL _).mono ?_
  rintro _ w4 ⟨rfl, hbl⟩
  have HK := hide ((unhide HK).below hbl)
  clear hbl
  rcases hq with ⟨xm, rfl⟩ | ⟨rfl, rfl⟩ | ⟨xm, rfl⟩
  · clear HU
    go_wp2_with fail
    refine (unhide HL _).mono ?_
    rintro _ w5 ⟨rfl, hbl⟩
    have HK := hide ((unhide HK).below hbl)
    clear hbl
    have ca' := (unhide HK).ca; have cb' := (unhide HK).cb
    go_wp2_with fail
    clear ca' cb'
    refine (unhide HG _ (unhide HK).na (unhide HK).nb).mono ?_
    rintro _ w7 ⟨s7, rfl, hN7, hbl⟩
    obtain ⟨a7, n7, c7, rfl⟩ := hN7.slice
    have HK := hide ((unhide HK).below hbl)
    clear hbl
    have HN : Hid ((w7.alloc (.cells #[.slice a7 n7 c7] 57)).cell? ⟨w7.heap.size, 0, none⟩ = some (.slice a7 n7 c7) ∧ (w7.alloc (.cells #[.slice a7 n7 c7] 57)).frozen? ⟨w7.heap.size, 0, none⟩ = false ∧ IsNat (w7.alloc (.cells #[.slice a7 n7 c7] 57)) (.slice a7 n7 c7) G) := ⟨by simp [go_sem], by simp [go_sem], hN7.below (below1 _ _)⟩
    have HB := hide (balloc (unhide HK).bel (.cells #[.slice a7 n7 c7] 57))
    have hz7 : w0.heap.size ≤ w7.heap.size := (unhide HK).bel.size
    clear hN7 HK
    go_wp2_with fail
    refine (refLen_any _ _ _ _ _ (unhide HN).2.2).mono ?_
    rw [unhide HLG]
    rintro _ w8 ⟨rfl, hbl⟩
    have HN := hide (And.intro (keep1 hbl (lt_of_cell (unhide HN).1) (unhide HN).1) (And.intro ((hbl.frozen (lt_of_cell (unhide HN).1)).trans (unhide HN).2.1) ((unhide HN).2.2.below hbl)))
    have HB := hide (bthen (unhide HB) hbl)
    clear hbl
    go_wp2_with fail
    refine (unhide HL _).mono ?_
    rintro _ w10 ⟨rfl, hbl⟩
    have HN := hide (And.intro (keep1 hbl (lt_of_cell (unhide HN).1) (unhide HN).1) (And.intro ((hbl.frozen (lt_of_cell (unhide HN).1)).trans (unhide HN).2.1) ((unhide HN).2.2.below hbl)))
    have HB := hide (bthen (unhide HB) hbl)
    clear hbl
    go_wp2_with fail
    refine (unhide HT _).mono ?_
    rintro _ w11 ⟨rfl, hbl⟩
    have HN := hide (And.intro (keep1 hbl (lt_of_cell (unhide HN).1) (unhide HN).1) (And.intro ((hbl.frozen (lt_of_cell (unhide HN).1)).trans (unhide HN).2.1) ((unhide HN).2.2.below hbl)))
    have HB := hide (bthen (unhide HB) hbl)
    clear hbl
    have cn := (unhide HN).1
    go_wp2_with fail
    clear cn
    refine (uint_any _ _ _ _ _ (unhide HN).2.2).mono ?_
    rw [unhide HS]
    rintro _ w12 ⟨rfl, hbl⟩
    have HB := hide (bthen (unhide HB) hbl)
    clear hbl HN
    go_wp2_with fail
    refine (unhide H2 _).mono ?_
    rintro _ w13 ⟨rfl, hbl⟩
    have HB := hide (bthen (unhide HB) hbl)
    clear hbl
    go_wp2_with fail
    refine (unhide HM _).mono ?_
    rintro _ w14 ⟨rfl, hbl⟩
    have HB := hide (bthen (unhide HB) hbl)
    go_wp2_with fail
    go_ret
    exact ⟨rfl, unhide HB⟩
                
  · clear HU
    go_wp2_with fail
    refine (unhide HL _).mono ?_
    rintro _ w5 ⟨rfl, hbl⟩
    have HK := hide ((unhide HK).below hbl)
    clear hbl
    have ca' := (unhide HK).ca; have cb' := (unhide HK).cb
    go_wp2_with fail
    clear ca' cb'
    refine (unhide HG _ (unhide HK).na (unhide HK).nb).mono ?_
    rintro _ w7 ⟨s7, rfl, hN7, hbl⟩
    obtain ⟨a7, n7, c7, rfl⟩ := hN7.slice
    have HK := hide ((unhide HK).below hbl)
    clear hbl
    have HN : Hid ((w7.alloc (.cells #[.slice a7 n7 c7] 57)).cell? ⟨w7.heap.size, 0, none⟩ = some (.slice a7 n7 c7) ∧ (w7.alloc (.cells #[.slice a7 n7 c7] 57)).frozen? ⟨w7.heap.size, 0, none⟩ = false ∧ IsNat (w7.alloc (.cells #[.slice a7 n7 c7] 57)) (.slice a7 n7 c7) G) := ⟨by simp [go_sem], by simp [go_sem], hN7.below (below1 _ _)⟩
    have HB := hide (balloc (unhide HK).bel (.cells #[.slice a7 n7 c7] 57))
    have hz7 : w0.heap.size ≤ w7.heap.size := (unhide HK).bel.size
    clear hN7 HK
    go_wp2_with fail
    refine (refLen_any _ _ _ _ _ (unhide HN).2.2).mono ?_
    rw [unhide HLG]
    rintro _ w8 ⟨rfl, hbl⟩
    have HN := hide (And.intro (keep1 hbl (lt_of_cell (unhide HN).1) (unhide HN).1) (And.intro ((hbl.frozen (lt_of_cell (unhide HN).1)).trans (unhide HN).2.1) ((unhide HN).2.2.below hbl)))
    have HB := hide (bthen (unhide HB) hbl)
    clear hbl
    go_wp2_with fail
    refine (unhide HL _).mono ?_
    rintro _ w10 ⟨rfl, hbl⟩
    have HN := hide (And.intro (keep1 hbl (lt_of_cell (unhide HN).1) (unhide HN).1) (And.intro ((hbl.frozen (lt_of_cell (unhide HN).1)).trans (unhide HN).2.1) ((unhide HN).2.2.below hbl)))
    have HB := hide (bthen (unhide HB) hbl)
    clear hbl
    go_wp2_with fail
    refine (unhide HT _).mono ?_
    rintro _ w11 ⟨rfl, hbl⟩
    have HN := hide (And.intro (keep1 hbl (lt_of_cell (unhide HN).1) (unhide HN).1) (And.intro ((hbl.frozen (lt_of_cell (unhide HN).1)).trans (unhide HN).2.1) ((unhide HN).2.2.below hbl)))
    have HB := hide (bthen (unhide HB) hbl)
    clear hbl
    have cn := (unhide HN).1
    go_wp2_with fail
    clear cn
    refine (uint_any _ _ _ _ _ (unhide HN).2.2).mono ?_
    rw [unhide HS]
    rintro _ w12 ⟨rfl, hbl⟩
    have HB := hide (bthen (unhide HB) hbl)
    clear hbl HN
    go_wp2_with fail
    refine (unhide H2 _).mono ?_
    rintro _ w13 ⟨rfl, hbl⟩
    have HB := hide (bthen (unhide HB) hbl)
    clear hbl
    go_wp2_with fail
    refine (unhide HM _).mono ?_
    rintro _ w14 ⟨rfl, hbl⟩
    have HB := hide (bthen (unhide HB) hbl)
    go_wp2_with fail
    go_ret
    exact ⟨rfl, unhide HB⟩
                
  · have HU := HU xm
    have xn : ¬ q < L := by omega
    have xd := dt xm
    go_wp2_with fail
    refine (unhide HL _).mono ?_
    rintro _ w5 ⟨rfl, hbl⟩
    have HK := hide ((unhide HK).below hbl)
    clear hbl
    have ca' := (unhide HK).ca; have cb' := (unhide HK).cb
    go_wp2_with fail
    clear ca' cb'
    refine (unhide HU _ (unhide HK).na (unhide HK).nb).mono ?_
    rintro _ w6 ⟨rfl, hbl⟩
    have HK := hide ((unhide HK).below hbl)
    clear hbl
    have ca' := (unhide HK).ca; have cb' := (unhide HK).cb
    go_wp2_with fail
    clear ca' cb'
    refine (unhide HG _ (unhide HK).na (unhide HK).nb).mono ?_
    rintro _ w7 ⟨s7, rfl, hN7, hbl⟩
    obtain ⟨a7, n7, c7, rfl⟩ := hN7.slice
    have HK := hide ((unhide HK).below hbl)
    clear hbl
    have HN : Hid ((w7.alloc (.cells #[.slice a7 n7 c7] 57)).cell? ⟨w7.heap.size, 0, none⟩ = some (.slice a7 n7 c7) ∧ (w7.alloc (.cells #[.slice a7 n7 c7] 57)).frozen? ⟨w7.heap.size, 0, none⟩ = false ∧ IsNat (w7.alloc (.cells #[.slice a7 n7 c7] 57)) (.slice a7 n7 c7) G) := ⟨by simp [go_sem], by simp [go_sem], hN7.below (below1 _ _)⟩
    have HB := hide (balloc (unhide HK).bel (.cells #[.slice a7 n7 c7] 57))
    have hz7 : w0.heap.size ≤ w7.heap.size := (unhide HK).bel.size
    clear hN7 HK
    go_wp2_with fail
    refine (refLen_any _ _ _ _ _ (unhide HN).2.2).mono ?_
    rw [unhide HLG]
    rintro _ w8 ⟨rfl, hbl⟩
    have HN := hide (And.intro (keep1 hbl (lt_of_cell (unhide HN).1) (unhide HN).1) (And.intro ((hbl.frozen (lt_of_cell (unhide HN).1)).trans (unhide HN).2.1) ((unhide HN).2.2.below hbl)))
    have HB := hide (bthen (unhide HB) hbl)
    clear hbl
    go_wp2_with fail
    refine (unhide HL _).mono ?_
    rintro _ w10 ⟨rfl, hbl⟩
    have HN := hide (And.intro (keep1 hbl (lt_of_cell (unhide HN).1) (unhide HN).1) (And.intro ((hbl.frozen (lt_of_cell (unhide HN).1)).trans (unhide HN).2.1) ((unhide HN).2.2.below hbl)))
    have HB := hide (bthen (unhide HB) hbl)
    clear hbl
    go_wp2_with fail
    refine (unhide HT _).mono ?_
    rintro _ w11 ⟨rfl, hbl⟩
    have HN := hide (And.intro (keep1 hbl (lt_of_cell (unhide HN).1) (unhide HN).1) (And.intro ((hbl.frozen (lt_of_cell (unhide HN).1)).trans (unhide HN).2.1) ((unhide HN).2.2.below hbl)))
    have HB := hide (bthen (unhide HB) hbl)
    clear hbl
    have cn := (unhide HN).1
    go_wp2_with fail
    clear cn
    refine (uint_any _ _ _ _ _ (unhide HN).2.2).mono ?_
    rw [unhide HS]
    rintro _ w12 ⟨rfl, hbl⟩
    have HB := hide (bthen (unhide HB) hbl)
    clear hbl HN
    go_wp2_with fail
    refine (unhide H2 _).mono ?_
    rintro _ w13 ⟨rfl, hbl⟩
    have HB := hide (bthen (unhide HB) hbl)
    clear hbl
    go_wp2_with fail
    refine (unhide HM _).mono ?_
    rintro _ w14 ⟨rfl, hbl⟩
    have HB := hide (bthen (unhide HB) hbl)
    go_wp2_with fail
    go_ret
    exact ⟨rfl, unhide HB⟩
                

end Go.Proofs.Ytahdcbjfabccpaa
