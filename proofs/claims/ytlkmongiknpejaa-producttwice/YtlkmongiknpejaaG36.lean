/- NearB, NearX, Exact, ExactX, ProdB, Total, Number, Words. -/
import Derived.Test.YtlkmongiknpejaaG25
import Derived.Test.YtlkmongiknpejaaG30
import Derived.Test.YtlkmongiknpejaaG31
import Derived.Test.YtlkmongiknpejaaG33
import Derived.Test.YtlkmongiknpejaaG34
import Derived.Test.YtlkmongiknpejaaG35
import Derived.LoopTactic
import Derived.ProofKit
import Derived.Lib.SmallJoins
import Derived.ChangeSlices
namespace Go.Proofs.Ytlkmongiknpejaa
open Go.RowKit
open Go.Proofs.Ytlkmongiknpejaa.W

set_option maxRecDepth 100000 in
set_option maxHeartbeats 8000000 in
theorem near_sn {w f L Tp P k LA LB TF q : Int} {n : Bool} (a b : Option Addr) (na ca nb cb x y G : Nat) (w0 : World) (hx : IsNat w0 (.slice a na ca) x) (hy : IsNat w0 (.slice b nb cb) y)
    (HF : Hid (∀ W, Calls Try.prog 40 #[.int .i64 w] W fun r W' => r = .returned (.int .i64 f) ∧ Below W.heap.size W W')) (HL : Hid (∀ W, Calls Try.prog 65 #[.int .i64 w] W fun r W' => r = .returned (.int .i64 L) ∧ Below W.heap.size W W')) (HT : Hid (∀ W, Calls Try.prog 52 #[.int .i64 w] W fun r W' => r = .returned (.int .i64 Tp) ∧ Below W.heap.size W W')) (H2 : Hid (∀ W, Calls Try.prog 39 #[.int .i64 f] W fun r W' => r = .returned (.int .u64 P) ∧ Below W.heap.size W W'))
    (hla : (Go.bitLen x : Int) = LA) (hlb : (Go.bitLen y : Int) = LB) 
    (r1 : LA ≤ 20000) (r2 : LB ≤ 20000) (r3 : -20000 ≤ k ∧ k ≤ 20000) (r4 : 0 ≤ f ∧ f ≤ 63) (r5 : -20000 ≤ L ∧ L ≤ 20000) (r6 : -20000 ≤ Tp ∧ Tp ≤ 20000)
    (htf : LA - LB + k - f = TF) (hq : (TF < L ∧ q = L) ∨ (TF = L ∧ q = L) ∨ (L < TF ∧ q = TF))
    (HU : L < TF → Hid (∀ W, IsNat W (.slice a na ca) x → IsNat W (.slice b nb cb) y → Calls Try.prog 66 #[.agg #[.slice a na ca], .agg #[.slice b nb cb], .int .i64 (k - q - f)] W fun r W' => r = .returned (.bool false) ∧ Below W.heap.size W W'))
    (HG : Hid (∀ W, IsNat W (.slice a na ca) x → IsNat W (.slice b nb cb) y → Calls Try.prog 67 #[.agg #[.slice a na ca], .agg #[.slice b nb cb], .int .i64 (k - q)] W fun r W' => ∃ s', r = .returned (.agg #[s']) ∧ IsNat W' s' G ∧ Below W.heap.size W W'))
    {LG S V : Int} (hlg' : (Go.bitLen G : Int) = LG) (d : ¬ f + 1 < LG) (z : decide (L + Tp - 2 < q) = false) (hs : lo G = S) (t : decide (S < P) = false) (k12 : IntKind.i64.wrap (q - L) = q - L) (k13 : IntKind.i64.wrap (q - L + 1) = q - L + 1) (k14 : IntKind.u64.wrap (S - P) = S - P) (HM : Hid (∀ W, Calls Try.prog 19 #[.int .i64 w, .bool n, .int .i64 (q - L + 1), .int .u64 (S - P)] W fun r W' => r = .returned (.int .u64 V) ∧ Below W.heap.size W W')) :
    Calls Try.prog 53 #[.int .i64 w, .bool n, .agg #[.slice a na ca], .agg #[.slice b nb cb], .int .i64 k] w0 fun r W' => r = .returned (.int .u64 V) ∧ Below w0.heap.size w0 W' := by
  have k1 : IntKind.i64.wrap (LA - LB) = LA - LB := i64_id (by omega) (by omega)
  have k2 : IntKind.i64.wrap (LA - LB + k) = LA - LB + k := i64_id (by omega) (by omega)
  have k3 : IntKind.i64.wrap (LA - LB + k - f) = TF := by rw [← htf]; exact i64_id (by omega) (by omega)
  have rq1 : -200001 ≤ q ∧ q ≤ 200000 := by rcases hq with h | h | h <;> omega
  have k5 : IntKind.i64.wrap (k - q - f) = k - q - f := i64_id (by omega) (by omega)
  have k7 : IntKind.i64.wrap (k - q) = k - q := i64_id (by omega) (by omega)
  have k8 : IntKind.i64.wrap (f + 1) = f + 1 := i64_id (by omega) (by omega)
  have k9 : IntKind.i64.wrap (q + 1) = q + 1 := i64_id (by omega) (by omega)
  have k10 : IntKind.i64.wrap (L + Tp) = L + Tp := i64_id (by omega) (by omega)
  have k11 : IntKind.i64.wrap (L + Tp - 2) = L + Tp - 2 := i64_id (by omega) (by omega)
  have HLA := hide hla; have HLB := hide hlb
  clear hla hlb r1 r2 r3 r4 r5 r6 rq1 htf
  have HLG := hide hlg'
  clear hlg'
  have HS := hide hs
  clear hs
  
  have HX := hide hx; have HY := hide hy
  clear hx hy
  go_enter Try.func53, Try.ntmps53
  go_wp2_with fail
  have HK : Hid (TwoSt w0.heap.size w0 (.slice a na ca) (.slice b nb cb) x y ((w0.alloc (.cells #[.slice a na ca] 45)).alloc (.cells #[.slice b nb cb] 45))) :=
    { ca := by simp [go_sem], cb := by simp [go_sem], na := (unhide HX).below (below2 _ _ _), nb := (unhide HY).below (below2 _ _ _), bel := below2 _ _ _ }
  clear HX HY
  refine (unhide HF _).mono ?_
  rintro _ w1 ⟨rfl, hbl⟩
  have HK := hide ((unhide HK).below hbl)
  clear hbl
  
  go_wp2_with fail
  have HK := hide ((unhide HK).below ((Below.refl _ _).drew))
  refine wp_region_held_drew (S := fun w' => w'.cell? ⟨w0.heap.size, 0, none⟩ = some (.slice a na ca) ∧ w'.cell? ⟨w0.heap.size + 1, 0, none⟩ = some (.slice b nb cb)) (by kernel_rfl) ?_ (fun hHeld => ?_)
  · (try dsimp only)
    exact ⟨(unhide HK).ca, (unhide HK).cb⟩
  refine anyH_at #[false, false, false, false, false, false, false, false] (by kernel_rfl) ?_
  refine wpAnyH_take (i := 0) (oi := { dst := some 18, op := _, type := _, pos := _, after := _, guard := _ }) (v := ?vv0r2) rfl (by kernel_rfl) (by kernel_rfl) (by kernel_rfl) (fun _ _ _ h => h) (Or.inl ⟨by rfl, ?hy0r2⟩) (by assumption) ?rest0r2
  case hy0r2 => ((intro w hSw; (try dsimp only at hSw); go_simp) <;> with_reducible rfl)
  case rest0r2 =>
    (try simp only [Act.put, List.setIfInBounds_toArray, List.set_cons_zero, List.set_cons_succ])
    refine anyH_at #[true, false, false, false, false, false, false, false] (by kernel_rfl) ?_
    refine wpAnyH_take (i := 2) (oi := { dst := some 20, op := _, type := _, pos := _, after := _, guard := _ }) (v := ?vv2r2) rfl (by kernel_rfl) (by kernel_rfl) (by kernel_rfl) (fun _ _ _ h => h) (Or.inl ⟨by rfl, ?hy2r2⟩) (by assumption) ?rest2r2
    case hy2r2 => ((intro w hSw; (try dsimp only at hSw); go_simp) <;> with_reducible rfl)
    case rest2r2 =>
      (try simp only [Act.put, List.setIfInBounds_toArray, List.set_cons_zero, List.set_cons_succ])
      refine anyH_at #[true, false, true, false, false, false, false, false] (by kernel_rfl) ?_
      refine wpAnyH_take (i := 5) (oi := { dst := some 23, op := _, type := _, pos := _, after := _, guard := _ }) (v := ?vv5r2) rfl (by kernel_rfl) (by kernel_rfl) (by kernel_rfl) (fun _ _ _ h => h) (Or.inl ⟨by rfl, ?hy5r2⟩) (by assumption) ?rest5r2
      case hy5r2 => ((intro w hSw; (try dsimp only at hSw); go_simp) <;> with_reducible rfl)
      case rest5r2 =>
        (try simp only [Act.put, List.setIfInBounds_toArray, List.set_cons_zero, List.set_cons_succ])
        refine anyH_at #[true, false, true, false, false, true, false, false] (by kernel_rfl) ?_
        refine wpAnyH_ready (rs := [1]) (by kernel_rfl) (by simp) ?_
        refine AllReadyH.cons (o := { dst := some 19, op := _, type := _, pos := _, after := _, guard := _ }) rfl (fun Kk hKk => ?_) AllReadyH.nil
        go_simp
        refine (refLen_any _ _ _ _ _ (unhide HK).na).mono ?_
        rw [unhide HLA]
        rintro _ w2 ⟨rfl, hbl⟩
        have HK := hide ((unhide HK).below hbl)
        clear hbl
        (try go_wp2_with fail)
        refine hKk.out _ _ ?_ (fun hHeld => ?_)
        · (try dsimp only)
          exact ⟨(unhide HK).ca, (unhide HK).cb⟩
        clear hKk Kk
        (try simp only [List.setIfInBounds_toArray, List.set_cons_zero, List.set_cons_succ])
        refine anyH_at #[true, true, true, false, false, true, false, false] (by kernel_rfl) ?_
        refine wpAnyH_ready (rs := [3]) (by kernel_rfl) (by simp) ?_
        refine AllReadyH.cons (o := { dst := some 21, op := _, type := _, pos := _, after := _, guard := _ }) rfl (fun Kk hKk => ?_) AllReadyH.nil
        go_simp
        refine (refLen_any _ _ _ _ _ (unhide HK).nb).mono ?_
        rw [unhide HLB]
        rintro _ w3 ⟨rfl, hbl⟩
        have HK := hide ((unhide HK).below hbl)
        clear hbl
        (try go_wp2_with fail)
        refine hKk.out _ _ ?_ (fun hHeld => ?_)
        · (try dsimp only)
          exact ⟨(unhide HK).ca, (unhide HK).cb⟩
        clear hKk Kk
        (try simp only [List.setIfInBounds_toArray, List.set_cons_zero, List.set_cons_succ])
        refine anyH_at #[true, true, true, true, false, true, false, false] (by kernel_rfl) ?_
        refine wpAnyH_take (i := 4) (oi := { dst := some 22, op := _, type := _, pos := _, after := _, guard := _ }) (v := ?vv4r2) rfl (by kernel_rfl) (by kernel_rfl) (by kernel_rfl) (fun _ _ _ h => h) (Or.inl ⟨by rfl, ?hy4r2⟩) (by assumption) ?rest4r2
        case hy4r2 => ((intro w hSw; (try dsimp only at hSw); go_simp) <;> with_reducible rfl)
        case rest4r2 =>
          (try simp only [Act.put, List.setIfInBounds_toArray, List.set_cons_zero, List.set_cons_succ])
          refine anyH_at #[true, true, true, true, true, true, false, false] (by kernel_rfl) ?_
          refine wpAnyH_take (i := 6) (oi := { dst := some 24, op := _, type := _, pos := _, after := _, guard := _ }) (v := ?vv6r2) rfl (by kernel_rfl) (by kernel_rfl) (by kernel_rfl) (fun _ _ _ h => h) (Or.inl ⟨by rfl, ?hy6r2⟩) (by assumption) ?rest6r2
          case hy6r2 => ((intro w hSw; (try dsimp only at hSw); go_simp) <;> with_reducible rfl)
          case rest6r2 =>
            (try simp only [Act.put, List.setIfInBounds_toArray, List.set_cons_zero, List.set_cons_succ])
            refine anyH_at #[true, true, true, true, true, true, true, false] (by kernel_rfl) ?_
            refine wpAnyH_take (i := 7) (oi := { dst := some 12, op := _, type := _, pos := _, after := _, guard := _ }) (v := ?vv7r2) rfl (by kernel_rfl) (by kernel_rfl) (by kernel_rfl) (fun _ _ _ h => h) (Or.inl ⟨by rfl, ?hy7r2⟩) (by assumption) ?rest7r2
            case hy7r2 => ((intro w hSw; (try dsimp only at hSw); go_simp) <;> with_reducible rfl)
            case rest7r2 =>
              (try simp only [Act.put, List.setIfInBounds_toArray, List.set_cons_zero, List.set_cons_succ])
              refine anyH_at #[true, true, true, true, true, true, true, true] (by kernel_rfl) ?_
              refine wpAnyH_done (by kernel_rfl) ?_ _
              clear hHeld
              go_wp2_with fail
              refine (unhide HL _).mono ?_
              rintro _ w4 ⟨rfl, hbl⟩
              have HK := hide ((unhide HK).below hbl)
              clear hbl
              rcases hq with ⟨xm, rfl⟩ | ⟨rfl, rfl⟩ | ⟨xm, rfl⟩
              · clear HU
                clear k12 k13
                rw [show q - q + 1 = (1 : Int) by omega] at HM
                go_wp2_with fail
                refine (unhide HL _).mono ?_
                rintro _ w5 ⟨rfl, hbl⟩
                have HK := hide ((unhide HK).below hbl)
                clear hbl
                have ca' := (unhide HK).ca; have cb' := (unhide HK).cb
                go_wp2_with fail
                clear ca' cb'
                refine (unhide HG _ (unhide HK).na (unhide HK).nb).mono ?_
                rintro _ w7 ⟨s7, rfl, hN7, hbl⟩
                obtain ⟨a7, n7, c7, rfl⟩ := hN7.slice
                have HK := hide ((unhide HK).below hbl)
                clear hbl
                have HN : Hid ((w7.alloc (.cells #[.slice a7 n7 c7] 45)).cell? ⟨w7.heap.size, 0, none⟩ = some (.slice a7 n7 c7) ∧ (w7.alloc (.cells #[.slice a7 n7 c7] 45)).frozen? ⟨w7.heap.size, 0, none⟩ = false ∧ IsNat (w7.alloc (.cells #[.slice a7 n7 c7] 45)) (.slice a7 n7 c7) G) := ⟨by simp [go_sem], by simp [go_sem], hN7.below (below1 _ _)⟩
                have HB := hide (balloc (unhide HK).bel (.cells #[.slice a7 n7 c7] 45))
                have hz7 : w0.heap.size ≤ w7.heap.size := (unhide HK).bel.size
                clear hN7 HK
                go_wp2_with fail
                refine (refLen_any _ _ _ _ _ (unhide HN).2.2).mono ?_
                rw [unhide HLG]
                rintro _ w8 ⟨rfl, hbl⟩
                have HN := hide (And.intro (keep1 hbl (lt_of_cell (unhide HN).1) (unhide HN).1) (And.intro ((hbl.frozen (lt_of_cell (unhide HN).1)).trans (unhide HN).2.1) ((unhide HN).2.2.below hbl)))
                have HB := hide (bthen (unhide HB) hbl)
                clear hbl
                go_wp2_with fail
                refine (unhide HL _).mono ?_
                rintro _ w10 ⟨rfl, hbl⟩
                have HN := hide (And.intro (keep1 hbl (lt_of_cell (unhide HN).1) (unhide HN).1) (And.intro ((hbl.frozen (lt_of_cell (unhide HN).1)).trans (unhide HN).2.1) ((unhide HN).2.2.below hbl)))
                have HB := hide (bthen (unhide HB) hbl)
                clear hbl
                go_wp2_with fail
                refine (unhide HT _).mono ?_
                rintro _ w11 ⟨rfl, hbl⟩
                have HN := hide (And.intro (keep1 hbl (lt_of_cell (unhide HN).1) (unhide HN).1) (And.intro ((hbl.frozen (lt_of_cell (unhide HN).1)).trans (unhide HN).2.1) ((unhide HN).2.2.below hbl)))
                have HB := hide (bthen (unhide HB) hbl)
                clear hbl
                have cn := (unhide HN).1
                go_wp2_with fail
                clear cn
                refine (uint_any _ _ _ _ _ (unhide HN).2.2).mono ?_
                rw [unhide HS]
                rintro _ w12 ⟨rfl, hbl⟩
                have HB := hide (bthen (unhide HB) hbl)
                clear hbl HN
                go_wp2_with fail
                refine (unhide H2 _).mono ?_
                rintro _ w13 ⟨rfl, hbl⟩
                have HB := hide (bthen (unhide HB) hbl)
                clear hbl
                go_wp2_with fail
                refine (unhide HL _).mono ?_
                rintro _ w15 ⟨rfl, hbl⟩
                have HB := hide (bthen (unhide HB) hbl)
                clear hbl
                go_wp2_with fail
                refine (unhide H2 _).mono ?_
                rintro _ w16 ⟨rfl, hbl⟩
                have HB := hide (bthen (unhide HB) hbl)
                clear hbl
                go_wp2_with fail
                refine (unhide HM _).mono ?_
                rintro _ w14 ⟨rfl, hbl⟩
                have HB := hide (bthen (unhide HB) hbl)
                go_wp2_with fail
                go_ret
                exact ⟨rfl, unhide HB⟩
                
              · clear HU
                clear k12 k13
                rw [show q - q + 1 = (1 : Int) by omega] at HM
                go_wp2_with fail
                refine (unhide HL _).mono ?_
                rintro _ w5 ⟨rfl, hbl⟩
                have HK := hide ((unhide HK).below hbl)
                clear hbl
                have ca' := (unhide HK).ca; have cb' := (unhide HK).cb
                go_wp2_with fail
                clear ca' cb'
                refine (unhide HG _ (unhide HK).na (unhide HK).nb).mono ?_
                rintro _ w7 ⟨s7, rfl, hN7, hbl⟩
                obtain ⟨a7, n7, c7, rfl⟩ := hN7.slice
                have HK := hide ((unhide HK).below hbl)
                clear hbl
                have HN : Hid ((w7.alloc (.cells #[.slice a7 n7 c7] 45)).cell? ⟨w7.heap.size, 0, none⟩ = some (.slice a7 n7 c7) ∧ (w7.alloc (.cells #[.slice a7 n7 c7] 45)).frozen? ⟨w7.heap.size, 0, none⟩ = false ∧ IsNat (w7.alloc (.cells #[.slice a7 n7 c7] 45)) (.slice a7 n7 c7) G) := ⟨by simp [go_sem], by simp [go_sem], hN7.below (below1 _ _)⟩
                have HB := hide (balloc (unhide HK).bel (.cells #[.slice a7 n7 c7] 45))
                have hz7 : w0.heap.size ≤ w7.heap.size := (unhide HK).bel.size
                clear hN7 HK
                go_wp2_with fail
                refine (refLen_any _ _ _ _ _ (unhide HN).2.2).mono ?_
                rw [unhide HLG]
                rintro _ w8 ⟨rfl, hbl⟩
                have HN := hide (And.intro (keep1 hbl (lt_of_cell (unhide HN).1) (unhide HN).1) (And.intro ((hbl.frozen (lt_of_cell (unhide HN).1)).trans (unhide HN).2.1) ((unhide HN).2.2.below hbl)))
                have HB := hide (bthen (unhide HB) hbl)
                clear hbl
                go_wp2_with fail
                refine (unhide HL _).mono ?_
                rintro _ w10 ⟨rfl, hbl⟩
                have HN := hide (And.intro (keep1 hbl (lt_of_cell (unhide HN).1) (unhide HN).1) (And.intro ((hbl.frozen (lt_of_cell (unhide HN).1)).trans (unhide HN).2.1) ((unhide HN).2.2.below hbl)))
                have HB := hide (bthen (unhide HB) hbl)
                clear hbl
                go_wp2_with fail
                refine (unhide HT _).mono ?_
                rintro _ w11 ⟨rfl, hbl⟩
                have HN := hide (And.intro (keep1 hbl (lt_of_cell (unhide HN).1) (unhide HN).1) (And.intro ((hbl.frozen (lt_of_cell (unhide HN).1)).trans (unhide HN).2.1) ((unhide HN).2.2.below hbl)))
                have HB := hide (bthen (unhide HB) hbl)
                clear hbl
                have cn := (unhide HN).1
                go_wp2_with fail
                clear cn
                refine (uint_any _ _ _ _ _ (unhide HN).2.2).mono ?_
                rw [unhide HS]
                rintro _ w12 ⟨rfl, hbl⟩
                have HB := hide (bthen (unhide HB) hbl)
                clear hbl HN
                go_wp2_with fail
                refine (unhide H2 _).mono ?_
                rintro _ w13 ⟨rfl, hbl⟩
                have HB := hide (bthen (unhide HB) hbl)
                clear hbl
                go_wp2_with fail
                refine (unhide HL _).mono ?_
                rintro _ w15 ⟨rfl, hbl⟩
                have HB := hide (bthen (unhide HB) hbl)
                clear hbl
                go_wp2_with fail
                refine (unhide H2 _).mono ?_
                rintro _ w16 ⟨rfl, hbl⟩
                have HB := hide (bthen (unhide HB) hbl)
                clear hbl
                go_wp2_with fail
                refine (unhide HM _).mono ?_
                rintro _ w14 ⟨rfl, hbl⟩
                have HB := hide (bthen (unhide HB) hbl)
                go_wp2_with fail
                go_ret
                exact ⟨rfl, unhide HB⟩
                
              · have HU := HU xm
                have xn : ¬ q < L := by omega
                have xd := dt xm
                go_wp2_with fail
                refine (unhide HL _).mono ?_
                rintro _ w5 ⟨rfl, hbl⟩
                have HK := hide ((unhide HK).below hbl)
                clear hbl
                have ca' := (unhide HK).ca; have cb' := (unhide HK).cb
                go_wp2_with fail
                clear ca' cb'
                refine (unhide HU _ (unhide HK).na (unhide HK).nb).mono ?_
                rintro _ w6 ⟨rfl, hbl⟩
                have HK := hide ((unhide HK).below hbl)
                clear hbl
                have ca' := (unhide HK).ca; have cb' := (unhide HK).cb
                go_wp2_with fail
                clear ca' cb'
                refine (unhide HG _ (unhide HK).na (unhide HK).nb).mono ?_
                rintro _ w7 ⟨s7, rfl, hN7, hbl⟩
                obtain ⟨a7, n7, c7, rfl⟩ := hN7.slice
                have HK := hide ((unhide HK).below hbl)
                clear hbl
                have HN : Hid ((w7.alloc (.cells #[.slice a7 n7 c7] 45)).cell? ⟨w7.heap.size, 0, none⟩ = some (.slice a7 n7 c7) ∧ (w7.alloc (.cells #[.slice a7 n7 c7] 45)).frozen? ⟨w7.heap.size, 0, none⟩ = false ∧ IsNat (w7.alloc (.cells #[.slice a7 n7 c7] 45)) (.slice a7 n7 c7) G) := ⟨by simp [go_sem], by simp [go_sem], hN7.below (below1 _ _)⟩
                have HB := hide (balloc (unhide HK).bel (.cells #[.slice a7 n7 c7] 45))
                have hz7 : w0.heap.size ≤ w7.heap.size := (unhide HK).bel.size
                clear hN7 HK
                go_wp2_with fail
                refine (refLen_any _ _ _ _ _ (unhide HN).2.2).mono ?_
                rw [unhide HLG]
                rintro _ w8 ⟨rfl, hbl⟩
                have HN := hide (And.intro (keep1 hbl (lt_of_cell (unhide HN).1) (unhide HN).1) (And.intro ((hbl.frozen (lt_of_cell (unhide HN).1)).trans (unhide HN).2.1) ((unhide HN).2.2.below hbl)))
                have HB := hide (bthen (unhide HB) hbl)
                clear hbl
                go_wp2_with fail
                refine (unhide HL _).mono ?_
                rintro _ w10 ⟨rfl, hbl⟩
                have HN := hide (And.intro (keep1 hbl (lt_of_cell (unhide HN).1) (unhide HN).1) (And.intro ((hbl.frozen (lt_of_cell (unhide HN).1)).trans (unhide HN).2.1) ((unhide HN).2.2.below hbl)))
                have HB := hide (bthen (unhide HB) hbl)
                clear hbl
                go_wp2_with fail
                refine (unhide HT _).mono ?_
                rintro _ w11 ⟨rfl, hbl⟩
                have HN := hide (And.intro (keep1 hbl (lt_of_cell (unhide HN).1) (unhide HN).1) (And.intro ((hbl.frozen (lt_of_cell (unhide HN).1)).trans (unhide HN).2.1) ((unhide HN).2.2.below hbl)))
                have HB := hide (bthen (unhide HB) hbl)
                clear hbl
                have cn := (unhide HN).1
                go_wp2_with fail
                clear cn
                refine (uint_any _ _ _ _ _ (unhide HN).2.2).mono ?_
                rw [unhide HS]
                rintro _ w12 ⟨rfl, hbl⟩
                have HB := hide (bthen (unhide HB) hbl)
                clear hbl HN
                go_wp2_with fail
                refine (unhide H2 _).mono ?_
                rintro _ w13 ⟨rfl, hbl⟩
                have HB := hide (bthen (unhide HB) hbl)
                clear hbl
                go_wp2_with fail
                refine (unhide HL _).mono ?_
                rintro _ w15 ⟨rfl, hbl⟩
                have HB := hide (bthen (unhide HB) hbl)
                clear hbl
                go_wp2_with fail
                refine (unhide H2 _).mono ?_
                rintro _ w16 ⟨rfl, hbl⟩
                have HB := hide (bthen (unhide HB) hbl)
                clear hbl
                go_wp2_with fail
                refine (unhide HM _).mono ?_
                rintro _ w14 ⟨rfl, hbl⟩
                have HB := hide (bthen (unhide HB) hbl)
                go_wp2_with fail
                go_ret
                exact ⟨rfl, unhide HB⟩
                

end Go.Proofs.Ytlkmongiknpejaa
namespace Go.Proofs.Ytlkmongiknpejaa
open Go.RowKit
open Go.Proofs.Ytlkmongiknpejaa.W

theorem pw_of_len {x i : Nat} (h : Go.bitLen x ≤ 32 * i) : x < pw i := by rw [pw_two]; exact bl_lt h
theorem one_pw : 1 < pw 300 := lt_pw (k := 1) 300 (by rw [pw_1]; omega) (by omega)
theorem cmp_not {x y : Nat} (h : y ≤ x) : decide (cmpN x y < 0) = false := df (fun hn => by have := cmpN_ge h; omega)

/-- The last bit's place of the float that is nearest to x times 2^k, and what is taken there. -/
theorem grain_known {f b k : Int} (x : Nat) (hx0 : x ≠ 0) (f0 : 0 ≤ f ∧ f ≤ 52) (hL : -1074 ≤ 1 - b - f ∧ 1 - b - f ≤ 0) (k0 : -4000 ≤ k) (k1 : k ≤ 4000) (hx : x < pw 140) {q : Int}
    (hq : q = if (Go.bitLen x : Int) - 1 + k - f < 1 - b - f then 1 - b - f else (Go.bitLen x : Int) - 1 + k - f) :
    unitOf f.toNat (lowN f b) (x * 2 ^ (k + 5000).toNat) = (q + 5000).toNat ∧
    ∀ (a b' : Option Addr) (na ca nb cb : Nat) (W : World), IsNat W (.slice a na ca) x → IsNat W (.slice b' nb cb) 1 →
      Calls Try.prog 67 #[.agg #[.slice a na ca], .agg #[.slice b' nb cb], .int .i64 (k - q)] W fun r W' => ∃ s', r = .returned (.agg #[s']) ∧ IsNat W' s' (near (x * 2 ^ (k + 5000).toNat) (2 ^ (q + 5000).toNat)) ∧ Below W.heap.size W W' := by
  have hl := bl_shl x (k + 5000).toNat hx0
  have hbp := bl_pos hx0
  have hb140 : Go.bitLen x ≤ 4480 := by have := bitLen_pw hx; omega
  have hqr : 1 - b - f ≤ q ∧ (Go.bitLen x : Int) - 1 + k - f ≤ q ∧ q ≤ 9000 ∧ q - k ≤ 8600 := by rw [hq]; split <;> omega
  refine ⟨?_, ?_⟩
  · unfold unitOf lowN
    rw [hl, hq]
    split <;> omega
  · intro a b' na ca nb cb W ha hb
    have h1 := one_pw
    have h300 : x < pw 300 := lt_pw 300 hx (by omega)
    by_cases h0 : 0 ≤ k - q
    · have e : near (x * 2 ^ (k + 5000).toNat) (2 ^ (q + 5000).toNat) = near (x * 2 ^ (k - q).toNat) 1 := by
        rw [pow_split2 (k + 5000).toNat (k - q).toNat (q + 5000).toNat (by omega), ← Nat.mul_assoc]
        have := near_scale (x * 2 ^ (k - q).toNat) 1 (2 ^ (q + 5000).toNat) (Nat.two_pow_pos _)
        rw [Nat.one_mul] at this
        exact this
      rw [e]
      refine grain_up a b' na ca nb cb x 1 (k - q) W ha hb h300 ?_ (by omega) h1 h0 (by omega)
      refine pw_of_len ?_
      rw [bl_shl x _ hx0]
      omega
    · have e : near (x * 2 ^ (k + 5000).toNat) (2 ^ (q + 5000).toNat) = near x (1 * 2 ^ (-(k - q)).toNat) := by
        rw [pow_split2 (q + 5000).toNat (-(k - q)).toNat (k + 5000).toNat (by omega), near_scale _ _ _ (Nat.two_pow_pos _), Nat.one_mul]
      rw [e]
      exact grain_dn a b' na ca nb cb x 1 (k - q) W ha hb h300 (pow_ne _) h1 (pow_pw (by omega)) h0 (by omega) (i64_id (by omega) (by omega))

set_option maxHeartbeats 2000000 in
theorem near_known {w e f P Q b k : Int} {n : Bool} (kd : Kd w e f P Q b) (a b' : Option Addr) (na ca nb cb x : Nat) (w0 : World) (hx : IsNat w0 (.slice a na ca) x) (hy : IsNat w0 (.slice b' nb cb) 1)
    (hx0 : x ≠ 0) (k0 : -4000 ≤ k) (k1 : k ≤ 4000) (h140 : x < pw 140) :
    Calls Try.prog 53 #[.int .i64 w, .bool n, .agg #[.slice a na ca], .agg #[.slice b' nb cb], .int .i64 k] w0 fun r W' => r = .returned (.int .u64 (fl f P Q n (lid P Q (code f.toNat (lowN f b) (x * 2 ^ (k + 5000).toNat) : Nat)))) ∧ Below w0.heap.size w0 W' := by
  obtain ⟨hP, f0, f1, l0, l1, b0, b1⟩ := kd.pow
  obtain ⟨q, hq0⟩ : ∃ q : Int, q = if (Go.bitLen x : Int) - 1 + k - f < 1 - b - f then 1 - b - f else (Go.bitLen x : Int) - 1 + k - f := ⟨_, rfl⟩
  obtain ⟨hu, hg⟩ := grain_known x hx0 ⟨f0, f1⟩ ⟨l0, l1⟩ k0 k1 h140 hq0
  have hbp := bl_pos hx0
  have hb140 : Go.bitLen x ≤ 4480 := by have := bitLen_pw h140; omega
  have hup := unit_up f.toNat (lowN f b) (x * 2 ^ (k + 5000).toNat)
  have hdn := fun h => unit_dn (f := f.toNat) (L := lowN f b) (X := x * 2 ^ (k + 5000).toNat) h
  have hqr : 1 - b - f ≤ q ∧ q ≤ 9000 := by rw [hq0]; split <;> omega
  have hcode : ((code f.toNat (lowN f b) (x * 2 ^ (k + 5000).toNat) : Nat) : Int) = (q - (1 - b - f)) * P + (near (x * 2 ^ (k + 5000).toNat) (2 ^ (q + 5000).toNat) : Nat) := by
    unfold code
    rw [hu, hP, show q - (1 - b - f) = (((q + 5000).toNat - lowN f b : Nat) : Int) by unfold lowN; omega]
    simp
  rw [hcode]
  rw [hu] at hup hdn
  generalize near (x * 2 ^ (k + 5000).toNat) (2 ^ (q + 5000).toNat) = G at *
  have hup' : (G : Int) ≤ 2 * P := by rw [hP]; omega
  have hdn' : 1 - b - f < q → P ≤ (G : Int) := fun h => by
    rw [hP]
    have := hdn (by unfold lowN; omega)
    omega
  clear hcode hup hdn hu
  have HF := hide (fun W => refF_any kd W)
  have HL := hide (fun W => refLow_any kd W)
  have HT := hide (fun W => refTop_any kd W)
  have H2 := hide (fun W => two_f kd W)
  have HI := hide (fun W => refInf_any n kd W)
  have HM := fun (X Y : Int) (x0 : 0 ≤ X) (x1 : X < Q) (y0 : 0 ≤ Y) (y1 : Y < P) W => make_any n X Y kd W x0 x1 y0 y1
  have HG := hide (hg a b' na ca nb cb)
  have hq : ((Go.bitLen x : Int) - (Go.bitLen 1 : Int) + k - f < 1 - b - f ∧ q = 1 - b - f) ∨ ((Go.bitLen x : Int) - (Go.bitLen 1 : Int) + k - f = 1 - b - f ∧ q = 1 - b - f) ∨ (1 - b - f < (Go.bitLen x : Int) - (Go.bitLen 1 : Int) + k - f ∧ q = (Go.bitLen x : Int) - (Go.bitLen 1 : Int) + k - f) := by
    rw [show Go.bitLen 1 = 1 from rfl, hq0]
    split <;> omega
  have HU : 1 - b - f < (Go.bitLen x : Int) - (Go.bitLen 1 : Int) + k - f → Hid (∀ W, IsNat W (.slice a na ca) x → IsNat W (.slice b' nb cb) 1 → Calls Try.prog 66 #[.agg #[.slice a na ca], .agg #[.slice b' nb cb], .int .i64 (k - q - f)] W fun r W' => r = .returned (.bool false) ∧ Below W.heap.size W W') := by
    intro hlt W ha hb
    have hs : k - q - f = 1 - (Go.bitLen x : Int) := by
      rw [show Go.bitLen 1 = 1 from rfl] at hlt
      rw [hq0, if_neg (by omega)]
      omega
    have hxl := bl_ge (x := x) (k := Go.bitLen x - 1) (by omega)
    rw [hs]
    by_cases h1 : 0 ≤ 1 - (Go.bitLen x : Int)
    · have hu := under_up a b' na ca nb cb x 1 (1 - (Go.bitLen x : Int)) W ha hb (lt_pw 300 h140 (by omega)) h1 (by omega)
      rw [cmp_not (by have := Nat.two_pow_pos (1 - (Go.bitLen x : Int)).toNat; exact Nat.mul_pos (by omega) this)] at hu
      exact hu
    · have hu := under_dn a b' na ca nb cb x 1 (1 - (Go.bitLen x : Int)) W ha hb one_pw h1 (by omega) (i64_id (by omega) (by omega))
      rw [cmp_not (by rw [show (-(1 - (Go.bitLen x : Int))).toNat = Go.bitLen x - 1 by omega]; omega)] at hu
      exact hu
  have hl1 : (Go.bitLen 1 : Int) = 1 := rfl
  have hG3 : G < pw 300 := by
    have h2 : G < 2 ^ 54 := by rcases kd with ⟨_, _, _, rfl, _⟩ | ⟨_, _, _, rfl, _⟩ <;> omega
    exact pw_of_len (Nat.le_trans (bitLen_of h2) (by omega))
  clear hq0 hg
  rcases kd with ⟨rfl, rfl, rfl, rfl, rfl, rfl⟩ | ⟨rfl, rfl, rfl, rfl, rfl, rfl⟩
  · by_cases hbig : 2 * 8388608 ≤ G
    · have hG : G = 2 * 8388608 := by omega
      have hs2 : lo (G / 2 ^ 1) = 8388608 := by rw [hG]; rfl
      have d : (23 : Int) + 1 < (Go.bitLen G : Int) := by rw [hG]; decide +kernel
      by_cases g : 1 - 127 - 23 + (256 - 1) - 2 < q + 1
      · unfold lid
        rw [if_pos (by omega), fl_eq n (x := 256 - 1) (y := 0) (by rfl) (by rfl)]
        exact near_bi a b' na ca nb cb x 1 G w0 hx hy HF HL HT H2 rfl rfl (by omega) (by omega) (by omega) (by omega) (by omega) (by omega) rfl hq HU HG rfl d hG3 (dt g) HI
      · unfold lid
        rw [if_neg (by omega), fl_eq n (x := q + 1 - (1 - 127 - 23) + 1) (y := 8388608 - 8388608) (by omega) (by omega)]
        exact near_bn a b' na ca nb cb x 1 G w0 hx hy HF HL HT H2 rfl rfl (by omega) (by omega) (by omega) (by omega) (by omega) (by omega) rfl hq HU HG rfl d hG3 (df g) hs2 (df (by omega)) (i64_id (by omega) (by omega)) (i64_id (by omega) (by omega)) (by rw [IntKind.wrap_u64]; rfl) (hide (fun W => HM _ _ (by omega) (by omega) (by omega) (by omega) W))
    · have hs2 : lo G = (G : Int) := lo_small (by omega)
      have d : ¬ (23 : Int) + 1 < (Go.bitLen G : Int) := by
        have := bitLen_of (v := G) (k := 23 + 1) (by omega)
        omega
      by_cases g : 1 - 127 - 23 + (256 - 1) - 2 < q
      · unfold lid
        rw [if_pos (by omega), fl_eq n (x := 256 - 1) (y := 0) (by rfl) (by rfl)]
        exact near_si a b' na ca nb cb x 1 G w0 hx hy HF HL HT H2 rfl rfl (by omega) (by omega) (by omega) (by omega) (by omega) (by omega) rfl hq HU HG rfl d (dt g) HI
      · unfold lid
        rw [if_neg (by omega)]
        by_cases t : (G : Int) < 8388608
        · rw [fl_eq n (x := 0) (y := (G : Int)) (by omega) (by omega)]
          exact near_ss a b' na ca nb cb x 1 G w0 hx hy HF HL HT H2 rfl rfl (by omega) (by omega) (by omega) (by omega) (by omega) (by omega) rfl hq HU HG rfl d (df g) hs2 (dt t) (hide (fun W => HM _ _ (by omega) (by omega) (by omega) (by omega) W))
        · rw [fl_eq n (x := q - (1 - 127 - 23) + 1) (y := (G : Int) - 8388608) (by omega) (by omega)]
          exact near_sn a b' na ca nb cb x 1 G w0 hx hy HF HL HT H2 rfl rfl (by omega) (by omega) (by omega) (by omega) (by omega) (by omega) rfl hq HU HG rfl d (df g) hs2 (df t) (i64_id (by omega) (by omega)) (i64_id (by omega) (by omega)) (by rw [IntKind.wrap_u64]; omega) (hide (fun W => HM _ _ (by omega) (by omega) (by omega) (by omega) W))
  · by_cases hbig : 2 * 4503599627370496 ≤ G
    · have hG : G = 2 * 4503599627370496 := by omega
      have hs2 : lo (G / 2 ^ 1) = 4503599627370496 := by rw [hG]; rfl
      have d : (52 : Int) + 1 < (Go.bitLen G : Int) := by rw [hG]; decide +kernel
      by_cases g : 1 - 1023 - 52 + (2048 - 1) - 2 < q + 1
      · unfold lid
        rw [if_pos (by omega), fl_eq n (x := 2048 - 1) (y := 0) (by rfl) (by rfl)]
        exact near_bi a b' na ca nb cb x 1 G w0 hx hy HF HL HT H2 rfl rfl (by omega) (by omega) (by omega) (by omega) (by omega) (by omega) rfl hq HU HG rfl d hG3 (dt g) HI
      · unfold lid
        rw [if_neg (by omega), fl_eq n (x := q + 1 - (1 - 1023 - 52) + 1) (y := 4503599627370496 - 4503599627370496) (by omega) (by omega)]
        exact near_bn a b' na ca nb cb x 1 G w0 hx hy HF HL HT H2 rfl rfl (by omega) (by omega) (by omega) (by omega) (by omega) (by omega) rfl hq HU HG rfl d hG3 (df g) hs2 (df (by omega)) (i64_id (by omega) (by omega)) (i64_id (by omega) (by omega)) (by rw [IntKind.wrap_u64]; rfl) (hide (fun W => HM _ _ (by omega) (by omega) (by omega) (by omega) W))
    · have hs2 : lo G = (G : Int) := lo_small (by omega)
      have d : ¬ (52 : Int) + 1 < (Go.bitLen G : Int) := by
        have := bitLen_of (v := G) (k := 52 + 1) (by omega)
        omega
      by_cases g : 1 - 1023 - 52 + (2048 - 1) - 2 < q
      · unfold lid
        rw [if_pos (by omega), fl_eq n (x := 2048 - 1) (y := 0) (by rfl) (by rfl)]
        exact near_si a b' na ca nb cb x 1 G w0 hx hy HF HL HT H2 rfl rfl (by omega) (by omega) (by omega) (by omega) (by omega) (by omega) rfl hq HU HG rfl d (dt g) HI
      · unfold lid
        rw [if_neg (by omega)]
        by_cases t : (G : Int) < 4503599627370496
        · rw [fl_eq n (x := 0) (y := (G : Int)) (by omega) (by omega)]
          exact near_ss a b' na ca nb cb x 1 G w0 hx hy HF HL HT H2 rfl rfl (by omega) (by omega) (by omega) (by omega) (by omega) (by omega) rfl hq HU HG rfl d (df g) hs2 (dt t) (hide (fun W => HM _ _ (by omega) (by omega) (by omega) (by omega) W))
        · rw [fl_eq n (x := q - (1 - 1023 - 52) + 1) (y := (G : Int) - 4503599627370496) (by omega) (by omega)]
          exact near_sn a b' na ca nb cb x 1 G w0 hx hy HF HL HT H2 rfl rfl (by omega) (by omega) (by omega) (by omega) (by omega) (by omega) rfl hq HU HG rfl d (df g) hs2 (df t) (i64_id (by omega) (by omega)) (i64_id (by omega) (by omega)) (by rw [IntKind.wrap_u64]; omega) (hide (fun W => HM _ _ (by omega) (by omega) (by omega) (by omega) W))

end Go.Proofs.Ytlkmongiknpejaa
namespace Go.Proofs.Ytlkmongiknpejaa
open Go.RowKit
open Go.Proofs.Ytlkmongiknpejaa.W

set_option maxRecDepth 100000 in
set_option maxHeartbeats 1000000 in
theorem exact_z {w k V : Int} {n : Bool} (a : Option Addr) (na ca : Nat) (w0 : World) (hz : ((na : Int) == 0) = true) (HC : Hid (∀ W, Calls Try.prog 19 #[.int .i64 w, .bool n, .int .i64 0, .int .u64 0] W fun r W' => r = .returned (.int .u64 V) ∧ Below W.heap.size W W')) :
    Calls Try.prog 27 #[.int .i64 w, .bool n, .agg #[.slice a na ca], .int .i64 k] w0 fun r W' => r = .returned (.int .u64 V) ∧ Below w0.heap.size w0 W' := by
  go_enter Try.func27, Try.ntmps27
  go_wp2_with fail
  refine (unhide HC _).mono ?_
  rintro _ w1 ⟨rfl, hb⟩
  have HB := hide (bthen (below1 _ _) hb)
  clear hb
  go_wp2_with fail
  go_ret
  exact ⟨rfl, unhide HB⟩
set_option maxRecDepth 100000 in
set_option maxHeartbeats 1000000 in
theorem exact_l {w k V : Int} {n : Bool} (a : Option Addr) (na ca : Nat) (w0 : World) (hz : ((na : Int) == 0) = false) (g : decide (k < -4000) = true) (HC : Hid (∀ W, Calls Try.prog 19 #[.int .i64 w, .bool n, .int .i64 0, .int .u64 0] W fun r W' => r = .returned (.int .u64 V) ∧ Below W.heap.size W W')) :
    Calls Try.prog 27 #[.int .i64 w, .bool n, .agg #[.slice a na ca], .int .i64 k] w0 fun r W' => r = .returned (.int .u64 V) ∧ Below w0.heap.size w0 W' := by
  go_enter Try.func27, Try.ntmps27
  go_wp2_with fail
  refine (unhide HC _).mono ?_
  rintro _ w1 ⟨rfl, hb⟩
  have HB := hide (bthen (below1 _ _) hb)
  clear hb
  go_wp2_with fail
  go_ret
  exact ⟨rfl, unhide HB⟩
set_option maxRecDepth 100000 in
set_option maxHeartbeats 1000000 in
theorem exact_h {w k V : Int} {n : Bool} (a : Option Addr) (na ca : Nat) (w0 : World) (hz : ((na : Int) == 0) = false) (g : decide (k < -4000) = false) (g2 : decide (4000 < k) = true) (HC : Hid (∀ W, Calls Try.prog 26 #[.int .i64 w, .bool n] W fun r W' => r = .returned (.int .u64 V) ∧ Below W.heap.size W W')) :
    Calls Try.prog 27 #[.int .i64 w, .bool n, .agg #[.slice a na ca], .int .i64 k] w0 fun r W' => r = .returned (.int .u64 V) ∧ Below w0.heap.size w0 W' := by
  go_enter Try.func27, Try.ntmps27
  go_wp2_with fail
  refine (unhide HC _).mono ?_
  rintro _ w1 ⟨rfl, hb⟩
  have HB := hide (bthen (below1 _ _) hb)
  clear hb
  go_wp2_with fail
  go_ret
  exact ⟨rfl, unhide HB⟩
set_option maxRecDepth 100000 in
set_option maxHeartbeats 1000000 in
theorem exact_n {w k V : Int} {n : Bool} (a : Option Addr) (na ca x : Nat) (w0 : World) (hx : IsNat w0 (.slice a na ca) x) (hz : ((na : Int) == 0) = false) (g : decide (k < -4000) = false) (g2 : decide (4000 < k) = false)
    (HN : Hid (∀ (b' : Option Addr) (nb cb : Nat) (W : World), IsNat W (.slice a na ca) x → IsNat W (.slice b' nb cb) 1 → Calls Try.prog 53 #[.int .i64 w, .bool n, .agg #[.slice a na ca], .agg #[.slice b' nb cb], .int .i64 k] W fun r W' => r = .returned (.int .u64 V) ∧ Below W.heap.size W W')) :
    Calls Try.prog 27 #[.int .i64 w, .bool n, .agg #[.slice a na ca], .int .i64 k] w0 fun r W' => r = .returned (.int .u64 V) ∧ Below w0.heap.size w0 W' := by
  go_enter Try.func27, Try.ntmps27
  go_wp2_with fail
  have HB := hide (below1 w0 (.cells #[.slice a na ca] 45)).drew
  have HX := hide (hx.below (unhide HB))
  have HA : Hid ((w0.alloc (.cells #[.slice a na ca] 45)).drew.cell? ⟨w0.heap.size, 0, none⟩ = some (.slice a na ca)) := by unfold Hid; simp [go_sem]
  clear hx
  refine wp_region_held_drew (S := fun w' => w'.cell? ⟨w0.heap.size, 0, none⟩ = some (.slice a na ca)) (by kernel_rfl) ?_ (fun hHeld => ?_)
  · (try dsimp only)
    exact unhide HA
  refine anyH_at #[false, false, false, false, false, false, false] (by kernel_rfl) ?_
  refine wpAnyH_take (i := 0) (oi := { dst := some 25, op := _, type := _, pos := _, after := _, guard := _ }) (v := ?vv0e) rfl (by kernel_rfl) (by kernel_rfl) (by kernel_rfl) (fun _ _ _ h => h) (Or.inl ⟨by rfl, ?hy0e⟩) (by assumption) ?rest0e
  case hy0e => ((intro w hSw; (try dsimp only at hSw); go_simp) <;> with_reducible rfl)
  case rest0e =>
    (try simp only [Act.put, List.setIfInBounds_toArray, List.set_cons_zero, List.set_cons_succ])
    refine anyH_at #[true, false, false, false, false, false, false] (by kernel_rfl) ?_
    refine wpAnyH_take (i := 1) (oi := { dst := some 26, op := _, type := _, pos := _, after := _, guard := _ }) (v := ?vv1e) rfl (by kernel_rfl) (by kernel_rfl) (by kernel_rfl) (fun _ _ _ h => h) (Or.inl ⟨by rfl, ?hy1e⟩) (by assumption) ?rest1e
    case hy1e => ((intro w hSw; (try dsimp only at hSw); go_simp) <;> with_reducible rfl)
    case rest1e =>
      (try simp only [Act.put, List.setIfInBounds_toArray, List.set_cons_zero, List.set_cons_succ])
      refine anyH_at #[true, true, false, false, false, false, false] (by kernel_rfl) ?_
      refine wpAnyH_take (i := 2) (oi := { dst := some 27, op := _, type := _, pos := _, after := _, guard := _ }) (v := ?vv2e) rfl (by kernel_rfl) (by kernel_rfl) (by kernel_rfl) (fun _ _ _ h => h) (Or.inl ⟨by rfl, ?hy2e⟩) (by assumption) ?rest2e
      case hy2e => ((intro w hSw; (try dsimp only at hSw); go_simp) <;> with_reducible rfl)
      case rest2e =>
        (try simp only [Act.put, List.setIfInBounds_toArray, List.set_cons_zero, List.set_cons_succ])
        refine anyH_at #[true, true, true, false, false, false, false] (by kernel_rfl) ?_
        refine wpAnyH_take (i := 4) (oi := { dst := some 29, op := _, type := _, pos := _, after := _, guard := _ }) (v := ?vv4e) rfl (by kernel_rfl) (by kernel_rfl) (by kernel_rfl) (fun _ _ _ h => h) (Or.inl ⟨by rfl, ?hy4e⟩) (by assumption) ?rest4e
        case hy4e => ((intro w hSw; (try dsimp only at hSw); go_simp) <;> with_reducible rfl)
        case rest4e =>
          (try simp only [Act.put, List.setIfInBounds_toArray, List.set_cons_zero, List.set_cons_succ])
          refine anyH_at #[true, true, true, false, true, false, false] (by kernel_rfl) ?_
          refine wpAnyH_ready (rs := [3]) (by kernel_rfl) (by simp) ?_
          refine AllReadyH.cons (o := { dst := some 28, op := _, type := _, pos := _, after := _, guard := _ }) rfl (fun Kk hKk => ?_) AllReadyH.nil
          go_simp
          refine (refOf_1 _).mono ?_
          rintro _ w8 ⟨s8, rfl, hN8, hbl⟩
          obtain ⟨a8, n8, c8, rfl⟩ := hN8.slice
          have H8 := hide hN8
          have HX := hide ((unhide HX).below hbl)
          have HA := hide (keep1 hbl (lt_of_cell (unhide HA)) (unhide HA))
          have HB := hide (bthen (unhide HB) hbl)
          clear hbl hN8
          (try go_wp2_with fail)
          refine hKk.out _ _ ?_ (fun hHeld => ?_)
          · (try dsimp only)
            exact unhide HA
          clear hKk Kk
          (try simp only [List.setIfInBounds_toArray, List.set_cons_zero, List.set_cons_succ])
          refine anyH_at #[true, true, true, true, true, false, false] (by kernel_rfl) ?_
          refine wpAnyH_ready (rs := [5]) (by kernel_rfl) (by simp) ?_
          refine AllReadyH.cons (o := { dst := some 30, op := _, type := _, pos := _, after := _, guard := _ }) rfl (fun Kk hKk => ?_) AllReadyH.nil
          go_simp
          refine (unhide HN _ _ _ _ (unhide HX) (unhide H8)).mono ?_
          rintro _ w9 ⟨rfl, hbl⟩
          have HA := hide (keep1 hbl (lt_of_cell (unhide HA)) (unhide HA))
          have HB := hide (bthen (unhide HB) hbl)
          clear hbl
          (try go_wp2_with fail)
          refine hKk.out _ _ ?_ (fun hHeld => ?_)
          · (try dsimp only)
            exact unhide HA
          clear hKk Kk
          (try simp only [List.setIfInBounds_toArray, List.set_cons_zero, List.set_cons_succ])
          refine anyH_at #[true, true, true, true, true, true, false] (by kernel_rfl) ?_
          refine wpAnyH_take (i := 6) (oi := { dst := some 8, op := _, type := _, pos := _, after := _, guard := _ }) (v := ?vv6e) rfl (by kernel_rfl) (by kernel_rfl) (by kernel_rfl) (fun _ _ _ h => h) (Or.inl ⟨by rfl, ?hy6e⟩) (by assumption) ?rest6e
          case hy6e => ((intro w hSw; (try dsimp only at hSw); go_simp) <;> with_reducible rfl)
          case rest6e =>
            (try simp only [Act.put, List.setIfInBounds_toArray, List.set_cons_zero, List.set_cons_succ])
            refine anyH_at #[true, true, true, true, true, true, true] (by kernel_rfl) ?_
            refine wpAnyH_done (by kernel_rfl) ?_ _
            clear hHeld
            go_wp2
            go_ret
            exact ⟨rfl, unhide HB⟩

set_option maxRecDepth 100000 in
set_option maxHeartbeats 1000000 in
theorem refNarrow_zero {w K X S V : Int} {n : Bool} (W : World) (k0 : (K == 0) = true) (HC : Hid (∀ W, Calls Try.prog 19 #[.int .i64 w, .bool n, .int .i64 0, .int .u64 0] W fun r W' => r = .returned (.int .u64 V) ∧ Below W.heap.size W W')) :
    Calls Try.prog 32 #[.int .i64 w, .agg #[.bool n, .int .i64 K, .int .i64 X, .int .u64 S]] W fun r W' => r = .returned (.int .u64 V) ∧ Below W.heap.size W W' := by
  go_enter Try.func32, Try.ntmps32
  go_wp2_with fail
  refine (unhide HC _).mono ?_
  rintro _ w1 ⟨rfl, hb⟩
  have HB := hide (bthen (below1 _ _) hb)
  clear hb
  go_wp2_with fail
  go_ret
  exact ⟨rfl, unhide HB⟩
set_option maxRecDepth 100000 in
set_option maxHeartbeats 1000000 in
theorem refNarrow_inf {w K X S V : Int} {n : Bool} (W : World) (k0 : (K == 0) = false) (k1 : (K == 1) = false) (k2 : (K == 2) = true) (HC : Hid (∀ W, Calls Try.prog 26 #[.int .i64 w, .bool n] W fun r W' => r = .returned (.int .u64 V) ∧ Below W.heap.size W W')) :
    Calls Try.prog 32 #[.int .i64 w, .agg #[.bool n, .int .i64 K, .int .i64 X, .int .u64 S]] W fun r W' => r = .returned (.int .u64 V) ∧ Below W.heap.size W W' := by
  go_enter Try.func32, Try.ntmps32
  go_wp2_with fail
  refine (unhide HC _).mono ?_
  rintro _ w1 ⟨rfl, hb⟩
  have HB := hide (bthen (below1 _ _) hb)
  clear hb
  go_wp2_with fail
  go_ret
  exact ⟨rfl, unhide HB⟩
set_option maxRecDepth 100000 in
set_option maxHeartbeats 1000000 in
theorem refNarrow_nan {w K X S V : Int} {n : Bool} (W : World) (k0 : (K == 0) = false) (k1 : (K == 1) = false) (k2 : (K == 2) = false) (k3 : (K == 3) = true) (HC : Hid (∀ W, Calls Try.prog 25 #[.int .i64 w] W fun r W' => r = .returned (.int .u64 V) ∧ Below W.heap.size W W')) :
    Calls Try.prog 32 #[.int .i64 w, .agg #[.bool n, .int .i64 K, .int .i64 X, .int .u64 S]] W fun r W' => r = .returned (.int .u64 V) ∧ Below W.heap.size W W' := by
  go_enter Try.func32, Try.ntmps32
  go_wp2_with fail
  refine (unhide HC _).mono ?_
  rintro _ w1 ⟨rfl, hb⟩
  have HB := hide (bthen (below1 _ _) hb)
  clear hb
  go_wp2_with fail
  go_ret
  exact ⟨rfl, unhide HB⟩
end Go.Proofs.Ytlkmongiknpejaa
namespace Go.Proofs.Ytlkmongiknpejaa
open Go.RowKit
open Go.Proofs.Ytlkmongiknpejaa.W

/-- What the document's Exact is of x times 2^k. -/
def exactN (f P Q b : Int) (n : Bool) (x : Nat) (k : Int) : Int :=
  if x = 0 ∨ k < -4000 then put f P Q n 0 0 else if 4000 < k then put f P Q n (Q - 1) 0 else fl f P Q n (lid P Q (code f.toNat (lowN f b) (x * 2 ^ (k + 5000).toNat) : Nat))

theorem exact_any {w e f P Q b k : Int} {n : Bool} (kd : Kd w e f P Q b) (x : Nat) (h140 : x < pw 140) (a : Option Addr) (na ca : Nat) (W : World) (hx : IsNat W (.slice a na ca) x) :
    Calls Try.prog 27 #[.int .i64 w, .bool n, .agg #[.slice a na ca], .int .i64 k] W fun r W' => r = .returned (.int .u64 (exactN f P Q b n x k)) ∧ Below W.heap.size W W' := by
  obtain ⟨p1, p2, q1, q2⟩ := kd.pos
  have HM := hide (fun W => make_any n 0 0 kd W (by omega) (by omega) (by omega) (by omega))
  have hp := hx.pos
  unfold exactN
  by_cases h0 : x = 0
  · rw [if_pos (Or.inl h0)]
    have : ¬ 0 < na := by rw [hp]; exact fun h => h h0
    exact exact_z a na ca W (eq_t (by omega)) HM
  · have hz : ((na : Int) == 0) = false := eq_f (by have : 0 < na := (by rw [hp]; exact h0); omega)
    by_cases h1 : k < -4000
    · rw [if_pos (Or.inr h1)]
      exact exact_l a na ca W hz (dt h1) HM
    · rw [if_neg (fun h => h.elim h0 h1)]
      by_cases h2 : 4000 < k
      · rw [if_pos h2]
        exact exact_h a na ca W hz (df h1) (dt h2) (hide (fun W => refInf_any n kd W))
      · rw [if_neg h2]
        exact exact_n a na ca x W hx hz (df h1) (df h2) (hide (fun b' nb cb W ha hb => near_known kd a b' na ca nb cb x W ha hb h0 (by omega) (by omega) h140))

theorem code_tiny {f L X : Nat} (h : Go.bitLen X < L) : code f L X = 0 := by
  have hu : unitOf f L X = L := by unfold unitOf; omega
  have hX : X < 2 ^ (L - 1) := bl_lt (by omega)
  have hp : 2 ^ L = 2 * 2 ^ (L - 1) := by
    have := pow_split2 L 1 (L - 1) (by omega)
    omega
  unfold code
  rw [hu, Nat.sub_self, Nat.zero_mul, Nat.zero_add]
  unfold near
  rw [Nat.mod_eq_of_lt (by omega), Nat.div_eq_of_lt (by omega), if_neg (by omega)]
theorem code_huge {f L X c : Nat} (h : L + f + 1 + c ≤ Go.bitLen X) : c * 2 ^ f ≤ code f L X := by
  unfold code
  have hu : c ≤ unitOf f L X - L := by unfold unitOf; omega
  exact Nat.le_trans (Nat.mul_le_mul_right _ hu) (Nat.le_add_right _ _)

theorem zero_code {w e f P Q b : Int} (kd : Kd w e f P Q b) (n : Bool) {X : Nat} (h : code f.toNat (lowN f b) X = 0) : fl f P Q n (lid P Q (code f.toNat (lowN f b) X : Nat)) = put f P Q n 0 0 := by
  rw [h]
  unfold lid
  rw [if_neg (by rcases kd with ⟨-, -, -, rfl, rfl, -⟩ | ⟨-, -, -, rfl, rfl, -⟩ <;> omega)]
  exact fl_eq n (by simp) (by simp)
theorem inf_code {w e f P Q b : Int} (kd : Kd w e f P Q b) (n : Bool) {X : Nat} (h : lowN f b + f.toNat + 1 + 2048 ≤ Go.bitLen X) : fl f P Q n (lid P Q (code f.toNat (lowN f b) X : Nat)) = put f P Q n (Q - 1) 0 := by
  have hc := code_huge h
  have hP := kd.pow.1
  have hc' : 2048 * P ≤ ((code f.toNat (lowN f b) X : Nat) : Int) := by rw [hP]; omega
  generalize ((code f.toNat (lowN f b) X : Nat) : Int) = cc at *
  clear hc hP h
  rcases kd with ⟨rfl, rfl, rfl, rfl, rfl, rfl⟩ | ⟨rfl, rfl, rfl, rfl, rfl, rfl⟩
  · unfold lid
    rw [if_pos (by omega)]
    exact fl_eq n (by rfl) (by rfl)
  · unfold lid
    rw [if_pos (by omega)]
    exact fl_eq n (by rfl) (by rfl)

end Go.Proofs.Ytlkmongiknpejaa
namespace Go.Proofs.Ytlkmongiknpejaa
open Go.RowKit
open Go.Proofs.Ytlkmongiknpejaa.W

/-- How many bits up a number lies. -/
def Z5 : Nat := 5000
/-- The product of two floats that are taken apart. -/
def mulP (f P Q b : Int) (n1 : Bool) (K1 : Int) (M1 : Nat) (n2 : Bool) (K2 : Int) (M2 : Nat) : Int :=
  if K1 = 3 ∨ K2 = 3 ∨ (K1 = 2 ∧ K2 = 0) ∨ (K1 = 0 ∧ K2 = 2) then nanB f P Q
  else if K1 = 2 ∨ K2 = 2 then put f P Q (n1 != n2) (Q - 1) 0
  else rd f P Q b (n1 != n2) (M1 * M2 / 2 ^ Z5)
/-- The product of two floats. -/
def mulB (f P Q b x y : Int) : Int := mulP f P Q b (oN P Q x) (oK P Q x) (oM f P Q b x) (oN P Q y) (oK P Q y) (oM f P Q b y)

theorem mag_mul {X1 S1 X2 S2 : Int} (h1 : -1200 ≤ X1) (h2 : -1200 ≤ X2) : mag X1 S1 * mag X2 S2 / 2 ^ Z5 = S1.toNat * S2.toNat * 2 ^ (X1 + X2 + 5000).toNat := by
  unfold mag
  have e : S1.toNat * 2 ^ (X1 + 5000).toNat * (S2.toNat * 2 ^ (X2 + 5000).toNat) = S1.toNat * S2.toNat * 2 ^ (X1 + X2 + 5000).toNat * 2 ^ Z5 := by
    rw [Nat.mul_mul_mul_comm, ← Nat.pow_add, Nat.mul_assoc _ (2 ^ (X1 + X2 + 5000).toNat), ← Nat.pow_add, show (X1 + 5000).toNat + (X2 + 5000).toNat = (X1 + X2 + 5000).toNat + Z5 by unfold Z5; omega]
  rw [e]
  exact Nat.mul_div_cancel _ (Nat.two_pow_pos Z5)
theorem mul_comm' {f P Q b : Int} (n1 n2 : Bool) (K1 K2 : Int) (M1 M2 : Nat) : mulP f P Q b n1 K1 M1 n2 K2 M2 = mulP f P Q b n2 K2 M2 n1 K1 M1 := by
  have hn : (n1 != n2) = (n2 != n1) := by cases n1 <;> cases n2 <;> rfl
  unfold mulP
  rw [hn, Nat.mul_comm]
  by_cases h : K1 = 3 ∨ K2 = 3 ∨ (K1 = 2 ∧ K2 = 0) ∨ (K1 = 0 ∧ K2 = 2)
  · rw [if_pos h, if_pos (show K2 = 3 ∨ K1 = 3 ∨ (K2 = 2 ∧ K1 = 0) ∨ (K2 = 0 ∧ K1 = 2) by omega)]
  · rw [if_neg h, if_neg (show ¬ (K2 = 3 ∨ K1 = 3 ∨ (K2 = 2 ∧ K1 = 0) ∨ (K2 = 0 ∧ K1 = 2)) by omega)]
    by_cases h2 : K1 = 2 ∨ K2 = 2
    · rw [if_pos h2, if_pos (show K2 = 2 ∨ K1 = 2 by omega)]
    · rw [if_neg h2, if_neg (show ¬ (K2 = 2 ∨ K1 = 2) by omega)]
theorem mulB_comm (f P Q b x y : Int) : mulB f P Q b x y = mulB f P Q b y x := mul_comm' _ _ _ _ _ _

/-- What a product is: the canonical NaN, or a float of that sign. -/
theorem mul_form {w e f P Q b : Int} (k : Kd w e f P Q b) (K1 K2 : Int) (M1 M2 : Nat) :
    (∀ n1 n2, mulP f P Q b n1 K1 M1 n2 K2 M2 = nanB f P Q) ∨ ∃ c, 0 ≤ c ∧ c ≤ top P Q ∧ ∀ n1 n2, mulP f P Q b n1 K1 M1 n2 K2 M2 = fl f P Q (n1 != n2) c := by
  have ht := top_pos k
  unfold mulP
  by_cases h : K1 = 3 ∨ K2 = 3 ∨ (K1 = 2 ∧ K2 = 0) ∨ (K1 = 0 ∧ K2 = 2)
  · exact Or.inl (fun _ _ => if_pos h)
  · refine Or.inr ?_
    by_cases h2 : K1 = 2 ∨ K2 = 2
    · exact ⟨_, Int.le_of_lt ht, Int.le_refl _, fun n1 n2 => by rw [if_neg h, if_pos h2]; exact put_inf k _⟩
    · exact ⟨_, (lid_top k _).1, (lid_top k _).2, fun n1 n2 => by rw [if_neg h, if_neg h2]; rfl⟩
theorem mul_bits {w e f P Q b : Int} (k : Kd w e f P Q b) (x y : Int) : 0 ≤ mulB f P Q b x y ∧ mulB f P Q b x y < 18446744073709551616 := by
  unfold mulB
  rcases mul_form k (oK P Q x) (oK P Q y) (oM f P Q b x) (oM f P Q b y) with h | ⟨c, c0, c1, h⟩
  · rw [h]
    exact ⟨(nan_facts k).1, (nan_facts k).2.1⟩
  · rw [h]
    obtain ⟨r0, r1, -⟩ := fl_facts k (oN P Q x != oN P Q y) c0 c1
    exact ⟨r0, r1⟩

/-- The bits of a power of two. -/
theorem pow_open {w e f P Q b j : Int} (k : Kd w e f P Q b) (j0 : 0 ≤ j) (j1 : j ≤ 1) :
    0 ≤ put f P Q false (b + j) 0 ∧ put f P Q false (b + j) 0 < 18446744073709551616 ∧ oK P Q (put f P Q false (b + j) 0) = 1 ∧ oN P Q (put f P Q false (b + j) 0) = false ∧ oM f P Q b (put f P Q false (b + j) 0) = 2 ^ (Z5 + j.toNat) := by
  obtain ⟨p1, p2, q1, q2⟩ := k.pos
  have hb : 0 < b ∧ b + 1 < Q - 1 := by rcases k with ⟨-, -, -, -, rfl, rfl⟩ | ⟨-, -, -, -, rfl, rfl⟩ <;> omega
  obtain ⟨hP, f0, f1, l0, l1, b0, b1⟩ := k.pow
  obtain ⟨r0, r1, r2, r3, r4⟩ := put_in (x := b + j) (y := 0) (n := false) k (by omega) (by omega) (by omega) (by omega)
  refine ⟨r0, r1, ?_, ?_, ?_⟩
  · unfold oK
    rw [r3, r4, if_neg (by omega), if_neg (by omega)]
  · unfold oN
    rw [r3, r4, if_neg (by omega), r2]
  · unfold oM oc
    rw [r3, r4, if_neg (by omega)]
    have hv := fval_norm f.toNat (lowN f b) (2 ^ f.toNat) (lowN f b + ((b + j).toNat - 1)) (by rw [Nat.pow_succ]; have := Nat.two_pow_pos f.toNat; omega) (by omega) (fun _ => Nat.le_refl _)
    rw [← Nat.pow_add] at hv
    have e1 : ((b + j) * P + 0).toNat = (lowN f b + ((b + j).toNat - 1) - lowN f b) * 2 ^ f.toNat + 2 ^ f.toNat := by
      rw [show lowN f b + ((b + j).toNat - 1) - lowN f b = (b + j).toNat - 1 by omega]
      have : (((b + j).toNat * 2 ^ f.toNat : Nat) : Int) = (b + j) * P := by
        rw [Int.natCast_mul, ← hP, Int.toNat_of_nonneg (by omega)]
      obtain ⟨i, hi⟩ : ∃ i, (b + j).toNat = i + 1 := ⟨(b + j).toNat - 1, by omega⟩
      rw [hi] at this ⊢
      rw [Nat.add_sub_cancel]
      rw [Nat.add_mul, Nat.one_mul] at this
      omega
    rw [e1, hv]
    congr 1
    unfold lowN Z5
    omega

/-- Times a power of two. -/
theorem mul_pow {w e f P Q b j : Int} (k : Kd w e f P Q b) (x : Int) (j0 : 0 ≤ j) (j1 : j ≤ 1) :
    mulB f P Q b x (put f P Q false (b + j) 0) = if oK P Q x = 3 then nanB f P Q else if oK P Q x = 2 then put f P Q (oN P Q x) (Q - 1) 0 else rd f P Q b (oN P Q x) (oM f P Q b x * 2 ^ j.toNat) := by
  obtain ⟨-, -, h1, h2, h3⟩ := pow_open k j0 j1
  unfold mulB
  rw [h1, h2, h3]
  unfold mulP
  have hn : (oN P Q x != false) = oN P Q x := by cases oN P Q x <;> rfl
  have hm : oM f P Q b x * 2 ^ (Z5 + j.toNat) / 2 ^ Z5 = oM f P Q b x * 2 ^ j.toNat := by
    rw [Nat.add_comm, Nat.pow_add, ← Nat.mul_assoc]
    exact Nat.mul_div_cancel _ (Nat.two_pow_pos Z5)
  rw [hn, hm]
  by_cases k3 : oK P Q x = 3
  · rw [if_pos (Or.inl k3), if_pos k3]
  · rw [if_neg (by omega), if_neg k3]
    by_cases k2 : oK P Q x = 2
    · rw [if_pos (Or.inl k2), if_pos k2]
    · rw [if_neg (by omega), if_neg k2]
/-- Times one. -/
theorem mul_one' {w e f P Q b : Int} (k : Kd w e f P Q b) {x : Int} (h : oK P Q x ≠ 3) : mulB f P Q b x (put f P Q false b 0) = cutN f P Q x := by
  have := mul_pow (j := 0) k x (by omega) (by omega)
  rw [Int.add_zero] at this
  rw [this, cut_fl k h, if_neg h]
  by_cases k2 : oK P Q x = 2
  · rw [if_pos k2, put_inf k]
    rcases kind_oc k x with ⟨h1, _⟩ | ⟨_, h1, _⟩ | ⟨h1, _⟩ | ⟨h1, _⟩
    · exact absurd h1 h
    · rw [h1]
    · omega
    · omega
  · obtain ⟨h1, h2⟩ := oM_fin k ⟨h, k2⟩
    rw [if_neg k2, h1, show (0 : Int).toNat = 0 from rfl, Nat.pow_zero, Nat.mul_one, rd_val k _ h2]
/-- That and that together. -/
theorem add_twice {w e f P Q b : Int} (_ : Kd w e f P Q b) (x : Int) :
    addB f P Q b x x = if oK P Q x = 3 then nanB f P Q else if oK P Q x = 2 then put f P Q (oN P Q x) (Q - 1) 0 else rd f P Q b (oN P Q x) (oM f P Q b x * 2) := by
  unfold addB addP nanB
  by_cases k3 : oK P Q x = 3
  · rw [if_pos (Or.inl k3), if_pos k3]
  · rw [if_neg (by
      rintro (h | h | ⟨_, _, h⟩)
      · exact k3 h
      · exact k3 h
      · exact h rfl), if_neg k3]
    by_cases k2 : oK P Q x = 2
    · rw [if_pos k2, if_pos k2]
    · rw [if_neg k2, if_neg k2, if_neg k2, if_pos rfl, Nat.mul_two]

/-- A float of the other sign, by its bits. -/
theorem xor_put {w e f P Q b x y : Int} (k : Kd w e f P Q b) (n : Bool) (x0 : 0 ≤ x) (x1 : x < Q) (y0 : 0 ≤ y) (y1 : y < P) :
    bits .xor .u64 (put f P Q n x y) (put f P Q true 0 0) = put f P Q (!n) x y := by
  obtain ⟨r0, r1, r2, r3, r4⟩ := put_in (n := n) k x0 x1 y0 y1
  obtain ⟨x', hx', u0, u1, u2, u3, u4⟩ := other_sign k r0 r1
  have hf := k.f0
  have hlt : put f P Q n x y < 2 * (P * Q) → x' < 2 * (P * Q) := by
    intro h
    rcases k with ⟨-, -, -, rfl, rfl, -⟩ | ⟨-, -, -, rfl, rfl, -⟩
    · obtain ⟨m, hm⟩ := Int.eq_ofNat_of_zero_le r0
      rw [hm] at h hx'
      rw [put_yes hf, show (0 : Int) * 8388608 + 0 + 8388608 * 256 = ((2147483648 : Nat) : Int) from rfl, u64_xor_nat m 2147483648 (by omega) (by omega)] at hx'
      have hb : m ^^^ 2147483648 < 2 ^ 32 := Nat.xor_lt_two_pow (by omega) (by decide)
      generalize m ^^^ 2147483648 = t at *
      omega
    · omega
  rw [hx', r3] at *
  rw [r4] at u3
  rw [r2] at u4
  have hv : put f P Q n x y < 2 * (P * Q) := by
    cases n
    · rw [put_no k.f0]
      rcases k with ⟨-, -, -, rfl, rfl, -⟩ | ⟨-, -, -, rfl, rfl, -⟩ <;> omega
    · rw [put_yes k.f0]
      rcases k with ⟨-, -, -, rfl, rfl, -⟩ | ⟨-, -, -, rfl, rfl, -⟩ <;> omega
  have hx := hlt hv
  clear hlt hv hx' r0 r1 r2 r3 r4
  unfold sg at u4
  cases n
  · rw [Bool.not_false, put_yes k.f0]
    simp only [Bool.not_false, beq_iff_eq] at u4
    rcases k with ⟨-, -, -, rfl, rfl, -⟩ | ⟨-, -, -, rfl, rfl, -⟩ <;> omega
  · rw [Bool.not_true, put_no k.f0]
    simp only [Bool.not_true, beq_eq_false_iff_ne] at u4
    rcases k with ⟨-, -, -, rfl, rfl, -⟩ | ⟨-, -, -, rfl, rfl, -⟩ <;> omega
theorem xor_fl {w e f P Q b c : Int} (k : Kd w e f P Q b) (n : Bool) (c0 : 0 ≤ c) (c1 : c ≤ top P Q) : bits .xor .u64 (fl f P Q n c) (put f P Q true 0 0) = fl f P Q (!n) c := by
  obtain ⟨a0, a1, d0, d1, -⟩ := code_parts k c0 c1
  exact xor_put k n a0 a1 d0 d1
/-- Of the other sign: kind and number are the same. -/
theorem other_parts {f P Q b x x' : Int} (h : oK P Q x ≠ 3) (h1 : x' / P % Q = x / P % Q) (h2 : x' % P = x % P) (h3 : sg P Q x' = !sg P Q x) : oK P Q x' = oK P Q x ∧ oM f P Q b x' = oM f P Q b x ∧ oN P Q x' = !oN P Q x := by
  refine ⟨by unfold oK; rw [h1, h2], by unfold oM oc; rw [h1, h2], ?_⟩
  unfold oN
  rw [h1, h2, h3]
  unfold oK at h
  by_cases g1 : x / P % Q = Q - 1
  · rw [if_pos g1] at h
    by_cases g2 : x % P = 0
    · rw [if_neg (fun h' => h'.2 g2), if_neg (fun h' => h'.2 g2)]
    · rw [if_neg g2] at h
      exact absurd rfl h
  · rw [if_neg (fun h' => g1 h'.1), if_neg (fun h' => g1 h'.1)]

end Go.Proofs.Ytlkmongiknpejaa
namespace Go.Proofs.Ytlkmongiknpejaa
open Go.RowKit

/-- A word. -/
def Wrd (x : Int) : Prop := 0 ≤ x ∧ x < 18446744073709551616
/-- The numbers of a list that came in. -/
def Rd (W : World) (a : Option Addr) (len : Nat) (zs : List Int) : Prop := len = zs.length ∧ ∀ j, j < len → ∃ b off, a = some ⟨b, off, none⟩ ∧ W.cell? ⟨b, off + j, none⟩ = some (.int .u64 (zs.getD j 0))
theorem Rd.below {W W' : World} {a : Option Addr} {len : Nat} {zs : List Int} (h : Rd W a len zs) (hb : Below W.heap.size W W') : Rd W' a len zs :=
  ⟨h.1, fun j hj => by
    obtain ⟨b, off, ha, hc⟩ := h.2 j hj
    exact ⟨b, off, ha, keep1 hb (lt_of_cell hc) hc⟩⟩

end Go.Proofs.Ytlkmongiknpejaa
namespace Go.Proofs.Ytlkmongiknpejaa
open Go.ChangeShapes Go.WideShapes Go.ChangeAt Go.RowKit Go.Joins
open Go.Proofs.Ytlkmongiknpejaa.W

theorem Try.own : ownKnob Try.prog.godebug = none := by kernel_rfl
theorem Try.cells22 : Try.prog.cellsOf 22 = 1 := by kernel_rfl
theorem word_of_wf {x : Int} (h : (Lit.int .u64 x).wf = true) : 0 ≤ x ∧ x < 18446744073709551616 := by
  simp [Lit.wf, IntKind.min, IntKind.max, IntKind.signed, IntKind.bits] at h
  exact ⟨by omega, by omega⟩

end Go.Proofs.Ytlkmongiknpejaa
namespace Go.Proofs.Ytlkmongiknpejaa
open Go.ChangeShapes Go.WideShapes Go.ChangeAt Go.RowKit Go.Joins
open Go.Proofs.Ytlkmongiknpejaa.W

theorem getD_take (zs : List Int) (len j : Nat) (h : j < len) : (zs.take len).getD j 0 = zs.getD j 0 := by
  simp [List.getD, h]

set_option maxRecDepth 100000 in
/-- A list of words that came in, and how it reads in any later memory. -/
theorem open_words {H : Type} {enc : TypeId × Value → H} {W : World} {base : Nat} {v : Value} {d : DataW H} {p : List MemPlace}
    (hv : Value.okWide Try.prog W .any base 27 v) (h : DataW.Trod enc Try.prog W 0 (fun _ => true) true 27 v d p) :
    ∃ (a : Option Addr) (len cap : Nat) (zs : List Int), v = .slice a len cap ∧ Rd W a len zs ∧ (∀ z ∈ zs, Wrd z) ∧ ∀ W', Below W.heap.size W W' → ∃ p', DataW.Trod enc Try.prog W' 0 (fun b => decide (b < W.heap.size)) true 27 v d p' := by
  obtain ⟨a0, len, cap, rfl⟩ := okWide_slice Try.underlying27 hv
  obtain ⟨fuel, hf⟩ := h
  rcases open_ints Try.underlying27 Try.underlying22 Try.cells22 hf with ⟨hcs, hx⟩ | ⟨a, len', cap', zs, hcs, _, hl, hm, hz, hx, hcell, hwz⟩
  · simp [Value.cells] at hcs
    obtain ⟨rfl, rfl, rfl⟩ := hcs
    simp only [Prod.mk.injEq] at hx
    obtain ⟨rfl, rfl⟩ := hx
    exact ⟨none, 0, 0, [], rfl, ⟨rfl, fun j hj => absurd hj (by omega)⟩, fun z hz => by simp at hz, fun W' _ => ⟨_, shut_slice_nil Try.underlying27⟩⟩
  · simp [Value.cells] at hcs
    obtain ⟨rfl, rfl, rfl⟩ := hcs
    simp only [Prod.mk.injEq] at hx
    obtain ⟨rfl, rfl⟩ := hx
    simp only [if_true] at hz
    refine ⟨some a, len, cap, zs.take len, rfl, ⟨by simp; omega, fun j hj => ?_⟩, fun z hm => word_of_wf (hwz z (List.mem_of_mem_take hm)), fun W' hb => ?_⟩
    · obtain ⟨b, off, spot⟩ := a
      have hspot : spot = none := by simpa [Addr.add] using World.cell?_spot (hcell 0 (by omega))
      subst hspot
      refine ⟨b, off, rfl, ?_⟩
      rw [getD_take _ _ _ hj, ← add_plain]
      exact hcell j (by omega)
    · have hcell' : ∀ i, i < zs.length → W'.cell? (a.add i) = some (.int .u64 (zs.getD i 0)) := fun i hi => by
        have hc := hcell i hi
        rw [hb.cell (World.block_lt_of_cell? W _ hc)]
        exact hc
      by_cases hz0 : zs.length = 0
      · have hc0 : cap = 0 := by omega
        have hl0 : len = 0 := by omega
        subst hc0
        subst hl0
        have t0 := shut_ints (enc := enc) (w := W') (base := 0) (spare := fun b => decide (b < W.heap.size)) (held := true) (a := a) (len := 0) (cap := 0) (zs := zs) 0 Try.underlying27 Try.underlying22 Try.cells22 (Nat.zero_le _) (Nat.le_refl _) hm (by simp [hz0]) hcell' hwz
        exact ⟨_, 2, by simpa [Value.cells] using t0⟩
      · have hspb : decide (a.block < W.heap.size) = true := by
          have := World.block_lt_of_cell? W _ (hcell 0 (by omega))
          rw [block_add] at this
          exact decide_eq_true this
        have t0 := shut_ints (enc := enc) (w := W') (base := 0) (spare := fun b => decide (b < W.heap.size)) (held := true) (a := a) (len := len) (cap := cap) (zs := zs) 0 Try.underlying27 Try.underlying22 Try.cells22 (Nat.zero_le _) hl hm (by simp only [hspb, if_true, hz]) hcell' hwz
        exact ⟨_, 2, by simpa [Value.cells] using t0⟩

end Go.Proofs.Ytlkmongiknpejaa
