/- PlusA, NearC. -/
import Derived.Test.YticbhdgamblmbaaG16
import Derived.Test.YticbhdgamblmbaaG24
import Derived.Test.YticbhdgamblmbaaG25
namespace Go.Proofs.Yticbhdgamblmbaa
open Go.RowKit

theorem at2_new2a (w : World) (x y : Value) (t : TypeId) (o : Obj) : At2 w.heap.size x y ((w.alloc (.cells #[x, y] t)).alloc o) := by unfold At2; simp [go_sem]
theorem at2_new2b (w : World) (o : Obj) (x y : Value) (t : TypeId) : At2 (w.heap.size + 1) x y ((w.alloc o).alloc (.cells #[x, y] t)) := by unfold At2; simp [go_sem]
set_option maxRecDepth 100000 in
set_option maxHeartbeats 2000000 in
theorem aligned_same {w ah al bh bl E dh dl V : Int} {an bn : Bool} (W : World) (hn : (an == bn) = true) (HA : Hid (∀ W, Calls Try.prog 61 #[.agg #[.int .u64 ah, .int .u64 al], .agg #[.int .u64 bh, .int .u64 bl]] W fun r W' => r = .returned (.agg #[.int .u64 dh, .int .u64 dl]) ∧ Below W.heap.size W W')) (HP : Hid (∀ W, Calls Try.prog 48 #[.int .i64 w, .bool an, .agg #[.int .u64 dh, .int .u64 dl], .int .i64 E, .bool false] W fun r W' => r = .returned (.int .u64 V) ∧ Below W.heap.size W W')) :
    Calls Try.prog 50 #[.int .i64 w, .bool an, .agg #[.int .u64 ah, .int .u64 al], .bool bn, .agg #[.int .u64 bh, .int .u64 bl], .int .i64 E] W fun r W' => r = .returned (.int .u64 V) ∧ Below W.heap.size W W' := by
  go_enter Try.func50, Try.ntmps50
  go_wp2_with fail
  have HB := hide (below2 W (.cells #[.int .u64 ah, .int .u64 al] 59) (.cells #[.int .u64 bh, .int .u64 bl] 59))
  have H1 := hide (at2_new2a W (.int .u64 ah) (.int .u64 al) 59 (.cells #[.int .u64 bh, .int .u64 bl] 59))
  have H2 := hide (at2_new2b W (.cells #[.int .u64 ah, .int .u64 al] 59) (.int .u64 bh) (.int .u64 bl) 59)
  refine (unhide HA _).mono ?_
  rintro _ w1 ⟨rfl, hb⟩
  have HB := hide (bthen (unhide HB) hb)
  have H1 := hide ((unhide H1).below hb)
  have H2 := hide ((unhide H2).below hb)
  clear hb
  obtain ⟨c0, c1⟩ := unhide H1
  obtain ⟨d0, d1⟩ := unhide H2
  go_wp2_with fail
  refine (unhide HP _).mono ?_
  rintro _ w2 ⟨rfl, hb⟩
  have HB := hide (bthen (unhide HB) hb)
  have H1 := hide ((unhide H1).below hb)
  have H2 := hide ((unhide H2).below hb)
  clear hb
  obtain ⟨c0, c1⟩ := unhide H1
  obtain ⟨d0, d1⟩ := unhide H2
  go_wp2_with fail
  go_ret
  exact ⟨rfl, unhide HB⟩
set_option maxRecDepth 100000 in
set_option maxHeartbeats 2000000 in
theorem aligned_gt {w ah al bh bl E dh dl V : Int} {an bn : Bool} (W : World) (hn : (an == bn) = false) (HC : Hid (∀ W, Calls Try.prog 62 #[.agg #[.int .u64 ah, .int .u64 al], .agg #[.int .u64 bh, .int .u64 bl]] W fun r W' => r = .returned (.int .i64 1) ∧ Below W.heap.size W W')) (HA : Hid (∀ W, Calls Try.prog 63 #[.agg #[.int .u64 ah, .int .u64 al], .agg #[.int .u64 bh, .int .u64 bl]] W fun r W' => r = .returned (.agg #[.int .u64 dh, .int .u64 dl]) ∧ Below W.heap.size W W')) (HP : Hid (∀ W, Calls Try.prog 48 #[.int .i64 w, .bool an, .agg #[.int .u64 dh, .int .u64 dl], .int .i64 E, .bool false] W fun r W' => r = .returned (.int .u64 V) ∧ Below W.heap.size W W')) :
    Calls Try.prog 50 #[.int .i64 w, .bool an, .agg #[.int .u64 ah, .int .u64 al], .bool bn, .agg #[.int .u64 bh, .int .u64 bl], .int .i64 E] W fun r W' => r = .returned (.int .u64 V) ∧ Below W.heap.size W W' := by
  go_enter Try.func50, Try.ntmps50
  go_wp2_with fail
  have HB := hide (below2 W (.cells #[.int .u64 ah, .int .u64 al] 59) (.cells #[.int .u64 bh, .int .u64 bl] 59))
  have H1 := hide (at2_new2a W (.int .u64 ah) (.int .u64 al) 59 (.cells #[.int .u64 bh, .int .u64 bl] 59))
  have H2 := hide (at2_new2b W (.cells #[.int .u64 ah, .int .u64 al] 59) (.int .u64 bh) (.int .u64 bl) 59)
  refine (unhide HC _).mono ?_
  rintro _ w1 ⟨rfl, hb⟩
  have HB := hide (bthen (unhide HB) hb)
  have H1 := hide ((unhide H1).below hb)
  have H2 := hide ((unhide H2).below hb)
  clear hb
  obtain ⟨c0, c1⟩ := unhide H1
  obtain ⟨d0, d1⟩ := unhide H2
  go_wp2_with fail
  refine (unhide HA _).mono ?_
  rintro _ w2 ⟨rfl, hb⟩
  have HB := hide (bthen (unhide HB) hb)
  have H1 := hide ((unhide H1).below hb)
  have H2 := hide ((unhide H2).below hb)
  clear hb
  obtain ⟨c0, c1⟩ := unhide H1
  obtain ⟨d0, d1⟩ := unhide H2
  go_wp2_with fail
  refine (unhide HP _).mono ?_
  rintro _ w3 ⟨rfl, hb⟩
  have HB := hide (bthen (unhide HB) hb)
  have H1 := hide ((unhide H1).below hb)
  have H2 := hide ((unhide H2).below hb)
  clear hb
  obtain ⟨c0, c1⟩ := unhide H1
  obtain ⟨d0, d1⟩ := unhide H2
  go_wp2_with fail
  go_ret
  exact ⟨rfl, unhide HB⟩
set_option maxRecDepth 100000 in
set_option maxHeartbeats 2000000 in
theorem aligned_lt {w ah al bh bl E dh dl V : Int} {an bn : Bool} (W : World) (hn : (an == bn) = false) (HC : Hid (∀ W, Calls Try.prog 62 #[.agg #[.int .u64 ah, .int .u64 al], .agg #[.int .u64 bh, .int .u64 bl]] W fun r W' => r = .returned (.int .i64 (-1)) ∧ Below W.heap.size W W')) (HA : Hid (∀ W, Calls Try.prog 63 #[.agg #[.int .u64 bh, .int .u64 bl], .agg #[.int .u64 ah, .int .u64 al]] W fun r W' => r = .returned (.agg #[.int .u64 dh, .int .u64 dl]) ∧ Below W.heap.size W W')) (HP : Hid (∀ W, Calls Try.prog 48 #[.int .i64 w, .bool bn, .agg #[.int .u64 dh, .int .u64 dl], .int .i64 E, .bool false] W fun r W' => r = .returned (.int .u64 V) ∧ Below W.heap.size W W')) :
    Calls Try.prog 50 #[.int .i64 w, .bool an, .agg #[.int .u64 ah, .int .u64 al], .bool bn, .agg #[.int .u64 bh, .int .u64 bl], .int .i64 E] W fun r W' => r = .returned (.int .u64 V) ∧ Below W.heap.size W W' := by
  go_enter Try.func50, Try.ntmps50
  go_wp2_with fail
  have HB := hide (below2 W (.cells #[.int .u64 ah, .int .u64 al] 59) (.cells #[.int .u64 bh, .int .u64 bl] 59))
  have H1 := hide (at2_new2a W (.int .u64 ah) (.int .u64 al) 59 (.cells #[.int .u64 bh, .int .u64 bl] 59))
  have H2 := hide (at2_new2b W (.cells #[.int .u64 ah, .int .u64 al] 59) (.int .u64 bh) (.int .u64 bl) 59)
  refine (unhide HC _).mono ?_
  rintro _ w1 ⟨rfl, hb⟩
  have HB := hide (bthen (unhide HB) hb)
  have H1 := hide ((unhide H1).below hb)
  have H2 := hide ((unhide H2).below hb)
  clear hb
  obtain ⟨c0, c1⟩ := unhide H1
  obtain ⟨d0, d1⟩ := unhide H2
  go_wp2_with fail
  refine (unhide HA _).mono ?_
  rintro _ w2 ⟨rfl, hb⟩
  have HB := hide (bthen (unhide HB) hb)
  have H1 := hide ((unhide H1).below hb)
  have H2 := hide ((unhide H2).below hb)
  clear hb
  obtain ⟨c0, c1⟩ := unhide H1
  obtain ⟨d0, d1⟩ := unhide H2
  go_wp2_with fail
  refine (unhide HP _).mono ?_
  rintro _ w3 ⟨rfl, hb⟩
  have HB := hide (bthen (unhide HB) hb)
  have H1 := hide ((unhide H1).below hb)
  have H2 := hide ((unhide H2).below hb)
  clear hb
  obtain ⟨c0, c1⟩ := unhide H1
  obtain ⟨d0, d1⟩ := unhide H2
  go_wp2_with fail
  go_ret
  exact ⟨rfl, unhide HB⟩
set_option maxRecDepth 100000 in
set_option maxHeartbeats 2000000 in
theorem aligned_eq {w ah al bh bl E V : Int} {an bn : Bool} (W : World) (hn : (an == bn) = false) (HC : Hid (∀ W, Calls Try.prog 62 #[.agg #[.int .u64 ah, .int .u64 al], .agg #[.int .u64 bh, .int .u64 bl]] W fun r W' => r = .returned (.int .i64 0) ∧ Below W.heap.size W W')) (HP : Hid (∀ W, Calls Try.prog 19 #[.int .i64 w, .bool false] W fun r W' => r = .returned (.int .u64 V) ∧ Below W.heap.size W W')) :
    Calls Try.prog 50 #[.int .i64 w, .bool an, .agg #[.int .u64 ah, .int .u64 al], .bool bn, .agg #[.int .u64 bh, .int .u64 bl], .int .i64 E] W fun r W' => r = .returned (.int .u64 V) ∧ Below W.heap.size W W' := by
  go_enter Try.func50, Try.ntmps50
  go_wp2_with fail
  have HB := hide (below2 W (.cells #[.int .u64 ah, .int .u64 al] 59) (.cells #[.int .u64 bh, .int .u64 bl] 59))
  have H1 := hide (at2_new2a W (.int .u64 ah) (.int .u64 al) 59 (.cells #[.int .u64 bh, .int .u64 bl] 59))
  have H2 := hide (at2_new2b W (.cells #[.int .u64 ah, .int .u64 al] 59) (.int .u64 bh) (.int .u64 bl) 59)
  refine (unhide HC _).mono ?_
  rintro _ w1 ⟨rfl, hb⟩
  have HB := hide (bthen (unhide HB) hb)
  have H1 := hide ((unhide H1).below hb)
  have H2 := hide ((unhide H2).below hb)
  clear hb
  obtain ⟨c0, c1⟩ := unhide H1
  obtain ⟨d0, d1⟩ := unhide H2
  go_wp2_with fail
  refine (unhide HP _).mono ?_
  rintro _ w2 ⟨rfl, hb⟩
  have HB := hide (bthen (unhide HB) hb)
  have H1 := hide ((unhide H1).below hb)
  have H2 := hide ((unhide H2).below hb)
  clear hb
  obtain ⟨c0, c1⟩ := unhide H1
  obtain ⟨d0, d1⟩ := unhide H2
  go_wp2_with fail
  go_ret
  exact ⟨rfl, unhide HB⟩

end Go.Proofs.Yticbhdgamblmbaa
namespace Go.Proofs.Yticbhdgamblmbaa
open Go.RowKit
open Go.Proofs.Yticbhdgamblmbaa.W

theorem half_one (a : Option Addr) (n c x : Nat) (w : World) (hx : IsNat w (.slice a n c) x) (bx : x < pw 300) :
    Calls Try.prog 82 #[.agg #[.slice a n c], .int .i64 1] w fun e w' => ∃ s1, e = .returned (.tuple #[.agg #[s1], .bool (decide (x % 2 ^ 1 ≠ 0))]) ∧ IsNat w' s1 (x / 2 ^ 1) ∧ Below w.heap.size w w' := half_any a n c x 1 w hx bx (by omega)

set_option maxRecDepth 100000 in
set_option maxHeartbeats 8000000 in
theorem near_bi {w f L Tp P k LA LB TF q : Int} {n : Bool} (a b : Option Addr) (na ca nb cb x y G : Nat) (w0 : World) (hx : IsNat w0 (.slice a na ca) x) (hy : IsNat w0 (.slice b nb cb) y)
    (HF : Hid (∀ W, Calls Try.prog 39 #[.int .i64 w] W fun r W' => r = .returned (.int .i64 f) ∧ Below W.heap.size W W')) (HL : Hid (∀ W, Calls Try.prog 79 #[.int .i64 w] W fun r W' => r = .returned (.int .i64 L) ∧ Below W.heap.size W W')) (HT : Hid (∀ W, Calls Try.prog 37 #[.int .i64 w] W fun r W' => r = .returned (.int .i64 Tp) ∧ Below W.heap.size W W')) (_ : Hid (∀ W, Calls Try.prog 40 #[.int .i64 f] W fun r W' => r = .returned (.int .u64 P) ∧ Below W.heap.size W W'))
    (hla : (Go.bitLen x : Int) = LA) (hlb : (Go.bitLen y : Int) = LB) 
    (r1 : LA ≤ 20000) (r2 : LB ≤ 20000) (r3 : -20000 ≤ k ∧ k ≤ 20000) (r4 : 0 ≤ f ∧ f ≤ 63) (r5 : -20000 ≤ L ∧ L ≤ 20000) (r6 : -20000 ≤ Tp ∧ Tp ≤ 20000)
    (htf : LA - LB + k - f = TF) (hq : (TF < L ∧ q = L) ∨ (TF = L ∧ q = L) ∨ (L < TF ∧ q = TF))
    (HU : L < TF → Hid (∀ W, IsNat W (.slice a na ca) x → IsNat W (.slice b nb cb) y → Calls Try.prog 80 #[.agg #[.slice a na ca], .agg #[.slice b nb cb], .int .i64 (k - q - f)] W fun r W' => r = .returned (.bool false) ∧ Below W.heap.size W W'))
    (HG : Hid (∀ W, IsNat W (.slice a na ca) x → IsNat W (.slice b nb cb) y → Calls Try.prog 81 #[.agg #[.slice a na ca], .agg #[.slice b nb cb], .int .i64 (k - q)] W fun r W' => ∃ s', r = .returned (.agg #[s']) ∧ IsNat W' s' G ∧ Below W.heap.size W W'))
    {LG VI : Int} (hlg' : (Go.bitLen G : Int) = LG) (d : f + 1 < LG) (hG3 : G < pw 300) (z : decide (L + Tp - 2 < (q + 1)) = true) (HI : Hid (∀ W, Calls Try.prog 45 #[.int .i64 w, .bool n] W fun r W' => r = .returned (.int .u64 VI) ∧ Below W.heap.size W W')) :
    Calls Try.prog 65 #[.int .i64 w, .bool n, .agg #[.slice a na ca], .agg #[.slice b nb cb], .int .i64 k] w0 fun r W' => r = .returned (.int .u64 VI) ∧ Below w0.heap.size w0 W' := by
  have k1 : IntKind.i64.wrap (LA - LB) = LA - LB := i64_id (by omega) (by omega)
  have k2 : IntKind.i64.wrap (LA - LB + k) = LA - LB + k := i64_id (by omega) (by omega)
  have k3 : IntKind.i64.wrap (LA - LB + k - f) = TF := by rw [← htf]; exact i64_id (by omega) (by omega)
  have rq1 : -200001 ≤ q ∧ q ≤ 200000 := by rcases hq with h | h | h <;> omega
  have k5 : IntKind.i64.wrap (k - q - f) = k - q - f := i64_id (by omega) (by omega)
  have k7 : IntKind.i64.wrap (k - q) = k - q := i64_id (by omega) (by omega)
  have k8 : IntKind.i64.wrap (f + 1) = f + 1 := i64_id (by omega) (by omega)
  have k9 : IntKind.i64.wrap (q + 1) = q + 1 := i64_id (by omega) (by omega)
  have k10 : IntKind.i64.wrap (L + Tp) = L + Tp := i64_id (by omega) (by omega)
  have k11 : IntKind.i64.wrap (L + Tp - 2) = L + Tp - 2 := i64_id (by omega) (by omega)
  have HLA := hide hla; have HLB := hide hlb
  clear hla hlb r1 r2 r3 r4 r5 r6 rq1 htf
  have HLG := hide hlg'
  clear hlg'
  have HG3 := hide hG3
  clear hG3
  
  have HX := hide hx; have HY := hide hy
  clear hx hy
  go_enter Try.func65, Try.ntmps65
  go_wp2_with fail
  have HK : Hid (TwoSt w0.heap.size w0 (.slice a na ca) (.slice b nb cb) x y ((w0.alloc (.cells #[.slice a na ca] 65)).alloc (.cells #[.slice b nb cb] 65))) :=
    { ca := by simp [go_sem], cb := by simp [go_sem], na := (unhide HX).below (below2 _ _ _), nb := (unhide HY).below (below2 _ _ _), bel := below2 _ _ _ }
  clear HX HY
  refine (unhide HF _).mono ?_
  rintro _ w1 ⟨rfl, hbl⟩
  have HK := hide ((unhide HK).below hbl)
  clear hbl
  
  go_wp2_with fail
  have HK := hide ((unhide HK).below ((Below.refl _ _).drew))
  refine wp_region_held_drew (S := fun w' => w'.cell? ⟨w0.heap.size, 0, none⟩ = some (.slice a na ca) ∧ w'.cell? ⟨w0.heap.size + 1, 0, none⟩ = some (.slice b nb cb)) (by kernel_rfl) ?_ (fun hHeld => ?_)
  · (try dsimp only)
    exact ⟨(unhide HK).ca, (unhide HK).cb⟩
  refine anyH_at #[false, false, false, false, false, false, false, false] (by kernel_rfl) ?_
  refine wpAnyH_take (i := 0) (oi := { dst := some 18, op := _, type := _, pos := _, after := _, guard := _ }) (v := ?vv0r2) rfl (by kernel_rfl) (by kernel_rfl) (by kernel_rfl) (fun _ _ _ h => h) (Or.inl ⟨by rfl, ?hy0r2⟩) (by assumption) ?rest0r2
  case hy0r2 => ((intro w hSw; (try dsimp only at hSw); go_simp) <;> with_reducible rfl)
  case rest0r2 =>
    (try simp only [Act.put, List.setIfInBounds_toArray, List.set_cons_zero, List.set_cons_succ])
    refine anyH_at #[true, false, false, false, false, false, false, false] (by kernel_rfl) ?_
    refine wpAnyH_take (i := 2) (oi := { dst := some 20, op := _, type := _, pos := _, after := _, guard := _ }) (v := ?vv2r2) rfl (by kernel_rfl) (by kernel_rfl) (by kernel_rfl) (fun _ _ _ h => h) (Or.inl ⟨by rfl, ?hy2r2⟩) (by assumption) ?rest2r2
    case hy2r2 => ((intro w hSw; (try dsimp only at hSw); go_simp) <;> with_reducible rfl)
    case rest2r2 =>
      (try simp only [Act.put, List.setIfInBounds_toArray, List.set_cons_zero, List.set_cons_succ])
      refine anyH_at #[true, false, true, false, false, false, false, false] (by kernel_rfl) ?_
      refine wpAnyH_take (i := 5) (oi := { dst := some 23, op := _, type := _, pos := _, after := _, guard := _ }) (v := ?vv5r2) rfl (by kernel_rfl) (by kernel_rfl) (by kernel_rfl) (fun _ _ _ h => h) (Or.inl ⟨by rfl, ?hy5r2⟩) (by assumption) ?rest5r2
      case hy5r2 => ((intro w hSw; (try dsimp only at hSw); go_simp) <;> with_reducible rfl)
      case rest5r2 =>
        (try simp only [Act.put, List.setIfInBounds_toArray, List.set_cons_zero, List.set_cons_succ])
        refine anyH_at #[true, false, true, false, false, true, false, false] (by kernel_rfl) ?_
        refine wpAnyH_ready (rs := [1]) (by kernel_rfl) (by simp) ?_
        refine AllReadyH.cons (o := { dst := some 19, op := _, type := _, pos := _, after := _, guard := _ }) rfl (fun Kk hKk => ?_) AllReadyH.nil
        go_simp
        refine (refLen_any _ _ _ _ _ (unhide HK).na).mono ?_
        rw [unhide HLA]
        rintro _ w2 ⟨rfl, hbl⟩
        have HK := hide ((unhide HK).below hbl)
        clear hbl
        (try go_wp2_with fail)
        refine hKk.out _ _ ?_ (fun hHeld => ?_)
        · (try dsimp only)
          exact ⟨(unhide HK).ca, (unhide HK).cb⟩
        clear hKk Kk
        (try simp only [List.setIfInBounds_toArray, List.set_cons_zero, List.set_cons_succ])
        refine anyH_at #[true, true, true, false, false, true, false, false] (by kernel_rfl) ?_
        refine wpAnyH_ready (rs := [3]) (by kernel_rfl) (by simp) ?_
        refine AllReadyH.cons (o := { dst := some 21, op := _, type := _, pos := _, after := _, guard := _ }) rfl (fun Kk hKk => ?_) AllReadyH.nil
        go_simp
        refine (refLen_any _ _ _ _ _ (unhide HK).nb).mono ?_
        rw [unhide HLB]
        rintro _ w3 ⟨rfl, hbl⟩
        have HK := hide ((unhide HK).below hbl)
        clear hbl
        (try go_wp2_with fail)
        refine hKk.out _ _ ?_ (fun hHeld => ?_)
        · (try dsimp only)
          exact ⟨(unhide HK).ca, (unhide HK).cb⟩
        clear hKk Kk
        (try simp only [List.setIfInBounds_toArray, List.set_cons_zero, List.set_cons_succ])
        refine anyH_at #[true, true, true, true, false, true, false, false] (by kernel_rfl) ?_
        refine wpAnyH_take (i := 4) (oi := { dst := some 22, op := _, type := _, pos := _, after := _, guard := _ }) (v := ?vv4r2) rfl (by kernel_rfl) (by kernel_rfl) (by kernel_rfl) (fun _ _ _ h => h) (Or.inl ⟨by rfl, ?hy4r2⟩) (by assumption) ?rest4r2
        case hy4r2 => ((intro w hSw; (try dsimp only at hSw); go_simp) <;> with_reducible rfl)
        case rest4r2 =>
          (try simp only [Act.put, List.setIfInBounds_toArray, List.set_cons_zero, List.set_cons_succ])
          refine anyH_at #[true, true, true, true, true, true, false, false] (by kernel_rfl) ?_
          refine wpAnyH_take (i := 6) (oi := { dst := some 24, op := _, type := _, pos := _, after := _, guard := _ }) (v := ?vv6r2) rfl (by kernel_rfl) (by kernel_rfl) (by kernel_rfl) (fun _ _ _ h => h) (Or.inl ⟨by rfl, ?hy6r2⟩) (by assumption) ?rest6r2
          case hy6r2 => ((intro w hSw; (try dsimp only at hSw); go_simp) <;> with_reducible rfl)
          case rest6r2 =>
            (try simp only [Act.put, List.setIfInBounds_toArray, List.set_cons_zero, List.set_cons_succ])
            refine anyH_at #[true, true, true, true, true, true, true, false] (by kernel_rfl) ?_
            refine wpAnyH_take (i := 7) (oi := { dst := some 12, op := _, type := _, pos := _, after := _, guard := _ }) (v := ?vv7r2) rfl (by kernel_rfl) (by kernel_rfl) (by kernel_rfl) (fun _ _ _ h => h) (Or.inl ⟨by rfl, ?hy7r2⟩) (by assumption) ?rest7r2
            case hy7r2 => ((intro w hSw; (try dsimp only at hSw); go_simp) <;> with_reducible rfl)
            case rest7r2 =>
              (try simp only [Act.put, List.setIfInBounds_toArray, List.set_cons_zero, List.set_cons_succ])
              refine anyH_at #[true, true, true, true, true, true, true, true] (by kernel_rfl) ?_
              refine wpAnyH_done (by kernel_rfl) ?_ _
              clear hHeld
              go_wp2_with fail
              refine (unhide HL _).mono ?_
              rintro _ w4 ⟨rfl, hbl⟩
              have HK := hide ((unhide HK).below hbl)
              clear hbl
              rcases hq with ⟨xm, rfl⟩ | ⟨rfl, rfl⟩ | ⟨xm, rfl⟩
              · clear HU
                go_wp2_with fail
                refine (unhide HL _).mono ?_
                rintro _ w5 ⟨rfl, hbl⟩
                have HK := hide ((unhide HK).below hbl)
                clear hbl
                have ca' := (unhide HK).ca; have cb' := (unhide HK).cb
                go_wp2_with fail
                clear ca' cb'
                refine (unhide HG _ (unhide HK).na (unhide HK).nb).mono ?_
                rintro _ w7 ⟨s7, rfl, hN7, hbl⟩
                obtain ⟨a7, n7, c7, rfl⟩ := hN7.slice
                have HK := hide ((unhide HK).below hbl)
                clear hbl
                have HN : Hid ((w7.alloc (.cells #[.slice a7 n7 c7] 65)).cell? ⟨w7.heap.size, 0, none⟩ = some (.slice a7 n7 c7) ∧ (w7.alloc (.cells #[.slice a7 n7 c7] 65)).frozen? ⟨w7.heap.size, 0, none⟩ = false ∧ IsNat (w7.alloc (.cells #[.slice a7 n7 c7] 65)) (.slice a7 n7 c7) G) := ⟨by simp [go_sem], by simp [go_sem], hN7.below (below1 _ _)⟩
                have HB := hide (balloc (unhide HK).bel (.cells #[.slice a7 n7 c7] 65))
                have hz7 : w0.heap.size ≤ w7.heap.size := (unhide HK).bel.size
                clear hN7 HK
                go_wp2_with fail
                refine (refLen_any _ _ _ _ _ (unhide HN).2.2).mono ?_
                rw [unhide HLG]
                rintro _ w8 ⟨rfl, hbl⟩
                have HN := hide (And.intro (keep1 hbl (lt_of_cell (unhide HN).1) (unhide HN).1) (And.intro ((hbl.frozen (lt_of_cell (unhide HN).1)).trans (unhide HN).2.1) ((unhide HN).2.2.below hbl)))
                have HB := hide (bthen (unhide HB) hbl)
                clear hbl
                have cn := (unhide HN).1
                go_wp2_with fail
                clear cn
                refine (half_one _ _ _ _ _ (unhide HN).2.2 (unhide HG3)).mono ?_
                rintro _ w9 ⟨s9, rfl, hN9, hbl⟩
                obtain ⟨a9, n9, c9, rfl⟩ := hN9.slice
                have HN := hide (And.intro (keep1 hbl (lt_of_cell (unhide HN).1) (unhide HN).1) (And.intro ((hbl.frozen (lt_of_cell (unhide HN).1)).trans (unhide HN).2.1) ((unhide HN).2.2.below hbl)))
                have HB := hide (bthen (unhide HB) hbl)
                clear hbl
                have cn := (unhide HN).1
                have fn := (unhide HN).2.1
                go_wp2_with fail
                have HN : Hid ((w9.setCell ⟨w7.heap.size, 0, none⟩ (.slice a9 n9 c9)).cell? ⟨w7.heap.size, 0, none⟩ = some (.slice a9 n9 c9) ∧ (w9.setCell ⟨w7.heap.size, 0, none⟩ (.slice a9 n9 c9)).frozen? ⟨w7.heap.size, 0, none⟩ = false ∧ IsNat (w9.setCell ⟨w7.heap.size, 0, none⟩ (.slice a9 n9 c9)) (.slice a9 n9 c9) (G / 2 ^ 1)) := ⟨World.cell?_setCell_same _ _ _ cn, by rw [frozen_set]; exact fn, hN9.store cn _⟩
                have HB := hide (bset (unhide HB) w7.heap.size hz7 0 (.slice a9 n9 c9))
                clear cn fn hN9
                generalize w9.setCell ⟨w7.heap.size, 0, none⟩ (.slice a9 n9 c9) = w9s at *
                go_wp2_with fail
                refine (unhide HL _).mono ?_
                rintro _ w10 ⟨rfl, hbl⟩
                have HN := hide (And.intro (keep1 hbl (lt_of_cell (unhide HN).1) (unhide HN).1) (And.intro ((hbl.frozen (lt_of_cell (unhide HN).1)).trans (unhide HN).2.1) ((unhide HN).2.2.below hbl)))
                have HB := hide (bthen (unhide HB) hbl)
                clear hbl
                go_wp2_with fail
                refine (unhide HT _).mono ?_
                rintro _ w11 ⟨rfl, hbl⟩
                have HN := hide (And.intro (keep1 hbl (lt_of_cell (unhide HN).1) (unhide HN).1) (And.intro ((hbl.frozen (lt_of_cell (unhide HN).1)).trans (unhide HN).2.1) ((unhide HN).2.2.below hbl)))
                have HB := hide (bthen (unhide HB) hbl)
                clear hbl
                go_wp2_with fail
                refine (unhide HI _).mono ?_
                rintro _ w12 ⟨rfl, hbl⟩
                have HB := hide (bthen (unhide HB) hbl)
                go_wp2_with fail
                go_ret
                exact ⟨rfl, unhide HB⟩
                
              · clear HU
                go_wp2_with fail
                refine (unhide HL _).mono ?_
                rintro _ w5 ⟨rfl, hbl⟩
                have HK := hide ((unhide HK).below hbl)
                clear hbl
                have ca' := (unhide HK).ca; have cb' := (unhide HK).cb
                go_wp2_with fail
                clear ca' cb'
                refine (unhide HG _ (unhide HK).na (unhide HK).nb).mono ?_
                rintro _ w7 ⟨s7, rfl, hN7, hbl⟩
                obtain ⟨a7, n7, c7, rfl⟩ := hN7.slice
                have HK := hide ((unhide HK).below hbl)
                clear hbl
                have HN : Hid ((w7.alloc (.cells #[.slice a7 n7 c7] 65)).cell? ⟨w7.heap.size, 0, none⟩ = some (.slice a7 n7 c7) ∧ (w7.alloc (.cells #[.slice a7 n7 c7] 65)).frozen? ⟨w7.heap.size, 0, none⟩ = false ∧ IsNat (w7.alloc (.cells #[.slice a7 n7 c7] 65)) (.slice a7 n7 c7) G) := ⟨by simp [go_sem], by simp [go_sem], hN7.below (below1 _ _)⟩
                have HB := hide (balloc (unhide HK).bel (.cells #[.slice a7 n7 c7] 65))
                have hz7 : w0.heap.size ≤ w7.heap.size := (unhide HK).bel.size
                clear hN7 HK
                go_wp2_with fail
                refine (refLen_any _ _ _ _ _ (unhide HN).2.2).mono ?_
                rw [unhide HLG]
                rintro _ w8 ⟨rfl, hbl⟩
                have HN := hide (And.intro (keep1 hbl (lt_of_cell (unhide HN).1) (unhide HN).1) (And.intro ((hbl.frozen (lt_of_cell (unhide HN).1)).trans (unhide HN).2.1) ((unhide HN).2.2.below hbl)))
                have HB := hide (bthen (unhide HB) hbl)
                clear hbl
                have cn := (unhide HN).1
                go_wp2_with fail
                clear cn
                refine (half_one _ _ _ _ _ (unhide HN).2.2 (unhide HG3)).mono ?_
                rintro _ w9 ⟨s9, rfl, hN9, hbl⟩
                obtain ⟨a9, n9, c9, rfl⟩ := hN9.slice
                have HN := hide (And.intro (keep1 hbl (lt_of_cell (unhide HN).1) (unhide HN).1) (And.intro ((hbl.frozen (lt_of_cell (unhide HN).1)).trans (unhide HN).2.1) ((unhide HN).2.2.below hbl)))
                have HB := hide (bthen (unhide HB) hbl)
                clear hbl
                have cn := (unhide HN).1
                have fn := (unhide HN).2.1
                go_wp2_with fail
                have HN : Hid ((w9.setCell ⟨w7.heap.size, 0, none⟩ (.slice a9 n9 c9)).cell? ⟨w7.heap.size, 0, none⟩ = some (.slice a9 n9 c9) ∧ (w9.setCell ⟨w7.heap.size, 0, none⟩ (.slice a9 n9 c9)).frozen? ⟨w7.heap.size, 0, none⟩ = false ∧ IsNat (w9.setCell ⟨w7.heap.size, 0, none⟩ (.slice a9 n9 c9)) (.slice a9 n9 c9) (G / 2 ^ 1)) := ⟨World.cell?_setCell_same _ _ _ cn, by rw [frozen_set]; exact fn, hN9.store cn _⟩
                have HB := hide (bset (unhide HB) w7.heap.size hz7 0 (.slice a9 n9 c9))
                clear cn fn hN9
                generalize w9.setCell ⟨w7.heap.size, 0, none⟩ (.slice a9 n9 c9) = w9s at *
                go_wp2_with fail
                refine (unhide HL _).mono ?_
                rintro _ w10 ⟨rfl, hbl⟩
                have HN := hide (And.intro (keep1 hbl (lt_of_cell (unhide HN).1) (unhide HN).1) (And.intro ((hbl.frozen (lt_of_cell (unhide HN).1)).trans (unhide HN).2.1) ((unhide HN).2.2.below hbl)))
                have HB := hide (bthen (unhide HB) hbl)
                clear hbl
                go_wp2_with fail
                refine (unhide HT _).mono ?_
                rintro _ w11 ⟨rfl, hbl⟩
                have HN := hide (And.intro (keep1 hbl (lt_of_cell (unhide HN).1) (unhide HN).1) (And.intro ((hbl.frozen (lt_of_cell (unhide HN).1)).trans (unhide HN).2.1) ((unhide HN).2.2.below hbl)))
                have HB := hide (bthen (unhide HB) hbl)
                clear hbl
                go_wp2_with fail
                refine (unhide HI _).mono ?_
                rintro _ w12 ⟨rfl, hbl⟩
                have HB := hide (bthen (unhide HB) hbl)
                go_wp2_with fail
                go_ret
                exact ⟨rfl, unhide HB⟩
                
              · have HU := HU xm
                have xn : ¬ q < L := by omega
                have xd := dt xm
                go_wp2_with fail
                refine (unhide HL _).mono ?_
                rintro _ w5 ⟨rfl, hbl⟩
                have HK := hide ((unhide HK).below hbl)
                clear hbl
                have ca' := (unhide HK).ca; have cb' := (unhide HK).cb
                go_wp2_with fail
                clear ca' cb'
                refine (unhide HU _ (unhide HK).na (unhide HK).nb).mono ?_
                rintro _ w6 ⟨rfl, hbl⟩
                have HK := hide ((unhide HK).below hbl)
                clear hbl
                have ca' := (unhide HK).ca; have cb' := (unhide HK).cb
                go_wp2_with fail
                clear ca' cb'
                refine (unhide HG _ (unhide HK).na (unhide HK).nb).mono ?_
                rintro _ w7 ⟨s7, rfl, hN7, hbl⟩
                obtain ⟨a7, n7, c7, rfl⟩ := hN7.slice
                have HK := hide ((unhide HK).below hbl)
                clear hbl
                have HN : Hid ((w7.alloc (.cells #[.slice a7 n7 c7] 65)).cell? ⟨w7.heap.size, 0, none⟩ = some (.slice a7 n7 c7) ∧ (w7.alloc (.cells #[.slice a7 n7 c7] 65)).frozen? ⟨w7.heap.size, 0, none⟩ = false ∧ IsNat (w7.alloc (.cells #[.slice a7 n7 c7] 65)) (.slice a7 n7 c7) G) := ⟨by simp [go_sem], by simp [go_sem], hN7.below (below1 _ _)⟩
                have HB := hide (balloc (unhide HK).bel (.cells #[.slice a7 n7 c7] 65))
                have hz7 : w0.heap.size ≤ w7.heap.size := (unhide HK).bel.size
                clear hN7 HK
                go_wp2_with fail
                refine (refLen_any _ _ _ _ _ (unhide HN).2.2).mono ?_
                rw [unhide HLG]
                rintro _ w8 ⟨rfl, hbl⟩
                have HN := hide (And.intro (keep1 hbl (lt_of_cell (unhide HN).1) (unhide HN).1) (And.intro ((hbl.frozen (lt_of_cell (unhide HN).1)).trans (unhide HN).2.1) ((unhide HN).2.2.below hbl)))
                have HB := hide (bthen (unhide HB) hbl)
                clear hbl
                have cn := (unhide HN).1
                go_wp2_with fail
                clear cn
                refine (half_one _ _ _ _ _ (unhide HN).2.2 (unhide HG3)).mono ?_
                rintro _ w9 ⟨s9, rfl, hN9, hbl⟩
                obtain ⟨a9, n9, c9, rfl⟩ := hN9.slice
                have HN := hide (And.intro (keep1 hbl (lt_of_cell (unhide HN).1) (unhide HN).1) (And.intro ((hbl.frozen (lt_of_cell (unhide HN).1)).trans (unhide HN).2.1) ((unhide HN).2.2.below hbl)))
                have HB := hide (bthen (unhide HB) hbl)
                clear hbl
                have cn := (unhide HN).1
                have fn := (unhide HN).2.1
                go_wp2_with fail
                have HN : Hid ((w9.setCell ⟨w7.heap.size, 0, none⟩ (.slice a9 n9 c9)).cell? ⟨w7.heap.size, 0, none⟩ = some (.slice a9 n9 c9) ∧ (w9.setCell ⟨w7.heap.size, 0, none⟩ (.slice a9 n9 c9)).frozen? ⟨w7.heap.size, 0, none⟩ = false ∧ IsNat (w9.setCell ⟨w7.heap.size, 0, none⟩ (.slice a9 n9 c9)) (.slice a9 n9 c9) (G / 2 ^ 1)) := ⟨World.cell?_setCell_same _ _ _ cn, by rw [frozen_set]; exact fn, hN9.store cn _⟩
                have HB := hide (bset (unhide HB) w7.heap.size hz7 0 (.slice a9 n9 c9))
                clear cn fn hN9
                generalize w9.setCell ⟨w7.heap.size, 0, none⟩ (.slice a9 n9 c9) = w9s at *
                go_wp2_with fail
                refine (unhide HL _).mono ?_
                rintro _ w10 ⟨rfl, hbl⟩
                have HN := hide (And.intro (keep1 hbl (lt_of_cell (unhide HN).1) (unhide HN).1) (And.intro ((hbl.frozen (lt_of_cell (unhide HN).1)).trans (unhide HN).2.1) ((unhide HN).2.2.below hbl)))
                have HB := hide (bthen (unhide HB) hbl)
                clear hbl
                go_wp2_with fail
                refine (unhide HT _).mono ?_
                rintro _ w11 ⟨rfl, hbl⟩
                have HN := hide (And.intro (keep1 hbl (lt_of_cell (unhide HN).1) (unhide HN).1) (And.intro ((hbl.frozen (lt_of_cell (unhide HN).1)).trans (unhide HN).2.1) ((unhide HN).2.2.below hbl)))
                have HB := hide (bthen (unhide HB) hbl)
                clear hbl
                go_wp2_with fail
                refine (unhide HI _).mono ?_
                rintro _ w12 ⟨rfl, hbl⟩
                have HB := hide (bthen (unhide HB) hbl)
                go_wp2_with fail
                go_ret
                exact ⟨rfl, unhide HB⟩
                

set_option maxRecDepth 100000 in
set_option maxHeartbeats 8000000 in
theorem near_bn {w f L Tp P k LA LB TF q : Int} {n : Bool} (a b : Option Addr) (na ca nb cb x y G : Nat) (w0 : World) (hx : IsNat w0 (.slice a na ca) x) (hy : IsNat w0 (.slice b nb cb) y)
    (HF : Hid (∀ W, Calls Try.prog 39 #[.int .i64 w] W fun r W' => r = .returned (.int .i64 f) ∧ Below W.heap.size W W')) (HL : Hid (∀ W, Calls Try.prog 79 #[.int .i64 w] W fun r W' => r = .returned (.int .i64 L) ∧ Below W.heap.size W W')) (HT : Hid (∀ W, Calls Try.prog 37 #[.int .i64 w] W fun r W' => r = .returned (.int .i64 Tp) ∧ Below W.heap.size W W')) (H2 : Hid (∀ W, Calls Try.prog 40 #[.int .i64 f] W fun r W' => r = .returned (.int .u64 P) ∧ Below W.heap.size W W'))
    (hla : (Go.bitLen x : Int) = LA) (hlb : (Go.bitLen y : Int) = LB) 
    (r1 : LA ≤ 20000) (r2 : LB ≤ 20000) (r3 : -20000 ≤ k ∧ k ≤ 20000) (r4 : 0 ≤ f ∧ f ≤ 63) (r5 : -20000 ≤ L ∧ L ≤ 20000) (r6 : -20000 ≤ Tp ∧ Tp ≤ 20000)
    (htf : LA - LB + k - f = TF) (hq : (TF < L ∧ q = L) ∨ (TF = L ∧ q = L) ∨ (L < TF ∧ q = TF))
    (HU : L < TF → Hid (∀ W, IsNat W (.slice a na ca) x → IsNat W (.slice b nb cb) y → Calls Try.prog 80 #[.agg #[.slice a na ca], .agg #[.slice b nb cb], .int .i64 (k - q - f)] W fun r W' => r = .returned (.bool false) ∧ Below W.heap.size W W'))
    (HG : Hid (∀ W, IsNat W (.slice a na ca) x → IsNat W (.slice b nb cb) y → Calls Try.prog 81 #[.agg #[.slice a na ca], .agg #[.slice b nb cb], .int .i64 (k - q)] W fun r W' => ∃ s', r = .returned (.agg #[s']) ∧ IsNat W' s' G ∧ Below W.heap.size W W'))
    {LG S V : Int} (hlg' : (Go.bitLen G : Int) = LG) (d : f + 1 < LG) (hG3 : G < pw 300) (z : decide (L + Tp - 2 < (q + 1)) = false) (hs : lo (G / 2 ^ 1) = S) (t : decide (S < P) = false) (k12 : IntKind.i64.wrap ((q + 1) - L) = (q + 1) - L) (k13 : IntKind.i64.wrap ((q + 1) - L + 1) = (q + 1) - L + 1) (k14 : IntKind.u64.wrap (S - P) = S - P) (HM : Hid (∀ W, Calls Try.prog 52 #[.int .i64 w, .bool n, .int .i64 ((q + 1) - L + 1), .int .u64 (S - P)] W fun r W' => r = .returned (.int .u64 V) ∧ Below W.heap.size W W')) :
    Calls Try.prog 65 #[.int .i64 w, .bool n, .agg #[.slice a na ca], .agg #[.slice b nb cb], .int .i64 k] w0 fun r W' => r = .returned (.int .u64 V) ∧ Below w0.heap.size w0 W' := by
  have k1 : IntKind.i64.wrap (LA - LB) = LA - LB := i64_id (by omega) (by omega)
  have k2 : IntKind.i64.wrap (LA - LB + k) = LA - LB + k := i64_id (by omega) (by omega)
  have k3 : IntKind.i64.wrap (LA - LB + k - f) = TF := by rw [← htf]; exact i64_id (by omega) (by omega)
  have rq1 : -200001 ≤ q ∧ q ≤ 200000 := by rcases hq with h | h | h <;> omega
  have k5 : IntKind.i64.wrap (k - q - f) = k - q - f := i64_id (by omega) (by omega)
  have k7 : IntKind.i64.wrap (k - q) = k - q := i64_id (by omega) (by omega)
  have k8 : IntKind.i64.wrap (f + 1) = f + 1 := i64_id (by omega) (by omega)
  have k9 : IntKind.i64.wrap (q + 1) = q + 1 := i64_id (by omega) (by omega)
  have k10 : IntKind.i64.wrap (L + Tp) = L + Tp := i64_id (by omega) (by omega)
  have k11 : IntKind.i64.wrap (L + Tp - 2) = L + Tp - 2 := i64_id (by omega) (by omega)
  have HLA := hide hla; have HLB := hide hlb
  clear hla hlb r1 r2 r3 r4 r5 r6 rq1 htf
  have HLG := hide hlg'
  clear hlg'
  have HG3 := hide hG3
  clear hG3
  have HS := hide hs
  clear hs
  
  have HX := hide hx; have HY := hide hy
  clear hx hy
  go_enter Try.func65, Try.ntmps65
  go_wp2_with fail
  have HK : Hid (TwoSt w0.heap.size w0 (.slice a na ca) (.slice b nb cb) x y ((w0.alloc (.cells #[.slice a na ca] 65)).alloc (.cells #[.slice b nb cb] 65))) :=
    { ca := by simp [go_sem], cb := by simp [go_sem], na := (unhide HX).below (below2 _ _ _), nb := (unhide HY).below (below2 _ _ _), bel := below2 _ _ _ }
  clear HX HY
  refine (unhide HF _).mono ?_
  rintro _ w1 ⟨rfl, hbl⟩
  have HK := hide ((unhide HK).below hbl)
  clear hbl
  
  go_wp2_with fail
  have HK := hide ((unhide HK).below ((Below.refl _ _).drew))
  refine wp_region_held_drew (S := fun w' => w'.cell? ⟨w0.heap.size, 0, none⟩ = some (.slice a na ca) ∧ w'.cell? ⟨w0.heap.size + 1, 0, none⟩ = some (.slice b nb cb)) (by kernel_rfl) ?_ (fun hHeld => ?_)
  · (try dsimp only)
    exact ⟨(unhide HK).ca, (unhide HK).cb⟩
  refine anyH_at #[false, false, false, false, false, false, false, false] (by kernel_rfl) ?_
  refine wpAnyH_take (i := 0) (oi := { dst := some 18, op := _, type := _, pos := _, after := _, guard := _ }) (v := ?vv0r2) rfl (by kernel_rfl) (by kernel_rfl) (by kernel_rfl) (fun _ _ _ h => h) (Or.inl ⟨by rfl, ?hy0r2⟩) (by assumption) ?rest0r2
  case hy0r2 => ((intro w hSw; (try dsimp only at hSw); go_simp) <;> with_reducible rfl)
  case rest0r2 =>
    (try simp only [Act.put, List.setIfInBounds_toArray, List.set_cons_zero, List.set_cons_succ])
    refine anyH_at #[true, false, false, false, false, false, false, false] (by kernel_rfl) ?_
    refine wpAnyH_take (i := 2) (oi := { dst := some 20, op := _, type := _, pos := _, after := _, guard := _ }) (v := ?vv2r2) rfl (by kernel_rfl) (by kernel_rfl) (by kernel_rfl) (fun _ _ _ h => h) (Or.inl ⟨by rfl, ?hy2r2⟩) (by assumption) ?rest2r2
    case hy2r2 => ((intro w hSw; (try dsimp only at hSw); go_simp) <;> with_reducible rfl)
    case rest2r2 =>
      (try simp only [Act.put, List.setIfInBounds_toArray, List.set_cons_zero, List.set_cons_succ])
      refine anyH_at #[true, false, true, false, false, false, false, false] (by kernel_rfl) ?_
      refine wpAnyH_take (i := 5) (oi := { dst := some 23, op := _, type := _, pos := _, after := _, guard := _ }) (v := ?vv5r2) rfl (by kernel_rfl) (by kernel_rfl) (by kernel_rfl) (fun _ _ _ h => h) (Or.inl ⟨by rfl, ?hy5r2⟩) (by assumption) ?rest5r2
      case hy5r2 => ((intro w hSw; (try dsimp only at hSw); go_simp) <;> with_reducible rfl)
      case rest5r2 =>
        (try simp only [Act.put, List.setIfInBounds_toArray, List.set_cons_zero, List.set_cons_succ])
        refine anyH_at #[true, false, true, false, false, true, false, false] (by kernel_rfl) ?_
        refine wpAnyH_ready (rs := [1]) (by kernel_rfl) (by simp) ?_
        refine AllReadyH.cons (o := { dst := some 19, op := _, type := _, pos := _, after := _, guard := _ }) rfl (fun Kk hKk => ?_) AllReadyH.nil
        go_simp
        refine (refLen_any _ _ _ _ _ (unhide HK).na).mono ?_
        rw [unhide HLA]
        rintro _ w2 ⟨rfl, hbl⟩
        have HK := hide ((unhide HK).below hbl)
        clear hbl
        (try go_wp2_with fail)
        refine hKk.out _ _ ?_ (fun hHeld => ?_)
        · (try dsimp only)
          exact ⟨(unhide HK).ca, (unhide HK).cb⟩
        clear hKk Kk
        (try simp only [List.setIfInBounds_toArray, List.set_cons_zero, List.set_cons_succ])
        refine anyH_at #[true, true, true, false, false, true, false, false] (by kernel_rfl) ?_
        refine wpAnyH_ready (rs := [3]) (by kernel_rfl) (by simp) ?_
        refine AllReadyH.cons (o := { dst := some 21, op := _, type := _, pos := _, after := _, guard := _ }) rfl (fun Kk hKk => ?_) AllReadyH.nil
        go_simp
        refine (refLen_any _ _ _ _ _ (unhide HK).nb).mono ?_
        rw [unhide HLB]
        rintro _ w3 ⟨rfl, hbl⟩
        have HK := hide ((unhide HK).below hbl)
        clear hbl
        (try go_wp2_with fail)
        refine hKk.out _ _ ?_ (fun hHeld => ?_)
        · (try dsimp only)
          exact ⟨(unhide HK).ca, (unhide HK).cb⟩
        clear hKk Kk
        (try simp only [List.setIfInBounds_toArray, List.set_cons_zero, List.set_cons_succ])
        refine anyH_at #[true, true, true, true, false, true, false, false] (by kernel_rfl) ?_
        refine wpAnyH_take (i := 4) (oi := { dst := some 22, op := _, type := _, pos := _, after := _, guard := _ }) (v := ?vv4r2) rfl (by kernel_rfl) (by kernel_rfl) (by kernel_rfl) (fun _ _ _ h => h) (Or.inl ⟨by rfl, ?hy4r2⟩) (by assumption) ?rest4r2
        case hy4r2 => ((intro w hSw; (try dsimp only at hSw); go_simp) <;> with_reducible rfl)
        case rest4r2 =>
          (try simp only [Act.put, List.setIfInBounds_toArray, List.set_cons_zero, List.set_cons_succ])
          refine anyH_at #[true, true, true, true, true, true, false, false] (by kernel_rfl) ?_
          refine wpAnyH_take (i := 6) (oi := { dst := some 24, op := _, type := _, pos := _, after := _, guard := _ }) (v := ?vv6r2) rfl (by kernel_rfl) (by kernel_rfl) (by kernel_rfl) (fun _ _ _ h => h) (Or.inl ⟨by rfl, ?hy6r2⟩) (by assumption) ?rest6r2
          case hy6r2 => ((intro w hSw; (try dsimp only at hSw); go_simp) <;> with_reducible rfl)
          case rest6r2 =>
            (try simp only [Act.put, List.setIfInBounds_toArray, List.set_cons_zero, List.set_cons_succ])
            refine anyH_at #[true, true, true, true, true, true, true, false] (by kernel_rfl) ?_
            refine wpAnyH_take (i := 7) (oi := { dst := some 12, op := _, type := _, pos := _, after := _, guard := _ }) (v := ?vv7r2) rfl (by kernel_rfl) (by kernel_rfl) (by kernel_rfl) (fun _ _ _ h => h) (Or.inl ⟨by rfl, ?hy7r2⟩) (by assumption) ?rest7r2
            case hy7r2 => ((intro w hSw; (try dsimp only at hSw); go_simp) <;> with_reducible rfl)
            case rest7r2 =>
              (try simp only [Act.put, List.setIfInBounds_toArray, List.set_cons_zero, List.set_cons_succ])
              refine anyH_at #[true, true, true, true, true, true, true, true] (by kernel_rfl) ?_
              refine wpAnyH_done (by kernel_rfl) ?_ _
              clear hHeld
              go_wp2_with fail
              refine (unhide HL _).mono ?_
              rintro _ w4 ⟨rfl, hbl⟩
              have HK := hide ((unhide HK).below hbl)
              clear hbl
              rcases hq with ⟨xm, rfl⟩ | ⟨rfl, rfl⟩ | ⟨xm, rfl⟩
              · clear HU
                go_wp2_with fail
                refine (unhide HL _).mono ?_
                rintro _ w5 ⟨rfl, hbl⟩
                have HK := hide ((unhide HK).below hbl)
                clear hbl
                have ca' := (unhide HK).ca; have cb' := (unhide HK).cb
                go_wp2_with fail
                clear ca' cb'
                refine (unhide HG _ (unhide HK).na (unhide HK).nb).mono ?_
                rintro _ w7 ⟨s7, rfl, hN7, hbl⟩
                obtain ⟨a7, n7, c7, rfl⟩ := hN7.slice
                have HK := hide ((unhide HK).below hbl)
                clear hbl
                have HN : Hid ((w7.alloc (.cells #[.slice a7 n7 c7] 65)).cell? ⟨w7.heap.size, 0, none⟩ = some (.slice a7 n7 c7) ∧ (w7.alloc (.cells #[.slice a7 n7 c7] 65)).frozen? ⟨w7.heap.size, 0, none⟩ = false ∧ IsNat (w7.alloc (.cells #[.slice a7 n7 c7] 65)) (.slice a7 n7 c7) G) := ⟨by simp [go_sem], by simp [go_sem], hN7.below (below1 _ _)⟩
                have HB := hide (balloc (unhide HK).bel (.cells #[.slice a7 n7 c7] 65))
                have hz7 : w0.heap.size ≤ w7.heap.size := (unhide HK).bel.size
                clear hN7 HK
                go_wp2_with fail
                refine (refLen_any _ _ _ _ _ (unhide HN).2.2).mono ?_
                rw [unhide HLG]
                rintro _ w8 ⟨rfl, hbl⟩
                have HN := hide (And.intro (keep1 hbl (lt_of_cell (unhide HN).1) (unhide HN).1) (And.intro ((hbl.frozen (lt_of_cell (unhide HN).1)).trans (unhide HN).2.1) ((unhide HN).2.2.below hbl)))
                have HB := hide (bthen (unhide HB) hbl)
                clear hbl
                have cn := (unhide HN).1
                go_wp2_with fail
                clear cn
                refine (half_one _ _ _ _ _ (unhide HN).2.2 (unhide HG3)).mono ?_
                rintro _ w9 ⟨s9, rfl, hN9, hbl⟩
                obtain ⟨a9, n9, c9, rfl⟩ := hN9.slice
                have HN := hide (And.intro (keep1 hbl (lt_of_cell (unhide HN).1) (unhide HN).1) (And.intro ((hbl.frozen (lt_of_cell (unhide HN).1)).trans (unhide HN).2.1) ((unhide HN).2.2.below hbl)))
                have HB := hide (bthen (unhide HB) hbl)
                clear hbl
                have cn := (unhide HN).1
                have fn := (unhide HN).2.1
                go_wp2_with fail
                have HN : Hid ((w9.setCell ⟨w7.heap.size, 0, none⟩ (.slice a9 n9 c9)).cell? ⟨w7.heap.size, 0, none⟩ = some (.slice a9 n9 c9) ∧ (w9.setCell ⟨w7.heap.size, 0, none⟩ (.slice a9 n9 c9)).frozen? ⟨w7.heap.size, 0, none⟩ = false ∧ IsNat (w9.setCell ⟨w7.heap.size, 0, none⟩ (.slice a9 n9 c9)) (.slice a9 n9 c9) (G / 2 ^ 1)) := ⟨World.cell?_setCell_same _ _ _ cn, by rw [frozen_set]; exact fn, hN9.store cn _⟩
                have HB := hide (bset (unhide HB) w7.heap.size hz7 0 (.slice a9 n9 c9))
                clear cn fn hN9
                generalize w9.setCell ⟨w7.heap.size, 0, none⟩ (.slice a9 n9 c9) = w9s at *
                go_wp2_with fail
                refine (unhide HL _).mono ?_
                rintro _ w10 ⟨rfl, hbl⟩
                have HN := hide (And.intro (keep1 hbl (lt_of_cell (unhide HN).1) (unhide HN).1) (And.intro ((hbl.frozen (lt_of_cell (unhide HN).1)).trans (unhide HN).2.1) ((unhide HN).2.2.below hbl)))
                have HB := hide (bthen (unhide HB) hbl)
                clear hbl
                go_wp2_with fail
                refine (unhide HT _).mono ?_
                rintro _ w11 ⟨rfl, hbl⟩
                have HN := hide (And.intro (keep1 hbl (lt_of_cell (unhide HN).1) (unhide HN).1) (And.intro ((hbl.frozen (lt_of_cell (unhide HN).1)).trans (unhide HN).2.1) ((unhide HN).2.2.below hbl)))
                have HB := hide (bthen (unhide HB) hbl)
                clear hbl
                have cn := (unhide HN).1
                go_wp2_with fail
                clear cn
                refine (uint_any _ _ _ _ _ (unhide HN).2.2).mono ?_
                rw [unhide HS]
                rintro _ w12 ⟨rfl, hbl⟩
                have HB := hide (bthen (unhide HB) hbl)
                clear hbl HN
                go_wp2_with fail
                refine (unhide H2 _).mono ?_
                rintro _ w13 ⟨rfl, hbl⟩
                have HB := hide (bthen (unhide HB) hbl)
                clear hbl
                go_wp2_with fail
                refine (unhide HL _).mono ?_
                rintro _ w15 ⟨rfl, hbl⟩
                have HB := hide (bthen (unhide HB) hbl)
                clear hbl
                go_wp2_with fail
                refine (unhide H2 _).mono ?_
                rintro _ w16 ⟨rfl, hbl⟩
                have HB := hide (bthen (unhide HB) hbl)
                clear hbl
                go_wp2_with fail
                refine (unhide HM _).mono ?_
                rintro _ w14 ⟨rfl, hbl⟩
                have HB := hide (bthen (unhide HB) hbl)
                go_wp2_with fail
                go_ret
                exact ⟨rfl, unhide HB⟩
                
              · clear HU
                go_wp2_with fail
                refine (unhide HL _).mono ?_
                rintro _ w5 ⟨rfl, hbl⟩
                have HK := hide ((unhide HK).below hbl)
                clear hbl
                have ca' := (unhide HK).ca; have cb' := (unhide HK).cb
                go_wp2_with fail
                clear ca' cb'
                refine (unhide HG _ (unhide HK).na (unhide HK).nb).mono ?_
                rintro _ w7 ⟨s7, rfl, hN7, hbl⟩
                obtain ⟨a7, n7, c7, rfl⟩ := hN7.slice
                have HK := hide ((unhide HK).below hbl)
                clear hbl
                have HN : Hid ((w7.alloc (.cells #[.slice a7 n7 c7] 65)).cell? ⟨w7.heap.size, 0, none⟩ = some (.slice a7 n7 c7) ∧ (w7.alloc (.cells #[.slice a7 n7 c7] 65)).frozen? ⟨w7.heap.size, 0, none⟩ = false ∧ IsNat (w7.alloc (.cells #[.slice a7 n7 c7] 65)) (.slice a7 n7 c7) G) := ⟨by simp [go_sem], by simp [go_sem], hN7.below (below1 _ _)⟩
                have HB := hide (balloc (unhide HK).bel (.cells #[.slice a7 n7 c7] 65))
                have hz7 : w0.heap.size ≤ w7.heap.size := (unhide HK).bel.size
                clear hN7 HK
                go_wp2_with fail
                refine (refLen_any _ _ _ _ _ (unhide HN).2.2).mono ?_
                rw [unhide HLG]
                rintro _ w8 ⟨rfl, hbl⟩
                have HN := hide (And.intro (keep1 hbl (lt_of_cell (unhide HN).1) (unhide HN).1) (And.intro ((hbl.frozen (lt_of_cell (unhide HN).1)).trans (unhide HN).2.1) ((unhide HN).2.2.below hbl)))
                have HB := hide (bthen (unhide HB) hbl)
                clear hbl
                have cn := (unhide HN).1
                go_wp2_with fail
                clear cn
                refine (half_one _ _ _ _ _ (unhide HN).2.2 (unhide HG3)).mono ?_
                rintro _ w9 ⟨s9, rfl, hN9, hbl⟩
                obtain ⟨a9, n9, c9, rfl⟩ := hN9.slice
                have HN := hide (And.intro (keep1 hbl (lt_of_cell (unhide HN).1) (unhide HN).1) (And.intro ((hbl.frozen (lt_of_cell (unhide HN).1)).trans (unhide HN).2.1) ((unhide HN).2.2.below hbl)))
                have HB := hide (bthen (unhide HB) hbl)
                clear hbl
                have cn := (unhide HN).1
                have fn := (unhide HN).2.1
                go_wp2_with fail
                have HN : Hid ((w9.setCell ⟨w7.heap.size, 0, none⟩ (.slice a9 n9 c9)).cell? ⟨w7.heap.size, 0, none⟩ = some (.slice a9 n9 c9) ∧ (w9.setCell ⟨w7.heap.size, 0, none⟩ (.slice a9 n9 c9)).frozen? ⟨w7.heap.size, 0, none⟩ = false ∧ IsNat (w9.setCell ⟨w7.heap.size, 0, none⟩ (.slice a9 n9 c9)) (.slice a9 n9 c9) (G / 2 ^ 1)) := ⟨World.cell?_setCell_same _ _ _ cn, by rw [frozen_set]; exact fn, hN9.store cn _⟩
                have HB := hide (bset (unhide HB) w7.heap.size hz7 0 (.slice a9 n9 c9))
                clear cn fn hN9
                generalize w9.setCell ⟨w7.heap.size, 0, none⟩ (.slice a9 n9 c9) = w9s at *
                go_wp2_with fail
                refine (unhide HL _).mono ?_
                rintro _ w10 ⟨rfl, hbl⟩
                have HN := hide (And.intro (keep1 hbl (lt_of_cell (unhide HN).1) (unhide HN).1) (And.intro ((hbl.frozen (lt_of_cell (unhide HN).1)).trans (unhide HN).2.1) ((unhide HN).2.2.below hbl)))
                have HB := hide (bthen (unhide HB) hbl)
                clear hbl
                go_wp2_with fail
                refine (unhide HT _).mono ?_
                rintro _ w11 ⟨rfl, hbl⟩
                have HN := hide (And.intro (keep1 hbl (lt_of_cell (unhide HN).1) (unhide HN).1) (And.intro ((hbl.frozen (lt_of_cell (unhide HN).1)).trans (unhide HN).2.1) ((unhide HN).2.2.below hbl)))
                have HB := hide (bthen (unhide HB) hbl)
                clear hbl
                have cn := (unhide HN).1
                go_wp2_with fail
                clear cn
                refine (uint_any _ _ _ _ _ (unhide HN).2.2).mono ?_
                rw [unhide HS]
                rintro _ w12 ⟨rfl, hbl⟩
                have HB := hide (bthen (unhide HB) hbl)
                clear hbl HN
                go_wp2_with fail
                refine (unhide H2 _).mono ?_
                rintro _ w13 ⟨rfl, hbl⟩
                have HB := hide (bthen (unhide HB) hbl)
                clear hbl
                go_wp2_with fail
                refine (unhide HL _).mono ?_
                rintro _ w15 ⟨rfl, hbl⟩
                have HB := hide (bthen (unhide HB) hbl)
                clear hbl
                go_wp2_with fail
                refine (unhide H2 _).mono ?_
                rintro _ w16 ⟨rfl, hbl⟩
                have HB := hide (bthen (unhide HB) hbl)
                clear hbl
                go_wp2_with fail
                refine (unhide HM _).mono ?_
                rintro _ w14 ⟨rfl, hbl⟩
                have HB := hide (bthen (unhide HB) hbl)
                go_wp2_with fail
                go_ret
                exact ⟨rfl, unhide HB⟩
                
              · have HU := HU xm
                have xn : ¬ q < L := by omega
                have xd := dt xm
                go_wp2_with fail
                refine (unhide HL _).mono ?_
                rintro _ w5 ⟨rfl, hbl⟩
                have HK := hide ((unhide HK).below hbl)
                clear hbl
                have ca' := (unhide HK).ca; have cb' := (unhide HK).cb
                go_wp2_with fail
                clear ca' cb'
                refine (unhide HU _ (unhide HK).na (unhide HK).nb).mono ?_
                rintro _ w6 ⟨rfl, hbl⟩
                have HK := hide ((unhide HK).below hbl)
                clear hbl
                have ca' := (unhide HK).ca; have cb' := (unhide HK).cb
                go_wp2_with fail
                clear ca' cb'
                refine (unhide HG _ (unhide HK).na (unhide HK).nb).mono ?_
                rintro _ w7 ⟨s7, rfl, hN7, hbl⟩
                obtain ⟨a7, n7, c7, rfl⟩ := hN7.slice
                have HK := hide ((unhide HK).below hbl)
                clear hbl
                have HN : Hid ((w7.alloc (.cells #[.slice a7 n7 c7] 65)).cell? ⟨w7.heap.size, 0, none⟩ = some (.slice a7 n7 c7) ∧ (w7.alloc (.cells #[.slice a7 n7 c7] 65)).frozen? ⟨w7.heap.size, 0, none⟩ = false ∧ IsNat (w7.alloc (.cells #[.slice a7 n7 c7] 65)) (.slice a7 n7 c7) G) := ⟨by simp [go_sem], by simp [go_sem], hN7.below (below1 _ _)⟩
                have HB := hide (balloc (unhide HK).bel (.cells #[.slice a7 n7 c7] 65))
                have hz7 : w0.heap.size ≤ w7.heap.size := (unhide HK).bel.size
                clear hN7 HK
                go_wp2_with fail
                refine (refLen_any _ _ _ _ _ (unhide HN).2.2).mono ?_
                rw [unhide HLG]
                rintro _ w8 ⟨rfl, hbl⟩
                have HN := hide (And.intro (keep1 hbl (lt_of_cell (unhide HN).1) (unhide HN).1) (And.intro ((hbl.frozen (lt_of_cell (unhide HN).1)).trans (unhide HN).2.1) ((unhide HN).2.2.below hbl)))
                have HB := hide (bthen (unhide HB) hbl)
                clear hbl
                have cn := (unhide HN).1
                go_wp2_with fail
                clear cn
                refine (half_one _ _ _ _ _ (unhide HN).2.2 (unhide HG3)).mono ?_
                rintro _ w9 ⟨s9, rfl, hN9, hbl⟩
                obtain ⟨a9, n9, c9, rfl⟩ := hN9.slice
                have HN := hide (And.intro (keep1 hbl (lt_of_cell (unhide HN).1) (unhide HN).1) (And.intro ((hbl.frozen (lt_of_cell (unhide HN).1)).trans (unhide HN).2.1) ((unhide HN).2.2.below hbl)))
                have HB := hide (bthen (unhide HB) hbl)
                clear hbl
                have cn := (unhide HN).1
                have fn := (unhide HN).2.1
                go_wp2_with fail
                have HN : Hid ((w9.setCell ⟨w7.heap.size, 0, none⟩ (.slice a9 n9 c9)).cell? ⟨w7.heap.size, 0, none⟩ = some (.slice a9 n9 c9) ∧ (w9.setCell ⟨w7.heap.size, 0, none⟩ (.slice a9 n9 c9)).frozen? ⟨w7.heap.size, 0, none⟩ = false ∧ IsNat (w9.setCell ⟨w7.heap.size, 0, none⟩ (.slice a9 n9 c9)) (.slice a9 n9 c9) (G / 2 ^ 1)) := ⟨World.cell?_setCell_same _ _ _ cn, by rw [frozen_set]; exact fn, hN9.store cn _⟩
                have HB := hide (bset (unhide HB) w7.heap.size hz7 0 (.slice a9 n9 c9))
                clear cn fn hN9
                generalize w9.setCell ⟨w7.heap.size, 0, none⟩ (.slice a9 n9 c9) = w9s at *
                go_wp2_with fail
                refine (unhide HL _).mono ?_
                rintro _ w10 ⟨rfl, hbl⟩
                have HN := hide (And.intro (keep1 hbl (lt_of_cell (unhide HN).1) (unhide HN).1) (And.intro ((hbl.frozen (lt_of_cell (unhide HN).1)).trans (unhide HN).2.1) ((unhide HN).2.2.below hbl)))
                have HB := hide (bthen (unhide HB) hbl)
                clear hbl
                go_wp2_with fail
                refine (unhide HT _).mono ?_
                rintro _ w11 ⟨rfl, hbl⟩
                have HN := hide (And.intro (keep1 hbl (lt_of_cell (unhide HN).1) (unhide HN).1) (And.intro ((hbl.frozen (lt_of_cell (unhide HN).1)).trans (unhide HN).2.1) ((unhide HN).2.2.below hbl)))
                have HB := hide (bthen (unhide HB) hbl)
                clear hbl
                have cn := (unhide HN).1
                go_wp2_with fail
                clear cn
                refine (uint_any _ _ _ _ _ (unhide HN).2.2).mono ?_
                rw [unhide HS]
                rintro _ w12 ⟨rfl, hbl⟩
                have HB := hide (bthen (unhide HB) hbl)
                clear hbl HN
                go_wp2_with fail
                refine (unhide H2 _).mono ?_
                rintro _ w13 ⟨rfl, hbl⟩
                have HB := hide (bthen (unhide HB) hbl)
                clear hbl
                go_wp2_with fail
                refine (unhide HL _).mono ?_
                rintro _ w15 ⟨rfl, hbl⟩
                have HB := hide (bthen (unhide HB) hbl)
                clear hbl
                go_wp2_with fail
                refine (unhide H2 _).mono ?_
                rintro _ w16 ⟨rfl, hbl⟩
                have HB := hide (bthen (unhide HB) hbl)
                clear hbl
                go_wp2_with fail
                refine (unhide HM _).mono ?_
                rintro _ w14 ⟨rfl, hbl⟩
                have HB := hide (bthen (unhide HB) hbl)
                go_wp2_with fail
                go_ret
                exact ⟨rfl, unhide HB⟩
                

end Go.Proofs.Yticbhdgamblmbaa
