/- For every Way x and all uint64 a, b the law ChopOrder answers true, and the arguments read as before: what stops at an end never falls as the float rises. No condition. -/
import Derived.Test.YtmbkpmcmhmldgaaO14
import Derived.Test.YtmbkpmcmhmldgaaO29
import Derived.Test.YtmbkpmcmhmldgaaO30
import Derived.Lib.SmallJoins
namespace Go.Proofs.Ytmbkpmcmhmldgaa
open Go.ChangeShapes Go.WideShapes Go.ChangeAt Go.WideElems Go.RowKit Go.Joins
open Go.Proofs.Ytmbkpmcmhmldgaa.W

/-- What stops at an end, as a number with its sign. -/
def clN (H : Int) (s n : Bool) (K : Int) (z : Nat) : Int := if K = 2 ∨ ¬ (z : Int) ≤ endE H s n then (if n then -lowE H s else highE H s) else if n then -(z : Int) else (z : Int)
theorem cl_f {H K : Int} {n : Bool} {z : Nat} (h3 : K ≠ 3) : chV H false n K z = clN H false n K z := by
  unfold chV clN
  rw [if_neg h3]
  by_cases h2 : K = 2
  · rw [if_pos h2, if_pos (Or.inl h2)]
    cases n <;> rfl
  · rw [if_neg h2]
    by_cases hz : (z : Int) ≤ endE H false n
    · rw [if_pos hz, if_neg (fun g => g.elim h2 (fun q => q hz))]
      cases n
      · rfl
      · have : (z : Int) ≤ 0 := hz
        have hz0 : z = 0 := by omega
        subst hz0
        simp [sgd]
    · rw [if_neg hz, if_pos (Or.inr hz)]
      cases n <;> rfl
theorem cl_out {H K : Int} {s n : Bool} {z : Nat} (g : K = 2 ∨ ¬ (z : Int) ≤ endE H s n) : clN H s n K z = if n then -lowE H s else highE H s := if_pos g
theorem cl_at {H K : Int} {s n : Bool} {z : Nat} (h2 : K ≠ 2) (hz : (z : Int) ≤ endE H s n) : clN H s n K z = if n then -(z : Int) else (z : Int) := if_neg (fun g => g.elim h2 (fun q => q hz))
/-- With a sign its bits are read as it. -/
theorem cl_t {H K : Int} {n : Bool} {z : Nat} (hH : H = 2147483648 ∨ H = 9223372036854775808) (h3 : K ≠ 3) : 0 ≤ chV H true n K z ∧ chV H true n K z < 2 * H ∧ (if H ≤ chV H true n K z then chV H true n K z - 2 * H else chV H true n K z) = clN H true n K z := by
  have hp : 0 < H := by omega
  by_cases g : K = 2 ∨ ¬ (z : Int) ≤ endE H true n
  · have e1 : chV H true n K z = endE H true n := by
      unfold chV
      rw [if_neg h3]
      by_cases h2 : K = 2
      · rw [if_pos h2]
      · rw [if_neg h2, if_neg (g.resolve_left h2)]
    rw [e1, cl_out g]
    cases n
    · show 0 ≤ H - 1 ∧ H - 1 < 2 * H ∧ (if H ≤ H - 1 then H - 1 - 2 * H else H - 1) = H - 1
      exact ⟨by omega, by omega, by rw [if_neg (by omega)]⟩
    · show 0 ≤ H ∧ H < 2 * H ∧ (if H ≤ H then H - 2 * H else H) = -H
      exact ⟨by omega, by omega, by rw [if_pos (by omega)]; omega⟩
  · have h2 : K ≠ 2 := fun q => g (Or.inl q)
    have hz : (z : Int) ≤ endE H true n := Decidable.byContradiction fun q => g (Or.inr q)
    have e1 : chV H true n K z = sgd H n z := by unfold chV; rw [if_neg h3, if_neg h2, if_pos hz]
    rw [e1, cl_at h2 hz]
    cases n
    · have hz' : (z : Int) ≤ H - 1 := hz
      show 0 ≤ (z : Int) ∧ (z : Int) < 2 * H ∧ (if H ≤ (z : Int) then (z : Int) - 2 * H else (z : Int)) = (z : Int)
      exact ⟨by omega, by omega, by rw [if_neg (by omega)]⟩
    · have hz' : (z : Int) ≤ H := hz
      show 0 ≤ -(z : Int) % (2 * H) ∧ -(z : Int) % (2 * H) < 2 * H ∧ (if H ≤ -(z : Int) % (2 * H) then -(z : Int) % (2 * H) - 2 * H else -(z : Int) % (2 * H)) = -(z : Int)
      rcases hH with rfl | rfl
      · exact ⟨by omega, by omega, by split <;> omega⟩
      · exact ⟨by omega, by omega, by split <;> omega⟩
theorem cl_pos {H K : Int} {s : Bool} {z : Nat} (h0 : 0 ≤ highE H s) : 0 ≤ clN H s false K z ∧ clN H s false K z ≤ highE H s := by
  unfold clN
  by_cases g : K = 2 ∨ ¬ (z : Int) ≤ endE H s false
  · rw [if_pos g]
    exact ⟨h0, Int.le_refl _⟩
  · rw [if_neg g]
    have hz : (z : Int) ≤ highE H s := Decidable.byContradiction fun q => g (Or.inr q)
    show 0 ≤ (z : Int) ∧ (z : Int) ≤ highE H s
    omega
theorem cl_neg {H K : Int} {s : Bool} {z : Nat} (h0 : 0 ≤ lowE H s) : clN H s true K z ≤ 0 ∧ -lowE H s ≤ clN H s true K z := by
  unfold clN
  by_cases g : K = 2 ∨ ¬ (z : Int) ≤ endE H s true
  · rw [if_pos g]
    show -lowE H s ≤ 0 ∧ -lowE H s ≤ -lowE H s
    omega
  · rw [if_neg g]
    have hz : (z : Int) ≤ lowE H s := Decidable.byContradiction fun q => g (Or.inr q)
    show -(z : Int) ≤ 0 ∧ -lowE H s ≤ -(z : Int)
    omega
theorem cl_mono {H K J : Int} {s : Bool} {z y : Nat} (h : K = 2 → J = 2) (hz : J ≠ 2 → z ≤ y) (h0 : 0 ≤ highE H s) (l0 : 0 ≤ lowE H s) : clN H s false K z ≤ clN H s false J y ∧ clN H s true J y ≤ clN H s true K z := by
  by_cases hJ : J = 2
  · have e1 : clN H s false J y = highE H s := by unfold clN; rw [if_pos (Or.inl hJ)]; rfl
    have e2 : clN H s true J y = -lowE H s := by unfold clN; rw [if_pos (Or.inl hJ)]; rfl
    rw [e1, e2]
    exact ⟨(cl_pos h0).2, (cl_neg l0).2⟩
  · have hK : K ≠ 2 := fun q => hJ (h q)
    have hl := hz hJ
    constructor
    · by_cases g : (y : Int) ≤ highE H s
      · have e1 : clN H s false J y = y := cl_at (n := false) hJ g
        have e2 : clN H s false K z = z := cl_at (n := false) hK (show (z : Int) ≤ highE H s by omega)
        rw [e1, e2]
        omega
      · have e1 : clN H s false J y = highE H s := cl_out (n := false) (Or.inr g)
        rw [e1]
        exact (cl_pos h0).2
    · by_cases g : (y : Int) ≤ lowE H s
      · have e1 : clN H s true J y = -(y : Int) := cl_at (n := true) hJ g
        have e2 : clN H s true K z = -(z : Int) := cl_at (n := true) hK (show (z : Int) ≤ lowE H s by omega)
        rw [e1, e2]
        omega
      · have e1 : clN H s true J y = -lowE H s := cl_out (n := true) (Or.inr g)
        rw [e1]
        exact (cl_neg l0).2
/-- What stops at an end never falls as the float rises. -/
theorem cl_rises {w e f P Q b k e' f' P' Q' b' x y : Int} (kw : Kd w e f P Q b) (kk : Kd k e' f' P' Q' b') (s : Bool) (hx : oK P Q x ≠ 3) (hy : oK P Q y ≠ 3) (h : sc P Q x ≤ sc P Q y) :
    clN (P' * Q') s (oN P Q x) (oK P Q x) (wq (oM f P Q b x)) ≤ clN (P' * Q') s (oN P Q y) (oK P Q y) (wq (oM f P Q b y)) := by
  have h0 : 0 ≤ highE (P' * Q') s := (ends_in kk s false).1
  have l0 : 0 ≤ lowE (P' * Q') s := (ends_in kk s true).1
  have data : ∀ u, oK P Q u ≠ 3 → (oK P Q u = 2 ∧ (oc P Q u : Int) = top P Q ∨ oK P Q u ≠ 2 ∧ (oc P Q u : Int) < top P Q ∧ oM f P Q b u = fval f.toNat (lowN f b) (oc P Q u)) := fun u hu => by
    by_cases h2 : oK P Q u = 2
    · rcases kind_oc kw u with ⟨q, -⟩ | ⟨-, q, -⟩ | ⟨q, -⟩ | ⟨q, -⟩
      · exact absurd q hu
      · exact Or.inl ⟨h2, q⟩
      · exfalso; omega
      · exfalso; omega
    · obtain ⟨q1, q2⟩ := oM_fin kw ⟨hu, h2⟩
      exact Or.inr ⟨h2, q2, q1⟩
  have step : ∀ u v, oK P Q u ≠ 3 → oK P Q v ≠ 3 → oc P Q u ≤ oc P Q v → (oK P Q u = 2 → oK P Q v = 2) ∧ (oK P Q v ≠ 2 → wq (oM f P Q b u) ≤ wq (oM f P Q b v)) := fun u v hu hv huv => by
    rcases data u hu with ⟨a1, a2⟩ | ⟨a1, a2, a3⟩ <;> rcases data v hv with ⟨c1, c2⟩ | ⟨c1, c2, c3⟩
    · exact ⟨fun _ => c1, fun g => absurd c1 g⟩
    · exfalso; omega
    · exact ⟨fun g => absurd g a1, fun g => absurd c1 g⟩
    · refine ⟨fun g => absurd g a1, fun _ => ?_⟩
      rw [a3, c3]
      unfold wq
      exact Nat.div_le_div_right (fval_le.mpr huv)
  unfold sc at h
  cases hn : oN P Q x <;> cases hm : oN P Q y <;> rw [hn, hm] at h <;> simp only [if_true, if_false, Bool.false_eq_true] at h
  · obtain ⟨a, c⟩ := step x y hx hy (by omega)
    exact (cl_mono a c h0 l0).1
  · have zero : ∀ u n, oK P Q u ≠ 3 → oc P Q u = 0 → clN (P' * Q') s n (oK P Q u) (wq (oM f P Q b u)) = 0 := fun u n hu hc => by
      have ht := top_pos kw
      rcases data u hu with ⟨-, a2⟩ | ⟨a1, -, a3⟩
      · exfalso; omega
      · rw [a3, hc, fval_zero, wq_zero]
        unfold clN
        rw [if_neg (fun q => q.elim a1 (fun r => r (by show (0 : Int) ≤ _; cases n; exact h0; exact l0)))]
        cases n <;> rfl
    rw [zero x false hx (by omega), zero y true hy (by omega)]
    exact Int.le_refl _
  · exact Int.le_trans (cl_neg l0).1 (cl_pos h0).1
  · obtain ⟨a, c⟩ := step y x hy hx (by omega)
    exact (cl_mono a c h0 l0).2
theorem i32_low (x : Int) : IntKind.i32.wrap x = if 2147483648 ≤ x % 4294967296 then x % 4294967296 - 4294967296 else x % 4294967296 := by
  simp only [IntKind.wrap, IntKind.bits, IntKind.signed]
  simp
theorem i64_low (x : Int) : IntKind.i64.wrap x = if 9223372036854775808 ≤ x % 18446744073709551616 then x % 18446744073709551616 - 18446744073709551616 else x % 18446744073709551616 := by
  simp only [IntKind.wrap, IntKind.bits, IntKind.signed]
  simp
theorem u32_low (x : Int) : IntKind.u32.wrap x = x % 4294967296 := by
  simp only [IntKind.wrap, IntKind.bits, IntKind.signed]
  simp
theorem chopOrder_any (W : World) (w k : Int) (s : Bool) (x : Int) (x0 : 0 ≤ x) (x1 : x < 18446744073709551616) (y : Int) (y0 : 0 ≤ y) (y1 : y < 18446744073709551616) :
    Calls Try.prog 4 #[.agg #[.int .i64 w, .int .i64 k, .bool s], .int .u64 x, .int .u64 y] W fun r W' => r = .returned (.bool true) ∧ Below W.heap.size W W' := by
  obtain ⟨e, f, P, Q, b, h⟩ := wd_ex w
  obtain ⟨e', f', P', Q', b', h'⟩ := wd_ex k
  have HW := hide (fun W => refKnown_any h W)
  have HK := hide (fun W => refKnown_any h' W)
  by_cases hw : f = 0
  · rw [ne_f hw] at HW
    exact order_nw W awake_any HW
  rw [ne_t hw] at HW
  by_cases hk : f' = 0
  · rw [ne_f hk] at HK
    exact order_nk W awake_any HW HK
  rw [ne_t hk] at HK
  have kw := h.known hw
  have kk := h'.known hk
  have HC := hide (fun W => refCmp8_any kw W x0 x1 y0 y1)
  have H1 := sat_any kw kk s x0 x1
  have H2 := sat_any kw kk s y0 y1
  unfold vaN at H1 H2
  by_cases hg : 0 < cmpB P Q x y
  · exact order_gt W awake_any HW HK HC (dt hg)
  have hx : oK P Q x ≠ 3 := fun q => hg (by rw [cmpB_nan (Or.inl q)]; decide)
  have hy : oK P Q y ≠ 3 := fun q => hg (by rw [cmpB_nan (Or.inr q)]; decide)
  have hs : sc P Q x ≤ sc P Q y := by
    rw [cmpB_num hx hy] at hg
    rcases cmpS_in (sc P Q x) (sc P Q y) with ⟨-, q⟩ | ⟨-, q⟩ | ⟨q, -⟩
    · omega
    · omega
    · rw [q] at hg
      exact absurd (by decide) hg
  have hm := cl_rises kw kk s hx hy hs
  cases s
  · rw [← cl_f hx, ← cl_f hy] at hm
    exact order_f W awake_any HW HK HC (df hg) H1 H2 hm
  · have hH : P' * Q' = 2147483648 ∨ P' * Q' = 9223372036854775808 := by have := kd_half kk; omega
    obtain ⟨a0, a1, a2⟩ := cl_t (H := P' * Q') (n := oN P Q x) (z := wq (oM f P Q b x)) hH hx
    obtain ⟨c0, c1, c2⟩ := cl_t (H := P' * Q') (n := oN P Q y) (z := wq (oM f P Q b y)) hH hy
    rw [← a2, ← c2] at hm
    generalize chV (P' * Q') true (oN P Q x) (oK P Q x) (wq (oM f P Q b x)) = u at *
    generalize chV (P' * Q') true (oN P Q y) (oK P Q y) (wq (oM f P Q b y)) = v at *
    rcases kd_half kk with ⟨hk32, hq⟩ | ⟨hk64, hq⟩ <;> rw [hq] at a1 c1 hm
    · rw [show (2 * 2147483648 : Int) = 4294967296 from rfl] at a1 c1 hm
      subst hk32
      refine order_t32 W awake_any HW HK HC (df hg) H1 H2 (u32_low u) (i32_low _) (u32_low v) (i32_low _) ?_
      rw [Int.emod_emod_of_dvd _ (Int.dvd_refl _), Int.emod_emod_of_dvd _ (Int.dvd_refl _), Int.emod_eq_of_lt a0 a1, Int.emod_eq_of_lt c0 c1]
      exact hm
    · rw [show (2 * 9223372036854775808 : Int) = 18446744073709551616 from rfl] at a1 c1 hm
      subst hk64
      refine order_t64 W awake_any HW HK HC (df hg) H1 H2 (by decide) (i64_low u) (i64_low v) ?_
      rw [Int.emod_eq_of_lt a0 a1, Int.emod_eq_of_lt c0 c1]
      exact hm
theorem cWay : Try.prog.cellsOf 23 = 3 := by kernel_rfl
set_option maxRecDepth 100000 in
/-- A Way that came in, and how it reads in any later memory. -/
theorem open_way {H : Type} {enc : TypeId × Value → H} {W : World} {base : Nat} {v : Value} {d : DataW H} {p : List MemPlace} {bs : Nat} {sp : Nat → Bool} {hd : Bool}
    (hv : Value.okWide Try.prog W .any base 23 v) (h : DataW.Trod enc Try.prog W bs sp hd 23 v d p) :
    ∃ (w k : Int) (s : Bool), v = .agg #[.int .i64 w, .int .i64 k, .bool s] ∧ p = [] ∧ ∀ (W' : World) (bs' : Nat) (sp' : Nat → Bool) (hd' : Bool), DataW.Trod enc Try.prog W' bs' sp' hd' 23 v d [] := by
  obtain ⟨c0, c1, c2, y0, y1, y2, m, rfl, rfl, rfl, hy0, hy1, hy2⟩ := open_agg3 Try.underlying23 (by kernel_rfl) cWay hv h
  obtain ⟨w, e0, rfl, ww⟩ := DataW.trod_int Try.underlying3 hy0
  obtain ⟨k, e1, rfl, wk⟩ := DataW.trod_int Try.underlying3 hy1
  obtain ⟨s, e2, rfl⟩ := DataW.trod_bool Try.underlying4 hy2
  simp at e0 e1 e2
  subst e0 e1 e2
  exact ⟨w, k, s, rfl, rfl, fun W' bs' sp' hd' =>
    shut_agg3 (y0 := (.lit (.int .i64 w), [])) (y1 := (.lit (.int .i64 k), [])) (y2 := (.lit (.bool s), [])) Try.underlying23 (by kernel_rfl) cWay ⟨1, by simp [DataW.trod, Try.underlying3, ww]⟩ ⟨1, by simp [DataW.trod, Try.underlying3, wk]⟩ ⟨1, by simp [DataW.trod, Try.underlying4]⟩⟩

set_option maxRecDepth 100000 in
theorem chopOrder_lifted (os : Os) (started : os.Started) (H : Type) (enc : TypeId × Value → H) :
    ReturnsInHanded {} Try.checked os 4 .any (Rows.chopOrderSpec.pre6 enc Try.prog Try.f4 Rows.chopOrderRow.domain false) (Rows.chopOrderSpec.post enc Try.prog Try.f4 false true false false) := by
  refine returnsInHanded_of_change (C := Try.checked) Try.own started (by kernel_rfl) Try.func4
    (ChangeSpec.witness6 (enc := enc) (C := Try.checked) false ⟨#[], #[.agg #[.int .i64 0, .int .i64 0, .bool false], .int .u64 0, .int .u64 0], []⟩ 8 (by kernel_rfl) (by kernel_rfl) (by kernel_rfl) (by kernel_rfl)) ?_
  intro W base args ds gs before hval0 hW hcnd _
  have hval : ∀ (j : Nat) t v, Try.f4.params[j]? = some t → args[j]? = some v → Value.okWide Try.prog W .any base t v := hval0
  have hW' := hW
  obtain ⟨p, q, hA0, hV, rfl, hfz, hnd⟩ := hW
  have hA : DataW.TrodAll enc Try.prog W 0 (fun _ => true) true Try.f4.params.toList args.toList ds p := hA0
  rw [Try.params4] at hA hval
  obtain ⟨v0, v1, v2, d0, d1, d2, p0, p1, p2, rfl, rfl, rfl, h0, h1, h2⟩ := trodAll_three hA
  obtain ⟨rfl, rfl⟩ := trodVars_none hV
  obtain ⟨w, k, s, rfl, rfl, rd⟩ := open_way (hval 0 23 v0 rfl rfl) h0
  obtain ⟨x, rfl, rfl, rfl, wx⟩ := open_int Try.underlying24 (hval 1 24 v1 rfl rfl) h1
  obtain ⟨y, rfl, rfl, rfl, wy⟩ := open_int Try.underlying24 (hval 2 24 v2 rfl rfl) h2
  clear hA0 hval0
  simp only [List.append_nil] at hW'
  refine (chopOrder_any W w k s x (word_of_wf wx).1 (word_of_wf wx).2 y (word_of_wf wy).1 (word_of_wf wy).2).mono fun e W' ⟨he, hb⟩ => ?_
  subst he
  exact ⟨_, rfl, ⟨_, _, _, [], [], [], hW', trodAll_mk1 (shut_bool Try.underlying4 _), trodAll_mk3 (rd _ _ _ _) (shut_int Try.underlying24 wx) (shut_int Try.underlying24 wy), rfl, hb.frame _, fun h => by cases h⟩⟩

theorem chopOrder_holds : Rows.ChopOrderSaid :=
  OpenClaim.holds_of_wide 4 Try.f4 rfl rfl rfl rfl rfl rfl rfl ⟨rfl, rfl, rfl, rfl, rfl⟩ rfl rfl rfl rfl rfl (by kernel_rfl) Try.func4 (by kernel_rfl)
    (of_decide_eq_true (by kernel_rfl)) (by unfold Func.isWrapper; first | (rw [if_pos (by decide +kernel)]; kernel_rfl) | (rw [if_neg (by decide +kernel)]; exact ⟨rfl, rfl⟩))
    (fun os started H enc _ => chopOrder_lifted os started H enc)

#print axioms chopOrder_holds
end Go.Proofs.Ytmbkpmcmhmldgaa
