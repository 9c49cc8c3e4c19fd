/- For every int w and all uint64 a, b the law SignBack answers true, and the arguments read as before: the other sign twice is what it was, no other bit is touched, a copied sign is that. The card: package sign's variable holds what the program's own text lays in it; no other condition. -/
import Derived.Test.YtahaocnlclkeaaaDoorLaid
import Derived.Test.YtahaocnlclkeaaaDoorLawB
import Derived.Test.YtahaocnlclkeaaaDoorLawB32
import Derived.Test.YtahaocnlclkeaaaDoorLawB64
import Derived.SevenTiedAt
import Derived.Test.YtahaocnlclkeaaaDoorCards
namespace Go.Proofs.YtahaocnlclkeaaaDoor
open Go.ChangeShapes Go.WideShapes Go.ChangeAt Go.WideElems Go.RowKit Go.Joins

theorem xor_back {w e f P Q b x : Int} (k : Kd w e f P Q b) (x0 : 0 ≤ x) : bits .xor .u64 (sN f P Q (!sg P Q x) x) (cutN f P Q x) = P * Q := by
  have hb := bit_xor k.wd x0
  rw [← hb]
  obtain ⟨X, rfl⟩ := Int.eq_ofNat_of_zero_le x0
  obtain ⟨m, hm, e, -⟩ := kd_pow k
  have hp := pow_2 hm
  have hc : X % (2 * 2 ^ m) < 2 ^ 64 := Nat.lt_of_lt_of_le (Nat.mod_lt X (show 0 < 2 * 2 ^ m by omega)) (by omega)
  have hs : 2 ^ m < 2 ^ 64 := by omega
  rw [cut_nat k e, show sb f P Q = ((2 ^ m : Nat) : Int) by unfold sb; rw [if_neg k.f0, e], e, u64_xor_nat _ _ hc hs, u64_xor_nat _ _ (Nat.xor_lt_two_pow hc hs) hc]
  congr 1
  rw [Nat.xor_comm, ← Nat.xor_assoc, Nat.xor_self, Nat.zero_xor]
theorem signBack_any (W : World) (m : Mk W) (w : Int) (x : Int) (x0 : 0 ≤ x) (x1 : x < 18446744073709551616) (y : Int) (y0 : 0 ≤ y) (y1 : y < 18446744073709551616) :
    Calls Tryd.prog 4 #[.int .i64 w, .int .u64 x, .int .u64 y] W fun r W' => r = .returned (.bool true) ∧ Below W.heap.size W W' := by
  obtain ⟨e, f, P, Q, b, h⟩ := wd_ex w
  by_cases hf : f = 0
  · have hw : w ≠ 32 ∧ w ≠ 64 := by rcases h with h | h | h <;> omega
    exact back_no W m awake_any (by simp [hw.1]) (by simp [hw.2])
  have k := h.known hf
  obtain ⟨n0, n1⟩ := sN_in h (!sg P Q x) x
  obtain ⟨d0, d1⟩ := sN_in h (sg P Q y) x
  have HG := neg_any h x0 x1
  have HC := copy_any h x0 x1 y0 y1
  have HG2 := neg_any h n0 n1
  have HI1 := is_any h d0 d1
  have HI2 := is_any h y0 y1
  have HA1 := abs_any h d0 d1
  have HA2 := abs_any h x0 x1
  have HI3 := is_any h n0 n1
  have HI4 := is_any h x0 x1
  have i : ∀ z, isN f P Q z = sg P Q z := fun z => by unfold isN; simp [hf]
  rw [i] at HI1 HI2 HI3 HI4
  rw [sg_sN k] at HI1 HI3 HG2
  rw [sN_sN] at HA1 HG2
  rw [Bool.not_not, sN_cut h] at HG2
  have hx := xor_back k x0
  rcases k with ⟨rfl, rfl, rfl, rfl, rfl, rfl⟩ | ⟨rfl, rfl, rfl, rfl, rfl, rfl⟩
  · refine back_32 W m awake_any HG HC ?_ (by rw [hx]; rfl) HG2 HI1 HI2 HA1 HA2 HI3 HI4
    show IntKind.u64.wrap (x * 4294967296) / 4294967296 = if (23 : Int) = 0 then 0 else x % 4294967296
    rw [if_neg (by decide), IntKind.wrap_u64]
    omega
  · have hc : cutN 52 4503599627370496 2048 x = x := by
      show (if (52 : Int) = 0 then 0 else x % 18446744073709551616) = x
      rw [if_neg (by decide)]
      omega
    rw [hc] at hx HG2
    exact back_64 W m awake_any HG HC (by rw [IntKind.wrap_u64]; omega) (by rw [hx]; rfl) HG2 HI1 HI2 HA1 HA2 HI3 HI4

set_option maxRecDepth 100000 in
theorem signBack_lifted (os : Os) (started : os.Started) (H : Type) (enc : TypeId × Value → H) :
    ReturnsInHanded {} Tryd.checked os 4 .any (fun w args => (Rows.signBackSpec.pre enc Tryd.prog Tryd.f4 [] false w args ∧ laidMetH Tryd.prog laidL w) ∧ sizedMet enc Tryd.prog Tryd.f4 (OpenSpec.ofChange Rows.signBackSpec) false w args)
      (Rows.signBackSpec.post enc Tryd.prog Tryd.f4 false true false false) := by
  refine returnsInHanded_of_change_and (C := Tryd.checked) (X := fun w _ => laidMetH Tryd.prog laidL w) (fun _ _ _ hh h => h.of_heap hh) own started (by kernel_rfl) Tryd.func4
    (ChangeSpec.witness_shaped (enc := enc) (C := Tryd.checked) (os := os) (X := fun w _ => laidMetH Tryd.prog laidL w) false (World.doorLaid Tryd.prog 400 os) #[.int .i64 0, .int .u64 0, .int .u64 0] 8 rfl (World.shaped_of_RefB (by kernel_rfl) (by kernel_rfl)) (by kernel_rfl) (by kernel_rfl) (by kernel_rfl) (door_met os _)) ?_
  intro W base args ds gs before hval0 hW _ _ hL _
  have hval : ∀ (j : Nat) t v, Tryd.f4.params[j]? = some t → args[j]? = some v → Value.okWide Tryd.prog W .any base t v := hval0
  have hW' := hW
  obtain ⟨p, q, hA0, hV, rfl, hfz, hnd⟩ := hW
  have hA : DataW.TrodAll enc Tryd.prog W 0 (fun _ => true) true Tryd.f4.params.toList args.toList ds p := hA0
  rw [Tryd.params4] at hA hval
  obtain ⟨v0, v1, v2, d0, d1, d2, p0, p1, p2, rfl, rfl, rfl, h0, h1, h2⟩ := trodAll_three hA
  obtain ⟨rfl, rfl⟩ := trodVars_none hV
  obtain ⟨w, rfl, rfl, rfl, ww⟩ := open_int Tryd.underlying3 (hval 0 3 v0 rfl rfl) h0
  obtain ⟨x, rfl, rfl, rfl, wx⟩ := open_int Tryd.underlying22 (hval 1 22 v1 rfl rfl) h1
  obtain ⟨y, rfl, rfl, rfl, wy⟩ := open_int Tryd.underlying22 (hval 2 22 v2 rfl rfl) h2
  clear hA0 hval0
  simp only [List.append_nil] at hW'
  refine (signBack_any W (of_laid hL) w x (word_of_wf wx).1 (word_of_wf wx).2 y (word_of_wf wy).1 (word_of_wf wy).2).mono fun e W' ⟨he, hb⟩ => ?_
  subst he
  exact ⟨_, rfl, ⟨_, _, _, [], [], [], hW', trodAll_mk1 (shut_bool Tryd.underlying4 _), trodAll_mk3 (shut_int Tryd.underlying3 ww) (shut_int Tryd.underlying22 wx) (shut_int Tryd.underlying22 wy), rfl, hb.frame _, fun h => by cases h⟩⟩

theorem signBack_row : Rows.SignBackSaid :=
  OpenClaim.holds_of_wide 4 Tryd.f4 rfl rfl rfl rfl rfl rfl rfl ⟨rfl, rfl, rfl, rfl, rfl⟩ rfl rfl rfl rfl rfl (by kernel_rfl) Tryd.func4 (by kernel_rfl)
    (of_decide_eq_true (by kernel_rfl)) (by unfold Func.isWrapper; first | (rw [if_pos (by decide +kernel)]; kernel_rfl) | (rw [if_neg (by decide +kernel)]; exact ⟨rfl, rfl⟩))
    (fun os started H enc _ => signBack_lifted os started H enc)

theorem signBack_holds : Rows.SignBackCardSaid :=
  Claim7.holds_tied_plain_at .later [] [.data] true (true, "c489d0937c9c0de1d4e2e55ed1b6c0591882bd91f37181ad56f5818765d81770") false
    signBack_row (fun _ h => by cases h) (by kernel_rfl) (fun _ h => by cases h) signBack_row_tie rfl ⟨rfl, rfl⟩ (by kernel_rfl) rfl
    (fun f fn hf hfn => by
      obtain rfl : f = 4 := Option.some.inj ((show Tryd.prog.funcNamed "trunnion/trunnionlaw10.SignBack" = some 4 by kernel_rfl).symm.trans hf) |>.symm
      obtain rfl : fn = Tryd.f4 := (Option.some.inj (Tryd.func4.symm.trans hfn)).symm
      exact ⟨by kernel_rfl, fun j t ht => by
        rw [Tryd.params4] at ht
        have hm : t ∈ [3, 22, 22] := by simpa using Array.mem_of_getElem? ht
        have hall : ([3, 22, 22].all fun u => !Tryd.prog.wantsStandIn u) = true := by kernel_rfl
        exact (show Tryd.prog.wantsStandIn t = false by simpa using List.all_eq_true.1 hall t hm)⟩)
    (by kernel_rfl)
#print axioms signBack_holds
end Go.Proofs.YtahaocnlclkeaaaDoor
