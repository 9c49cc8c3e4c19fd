/- For every int w and every uint64 a the law IntsRuns answers true, and the arguments read as before: of what isn't 0 the noughts at an end are just those: shifted over them a 1 stands there. The card: math/bits' table of de Bruijn's numbers holds what the program's own text lays in it; no other condition. -/
import Derived.Test.YtjlegmgpgfjciabDoorLaid
import Derived.Test.YtjlegmgpgfjciabDoorLawR
import Derived.Test.YtjlegmgpgfjciabDoorInF
import Derived.SevenTiedAt
import Derived.Test.YtjlegmgpgfjciabDoorCards
namespace Go.Proofs.YtjlegmgpgfjciabDoor
open Go.ChangeShapes Go.WideShapes Go.ChangeAt Go.WideElems Go.RowKit Go.Joins

theorem intsRuns_any (W : World) (m : Mk W) (w a : Int) (a0 : 0 ≤ a) (a1 : a < 18446744073709551616) :
    Calls Tryd.prog 3 #[.int .i64 w, .int .u64 a] W fun r W' => r = .returned (.bool true) ∧ Below W.heap.size W W' := by
  have hr : Rg a := ⟨a0, a1⟩
  rcases wm_or w with k | ⟨n, H, M, k⟩
  · exact unhide (runs_no awake_any (by simpa using k.1) (by simpa using k.2)) W m
  · obtain ⟨A, ha, hA⟩ := k.nat a
    obtain ⟨k1, k2, k3, k4, k5, k6, k7⟩ := k.two
    obtain ⟨b, rfl⟩ := Int.eq_ofNat_of_zero_le a0
    have hb : b < 18446744073709551616 := by omega
    have hAb : b % 2 ^ n = A := by rw [k2] at ha; omega
    have HU := clz_K k hr ha hA
    have HD := ctz_K k hb
    have HP := pop_any k ha hr
    rcases ctz_low k5 hb hAb with ⟨h0, hd⟩ | ⟨t, ht, htn, hodd, hz⟩
    · subst h0
      rw [hd] at HD
      rw [show Go.bitLen 0 = 0 from rfl, Nat.sub_zero] at HU
      rw [(pop_zero n 0).2 (Nat.zero_mod _)] at HP
      rcases k with ⟨rfl, rfl, rfl, rfl⟩ | ⟨rfl, rfl, rfl, rfl⟩
      · exact unhide (runs_32z awake_any HU HD HP) W m
      · exact unhide (runs_64z awake_any HU HD HP) W m
    · rw [ht] at HD
      have hA0 : A ≠ 0 := fun h => by subst h; simp at hodd
      obtain ⟨l1, l2⟩ := Go.bitLen_spec A
      have l2 := l2 hA0
      have hL := len_le hA
      have hL1 : 1 ≤ Go.bitLen A := by
        refine Nat.pos_of_ne_zero fun h => ?_
        rw [h] at l1
        simp at l1
        omega
      have htL : t < Go.bitLen A := by
        refine Decidable.byContradiction fun hn => ?_
        have h1 := Nat.pow_le_pow_right (show 0 < 2 by omega) (show Go.bitLen A ≤ t by omega)
        rw [Nat.div_eq_of_lt (by omega)] at hodd
        omega
      generalize Go.bitLen A = l at *
      have gp : (((pop n A : Nat) : Int) == 0) = false := by
        rw [beq_eq_false_iff_ne]
        intro h
        have h2 := (pop_zero n A).1 (by omega)
        rw [Nat.mod_eq_of_lt hA] at h2
        omega
      have e2n : (2 : Nat) ^ l * 2 ^ (n - l) = 2 ^ n := by rw [← Nat.pow_add]; congr 1; omega
      have e1n : (2 : Nat) ^ (l - 1) * 2 ^ (n - l) = 2 ^ (n - 1) := by rw [← Nat.pow_add]; congr 1; omega
      have q1 : A * 2 ^ (n - l) < 2 ^ n := by rw [← e2n]; exact Nat.mul_lt_mul_of_pos_right l1 (Nat.two_pow_pos _)
      have q2 : 2 ^ (n - 1) ≤ A * 2 ^ (n - l) := by rw [← e1n]; exact Nat.mul_le_mul_right _ l2
      have q3 : (2 : Nat) ^ n = 2 ^ (n - 1) * 2 := by rw [← Nat.pow_succ]; congr 1; omega
      have ev : shlN A n (n - l) = A * 2 ^ (n - l) := Nat.mod_eq_of_lt q1
      have hu : (((n - l : Nat) : Int)) % w = ((n - l : Nat) : Int) := Int.emod_eq_of_lt (by omega) (by omega)
      have hur : Rg ((n - l : Nat) : Int) := by unfold Rg; omega
      have htm : ((t : Nat) : Int) % w = (t : Int) := Int.emod_eq_of_lt (by omega) (by omega)
      have htr : Rg (t : Int) := by unfold Rg; omega
      have H1 := shl_any k ha hu hur
      have H2 := shr_any k ha htm htr hr
      have hs1 := shl_lt A n (n - l)
      have e3 : ((shlN A n (n - l) : Nat) : Int) % M = ((shlN A n (n - l) : Nat) : Int) := by rw [k2, ← Int.natCast_emod, Nat.mod_eq_of_lt hs1]
      have H3 := shr_any k e3 hu hur (rg_nat k hs1)
      rw [show shrN (shlN A n (n - l)) (n - l) = A by rw [ev]; exact Nat.mul_div_cancel _ (Nat.two_pow_pos _)] at H3
      have H4 := add_any k (b : Int) 0
      rw [Int.add_zero, ha] at H4
      have h2 : bits .and .u64 ((shrN A t : Nat) : Int) 1 = 1 := by
        have hq := rg_nat k (shr_lt t hA)
        rw [and_mask 1 _ 1 hq.1 hq.2 (by decide) (by omega)]
        show ((A / 2 ^ t : Nat) : Int) % ((2 ^ 1 : Nat) : Int) = 1
        generalize A / 2 ^ t = z at *
        omega
      rw [← ev] at q1 q2
      have he : IntKind.u64.wrap (((n - l : Nat) : Int) + (t : Int)) = ((n - l + t : Nat) : Int) := by rw [IntKind.wrap_u64]; omega
      rcases k with ⟨rfl, rfl, rfl, rfl⟩ | ⟨rfl, rfl, rfl, rfl⟩
      · exact unhide (runs_32n awake_any HU HD HP gp H1 (by omega) H2 h2 H3 H4 he (by omega)) W m
      · exact unhide (runs_64n awake_any HU HD HP gp H1 (by omega) H2 h2 H3 H4 he (by omega)) W m

set_option maxRecDepth 100000 in
theorem intsRuns_lifted (os : Os) (started : os.Started) (H : Type) (enc : TypeId × Value → H) :
    ReturnsInHanded {} Tryd.checked os 3 .any (fun w args => (Rows.intsRunsSpec.pre enc Tryd.prog Tryd.f3 [] false w args ∧ laidMetH Tryd.prog laidL w) ∧ sizedMet enc Tryd.prog Tryd.f3 (OpenSpec.ofChange Rows.intsRunsSpec) false w args)
      (Rows.intsRunsSpec.post enc Tryd.prog Tryd.f3 false true false false) := by
  refine returnsInHanded_of_change_and (C := Tryd.checked) (X := fun w _ => laidMetH Tryd.prog laidL w) (fun _ _ _ hh h => h.of_heap hh) own started (by kernel_rfl) Tryd.func3
    (ChangeSpec.witness_shaped (enc := enc) (C := Tryd.checked) (os := os) (X := fun w _ => laidMetH Tryd.prog laidL w) false (World.doorLaid Tryd.prog 400 os) #[.int .i64 0, .int .u64 0] 8 rfl (World.shaped_of_RefB (by kernel_rfl) (by kernel_rfl)) (by kernel_rfl) (by kernel_rfl) (by kernel_rfl) (door_met os _)) ?_
  intro W base args ds gs before hval0 hW _ _ hL _
  have hval : ∀ (j : Nat) t v, Tryd.f3.params[j]? = some t → args[j]? = some v → Value.okWide Tryd.prog W .any base t v := hval0
  have hW' := hW
  obtain ⟨p, q, hA0, hV, rfl, hfz, hnd⟩ := hW
  have hA : DataW.TrodAll enc Tryd.prog W 0 (fun _ => true) true Tryd.f3.params.toList args.toList ds p := hA0
  rw [Tryd.params3] at hA hval
  obtain ⟨v0, v1, d0, d1, p0, p1, rfl, rfl, rfl, h0, h1⟩ := trodAll_two hA
  obtain ⟨rfl, rfl⟩ := trodVars_none hV
  obtain ⟨w, rfl, rfl, rfl, ww⟩ := open_int Tryd.underlying3 (hval 0 3 v0 rfl rfl) h0
  obtain ⟨a, rfl, rfl, rfl, wa⟩ := open_int Tryd.underlying22 (hval 1 22 v1 rfl rfl) h1
  clear hA0 hval0
  simp only [List.append_nil] at hW'
  refine (intsRuns_any W (of_laid hL) w a (word_of_wf wa).1 (word_of_wf wa).2).mono fun e W' ⟨he, hb⟩ => ?_
  subst he
  exact ⟨_, rfl, ⟨_, _, _, [], [], [], hW', trodAll_mk1 (shut_bool Tryd.underlying4 _), trodAll_mk2 (shut_int Tryd.underlying3 ww) (shut_int Tryd.underlying22 wa), rfl, hb.frame _, fun h => by cases h⟩⟩

theorem intsRuns_row : Rows.IntsRunsSaid :=
  OpenClaim.holds_of_wide 3 Tryd.f3 rfl rfl rfl rfl rfl rfl rfl ⟨rfl, rfl, rfl, rfl, rfl⟩ rfl rfl rfl rfl rfl (by kernel_rfl) Tryd.func3 (by kernel_rfl)
    (of_decide_eq_true (by kernel_rfl)) (by unfold Func.isWrapper; first | (rw [if_pos (by decide +kernel)]; kernel_rfl) | (rw [if_neg (by decide +kernel)]; exact ⟨rfl, rfl⟩))
    (fun os started H enc _ => intsRuns_lifted os started H enc)

theorem intsRuns_holds : Rows.IntsRunsCardSaid :=
  Claim7.holds_tied_plain_at .later [] [.data] true (true, "9239d6f208b1b376dab137ce560781d2e3a8c63ef00fc98e5c04b9dcc2b7f2cb") false
    intsRuns_row (fun _ h => by cases h) (by kernel_rfl) (fun _ h => by cases h) intsRuns_row_tie rfl ⟨rfl, rfl⟩ (by kernel_rfl) rfl
    (fun f fn hf hfn => by
      obtain rfl : f = 3 := Option.some.inj ((show Tryd.prog.funcNamed "trunnion/trunnionlaw13.IntsRuns" = some 3 by kernel_rfl).symm.trans hf) |>.symm
      obtain rfl : fn = Tryd.f3 := (Option.some.inj (Tryd.func3.symm.trans hfn)).symm
      exact ⟨by kernel_rfl, fun j t ht => by
        rw [Tryd.params3] at ht
        have hm : t ∈ [3, 22] := by simpa using Array.mem_of_getElem? ht
        have hall : ([3, 22].all fun u => !Tryd.prog.wantsStandIn u) = true := by kernel_rfl
        exact (show Tryd.prog.wantsStandIn t = false by simpa using List.all_eq_true.1 hall t hm)⟩)
    (by kernel_rfl)
#print axioms intsRuns_holds
end Go.Proofs.YtjlegmgpgfjciabDoor
