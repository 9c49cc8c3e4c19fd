/- For every int w, every uint64 a and every More x the law IntsCounts answers true, and the arguments read as before: any number's bits are counted, any two are held against each other, and any lowest bits are extended, as the document says. The card: math/bits' table of de Bruijn's numbers holds what the program's own text lays in it; no other condition. -/
import Derived.Test.YtjlegmgpgfjciaaDoorLaid
import Derived.Test.YtjlegmgpgfjciaaDoorLawC
import Derived.Test.YtjlegmgpgfjciaaDoorInX
import Derived.SevenTiedAt
import Derived.Test.YtjlegmgpgfjciaaDoorCards
namespace Go.Proofs.YtjlegmgpgfjciaaDoor
open Go.ChangeShapes Go.WideShapes Go.ChangeAt Go.WideElems Go.RowKit Go.Joins

theorem cMore : Tryd.prog.cellsOf 24 = 2 := by kernel_rfl
set_option maxRecDepth 100000 in
/-- A More that came in, and how it reads in any later memory. -/
theorem open_more {H : Type} {enc : TypeId × Value → H} {W : World} {base : Nat} {v : Value} {d : DataW H} {p : List MemPlace} {bs : Nat} {sp : Nat → Bool} {hd : Bool}
    (hv : Value.okWide Tryd.prog W .any base 24 v) (h : DataW.Trod enc Tryd.prog W bs sp hd 24 v d p) :
    ∃ (b f : Int), v = .agg #[.int .u64 b, .int .i64 f] ∧ p = [] ∧ (Lit.int .u64 b).wf = true ∧ ∀ (W' : World) (bs' : Nat) (sp' : Nat → Bool) (hd' : Bool), DataW.Trod enc Tryd.prog W' bs' sp' hd' 24 v d [] := by
  obtain ⟨c0, c1, y0, y1, m, rfl, rfl, rfl, hy0, hy1⟩ := open_agg2 Tryd.underlying24 (by kernel_rfl) cMore hv h
  obtain ⟨b, e0, rfl, wb⟩ := DataW.trod_int Tryd.underlying22 hy0
  obtain ⟨f, e1, rfl, wf⟩ := DataW.trod_int Tryd.underlying3 hy1
  simp at e0 e1
  subst e0 e1
  exact ⟨b, f, rfl, rfl, wb, fun W' bs' sp' hd' =>
    shut_agg2 (y0 := (.lit (.int .u64 b), [])) (y1 := (.lit (.int .i64 f), [])) Tryd.underlying24 (by kernel_rfl) cMore ⟨1, by simp [DataW.trod, Tryd.underlying22, wb]⟩ ⟨1, by simp [DataW.trod, Tryd.underlying3, wf]⟩⟩
theorem to_cm {f : Nat} {ar : Array Value} {v : Value} (h : Ct f ar v) : Cm f ar v := hide (fun W _ => unhide h W)
theorem intsCounts_any (W : World) (m : Mk W) (w a : Int) (a0 : 0 ≤ a) (a1 : a < 18446744073709551616) (b f : Int) (wb : (Lit.int .u64 b).wf = true) :
    Calls Tryd.prog 3 #[.int .i64 w, .int .u64 a, .agg #[.int .u64 b, .int .i64 f]] W fun r W' => r = .returned (.bool true) ∧ Below W.heap.size W W' := by
  have hr : Rg a := ⟨a0, a1⟩
  have hb : Rg b := word_of_wf wb
  obtain ⟨x, rfl⟩ := Int.eq_ofNat_of_zero_le a0
  have hx : x < 18446744073709551616 := by omega
  rcases wm_or w with k | ⟨n, H, M, k⟩
  · have he : ∀ sg, Ct 10 #[.int .i64 w, .int .i64 f, .int .u64 (x : Int), .bool sg] (.int .u64 0) := fun sg => by
      rcases pc_or f with h | ⟨q, p⟩
      · exact (ext_0 w f x sg (Or.inl h)).1
      · by_cases g : w < f
        · exact (ext_0 w f x sg (Or.inr ⟨⟨q, p⟩, g⟩)).1
        · exact ext_N k p hx (by omega) sg
    exact unhide (counts_n awake_any (clz_N k _) (to_cm (ctz_N k _)) (pop_no k hr) (lts_no k _ b) (ltu_no k _ b) (he true) (he false) (known_N k)) W m
  · obtain ⟨A, ha, hA⟩ := k.nat (x : Int)
    obtain ⟨k1, k2, k3, k4, k5, k6, k7⟩ := k.two
    have hAx : x % 2 ^ n = A := by rw [k2] at ha; omega
    have he : ∀ sg, ∃ v : Int, Ct 10 #[.int .i64 w, .int .i64 f, .int .u64 (x : Int), .bool sg] (.int .u64 v) ∧ Ct 16 #[.int .i64 w, .int .i64 f, .int .u64 (x : Int), .bool sg] (.int .u64 v) := fun sg => by
      rcases pc_or f with h | ⟨q, p⟩
      · exact ⟨0, ext_0 w f x sg (Or.inl h)⟩
      · by_cases g : w < f
        · exact ⟨0, ext_0 w f x sg (Or.inr ⟨⟨q, p⟩, g⟩)⟩
        · have hq : q ≤ n := by have := (piece_K p).2.1; omega
          exact ⟨_, ext_K k p hx hq sg, rext_K k p hx hq sg⟩
    obtain ⟨e1, E1, X1⟩ := he true
    obtain ⟨e2, E2, X2⟩ := he false
    have HL := bits_K k hr ha
    obtain ⟨u1, u2⟩ := run_up hA
    obtain ⟨d0, d1, d2⟩ := run_dn k5 hx hAx
    have R1 := run_w k5 (Nat.sub_le _ _) u1 u2 HL
    have R2 := run_w k5 d0 d1 d2 HL
    have R3 := count_w k5 HL
    rw [← k3] at R1 R2 R3
    exact unhide (counts_k awake_any (clz_K k hr ha hA) (ctz_K k hx) (pop_any k ha hr) (lts_any k _ b) (ltu_any k hr hb) E1 E2 (known_K k) R1 R2 R3 (rlts_K k hr hb) (rcut_K k hr) (rcut_K k hb) rfl X1 X2) W m

set_option maxRecDepth 100000 in
theorem intsCounts_lifted (os : Os) (started : os.Started) (H : Type) (enc : TypeId × Value → H) :
    ReturnsInHanded {} Tryd.checked os 3 .any (fun w args => (Rows.intsCountsSpec.pre enc Tryd.prog Tryd.f3 [] false w args ∧ laidMetH Tryd.prog laidL w) ∧ sizedMet enc Tryd.prog Tryd.f3 (OpenSpec.ofChange Rows.intsCountsSpec) false w args)
      (Rows.intsCountsSpec.post enc Tryd.prog Tryd.f3 false true false false) := by
  refine returnsInHanded_of_change_and (C := Tryd.checked) (X := fun w _ => laidMetH Tryd.prog laidL w) (fun _ _ _ hh h => h.of_heap hh) own started (by kernel_rfl) Tryd.func3
    (ChangeSpec.witness_shaped (enc := enc) (C := Tryd.checked) (os := os) (X := fun w _ => laidMetH Tryd.prog laidL w) false (World.doorLaid Tryd.prog 400 os) #[.int .i64 0, .int .u64 0, .agg #[.int .u64 0, .int .i64 0]] 8 rfl (World.shaped_of_RefB (by kernel_rfl) (by kernel_rfl)) (by kernel_rfl) (by kernel_rfl) (by kernel_rfl) (door_met os _)) ?_
  intro W base args ds gs before hval0 hW _ _ hL _
  have hval : ∀ (j : Nat) t v, Tryd.f3.params[j]? = some t → args[j]? = some v → Value.okWide Tryd.prog W .any base t v := hval0
  have hW' := hW
  obtain ⟨p, q, hA0, hV, rfl, hfz, hnd⟩ := hW
  have hA : DataW.TrodAll enc Tryd.prog W 0 (fun _ => true) true Tryd.f3.params.toList args.toList ds p := hA0
  rw [Tryd.params3] at hA hval
  obtain ⟨v0, v1, v2, d0, d1, d2, p0, p1, p2, rfl, rfl, rfl, h0, h1, h2⟩ := trodAll_three hA
  obtain ⟨rfl, rfl⟩ := trodVars_none hV
  obtain ⟨w, rfl, rfl, rfl, ww⟩ := open_int Tryd.underlying3 (hval 0 3 v0 rfl rfl) h0
  obtain ⟨a, rfl, rfl, rfl, wa⟩ := open_int Tryd.underlying22 (hval 1 22 v1 rfl rfl) h1
  obtain ⟨b, f, rfl, rfl, wb, rd⟩ := open_more (hval 2 24 v2 rfl rfl) h2
  clear hA0 hval0
  simp only [List.append_nil] at hW'
  refine (intsCounts_any W (of_laid hL) w a (word_of_wf wa).1 (word_of_wf wa).2 b f wb).mono fun e W' ⟨he, hb⟩ => ?_
  subst he
  exact ⟨_, rfl, ⟨_, _, _, [], [], [], hW', trodAll_mk1 (shut_bool Tryd.underlying4 _), trodAll_mk3 (shut_int Tryd.underlying3 ww) (shut_int Tryd.underlying22 wa) (rd _ _ _ _), rfl, hb.frame _, fun h => by cases h⟩⟩

theorem intsCounts_row : Rows.IntsCountsSaid :=
  OpenClaim.holds_of_wide 3 Tryd.f3 rfl rfl rfl rfl rfl rfl rfl ⟨rfl, rfl, rfl, rfl, rfl⟩ rfl rfl rfl rfl rfl (by kernel_rfl) Tryd.func3 (by kernel_rfl)
    (of_decide_eq_true (by kernel_rfl)) (by unfold Func.isWrapper; first | (rw [if_pos (by decide +kernel)]; kernel_rfl) | (rw [if_neg (by decide +kernel)]; exact ⟨rfl, rfl⟩))
    (fun os started H enc _ => intsCounts_lifted os started H enc)

theorem intsCounts_holds : Rows.IntsCountsCardSaid :=
  Claim7.holds_tied_plain_at .later [] [.data] true (true, "a4f66b629939bcfa38cb8a85c9dc0ada4265c0617bcd76bdbc2f403999137613") false
    intsCounts_row (fun _ h => by cases h) (by kernel_rfl) (fun _ h => by cases h) intsCounts_row_tie rfl ⟨rfl, rfl⟩ (by kernel_rfl) rfl
    (fun f fn hf hfn => by
      obtain rfl : f = 3 := Option.some.inj ((show Tryd.prog.funcNamed "trunnion/trunnionlaw13.IntsCounts" = some 3 by kernel_rfl).symm.trans hf) |>.symm
      obtain rfl : fn = Tryd.f3 := (Option.some.inj (Tryd.func3.symm.trans hfn)).symm
      exact ⟨by kernel_rfl, fun j t ht => by
        rw [Tryd.params3] at ht
        have hm : t ∈ [3, 22, 24] := by simpa using Array.mem_of_getElem? ht
        have hall : ([3, 22, 24].all fun u => !Tryd.prog.wantsStandIn u) = true := by kernel_rfl
        exact (show Tryd.prog.wantsStandIn t = false by simpa using List.all_eq_true.1 hall t hm)⟩)
    (by kernel_rfl)
#print axioms intsCounts_holds
end Go.Proofs.YtjlegmgpgfjciaaDoor
