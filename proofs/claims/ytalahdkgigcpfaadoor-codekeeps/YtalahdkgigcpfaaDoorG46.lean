/- CdX. -/
import Derived.Test.YtalahdkgigcpfaaDoorG44
namespace Go.Proofs.YtalahdkgigcpfaaDoor
open Go.RowKit

section
variable {P : Program} {ops : Array Oper} {Q : Exit → Act → World → Prop} {md : Region.Mode} {S : World → Prop}
/-- Two that may come up. -/
theorem rdB (i j mi mj : Nat) {ds ds' : Option Tmp} {op op' : Op} {ty ty' : TypeId} {pos pos' : String} {af af' : Array Edge} {g g' : Option (Nat × Bool)} {n m fuel : Nat} {a : Act} {w : World}
    (h : ∀ K' : Act → World → Prop, Shut (∀ a w, S w → (S w → wpAnyH P md ops Q S fuel (lst n mi) a w) → K' a w) → if Region.wanted ⟨ds, op, ty, pos, af, g⟩ (yielded ops a.tmps) = true then Oper.wp P ⟨ds, op, ty, pos, af, g⟩ a w K' Q else K' (a.put ds undef) w)
    (h' : ∀ K' : Act → World → Prop, Shut (∀ a w, S w → (S w → wpAnyH P md ops Q S fuel (lst n mj) a w) → K' a w) → if Region.wanted ⟨ds', op', ty', pos', af', g'⟩ (yielded ops a.tmps) = true then Oper.wp P ⟨ds', op', ty', pos', af', g'⟩ a w K' Q else K' (a.put ds' undef) w)
    (hi : ops[i]? = some ⟨ds, op, ty, pos, af, g⟩ := by rfl) (hj : ops[j]? = some ⟨ds', op', ty', pos', af', g'⟩ := by rfl) (hr : Region.ready md ops (lst n m) = [i, j] := by kernel_rfl) (he : (lst n m).setIfInBounds i true = lst n mi := by kernel_rfl) (he' : (lst n m).setIfInBounds j true = lst n mj := by kernel_rfl) : wpAnyH P md ops Q S (fuel + 1) (lst n m) a w :=
  wpAnyH_ready hr (by simp) (AllReadyH.cons hi (fun K' hK => h K' (by rw [he] at hK; exact hK)) (AllReadyH.cons hj (fun K' hK => h' K' (by rw [he'] at hK; exact hK)) AllReadyH.nil))
end
/-- An append that is known, as an operation. -/
theorem oper_app {t : TypeId} {dst : Option Tmp} {s x : Operand} {pos : String} {af : Array Edge} {g : Option (Nat × Bool)} {a : Act} {w w' : World} {K : Act → World → Prop} {Q : Exit → Act → World → Prop} {v u v' : Value}
    (hs : a.eval s = v) (hx : a.eval x = u) (hrun : (Builtin.append_ #[t, t] t #[v, u]).run Tryd.prog w = .ok v' w') (h : K (a.put dst v') w') :
    Oper.wp Tryd.prog ⟨dst, .call { callee := .builtin .append, args := #[s, x], argTypes := #[t, t] }, t, pos, af, g⟩ a w K Q := by
  unfold Oper.wp
  simp only [execOp, resolve, invoke, builtin, Sem.run_bind, Sem.run_pure, Result.andThen_ok, List.map_toArray, List.map_cons, List.map_nil, hs, hx, hrun]
  exact h
/-- A row of numbers of one's own. -/
def Ou (w : World) (B : Nat) (v : Value) (ys : List Int) : Prop := w.ownsRow B 46 1 v ys.length (uCells ys)
theorem Ou.fr {w w' : World} {B : Nat} {v : Value} {ys : List Int} {l : List Nat} (h : Ou w B v ys) (hf : Fr l w w') (hl : ∀ i ∈ l, i < B) : Ou w' B v ys := by
  refine ⟨h.1, ?_⟩
  rcases h.2 with hn | ⟨g, cap, cur, h1, hb, hgg, rest⟩
  · exact .inl hn
  · refine .inr ⟨g, cap, cur, h1, hb, ?_, rest⟩
    rw [hf.block g (Array.getElem?_eq_some_iff.1 hgg).1 (fun hm => by have := hl g hm; omega)]
    exact hgg
theorem Ou.slice {w : World} {B : Nat} {v : Value} {ys : List Int} (h : Ou w B v ys) : ∃ p s, v = .slice p ys.length s := by
  rcases h.2 with ⟨h1, h2⟩ | ⟨g, cap, cur, h1, _⟩
  · exact ⟨none, 0, by rw [h1, h2]⟩
  · exact ⟨_, _, h1⟩
theorem zero46 : ((Tryd.prog.info? 46).getD default).zero = some (.int .u32 0) := by kernel_rfl
theorem ou_app {w w2 : World} {B : Nat} {v : Value} {ys : List Int} {x : Int} (h : Ou w B v ys) (hB : B ≤ w.heap.size) (hl : ys.length ≤ 10000) (hw : w2 = w.alloc (.cells #[.int .u32 x] 46)) :
    ∃ p s w3, (Builtin.append_ #[48, 48] 48 #[v, .slice (some ⟨w.heap.size, 0, none⟩) 1 1]).run Tryd.prog w2 = .ok (.slice p (ys.length + 1) s) w3 ∧ Ou w3 B (.slice p (ys.length + 1) s) (ys ++ [x]) ∧ ∃ l, Fr l w w3 ∧ ∀ i ∈ l, B ≤ i := by
  have hb := below1 w (.cells #[.int .u32 x] 46)
  rw [← hw] at hb
  have h2 : Ou w2 B v ys := h.fr (Fr.of hb []) (by simp)
  have hs : w2.heap.size = w.heap.size + 1 := by rw [hw]; simp
  obtain ⟨v', w3, hr, g1, g2, g3⟩ := app_own (c := 1) Tryd.underlying48 iU32 zero46 size46 bytes46 rfl (by decide) h2 (m := 1) (news := uCells [x]) (a := ⟨w.heap.size, 0, none⟩) rfl (by
    intro j u hj
    rw [add_off, Nat.zero_add, hw, World.cell?_alloc_new]
    simpa [uCells] using hj) (by intro u hu; simp [uCells] at hu; subst hu; rfl) (by unfold maxLen; omega) (by omega) (by omega)
  have hO : Ou w3 B v' (ys ++ [x]) := by
    unfold Ou
    rw [List.length_append, show uCells (ys ++ [x]) = uCells ys ++ uCells [x] by simp [uCells]]
    exact g1
  obtain ⟨p, s, rfl⟩ := hO.slice
  rw [List.length_append] at hr hO
  refine ⟨p, s, w3, hr, hO, v.ownBlock.toList, (Fr.of hb _).trans (fr_grown g2), fun i hi => (h2.lt i (by simpa using hi)).1⟩
theorem Ou.slc {w : World} {B : Nat} {v : Value} {ys : List Int} (h : Ou w B v ys) : Slc w (fun b => B ≤ b) ys.length (uCells ys) v := slc_own h (by decide) (fun g hg => (h.lt g hg).1)
set_option maxHeartbeats 8000000 in
set_option maxRecDepth 100000 in
theorem rins_3 {n : Nat} {may : Bool} {b y v : Int} {k1 : Nat} {c rb : Nat} {a : Option Addr} {len cap : Nat} {xs : List Int} {sat : Bool} {deep k : Nat} {W : World} (HI : Hid (QSeq c rb a len cap xs sat n)) (h : Rq c rb a len cap xs sat k 0 W) (hv : nxV xs k 0 = b) (hk : k < xs.length) (hd : Rd (rOpN sat) xs k 0 y k1 0) (ho : Rd (rOp sat may deep) xs k 0 y k1 0) (hy : 0 ≤ y) (hy5 : ¬ (y = 5 ∨ y = 11)) (him : Ct 58 #[.int .i64 y] (.int .i64 v)) (hi : imI y = 3) (hvv : v = 3) (h2 : decide (2 ≤ b) = true) (h4 : decide (b ≤ 4) = false)  : RInstrP c rb a len cap xs sat may deep k 0 W := by
  have HR := hide h
  have HO : Hid (Old W.heap.size c rb a len) := hide (h.old (Nat.le_refl W.heap.size))
  have HVl := hide hv
  have HNe : Hid (nxE xs k 0 = 0) := hide (by unfold nxE; rw [if_neg (by omega)])
  have HD := hide hd
  have HOp := hide ho
  have HY5 := hide hy5
  have HIm := hide him
  have hneg : ¬ y < 0 := by omega
  subst hvv
  have HV0 := hide hi
  have _ := HI
  clear hi
  clear h hv hk hd ho hy hy5 him
  unfold RInstrP
  go_enter Tryd.func39, Tryd.ntmps39
  go_wp2_with fail
  have hb := below1 W (.cells #[.int .i64 0, .int .u8 0, .int .u32 0, .int .u32 0, .int .u64 0, .slice none 0 0, .slice none 0 0, .slice none 0 0, .bool false] 73)
  have HR := hide ((unhide HR).bel hb)
  have HF := hide (Fr.of hb [c])
  have HV := hide (nr_0 W)
  generalize W.alloc (.cells #[.int .i64 0, .int .u8 0, .int .u32 0, .int .u32 0, .int .u64 0, .slice none 0 0, .slice none 0 0, .slice none 0 0, .bool false] 73) = wr at *
  refine (rnext_any (unhide HR)).mono ?_
  rintro _ w0 ⟨rfl, hR, hF⟩
  rw [unhide HVl]
  rw [unhide HNe] at hR
  have HR := hide hR
  have HV := hide ((unhide HV).fr hF (by have := (unhide HO).c; simp; omega))
  have HF := hide ((unhide HF).trans hF)
  clear hR hF hb
  clear HNe
  go_wp2_with fail
  have hop := rop_any (unhide HR)
  unfold OpP at hop
  refine hop.mono ?_
  clear hop
  rintro _ w1 ⟨y', k1', e1', rfl, hd', hR, hF⟩
  obtain ⟨q1, q2, q3⟩ := Rd.det (unhide HD) hd'
  subst q1
  subst q2
  obtain rfl := q3 rfl
  have HR := hide hR
  have HV := hide ((unhide HV).fr hF (by have := (unhide HO).c; simp; omega))
  have HF := hide ((unhide HF).trans hF)
  have HV1 := HV
  clear hR hF hd'
  rw [if_pos rfl]
  go_wp2_with fail
  have hb := below1 w1 (.cells #[.int .i64 y, .int .u8 0, .int .u32 0, .int .u32 0, .int .u64 0, .slice none 0 0, .slice none 0 0, .slice none 0 0, .bool false] 73)
  have hs := (unhide HF).size
  have HR := hide ((unhide HR).bel hb)
  have HF := hide ((unhide HF).bel hb)
  have HV := hide ((unhide HV).fr (Fr.of hb []) (by simp))
  have HN := hide (nr_1 w1 hs y)
  have HNi := hide (show W.heap.size < w1.heap.size from by have := (unhide HV1).lt; omega)
  generalize w1.alloc (.cells #[.int .i64 y, .int .u8 0, .int .u32 0, .int .u32 0, .int .u64 0, .slice none 0 0, .slice none 0 0, .slice none 0 0, .bool false] 73) = w2 at *
  generalize w1.heap.size = ib at *
  clear hb hs
  refine ((unhide (unhide HIm)) _).mono ?_
  rintro _ w3 ⟨rfl, hb⟩
  have HR := hide ((unhide HR).bel hb)
  have HF := hide ((unhide HF).bel hb)
  have HV := hide ((unhide HV).fr (Fr.of hb []) (by simp))
  have HN := hide ((unhide HN).fr (Fr.of hb []) (by simp))
  clear hb HIm
  have h0 := (unhide HR).rdr.1
  go_wp2_with fail
  clear h0
  have HX := hide (rCount_any (unhide HR).cur)
  have HD1 : Hid (Rd rCount xs k1 0 (lift rCount 0 xs k1 0).1 (lift rCount 0 xs k1 0).2.1 (lift rCount 0 xs k1 0).2.2) := hide Rd.lift
  have hlt := count_le (unhide HR).byt k1 0
  generalize lift rCount 0 xs k1 0 = L at *
  obtain ⟨q, kk1, ee1⟩ := L
  dsimp only at *
  obtain ⟨m, rfl⟩ := Int.eq_ofNat_of_zero_le hlt.1
  have hm : m ≤ 4096 := by omega
  refine (unhide HX).mono ?_
  rintro _ v1 ⟨rfl, hC, hF⟩
  have HR := hide ((unhide HR).step hF hC)
  have HF := hide ((unhide HF).trans hF)
  have HN := hide ((unhide HN).fr hF (by have := (unhide HO).c; have := (unhide HN).new; simp; omega))
  have HV := hide ((unhide HV).fr hF (by have := (unhide HO).c; simp; omega))
  clear hC hF HX hlt
  have HSv := hide (unhide HN).lt
  generalize hB0 : v1.heap.size = B0 at *
  go_wp2_with fail
  go_loopw [9] (fun v9 wr => ∃ (i : Nat) (ys : List Int) (lv : Value) (k2 : Nat) (e2 : Int), i ≤ m ∧ v9 = .int .i64 (i : Int) ∧ ys.length = i ∧ Ou wr B0 lv ys ∧ Nv W.heap.size ib ((hcells (hd0 y) (.slice none 0 0) (.slice none 0 0) (.slice none 0 0)).set 5 lv) wr ∧ Nv W.heap.size W.heap.size (hcells (hd0 0) (.slice none 0 0) (.slice none 0 0) (.slice none 0 0)) wr ∧ Rq c rb a len cap xs sat k2 e2 wr ∧ Fr [c] W wr ∧ B0 ≤ wr.heap.size ∧ ∀ L k' e', Rd (repU (m - i)) xs k2 e2 L k' e' → Rd (repU m) xs kk1 ee1 (ys ++ L) k' e') (fun v9 _ => m - (intOf v9).toNat)
  case atStart => exact ⟨0, [], .slice none 0 0, kk1, ee1, by omega, rfl, rfl, World.ownsRow_nil _ _ _ _, unhide HN, unhide HV, unhide HR, unhide HF, by omega, fun L k' e' h => h⟩
  case round =>
    obtain ⟨i, ys, lv, k2, e2, hi, rfl, hyl, hU, hN, hV, hR, hF, hBw, hK⟩ := hrel
    have HU := hide hU
    have HN := hide hN
    have HV := hide hV
    have HR := hide hR
    have HF := hide hF
    have HK := hide hK
    have HY := hide hyl
    have HBw := hide hBw
    have h0 := hR.rdr.1
    have h2e := hR.cur.1.2.2.1
    clear hU hN hV hR hF hK hyl hBw
    by_cases hlt : i < m
    · have hi' : decide ((i : Int) < (m : Int)) = true := by simp; omega
      by_cases he : e2 = 0
      · have he' : (e2 == 0) = true := by simp [he]
        go_wp2_with fail
        subst he
        clear h2e h0
        refine wp_region_held_drew (S := fun w' => w'.cell? ⟨rb, 0, none⟩ = some (.pointer (some ⟨c, 0, none⟩))) (by kernel_rfl) ?_ (fun hHeld => ?_)
        · (try dsimp only)
          exact ((unhide HR).bel ((Below.refl _ _).drew)).rdr.1
        have hdr : Fr [] wr wr.drew := (Fr.refl _ _).drew
        have HU := hide ((unhide HU).fr hdr (by simp))
        have HR := hide ((unhide HR).fr hdr (unhide HO) (by simp))
        have HF := hide (unhide HF).drew
        have HN := hide ((unhide HN).fr hdr (by simp))
        have HV := hide ((unhide HV).fr hdr (by simp))
        have HBw := hide (Nat.le_trans (unhide HBw) hdr.size)
        clear hdr
        generalize wr.drew = wr at *
        refine lst0 12 (by kernel_rfl) ?_
        refine tkA 0 97 1 ?_
        refine tkA 2 99 5 ?_
        refine tkA 3 100 13 ?_
        refine tkA 4 101 29 ?_
        refine tkA 5 102 61 ?_
        refine rdB 1 6 63 125 (fun Kk hKk => ?_) (fun Kk hKk => ?_)
        · have g5 := (unhide HN).tab 5 _ rfl
          go_simp
          refine hKk.out _ _ ?_ (fun hHeld => ?_)
          · (try dsimp only)
            exact (unhide HR).rdr.1
          clear hKk Kk
          (try simp only [List.setIfInBounds_toArray, List.set_cons_zero, List.set_cons_succ])
          clear g5
          refine rdA 6 127 (fun Kk hKk => ?_)
          go_simp
          have HX := hide (rUint_any (b := 32) (unhide HR).cur (by decide) (by decide))
          have HD2 : Hid (Rd (rU 32) xs k2 0 (lift (rU 32) 0 xs k2 0).1 (lift (rU 32) 0 xs k2 0).2.1 (lift (rU 32) 0 xs k2 0).2.2) := hide Rd.lift
          have hlt2 := liftU_lt (unhide HR).byt k2 0
          generalize lift (rU 32) 0 xs k2 0 = L at *
          obtain ⟨x, k3, e3⟩ := L
          dsimp only at *
          have iw : IntKind.u32.wrap x = x := u32_id (by omega) (by omega)
          refine (unhide HX).mono ?_
          rintro _ w3 ⟨rfl, hC, hF⟩
          have HR := hide ((unhide HR).step hF hC)
          have HF := hide ((unhide HF).trans hF)
          have HU := hide ((unhide HU).fr hF (by have := (unhide HO).c; have := unhide HSv; have := (unhide HN).new; simp; omega))
          have HN := hide ((unhide HN).fr hF (by have := (unhide HO).c; have := (unhide HN).new; simp; omega))
          have HV := hide ((unhide HV).fr hF (by have := (unhide HO).c; simp; omega))
          have HBw := hide (Nat.le_trans (unhide HBw) hF.size)
          clear hC hF HX hlt2
          (try go_wp2_with fail)
          refine hKk.out _ _ ?_ (fun hHeld => ?_)
          · (try dsimp only)
            exact (unhide HR).rdr.1
          clear hKk Kk
          (try simp only [List.setIfInBounds_toArray, List.set_cons_zero, List.set_cons_succ])
          refine tkA 7 104 255 ?_
          obtain ⟨p, sc, w5, hrun, hU5, ll, hll, hlb⟩ := ou_app (x := x) (unhide HU) (unhide HBw) (by rw [unhide HY]; omega) rfl
          have HRun := hide hrun
          have HU5 := hide hU5
          have HLl := hide hll
          have HLb := hide hlb
          clear hrun hU5 hll hlb
          refine rdA 8 511 (fun Kk hKk => ?_)
          go_simp
          have hb5 := below1 w3 (.cells #[.int .u32 x] 46)
          refine hKk.out _ _ ?_ (fun hHeld => ?_)
          · (try dsimp only)
            exact ((unhide HR).bel hb5).rdr.1
          clear hKk Kk
          (try simp only [List.setIfInBounds_toArray, List.set_cons_zero, List.set_cons_succ])
          clear hb5
          refine rdA 9 1023 (fun Kk hKk => ?_)
          rw [if_pos (by rfl)]
          refine oper_app (by rfl) (by rfl) (unhide HRun) ?_
          have HR := hide ((unhide HR).fr (unhide HLl) (unhide HO) (fun i hi => by have := unhide HLb i hi; have := unhide HSv; have := (unhide HN).new; omega))
          have HV := hide ((unhide HV).fr (unhide HLl) (fun hm => by have := unhide HLb _ hm; have := unhide HSv; have := (unhide HN).new; omega))
          have HF := hide ((unhide HF).thenL (unhide HLl) (fun i hi => .inr (by have := unhide HLb i hi; have := unhide HSv; have := (unhide HN).new; omega)))
          have HBw := hide (Nat.le_trans (unhide HBw) (unhide HLl).size)
          have HN := hide ((unhide HN).fr (unhide HLl) (fun hm => by have := unhide HLb _ hm; have := unhide HSv; omega))
          clear HRun HU
          refine hKk.out _ _ ?_ (fun hHeld => ?_)
          · (try dsimp only)
            exact (unhide HR).rdr.1
          clear hKk Kk
          (try simp only [List.setIfInBounds_toArray, List.set_cons_zero, List.set_cons_succ])
          refine tkA 10 107 2047 ?_
          obtain ⟨⟨u, g⟩, fr⟩ := (unhide HN).room 5 (by decide)
          refine rdA 11 4095 (fun Kk hKk => ?_)
          go_simp
          have fA : Fr [ib] w5 (w5.setCell ⟨ib, 5, none⟩ (.slice p (ys.length + 1) sc)) := (Fr.refl _ _).place _ _
          have HR := hide ((unhide HR).fr fA (unhide HO) (by have := (unhide HN).new; simp; omega))
          have HF := hide ((unhide HF).set 5 (Or.inr (unhide HN).new) (.slice p (ys.length + 1) sc))
          have HV := hide ((unhide HV).fr fA (by have := unhide HNi; simp; omega))
          have HU5 := hide ((unhide HU5).fr fA (by have := unhide HSv; simp; omega))
          have HN := hide ((unhide HN).set 5 (.slice p (ys.length + 1) sc))
          have HBw := hide (Nat.le_trans (unhide HBw) fA.size)
          clear fA fr g u
          refine hKk.out _ _ ?_ (fun hHeld => ?_)
          · (try dsimp only)
            exact (unhide HR).rdr.1
          clear hKk Kk
          (try simp only [List.setIfInBounds_toArray, List.set_cons_zero, List.set_cons_succ])
          refine wpAnyH_done (by kernel_rfl) ?_ _
          go_wp2_with fail
          refine ⟨⟨i + 1, ys ++ [x], .slice p (ys.length + 1) sc, k3, e3, by omega, by go_num, by rw [List.length_append, unhide HY]; rfl, unhide HU5, unhide HN, unhide HV, unhide HR, unhide HF, unhide HBw, fun L k' e' hr => ?_⟩, by simp [intOf]; omega⟩
          rw [List.append_assoc]
          refine unhide HK (x :: L) k' e' ?_
          rw [show m - i = (m - (i + 1)) + 1 by omega]
          exact (unhide HD2).bd (hr.bd (Rd.giv _ _ _ _))
        · go_simp
          have HX := hide (rUint_any (b := 32) (unhide HR).cur (by decide) (by decide))
          have HD2 : Hid (Rd (rU 32) xs k2 0 (lift (rU 32) 0 xs k2 0).1 (lift (rU 32) 0 xs k2 0).2.1 (lift (rU 32) 0 xs k2 0).2.2) := hide Rd.lift
          have hlt2 := liftU_lt (unhide HR).byt k2 0
          generalize lift (rU 32) 0 xs k2 0 = L at *
          obtain ⟨x, k3, e3⟩ := L
          dsimp only at *
          have iw : IntKind.u32.wrap x = x := u32_id (by omega) (by omega)
          refine (unhide HX).mono ?_
          rintro _ w3 ⟨rfl, hC, hF⟩
          have HR := hide ((unhide HR).step hF hC)
          have HF := hide ((unhide HF).trans hF)
          have HU := hide ((unhide HU).fr hF (by have := (unhide HO).c; have := unhide HSv; have := (unhide HN).new; simp; omega))
          have HN := hide ((unhide HN).fr hF (by have := (unhide HO).c; have := (unhide HN).new; simp; omega))
          have HV := hide ((unhide HV).fr hF (by have := (unhide HO).c; simp; omega))
          have HBw := hide (Nat.le_trans (unhide HBw) hF.size)
          clear hC hF HX hlt2
          (try go_wp2_with fail)
          refine hKk.out _ _ ?_ (fun hHeld => ?_)
          · (try dsimp only)
            exact (unhide HR).rdr.1
          clear hKk Kk
          (try simp only [List.setIfInBounds_toArray, List.set_cons_zero, List.set_cons_succ])
          refine tkA 7 104 253 ?_
          obtain ⟨p, sc, w5, hrun, hU5, ll, hll, hlb⟩ := ou_app (x := x) (unhide HU) (unhide HBw) (by rw [unhide HY]; omega) rfl
          have HRun := hide hrun
          have HU5 := hide hU5
          have HLl := hide hll
          have HLb := hide hlb
          clear hrun hU5 hll hlb
          refine rdB 1 8 255 509 (fun Kk hKk => ?_) (fun Kk hKk => ?_)
          · have g5 := (unhide HN).tab 5 _ rfl
            go_simp
            refine hKk.out _ _ ?_ (fun hHeld => ?_)
            · (try dsimp only)
              exact (unhide HR).rdr.1
            clear hKk Kk
            (try simp only [List.setIfInBounds_toArray, List.set_cons_zero, List.set_cons_succ])
            clear g5
            refine rdA 8 511 (fun Kk hKk => ?_)
            go_simp
            have hb5 := below1 w3 (.cells #[.int .u32 x] 46)
            refine hKk.out _ _ ?_ (fun hHeld => ?_)
            · (try dsimp only)
              exact ((unhide HR).bel hb5).rdr.1
            clear hKk Kk
            (try simp only [List.setIfInBounds_toArray, List.set_cons_zero, List.set_cons_succ])
            clear hb5
            refine rdA 9 1023 (fun Kk hKk => ?_)
            rw [if_pos (by rfl)]
            refine oper_app (by rfl) (by rfl) (unhide HRun) ?_
            have HR := hide ((unhide HR).fr (unhide HLl) (unhide HO) (fun i hi => by have := unhide HLb i hi; have := unhide HSv; have := (unhide HN).new; omega))
            have HV := hide ((unhide HV).fr (unhide HLl) (fun hm => by have := unhide HLb _ hm; have := unhide HSv; have := (unhide HN).new; omega))
            have HF := hide ((unhide HF).thenL (unhide HLl) (fun i hi => .inr (by have := unhide HLb i hi; have := unhide HSv; have := (unhide HN).new; omega)))
            have HBw := hide (Nat.le_trans (unhide HBw) (unhide HLl).size)
            have HN := hide ((unhide HN).fr (unhide HLl) (fun hm => by have := unhide HLb _ hm; have := unhide HSv; omega))
            clear HRun HU
            refine hKk.out _ _ ?_ (fun hHeld => ?_)
            · (try dsimp only)
              exact (unhide HR).rdr.1
            clear hKk Kk
            (try simp only [List.setIfInBounds_toArray, List.set_cons_zero, List.set_cons_succ])
            refine tkA 10 107 2047 ?_
            obtain ⟨⟨u, g⟩, fr⟩ := (unhide HN).room 5 (by decide)
            refine rdA 11 4095 (fun Kk hKk => ?_)
            go_simp
            have fA : Fr [ib] w5 (w5.setCell ⟨ib, 5, none⟩ (.slice p (ys.length + 1) sc)) := (Fr.refl _ _).place _ _
            have HR := hide ((unhide HR).fr fA (unhide HO) (by have := (unhide HN).new; simp; omega))
            have HF := hide ((unhide HF).set 5 (Or.inr (unhide HN).new) (.slice p (ys.length + 1) sc))
            have HV := hide ((unhide HV).fr fA (by have := unhide HNi; simp; omega))
            have HU5 := hide ((unhide HU5).fr fA (by have := unhide HSv; simp; omega))
            have HN := hide ((unhide HN).set 5 (.slice p (ys.length + 1) sc))
            have HBw := hide (Nat.le_trans (unhide HBw) fA.size)
            clear fA fr g u
            refine hKk.out _ _ ?_ (fun hHeld => ?_)
            · (try dsimp only)
              exact (unhide HR).rdr.1
            clear hKk Kk
            (try simp only [List.setIfInBounds_toArray, List.set_cons_zero, List.set_cons_succ])
            refine wpAnyH_done (by kernel_rfl) ?_ _
            go_wp2_with fail
            refine ⟨⟨i + 1, ys ++ [x], .slice p (ys.length + 1) sc, k3, e3, by omega, by go_num, by rw [List.length_append, unhide HY]; rfl, unhide HU5, unhide HN, unhide HV, unhide HR, unhide HF, unhide HBw, fun L k' e' hr => ?_⟩, by simp [intOf]; omega⟩
            rw [List.append_assoc]
            refine unhide HK (x :: L) k' e' ?_
            rw [show m - i = (m - (i + 1)) + 1 by omega]
            exact (unhide HD2).bd (hr.bd (Rd.giv _ _ _ _))
          · go_simp
            have hb5 := below1 w3 (.cells #[.int .u32 x] 46)
            refine hKk.out _ _ ?_ (fun hHeld => ?_)
            · (try dsimp only)
              exact ((unhide HR).bel hb5).rdr.1
            clear hKk Kk
            (try simp only [List.setIfInBounds_toArray, List.set_cons_zero, List.set_cons_succ])
            refine rdA 1 511 (fun Kk hKk => ?_)
            have g5 := ((unhide HN).fr (Fr.of hb5 []) (by simp)).tab 5 _ rfl
            go_simp
            refine hKk.out _ _ ?_ (fun hHeld => ?_)
            · (try dsimp only)
              exact ((unhide HR).bel hb5).rdr.1
            clear hKk Kk g5
            (try simp only [List.setIfInBounds_toArray, List.set_cons_zero, List.set_cons_succ])
            clear hb5
            refine rdA 9 1023 (fun Kk hKk => ?_)
            rw [if_pos (by rfl)]
            refine oper_app (by rfl) (by rfl) (unhide HRun) ?_
            have HR := hide ((unhide HR).fr (unhide HLl) (unhide HO) (fun i hi => by have := unhide HLb i hi; have := unhide HSv; have := (unhide HN).new; omega))
            have HV := hide ((unhide HV).fr (unhide HLl) (fun hm => by have := unhide HLb _ hm; have := unhide HSv; have := (unhide HN).new; omega))
            have HF := hide ((unhide HF).thenL (unhide HLl) (fun i hi => .inr (by have := unhide HLb i hi; have := unhide HSv; have := (unhide HN).new; omega)))
            have HBw := hide (Nat.le_trans (unhide HBw) (unhide HLl).size)
            have HN := hide ((unhide HN).fr (unhide HLl) (fun hm => by have := unhide HLb _ hm; have := unhide HSv; omega))
            clear HRun HU
            refine hKk.out _ _ ?_ (fun hHeld => ?_)
            · (try dsimp only)
              exact (unhide HR).rdr.1
            clear hKk Kk
            (try simp only [List.setIfInBounds_toArray, List.set_cons_zero, List.set_cons_succ])
            refine tkA 10 107 2047 ?_
            obtain ⟨⟨u, g⟩, fr⟩ := (unhide HN).room 5 (by decide)
            refine rdA 11 4095 (fun Kk hKk => ?_)
            go_simp
            have fA : Fr [ib] w5 (w5.setCell ⟨ib, 5, none⟩ (.slice p (ys.length + 1) sc)) := (Fr.refl _ _).place _ _
            have HR := hide ((unhide HR).fr fA (unhide HO) (by have := (unhide HN).new; simp; omega))
            have HF := hide ((unhide HF).set 5 (Or.inr (unhide HN).new) (.slice p (ys.length + 1) sc))
            have HV := hide ((unhide HV).fr fA (by have := unhide HNi; simp; omega))
            have HU5 := hide ((unhide HU5).fr fA (by have := unhide HSv; simp; omega))
            have HN := hide ((unhide HN).set 5 (.slice p (ys.length + 1) sc))
            have HBw := hide (Nat.le_trans (unhide HBw) fA.size)
            clear fA fr g u
            refine hKk.out _ _ ?_ (fun hHeld => ?_)
            · (try dsimp only)
              exact (unhide HR).rdr.1
            clear hKk Kk
            (try simp only [List.setIfInBounds_toArray, List.set_cons_zero, List.set_cons_succ])
            refine wpAnyH_done (by kernel_rfl) ?_ _
            go_wp2_with fail
            refine ⟨⟨i + 1, ys ++ [x], .slice p (ys.length + 1) sc, k3, e3, by omega, by go_num, by rw [List.length_append, unhide HY]; rfl, unhide HU5, unhide HN, unhide HV, unhide HR, unhide HF, unhide HBw, fun L k' e' hr => ?_⟩, by simp [intOf]; omega⟩
            rw [List.append_assoc]
            refine unhide HK (x :: L) k' e' ?_
            rw [show m - i = (m - (i + 1)) + 1 by omega]
            exact (unhide HD2).bd (hr.bd (Rd.giv _ _ _ _))
      · have he' : (e2 == 0) = false := by simp [he]
        go_wp2_with fail
        have HDe : Hid (e2 ≠ 0 ∨ i = m) := hide (.inl he)
        clear h2e
        clear h0
        have hlab : Rd (repU m) xs kk1 ee1 ys k2 e2 := by
          have hq := unhide HK [] k2 e2 (by
            rcases unhide HDe with hq | hq
            · exact Rd.err _ hq
            · rw [hq, Nat.sub_self]; exact Rd.giv _ _ _ _)
          rw [List.append_nil] at hq
          exact hq
        have HD2 : Hid (Rd rLab xs k1 0 ys k2 e2) := hide ((unhide HD1).bd hlab)
        clear hlab
        have HT := hide (unhide HU).slc
        obtain ⟨lp, ls, rfl⟩ := (unhide HU).slice
        have HN : Hid (Nv W.heap.size ib (hcells ⟨y, 0, 0, 0, 0, ys, false⟩ (.slice lp ys.length ls) (.slice none 0 0) (.slice none 0 0)) _) := HN
        have HS := HSv
        have HX := hide (rUint_any (b := 32) (unhide HR).cur (by decide) (by decide))
        have HD3 : Hid (Rd (rU 32) xs k2 e2 (lift (rU 32) 0 xs k2 e2).1 (lift (rU 32) 0 xs k2 e2).2.1 (lift (rU 32) 0 xs k2 e2).2.2) := hide Rd.lift
        have hlt2 := liftU_lt (unhide HR).byt k2 e2
        generalize lift (rU 32) 0 xs k2 e2 = L at *
        obtain ⟨y2, k3, e3⟩ := L
        dsimp only at *
        have iw : IntKind.u32.wrap y2 = y2 := u32_id (by omega) (by omega)
        clear hlt2
        refine (unhide HX).mono ?_
        rintro _ v3 ⟨rfl, hC, hF⟩
        have HR := hide ((unhide HR).step hF hC)
        have HF := hide ((unhide HF).trans hF)
        have HT := hide ((unhide HT).fr hF (by have := (unhide HO).c; have := unhide HS; have := (unhide HN).new; simp; omega))
        have HN := hide ((unhide HN).fr hF (by have := (unhide HO).c; have := (unhide HN).new; simp; omega))
        have HV := hide ((unhide HV).fr hF (by have := (unhide HO).c; simp; omega))
        clear hC hF HX HU
        have t0 := (unhide HN).tab 0 _ rfl
        have z0 := (unhide HV).tab 0 _ rfl
        have fz0 := ((unhide HV).room 0 (by decide)).2
        have t1 := (unhide HN).tab 1 _ rfl
        have z1 := (unhide HV).tab 1 _ rfl
        have fz1 := ((unhide HV).room 1 (by decide)).2
        have t2 := (unhide HN).tab 2 _ rfl
        have z2 := (unhide HV).tab 2 _ rfl
        have fz2 := ((unhide HV).room 2 (by decide)).2
        have t3 := (unhide HN).tab 3 _ rfl
        have z3 := (unhide HV).tab 3 _ rfl
        have fz3 := ((unhide HV).room 3 (by decide)).2
        have t4 := (unhide HN).tab 4 _ rfl
        have z4 := (unhide HV).tab 4 _ rfl
        have fz4 := ((unhide HV).room 4 (by decide)).2
        have t5 := (unhide HN).tab 5 _ rfl
        have z5 := (unhide HV).tab 5 _ rfl
        have fz5 := ((unhide HV).room 5 (by decide)).2
        have t6 := (unhide HN).tab 6 _ rfl
        have z6 := (unhide HV).tab 6 _ rfl
        have fz6 := ((unhide HV).room 6 (by decide)).2
        have t7 := (unhide HN).tab 7 _ rfl
        have z7 := (unhide HV).tab 7 _ rfl
        have fz7 := ((unhide HV).room 7 (by decide)).2
        have t8 := (unhide HN).tab 8 _ rfl
        have z8 := (unhide HV).tab 8 _ rfl
        have fz8 := ((unhide HV).room 8 (by decide)).2
        have pf := ((unhide HN).room 2 (by decide)).2
        have ne1 : ¬ ib = W.heap.size := by have := unhide HNi; omega
        have ne2 : ¬ W.heap.size = ib := by have := unhide HNi; omega
        (try dsimp only [hd0] at t0 t1 t2 t3 t4 t8)
        (try dsimp only [hd0] at z0 z1 z2 z3 z4 z8)
        go_wp2_with fail
        have fA : Fr [ib] v3 (v3.setCell ⟨ib, 2, none⟩ (.int .u32 y2)) := (Fr.refl _ _).place _ _
        have HR := hide ((unhide HR).fr fA (unhide HO) (by have := (unhide HN).new; simp; omega))
        have HF := hide ((unhide HF).set 2 (Or.inr (unhide HN).new) (.int .u32 y2))
        have HN : Hid (Nv W.heap.size ib (hcells ⟨y, 0, y2, 0, 0, ys, false⟩ (.slice lp ys.length ls) (.slice none 0 0) (.slice none 0 0)) _) := hide ((unhide HN).set 2 (.int .u32 y2))
        have HV := hide ((unhide HV).fr fA (by have := unhide HNi; simp; omega))
        have HT := hide ((unhide HT).fr fA (by have := unhide HS; simp; omega))
        clear fA
        refine bodyPost_ret (v := .agg #[.int .i64 y, .int .u8 0, .int .u32 y2, .int .u32 0, .int .u64 0, .slice lp ys.length ls, .slice none 0 0, .slice none 0 0, .bool false]) (by simp [results, Tryd.results39, go_sem, z0, z1, z2, z3, z4, z5, z6, z7, z8]) rfl ?_
        have fZ := fun w => fr_set9 w W.heap.size (.int .i64 y) (.int .u8 0) (.int .u32 y2) (.int .u32 0) (.int .u64 0) (.slice lp ys.length ls) (.slice none 0 0) (.slice none 0 0) (.bool false)
        refine ⟨⟨y, 0, y2, 0, 0, ys, false⟩, lp, ys.length, ls, none, 0, 0, none, 0, 0, y, k1, 0, (⟨y, 0, y2, 0, 0, ys, false⟩, .nil, .nil), _, _, rfl, unhide HOp, fun _ => unhide HY5, ?_, fun _ => ⟨rfl, ?_, fov_nil _ _, fov_nil _ _⟩, (unhide HR).fr (fZ _) (unhide HO) (by simp), (unhide HF).thenL (fZ _) (by simp)⟩
        · rw [show rRest (sq sat) deep y = bd inz rLab fun L => bd inz (rU 32) fun a => giv ({ hd0 y with list := L, a := a }, .nil, .nil) by unfold rRest rPlain; rw [unhide HV0]; rfl]
          exact (unhide HD2).bd ((unhide HD3).bd (Rd.giv _ _ _ _))
        · exact ((unhide HT).fr (fZ _) (by have := unhide HS; have := (unhide HNi); simp; omega)).mono (fun b _ hb => by have := unhide HS; have := (unhide HNi); omega)
    · have hi' : decide ((i : Int) < (m : Int)) = false := by simp; omega
      have HDe : Hid (e2 ≠ 0 ∨ i = m) := hide (.inr (by omega))
      go_wp2_with fail
      clear h2e
      clear h0
      have hlab : Rd (repU m) xs kk1 ee1 ys k2 e2 := by
        have hq := unhide HK [] k2 e2 (by
          rcases unhide HDe with hq | hq
          · exact Rd.err _ hq
          · rw [hq, Nat.sub_self]; exact Rd.giv _ _ _ _)
        rw [List.append_nil] at hq
        exact hq
      have HD2 : Hid (Rd rLab xs k1 0 ys k2 e2) := hide ((unhide HD1).bd hlab)
      clear hlab
      have HT := hide (unhide HU).slc
      obtain ⟨lp, ls, rfl⟩ := (unhide HU).slice
      have HN : Hid (Nv W.heap.size ib (hcells ⟨y, 0, 0, 0, 0, ys, false⟩ (.slice lp ys.length ls) (.slice none 0 0) (.slice none 0 0)) _) := HN
      have HS := HSv
      have HX := hide (rUint_any (b := 32) (unhide HR).cur (by decide) (by decide))
      have HD3 : Hid (Rd (rU 32) xs k2 e2 (lift (rU 32) 0 xs k2 e2).1 (lift (rU 32) 0 xs k2 e2).2.1 (lift (rU 32) 0 xs k2 e2).2.2) := hide Rd.lift
      have hlt2 := liftU_lt (unhide HR).byt k2 e2
      generalize lift (rU 32) 0 xs k2 e2 = L at *
      obtain ⟨y2, k3, e3⟩ := L
      dsimp only at *
      have iw : IntKind.u32.wrap y2 = y2 := u32_id (by omega) (by omega)
      clear hlt2
      refine (unhide HX).mono ?_
      rintro _ v3 ⟨rfl, hC, hF⟩
      have HR := hide ((unhide HR).step hF hC)
      have HF := hide ((unhide HF).trans hF)
      have HT := hide ((unhide HT).fr hF (by have := (unhide HO).c; have := unhide HS; have := (unhide HN).new; simp; omega))
      have HN := hide ((unhide HN).fr hF (by have := (unhide HO).c; have := (unhide HN).new; simp; omega))
      have HV := hide ((unhide HV).fr hF (by have := (unhide HO).c; simp; omega))
      clear hC hF HX HU
      have t0 := (unhide HN).tab 0 _ rfl
      have z0 := (unhide HV).tab 0 _ rfl
      have fz0 := ((unhide HV).room 0 (by decide)).2
      have t1 := (unhide HN).tab 1 _ rfl
      have z1 := (unhide HV).tab 1 _ rfl
      have fz1 := ((unhide HV).room 1 (by decide)).2
      have t2 := (unhide HN).tab 2 _ rfl
      have z2 := (unhide HV).tab 2 _ rfl
      have fz2 := ((unhide HV).room 2 (by decide)).2
      have t3 := (unhide HN).tab 3 _ rfl
      have z3 := (unhide HV).tab 3 _ rfl
      have fz3 := ((unhide HV).room 3 (by decide)).2
      have t4 := (unhide HN).tab 4 _ rfl
      have z4 := (unhide HV).tab 4 _ rfl
      have fz4 := ((unhide HV).room 4 (by decide)).2
      have t5 := (unhide HN).tab 5 _ rfl
      have z5 := (unhide HV).tab 5 _ rfl
      have fz5 := ((unhide HV).room 5 (by decide)).2
      have t6 := (unhide HN).tab 6 _ rfl
      have z6 := (unhide HV).tab 6 _ rfl
      have fz6 := ((unhide HV).room 6 (by decide)).2
      have t7 := (unhide HN).tab 7 _ rfl
      have z7 := (unhide HV).tab 7 _ rfl
      have fz7 := ((unhide HV).room 7 (by decide)).2
      have t8 := (unhide HN).tab 8 _ rfl
      have z8 := (unhide HV).tab 8 _ rfl
      have fz8 := ((unhide HV).room 8 (by decide)).2
      have pf := ((unhide HN).room 2 (by decide)).2
      have ne1 : ¬ ib = W.heap.size := by have := unhide HNi; omega
      have ne2 : ¬ W.heap.size = ib := by have := unhide HNi; omega
      (try dsimp only [hd0] at t0 t1 t2 t3 t4 t8)
      (try dsimp only [hd0] at z0 z1 z2 z3 z4 z8)
      go_wp2_with fail
      have fA : Fr [ib] v3 (v3.setCell ⟨ib, 2, none⟩ (.int .u32 y2)) := (Fr.refl _ _).place _ _
      have HR := hide ((unhide HR).fr fA (unhide HO) (by have := (unhide HN).new; simp; omega))
      have HF := hide ((unhide HF).set 2 (Or.inr (unhide HN).new) (.int .u32 y2))
      have HN : Hid (Nv W.heap.size ib (hcells ⟨y, 0, y2, 0, 0, ys, false⟩ (.slice lp ys.length ls) (.slice none 0 0) (.slice none 0 0)) _) := hide ((unhide HN).set 2 (.int .u32 y2))
      have HV := hide ((unhide HV).fr fA (by have := unhide HNi; simp; omega))
      have HT := hide ((unhide HT).fr fA (by have := unhide HS; simp; omega))
      clear fA
      refine bodyPost_ret (v := .agg #[.int .i64 y, .int .u8 0, .int .u32 y2, .int .u32 0, .int .u64 0, .slice lp ys.length ls, .slice none 0 0, .slice none 0 0, .bool false]) (by simp [results, Tryd.results39, go_sem, z0, z1, z2, z3, z4, z5, z6, z7, z8]) rfl ?_
      have fZ := fun w => fr_set9 w W.heap.size (.int .i64 y) (.int .u8 0) (.int .u32 y2) (.int .u32 0) (.int .u64 0) (.slice lp ys.length ls) (.slice none 0 0) (.slice none 0 0) (.bool false)
      refine ⟨⟨y, 0, y2, 0, 0, ys, false⟩, lp, ys.length, ls, none, 0, 0, none, 0, 0, y, k1, 0, (⟨y, 0, y2, 0, 0, ys, false⟩, .nil, .nil), _, _, rfl, unhide HOp, fun _ => unhide HY5, ?_, fun _ => ⟨rfl, ?_, fov_nil _ _, fov_nil _ _⟩, (unhide HR).fr (fZ _) (unhide HO) (by simp), (unhide HF).thenL (fZ _) (by simp)⟩
      · rw [show rRest (sq sat) deep y = bd inz rLab fun L => bd inz (rU 32) fun a => giv ({ hd0 y with list := L, a := a }, .nil, .nil) by unfold rRest rPlain; rw [unhide HV0]; rfl]
        exact (unhide HD2).bd ((unhide HD3).bd (Rd.giv _ _ _ _))
      · exact ((unhide HT).fr (fZ _) (by have := unhide HS; have := (unhide HNi); simp; omega)).mono (fun b _ hb => by have := unhide HS; have := (unhide HNi); omega)
end Go.Proofs.YtalahdkgigcpfaaDoor
