/- CdQ, CdR. -/
import Derived.Test.YtalahdkgigcpfaaDoorG35
import Derived.Test.YtalahdkgigcpfaaDoorG37
import Derived.Test.YtalahdkgigcpfaaDoorG39
import Derived.Test.YtalahdkgigcpfaaDoorG40
import Derived.Test.YtalahdkgigcpfaaDoorG41
namespace Go.Proofs.YtalahdkgigcpfaaDoor
open Go.RowKit

/-- The document's reader's memory. -/
structure Rq (c rb : Nat) (a : Option Addr) (len cap : Nat) (xs : List Int) (sat : Bool) (k : Nat) (e : Int) (w : World) : Prop where
  cur : Cs c a len cap xs k e w
  rdr : At2 rb (.pointer (some ⟨c, 0, none⟩)) (.bool sat) w
  var : Mk w
  ne : rb ≠ c
  c3 : 3 ≤ c
  r3 : 3 ≤ rb
  far : ∀ p, a = some p → 0 < len → p.block ≠ rb
section
variable {c rb : Nat} {a : Option Addr} {len cap : Nat} {xs : List Int} {sat : Bool} {k : Nat} {e : Int} {w w' : World}
theorem Rq.old (h : Rq c rb a len cap xs sat k e w) {N : Nat} (hN : w.heap.size ≤ N) : Old N c rb a len :=
  have hc := h.cur.1.lt
  have hr := World.block_lt_of_cell? w _ h.rdr.1
  ⟨by have := h.c3; omega, by omega, by simp only at hr; omega, fun p hp hl => Nat.lt_of_lt_of_le (h.cur.2.1.lt p hp hl) hN⟩
theorem Rq.fr {l : List Nat} {N : Nat} (h : Rq c rb a len cap xs sat k e w) (hf : Fr l w w') (ho : Old N c rb a len) (hl : ∀ i ∈ l, N ≤ i) : Rq c rb a len cap xs sat k e w' :=
  ⟨h.cur.fr hf (fun hm => by have := hl c hm; have := ho.c; omega) (fun p hp hn hm => by have := hl _ hm; have := ho.b p hp hn; omega),
   h.rdr.fr hf (fun hm => by have := hl rb hm; have := ho.r; omega),
   h.var.fr hf (fun i hi => by have := hl i hi; have := ho.n3; omega), h.ne, h.c3, h.r3, h.far⟩
theorem Rq.bel (h : Rq c rb a len cap xs sat k e w) (hf : Below w.heap.size w w') : Rq c rb a len cap xs sat k e w' :=
  h.fr (Fr.of hf []) (h.old (Nat.le_refl _)) (by simp)
theorem Rq.step {k' : Nat} {e' : Int} (h : Rq c rb a len cap xs sat k e w) (hf : Fr [c] w w') (hc : Cs c a len cap xs k' e' w') : Rq c rb a len cap xs sat k' e' w' :=
  ⟨hc, h.rdr.fr hf (by simpa using h.ne), h.var.fr hf (by simpa using h.c3), h.ne, h.c3, h.r3, h.far⟩
theorem Rq.byt (h : Rq c rb a len cap xs sat k e w) : Byt xs := h.cur.2.2.2.1
end
set_option maxHeartbeats 2000000 in
set_option maxRecDepth 100000 in
theorem rzero_any {c rb : Nat} {a : Option Addr} {len cap : Nat} {xs : List Int} {sat : Bool} {k : Nat} {e : Int} {W : World} (h : Rq c rb a len cap xs sat k e W) : Calls Tryd.prog 62 #[.pointer (some ⟨rb, 0, none⟩)] W fun r W' => ∃ k' e', r = .returned (.tuple #[]) ∧ Rd r0 xs k e () k' e' ∧ Rq c rb a len cap xs sat k' e' W' ∧ Fr [c] W W' := by
  have HN := hide (rByte_any h.cur)
  have HL : Hid (Rd rB xs k e (lift rB 0 xs k e).1 (lift rB 0 xs k e).2.1 (lift rB 0 xs k e).2.2) := hide Rd.lift
  generalize lift rB 0 xs k e = L at *
  obtain ⟨y, k1, e1⟩ := L
  dsimp only at *
  have h0 := h.rdr.1
  have h2 := h.cur.1.2.2.1
  have H := hide h
  clear h
  by_cases he : e = 0
  · have he' : (e == 0) = true := by simp [he]
    by_cases hy : y = 0
    · have hy' : (y != 0) = false := by simp [hy]
      go_enter Tryd.func62, Tryd.ntmps62
      go_wp2_with fail
      refine (unhide HN).mono ?_
      rintro _ w1 ⟨rfl, hC, hF⟩
      have HR := hide ((unhide H).step hF hC)
      have HF := hide hF
      clear hC hF h0 h2
      go_wp2_with fail
      refine bodyPost_end (results_none rfl _ _ _) rfl ⟨k1, e1, rfl, ?_, unhide HR, unhide HF⟩
      exact (unhide HL).bd (by rw [show (y == 0) = true by simp [hy]]; exact Rd.tst_t _ _ _ _ _ _)
    · have hy' : (y != 0) = true := by simp [hy]
      go_enter Tryd.func62, Tryd.ntmps62
      go_wp2_with fail
      refine (unhide HN).mono ?_
      rintro _ w1 ⟨rfl, hC, hF⟩
      have HR := hide ((unhide H).step hF hC)
      have HF := hide hF
      clear hC hF h0 h2
      have h0 := (unhide HR).rdr.1
      go_wp2_with fail
      refine (rFail_any (unhide HR).cur).mono ?_
      rintro _ w2 ⟨rfl, hC, hF⟩
      have HR := hide ((unhide HR).step hF hC)
      have HF := hide ((unhide HF).trans hF)
      clear hC hF h0
      go_wp2_with fail
      refine bodyPost_end (results_none rfl _ _ _) rfl ⟨_, _, rfl, ?_, unhide HR, unhide HF⟩
      exact (unhide HL).bd (by rw [show (y == 0) = false by simp [hy]]; exact Rd.tst_f _ _ _ (by decide) _ _ _)
  · have he' : (e == 0) = false := by simp [he]
    clear HN HL
    go_enter Tryd.func62, Tryd.ntmps62
    go_wp2_with fail
    exact bodyPost_end (results_none rfl _ _ _) rfl ⟨_, _, rfl, Rd.err _ he, unhide H, Fr.refl _ _⟩
/-- The byte that comes next, and the failure at the end. -/
def nxV (xs : List Int) (k : Nat) (e : Int) : Int := if e = 0 ∧ k < xs.length then xs.getD k 0 else -1
def nxE (xs : List Int) (k : Nat) (e : Int) : Int := if e = 0 ∧ xs.length ≤ k then 100 else e
set_option maxHeartbeats 2000000 in
set_option maxRecDepth 100000 in
theorem rnext_dead {c rb : Nat} {a : Option Addr} {len cap : Nat} {xs : List Int} {sat : Bool} {k : Nat} {e : Int} {W : World} (h : Rq c rb a len cap xs sat k e W) (he : e ≠ 0) : Calls Tryd.prog 37 #[.pointer (some ⟨rb, 0, none⟩)] W fun r W' => r = .returned (.int .i64 (nxV xs k e)) ∧ Rq c rb a len cap xs sat k (nxE xs k e) W' ∧ Fr [c] W W' := by
  have he' : (e != 0) = true := by simp [he]
  have h0 := h.rdr.1
  have h2 := h.cur.1.2.2.1
  have H := hide h
  rw [show nxV xs k e = -1 by unfold nxV; rw [if_neg (fun q => he q.1)], show nxE xs k e = e by unfold nxE; rw [if_neg (fun q => he q.1)]]
  clear h
  go_enter Tryd.func37, Tryd.ntmps37
  go_wp2_with fail
  go_ret
  exact ⟨rfl, unhide H, Fr.refl _ _⟩
set_option maxHeartbeats 2000000 in
set_option maxRecDepth 100000 in
theorem rnext_end {c rb : Nat} {a : Option Addr} {len cap : Nat} {xs : List Int} {sat : Bool} {k : Nat} {e : Int} {W : World} (h : Rq c rb a len cap xs sat k e W) (he : e = 0) (hk : xs.length ≤ k) : Calls Tryd.prog 37 #[.pointer (some ⟨rb, 0, none⟩)] W fun r W' => r = .returned (.int .i64 (nxV xs k e)) ∧ Rq c rb a len cap xs sat k (nxE xs k e) W' ∧ Fr [c] W W' := by
  subst he
  have h0 := h.rdr.1
  have h2 := h.cur.1.2.2.1
  have h1 := h.cur.1.2.1
  have h3 := h.cur.1.1
  have hl := h.cur.2.1.1
  have hk1 : (len : Int) ≤ (k : Int) := by omega
  have hk2 : (k : Int) ≥ (len : Int) := by omega
  have H := hide h
  rw [show nxV xs k 0 = -1 by unfold nxV; rw [if_neg (by omega)], show nxE xs k 0 = 100 by unfold nxE; rw [if_pos ⟨rfl, hk⟩]]
  clear h
  go_enter Tryd.func37, Tryd.ntmps37
  go_wp2_with fail
  go_quiet (fail)
  generalize hwq : W.drewN _ = wq
  have hb : Below W.heap.size W wq := by rw [← hwq]; exact below_drewN (Below.refl _ _) _
  have HR := hide ((unhide H).bel hb)
  have HF := hide (Fr.of hb [c])
  have h0 := (unhide HR).rdr.1
  clear hwq hb h1 h2 h3
  go_wp2_with fail
  refine (rFail_any (unhide HR).cur).mono ?_
  rintro _ w2 ⟨rfl, hC, hF⟩
  have HR := hide ((unhide HR).step hF hC)
  have HF := hide ((unhide HF).trans hF)
  clear hC hF h0
  go_wp2_with fail
  go_ret
  exact ⟨rfl, unhide HR, unhide HF⟩
set_option maxHeartbeats 2000000 in
set_option maxRecDepth 100000 in
theorem rnext_in {c rb : Nat} {a : Option Addr} {len cap : Nat} {xs : List Int} {sat : Bool} {k : Nat} {e : Int} {W : World} (h : Rq c rb a len cap xs sat k e W) (he : e = 0) (hk : k < xs.length) : Calls Tryd.prog 37 #[.pointer (some ⟨rb, 0, none⟩)] W fun r W' => r = .returned (.int .i64 (nxV xs k e)) ∧ Rq c rb a len cap xs sat k (nxE xs k e) W' ∧ Fr [c] W W' := by
  subst he
  have h0 := h.rdr.1
  have h2 := h.cur.1.2.2.1
  have h1 := h.cur.1.2.1
  have h3 := h.cur.1.1
  have hl := h.cur.2.1.1
  have hl6 := h.cur.2.2.2.2.2
  have hy := h.byt (xs.getD k 0) (by rw [List.getD_eq_getElem?_getD, List.getElem?_eq_getElem hk]; simp)
  rcases h.cur.2.1.2.2.2 with ⟨q1, q2, q3⟩ | ⟨b, off, rfl, hcell⟩
  · omega
  have h4 := hcell k (by omega)
  have H := hide h
  rw [show nxV xs k 0 = xs.getD k 0 by unfold nxV; rw [if_pos ⟨rfl, hk⟩], show nxE xs k 0 = 0 by unfold nxE; rw [if_neg (by omega)]]
  generalize xs.getD k 0 = y at *
  have iy : IntKind.i64.wrap y = y := i64_id (by omega) (by omega)
  have hk1 : ¬ (len : Int) ≤ (k : Int) := by omega
  have hk2 : (0 : Int) ≤ (k : Int) := by omega
  have hk3 : (k : Int) < (len : Int) := by omega
  clear h hcell hy
  go_enter Tryd.func37, Tryd.ntmps37
  go_wp2_with fail
  go_quiet (fail)
  go_wp2_with fail
  go_quiet (fail)
  go_wp2_with fail
  go_ret
  exact ⟨rfl, (unhide H).bel (below_drewN (below_drewN (Below.refl _ _) _) _), Fr.of (below_drewN (below_drewN (Below.refl _ _) _) _) [c]⟩
theorem rnext_any {c rb : Nat} {a : Option Addr} {len cap : Nat} {xs : List Int} {sat : Bool} {k : Nat} {e : Int} {W : World} (h : Rq c rb a len cap xs sat k e W) : Calls Tryd.prog 37 #[.pointer (some ⟨rb, 0, none⟩)] W fun r W' => r = .returned (.int .i64 (nxV xs k e)) ∧ Rq c rb a len cap xs sat k (nxE xs k e) W' ∧ Fr [c] W W' := by
  by_cases he : e = 0
  · by_cases hk : k < xs.length
    · exact rnext_in h he hk
    · exact rnext_end h he (by omega)
  · exact rnext_dead h he
end Go.Proofs.YtalahdkgigcpfaaDoor
namespace Go.Proofs.YtalahdkgigcpfaaDoor
open Go.RowKit

/-- The next opcode that is no end, and no else. -/
def rOpN (sat : Bool) : Rr Int := fun l => match l with
  | [] => (0, 0, 100)
  | b :: _ => if (b == 252 && sat) = true then rFc l else if (!imB b || b == 5 || b == 11) = true then (0, 0, 108) else (b, 1, 0)
theorem dropk {xs : List Int} {k : Nat} (hk : k < xs.length) : xs.drop k = xs.getD k 0 :: xs.drop (k + 1) := by
  rw [List.drop_eq_getElem_cons hk]; simp [List.getD, hk]
def OpP (c rb : Nat) (a : Option Addr) (len cap : Nat) (xs : List Int) (sat : Bool) (k : Nat) (e : Int) (W : World) : Prop := Calls Tryd.prog 57 #[.pointer (some ⟨rb, 0, none⟩)] W fun r W' => ∃ y k' e', r = .returned (.int .i64 (if e' = 0 then y else -1)) ∧ Rd (rOpN sat) xs k e y k' e' ∧ Rq c rb a len cap xs sat k' e' W' ∧ Fr [c] W W'
set_option maxHeartbeats 2000000 in
set_option maxRecDepth 100000 in
theorem rop_none {c rb : Nat} {a : Option Addr} {len cap : Nat} {xs : List Int} {sat : Bool} {k : Nat} {e : Int} {W : World} (h : Rq c rb a len cap xs sat k e W) (hv : nxV xs k e = -1) (hd : Rd (rOpN sat) xs k e 0 k (nxE xs k e)) (hz : nxE xs k e ≠ 0) : OpP c rb a len cap xs sat k e W := by
  have HD := hide hd
  have HZ := hide hz
  clear hd hz
  have HN := hide (rnext_any h)
  unfold OpP
  clear h
  go_enter Tryd.func57, Tryd.ntmps57
  go_wp2_with fail
  refine (unhide HN).mono ?_
  rintro _ w1 ⟨rfl, hR, hF⟩
  have HR := hide hR
  have HF := hide hF
  clear hR hF HN
  rw [hv]
  go_wp2_with fail
  go_ret
  exact ⟨0, _, _, by rw [if_neg (unhide HZ)]; rfl, unhide HD, unhide HR, unhide HF⟩
set_option maxHeartbeats 4000000 in
set_option maxRecDepth 100000 in
theorem rop_fc {c rb : Nat} {a : Option Addr} {len cap : Nat} {xs : List Int} {sat : Bool} {k : Nat} {W : World} {y : Int} (h : Rq c rb a len cap xs sat k 0 W) (hk : k < xs.length) (hy : xs.getD k 0 = y) (hs : sat = true) (h252 : y = 252) : OpP c rb a len cap xs sat k 0 W := by
  have hb0 := h.byt (xs.getD k 0) (by rw [List.getD_eq_getElem?_getD, List.getElem?_eq_getElem hk]; simp)
  rw [hy] at hb0
  have hv : nxV xs k 0 = y := by unfold nxV; rw [if_pos ⟨rfl, hk⟩, hy]
  have hn : nxE xs k 0 = 0 := by unfold nxE; rw [if_neg (by omega)]
  have hdr := dropk hk
  rw [hy] at hdr
  have hlb : lift rB 0 xs k 0 = (y, k + 1, 0) := by rw [lift_rB_in hk, hy]
  have HDr := hide hdr
  have HLb := hide hlb
  have hneg : ¬ y < 0 := by omega
  have HB0 := hide hb0
  have HNe := hide hn
  clear hdr hlb hb0 hk hy hn
  subst hs
  subst h252
  have HN := hide (rnext_any h)
  unfold OpP
  clear h
  go_enter Tryd.func57, Tryd.ntmps57
  go_wp2_with fail
  refine (unhide HN).mono ?_
  rintro _ w1 ⟨rfl, hR, hF⟩
  have HR := hide hR
  have HF := hide hF
  clear hR hF HN
  rw [hv]
  rw [unhide HNe] at HR
  clear hv
  have h0 := (unhide HR).rdr.1
  have h1 := (unhide HR).rdr.2
  clear h1
  have h1 := (unhide HR).rdr.2
  go_wp2_with fail
  clear h1
  refine (rByte_any (unhide HR).cur).mono ?_
  rintro _ w2 ⟨rfl, hC, hF⟩
  rw [unhide HLb] at hC ⊢
  dsimp only at hC ⊢
  have HR := hide ((unhide HR).step hF hC)
  have HF := hide ((unhide HF).trans hF)
  clear hC hF h0
  have h0 := (unhide HR).rdr.1
  go_wp2_with fail
  have HX := hide (rUint_any (b := 32) (unhide HR).cur (by decide) (by decide))
  have HD : Hid (Rd (rU 32) xs (k + 1) 0 (lift (rU 32) 0 xs (k + 1) 0).1 (lift (rU 32) 0 xs (k + 1) 0).2.1 (lift (rU 32) 0 xs (k + 1) 0).2.2) := hide Rd.lift
  have hlt := liftU_lt (unhide HR).byt (k + 1) 0
  generalize lift (rU 32) 0 xs (k + 1) 0 = L at *
  obtain ⟨n, k1, e1⟩ := L
  dsimp only at *
  refine (unhide HX).mono ?_
  rintro _ w3 ⟨rfl, hC, hF⟩
  have HR := hide ((unhide HR).step hF hC)
  have HF := hide ((unhide HF).trans hF)
  clear hC hF h0 HX
  have i1 : IntKind.i64.wrap n = n := i64_id (by omega) (by omega)
  have i2 : IntKind.i64.wrap (64512 + n) = 64512 + n := i64_id (by omega) (by omega)
  have HRd : Hid (∀ y' k' e', Rd (tst (decide (n ≤ 7)) (64512 + n) 0 108) xs k1 e1 y' k' e' → Rd (rOpN true) xs k 0 y' k' e') := hide (fun y' k' e' hr => by
    refine Rd.of_eq (f := rFc) ?_ (by rw [unhide HDr]; rfl)
    refine Rd.bd (x := 252) (k1 := k + 1) (e1 := 0) ?_ ((unhide HD).bd hr)
    exact ⟨fun h => absurd rfl h, fun _ => by rw [unhide HDr]; exact ⟨rfl, rfl⟩, fun _ _ => by rw [unhide HDr]; rfl⟩)
  have h0 := (unhide HR).rdr.1
  have h2 := (unhide HR).cur.1.2.2.1
  by_cases hn : n ≤ 7
  · have hn' : ¬ 7 < n := by omega
    by_cases he : e1 = 0
    · have he' : (e1 != 0) = false := by simp [he]
      go_wp2_with fail
      go_ret
      exact ⟨_, _, _, by rw [if_pos he]; rfl, unhide HRd _ _ _ (by rw [show decide (n ≤ 7) = true by simp [hn]]; exact Rd.tst_t _ _ _ _ _ _), unhide HR, unhide HF⟩
    · have he' : (e1 != 0) = true := by simp [he]
      go_wp2_with fail
      go_ret
      exact ⟨_, _, _, by rw [if_neg he]; rfl, unhide HRd 0 _ _ (Rd.err _ he), unhide HR, unhide HF⟩
  · have hn' : 7 < n := by omega
    clear h2
    go_wp2_with fail
    refine (rFail_any (unhide HR).cur).mono ?_
    rintro _ w4 ⟨rfl, hC, hF⟩
    have HR := hide ((unhide HR).step hF hC)
    have HF := hide ((unhide HF).trans hF)
    clear hC hF h0
    have hz : (if e1 = 0 then (108 : Int) else e1) ≠ 0 := by split <;> omega
    have HRd := hide (unhide HRd 0 _ _ (by rw [show decide (n ≤ 7) = false by simp [hn]]; exact Rd.tst_f _ _ _ (by decide) _ _ _))
    generalize (if e1 = 0 then (108 : Int) else e1) = e2 at *
    have he' : (e2 != 0) = true := by simp [hz]
    have h0 := (unhide HR).rdr.1
    have h2 := (unhide HR).cur.1.2.2.1
    go_wp2_with fail
    go_ret
    exact ⟨_, _, _, by rw [if_neg hz]; rfl, unhide HRd, unhide HR, unhide HF⟩
set_option maxHeartbeats 2000000 in
set_option maxRecDepth 100000 in
theorem rop_r1 {c rb : Nat} {a : Option Addr} {len cap : Nat} {xs : List Int} {sat : Bool} {k : Nat} {W : World} {y v : Int} (h : Rq c rb a len cap xs sat k 0 W) (hk : k < xs.length) (hy : xs.getD k 0 = y) (hq : (y == 252) = false ∨ (y == 252) = true ∧ sat = false) (him : Ct 58 #[.int .i64 y] (.int .i64 v)) (hd : Rd (rOpN sat) xs k 0 0 k 108) (hv0 : v < 0) : OpP c rb a len cap xs sat k 0 W := by
  have hb0 := h.byt (xs.getD k 0) (by rw [List.getD_eq_getElem?_getD, List.getElem?_eq_getElem hk]; simp)
  rw [hy] at hb0
  have hv : nxV xs k 0 = y := by unfold nxV; rw [if_pos ⟨rfl, hk⟩, hy]
  have hn : nxE xs k 0 = 0 := by unfold nxE; rw [if_neg (by omega)]
  have hdr := dropk hk
  rw [hy] at hdr
  have hlb : lift rB 0 xs k 0 = (y, k + 1, 0) := by rw [lift_rB_in hk, hy]
  have HDr := hide hdr
  have HLb := hide hlb
  have hneg : ¬ y < 0 := by omega
  have HB0 := hide hb0
  have HNe := hide hn
  clear hdr hlb hb0 hk hy hn
  have HIm := hide him
  have HQ := hide hq
  clear him hq
  have HRd := hide hd
  clear hd
  have HN := hide (rnext_any h)
  unfold OpP
  clear h
  go_enter Tryd.func57, Tryd.ntmps57
  go_wp2_with fail
  refine (unhide HN).mono ?_
  rintro _ w1 ⟨rfl, hR, hF⟩
  have HR := hide hR
  have HF := hide hF
  clear hR hF HN
  rw [hv]
  rw [unhide HNe] at HR
  clear hv
  have h0 := (unhide HR).rdr.1
  have h1 := (unhide HR).rdr.2
  rcases unhide HQ with q1 | ⟨q1, rfl⟩
  all_goals (go_wp2_with fail)
  all_goals (refine ((unhide (unhide HIm)) _).mono ?_)
  all_goals (rintro _ w2 ⟨rfl, hb⟩)
  all_goals (have HR := hide ((unhide HR).bel hb))
  all_goals (have HF := hide ((unhide HF).bel hb))
  all_goals (clear hb h0)
  all_goals (have h0 := (unhide HR).rdr.1)
  all_goals (go_wp2_with fail)
  all_goals (refine (rFail_any (unhide HR).cur).mono ?_)
  all_goals (rintro _ w3 ⟨rfl, hC, hF⟩)
  all_goals (have HR := hide ((unhide HR).step hF hC))
  all_goals (have HF := hide ((unhide HF).trans hF))
  all_goals (clear hC hF h0)
  all_goals (go_wp2_with fail)
  all_goals (go_ret)
  all_goals (exact ⟨0, _, _, by rw [if_neg (by decide)]; rfl, unhide HRd, unhide HR, unhide HF⟩)
set_option maxHeartbeats 2000000 in
set_option maxRecDepth 100000 in
theorem rop_r2 {c rb : Nat} {a : Option Addr} {len cap : Nat} {xs : List Int} {sat : Bool} {k : Nat} {W : World} {y v : Int} (h : Rq c rb a len cap xs sat k 0 W) (hk : k < xs.length) (hy : xs.getD k 0 = y) (hq : (y == 252) = false ∨ (y == 252) = true ∧ sat = false) (him : Ct 58 #[.int .i64 y] (.int .i64 v)) (hd : Rd (rOpN sat) xs k 0 0 k 108) (hv0 : ¬ v < 0) (h5 : (y == 5) = true) : OpP c rb a len cap xs sat k 0 W := by
  have hb0 := h.byt (xs.getD k 0) (by rw [List.getD_eq_getElem?_getD, List.getElem?_eq_getElem hk]; simp)
  rw [hy] at hb0
  have hv : nxV xs k 0 = y := by unfold nxV; rw [if_pos ⟨rfl, hk⟩, hy]
  have hn : nxE xs k 0 = 0 := by unfold nxE; rw [if_neg (by omega)]
  have hdr := dropk hk
  rw [hy] at hdr
  have hlb : lift rB 0 xs k 0 = (y, k + 1, 0) := by rw [lift_rB_in hk, hy]
  have HDr := hide hdr
  have HLb := hide hlb
  have hneg : ¬ y < 0 := by omega
  have HB0 := hide hb0
  have HNe := hide hn
  clear hdr hlb hb0 hk hy hn
  have HIm := hide him
  have HQ := hide hq
  clear him hq
  have HRd := hide hd
  clear hd
  have HN := hide (rnext_any h)
  unfold OpP
  clear h
  go_enter Tryd.func57, Tryd.ntmps57
  go_wp2_with fail
  refine (unhide HN).mono ?_
  rintro _ w1 ⟨rfl, hR, hF⟩
  have HR := hide hR
  have HF := hide hF
  clear hR hF HN
  rw [hv]
  rw [unhide HNe] at HR
  clear hv
  have h0 := (unhide HR).rdr.1
  have h1 := (unhide HR).rdr.2
  rcases unhide HQ with q1 | ⟨q1, rfl⟩
  all_goals (go_wp2_with fail)
  all_goals (refine ((unhide (unhide HIm)) _).mono ?_)
  all_goals (rintro _ w2 ⟨rfl, hb⟩)
  all_goals (have HR := hide ((unhide HR).bel hb))
  all_goals (have HF := hide ((unhide HF).bel hb))
  all_goals (clear hb h0)
  all_goals (have h0 := (unhide HR).rdr.1)
  all_goals (go_wp2_with fail)
  all_goals (refine (rFail_any (unhide HR).cur).mono ?_)
  all_goals (rintro _ w3 ⟨rfl, hC, hF⟩)
  all_goals (have HR := hide ((unhide HR).step hF hC))
  all_goals (have HF := hide ((unhide HF).trans hF))
  all_goals (clear hC hF h0)
  all_goals (go_wp2_with fail)
  all_goals (go_ret)
  all_goals (exact ⟨0, _, _, by rw [if_neg (by decide)]; rfl, unhide HRd, unhide HR, unhide HF⟩)
set_option maxHeartbeats 2000000 in
set_option maxRecDepth 100000 in
theorem rop_r3 {c rb : Nat} {a : Option Addr} {len cap : Nat} {xs : List Int} {sat : Bool} {k : Nat} {W : World} {y v : Int} (h : Rq c rb a len cap xs sat k 0 W) (hk : k < xs.length) (hy : xs.getD k 0 = y) (hq : (y == 252) = false ∨ (y == 252) = true ∧ sat = false) (him : Ct 58 #[.int .i64 y] (.int .i64 v)) (hd : Rd (rOpN sat) xs k 0 0 k 108) (hv0 : ¬ v < 0) (h5 : (y == 5) = false) (h11 : (y == 11) = true) : OpP c rb a len cap xs sat k 0 W := by
  have hb0 := h.byt (xs.getD k 0) (by rw [List.getD_eq_getElem?_getD, List.getElem?_eq_getElem hk]; simp)
  rw [hy] at hb0
  have hv : nxV xs k 0 = y := by unfold nxV; rw [if_pos ⟨rfl, hk⟩, hy]
  have hn : nxE xs k 0 = 0 := by unfold nxE; rw [if_neg (by omega)]
  have hdr := dropk hk
  rw [hy] at hdr
  have hlb : lift rB 0 xs k 0 = (y, k + 1, 0) := by rw [lift_rB_in hk, hy]
  have HDr := hide hdr
  have HLb := hide hlb
  have hneg : ¬ y < 0 := by omega
  have HB0 := hide hb0
  have HNe := hide hn
  clear hdr hlb hb0 hk hy hn
  have HIm := hide him
  have HQ := hide hq
  clear him hq
  have HRd := hide hd
  clear hd
  have HN := hide (rnext_any h)
  unfold OpP
  clear h
  go_enter Tryd.func57, Tryd.ntmps57
  go_wp2_with fail
  refine (unhide HN).mono ?_
  rintro _ w1 ⟨rfl, hR, hF⟩
  have HR := hide hR
  have HF := hide hF
  clear hR hF HN
  rw [hv]
  rw [unhide HNe] at HR
  clear hv
  have h0 := (unhide HR).rdr.1
  have h1 := (unhide HR).rdr.2
  rcases unhide HQ with q1 | ⟨q1, rfl⟩
  all_goals (go_wp2_with fail)
  all_goals (refine ((unhide (unhide HIm)) _).mono ?_)
  all_goals (rintro _ w2 ⟨rfl, hb⟩)
  all_goals (have HR := hide ((unhide HR).bel hb))
  all_goals (have HF := hide ((unhide HF).bel hb))
  all_goals (clear hb h0)
  all_goals (have h0 := (unhide HR).rdr.1)
  all_goals (go_wp2_with fail)
  all_goals (refine (rFail_any (unhide HR).cur).mono ?_)
  all_goals (rintro _ w3 ⟨rfl, hC, hF⟩)
  all_goals (have HR := hide ((unhide HR).step hF hC))
  all_goals (have HF := hide ((unhide HF).trans hF))
  all_goals (clear hC hF h0)
  all_goals (go_wp2_with fail)
  all_goals (go_ret)
  all_goals (exact ⟨0, _, _, by rw [if_neg (by decide)]; rfl, unhide HRd, unhide HR, unhide HF⟩)
set_option maxHeartbeats 2000000 in
set_option maxRecDepth 100000 in
theorem rop_y {c rb : Nat} {a : Option Addr} {len cap : Nat} {xs : List Int} {sat : Bool} {k : Nat} {W : World} {y v : Int} (h : Rq c rb a len cap xs sat k 0 W) (hk : k < xs.length) (hy : xs.getD k 0 = y) (hq : (y == 252) = false ∨ (y == 252) = true ∧ sat = false) (him : Ct 58 #[.int .i64 y] (.int .i64 v)) (hd : Rd (rOpN sat) xs k 0 y (k + 1) 0) (hv0 : ¬ v < 0) (h5 : (y == 5) = false) (h11 : (y == 11) = false) : OpP c rb a len cap xs sat k 0 W := by
  have hb0 := h.byt (xs.getD k 0) (by rw [List.getD_eq_getElem?_getD, List.getElem?_eq_getElem hk]; simp)
  rw [hy] at hb0
  have hv : nxV xs k 0 = y := by unfold nxV; rw [if_pos ⟨rfl, hk⟩, hy]
  have hn : nxE xs k 0 = 0 := by unfold nxE; rw [if_neg (by omega)]
  have hdr := dropk hk
  rw [hy] at hdr
  have hlb : lift rB 0 xs k 0 = (y, k + 1, 0) := by rw [lift_rB_in hk, hy]
  have HDr := hide hdr
  have HLb := hide hlb
  have hneg : ¬ y < 0 := by omega
  have HB0 := hide hb0
  have HNe := hide hn
  clear hdr hlb hb0 hk hy hn
  have HIm := hide him
  have HQ := hide hq
  clear him hq
  have HRd := hide hd
  clear hd
  have HN := hide (rnext_any h)
  unfold OpP
  clear h
  go_enter Tryd.func57, Tryd.ntmps57
  go_wp2_with fail
  refine (unhide HN).mono ?_
  rintro _ w1 ⟨rfl, hR, hF⟩
  have HR := hide hR
  have HF := hide hF
  clear hR hF HN
  rw [hv]
  rw [unhide HNe] at HR
  clear hv
  have h0 := (unhide HR).rdr.1
  have h1 := (unhide HR).rdr.2
  rcases unhide HQ with q1 | ⟨q1, rfl⟩
  all_goals (go_wp2_with fail)
  all_goals (refine ((unhide (unhide HIm)) _).mono ?_)
  all_goals (rintro _ w2 ⟨rfl, hb⟩)
  all_goals (have HR := hide ((unhide HR).bel hb))
  all_goals (have HF := hide ((unhide HF).bel hb))
  all_goals (clear hb h0)
  all_goals (have h0 := (unhide HR).rdr.1)
  all_goals (go_wp2_with fail)
  all_goals (refine (rByte_any (unhide HR).cur).mono ?_)
  all_goals (rintro _ w3 ⟨rfl, hC, hF⟩)
  all_goals (rw [unhide HLb] at hC ⊢)
  all_goals (dsimp only at hC ⊢)
  all_goals (have HR := hide ((unhide HR).step hF hC))
  all_goals (have HF := hide ((unhide HF).trans hF))
  all_goals (clear hC hF h0)
  all_goals (go_wp2_with fail)
  all_goals (go_ret)
  all_goals (exact ⟨_, _, _, by rw [if_pos rfl]; rfl, unhide HRd, unhide HR, unhide HF⟩)
theorem imI_pos (y : Int) : 0 ≤ imI y := by
  have hp : ∀ k, 0 ≤ immL.getD k 0 := by
    intro k
    by_cases h : k < 26
    · exact (show ∀ k, k < 26 → 0 ≤ immL.getD k 0 by decide) k h
    · rw [List.getD_eq_getElem?_getD, List.getElem?_eq_none (by show 26 ≤ k; omega)]; exact Int.le_refl _
  unfold imI
  split
  · exact hp _
  · split <;> decide
theorem rop_any {c rb : Nat} {a : Option Addr} {len cap : Nat} {xs : List Int} {sat : Bool} {k : Nat} {e : Int} {W : World} (h : Rq c rb a len cap xs sat k e W) : OpP c rb a len cap xs sat k e W := by
  by_cases he : e = 0
  · subst he
    by_cases hk : k < xs.length
    · obtain ⟨y, hy⟩ : ∃ y, xs.getD k 0 = y := ⟨_, rfl⟩
      have hdr := dropk hk
      rw [hy] at hdr
      have hr : rOpN sat (xs.drop k) = if (y == 252 && sat) = true then rFc (xs.drop k) else if (!imB y || y == 5 || y == 11) = true then (0, 0, 108) else (y, 1, 0) := by rw [hdr]; rfl
      by_cases q : (y == 252 && sat) = true
      · simp only [Bool.and_eq_true, beq_iff_eq] at q
        exact rop_fc h hk hy q.2 q.1
      · rw [if_neg q] at hr
        have hq : (y == 252) = false ∨ (y == 252) = true ∧ sat = false := by
          cases h1 : (y == 252)
          · exact .inl rfl
          · rw [h1] at q; exact .inr ⟨rfl, by simpa using q⟩
        have him := rimm_any y
        have bad : (!imB y || y == 5 || y == 11) = true → Rd (rOpN sat) xs k 0 0 k 108 := fun hb => by
          rw [if_pos hb] at hr
          exact ⟨fun h => absurd rfl h, fun _ => by rw [hr]; exact ⟨rfl, rfl⟩, fun _ h => absurd h (by decide)⟩
        cases hb : imB y with
        | false =>
          rw [hb, if_neg (by decide)] at him
          exact rop_r1 h hk hy hq him (bad (by rw [hb]; rfl)) (by decide)
        | true =>
          rw [hb, if_pos rfl] at him
          have hp := imI_pos y
          cases h5 : (y == 5) with
          | true => exact rop_r2 h hk hy hq him (bad (by rw [h5]; simp)) (by omega) h5
          | false =>
            cases h11 : (y == 11) with
            | true => exact rop_r3 h hk hy hq him (bad (by rw [h11]; simp)) (by omega) h5 h11
            | false =>
              rw [if_neg (by rw [hb, h5, h11]; decide)] at hr
              exact rop_y h hk hy hq him ⟨fun h => absurd rfl h, fun _ => by rw [hr]; exact ⟨rfl, rfl⟩, fun _ _ => by rw [hr]⟩ (by omega) h5 h11
    · have hk' : xs.length ≤ k := by omega
      have hd : xs.drop k = [] := List.drop_eq_nil_of_le hk'
      have hn : nxE xs k 0 = 100 := by unfold nxE; rw [if_pos ⟨rfl, hk'⟩]
      refine rop_none h (by unfold nxV; rw [if_neg (by omega)]) ?_ (by rw [hn]; decide)
      rw [hn]
      exact ⟨fun h => absurd rfl h, fun _ => by rw [hd]; exact ⟨rfl, rfl⟩, fun _ h => absurd h (by decide)⟩
  · have hn : nxE xs k e = e := by unfold nxE; rw [if_neg (fun q => he q.1)]
    refine rop_none h (by unfold nxV; rw [if_neg (fun q => he q.1)]) ?_ (by rw [hn]; exact he)
    rw [hn]
    exact Rd.err _ he
end Go.Proofs.YtalahdkgigcpfaaDoor
