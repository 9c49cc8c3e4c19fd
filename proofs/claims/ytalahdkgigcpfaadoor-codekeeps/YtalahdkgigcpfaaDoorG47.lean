/- CdW, CdY, CeH, CeI, CeC, CeJ, CeK. -/
import Derived.Test.YtalahdkgigcpfaaDoorG41
import Derived.Test.YtalahdkgigcpfaaDoorG42
import Derived.Test.YtalahdkgigcpfaaDoorG44
import Derived.Test.YtalahdkgigcpfaaDoorG45
import Derived.Test.YtalahdkgigcpfaaDoorG46
namespace Go.Proofs.YtalahdkgigcpfaaDoor
open Go.RowKit

set_option maxHeartbeats 8000000 in
set_option maxRecDepth 100000 in
theorem rins_1 {n : Nat} {may : Bool} {b y v : Int} {k1 : Nat} {c rb : Nat} {a : Option Addr} {len cap : Nat} {xs : List Int} {sat : Bool} {deep k : Nat} {W : World} (HI : Hid (QSeq c rb a len cap xs sat n)) (h : Rq c rb a len cap xs sat k 0 W) (hv : nxV xs k 0 = b) (hk : k < xs.length) (hd : Rd (rOpN sat) xs k 0 y k1 0) (ho : Rd (rOp sat may deep) xs k 0 y k1 0) (hy : 0 ≤ y) (hy5 : ¬ (y = 5 ∨ y = 11)) (him : Ct 58 #[.int .i64 y] (.int .i64 v)) (hi : imI y = 1) (hvv : v = 1) (h2 : decide (2 ≤ b) = true) (h4 : decide (b ≤ 4) = true) (h64 : decide (64 ≤ (deep : Int)) = false) (hdp : deep < 64) (hkn : len - k1 < n) : RInstrP c rb a len cap xs sat may deep k 0 W := by
  have HR := hide h
  have HO : Hid (Old W.heap.size c rb a len) := hide (h.old (Nat.le_refl W.heap.size))
  have HVl := hide hv
  have HNe : Hid (nxE xs k 0 = 0) := hide (by unfold nxE; rw [if_neg (by omega)])
  have HD := hide hd
  have HOp := hide ho
  have HY5 := hide hy5
  have HIm := hide him
  have hneg : ¬ y < 0 := by omega
  subst hvv
  have HV0 := hide hi
  have HK := hide hk
  have HDp := hide hdp
  have i1 : IntKind.i64.wrap ((deep : Int) + 1) = (deep : Int) + 1 := i64_id (by omega) (by omega)
  have hup := (hd.live rfl).1
  have HUp := hide (show k ≤ k1 by omega)
  have HKn := hide hkn
  clear hi hkn hup hdp
  clear h hv hk hd ho hy hy5 him
  unfold RInstrP
  go_enter Tryd.func39, Tryd.ntmps39
  go_wp2_with fail
  have hb := below1 W (.cells #[.int .i64 0, .int .u8 0, .int .u32 0, .int .u32 0, .int .u64 0, .slice none 0 0, .slice none 0 0, .slice none 0 0, .bool false] 73)
  have HR := hide ((unhide HR).bel hb)
  have HF := hide (Fr.of hb [c])
  have HV := hide (nr_0 W)
  generalize W.alloc (.cells #[.int .i64 0, .int .u8 0, .int .u32 0, .int .u32 0, .int .u64 0, .slice none 0 0, .slice none 0 0, .slice none 0 0, .bool false] 73) = wr at *
  refine (rnext_any (unhide HR)).mono ?_
  rintro _ w0 ⟨rfl, hR, hF⟩
  rw [unhide HVl]
  rw [unhide HNe] at hR
  have HR := hide hR
  have HV := hide ((unhide HV).fr hF (by have := (unhide HO).c; simp; omega))
  have HF := hide ((unhide HF).trans hF)
  clear hR hF hb
  clear HNe
  go_wp2_with fail
  have hop := rop_any (unhide HR)
  unfold OpP at hop
  refine hop.mono ?_
  clear hop
  rintro _ w1 ⟨y', k1', e1', rfl, hd', hR, hF⟩
  obtain ⟨q1, q2, q3⟩ := Rd.det (unhide HD) hd'
  subst q1
  subst q2
  obtain rfl := q3 rfl
  have HR := hide hR
  have HV := hide ((unhide HV).fr hF (by have := (unhide HO).c; simp; omega))
  have HF := hide ((unhide HF).trans hF)
  have HV1 := HV
  clear hR hF hd'
  rw [if_pos rfl]
  go_wp2_with fail
  have hb := below1 w1 (.cells #[.int .i64 y, .int .u8 0, .int .u32 0, .int .u32 0, .int .u64 0, .slice none 0 0, .slice none 0 0, .slice none 0 0, .bool false] 73)
  have hs := (unhide HF).size
  have HR := hide ((unhide HR).bel hb)
  have HF := hide ((unhide HF).bel hb)
  have HV := hide ((unhide HV).fr (Fr.of hb []) (by simp))
  have HN := hide (nr_1 w1 hs y)
  have HNi := hide (show W.heap.size < w1.heap.size from by have := (unhide HV1).lt; omega)
  generalize w1.alloc (.cells #[.int .i64 y, .int .u8 0, .int .u32 0, .int .u32 0, .int .u64 0, .slice none 0 0, .slice none 0 0, .slice none 0 0, .bool false] 73) = w2 at *
  generalize w1.heap.size = ib at *
  clear hb hs
  refine ((unhide (unhide HIm)) _).mono ?_
  rintro _ w3 ⟨rfl, hb⟩
  have HR := hide ((unhide HR).bel hb)
  have HF := hide ((unhide HF).bel hb)
  have HV := hide ((unhide HV).fr (Fr.of hb []) (by simp))
  have HN := hide ((unhide HN).fr (Fr.of hb []) (by simp))
  clear hb HIm
  have h0 := (unhide HR).rdr.1
  go_wp2_with fail
  clear h0
  obtain ⟨ty, kk1, ee1, hd1, hl1⟩ := rres_any (unhide HR).cur
  have HD1 := hide hd1
  refine hl1.mono ?_
  clear hl1 hd1
  rintro _ v1 ⟨rfl, hC, hF⟩
  have HR := hide ((unhide HR).step hF hC)
  have HF := hide ((unhide HF).trans hF)
  have HN := hide ((unhide HN).fr hF (by have := (unhide HO).c; have := (unhide HN).new; simp; omega))
  have HV := hide ((unhide HV).fr hF (by have := (unhide HO).c; simp; omega))
  clear hC hF
  obtain ⟨⟨u, g⟩, fr⟩ := (unhide HN).room 1 (by decide)
  go_wp2_with fail
  clear fr g u
  have fA : Fr [ib] v1 (v1.setCell ⟨ib, 1, none⟩ (.int .u8 ty)) := (Fr.refl _ _).place _ _
  have HR := hide ((unhide HR).fr fA (unhide HO) (by have := (unhide HN).new; simp; omega))
  have HF := hide ((unhide HF).set 1 (Or.inr (unhide HN).new) (.int .u8 ty))
  have HN : Hid (Nv W.heap.size ib (hcells ⟨y, ty, 0, 0, 0, [], false⟩ (.slice none 0 0) (.slice none 0 0) (.slice none 0 0)) _) := hide ((unhide HN).set 1 (.int .u8 ty))
  have HV := hide ((unhide HV).fr fA (by have := unhide HNi; simp; omega))
  clear fA
  generalize v1.setCell ⟨ib, 1, none⟩ (.int .u8 ty) = v2 at *
  have HS : Hid (ib < v2.heap.size) := hide (unhide HN).lt
  have hu := (unhide HD1).up
  have hz := fun q => (unhide HD1).zero q
  have hq := unhide HI (deep + 1) kk1 ee1 (y == 4) v2 (by have := unhide HDp; omega) (fun h => by have := unhide HKn; have := unhide HUp; omega) (unhide HR)
  rw [show ((deep + 1 : Nat) : Int) = (deep : Int) + 1 from by omega] at hq
  refine hq.mono ?_
  clear hq hu hz
  rintro _ v3 ⟨p1, q1, s1, t', T, tt, k2, e2, rfl, hD, hV, hR, hF⟩
  have HD2 := hide hD
  have HT := hide (fun q => (hV q).1)
  have HTt := hide (fun q => (hV q).2)
  have HR := hide hR
  have HF := hide ((unhide HF).trans hF)
  have HN := hide ((unhide HN).fr hF (by have := (unhide HO).c; have := (unhide HN).new; simp; omega))
  have HV := hide ((unhide HV).fr hF (by have := (unhide HO).c; simp; omega))
  clear hD hV hR hF
  obtain ⟨⟨u, g⟩, fr⟩ := (unhide HN).room 6 (by decide)
  obtain ⟨⟨u2, g2⟩, fr2⟩ := (unhide HN).room 8 (by decide)
  cases t' with
  | true =>
    have HTr : Hid (e2 = 0 → tt = true) := hide (fun q => (unhide HTt q).symm)
    go_wp2_with fail
    clear fr g u fr2 g2 u2
    have fA : Fr [ib] v3 (v3.setCell ⟨ib, 6, none⟩ (.slice p1 q1 s1)) := (Fr.refl _ _).place _ _
    have HR := hide ((unhide HR).fr fA (unhide HO) (by have := (unhide HN).new; simp; omega))
    have HF := hide ((unhide HF).set 6 (Or.inr (unhide HN).new) (.slice p1 q1 s1))
    have HN : Hid (Nv W.heap.size ib (hcells ⟨y, ty, 0, 0, 0, [], false⟩ (.slice none 0 0) (.slice p1 q1 s1) (.slice none 0 0)) _) := hide ((unhide HN).set 6 (.slice p1 q1 s1))
    have HV := hide ((unhide HV).fr fA (by have := unhide HNi; simp; omega))
    have HT := hide (fun q => (unhide HT q).fr fA (by have := unhide HS; simp; omega))
    clear fA
    generalize v3.setCell ⟨ib, 6, none⟩ (.slice p1 q1 s1) = v4 at *
    have fA : Fr [ib] v4 (v4.setCell ⟨ib, 8, none⟩ (.bool true)) := (Fr.refl _ _).place _ _
    have HR := hide ((unhide HR).fr fA (unhide HO) (by have := (unhide HN).new; simp; omega))
    have HF := hide ((unhide HF).set 8 (Or.inr (unhide HN).new) (.bool true))
    have HN : Hid (Nv W.heap.size ib (hcells ⟨y, ty, 0, 0, 0, [], true⟩ (.slice none 0 0) (.slice p1 q1 s1) (.slice none 0 0)) _) := hide ((unhide HN).set 8 (.bool true))
    have HV := hide ((unhide HV).fr fA (by have := unhide HNi; simp; omega))
    have HT := hide (fun q => (unhide HT q).fr fA (by have := unhide HS; simp; omega))
    clear fA
    generalize v4.setCell ⟨ib, 8, none⟩ (.bool true) = v5 at *
    have HS2 : Hid (ib < v5.heap.size) := hide (unhide HN).lt
    have hu := (unhide HD1).up
    have hu2 := (unhide HD2).up
    have hq := unhide HI (deep + 1) k2 e2 false v5 (by have := unhide HDp; omega) (fun h => by have := unhide HKn; have := unhide HUp; omega) (unhide HR)
    rw [show ((deep + 1 : Nat) : Int) = (deep : Int) + 1 from by omega] at hq
    refine hq.mono ?_
    clear hq hu hu2
    rintro _ v6 ⟨p2, q2, s2, t2', T2, tt2, k3, e3, rfl, hD, hV, hR, hF⟩
    have HD3 := hide hD
    have HT2 := hide (fun q => (hV q).1)
    have HR := hide hR
    have HF := hide ((unhide HF).trans hF)
    have HT := hide (fun q => (unhide HT q).fr hF (by have := (unhide HO).c; have := (unhide HN).new; have := unhide HS; simp; omega))
    have HN := hide ((unhide HN).fr hF (by have := (unhide HO).c; have := (unhide HN).new; simp; omega))
    have HV := hide ((unhide HV).fr hF (by have := (unhide HO).c; simp; omega))
    clear hD hV hR hF
    have t0 := (unhide HN).tab 0 _ rfl
    have z0 := (unhide HV).tab 0 _ rfl
    have fz0 := ((unhide HV).room 0 (by decide)).2
    have t1 := (unhide HN).tab 1 _ rfl
    have z1 := (unhide HV).tab 1 _ rfl
    have fz1 := ((unhide HV).room 1 (by decide)).2
    have t2 := (unhide HN).tab 2 _ rfl
    have z2 := (unhide HV).tab 2 _ rfl
    have fz2 := ((unhide HV).room 2 (by decide)).2
    have t3 := (unhide HN).tab 3 _ rfl
    have z3 := (unhide HV).tab 3 _ rfl
    have fz3 := ((unhide HV).room 3 (by decide)).2
    have t4 := (unhide HN).tab 4 _ rfl
    have z4 := (unhide HV).tab 4 _ rfl
    have fz4 := ((unhide HV).room 4 (by decide)).2
    have t5 := (unhide HN).tab 5 _ rfl
    have z5 := (unhide HV).tab 5 _ rfl
    have fz5 := ((unhide HV).room 5 (by decide)).2
    have t6 := (unhide HN).tab 6 _ rfl
    have z6 := (unhide HV).tab 6 _ rfl
    have fz6 := ((unhide HV).room 6 (by decide)).2
    have t7 := (unhide HN).tab 7 _ rfl
    have z7 := (unhide HV).tab 7 _ rfl
    have fz7 := ((unhide HV).room 7 (by decide)).2
    have t8 := (unhide HN).tab 8 _ rfl
    have z8 := (unhide HV).tab 8 _ rfl
    have fz8 := ((unhide HV).room 8 (by decide)).2
    have pf := ((unhide HN).room 7 (by decide)).2
    have ne1 : ¬ ib = W.heap.size := by have := unhide HNi; omega
    have ne2 : ¬ W.heap.size = ib := by have := unhide HNi; omega
    (try dsimp only [hd0] at t0 t1 t2 t3 t4 t8)
    (try dsimp only [hd0] at z0 z1 z2 z3 z4 z8)
    go_wp2_with fail
    have fA : Fr [ib] v6 (v6.setCell ⟨ib, 7, none⟩ (.slice p2 q2 s2)) := (Fr.refl _ _).place _ _
    have HR := hide ((unhide HR).fr fA (unhide HO) (by have := (unhide HN).new; simp; omega))
    have HF := hide ((unhide HF).set 7 (Or.inr (unhide HN).new) (.slice p2 q2 s2))
    have HN : Hid (Nv W.heap.size ib (hcells ⟨y, ty, 0, 0, 0, [], true⟩ (.slice none 0 0) (.slice p1 q1 s1) (.slice p2 q2 s2)) _) := hide ((unhide HN).set 7 (.slice p2 q2 s2))
    have HV := hide ((unhide HV).fr fA (by have := unhide HNi; simp; omega))
    have HT := hide (fun q => (unhide HT q).fr fA (by have := unhide HS; simp; omega))
    have HT2 := hide (fun q => (unhide HT2 q).fr fA (by have := unhide HS2; simp; omega))
    clear fA
    refine bodyPost_ret (v := .agg #[.int .i64 y, .int .u8 ty, .int .u32 0, .int .u32 0, .int .u64 0, .slice none 0 0, .slice p1 q1 s1, .slice p2 q2 s2, .bool true]) (by simp [results, Tryd.results39, go_sem, z0, z1, z2, z3, z4, z5, z6, z7, z8]) rfl ?_
    have fZ := fun w => fr_set9 w W.heap.size (.int .i64 y) (.int .u8 ty) (.int .u32 0) (.int .u32 0) (.int .u64 0) (.slice none 0 0) (.slice p1 q1 s1) (.slice p2 q2 s2) (.bool true)
    refine ⟨⟨y, ty, 0, 0, 0, [], true⟩, none, 0, 0, p1, q1, s1, p2, q2, s2, y, k1, 0, (⟨y, ty, 0, 0, 0, [], true⟩, T, T2), _, _, rfl, unhide HOp, fun _ => unhide HY5, ?_, fun q => ⟨rfl, slc_nil _ _, ?_, ?_⟩, (unhide HR).fr (fZ _) (unhide HO) (by simp), (unhide HF).thenL (fZ _) (by simp)⟩
    · rw [show rRest (sq sat) deep y = rBlk (sq sat) deep y by unfold rRest; rw [if_pos (unhide HV0)]]
      refine (unhide HD1).bd ((unhide HD2).bd ?_)
      by_cases he : e2 = 0
      · rw [if_pos (unhide HTr he)]
        exact (unhide HD3).bd (Rd.giv _ _ _ _)
      · obtain ⟨rfl, rfl⟩ := (unhide HD3).dead he
        exact Rd.err _ he
    · exact ((unhide HT ((unhide HD3).zero q)).fr (fZ _) (by have := unhide HS; have := (unhide HNi); simp; omega)).mono (fun b _ hb => by have := unhide HS; have := (unhide HNi); omega)
    · exact ((unhide HT2 q).fr (fZ _) (by have := unhide HS2; have := (unhide HNi); simp; omega)).mono (fun b _ hb => by have := unhide HS2; have := (unhide HNi); omega)
  | false =>
    have HTr : Hid (e2 = 0 → tt = false) := hide (fun q => (unhide HTt q).symm)
    have t0 := (unhide HN).tab 0 _ rfl
    have z0 := (unhide HV).tab 0 _ rfl
    have fz0 := ((unhide HV).room 0 (by decide)).2
    have t1 := (unhide HN).tab 1 _ rfl
    have z1 := (unhide HV).tab 1 _ rfl
    have fz1 := ((unhide HV).room 1 (by decide)).2
    have t2 := (unhide HN).tab 2 _ rfl
    have z2 := (unhide HV).tab 2 _ rfl
    have fz2 := ((unhide HV).room 2 (by decide)).2
    have t3 := (unhide HN).tab 3 _ rfl
    have z3 := (unhide HV).tab 3 _ rfl
    have fz3 := ((unhide HV).room 3 (by decide)).2
    have t4 := (unhide HN).tab 4 _ rfl
    have z4 := (unhide HV).tab 4 _ rfl
    have fz4 := ((unhide HV).room 4 (by decide)).2
    have t5 := (unhide HN).tab 5 _ rfl
    have z5 := (unhide HV).tab 5 _ rfl
    have fz5 := ((unhide HV).room 5 (by decide)).2
    have t6 := (unhide HN).tab 6 _ rfl
    have z6 := (unhide HV).tab 6 _ rfl
    have fz6 := ((unhide HV).room 6 (by decide)).2
    have t7 := (unhide HN).tab 7 _ rfl
    have z7 := (unhide HV).tab 7 _ rfl
    have fz7 := ((unhide HV).room 7 (by decide)).2
    have t8 := (unhide HN).tab 8 _ rfl
    have z8 := (unhide HV).tab 8 _ rfl
    have fz8 := ((unhide HV).room 8 (by decide)).2
    have pf := ((unhide HN).room 8 (by decide)).2
    have ne1 : ¬ ib = W.heap.size := by have := unhide HNi; omega
    have ne2 : ¬ W.heap.size = ib := by have := unhide HNi; omega
    (try dsimp only [hd0] at t0 t1 t2 t3 t4 t8)
    (try dsimp only [hd0] at z0 z1 z2 z3 z4 z8)
    go_wp2_with fail
    have fA : Fr [ib] v3 (v3.setCell ⟨ib, 6, none⟩ (.slice p1 q1 s1)) := (Fr.refl _ _).place _ _
    have HR := hide ((unhide HR).fr fA (unhide HO) (by have := (unhide HN).new; simp; omega))
    have HF := hide ((unhide HF).set 6 (Or.inr (unhide HN).new) (.slice p1 q1 s1))
    have HN : Hid (Nv W.heap.size ib (hcells ⟨y, ty, 0, 0, 0, [], false⟩ (.slice none 0 0) (.slice p1 q1 s1) (.slice none 0 0)) _) := hide ((unhide HN).set 6 (.slice p1 q1 s1))
    have HV := hide ((unhide HV).fr fA (by have := unhide HNi; simp; omega))
    have HT := hide (fun q => (unhide HT q).fr fA (by have := unhide HS; simp; omega))
    clear fA
    have fA : Fr [ib] (v3.setCell ⟨ib, 6, none⟩ (.slice p1 q1 s1)) ((v3.setCell ⟨ib, 6, none⟩ (.slice p1 q1 s1)).setCell ⟨ib, 8, none⟩ (.bool false)) := (Fr.refl _ _).place _ _
    have HR := hide ((unhide HR).fr fA (unhide HO) (by have := (unhide HN).new; simp; omega))
    have HF := hide ((unhide HF).set 8 (Or.inr (unhide HN).new) (.bool false))
    have HN : Hid (Nv W.heap.size ib (hcells ⟨y, ty, 0, 0, 0, [], false⟩ (.slice none 0 0) (.slice p1 q1 s1) (.slice none 0 0)) _) := hide ((unhide HN).set 8 (.bool false))
    have HV := hide ((unhide HV).fr fA (by have := unhide HNi; simp; omega))
    have HT := hide (fun q => (unhide HT q).fr fA (by have := unhide HS; simp; omega))
    clear fA
    refine bodyPost_ret (v := .agg #[.int .i64 y, .int .u8 ty, .int .u32 0, .int .u32 0, .int .u64 0, .slice none 0 0, .slice p1 q1 s1, .slice none 0 0, .bool false]) (by simp [results, Tryd.results39, go_sem, z0, z1, z2, z3, z4, z5, z6, z7, z8]) rfl ?_
    have fZ := fun w => fr_set9 w W.heap.size (.int .i64 y) (.int .u8 ty) (.int .u32 0) (.int .u32 0) (.int .u64 0) (.slice none 0 0) (.slice p1 q1 s1) (.slice none 0 0) (.bool false)
    refine ⟨⟨y, ty, 0, 0, 0, [], false⟩, none, 0, 0, p1, q1, s1, none, 0, 0, y, k1, 0, (⟨y, ty, 0, 0, 0, [], false⟩, T, .nil), _, _, rfl, unhide HOp, fun _ => unhide HY5, ?_, fun q => ⟨rfl, slc_nil _ _, ?_, fov_nil _ _⟩, (unhide HR).fr (fZ _) (unhide HO) (by simp), (unhide HF).thenL (fZ _) (by simp)⟩
    · rw [show rRest (sq sat) deep y = rBlk (sq sat) deep y by unfold rRest; rw [if_pos (unhide HV0)]]
      refine (unhide HD1).bd ((unhide HD2).bd ?_)
      by_cases he : e2 = 0
      · rw [if_neg (by rw [unhide HTr he]; simp)]
        obtain rfl := he
        exact Rd.giv _ _ _ _
      · exact Rd.err _ he
    · exact ((unhide HT q).fr (fZ _) (by have := unhide HS; have := (unhide HNi); simp; omega)).mono (fun b _ hb => by have := unhide HS; have := (unhide HNi); omega)
end Go.Proofs.YtalahdkgigcpfaaDoor
namespace Go.Proofs.YtalahdkgigcpfaaDoor
open Go.RowKit

theorem dT {p : Prop} [Decidable p] (h : p) : decide p = true := decide_eq_true h
theorem dF {p : Prop} [Decidable p] (h : ¬ p) : decide p = false := decide_eq_false h
theorem rinstr_any {n : Nat} {may : Bool} {c rb : Nat} {a : Option Addr} {len cap : Nat} {xs : List Int} {sat : Bool} {deep k : Nat} {e : Int} {W : World} (HI : Hid (QSeq c rb a len cap xs sat n)) (h : Rq c rb a len cap xs sat k e W) (hd : deep ≤ 64) (hn : e = 0 → len - k ≤ n) (h11 : nxV xs k e ≠ 11) (h5 : ¬ (nxV xs k e = 5 ∧ may = true)) : RInstrP c rb a len cap xs sat may deep k e W := by
  obtain ⟨b, hv⟩ : ∃ b, nxV xs k e = b := ⟨_, rfl⟩
  by_cases hl : 2 ≤ b ∧ b ≤ 4 ∧ deep = 64
  · obtain ⟨l1, l2, rfl⟩ := hl
    have hek : e = 0 ∧ k < xs.length := by
      apply Decidable.byContradiction
      intro hh
      unfold nxV at hv
      rw [if_neg hh] at hv
      omega
    obtain ⟨rfl, hk⟩ := hek
    have hb : xs.getD k 0 = b := by unfold nxV at hv; rw [if_pos ⟨rfl, hk⟩] at hv; exact hv
    exact rins_lim h hv hk (by rw [hb]; exact ⟨l1, l2⟩) rfl (dT l1) (dT l2) (dT (by decide))
  · have hl' : ¬ (2 ≤ nxV xs k e ∧ nxV xs k e ≤ 4 ∧ deep = 64) := by rw [hv]; exact hl
    rcases hlf : lift (rOpN sat) 0 xs k (nxE xs k e) with ⟨y, k1, e1⟩
    have hd1 := rd_of hlf
    clear hlf
    have ho : Rd (rOp sat may deep) xs k e y k1 e1 := by
      by_cases hne : e = 0 ∧ xs.length ≤ k
      · have hx : nxE xs k e = 100 := by unfold nxE; rw [if_pos hne]
        rw [hx] at hd1
        obtain ⟨rfl, rfl⟩ := hd1.dead (by decide)
        obtain ⟨rfl, hk⟩ := hne
        have hdr : xs.drop k1 = [] := List.drop_eq_nil_of_le hk
        exact ⟨fun h => absurd rfl h, fun _ => by rw [hdr]; exact ⟨rfl, rfl⟩, fun _ h => absurd h (by decide)⟩
      · have hx : nxE xs k e = e := by unfold nxE; rw [if_neg hne]
        rw [hx] at hd1
        exact rOp_of_N hd1 h11 h5 hl'
    by_cases he1 : e1 = 0
    · subst he1
      obtain ⟨z1, hk, hk1, hy5, hy11, hy0, hym, hyb⟩ := rOpN_ok h.byt hd1
      have he : e = 0 := by
        unfold nxE at z1
        split at z1
        · exact absurd z1 (by decide)
        · exact z1
      subst he
      rw [z1] at hd1
      have hb : xs.getD k 0 = b := by unfold nxV at hv; rw [if_pos ⟨rfl, hk⟩] at hv; exact hv
      rw [hb] at hyb
      have hkl := hn rfl
      have hxl := h.cur.2.1.1
      have him := rimm_any y
      have hy : ¬ (y = 5 ∨ y = 11) := by omega
      have big : imI y ≠ 0 → y = b ∧ imB y = true := fun hh => by
        rcases hyb with hq | hq
        · exact hq
        · exact absurd hq.2.2 hh
      have far : imI y ≠ 0 → imI y ≠ 1 → 2 ≤ b ∧ ¬ b ≤ 4 := fun h0 h1 => by
        obtain ⟨rfl, -⟩ := big h0
        obtain ⟨q0, q1, q2, q3, q4⟩ := imI_low
        apply Decidable.byContradiction
        intro hh
        have : y = 0 ∨ y = 1 ∨ y = 2 ∨ y = 3 ∨ y = 4 := by omega
        rcases this with rfl | rfl | rfl | rfl | rfl
        · exact h0 q0
        · exact h0 q1
        · exact h1 q2
        · exact h1 q3
        · exact h1 q4
      by_cases i1 : imI y = 1
      · obtain ⟨rfl, hB⟩ := big (by omega)
        rw [if_pos hB, i1] at him
        obtain ⟨g1, g2⟩ := imI_1 i1
        have hdp : deep < 64 := by
          apply Decidable.byContradiction
          intro hh
          exact hl ⟨g1, g2, by omega⟩
        exact rins_1 HI h hv hk hd1 ho hy0 hy him i1 rfl (dT g1) (dT g2) (dF (by omega)) hdp (by omega)
      by_cases i2 : imI y = 2
      · obtain ⟨-, hB⟩ := big (by omega)
        rw [if_pos hB, i2] at him
        obtain ⟨g1, g2⟩ := far (by omega) (by omega)
        exact rins_2 HI h hv hk hd1 ho hy0 hy him i2 rfl (dT g1) (dF g2)
      by_cases i3 : imI y = 3
      · obtain ⟨-, hB⟩ := big (by omega)
        rw [if_pos hB, i3] at him
        obtain ⟨g1, g2⟩ := far (by omega) (by omega)
        exact rins_3 HI h hv hk hd1 ho hy0 hy him i3 rfl (dT g1) (dF g2)
      by_cases i4 : imI y = 4
      · obtain ⟨-, hB⟩ := big (by omega)
        rw [if_pos hB, i4] at him
        obtain ⟨g1, g2⟩ := far (by omega) (by omega)
        exact rins_4 HI h hv hk hd1 ho hy0 hy him i4 rfl (dT g1) (dF g2)
      by_cases i5 : imI y = 5
      · obtain ⟨-, hB⟩ := big (by omega)
        rw [if_pos hB, i5] at him
        obtain ⟨g1, g2⟩ := far (by omega) (by omega)
        exact rins_5 HI h hv hk hd1 ho hy0 hy him i5 rfl (dT g1) (dF g2)
      by_cases i6 : imI y = 6
      · obtain ⟨-, hB⟩ := big (by omega)
        rw [if_pos hB, i6] at him
        obtain ⟨g1, g2⟩ := far (by omega) (by omega)
        exact rins_6 HI h hv hk hd1 ho hy0 hy him i6 rfl (dT g1) (dF g2)
      by_cases i7 : imI y = 7
      · obtain ⟨-, hB⟩ := big (by omega)
        rw [if_pos hB, i7] at him
        obtain ⟨g1, g2⟩ := far (by omega) (by omega)
        exact rins_7 HI h hv hk hd1 ho hy0 hy him i7 rfl (dT g1) (dF g2)
      by_cases i8 : imI y = 8
      · obtain ⟨-, hB⟩ := big (by omega)
        rw [if_pos hB, i8] at him
        obtain ⟨g1, g2⟩ := far (by omega) (by omega)
        exact rins_8 HI h hv hk hd1 ho hy0 hy him i8 rfl (dT g1) (dF g2)
      by_cases i9 : imI y = 9
      · obtain ⟨-, hB⟩ := big (by omega)
        rw [if_pos hB, i9] at him
        obtain ⟨g1, g2⟩ := far (by omega) (by omega)
        exact rins_9 HI h hv hk hd1 ho hy0 hy him i9 rfl (dT g1) (dF g2)
      by_cases i10 : imI y = 10
      · obtain ⟨-, hB⟩ := big (by omega)
        rw [if_pos hB, i10] at him
        obtain ⟨g1, g2⟩ := far (by omega) (by omega)
        exact rins_10 HI h hv hk hd1 ho hy0 hy him i10 rfl (dT g1) (dF g2)
      by_cases i11 : imI y = 11
      · obtain ⟨-, hB⟩ := big (by omega)
        rw [if_pos hB, i11] at him
        obtain ⟨g1, g2⟩ := far (by omega) (by omega)
        exact rins_11 HI h hv hk hd1 ho hy0 hy him i11 rfl (dT g1) (dF g2)
      have hi : ∀ j : Int, 1 ≤ j → j ≤ 11 → imI y ≠ j := fun j h1 h2 hj => by omega
      refine rins_0 HI h hv hk hd1 ho hy0 hy him hi (fun j h1 h2 hj => ?_) ?_
      · split at hj
        · exact hi j h1 h2 hj
        · omega
      · by_cases g1 : 2 ≤ b
        · by_cases g2 : b ≤ 4
          · exfalso
            obtain ⟨-, -, q2, q3, q4⟩ := imI_low
            have : b = 2 ∨ b = 3 ∨ b = 4 := by omega
            rcases hyb with ⟨rfl, -⟩ | ⟨hq, -⟩
            · rcases this with rfl | rfl | rfl
              · exact i1 q2
              · exact i1 q3
              · exact i1 q4
            · omega
          · exact .inr ⟨dT g1, dF g2⟩
        · exact .inl (dF g1)
    · by_cases g1 : 2 ≤ b
      · by_cases g2 : b ≤ 4
        · exact rins_f3 h hv hd1 he1 ho (dT g1) (dT g2) (dF (by intro hh; exact hl ⟨g1, g2, by omega⟩))
        · exact rins_f2 h hv hd1 he1 ho (dT g1) (dF g2)
      · exact rins_f1 h hv hd1 he1 ho (dF g1)
/-- From what an instruction has read to the sequence's. -/
theorem rseq_more {sat may : Bool} {deep k k1 k2 k3 : Nat} {xs : List Int} {y en e1 e2 e3 : Int} {i : In} {s : Fo × Bool} (hen : en = nxE xs k 0) (h : Rd (rOp sat may deep) xs k en y k1 e1) (hy : e1 = 0 → ¬ (y = 5 ∨ y = 11)) (hi : Rd (rRest (sq sat) deep y) xs k1 e1 i k2 e2) (hs : Rd (sq sat deep may) xs k2 e2 s k3 e3) :
    Rd (sq sat deep may) xs k 0 (.cons i.1 i.2.1 i.2.2 s.1, s.2) k3 e3 := by
  by_cases hk : xs.length ≤ k
  · have hx : nxE xs k 0 = 100 := by unfold nxE; rw [if_pos ⟨rfl, hk⟩]
    rw [hx] at hen
    subst hen
    obtain ⟨rfl, rfl⟩ := h.dead (by decide)
    obtain ⟨rfl, rfl⟩ := hi.dead (by decide)
    obtain ⟨rfl, rfl⟩ := hs.dead (by decide)
    have hdr : xs.drop k3 = [] := List.drop_eq_nil_of_le hk
    have hr : Rd (rOp sat may deep) xs k3 0 y k3 100 := ⟨fun h => absurd rfl h, fun _ => by rw [hdr]; exact ⟨rfl, rfl⟩, fun _ h => absurd h (by decide)⟩
    exact (sq_end hr (.inl (by decide))).any _ (by decide)
  · have hx : nxE xs k 0 = 0 := by unfold nxE; rw [if_neg (by omega)]
    rw [hx] at hen
    subst hen
    by_cases he1 : e1 = 0
    · exact sq_more h (hy he1) hi hs
    · obtain ⟨rfl, rfl⟩ := hi.dead he1
      obtain ⟨rfl, rfl⟩ := hs.dead he1
      exact (sq_end h (.inl he1)).any _ he1
theorem iIn73 : Tryd.prog.info? 73 = some ((Tryd.prog.info? 73).getD default) := by kernel_rfl
theorem size73 : ((Tryd.prog.info? 73).getD default).size = 9 := by kernel_rfl
theorem bytes73 : ((Tryd.prog.info? 73).getD default).bytes ≤ 1000 := Nat.le_of_ble_eq_true (by kernel_rfl)
theorem zero73 : ((Tryd.prog.info? 73).getD default).zero = some (.agg #[.int .i64 0, .int .u8 0, .int .u32 0, .int .u32 0, .int .u64 0, .slice none 0 0, .slice none 0 0, .slice none 0 0, .bool false]) := by kernel_rfl
set_option maxHeartbeats 8000000 in
set_option maxRecDepth 100000 in
theorem rseq_step {n : Nat} {may : Bool} {c rb : Nat} {a : Option Addr} {len cap : Nat} {xs : List Int} {sat : Bool} {deep k : Nat} {e : Int} {W : World} (HI : Hid (e = 0 → QSeq c rb a len cap xs sat n)) (hd : deep ≤ 64) (hn : e = 0 → len - k < n + 1) (h : Rq c rb a len cap xs sat k e W) :
  Calls Tryd.prog 27 #[.pointer (some ⟨rb, 0, none⟩), .int .i64 (deep : Int), .bool may] W fun r W' => ∃ p q s t' T t k' e', r = .returned (.tuple #[.slice p q s, .bool t']) ∧ Rd (sq sat deep may) xs k e (T, t) k' e' ∧ (e' = 0 → Fov W' (fun b => W.heap.size ≤ b) T (.slice p q s) ∧ t' = t) ∧ Rq c rb a len cap xs sat k' e' W' ∧ Fr [c] W W' := by
  have HR0 := hide h
  have HO : Hid (Old W.heap.size c rb a len) := hide (h.old (Nat.le_refl W.heap.size))
  have HN := hide hn
  have HD := hide hd
  have hl6 := h.cur.2.2.2.2.2
  have hxl := h.cur.2.1.1
  have HBy := hide h.byt
  clear h hn hd
  go_enter Tryd.func27, Tryd.ntmps27
  go_wp2_with fail
  go_loopw [8] (fun v8 wr => ∃ (T : Fo) (cs : List Value) (k1 : Nat) (e1 : Int), Rw 73 W.heap.size v8 T cs e1 wr ∧ Rq c rb a len cap xs sat k1 e1 wr ∧ Fr [c] W wr ∧ (e1 = 0 → e = 0 ∧ T.len + k ≤ k1) ∧ T.len ≤ len + 1 ∧ ∀ s k' e', Rd (sq sat deep may) xs k1 e1 s k' e' → Rd (sq sat deep may) xs k e (T.app s.1, s.2) k' e') (fun _ wr => togo c len wr)
  case atStart => exact ⟨.nil, [], k, e, rw_nil _ _ _ _, unhide HR0, Fr.refl _ _, fun q => ⟨q, by simp [Fo.len]⟩, by simp [Fo.len], fun s k' e' q => q⟩
  case round =>
    obtain ⟨T, cs, k1, e1, hW, hR, hF, hM, hTl, hK⟩ := hrel
    have hgo := togo_cu hR.cur.1
    have HW := hide hW
    have HF := hide hF
    have HK := hide hK
    have HM := hide hM
    have HG := hide hgo
    have HR := hide hR
    have h0 := hR.rdr.1
    have h2 := hR.cur.1.2.2.1
    clear hW hF hM hK hgo hR
    by_cases he : e1 = 0
    · subst he
      go_wp2_with fail
      clear h0 h2
      refine (rnext_any (unhide HR)).mono ?_
      rintro _ w1 ⟨rfl, hR, hF1⟩
      by_cases hk : k1 < xs.length
      · have hv : nxV xs k1 0 = xs.getD k1 0 := by unfold nxV; rw [if_pos ⟨rfl, hk⟩]
        have hx : nxE xs k1 0 = 0 := by unfold nxE; rw [if_neg (by omega)]
        rw [hx] at hR
        rw [hv]
        have HW := hide ((unhide HW).fr hF1 (by have := (unhide HO).c; simp; omega) (e' := 0) (fun q => q))
        have HF := hide ((unhide HF).trans hF1)
        have HR := hide hR
        clear hR hF1
        by_cases h11 : xs.getD k1 0 = 11
        · have hbb := h11
          rw [h11]
          have h0 := (unhide HR).rdr.1
          go_wp2_with fail
          refine (rByte_any (unhide HR).cur).mono ?_
          rintro _ w2 ⟨rfl, hC, hF⟩
          rw [lift_rB_in hk] at hC ⊢
          dsimp only at hC ⊢
          have HW := hide ((unhide HW).fr hF (by have := (unhide HO).c; simp; omega) (e' := 0) (fun q => q))
          have HR := hide ((unhide HR).step hF hC)
          have HF := hide ((unhide HF).trans hF)
          clear hC hF h0
          go_wp2_with fail
          obtain ⟨p, s, rfl⟩ := (unhide HW).slice
          go_ret2
          have hr : Rd (rOp sat may deep) xs k1 0 11 (k1 + 1) 0 := by
            have hdr := dropk hk
            rw [hbb] at hdr
            exact ⟨fun h => absurd rfl h, fun _ => by rw [hdr]; exact ⟨rfl, rfl⟩, fun _ _ => by rw [hdr]; exact rfl⟩
          have hk2 := unhide HK _ _ _ (sq_end hr (.inr (.inr rfl)))
          rw [Fo.app_nil] at hk2
          exact ⟨p, T.len, s, false, T, false, _, _, rfl, hk2, fun q => ⟨(unhide HW).fov q, rfl⟩, unhide HR, unhide HF⟩
        · by_cases h5 : xs.getD k1 0 = 5 ∧ may = true
          · obtain ⟨hbb, hmy⟩ := h5
            rw [hbb]
            subst hmy
            have h0 := (unhide HR).rdr.1
            go_wp2_with fail
            refine (rByte_any (unhide HR).cur).mono ?_
            rintro _ w2 ⟨rfl, hC, hF⟩
            rw [lift_rB_in hk] at hC ⊢
            dsimp only at hC ⊢
            have HW := hide ((unhide HW).fr hF (by have := (unhide HO).c; simp; omega) (e' := 0) (fun q => q))
            have HR := hide ((unhide HR).step hF hC)
            have HF := hide ((unhide HF).trans hF)
            clear hC hF h0
            go_wp2_with fail
            obtain ⟨p, s, rfl⟩ := (unhide HW).slice
            go_ret2
            have hr : Rd (rOp sat true deep) xs k1 0 5 (k1 + 1) 0 := by
              have hdr := dropk hk
              rw [hbb] at hdr
              exact ⟨fun h => absurd rfl h, fun _ => by rw [hdr]; exact ⟨rfl, rfl⟩, fun _ _ => by rw [hdr]; exact rfl⟩
            have hk2 := unhide HK _ _ _ (sq_end hr (.inr (.inl rfl)))
            rw [Fo.app_nil] at hk2
            exact ⟨p, T.len, s, true, T, true, _, _, rfl, hk2, fun q => ⟨(unhide HW).fov q, rfl⟩, unhide HR, unhide HF⟩
          · have q11 : (xs.getD k1 0 == 11) = false := by simp only [beq_eq_false_iff_ne]; exact h11
            have HV1 : Hid (nxV xs k1 0 = xs.getD k1 0) := hide hv
            have HX1 : Hid (nxE xs k1 0 = 0) := hide hx
            have q5 : (xs.getD k1 0 == 5) = false ∨ (xs.getD k1 0 == 5) = true ∧ may = false := by
              cases q : (xs.getD k1 0 == 5)
              · exact .inl rfl
              · cases may
                · exact .inr ⟨rfl, rfl⟩
                · exact absurd ⟨by simpa using q, rfl⟩ h5
            obtain ⟨m1, m2⟩ := unhide HM (by simp)
            have hI : RInstrP c rb a len cap xs sat may deep k1 0 w1 := rinstr_any (hide (unhide HI m1)) (unhide HR) (unhide HD) (fun _ => by have := unhide HN m1; omega) (by rw [hv]; exact h11) (by rw [hv]; exact h5)
            unfold RInstrP at hI
            have HEn : Hid ((0 : Int) = nxE xs k1 0) := hide hx.symm
            clear hv hx h11 h5
            generalize xs.getD k1 0 = b at *
            rcases q5 with q5 | ⟨q5, rfl⟩
            · go_wp2_with fail
              refine hI.mono ?_
              clear hI
              rintro _ w3 ⟨h', l1, l2, l3, p1, q1, s1, p2, q2, s2, y, kk, ee, i, k3, e3, rfl, hDo, hY, hDi, hV, hR3, hF3⟩
              obtain ⟨p, s, w4, hrun, hW4, hFr, ll, hll, hlb⟩ := Rw.app (t := 31) (ty := 73) Tryd.underlying31 iIn73 zero73 size73 rfl bytes73 rfl (unhide HW) ⟨[c], hF3, by have := (unhide HO).c; simp; omega⟩ (unhide HF).size (by omega) (hd := h') (t' := i.2.1) (e' := i.2.2) (lv := .slice l1 l2 l3) (vt := .slice p1 q1 s1) (ve := .slice p2 q2 s2) (e2 := e3) rfl rfl rfl (fun q => by first | rfl | exact hDo.zero (hDi.zero q)) (fun q => (hV q).2) rfl
              have HR := hide (hR3.fr hll (unhide HO) hlb)
              have HF := hide (hFr _ _ ((unhide HF).trans hF3) (Nat.le_refl _))
              have HX := hide hrun
              have HW := hide hW4
              have HDo := hide hDo
              have HDi := hide hDi
              have HY := hide hY
              have HEq := hide (fun q => (hV q).1)
              have hk3 := hR3.cur.2.2.2.2.1
              have hu1 := hDo.up
              have hu3 := hDi.up
              have hz3 : e3 = 0 → k1 + 1 ≤ k3 := fun q => by
                have z := hDi.zero q
                subst z
                have z2 := hDo.zero rfl
                have := (rd_deep (unhide HBy) hDo).2.2.2
                omega
              clear hrun hW4 hFr hll hlb hDi hV hR3 hF3 hDo hY
              go_wp2_with (at_builtin; refine wpList_appT (by rfl) rfl rfl (unhide HX) ?_)
              refine ⟨⟨T.app (.cons i.1 i.2.1 i.2.2 .nil), cs ++ hcells h' (.slice l1 l2 l3) (.slice p1 q1 s1) (.slice p2 q2 s2), k3, e3, ?_, unhide HR, unhide HF, fun q => ⟨m1, ?_⟩, ?_, fun s k' e' hs => ?_⟩, ?_⟩
              · refine ⟨?_, fun q => ?_⟩
                · rw [Fo.len_app]; have := (unhide HW).own; rw [Fo.len_app] at this; exact this
                · rw [unhide HEq q]; exact (unhide HW).enc q
              · rw [Fo.len_app]; show T.len + 1 + k ≤ k3; have := hz3 q; omega
              · rw [Fo.len_app]; show T.len + 1 ≤ len + 1; have := (unhide HR0).cur.2.2.2.2.1; omega
              · rw [Fo.app_app]
                exact unhide HK _ _ _ (rseq_more (unhide HEn) (unhide HDo) (unhide HY) (unhide HDi) hs)
              · rw [unhide HG, togo_cu (unhide HR).cur.1]
                simp only [if_true]
                split
                · rename_i q; have := hz3 q; omega
                · omega
            · go_wp2_with fail
              refine hI.mono ?_
              clear hI
              rintro _ w3 ⟨h', l1, l2, l3, p1, q1, s1, p2, q2, s2, y, kk, ee, i, k3, e3, rfl, hDo, hY, hDi, hV, hR3, hF3⟩
              obtain ⟨p, s, w4, hrun, hW4, hFr, ll, hll, hlb⟩ := Rw.app (t := 31) (ty := 73) Tryd.underlying31 iIn73 zero73 size73 rfl bytes73 rfl (unhide HW) ⟨[c], hF3, by have := (unhide HO).c; simp; omega⟩ (unhide HF).size (by omega) (hd := h') (t' := i.2.1) (e' := i.2.2) (lv := .slice l1 l2 l3) (vt := .slice p1 q1 s1) (ve := .slice p2 q2 s2) (e2 := e3) rfl rfl rfl (fun q => by first | rfl | exact hDo.zero (hDi.zero q)) (fun q => (hV q).2) rfl
              have HR := hide (hR3.fr hll (unhide HO) hlb)
              have HF := hide (hFr _ _ ((unhide HF).trans hF3) (Nat.le_refl _))
              have HX := hide hrun
              have HW := hide hW4
              have HDo := hide hDo
              have HDi := hide hDi
              have HY := hide hY
              have HEq := hide (fun q => (hV q).1)
              have hk3 := hR3.cur.2.2.2.2.1
              have hu1 := hDo.up
              have hu3 := hDi.up
              have hz3 : e3 = 0 → k1 + 1 ≤ k3 := fun q => by
                have z := hDi.zero q
                subst z
                have z2 := hDo.zero rfl
                have := (rd_deep (unhide HBy) hDo).2.2.2
                omega
              clear hrun hW4 hFr hll hlb hDi hV hR3 hF3 hDo hY
              go_wp2_with (at_builtin; refine wpList_appT (by rfl) rfl rfl (unhide HX) ?_)
              refine ⟨⟨T.app (.cons i.1 i.2.1 i.2.2 .nil), cs ++ hcells h' (.slice l1 l2 l3) (.slice p1 q1 s1) (.slice p2 q2 s2), k3, e3, ?_, unhide HR, unhide HF, fun q => ⟨m1, ?_⟩, ?_, fun s k' e' hs => ?_⟩, ?_⟩
              · refine ⟨?_, fun q => ?_⟩
                · rw [Fo.len_app]; have := (unhide HW).own; rw [Fo.len_app] at this; exact this
                · rw [unhide HEq q]; exact (unhide HW).enc q
              · rw [Fo.len_app]; show T.len + 1 + k ≤ k3; have := hz3 q; omega
              · rw [Fo.len_app]; show T.len + 1 ≤ len + 1; have := (unhide HR0).cur.2.2.2.2.1; omega
              · rw [Fo.app_app]
                exact unhide HK _ _ _ (rseq_more (unhide HEn) (unhide HDo) (unhide HY) (unhide HDi) hs)
              · rw [unhide HG, togo_cu (unhide HR).cur.1]
                simp only [if_true]
                split
                · rename_i q; have := hz3 q; omega
                · omega
      · have hv : nxV xs k1 0 = -1 := by unfold nxV; rw [if_neg (by omega)]
        have hx : nxE xs k1 0 = 100 := by unfold nxE; rw [if_pos ⟨rfl, by omega⟩]
        rw [hx] at hR
        rw [hv]
        have HW := hide ((unhide HW).fr hF1 (by have := (unhide HO).c; simp; omega) (e' := 100) (fun _ => rfl))
        have HF := hide ((unhide HF).trans hF1)
        have HR := hide hR
        clear hR hF1
        obtain ⟨m1, m2⟩ := unhide HM (by simp)
        have hv2 : nxV xs k1 100 = -1 := by unfold nxV; rw [if_neg (by omega)]
        have hI : RInstrP c rb a len cap xs sat may deep k1 100 w1 := rinstr_any (hide (unhide HI m1)) (unhide HR) (unhide HD) (fun q => absurd q (by decide)) (by rw [hv2]; decide) (by rw [hv2]; exact fun hh => absurd hh.1 (by decide))
        unfold RInstrP at hI
        have HEn : Hid ((100 : Int) = nxE xs k1 0) := hide hx.symm
        clear hv hx hv2
        go_wp2_with fail
        refine hI.mono ?_
        clear hI
        rintro _ w3 ⟨h', l1, l2, l3, p1, q1, s1, p2, q2, s2, y, kk, ee, i, k3, e3, rfl, hDo, hY, hDi, hV, hR3, hF3⟩
        obtain ⟨p, s, w4, hrun, hW4, hFr, ll, hll, hlb⟩ := Rw.app (t := 31) (ty := 73) Tryd.underlying31 iIn73 zero73 size73 rfl bytes73 rfl (unhide HW) ⟨[c], hF3, by have := (unhide HO).c; simp; omega⟩ (unhide HF).size (by omega) (hd := h') (t' := i.2.1) (e' := i.2.2) (lv := .slice l1 l2 l3) (vt := .slice p1 q1 s1) (ve := .slice p2 q2 s2) (e2 := e3) rfl rfl rfl (fun q => by first | rfl | exact hDo.zero (hDi.zero q)) (fun q => (hV q).2) rfl
        have HR := hide (hR3.fr hll (unhide HO) hlb)
        have HF := hide (hFr _ _ ((unhide HF).trans hF3) (Nat.le_refl _))
        have HX := hide hrun
        have HW := hide hW4
        have HDo := hide hDo
        have HDi := hide hDi
        have HY := hide hY
        have HEq := hide (fun q => (hV q).1)
        have hk3 := hR3.cur.2.2.2.2.1
        have hu1 := hDo.up
        have hu3 := hDi.up
        have hz3 : e3 = 0 → k1 + 1 ≤ k3 := fun q => by
          have z := hDi.zero q
          subst z
          have z2 := hDo.zero rfl
          have := (rd_deep (unhide HBy) hDo).2.2.2
          omega
        clear hrun hW4 hFr hll hlb hDi hV hR3 hF3 hDo hY
        go_wp2_with (at_builtin; refine wpList_appT (by rfl) rfl rfl (unhide HX) ?_)
        refine ⟨⟨T.app (.cons i.1 i.2.1 i.2.2 .nil), cs ++ hcells h' (.slice l1 l2 l3) (.slice p1 q1 s1) (.slice p2 q2 s2), k3, e3, ?_, unhide HR, unhide HF, fun q => ⟨m1, ?_⟩, ?_, fun s k' e' hs => ?_⟩, ?_⟩
        · refine ⟨?_, fun q => ?_⟩
          · rw [Fo.len_app]; have := (unhide HW).own; rw [Fo.len_app] at this; exact this
          · rw [unhide HEq q]; exact (unhide HW).enc q
        · rw [Fo.len_app]; show T.len + 1 + k ≤ k3; have := hz3 q; omega
        · rw [Fo.len_app]; show T.len + 1 ≤ len + 1; have := (unhide HR0).cur.2.2.2.2.1; omega
        · rw [Fo.app_app]
          exact unhide HK _ _ _ (rseq_more (unhide HEn) (unhide HDo) (unhide HY) (unhide HDi) hs)
        · rw [unhide HG, togo_cu (unhide HR).cur.1]
          simp only [if_true]
          split
          · rename_i q; have := hz3 q; omega
          · omega
    · have he' : (e1 == 0) = false := by simp [he]
      go_wp2_with fail
      go_ret2
      have hk := unhide HK (.nil, false) _ _ (Rd.err _ he)
      exact ⟨none, 0, 0, false, _, _, _, _, rfl, hk, fun q => absurd q he, unhide HR, unhide HF⟩
theorem rseq_any {c rb : Nat} {a : Option Addr} {len cap : Nat} {xs : List Int} {sat : Bool} : ∀ n, QSeq c rb a len cap xs sat n
  | 0 => fun _ _ _ _ _ hd hn h => rseq_step (n := 0) (hide fun q => absurd (hn q) (Nat.not_lt_zero _)) hd (fun q => by have := hn q; omega) h
  | n + 1 => fun _ _ _ _ _ hd hn h => rseq_step (hide fun _ => rseq_any n) hd hn h
end Go.Proofs.YtalahdkgigcpfaaDoor
namespace Go.Proofs.YtalahdkgigcpfaaDoor
open Go.RowKit

set_option maxHeartbeats 2000000 in
set_option maxRecDepth 100000 in
theorem rexpr_any {c : Nat} {a : Option Addr} {len cap k : Nat} {xs : List Int} {sat : Bool} {e : Int} {W : World} (h : Cs c a len cap xs k e W) (hm : Mk W) (hc : 3 ≤ c) :
    Calls Tryd.prog 10 #[.pointer (some ⟨c, 0, none⟩), .bool sat] W fun r W' => ∃ p q s T t k' e', r = .returned (.slice p q s) ∧ Rd (sq sat 0 false) xs k e (T, t) k' e' ∧ (e' = 0 → Fov W' (fun b => W.heap.size ≤ b) T (.slice p q s)) ∧ (e' ≠ 0 → Value.slice p q s = .slice none 0 0) ∧ Cs c a len cap xs k' e' W' ∧ Mk W' ∧ Fr [c] W W' := by
  have H := hide h
  have HM := hide hm
  have HO : Hid (c < W.heap.size ∧ ∀ p, a = some p → 0 < len → p.block < W.heap.size) := hide ⟨h.1.lt, h.2.1.lt⟩
  clear h hm
  go_enter Tryd.func10, Tryd.ntmps10
  go_wp2_with fail
  have hb := below1 W (.cells #[.pointer (some ⟨c, 0, none⟩), .bool sat] 69)
  have hR : Rq c W.heap.size a len cap xs sat k e (W.alloc (.cells #[.pointer (some ⟨c, 0, none⟩), .bool sat] 69)) := by
    refine ⟨(unhide H).bel hb, ⟨by simp [go_sem], by simp [go_sem]⟩, (unhide HM).below hb, ?_, hc, ?_, fun p hp hl => ?_⟩
    · have := (unhide HO).1; omega
    · have := (unhide HO).1; omega
    · have := (unhide HO).2 p hp hl; omega
  have HF := hide (Fr.of hb [c])
  have HS := hide hb.size
  clear hb
  generalize W.alloc (.cells #[.pointer (some ⟨c, 0, none⟩), .bool sat] 69) = w2 at *
  refine (rseq_any (len - k + 1) 0 k e false w2 (by decide) (fun _ => by omega) hR).mono ?_
  rintro _ w3 ⟨p, q, s, t', T, t, k', e', rfl, hD, hV, hR, hF⟩
  have HR := hide hR
  have HD := hide hD
  have HV := hide (fun q => (hV q).1.mono (P' := fun b => W.heap.size ≤ b) (fun b _ h => Nat.le_trans (unhide HS) h))
  have HF := hide ((unhide HF).trans hF)
  have h2 := hR.cur.1.2.2.1
  clear hR hD hV hF
  by_cases h' : e' = 0
  · have h'' : (e' != 0) = false := by simp [h']
    go_wp2_with fail
    go_ret
    exact ⟨p, q, s, T, t, k', e', rfl, unhide HD, unhide HV, fun q => absurd h' q, (unhide HR).cur, (unhide HR).var, unhide HF⟩
  · have h'' : (e' != 0) = true := by simp [h']
    go_wp2_with fail
    go_ret
    exact ⟨none, 0, 0, T, t, k', e', rfl, unhide HD, fun q => absurd q h', fun _ => rfl, (unhide HR).cur, (unhide HR).var, unhide HF⟩
end Go.Proofs.YtalahdkgigcpfaaDoor
namespace Go.Proofs.YtalahdkgigcpfaaDoor
open Go.RowKit

theorem aw_sq : sq false 0 false [65, 7, 26, 11] = ((.cons ⟨65, 0, 0, 0, 7, [], false⟩ .nil .nil (.cons ⟨26, 0, 0, 0, 0, [], false⟩ .nil .nil .nil), false), 4, 0) := by rfl
theorem byt_dec (l : List Int) (h : l.all (fun x => decide (0 ≤ x) && decide (x < 256)) = true) : Byt l := by
  intro x hx
  have := List.all_eq_true.1 h x hx
  simpa using this
theorem Mk.three {W : World} (h : Mk W) : 3 ≤ W.heap.size := by
  have := World.block_lt_of_cell? W _ (h.stopped 0 _ (sL_at 0 (by decide)))
  exact this
set_option maxHeartbeats 2000000 in
set_option maxRecDepth 100000 in
theorem awake_any {W : World} (hm : Mk W) : Calls Tryd.prog 7 #[] W fun r W' => r = .returned (.bool true) ∧ Below W.heap.size W W' := by
  have HM := hide hm
  have HN1 := hide (new_any (sl_lit W [65, 7, 26, 11] 4 rfl (by omega)) (by omega) (byt_dec _ rfl))
  clear hm
  go_enter Tryd.func7, Tryd.ntmps7
  go_wp2_with fail
  refine (unhide HN1).mono ?_
  rintro _ w1 ⟨c, y1, y3, rfl, hC, hc, hF⟩
  have hz : W.heap.size + 1 ≤ w1.heap.size := by have := hF.size; simpa using this
  have hF := (Fr.of (below1 W (.cells (bys [65, 7, 26, 11]).toArray 5)) []).trans hF
  have hc' : W.heap.size ≤ c := by simp at hc; omega
  have h3 := (unhide HM).three
  have HM1 := (unhide HM).fr hF (by simp)
  have HG := hide (expr_any (sat := false) hC HM1 (by omega))
  have HF := hide hF
  clear hC hF hc HN1 HM1
  go_wp2_with fail
  refine (unhide HG).mono ?_
  rintro _ w2 ⟨p, q, s, T, t, k', e', rfl, hD, hV, -, hC, hM, hF⟩
  obtain ⟨l1, l2⟩ := hD.live rfl
  have l3 := hD.val rfl
  rw [show [65, 7, 26, 11].drop 0 = [(65 : Int), 7, 26, 11] from rfl, aw_sq] at l1 l2 l3
  dsimp only at l1 l2 l3
  subst l2
  have l3 := l3 rfl
  obtain ⟨rfl, rfl⟩ : T = _ ∧ t = _ := Prod.mk.inj l3
  subst l1
  have hV := hV rfl
  obtain ⟨a2, cap2, hv, hcap, ho⟩ := hV.open2
  rw [show Fo.len (.cons ⟨65, 0, 0, 0, 7, [], false⟩ .nil .nil (.cons ⟨26, 0, 0, 0, 0, [], false⟩ .nil .nil .nil)) = 2 from rfl] at hv hcap ho
  injection hv with hv1 hv2 hv3
  subst hv1; subst hv2; subst hv3
  rcases ho with ho | ⟨b, off, rfl, -, hel⟩
  · omega
  obtain ⟨x1, x2, x3, x4, x5, x6, ⟨g0, -, -, -, g4, -⟩, -⟩ := hel 0 _ _ _ rfl
  obtain ⟨z1, z2, z3, z4, z5, z6, ⟨k0, -⟩, -⟩ := hel 1 _ _ _ rfl
  dsimp only at g0 g4 k0
  simp only [Nat.zero_mul, Nat.one_mul, Nat.add_zero] at g0 g4 k0
  have HL := hide (left2_any hC)
  have HF := hide ((unhide HF).thenL (l := []) hF (by simp; omega))
  have HV := hide hV
  clear hF hC hM hV hD hel l3 HG
  go_wp2_with fail
  refine (unhide HL).mono ?_
  rintro _ w3 ⟨rfl, hF⟩
  have hV := (unhide HV).fr hF (by simp)
  have HZ := hide (size_any (T := .cons ⟨65, 0, 0, 0, 7, [], false⟩ .nil .nil (.cons ⟨26, 0, 0, 0, 0, [], false⟩ .nil .nil .nil)) ⟨by decide, trivial, trivial, by decide, trivial, trivial, trivial⟩ hV (by decide))
  rw [show Fo.size (.cons ⟨65, 0, 0, 0, 7, [], false⟩ .nil .nil (.cons ⟨26, 0, 0, 0, 0, [], false⟩ .nil .nil .nil)) = 2 from rfl] at HZ
  have HF := hide ((unhide HF).trans hF)
  clear hF hV HV HL g0 g4 k0
  go_wp2_with fail
  refine (unhide HZ).mono ?_
  rintro _ w4 ⟨rfl, hb⟩
  have HF := hide ((unhide HF).bel hb)
  clear hb HZ
  go_wp2_with fail
  go_ret
  exact ⟨rfl, (unhide HF).nil⟩
end Go.Proofs.YtalahdkgigcpfaaDoor
namespace Go.Proofs.YtalahdkgigcpfaaDoor
open Go.RowKit

/-- The contract of Plain for what is smaller than n. -/
def PPlain (n : Nat) : Prop := ∀ (T : Fo) (P : Nat → Prop) (v : Value) (W : World), T.size < n → T.size ≤ 2000000 → Fov W P T v →
  Calls Tryd.prog 12 #[v] W fun r W' => ∃ p s, r = .returned (.slice p T.len s) ∧ Fov W' (fun b => P b ∧ b < W.heap.size ∨ W.heap.size ≤ b) T (.slice p T.len s) ∧ Fr [] W W'
set_option maxHeartbeats 8000000 in
set_option maxRecDepth 100000 in
theorem plain_step {n : Nat} {T : Fo} {P : Nat → Prop} {v : Value} {W : World} (HI : Hid (PPlain n)) (hs : T.size < n + 1) (hz : T.size ≤ 2000000) (h : Fov W P T v) :
  Calls Tryd.prog 12 #[v] W fun r W' => ∃ p s, r = .returned (.slice p T.len s) ∧ Fov W' (fun b => P b ∧ b < W.heap.size ∨ W.heap.size ≤ b) T (.slice p T.len s) ∧ Fr [] W W' := by
  have h := h.mono (P' := fun b => P b ∧ b < W.heap.size) (fun b h1 h2 => ⟨h2, h1⟩)
  obtain ⟨a, cap, rfl, hc, ho⟩ := h.open2
  have H := hide h
  have HO := hide ho
  have hl := T.len_le
  clear h ho
  go_enter Tryd.func12, Tryd.ntmps12
  go_wp2_with fail
  go_loopw [8, 3] (fun v8 v3 wr => ∃ (i : Nat) (cs : List Value), i ≤ T.len ∧ v8 = .int .i64 (i : Int) ∧ Ry P 73 W.heap.size v3 (T.pre i) cs 0 wr ∧ Fr [] W wr) (fun v8 _ _ => T.len - (intOf v8).toNat)
  case atStart => exact ⟨0, [], by omega, rfl, ry_nil _ _ _ _ _, Fr.refl _ _⟩
  case round =>
    obtain ⟨i, cs, hi, rfl, hW, hF⟩ := hrel
    have hpl := T.pre_len i hi
    by_cases hlt : i < T.len
    · obtain ⟨⟨⟨op, ty, aa, bb, bits, li, has⟩, t, e⟩, hat⟩ := Fo.at_some hlt
      rcases unhide HO with h0 | ⟨b, off, rfl, hp, hel⟩
      · omega
      · obtain ⟨l1, l3, t1, t3, e1, e3, hE, hL, ht, he⟩ := hel i _ t e hat
        have hsz := Fo.at_size hat
        have hi' : (i : Int) < (T.len : Int) := by omega
        have hi2 : (0 : Int) ≤ (i : Int) := by omega
        have HL := hide (hL.fr hF (by simp))
        have HT := hide (ht.fr hF (by simp))
        have HEl := hide (he.fr hF (by simp))
        have HW := hide hW
        have HFw := hide hF
        have HAt := hide hat
        obtain ⟨g0, g1, g2, g3, g4, g5, g6, g7, g8⟩ := hE.fr hF (by simp)
        dsimp only at g0 g1 g2 g3 g4 g5 g6 g7 g8
        clear hE hL ht he hW hF hat hel
        go_wp2_with fail
        clear g0 g1 g2 g3 g4 g5 g6 g7 g8
        have HFr := hide (Fr.of (below1 wr (.cells #[.int .i64 op, .int .u8 ty, .int .u32 aa, .int .u32 bb, .int .u64 bits, .slice l1 li.length l3, .slice t1 t.len t3, .slice e1 e.len e3, .bool has] 50)) [])
        have hF0 : wr.heap.size < (wr.alloc (.cells #[.int .i64 op, .int .u8 ty, .int .u32 aa, .int .u32 bb, .int .u64 bits, .slice l1 li.length l3, .slice t1 t.len t3, .slice e1 e.len e3, .bool has] 50)).heap.size := by simp
        have HE : Hid (Elt (wr.alloc (.cells #[.int .i64 op, .int .u8 ty, .int .u32 aa, .int .u32 bb, .int .u64 bits, .slice l1 li.length l3, .slice t1 t.len t3, .slice e1 e.len e3, .bool has] 50)) wr.heap.size 0 ⟨op, ty, aa, bb, bits, li, has⟩ (.slice l1 li.length l3) (.slice t1 t.len t3) (.slice e1 e.len e3)) := hide (by unfold Elt; simp [go_sem])
        have HL := hide ((unhide HL).fr (unhide HFr) (by simp))
        have HT := hide ((unhide HT).fr (unhide HFr) (by simp))
        have HEl := hide ((unhide HEl).fr (unhide HFr) (by simp))
        generalize wr.alloc (.cells #[.int .i64 op, .int .u8 ty, .int .u32 aa, .int .u32 bb, .int .u64 bits, .slice l1 li.length l3, .slice t1 t.len t3, .slice e1 e.len e3, .bool has] 50) = w1 at *
        have hdr : Fr [] w1 w1.drew := (Fr.refl _ _).drew
        have HFr := hide ((unhide HFr).trans hdr)
        have HE := hide ((unhide HE).fr hdr (by simp))
        have HL := hide ((unhide HL).fr hdr (by simp))
        have HT := hide ((unhide HT).fr hdr (by simp))
        have HEl := hide ((unhide HEl).fr hdr (by simp))
        have hF0 := Nat.lt_of_lt_of_le hF0 hdr.size
        clear hdr
        generalize hq : wr.heap.size = q at *
        have HE : Hid ((fun w' : World => w'.cell? ⟨q, 0, none⟩ = some (.int .i64 op) ∧ w'.cell? ⟨q, 1, none⟩ = some (.int .u8 ty) ∧ w'.cell? ⟨q, 2, none⟩ = some (.int .u32 aa) ∧ w'.cell? ⟨q, 3, none⟩ = some (.int .u32 bb) ∧ w'.cell? ⟨q, 4, none⟩ = some (.int .u64 bits) ∧ w'.cell? ⟨q, 5, none⟩ = some (.slice l1 li.length l3) ∧ w'.cell? ⟨q, 6, none⟩ = some (.slice t1 t.len t3) ∧ w'.cell? ⟨q, 7, none⟩ = some (.slice e1 e.len e3) ∧ w'.cell? ⟨q, 8, none⟩ = some (.bool has)) w1.drew) := hide (unhide HE)
        refine wp_region_held_drew (S := fun w' => w'.cell? ⟨q, 0, none⟩ = some (.int .i64 op) ∧ w'.cell? ⟨q, 1, none⟩ = some (.int .u8 ty) ∧ w'.cell? ⟨q, 2, none⟩ = some (.int .u32 aa) ∧ w'.cell? ⟨q, 3, none⟩ = some (.int .u32 bb) ∧ w'.cell? ⟨q, 4, none⟩ = some (.int .u64 bits) ∧ w'.cell? ⟨q, 5, none⟩ = some (.slice l1 li.length l3) ∧ w'.cell? ⟨q, 6, none⟩ = some (.slice t1 t.len t3) ∧ w'.cell? ⟨q, 7, none⟩ = some (.slice e1 e.len e3) ∧ w'.cell? ⟨q, 8, none⟩ = some (.bool has)) (by kernel_rfl) ?_ (fun hHeld => ?_)
        · (try dsimp only)
          exact unhide HE
        refine lst0 25 (by kernel_rfl) ?_
        refine tkA 0 12 1 ?_
        refine tkA 1 13 3 ?_
        refine tkA 2 14 7 ?_
        refine tkA 3 15 15 ?_
        refine tkA 4 16 31 ?_
        refine tkA 5 17 63 ?_
        refine tkA 6 18 127 ?_
        refine tkA 7 19 255 ?_
        refine tkA 8 20 511 ?_
        refine tkA 9 21 1023 ?_
        refine tkA 10 22 2047 ?_
        refine tkA 11 23 4095 ?_
        refine tkA 12 24 8191 ?_
        refine tkA 13 25 16383 ?_
        refine tkA 14 26 32767 ?_
        refine tkA 16 28 98303 ?_
        refine tkA 17 29 229375 ?_
        refine tkA 19 31 753663 ?_
        refine tkA 20 32 1802239 ?_
        refine rdA 15 1835007 (fun Kk hKk => ?_)
        go_simp
        refine (unhide HI t _ _ _ (by omega) (by omega) (unhide HT)).mono ?_
        rintro _ w3 ⟨p3, s3, rfl, hV, hF3⟩
        have HE : Hid ((fun w' : World => w'.cell? ⟨q, 0, none⟩ = some (.int .i64 op) ∧ w'.cell? ⟨q, 1, none⟩ = some (.int .u8 ty) ∧ w'.cell? ⟨q, 2, none⟩ = some (.int .u32 aa) ∧ w'.cell? ⟨q, 3, none⟩ = some (.int .u32 bb) ∧ w'.cell? ⟨q, 4, none⟩ = some (.int .u64 bits) ∧ w'.cell? ⟨q, 5, none⟩ = some (.slice l1 li.length l3) ∧ w'.cell? ⟨q, 6, none⟩ = some (.slice t1 t.len t3) ∧ w'.cell? ⟨q, 7, none⟩ = some (.slice e1 e.len e3) ∧ w'.cell? ⟨q, 8, none⟩ = some (.bool has)) w3) := hide (by obtain ⟨q0, q1, q2, q3, q4, q5, q6, q7, q8⟩ := unhide HE; exact ⟨hF3.keep q0 (by simp), hF3.keep q1 (by simp), hF3.keep q2 (by simp), hF3.keep q3 (by simp), hF3.keep q4 (by simp), hF3.keep q5 (by simp), hF3.keep q6 (by simp), hF3.keep q7 (by simp), hF3.keep q8 (by simp)⟩)
        have HL := hide ((unhide HL).fr hF3 (by simp))
        have HT := hide ((unhide HT).fr hF3 (by simp))
        have HEl := hide ((unhide HEl).fr hF3 (by simp))
        have HFr := hide ((unhide HFr).trans hF3)
        have HV3 := hide hV
        clear hV
        (try go_wp2_with fail)
        refine hKk.out _ _ ?_ (fun hHeld => ?_)
        · (try dsimp only)
          exact unhide HE
        clear hKk Kk
        (try simp only [List.setIfInBounds_toArray, List.set_cons_zero, List.set_cons_succ])
        refine rdA 18 2097151 (fun Kk hKk => ?_)
        go_simp
        refine (unhide HI e _ _ _ (by omega) (by omega) (unhide HEl)).mono ?_
        rintro _ w4 ⟨p4, s4, rfl, hV, hF4⟩
        have HE : Hid ((fun w' : World => w'.cell? ⟨q, 0, none⟩ = some (.int .i64 op) ∧ w'.cell? ⟨q, 1, none⟩ = some (.int .u8 ty) ∧ w'.cell? ⟨q, 2, none⟩ = some (.int .u32 aa) ∧ w'.cell? ⟨q, 3, none⟩ = some (.int .u32 bb) ∧ w'.cell? ⟨q, 4, none⟩ = some (.int .u64 bits) ∧ w'.cell? ⟨q, 5, none⟩ = some (.slice l1 li.length l3) ∧ w'.cell? ⟨q, 6, none⟩ = some (.slice t1 t.len t3) ∧ w'.cell? ⟨q, 7, none⟩ = some (.slice e1 e.len e3) ∧ w'.cell? ⟨q, 8, none⟩ = some (.bool has)) w4) := hide (by obtain ⟨q0, q1, q2, q3, q4, q5, q6, q7, q8⟩ := unhide HE; exact ⟨hF4.keep q0 (by simp), hF4.keep q1 (by simp), hF4.keep q2 (by simp), hF4.keep q3 (by simp), hF4.keep q4 (by simp), hF4.keep q5 (by simp), hF4.keep q6 (by simp), hF4.keep q7 (by simp), hF4.keep q8 (by simp)⟩)
        have HL := hide ((unhide HL).fr hF4 (by simp))
        have HT := hide ((unhide HT).fr hF4 (by simp))
        have HEl := hide ((unhide HEl).fr hF4 (by simp))
        have HFr := hide ((unhide HFr).trans hF4)
        have HV4 := hide hV
        clear hV
        (try go_wp2_with fail)
        have HV3 := hide ((unhide HV3).fr hF4 (by simp))
        refine hKk.out _ _ ?_ (fun hHeld => ?_)
        · (try dsimp only)
          exact unhide HE
        clear hKk Kk
        (try simp only [List.setIfInBounds_toArray, List.set_cons_zero, List.set_cons_succ])
        refine tkA 21 33 4194303 ?_
        have hs1 := (unhide HFw).size
        have hs2 := (unhide HFr).size
        obtain ⟨pp, ps, w5, hrun, hW5, hFr, hg5⟩ := Ry.app (t := 31) (ty := 73) (e2 := 0) Tryd.underlying31 iIn73 zero73 size73 rfl bytes73 rfl (unhide HW) (unhide HFr) hs1 (by omega) (hd := ⟨op, ty, aa, bb, bits, li, has⟩) (t' := t) (e' := e) (lv := .slice l1 li.length l3) (vt := .slice p3 t.len s3) (ve := .slice p4 e.len s4) rfl rfl rfl (fun q => q) (fun _ => ⟨(unhide HL).mono (fun b _ hb => .inl hb), (unhide HV3).mono (fun b _ hb => hb.elim (fun q => .inl q.1) (fun q => .inr (by have := hF0; omega))), (unhide HV4).mono (fun b _ hb => hb.elim (fun q => .inl q.1) (fun q => .inr (by have := hF3.size; have := hF0; omega)))⟩) rfl
        have HRun := hide hrun
        have HW5 := hide hW5
        have HF5 := hide (hFr W ((unhide HFw).trans (unhide HFr)) (Nat.le_refl _))
        have HE3 := HE
        have HK5 : Hid (∀ (p : Addr) (x : Value), w4.cell? p = some x → p.block = q → w5.cell? p = some x) := hide (fun p x hx hp => hg5 p x hx (by
          intro hv
          rw [hp] at hv
          have := ((unhide HW).own.lt q hv).2
          omega))
        clear hrun hW5 hFr hg5
        refine rdA 22 8388607 (fun Kk hKk => ?_)
        go_simp
        have hb5 := Fr.of (below1 w4 (.cells #[.int .i64 op, .int .u8 ty, .int .u32 aa, .int .u32 bb, .int .u64 bits, .slice l1 li.length l3, .slice p3 t.len s3, .slice p4 e.len s4, .bool has] 73)) []
        have HE : Hid ((fun w' : World => w'.cell? ⟨q, 0, none⟩ = some (.int .i64 op) ∧ w'.cell? ⟨q, 1, none⟩ = some (.int .u8 ty) ∧ w'.cell? ⟨q, 2, none⟩ = some (.int .u32 aa) ∧ w'.cell? ⟨q, 3, none⟩ = some (.int .u32 bb) ∧ w'.cell? ⟨q, 4, none⟩ = some (.int .u64 bits) ∧ w'.cell? ⟨q, 5, none⟩ = some (.slice l1 li.length l3) ∧ w'.cell? ⟨q, 6, none⟩ = some (.slice t1 t.len t3) ∧ w'.cell? ⟨q, 7, none⟩ = some (.slice e1 e.len e3) ∧ w'.cell? ⟨q, 8, none⟩ = some (.bool has)) (w4.alloc (.cells #[.int .i64 op, .int .u8 ty, .int .u32 aa, .int .u32 bb, .int .u64 bits, .slice l1 li.length l3, .slice p3 t.len s3, .slice p4 e.len s4, .bool has] 73))) := hide (by obtain ⟨q0, q1, q2, q3, q4, q5, q6, q7, q8⟩ := unhide HE; exact ⟨hb5.keep q0 (by simp), hb5.keep q1 (by simp), hb5.keep q2 (by simp), hb5.keep q3 (by simp), hb5.keep q4 (by simp), hb5.keep q5 (by simp), hb5.keep q6 (by simp), hb5.keep q7 (by simp), hb5.keep q8 (by simp)⟩)
        refine hKk.out _ _ ?_ (fun hHeld => ?_)
        · (try dsimp only)
          exact unhide HE
        clear hKk Kk
        (try simp only [List.setIfInBounds_toArray, List.set_cons_zero, List.set_cons_succ])
        clear hb5
        refine rdA 23 16777215 (fun Kk hKk => ?_)
        rw [if_pos (by rfl)]
        refine oper_app (by rfl) (by rfl) (unhide HRun) ?_
        have HE : Hid ((fun w' : World => w'.cell? ⟨q, 0, none⟩ = some (.int .i64 op) ∧ w'.cell? ⟨q, 1, none⟩ = some (.int .u8 ty) ∧ w'.cell? ⟨q, 2, none⟩ = some (.int .u32 aa) ∧ w'.cell? ⟨q, 3, none⟩ = some (.int .u32 bb) ∧ w'.cell? ⟨q, 4, none⟩ = some (.int .u64 bits) ∧ w'.cell? ⟨q, 5, none⟩ = some (.slice l1 li.length l3) ∧ w'.cell? ⟨q, 6, none⟩ = some (.slice t1 t.len t3) ∧ w'.cell? ⟨q, 7, none⟩ = some (.slice e1 e.len e3) ∧ w'.cell? ⟨q, 8, none⟩ = some (.bool has)) w5) := hide (by obtain ⟨q0, q1, q2, q3, q4, q5, q6, q7, q8⟩ := unhide HE3; exact ⟨(unhide HK5) _ _ q0 rfl, (unhide HK5) _ _ q1 rfl, (unhide HK5) _ _ q2 rfl, (unhide HK5) _ _ q3 rfl, (unhide HK5) _ _ q4 rfl, (unhide HK5) _ _ q5 rfl, (unhide HK5) _ _ q6 rfl, (unhide HK5) _ _ q7 rfl, (unhide HK5) _ _ q8 rfl⟩)
        refine hKk.out _ _ ?_ (fun hHeld => ?_)
        · (try dsimp only)
          exact unhide HE
        clear hKk Kk
        (try simp only [List.setIfInBounds_toArray, List.set_cons_zero, List.set_cons_succ])
        refine tkA 24 3 33554431 ?_
        refine wpAnyH_done (by kernel_rfl) ?_ _
        go_wp2_with fail
        refine ⟨⟨i + 1, cs ++ hcells ⟨op, ty, aa, bb, bits, li, has⟩ (.slice l1 li.length l3) (.slice p3 t.len s3) (.slice p4 e.len s4), by omega, by go_num, ?_, unhide HF5⟩, by simp [intOf]; omega⟩
        have hww := unhide HW5
        rw [← Fo.pre_succ (unhide HAt)] at hww
        (try rw [hpl] at hww)
        exact hww
    · obtain rfl : i = T.len := by omega
      rw [T.pre_all] at hW
      obtain ⟨p, s, rfl⟩ := hW.slice
      have HW := hide hW
      have HF := hide hF
      clear hW hF
      go_wp2_with fail
      go_ret
      exact ⟨p, s, rfl, (unhide HW).fov rfl, unhide HF⟩
theorem plain_any : ∀ n, PPlain n
  | 0 => fun _ _ _ _ h _ _ => absurd h (Nat.not_lt_zero _)
  | n + 1 => fun _ _ _ _ h hz hh => plain_step (hide (plain_any n)) h hz hh
end Go.Proofs.YtalahdkgigcpfaaDoor
namespace Go.Proofs.YtalahdkgigcpfaaDoor
open Go.RowKit

theorem Lk.ok : ∀ {T : Fo}, Lk T → Lok T
  | .nil, _ => trivial
  | .cons _ _ _ _, ⟨_, h1, h2, h3, h4⟩ => ⟨by omega, h2.ok, h3.ok, h4.ok⟩
theorem Lk.lw : ∀ {T : Fo}, Lk T → Lw T
  | .nil, _ => trivial
  | .cons _ _ _ _, ⟨h0, _, h2, h3, h4⟩ => ⟨h0, h2.lw, h3.lw, h4.lw⟩
theorem cs_reader {w : World} {a : Option Addr} {len cap : Nat} {xs : List Int} (h : Sl w a len cap xs) (hy : Byt xs) (hl : len ≤ 6000) (t : TypeId) : Cs w.heap.size a len cap xs 0 0 (w.alloc (.cells #[.slice a len cap, .int .i64 0, .int .i64 0] t)) := by
  refine ⟨⟨by simp [go_sem], by simp [go_sem], by simp [go_sem], fun o ho => ?_⟩, h.below (below1 _ _), fun p hp h0 => ?_, hy, Nat.zero_le _, hl⟩
  · exact ((room_cells (cs := [.slice a len cap, .int .i64 0, .int .i64 0]) (t := t) w 3 (by simp)) o ho).2
  · have := h.lt p hp h0
    omega
set_option maxHeartbeats 8000000 in
set_option maxRecDepth 100000 in
theorem reads_any {x1 : Option Addr} {x2 x3 : Nat} {ys : List Int} {sat : Bool} {W : World} (hm : Mk W) (h : Sl W x1 x2 x3 ys) (hy : Byt ys) : Calls Tryd.prog 3 #[.slice x1 x2 x3, .bool sat] W fun r W' => r = .returned (.bool true) ∧ Below W.heap.size W W' := by
  have HM := hide hm
  have HS := hide h
  have HY := hide hy
  have h3 := hm.three
  have hlen := h.2.2.1
  clear hm h hy
  go_enter Tryd.func3, Tryd.ntmps3
  go_wp2_with fail
  refine (awake_any (unhide HM)).mono ?_
  rintro _ w1 ⟨rfl, hb⟩
  have HS := hide ((unhide HS).below hb)
  have HM := hide ((unhide HM).below hb)
  have HF := hide (Fr.of hb [])
  clear hb
  by_cases hl : x2 ≤ 3000
  · have hl' : ¬ (3000 : Int) < (x2 : Int) := by omega
    go_wp2_with fail
    refine (new_any (unhide HS) (by omega) (unhide HY)).mono ?_
    rintro _ w2 ⟨c, y1, y3, rfl, hC, hc, hF⟩
    have HX0 := (unhide HS).lt
    have HS := hide ((unhide HS).fr hF (by simp))
    have HM := hide ((unhide HM).fr hF (by simp))
    have hz1 := (unhide HF).size
    have hzs := hF.size
    have hxl := (unhide HS).lt
    have HC := hide (hC.alloc (.cells #[.slice x1 x2 x3, .int .i64 0, .int .i64 0] 28))
    have HR := hide (cs_reader (unhide HS) (unhide HY) (show x2 ≤ 6000 by omega) 28)
    have HM := hide ((unhide HM).below (below1 w2 (.cells #[.slice x1 x2 x3, .int .i64 0, .int .i64 0] 28)))
    have HT : Hid (c < w2.heap.size ∧ (∀ p, x1 = some p → 0 < x2 → p.block ≠ c) ∧ (∀ p, y1 = some p → 0 < x2 → p.block < w2.heap.size)) := hide ⟨hC.1.lt, fun p hp h0 => by have := HX0 p hp h0; omega, hC.2.1.lt⟩
    have HF := hide (((unhide HF).trans hF).alloc (.cells #[.slice x1 x2 x3, .int .i64 0, .int .i64 0] 28))
    have hsz : (w2.alloc (.cells #[.slice x1 x2 x3, .int .i64 0, .int .i64 0] 28)).heap.size = w2.heap.size + 1 := by simp
    clear hC hF hxl HX0 HS
    go_wp2_with fail
    generalize w2.alloc (.cells #[.slice x1 x2 x3, .int .i64 0, .int .i64 0] 28) = w3 at *
    refine (expr_any (unhide HC) (unhide HM) (by omega)).mono ?_
    rintro _ w4 ⟨p, q, s, T1, t1, k1, e1, rfl, hD1, hV1, hN1, hC, hM, hF⟩
    have HD1 := hide hD1
    have HV1 := hide hV1
    have HN1 := hide hN1
    have HC := hide hC
    have HM := hide hM
    have HR := hide ((unhide HR).fr hF (by simp; have := (unhide HT).1; omega) (fun p hp h0 => by simp; exact (unhide HT).2.1 p hp h0))
    have HF := hide ((unhide HF).thenL (l := []) hF (by simp; omega))
    have hz4 := hF.size
    clear hD1 hV1 hN1 hC hM hF
    go_wp2_with fail
    refine (rexpr_any (unhide HR) (unhide HM) (by omega)).mono ?_
    rintro _ w5 ⟨p2, q2, s2, T2, t2, k2, e2, rfl, hD2, hV2, hN2, hR, hM, hF⟩
    obtain ⟨rfl, rfl, hv⟩ := (unhide HD1).det hD2
    have HC := hide ((unhide HC).fr hF (by simp; have := (unhide HT).1; omega) (fun p hp h0 => by simp; have := (unhide HT).2.2 p hp h0; omega))
    have hE : ∃ T : Fo, T.size ≤ 3000 ∧ Lok T ∧ Fov w5 (fun b => W.heap.size ≤ b) T (.slice p q s) ∧ Fov w5 (fun b => W.heap.size ≤ b) T (.slice p2 q2 s2) := by
      by_cases h0 : e1 = 0
      · have hv := hv h0
        obtain ⟨rfl, rfl⟩ : T1 = T2 ∧ t1 = t2 := Prod.mk.inj hv
        have hr := sq_red (sat := sat) ys.length ys (Nat.le_refl _) (unhide HY) 0 false (by rw [← h0]; exact (hD2.live rfl).2.symm) (by decide)
        have hle := (gq_sq sat 0 false).len ys
        have hl2 : ys.length = x2 := (unhide HC).2.1.1
        have hval := hD2.val rfl h0
        rw [List.drop_zero] at hval
        have hz := hr.size
        have hk := hr.lk
        rw [← hval] at hz hk
        dsimp only at hz hk
        exact ⟨T1, by omega, hk.ok, ((unhide HV1 h0).fr hF (by simp; omega)).mono (fun b _ hb => by omega), (hV2 h0).mono (fun b _ hb => by omega)⟩
      · rw [unhide HN1 h0, hN2 h0]
        exact ⟨.nil, by decide, trivial, fov_nil _ _, fov_nil _ _⟩
    obtain ⟨T, hTz, hTk, hT1, hT2⟩ := hE
    have HV1 := hide hT1
    have HV2 := hide hT2
    have HLk := hide hTk
    have HF := hide ((unhide HF).thenL (l := []) hF (by simp; omega))
    have HB := hide (show w5.cell? ⟨w2.heap.size, 1, none⟩ = some (.int .i64 (k1 : Int)) ∧ w5.cell? ⟨w2.heap.size, 2, none⟩ = some (.int .i64 e1) from ⟨hR.1.2.1, hR.1.2.2.1⟩)
    clear hD2 hV2 hN2 hR hM hF hv hT1 hT2 hTk HD1 HN1 HR HM
    have HV1 := hide ((unhide HV1).fr (Fr.of ((Below.refl w5.heap.size w5).drew) []) (by simp))
    have HV2 := hide ((unhide HV2).fr (Fr.of ((Below.refl w5.heap.size w5).drew) []) (by simp))
    have HC := hide (unhide HC).drew
    have HF := hide (unhide HF).drew
    have HB := hide (show w5.drew.cell? ⟨w2.heap.size, 1, none⟩ = some (.int .i64 (k1 : Int)) ∧ w5.drew.cell? ⟨w2.heap.size, 2, none⟩ = some (.int .i64 e1) from unhide HB)
    go_wp2_with fail
    refine wp_region_held_drew (S := fun w' => w'.cell? ⟨w2.heap.size, 1, none⟩ = some (.int .i64 (k1 : Int)) ∧ w'.cell? ⟨w2.heap.size, 2, none⟩ = some (.int .i64 e1)) (by kernel_rfl) ?_ (fun hHeld => ?_)
    · (try dsimp only)
      exact unhide HB
    refine lst0 29 (by kernel_rfl) ?_
    refine tkA 0 25 1 ?_
    refine tkA 2 27 5 ?_
    refine rdA 1 7 (fun Kk hKk => ?_)
    go_simp
    refine (plain_any (T.size + 1) T (fun b => W.heap.size ≤ b) (.slice p q s) _ (Nat.lt_succ_self _) (by omega) (unhide HV1)).mono ?_
    rintro _ w6 ⟨px, sx, rfl, hV, hF⟩
    have HB := hide (show w6.cell? ⟨w2.heap.size, 1, none⟩ = some (.int .i64 (k1 : Int)) ∧ w6.cell? ⟨w2.heap.size, 2, none⟩ = some (.int .i64 e1) from ⟨hF.keep (unhide HB).1 (by simp), hF.keep (unhide HB).2 (by simp)⟩)
    have HV1 := hide hV
    have HV2 := hide ((unhide HV2).fr hF (by simp))
    have HC := hide ((unhide HC).fr hF (by simp) (by simp))
    have HF := hide ((unhide HF).trans hF)
    clear hV hF
    (try go_wp2_with fail)
    refine hKk.out _ _ ?_ (fun hHeld => ?_)
    · (try dsimp only)
      exact unhide HB
    clear hKk Kk
    (try simp only [List.setIfInBounds_toArray, List.set_cons_zero, List.set_cons_succ])
    refine rdA 3 15 (fun Kk hKk => ?_)
    go_simp
    refine (same_any (T.size + 1) T _ _ _ _ _ (Nat.lt_succ_self _) (by omega) (unhide HLk) (unhide HV1) (unhide HV2)).mono ?_
    rintro _ w7 ⟨rfl, hF⟩
    have HB := hide (show w7.cell? ⟨w2.heap.size, 1, none⟩ = some (.int .i64 (k1 : Int)) ∧ w7.cell? ⟨w2.heap.size, 2, none⟩ = some (.int .i64 e1) from ⟨hF.keep (unhide HB).1 (by simp), hF.keep (unhide HB).2 (by simp)⟩)
    have HC := hide ((unhide HC).fr hF (by simp) (by simp))
    have HF := hide ((unhide HF).trans hF)
    clear hF HV1 HV2
    (try go_wp2_with fail)
    refine hKk.out _ _ ?_ (fun hHeld => ?_)
    · (try dsimp only)
      exact unhide HB
    clear hKk Kk
    (try simp only [List.setIfInBounds_toArray, List.set_cons_zero, List.set_cons_succ])
    refine tkA 4 29 31 ?_
    refine tkA 5 30 63 ?_
    refine tkA 7 32 191 ?_
    refine tkA 8 33 447 ?_
    refine tkA 9 34 959 ?_
    refine tkA 10 35 1983 ?_
    refine rdA 6 2047 (fun Kk hKk => ?_)
    go_simp
    refine (err_any (unhide HC)).mono ?_
    rintro _ w8 ⟨rfl, hww⟩
    obtain rfl : w7 = w8 := hww.symm
    clear hww
    (try go_wp2_with fail)
    refine hKk.out _ _ ?_ (fun hHeld => ?_)
    · (try dsimp only)
      exact unhide HB
    clear hKk Kk
    (try simp only [List.setIfInBounds_toArray, List.set_cons_zero, List.set_cons_succ])
    refine tkA 11 36 4095 ?_
    refine tkA 12 37 8191 ?_
    refine tkA 13 38 16383 ?_
    refine tkA 14 39 32767 ?_
    refine tkA 16 41 98303 ?_
    refine tkA 17 42 229375 ?_
    refine tkA 18 43 491519 ?_
    refine tkA 19 44 1015807 ?_
    refine rdA 15 1048575 (fun Kk hKk => ?_)
    go_simp
    refine (at_any (unhide HC)).mono ?_
    rintro _ w9 ⟨rfl, hww⟩
    obtain rfl : w7 = w9 := hww.symm
    clear hww
    (try go_wp2_with fail)
    refine hKk.out _ _ ?_ (fun hHeld => ?_)
    · (try dsimp only)
      exact unhide HB
    clear hKk Kk
    (try simp only [List.setIfInBounds_toArray, List.set_cons_zero, List.set_cons_succ])
    refine tkA 20 45 2097151 ?_
    refine tkA 21 46 4194303 ?_
    refine tkA 22 47 8388607 ?_
    refine tkA 23 48 16777215 ?_
    refine rdA 24 33554431 (fun Kk hKk => ?_)
    go_simp
    refine expr_nil.mono ?_
    rintro _ w10 ⟨rfl, hww⟩
    obtain rfl : w7 = w10 := hww.symm
    clear hww
    (try go_wp2_with fail)
    refine hKk.out _ _ ?_ (fun hHeld => ?_)
    · (try dsimp only)
      exact unhide HB
    clear hKk Kk
    (try simp only [List.setIfInBounds_toArray, List.set_cons_zero, List.set_cons_succ])
    refine tkA 25 50 67108863 ?_
    refine tkA 26 51 134217727 ?_
    refine tkA 27 52 268435455 ?_
    refine tkA 28 4 536870911 ?_
    refine wpAnyH_done (by kernel_rfl) ?_ _
    go_wp2_with fail
    go_ret
    exact ⟨rfl, (unhide HF).nil⟩
  · have hl' : (3000 : Int) < (x2 : Int) := by omega
    go_wp2_with fail
    go_ret
    exact ⟨rfl, (unhide HF).nil⟩
end Go.Proofs.YtalahdkgigcpfaaDoor
namespace Go.Proofs.YtalahdkgigcpfaaDoor
open Go.RowKit

set_option maxHeartbeats 8000000 in
set_option maxRecDepth 100000 in
theorem keeps_long {a : Option Addr} {len cap : Nat} {b : Option Addr} {lem cbp : Nat} {cut : Int} {W : World} (hm : Mk W) (h : 3000 < len ∨ ¬ 3000 < len ∧ 100 < lem ∨ ¬ 3000 < len ∧ ¬ 100 < lem ∧ cut < 0) :
    Calls Tryd.prog 5 #[.slice a len cap, .slice b lem cbp, .int .i64 cut] W fun r W' => r = .returned (.bool true) ∧ Below W.heap.size W W' := by
  have HM := hide hm
  clear hm
  go_enter Tryd.func5, Tryd.ntmps5
  go_wp2_with fail
  refine (awake_any (unhide HM)).mono ?_
  rintro _ w1 ⟨rfl, hb⟩
  have HB := hide hb
  clear hb
  rcases h with h | ⟨h1, h2⟩ | ⟨h1, h2, h3⟩
  · have h' : (3000 : Int) < len := by omega
    go_wp2_with fail
    go_ret
    exact ⟨rfl, unhide HB⟩
  · have h' : ¬ (3000 : Int) < len := by omega
    have h3 : (100 : Int) < lem := by omega
    go_wp2_with fail
    go_ret
    exact ⟨rfl, unhide HB⟩
  · have h' : ¬ (3000 : Int) < len := by omega
    have h4 : ¬ (100 : Int) < lem := by omega
    go_wp2_with fail
    go_ret
    exact ⟨rfl, unhide HB⟩
set_option maxHeartbeats 8000000 in
set_option maxRecDepth 100000 in
theorem keeps_any {x1 : Option Addr} {x2 x3 : Nat} {ys : List Int} {z1 : Option Addr} {z2 z3 : Nat} {ms : List Int} {cut : Int} {W : World} (hm : Mk W) (hS : Sl W x1 x2 x3 ys) (hy : Byt ys) (hl : x2 ≤ 3000) (hT : Sl W z1 z2 z3 ms) (hz : Byt ms) (hl2 : z2 ≤ 100) (hc : 0 ≤ cut) (hc2 : cut ≤ 9223372036854775807) :
    Calls Tryd.prog 5 #[.slice x1 x2 x3, .slice z1 z2 z3, .int .i64 cut] W fun r W' => r = .returned (.bool true) ∧ Below W.heap.size W W' := by
  have HM := hide hm
  have HM0 := hide hm
  have HSa := hide hS
  have HSb := hide hT
  have HYa := hide hy
  have HYb := hide hz
  have h3 := hm.three
  have h1' : ¬ (3000 : Int) < x2 := by omega
  have h2' : ¬ (100 : Int) < z2 := by omega
  have h3' : ¬ cut < 0 := by omega
  clear hS hT hy hz hm
  go_enter Tryd.func5, Tryd.ntmps5
  go_wp2_with fail
  refine (awake_any (unhide HM)).mono ?_
  rintro _ w1 ⟨rfl, hb⟩
  have HSa := hide ((unhide HSa).below hb)
  have HSb := hide ((unhide HSb).below hb)
  have HM := hide ((unhide HM).below hb)
  have HF := hide (Fr.of hb [])
  clear hb
  go_wp2_with fail
  refine (new_any (unhide HSa) (by omega) (unhide HYa)).mono ?_
  rintro _ w2 ⟨c, y1, y3, rfl, hC, hc, hF⟩
  have hxa := (unhide HSa).lt
  have hxb := (unhide HSb).lt
  have HSa := hide ((unhide HSa).fr hF (by simp))
  have HSb := hide ((unhide HSb).fr hF (by simp))
  have HM := hide ((unhide HM).fr hF (by simp))
  have hz1 := (unhide HF).size
  have HN := hide (show (∀ p, x1 = some p → 0 < x2 → p.block ≠ c) ∧ (∀ p, z1 = some p → 0 < z2 → p.block ≠ c) from ⟨fun p hp h0 => by have := hxa p hp h0; omega, fun p hp h0 => by have := hxb p hp h0; omega⟩)
  clear hxa hxb
  have HF := hide ((unhide HF).trans hF)
  have HC := hide hC
  have hc' : W.heap.size ≤ c := by omega
  clear hC hF hc
  go_wp2_with fail
  refine (expr_any (unhide HC) (unhide HM) (by omega)).mono ?_
  rintro _ w3 ⟨p, q, s, T, t, k1, e1, rfl, hD, hV, hN, hC, hM, hF⟩
  have HSa := hide ((unhide HSa).fr hF (fun p hp h0 => by simp; exact (unhide HN).1 p hp h0))
  have HSb := hide ((unhide HSb).fr hF (fun p hp h0 => by simp; exact (unhide HN).2 p hp h0))
  have HF := hide ((unhide HF).thenL (l := []) hF (by simp; omega))
  have HC := hide hC
  have HM := hide hM
  clear hC hM hF HN
  obtain ⟨l1, l2⟩ := hD.live rfl
  have lv := hD.val rfl
  rw [List.drop_zero] at l1 l2 lv
  rw [Nat.zero_add] at l1
  clear hD
  go_wp2_with fail
  refine (err_any (unhide HC)).mono ?_
  rintro _ wx ⟨rfl, hww⟩
  obtain rfl : w3 = wx := hww.symm
  clear hww
  by_cases he : e1 = 0
  · have he' : (e1 != 0) = false := by simp [he]
    have hV := hV he
    have hr := sq_red (sat := true) ys.length ys (Nat.le_refl _) (unhide HYa) 0 false (by rw [← he]; exact l2.symm) (by decide)
    have hle := (gq_sq true 0 false).len ys
    have hlx : ys.length = x2 := (unhide HSa).1
    have hval := lv he
    have hzz := hr.size
    have hk := hr.lk
    have hdp := hr.dep
    have hla := (hr.last rfl).2
    rw [← hval] at hzz hk hdp
    rw [← l1] at hzz hle hla
    dsimp only at hzz hk hdp
    obtain ⟨m, hk1⟩ : ∃ m, k1 = m + 1 := ⟨k1 - 1, by omega⟩
    rw [show k1 - 1 = m by omega] at hla
    obtain ⟨bb, off, rfl, hcell⟩ : ∃ bb off, x1 = some ⟨bb, off, none⟩ ∧ ∀ j, j < x2 → w3.cell? ⟨bb, off + j, none⟩ = some (.int .u8 (ys.getD j 0)) := by
      rcases (unhide HSa).2.2.2 with ⟨_, h2, _⟩ | h2
      · omega
      · exact h2
    have hcap := (unhide HSa).2.1
    have c11 := hcell m (by omega)
    rw [hla] at c11
    have iw : IntKind.i64.wrap ((k1 : Int) - 1) = (m : Int) := by rw [i64_id (by omega) (by omega)]; omega
    have g1 : ¬ (k1 : Int) < 1 := by omega
    have g2 : ¬ (x2 : Int) < (k1 : Int) := by omega
    have g3 : (m : Int) < (x2 : Int) := by omega
    have g4 : ¬ (64 : Int) < (T.dep : Int) := by omega
    have g5 : ¬ (k1 : Int) ≤ (T.size : Int) := by omega
    have HV := hide hV
    have HLk := hide hk
    have HQ : Hid (∀ r : List Int, (sq true 0 false (ys.take k1 ++ r)) = ((T, t), k1, 0)) := hide fun r => by
      rw [(gq_sq true 0 false).joined (by rw [← l2]; exact he) (by rw [← l1]; exact Nat.le_refl _) r]
      exact Prod.ext hval.symm (Prod.ext l1.symm (by rw [← l2]; exact he))
    have HQ2 : Hid (∀ j, j < k1 → (sq true 0 false (ys.take j)).2.2 = 100) := hide fun j hj => (gq_sq true 0 false).cut ys j (by rw [← l2]; exact he) (by rw [← l1]; exact hj)
    have hlx' := hlx
    clear hV
    clear hV hr hle hval hk hdp hla hcell l1 l2 lv hN hk1
    go_wp2_with fail
    refine (at_any (unhide HC)).mono ?_
    rintro _ wx ⟨rfl, hww⟩
    obtain rfl : w3 = wx := hww.symm
    clear hww
    go_wp2_with fail
    refine (depth_any (unhide HLk).lw (unhide HV) (by omega) (unhide HM)).mono ?_
    rintro _ w4 ⟨rfl, hb⟩
    have HF := hide ((unhide HF).bel hb)
    have HM := hide ((unhide HM).below hb)
    have HV := hide ((unhide HV).fr (Fr.of hb []) (by simp))
    have HSa := hide ((unhide HSa).below hb)
    have HSb := hide ((unhide HSb).below hb)
    clear hb c11
    go_wp2_with fail
    refine (size_any (unhide HLk).lw (unhide HV) (by omega)).mono ?_
    rintro _ w5 ⟨rfl, hb⟩
    have HF := hide ((unhide HF).bel hb)
    have HM := hide ((unhide HM).below hb)
    have HV := hide ((unhide HV).fr (Fr.of hb []) (by simp))
    have hSa := (unhide HSa).below hb
    have hSb := (unhide HSb).below hb
    clear hb
    have hPa := hSa.part (k := 0) (n := k1) (by omega) x3 (by omega)
    rw [Nat.add_zero, List.drop_zero] at hPa
    obtain ⟨a1, cap1, w6, q1, q2, q3, q4⟩ := app_run (ow_lit w5 [] 0 rfl (by omega)) (by simp) (hPa.below (below1 w5 (.cells (bys []).toArray 5))) (by simp; omega)
    have e1 : List.length ([] : List Int) + k1 = k1 := by simp
    rw [e1] at q1 q2 q3
    rw [List.nil_append] at q2 q3
    have b3 : Below w5.heap.size w5 w6 := (below1 w5 (.cells (bys []).toArray 5)).trans q4
    obtain ⟨a2, cap2, w7, p1, p2, p3, p4⟩ := app_run q2 b3.size (hSb.below b3) (by rw [List.length_take]; omega)
    have e2 : (ys.take k1).length = k1 := by rw [List.length_take]; omega
    rw [e2] at p1 p2 p3
    have b4 : Below w5.heap.size w5 w7 := b3.trans p4
    have HR1 : Hid ((Builtin.append_ #[22, 22] 22 #[.slice (some ⟨w5.heap.size, 0, none⟩) 0 0, .slice (some ⟨bb, off, none⟩) k1 x3]).run Tryd.prog (w5.alloc (.cells #[] 5)) = .ok (.slice a1 k1 cap1) w6) := hide q1
    have HR2 := hide p1
    have HF := hide ((unhide HF).bel b4)
    have HM := hide ((unhide HM).below b4)
    have HV := hide ((unhide HV).fr (Fr.of b4 []) (by simp))
    have HSa := hide (hSa.below b4)
    have HN4 := hide (new_any p3 (by omega) (fun x hx => by rcases List.mem_append.1 hx with h | h; exact unhide HYa x (List.mem_of_mem_take h); exact unhide HYb x h))
    clear hSa hSb hPa q1 q2 q3 q4 p1 p2 p3 p4 b3 b4 e1 e2
    go_wp2_with (at_builtin; first | refine wpList_app (w := w5.alloc (.cells #[] 5)) (by rfl) rfl rfl (unhide HR1) ?_ | refine wpList_app (w := w6) (by rfl) rfl rfl (unhide HR2) ?_)
    refine (unhide HN4).mono ?_
    rintro _ w8 ⟨d, u1, u3, rfl, hC, hd, hF⟩
    have hxa := (unhide HSa).lt
    have HV := hide ((unhide HV).mono (P' := fun b => b < w7.heap.size) (fun b h _ => h))
    have HSa := hide ((unhide HSa).fr hF (by simp))
    have HM := hide ((unhide HM).fr hF (by simp))
    have HV := hide ((unhide HV).fr hF (by simp))
    have hzd := (unhide HF).size
    have HNd := hide (show (0 < x2 → bb ≠ d) from fun h0 => by have := hxa _ rfl h0; simp only at this; omega)
    have HF := hide ((unhide HF).trans hF)
    have HC2 := hide hC
    have hd' : W.heap.size ≤ d := by omega
    clear hC hF HN4 HR1 HR2
    go_wp2_with fail
    refine (expr_any (unhide HC2) (unhide HM) (by omega)).mono ?_
    rintro _ w9 ⟨p2, q2, s2, T2, t2, k2, e2, rfl, hD, hV, -, hC, hM, hF⟩
    obtain ⟨l1, l2⟩ := hD.live rfl
    have lv := hD.val rfl
    rw [List.drop_zero, unhide HQ] at l1 l2 lv
    dsimp only at l1 l2 lv
    rw [Nat.zero_add] at l1
    subst l1; subst l2
    obtain ⟨rfl, rfl⟩ : T2 = T ∧ t2 = t := Prod.mk.inj (lv rfl)
    have HSa := hide ((unhide HSa).fr hF (fun p hp h0 => by injection hp with hp; subst hp; simp; exact unhide HNd h0))
    have HV := hide ((unhide HV).fr hF (by simp; omega))
    have HV2 := hide (hV rfl)
    have HF := hide ((unhide HF).thenL (l := []) hF (by simp; omega))
    have HC2 := hide hC
    clear hD hV hC hM hF lv HQ HM
    go_wp2_with fail
    refine (err_any (unhide HC2)).mono ?_
    rintro _ wx ⟨rfl, hww⟩
    obtain rfl : w9 = wx := hww.symm
    clear hww
    go_wp2_with fail
    refine (at_any (unhide HC2)).mono ?_
    rintro _ wx ⟨rfl, hww⟩
    obtain rfl : w9 = wx := hww.symm
    clear hww
    go_wp2_with fail
    refine (plain_any (T2.size + 1) T2 _ (.slice p2 q2 s2) _ (Nat.lt_succ_self _) (by omega) (unhide HV2)).mono ?_
    rintro _ w10 ⟨px, sx, rfl, hV, hF⟩
    have HV2 := hide hV
    have HV := hide ((unhide HV).fr hF (by simp))
    have HSa := hide ((unhide HSa).fr hF (by simp))
    have HF := hide ((unhide HF).trans hF)
    clear hV hF HC2
    go_wp2_with fail
    refine (plain_any (T2.size + 1) T2 _ (.slice p q s) _ (Nat.lt_succ_self _) (by omega) (unhide HV)).mono ?_
    rintro _ w11 ⟨py, sy, rfl, hV, hF⟩
    have HV := hide hV
    have HV2 := hide ((unhide HV2).fr hF (by simp))
    have HSa := hide ((unhide HSa).fr hF (by simp))
    have HF := hide ((unhide HF).trans hF)
    clear hV hF
    go_wp2_with fail
    refine (same_any (T2.size + 1) T2 _ _ _ _ _ (Nat.lt_succ_self _) (by omega) (unhide HLk).ok (unhide HV2) (unhide HV)).mono ?_
    rintro _ w12 ⟨rfl, hF⟩
    have hSa := (unhide HSa).fr hF (by simp)
    have HF := hide ((unhide HF).trans hF)
    clear hF HV HV2
    obtain ⟨j, hj, hjl⟩ : ∃ j : Nat, Int.tmod cut (k2 : Int) = (j : Int) ∧ j < k2 := by
      refine ⟨(Int.tmod cut (k2 : Int)).toNat, ?_, ?_⟩
      · rw [Int.toNat_of_nonneg (Int.tmod_nonneg _ hc)]
      · have := Int.tmod_lt_of_pos cut (show (0 : Int) < (k2 : Int) by omega)
        have := Int.tmod_nonneg (k2 : Int) hc
        omega
    have ij : IntKind.i64.wrap (j : Int) = (j : Int) := i64_id (by omega) (by omega)
    have kz : ¬ (k2 : Int) = 0 := by omega
    have hPa := hSa.part (k := 0) (n := j) (by omega) x3 (by omega)
    rw [Nat.add_zero, List.drop_zero] at hPa
    have HNn := hide (new_any hPa (by omega) (fun x hx => unhide HYa x (List.mem_of_mem_take hx)))
    clear hPa hSa
    go_wp2_with fail
    refine (unhide HNn).mono ?_
    rintro _ w13 ⟨f, u5, u6, rfl, hC, hf, hF⟩
    have hzf := (unhide HF).size
    have HF := hide ((unhide HF).trans hF)
    have HC := hide hC
    have HM := hide ((unhide HM0).fr (unhide HF) (by simp))
    clear hC hF HNn
    go_wp2_with fail
    refine (expr_any (unhide HC) (unhide HM) (by omega)).mono ?_
    rintro _ w14 ⟨p5, q5, s5, T5, t5, k5, e5, rfl, hD, -, hN, hC, hM, hF⟩
    obtain ⟨l1, l2⟩ := hD.live rfl
    rw [List.drop_zero, unhide HQ2 j hjl] at l2
    subst l2
    have hn := hN (by decide)
    injection hn with n1 n2 n3
    subst n1; subst n2; subst n3
    have HF := hide ((unhide HF).thenL (l := []) hF (by simp; omega))
    have HC := hide hC
    clear hD hN hC hM hF l1
    go_wp2_with fail
    refine (err_any (unhide HC)).mono ?_
    rintro _ wx ⟨rfl, hww⟩
    obtain rfl : w14 = wx := hww.symm
    clear hww
    go_wp2_with fail
    go_ret
    exact ⟨rfl, (unhide HF).nil⟩
  · have he' : (e1 != 0) = true := by simp [he]
    have hn := hN he
    injection hn with n1 n2 n3
    subst n1; subst n2; subst n3
    go_wp2_with fail
    go_ret
    exact ⟨rfl, (unhide HF).nil⟩
end Go.Proofs.YtalahdkgigcpfaaDoor
