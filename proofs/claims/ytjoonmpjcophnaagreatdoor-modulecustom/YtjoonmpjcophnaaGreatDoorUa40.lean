/- PcE, MdI, MdJ. -/
import Derived.Test.YtjoonmpjcophnaaGreatDoorUa37
import Derived.Test.YtjoonmpjcophnaaGreatDoorUa38
namespace Go.Proofs.YtjoonmpjcophnaaGreatDoor
open Go.RowKit

section
variable {c : Nat} {a : Option Addr} {len cap k : Nat} {xs : List Int} {e : Int} {W : World} {sat : Bool} {q : Nat}
set_option maxHeartbeats 4000000 in
set_option maxRecDepth 100000 in
theorem clos127_any (h : Cs c a len cap xs k e W) (hm : Mk W) (hc : 4 ≤ c) (hB : Tab W q [.pointer (some ⟨c, 0, none⟩), .bool sat]) (hql : q < W.heap.size) (hqc : q ≠ c) :
    Calls Tryz.prog 127 #[.pointer (some ⟨q, 0, none⟩)] W fun r W' => ∃ y cs k' e', r = .returned (.agg cs.toArray) ∧ Rd (rDa sat) xs k e y k' e' ∧ eDa.rep' W' (fun b => W.heap.size ≤ b) e' y cs ∧ Cs c a len cap xs k' e' W' ∧ Mk W' ∧ Tab W' q [.pointer (some ⟨c, 0, none⟩), .bool sat] ∧ Fr [c] W W' := by
  have hcl := h.1.lt
  have HAl : ∀ p, a = some p → 0 < len → p.block < W.heap.size := h.2.1.lt
  have hb := below1 W (.cells #[.int .u32 0, .slice none 0 0, .slice none 0 0] 121)
  have HR : Hid (Room W.heap.size 3 (W.alloc (.cells #[.int .u32 0, .slice none 0 0, .slice none 0 0] 121)).drew) := hide ((room_cells (cs := [.int .u32 0, .slice none 0 0, .slice none 0 0]) W 3 (by decide)).drew)
  have H := hide ((h.bel hb).drew)
  have HM := hide ((hm.below hb).below ((Below.refl _ _).drew))
  have HF := hide ((Fr.of hb [c]).drew)
  have HB := hide ((hB.below hb).below ((Below.refl _ _).drew))
  have hs0 : W.heap.size < (W.alloc (.cells #[.int .u32 0, .slice none 0 0, .slice none 0 0] 121)).drew.heap.size := by simp [go_sem]
  clear h hm hB hb
  go_enter Tryz.func127, Tryz.ntmps127
  go_wp2_with fail
  refine wp_region_held_drew (S := fun w' => w'.cell? ⟨q, 0, none⟩ = some (.pointer (some ⟨c, 0, none⟩)) ∧ w'.cell? ⟨q, 1, none⟩ = some (.bool sat) ∧ Room W.heap.size 3 w') (by kernel_rfl) ?_ (fun hHeld => ?_)
  · (try dsimp only)
    exact ⟨(unhide HB) 0 _ rfl, (unhide HB) 1 _ rfl, unhide HR⟩
  refine lst0 13 (by kernel_rfl) ?_
  refine tkA 0 2 1 ?_
  refine tkA 1 3 3 ?_
  refine tkA 3 5 11 ?_
  refine tkA 5 7 43 ?_
  refine tkA 6 8 107 ?_
  refine tkA 7 9 235 ?_
  refine tkA 8 10 491 ?_
  refine rdA 2 495 (fun Kk hKk => ?_)
  go_simp
  refine (p_u32 (unhide H)).mono ?_
  rintro _ w1 ⟨y1, k1, e1, rfl, hD, hlt1, hC, hF⟩
  have HD1 := hide hD
  have HB := hide ((unhide HB).fr hF (by simp; omega))
  have HR := hide ((unhide HR).fr hF (by simp; omega))
  have H := hide hC
  have HM := hide ((unhide HM).fr hF (by simp; omega))
  have hs1 := hF.size
  have HF := hide ((unhide HF).trans hF)
  clear hC hD hF
  (try go_wp2_with fail)
  refine hKk.out _ _ ?_ (fun hHeld => ?_)
  · (try dsimp only)
    exact ⟨(unhide HB) 0 _ rfl, (unhide HB) 1 _ rfl, unhide HR⟩
  clear hKk Kk
  (try simp only [List.setIfInBounds_toArray, List.set_cons_zero, List.set_cons_succ])
  refine rdA 4 511 (fun Kk hKk => ?_)
  go_simp
  refine (p_expr (unhide H) (unhide HM) hc).mono ?_
  rintro _ w2 ⟨p2, q2, s2, T2, k2, e2, rfl, hD, hT, hC, hM, hF⟩
  have HD2 := hide hD
  have HT2 := hide (fun q => (hT q).mono (fun b _ hb => (show W.heap.size < b by omega)))
  have HB := hide ((unhide HB).fr hF (by simp; omega))
  have HR := hide ((unhide HR).fr hF (by simp; omega))
  have H := hide hC
  have HM := hide hM
  have hs2 := hF.size
  have HF := hide ((unhide HF).trans hF)
  clear hC hD hF hM hT
  (try go_wp2_with fail)
  refine hKk.out _ _ ?_ (fun hHeld => ?_)
  · (try dsimp only)
    exact ⟨(unhide HB) 0 _ rfl, (unhide HB) 1 _ rfl, unhide HR⟩
  clear hKk Kk
  (try simp only [List.setIfInBounds_toArray, List.set_cons_zero, List.set_cons_succ])
  refine rdA 9 1023 (fun Kk hKk => ?_)
  go_simp
  refine (p_u32 (unhide H)).mono ?_
  rintro _ w3 ⟨y3, k3, e3, rfl, hD, hlt3, hC, hF⟩
  have HD3 := hide hD
  have HT2 := hide (fun q => (unhide HT2 q).fr hF (by simp; omega))
  have HB := hide ((unhide HB).fr hF (by simp; omega))
  have HR := hide ((unhide HR).fr hF (by simp; omega))
  have H := hide hC
  have HM := hide ((unhide HM).fr hF (by simp; omega))
  have hs3 := hF.size
  have HF := hide ((unhide HF).trans hF)
  clear hC hD hF
  obtain ⟨n3, rfl⟩ := Int.eq_ofNat_of_zero_le hlt3.1
  (try go_wp2_with fail)
  refine hKk.out _ _ ?_ (fun hHeld => ?_)
  · (try dsimp only)
    exact ⟨(unhide HB) 0 _ rfl, (unhide HB) 1 _ rfl, unhide HR⟩
  clear hKk Kk
  (try simp only [List.setIfInBounds_toArray, List.set_cons_zero, List.set_cons_succ])
  refine rdA 10 2047 (fun Kk hKk => ?_)
  go_simp
  refine (p_take (n := n3) (unhide H) (by omega)).mono ?_
  rintro _ w4 ⟨x4a, x4b, x4c, y4, k4, e4, rfl, hD, -, hT, hC, hF⟩
  have HD4 := hide hD
  have HT4 := hide (hT.mono (fun b _ hb => (show W.heap.size < b by omega)))
  have HT2 := hide (fun q => (unhide HT2 q).fr hF (by simp; omega))
  have HB := hide ((unhide HB).fr hF (by simp; omega))
  have HR := hide ((unhide HR).fr hF (by simp; omega))
  have H := hide hC
  have HM := hide ((unhide HM).fr hF (by simp; omega))
  have hs4 := hF.size
  have HF := hide ((unhide HF).trans hF)
  clear hC hD hF hT
  (try go_wp2_with fail)
  refine hKk.out _ _ ?_ (fun hHeld => ?_)
  · (try dsimp only)
    exact ⟨(unhide HB) 0 _ rfl, (unhide HB) 1 _ rfl, unhide HR⟩
  clear hKk Kk
  (try simp only [List.setIfInBounds_toArray, List.set_cons_zero, List.set_cons_succ])
  refine tkA 11 13 4095 ?_
  refine rdA 12 8191 (fun Kk hKk => ?_)
  obtain ⟨⟨u0, r0⟩, g0⟩ := unhide HR 0 (by decide)
  obtain ⟨⟨u1, r1⟩, g1⟩ := unhide HR 1 (by decide)
  obtain ⟨⟨u2, r2⟩, g2⟩ := unhide HR 2 (by decide)
  have fZ : Fr [W.heap.size] w4 (((w4.setCell ⟨W.heap.size, 0, none⟩ (.int .u32 y1)).setCell ⟨W.heap.size, 1, none⟩ (.slice p2 q2 s2)).setCell ⟨W.heap.size, 2, none⟩ (.slice x4a x4b x4c)) := (((Fr.refl _ _).place 0 _).place 1 _).place 2 _
  go_simp
  refine hKk.out _ _ ?_ (fun hHeld => ?_)
  · (try dsimp only)
    exact ⟨((unhide HB).fr fZ (by simp; omega)) 0 _ rfl, ((unhide HB).fr fZ (by simp; omega)) 1 _ rfl, (((unhide HR).set 0 _).set 1 _).set 2 _⟩
  clear hKk Kk
  (try simp only [List.setIfInBounds_toArray, List.set_cons_zero, List.set_cons_succ])
  refine wpAnyH_done (by kernel_rfl) ?_ _
  have HV : Hid (Vr W.heap.size 3 [.int .u32 y1, .slice p2 q2 s2, .slice x4a x4b x4c] _) := hide (vr_fill3 w4 (unhide HR) (by omega))
  have j0 := (unhide HV).tab 0 _ rfl
  have j1 := (unhide HV).tab 1 _ rfl
  have j2 := (unhide HV).tab 2 _ rfl
  clear r0 g0
  clear r1 g1
  clear r2 g2
  have hsz := (show Fr [W.heap.size] w4 (((w4.setCell ⟨W.heap.size, 0, none⟩ (.int .u32 y1)).setCell ⟨W.heap.size, 1, none⟩ (.slice p2 q2 s2)).setCell ⟨W.heap.size, 2, none⟩ (.slice x4a x4b x4c)) from fZ).size
  generalize (((w4.setCell ⟨W.heap.size, 0, none⟩ (.int .u32 y1)).setCell ⟨W.heap.size, 1, none⟩ (.slice p2 q2 s2)).setCell ⟨W.heap.size, 2, none⟩ (.slice x4a x4b x4c)) = wz at *
  go_wp2_with fail
  refine bodyPost_ret (v := .agg #[.int .u32 y1, .slice p2 q2 s2, .slice x4a x4b x4c]) (by simp [results, Tryz.results127, go_sem, j0, j1, j2]) rfl ?_
  refine ⟨(y1, T2, y4), [.int .u32 y1, .slice p2 q2 s2, .slice x4a x4b x4c], _, _, rfl, rd_da2 (unhide HD1) (unhide HD2) (unhide HD3) (unhide HD4), ⟨rfl, by simp [Value.oneCell'], fun q => ?_⟩, (unhide H).fr fZ (by simp; omega) (fun p hp hl => by have := HAl p hp hl; simp; omega), (unhide HM).fr fZ (by simp; omega), (unhide HB).fr fZ (by simp; omega), (unhide HF).thenL fZ (by simp)⟩
  exact ⟨_, _, rfl, ((unhide HT2 ((unhide HD3).zero ((unhide HD4).zero q))).fr fZ (by simp)).mono (fun b _ hb => by omega), ((unhide HT4).fr fZ (by simp)).mono (fun b _ hb => by omega)⟩
end
end Go.Proofs.YtjoonmpjcophnaaGreatDoor
namespace Go.Proofs.YtjoonmpjcophnaaGreatDoor
open Go.RowKit

theorem zeroLim : ((Tryz.prog.info? 104).getD default).zero = some (.agg #[.int .u32 0, .int .u32 0, .bool false]) := by kernel_rfl
theorem iLim : Tryz.prog.info? 104 = some ((Tryz.prog.info? 104).getD default) := by kernel_rfl
theorem bytesLim : ((Tryz.prog.info? 104).getD default).bytes = 12 := by kernel_rfl
theorem sizeLim : ((Tryz.prog.info? 104).getD default).size = 3 := by kernel_rfl
theorem zeroIm : ((Tryz.prog.info? 106).getD default).zero = some (.agg #[.string { data := #[] }, .string { data := #[] }, .int .i64 0, .int .u32 0, .int .u32 0, .int .u32 0, .bool false, .int .u8 0, .bool false]) := by kernel_rfl
theorem iIm : Tryz.prog.info? 106 = some ((Tryz.prog.info? 106).getD default) := by kernel_rfl
theorem sizeIm : ((Tryz.prog.info? 106).getD default).size = 9 := by kernel_rfl
theorem bytesIm : ((Tryz.prog.info? 106).getD default).bytes = 64 := by kernel_rfl
section
variable {c sb : Nat} {a : Option Addr} {len cap k : Nat} {xs : List Int} {e : Int} {W : World}
theorem Vr.at {ib n : Nat} {L : List Value} {w : World} (h : Vr ib n L w) {j : Nat} (hj : j < L.length) : w.cell? ⟨ib, j, none⟩ = some (L[j]) := h.tab j _ (List.getElem?_eq_getElem hj)
end
end Go.Proofs.YtjoonmpjcophnaaGreatDoor
namespace Go.Proofs.YtjoonmpjcophnaaGreatDoor
open Go.RowKit

/-- One thing more, that leads to what is no part of the row. -/
theorem Rye.app2 {α : Type} {E : El α} {Q : Nat → Prop} {t ty : TypeId} {i : TypeInfo} {z : Value} {bytes : Nat} (ht : Tryz.prog.underlying t = some (.slice ty)) (hi : Tryz.prog.info? ty = some i) (hz : i.zero = some z)
    (hsize : i.size = E.k) (hby : i.bytes = bytes) (hb1 : bytes ≤ 1000) (hzs : z.cells.size = E.k) {B : Nat} {v : Value} {xs : List α} {cs : List Value} {e e2 : Int} {w w1 : World} (h : Rye E Q ty B v xs cs e w) (hf : Fr [] w w1)
    (hB : B ≤ w.heap.size) (hn : xs.length ≤ 10000000000) {x : α} {c : List Value} {o : Addr} (hcl : c.length = E.k) (hone : ∀ u ∈ c, u.oneCell' = true) (he : e2 = 0 → e = 0)
    (hx : e2 = 0 → E.rep w1 (fun b => Q b ∧ b < B ∨ B ≤ b ∧ v.ownBlock ≠ some b) x c) (hcell : ∀ j u, c[j]? = some u → w1.cell? (o.add j) = some u) :
    ∃ p s w3, (Builtin.append_ #[t, t] t #[v, .slice (some o) 1 1]).run Tryz.prog w1 = .ok (.slice p (xs.length + 1) s) w3 ∧ Rye E Q ty B (.slice p (xs.length + 1) s) (xs ++ [x]) (cs ++ c) e2 w3 ∧ Fr v.ownBlock.toList w1 w3 ∧
      (∀ g, (Value.slice p (xs.length + 1) s).ownBlock = some g → v.ownBlock = some g ∨ w1.heap.size ≤ g) := by
  have h1 := h.fr0 (e' := e2) hf he
  have hsz := hf.size
  obtain ⟨v', w3, hr, g1, g2, g3⟩ := app_own (c := 1) ht hi hz hsize hby hzs E.kpos h1.own (m := 1) (news := c) (by rw [hcl, Nat.one_mul]) hcell hone (by unfold maxLen; omega) (by have := Nat.mul_le_mul (show xs.length + 1 ≤ 10000000001 by omega) (show i.bytes ≤ 1000 by omega); rw [← hby]; omega) (by omega)
  have hfg := fr_grown g2
  have hvl := h1.own.lt
  have hlen : (xs ++ [x]).length = xs.length + 1 := by simp
  have hv0 : ∀ b, v.ownBlock = some b → B ≤ b ∧ b < w.heap.size := fun b hb => h.own.lt b hb
  have hR : Rye E Q ty B v' (xs ++ [x]) (cs ++ c) e2 w3 := by
    refine ⟨by rw [hlen]; exact g1, fun q => ?_⟩
    have hv1 : ∀ b, v'.ownBlock = some b → v.ownBlock = some b ∨ w1.heap.size ≤ b := g3
    have m0 : ∀ b, b < w1.heap.size → (fun b => Q b ∧ b < B ∨ B ≤ b ∧ v.ownBlock ≠ some b) b → (fun b => (Q b ∧ b < B ∨ B ≤ b ∧ v.ownBlock ≠ some b) ∧ b < w1.heap.size) b := fun b h1 h2 => ⟨h2, h1⟩
    have fin0 : ∀ b, b < w3.heap.size → (fun b => (Q b ∧ b < B ∨ B ≤ b ∧ v.ownBlock ≠ some b) ∧ b < w1.heap.size) b → (fun b => Q b ∧ b < B ∨ B ≤ b ∧ v'.ownBlock ≠ some b) b := by
      intro b _ hq
      rcases hq.1 with q1 | q1
      · exact .inl q1
      · refine .inr ⟨q1.1, fun hv' => ?_⟩
        rcases hv1 b hv' with q2 | q2
        · exact q1.2 q2
        · have := hq.2; omega
    have up : ∀ i ∈ v.ownBlock.toList, ¬ (fun b => (Q b ∧ b < B ∨ B ≤ b ∧ v.ownBlock ≠ some b) ∧ b < w1.heap.size) i := by
      intro i hi hp
      have hv : v.ownBlock = some i := by simpa using hi
      rcases hp.1 with q1 | q1
      · have := (hv0 i hv).1; omega
      · exact q1.2 hv
    exact Els.app ((els_one (((E.mono m0 (hx q))))).fr hfg up |>.mono fin0) (((h1.enc q).mono m0).fr hfg up |>.mono fin0)
  obtain ⟨p, s, rfl⟩ := hR.slice
  rw [hlen] at hr hR g3
  exact ⟨p, s, w3, hr, hR, hfg, g3⟩
theorem zeroTy : ((Tryz.prog.info? 97).getD default).zero = some (.agg #[.slice none 0 0, .slice none 0 0]) := by kernel_rfl
theorem iTy : Tryz.prog.info? 97 = some ((Tryz.prog.info? 97).getD default) := by kernel_rfl
theorem bytesTy : ((Tryz.prog.info? 97).getD default).bytes = 48 := by kernel_rfl
theorem sizeTy : ((Tryz.prog.info? 97).getD default).size = 2 := by kernel_rfl
section
variable {c sb : Nat} {a : Option Addr} {len cap k : Nat} {xs : List Int} {e : Int} {W : World}
end
end Go.Proofs.YtjoonmpjcophnaaGreatDoor
