/- PdE, PdF, PdG, PdH, PfA, PfB. -/
import Derived.Test.YtjoonmpjcophnaaGreatDoorCu47
import Derived.Test.YtjoonmpjcophnaaGreatDoorCu48
import Derived.Lib.SmallJoins
namespace Go.Proofs.YtjoonmpjcophnaaGreatDoor
open Go.RowKit

theorem szP71 : (Tryz.prog.info? 71).map (·.size) = some 12 := by kernel_rfl
theorem results_cellP {fn : Func} {t ty : Nat} {p : Addr} {v : Value} {w : World} {P : Program} (hr : fn.results = #[.cell t ty]) (tmps : Array Value) (ht : tmps[t]? = some (.pointer (some p))) (hv : (loadVar ty p).run P w = .ok v w) :
    (results fn tmps).run P w = .ok v w := by
  simp [results, hr, ht, asAddr, hv]
/-- How much is still to be read, at most. -/
def mz (c len : Nat) (w : World) : Nat := if intOf ((w.cell? ⟨c, 2, none⟩).getD undef) = 0 then len + 1 - (intOf ((w.cell? ⟨c, 1, none⟩).getD undef)).toNat else 0
theorem mz_cs {c : Nat} {a : Option Addr} {len cap k : Nat} {xs : List Int} {e : Int} {w : World} (h : Cs c a len cap xs k e w) : mz c len w = if e = 0 then len + 1 - k else 0 := by
  unfold mz
  rw [h.1.2.1, h.1.2.2.1]
  by_cases h0 : e = 0 <;> simp [intOf, h0]
section
variable {xs : List Int} {k k3 : Nat} {e3 : Int} {sat : Bool} {n : Int} {s : St} {hi : Int}
theorem rd_byte_live (h : Rd rB xs k 0 n k3 e3) (hk : k < xs.length) : k3 = k + 1 ∧ e3 = 0 := by
  obtain ⟨h1, h2⟩ := h.live rfl
  cases hx : xs.drop k with
  | nil => have := congrArg List.length hx; rw [List.length_drop, List.length_nil] at this; omega
  | cons x r => rw [hx] at h1 h2; exact ⟨h1, h2⟩
theorem rd_all_end (hk : k = xs.length) (e : Int) : Rd (rAll sat hi s) xs k e s k e := by
  have hx : xs.drop k = [] := by rw [hk, List.drop_length]
  have h0 : rAll sat hi s [] = (s, 0, 0) := by
    unfold rAll rMod
    rw [if_pos rfl]
  exact ⟨fun _ => ⟨rfl, rfl⟩, fun h => by rw [hx, h0]; exact ⟨rfl, h⟩, fun _ _ => by rw [hx, h0]⟩
theorem rd_all_step {s' s'' : St} {k4 k5 : Nat} {e4 e5 : Int} (hk : k < xs.length) (h1 : Rd rB xs k 0 n k3 e3) (h2 : Rd (stp1 sat hi s n) xs k3 e3 s' k4 e4) (h3 : Rd (rAll sat (max hi n) s') xs k4 e4 s'' k5 e5) : Rd (rAll sat hi s) xs k 0 s'' k5 e5 := by
  refine Rd.of_eq (h1.bd (z := s) (g := fun n => bd s (stp1 sat hi s n) fun s' => rAll sat (max hi n) s') (h2.bd h3)) ?_
  cases hx : xs.drop k with
  | nil => have := congrArg List.length hx; rw [List.length_drop, List.length_nil] at this; omega
  | cons x r => exact all_cons _ _ _ _ _
theorem rd_stp_bad (hb : 11 < n ∨ 0 < n ∧ n ≤ hi) : Rd (stp1 sat hi s n) xs k 0 s k 104 := by
  unfold stp1
  rw [if_pos hb]
  exact ⟨fun h => absurd rfl h, fun _ => ⟨rfl, rfl⟩, fun _ h => absurd h (by decide)⟩
theorem rd_stp_good {s' : St} {e k' e'} (hb : ¬ (11 < n ∨ 0 < n ∧ n ≤ hi)) (h : Rd (rPc s (rSec sat n s)) xs k e s' k' e') : Rd (stp1 sat hi s n) xs k e s' k' e' := by
  unfold stp1
  rw [if_neg hb]
  exact h
theorem Non.rd {s' : St} {k' : Nat} {e' : Int} (h : Non hi s) (h0 : 0 ≤ n) (h11 : n ≤ 11) (hn : n = 0 ∨ hi < n) (hR : Rd (rPc s (rSec sat n s)) xs k 0 s' k' e') (he : e' = 0) : Non (max hi n) s' := by
  subst he
  have hv := hR.val rfl rfl
  have he := (hR.live rfl).2
  unfold rPc at hv he
  obtain ⟨h1, h2, h3⟩ := bd_inv he.symm
  rw [h3] at hv
  rw [hv]
  exact h.sec h0 h11 hn (alone_inv h2).1
end
section
variable {c : Nat} {a : Option Addr} {len cap k : Nat} {xs : List Int} {W : World} {sat : Bool}
set_option maxHeartbeats 16000000 in
set_option maxRecDepth 100000 in
theorem sections_any (h : Cs c a len cap xs 0 0 W) (hm : Mk W) (hc : 4 ≤ c) : Calls Tryz.prog 18 #[.agg #[.pointer (some ⟨c, 0, none⟩), .bool sat]] W fun r W' => ∃ vs s g k' e', r = .returned (.agg (List.toArray vs)) ∧ Rd (rAll sat 0 (mo0, [])) xs 0 0 s k' e' ∧ DS W' (fun b => W.heap.size + 2 < b) g e' s vs ∧ Cs c a len cap xs k' e' W' ∧ Mk W' ∧ Fr [c] W W' := by
  have hcl := h.1.lt
  have hxl := h.2.1.1
  have HAl : Hid (∀ p, a = some p → 0 < len → p.block < W.heap.size) := hide h.2.1.lt
  have hb : Below W.heap.size W (((W.alloc (.cells #[.pointer (some ⟨c, 0, none⟩), .bool sat] 68)).alloc (.cells #[.slice none 0 0, .slice none 0 0, .slice none 0 0, .slice none 0 0, .slice none 0 0, .slice none 0 0, .slice none 0 0, .bool false, .int .u32 0, .slice none 0 0, .slice none 0 0, .slice none 0 0] 71)).alloc (.cells #[.slice none 0 0, .slice none 0 0, .slice none 0 0, .slice none 0 0, .slice none 0 0, .slice none 0 0, .slice none 0 0, .bool false, .int .u32 0, .slice none 0 0, .slice none 0 0, .slice none 0 0] 71)) := balloc (below2 W _ _) _
  have hf := Fr.of hb [c]
  have s1 : (W.alloc (.cells #[.pointer (some ⟨c, 0, none⟩), .bool sat] 68)).heap.size = W.heap.size + 1 := by simp
  have s2 : ((W.alloc (.cells #[.pointer (some ⟨c, 0, none⟩), .bool sat] 68)).alloc (.cells #[.slice none 0 0, .slice none 0 0, .slice none 0 0, .slice none 0 0, .slice none 0 0, .slice none 0 0, .slice none 0 0, .bool false, .int .u32 0, .slice none 0 0, .slice none 0 0, .slice none 0 0] 71)).heap.size = W.heap.size + 2 := by simp
  have HB : Hid (Tab (((W.alloc (.cells #[.pointer (some ⟨c, 0, none⟩), .bool sat] 68)).alloc (.cells #[.slice none 0 0, .slice none 0 0, .slice none 0 0, .slice none 0 0, .slice none 0 0, .slice none 0 0, .slice none 0 0, .bool false, .int .u32 0, .slice none 0 0, .slice none 0 0, .slice none 0 0] 71)).alloc (.cells #[.slice none 0 0, .slice none 0 0, .slice none 0 0, .slice none 0 0, .slice none 0 0, .slice none 0 0, .slice none 0 0, .bool false, .int .u32 0, .slice none 0 0, .slice none 0 0, .slice none 0 0] 71)) W.heap.size [.pointer (some ⟨c, 0, none⟩), .bool sat]) := hide (((vr_new [.pointer (some ⟨c, 0, none⟩), .bool sat] 68 W).tab.below (below1 _ _)).below (below1 _ _))
  have hR0 := (vr_new [.slice none 0 0, .slice none 0 0, .slice none 0 0, .slice none 0 0, .slice none 0 0, .slice none 0 0, .slice none 0 0, .bool false, .int .u32 0, .slice none 0 0, .slice none 0 0, .slice none 0 0] 71 (W.alloc (.cells #[.pointer (some ⟨c, 0, none⟩), .bool sat] 68))).fr (Fr.of (below1 _ (.cells #[.slice none 0 0, .slice none 0 0, .slice none 0 0, .slice none 0 0, .slice none 0 0, .slice none 0 0, .slice none 0 0, .bool false, .int .u32 0, .slice none 0 0, .slice none 0 0, .slice none 0 0] 71)) []) (by simp)
  rw [s1] at hR0
  have HR : Hid (Vr (W.heap.size + 1) 12 nil12 (((W.alloc (.cells #[.pointer (some ⟨c, 0, none⟩), .bool sat] 68)).alloc (.cells #[.slice none 0 0, .slice none 0 0, .slice none 0 0, .slice none 0 0, .slice none 0 0, .slice none 0 0, .slice none 0 0, .bool false, .int .u32 0, .slice none 0 0, .slice none 0 0, .slice none 0 0] 71)).alloc (.cells #[.slice none 0 0, .slice none 0 0, .slice none 0 0, .slice none 0 0, .slice none 0 0, .slice none 0 0, .slice none 0 0, .bool false, .int .u32 0, .slice none 0 0, .slice none 0 0, .slice none 0 0] 71))) := hide hR0
  have hV0 := vr_new [.slice none 0 0, .slice none 0 0, .slice none 0 0, .slice none 0 0, .slice none 0 0, .slice none 0 0, .slice none 0 0, .bool false, .int .u32 0, .slice none 0 0, .slice none 0 0, .slice none 0 0] 71 ((W.alloc (.cells #[.pointer (some ⟨c, 0, none⟩), .bool sat] 68)).alloc (.cells #[.slice none 0 0, .slice none 0 0, .slice none 0 0, .slice none 0 0, .slice none 0 0, .slice none 0 0, .slice none 0 0, .bool false, .int .u32 0, .slice none 0 0, .slice none 0 0, .slice none 0 0] 71))
  rw [s2] at hV0
  have HV : Hid (Vr (W.heap.size + 2) 12 nil12 (((W.alloc (.cells #[.pointer (some ⟨c, 0, none⟩), .bool sat] 68)).alloc (.cells #[.slice none 0 0, .slice none 0 0, .slice none 0 0, .slice none 0 0, .slice none 0 0, .slice none 0 0, .slice none 0 0, .bool false, .int .u32 0, .slice none 0 0, .slice none 0 0, .slice none 0 0] 71)).alloc (.cells #[.slice none 0 0, .slice none 0 0, .slice none 0 0, .slice none 0 0, .slice none 0 0, .slice none 0 0, .slice none 0 0, .bool false, .int .u32 0, .slice none 0 0, .slice none 0 0, .slice none 0 0] 71))) := hide hV0
  have HC := hide (h.bel hb)
  have HM := hide (hm.below hb)
  have HF := hide hf
  have hs3 : ((((W.alloc (.cells #[.pointer (some ⟨c, 0, none⟩), .bool sat] 68)).alloc (.cells #[.slice none 0 0, .slice none 0 0, .slice none 0 0, .slice none 0 0, .slice none 0 0, .slice none 0 0, .slice none 0 0, .bool false, .int .u32 0, .slice none 0 0, .slice none 0 0, .slice none 0 0] 71)).alloc (.cells #[.slice none 0 0, .slice none 0 0, .slice none 0 0, .slice none 0 0, .slice none 0 0, .slice none 0 0, .slice none 0 0, .bool false, .int .u32 0, .slice none 0 0, .slice none 0 0, .slice none 0 0] 71))).heap.size = W.heap.size + 3 := by simp
  clear h hm hb hf hR0 hV0 s1 s2
  go_enter Tryz.func18, Tryz.ntmps18
  go_wp2_with fail
  generalize (((W.alloc (.cells #[.pointer (some ⟨c, 0, none⟩), .bool sat] 68)).alloc (.cells #[.slice none 0 0, .slice none 0 0, .slice none 0 0, .slice none 0 0, .slice none 0 0, .slice none 0 0, .slice none 0 0, .bool false, .int .u32 0, .slice none 0 0, .slice none 0 0, .slice none 0 0] 71)).alloc (.cells #[.slice none 0 0, .slice none 0 0, .slice none 0 0, .slice none 0 0, .slice none 0 0, .slice none 0 0, .slice none 0 0, .bool false, .int .u32 0, .slice none 0 0, .slice none 0 0, .slice none 0 0] 71)) = w0 at *
  go_loopw [4] (fun v4 wr => ∃ (hi : Int) (s : St) (vs : List Value) (g k2 : Nat) (e2 : Int), v4 = .int .u8 hi ∧ (e2 = 0 → Non hi s ∧ hi ≤ 11) ∧ Vr (W.heap.size + 2) 12 vs wr ∧ DS wr (fun b => W.heap.size + 2 < b) g e2 s vs ∧ Tab wr W.heap.size [.pointer (some ⟨c, 0, none⟩), .bool sat] ∧ Vr (W.heap.size + 1) 12 nil12 wr ∧ Cs c a len cap xs k2 e2 wr ∧ Mk wr ∧ Fr [c] W wr ∧ (∀ s' k' e', Rd (rAll sat hi s) xs k2 e2 s' k' e' → Rd (rAll sat 0 (mo0, [])) xs 0 0 s' k' e')) (fun _ w => mz c len w)
  case atStart =>
    exact ⟨0, (mo0, []), nil12, W.heap.size + 2, 0, 0, rfl, fun _ => ⟨non0, by decide⟩, unhide HV, ds0 _ _ (by omega), unhide HB, unhide HR, unhide HC, unhide HM, unhide HF, fun _ _ _ h => h⟩
  case round =>
    obtain ⟨hi, s, vs, g, k2, e2, rfl, hN, hV, hD, hB, hR, hC, hM, hF, hK⟩ := hrel
    have hmz := mz_cs hC
    have HN := hide hN
    have HV := hide hV
    have HD := hide hD
    have HB := hide hB
    have HR := hide hR
    have HC := hide hC
    have HM := hide hM
    have HF := hide hF
    have HK := hide hK
    have hsw := hR.lt
    have hkl := hC.2.2.2.2.1
    clear hN hV hD hB hR hC hM hF hK
    rename World => wr
    have q0 := (unhide HB) 0 _ rfl
    go_wp2_with fail
    clear q0
    refine (left2_any (unhide HC)).mono ?_
    rintro _ w1 ⟨rfl, hF1⟩
    have HV := hide ((unhide HV).fr hF1 (by simp))
    have HD := hide ((unhide HD).fr hF1 (by simp) (fun q => q))
    have HB := hide ((unhide HB).fr hF1 (by simp))
    have HR := hide ((unhide HR).fr hF1 (by simp))
    have HC := hide ((unhide HC).fr hF1 (by simp) (by simp))
    have HM := hide ((unhide HM).fr hF1 (by simp))
    have HF := hide ((unhide HF).thenL hF1 (by simp))
    clear hF1
    by_cases hk : k2 < len
    · have hk' : (0 : Int) < (len : Int) - (k2 : Int) := by omega
      have q0 := (unhide HB) 0 _ rfl
      have q1 := (unhide HB) 1 _ rfl
      go_wp2_with fail
      clear q0 q1
      refine (p_failed (unhide HC)).mono ?_
      rintro _ w2 ⟨rfl, hF1⟩
      have HV := hide ((unhide HV).fr hF1 (by simp))
      have HD := hide ((unhide HD).fr hF1 (by simp) (fun q => q))
      have HB := hide ((unhide HB).fr hF1 (by simp))
      have HR := hide ((unhide HR).fr hF1 (by simp))
      have HC := hide ((unhide HC).fr hF1 (by simp) (by simp))
      have HM := hide ((unhide HM).fr hF1 (by simp))
      have HF := hide ((unhide HF).thenL hF1 (by simp))
      clear hF1
      by_cases he : e2 = 0
      · subst he
        rw [if_pos rfl] at hmz
        obtain ⟨hNon, h11⟩ := unhide HN rfl
        have q0 := (unhide HB) 0 _ rfl
        go_wp2_with fail
        clear q0
        refine (p_byte (unhide HC)).mono ?_
        rintro _ w3 ⟨n, k3, e3, rfl, hDb, hlt, hC3, hF3⟩
        obtain ⟨hk3, he3⟩ := rd_byte_live hDb (by omega)
        subst hk3
        subst he3
        have HDb := hide hDb
        have hs5 : W.heap.size + 2 < w3.heap.size := Nat.lt_of_lt_of_le (unhide HV).lt hF3.size
        have hb := below1 w3 (.cells #[.int .u8 n] 5)
        have hfa := hF3.thenL (Fr.of hb []) (by simp)
        have HV := hide ((unhide HV).fr hfa (by simp; omega))
        have HD := hide ((unhide HD).fr hfa (by simp; omega) (fun q => q))
        have HB := hide ((unhide HB).fr hfa (by simp; omega))
        have HR := hide ((unhide HR).fr hfa (by simp; omega))
        have HC := hide (hC3.bel hb)
        have HM := hide ((unhide HM).fr hfa (by simp; omega))
        have HF := hide ((unhide HF).trans hfa)
        have HNb : Hid (Bx w3.heap.size (.int .u8 n) (w3.alloc (.cells #[.int .u8 n] 5))) := hide (by unfold Bx; simp [go_sem])
        have hs4 : w3.heap.size < (w3.alloc (.cells #[.int .u8 n] 5)).heap.size := by simp
        have HNn := hide hNon
        clear hDb hC3 hF3 hb hfa hNon
        by_cases hn0 : n = 0
        · subst hn0
          have hz : max hi 0 = hi := by have := (unhide HNn).pos; omega
          have w0q := (unhide HNb)
          unfold Bx at w0q
          have q0 := (unhide HB) 0 _ rfl
          have q1 := (unhide HB) 1 _ rfl
          go_wp2_with fail
          clear q0 q1 w0q
          refine (psec_any (n := 0) (hi := hi) (s := s) (P := fun b => W.heap.size + 2 < b) (nb := w3.heap.size) (unhide HC) (unhide HM) hc (by omega) (unhide HV) (by omega) (fun p hp hl => by have := unhide HAl p hp hl; omega) (unhide HD) (by omega) (by omega) (fun _ => ⟨unhide HNn, by omega, by omega, by omega⟩) (unhide HNb) hs4 (by omega)).mono ?_
          rintro _ w5 ⟨s', vs', g', k5, e5, rfl, hR5, hV5, hD5, hC5, hM5, hF5⟩
          have HV := hide hV5
          have HD := hide (hD5.mono (P' := fun b => W.heap.size + 2 < b) (fun b _ hb => by rcases hb with hb | hb; exact hb.1; omega))
          have HB := hide ((unhide HB).fr hF5 (by simp; omega))
          have HR := hide ((unhide HR).fr hF5 (by simp; omega))
          have HC := hide hC5
          have HM := hide hM5
          have HF := hide ((unhide HF).thenL hF5 (by simp))
          have HR5 := hide hR5
          have hmz5 := mz_cs hC5
          have hk5 := hC5.2.2.2.2.1
          clear hV5 hD5 hC5 hM5 hF5 hR5
          go_wp2_with fail
          refine ⟨⟨hi, s', vs', g', k5, e5, rfl, fun q => ⟨hz ▸ (unhide HNn).rd (by omega) (by omega) (by omega) (unhide HR5) q, by omega⟩, unhide HV, unhide HD, unhide HB, unhide HR, unhide HC, unhide HM, unhide HF, fun s2 k' e' hr => unhide HK _ _ _ (rd_all_step (by omega) (unhide HDb) (rd_stp_good (by omega) (unhide HR5)) (by rw [hz]; exact hr))⟩, ?_⟩
          rw [hmz, hmz5]
          have hkk := ((unhide HR5).live rfl).1
          split <;> omega
        · have hn0' : (n != 0) = true := by simpa using hn0
          by_cases hb1 : n ≤ hi
          · have w0q := (unhide HNb)
            unfold Bx at w0q
            have q0 := (unhide HB) 0 _ rfl
            have q1 := (unhide HB) 1 _ rfl
            go_wp2_with fail
            refine (Fail_any (unhide HC)).mono ?_
            rintro _ w4 ⟨rfl, hC4, hF4⟩
            rw [if_pos rfl] at hC4
            have HV := hide ((unhide HV).fr hF4 (by simp; omega))
            have HD := hide ((unhide HD).fr hF4 (by simp; omega) (fun q => q))
            have HB := hide ((unhide HB).fr hF4 (by simp; omega))
            have HR := hide ((unhide HR).fr hF4 (by simp; omega))
            have HC := hide hC4
            have HM := hide ((unhide HM).fr hF4 (by simp; omega))
            have HF := hide ((unhide HF).trans hF4)
            have HNb := hide ((unhide HNb).fr hF4 (by simp; omega))
            have hs4 := Nat.lt_of_lt_of_le hs4 hF4.size
            clear hC4 hF4 q0 q1 w0q
            have w0q := (unhide HNb)
            unfold Bx at w0q
            have q0 := (unhide HB) 0 _ rfl
            have q1 := (unhide HB) 1 _ rfl
            go_wp2_with fail
            clear q0 q1 w0q
            refine (psec_any (n := n) (hi := hi) (s := s) (P := fun b => W.heap.size + 2 < b) (nb := w3.heap.size) (unhide HC) (unhide HM) hc (by omega) (unhide HV) (by omega) (fun p hp hl => by have := unhide HAl p hp hl; omega) (unhide HD) (by omega) (by omega) (fun q => absurd q (by decide)) (unhide HNb) hs4 (by omega)).mono ?_
            rintro _ w5 ⟨s', vs', g', k5, e5, rfl, hR5, hV5, hD5, hC5, hM5, hF5⟩
            have HV := hide hV5
            have HD := hide (hD5.mono (P' := fun b => W.heap.size + 2 < b) (fun b _ hb => by rcases hb with hb | hb; exact hb.1; omega))
            have HB := hide ((unhide HB).fr hF5 (by simp; omega))
            have HR := hide ((unhide HR).fr hF5 (by simp; omega))
            have HC := hide hC5
            have HM := hide hM5
            have HF := hide ((unhide HF).thenL hF5 (by simp))
            have HR5 := hide hR5
            have hmz5 := mz_cs hC5
            have hk5 := hC5.2.2.2.2.1
            clear hV5 hD5 hC5 hM5 hF5 hR5
            go_wp2_with fail
            obtain ⟨rfl, rfl⟩ := (unhide HR5).dead (by decide)
            refine ⟨⟨n, s', vs', g', _, _, rfl, fun q => absurd q (by decide), unhide HV, unhide HD, unhide HB, unhide HR, unhide HC, unhide HM, unhide HF, fun s2 k' e' hr => by
              obtain ⟨rfl, rfl⟩ := hr.dead (by decide)
              exact unhide HK _ _ _ (rd_all_step (by omega) (unhide HDb) (rd_stp_bad (by omega)) (Rd.err _ (by decide)))⟩, ?_⟩
            rw [hmz, hmz5, if_neg (by decide)]
            omega
          · by_cases hb2 : 11 < n
            · have w0q := (unhide HNb)
              unfold Bx at w0q
              have q0 := (unhide HB) 0 _ rfl
              have q1 := (unhide HB) 1 _ rfl
              go_wp2_with fail
              refine (Fail_any (unhide HC)).mono ?_
              rintro _ w4 ⟨rfl, hC4, hF4⟩
              rw [if_pos rfl] at hC4
              have HV := hide ((unhide HV).fr hF4 (by simp; omega))
              have HD := hide ((unhide HD).fr hF4 (by simp; omega) (fun q => q))
              have HB := hide ((unhide HB).fr hF4 (by simp; omega))
              have HR := hide ((unhide HR).fr hF4 (by simp; omega))
              have HC := hide hC4
              have HM := hide ((unhide HM).fr hF4 (by simp; omega))
              have HF := hide ((unhide HF).trans hF4)
              have HNb := hide ((unhide HNb).fr hF4 (by simp; omega))
              have hs4 := Nat.lt_of_lt_of_le hs4 hF4.size
              clear hC4 hF4 q0 q1 w0q
              have w0q := (unhide HNb)
              unfold Bx at w0q
              have q0 := (unhide HB) 0 _ rfl
              have q1 := (unhide HB) 1 _ rfl
              go_wp2_with fail
              clear q0 q1 w0q
              refine (psec_any (n := n) (hi := hi) (s := s) (P := fun b => W.heap.size + 2 < b) (nb := w3.heap.size) (unhide HC) (unhide HM) hc (by omega) (unhide HV) (by omega) (fun p hp hl => by have := unhide HAl p hp hl; omega) (unhide HD) (by omega) (by omega) (fun q => absurd q (by decide)) (unhide HNb) hs4 (by omega)).mono ?_
              rintro _ w5 ⟨s', vs', g', k5, e5, rfl, hR5, hV5, hD5, hC5, hM5, hF5⟩
              have HV := hide hV5
              have HD := hide (hD5.mono (P' := fun b => W.heap.size + 2 < b) (fun b _ hb => by rcases hb with hb | hb; exact hb.1; omega))
              have HB := hide ((unhide HB).fr hF5 (by simp; omega))
              have HR := hide ((unhide HR).fr hF5 (by simp; omega))
              have HC := hide hC5
              have HM := hide hM5
              have HF := hide ((unhide HF).thenL hF5 (by simp))
              have HR5 := hide hR5
              have hmz5 := mz_cs hC5
              have hk5 := hC5.2.2.2.2.1
              clear hV5 hD5 hC5 hM5 hF5 hR5
              go_wp2_with fail
              obtain ⟨rfl, rfl⟩ := (unhide HR5).dead (by decide)
              refine ⟨⟨n, s', vs', g', _, _, rfl, fun q => absurd q (by decide), unhide HV, unhide HD, unhide HB, unhide HR, unhide HC, unhide HM, unhide HF, fun s2 k' e' hr => by
                obtain ⟨rfl, rfl⟩ := hr.dead (by decide)
                exact unhide HK _ _ _ (rd_all_step (by omega) (unhide HDb) (rd_stp_bad (by omega)) (Rd.err _ (by decide)))⟩, ?_⟩
              rw [hmz, hmz5, if_neg (by decide)]
              omega
            · have hz : max hi n = n := by omega
              have w0q := (unhide HNb)
              unfold Bx at w0q
              have q0 := (unhide HB) 0 _ rfl
              have q1 := (unhide HB) 1 _ rfl
              go_wp2_with fail
              clear q0 q1 w0q
              refine (psec_any (n := n) (hi := hi) (s := s) (P := fun b => W.heap.size + 2 < b) (nb := w3.heap.size) (unhide HC) (unhide HM) hc (by omega) (unhide HV) (by omega) (fun p hp hl => by have := unhide HAl p hp hl; omega) (unhide HD) (by omega) (by omega) (fun _ => ⟨unhide HNn, by omega, by omega, by omega⟩) (unhide HNb) hs4 (by omega)).mono ?_
              rintro _ w5 ⟨s', vs', g', k5, e5, rfl, hR5, hV5, hD5, hC5, hM5, hF5⟩
              have HV := hide hV5
              have HD := hide (hD5.mono (P' := fun b => W.heap.size + 2 < b) (fun b _ hb => by rcases hb with hb | hb; exact hb.1; omega))
              have HB := hide ((unhide HB).fr hF5 (by simp; omega))
              have HR := hide ((unhide HR).fr hF5 (by simp; omega))
              have HC := hide hC5
              have HM := hide hM5
              have HF := hide ((unhide HF).thenL hF5 (by simp))
              have HR5 := hide hR5
              have hmz5 := mz_cs hC5
              have hk5 := hC5.2.2.2.2.1
              clear hV5 hD5 hC5 hM5 hF5 hR5
              go_wp2_with fail
              refine ⟨⟨n, s', vs', g', k5, e5, rfl, fun q => ⟨hz ▸ (unhide HNn).rd (by omega) (by omega) (by omega) (unhide HR5) q, by omega⟩, unhide HV, unhide HD, unhide HB, unhide HR, unhide HC, unhide HM, unhide HF, fun s2 k' e' hr => unhide HK _ _ _ (rd_all_step (by omega) (unhide HDb) (rd_stp_good (by omega) (unhide HR5)) (by rw [hz]; exact hr))⟩, ?_⟩
              rw [hmz, hmz5]
              have hkk := ((unhide HR5).live rfl).1
              split <;> omega
      · have hne : (e2 != 0) = true := by simpa using he
        clear hmz
        have hX := vr_cells (cs := vs) (unhide HR).room (unhide HR).lt (unhide HD).len
        have fZ := fr_cells (W.heap.size + 1) vs 0 w2
        have HZ := hide fZ
        have HXv := hide hX
        clear hX fZ
        have q0 := (unhide HB) 0 _ rfl
        have q1 := (unhide HB) 1 _ rfl
        go_wp2_with (first | (refine wpList_load_tab rfl 71 (.tmp 3) rfl (W.heap.size + 2) rfl vs _ (unhide HV).tab Tryz.underlying71 rfl (by rw [(unhide HD).len]; exact szP71) ?_) | (refine wpList_storeA rfl 71 (.tmp 2) (.tmp 34) rfl rfl (g := W.heap.size + 1) (off := 0) (cs := vs) rfl rfl (by rw [(unhide HD).len]; exact szP71) (fun j hj => by rw [Nat.zero_add]; exact (unhide HR).room j (by have := (unhide HD).len; omega)) (unhide HD).one ?_))
        generalize w2.setCells (W.heap.size + 1) 0 vs = wz at *
        refine bodyPost_ret (v := .agg vs.toArray) ?_ rfl ?_
        · exact results_cellP Tryz.results18 _ rfl (load_tab (unhide HXv).tab Tryz.underlying71 rfl (by rw [(unhide HD).len]; exact szP71))
        · exact ⟨vs, s, g, k2, e2, rfl, unhide HK _ _ _ (Rd.err s he), (unhide HD).fr (unhide HZ) (by simp) (fun q => q), (unhide HC).fr (unhide HZ) (by simp; omega) (fun p hp hl => by have := unhide HAl p hp hl; simp; omega), (unhide HM).fr (unhide HZ) (by simp; omega), (unhide HF).thenL (unhide HZ) (by simp)⟩
    · have hk' : decide ((0 : Int) < (len : Int) - (k2 : Int)) = false := decide_eq_false (by omega)
      clear hmz
      have hX := vr_cells (cs := vs) (unhide HR).room (unhide HR).lt (unhide HD).len
      have fZ := fr_cells (W.heap.size + 1) vs 0 w1
      have HZ := hide fZ
      have HXv := hide hX
      clear hX fZ
      have q0 := (unhide HB) 0 _ rfl
      have q1 := (unhide HB) 1 _ rfl
      go_wp2_with (first | (refine wpList_load_tab rfl 71 (.tmp 3) rfl (W.heap.size + 2) rfl vs _ (unhide HV).tab Tryz.underlying71 rfl (by rw [(unhide HD).len]; exact szP71) ?_) | (refine wpList_storeA rfl 71 (.tmp 2) (.tmp 34) rfl rfl (g := W.heap.size + 1) (off := 0) (cs := vs) rfl rfl (by rw [(unhide HD).len]; exact szP71) (fun j hj => by rw [Nat.zero_add]; exact (unhide HR).room j (by have := (unhide HD).len; omega)) (unhide HD).one ?_))
      generalize w1.setCells (W.heap.size + 1) 0 vs = wz at *
      refine bodyPost_ret (v := .agg vs.toArray) ?_ rfl ?_
      · exact results_cellP Tryz.results18 _ rfl (load_tab (unhide HXv).tab Tryz.underlying71 rfl (by rw [(unhide HD).len]; exact szP71))
      · exact ⟨vs, s, g, k2, e2, rfl, unhide HK _ _ _ (rd_all_end (by omega) e2), (unhide HD).fr (unhide HZ) (by simp) (fun q => q), (unhide HC).fr (unhide HZ) (by simp; omega) (fun p hp hl => by have := unhide HAl p hp hl; simp; omega), (unhide HM).fr (unhide HZ) (by simp; omega), (unhide HF).thenL (unhide HZ) (by simp)⟩
end
end Go.Proofs.YtjoonmpjcophnaaGreatDoor
namespace Go.Proofs.YtjoonmpjcophnaaGreatDoor
open Go.RowKit

theorem els_set {w : World} {P : Nat → Prop} {t : Int} : ∀ {L : List Fn} {cs : List Value} {i : Nat} {f : Fn}, Els eFn w P L cs → L[i]? = some f → Els eFn w P (L.set i (t, f.2)) (cs.set (i * 3) (.int .u32 t))
  | [], _, _, _, _, h => by cases h
  | x :: L, cs, 0, f, ⟨c, r, hc, ⟨v1, v2, h1, h2, h3⟩, hr⟩, h => by
    injection h with h
    subst h
    subst h1
    subst hc
    exact ⟨[.int .u32 t, v1, v2], r, rfl, ⟨v1, v2, rfl, h2, h3⟩, hr⟩
  | x :: L, cs, i + 1, f, ⟨c, r, hc, ⟨v1, v2, h1, h2, h3⟩, hr⟩, h => by
    subst h1
    subst hc
    have ih := els_set (t := t) (i := i) (f := f) hr h
    refine ⟨[.int .u32 x.1, v1, v2], r.set (i * 3) (.int .u32 t), ?_, ⟨v1, v2, rfl, h2, h3⟩, ih⟩
    rw [show (i + 1) * 3 = i * 3 + 3 by omega]
    rfl
theorem set_next : ∀ {T : List Int} {L : List Fn} {i : Nat} {t : Int}, T[i]? = some t → i < L.length → ∃ f, (setTypes (T.take i) L)[i]? = some f ∧ setTypes (T.take (i + 1)) L = (setTypes (T.take i) L).set i (t, f.2)
  | [], _, _, _, h, _ => by cases h
  | _ :: _, [], _, _, _, h => by cases h
  | t0 :: T, f0 :: L, 0, t, h, _ => by
    injection h with h
    subst h
    refine ⟨f0, rfl, ?_⟩
    show (t0, f0.2) :: setTypes (T.take 0) L = _
    rw [List.take_zero]
    cases L <;> rfl
  | t0 :: T, f0 :: L, i + 1, t, h, hl => by
    obtain ⟨f, h1, h2⟩ := set_next (T := T) (L := L) (i := i) (t := t) h (by simpa using hl)
    refine ⟨f, h1, ?_⟩
    show (t0, f0.2) :: setTypes (T.take (i + 1)) L = _
    rw [h2]
    rfl
/-- The functions' row, its types set so far. -/
structure Ft (w : World) (P : Nat → Prop) (g n : Nat) (e : Int) (L : List Fn) : Prop where
  room : Room g (n * 3) w
  cells : e = 0 → ∃ cs, Els eFn w (fun b => P b ∧ b ≠ g) L cs ∧ ∀ j u, cs[j]? = some u → w.cell? ⟨g, j, none⟩ = some u
theorem Ft.put {w : World} {P : Nat → Prop} {g n i : Nat} {e : Int} {L0 : List Fn} {T : List Int} {t : Int} (h : Ft w P g n e (setTypes (T.take i) L0)) (hT : T[i]? = some t) (hi : i < L0.length) : Ft (w.setCell ⟨g, i * 3, none⟩ (.int .u32 t)) P g n e (setTypes (T.take (i + 1)) L0) := by
  obtain ⟨f, h1, h2⟩ := set_next hT hi
  refine ⟨h.room.set _ _, fun q => ?_⟩
  obtain ⟨cs, a, b⟩ := h.cells q
  have hf : Fr [g] w (w.setCell ⟨g, i * 3, none⟩ (.int .u32 t)) := (Fr.refl _ _).place _ _
  rw [h2]
  refine ⟨cs.set (i * 3) (.int .u32 t), els_set (a.fr hf (by simp)) h1, fun j u hj => ?_⟩
  by_cases hj3 : j = i * 3
  · subst hj3
    have hlt : i * 3 < cs.length := by
      have := (List.getElem?_eq_some_iff.1 hj).1
      rwa [List.length_set] at this
    rw [List.getElem?_set_self hlt] at hj
    injection hj with hj
    subst hj
    exact World.cell?_setCell_same _ _ _ (b _ _ (List.getElem?_eq_getElem hlt))
  · rw [List.getElem?_set_ne (by omega)] at hj
    rw [World.cell?_setCell_other _ _ _ _ (fun hh => by injection hh with _ hh; omega)]
    exact b j u hj
theorem set_nil : ∀ (T : List Int), setTypes T [] = []
  | [] => rfl
  | _ :: _ => rfl
/-- A module's cells, of a draft's. -/
theorem Dr.mor {w : World} {P P' : Nat → Prop} {s : St} {vs : List Value} {L : List Fn} (h : Dr w P' ({ s.1 with funcs := [] }, s.2) (vs.set 2 (.slice none 0 0))) (hl : vs.length = 12) (k : ∀ b, b < w.heap.size → P' b → P b) {v2 : Value} (hv : vs[2]? = some v2) (hS : Sls eFn w P L v2) : MoR w P { s.1 with funcs := L } (vs.take 11) := by
  obtain ⟨v0, v1, u2, v3, v4, v5, v6, v9, v10, v11, hh, a, b, c, d, e, f, g', i, j, m⟩ := h.ex
  have e0 : vs = [v0, v1, v2, v3, v4, v5, v6, .bool s.1.starts, .int .u32 s.1.start, v9, v10, v11] := by
    match vs, hl with
    | [w0, w1, w2, w3, w4, w5, w6, w7, w8, w9, w10, w11], _ =>
      injection hv with hv
      subst hv
      simp only [List.set_cons_succ, List.set_cons_zero, List.cons.injEq, and_true] at hh
      obtain ⟨rfl, rfl, rfl, rfl, rfl, rfl, rfl, rfl, rfl, rfl, rfl, rfl⟩ := hh
      rfl
  subst e0
  exact ⟨⟨v0, v1, v2, v3, v4, v5, v6, v9, v10, rfl, a.mono k, b.mono k, hS, d.mono k, e.mono k, f.mono k, g'.mono k, i.mono k, j.mono k⟩⟩
theorem Ft.sls {w : World} {P : Nat → Prop} {g n : Nat} {L : List Fn} (h : Ft w P g n 0 L) (hn : L.length = n) (hg : P g) : Sls eFn w P L (.slice (some ⟨g, 0, none⟩) n n) := by
  obtain ⟨cs, h1, h2⟩ := h.cells rfl
  refine ⟨cs, h1.mono (fun b _ hb => hb.1), some ⟨g, 0, none⟩, n, by rw [hn], by omega, ?_, ?_⟩
  · have := h1.len
    constructor
    · intro h0
      rw [h0, Nat.zero_mul] at this
      exact List.length_eq_zero_iff.1 this
    · intro h0
      rw [h0, List.length_nil] at this
      have hk : eFn.k = 3 := rfl
      rw [hk] at this
      omega
  · exact .inr ⟨g, 0, rfl, fun _ => hg, fun j u hj => by rw [Nat.zero_add]; exact h2 j u hj⟩
section
variable {db g : Nat} {P : Nat → Prop} {W : World} {s : St} {vs : List Value} {e : Int}
set_option maxHeartbeats 8000000 in
set_option maxRecDepth 100000 in
theorem complete_any (hv : Vr db 12 vs W) (hD : DS W P g e s vs) (hPd : ¬ P db) : Calls Tryz.prog 19 #[.pointer (some ⟨db, 0, none⟩)] W fun r W' => ∃ (b : Bool) (l : List Nat), r = .returned (.bool b) ∧ (e = 0 → b = decide (s.2.length = s.1.funcs.length)) ∧ (b = true → e = 0 → MoR W' P { s.1 with funcs := setTypes s.2 s.1.funcs } (vs.take 11)) ∧ Vr db 12 vs W' ∧ Fr l W W' ∧ ∀ i ∈ l, P i := by
  obtain ⟨L, v2, h2, hX, hL⟩ := hD.fns
  obtain ⟨T, v11, h11, hS, hTl, hT⟩ := hD.fty
  obtain ⟨a11, c11, rfl, -, hSo⟩ := hS.open
  obtain ⟨p2, s2, rfl⟩ : ∃ p2 s2, v2 = .slice p2 L.length s2 := by
    rcases hX.ex with ⟨h, h'⟩ | ⟨h, _⟩
    · exact ⟨none, 0, by rw [h, h']; rfl⟩
    · exact ⟨_, _, h⟩
  have z2 := hv.tab 2 _ h2
  have z11 := hv.tab 11 _ h11
  have hlb : e = 0 → s.2.length = T.length ∧ s.1.funcs.length = L.length := fun q => ⟨by rw [hT q], by rw [hL q]⟩
  have HV := hide hv
  have HD := hide hD
  have HSo := hide hSo
  have HX := hide hX
  have HLT := hide (And.intro hL hT)
  have HH2 := hide h2
  have Hlb := hide hlb
  clear hv hD hS hSo hX hL hT h2 h11 hlb
  go_enter Tryz.func19, Tryz.ntmps19
  go_wp2_with fail
  refine wp_region_held_drew (S := fun w' => w'.cell? ⟨db, 2, none⟩ = some (.slice p2 L.length s2) ∧ w'.cell? ⟨db, 11, none⟩ = some (.slice a11 T.length c11)) (by kernel_rfl) ?_ (fun hHeld => ?_)
  · (try dsimp only)
    exact ⟨z2, z11⟩
  refine lst0 12 (by kernel_rfl) ?_
  refine tkA 0 5 1 ?_
  refine tkA 1 6 3 ?_
  refine tkA 2 7 7 ?_
  refine tkA 3 8 15 ?_
  refine tkA 4 9 31 ?_
  refine tkA 5 10 63 ?_
  refine tkA 6 11 127 ?_
  refine tkA 7 12 255 ?_
  refine tkA 8 13 511 ?_
  refine tkA 9 14 1023 ?_
  refine tkA 10 15 2047 ?_
  refine tkA 11 16 4095 ?_
  refine wpAnyH_done (by kernel_rfl) ?_ _
  have hdr : Fr [] W W.drew := (Fr.refl [] W).drew
  have HV := hide ((unhide HV).fr hdr (by simp))
  have HD := hide ((unhide HD).fr hdr (by simp) (fun q => q))
  have HX := hide ((unhide HX).fr hdr (by simp) (fun q => q))
  have HF := hide hdr
  have z2 : W.drew.cell? ⟨db, 2, none⟩ = some (.slice p2 L.length s2) := z2
  have z11 : W.drew.cell? ⟨db, 11, none⟩ = some (.slice a11 T.length c11) := z11
  have HSo : Hid (T.length = 0 ∨ ∃ b off, a11 = some ⟨b, off, none⟩ ∧ (P b ∧ b ≠ g) ∧ ∀ i x, T[i]? = some x → ∃ c, eU.rep W (fun b => P b ∧ b ≠ g) x c ∧ ∀ j, j < eU.k → W.drew.cell? ⟨b, off + i * eU.k + j, none⟩ = c[j]?) := HSo
  clear hdr hHeld
  generalize W.drew = w0 at *
  by_cases hne : T.length = L.length
  · have hne' : ((T.length : Int) != (L.length : Int)) = false := by simp [hne]
    have hne2 : (T.length : Int) = (L.length : Int) := by omega
    rcases (unhide HX).ex with ⟨hnil, hL0⟩ | ⟨hrow, hPg, hgl, hroom, hcells⟩
    · subst hL0
      obtain rfl : T = [] := List.length_eq_zero_iff.1 hne
      have h2n : vs[2]? = some (.slice none 0 0) := by rw [unhide HH2, hnil]
      have H2n := hide h2n
      clear hnil h2n
      go_wp2_with fail
      go_loopw [22] (fun v22 wr => v22 = .int .i64 0 ∧ wr = w0) (fun _ _ => 0)
      case atStart => exact ⟨rfl, rfl⟩
      case round =>
        obtain ⟨rfl, rfl⟩ := hrel
        go_wp2_with fail
        go_ret
        refine ⟨true, [], rfl, fun q => by rw [(unhide Hlb q).1, (unhide Hlb q).2]; rfl, fun _ q => ?_, unhide HV, unhide HF, by simp⟩
        subst q
        have h1 := (unhide HLT).1 rfl
        rw [← h1, set_nil]
        exact ((unhide HD).rest rfl).mor (unhide HD).len (fun b _ hb => hb.1) (unhide H2n) (sls_nil _ _)
    · injection hrow with hr1 hr2 hr3
      subst hr1
      subst hr3
      have hdg : db ≠ g := fun q => hPd (q ▸ hPg)
      have HFt : Hid (Ft w0 P g L.length e (setTypes (T.take 0) L)) := hide ⟨hroom, fun q => by
        rw [List.take_zero, show setTypes [] L = L by cases L <;> rfl]
        exact hcells q⟩
      clear hroom hcells
      go_wp2_with fail
      clear z2 z11
      go_loopw [22] (fun v22 wr => ∃ i : Nat, i ≤ T.length ∧ v22 = .int .i64 (i : Int) ∧ Ft wr P g L.length e (setTypes (T.take i) L) ∧ Fr [g] w0 wr) (fun v22 _ => T.length - (intOf v22).toNat)
      case atStart => exact ⟨0, Nat.zero_le _, rfl, unhide HFt, Fr.refl _ _⟩
      case round =>
        obtain ⟨i, hi, rfl, hFt, hFr⟩ := hrel
        clear HFt
        have hV := (unhide HV).fr hFr (by simpa using hdg)
        have z2 := hV.tab 2 _ (unhide HH2)
        by_cases hlt : i < T.length
        · have hi' : (i : Int) < (T.length : Int) := by omega
          have hi2 : (i : Int) < (L.length : Int) := by omega
          have hi3 : (0 : Int) ≤ (i : Int) := by omega
          have hi4 : i < L.length := by omega
          rcases unhide HSo with h0 | ⟨b1, o1, rfl, ⟨hb1, hb2⟩, k1⟩
          · omega
          have hx := List.getElem?_eq_getElem hlt
          obtain ⟨_, rfl, k1⟩ := k1 i T[i] hx
          have g10 := hFr.keep (k1 0 (by decide)) (by simpa using hb2)
          change wr.cell? ⟨b1, o1 + i * 1, none⟩ = some (.int .u32 T[i]) at g10
          rw [Nat.mul_one] at g10
          have HFt := hide (hFt.put hx hi4)
          obtain ⟨⟨u, r0⟩, gz⟩ := hFt.room (i * 3) (by omega)
          generalize T[i] = t at *
          have HFr := hide hFr
          clear k1 hFt hFr hV hx
          go_wp2_with fail
          exact ⟨⟨i + 1, by omega, by go_num, unhide HFt, (unhide HFr).place _ _⟩, by simp [intOf]; omega⟩
        · obtain rfl : i = T.length := by omega
          rw [List.take_length] at hFt
          have HFt := hide hFt
          have HFr := hide hFr
          have HVn := hide hV
          clear hFt hFr hV
          go_wp2_with fail
          go_ret
          refine ⟨true, [g], rfl, fun q => by rw [(unhide Hlb q).1, (unhide Hlb q).2, decide_eq_true hne], fun _ q => ?_, unhide HVn, ((unhide HF).mono (by simp)).trans (unhide HFr), by simpa using hPg⟩
          subst q
          have h1 := (unhide HLT).1 rfl
          have h2 := (unhide HLT).2 rfl
          rw [← h1, ← h2]
          exact (((unhide HD).rest rfl).fr (unhide HFr) (by simp)).mor (unhide HD).len (fun b _ hb => hb.1) (unhide HH2) ((unhide HFt).sls (set_len _ _) hPg)
  · have hne' : ((T.length : Int) != (L.length : Int)) = true := by simp; omega
    go_wp2_with fail
    go_ret
    exact ⟨false, [], rfl, fun q => by rw [(unhide Hlb q).1, (unhide Hlb q).2, decide_eq_false hne], fun q => (by cases q), unhide HV, unhide HF, by simp⟩
end
end Go.Proofs.YtjoonmpjcophnaaGreatDoor
namespace Go.Proofs.YtjoonmpjcophnaaGreatDoor
open Go.RowKit

theorem str_eq {xs ys : List Int} (hx : Byt xs) (hy : Byt ys) : ((strOfNums xs).toList == (strOfNums ys).toList) = decide (xs = ys) := by
  rw [ByteArray.toList_eq, ByteArray.toList_eq, strOfNums_data, strOfNums_data]
  by_cases h : xs = ys
  · rw [h]; simp
  · rw [decide_eq_false h]
    apply beq_eq_false_iff_ne.2
    intro hh
    refine h ?_
    apply List.ext_getElem?
    intro i
    have hi := congrArg (fun l => l[i]?) hh
    simp only [List.getElem?_map] at hi
    cases h1 : xs[i]? with
    | none =>
      rw [h1] at hi
      cases h2 : ys[i]? with
      | none => rfl
      | some y => rw [h2] at hi; cases hi
    | some x =>
      rw [h1] at hi
      cases h2 : ys[i]? with
      | none => rw [h2] at hi; cases hi
      | some y =>
        rw [h2] at hi
        simp only [Option.map_some, Option.some.injEq] at hi
        have bx := hx x (List.mem_of_getElem? h1)
        have by' := hy y (List.mem_of_getElem? h2)
        have := congrArg UInt8.toNat hi
        rw [UInt8.toNat_ofNat', UInt8.toNat_ofNat'] at this
        congr 1
        omega
section
variable {W : World}
set_option maxHeartbeats 2000000 in
set_option maxRecDepth 100000 in
theorem equal_any {a1 a2 : Option Addr} {l1 l2 c1 c2 : Nat} {xs ys : List Int} (h1 : Sl W a1 l1 c1 xs) (h2 : Sl W a2 l2 c2 ys) (hx : Byt xs) (hy : Byt ys) : Calls Tryz.prog 45 #[.slice a1 l1 c1, .slice a2 l2 c2] W fun r W' => r = .returned (.bool (decide (xs = ys))) ∧ W' = W := by
  have r1 := conv_run h1
  have r2 := conv_run h2
  have HE := hide (str_eq hx hy)
  clear h1 h2 hx hy
  go_enter Tryz.func45, Tryz.ntmps45
  go_wp2_with fail
  go_ret
  exact ⟨by rw [← unhide HE]; rfl, rfl⟩
theorem byt_magic : Byt magic := fun x hx => by
  simp only [magic, List.mem_cons, List.not_mem_nil, or_false] at hx
  rcases hx with rfl | rfl | rfl | rfl | rfl | rfl | rfl | rfl <;> decide
set_option maxHeartbeats 2000000 in
set_option maxRecDepth 100000 in
theorem prefix_any {a : Option Addr} {len cap mb : Nat} {xs : List Int} (h : Sl W a len cap xs) (hx : Byt xs) (h2 : Sl W (some ⟨mb, 0, none⟩) 8 8 magic) : Calls Tryz.prog 17 #[.slice a len cap, .slice (some ⟨mb, 0, none⟩) 8 8] W fun r W' => r = .returned (.bool (decide (xs.take 8 = magic))) ∧ W' = W := by
  have hl := h.1
  have hc := h.2.1
  by_cases h8 : 8 ≤ len
  · rcases h.2.2.2 with ⟨-, h0, -⟩ | ⟨b, off, rfl, h4⟩
    · omega
    · have hs : Sl W (some ⟨b, off, none⟩) 8 cap (xs.take 8) := ⟨by rw [List.length_take]; omega, by omega, by omega, .inr ⟨b, off, rfl, fun j hj => by rw [h4 j (by omega), List.getD_eq_getElem?_getD, List.getD_eq_getElem?_getD, List.getElem?_take, if_pos hj]⟩⟩
      have HX := hide (equal_any hs h2 (byt_take hx 8) byt_magic)
      have h8' : (8 : Int) ≤ (len : Int) := by omega
      have h9 : ¬ (len : Int) < 8 := by omega
      have h10 : 8 ≤ cap := by omega
      clear h h2 hs hx h4
      go_enter Tryz.func17, Tryz.ntmps17
      go_wp2_with fail
      refine (unhide HX).mono ?_
      rintro _ w ⟨rfl, rfl⟩
      go_wp2_with fail
      go_ret
      exact ⟨rfl, rfl⟩
  · have hd : decide (xs.take 8 = magic) = false := decide_eq_false (fun q => by
      have := congrArg List.length q
      rw [List.length_take, show magic.length = 8 from rfl] at this
      omega)
    have HD := hide hd
    have h8' : decide ((8 : Int) ≤ (len : Int)) = false := decide_eq_false (by omega)
    clear h h2 hx hd
    go_enter Tryz.func17, Tryz.ntmps17
    go_wp2_with fail
    go_ret
    exact ⟨by rw [unhide HD]; rfl, rfl⟩
end
end Go.Proofs.YtjoonmpjcophnaaGreatDoor
namespace Go.Proofs.YtjoonmpjcophnaaGreatDoor
open Go.RowKit

theorem szP34 : (Tryz.prog.info? 34).map (·.size) = some 11 := by kernel_rfl
def nil11 : List Value := [.slice none 0 0, .slice none 0 0, .slice none 0 0, .slice none 0 0, .slice none 0 0, .slice none 0 0, .slice none 0 0, .bool false, .int .u32 0, .slice none 0 0, .slice none 0 0]
theorem results_ct {fn : Func} {t ty u : Nat} {p : Addr} {v : Value} {w : World} {P : Program} (hr : fn.results = #[.cell t ty, .tmp u]) (tmps : Array Value) (ht : tmps[t]? = some (.pointer (some p))) (hv : (loadVar ty p).run P w = .ok v w) :
    (results fn tmps).run P w = .ok (.tuple #[v, tmps.getD u undef]) w := by
  simp [results, hr, ht, asAddr, hv]
theorem mor0 (w : World) (P : Nat → Prop) : MoR w P mo0 nil11 := ⟨⟨_, _, _, _, _, _, _, _, _, rfl, sls_nil w P, sls_nil w P, sls_nil w P, sls_nil w P, sls_nil w P, sls_nil w P, sls_nil w P, sls_nil w P, sls_nil w P⟩⟩
theorem fin_no {sat : Bool} {ys : List Int} {s : St} {k : Nat} {e : Int} (h : Rd (rAll sat 0 (mo0, [])) ys 0 0 s k e) (he : e ≠ 0) : fin (rAll sat 0 (mo0, []) ys) = (mo0, e) := by
  have h1 := (h.live rfl).2
  rw [List.drop_zero] at h1
  unfold fin
  rw [← h1, if_pos he]
theorem fin_ok {sat : Bool} {ys : List Int} {s : St} {k : Nat} (h : Rd (rAll sat 0 (mo0, [])) ys 0 0 s k 0) : fin (rAll sat 0 (mo0, []) ys) = if s.2.length = s.1.funcs.length then ({ s.1 with funcs := setTypes s.2 s.1.funcs }, 0) else (mo0, 109) := by
  have h1 := (h.live rfl).2
  have h2 := h.val rfl rfl
  rw [List.drop_zero] at h1 h2
  unfold fin
  rw [← h1, ← h2, if_neg (by simp)]
  by_cases q : s.2.length = s.1.funcs.length
  · rw [if_pos q, if_neg (by simp [q])]
  · rw [if_neg q, if_pos q]
theorem Sl.drop8 {w : World} {b off len cap : Nat} {xs : List Int} (h : Sl w (some ⟨b, off, none⟩) len cap xs) (h8 : 8 ≤ len) (a' : Option Addr) (ha : a' = some ⟨b, if cap = 8 then off else off + 8, none⟩) : Sl w a' (len - 8) (cap - 8) (xs.drop 8) := by
  obtain ⟨h1, h2, h3, h4⟩ := h
  subst ha
  refine ⟨by rw [List.length_drop, h1], by omega, by omega, .inr ⟨_, _, rfl, fun j hj => ?_⟩⟩
  rcases h4 with ⟨h4, _⟩ | ⟨b', off', h5, h6⟩
  · cases h4
  · injection h5 with h5
    injection h5 with h5 h7
    subst h5
    subst h7
    rw [if_neg (by omega), show off + 8 + j = off + (8 + j) by omega, h6 (8 + j) (by omega)]
    simp [List.getD_eq_getElem?_getD, List.getElem?_drop]
theorem magic_sl (w : World) (n : Nat) (hn : n = w.heap.size) : Sl (w.alloc (.cells #[.int .u8 0, .int .u8 97, .int .u8 115, .int .u8 109, .int .u8 1, .int .u8 0, .int .u8 0, .int .u8 0] 5 (8, 9))) (some ⟨n, 0, none⟩) 8 8 magic := by
  refine ⟨rfl, Nat.le_refl _, by omega, .inr ⟨n, 0, rfl, fun j hj => ?_⟩⟩
  rw [Nat.zero_add, Go.Joins.cell_alloc_mark_at w _ 5 (8, 9) n j hn]
  match j, hj with
  | 0, _ => rfl
  | 1, _ => rfl
  | 2, _ => rfl
  | 3, _ => rfl
  | 4, _ => rfl
  | 5, _ => rfl
  | 6, _ => rfl
  | 7, _ => rfl
  | j + 8, h => omega
theorem slice8 {b off len cap : Nat} (h8 : 8 ≤ len) (hc : len ≤ cap) (h47 : len ≤ 140737488355328) (w : World) : (Instr.slice 22 (.slice (some ⟨b, off, none⟩) len cap) (some (.int .i64 8)) none none).run Tryz.prog w = .ok (.slice (some ⟨b, if cap = 8 then off else off + 8, none⟩) (len - 8) (cap - 8)) w := by
  have h1 : (8 : Int) ≤ (len : Int) := by omega
  have h2 : ¬ (len : Int) < 8 := by omega
  by_cases h : cap = 8
  · subst h
    obtain rfl : len = 8 := by omega
    go_simp
  · go_simp
section
variable {a : Option Addr} {len cap : Nat} {xs : List Int} {W : World} {sat : Bool}
set_option maxHeartbeats 16000000 in
set_option maxRecDepth 100000 in
theorem decode_any (hS : Sl W a len cap xs) (hy : Byt xs) (hl : len ≤ 7000 ∨ 65536 < len) (hm : Mk W) (hw4 : 4 ≤ W.heap.size) : Calls Tryz.prog 8 #[.slice a len cap, .bool sat] W fun r W' => ∃ vs : List Value, r = .returned (.tuple #[.agg vs.toArray, .int .i64 (dec sat xs).2]) ∧ MoR W' (fun b => W.heap.size ≤ b) (dec sat xs).1 vs ∧ Mk W' ∧ Fr [] W W' := by
  have hx := hS.1
  have hcap := hS.2.1
  have h47 := hS.2.2.1
  have hb := below1 W (.cells #[.slice none 0 0, .slice none 0 0, .slice none 0 0, .slice none 0 0, .slice none 0 0, .slice none 0 0, .slice none 0 0, .bool false, .int .u32 0, .slice none 0 0, .slice none 0 0] 34)
  have hV0 : Vr W.heap.size 11 nil11 (W.alloc (.cells #[.slice none 0 0, .slice none 0 0, .slice none 0 0, .slice none 0 0, .slice none 0 0, .slice none 0 0, .slice none 0 0, .bool false, .int .u32 0, .slice none 0 0, .slice none 0 0] 34)) := vr_new nil11 34 W
  have hs1 : (W.alloc (.cells #[.slice none 0 0, .slice none 0 0, .slice none 0 0, .slice none 0 0, .slice none 0 0, .slice none 0 0, .slice none 0 0, .bool false, .int .u32 0, .slice none 0 0, .slice none 0 0] 34)).heap.size = W.heap.size + 1 := by simp
  have HR := hide hV0
  have HM := hide (hm.below hb)
  have HF := hide (Fr.of hb [])
  have HSl := hide (hS.below hb)
  have HY := hide hy
  by_cases hlim : 65536 < len
  · have hd : dec sat xs = (mo0, 3) := by unfold dec; rw [if_pos (by omega)]
    have hD := hide hd
    have hlim' : (65536 : Int) < (len : Int) := by omega
    clear hS hy hm hb hV0 hd
    go_enter Tryz.func8, Tryz.ntmps8
    go_wp2_with fail
    refine bodyPost_ret (v := .tuple #[.agg nil11.toArray, .int .i64 3]) ?_ rfl ?_
    · exact results_ct Tryz.results8 _ rfl (load_tab (unhide HR).tab Tryz.underlying34 rfl szP34)
    · rw [unhide hD]
      exact ⟨nil11, rfl, mor0 _ _, unhide HM, unhide HF⟩
  · have hlim' : ¬ (65536 : Int) < (len : Int) := by omega
    have hl7 : len ≤ 7000 := by omega
    have hb2 := below1 (W.alloc (.cells #[.slice none 0 0, .slice none 0 0, .slice none 0 0, .slice none 0 0, .slice none 0 0, .slice none 0 0, .slice none 0 0, .bool false, .int .u32 0, .slice none 0 0, .slice none 0 0] 34)) (.cells #[.int .u8 0, .int .u8 97, .int .u8 115, .int .u8 109, .int .u8 1, .int .u8 0, .int .u8 0, .int .u8 0] 5 (8, 9))
    have hf2 := Fr.of hb2 []
    have hmg : Sl ((W.alloc (.cells #[.slice none 0 0, .slice none 0 0, .slice none 0 0, .slice none 0 0, .slice none 0 0, .slice none 0 0, .slice none 0 0, .bool false, .int .u32 0, .slice none 0 0, .slice none 0 0] 34)).alloc (.cells #[.int .u8 0, .int .u8 97, .int .u8 115, .int .u8 109, .int .u8 1, .int .u8 0, .int .u8 0, .int .u8 0] 5 (8, 9))) (some ⟨W.heap.size + 1, 0, none⟩) 8 8 magic := magic_sl _ _ hs1.symm
    have hcv : (convert 22 22 (.slice (some ⟨W.heap.size + 1, 0, none⟩) 8 8)).run Tryz.prog ((W.alloc (.cells #[.slice none 0 0, .slice none 0 0, .slice none 0 0, .slice none 0 0, .slice none 0 0, .slice none 0 0, .slice none 0 0, .bool false, .int .u32 0, .slice none 0 0, .slice none 0 0] 34)).alloc (.cells #[.int .u8 0, .int .u8 97, .int .u8 115, .int .u8 109, .int .u8 1, .int .u8 0, .int .u8 0, .int .u8 0] 5)) = .ok (.slice (some ⟨W.heap.size + 1, 0, none⟩) 8 8) ((W.alloc (.cells #[.slice none 0 0, .slice none 0 0, .slice none 0 0, .slice none 0 0, .slice none 0 0, .slice none 0 0, .slice none 0 0, .bool false, .int .u32 0, .slice none 0 0, .slice none 0 0] 34)).alloc (.cells #[.int .u8 0, .int .u8 97, .int .u8 115, .int .u8 109, .int .u8 1, .int .u8 0, .int .u8 0, .int .u8 0] 5 (8, 9))) := Go.Joins.run_convert_bytes_const_at (W.alloc (.cells #[.slice none 0 0, .slice none 0 0, .slice none 0 0, .slice none 0 0, .slice none 0 0, .slice none 0 0, .slice none 0 0, .bool false, .int .u32 0, .slice none 0 0, .slice none 0 0] 34)) 22 5 #[.int .u8 0, .int .u8 97, .int .u8 115, .int .u8 109, .int .u8 1, .int .u8 0, .int .u8 0, .int .u8 0] 8 8 (W.heap.size + 1) hs1.symm Tryz.underlying22 Tryz.underlying5
    have HX := hide (prefix_any ((unhide HSl).below hb2) (unhide HY) hmg)
    have HR := hide ((unhide HR).fr hf2 (by simp))
    have HM := hide ((unhide HM).below hb2)
    have HF := hide ((unhide HF).bel hb2)
    have HSl := hide ((unhide HSl).below hb2)
    clear hS hy hm hb hV0 hb2 hf2 hmg
    go_enter Tryz.func8, Tryz.ntmps8
    go_wp2_with fail
    clear hcv
    generalize (W.alloc (.cells #[.slice none 0 0, .slice none 0 0, .slice none 0 0, .slice none 0 0, .slice none 0 0, .slice none 0 0, .slice none 0 0, .bool false, .int .u32 0, .slice none 0 0, .slice none 0 0] 34)).alloc (.cells #[.int .u8 0, .int .u8 97, .int .u8 115, .int .u8 109, .int .u8 1, .int .u8 0, .int .u8 0, .int .u8 0] 5 (8, 9)) = w1 at *
    refine (unhide HX).mono ?_
    rintro _ w ⟨rfl, rfl⟩
    by_cases hm8 : xs.take 8 = magic
    · have hdm : decide (xs.take 8 = magic) = true := decide_eq_true hm8
      rw [hdm]
      have h8 : 8 ≤ len := by
        have := congrArg List.length hm8
        rw [List.length_take, show magic.length = 8 from rfl] at this
        omega
      have HDF := hide (dec_fin sat (xs := xs) (by omega) hm8)
      rcases (unhide HSl).2.2.2 with ⟨-, h0, -⟩ | ⟨b, off, rfl, h4⟩
      · omega
      obtain ⟨off', hoff⟩ : ∃ o', (if cap = 8 then off else off + 8) = o' := ⟨_, rfl⟩
      have hsl := fun w => slice8 (b := b) (off := off) h8 hcap h47 w
      have hsd := Sl.drop8 (unhide HSl) h8 _ rfl
      simp only [hoff] at hsl hsd
      have hyd := byt_dropS (unhide HY) 8
      have HN := hide (new_own hsd (by omega) hyd)
      have h8' : (8 : Int) ≤ (len : Int) := by omega
      have h9 : ¬ (len : Int) < 8 := by omega
      have h10 : 8 ≤ cap := by omega
      clear h4 HSl hsd hyd HX hdm hoff
      go_wp2_with fail
      clear hsl
      refine (unhide HN).mono ?_
      rintro _ w2 ⟨c, y1, y3, rfl, hC, hc, hy1, hF2⟩
      have hb3 := below1 w2 (.cells #[.pointer (some ⟨c, 0, none⟩), .bool sat] 68)
      have hf3 := hF2.trans (Fr.of hb3 [])
      have HI : Hid (Vr w2.heap.size 2 [.pointer (some ⟨c, 0, none⟩), .bool sat] (w2.alloc (.cells #[.pointer (some ⟨c, 0, none⟩), .bool sat] 68))) := hide (vr_new [.pointer (some ⟨c, 0, none⟩), .bool sat] 68 w2)
      have hs3 : (w2.alloc (.cells #[.pointer (some ⟨c, 0, none⟩), .bool sat] 68)).heap.size = w2.heap.size + 1 := by simp
      have hcs2 := hC.1.lt
      have HAl := hide hC.2.1.lt
      have hRl := (unhide HR).lt
      have hw2 := hF2.size
      have hww := (unhide HF).size
      replace HR := hide ((unhide HR).fr hf3 (by simp))
      replace HM := hide ((unhide HM).fr hf3 (by simp))
      replace HF := hide ((unhide HF).trans hf3)
      replace HC := hide (hC.bel hb3)
      have HX18 := hide (sections_any (sat := sat) (unhide HC) (unhide HM) (by omega))
      clear hC hb3 hf3 hy1 hF2 HN hm8 hlim' hlim hl hs1 HY
      go_wp2_with fail
      generalize w2.alloc (.cells #[.pointer (some ⟨c, 0, none⟩), .bool sat] 68) = w3 at *
      refine (unhide HX18).mono ?_
      rintro _ w4 ⟨vs, s, g, k1, e1, rfl, hR4, hD4, hC4, hM4, hF4⟩
      have hs4 := hF4.size
      have hld := hD4.len
      have hone := hD4.one
      have hV0 : Vr w4.heap.size 12 nil12 (w4.alloc (.cells #[.slice none 0 0, .slice none 0 0, .slice none 0 0, .slice none 0 0, .slice none 0 0, .slice none 0 0, .slice none 0 0, .bool false, .int .u32 0, .slice none 0 0, .slice none 0 0, .slice none 0 0] 71)) := vr_new nil12 71 w4
      have HV0 := hide hV0
      have hXd := vr_cells (cs := vs) hV0.room hV0.lt hld
      have hF5 : Fr [] w4 ((w4.alloc (.cells #[.slice none 0 0, .slice none 0 0, .slice none 0 0, .slice none 0 0, .slice none 0 0, .slice none 0 0, .slice none 0 0, .bool false, .int .u32 0, .slice none 0 0, .slice none 0 0, .slice none 0 0] 71)).setCells w4.heap.size 0 vs) := ((Fr.refl [] w4).alloc _).thenL (fr_cells w4.heap.size vs 0 _) (by simp)
      have HXd := hide hXd
      have HR4 := hide hR4
      have HF5 := hide hF5
      have HD5 := hide ((hD4.mono (P' := fun b => w3.heap.size + 2 < b ∧ b < w4.heap.size) (fun b hb hp => ⟨hp, hb⟩)).fr hF5 (by simp) (fun q => q))
      replace HI := hide (((unhide HI).fr hF4 (by simp; omega)).fr hF5 (by simp))
      replace HR := hide (((unhide HR).fr hF4 (by simp; omega)).fr hF5 (by simp))
      replace HM := hide (hM4.fr hF5 (by simp))
      replace HF := hide (((unhide HF).thenL hF4 (by simp; omega)).thenL hF5 (by simp))
      replace HC := hide (hC4.fr hF5 (by simp) (by simp))
      clear hV0 hXd hR4 hD4 hC4 hM4 hF4 hF5 HX18
      go_wp2_with ((refine wpList_storeA rfl 71 (.tmp 7) (.tmp 24) rfl rfl (g := w4.heap.size) (off := 0) (cs := vs) rfl rfl (by rw [hld]; exact szP71) (fun j hj => by rw [Nat.zero_add]; exact (unhide HV0).room j (by omega)) hone ?_))
      clear HV0
      generalize (w4.alloc (.cells #[.slice none 0 0, .slice none 0 0, .slice none 0 0, .slice none 0 0, .slice none 0 0, .slice none 0 0, .slice none 0 0, .bool false, .int .u32 0, .slice none 0 0, .slice none 0 0, .slice none 0 0] 71)).setCells w4.heap.size 0 vs = w5 at *
      refine (complete_any (unhide HXd) (unhide HD5) (by omega)).mono ?_
      rintro _ w6 ⟨bb, l, rfl, hb1, hb2, hV6, hF6, hl6⟩
      have HV6 := hide hV6
      replace HI := hide ((unhide HI).fr hF6 (fun hm => by have := hl6 _ hm; omega))
      replace HR := hide ((unhide HR).fr hF6 (fun hm => by have := hl6 _ hm; omega))
      replace HM := hide ((unhide HM).fr hF6 (fun i hi => by have := hl6 i hi; omega))
      replace HC := hide ((unhide HC).fr hF6 (fun hm => by have := hl6 _ hm; omega) (fun p hp hl hm => by have := unhide HAl p hp hl; have := hl6 _ hm; omega))
      replace HF := hide ((unhide HF).thenL hF6 (fun i hi => .inr (by have := hl6 i hi; omega)))
      have HB1 := hide hb1
      have HB2 := hide hb2
      clear hV6 hF6 hl6 hb1 hb2 HD5 HXd HF5
      cases bb with
      | false =>
        have i0 := (unhide HI).tab 0 _ rfl
        have i1 := (unhide HI).tab 1 _ rfl
        go_wp2_with fail
        clear i0 i1
        refine (Fail_any (unhide HC)).mono ?_
        rintro _ w7 ⟨rfl, hC, hF7⟩
        obtain ⟨e2, hE2⟩ : ∃ e2, (if e1 = 0 then (109 : Int) else e1) = e2 := ⟨_, rfl⟩
        rw [hE2] at hC
        have hne : e2 ≠ 0 := by rw [← hE2]; split; decide; assumption
        have hdq : dec sat xs = (mo0, e2) := by
          rw [unhide HDF]
          by_cases q : e1 = 0
          · subst q
            have hq := of_decide_eq_false ((unhide HB1) (by first | rfl | trivial)).symm
            rw [fin_ok (unhide HR4), if_neg hq, ← hE2, if_pos rfl]
          · rw [fin_no (unhide HR4) q, ← hE2, if_neg q]
        have HDE := hide hdq
        replace HI := hide ((unhide HI).fr hF7 (by simp; omega))
        replace HR := hide ((unhide HR).fr hF7 (by simp; omega))
        replace HM := hide ((unhide HM).fr hF7 (by simp; omega))
        replace HC := hide hC
        replace HF := hide ((unhide HF).thenL hF7 (by simp; omega))
        clear hC hF7 hE2 hdq
        have i0 := (unhide HI).tab 0 _ rfl
        have i1 := (unhide HI).tab 1 _ rfl
        go_wp2_with fail
        clear i0 i1
        refine (p_failed (unhide HC)).mono ?_
        rintro _ w8 ⟨rfl, hF8⟩
        replace HI := hide ((unhide HI).fr hF8 (by simp))
        replace HR := hide ((unhide HR).fr hF8 (by simp))
        replace HM := hide ((unhide HM).fr hF8 (by simp))
        replace HC := hide ((unhide HC).fr hF8 (by simp) (by simp))
        replace HF := hide ((unhide HF).trans hF8)
        clear hF8
        have hne' : (e2 != 0) = true := by simpa using hne
        have hX : Vr W.heap.size 11 nil11 (w8.setCells W.heap.size 0 nil11) := vr_cells (cs := nil11) (unhide HR).room (unhide HR).lt rfl
        have fZ := fr_cells W.heap.size nil11 0 w8
        have HZ := hide fZ
        have HXv := hide hX
        have HDQ : Hid (dec sat xs = (mo0, e2)) := hide (unhide HDE)
        clear hX fZ
        have z0 := (unhide HR).tab 0 _ rfl
        have fz0 := ((unhide HR).room 0 (by decide)).2
        have z1 := (unhide HR).tab 1 _ rfl
        have fz1 := ((unhide HR).room 1 (by decide)).2
        have z2 := (unhide HR).tab 2 _ rfl
        have fz2 := ((unhide HR).room 2 (by decide)).2
        have z3 := (unhide HR).tab 3 _ rfl
        have fz3 := ((unhide HR).room 3 (by decide)).2
        have z4 := (unhide HR).tab 4 _ rfl
        have fz4 := ((unhide HR).room 4 (by decide)).2
        have z5 := (unhide HR).tab 5 _ rfl
        have fz5 := ((unhide HR).room 5 (by decide)).2
        have z6 := (unhide HR).tab 6 _ rfl
        have fz6 := ((unhide HR).room 6 (by decide)).2
        have z7 := (unhide HR).tab 7 _ rfl
        have fz7 := ((unhide HR).room 7 (by decide)).2
        have z8 := (unhide HR).tab 8 _ rfl
        have fz8 := ((unhide HR).room 8 (by decide)).2
        have z9 := (unhide HR).tab 9 _ rfl
        have fz9 := ((unhide HR).room 9 (by decide)).2
        have z10 := (unhide HR).tab 10 _ rfl
        have fz10 := ((unhide HR).room 10 (by decide)).2
        have i0 := (unhide HI).tab 0 _ rfl
        go_wp2_with fail
        refine (err_any (unhide HC)).mono ?_
        rintro _ wy ⟨rfl, hwy⟩
        subst hwy
        go_wp2_with fail
        clear z0 fz0 z1 fz1 z2 fz2 z3 fz3 z4 fz4 z5 fz5 z6 fz6 z7 fz7 z8 fz8 z9 fz9 z10 fz10
        clear i0
        change bodyPost _ _ _ _ _ (wy.setCells W.heap.size 0 nil11)
        generalize wy.setCells W.heap.size 0 nil11 = wz at *
        refine bodyPost_ret (v := .tuple #[.agg nil11.toArray, .int .i64 (e2)]) ?_ rfl ?_
        · exact results_ct Tryz.results8 _ rfl (load_tab (unhide HXv).tab Tryz.underlying34 rfl szP34)
        · rw [unhide HDQ]
          exact ⟨nil11, rfl, mor0 _ _, (unhide HM).fr (unhide HZ) (by simp; omega), (unhide HF).thenL (unhide HZ) (by simp)⟩
      | true =>
        have i0 := (unhide HI).tab 0 _ rfl
        have i1 := (unhide HI).tab 1 _ rfl
        go_wp2_with fail
        clear i0 i1
        refine (p_failed (unhide HC)).mono ?_
        rintro _ w8 ⟨rfl, hF8⟩
        by_cases he : e1 = 0
        · subst he
          have hq := of_decide_eq_true ((unhide HB1) (by first | rfl | trivial)).symm
          have hdq : dec sat xs = ({ s.1 with funcs := setTypes s.2 s.1.funcs }, 0) := by rw [unhide HDF, fin_ok (unhide HR4), if_pos hq]
          have HDQ := hide hdq
          have hmo := ((unhide HB2) (by first | rfl | trivial) (by first | rfl | trivial)).all (B := w8) (fun p v _ hc => hF8.keep hc (by simp))
          have HMo := hide hmo
          replace HR := hide ((unhide HR).fr hF8 (by simp))
          replace HM := hide ((unhide HM).fr hF8 (by simp))
          replace HF := hide ((unhide HF).trans hF8)
          replace HV6 := hide ((unhide HV6).fr hF8 (by simp))
          have ht11 : (vs.take 11).length = 11 := by rw [List.length_take, hld]; rfl
          have hones : ∀ u ∈ vs.take 11, u.oneCell' = true := fun u hu => hone u (List.mem_of_mem_take hu)
          have hTab : Tab w8 w4.heap.size (vs.take 11) := fun j v hj => (unhide HV6).tab j v (by
            have hlt : j < 11 := by have := (List.getElem?_eq_some_iff.1 hj).1; omega
            rwa [List.getElem?_take, if_pos hlt] at hj)
          have HTab := hide hTab
          have hX := vr_cells (cs := vs.take 11) (unhide HR).room (unhide HR).lt ht11
          have fZ := fr_cells W.heap.size (vs.take 11) 0 w8
          have HZ := hide fZ
          have HXv := hide hX
          have hRl8 := (unhide HR).lt
          clear hX fZ hdq hq hF8 hmo hTab HB2 HB1 HV6
          generalize vs.take 11 = vt at *
          go_wp2_with (first | (refine wpList_load_tab rfl 34 (.tmp 36) rfl w4.heap.size rfl vt _ (unhide HTab) Tryz.underlying34 rfl (by rw [ht11]; exact szP34) ?_) | (refine wpList_storeA rfl 34 (.tmp 4) (.tmp 37) rfl rfl (g := W.heap.size) (off := 0) (cs := vt) rfl rfl (by rw [ht11]; exact szP34) (fun j hj => by rw [Nat.zero_add]; exact (unhide HR).room j (by omega)) hones ?_))
          generalize w8.setCells W.heap.size 0 vt = wz at *
          refine bodyPost_ret (v := .tuple #[.agg vt.toArray, .int .i64 0]) ?_ rfl ?_
          · exact results_ct Tryz.results8 _ rfl (load_tab (unhide HXv).tab Tryz.underlying34 rfl (by rw [ht11]; exact szP34))
          · rw [unhide HDQ]
            exact ⟨vt, rfl, ((unhide HMo).all (B := wz) (fun p v hp hc => (unhide HZ).keep hc (by simp; omega))).mono (fun b _ hb => by omega), (unhide HM).fr (unhide HZ) (by simp; omega), (unhide HF).thenL (unhide HZ) (by simp)⟩
        · replace HI := hide ((unhide HI).fr hF8 (by simp))
          replace HR := hide ((unhide HR).fr hF8 (by simp))
          replace HM := hide ((unhide HM).fr hF8 (by simp))
          replace HC := hide ((unhide HC).fr hF8 (by simp) (by simp))
          replace HF := hide ((unhide HF).trans hF8)
          clear hF8
          have hne' : (e1 != 0) = true := by simpa using he
          have hX : Vr W.heap.size 11 nil11 (w8.setCells W.heap.size 0 nil11) := vr_cells (cs := nil11) (unhide HR).room (unhide HR).lt rfl
          have fZ := fr_cells W.heap.size nil11 0 w8
          have HZ := hide fZ
          have HXv := hide hX
          have HDQ : Hid (dec sat xs = (mo0, e1)) := hide (by rw [unhide HDF, fin_no (unhide HR4) he])
          clear hX fZ
          have z0 := (unhide HR).tab 0 _ rfl
          have fz0 := ((unhide HR).room 0 (by decide)).2
          have z1 := (unhide HR).tab 1 _ rfl
          have fz1 := ((unhide HR).room 1 (by decide)).2
          have z2 := (unhide HR).tab 2 _ rfl
          have fz2 := ((unhide HR).room 2 (by decide)).2
          have z3 := (unhide HR).tab 3 _ rfl
          have fz3 := ((unhide HR).room 3 (by decide)).2
          have z4 := (unhide HR).tab 4 _ rfl
          have fz4 := ((unhide HR).room 4 (by decide)).2
          have z5 := (unhide HR).tab 5 _ rfl
          have fz5 := ((unhide HR).room 5 (by decide)).2
          have z6 := (unhide HR).tab 6 _ rfl
          have fz6 := ((unhide HR).room 6 (by decide)).2
          have z7 := (unhide HR).tab 7 _ rfl
          have fz7 := ((unhide HR).room 7 (by decide)).2
          have z8 := (unhide HR).tab 8 _ rfl
          have fz8 := ((unhide HR).room 8 (by decide)).2
          have z9 := (unhide HR).tab 9 _ rfl
          have fz9 := ((unhide HR).room 9 (by decide)).2
          have z10 := (unhide HR).tab 10 _ rfl
          have fz10 := ((unhide HR).room 10 (by decide)).2
          have i0 := (unhide HI).tab 0 _ rfl
          go_wp2_with fail
          refine (err_any (unhide HC)).mono ?_
          rintro _ wy ⟨rfl, hwy⟩
          subst hwy
          go_wp2_with fail
          clear z0 fz0 z1 fz1 z2 fz2 z3 fz3 z4 fz4 z5 fz5 z6 fz6 z7 fz7 z8 fz8 z9 fz9 z10 fz10
          clear i0
          change bodyPost _ _ _ _ _ (wy.setCells W.heap.size 0 nil11)
          generalize wy.setCells W.heap.size 0 nil11 = wz at *
          refine bodyPost_ret (v := .tuple #[.agg nil11.toArray, .int .i64 (e1)]) ?_ rfl ?_
          · exact results_ct Tryz.results8 _ rfl (load_tab (unhide HXv).tab Tryz.underlying34 rfl szP34)
          · rw [unhide HDQ]
            exact ⟨nil11, rfl, mor0 _ _, (unhide HM).fr (unhide HZ) (by simp; omega), (unhide HF).thenL (unhide HZ) (by simp)⟩
    · have hdm : decide (xs.take 8 = magic) = false := decide_eq_false hm8
      rw [hdm]
      have hd : dec sat xs = (mo0, 103) := by unfold dec; rw [if_neg (by omega), if_pos hm8]
      have hD := hide hd
      have hX : Vr W.heap.size 11 nil11 (w.setCells W.heap.size 0 nil11) := vr_cells (cs := nil11) (unhide HR).room (unhide HR).lt rfl
      have fZ := fr_cells W.heap.size nil11 0 w
      have HZ := hide fZ
      have HXv := hide hX
      clear hX fZ hd hdm hm8 HX HSl
      have z0 := (unhide HR).tab 0 _ rfl
      have fz0 := ((unhide HR).room 0 (by decide)).2
      have z1 := (unhide HR).tab 1 _ rfl
      have fz1 := ((unhide HR).room 1 (by decide)).2
      have z2 := (unhide HR).tab 2 _ rfl
      have fz2 := ((unhide HR).room 2 (by decide)).2
      have z3 := (unhide HR).tab 3 _ rfl
      have fz3 := ((unhide HR).room 3 (by decide)).2
      have z4 := (unhide HR).tab 4 _ rfl
      have fz4 := ((unhide HR).room 4 (by decide)).2
      have z5 := (unhide HR).tab 5 _ rfl
      have fz5 := ((unhide HR).room 5 (by decide)).2
      have z6 := (unhide HR).tab 6 _ rfl
      have fz6 := ((unhide HR).room 6 (by decide)).2
      have z7 := (unhide HR).tab 7 _ rfl
      have fz7 := ((unhide HR).room 7 (by decide)).2
      have z8 := (unhide HR).tab 8 _ rfl
      have fz8 := ((unhide HR).room 8 (by decide)).2
      have z9 := (unhide HR).tab 9 _ rfl
      have fz9 := ((unhide HR).room 9 (by decide)).2
      have z10 := (unhide HR).tab 10 _ rfl
      have fz10 := ((unhide HR).room 10 (by decide)).2
      go_wp2_with fail
      clear z0 z1 z2 z3 z4 z5 z6 z7 z8 z9 z10 fz0 fz1 fz2 fz3 fz4 fz5 fz6 fz7 fz8 fz9 fz10
      change bodyPost _ _ _ _ _ (w.setCells W.heap.size 0 nil11)
      generalize w.setCells W.heap.size 0 nil11 = wz at *
      refine bodyPost_ret (v := .tuple #[.agg nil11.toArray, .int .i64 103]) ?_ rfl ?_
      · exact results_ct Tryz.results8 _ rfl (load_tab (unhide HXv).tab Tryz.underlying34 rfl szP34)
      · rw [unhide hD]
        exact ⟨nil11, rfl, mor0 _ _, (unhide HM).fr (unhide HZ) (by simp; omega), (unhide HF).thenL (unhide HZ) (by simp)⟩
end
end Go.Proofs.YtjoonmpjcophnaaGreatDoor
namespace Go.Proofs.YtjoonmpjcophnaaGreatDoor
open Go.RowKit

theorem aw_1 : dec false (magic ++ [7]) = (mo0, 100) := by
  have h : (dec false (magic ++ [7])).2 = 100 := by kernel_rfl
  have h2 : (rMod false 10 0 (mo0, []) [7]).2.2 = 100 := by kernel_rfl
  unfold dec
  rw [if_neg (by decide), if_neg (by decide), if_pos (by show (rMod false 10 0 (mo0, []) [7]).2.2 ≠ 0; rw [h2]; decide)]
  show (mo0, (rMod false 10 0 (mo0, []) [7]).2.2) = _
  rw [h2]
theorem aw_2 : (dec false (magic ++ [1, 4, 1, 96, 0, 0])).2 = 0 ∧ (dec false (magic ++ [1, 4, 1, 96, 0, 0])).1.types.length = 1 := ⟨by kernel_rfl, by kernel_rfl⟩
theorem MoR.len {w : World} {P : Nat → Prop} {m : Mo} {vs : List Value} (h : MoR w P m vs) : vs.length = 11 := by
  obtain ⟨v0, v1, v2, v3, v4, v5, v6, v9, v10, rfl, _⟩ := h.ex
  rfl
theorem MoR.one {w : World} {P : Nat → Prop} {m : Mo} {vs : List Value} (h : MoR w P m vs) : ∀ u ∈ vs, u.oneCell' = true := by
  obtain ⟨v0, v1, v2, v3, v4, v5, v6, v9, v10, rfl, a, b, c, d, e, f, g, i, j⟩ := h.ex
  intro u hu
  simp only [List.mem_cons, List.not_mem_nil, or_false] at hu
  rcases hu with rfl | rfl | rfl | rfl | rfl | rfl | rfl | rfl | rfl | rfl | rfl
  · exact a.one
  · exact b.one
  · exact c.one
  · exact d.one
  · exact e.one
  · exact f.one
  · exact g.one
  · rfl
  · rfl
  · exact i.one
  · exact j.one
theorem MoR.fr0 {w w' : World} {P : Nat → Prop} {m : Mo} {vs : List Value} {l : List Nat} (h : MoR w P m vs) (hf : Fr l w w') (hl : ∀ i ∈ l, ¬ P i) : MoR w' P m vs := h.all fun _ _ hp hc => hf.keep hc (fun hm => hl _ hm hp)
/-- A module, laid in a variable of its own. -/
theorem mod_new {w : World} {P : Nat → Prop} {m : Mo} {vs : List Value} (h : MoR w P m vs) : Room w.heap.size 11 (w.alloc (.cells #[.slice none 0 0, .slice none 0 0, .slice none 0 0, .slice none 0 0, .slice none 0 0, .slice none 0 0, .slice none 0 0, .bool false, .int .u32 0, .slice none 0 0, .slice none 0 0] 34)) ∧ Vr w.heap.size 11 vs ((w.alloc (.cells #[.slice none 0 0, .slice none 0 0, .slice none 0 0, .slice none 0 0, .slice none 0 0, .slice none 0 0, .slice none 0 0, .bool false, .int .u32 0, .slice none 0 0, .slice none 0 0] 34)).setCells w.heap.size 0 vs) ∧ Fr [] w ((w.alloc (.cells #[.slice none 0 0, .slice none 0 0, .slice none 0 0, .slice none 0 0, .slice none 0 0, .slice none 0 0, .slice none 0 0, .bool false, .int .u32 0, .slice none 0 0, .slice none 0 0] 34)).setCells w.heap.size 0 vs) ∧ w.heap.size < ((w.alloc (.cells #[.slice none 0 0, .slice none 0 0, .slice none 0 0, .slice none 0 0, .slice none 0 0, .slice none 0 0, .slice none 0 0, .bool false, .int .u32 0, .slice none 0 0, .slice none 0 0] 34)).setCells w.heap.size 0 vs).heap.size := by
  have hV : Vr w.heap.size 11 nil11 (w.alloc (.cells #[.slice none 0 0, .slice none 0 0, .slice none 0 0, .slice none 0 0, .slice none 0 0, .slice none 0 0, .slice none 0 0, .bool false, .int .u32 0, .slice none 0 0, .slice none 0 0] 34)) := vr_new nil11 34 w
  have hX := vr_cells (cs := vs) hV.room hV.lt h.len
  exact ⟨hV.room, hX, ((Fr.refl [] w).alloc _).thenL (fr_cells w.heap.size vs 0 _) (by simp), hX.lt⟩
theorem byt_dec' (l : List Int) (h : l.all (fun x => decide (0 ≤ x) && decide (x < 256)) = true) : Byt l := by
  intro x hx
  have := List.all_eq_true.1 h x hx
  simpa using this
theorem fr_low {a b c : World} {B : Nat} (h : Fr [] a b) (hb : Below B b c) (hB : a.heap.size ≤ B) : Fr [] a c := ⟨hb.os.trans h.os, hb.tape.trans h.tape, hb.output.trans h.output, Nat.le_trans h.size hb.size, fun i hi hn => (hb.block i (by omega)).trans (h.block i hi hn)⟩
section
variable {W : World}
set_option maxHeartbeats 16000000 in
set_option maxRecDepth 100000 in
theorem awake20 (hm : Mk W) (h4 : 4 ≤ W.heap.size) : Calls Tryz.prog 7 #[] W fun r W' => r = .returned (.bool true) ∧ Mk W' ∧ Fr [] W W' := by
  have hs1 : (W.alloc (.cells #[.int .u8 0, .int .u8 97, .int .u8 115, .int .u8 109, .int .u8 1, .int .u8 0, .int .u8 0, .int .u8 0] 5)).heap.size = W.heap.size + 1 := by simp
  have hS1 : Sl (W.alloc (.cells #[.int .u8 0, .int .u8 97, .int .u8 115, .int .u8 109, .int .u8 1, .int .u8 0, .int .u8 0, .int .u8 0] 5)) (some ⟨W.heap.size, 0, none⟩) 8 8 magic := sl_lit W magic 8 rfl (by omega)
  have hM1 : Mk (W.alloc (.cells #[.int .u8 0, .int .u8 97, .int .u8 115, .int .u8 109, .int .u8 1, .int .u8 0, .int .u8 0, .int .u8 0] 5)) := hm.below (below1 W _)
  have hF1 : Fr [] W (W.alloc (.cells #[.int .u8 0, .int .u8 97, .int .u8 115, .int .u8 109, .int .u8 1, .int .u8 0, .int .u8 0, .int .u8 0] 5)) := Fr.of (below1 W _) []
  obtain ⟨W1, hW1⟩ : ∃ W1, W.alloc (.cells #[.int .u8 0, .int .u8 97, .int .u8 115, .int .u8 109, .int .u8 1, .int .u8 0, .int .u8 0, .int .u8 0] 5) = W1 := ⟨_, rfl⟩
  have hW1' := hide hW1
  rw [hW1] at hs1 hS1 hM1 hF1
  have hO2 : Ow (W1.alloc (.cells #[] 5)) W1.heap.size (.slice (some ⟨W1.heap.size, 0, none⟩) 0 0) [] := ow_lit W1 [] 0 rfl (by omega)
  have hf2 : Fr [] W1 (W1.alloc (.cells #[] 5)) := (Fr.refl [] W1).alloc _
  obtain ⟨a3, c3, w3, hr3, hO3, hS3, hB3⟩ := app_run hO2 hf2.size (hS1.fr hf2 (by simp)) (by simp)
  have hf3 := fr_low hf2 hB3 (Nat.le_refl _)
  have hf4 := hf3.alloc (.cells #[.int .u8 7] 5)
  have hS4 : Sl (w3.alloc (.cells #[.int .u8 7] 5)) (some ⟨w3.heap.size, 0, none⟩) 1 1 [7] := sl_lit w3 [7] 1 rfl (by omega)
  obtain ⟨a5, c5, w5, hr5, hO5, hS5, hB5⟩ := app_run (hO3.alloc (.cells #[.int .u8 7] 5)) hf4.size hS4 (by decide)
  have hf5 := fr_low hf4 hB5 (Nat.le_refl _)
  have hl9 : ([] ++ magic : List Int).length + 1 = 9 := rfl
  have hl8 : ([] : List Int).length + 8 = 8 := rfl
  rw [hl8, hs1] at hr3
  rw [hl9, hl8] at hr5
  rw [hl9] at hS5
  have HR3 := hide hr3
  have HR5 := hide hr5
  have HX := hide (decode_any (sat := false) hS5 (byt_dec' _ rfl) (by omega) (hM1.fr hf5 (by simp)) (by have := hf5.size; omega))
  have HF5 := hide hf5
  have HS1 := hide hS1
  have HM1 := hide hM1
  have HF1 := hide hF1
  clear hO2 hf2 hO3 hS3 hB3 hf3 hf4 hS4 hr3 hr5 hO5 hS5 hB5 hf5 hS1 hM1 hF1 hl8 hl9
  have hm0 := hm
  clear hm
  rw [show (([] ++ magic) ++ [7] : List Int) = magic ++ [7] from rfl, aw_1] at HX
  go_enter Tryz.func7, Tryz.ntmps7
  go_wp2_with (at_builtin; first | (refine wpList_appT (w := W1.alloc (.cells #[] 5)) (t := 22) (by rfl) rfl rfl (unhide HR3) ?_) | (refine wpList_appT (w := w3.alloc (.cells #[.int .u8 7] 5)) (t := 22) (by rfl) rfl rfl (unhide HR5) ?_))
  refine (unhide HX).mono ?_
  rintro _ w6 ⟨vs, rfl, hmo, hM6, hF6⟩
  obtain ⟨r1, r2, r3, r4⟩ := mod_new hmo
  have hl11 := hmo.len
  have hone := hmo.one
  have HRm := hide r1
  have hf7 := ((unhide HF5).trans hF6).trans r3
  have hM7 := hM6.fr r3 (by simp)
  have hz7 := ((unhide HF5).trans hF6).size
  obtain ⟨w7, hw7⟩ : ∃ w7, (w6.alloc (.cells #[.slice none 0 0, .slice none 0 0, .slice none 0 0, .slice none 0 0, .slice none 0 0, .slice none 0 0, .slice none 0 0, .bool false, .int .u32 0, .slice none 0 0, .slice none 0 0] 34)).setCells w6.heap.size 0 vs = w7 := ⟨_, rfl⟩
  rw [hw7] at hf7 hM7 r2 r3 r4
  have hO7 : Ow w7 W.heap.size (.slice (some ⟨W.heap.size, 0, none⟩) 8 8) magic := by
    have hO := ow_lit W magic 8 rfl (by omega)
    have hO : Ow W1 W.heap.size (.slice (some ⟨W.heap.size, 0, none⟩) 8 8) magic := by rw [← unhide hW1']; exact hO
    exact rof_fr hO hf7 (by simp)
  have hf8 := hf7.alloc (.cells #[.int .u8 1, .int .u8 4, .int .u8 1, .int .u8 96, .int .u8 0, .int .u8 0] 5)
  have hS8 : Sl (w7.alloc (.cells #[.int .u8 1, .int .u8 4, .int .u8 1, .int .u8 96, .int .u8 0, .int .u8 0] 5)) (some ⟨w7.heap.size, 0, none⟩) 6 6 [1, 4, 1, 96, 0, 0] := sl_lit w7 [1, 4, 1, 96, 0, 0] 6 rfl (by omega)
  obtain ⟨a9, c9, w9, hr9, hO9, hS9, hB9⟩ := app_run (hO7.alloc (.cells #[.int .u8 1, .int .u8 4, .int .u8 1, .int .u8 96, .int .u8 0, .int .u8 0] 5)) (by have := hf8.size; omega) hS8 (by decide)
  have hf9 : Fr [] W w9 := fr_low ((unhide HF1).trans hf8) hB9 (Nat.le_refl _)
  have hl14 : (magic : List Int).length + 6 = 14 := rfl
  have hl8' : (magic : List Int).length = 8 := rfl
  rw [hl14] at hr9 hS9
  have HR9 := hide hr9
  have HX2 := hide (decode_any (sat := false) hS9 (byt_dec' _ rfl) (by omega) (hm0.fr hf9 (by simp)) (by have := hf9.size; omega))
  have HF9 := hide hf9
  clear r1 r2 r3 r4 hmo hM6 hF6 HX HR3 HR5 HF5 hf7 hM7 hO7 hf8 hS8 hr9 hO9 hS9 hB9 hf9 HS1 HM1 HF1 hW1 hW1' hz7
  go_wp2_with (first | (refine wpList_storeA rfl 34 (.tmp 2) (.tmp 14) rfl rfl (g := w6.heap.size) (off := 0) (cs := vs) rfl rfl (by rw [hl11]; exact szP34) (fun j hj => by rw [Nat.zero_add]; exact (unhide HRm) j (by omega)) hone ?_; rw [hw7]) | (at_builtin; refine wpList_appT (w := w7.alloc (.cells #[.int .u8 1, .int .u8 4, .int .u8 1, .int .u8 96, .int .u8 0, .int .u8 0] 5)) (t := 22) (by rfl) rfl rfl (unhide HR9) ?_))
  clear HR9 HRm hw7
  refine (unhide HX2).mono ?_
  rintro _ w10 ⟨vs2, rfl, hmo, hM6, hF6⟩
  obtain ⟨r1, r2, r3, r4⟩ := mod_new hmo
  have hl112 := hmo.len
  have hone2 := hmo.one
  obtain ⟨v0, v1, v2, v3, v4, v5, v6, v9, v10, hvs, a0, -⟩ := hmo.ex
  obtain ⟨p0, q0, rfl, -, -⟩ := a0.open
  rw [aw_2.2] at hvs
  have hz0 := r2.tab 0 (.slice p0 1 q0) (by rw [hvs]; rfl)
  have HRm := hide r1
  have HFz := hide (((unhide HF9).trans hF6).trans r3)
  have HMz := hide (hM6.fr r3 (by simp))
  have he0 := aw_2.1
  clear r1 r2 r3 r4 hmo hM6 hF6 HX2 HF9 a0 hvs
  obtain ⟨w11, hw11⟩ : ∃ w11, (w10.alloc (.cells #[.slice none 0 0, .slice none 0 0, .slice none 0 0, .slice none 0 0, .slice none 0 0, .slice none 0 0, .slice none 0 0, .bool false, .int .u32 0, .slice none 0 0, .slice none 0 0] 34)).setCells w10.heap.size 0 vs2 = w11 := ⟨_, rfl⟩
  rw [hw11] at hz0 HFz HMz
  go_wp2_with (refine wpList_storeA rfl 34 (.tmp 4) (.tmp 21) rfl rfl (g := w10.heap.size) (off := 0) (cs := vs2) rfl rfl (by rw [hl112]; exact szP34) (fun j hj => by rw [Nat.zero_add]; exact (unhide HRm) j (by omega)) hone2 ?_; rw [hw11])
  go_ret
  exact ⟨rfl, unhide HMz, unhide HFz⟩
end
end Go.Proofs.YtjoonmpjcophnaaGreatDoor
namespace Go.Proofs.YtjoonmpjcophnaaGreatDoor
open Go.RowKit

theorem Mk.four {W : World} (h : Mk W) : 4 ≤ W.heap.size := by
  have := World.block_lt_of_cell? W ⟨3, 0, none⟩ (h.stopped 0 _ rfl)
  have h3 : (3 : Nat) < W.heap.size := this
  omega
theorem slice_to {b off len cap k : Nat} (h8 : k < 8) (hl : 8 ≤ len) (hc : len ≤ cap) (h47 : len ≤ 140737488355328) (w : World) : (Instr.slice 22 (.slice (some ⟨b, off, none⟩) len cap) none (some (.int .i64 (k : Int))) none).run Tryz.prog w = .ok (.slice (some ⟨b, off, none⟩) k cap) w := by
  have h1 : (0 : Int) ≤ (k : Int) := by omega
  have h2 : ¬ (cap : Int) < (k : Int) := by omega
  have h3 : ¬ (k : Int) < 0 := by omega
  have h4 : (k : Int) ≤ (cap : Int) := by omega
  have h5 : cap ≠ 0 := by omega
  go_simp
section
variable {a : Option Addr} {len cap : Nat} {xs : List Int} {cut x : Int} {W : World}
set_option maxHeartbeats 4000000 in
set_option maxRecDepth 100000 in
theorem cut_long (hm : Mk W) (h : 6000 < len ∨ ¬ 6000 < len ∧ cut < 0) : Calls Tryz.prog 6 #[.slice a len cap, .int .i64 cut, .int .u8 x] W fun r W' => r = .returned (.bool true) ∧ Fr [] W W' := by
  have HX := hide (awake20 hm hm.four)
  clear hm
  go_enter Tryz.func6, Tryz.ntmps6
  go_wp2_with fail
  refine (unhide HX).mono ?_
  rintro _ w1 ⟨rfl, -, hF⟩
  have HF := hide hF
  clear hF HX
  rcases h with h | ⟨h1, h2⟩
  · have h' : (6000 : Int) < len := by omega
    go_wp2_with fail
    go_ret
    exact ⟨rfl, unhide HF⟩
  · have h' : ¬ (6000 : Int) < len := by omega
    go_wp2_with fail
    go_ret
    exact ⟨rfl, unhide HF⟩
set_option maxHeartbeats 16000000 in
set_option maxRecDepth 100000 in
theorem cut_short (hm : Mk W) (hS : Sl W a len cap xs) (hy : Byt xs) (hl : len ≤ 6000) (hc : 0 ≤ cut) (hx : 0 ≤ x ∧ x < 256) : Calls Tryz.prog 6 #[.slice a len cap, .int .i64 cut, .int .u8 x] W fun r W' => r = .returned (.bool true) ∧ Fr [] W W' := by
  have HX := hide (awake20 hm hm.four)
  have HS := hide hS
  have HY := hide hy
  have hlx := hS.1
  have h1' : ¬ (6000 : Int) < len := by omega
  have h2' : ¬ cut < 0 := by omega
  clear hm hS hy
  go_enter Tryz.func6, Tryz.ntmps6
  go_wp2_with fail
  refine (unhide HX).mono ?_
  rintro _ w1 ⟨rfl, hM, hF⟩
  have HF := hide hF
  have HS := hide ((unhide HS).fr hF (by simp))
  have HX := hide (decode_any (sat := true) (unhide HS) (unhide HY) (.inl (by omega)) hM hM.four)
  clear hM hF
  obtain ⟨e1, he1⟩ : ∃ e1, (dec true xs).2 = e1 := ⟨_, rfl⟩
  rw [he1] at HX
  go_wp2_with fail
  refine (unhide HX).mono ?_
  rintro _ w2 ⟨vs, rfl, hmo, hM, hF⟩
  obtain ⟨r1, -, r3, -⟩ := mod_new hmo
  have hl11 := hmo.len
  have hone := hmo.one
  have HRm := hide r1
  have hf := (hF.trans r3)
  have HS := hide ((unhide HS).fr hf (by simp))
  have HF := hide ((unhide HF).trans hf)
  have HM := hide (hM.fr r3 (by simp))
  clear hmo hM hF r1 r3 hf HX
  obtain ⟨w3, hw3⟩ : ∃ w3, (w2.alloc (.cells #[.slice none 0 0, .slice none 0 0, .slice none 0 0, .slice none 0 0, .slice none 0 0, .slice none 0 0, .slice none 0 0, .bool false, .int .u32 0, .slice none 0 0, .slice none 0 0] 34)).setCells w2.heap.size 0 vs = w3 := ⟨_, rfl⟩
  rw [hw3] at HS HF HM
  by_cases he : e1 = 0
  · have he' : (e1 != 0) = false := by simp [he]
    have hd := dec_more (sat := true) (unhide HY) (by omega) (he1.trans he) x
    have h8 : 8 ≤ len := Nat.le_of_not_lt fun h => absurd ((dec_cut (sat := true) (xs := xs) (by omega)).symm.trans (he1.trans he)) (by decide)
    obtain ⟨bb, off, rfl⟩ : ∃ bb off, a = some ⟨bb, off, none⟩ := by
      rcases (unhide HS).2.2.2 with ⟨_, h2, _⟩ | ⟨bb, off, h2, _⟩
      · omega
      · exact ⟨bb, off, h2⟩
    have hO2 : Ow (w3.alloc (.cells #[] 5)) w3.heap.size (.slice (some ⟨w3.heap.size, 0, none⟩) 0 0) [] := ow_lit w3 [] 0 rfl (by omega)
    have hf2 : Fr [] w3 (w3.alloc (.cells #[] 5)) := (Fr.refl [] w3).alloc _
    obtain ⟨a3, c3, w4, hr3, hO3, hS3, hB3⟩ := app_run hO2 hf2.size ((unhide HS).fr hf2 (by simp)) (by simp; omega)
    have hf3 := fr_low hf2 hB3 (Nat.le_refl _)
    have hf4 := hf3.alloc (.cells #[.int .u8 x] 5)
    have hS4 : Sl (w4.alloc (.cells #[.int .u8 x] 5)) (some ⟨w4.heap.size, 0, none⟩) 1 1 [x] := sl_lit w4 [x] 1 rfl (by omega)
    obtain ⟨a5, c5, w5, hr5, hO5, hS5, hB5⟩ := app_run (hO3.alloc (.cells #[.int .u8 x] 5)) hf4.size hS4 (by simp; omega)
    have hf5 := fr_low hf4 hB5 (Nat.le_refl _)
    have hl9 : ([] ++ xs : List Int).length + 1 = len + 1 := by simp; omega
    have hl8 : ([] : List Int).length + len = len := Nat.zero_add _
    rw [hl8] at hr3
    rw [hl9, hl8] at hr5
    rw [hl9, List.nil_append] at hS5
    have HR3 := hide hr3
    have HR5 := hide hr5
    have hM5 := (unhide HM).fr hf5 (by simp)
    have hS6 := (unhide HS).fr hf5 (by simp)
    have HF5 := hide ((unhide HF).trans hf5)
    have HX := hide (decode_any (sat := true) hS5 (fun y hy => (List.mem_append.1 hy).elim (unhide HY y) (fun q => by simp at q; omega)) (.inl (by omega)) hM5 hM5.four)
    clear hO2 hf2 hO3 hS3 hB3 hf3 hf4 hS4 hr3 hr5 hO5 hS5 hB5 hf5 hl8 hl9 HM HF HS hM5
    have HS6 := hide hS6
    have hcap := hS6.2.1
    clear hS6
    obtain ⟨e2, he2⟩ : ∃ e2, (dec true (xs ++ [x])).2 = e2 := ⟨_, rfl⟩
    rw [he2] at HX hd
    clear he2
    go_wp2_with (first | (refine wpList_storeA rfl 34 (.tmp 7) (.tmp 25) rfl rfl (g := w2.heap.size) (off := 0) (cs := vs) rfl rfl (by rw [hl11]; exact szP34) (fun j hj => by rw [Nat.zero_add]; exact (unhide HRm) j (by omega)) hone ?_; rw [hw3]) | (at_builtin; first | (refine wpList_appT (w := w3.alloc (.cells #[] 5)) (t := 22) (by rfl) rfl rfl (unhide HR3) ?_) | (refine wpList_appT (w := w4.alloc (.cells #[.int .u8 x] 5)) (t := 22) (by rfl) rfl rfl (unhide HR5) ?_)))
    clear HRm hl11 hone hw3 HR3 HR5
    refine (unhide HX).mono ?_
    rintro _ w6 ⟨vs2, rfl, hmo, hM, hF⟩
    obtain ⟨r1, -, r3, -⟩ := mod_new hmo
    have hl11 := hmo.len
    have hone := hmo.one
    have HRm := hide r1
    have hf := (hF.trans r3)
    have HS := hide ((unhide HS6).fr hf (by simp))
    have HF := hide ((unhide HF5).trans hf)
    have HM := hide (hM.fr r3 (by simp))
    clear hmo hM hF r1 r3 hf HX HS6 HF5
    obtain ⟨w7, hw7⟩ : ∃ w7, (w6.alloc (.cells #[.slice none 0 0, .slice none 0 0, .slice none 0 0, .slice none 0 0, .slice none 0 0, .slice none 0 0, .slice none 0 0, .bool false, .int .u32 0, .slice none 0 0, .slice none 0 0] 34)).setCells w6.heap.size 0 vs2 = w7 := ⟨_, rfl⟩
    rw [hw7] at HS HF HM
    obtain ⟨j, hj, hj8⟩ : ∃ j : Nat, Int.tmod cut 8 = (j : Int) ∧ j < 8 := by
      have h1 := Int.tmod_lt_of_pos cut (show (0 : Int) < 8 by omega)
      have h2 := Int.tmod_nonneg (8 : Int) hc
      exact ⟨(Int.tmod cut 8).toNat, by omega, by omega⟩
    have ij : IntKind.i64.wrap (j : Int) = (j : Int) := i64_id (by omega) (by omega)
    have hcut := slice_to (b := bb) (off := off) (len := len) (cap := cap) hj8 h8 hcap (by omega)
    have hPa := (unhide HS).part (k := 0) (n := j) (by omega) cap (by omega)
    rw [Nat.add_zero, List.drop_zero] at hPa
    have HX := hide (decode_any (sat := true) hPa (fun y hy => unhide HY y (List.mem_of_mem_take hy)) (.inl (by omega)) (unhide HM) (unhide HM).four)
    rw [dec_cut (by rw [List.length_take]; omega)] at HX
    clear hPa HM HS
    go_wp2_with (refine wpList_storeA rfl 34 (.tmp 9) (.tmp 37) rfl rfl (g := w6.heap.size) (off := 0) (cs := vs2) rfl rfl (by rw [hl11]; exact szP34) (fun j hj => by rw [Nat.zero_add]; exact (unhide HRm) j (by omega)) hone ?_; rw [hw7])
    clear HRm hl11 hone hw7
    refine (unhide HX).mono ?_
    rintro _ w8 ⟨vs3, rfl, hmo, hM, hF⟩
    obtain ⟨r1, -, r3, -⟩ := mod_new hmo
    have hl11 := hmo.len
    have hone := hmo.one
    have HRm := hide r1
    have HF := hide ((unhide HF).trans (hF.trans r3))
    clear hmo hM hF r1 r3 HX hcut
    obtain ⟨w9, hw9⟩ : ∃ w9, (w8.alloc (.cells #[.slice none 0 0, .slice none 0 0, .slice none 0 0, .slice none 0 0, .slice none 0 0, .slice none 0 0, .slice none 0 0, .bool false, .int .u32 0, .slice none 0 0, .slice none 0 0] 34)).setCells w8.heap.size 0 vs3 = w9 := ⟨_, rfl⟩
    rw [hw9] at HF
    have hfin : (e2 = 100 ∧ x ≤ 11) ∨ (e2 = 104 ∧ x ≤ 11) ∨ (e2 = 104 ∧ ¬ x ≤ 11) := by
      obtain ⟨d1, d2⟩ := hd
      by_cases h11 : x ≤ 11
      · rcases d1 with d1 | d1
        · exact .inl ⟨d1, h11⟩
        · exact .inr (.inl ⟨d1, h11⟩)
      · exact .inr (.inr ⟨d2 (by omega), h11⟩)
    clear hd
    rcases hfin with ⟨rfl, h11⟩ | ⟨rfl, h11⟩ | ⟨rfl, h11⟩ <;> (
      go_wp2_with (refine wpList_storeA rfl 34 (.tmp 11) (.tmp 45) rfl rfl (g := w8.heap.size) (off := 0) (cs := vs3) rfl rfl (by rw [hl11]; exact szP34) (fun j hj => by rw [Nat.zero_add]; exact (unhide HRm) j (by omega)) hone ?_; rw [hw9])
      go_ret
      exact ⟨rfl, unhide HF⟩)
  · have he' : (e1 != 0) = true := by simp [he]
    go_wp2_with (refine wpList_storeA rfl 34 (.tmp 7) (.tmp 25) rfl rfl (g := w2.heap.size) (off := 0) (cs := vs) rfl rfl (by rw [hl11]; exact szP34) (fun j hj => by rw [Nat.zero_add]; exact (unhide HRm) j (by omega)) hone ?_; rw [hw3])
    go_ret
    exact ⟨rfl, unhide HF⟩
theorem moduleCut_any (W : World) (hm : Mk W) (hS : len ≤ 140737488355328 → Sl W a len cap xs) (hy : Byt xs) (hx : 0 ≤ x ∧ x < 256) : Calls Tryz.prog 6 #[.slice a len cap, .int .i64 cut, .int .u8 x] W fun r W' => r = .returned (.bool true) ∧ Below W.heap.size W W' := by
  by_cases h1 : 6000 < len
  · exact (cut_long hm (.inl h1)).mono fun _ _ h => ⟨h.1, h.2.nil⟩
  by_cases h2 : cut < 0
  · exact (cut_long hm (.inr ⟨h1, h2⟩)).mono fun _ _ h => ⟨h.1, h.2.nil⟩
  exact (cut_short hm (hS (by omega)) hy (by omega) (by omega) hx).mono fun _ _ h => ⟨h.1, h.2.nil⟩
end
end Go.Proofs.YtjoonmpjcophnaaGreatDoor
