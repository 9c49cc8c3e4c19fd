/- PdH, PfA, PfB, PfD, CeC. -/
import Derived.Test.YtjoonmpjcophnaaGreatDoorUa36
import Derived.Test.YtjoonmpjcophnaaGreatDoorUa37
import Derived.Test.YtjoonmpjcophnaaGreatDoorUa38
import Derived.Test.YtjoonmpjcophnaaGreatDoorUa43
import Derived.Lib.SmallJoins
namespace Go.Proofs.YtjoonmpjcophnaaGreatDoor
open Go.RowKit

theorem szP34 : (Tryz.prog.info? 34).map (·.size) = some 11 := by kernel_rfl
def nil11 : List Value := [.slice none 0 0, .slice none 0 0, .slice none 0 0, .slice none 0 0, .slice none 0 0, .slice none 0 0, .slice none 0 0, .bool false, .int .u32 0, .slice none 0 0, .slice none 0 0]
theorem results_ct {fn : Func} {t ty u : Nat} {p : Addr} {v : Value} {w : World} {P : Program} (hr : fn.results = #[.cell t ty, .tmp u]) (tmps : Array Value) (ht : tmps[t]? = some (.pointer (some p))) (hv : (loadVar ty p).run P w = .ok v w) :
    (results fn tmps).run P w = .ok (.tuple #[v, tmps.getD u undef]) w := by
  simp [results, hr, ht, asAddr, hv]
theorem mor0 (w : World) (P : Nat → Prop) : MoR w P mo0 nil11 := ⟨⟨_, _, _, _, _, _, _, _, _, rfl, sls_nil w P, sls_nil w P, sls_nil w P, sls_nil w P, sls_nil w P, sls_nil w P, sls_nil w P, sls_nil w P, sls_nil w P⟩⟩
theorem fin_no {sat : Bool} {ys : List Int} {s : St} {k : Nat} {e : Int} (h : Rd (rAll sat 0 (mo0, [])) ys 0 0 s k e) (he : e ≠ 0) : fin (rAll sat 0 (mo0, []) ys) = (mo0, e) := by
  have h1 := (h.live rfl).2
  rw [List.drop_zero] at h1
  unfold fin
  rw [← h1, if_pos he]
theorem fin_ok {sat : Bool} {ys : List Int} {s : St} {k : Nat} (h : Rd (rAll sat 0 (mo0, [])) ys 0 0 s k 0) : fin (rAll sat 0 (mo0, []) ys) = if s.2.length = s.1.funcs.length then ({ s.1 with funcs := setTypes s.2 s.1.funcs }, 0) else (mo0, 109) := by
  have h1 := (h.live rfl).2
  have h2 := h.val rfl rfl
  rw [List.drop_zero] at h1 h2
  unfold fin
  rw [← h1, ← h2, if_neg (by simp)]
  by_cases q : s.2.length = s.1.funcs.length
  · rw [if_pos q, if_neg (by simp [q])]
  · rw [if_neg q, if_pos q]
theorem Sl.drop8 {w : World} {b off len cap : Nat} {xs : List Int} (h : Sl w (some ⟨b, off, none⟩) len cap xs) (h8 : 8 ≤ len) (a' : Option Addr) (ha : a' = some ⟨b, if cap = 8 then off else off + 8, none⟩) : Sl w a' (len - 8) (cap - 8) (xs.drop 8) := by
  obtain ⟨h1, h2, h3, h4⟩ := h
  subst ha
  refine ⟨by rw [List.length_drop, h1], by omega, by omega, .inr ⟨_, _, rfl, fun j hj => ?_⟩⟩
  rcases h4 with ⟨h4, _⟩ | ⟨b', off', h5, h6⟩
  · cases h4
  · injection h5 with h5
    injection h5 with h5 h7
    subst h5
    subst h7
    rw [if_neg (by omega), show off + 8 + j = off + (8 + j) by omega, h6 (8 + j) (by omega)]
    simp [List.getD_eq_getElem?_getD, List.getElem?_drop]
theorem magic_sl (w : World) (n : Nat) (hn : n = w.heap.size) : Sl (w.alloc (.cells #[.int .u8 0, .int .u8 97, .int .u8 115, .int .u8 109, .int .u8 1, .int .u8 0, .int .u8 0, .int .u8 0] 5 (8, 9))) (some ⟨n, 0, none⟩) 8 8 magic := by
  refine ⟨rfl, Nat.le_refl _, by omega, .inr ⟨n, 0, rfl, fun j hj => ?_⟩⟩
  rw [Nat.zero_add, Go.Joins.cell_alloc_mark_at w _ 5 (8, 9) n j hn]
  match j, hj with
  | 0, _ => rfl
  | 1, _ => rfl
  | 2, _ => rfl
  | 3, _ => rfl
  | 4, _ => rfl
  | 5, _ => rfl
  | 6, _ => rfl
  | 7, _ => rfl
  | j + 8, h => omega
theorem slice8 {b off len cap : Nat} (h8 : 8 ≤ len) (hc : len ≤ cap) (h47 : len ≤ 140737488355328) (w : World) : (Instr.slice 22 (.slice (some ⟨b, off, none⟩) len cap) (some (.int .i64 8)) none none).run Tryz.prog w = .ok (.slice (some ⟨b, if cap = 8 then off else off + 8, none⟩) (len - 8) (cap - 8)) w := by
  have h1 : (8 : Int) ≤ (len : Int) := by omega
  have h2 : ¬ (len : Int) < 8 := by omega
  by_cases h : cap = 8
  · subst h
    obtain rfl : len = 8 := by omega
    go_simp
  · go_simp
section
variable {a : Option Addr} {len cap : Nat} {xs : List Int} {W : World} {sat : Bool}
set_option maxHeartbeats 16000000 in
set_option maxRecDepth 100000 in
theorem decode_any (hS : Sl W a len cap xs) (hy : Byt xs) (hl : len ≤ 7000 ∨ 65536 < len) (hm : Mk W) (hw4 : 4 ≤ W.heap.size) : Calls Tryz.prog 8 #[.slice a len cap, .bool sat] W fun r W' => ∃ vs : List Value, r = .returned (.tuple #[.agg vs.toArray, .int .i64 (dec sat xs).2]) ∧ MoR W' (fun b => W.heap.size ≤ b) (dec sat xs).1 vs ∧ Mk W' ∧ Fr [] W W' := by
  have hx := hS.1
  have hcap := hS.2.1
  have h47 := hS.2.2.1
  have hb := below1 W (.cells #[.slice none 0 0, .slice none 0 0, .slice none 0 0, .slice none 0 0, .slice none 0 0, .slice none 0 0, .slice none 0 0, .bool false, .int .u32 0, .slice none 0 0, .slice none 0 0] 34)
  have hV0 : Vr W.heap.size 11 nil11 (W.alloc (.cells #[.slice none 0 0, .slice none 0 0, .slice none 0 0, .slice none 0 0, .slice none 0 0, .slice none 0 0, .slice none 0 0, .bool false, .int .u32 0, .slice none 0 0, .slice none 0 0] 34)) := vr_new nil11 34 W
  have hs1 : (W.alloc (.cells #[.slice none 0 0, .slice none 0 0, .slice none 0 0, .slice none 0 0, .slice none 0 0, .slice none 0 0, .slice none 0 0, .bool false, .int .u32 0, .slice none 0 0, .slice none 0 0] 34)).heap.size = W.heap.size + 1 := by simp
  have HR := hide hV0
  have HM := hide (hm.below hb)
  have HF := hide (Fr.of hb [])
  have HSl := hide (hS.below hb)
  have HY := hide hy
  by_cases hlim : 65536 < len
  · have hd : dec sat xs = (mo0, 3) := by unfold dec; rw [if_pos (by omega)]
    have hD := hide hd
    have hlim' : (65536 : Int) < (len : Int) := by omega
    clear hS hy hm hb hV0 hd
    go_enter Tryz.func8, Tryz.ntmps8
    go_wp2_with fail
    refine bodyPost_ret (v := .tuple #[.agg nil11.toArray, .int .i64 3]) ?_ rfl ?_
    · exact results_ct Tryz.results8 _ rfl (load_tab (unhide HR).tab Tryz.underlying34 rfl szP34)
    · rw [unhide hD]
      exact ⟨nil11, rfl, mor0 _ _, unhide HM, unhide HF⟩
  · have hlim' : ¬ (65536 : Int) < (len : Int) := by omega
    have hl7 : len ≤ 7000 := by omega
    have hb2 := below1 (W.alloc (.cells #[.slice none 0 0, .slice none 0 0, .slice none 0 0, .slice none 0 0, .slice none 0 0, .slice none 0 0, .slice none 0 0, .bool false, .int .u32 0, .slice none 0 0, .slice none 0 0] 34)) (.cells #[.int .u8 0, .int .u8 97, .int .u8 115, .int .u8 109, .int .u8 1, .int .u8 0, .int .u8 0, .int .u8 0] 5 (8, 9))
    have hf2 := Fr.of hb2 []
    have hmg : Sl ((W.alloc (.cells #[.slice none 0 0, .slice none 0 0, .slice none 0 0, .slice none 0 0, .slice none 0 0, .slice none 0 0, .slice none 0 0, .bool false, .int .u32 0, .slice none 0 0, .slice none 0 0] 34)).alloc (.cells #[.int .u8 0, .int .u8 97, .int .u8 115, .int .u8 109, .int .u8 1, .int .u8 0, .int .u8 0, .int .u8 0] 5 (8, 9))) (some ⟨W.heap.size + 1, 0, none⟩) 8 8 magic := magic_sl _ _ hs1.symm
    have hcv : (convert 22 22 (.slice (some ⟨W.heap.size + 1, 0, none⟩) 8 8)).run Tryz.prog ((W.alloc (.cells #[.slice none 0 0, .slice none 0 0, .slice none 0 0, .slice none 0 0, .slice none 0 0, .slice none 0 0, .slice none 0 0, .bool false, .int .u32 0, .slice none 0 0, .slice none 0 0] 34)).alloc (.cells #[.int .u8 0, .int .u8 97, .int .u8 115, .int .u8 109, .int .u8 1, .int .u8 0, .int .u8 0, .int .u8 0] 5)) = .ok (.slice (some ⟨W.heap.size + 1, 0, none⟩) 8 8) ((W.alloc (.cells #[.slice none 0 0, .slice none 0 0, .slice none 0 0, .slice none 0 0, .slice none 0 0, .slice none 0 0, .slice none 0 0, .bool false, .int .u32 0, .slice none 0 0, .slice none 0 0] 34)).alloc (.cells #[.int .u8 0, .int .u8 97, .int .u8 115, .int .u8 109, .int .u8 1, .int .u8 0, .int .u8 0, .int .u8 0] 5 (8, 9))) := Go.Joins.run_convert_bytes_const_at (W.alloc (.cells #[.slice none 0 0, .slice none 0 0, .slice none 0 0, .slice none 0 0, .slice none 0 0, .slice none 0 0, .slice none 0 0, .bool false, .int .u32 0, .slice none 0 0, .slice none 0 0] 34)) 22 5 #[.int .u8 0, .int .u8 97, .int .u8 115, .int .u8 109, .int .u8 1, .int .u8 0, .int .u8 0, .int .u8 0] 8 8 (W.heap.size + 1) hs1.symm Tryz.underlying22 Tryz.underlying5
    have HX := hide (prefix_any ((unhide HSl).below hb2) (unhide HY) hmg)
    have HR := hide ((unhide HR).fr hf2 (by simp))
    have HM := hide ((unhide HM).below hb2)
    have HF := hide ((unhide HF).bel hb2)
    have HSl := hide ((unhide HSl).below hb2)
    clear hS hy hm hb hV0 hb2 hf2 hmg
    go_enter Tryz.func8, Tryz.ntmps8
    go_wp2_with fail
    clear hcv
    generalize (W.alloc (.cells #[.slice none 0 0, .slice none 0 0, .slice none 0 0, .slice none 0 0, .slice none 0 0, .slice none 0 0, .slice none 0 0, .bool false, .int .u32 0, .slice none 0 0, .slice none 0 0] 34)).alloc (.cells #[.int .u8 0, .int .u8 97, .int .u8 115, .int .u8 109, .int .u8 1, .int .u8 0, .int .u8 0, .int .u8 0] 5 (8, 9)) = w1 at *
    refine (unhide HX).mono ?_
    rintro _ w ⟨rfl, rfl⟩
    by_cases hm8 : xs.take 8 = magic
    · have hdm : decide (xs.take 8 = magic) = true := decide_eq_true hm8
      rw [hdm]
      have h8 : 8 ≤ len := by
        have := congrArg List.length hm8
        rw [List.length_take, show magic.length = 8 from rfl] at this
        omega
      have HDF := hide (dec_fin sat (xs := xs) (by omega) hm8)
      rcases (unhide HSl).2.2.2 with ⟨-, h0, -⟩ | ⟨b, off, rfl, h4⟩
      · omega
      obtain ⟨off', hoff⟩ : ∃ o', (if cap = 8 then off else off + 8) = o' := ⟨_, rfl⟩
      have hsl := fun w => slice8 (b := b) (off := off) h8 hcap h47 w
      have hsd := Sl.drop8 (unhide HSl) h8 _ rfl
      simp only [hoff] at hsl hsd
      have hyd := byt_dropS (unhide HY) 8
      have HN := hide (new_own hsd (by omega) hyd)
      have h8' : (8 : Int) ≤ (len : Int) := by omega
      have h9 : ¬ (len : Int) < 8 := by omega
      have h10 : 8 ≤ cap := by omega
      clear h4 HSl hsd hyd HX hdm hoff
      go_wp2_with fail
      clear hsl
      refine (unhide HN).mono ?_
      rintro _ w2 ⟨c, y1, y3, rfl, hC, hc, hy1, hF2⟩
      have hb3 := below1 w2 (.cells #[.pointer (some ⟨c, 0, none⟩), .bool sat] 68)
      have hf3 := hF2.trans (Fr.of hb3 [])
      have HI : Hid (Vr w2.heap.size 2 [.pointer (some ⟨c, 0, none⟩), .bool sat] (w2.alloc (.cells #[.pointer (some ⟨c, 0, none⟩), .bool sat] 68))) := hide (vr_new [.pointer (some ⟨c, 0, none⟩), .bool sat] 68 w2)
      have hs3 : (w2.alloc (.cells #[.pointer (some ⟨c, 0, none⟩), .bool sat] 68)).heap.size = w2.heap.size + 1 := by simp
      have hcs2 := hC.1.lt
      have HAl := hide hC.2.1.lt
      have hRl := (unhide HR).lt
      have hw2 := hF2.size
      have hww := (unhide HF).size
      replace HR := hide ((unhide HR).fr hf3 (by simp))
      replace HM := hide ((unhide HM).fr hf3 (by simp))
      replace HF := hide ((unhide HF).trans hf3)
      replace HC := hide (hC.bel hb3)
      have HX18 := hide (sections_any (sat := sat) (unhide HC) (unhide HM) (by omega))
      clear hC hb3 hf3 hy1 hF2 HN hm8 hlim' hlim hl hs1 HY
      go_wp2_with fail
      generalize w2.alloc (.cells #[.pointer (some ⟨c, 0, none⟩), .bool sat] 68) = w3 at *
      refine (unhide HX18).mono ?_
      rintro _ w4 ⟨vs, s, g, k1, e1, rfl, hR4, hD4, hC4, hM4, hF4⟩
      have hs4 := hF4.size
      have hld := hD4.len
      have hone := hD4.one
      have hV0 : Vr w4.heap.size 12 nil12 (w4.alloc (.cells #[.slice none 0 0, .slice none 0 0, .slice none 0 0, .slice none 0 0, .slice none 0 0, .slice none 0 0, .slice none 0 0, .bool false, .int .u32 0, .slice none 0 0, .slice none 0 0, .slice none 0 0] 71)) := vr_new nil12 71 w4
      have HV0 := hide hV0
      have hXd := vr_cells (cs := vs) hV0.room hV0.lt hld
      have hF5 : Fr [] w4 ((w4.alloc (.cells #[.slice none 0 0, .slice none 0 0, .slice none 0 0, .slice none 0 0, .slice none 0 0, .slice none 0 0, .slice none 0 0, .bool false, .int .u32 0, .slice none 0 0, .slice none 0 0, .slice none 0 0] 71)).setCells w4.heap.size 0 vs) := ((Fr.refl [] w4).alloc _).thenL (fr_cells w4.heap.size vs 0 _) (by simp)
      have HXd := hide hXd
      have HR4 := hide hR4
      have HF5 := hide hF5
      have HD5 := hide ((hD4.mono (P' := fun b => w3.heap.size + 2 < b ∧ b < w4.heap.size) (fun b hb hp => ⟨hp, hb⟩)).fr hF5 (by simp) (fun q => q))
      replace HI := hide (((unhide HI).fr hF4 (by simp; omega)).fr hF5 (by simp))
      replace HR := hide (((unhide HR).fr hF4 (by simp; omega)).fr hF5 (by simp))
      replace HM := hide (hM4.fr hF5 (by simp))
      replace HF := hide (((unhide HF).thenL hF4 (by simp; omega)).thenL hF5 (by simp))
      replace HC := hide (hC4.fr hF5 (by simp) (by simp))
      clear hV0 hXd hR4 hD4 hC4 hM4 hF4 hF5 HX18
      go_wp2_with ((refine wpList_storeA rfl 71 (.tmp 7) (.tmp 24) rfl rfl (g := w4.heap.size) (off := 0) (cs := vs) rfl rfl (by rw [hld]; exact szP71) (fun j hj => by rw [Nat.zero_add]; exact (unhide HV0).room j (by omega)) hone ?_))
      clear HV0
      generalize (w4.alloc (.cells #[.slice none 0 0, .slice none 0 0, .slice none 0 0, .slice none 0 0, .slice none 0 0, .slice none 0 0, .slice none 0 0, .bool false, .int .u32 0, .slice none 0 0, .slice none 0 0, .slice none 0 0] 71)).setCells w4.heap.size 0 vs = w5 at *
      refine (complete_any (unhide HXd) (unhide HD5) (by omega)).mono ?_
      rintro _ w6 ⟨bb, l, rfl, hb1, hb2, hV6, hF6, hl6⟩
      have HV6 := hide hV6
      replace HI := hide ((unhide HI).fr hF6 (fun hm => by have := hl6 _ hm; omega))
      replace HR := hide ((unhide HR).fr hF6 (fun hm => by have := hl6 _ hm; omega))
      replace HM := hide ((unhide HM).fr hF6 (fun i hi => by have := hl6 i hi; omega))
      replace HC := hide ((unhide HC).fr hF6 (fun hm => by have := hl6 _ hm; omega) (fun p hp hl hm => by have := unhide HAl p hp hl; have := hl6 _ hm; omega))
      replace HF := hide ((unhide HF).thenL hF6 (fun i hi => .inr (by have := hl6 i hi; omega)))
      have HB1 := hide hb1
      have HB2 := hide hb2
      clear hV6 hF6 hl6 hb1 hb2 HD5 HXd HF5
      cases bb with
      | false =>
        have i0 := (unhide HI).tab 0 _ rfl
        have i1 := (unhide HI).tab 1 _ rfl
        go_wp2_with fail
        clear i0 i1
        refine (Fail_any (unhide HC)).mono ?_
        rintro _ w7 ⟨rfl, hC, hF7⟩
        obtain ⟨e2, hE2⟩ : ∃ e2, (if e1 = 0 then (109 : Int) else e1) = e2 := ⟨_, rfl⟩
        rw [hE2] at hC
        have hne : e2 ≠ 0 := by rw [← hE2]; split; decide; assumption
        have hdq : dec sat xs = (mo0, e2) := by
          rw [unhide HDF]
          by_cases q : e1 = 0
          · subst q
            have hq := of_decide_eq_false ((unhide HB1) (by first | rfl | trivial)).symm
            rw [fin_ok (unhide HR4), if_neg hq, ← hE2, if_pos rfl]
          · rw [fin_no (unhide HR4) q, ← hE2, if_neg q]
        have HDE := hide hdq
        replace HI := hide ((unhide HI).fr hF7 (by simp; omega))
        replace HR := hide ((unhide HR).fr hF7 (by simp; omega))
        replace HM := hide ((unhide HM).fr hF7 (by simp; omega))
        replace HC := hide hC
        replace HF := hide ((unhide HF).thenL hF7 (by simp; omega))
        clear hC hF7 hE2 hdq
        have i0 := (unhide HI).tab 0 _ rfl
        have i1 := (unhide HI).tab 1 _ rfl
        go_wp2_with fail
        clear i0 i1
        refine (p_failed (unhide HC)).mono ?_
        rintro _ w8 ⟨rfl, hF8⟩
        replace HI := hide ((unhide HI).fr hF8 (by simp))
        replace HR := hide ((unhide HR).fr hF8 (by simp))
        replace HM := hide ((unhide HM).fr hF8 (by simp))
        replace HC := hide ((unhide HC).fr hF8 (by simp) (by simp))
        replace HF := hide ((unhide HF).trans hF8)
        clear hF8
        have hne' : (e2 != 0) = true := by simpa using hne
        have hX : Vr W.heap.size 11 nil11 (w8.setCells W.heap.size 0 nil11) := vr_cells (cs := nil11) (unhide HR).room (unhide HR).lt rfl
        have fZ := fr_cells W.heap.size nil11 0 w8
        have HZ := hide fZ
        have HXv := hide hX
        have HDQ : Hid (dec sat xs = (mo0, e2)) := hide (unhide HDE)
        clear hX fZ
        have z0 := (unhide HR).tab 0 _ rfl
        have fz0 := ((unhide HR).room 0 (by decide)).2
        have z1 := (unhide HR).tab 1 _ rfl
        have fz1 := ((unhide HR).room 1 (by decide)).2
        have z2 := (unhide HR).tab 2 _ rfl
        have fz2 := ((unhide HR).room 2 (by decide)).2
        have z3 := (unhide HR).tab 3 _ rfl
        have fz3 := ((unhide HR).room 3 (by decide)).2
        have z4 := (unhide HR).tab 4 _ rfl
        have fz4 := ((unhide HR).room 4 (by decide)).2
        have z5 := (unhide HR).tab 5 _ rfl
        have fz5 := ((unhide HR).room 5 (by decide)).2
        have z6 := (unhide HR).tab 6 _ rfl
        have fz6 := ((unhide HR).room 6 (by decide)).2
        have z7 := (unhide HR).tab 7 _ rfl
        have fz7 := ((unhide HR).room 7 (by decide)).2
        have z8 := (unhide HR).tab 8 _ rfl
        have fz8 := ((unhide HR).room 8 (by decide)).2
        have z9 := (unhide HR).tab 9 _ rfl
        have fz9 := ((unhide HR).room 9 (by decide)).2
        have z10 := (unhide HR).tab 10 _ rfl
        have fz10 := ((unhide HR).room 10 (by decide)).2
        have i0 := (unhide HI).tab 0 _ rfl
        go_wp2_with fail
        refine (err_any (unhide HC)).mono ?_
        rintro _ wy ⟨rfl, hwy⟩
        subst hwy
        go_wp2_with fail
        clear z0 fz0 z1 fz1 z2 fz2 z3 fz3 z4 fz4 z5 fz5 z6 fz6 z7 fz7 z8 fz8 z9 fz9 z10 fz10
        clear i0
        change bodyPost _ _ _ _ _ (wy.setCells W.heap.size 0 nil11)
        generalize wy.setCells W.heap.size 0 nil11 = wz at *
        refine bodyPost_ret (v := .tuple #[.agg nil11.toArray, .int .i64 (e2)]) ?_ rfl ?_
        · exact results_ct Tryz.results8 _ rfl (load_tab (unhide HXv).tab Tryz.underlying34 rfl szP34)
        · rw [unhide HDQ]
          exact ⟨nil11, rfl, mor0 _ _, (unhide HM).fr (unhide HZ) (by simp; omega), (unhide HF).thenL (unhide HZ) (by simp)⟩
      | true =>
        have i0 := (unhide HI).tab 0 _ rfl
        have i1 := (unhide HI).tab 1 _ rfl
        go_wp2_with fail
        clear i0 i1
        refine (p_failed (unhide HC)).mono ?_
        rintro _ w8 ⟨rfl, hF8⟩
        by_cases he : e1 = 0
        · subst he
          have hq := of_decide_eq_true ((unhide HB1) (by first | rfl | trivial)).symm
          have hdq : dec sat xs = ({ s.1 with funcs := setTypes s.2 s.1.funcs }, 0) := by rw [unhide HDF, fin_ok (unhide HR4), if_pos hq]
          have HDQ := hide hdq
          have hmo := ((unhide HB2) (by first | rfl | trivial) (by first | rfl | trivial)).all (B := w8) (fun p v _ hc => hF8.keep hc (by simp))
          have HMo := hide hmo
          replace HR := hide ((unhide HR).fr hF8 (by simp))
          replace HM := hide ((unhide HM).fr hF8 (by simp))
          replace HF := hide ((unhide HF).trans hF8)
          replace HV6 := hide ((unhide HV6).fr hF8 (by simp))
          have ht11 : (vs.take 11).length = 11 := by rw [List.length_take, hld]; rfl
          have hones : ∀ u ∈ vs.take 11, u.oneCell' = true := fun u hu => hone u (List.mem_of_mem_take hu)
          have hTab : Tab w8 w4.heap.size (vs.take 11) := fun j v hj => (unhide HV6).tab j v (by
            have hlt : j < 11 := by have := (List.getElem?_eq_some_iff.1 hj).1; omega
            rwa [List.getElem?_take, if_pos hlt] at hj)
          have HTab := hide hTab
          have hX := vr_cells (cs := vs.take 11) (unhide HR).room (unhide HR).lt ht11
          have fZ := fr_cells W.heap.size (vs.take 11) 0 w8
          have HZ := hide fZ
          have HXv := hide hX
          have hRl8 := (unhide HR).lt
          clear hX fZ hdq hq hF8 hmo hTab HB2 HB1 HV6
          generalize vs.take 11 = vt at *
          go_wp2_with (first | (refine wpList_load_tab rfl 34 (.tmp 36) rfl w4.heap.size rfl vt _ (unhide HTab) Tryz.underlying34 rfl (by rw [ht11]; exact szP34) ?_) | (refine wpList_storeA rfl 34 (.tmp 4) (.tmp 37) rfl rfl (g := W.heap.size) (off := 0) (cs := vt) rfl rfl (by rw [ht11]; exact szP34) (fun j hj => by rw [Nat.zero_add]; exact (unhide HR).room j (by omega)) hones ?_))
          generalize w8.setCells W.heap.size 0 vt = wz at *
          refine bodyPost_ret (v := .tuple #[.agg vt.toArray, .int .i64 0]) ?_ rfl ?_
          · exact results_ct Tryz.results8 _ rfl (load_tab (unhide HXv).tab Tryz.underlying34 rfl (by rw [ht11]; exact szP34))
          · rw [unhide HDQ]
            exact ⟨vt, rfl, ((unhide HMo).all (B := wz) (fun p v hp hc => (unhide HZ).keep hc (by simp; omega))).mono (fun b _ hb => by omega), (unhide HM).fr (unhide HZ) (by simp; omega), (unhide HF).thenL (unhide HZ) (by simp)⟩
        · replace HI := hide ((unhide HI).fr hF8 (by simp))
          replace HR := hide ((unhide HR).fr hF8 (by simp))
          replace HM := hide ((unhide HM).fr hF8 (by simp))
          replace HC := hide ((unhide HC).fr hF8 (by simp) (by simp))
          replace HF := hide ((unhide HF).trans hF8)
          clear hF8
          have hne' : (e1 != 0) = true := by simpa using he
          have hX : Vr W.heap.size 11 nil11 (w8.setCells W.heap.size 0 nil11) := vr_cells (cs := nil11) (unhide HR).room (unhide HR).lt rfl
          have fZ := fr_cells W.heap.size nil11 0 w8
          have HZ := hide fZ
          have HXv := hide hX
          have HDQ : Hid (dec sat xs = (mo0, e1)) := hide (by rw [unhide HDF, fin_no (unhide HR4) he])
          clear hX fZ
          have z0 := (unhide HR).tab 0 _ rfl
          have fz0 := ((unhide HR).room 0 (by decide)).2
          have z1 := (unhide HR).tab 1 _ rfl
          have fz1 := ((unhide HR).room 1 (by decide)).2
          have z2 := (unhide HR).tab 2 _ rfl
          have fz2 := ((unhide HR).room 2 (by decide)).2
          have z3 := (unhide HR).tab 3 _ rfl
          have fz3 := ((unhide HR).room 3 (by decide)).2
          have z4 := (unhide HR).tab 4 _ rfl
          have fz4 := ((unhide HR).room 4 (by decide)).2
          have z5 := (unhide HR).tab 5 _ rfl
          have fz5 := ((unhide HR).room 5 (by decide)).2
          have z6 := (unhide HR).tab 6 _ rfl
          have fz6 := ((unhide HR).room 6 (by decide)).2
          have z7 := (unhide HR).tab 7 _ rfl
          have fz7 := ((unhide HR).room 7 (by decide)).2
          have z8 := (unhide HR).tab 8 _ rfl
          have fz8 := ((unhide HR).room 8 (by decide)).2
          have z9 := (unhide HR).tab 9 _ rfl
          have fz9 := ((unhide HR).room 9 (by decide)).2
          have z10 := (unhide HR).tab 10 _ rfl
          have fz10 := ((unhide HR).room 10 (by decide)).2
          have i0 := (unhide HI).tab 0 _ rfl
          go_wp2_with fail
          refine (err_any (unhide HC)).mono ?_
          rintro _ wy ⟨rfl, hwy⟩
          subst hwy
          go_wp2_with fail
          clear z0 fz0 z1 fz1 z2 fz2 z3 fz3 z4 fz4 z5 fz5 z6 fz6 z7 fz7 z8 fz8 z9 fz9 z10 fz10
          clear i0
          change bodyPost _ _ _ _ _ (wy.setCells W.heap.size 0 nil11)
          generalize wy.setCells W.heap.size 0 nil11 = wz at *
          refine bodyPost_ret (v := .tuple #[.agg nil11.toArray, .int .i64 (e1)]) ?_ rfl ?_
          · exact results_ct Tryz.results8 _ rfl (load_tab (unhide HXv).tab Tryz.underlying34 rfl szP34)
          · rw [unhide HDQ]
            exact ⟨nil11, rfl, mor0 _ _, (unhide HM).fr (unhide HZ) (by simp; omega), (unhide HF).thenL (unhide HZ) (by simp)⟩
    · have hdm : decide (xs.take 8 = magic) = false := decide_eq_false hm8
      rw [hdm]
      have hd : dec sat xs = (mo0, 103) := by unfold dec; rw [if_neg (by omega), if_pos hm8]
      have hD := hide hd
      have hX : Vr W.heap.size 11 nil11 (w.setCells W.heap.size 0 nil11) := vr_cells (cs := nil11) (unhide HR).room (unhide HR).lt rfl
      have fZ := fr_cells W.heap.size nil11 0 w
      have HZ := hide fZ
      have HXv := hide hX
      clear hX fZ hd hdm hm8 HX HSl
      have z0 := (unhide HR).tab 0 _ rfl
      have fz0 := ((unhide HR).room 0 (by decide)).2
      have z1 := (unhide HR).tab 1 _ rfl
      have fz1 := ((unhide HR).room 1 (by decide)).2
      have z2 := (unhide HR).tab 2 _ rfl
      have fz2 := ((unhide HR).room 2 (by decide)).2
      have z3 := (unhide HR).tab 3 _ rfl
      have fz3 := ((unhide HR).room 3 (by decide)).2
      have z4 := (unhide HR).tab 4 _ rfl
      have fz4 := ((unhide HR).room 4 (by decide)).2
      have z5 := (unhide HR).tab 5 _ rfl
      have fz5 := ((unhide HR).room 5 (by decide)).2
      have z6 := (unhide HR).tab 6 _ rfl
      have fz6 := ((unhide HR).room 6 (by decide)).2
      have z7 := (unhide HR).tab 7 _ rfl
      have fz7 := ((unhide HR).room 7 (by decide)).2
      have z8 := (unhide HR).tab 8 _ rfl
      have fz8 := ((unhide HR).room 8 (by decide)).2
      have z9 := (unhide HR).tab 9 _ rfl
      have fz9 := ((unhide HR).room 9 (by decide)).2
      have z10 := (unhide HR).tab 10 _ rfl
      have fz10 := ((unhide HR).room 10 (by decide)).2
      go_wp2_with fail
      clear z0 z1 z2 z3 z4 z5 z6 z7 z8 z9 z10 fz0 fz1 fz2 fz3 fz4 fz5 fz6 fz7 fz8 fz9 fz10
      change bodyPost _ _ _ _ _ (w.setCells W.heap.size 0 nil11)
      generalize w.setCells W.heap.size 0 nil11 = wz at *
      refine bodyPost_ret (v := .tuple #[.agg nil11.toArray, .int .i64 103]) ?_ rfl ?_
      · exact results_ct Tryz.results8 _ rfl (load_tab (unhide HXv).tab Tryz.underlying34 rfl szP34)
      · rw [unhide hD]
        exact ⟨nil11, rfl, mor0 _ _, (unhide HM).fr (unhide HZ) (by simp; omega), (unhide HF).thenL (unhide HZ) (by simp)⟩
end
end Go.Proofs.YtjoonmpjcophnaaGreatDoor
namespace Go.Proofs.YtjoonmpjcophnaaGreatDoor
open Go.RowKit

theorem aw_1 : dec false (magic ++ [7]) = (mo0, 100) := by
  have h : (dec false (magic ++ [7])).2 = 100 := by kernel_rfl
  have h2 : (rMod false 10 0 (mo0, []) [7]).2.2 = 100 := by kernel_rfl
  unfold dec
  rw [if_neg (by decide), if_neg (by decide), if_pos (by show (rMod false 10 0 (mo0, []) [7]).2.2 ≠ 0; rw [h2]; decide)]
  show (mo0, (rMod false 10 0 (mo0, []) [7]).2.2) = _
  rw [h2]
theorem aw_2 : (dec false (magic ++ [1, 4, 1, 96, 0, 0])).2 = 0 ∧ (dec false (magic ++ [1, 4, 1, 96, 0, 0])).1.types.length = 1 := ⟨by kernel_rfl, by kernel_rfl⟩
theorem MoR.len {w : World} {P : Nat → Prop} {m : Mo} {vs : List Value} (h : MoR w P m vs) : vs.length = 11 := by
  obtain ⟨v0, v1, v2, v3, v4, v5, v6, v9, v10, rfl, _⟩ := h.ex
  rfl
theorem MoR.one {w : World} {P : Nat → Prop} {m : Mo} {vs : List Value} (h : MoR w P m vs) : ∀ u ∈ vs, u.oneCell' = true := by
  obtain ⟨v0, v1, v2, v3, v4, v5, v6, v9, v10, rfl, a, b, c, d, e, f, g, i, j⟩ := h.ex
  intro u hu
  simp only [List.mem_cons, List.not_mem_nil, or_false] at hu
  rcases hu with rfl | rfl | rfl | rfl | rfl | rfl | rfl | rfl | rfl | rfl | rfl
  · exact a.one
  · exact b.one
  · exact c.one
  · exact d.one
  · exact e.one
  · exact f.one
  · exact g.one
  · rfl
  · rfl
  · exact i.one
  · exact j.one
theorem MoR.fr0 {w w' : World} {P : Nat → Prop} {m : Mo} {vs : List Value} {l : List Nat} (h : MoR w P m vs) (hf : Fr l w w') (hl : ∀ i ∈ l, ¬ P i) : MoR w' P m vs := h.all fun _ _ hp hc => hf.keep hc (fun hm => hl _ hm hp)
/-- A module, laid in a variable of its own. -/
theorem mod_new {w : World} {P : Nat → Prop} {m : Mo} {vs : List Value} (h : MoR w P m vs) : Room w.heap.size 11 (w.alloc (.cells #[.slice none 0 0, .slice none 0 0, .slice none 0 0, .slice none 0 0, .slice none 0 0, .slice none 0 0, .slice none 0 0, .bool false, .int .u32 0, .slice none 0 0, .slice none 0 0] 34)) ∧ Vr w.heap.size 11 vs ((w.alloc (.cells #[.slice none 0 0, .slice none 0 0, .slice none 0 0, .slice none 0 0, .slice none 0 0, .slice none 0 0, .slice none 0 0, .bool false, .int .u32 0, .slice none 0 0, .slice none 0 0] 34)).setCells w.heap.size 0 vs) ∧ Fr [] w ((w.alloc (.cells #[.slice none 0 0, .slice none 0 0, .slice none 0 0, .slice none 0 0, .slice none 0 0, .slice none 0 0, .slice none 0 0, .bool false, .int .u32 0, .slice none 0 0, .slice none 0 0] 34)).setCells w.heap.size 0 vs) ∧ w.heap.size < ((w.alloc (.cells #[.slice none 0 0, .slice none 0 0, .slice none 0 0, .slice none 0 0, .slice none 0 0, .slice none 0 0, .slice none 0 0, .bool false, .int .u32 0, .slice none 0 0, .slice none 0 0] 34)).setCells w.heap.size 0 vs).heap.size := by
  have hV : Vr w.heap.size 11 nil11 (w.alloc (.cells #[.slice none 0 0, .slice none 0 0, .slice none 0 0, .slice none 0 0, .slice none 0 0, .slice none 0 0, .slice none 0 0, .bool false, .int .u32 0, .slice none 0 0, .slice none 0 0] 34)) := vr_new nil11 34 w
  have hX := vr_cells (cs := vs) hV.room hV.lt h.len
  exact ⟨hV.room, hX, ((Fr.refl [] w).alloc _).thenL (fr_cells w.heap.size vs 0 _) (by simp), hX.lt⟩
theorem byt_dec' (l : List Int) (h : l.all (fun x => decide (0 ≤ x) && decide (x < 256)) = true) : Byt l := by
  intro x hx
  have := List.all_eq_true.1 h x hx
  simpa using this
theorem fr_low {a b c : World} {B : Nat} (h : Fr [] a b) (hb : Below B b c) (hB : a.heap.size ≤ B) : Fr [] a c := ⟨hb.os.trans h.os, hb.tape.trans h.tape, hb.output.trans h.output, Nat.le_trans h.size hb.size, fun i hi hn => (hb.block i (by omega)).trans (h.block i hi hn)⟩
section
variable {W : World}
set_option maxHeartbeats 16000000 in
set_option maxRecDepth 100000 in
theorem awake20 (hm : Mk W) (h4 : 4 ≤ W.heap.size) : Calls Tryz.prog 7 #[] W fun r W' => r = .returned (.bool true) ∧ Mk W' ∧ Fr [] W W' := by
  have hs1 : (W.alloc (.cells #[.int .u8 0, .int .u8 97, .int .u8 115, .int .u8 109, .int .u8 1, .int .u8 0, .int .u8 0, .int .u8 0] 5)).heap.size = W.heap.size + 1 := by simp
  have hS1 : Sl (W.alloc (.cells #[.int .u8 0, .int .u8 97, .int .u8 115, .int .u8 109, .int .u8 1, .int .u8 0, .int .u8 0, .int .u8 0] 5)) (some ⟨W.heap.size, 0, none⟩) 8 8 magic := sl_lit W magic 8 rfl (by omega)
  have hM1 : Mk (W.alloc (.cells #[.int .u8 0, .int .u8 97, .int .u8 115, .int .u8 109, .int .u8 1, .int .u8 0, .int .u8 0, .int .u8 0] 5)) := hm.below (below1 W _)
  have hF1 : Fr [] W (W.alloc (.cells #[.int .u8 0, .int .u8 97, .int .u8 115, .int .u8 109, .int .u8 1, .int .u8 0, .int .u8 0, .int .u8 0] 5)) := Fr.of (below1 W _) []
  obtain ⟨W1, hW1⟩ : ∃ W1, W.alloc (.cells #[.int .u8 0, .int .u8 97, .int .u8 115, .int .u8 109, .int .u8 1, .int .u8 0, .int .u8 0, .int .u8 0] 5) = W1 := ⟨_, rfl⟩
  have hW1' := hide hW1
  rw [hW1] at hs1 hS1 hM1 hF1
  have hO2 : Ow (W1.alloc (.cells #[] 5)) W1.heap.size (.slice (some ⟨W1.heap.size, 0, none⟩) 0 0) [] := ow_lit W1 [] 0 rfl (by omega)
  have hf2 : Fr [] W1 (W1.alloc (.cells #[] 5)) := (Fr.refl [] W1).alloc _
  obtain ⟨a3, c3, w3, hr3, hO3, hS3, hB3⟩ := app_run hO2 hf2.size (hS1.fr hf2 (by simp)) (by simp)
  have hf3 := fr_low hf2 hB3 (Nat.le_refl _)
  have hf4 := hf3.alloc (.cells #[.int .u8 7] 5)
  have hS4 : Sl (w3.alloc (.cells #[.int .u8 7] 5)) (some ⟨w3.heap.size, 0, none⟩) 1 1 [7] := sl_lit w3 [7] 1 rfl (by omega)
  obtain ⟨a5, c5, w5, hr5, hO5, hS5, hB5⟩ := app_run (hO3.alloc (.cells #[.int .u8 7] 5)) hf4.size hS4 (by decide)
  have hf5 := fr_low hf4 hB5 (Nat.le_refl _)
  have hl9 : ([] ++ magic : List Int).length + 1 = 9 := rfl
  have hl8 : ([] : List Int).length + 8 = 8 := rfl
  rw [hl8, hs1] at hr3
  rw [hl9, hl8] at hr5
  rw [hl9] at hS5
  have HR3 := hide hr3
  have HR5 := hide hr5
  have HX := hide (decode_any (sat := false) hS5 (byt_dec' _ rfl) (by omega) (hM1.fr hf5 (by simp)) (by have := hf5.size; omega))
  have HF5 := hide hf5
  have HS1 := hide hS1
  have HM1 := hide hM1
  have HF1 := hide hF1
  clear hO2 hf2 hO3 hS3 hB3 hf3 hf4 hS4 hr3 hr5 hO5 hS5 hB5 hf5 hS1 hM1 hF1 hl8 hl9
  have hm0 := hm
  clear hm
  rw [show (([] ++ magic) ++ [7] : List Int) = magic ++ [7] from rfl, aw_1] at HX
  go_enter Tryz.func7, Tryz.ntmps7
  go_wp2_with (at_builtin; first | (refine wpList_appT (w := W1.alloc (.cells #[] 5)) (t := 22) (by rfl) rfl rfl (unhide HR3) ?_) | (refine wpList_appT (w := w3.alloc (.cells #[.int .u8 7] 5)) (t := 22) (by rfl) rfl rfl (unhide HR5) ?_))
  refine (unhide HX).mono ?_
  rintro _ w6 ⟨vs, rfl, hmo, hM6, hF6⟩
  obtain ⟨r1, r2, r3, r4⟩ := mod_new hmo
  have hl11 := hmo.len
  have hone := hmo.one
  have HRm := hide r1
  have hf7 := ((unhide HF5).trans hF6).trans r3
  have hM7 := hM6.fr r3 (by simp)
  have hz7 := ((unhide HF5).trans hF6).size
  obtain ⟨w7, hw7⟩ : ∃ w7, (w6.alloc (.cells #[.slice none 0 0, .slice none 0 0, .slice none 0 0, .slice none 0 0, .slice none 0 0, .slice none 0 0, .slice none 0 0, .bool false, .int .u32 0, .slice none 0 0, .slice none 0 0] 34)).setCells w6.heap.size 0 vs = w7 := ⟨_, rfl⟩
  rw [hw7] at hf7 hM7 r2 r3 r4
  have hO7 : Ow w7 W.heap.size (.slice (some ⟨W.heap.size, 0, none⟩) 8 8) magic := by
    have hO := ow_lit W magic 8 rfl (by omega)
    have hO : Ow W1 W.heap.size (.slice (some ⟨W.heap.size, 0, none⟩) 8 8) magic := by rw [← unhide hW1']; exact hO
    exact rof_fr hO hf7 (by simp)
  have hf8 := hf7.alloc (.cells #[.int .u8 1, .int .u8 4, .int .u8 1, .int .u8 96, .int .u8 0, .int .u8 0] 5)
  have hS8 : Sl (w7.alloc (.cells #[.int .u8 1, .int .u8 4, .int .u8 1, .int .u8 96, .int .u8 0, .int .u8 0] 5)) (some ⟨w7.heap.size, 0, none⟩) 6 6 [1, 4, 1, 96, 0, 0] := sl_lit w7 [1, 4, 1, 96, 0, 0] 6 rfl (by omega)
  obtain ⟨a9, c9, w9, hr9, hO9, hS9, hB9⟩ := app_run (hO7.alloc (.cells #[.int .u8 1, .int .u8 4, .int .u8 1, .int .u8 96, .int .u8 0, .int .u8 0] 5)) (by have := hf8.size; omega) hS8 (by decide)
  have hf9 : Fr [] W w9 := fr_low ((unhide HF1).trans hf8) hB9 (Nat.le_refl _)
  have hl14 : (magic : List Int).length + 6 = 14 := rfl
  have hl8' : (magic : List Int).length = 8 := rfl
  rw [hl14] at hr9 hS9
  have HR9 := hide hr9
  have HX2 := hide (decode_any (sat := false) hS9 (byt_dec' _ rfl) (by omega) (hm0.fr hf9 (by simp)) (by have := hf9.size; omega))
  have HF9 := hide hf9
  clear r1 r2 r3 r4 hmo hM6 hF6 HX HR3 HR5 HF5 hf7 hM7 hO7 hf8 hS8 hr9 hO9 hS9 hB9 hf9 HS1 HM1 HF1 hW1 hW1' hz7
  go_wp2_with (first | (refine wpList_storeA rfl 34 (.tmp 2) (.tmp 14) rfl rfl (g := w6.heap.size) (off := 0) (cs := vs) rfl rfl (by rw [hl11]; exact szP34) (fun j hj => by rw [Nat.zero_add]; exact (unhide HRm) j (by omega)) hone ?_; rw [hw7]) | (at_builtin; refine wpList_appT (w := w7.alloc (.cells #[.int .u8 1, .int .u8 4, .int .u8 1, .int .u8 96, .int .u8 0, .int .u8 0] 5)) (t := 22) (by rfl) rfl rfl (unhide HR9) ?_))
  clear HR9 HRm hw7
  refine (unhide HX2).mono ?_
  rintro _ w10 ⟨vs2, rfl, hmo, hM6, hF6⟩
  obtain ⟨r1, r2, r3, r4⟩ := mod_new hmo
  have hl112 := hmo.len
  have hone2 := hmo.one
  obtain ⟨v0, v1, v2, v3, v4, v5, v6, v9, v10, hvs, a0, -⟩ := hmo.ex
  obtain ⟨p0, q0, rfl, -, -⟩ := a0.open
  rw [aw_2.2] at hvs
  have hz0 := r2.tab 0 (.slice p0 1 q0) (by rw [hvs]; rfl)
  have HRm := hide r1
  have HFz := hide (((unhide HF9).trans hF6).trans r3)
  have HMz := hide (hM6.fr r3 (by simp))
  have he0 := aw_2.1
  clear r1 r2 r3 r4 hmo hM6 hF6 HX2 HF9 a0 hvs
  obtain ⟨w11, hw11⟩ : ∃ w11, (w10.alloc (.cells #[.slice none 0 0, .slice none 0 0, .slice none 0 0, .slice none 0 0, .slice none 0 0, .slice none 0 0, .slice none 0 0, .bool false, .int .u32 0, .slice none 0 0, .slice none 0 0] 34)).setCells w10.heap.size 0 vs2 = w11 := ⟨_, rfl⟩
  rw [hw11] at hz0 HFz HMz
  go_wp2_with (refine wpList_storeA rfl 34 (.tmp 4) (.tmp 21) rfl rfl (g := w10.heap.size) (off := 0) (cs := vs2) rfl rfl (by rw [hl112]; exact szP34) (fun j hj => by rw [Nat.zero_add]; exact (unhide HRm) j (by omega)) hone2 ?_; rw [hw11])
  go_ret
  exact ⟨rfl, unhide HMz, unhide HFz⟩
end
end Go.Proofs.YtjoonmpjcophnaaGreatDoor
namespace Go.Proofs.YtjoonmpjcophnaaGreatDoor
open Go.RowKit

theorem Mk.four {W : World} (h : Mk W) : 4 ≤ W.heap.size := by
  have := World.block_lt_of_cell? W ⟨3, 0, none⟩ (h.stopped 0 _ rfl)
  have h3 : (3 : Nat) < W.heap.size := this
  omega
section
variable {a : Option Addr} {len cap : Nat} {xs : List Int} {cut x : Int} {W : World}
end
end Go.Proofs.YtjoonmpjcophnaaGreatDoor
namespace Go.Proofs.YtjoonmpjcophnaaGreatDoor
open Go.RowKit

set_option maxRecDepth 100000 in
theorem app_fr {w : World} {B : Nat} {v : Value} {xs ys : List Int} {a : Option Addr} {m c : Nat} (hO : Ow w B v xs) (hB : B ≤ w.heap.size) (hS : Sl w a m c ys) (hl : xs.length + m ≤ 100000) :
    ∃ a' cap w', (Builtin.append_ #[22, 22] 22 #[v, .slice a m c]).run Tryz.prog w = .ok (.slice a' (xs.length + m) cap) w' ∧ Ow w' B (.slice a' (xs.length + m) cap) (xs ++ ys) ∧ Sl w' a' (xs.length + m) cap (xs ++ ys) ∧ Fr v.ownBlock.toList w w' ∧
      (∀ g, (Value.slice a' (xs.length + m) cap).ownBlock = some g → v.ownBlock = some g ∨ w.heap.size ≤ g) := by
  have hm := hS.1
  have key : ∃ v' w', (Builtin.append_ #[22, 22] 22 #[v, .slice a m c]).run Tryz.prog w = .ok v' w' ∧ Ow w' B v' (xs ++ ys) ∧ Fr v.ownBlock.toList w w' ∧ (∀ g, v'.ownBlock = some g → v.ownBlock = some g ∨ w.heap.size ≤ g) := by
    rcases hS.2.2.2 with ⟨rfl, rfl, rfl⟩ | ⟨b, off, rfl, h4⟩
    · have e : ys = [] := List.eq_nil_of_length_eq_zero hm
      subst e
      exact ⟨v, w, run_append_owned_none (P := Tryz.prog) (w := w) B 22 22 5 _ 1 Tryz.underlying22 iU8 v xs.length (bys xs) hO, by rw [List.append_nil]; exact hO, Fr.refl _ _, fun g hg => .inl hg⟩
    · obtain ⟨v', w', h1, h2, h3, h4'⟩ := app_own (c := c) (size := 1) (bytes := 1) (z := .int .u8 0) Tryz.underlying22 iU8 rfl rfl rfl rfl (by decide) hO (a := ⟨b, off, none⟩) (m := m) (news := bys ys) (by rw [bys_len, hm, Nat.mul_one]) (bys_off h4 hm) (bys_cell ys) (by unfold maxLen; omega) (by omega) hB
      refine ⟨v', w', h1, ?_, fr_grown h3, h4'⟩
      unfold Ow
      rw [bys_app, List.length_append, hm]
      exact h2
  obtain ⟨v', w', h1, h2, h3, h4⟩ := key
  obtain ⟨a', cap, rfl, h5⟩ := h2.slice (by rw [List.length_append]; omega)
  rw [List.length_append, hm] at h1 h2 h4 h5
  exact ⟨a', cap, w', h1, h2, h5, h3, h4⟩
theorem slice1 {b off len cap : Nat} (h1 : 1 ≤ len) (hc : len ≤ cap) (h47 : len ≤ 140737488355328) (w : World) : (Instr.slice 22 (.slice (some ⟨b, off, none⟩) len cap) (some (.int .i64 1)) none none).run Tryz.prog w = .ok (.slice (some ⟨b, if cap = 1 then off else off + 1, none⟩) (len - 1) (cap - 1)) w := by
  have h1 : (1 : Int) ≤ (len : Int) := by omega
  have h2 : ¬ (len : Int) < 1 := by omega
  by_cases h : cap = 1
  · subst h
    obtain rfl : len = 1 := by omega
    go_simp
  · go_simp
theorem Sl.drop1 {w : World} {b off len cap : Nat} {xs : List Int} (h : Sl w (some ⟨b, off, none⟩) len cap xs) (h8 : 1 ≤ len) : Sl w (some ⟨b, if cap = 1 then off else off + 1, none⟩) (len - 1) (cap - 1) xs.tail := by
  obtain ⟨h1, h2, h3, h4⟩ := h
  refine ⟨by rw [List.length_tail, h1], by omega, by omega, .inr ⟨_, _, rfl, fun j hj => ?_⟩⟩
  rcases h4 with ⟨h4, _⟩ | ⟨b', off', h5, h6⟩
  · cases h4
  · injection h5 with h5
    injection h5 with h5 h7
    subst h5
    subst h7
    rw [if_neg (by omega), show off + 1 + j = off + (1 + j) by omega, h6 (1 + j) (by omega)]
    simp [List.getD_eq_getElem?_getD, Nat.add_comm]
set_option maxHeartbeats 4000000 in
set_option maxRecDepth 100000 in
theorem custom_long {a : Option Addr} {len cap : Nat} {b : Option Addr} {lem cbp : Nat} {cut : Int} {W : World} (hm : Mk W) (h : 30 < len ∨ ¬ 30 < len ∧ 50 < lem ∨ ¬ 30 < len ∧ ¬ 50 < lem ∧ cut < 0) : Calls Tryz.prog 5 #[.slice a len cap, .int .i64 cut, .slice b lem cbp] W fun r W' => r = .returned (.bool true) ∧ Fr [] W W' := by
  have HX := hide (awake20 hm hm.four)
  clear hm
  go_enter Tryz.func5, Tryz.ntmps5
  go_wp2_with fail
  refine (unhide HX).mono ?_
  rintro _ w1 ⟨rfl, -, hF⟩
  have HF := hide hF
  clear hF HX
  rcases h with h | ⟨h1, h2⟩ | ⟨h1, h2, h3⟩
  · have h' : (30 : Int) < len := by omega
    go_wp2_with fail
    go_ret
    exact ⟨rfl, unhide HF⟩
  · have h' : ¬ (30 : Int) < len := by omega
    have h3 : (50 : Int) < lem := by omega
    go_wp2_with fail
    go_ret
    exact ⟨rfl, unhide HF⟩
  · have h' : ¬ (30 : Int) < len := by omega
    have h4 : ¬ (50 : Int) < lem := by omega
    go_wp2_with fail
    go_ret
    exact ⟨rfl, unhide HF⟩
end Go.Proofs.YtjoonmpjcophnaaGreatDoor
namespace Go.Proofs.YtjoonmpjcophnaaGreatDoor
open Go.RowKit

/-- The contract of Plain for what is smaller than n. -/
def PPlain (n : Nat) : Prop := ∀ (T : Fo) (P : Nat → Prop) (v : Value) (W : World), T.size < n → T.size ≤ 2000000 → Fov W P T v →
  Calls Tryz.prog 34 #[v] W fun r W' => ∃ p s, r = .returned (.slice p T.len s) ∧ Fov W' (fun b => P b ∧ b < W.heap.size ∨ W.heap.size ≤ b) T (.slice p T.len s) ∧ Fr [] W W'
set_option maxHeartbeats 8000000 in
set_option maxRecDepth 100000 in
theorem plain_step {n : Nat} {T : Fo} {P : Nat → Prop} {v : Value} {W : World} (HI : Hid (PPlain n)) (hs : T.size < n + 1) (hz : T.size ≤ 2000000) (h : Fov W P T v) :
  Calls Tryz.prog 34 #[v] W fun r W' => ∃ p s, r = .returned (.slice p T.len s) ∧ Fov W' (fun b => P b ∧ b < W.heap.size ∨ W.heap.size ≤ b) T (.slice p T.len s) ∧ Fr [] W W' := by
  have h := h.mono (P' := fun b => P b ∧ b < W.heap.size) (fun b h1 h2 => ⟨h2, h1⟩)
  obtain ⟨a, cap, rfl, hc, ho⟩ := h.open2
  have H := hide h
  have HO := hide ho
  have hl := T.len_le
  clear h ho
  go_enter Tryz.func34, Tryz.ntmps34
  go_wp2_with fail
  go_loopw [8, 3] (fun v8 v3 wr => ∃ (i : Nat) (cs : List Value), i ≤ T.len ∧ v8 = .int .i64 (i : Int) ∧ Ry P 158 W.heap.size v3 (T.pre i) cs 0 wr ∧ Fr [] W wr) (fun v8 _ _ => T.len - (intOf v8).toNat)
  case atStart => exact ⟨0, [], by omega, rfl, ry_nil _ _ _ _ _, Fr.refl _ _⟩
  case round =>
    obtain ⟨i, cs, hi, rfl, hW, hF⟩ := hrel
    have hpl := T.pre_len i hi
    by_cases hlt : i < T.len
    · obtain ⟨⟨⟨op, ty, aa, bb, bits, li, has⟩, t, e⟩, hat⟩ := Fo.at_some hlt
      rcases unhide HO with h0 | ⟨b, off, rfl, hp, hel⟩
      · omega
      · obtain ⟨l1, l3, t1, t3, e1, e3, hE, hL, ht, he⟩ := hel i _ t e hat
        have hsz := Fo.at_size hat
        have hi' : (i : Int) < (T.len : Int) := by omega
        have hi2 : (0 : Int) ≤ (i : Int) := by omega
        have HL := hide (hL.fr hF (by simp))
        have HT := hide (ht.fr hF (by simp))
        have HEl := hide (he.fr hF (by simp))
        have HW := hide hW
        have HFw := hide hF
        have HAt := hide hat
        obtain ⟨g0, g1, g2, g3, g4, g5, g6, g7, g8⟩ := hE.fr hF (by simp)
        dsimp only at g0 g1 g2 g3 g4 g5 g6 g7 g8
        clear hE hL ht he hW hF hat hel
        go_wp2_with fail
        clear g0 g1 g2 g3 g4 g5 g6 g7 g8
        have HFr := hide (Fr.of (below1 wr (.cells #[.int .i64 op, .int .u8 ty, .int .u32 aa, .int .u32 bb, .int .u64 bits, .slice l1 li.length l3, .slice t1 t.len t3, .slice e1 e.len e3, .bool has] 160)) [])
        have hF0 : wr.heap.size < (wr.alloc (.cells #[.int .i64 op, .int .u8 ty, .int .u32 aa, .int .u32 bb, .int .u64 bits, .slice l1 li.length l3, .slice t1 t.len t3, .slice e1 e.len e3, .bool has] 160)).heap.size := by simp
        have HE : Hid (Elt (wr.alloc (.cells #[.int .i64 op, .int .u8 ty, .int .u32 aa, .int .u32 bb, .int .u64 bits, .slice l1 li.length l3, .slice t1 t.len t3, .slice e1 e.len e3, .bool has] 160)) wr.heap.size 0 ⟨op, ty, aa, bb, bits, li, has⟩ (.slice l1 li.length l3) (.slice t1 t.len t3) (.slice e1 e.len e3)) := hide (by unfold Elt; simp [go_sem])
        have HL := hide ((unhide HL).fr (unhide HFr) (by simp))
        have HT := hide ((unhide HT).fr (unhide HFr) (by simp))
        have HEl := hide ((unhide HEl).fr (unhide HFr) (by simp))
        generalize wr.alloc (.cells #[.int .i64 op, .int .u8 ty, .int .u32 aa, .int .u32 bb, .int .u64 bits, .slice l1 li.length l3, .slice t1 t.len t3, .slice e1 e.len e3, .bool has] 160) = w1 at *
        have hdr : Fr [] w1 w1.drew := (Fr.refl _ _).drew
        have HFr := hide ((unhide HFr).trans hdr)
        have HE := hide ((unhide HE).fr hdr (by simp))
        have HL := hide ((unhide HL).fr hdr (by simp))
        have HT := hide ((unhide HT).fr hdr (by simp))
        have HEl := hide ((unhide HEl).fr hdr (by simp))
        have hF0 := Nat.lt_of_lt_of_le hF0 hdr.size
        clear hdr
        generalize hq : wr.heap.size = q at *
        have HE : Hid ((fun w' : World => w'.cell? ⟨q, 0, none⟩ = some (.int .i64 op) ∧ w'.cell? ⟨q, 1, none⟩ = some (.int .u8 ty) ∧ w'.cell? ⟨q, 2, none⟩ = some (.int .u32 aa) ∧ w'.cell? ⟨q, 3, none⟩ = some (.int .u32 bb) ∧ w'.cell? ⟨q, 4, none⟩ = some (.int .u64 bits) ∧ w'.cell? ⟨q, 5, none⟩ = some (.slice l1 li.length l3) ∧ w'.cell? ⟨q, 6, none⟩ = some (.slice t1 t.len t3) ∧ w'.cell? ⟨q, 7, none⟩ = some (.slice e1 e.len e3) ∧ w'.cell? ⟨q, 8, none⟩ = some (.bool has)) w1.drew) := hide (unhide HE)
        refine wp_region_held_drew (S := fun w' => w'.cell? ⟨q, 0, none⟩ = some (.int .i64 op) ∧ w'.cell? ⟨q, 1, none⟩ = some (.int .u8 ty) ∧ w'.cell? ⟨q, 2, none⟩ = some (.int .u32 aa) ∧ w'.cell? ⟨q, 3, none⟩ = some (.int .u32 bb) ∧ w'.cell? ⟨q, 4, none⟩ = some (.int .u64 bits) ∧ w'.cell? ⟨q, 5, none⟩ = some (.slice l1 li.length l3) ∧ w'.cell? ⟨q, 6, none⟩ = some (.slice t1 t.len t3) ∧ w'.cell? ⟨q, 7, none⟩ = some (.slice e1 e.len e3) ∧ w'.cell? ⟨q, 8, none⟩ = some (.bool has)) (by kernel_rfl) ?_ (fun hHeld => ?_)
        · (try dsimp only)
          exact unhide HE
        refine lst0 25 (by kernel_rfl) ?_
        refine tkA 0 12 1 ?_
        refine tkA 1 13 3 ?_
        refine tkA 2 14 7 ?_
        refine tkA 3 15 15 ?_
        refine tkA 4 16 31 ?_
        refine tkA 5 17 63 ?_
        refine tkA 6 18 127 ?_
        refine tkA 7 19 255 ?_
        refine tkA 8 20 511 ?_
        refine tkA 9 21 1023 ?_
        refine tkA 10 22 2047 ?_
        refine tkA 11 23 4095 ?_
        refine tkA 12 24 8191 ?_
        refine tkA 13 25 16383 ?_
        refine tkA 14 26 32767 ?_
        refine tkA 16 28 98303 ?_
        refine tkA 17 29 229375 ?_
        refine tkA 19 31 753663 ?_
        refine tkA 20 32 1802239 ?_
        refine rdA 15 1835007 (fun Kk hKk => ?_)
        go_simp
        refine (unhide HI t _ _ _ (by omega) (by omega) (unhide HT)).mono ?_
        rintro _ w3 ⟨p3, s3, rfl, hV, hF3⟩
        have HE : Hid ((fun w' : World => w'.cell? ⟨q, 0, none⟩ = some (.int .i64 op) ∧ w'.cell? ⟨q, 1, none⟩ = some (.int .u8 ty) ∧ w'.cell? ⟨q, 2, none⟩ = some (.int .u32 aa) ∧ w'.cell? ⟨q, 3, none⟩ = some (.int .u32 bb) ∧ w'.cell? ⟨q, 4, none⟩ = some (.int .u64 bits) ∧ w'.cell? ⟨q, 5, none⟩ = some (.slice l1 li.length l3) ∧ w'.cell? ⟨q, 6, none⟩ = some (.slice t1 t.len t3) ∧ w'.cell? ⟨q, 7, none⟩ = some (.slice e1 e.len e3) ∧ w'.cell? ⟨q, 8, none⟩ = some (.bool has)) w3) := hide (by obtain ⟨q0, q1, q2, q3, q4, q5, q6, q7, q8⟩ := unhide HE; exact ⟨hF3.keep q0 (by simp), hF3.keep q1 (by simp), hF3.keep q2 (by simp), hF3.keep q3 (by simp), hF3.keep q4 (by simp), hF3.keep q5 (by simp), hF3.keep q6 (by simp), hF3.keep q7 (by simp), hF3.keep q8 (by simp)⟩)
        have HL := hide ((unhide HL).fr hF3 (by simp))
        have HT := hide ((unhide HT).fr hF3 (by simp))
        have HEl := hide ((unhide HEl).fr hF3 (by simp))
        have HFr := hide ((unhide HFr).trans hF3)
        have HV3 := hide hV
        clear hV
        (try go_wp2_with fail)
        refine hKk.out _ _ ?_ (fun hHeld => ?_)
        · (try dsimp only)
          exact unhide HE
        clear hKk Kk
        (try simp only [List.setIfInBounds_toArray, List.set_cons_zero, List.set_cons_succ])
        refine rdA 18 2097151 (fun Kk hKk => ?_)
        go_simp
        refine (unhide HI e _ _ _ (by omega) (by omega) (unhide HEl)).mono ?_
        rintro _ w4 ⟨p4, s4, rfl, hV, hF4⟩
        have HE : Hid ((fun w' : World => w'.cell? ⟨q, 0, none⟩ = some (.int .i64 op) ∧ w'.cell? ⟨q, 1, none⟩ = some (.int .u8 ty) ∧ w'.cell? ⟨q, 2, none⟩ = some (.int .u32 aa) ∧ w'.cell? ⟨q, 3, none⟩ = some (.int .u32 bb) ∧ w'.cell? ⟨q, 4, none⟩ = some (.int .u64 bits) ∧ w'.cell? ⟨q, 5, none⟩ = some (.slice l1 li.length l3) ∧ w'.cell? ⟨q, 6, none⟩ = some (.slice t1 t.len t3) ∧ w'.cell? ⟨q, 7, none⟩ = some (.slice e1 e.len e3) ∧ w'.cell? ⟨q, 8, none⟩ = some (.bool has)) w4) := hide (by obtain ⟨q0, q1, q2, q3, q4, q5, q6, q7, q8⟩ := unhide HE; exact ⟨hF4.keep q0 (by simp), hF4.keep q1 (by simp), hF4.keep q2 (by simp), hF4.keep q3 (by simp), hF4.keep q4 (by simp), hF4.keep q5 (by simp), hF4.keep q6 (by simp), hF4.keep q7 (by simp), hF4.keep q8 (by simp)⟩)
        have HL := hide ((unhide HL).fr hF4 (by simp))
        have HT := hide ((unhide HT).fr hF4 (by simp))
        have HEl := hide ((unhide HEl).fr hF4 (by simp))
        have HFr := hide ((unhide HFr).trans hF4)
        have HV4 := hide hV
        clear hV
        (try go_wp2_with fail)
        have HV3 := hide ((unhide HV3).fr hF4 (by simp))
        refine hKk.out _ _ ?_ (fun hHeld => ?_)
        · (try dsimp only)
          exact unhide HE
        clear hKk Kk
        (try simp only [List.setIfInBounds_toArray, List.set_cons_zero, List.set_cons_succ])
        refine tkA 21 33 4194303 ?_
        have hs1 := (unhide HFw).size
        have hs2 := (unhide HFr).size
        obtain ⟨pp, ps, w5, hrun, hW5, hFr, hg5⟩ := Ry.app (t := 83) (ty := 158) (e2 := 0) Tryz.underlying83 iIn73 zero73 size73 rfl bytes73 rfl (unhide HW) (unhide HFr) hs1 (by omega) (hd := ⟨op, ty, aa, bb, bits, li, has⟩) (t' := t) (e' := e) (lv := .slice l1 li.length l3) (vt := .slice p3 t.len s3) (ve := .slice p4 e.len s4) rfl rfl rfl (fun q => q) (fun _ => ⟨(unhide HL).mono (fun b _ hb => .inl hb), (unhide HV3).mono (fun b _ hb => hb.elim (fun q => .inl q.1) (fun q => .inr (by have := hF0; omega))), (unhide HV4).mono (fun b _ hb => hb.elim (fun q => .inl q.1) (fun q => .inr (by have := hF3.size; have := hF0; omega)))⟩) rfl
        have HRun := hide hrun
        have HW5 := hide hW5
        have HF5 := hide (hFr W ((unhide HFw).trans (unhide HFr)) (Nat.le_refl _))
        have HE3 := HE
        have HK5 : Hid (∀ (p : Addr) (x : Value), w4.cell? p = some x → p.block = q → w5.cell? p = some x) := hide (fun p x hx hp => hg5 p x hx (by
          intro hv
          rw [hp] at hv
          have := ((unhide HW).own.lt q hv).2
          omega))
        clear hrun hW5 hFr hg5
        refine rdA 22 8388607 (fun Kk hKk => ?_)
        go_simp
        have hb5 := Fr.of (below1 w4 (.cells #[.int .i64 op, .int .u8 ty, .int .u32 aa, .int .u32 bb, .int .u64 bits, .slice l1 li.length l3, .slice p3 t.len s3, .slice p4 e.len s4, .bool has] 158)) []
        have HE : Hid ((fun w' : World => w'.cell? ⟨q, 0, none⟩ = some (.int .i64 op) ∧ w'.cell? ⟨q, 1, none⟩ = some (.int .u8 ty) ∧ w'.cell? ⟨q, 2, none⟩ = some (.int .u32 aa) ∧ w'.cell? ⟨q, 3, none⟩ = some (.int .u32 bb) ∧ w'.cell? ⟨q, 4, none⟩ = some (.int .u64 bits) ∧ w'.cell? ⟨q, 5, none⟩ = some (.slice l1 li.length l3) ∧ w'.cell? ⟨q, 6, none⟩ = some (.slice t1 t.len t3) ∧ w'.cell? ⟨q, 7, none⟩ = some (.slice e1 e.len e3) ∧ w'.cell? ⟨q, 8, none⟩ = some (.bool has)) (w4.alloc (.cells #[.int .i64 op, .int .u8 ty, .int .u32 aa, .int .u32 bb, .int .u64 bits, .slice l1 li.length l3, .slice p3 t.len s3, .slice p4 e.len s4, .bool has] 158))) := hide (by obtain ⟨q0, q1, q2, q3, q4, q5, q6, q7, q8⟩ := unhide HE; exact ⟨hb5.keep q0 (by simp), hb5.keep q1 (by simp), hb5.keep q2 (by simp), hb5.keep q3 (by simp), hb5.keep q4 (by simp), hb5.keep q5 (by simp), hb5.keep q6 (by simp), hb5.keep q7 (by simp), hb5.keep q8 (by simp)⟩)
        refine hKk.out _ _ ?_ (fun hHeld => ?_)
        · (try dsimp only)
          exact unhide HE
        clear hKk Kk
        (try simp only [List.setIfInBounds_toArray, List.set_cons_zero, List.set_cons_succ])
        clear hb5
        refine rdA 23 16777215 (fun Kk hKk => ?_)
        rw [if_pos (by rfl)]
        refine oper_app (by rfl) (by rfl) (unhide HRun) ?_
        have HE : Hid ((fun w' : World => w'.cell? ⟨q, 0, none⟩ = some (.int .i64 op) ∧ w'.cell? ⟨q, 1, none⟩ = some (.int .u8 ty) ∧ w'.cell? ⟨q, 2, none⟩ = some (.int .u32 aa) ∧ w'.cell? ⟨q, 3, none⟩ = some (.int .u32 bb) ∧ w'.cell? ⟨q, 4, none⟩ = some (.int .u64 bits) ∧ w'.cell? ⟨q, 5, none⟩ = some (.slice l1 li.length l3) ∧ w'.cell? ⟨q, 6, none⟩ = some (.slice t1 t.len t3) ∧ w'.cell? ⟨q, 7, none⟩ = some (.slice e1 e.len e3) ∧ w'.cell? ⟨q, 8, none⟩ = some (.bool has)) w5) := hide (by obtain ⟨q0, q1, q2, q3, q4, q5, q6, q7, q8⟩ := unhide HE3; exact ⟨(unhide HK5) _ _ q0 rfl, (unhide HK5) _ _ q1 rfl, (unhide HK5) _ _ q2 rfl, (unhide HK5) _ _ q3 rfl, (unhide HK5) _ _ q4 rfl, (unhide HK5) _ _ q5 rfl, (unhide HK5) _ _ q6 rfl, (unhide HK5) _ _ q7 rfl, (unhide HK5) _ _ q8 rfl⟩)
        refine hKk.out _ _ ?_ (fun hHeld => ?_)
        · (try dsimp only)
          exact unhide HE
        clear hKk Kk
        (try simp only [List.setIfInBounds_toArray, List.set_cons_zero, List.set_cons_succ])
        refine tkA 24 3 33554431 ?_
        refine wpAnyH_done (by kernel_rfl) ?_ _
        go_wp2_with fail
        refine ⟨⟨i + 1, cs ++ hcells ⟨op, ty, aa, bb, bits, li, has⟩ (.slice l1 li.length l3) (.slice p3 t.len s3) (.slice p4 e.len s4), by omega, by go_num, ?_, unhide HF5⟩, by simp [intOf]; omega⟩
        have hww := unhide HW5
        rw [← Fo.pre_succ (unhide HAt)] at hww
        (try rw [hpl] at hww)
        exact hww
    · obtain rfl : i = T.len := by omega
      rw [T.pre_all] at hW
      obtain ⟨p, s, rfl⟩ := hW.slice
      have HW := hide hW
      have HF := hide hF
      clear hW hF
      go_wp2_with fail
      go_ret
      exact ⟨p, s, rfl, (unhide HW).fov rfl, unhide HF⟩
theorem plain_any : ∀ n, PPlain n
  | 0 => fun _ _ _ _ h _ _ => absurd h (Nat.not_lt_zero _)
  | n + 1 => fun _ _ _ _ h hz hh => plain_step (hide (plain_any n)) h hz hh
end Go.Proofs.YtjoonmpjcophnaaGreatDoor
