/- PdH, PfA, PfB, PfL. -/
import Derived.Test.YtjoonmpjcophnaaGreatDoorLo39
import Derived.Test.YtjoonmpjcophnaaGreatDoorLo42
import Derived.Test.YtjoonmpjcophnaaGreatDoorLo44
import Derived.Test.YtjoonmpjcophnaaGreatDoorLo47
import Derived.Lib.SmallJoins
namespace Go.Proofs.YtjoonmpjcophnaaGreatDoor
open Go.RowKit

theorem szP34 : (Tryz.prog.info? 34).map (·.size) = some 11 := by kernel_rfl
def nil11 : List Value := [.slice none 0 0, .slice none 0 0, .slice none 0 0, .slice none 0 0, .slice none 0 0, .slice none 0 0, .slice none 0 0, .bool false, .int .u32 0, .slice none 0 0, .slice none 0 0]
theorem results_ct {fn : Func} {t ty u : Nat} {p : Addr} {v : Value} {w : World} {P : Program} (hr : fn.results = #[.cell t ty, .tmp u]) (tmps : Array Value) (ht : tmps[t]? = some (.pointer (some p))) (hv : (loadVar ty p).run P w = .ok v w) :
    (results fn tmps).run P w = .ok (.tuple #[v, tmps.getD u undef]) w := by
  simp [results, hr, ht, asAddr, hv]
theorem mor0 (w : World) (P : Nat → Prop) : MoR w P mo0 nil11 := ⟨⟨_, _, _, _, _, _, _, _, _, rfl, sls_nil w P, sls_nil w P, sls_nil w P, sls_nil w P, sls_nil w P, sls_nil w P, sls_nil w P, sls_nil w P, sls_nil w P⟩⟩
theorem fin_no {sat : Bool} {ys : List Int} {s : St} {k : Nat} {e : Int} (h : Rd (rAll sat 0 (mo0, [])) ys 0 0 s k e) (he : e ≠ 0) : fin (rAll sat 0 (mo0, []) ys) = (mo0, e) := by
  have h1 := (h.live rfl).2
  rw [List.drop_zero] at h1
  unfold fin
  rw [← h1, if_pos he]
theorem fin_ok {sat : Bool} {ys : List Int} {s : St} {k : Nat} (h : Rd (rAll sat 0 (mo0, [])) ys 0 0 s k 0) : fin (rAll sat 0 (mo0, []) ys) = if s.2.length = s.1.funcs.length then ({ s.1 with funcs := setTypes s.2 s.1.funcs }, 0) else (mo0, 109) := by
  have h1 := (h.live rfl).2
  have h2 := h.val rfl rfl
  rw [List.drop_zero] at h1 h2
  unfold fin
  rw [← h1, ← h2, if_neg (by simp)]
  by_cases q : s.2.length = s.1.funcs.length
  · rw [if_pos q, if_neg (by simp [q])]
  · rw [if_neg q, if_pos q]
theorem Sl.drop8 {w : World} {b off len cap : Nat} {xs : List Int} (h : Sl w (some ⟨b, off, none⟩) len cap xs) (h8 : 8 ≤ len) (a' : Option Addr) (ha : a' = some ⟨b, if cap = 8 then off else off + 8, none⟩) : Sl w a' (len - 8) (cap - 8) (xs.drop 8) := by
  obtain ⟨h1, h2, h3, h4⟩ := h
  subst ha
  refine ⟨by rw [List.length_drop, h1], by omega, by omega, .inr ⟨_, _, rfl, fun j hj => ?_⟩⟩
  rcases h4 with ⟨h4, _⟩ | ⟨b', off', h5, h6⟩
  · cases h4
  · injection h5 with h5
    injection h5 with h5 h7
    subst h5
    subst h7
    rw [if_neg (by omega), show off + 8 + j = off + (8 + j) by omega, h6 (8 + j) (by omega)]
    simp [List.getD_eq_getElem?_getD, List.getElem?_drop]
theorem magic_sl (w : World) (n : Nat) (hn : n = w.heap.size) : Sl (w.alloc (.cells #[.int .u8 0, .int .u8 97, .int .u8 115, .int .u8 109, .int .u8 1, .int .u8 0, .int .u8 0, .int .u8 0] 5 (8, 9))) (some ⟨n, 0, none⟩) 8 8 magic := by
  refine ⟨rfl, Nat.le_refl _, by omega, .inr ⟨n, 0, rfl, fun j hj => ?_⟩⟩
  rw [Nat.zero_add, Go.Joins.cell_alloc_mark_at w _ 5 (8, 9) n j hn]
  match j, hj with
  | 0, _ => rfl
  | 1, _ => rfl
  | 2, _ => rfl
  | 3, _ => rfl
  | 4, _ => rfl
  | 5, _ => rfl
  | 6, _ => rfl
  | 7, _ => rfl
  | j + 8, h => omega
theorem slice8 {b off len cap : Nat} (h8 : 8 ≤ len) (hc : len ≤ cap) (h47 : len ≤ 140737488355328) (w : World) : (Instr.slice 22 (.slice (some ⟨b, off, none⟩) len cap) (some (.int .i64 8)) none none).run Tryz.prog w = .ok (.slice (some ⟨b, if cap = 8 then off else off + 8, none⟩) (len - 8) (cap - 8)) w := by
  have h1 : (8 : Int) ≤ (len : Int) := by omega
  have h2 : ¬ (len : Int) < 8 := by omega
  by_cases h : cap = 8
  · subst h
    obtain rfl : len = 8 := by omega
    go_simp
  · go_simp
section
variable {a : Option Addr} {len cap : Nat} {xs : List Int} {W : World} {sat : Bool}
set_option maxHeartbeats 16000000 in
set_option maxRecDepth 100000 in
theorem decode_any (hS : Sl W a len cap xs) (hy : Byt xs) (hl : len ≤ 7000 ∨ 65536 < len) (hm : Mk W) (hw4 : 4 ≤ W.heap.size) : Calls Tryz.prog 8 #[.slice a len cap, .bool sat] W fun r W' => ∃ vs : List Value, r = .returned (.tuple #[.agg vs.toArray, .int .i64 (dec sat xs).2]) ∧ MoR W' (fun b => W.heap.size ≤ b) (dec sat xs).1 vs ∧ Mk W' ∧ Fr [] W W' := by
  have hx := hS.1
  have hcap := hS.2.1
  have h47 := hS.2.2.1
  have hb := below1 W (.cells #[.slice none 0 0, .slice none 0 0, .slice none 0 0, .slice none 0 0, .slice none 0 0, .slice none 0 0, .slice none 0 0, .bool false, .int .u32 0, .slice none 0 0, .slice none 0 0] 34)
  have hV0 : Vr W.heap.size 11 nil11 (W.alloc (.cells #[.slice none 0 0, .slice none 0 0, .slice none 0 0, .slice none 0 0, .slice none 0 0, .slice none 0 0, .slice none 0 0, .bool false, .int .u32 0, .slice none 0 0, .slice none 0 0] 34)) := vr_new nil11 34 W
  have hs1 : (W.alloc (.cells #[.slice none 0 0, .slice none 0 0, .slice none 0 0, .slice none 0 0, .slice none 0 0, .slice none 0 0, .slice none 0 0, .bool false, .int .u32 0, .slice none 0 0, .slice none 0 0] 34)).heap.size = W.heap.size + 1 := by simp
  have HR := hide hV0
  have HM := hide (hm.below hb)
  have HF := hide (Fr.of hb [])
  have HSl := hide (hS.below hb)
  have HY := hide hy
  by_cases hlim : 65536 < len
  · have hd : dec sat xs = (mo0, 3) := by unfold dec; rw [if_pos (by omega)]
    have hD := hide hd
    have hlim' : (65536 : Int) < (len : Int) := by omega
    clear hS hy hm hb hV0 hd
    go_enter Tryz.func8, Tryz.ntmps8
    go_wp2_with fail
    refine bodyPost_ret (v := .tuple #[.agg nil11.toArray, .int .i64 3]) ?_ rfl ?_
    · exact results_ct Tryz.results8 _ rfl (load_tab (unhide HR).tab Tryz.underlying34 rfl szP34)
    · rw [unhide hD]
      exact ⟨nil11, rfl, mor0 _ _, unhide HM, unhide HF⟩
  · have hlim' : ¬ (65536 : Int) < (len : Int) := by omega
    have hl7 : len ≤ 7000 := by omega
    have hb2 := below1 (W.alloc (.cells #[.slice none 0 0, .slice none 0 0, .slice none 0 0, .slice none 0 0, .slice none 0 0, .slice none 0 0, .slice none 0 0, .bool false, .int .u32 0, .slice none 0 0, .slice none 0 0] 34)) (.cells #[.int .u8 0, .int .u8 97, .int .u8 115, .int .u8 109, .int .u8 1, .int .u8 0, .int .u8 0, .int .u8 0] 5 (8, 9))
    have hf2 := Fr.of hb2 []
    have hmg : Sl ((W.alloc (.cells #[.slice none 0 0, .slice none 0 0, .slice none 0 0, .slice none 0 0, .slice none 0 0, .slice none 0 0, .slice none 0 0, .bool false, .int .u32 0, .slice none 0 0, .slice none 0 0] 34)).alloc (.cells #[.int .u8 0, .int .u8 97, .int .u8 115, .int .u8 109, .int .u8 1, .int .u8 0, .int .u8 0, .int .u8 0] 5 (8, 9))) (some ⟨W.heap.size + 1, 0, none⟩) 8 8 magic := magic_sl _ _ hs1.symm
    have hcv : (convert 22 22 (.slice (some ⟨W.heap.size + 1, 0, none⟩) 8 8)).run Tryz.prog ((W.alloc (.cells #[.slice none 0 0, .slice none 0 0, .slice none 0 0, .slice none 0 0, .slice none 0 0, .slice none 0 0, .slice none 0 0, .bool false, .int .u32 0, .slice none 0 0, .slice none 0 0] 34)).alloc (.cells #[.int .u8 0, .int .u8 97, .int .u8 115, .int .u8 109, .int .u8 1, .int .u8 0, .int .u8 0, .int .u8 0] 5)) = .ok (.slice (some ⟨W.heap.size + 1, 0, none⟩) 8 8) ((W.alloc (.cells #[.slice none 0 0, .slice none 0 0, .slice none 0 0, .slice none 0 0, .slice none 0 0, .slice none 0 0, .slice none 0 0, .bool false, .int .u32 0, .slice none 0 0, .slice none 0 0] 34)).alloc (.cells #[.int .u8 0, .int .u8 97, .int .u8 115, .int .u8 109, .int .u8 1, .int .u8 0, .int .u8 0, .int .u8 0] 5 (8, 9))) := Go.Joins.run_convert_bytes_const_at (W.alloc (.cells #[.slice none 0 0, .slice none 0 0, .slice none 0 0, .slice none 0 0, .slice none 0 0, .slice none 0 0, .slice none 0 0, .bool false, .int .u32 0, .slice none 0 0, .slice none 0 0] 34)) 22 5 #[.int .u8 0, .int .u8 97, .int .u8 115, .int .u8 109, .int .u8 1, .int .u8 0, .int .u8 0, .int .u8 0] 8 8 (W.heap.size + 1) hs1.symm Tryz.underlying22 Tryz.underlying5
    have HX := hide (prefix_any ((unhide HSl).below hb2) (unhide HY) hmg)
    have HR := hide ((unhide HR).fr hf2 (by simp))
    have HM := hide ((unhide HM).below hb2)
    have HF := hide ((unhide HF).bel hb2)
    have HSl := hide ((unhide HSl).below hb2)
    clear hS hy hm hb hV0 hb2 hf2 hmg
    go_enter Tryz.func8, Tryz.ntmps8
    go_wp2_with fail
    clear hcv
    generalize (W.alloc (.cells #[.slice none 0 0, .slice none 0 0, .slice none 0 0, .slice none 0 0, .slice none 0 0, .slice none 0 0, .slice none 0 0, .bool false, .int .u32 0, .slice none 0 0, .slice none 0 0] 34)).alloc (.cells #[.int .u8 0, .int .u8 97, .int .u8 115, .int .u8 109, .int .u8 1, .int .u8 0, .int .u8 0, .int .u8 0] 5 (8, 9)) = w1 at *
    refine (unhide HX).mono ?_
    rintro _ w ⟨rfl, rfl⟩
    by_cases hm8 : xs.take 8 = magic
    · have hdm : decide (xs.take 8 = magic) = true := decide_eq_true hm8
      rw [hdm]
      have h8 : 8 ≤ len := by
        have := congrArg List.length hm8
        rw [List.length_take, show magic.length = 8 from rfl] at this
        omega
      have HDF := hide (dec_fin sat (xs := xs) (by omega) hm8)
      rcases (unhide HSl).2.2.2 with ⟨-, h0, -⟩ | ⟨b, off, rfl, h4⟩
      · omega
      obtain ⟨off', hoff⟩ : ∃ o', (if cap = 8 then off else off + 8) = o' := ⟨_, rfl⟩
      have hsl := fun w => slice8 (b := b) (off := off) h8 hcap h47 w
      have hsd := Sl.drop8 (unhide HSl) h8 _ rfl
      simp only [hoff] at hsl hsd
      have hyd := byt_dropS (unhide HY) 8
      have HN := hide (new_own hsd (by omega) hyd)
      have h8' : (8 : Int) ≤ (len : Int) := by omega
      have h9 : ¬ (len : Int) < 8 := by omega
      have h10 : 8 ≤ cap := by omega
      clear h4 HSl hsd hyd HX hdm hoff
      go_wp2_with fail
      clear hsl
      refine (unhide HN).mono ?_
      rintro _ w2 ⟨c, y1, y3, rfl, hC, hc, hy1, hF2⟩
      have hb3 := below1 w2 (.cells #[.pointer (some ⟨c, 0, none⟩), .bool sat] 68)
      have hf3 := hF2.trans (Fr.of hb3 [])
      have HI : Hid (Vr w2.heap.size 2 [.pointer (some ⟨c, 0, none⟩), .bool sat] (w2.alloc (.cells #[.pointer (some ⟨c, 0, none⟩), .bool sat] 68))) := hide (vr_new [.pointer (some ⟨c, 0, none⟩), .bool sat] 68 w2)
      have hs3 : (w2.alloc (.cells #[.pointer (some ⟨c, 0, none⟩), .bool sat] 68)).heap.size = w2.heap.size + 1 := by simp
      have hcs2 := hC.1.lt
      have HAl := hide hC.2.1.lt
      have hRl := (unhide HR).lt
      have hw2 := hF2.size
      have hww := (unhide HF).size
      replace HR := hide ((unhide HR).fr hf3 (by simp))
      replace HM := hide ((unhide HM).fr hf3 (by simp))
      replace HF := hide ((unhide HF).trans hf3)
      replace HC := hide (hC.bel hb3)
      have HX18 := hide (sections_any (sat := sat) (unhide HC) (unhide HM) (by omega))
      clear hC hb3 hf3 hy1 hF2 HN hm8 hlim' hlim hl hs1 HY
      go_wp2_with fail
      generalize w2.alloc (.cells #[.pointer (some ⟨c, 0, none⟩), .bool sat] 68) = w3 at *
      refine (unhide HX18).mono ?_
      rintro _ w4 ⟨vs, s, g, k1, e1, rfl, hR4, hD4, hC4, hM4, hF4⟩
      have hs4 := hF4.size
      have hld := hD4.len
      have hone := hD4.one
      have hV0 : Vr w4.heap.size 12 nil12 (w4.alloc (.cells #[.slice none 0 0, .slice none 0 0, .slice none 0 0, .slice none 0 0, .slice none 0 0, .slice none 0 0, .slice none 0 0, .bool false, .int .u32 0, .slice none 0 0, .slice none 0 0, .slice none 0 0] 71)) := vr_new nil12 71 w4
      have HV0 := hide hV0
      have hXd := vr_cells (cs := vs) hV0.room hV0.lt hld
      have hF5 : Fr [] w4 ((w4.alloc (.cells #[.slice none 0 0, .slice none 0 0, .slice none 0 0, .slice none 0 0, .slice none 0 0, .slice none 0 0, .slice none 0 0, .bool false, .int .u32 0, .slice none 0 0, .slice none 0 0, .slice none 0 0] 71)).setCells w4.heap.size 0 vs) := ((Fr.refl [] w4).alloc _).thenL (fr_cells w4.heap.size vs 0 _) (by simp)
      have HXd := hide hXd
      have HR4 := hide hR4
      have HF5 := hide hF5
      have HD5 := hide ((hD4.mono (P' := fun b => w3.heap.size + 2 < b ∧ b < w4.heap.size) (fun b hb hp => ⟨hp, hb⟩)).fr hF5 (by simp) (fun q => q))
      replace HI := hide (((unhide HI).fr hF4 (by simp; omega)).fr hF5 (by simp))
      replace HR := hide (((unhide HR).fr hF4 (by simp; omega)).fr hF5 (by simp))
      replace HM := hide (hM4.fr hF5 (by simp))
      replace HF := hide (((unhide HF).thenL hF4 (by simp; omega)).thenL hF5 (by simp))
      replace HC := hide (hC4.fr hF5 (by simp) (by simp))
      clear hV0 hXd hR4 hD4 hC4 hM4 hF4 hF5 HX18
      go_wp2_with ((refine wpList_storeA rfl 71 (.tmp 7) (.tmp 24) rfl rfl (g := w4.heap.size) (off := 0) (cs := vs) rfl rfl (by rw [hld]; exact szP71) (fun j hj => by rw [Nat.zero_add]; exact (unhide HV0).room j (by omega)) hone ?_))
      clear HV0
      generalize (w4.alloc (.cells #[.slice none 0 0, .slice none 0 0, .slice none 0 0, .slice none 0 0, .slice none 0 0, .slice none 0 0, .slice none 0 0, .bool false, .int .u32 0, .slice none 0 0, .slice none 0 0, .slice none 0 0] 71)).setCells w4.heap.size 0 vs = w5 at *
      refine (complete_any (unhide HXd) (unhide HD5) (by omega)).mono ?_
      rintro _ w6 ⟨bb, l, rfl, hb1, hb2, hV6, hF6, hl6⟩
      have HV6 := hide hV6
      replace HI := hide ((unhide HI).fr hF6 (fun hm => by have := hl6 _ hm; omega))
      replace HR := hide ((unhide HR).fr hF6 (fun hm => by have := hl6 _ hm; omega))
      replace HM := hide ((unhide HM).fr hF6 (fun i hi => by have := hl6 i hi; omega))
      replace HC := hide ((unhide HC).fr hF6 (fun hm => by have := hl6 _ hm; omega) (fun p hp hl hm => by have := unhide HAl p hp hl; have := hl6 _ hm; omega))
      replace HF := hide ((unhide HF).thenL hF6 (fun i hi => .inr (by have := hl6 i hi; omega)))
      have HB1 := hide hb1
      have HB2 := hide hb2
      clear hV6 hF6 hl6 hb1 hb2 HD5 HXd HF5
      cases bb with
      | false =>
        have i0 := (unhide HI).tab 0 _ rfl
        have i1 := (unhide HI).tab 1 _ rfl
        go_wp2_with fail
        clear i0 i1
        refine (Fail_any (unhide HC)).mono ?_
        rintro _ w7 ⟨rfl, hC, hF7⟩
        obtain ⟨e2, hE2⟩ : ∃ e2, (if e1 = 0 then (109 : Int) else e1) = e2 := ⟨_, rfl⟩
        rw [hE2] at hC
        have hne : e2 ≠ 0 := by rw [← hE2]; split; decide; assumption
        have hdq : dec sat xs = (mo0, e2) := by
          rw [unhide HDF]
          by_cases q : e1 = 0
          · subst q
            have hq := of_decide_eq_false ((unhide HB1) (by first | rfl | trivial)).symm
            rw [fin_ok (unhide HR4), if_neg hq, ← hE2, if_pos rfl]
          · rw [fin_no (unhide HR4) q, ← hE2, if_neg q]
        have HDE := hide hdq
        replace HI := hide ((unhide HI).fr hF7 (by simp; omega))
        replace HR := hide ((unhide HR).fr hF7 (by simp; omega))
        replace HM := hide ((unhide HM).fr hF7 (by simp; omega))
        replace HC := hide hC
        replace HF := hide ((unhide HF).thenL hF7 (by simp; omega))
        clear hC hF7 hE2 hdq
        have i0 := (unhide HI).tab 0 _ rfl
        have i1 := (unhide HI).tab 1 _ rfl
        go_wp2_with fail
        clear i0 i1
        refine (p_failed (unhide HC)).mono ?_
        rintro _ w8 ⟨rfl, hF8⟩
        replace HI := hide ((unhide HI).fr hF8 (by simp))
        replace HR := hide ((unhide HR).fr hF8 (by simp))
        replace HM := hide ((unhide HM).fr hF8 (by simp))
        replace HC := hide ((unhide HC).fr hF8 (by simp) (by simp))
        replace HF := hide ((unhide HF).trans hF8)
        clear hF8
        have hne' : (e2 != 0) = true := by simpa using hne
        have hX : Vr W.heap.size 11 nil11 (w8.setCells W.heap.size 0 nil11) := vr_cells (cs := nil11) (unhide HR).room (unhide HR).lt rfl
        have fZ := fr_cells W.heap.size nil11 0 w8
        have HZ := hide fZ
        have HXv := hide hX
        have HDQ : Hid (dec sat xs = (mo0, e2)) := hide (unhide HDE)
        clear hX fZ
        have z0 := (unhide HR).tab 0 _ rfl
        have fz0 := ((unhide HR).room 0 (by decide)).2
        have z1 := (unhide HR).tab 1 _ rfl
        have fz1 := ((unhide HR).room 1 (by decide)).2
        have z2 := (unhide HR).tab 2 _ rfl
        have fz2 := ((unhide HR).room 2 (by decide)).2
        have z3 := (unhide HR).tab 3 _ rfl
        have fz3 := ((unhide HR).room 3 (by decide)).2
        have z4 := (unhide HR).tab 4 _ rfl
        have fz4 := ((unhide HR).room 4 (by decide)).2
        have z5 := (unhide HR).tab 5 _ rfl
        have fz5 := ((unhide HR).room 5 (by decide)).2
        have z6 := (unhide HR).tab 6 _ rfl
        have fz6 := ((unhide HR).room 6 (by decide)).2
        have z7 := (unhide HR).tab 7 _ rfl
        have fz7 := ((unhide HR).room 7 (by decide)).2
        have z8 := (unhide HR).tab 8 _ rfl
        have fz8 := ((unhide HR).room 8 (by decide)).2
        have z9 := (unhide HR).tab 9 _ rfl
        have fz9 := ((unhide HR).room 9 (by decide)).2
        have z10 := (unhide HR).tab 10 _ rfl
        have fz10 := ((unhide HR).room 10 (by decide)).2
        have i0 := (unhide HI).tab 0 _ rfl
        go_wp2_with fail
        refine (err_any (unhide HC)).mono ?_
        rintro _ wy ⟨rfl, hwy⟩
        subst hwy
        go_wp2_with fail
        clear z0 fz0 z1 fz1 z2 fz2 z3 fz3 z4 fz4 z5 fz5 z6 fz6 z7 fz7 z8 fz8 z9 fz9 z10 fz10
        clear i0
        change bodyPost _ _ _ _ _ (wy.setCells W.heap.size 0 nil11)
        generalize wy.setCells W.heap.size 0 nil11 = wz at *
        refine bodyPost_ret (v := .tuple #[.agg nil11.toArray, .int .i64 (e2)]) ?_ rfl ?_
        · exact results_ct Tryz.results8 _ rfl (load_tab (unhide HXv).tab Tryz.underlying34 rfl szP34)
        · rw [unhide HDQ]
          exact ⟨nil11, rfl, mor0 _ _, (unhide HM).fr (unhide HZ) (by simp; omega), (unhide HF).thenL (unhide HZ) (by simp)⟩
      | true =>
        have i0 := (unhide HI).tab 0 _ rfl
        have i1 := (unhide HI).tab 1 _ rfl
        go_wp2_with fail
        clear i0 i1
        refine (p_failed (unhide HC)).mono ?_
        rintro _ w8 ⟨rfl, hF8⟩
        by_cases he : e1 = 0
        · subst he
          have hq := of_decide_eq_true ((unhide HB1) (by first | rfl | trivial)).symm
          have hdq : dec sat xs = ({ s.1 with funcs := setTypes s.2 s.1.funcs }, 0) := by rw [unhide HDF, fin_ok (unhide HR4), if_pos hq]
          have HDQ := hide hdq
          have hmo := ((unhide HB2) (by first | rfl | trivial) (by first | rfl | trivial)).all (B := w8) (fun p v _ hc => hF8.keep hc (by simp))
          have HMo := hide hmo
          replace HR := hide ((unhide HR).fr hF8 (by simp))
          replace HM := hide ((unhide HM).fr hF8 (by simp))
          replace HF := hide ((unhide HF).trans hF8)
          replace HV6 := hide ((unhide HV6).fr hF8 (by simp))
          have ht11 : (vs.take 11).length = 11 := by rw [List.length_take, hld]; rfl
          have hones : ∀ u ∈ vs.take 11, u.oneCell' = true := fun u hu => hone u (List.mem_of_mem_take hu)
          have hTab : Tab w8 w4.heap.size (vs.take 11) := fun j v hj => (unhide HV6).tab j v (by
            have hlt : j < 11 := by have := (List.getElem?_eq_some_iff.1 hj).1; omega
            rwa [List.getElem?_take, if_pos hlt] at hj)
          have HTab := hide hTab
          have hX := vr_cells (cs := vs.take 11) (unhide HR).room (unhide HR).lt ht11
          have fZ := fr_cells W.heap.size (vs.take 11) 0 w8
          have HZ := hide fZ
          have HXv := hide hX
          have hRl8 := (unhide HR).lt
          clear hX fZ hdq hq hF8 hmo hTab HB2 HB1 HV6
          generalize vs.take 11 = vt at *
          go_wp2_with (first | (refine wpList_load_tab rfl 34 (.tmp 36) rfl w4.heap.size rfl vt _ (unhide HTab) Tryz.underlying34 rfl (by rw [ht11]; exact szP34) ?_) | (refine wpList_storeA rfl 34 (.tmp 4) (.tmp 37) rfl rfl (g := W.heap.size) (off := 0) (cs := vt) rfl rfl (by rw [ht11]; exact szP34) (fun j hj => by rw [Nat.zero_add]; exact (unhide HR).room j (by omega)) hones ?_))
          generalize w8.setCells W.heap.size 0 vt = wz at *
          refine bodyPost_ret (v := .tuple #[.agg vt.toArray, .int .i64 0]) ?_ rfl ?_
          · exact results_ct Tryz.results8 _ rfl (load_tab (unhide HXv).tab Tryz.underlying34 rfl (by rw [ht11]; exact szP34))
          · rw [unhide HDQ]
            exact ⟨vt, rfl, ((unhide HMo).all (B := wz) (fun p v hp hc => (unhide HZ).keep hc (by simp; omega))).mono (fun b _ hb => by omega), (unhide HM).fr (unhide HZ) (by simp; omega), (unhide HF).thenL (unhide HZ) (by simp)⟩
        · replace HI := hide ((unhide HI).fr hF8 (by simp))
          replace HR := hide ((unhide HR).fr hF8 (by simp))
          replace HM := hide ((unhide HM).fr hF8 (by simp))
          replace HC := hide ((unhide HC).fr hF8 (by simp) (by simp))
          replace HF := hide ((unhide HF).trans hF8)
          clear hF8
          have hne' : (e1 != 0) = true := by simpa using he
          have hX : Vr W.heap.size 11 nil11 (w8.setCells W.heap.size 0 nil11) := vr_cells (cs := nil11) (unhide HR).room (unhide HR).lt rfl
          have fZ := fr_cells W.heap.size nil11 0 w8
          have HZ := hide fZ
          have HXv := hide hX
          have HDQ : Hid (dec sat xs = (mo0, e1)) := hide (by rw [unhide HDF, fin_no (unhide HR4) he])
          clear hX fZ
          have z0 := (unhide HR).tab 0 _ rfl
          have fz0 := ((unhide HR).room 0 (by decide)).2
          have z1 := (unhide HR).tab 1 _ rfl
          have fz1 := ((unhide HR).room 1 (by decide)).2
          have z2 := (unhide HR).tab 2 _ rfl
          have fz2 := ((unhide HR).room 2 (by decide)).2
          have z3 := (unhide HR).tab 3 _ rfl
          have fz3 := ((unhide HR).room 3 (by decide)).2
          have z4 := (unhide HR).tab 4 _ rfl
          have fz4 := ((unhide HR).room 4 (by decide)).2
          have z5 := (unhide HR).tab 5 _ rfl
          have fz5 := ((unhide HR).room 5 (by decide)).2
          have z6 := (unhide HR).tab 6 _ rfl
          have fz6 := ((unhide HR).room 6 (by decide)).2
          have z7 := (unhide HR).tab 7 _ rfl
          have fz7 := ((unhide HR).room 7 (by decide)).2
          have z8 := (unhide HR).tab 8 _ rfl
          have fz8 := ((unhide HR).room 8 (by decide)).2
          have z9 := (unhide HR).tab 9 _ rfl
          have fz9 := ((unhide HR).room 9 (by decide)).2
          have z10 := (unhide HR).tab 10 _ rfl
          have fz10 := ((unhide HR).room 10 (by decide)).2
          have i0 := (unhide HI).tab 0 _ rfl
          go_wp2_with fail
          refine (err_any (unhide HC)).mono ?_
          rintro _ wy ⟨rfl, hwy⟩
          subst hwy
          go_wp2_with fail
          clear z0 fz0 z1 fz1 z2 fz2 z3 fz3 z4 fz4 z5 fz5 z6 fz6 z7 fz7 z8 fz8 z9 fz9 z10 fz10
          clear i0
          change bodyPost _ _ _ _ _ (wy.setCells W.heap.size 0 nil11)
          generalize wy.setCells W.heap.size 0 nil11 = wz at *
          refine bodyPost_ret (v := .tuple #[.agg nil11.toArray, .int .i64 (e1)]) ?_ rfl ?_
          · exact results_ct Tryz.results8 _ rfl (load_tab (unhide HXv).tab Tryz.underlying34 rfl szP34)
          · rw [unhide HDQ]
            exact ⟨nil11, rfl, mor0 _ _, (unhide HM).fr (unhide HZ) (by simp; omega), (unhide HF).thenL (unhide HZ) (by simp)⟩
    · have hdm : decide (xs.take 8 = magic) = false := decide_eq_false hm8
      rw [hdm]
      have hd : dec sat xs = (mo0, 103) := by unfold dec; rw [if_neg (by omega), if_pos hm8]
      have hD := hide hd
      have hX : Vr W.heap.size 11 nil11 (w.setCells W.heap.size 0 nil11) := vr_cells (cs := nil11) (unhide HR).room (unhide HR).lt rfl
      have fZ := fr_cells W.heap.size nil11 0 w
      have HZ := hide fZ
      have HXv := hide hX
      clear hX fZ hd hdm hm8 HX HSl
      have z0 := (unhide HR).tab 0 _ rfl
      have fz0 := ((unhide HR).room 0 (by decide)).2
      have z1 := (unhide HR).tab 1 _ rfl
      have fz1 := ((unhide HR).room 1 (by decide)).2
      have z2 := (unhide HR).tab 2 _ rfl
      have fz2 := ((unhide HR).room 2 (by decide)).2
      have z3 := (unhide HR).tab 3 _ rfl
      have fz3 := ((unhide HR).room 3 (by decide)).2
      have z4 := (unhide HR).tab 4 _ rfl
      have fz4 := ((unhide HR).room 4 (by decide)).2
      have z5 := (unhide HR).tab 5 _ rfl
      have fz5 := ((unhide HR).room 5 (by decide)).2
      have z6 := (unhide HR).tab 6 _ rfl
      have fz6 := ((unhide HR).room 6 (by decide)).2
      have z7 := (unhide HR).tab 7 _ rfl
      have fz7 := ((unhide HR).room 7 (by decide)).2
      have z8 := (unhide HR).tab 8 _ rfl
      have fz8 := ((unhide HR).room 8 (by decide)).2
      have z9 := (unhide HR).tab 9 _ rfl
      have fz9 := ((unhide HR).room 9 (by decide)).2
      have z10 := (unhide HR).tab 10 _ rfl
      have fz10 := ((unhide HR).room 10 (by decide)).2
      go_wp2_with fail
      clear z0 z1 z2 z3 z4 z5 z6 z7 z8 z9 z10 fz0 fz1 fz2 fz3 fz4 fz5 fz6 fz7 fz8 fz9 fz10
      change bodyPost _ _ _ _ _ (w.setCells W.heap.size 0 nil11)
      generalize w.setCells W.heap.size 0 nil11 = wz at *
      refine bodyPost_ret (v := .tuple #[.agg nil11.toArray, .int .i64 103]) ?_ rfl ?_
      · exact results_ct Tryz.results8 _ rfl (load_tab (unhide HXv).tab Tryz.underlying34 rfl szP34)
      · rw [unhide hD]
        exact ⟨nil11, rfl, mor0 _ _, (unhide HM).fr (unhide HZ) (by simp; omega), (unhide HF).thenL (unhide HZ) (by simp)⟩
end
end Go.Proofs.YtjoonmpjcophnaaGreatDoor
namespace Go.Proofs.YtjoonmpjcophnaaGreatDoor
open Go.RowKit

theorem aw_1 : dec false (magic ++ [7]) = (mo0, 100) := by
  have h : (dec false (magic ++ [7])).2 = 100 := by kernel_rfl
  have h2 : (rMod false 10 0 (mo0, []) [7]).2.2 = 100 := by kernel_rfl
  unfold dec
  rw [if_neg (by decide), if_neg (by decide), if_pos (by show (rMod false 10 0 (mo0, []) [7]).2.2 ≠ 0; rw [h2]; decide)]
  show (mo0, (rMod false 10 0 (mo0, []) [7]).2.2) = _
  rw [h2]
theorem aw_2 : (dec false (magic ++ [1, 4, 1, 96, 0, 0])).2 = 0 ∧ (dec false (magic ++ [1, 4, 1, 96, 0, 0])).1.types.length = 1 := ⟨by kernel_rfl, by kernel_rfl⟩
theorem MoR.len {w : World} {P : Nat → Prop} {m : Mo} {vs : List Value} (h : MoR w P m vs) : vs.length = 11 := by
  obtain ⟨v0, v1, v2, v3, v4, v5, v6, v9, v10, rfl, _⟩ := h.ex
  rfl
theorem MoR.one {w : World} {P : Nat → Prop} {m : Mo} {vs : List Value} (h : MoR w P m vs) : ∀ u ∈ vs, u.oneCell' = true := by
  obtain ⟨v0, v1, v2, v3, v4, v5, v6, v9, v10, rfl, a, b, c, d, e, f, g, i, j⟩ := h.ex
  intro u hu
  simp only [List.mem_cons, List.not_mem_nil, or_false] at hu
  rcases hu with rfl | rfl | rfl | rfl | rfl | rfl | rfl | rfl | rfl | rfl | rfl
  · exact a.one
  · exact b.one
  · exact c.one
  · exact d.one
  · exact e.one
  · exact f.one
  · exact g.one
  · rfl
  · rfl
  · exact i.one
  · exact j.one
theorem MoR.fr0 {w w' : World} {P : Nat → Prop} {m : Mo} {vs : List Value} {l : List Nat} (h : MoR w P m vs) (hf : Fr l w w') (hl : ∀ i ∈ l, ¬ P i) : MoR w' P m vs := h.all fun _ _ hp hc => hf.keep hc (fun hm => hl _ hm hp)
/-- A module, laid in a variable of its own. -/
theorem mod_new {w : World} {P : Nat → Prop} {m : Mo} {vs : List Value} (h : MoR w P m vs) : Room w.heap.size 11 (w.alloc (.cells #[.slice none 0 0, .slice none 0 0, .slice none 0 0, .slice none 0 0, .slice none 0 0, .slice none 0 0, .slice none 0 0, .bool false, .int .u32 0, .slice none 0 0, .slice none 0 0] 34)) ∧ Vr w.heap.size 11 vs ((w.alloc (.cells #[.slice none 0 0, .slice none 0 0, .slice none 0 0, .slice none 0 0, .slice none 0 0, .slice none 0 0, .slice none 0 0, .bool false, .int .u32 0, .slice none 0 0, .slice none 0 0] 34)).setCells w.heap.size 0 vs) ∧ Fr [] w ((w.alloc (.cells #[.slice none 0 0, .slice none 0 0, .slice none 0 0, .slice none 0 0, .slice none 0 0, .slice none 0 0, .slice none 0 0, .bool false, .int .u32 0, .slice none 0 0, .slice none 0 0] 34)).setCells w.heap.size 0 vs) ∧ w.heap.size < ((w.alloc (.cells #[.slice none 0 0, .slice none 0 0, .slice none 0 0, .slice none 0 0, .slice none 0 0, .slice none 0 0, .slice none 0 0, .bool false, .int .u32 0, .slice none 0 0, .slice none 0 0] 34)).setCells w.heap.size 0 vs).heap.size := by
  have hV : Vr w.heap.size 11 nil11 (w.alloc (.cells #[.slice none 0 0, .slice none 0 0, .slice none 0 0, .slice none 0 0, .slice none 0 0, .slice none 0 0, .slice none 0 0, .bool false, .int .u32 0, .slice none 0 0, .slice none 0 0] 34)) := vr_new nil11 34 w
  have hX := vr_cells (cs := vs) hV.room hV.lt h.len
  exact ⟨hV.room, hX, ((Fr.refl [] w).alloc _).thenL (fr_cells w.heap.size vs 0 _) (by simp), hX.lt⟩
theorem byt_dec' (l : List Int) (h : l.all (fun x => decide (0 ≤ x) && decide (x < 256)) = true) : Byt l := by
  intro x hx
  have := List.all_eq_true.1 h x hx
  simpa using this
theorem fr_low {a b c : World} {B : Nat} (h : Fr [] a b) (hb : Below B b c) (hB : a.heap.size ≤ B) : Fr [] a c := ⟨hb.os.trans h.os, hb.tape.trans h.tape, hb.output.trans h.output, Nat.le_trans h.size hb.size, fun i hi hn => (hb.block i (by omega)).trans (h.block i hi hn)⟩
section
variable {W : World}
set_option maxHeartbeats 16000000 in
set_option maxRecDepth 100000 in
theorem awake20 (hm : Mk W) (h4 : 4 ≤ W.heap.size) : Calls Tryz.prog 7 #[] W fun r W' => r = .returned (.bool true) ∧ Mk W' ∧ Fr [] W W' := by
  have hs1 : (W.alloc (.cells #[.int .u8 0, .int .u8 97, .int .u8 115, .int .u8 109, .int .u8 1, .int .u8 0, .int .u8 0, .int .u8 0] 5)).heap.size = W.heap.size + 1 := by simp
  have hS1 : Sl (W.alloc (.cells #[.int .u8 0, .int .u8 97, .int .u8 115, .int .u8 109, .int .u8 1, .int .u8 0, .int .u8 0, .int .u8 0] 5)) (some ⟨W.heap.size, 0, none⟩) 8 8 magic := sl_lit W magic 8 rfl (by omega)
  have hM1 : Mk (W.alloc (.cells #[.int .u8 0, .int .u8 97, .int .u8 115, .int .u8 109, .int .u8 1, .int .u8 0, .int .u8 0, .int .u8 0] 5)) := hm.below (below1 W _)
  have hF1 : Fr [] W (W.alloc (.cells #[.int .u8 0, .int .u8 97, .int .u8 115, .int .u8 109, .int .u8 1, .int .u8 0, .int .u8 0, .int .u8 0] 5)) := Fr.of (below1 W _) []
  obtain ⟨W1, hW1⟩ : ∃ W1, W.alloc (.cells #[.int .u8 0, .int .u8 97, .int .u8 115, .int .u8 109, .int .u8 1, .int .u8 0, .int .u8 0, .int .u8 0] 5) = W1 := ⟨_, rfl⟩
  have hW1' := hide hW1
  rw [hW1] at hs1 hS1 hM1 hF1
  have hO2 : Ow (W1.alloc (.cells #[] 5)) W1.heap.size (.slice (some ⟨W1.heap.size, 0, none⟩) 0 0) [] := ow_lit W1 [] 0 rfl (by omega)
  have hf2 : Fr [] W1 (W1.alloc (.cells #[] 5)) := (Fr.refl [] W1).alloc _
  obtain ⟨a3, c3, w3, hr3, hO3, hS3, hB3⟩ := app_run hO2 hf2.size (hS1.fr hf2 (by simp)) (by simp)
  have hf3 := fr_low hf2 hB3 (Nat.le_refl _)
  have hf4 := hf3.alloc (.cells #[.int .u8 7] 5)
  have hS4 : Sl (w3.alloc (.cells #[.int .u8 7] 5)) (some ⟨w3.heap.size, 0, none⟩) 1 1 [7] := sl_lit w3 [7] 1 rfl (by omega)
  obtain ⟨a5, c5, w5, hr5, hO5, hS5, hB5⟩ := app_run (hO3.alloc (.cells #[.int .u8 7] 5)) hf4.size hS4 (by decide)
  have hf5 := fr_low hf4 hB5 (Nat.le_refl _)
  have hl9 : ([] ++ magic : List Int).length + 1 = 9 := rfl
  have hl8 : ([] : List Int).length + 8 = 8 := rfl
  rw [hl8, hs1] at hr3
  rw [hl9, hl8] at hr5
  rw [hl9] at hS5
  have HR3 := hide hr3
  have HR5 := hide hr5
  have HX := hide (decode_any (sat := false) hS5 (byt_dec' _ rfl) (by omega) (hM1.fr hf5 (by simp)) (by have := hf5.size; omega))
  have HF5 := hide hf5
  have HS1 := hide hS1
  have HM1 := hide hM1
  have HF1 := hide hF1
  clear hO2 hf2 hO3 hS3 hB3 hf3 hf4 hS4 hr3 hr5 hO5 hS5 hB5 hf5 hS1 hM1 hF1 hl8 hl9
  have hm0 := hm
  clear hm
  rw [show (([] ++ magic) ++ [7] : List Int) = magic ++ [7] from rfl, aw_1] at HX
  go_enter Tryz.func7, Tryz.ntmps7
  go_wp2_with (at_builtin; first | (refine wpList_appT (w := W1.alloc (.cells #[] 5)) (t := 22) (by rfl) rfl rfl (unhide HR3) ?_) | (refine wpList_appT (w := w3.alloc (.cells #[.int .u8 7] 5)) (t := 22) (by rfl) rfl rfl (unhide HR5) ?_))
  refine (unhide HX).mono ?_
  rintro _ w6 ⟨vs, rfl, hmo, hM6, hF6⟩
  obtain ⟨r1, r2, r3, r4⟩ := mod_new hmo
  have hl11 := hmo.len
  have hone := hmo.one
  have HRm := hide r1
  have hf7 := ((unhide HF5).trans hF6).trans r3
  have hM7 := hM6.fr r3 (by simp)
  have hz7 := ((unhide HF5).trans hF6).size
  obtain ⟨w7, hw7⟩ : ∃ w7, (w6.alloc (.cells #[.slice none 0 0, .slice none 0 0, .slice none 0 0, .slice none 0 0, .slice none 0 0, .slice none 0 0, .slice none 0 0, .bool false, .int .u32 0, .slice none 0 0, .slice none 0 0] 34)).setCells w6.heap.size 0 vs = w7 := ⟨_, rfl⟩
  rw [hw7] at hf7 hM7 r2 r3 r4
  have hO7 : Ow w7 W.heap.size (.slice (some ⟨W.heap.size, 0, none⟩) 8 8) magic := by
    have hO := ow_lit W magic 8 rfl (by omega)
    have hO : Ow W1 W.heap.size (.slice (some ⟨W.heap.size, 0, none⟩) 8 8) magic := by rw [← unhide hW1']; exact hO
    exact rof_fr hO hf7 (by simp)
  have hf8 := hf7.alloc (.cells #[.int .u8 1, .int .u8 4, .int .u8 1, .int .u8 96, .int .u8 0, .int .u8 0] 5)
  have hS8 : Sl (w7.alloc (.cells #[.int .u8 1, .int .u8 4, .int .u8 1, .int .u8 96, .int .u8 0, .int .u8 0] 5)) (some ⟨w7.heap.size, 0, none⟩) 6 6 [1, 4, 1, 96, 0, 0] := sl_lit w7 [1, 4, 1, 96, 0, 0] 6 rfl (by omega)
  obtain ⟨a9, c9, w9, hr9, hO9, hS9, hB9⟩ := app_run (hO7.alloc (.cells #[.int .u8 1, .int .u8 4, .int .u8 1, .int .u8 96, .int .u8 0, .int .u8 0] 5)) (by have := hf8.size; omega) hS8 (by decide)
  have hf9 : Fr [] W w9 := fr_low ((unhide HF1).trans hf8) hB9 (Nat.le_refl _)
  have hl14 : (magic : List Int).length + 6 = 14 := rfl
  have hl8' : (magic : List Int).length = 8 := rfl
  rw [hl14] at hr9 hS9
  have HR9 := hide hr9
  have HX2 := hide (decode_any (sat := false) hS9 (byt_dec' _ rfl) (by omega) (hm0.fr hf9 (by simp)) (by have := hf9.size; omega))
  have HF9 := hide hf9
  clear r1 r2 r3 r4 hmo hM6 hF6 HX HR3 HR5 HF5 hf7 hM7 hO7 hf8 hS8 hr9 hO9 hS9 hB9 hf9 HS1 HM1 HF1 hW1 hW1' hz7
  go_wp2_with (first | (refine wpList_storeA rfl 34 (.tmp 2) (.tmp 14) rfl rfl (g := w6.heap.size) (off := 0) (cs := vs) rfl rfl (by rw [hl11]; exact szP34) (fun j hj => by rw [Nat.zero_add]; exact (unhide HRm) j (by omega)) hone ?_; rw [hw7]) | (at_builtin; refine wpList_appT (w := w7.alloc (.cells #[.int .u8 1, .int .u8 4, .int .u8 1, .int .u8 96, .int .u8 0, .int .u8 0] 5)) (t := 22) (by rfl) rfl rfl (unhide HR9) ?_))
  clear HR9 HRm hw7
  refine (unhide HX2).mono ?_
  rintro _ w10 ⟨vs2, rfl, hmo, hM6, hF6⟩
  obtain ⟨r1, r2, r3, r4⟩ := mod_new hmo
  have hl112 := hmo.len
  have hone2 := hmo.one
  obtain ⟨v0, v1, v2, v3, v4, v5, v6, v9, v10, hvs, a0, -⟩ := hmo.ex
  obtain ⟨p0, q0, rfl, -, -⟩ := a0.open
  rw [aw_2.2] at hvs
  have hz0 := r2.tab 0 (.slice p0 1 q0) (by rw [hvs]; rfl)
  have HRm := hide r1
  have HFz := hide (((unhide HF9).trans hF6).trans r3)
  have HMz := hide (hM6.fr r3 (by simp))
  have he0 := aw_2.1
  clear r1 r2 r3 r4 hmo hM6 hF6 HX2 HF9 a0 hvs
  obtain ⟨w11, hw11⟩ : ∃ w11, (w10.alloc (.cells #[.slice none 0 0, .slice none 0 0, .slice none 0 0, .slice none 0 0, .slice none 0 0, .slice none 0 0, .slice none 0 0, .bool false, .int .u32 0, .slice none 0 0, .slice none 0 0] 34)).setCells w10.heap.size 0 vs2 = w11 := ⟨_, rfl⟩
  rw [hw11] at hz0 HFz HMz
  go_wp2_with (refine wpList_storeA rfl 34 (.tmp 4) (.tmp 21) rfl rfl (g := w10.heap.size) (off := 0) (cs := vs2) rfl rfl (by rw [hl112]; exact szP34) (fun j hj => by rw [Nat.zero_add]; exact (unhide HRm) j (by omega)) hone2 ?_; rw [hw11])
  go_ret
  exact ⟨rfl, unhide HMz, unhide HFz⟩
end
end Go.Proofs.YtjoonmpjcophnaaGreatDoor
namespace Go.Proofs.YtjoonmpjcophnaaGreatDoor
open Go.RowKit

theorem Mk.four {W : World} (h : Mk W) : 4 ≤ W.heap.size := by
  have := World.block_lt_of_cell? W ⟨3, 0, none⟩ (h.stopped 0 _ rfl)
  have h3 : (3 : Nat) < W.heap.size := this
  omega
section
variable {a : Option Addr} {len cap : Nat} {xs : List Int} {cut x : Int} {W : World}
end
end Go.Proofs.YtjoonmpjcophnaaGreatDoor
namespace Go.Proofs.YtjoonmpjcophnaaGreatDoor
open Go.RowKit

section
variable {c : Nat} {a : Option Addr} {len cap k : Nat} {xs : List Int} {e : Int} {W : World}
set_option maxHeartbeats 8000000 in
set_option maxRecDepth 100000 in
theorem rlocals_more (h : Cs c a len cap xs k e W) : Calls Tryz.prog 14 #[.pointer (some ⟨c, 0, none⟩)] W fun r W' => ∃ (L : List Int) (p : Option Addr) (s k' : Nat) (e' : Int), r = .returned (.slice p L.length s) ∧ Rd rLoc xs k e L k' e' ∧ ((e' = 0 → Slc W' (fun b => W.heap.size ≤ b) L.length (bys L) (.slice p L.length s)) ∧ (e' ≠ 0 → L = [] ∧ p = none ∧ s = 0)) ∧ Cs c a len cap xs k' e' W' ∧ Fr [c] W W' := by
  have HX := hide (rCount_any h)
  have HD : Hid (Rd rCount xs k e (lift rCount 0 xs k e).1 (lift rCount 0 xs k e).2.1 (lift rCount 0 xs k e).2.2) := hide Rd.lift
  have hle := count_le h.2.2.2.1 k e
  have hcl := h.1.lt
  have HAl : Hid (∀ p, a = some p → 0 < len → p.block < W.heap.size) := hide h.2.1.lt
  have hby := hide h.2.2.2.1
  generalize lift rCount 0 xs k e = L at *
  obtain ⟨n, k1, e1⟩ := L
  dsimp only at *
  obtain ⟨m, rfl⟩ : ∃ m : Nat, n = (m : Int) := ⟨n.toNat, by omega⟩
  clear h
  go_enter Tryz.func14, Tryz.ntmps14
  go_wp2_with fail
  refine (unhide HX).mono ?_
  rintro _ w1 ⟨rfl, hC, hF⟩
  have HC := hide hC
  have HF := hide hF
  clear hC hF
  go_wp2_with fail
  go_loopw [3, 4, 5, 7] (fun v3 v4 v5 v7 wr => ∃ (L : List (Int × Int)) (k2 : Nat) (e2 : Int), L.length ≤ m ∧ v5 = .int .u64 (sumN L) ∧ v7 = .int .i64 (L.length : Int) ∧ Bq L ∧ Lq W.heap.size v3 v4 L wr ∧ Cs c a len cap xs k2 e2 wr ∧ Fr [c] W wr ∧ (∀ s k' e', Rd (repR rPair (m - L.length)) xs k2 e2 s k' e' → Rd (rList rPair) xs k e (id (L ++ s)) k' e')) (fun _ _ _ v7 _ => m - (intOf v7).toNat)
  case atStart =>
    refine ⟨[], k1, e1, Nat.zero_le _, rfl, rfl, (fun _ h => nomatch h), ⟨World.ownsRow_nil _ _ _ _, World.ownsRow_nil _ _ _ _, (fun _ h => nomatch h)⟩, unhide HC, unhide HF, fun s k' e' hs => (unhide HD).bd ?_⟩
    rw [show ((m : Int)).toNat = m by omega]
    exact hs
  case round =>
    obtain ⟨L, k2, e2, hi, rfl, rfl, hB, hR, hC, hF, hK⟩ := hrel
    obtain ⟨p3, s3, rfl⟩ := rof_slice hR.a
    obtain ⟨p4, s4, rfl⟩ := rof_slice hR.b
    have g2 := hC.1.2.2.1
    have hsum := hB.sum
    clear HX HD HC HF
    by_cases hgo : L.length < m ∧ e2 = 0
    · obtain ⟨hlt, rfl⟩ := hgo
      have hi' : (L.length : Int) < (m : Int) := by omega
      have HX2 := hide (rUint_any (b := 32) hC (by decide) (by decide))
      have HD2 : Hid (Rd (rU 32) xs k2 0 (lift (rU 32) 0 xs k2 0).1 (lift (rU 32) 0 xs k2 0).2.1 (lift (rU 32) 0 xs k2 0).2.2) := hide Rd.lift
      have hlt2 := liftU_lt (unhide hby) k2 0
      generalize lift (rU 32) 0 xs k2 0 = L2 at *
      obtain ⟨x, k3, e3⟩ := L2
      dsimp only at *
      have HR := hide hR
      have HF := hide hF
      have HK := hide hK
      have HB := hide hB
      clear hR hC hF hK hB
      go_wp2_with fail
      refine (unhide HX2).mono ?_
      clear HX2
      rintro _ w2 ⟨rfl, hC, hF⟩
      have hsz := hF.size
      have hszF := (unhide HF).size
      have hR2 := (unhide HR).fr hF (fun g hg => by simp at hg; subst hg; exact hcl)
      have HF2 := hide ((unhide HF).trans hF)
      obtain ⟨pa, sa, wa, ra, oa, fa, ga⟩ := rof_app Tryz.underlying137 iU64 zero64 size64 bytes64 (by decide) rfl hR2.a (by omega) (by omega) (u := .int .u64 x) rfl
      have loa : ∀ i ∈ (Value.slice p3 L.length s3).ownBlock.toList, W.heap.size ≤ i := fun i hi => (World.ownsRow.lt hR2.a i (by simpa using hi)).1
      have HRa := hide ra
      have HRb := hide (rof_fr hR2.b fa (fun g hg hm => hR2.sep g (by simpa using hm) hg))
      have HOa := hide oa
      have HSa : Hid (∀ g, (Value.slice pa (L.length + 1) sa).ownBlock = some g → (Value.slice p4 L.length s4).ownBlock ≠ some g) := hide (fun g hg hq => by
        rcases ga g hg with q | q
        · exact hR2.sep g q hq
        · have := (World.ownsRow.lt hR2.b g hq).2; omega)
      have HC := hide (hC.fr fa (fun hm => by have := loa _ hm; omega) (fun p hp hl hm => by have := loa _ hm; have := unhide HAl p hp hl; omega))
      have HF := hide ((unhide HF2).thenL fa (fun i hi => .inr (loa i hi)))
      clear hC hF hR2 ra oa fa ga loa HR HF2
      go_wp2_with (at_builtin; refine wpList_appT (t := 137) (by rfl) rfl rfl (unhide HRa) ?_)
      clear HRa
      have HX2 := hide (rValue_any (unhide HC))
      have HD3 : Hid (Rd rValue xs k3 e3 (lift rValue 0 xs k3 e3).1 (lift rValue 0 xs k3 e3).2.1 (lift rValue 0 xs k3 e3).2.2) := hide Rd.lift
      change Hid (Calls Tryz.prog 44 #[.pointer (some ⟨c, 0, none⟩)] wa fun r W' => r = .returned (.int .u8 (lift rValue 0 xs k3 e3).1) ∧ Cs c a len cap xs (lift rValue 0 xs k3 e3).2.1 (lift rValue 0 xs k3 e3).2.2 W' ∧ Fr [c] wa W') at HX2
      generalize lift rValue 0 xs k3 e3 = L2 at *
      obtain ⟨y, k4, e4⟩ := L2
      dsimp only at *
      refine (unhide HX2).mono ?_
      clear HX2
      rintro _ w4 ⟨rfl, hC, hF⟩
      have hsz4 := hF.size
      have hszF4 := (unhide HF).size
      have oa := rof_fr (unhide HOa) hF (fun g hg hm => by simp at hm; subst hm; have := (World.ownsRow.lt (unhide HOa) _ hg).1; omega)
      have ob := rof_fr (unhide HRb) hF (fun g hg hm => by simp at hm; subst hm; have := (World.ownsRow.lt (unhide HRb) _ hg).1; omega)
      have HF2 := hide ((unhide HF).trans hF)
      obtain ⟨pb, sb, wb, rb, ob2, fb, gb⟩ := rof_app Tryz.underlying22 iU8 zero8 size8 bytes8 (by decide) rfl ob (by omega) (by omega) (u := .int .u8 y) rfl
      have lob : ∀ i ∈ (Value.slice p4 L.length s4).ownBlock.toList, W.heap.size ≤ i := fun i hi => (World.ownsRow.lt ob i (by simpa using hi)).1
      have hl1 : (L ++ [(x, y)]).length = L.length + 1 := by simp
      have HR : Hid (Lq W.heap.size (.slice pa (L.length + 1) sa) (.slice pb (L.length + 1) sb) (L ++ [(x, y)]) wb) := hide ⟨by rw [hl1, show u64c ((L ++ [(x, y)]).map (·.1)) = u64c (L.map (·.1)) ++ [.int .u64 x] by simp [u64c]]; exact rof_fr oa fb (fun g hg hm => unhide HSa g hg (by simpa using hm)), by rw [hl1, show bys ((L ++ [(x, y)]).map (·.2)) = bys (L.map (·.2)) ++ [.int .u8 y] by simp [bys]]; exact ob2, fun g hg hq => by
        rcases gb g hq with q | q
        · exact unhide HSa g hg q
        · have := (World.ownsRow.lt oa g hg).2; omega⟩
      have HRa := hide rb
      have HC := hide (hC.fr fb (fun hm => by have := lob _ hm; omega) (fun p hp hl hm => by have := lob _ hm; have := unhide HAl p hp hl; omega))
      have HF := hide ((unhide HF2).thenL fb (fun i hi => .inr (lob i hi)))
      have HKn := hide (Rd.more id (n := m - (L.length + 1)) (by rw [show m - (L.length + 1) + 1 = m - L.length by omega]; exact unhide HK) (y := (x, y)) (f := rPair) ((unhide HD2).bd ((unhide HD3).bd (Rd.giv _ _ _ _))))
      have hw : IntKind.u64.wrap (sumN L + x) = sumN L + x := u64w_id (by omega) (by omega)
      have hs := sum_put L (x, y)
      clear hC hF oa ob ob2 fb gb lob rb HOa HRb HSa HF2 HK HD2 HD3
      go_wp2_with (at_builtin; refine wpList_appT (t := 22) (by rfl) rfl rfl (unhide HRa) ?_)
      exact ⟨⟨L ++ [(x, y)], k4, e4, by omega, by rw [hs], by rw [hl1]; go_num, (unhide HB).put hlt2, unhide HR, unhide HC, unhide HF, by rw [hl1]; exact unhide HKn⟩, by simp [intOf]; omega⟩
    · have HC := hide hC
      have HF := hide hF
      have g1 := hC.1.1
      by_cases he : e2 = 0
      · subst he
        obtain rfl : m = L.length := by omega
        have HD2 := hide (Rd.fin id hK (.inl (by omega)))
        clear hK hC hF hgo
        by_cases hs : 4294967295 < sumN L
        · have ht : 1024 < sumN L := by omega
          have HK := hide (rlocals_110 (unhide HD2) hs)
          clear hR HD2
          go_wp2_with fail
          refine (rFail_any (unhide HC)).mono ?_
          rintro _ w2 ⟨rfl, hC, hF⟩
          change Cs c a len cap xs k2 110 w2 at hC
          have HC := hide hC
          have HF := hide ((unhide HF).trans hF)
          have g2 := hC.1.2.2.1
          have g1 := hC.1.1
          clear hC hF
          go_wp2_with fail
          refine (rFail_any (unhide HC)).mono ?_
          rintro _ w2 ⟨rfl, hC, hF⟩
          change Cs c a len cap xs k2 110 w2 at hC
          have HC := hide hC
          have HF := hide ((unhide HF).trans hF)
          have g2 := hC.1.2.2.1
          have g1 := hC.1.1
          clear hC hF
          go_wp2_with fail
          go_ret
          exact ⟨[], none, 0, k2, 110, rfl, unhide HK, ⟨fun q => absurd q (by decide), fun _ => ⟨rfl, rfl, rfl⟩⟩, unhide HC, unhide HF⟩
        · by_cases ht : 1024 < sumN L
          · have HK := hide (rlocals_3 (unhide HD2) hs ht)
            clear hR HD2
            go_wp2_with fail
            refine (rFail_any (unhide HC)).mono ?_
            rintro _ w2 ⟨rfl, hC, hF⟩
            change Cs c a len cap xs k2 3 w2 at hC
            have HC := hide hC
            have HF := hide ((unhide HF).trans hF)
            have g2 := hC.1.2.2.1
            have g1 := hC.1.1
            clear hC hF
            go_wp2_with fail
            go_ret
            exact ⟨[], none, 0, k2, 3, rfl, unhide HK, ⟨fun q => absurd q (by decide), fun _ => ⟨rfl, rfl, rfl⟩⟩, unhide HC, unhide HF⟩
          · have HK := hide (rlocals_ok (unhide HD2) ht)
            rename World => wN
            have HS3 : Hid (Slc wN (fun b => b < wN.heap.size) L.length (u64c (L.map (·.1))) (.slice p3 L.length s3)) := hide (slc_own hR.a (by decide) (fun g hg => (World.ownsRow.lt hR.a g hg).2))
            have HS4 : Hid (Slc wN (fun b => b < wN.heap.size) L.length (bys (L.map (·.2))) (.slice p4 L.length s4)) := hide (slc_own hR.b (by decide) (fun g hg => (World.ownsRow.lt hR.b g hg).2))
            have HB := hide hB
            have hszF := (unhide HF).size
            clear hR HD2 hB
            go_wp2_with fail
            clear g1 g2
            go_loopw [9, 10] (fun v9 v10 u => ∃ (i : Nat) (Z : List Int), i ≤ L.length ∧ v10 = .int .i64 (i : Int) ∧ Hid (Z = spread (L.take i)) ∧ u.ownsRow wN.heap.size 5 1 v9 Z.length (bys Z) ∧ Fr [] wN u) (fun _ v10 _ => L.length - (intOf v10).toNat)
            case atStart => exact ⟨0, [], Nat.zero_le _, rfl, hide rfl, World.ownsRow_nil _ _ _ _, Fr.refl _ _⟩
            case round =>
              obtain ⟨i, Z, hi, rfl, hZ, hO, hFu⟩ := hrel
              obtain ⟨p9, s9, rfl⟩ := rof_slice hO
              by_cases hlt : i < L.length
              · obtain ⟨⟨x, y⟩, hat⟩ : ∃ q, L[i]? = some q := ⟨_, List.getElem?_eq_getElem hlt⟩
                have hbx := unhide HB (x, y) (List.mem_of_getElem? hat)
                obtain ⟨nn, rfl⟩ : ∃ nn : Nat, x = (nn : Int) := ⟨x.toNat, by have := hbx.1; dsimp only at this; omega⟩
                have hnn : nn < 4294967296 := by have := hbx.2; dsimp only at this; omega
                have hzl : Z.length ≤ 1024 := by have := spread_take (unhide HB) i; rw [← unhide hZ] at this; omega
                have HZ2 : Hid (Z ++ List.replicate nn y = spread (L.take (i + 1))) := hide (by rw [spread_next hat, ← unhide hZ]; rfl)
                have hi' : (i : Int) < (L.length : Int) := by omega
                have hi2 : (0 : Int) ≤ (i : Int) := by omega
                have hS3 := unhide HS3
                obtain ⟨_, _, he3, -, -, q3⟩ := hS3
                have hS4 := unhide HS4
                obtain ⟨_, _, he4, -, -, q4⟩ := hS4
                injection he3 with he31 he32 he33
                injection he4 with he41 he42 he43
                subst he31 he33 he41 he43
                rcases q3 with ⟨h0, _⟩ | ⟨b3, o3, rfl, -, k3⟩
                · omega
                rcases q4 with ⟨h0, _⟩ | ⟨b4, o4, rfl, -, k4⟩
                · omega
                have HG3 := hide (k3 i (.int .u64 (nn : Int)) (by simp [u64c, hat]))
                have HG4 := hide (k4 i (.int .u8 y) (by simp [bys, hat]))
                clear k3 k4 HS3 HS4 hat hbx
                have HO := hide hO
                have HFu := hide hFu
                clear hO hFu
                go_wp2_with fail
                go_loopw [9, 11] (fun v9 v11 u => ∃ (j : Nat) (Y : List Int), j ≤ nn ∧ v11 = .int .u64 (j : Int) ∧ Hid (Y = Z ++ List.replicate j y) ∧ u.ownsRow wN.heap.size 5 1 v9 Y.length (bys Y) ∧ Fr [] wN u) (fun _ v11 _ => nn - (intOf v11).toNat)
                case atStart => exact ⟨0, Z, Nat.zero_le _, rfl, hide (by simp), unhide HO, unhide HFu⟩
                case round =>
                  obtain ⟨j, Y, hj, rfl, hY, hO, hFu⟩ := hrel
                  obtain ⟨p9, s9, rfl⟩ := rof_slice hO
                  have g3 := hFu.keep (unhide HG3) (by simp)
                  have g4 := hFu.keep (unhide HG4) (by simp)
                  by_cases hjl : j < nn
                  · have hj' : (j : Int) < (nn : Int) := by omega
                    have hyl : Y.length = Z.length + j := by rw [unhide hY]; simp
                    have hsz := hFu.size
                    obtain ⟨pb, sb, wb, rb, ob, fb, gb⟩ := rof_app Tryz.underlying22 iU8 zero8 size8 bytes8 (by decide) rfl hO (by omega) (by omega) (u := .int .u8 y) rfl
                    have lob : ∀ i ∈ (Value.slice p9 Y.length s9).ownBlock.toList, wN.heap.size ≤ i := fun i hi => (World.ownsRow.lt hO i (by simpa using hi)).1
                    have HFu := hide (hFu.thenL fb (fun i hi => .inr (lob i hi)))
                    have HRa := hide rb
                    have HY2 : Hid (Y ++ [y] = Z ++ List.replicate (j + 1) y) := hide (by rw [unhide hY, List.replicate_succ', List.append_assoc])
                    have hl1 : (Y ++ [y]).length = Y.length + 1 := by simp
                    have HO2 : Hid (wb.ownsRow wN.heap.size 5 1 (.slice pb (Y.length + 1) sb) (Y ++ [y]).length (bys (Y ++ [y]))) := hide (by rw [hl1, show bys (Y ++ [y]) = bys Y ++ [.int .u8 y] by simp [bys]]; exact ob)
                    have hw : IntKind.u64.wrap ((j : Int) + 1) = (j : Int) + 1 := u64w_id (by omega) (by omega)
                    clear hO hFu rb ob fb gb lob hyl
                    go_wp2_with (at_builtin; refine wpList_appT (t := 22) (by rfl) rfl rfl (unhide HRa) ?_)
                    exact ⟨⟨j + 1, Y ++ [y], by omega, by push_cast; rfl, HY2, unhide HO2, unhide HFu⟩, by simp [intOf]; omega⟩
                  · obtain rfl : j = nn := by omega
                    have HO2 := hide hO
                    have HFu2 := hide hFu
                    have HZ3 : Hid (Y = spread (L.take (i + 1))) := hide (by rw [unhide hY]; exact unhide HZ2)
                    clear hO hFu
                    go_wp2_with fail
                    exact ⟨⟨i + 1, Y, by omega, by go_num, HZ3, unhide HO2, unhide HFu2⟩, by simp [intOf]; omega⟩
              · obtain rfl : i = L.length := by omega
                have HO := hide hO
                have HFu := hide hFu
                clear hO hFu
                go_wp2_with fail
                go_ret
                refine ⟨Z, p9, s9, k2, 0, rfl, ?_, ⟨fun _ => (slc_own (unhide HO) (by decide) (fun g hg => by have := (World.ownsRow.lt (unhide HO) g hg).1; omega)), fun q => absurd rfl q⟩, (unhide HC).fr (unhide HFu) (by simp) (by simp), (unhide HF).thenL (unhide HFu) (by simp)⟩
                have := unhide HK
                rw [unhide hZ, List.take_length]
                exact this
      · have HE := hide he
        have he' : (e2 == 0) = false := by simp [he]
        have he2 : (e2 != 0) = true := by simp [he]
        have HK := hide (rlocals_nil (Rd.fin id hK (.inr he)) he)
        clear hK hC hF hgo hR
        have hlm : L.length < m ∨ m = L.length := by omega
        rcases hlm with hlt | rfl
        all_goals
          try have hi' : (L.length : Int) < (m : Int) := by omega
          by_cases hs : 4294967295 < sumN L
          · have ht : 1024 < sumN L := by omega
            clear he
            go_wp2_with fail
            refine (rFail_any (unhide HC)).mono ?_
            rintro _ w2 ⟨rfl, hC, hF⟩
            rw [if_neg (unhide HE)] at hC
            have HC := hide hC
            have HF := hide ((unhide HF).trans hF)
            have g2 := hC.1.2.2.1
            have g1 := hC.1.1
            clear hC hF
            go_wp2_with fail
            refine (rFail_any (unhide HC)).mono ?_
            rintro _ w2 ⟨rfl, hC, hF⟩
            rw [if_neg (unhide HE)] at hC
            have HC := hide hC
            have HF := hide ((unhide HF).trans hF)
            have g2 := hC.1.2.2.1
            have g1 := hC.1.1
            clear hC hF
            go_wp2_with fail
            go_ret
            first | exact ⟨[], none, 0, k2, e2, rfl, unhide HK, ⟨fun q => absurd q (unhide HE), fun _ => ⟨rfl, rfl, rfl⟩⟩, unhide HC, unhide HF⟩ | exact ⟨[], none, 0, rfl, k2, e2, unhide HK, ⟨fun q => absurd q (unhide HE), fun _ => ⟨rfl, rfl, rfl⟩⟩, unhide HC, unhide HF⟩
          · by_cases ht : 1024 < sumN L
            · clear he
              go_wp2_with fail
              refine (rFail_any (unhide HC)).mono ?_
              rintro _ w2 ⟨rfl, hC, hF⟩
              rw [if_neg (unhide HE)] at hC
              have HC := hide hC
              have HF := hide ((unhide HF).trans hF)
              have g2 := hC.1.2.2.1
              have g1 := hC.1.1
              clear hC hF
              go_wp2_with fail
              go_ret
              first | exact ⟨[], none, 0, k2, e2, rfl, unhide HK, ⟨fun q => absurd q (unhide HE), fun _ => ⟨rfl, rfl, rfl⟩⟩, unhide HC, unhide HF⟩ | exact ⟨[], none, 0, rfl, k2, e2, unhide HK, ⟨fun q => absurd q (unhide HE), fun _ => ⟨rfl, rfl, rfl⟩⟩, unhide HC, unhide HF⟩
            · clear he
              go_wp2_with fail
              go_ret
              first | exact ⟨[], none, 0, k2, e2, rfl, unhide HK, ⟨fun q => absurd q (unhide HE), fun _ => ⟨rfl, rfl, rfl⟩⟩, unhide HC, unhide HF⟩ | exact ⟨[], none, 0, rfl, k2, e2, unhide HK, ⟨fun q => absurd q (unhide HE), fun _ => ⟨rfl, rfl, rfl⟩⟩, unhide HC, unhide HF⟩
end
section
variable {c : Nat} {a : Option Addr} {len cap k : Nat} {xs : List Int} {e : Int} {W : World}
set_option maxHeartbeats 8000000 in
set_option maxRecDepth 100000 in
theorem plocals_more (h : Cs c a len cap xs k e W) (hm : Mk W) (hc : 4 ≤ c) : Calls Tryz.prog 13 #[.pointer (some ⟨c, 0, none⟩)] W fun r W' => ∃ (L : List Int) (p : Option Addr) (s k' : Nat) (e' : Int), r = .returned (.slice p L.length s) ∧ Rd rLoc xs k e L k' e' ∧ ((e' = 0 → Slc W' (fun b => W.heap.size ≤ b) L.length (bys L) (.slice p L.length s)) ∧ (e' ≠ 0 → L = [] ∧ p = none ∧ s = 0)) ∧ Cs c a len cap xs k' e' W' ∧ Mk W' ∧ Fr [c] W W' := by
  have hcl := h.1.lt
  have HAl : Hid (∀ p, a = some p → 0 < len → p.block < W.heap.size) := hide h.2.1.lt
  have hb := below1 W (.cells #[.pointer (some ⟨c, 0, none⟩)] 53)
  have HV := vr_new [.pointer (some ⟨c, 0, none⟩)] 53 W
  have hq : W.heap.size < (W.alloc (.cells #[.pointer (some ⟨c, 0, none⟩)] 53)).heap.size := by simp
  have hB : Tab (W.alloc (.cells #[.pointer (some ⟨c, 0, none⟩)] 53)) W.heap.size [.pointer (some ⟨c, 0, none⟩)] := HV.tab
  have HF0 := hide (Fr.of hb [c])
  have HX := hide (list36_any (q := W.heap.size) (h.bel hb) (J := fun w => Mk w ∧ Tab w W.heap.size [.pointer (some ⟨c, 0, none⟩)] ∧ W.heap.size < w.heap.size) ⟨hm.below hb, hB, hq⟩ (fun w w' l hJ hf hl => ⟨hJ.1.fr hf (fun i hi => by rcases hl i hi with q | q <;> omega), hJ.2.1.fr hf (fun hi => by rcases hl _ hi with q | q <;> omega), Nat.lt_of_lt_of_le hJ.2.2 hf.size⟩)
    (fun k e w hw hC hJ => (clos37_any hC hJ.1 hc hJ.2.1 hJ.2.2 (by omega)).mono (by rintro _ w' ⟨y, cs, k1, e1, rfl, hD, hR, hC2, hM2, hB2, hF⟩; exact ⟨y, cs, k1, e1, rfl, hD, hR, hC2, ⟨hM2, hB2, Nat.lt_of_lt_of_le hJ.2.2 hF.size⟩, hF⟩)))
  have HB0 := hide hB
  clear h hm hb HV hB
  have z0 := (unhide HB0) 0 _ rfl
  go_enter Tryz.func13, Tryz.ntmps13
  go_wp2_with fail
  refine (unhide HX).mono ?_
  rintro _ w1 ⟨L, g, k1, e1, rfl, hD, hS, hlen, hC, hJ, hF⟩
  have HD := hide hD
  have HS := hide hS
  have HC := hide hC
  have HM := hide hJ.1
  have HB := hide hJ.2.1
  have hq1 := hJ.2.2
  have HF := hide ((unhide HF0).trans hF)
  clear hD hS hC hJ hF HX z0 HB0
  go_wp2_with fail
  refine wp_region_held_drew (S := fun w' => w'.cell? ⟨W.heap.size, 0, none⟩ = some (.pointer (some ⟨c, 0, none⟩))) (by kernel_rfl) ?_ (fun hHeld => ?_)
  · (try dsimp only)
    exact (unhide HB) 0 _ rfl
  refine lst0 4 (by kernel_rfl) ?_
  refine tkA 0 10 1 ?_
  refine tkA 1 11 3 ?_
  have hdr : Fr [] w1 w1.drew := (Fr.refl [] w1).drew
  have HS := hide ((unhide HS).fr hdr (by simp))
  have HC := hide ((unhide HC).fr hdr (by simp) (by simp))
  have HM := hide ((unhide HM).fr hdr (by simp))
  have HB := hide ((unhide HB).fr hdr (by simp))
  have HF := hide ((unhide HF).thenL hdr (by simp))
  have hq1 : W.heap.size < w1.drew.heap.size := hq1
  generalize w1.drew = w1 at *
  refine rdA 2 7 (fun Kk hKk => ?_)
  go_simp
  refine (toomany_any hlen (unhide HS)).mono ?_
  rintro _ w2 ⟨rfl, hF⟩
  have HS := hide ((unhide HS).fr hF (by simp))
  have HC := hide ((unhide HC).fr hF (by simp) (by simp))
  have HM := hide ((unhide HM).fr hF (by simp))
  have HB := hide ((unhide HB).fr hF (by simp))
  have HF := hide ((unhide HF).thenL hF (by simp))
  have hq2 := Nat.lt_of_lt_of_le hq1 hF.size
  clear hF
  (try go_wp2_with fail)
  refine hKk.out _ _ ?_ (fun hHeld => ?_)
  · (try dsimp only)
    exact (unhide HB) 0 _ rfl
  clear hKk Kk
  (try simp only [List.setIfInBounds_toArray, List.set_cons_zero, List.set_cons_succ])
  refine rdA 3 15 (fun Kk hKk => ?_)
  go_simp
  refine (Fail_any (unhide HC)).mono ?_
  rintro _ w3 ⟨rfl, hC, hF⟩
  have HS := hide ((unhide HS).mono (P' := fun b => W.heap.size < b ∧ b < w2.heap.size) (fun b hb hp => ⟨by simp at hp; omega, hb⟩) |>.fr hF (by simp; omega))
  have HC3 := hide hC
  have HM := hide ((unhide HM).fr hF (by simp; omega))
  have HB := hide ((unhide HB).fr hF (by simp; omega))
  have HF := hide ((unhide HF).trans hF)
  have hq3 := hF.size
  clear hC hF
  (try go_wp2_with fail)
  refine hKk.out _ _ ?_ (fun hHeld => ?_)
  · (try dsimp only)
    exact (unhide HB) 0 _ rfl
  clear hKk Kk
  (try simp only [List.setIfInBounds_toArray, List.set_cons_zero, List.set_cons_succ])
  refine wpAnyH_done (by kernel_rfl) ?_ _
  have z0 := (unhide HB) 0 _ rfl
  go_wp2_with fail
  have hEq := hide (rlocals_why (unhide HD))
  have hZ := hide (fun (q : (if e1 = 0 then tmE L else e1) = 0) => tm_zero (L := L) (e1 := e1) q)
  have HK := hide (fun (q : (if e1 = 0 then tmE L else e1) = 0) => rlocals_ok (xs := xs) (k := k) (e := e) (L := L) (k2 := k1) (by have h := unhide HD; rwa [(tm_zero q).1] at h) (tm_zero q).2)
  generalize (if e1 = 0 then tmE L else e1) = e2 at *
  refine (err_any (unhide HC3)).mono ?_
  rintro _ w ⟨rfl, rfl⟩
  by_cases he : e2 = 0
  · subst he
    obtain ⟨hz1, hz2⟩ := unhide hZ rfl
    subst hz1
    have HL := hide (unhide HK rfl)
    have hbq := (unhide HS).bq
    obtain ⟨a1, c1, ev, -, h1⟩ := (unhide HS).open
    injection ev with ev1 ev2 ev3
    subst ev1
    have H1 := hide h1
    have HQ := hide hbq
    clear h1 HS HD hEq hZ HK ev2 ev3
    go_wp2_with fail
    clear z0
    go_loopw [4, 19] (fun v4 v19 wr => ∃ (i : Nat), i ≤ L.length ∧ v19 = .int .i64 (i : Int) ∧ wr.ownsRow w.heap.size 5 1 v4 (spread (L.take i)).length (bys (spread (L.take i))) ∧ Fr [] w wr) (fun _ v19 _ => L.length - (intOf v19).toNat)
    case atStart => exact ⟨0, by omega, rfl, World.ownsRow_nil _ _ _ _, Fr.refl _ _⟩
    case round =>
      obtain ⟨i, hi, rfl, hO, hFr⟩ := hrel
      by_cases hlt : i < L.length
      · have hi' : (i : Int) < (L.length : Int) := by omega
        have hi2 : (0 : Int) ≤ (i : Int) := by omega
        rcases unhide H1 with h0 | ⟨b1, o1, hb1, -, k1'⟩
        · omega
        injection hb1 with hb1
        injection hb1 with hb1 hb2
        subst hb1
        subst hb2
        have hx := List.getElem?_eq_getElem hlt
        have hs1 := spread_take (unhide HQ) (i + 1)
        obtain ⟨_, ⟨rfl, hr1, hr2⟩, k1'⟩ := k1' i L[i] hx
        obtain ⟨n, hn⟩ := Int.eq_ofNat_of_zero_le hr1
        have hsp := spread_next (x := L[i].1) (y := L[i].2) hx
        generalize L[i] = x at *
        obtain ⟨x1, y⟩ := x
        dsimp only at *
        subst hn
        rw [Int.toNat_natCast] at hsp
        rw [hsp, List.length_append, List.length_replicate] at hs1
        have g10 := hFr.keep (k1' 0 (by decide)) (by simp)
        have g11 := hFr.keep (k1' 1 (by decide)) (by simp)
        change wr.cell? ⟨g, 0 + i * 2, none⟩ = some (.int .u32 (n : Int)) at g10
        change wr.cell? ⟨g, 0 + i * 2 + 1, none⟩ = some (.int .u8 y) at g11
        rw [Nat.zero_add] at g10 g11
        have w1 : IntKind.i64.wrap (n : Int) = (n : Int) := i64_id (by omega) (by omega)
        have HO := hide hO
        have HFr := hide hFr
        have HP := hide hsp
        have hs1' : (spread (L.take i)).length + n ≤ 1024 := by omega
        clear k1' hO hFr hsp hx hs1
        go_wp2_with fail
        have hcl : ((wr.alloc (.cells #[.int .u32 (n : Int), .int .u8 y] 132)).alloc (.cells #[.int .u8 y] 5)).cell? ⟨wr.heap.size + 1, 0, none⟩ = some (.int .u8 y) := by simp [go_sem]
        have hA : Fr [] wr ((wr.alloc (.cells #[.int .u32 (n : Int), .int .u8 y] 132)).alloc (.cells #[.int .u8 y] 5)) := Fr.of (below2 wr _ _) []
        generalize (wr.alloc (.cells #[.int .u32 (n : Int), .int .u8 y] 132)).alloc (.cells #[.int .u8 y] 5) = wa at *
        refine (repeat_any (by omega) hcl).mono ?_
        rintro _ w4 ⟨g2, s2, rfl, hs2, hg2, hcells, hF4⟩
        have hA4 := hA.trans hF4
        have hO4 := rof_fr (unhide HO) hA4 (by simp)
        have hsz4 := ((unhide HFr).trans hA4).size
        obtain ⟨v', w5, hrun, o1, o2, o3⟩ := app_own (c := s2) (t := 22) (e := 5) Tryz.underlying22 iU8 zero8 size8 bytes8 rfl (by decide) hO4 (m := n) (news := List.replicate n (.int .u8 y)) (a := ⟨g2, 0, none⟩) (by simp) (fun j u hj => by
          have hlt : j < (List.replicate n (Value.int .u8 y)).length := (List.getElem?_eq_some_iff.1 hj).1
          rw [List.length_replicate] at hlt
          rw [add_off, Nat.zero_add, hcells j hlt, ← hj, List.getElem?_replicate, if_pos hlt]) (fun v hv => by rw [List.eq_of_mem_replicate hv]; rfl) (by unfold maxLen; omega) (by omega) hsz4
        have HRun := hide hrun
        have HO5 := hide o1
        have HF5 := hide (((unhide HFr).trans hA4).thenL (fr_grown o2) (fun i hi => .inr (World.ownsRow.lt hO4 i (by simpa using hi)).1))
        clear hrun o1 o2 o3 hO4 hA hA4 hcells hF4 HO HFr
        go_wp2_with (at_builtin; refine wpList_appT (t := 22) (by rfl) rfl rfl (unhide HRun) ?_)
        exact ⟨⟨i + 1, by omega, by go_num, by rw [unhide HP, List.length_append, List.length_replicate, bys_app, bys_rep]; exact unhide HO5, unhide HF5⟩, by simp [intOf]; omega⟩
      · obtain rfl : i = L.length := by omega
        rw [List.take_length] at hO
        obtain ⟨p, s, rfl⟩ := rof_slice hO
        have HO := hide hO
        have HFr := hide hFr
        have hsw := hFr.size
        clear hO hFr
        go_wp2_with fail
        go_ret
        exact ⟨spread L, p, s, k1, 0, rfl, unhide HL, ⟨fun _ => slc_own (unhide HO) (by decide) (fun g hg => by have := (World.ownsRow.lt (unhide HO) g hg).1; have := (unhide HF).size; omega), fun q => absurd rfl q⟩, (unhide HC3).fr (unhide HFr) (by simp) (by simp), (unhide HM).fr (unhide HFr) (by simp), (unhide HF).thenL (unhide HFr) (by simp)⟩
  · have hne : (e2 != 0) = true := by simpa using he
    go_wp2_with fail
    go_ret
    exact ⟨[], none, 0, k1, e2, rfl, unhide hEq he, ⟨fun q => absurd q he, fun _ => ⟨rfl, rfl, rfl⟩⟩, unhide HC3, unhide HM, unhide HF⟩
end
end Go.Proofs.YtjoonmpjcophnaaGreatDoor
