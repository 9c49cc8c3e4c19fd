/- PfE. -/
import Derived.Test.YtjoonmpjcophnaaGreatDoorUa33
import Derived.Test.YtjoonmpjcophnaaGreatDoorUa41
import Derived.Test.YtjoonmpjcophnaaGreatDoorUa44
import Derived.Test.YtjoonmpjcophnaaGreatDoorUa48
namespace Go.Proofs.YtjoonmpjcophnaaGreatDoor
open Go.RowKit

theorem Pt.fr {w w' : World} {ys : List Int} {v : Value} (h : Pt w ys v) (hf : Fr [] w w') : Pt w' ys v := by
  obtain ⟨h1, a, cap, h2, h3⟩ := h
  exact ⟨h1, a, cap, h2, fun q r => (h3 q r).fr hf (by simp)⟩
theorem yl_tab {dst : Option Tmp} {ty ty' : TypeId} {t : Tmp} {pos : String} {af : Array Edge} {g : Option (Nat × Bool)} {a : Act} {w : World} {p : Addr} {v : Value} (hx : a.eval (.tmp t) = .pointer (some p)) (h : (loadVar ty p).run Tryz.prog w = .ok v w) :
    (execOp a.eval ⟨dst, .load ty (.tmp t), ty', pos, af, g⟩).run Tryz.prog w = .ok (.value v) w := by
  unfold execOp
  simp only [hx, Instr.loadAt, Instr.sureAddr, Sem.run_bind, Sem.run_pure, Result.andThen_ok, h]
theorem aA_len {yss : List (List Int)} {i : Nat} (h : ∀ ys ∈ yss.take i, 1 ≤ ys.length ∧ ys.length ≤ 100) (hn : yss.length ≤ 30) : (aA yss i).length ≤ 5000 := by
  have h1 := fl_len _ h
  rw [List.length_take] at h1
  unfold aA
  rw [List.length_append]
  have hm : magic.length = 8 := rfl
  omega
theorem bB_len {c : List Int} {j : Nat} {yss : List (List Int)} {i : Nat} (h : ∀ ys ∈ yss.take i, 1 ≤ ys.length ∧ ys.length ≤ 100) (hn : yss.length ≤ 30) (hc : c.length ≤ 50) : (bB c j yss i).length ≤ 6900 := by
  have hm : magic.length = 8 := rfl
  unfold bB
  split
  · have h1 := fl_len _ h
    rw [List.length_take] at h1
    rw [List.length_append]
    omega
  · have h1 := fl_len (yss.take j) (fun z hz => h z (by rw [show yss.take j = (yss.take i).take j by rw [List.take_take, Nat.min_eq_left (by omega)]] at hz; exact List.mem_of_mem_take hz))
    have h2 := fl_len ((yss.take i).drop j) (fun z hz => h z (List.mem_of_mem_drop hz))
    simp only [List.length_append, cst, sct, List.length_cons, List.length_nil]
    rw [List.length_take] at h1
    rw [List.length_drop, List.length_take] at h2
    omega
theorem byt_app' {l m : List Int} (h1 : Byt l) (h2 : Byt m) : Byt (l ++ m) := fun x hx => (List.mem_append.1 hx).elim (h1 x) (h2 x)
theorem byt_sct {n : Int} {l : List Int} (h1 : 0 ≤ n ∧ n < 256) (h2 : Byt l) (h3 : l.length < 256) : Byt (sct n l) := fun x hx => by
  unfold sct at hx
  rcases List.mem_cons.1 hx with rfl | hx
  · exact h1
  rcases List.mem_cons.1 hx with rfl | hx
  · omega
  · exact h2 x hx
theorem byt_fl : ∀ (L : List (List Int)), (∀ ys ∈ L, (1 ≤ ys.length ∧ ys.length ≤ 100) ∧ Byt ys) → Byt (fl L)
  | [], _ => fun x hx => by simp [fl] at hx
  | ys :: L, h => by
    have h1 := byt_fl L (fun z hz => h z (List.mem_cons_of_mem _ hz))
    have h2 := h ys (List.mem_cons_self ..)
    rw [show ys :: L = [ys] ++ L from rfl, fl_app, fl_one]
    refine byt_app' (byt_sct ?_ (fun x hx => h2.2 x (List.mem_of_mem_tail hx)) ?_) h1
    · cases ys with
      | nil => simp at h2
      | cons y ys => exact h2.2 y (List.mem_cons_self ..)
    · show ys.tail.length < 256
      rw [List.length_tail]
      omega
theorem byt_magic' : Byt magic := byt_dec' _ rfl
theorem byt_aA {yss : List (List Int)} {i : Nat} (h : ∀ ys ∈ yss.take i, (1 ≤ ys.length ∧ ys.length ≤ 100) ∧ Byt ys) : Byt (aA yss i) := byt_app' byt_magic' (byt_fl _ h)
theorem byt_bB {c : List Int} {j : Nat} {yss : List (List Int)} {i : Nat} (h : ∀ ys ∈ yss.take i, (1 ≤ ys.length ∧ ys.length ≤ 100) ∧ Byt ys) (hc : c.length ≤ 50) (hb : Byt c) : Byt (bB c j yss i) := by
  unfold bB
  split
  · exact byt_app' byt_magic' (byt_fl _ h)
  · refine byt_app' byt_magic' (byt_app' (byt_fl _ (fun z hz => h z ?_)) (byt_app' (byt_sct (by omega) (byt_app' (byt_dec' _ rfl) hb) (by simp; omega)) (byt_fl _ (fun z hz => h z (List.mem_of_mem_drop hz)))))
    rw [show yss.take j = (yss.take i).take j by rw [List.take_take, Nat.min_eq_left (by omega)]] at hz
    exact List.mem_of_mem_take hz
set_option maxHeartbeats 16000000 in
set_option maxRecDepth 100000 in
theorem custom_short {a : Option Addr} {cap : Nat} {yss : List (List Int)} {b : Option Addr} {lem cbp : Nat} {cs : List Int} {cut : Int} {W : World} (hm : Mk W) (hr : yss = [] ∨ ∃ b off, a = some ⟨b, off, none⟩ ∧ ∀ i ys, yss[i]? = some ys → ∃ u, W.cell? ⟨b, off + i, none⟩ = some u ∧ Pt W ys u) (hn : yss.length ≤ 30) (hS : Sl W b lem cbp cs) (hy : Byt cs) (hl : lem ≤ 50) (hc : 0 ≤ cut) :
    Calls Tryz.prog 5 #[.slice a yss.length cap, .int .i64 cut, .slice b lem cbp] W fun r W' => r = .returned (.bool true) ∧ Fr [] W W' := by
  have HX := hide (awake20 hm hm.four)
  have HRw := hide hr
  have HS := hide hS
  have HY := hide hy
  have hcl := hS.1
  have h1' : ¬ (30 : Int) < yss.length := by omega
  have h2' : ¬ (50 : Int) < lem := by omega
  have h3' : ¬ cut < 0 := by omega
  clear hm hr hS hy
  go_enter Tryz.func5, Tryz.ntmps5
  go_wp2_with fail
  refine (unhide HX).mono ?_
  rintro _ w1 ⟨rfl, hM, hF⟩
  have HF := hide hF
  have HM := hide hM
  clear hM hF HX
  have hs1 : (w1.alloc (.cells #[.int .u8 0, .int .u8 97, .int .u8 115, .int .u8 109, .int .u8 1, .int .u8 0, .int .u8 0, .int .u8 0] 5)).heap.size = w1.heap.size + 1 := by simp
  have hOA := rof_fr (ow_lit w1 magic 8 rfl (by omega)) (Fr.of (below1 (w1.alloc (.cells #[.int .u8 0, .int .u8 97, .int .u8 115, .int .u8 109, .int .u8 1, .int .u8 0, .int .u8 0, .int .u8 0] 5)) (.cells #[.int .u8 0, .int .u8 97, .int .u8 115, .int .u8 109, .int .u8 1, .int .u8 0, .int .u8 0, .int .u8 0] 5)) []) (by simp)
  have hOB := ow_lit (w1.alloc (.cells #[.int .u8 0, .int .u8 97, .int .u8 115, .int .u8 109, .int .u8 1, .int .u8 0, .int .u8 0, .int .u8 0] 5)) magic 8 rfl (by omega)
  rw [hs1] at hOB
  have hF2 : Fr [] w1 ((w1.alloc (.cells #[.int .u8 0, .int .u8 97, .int .u8 115, .int .u8 109, .int .u8 1, .int .u8 0, .int .u8 0, .int .u8 0] 5)).alloc (.cells #[.int .u8 0, .int .u8 97, .int .u8 115, .int .u8 109, .int .u8 1, .int .u8 0, .int .u8 0, .int .u8 0] 5)) := ((Fr.refl [] w1).alloc _).alloc _
  have HOA := hide hOA
  have HOB := hide hOB
  have HF2 := hide hF2
  obtain ⟨j, hj⟩ : ∃ j, j = (Int.tmod cut yss.length).toNat := ⟨_, rfl⟩
  have HJ := hide hj
  clear hj
  clear hOA hOB hF2
  go_wp2_with fail
  go_loopw [34, 7, 8] (fun v34 v7 v8 wr => ∃ (i : Nat), i ≤ yss.length ∧ v34 = .int .i64 (i : Int) ∧ Ow wr w1.heap.size v7 (aA yss i) ∧ Ow wr (w1.heap.size + 1) v8 (bB cs j yss i) ∧ (∀ g, v7.ownBlock = some g → v8.ownBlock ≠ some g) ∧ (∀ ys ∈ yss.take i, (1 ≤ ys.length ∧ ys.length ≤ 100) ∧ Byt ys) ∧ Fr [] w1 wr) (fun v34 _ _ _ => yss.length - (intOf v34).toNat)
  case atStart =>
    refine ⟨0, Nat.zero_le _, rfl, ?_, ?_, fun g h1 h2 => ?_, fun ys hy => by simp at hy, unhide HF2⟩
    · rw [show aA yss 0 = magic by simp [aA, fl]]
      exact unhide HOA
    · rw [show bB cs j yss 0 = magic by simp [bB, fl]]
      exact unhide HOB
    · simp [Value.ownBlock] at h1 h2
      omega
  case round =>
    obtain ⟨i, hi, rfl, hA, hB, hDj, hP, hF⟩ := hrel
    obtain ⟨p7, c7, rfl, hS7⟩ := hA.slice (by have := aA_len (fun z hz => (hP z hz).1) hn; omega)
    obtain ⟨p8, c8, rfl, hS8⟩ := hB.slice (by have := bB_len (j := j) (fun z hz => (hP z hz).1) hn (show cs.length ≤ 50 by omega); omega)
    by_cases hlt : i < yss.length
    · rcases unhide HRw with h0 | ⟨b1, o1, rfl, k1⟩
      · rw [h0] at hlt; exact absurd hlt (Nat.not_lt_zero _)
      have hat := List.getElem?_eq_getElem hlt
      obtain ⟨u, hu, hPt⟩ := k1 i yss[i] hat
      obtain ⟨ys, hys⟩ : ∃ ys, ys = yss[i] := ⟨_, rfl⟩
      rw [← hys] at hat hPt
      clear hys k1
      have hi' : (i : Int) < (yss.length : Int) := by omega
      have hi2 : (0 : Int) ≤ (i : Int) := by omega
      have hWr := (unhide HF).trans hF
      have gu := hWr.keep hu (by simp)
      obtain ⟨hyb, a2, cap2, rfl, hSl⟩ := hPt
      clear hu
      have HP := hide hP
      have HFr := hide hF
      have HA := hide hA
      have HB := hide hB
      have HDj := hide hDj
      clear hP hF hA hB hDj hS7 hS8
      by_cases e1 : ys.length < 1
      · have e1' : (ys.length : Int) < 1 := by omega
        go_wp2_with fail
        go_ret
        exact ⟨rfl, (unhide HF).trans (unhide HFr)⟩
      have e1' : ¬ (ys.length : Int) < 1 := by omega
      by_cases e2 : 100 < ys.length
      · have e2' : (100 : Int) < ys.length := by omega
        go_wp2_with fail
        go_ret
        exact ⟨rfl, (unhide HF).trans (unhide HFr)⟩
      have e2' : ¬ (100 : Int) < ys.length := by omega
      have hSy := hSl (by omega) (by omega)
      obtain ⟨b2, o2, rfl, hcell⟩ : ∃ b2 o2, a2 = some ⟨b2, o2, none⟩ ∧ ∀ j, j < ys.length → W.cell? ⟨b2, o2 + j, none⟩ = some (.int .u8 (ys.getD j 0)) := by
        rcases hSy.2.2.2 with ⟨_, h2, _⟩ | h2
        · omega
        · exact h2
      have hpos : 0 < ys.length := by omega
      have gx0 := hcell 0 hpos
      rw [Nat.add_zero, show ys.getD 0 0 = (pr ys).1 by cases ys <;> rfl] at gx0
      have gx := hWr.keep gx0 (by simp)
      have HG0 := hide gx0
      clear gx0
      have gx1 : wr.cell? ⟨b2, o2 + 0, none⟩ = some (.int .u8 (pr ys).1) := gx
      have hcap2 := hSy.2.1
      have hsl := slice1 (b := b2) (off := o2) (len := ys.length) (cap := cap2) (by omega) hcap2 (by omega)
      have hD1 := hSy.drop1 (by omega)
      clear hSl hcell hSy
      by_cases e3 : (pr ys).1 = 0
      · have e3' : ((pr ys).1 == 0) = true := by simp [e3]
        go_wp2_with fail
        go_ret
        exact ⟨rfl, (unhide HF).trans (unhide HFr)⟩
      have e3' : ((pr ys).1 == 0) = false := by simp [e3]
      have hjn : Int.tmod cut (yss.length : Int) = (j : Int) ∧ j < yss.length := by
        have hj := unhide HJ
        have t1 := Int.tmod_lt_of_pos cut (show (0 : Int) < (yss.length : Int) by omega)
        have t2 := Int.tmod_nonneg (yss.length : Int) hc
        omega
      have ij : IntKind.i64.wrap (j : Int) = (j : Int) := i64_id (by omega) (by omega)
      have nz : ¬ (yss.length : Int) = 0 := by omega
      obtain ⟨hjt, hjl⟩ := hjn
      have hml : (pr ys).2.length = ys.length - 1 := List.length_tail
      have iw2 : IntKind.i64.wrap ((ys.length : Int) - 1) = ((pr ys).2.length : Int) := by rw [i64_id (by omega) (by omega)]; omega
      have iw3 : IntKind.u8.wrap ((pr ys).2.length : Int) = ((pr ys).2.length : Int) := by rw [IntKind.wrap_u8]; omega
      have HD0 := hide hD1
      have HD1 := hide (hD1.fr hWr (by simp))
      clear hD1 hml
      by_cases hij : i = j
      · have hij2 : ((i : Int) == (j : Int)) = true := by simp; omega
        have HIJ := hide hij
        clear hij
        have lb1 : (0 : Int) ≤ (lem : Int) + 2 ∧ (lem : Int) + 2 < 256 := by omega
        have hfq : Fr [] wr (wr.alloc (.cells #[.int .u8 0, .int .u8 ((lem : Int) + 2), .int .u8 1, .int .u8 120] 5)) := (Fr.refl [] wr).alloc _
        have hS4 : Sl (wr.alloc (.cells #[.int .u8 0, .int .u8 ((lem : Int) + 2), .int .u8 1, .int .u8 120] 5)) (some ⟨wr.heap.size, 0, none⟩) 4 4 [0, ((lem : Int) + 2), 1, 120] := sl_lit wr [0, ((lem : Int) + 2), 1, 120] 4 rfl (by omega)
        have hbl := bB_len (j := j) (fun z hz => (unhide HP z hz).1) hn (show cs.length ≤ 50 by omega)
        have hfr1 := (unhide HFr).size
        have hsq : (wr.alloc (.cells #[.int .u8 0, .int .u8 ((lem : Int) + 2), .int .u8 1, .int .u8 120] 5)).heap.size = wr.heap.size + 1 := by simp
        have hBq : Ow (wr.alloc (.cells #[.int .u8 0, .int .u8 ((lem : Int) + 2), .int .u8 1, .int .u8 120] 5)) (w1.heap.size + 1) (.slice p8 (bB cs j yss i).length c8) (bB cs j yss i) := rof_fr (unhide HB) hfq (by simp)
        have m8 := fun g hg => World.ownsRow.lt (unhide HB) g hg
        have m7 := fun g hg => World.ownsRow.lt (unhide HA) g hg
        obtain ⟨a10, c10, w10, hr10, hO10, -, hF10, hg10⟩ := app_fr hBq (by omega) hS4 (by omega)
        have hfc : Fr [] w1 w10 := ((unhide HFr).trans hfq).thenL hF10 (fun q hq => .inr (by have := (m8 q (by simpa using hq)).1; omega))
        have hSc := ((unhide HS).fr (unhide HF) (by simp)).fr hfc (by simp)
        have hz10 := hF10.size
        obtain ⟨a11, c11, w11, hr11, hO11, -, hF11, hg11⟩ := app_fr hO10 (by omega) hSc (by simp; omega)
        have hl11 : (bB cs j yss i ++ [0, ((lem : Int) + 2), 1, 120]).length = (bB cs j yss i).length + 4 := by simp
        rw [hl11] at hr11 hO11 hg11
        have hX : (bB cs j yss i ++ [0, ((lem : Int) + 2), 1, 120]) ++ cs = bB cs j yss i ++ cst cs := by
          rw [List.append_assoc]
          unfold cst sct
          rw [show ((([1, 120] ++ cs : List Int).length : Nat) : Int) = ((lem : Int) + 2) by simp; omega]
          rfl
        rw [hX] at hO11
        have own11 : ∀ g, (Value.slice a11 ((bB cs j yss i).length + 4 + lem) c11).ownBlock = some g → (Value.slice p8 (bB cs j yss i).length c8).ownBlock = some g ∨ wr.heap.size ≤ g := fun g hg => by
          rcases hg11 g hg with q | q
          · rcases hg10 g q with r | r
            · exact .inl r
            · exact .inr (by omega)
          · exact .inr (by omega)
        have hlo10 := fun g hg => (World.ownsRow.lt hO10 g hg).1
        have hfr11 : Fr [] w1 w11 := hfc.thenL hF11 (fun q hq => .inr (by have := hlo10 q (by simpa using hq); omega))
        have hnA : ∀ g, (Value.slice p7 (aA yss i).length c7).ownBlock = some g → (Value.slice a10 ((bB cs j yss i).length + 4) c10).ownBlock ≠ some g := fun g h1 h2 => by
          rcases hg10 g h2 with r | r
          · exact unhide HDj g h1 r
          · have := (m7 g h1).2; omega
        have hA11 := rof_fr (rof_fr (rof_fr (unhide HA) hfq (by simp)) hF10 (fun g hg hm => unhide HDj g hg (by simpa using hm))) hF11 (fun g hg hm => hnA g hg (by simpa using hm))
        have hbq : b2 < wr.heap.size := World.block_lt_of_cell? wr _ gx
        have hwrA : ∀ (p : Addr), p.block < W.heap.size → w11.cell? p = W.cell? p := fun p hp => ((unhide HF).trans hfr11).cell hp (by simp)
        have gx11 := ((unhide HF).trans hfr11).keep (unhide HG0) (by simp)
        have HT11 := hide ((unhide HD0).fr ((unhide HF).trans hfr11) (by simp))
        have HR10 := hide hr10
        have HR11 := hide hr11
        have HB11 := hide hO11
        have HA11 := hide hA11
        have HF11 := hide hfr11
        have HD11 : Hid (∀ g, (Value.slice p7 (aA yss i).length c7).ownBlock = some g → (Value.slice a11 ((bB cs j yss i).length + 4 + lem) c11).ownBlock ≠ some g) := hide (fun g h1 h2 => by
          rcases own11 g h2 with r | r
          · exact unhide HDj g h1 r
          · have := (m7 g h1).2; omega)
        clear hr10 hr11 hO10 hO11 hF10 hF11 hg10 hg11 hA11 hwrA own11 hnA hlo10 m7 m8 hBq hS4 hSc hfc hfr11 hfq hX hbl

        go_wp2_with (at_builtin; first | (refine wpList_appT (w := wr.alloc (.cells #[.int .u8 0, .int .u8 ((lem : Int) + 2), .int .u8 1, .int .u8 120] 5)) (t := 22) (by rfl) rfl rfl (unhide HR10) ?_) | (refine wpList_appT (w := w10) (t := 22) (by rfl) rfl rfl (unhide HR11) ?_))
        have hdr : Fr [] w11 w11.drew := (Fr.refl _ _).drew
        refine wp_region_held_drew (S := fun w' => w'.cell? ⟨b2, o2, none⟩ = some (.int .u8 (pr ys).1)) (by kernel_rfl) ?_ (fun hHeld => ?_)
        · (try dsimp only)
          exact hdr.keep gx11 (by simp)
        have HB2 : Hid (Ow w11.drew (w1.heap.size + 1) (.slice a11 ((bB cs j yss i).length + 4 + lem) c11) (bB cs j yss i ++ cst cs)) := hide (rof_fr (unhide HB11) hdr (by simp))
        have HA2 : Hid (Ow w11.drew w1.heap.size (.slice p7 (aA yss i).length c7) (aA yss i)) := hide (rof_fr (unhide HA11) hdr (by simp))
        have HF2 := hide ((unhide HF11).trans hdr)
        have HT2 := hide ((unhide HT11).fr hdr (by simp))
        have gx2 := hdr.keep gx11 (by simp)
        clear hdr
        generalize w11.drew = wv at *
        refine lst0 12 (by kernel_rfl) ?_
        refine tkA 0 68 1 ?_
        refine tkA 1 69 3 ?_
        refine tkA 2 70 7 ?_
        refine tkA 3 71 15 ?_
        refine tkA 4 72 31 ?_
        refine tkA 5 73 63 ?_
        refine tkA 6 74 127 ?_
        refine tkA 8 76 383 ?_
        refine tkA 9 77 895 ?_
        have hfa : Fr [] wv (wv.alloc (.cells #[.int .u8 (pr ys).1, .int .u8 ((pr ys).2.length : Int)] 5)) := (Fr.refl [] wv).alloc _
        have hb2 : b2 < wv.heap.size := World.block_lt_of_cell? wv _ gx2
        have hO1 : Ow (wv.alloc (.cells #[.int .u8 (pr ys).1, .int .u8 ((pr ys).2.length : Int)] 5)) wv.heap.size (.slice (some ⟨wv.heap.size, 0, none⟩) 2 2) [(pr ys).1, ((pr ys).2.length : Int)] := ow_lit wv [(pr ys).1, ((pr ys).2.length : Int)] 2 rfl (by omega)
        obtain ⟨a3, c3, w3, hr3, hO3, hS3, hF3, hg3⟩ := app_fr hO1 hfa.size ((unhide HT2).fr hfa (by simp)) (by simp; omega)
        have gx3 := (hfa.thenL hF3 (fun q hq => .inr (by simp [Value.ownBlock] at hq; omega))).keep gx2 (by simp)
        have gxa := hfa.keep gx2 (by simp)
        have h31 : wv.heap.size + 1 ≤ w3.heap.size := by have := hF3.size; rwa [show (wv.alloc (.cells #[.int .u8 (pr ys).1, .int .u8 ((pr ys).2.length : Int)] 5)).heap.size = wv.heap.size + 1 by simp] at this
        have hfw3 : Fr [] wv w3 := hfa.thenL hF3 (fun q hq => .inr (by simp [Value.ownBlock] at hq; omega))
        have hA3 := rof_fr (unhide HA2) hfw3 (by simp)
        have hB3 := rof_fr (unhide HB2) hfw3 (by simp)
        have hS3' : Sl w3 a3 (2 + (ys.length - 1)) c3 (sct (pr ys).1 (pr ys).2) := hS3
        have o3 : ∀ p, a3 = some p → 0 < 2 + (ys.length - 1) → wv.heap.size ≤ p.block := fun p hp _ => by
          obtain ⟨g, cg, he, hg, _⟩ := hO3.form (by simp)
          injection he with he _ _
          rw [he] at hp
          injection hp with hp
          subst hp
          exact hg
        have l7 := fun g hg => (World.ownsRow.lt (unhide HA2) g hg).2
        have l8 := fun g hg => (World.ownsRow.lt (unhide HB2) g hg).2
        have b7 := fun g hg => (World.ownsRow.lt (unhide HA2) g hg).1
        have b8 := fun g hg => (World.ownsRow.lt (unhide HB2) g hg).1
        obtain ⟨a4, c4, w4, hr4, hO4, hS4, hF4, hg4⟩ := app_fr hA3 (by have := (unhide HF2).size; have := hfw3.size; omega) hS3' (by have := aA_len (fun z hz => (unhide HP z hz).1) hn; omega)
        have hB4 := rof_fr hB3 hF4 (fun g hg hm => (unhide HD11) g (by simpa using hm) hg)
        have hS4' := hS3'.fr hF4 (fun p hp h0 hm => by have := o3 p hp h0; have := l7 p.block (by simpa using hm); omega)
        obtain ⟨a5, c5, w5, hr5, hO5, hS5, hF5, hg5⟩ := app_fr hB4 (by have := (unhide HF2).size; have := hF4.size; omega) hS4' (by have := bB_len (j := j) (fun z hz => (unhide HP z hz).1) hn (show cs.length ≤ 50 by omega); have hq : (cst cs).length ≤ 60 := (by simp [cst, sct]; omega); (try simp only [List.length_append]); omega)
        try rw [List.length_append] at hr5 hO5 hg5
        have hA5 := rof_fr hO4 hF5 (fun g hg hm => by
          rcases hg4 g hg with q | q
          · exact (unhide HD11) g q (by simpa using hm)
          · have := l8 g (by simpa using hm); have := hfw3.size; omega)
        have HR3 := hide hr3
        have HR4 := hide hr4
        have HR5 := hide hr5
        have hdj5 : ∀ g, (Value.slice a4 ((aA yss i).length + (2 + (ys.length - 1))) c4).ownBlock = some g → (Value.slice a5 (((bB cs j yss i).length + (cst cs).length) + (2 + (ys.length - 1))) c5).ownBlock ≠ some g := fun g h1 h2 => by
          rcases hg4 g h1 with q | q
          · rcases hg5 g h2 with r | r
            · exact (unhide HD11) g q r
            · have := l7 g q; have := hfw3.size; have := hF4.size; omega
          · rcases hg5 g h2 with r | r
            · have := l8 g r; have := hfw3.size; omega
            · have := (World.ownsRow.lt hO4 g h1).2; omega
        have HDn := hide hdj5
        have HAn := hide hA5
        have HBn := hide hO5
        have HFn := hide ((((unhide HF2).trans hfw3).thenL hF4 (fun q hq => .inr (b7 q (by simpa using hq)))).thenL hF5 (fun q hq => .inr (by have := b8 q (by simpa using hq); omega)))
        clear hr3 hO3 hS3 hF3 hg3 hA3 hB3 hr4 hO4 hS4 hF4 hg4 hr5 hO5 hS5 hF5 hg5 hA5 hB4 hS4' hS3' hO1 hdj5 hfw3 o3 l7 l8 b7 b8 HA2 HB2 HT2
        refine rdA 7 1023 (fun Kk hKk => ?_)
        go_simp
        refine hKk.out _ _ ?_ (fun hHeld => ?_)
        · (try dsimp only)
          exact gxa
        clear hKk Kk
        (try simp only [List.setIfInBounds_toArray, List.set_cons_zero, List.set_cons_succ])
        refine rdA 10 2047 (fun Kk hKk => ?_)
        rw [if_pos (by rfl)]
        refine oper_app (by rfl) (by rfl) (unhide HR3) ?_
        refine hKk.out _ _ ?_ (fun hHeld => ?_)
        · (try dsimp only)
          exact gx3
        clear hKk Kk
        (try simp only [List.setIfInBounds_toArray, List.set_cons_zero, List.set_cons_succ])
        refine tkA 11 11 4095 ?_
        refine wpAnyH_done (by kernel_rfl) ?_ _
        clear HR3 gx2 gx3 gxa hHeld
        go_wp2_with (at_builtin; first | (refine wpList_appT (w := w3) (t := 22) (by rfl) rfl rfl (unhide HR4) ?_) | (refine wpList_appT (w := w4) (t := 22) (by rfl) rfl rfl (unhide HR5) ?_))
        refine ⟨⟨i + 1, by omega, by go_num, by rw [aA_next hat]; exact unhide HAn, by rw [bB_here hat (unhide HIJ)]; exact unhide HBn, unhide HDn, fun z hz => ?_, unhide HFn⟩, by simp [intOf]; omega⟩
        rw [take_at hat] at hz
        rcases List.mem_append.1 hz with q | q
        · exact unhide HP z q
        · simp at q
          subst q
          exact ⟨⟨by omega, by omega⟩, hyb⟩
      · have hij2 : ((i : Int) == (j : Int)) = false := by simp; omega
        go_wp2_with fail
        have hdr : Fr [] wr wr.drew := (Fr.refl _ _).drew
        refine wp_region_held_drew (S := fun w' => w'.cell? ⟨b2, o2, none⟩ = some (.int .u8 (pr ys).1)) (by kernel_rfl) ?_ (fun hHeld => ?_)
        · (try dsimp only)
          exact hdr.keep gx (by simp)
        have HB2 : Hid (Ow wr.drew (w1.heap.size + 1) (.slice p8 (bB cs j yss i).length c8) (bB cs j yss i)) := hide (rof_fr (unhide HB) hdr (by simp))
        have HA2 : Hid (Ow wr.drew w1.heap.size (.slice p7 (aA yss i).length c7) (aA yss i)) := hide (rof_fr (unhide HA) hdr (by simp))
        have HF2 := hide ((unhide HFr).trans hdr)
        have HT2 := hide ((unhide HD1).fr hdr (by simp))
        have gx2 := hdr.keep gx (by simp)
        clear hdr
        generalize wr.drew = wv at *
        refine lst0 12 (by kernel_rfl) ?_
        refine tkA 0 68 1 ?_
        refine tkA 1 69 3 ?_
        refine tkA 2 70 7 ?_
        refine tkA 3 71 15 ?_
        refine tkA 4 72 31 ?_
        refine tkA 5 73 63 ?_
        refine tkA 6 74 127 ?_
        refine tkA 8 76 383 ?_
        refine tkA 9 77 895 ?_
        have hfa : Fr [] wv (wv.alloc (.cells #[.int .u8 (pr ys).1, .int .u8 ((pr ys).2.length : Int)] 5)) := (Fr.refl [] wv).alloc _
        have hb2 : b2 < wv.heap.size := World.block_lt_of_cell? wv _ gx2
        have hO1 : Ow (wv.alloc (.cells #[.int .u8 (pr ys).1, .int .u8 ((pr ys).2.length : Int)] 5)) wv.heap.size (.slice (some ⟨wv.heap.size, 0, none⟩) 2 2) [(pr ys).1, ((pr ys).2.length : Int)] := ow_lit wv [(pr ys).1, ((pr ys).2.length : Int)] 2 rfl (by omega)
        obtain ⟨a3, c3, w3, hr3, hO3, hS3, hF3, hg3⟩ := app_fr hO1 hfa.size ((unhide HT2).fr hfa (by simp)) (by simp; omega)
        have gx3 := (hfa.thenL hF3 (fun q hq => .inr (by simp [Value.ownBlock] at hq; omega))).keep gx2 (by simp)
        have gxa := hfa.keep gx2 (by simp)
        have h31 : wv.heap.size + 1 ≤ w3.heap.size := by have := hF3.size; rwa [show (wv.alloc (.cells #[.int .u8 (pr ys).1, .int .u8 ((pr ys).2.length : Int)] 5)).heap.size = wv.heap.size + 1 by simp] at this
        have hfw3 : Fr [] wv w3 := hfa.thenL hF3 (fun q hq => .inr (by simp [Value.ownBlock] at hq; omega))
        have hA3 := rof_fr (unhide HA2) hfw3 (by simp)
        have hB3 := rof_fr (unhide HB2) hfw3 (by simp)
        have hS3' : Sl w3 a3 (2 + (ys.length - 1)) c3 (sct (pr ys).1 (pr ys).2) := hS3
        have o3 : ∀ p, a3 = some p → 0 < 2 + (ys.length - 1) → wv.heap.size ≤ p.block := fun p hp _ => by
          obtain ⟨g, cg, he, hg, _⟩ := hO3.form (by simp)
          injection he with he _ _
          rw [he] at hp
          injection hp with hp
          subst hp
          exact hg
        have l7 := fun g hg => (World.ownsRow.lt (unhide HA2) g hg).2
        have l8 := fun g hg => (World.ownsRow.lt (unhide HB2) g hg).2
        have b7 := fun g hg => (World.ownsRow.lt (unhide HA2) g hg).1
        have b8 := fun g hg => (World.ownsRow.lt (unhide HB2) g hg).1
        obtain ⟨a4, c4, w4, hr4, hO4, hS4, hF4, hg4⟩ := app_fr hA3 (by have := (unhide HF2).size; have := hfw3.size; omega) hS3' (by have := aA_len (fun z hz => (unhide HP z hz).1) hn; omega)
        have hB4 := rof_fr hB3 hF4 (fun g hg hm => (unhide HDj) g (by simpa using hm) hg)
        have hS4' := hS3'.fr hF4 (fun p hp h0 hm => by have := o3 p hp h0; have := l7 p.block (by simpa using hm); omega)
        obtain ⟨a5, c5, w5, hr5, hO5, hS5, hF5, hg5⟩ := app_fr hB4 (by have := (unhide HF2).size; have := hF4.size; omega) hS4' (by have := bB_len (j := j) (fun z hz => (unhide HP z hz).1) hn (show cs.length ≤ 50 by omega); have hq : (cst cs).length ≤ 60 := (by simp [cst, sct]; omega); (try simp only [List.length_append]); omega)
        try rw [List.length_append] at hr5 hO5 hg5
        have hA5 := rof_fr hO4 hF5 (fun g hg hm => by
          rcases hg4 g hg with q | q
          · exact (unhide HDj) g q (by simpa using hm)
          · have := l8 g (by simpa using hm); have := hfw3.size; omega)
        have HR3 := hide hr3
        have HR4 := hide hr4
        have HR5 := hide hr5
        have hdj5 : ∀ g, (Value.slice a4 ((aA yss i).length + (2 + (ys.length - 1))) c4).ownBlock = some g → (Value.slice a5 ((bB cs j yss i).length + (2 + (ys.length - 1))) c5).ownBlock ≠ some g := fun g h1 h2 => by
          rcases hg4 g h1 with q | q
          · rcases hg5 g h2 with r | r
            · exact (unhide HDj) g q r
            · have := l7 g q; have := hfw3.size; have := hF4.size; omega
          · rcases hg5 g h2 with r | r
            · have := l8 g r; have := hfw3.size; omega
            · have := (World.ownsRow.lt hO4 g h1).2; omega
        have HDn := hide hdj5
        have HAn := hide hA5
        have HBn := hide hO5
        have HFn := hide ((((unhide HF2).trans hfw3).thenL hF4 (fun q hq => .inr (b7 q (by simpa using hq)))).thenL hF5 (fun q hq => .inr (by have := b8 q (by simpa using hq); omega)))
        clear hr3 hO3 hS3 hF3 hg3 hA3 hB3 hr4 hO4 hS4 hF4 hg4 hr5 hO5 hS5 hF5 hg5 hA5 hB4 hS4' hS3' hO1 hdj5 hfw3 o3 l7 l8 b7 b8 HA2 HB2 HT2
        refine rdA 7 1023 (fun Kk hKk => ?_)
        go_simp
        refine hKk.out _ _ ?_ (fun hHeld => ?_)
        · (try dsimp only)
          exact gxa
        clear hKk Kk
        (try simp only [List.setIfInBounds_toArray, List.set_cons_zero, List.set_cons_succ])
        refine rdA 10 2047 (fun Kk hKk => ?_)
        rw [if_pos (by rfl)]
        refine oper_app (by rfl) (by rfl) (unhide HR3) ?_
        refine hKk.out _ _ ?_ (fun hHeld => ?_)
        · (try dsimp only)
          exact gx3
        clear hKk Kk
        (try simp only [List.setIfInBounds_toArray, List.set_cons_zero, List.set_cons_succ])
        refine tkA 11 11 4095 ?_
        refine wpAnyH_done (by kernel_rfl) ?_ _
        clear HR3 gx2 gx3 gxa hHeld
        go_wp2_with (at_builtin; first | (refine wpList_appT (w := w3) (t := 22) (by rfl) rfl rfl (unhide HR4) ?_) | (refine wpList_appT (w := w4) (t := 22) (by rfl) rfl rfl (unhide HR5) ?_))
        refine ⟨⟨i + 1, by omega, by go_num, by rw [aA_next hat]; exact unhide HAn, by rw [bB_next hat hij]; exact unhide HBn, unhide HDn, fun z hz => ?_, unhide HFn⟩, by simp [intOf]; omega⟩
        rw [take_at hat] at hz
        rcases List.mem_append.1 hz with q | q
        · exact unhide HP z q
        · simp at q
          subst q
          exact ⟨⟨by omega, by omega⟩, hyb⟩
    · obtain rfl : i = yss.length := by omega
      have hP1 := fun z hz => (hP z hz).1
      have hla := aA_len hP1 hn
      have hlb := bB_len (j := j) hP1 hn (show cs.length ≤ 50 by omega)
      have heq : dec true (bB cs j yss yss.length) = dec true (aA yss yss.length) := by
        by_cases h0 : yss = []
        · rw [h0]; simp [aA, bB]
        · have hlz : 0 < yss.length := List.length_pos_iff.2 h0
          refine zero_same ?_ (fun ys hys => hP1 ys (by rw [List.take_length]; exact hys)) hn (by omega)
          have hj := unhide HJ
          have t1 := Int.tmod_lt_of_pos cut (show (0 : Int) < (yss.length : Int) by omega)
          have t2 := Int.tmod_nonneg (yss.length : Int) hc
          omega
      have hMr := (unhide HM).fr hF (by simp)
      have HX := hide (decode_any (sat := true) hS7 (byt_aA hP) (.inl (by omega)) hMr hMr.four)
      have HYb := hide (byt_bB (j := j) hP (show cs.length ≤ 50 by omega) (unhide HY))
      have HYa := hide (byt_aA hP)
      have HS8 := hide hS8
      have HMr := hide hMr
      have HFr := hide hF
      have HEq := hide heq
      clear hA hB hDj hP hF hS7 hS8 hMr heq hP1 HOA HOB HF2 HRw HS HY HJ
      obtain ⟨m, hm⟩ : ∃ m, dec true (aA yss yss.length) = m := ⟨_, rfl⟩
      have HMk : Hid (Mok m.1) := hide (by rw [← hm]; exact dec_mok true (unhide HYa) (by omega))
      rw [hm] at HX HEq
      go_wp2_with fail
      refine (unhide HX).mono ?_
      rintro _ w2 ⟨vs, rfl, hmo, hM, hF⟩
      obtain ⟨r1, r2, r3, r4⟩ := mod_new hmo
      have hl11 := hmo.len
      have hone := hmo.one
      have HRm := hide r1
      have hf := (hF.trans r3)
      have HMo := hide (hmo.fr0 r3 (by simp))
      have HV := hide r2
      have hS8 := (unhide HS8).fr hf (by simp)
      have hM3 := hM.fr r3 (by simp)
      have HFr := hide ((unhide HFr).trans hf)
      have HX := hide (decode_any (sat := true) hS8 (unhide HYb) (.inl (by omega)) hM3 hM3.four)
      rw [unhide HEq] at HX
      clear hmo hM hF r1 r2 r3 r4 hf hS8 hM3 HS8 HMr
      obtain ⟨w3, hw3⟩ : ∃ w3, (w2.alloc (.cells #[.slice none 0 0, .slice none 0 0, .slice none 0 0, .slice none 0 0, .slice none 0 0, .slice none 0 0, .slice none 0 0, .bool false, .int .u32 0, .slice none 0 0, .slice none 0 0] 34)).setCells w2.heap.size 0 vs = w3 := ⟨_, rfl⟩
      rw [hw3] at HX HMo HV HFr
      go_wp2_with (refine wpList_storeA rfl 34 (.tmp 12) (.tmp 89) rfl rfl (g := w2.heap.size) (off := 0) (cs := vs) rfl rfl (by rw [hl11]; exact szP34) (fun j hj => by rw [Nat.zero_add]; exact (unhide HRm) j (by omega)) hone ?_; rw [hw3])
      clear HRm hw3
      refine (unhide HX).mono ?_
      rintro _ w4 ⟨vs2, rfl, hmo, hM, hF⟩
      obtain ⟨r1, r2, r3, r4⟩ := mod_new hmo
      have hl112 := hmo.len
      have hone2 := hmo.one
      have HRm := hide r1
      have hf := (hF.trans r3)
      have HMo2 := hide (hmo.fr0 r3 (by simp))
      have HV2 := hide r2
      have HMo := hide ((unhide HMo).fr0 hf (by simp))
      have HV := hide ((unhide HV).fr hf (by simp))
      have HFr := hide ((unhide HFr).trans hf)
      clear hmo hM hF r1 r2 r3 r4 hf HX
      obtain ⟨w5, hw5⟩ : ∃ w5, (w4.alloc (.cells #[.slice none 0 0, .slice none 0 0, .slice none 0 0, .slice none 0 0, .slice none 0 0, .slice none 0 0, .slice none 0 0, .bool false, .int .u32 0, .slice none 0 0, .slice none 0 0] 34)).setCells w4.heap.size 0 vs2 = w5 := ⟨_, rfl⟩
      rw [hw5] at HMo2 HV2 HMo HV HFr
      go_wp2_with (refine wpList_storeA rfl 34 (.tmp 14) (.tmp 94) rfl rfl (g := w4.heap.size) (off := 0) (cs := vs2) rfl rfl (by rw [hl112]; exact szP34) (fun j hj => by rw [Nat.zero_add]; exact (unhide HRm) j (by omega)) hone2 ?_; rw [hw5])
      clear HRm hw5
      have hdr : Fr [] w5 w5.drew := (Fr.refl _ _).drew
      refine wp_region_held_drew (S := fun w' => Tab w' w2.heap.size vs ∧ Tab w' w4.heap.size vs2) (by kernel_rfl) ?_ (fun hHeld => ?_)
      · exact ⟨((unhide HV).fr hdr (by simp)).tab, ((unhide HV2).fr hdr (by simp)).tab⟩
      have HA := hide ((unhide HMo).fr0 hdr (by simp))
      have HB := hide ((unhide HMo2).fr0 hdr (by simp))
      have HT1 := hide ((unhide HV).fr hdr (by simp)).tab
      have HT2 := hide ((unhide HV2).fr hdr (by simp)).tab
      have HFr := hide ((unhide HFr).trans hdr)
      clear hdr HV HV2 HMo HMo2
      generalize w5.drew = w6 at *
      refine lst0 11 (by kernel_rfl) ?_
      refine tkA 0 96 1 ?_
      refine tkA 1 97 3 ?_
      refine tkA 2 98 7 ?_
      refine tkA 3 99 15 ?_
      refine tkA 4 100 31 (v := .agg vs.toArray) ?_ (hy := Or.inl ⟨by rfl, fun w hS => by have hq := load_tab hS.1 Tryz.underlying34 rfl (by rw [hl11]; exact szP34); exact yl_tab rfl hq⟩)
      refine tkA 6 102 95 (v := .agg vs2.toArray) ?_ (hy := Or.inl ⟨by rfl, fun w hS => by have hq := load_tab hS.2 Tryz.underlying34 rfl (by rw [hl112]; exact szP34); exact yl_tab rfl hq⟩)
      refine rdA 5 127 (fun Kk hKk => ?_)
      go_simp
      refine (plain20 (unhide HMk) (unhide HA)).mono ?_
      rintro _ w7 ⟨us, rfl, hu, hFu⟩
      have HU := hide hu
      have HB := hide ((unhide HB).fr0 hFu (by simp))
      have HT1 := hide ((unhide HT1).fr hFu (by simp))
      have HT2 := hide ((unhide HT2).fr hFu (by simp))
      have HFr := hide ((unhide HFr).trans hFu)
      clear hu hFu HA
      (try go_wp2_with fail)
      refine hKk.out _ _ ?_ (fun hHeld => ?_)
      · exact ⟨unhide HT1, unhide HT2⟩
      clear hKk Kk
      (try simp only [List.setIfInBounds_toArray, List.set_cons_zero, List.set_cons_succ])
      refine rdA 7 255 (fun Kk hKk => ?_)
      go_simp
      refine (plain20 (unhide HMk) (unhide HB)).mono ?_
      rintro _ w8 ⟨us2, rfl, hu, hFu⟩
      have HU2 := hide hu
      have HU := hide ((unhide HU).mono (P' := fun b => b < w7.heap.size) (fun b h _ => h) |>.fr0 hFu (by simp))
      have HT1 := hide ((unhide HT1).fr hFu (by simp))
      have HT2 := hide ((unhide HT2).fr hFu (by simp))
      have HFr := hide ((unhide HFr).trans hFu)
      clear hu hFu HB
      (try go_wp2_with fail)
      refine hKk.out _ _ ?_ (fun hHeld => ?_)
      · exact ⟨unhide HT1, unhide HT2⟩
      clear hKk Kk
      (try simp only [List.setIfInBounds_toArray, List.set_cons_zero, List.set_cons_succ])
      refine rdA 8 511 (fun Kk hKk => ?_)
      go_simp
      refine (rsame_any (unhide HMk) (unhide HU) (unhide HU2)).mono ?_
      rintro _ w9 ⟨rfl, hFu⟩
      have HT1 := hide ((unhide HT1).fr hFu (by simp))
      have HT2 := hide ((unhide HT2).fr hFu (by simp))
      have HFr := hide ((unhide HFr).trans hFu)
      clear hFu HU HU2
      (try go_wp2_with fail)
      refine hKk.out _ _ ?_ (fun hHeld => ?_)
      · exact ⟨unhide HT1, unhide HT2⟩
      clear hKk Kk
      (try simp only [List.setIfInBounds_toArray, List.set_cons_zero, List.set_cons_succ])
      refine tkA 9 105 1023 ?_
      refine tkA 10 6 2047 ?_
      refine wpAnyH_done (by kernel_rfl) ?_ _
      go_wp2_with fail
      go_ret
      exact ⟨rfl, (unhide HF).trans (unhide HFr)⟩
theorem moduleCustom_any {a : Option Addr} {cap : Nat} {yss : List (List Int)} {b : Option Addr} {lem cbp : Nat} {cs : List Int} {cut : Int} (W : World) (hm : Mk W) (hr : yss = [] ∨ ∃ b off, a = some ⟨b, off, none⟩ ∧ ∀ i ys, yss[i]? = some ys → ∃ u, W.cell? ⟨b, off + i, none⟩ = some u ∧ Pt W ys u) (hS : lem ≤ 140737488355328 → Sl W b lem cbp cs) (hy : Byt cs) :
    Calls Tryz.prog 5 #[.slice a yss.length cap, .int .i64 cut, .slice b lem cbp] W fun r W' => r = .returned (.bool true) ∧ Below W.heap.size W W' := by
  by_cases h1 : 30 < yss.length
  · exact (custom_long hm (.inl h1)).mono fun _ _ h => ⟨h.1, h.2.nil⟩
  by_cases h2 : 50 < lem
  · exact (custom_long hm (.inr (.inl ⟨h1, h2⟩))).mono fun _ _ h => ⟨h.1, h.2.nil⟩
  by_cases h3 : cut < 0
  · exact (custom_long hm (.inr (.inr ⟨h1, h2, h3⟩))).mono fun _ _ h => ⟨h.1, h.2.nil⟩
  exact (custom_short hm hr (by omega) (hS (by omega)) hy (by omega) (by omega)).mono fun _ _ h => ⟨h.1, h.2.nil⟩
end Go.Proofs.YtjoonmpjcophnaaGreatDoor
