/- CdI, CdN, CdQ, CdX, CdY. -/
import Derived.Test.YtjoonmpjcophnaaGreatDoorUa01
import Derived.Test.YtjoonmpjcophnaaGreatDoorUa18
import Derived.Test.YtjoonmpjcophnaaGreatDoorUa28
import Derived.Test.YtjoonmpjcophnaaGreatDoorUa29
import Derived.Test.YtjoonmpjcophnaaGreatDoorUa30
import Derived.Test.YtjoonmpjcophnaaGreatDoorUa34
import Derived.Test.YtjoonmpjcophnaaGreatDoorUa35
namespace Go.Proofs.YtjoonmpjcophnaaGreatDoor
open Go.RowKit

/-- How much there is still to read. -/
def togo (c len : Nat) (w : World) : Nat := 2 * (len - (intOf ((w.cell? ⟨c, 1, none⟩).getD undef)).toNat) + (if intOf ((w.cell? ⟨c, 2, none⟩).getD undef) = 0 then 1 else 0)
theorem togo_cu {c : Nat} {a : Option Addr} {len cap k : Nat} {e : Int} {w : World} (h : Cu c a len cap k e w) : togo c len w = 2 * (len - k) + (if e = 0 then 1 else 0) := by
  unfold togo
  rw [h.2.1, h.2.2.1]
  show 2 * (len - ((k : Int)).toNat) + (if e = 0 then 1 else 0) = _
  rw [Int.toNat_natCast]
theorem iIn : Tryz.prog.info? 160 = some ((Tryz.prog.info? 160).getD default) := by kernel_rfl
theorem size50 : ((Tryz.prog.info? 160).getD default).size = 9 := by kernel_rfl
theorem bytes50 : ((Tryz.prog.info? 160).getD default).bytes ≤ 1000 := Nat.le_of_ble_eq_true (by kernel_rfl)
theorem zero50 : ((Tryz.prog.info? 160).getD default).zero = some (.agg #[.int .i64 0, .int .u8 0, .int .u32 0, .int .u32 0, .int .u64 0, .slice none 0 0, .slice none 0 0, .slice none 0 0, .bool false]) := by kernel_rfl
/-- An opcode that was read is no block's in sixty-four blocks. -/
theorem rOp_deep {sat may : Bool} {deep : Nat} {l : List Int} (h : (rOp sat may deep l).2.2 = 0) : (imI (rOp sat may deep l).1 = 1 → deep ≠ 64) ∧ ((rOp sat may deep l).1 = 5 → may = true) ∧ (rOp sat may deep l).1 ≤ 9223372036854775807 ∨ ¬ Byt l := by
  by_cases hB : Byt l
  · left
    cases l with
    | nil => exact absurd (show (100 : Int) = 0 from h) (by decide)
    | cons b r =>
      have hb := hB b (by simp)
      rw [rOp_cons] at h ⊢
      by_cases q1 : (b == 252 && sat) = true
      · rw [if_pos q1] at h ⊢
        have h1 : (rB (b :: r)).2.2 = 0 := rfl
        unfold rFc at h ⊢
        rw [bd_ok h1] at h ⊢
        have h2 : (rU 32 r).2.2 = 0 := by
          apply Decidable.byContradiction
          intro hn
          rw [show (b :: r).drop (rB (b :: r)).2.1 = r from rfl, bd_no hn] at h
          exact hn h
        rw [show (b :: r).drop (rB (b :: r)).2.1 = r from rfl, bd_ok h2] at h ⊢
        generalize hn : (rU 32 r).1 = n at h ⊢
        cases hd : decide (n ≤ 7) with
        | false => rw [hd] at h; exact absurd (show (108 : Int) = 0 from h) (by decide)
        | true =>
          show (imI (64512 + n) = 1 → deep ≠ 64) ∧ (64512 + n = 5 → may = true) ∧ 64512 + n ≤ 9223372036854775807
          have h0 : 0 ≤ n := by
            have := (rdU_lt r 32 (fun x hx => hB x (by simp [hx]))).1
            rw [← hn]
            exact Int.emod_nonneg _ (by decide)
          have h7 : n ≤ 7 := by simpa using hd
          refine ⟨fun hi => ?_, fun hi => by omega, by omega⟩
          have : n = 0 ∨ n = 1 ∨ n = 2 ∨ n = 3 ∨ n = 4 ∨ n = 5 ∨ n = 6 ∨ n = 7 := by omega
          rcases this with rfl | rfl | rfl | rfl | rfl | rfl | rfl | rfl <;> exact absurd hi (by decide)
      · rw [if_neg q1] at h ⊢
        by_cases q2 : (!imB b || (b == 5 && !may)) = true
        · rw [if_pos q2] at h; exact absurd (show (108 : Int) = 0 from h) (by decide)
        · rw [if_neg q2] at h ⊢
          by_cases q3 : imI b = 1 ∧ deep = 64
          · rw [if_pos q3] at h; exact absurd (show (3 : Int) = 0 from h) (by decide)
          · rw [if_neg q3]
            refine ⟨fun h1 h2 => q3 ⟨h1, h2⟩, fun h5 => ?_, by show b ≤ _; omega⟩
            have h5' : b = 5 := h5
            subst h5'
            cases may
            · exfalso; apply q2; simp
            · rfl
  · exact .inr hB
theorem rd_deep {sat may : Bool} {deep k k' : Nat} {xs : List Int} {y e : Int} (hB : Byt xs) (h : Rd (rOp sat may deep) xs k e y k' 0) : (imI y = 1 → deep ≠ 64) ∧ (y = 5 → may = true) ∧ y ≤ 9223372036854775807 ∧ k + 1 ≤ k' := by
  have he := h.zero rfl
  obtain ⟨a1, a2⟩ := h.live he
  have hp := rOp_pos a2.symm
  rcases rOp_deep a2.symm with h1 | h1
  · rw [← h.val he rfl] at h1
    exact ⟨h1.1, h1.2.1, h1.2.2, by omega⟩
  · exact absurd (byt_dropS hB k) h1
theorem sq_end {sat may : Bool} {deep k k1 : Nat} {xs : List Int} {y e e1 : Int} (h : Rd (rOp sat may deep) xs k e y k1 e1) (hy : e1 ≠ 0 ∨ y = 5 ∨ y = 11) : Rd (sq sat deep may) xs k e (.nil, y == 5) k1 e1 := by
  refine Rd.of_eq (Rd.bd (z := (.nil, false)) (g := fun op => if op = 5 ∨ op = 11 then giv (.nil, op == 5) else bd (.nil, false) (rRest (sq sat) deep op) fun i => bd (.nil, false) (sq sat deep may) fun s => giv (.cons i.1 i.2.1 i.2.2 s.1, s.2)) h ?_) (sq_eq _ _ _ _)
  by_cases he : e1 = 0
  · rw [if_pos (hy.resolve_left (fun q => q he))]
    exact Rd.giv _ _ _ _
  · exact Rd.err _ he
theorem sq_more {sat may : Bool} {deep k k1 k2 k3 : Nat} {xs : List Int} {y e e1 e2 e3 : Int} {i : In} {s : Fo × Bool} (h : Rd (rOp sat may deep) xs k e y k1 e1) (hy : ¬ (y = 5 ∨ y = 11)) (hi : Rd (rRest (sq sat) deep y) xs k1 e1 i k2 e2) (hs : Rd (sq sat deep may) xs k2 e2 s k3 e3) :
    Rd (sq sat deep may) xs k e (.cons i.1 i.2.1 i.2.2 s.1, s.2) k3 e3 := by
  refine Rd.of_eq (Rd.bd (z := (.nil, false)) (g := fun op => if op = 5 ∨ op = 11 then giv (.nil, op == 5) else bd (.nil, false) (rRest (sq sat) deep op) fun i => bd (.nil, false) (sq sat deep may) fun s => giv (.cons i.1 i.2.1 i.2.2 s.1, s.2)) h ?_) (sq_eq _ _ _ _)
  rw [if_neg hy]
  exact hi.bd (hs.bd (Rd.giv _ _ _ _))
set_option maxHeartbeats 8000000 in
set_option maxRecDepth 100000 in
theorem seq_step {n : Nat} {may : Bool} {c rb : Nat} {a : Option Addr} {len cap : Nat} {xs : List Int} {sat : Bool} {deep k : Nat} {e : Int} {W : World} (HI : Hid (e = 0 → PSeq c rb a len cap xs sat n)) (hd : deep ≤ 64) (hn : e = 0 → len - k < n + 1) (h : Rs c rb a len cap xs sat deep k e W) :
  Calls Tryz.prog 158 #[.pointer (some ⟨rb, 0, none⟩), .bool may] W fun r W' => ∃ p q s m T t k' e', r = .returned (.tuple #[.slice p q s, .int .i64 m]) ∧ Rd (sq sat deep may) xs k e (T, t) k' e' ∧ (e' = 0 → Fov W' (fun b => W.heap.size ≤ b) T (.slice p q s) ∧ m = if t then 5 else 11) ∧ Rs c rb a len cap xs sat deep k' e' W' ∧ Fr [c, rb] W W' := by
  have HR0 := hide h
  have HO : Hid (Old W.heap.size c rb a len) := hide (h.old (Nat.le_refl W.heap.size))
  have HN := hide hn
  have HD := hide hd
  have hl6 := h.cur.2.2.2.2.2
  clear h hn hd
  go_enter Tryz.func158, Tryz.ntmps158
  go_wp2_with fail
  go_loopw [4] (fun v4 wr => ∃ (T : Fo) (cs : List Value) (k1 : Nat) (e1 : Int), Rw 160 W.heap.size v4 T cs e1 wr ∧ Rs c rb a len cap xs sat deep k1 e1 wr ∧ Fr [c, rb] W wr ∧ (e1 = 0 → e = 0 ∧ T.len + k ≤ k1) ∧ T.len ≤ len + 1 ∧ ∀ s k' e', Rd (sq sat deep may) xs k1 e1 s k' e' → Rd (sq sat deep may) xs k e (T.app s.1, s.2) k' e') (fun _ wr => togo c len wr)
  case atStart => exact ⟨.nil, [], k, e, rw_nil _ _ _ _, unhide HR0, Fr.refl _ _, fun q => ⟨q, by simp [Fo.len]⟩, by simp [Fo.len], fun s k' e' q => q⟩
  case round =>
    obtain ⟨T, cs, k1, e1, hW, hR, hF, hM, hTl, hK⟩ := hrel
    have hgo := togo_cu hR.cur.1
    have HW := hide hW
    have HF := hide hF
    have HK := hide hK
    have HM := hide hM
    have HG := hide hgo
    have HTL := hide hTl
    go_wp2_with fail
    have HC := hide (unhide HO).c
    have HRb := hide (unhide HO).r
    have HBy := hide hR.byt
    refine (op_any hR).mono ?_
    rintro _ w1 ⟨y, k2, e2, rfl, hD, hR, hF1⟩
    have HW : Hid (Rw 160 W.heap.size u4 T cs e2 w1) := hide ((unhide HW).fr (fr_c (rb := rb) hF1) (by have := unhide HC; have := unhide HRb; simp; omega) (fun q => hD.zero q))
    have HF := hide ((unhide HF).trans (fr_c hF1))
    have HDo := hide hD
    have HR := hide hR
    clear hW hD hF hF1 hM hTl hK hgo
    go_wp2_with fail
    refine (rfailed_any hR).mono ?_
    rintro _ w2 ⟨rfl, hww⟩
    obtain rfl : w1 = w2 := hww.symm
    clear hww
    by_cases he : e2 = 0
    · have he' : (e2 != 0) = false := by simp [he]
      by_cases h5 : y = 5
      · have h5' : (y == 5) = true := by simp [h5]
        clear hR
        go_wp2_with fail
        obtain ⟨p, s, rfl⟩ := (unhide HW).slice
        go_ret2
        have hk := unhide HK _ _ _ (sq_end (unhide HDo) (.inr (.inl h5)))
        rw [Fo.app_nil] at hk
        exact ⟨p, T.len, s, _, T, y == 5, _, _, rfl, hk, fun q => ⟨(unhide HW).fov q, by rw [h5']; rfl⟩, unhide HR, unhide HF⟩
      · have h5' : (y == 5) = false := by simp [h5]
        by_cases h11 : y = 11
        · have h11' : (y == 11) = true := by simp [h11]
          clear hR
          go_wp2_with fail
          obtain ⟨p, s, rfl⟩ := (unhide HW).slice
          go_ret2
          have hk := unhide HK _ _ _ (sq_end (unhide HDo) (.inr (.inr h11)))
          rw [Fo.app_nil] at hk
          exact ⟨p, T.len, s, _, T, y == 5, _, _, rfl, hk, fun q => ⟨(unhide HW).fov q, by rw [h5']; rfl⟩, unhide HR, unhide HF⟩
        · have h11' : (y == 11) = false := by simp [h11]
          subst he
          obtain ⟨d1, d2, d3, d4⟩ := rd_deep (unhide HBy) (unhide HDo)
          have hk2 := hR.cur.2.2.2.2.1
          obtain ⟨m1, m2⟩ := unhide HM ((unhide HDo).zero rfl)
          have hI : InstrP c rb a len cap xs sat deep k2 0 y w1 := instr_any (hide (unhide HI m1)) hR (fun _ => by have := unhide HN m1; omega) (fun q => by have := d1 q; have := unhide HD; omega) d3
          unfold InstrP at hI
          clear hR
          go_wp2_with fail
          refine hI.mono ?_
          clear hI
          rintro _ w3 ⟨h', l1, l2, l3, p1, q1, s1, p2, q2, s2, i, k3, e3, rfl, hDi, hV, hR3, hF3⟩
          obtain ⟨p, s, w4, hrun, hW4, hFr, ll, hll, hlb⟩ := Rw.app (t := 110) (ty := 160) Tryz.underlying110 iIn zero50 size50 rfl bytes50 rfl (unhide HW) ⟨[c, rb], hF3, by have := unhide HC; have := unhide HRb; simp; omega⟩ (unhide HF).size (by omega) (hd := h') (t' := i.2.1) (e' := i.2.2) (lv := .slice l1 l2 l3) (vt := .slice p1 q1 s1) (ve := .slice p2 q2 s2) (e2 := e3) rfl rfl rfl (fun _ => rfl) (fun q => (hV q).2) rfl
          have HR := hide (hR3.fr hll (unhide HO) hlb)
          have HF := hide (hFr _ _ ((unhide HF).trans hF3) (Nat.le_refl _))
          have HX := hide hrun
          have HW := hide hW4
          have HDi := hide hDi
          have HEq := hide (fun q => (hV q).1)
          have hk3 := hR3.cur.2.2.2.2.1
          have hu3 := hDi.up
          clear hrun hW4 hFr hll hlb hDi hV hR3 hF3
          go_wp2_with (at_builtin; refine wpList_appT (by rfl) rfl rfl (unhide HX) ?_)
          refine ⟨⟨T.app (.cons i.1 i.2.1 i.2.2 .nil), cs ++ hcells h' (.slice l1 l2 l3) (.slice p1 q1 s1) (.slice p2 q2 s2), k3, e3, ?_, unhide HR, unhide HF, fun q => ⟨m1, ?_⟩, ?_, fun s k' e' hs => ?_⟩, ?_⟩
          · refine ⟨(unhide HW).own.1 |> fun _ => ?_, fun q => ?_⟩
            · rw [Fo.len_app]; have := (unhide HW).own; rw [Fo.len_app] at this; exact this
            · rw [unhide HEq q]; exact (unhide HW).enc q
          · rw [Fo.len_app]; show T.len + 1 + k ≤ k3; omega
          · rw [Fo.len_app]; show T.len + 1 ≤ len + 1; omega
          · rw [Fo.app_app]
            exact unhide HK _ _ _ (sq_more (unhide HDo) (by omega) (unhide HDi) hs)
          · rw [unhide HG, togo_cu (unhide HR).cur.1, if_pos ((unhide HDo).zero rfl)]
            split <;> omega
    · have he' : (e2 != 0) = true := by simp [he]
      clear hR
      go_wp2_with fail
      obtain ⟨p, s, rfl⟩ := (unhide HW).slice
      go_ret2
      have hk := unhide HK _ _ _ (sq_end (unhide HDo) (.inl he))
      rw [Fo.app_nil] at hk
      exact ⟨p, T.len, s, _, T, y == 5, _, _, rfl, hk, fun q => absurd q he, unhide HR, unhide HF⟩
theorem seq_any {c rb : Nat} {a : Option Addr} {len cap : Nat} {xs : List Int} {sat : Bool} : ∀ n, PSeq c rb a len cap xs sat n
  | 0 => fun _ _ _ _ _ hd hn h => seq_step (n := 0) (hide fun q => absurd (hn q) (Nat.not_lt_zero _)) hd (fun q => by have := hn q; omega) h
  | n + 1 => fun _ _ _ _ _ hd hn h => seq_step (hide fun _ => seq_any n) hd hn h
end Go.Proofs.YtjoonmpjcophnaaGreatDoor
namespace Go.Proofs.YtjoonmpjcophnaaGreatDoor
open Go.RowKit

theorem bd_inv {A B : Type} {z : B} {f : Rr A} {g : A → Rr B} {l : List Int} (h : (bd z f g l).2.2 = 0) : (f l).2.2 = 0 ∧ (g (f l).1 (l.drop (f l).2.1)).2.2 = 0 ∧ bd z f g l = ((g (f l).1 (l.drop (f l).2.1)).1, (f l).2.1 + (g (f l).1 (l.drop (f l).2.1)).2.1, 0) := by
  by_cases h1 : (f l).2.2 = 0
  · rw [bd_ok h1] at h ⊢
    exact ⟨h1, h, by simp only at h; rw [h]⟩
  · rw [bd_no h1] at h
    exact absurd h h1
def Fo.dep : Fo → Nat
  | .nil => 0
  | .cons h t e r => max (if max t.dep e.dep > 0 ∨ t.len + e.len > 0 ∨ (2 ≤ h.op ∧ h.op ≤ 4) then max t.dep e.dep + 1 else max t.dep e.dep) r.dep
theorem repU_len : ∀ n l, (repU n l).2.2 = 0 → (repU n l).1.length = n
  | 0, _, _ => rfl
  | n + 1, l, h => by
    unfold repU at h ⊢
    obtain ⟨h1, h2, h3⟩ := bd_inv h
    rw [h3]
    obtain ⟨g1, g2, g3⟩ := bd_inv h2
    rw [g3]
    show (_ :: _).length = n + 1
    rw [List.length_cons, repU_len n _ g1]
theorem rLab_len {l : List Int} (hB : Byt l) (h : (rLab l).2.2 = 0) : (rLab l).1.length ≤ 4096 := by
  unfold rLab at h ⊢
  obtain ⟨h1, h2, h3⟩ := bd_inv h
  rw [h3]
  show (repU _ _).1.length ≤ 4096
  rw [repU_len _ _ h2]
  have := (count_le hB 0 0).2
  rw [lift_0, List.drop_zero] at this
  have h' : (rCount l).1 ≤ 4096 := this
  omega
/-- No list is too long, for what was read. -/
def Lk : Fo → Prop
  | .nil => True
  | .cons h t e r => h.op ≤ 9223372036854775807 ∧ h.list.length ≤ 4096 ∧ Lk t ∧ Lk e ∧ Lk r
/-- What holds of instructions that were read. -/
structure Red (deep : Nat) (may : Bool) (l : List Int) (x : (Fo × Bool) × Nat × Int) : Prop where
  size : x.1.1.size + 1 ≤ x.2.1
  lk : Lk x.1.1
  dep : x.1.1.dep + deep ≤ 64
  last : may = false → x.1.2 = false ∧ l.getD (x.2.1 - 1) 0 = 11
/-- What holds of one that was read. -/
structure Rei (deep : Nat) (op : Int) (x : In × Nat × Int) : Prop where
  size : x.1.2.1.size + x.1.2.2.size ≤ x.2.1
  list : x.1.1.list.length ≤ 4096
  lk : Lk x.1.2.1 ∧ Lk x.1.2.2
  opq : x.1.1.op = op
  blk : imI op = 1 → x.1.2.1.dep + deep + 1 ≤ 64 ∧ x.1.2.2.dep + deep + 1 ≤ 64
  non : imI op ≠ 1 → x.1.2.1 = .nil ∧ x.1.2.2 = .nil
theorem plain_rei {deep : Nat} {op : Int} {l : List Int} (hB : Byt l) (hi : imI op ≠ 1) (h : (rPlain op l).2.2 = 0) : Rei deep op (rPlain op l) := by
  have base : ∀ (hd : Hd) (n : Nat), hd.list.length ≤ 4096 → hd.op = op → Rei deep op ((hd, .nil, .nil), n, 0) := fun hd n h1 h2 => ⟨Nat.zero_le _, h1, ⟨trivial, trivial⟩, h2, fun q => absurd q hi, fun _ => ⟨rfl, rfl⟩⟩
  unfold rPlain at h ⊢
  by_cases h1 : imI op = 2 ∨ imI op = 4
  · rw [if_pos h1] at h ⊢
    obtain ⟨_, _, g⟩ := bd_inv h
    rw [g]; exact base _ _ (Nat.zero_le _) rfl
  rw [if_neg h1] at h ⊢
  by_cases h2 : imI op = 3
  · rw [if_pos h2] at h ⊢
    obtain ⟨a1, a2, g⟩ := bd_inv h
    obtain ⟨_, _, g'⟩ := bd_inv a2
    rw [g, g']; exact base _ _ (rLab_len hB a1) rfl
  rw [if_neg h2] at h ⊢
  by_cases h3 : imI op = 5
  · rw [if_pos h3] at h ⊢
    obtain ⟨_, a2, g⟩ := bd_inv h
    obtain ⟨_, _, g'⟩ := bd_inv a2
    rw [g, g']; exact base _ _ (Nat.zero_le _) rfl
  rw [if_neg h3] at h ⊢
  by_cases h4 : imI op = 6
  · rw [if_pos h4] at h ⊢
    obtain ⟨_, a2, g⟩ := bd_inv h
    obtain ⟨_, _, g'⟩ := bd_inv a2
    rw [g, g']; exact base _ _ (Nat.zero_le _) rfl
  rw [if_neg h4] at h ⊢
  by_cases h5 : imI op = 7
  · rw [if_pos h5] at h ⊢
    obtain ⟨_, _, g⟩ := bd_inv h
    rw [g]; exact base _ _ (Nat.zero_le _) rfl
  rw [if_neg h5] at h ⊢
  by_cases h6 : imI op = 8
  · rw [if_pos h6] at h ⊢
    obtain ⟨_, _, g⟩ := bd_inv h
    rw [g]; exact base _ _ (Nat.zero_le _) rfl
  rw [if_neg h6] at h ⊢
  by_cases h7 : imI op = 9
  · rw [if_pos h7] at h ⊢
    obtain ⟨_, _, g⟩ := bd_inv h
    rw [g]; exact base _ _ (Nat.zero_le _) rfl
  rw [if_neg h7] at h ⊢
  by_cases h8 : imI op = 10
  · rw [if_pos h8] at h ⊢
    obtain ⟨_, _, g⟩ := bd_inv h
    rw [g]; exact base _ _ (Nat.zero_le _) rfl
  rw [if_neg h8] at h ⊢
  by_cases h9 : imI op = 11
  · rw [if_pos h9] at h ⊢
    obtain ⟨_, _, g⟩ := bd_inv h
    rw [g]; exact base _ _ (Nat.zero_le _) rfl
  rw [if_neg h9]; exact base _ _ (Nat.zero_le _) rfl
theorem rest_rei {sat : Bool} {deep : Nat} {op : Int} {l : List Int} (hB : Byt l) (hS : ∀ d m (l' : List Int), l'.length ≤ l.length → Byt l' → (sq sat d m l').2.2 = 0 → d ≤ 64 → Red d m l' (sq sat d m l')) (hd : deep ≤ 64) (hb : imI op = 1 → deep ≠ 64) (h : (rRest (sq sat) deep op l).2.2 = 0) : Rei deep op (rRest (sq sat) deep op l) := by
  unfold rRest at h ⊢
  by_cases h1 : imI op = 1
  · rw [if_pos h1] at h ⊢
    have hdp := hb h1
    unfold rBlk at h ⊢
    obtain ⟨a1, a2, g⟩ := bd_inv h
    rw [g]
    generalize hl1 : l.drop (rResults l).2.1 = l1 at *
    have hll : l1.length ≤ l.length := by rw [← hl1, List.length_drop]; omega
    obtain ⟨b1, b2, g'⟩ := bd_inv a2
    rw [g']
    have hB1 : Byt l1 := by rw [← hl1]; exact byt_dropS hB _
    have r1 := hS (deep + 1) (op == 4) l1 hll hB1 b1 (by omega)
    generalize hx : sq sat (deep + 1) (op == 4) l1 = x at *
    obtain ⟨⟨T, s⟩, n1, e1⟩ := x
    cases s with
    | true =>
      rw [if_pos rfl] at b2 ⊢
      obtain ⟨c1, c2, g''⟩ := bd_inv b2
      rw [g'']
      have r2 := hS (deep + 1) false (l1.drop n1) (by rw [List.length_drop]; omega) (byt_dropS hB1 n1) c1 (by omega)
      generalize sq sat (deep + 1) false (l1.drop n1) = x2 at *
      obtain ⟨⟨T2, s2⟩, n2, e2⟩ := x2
      have z1 := r1.size
      have z2 := r2.size
      have d1 := r1.dep
      have d2 := r2.dep
      simp only at z1 z2 d1 d2
      exact ⟨by show T.size + T2.size ≤ _ + (n1 + (n2 + 0)); omega, Nat.zero_le _, ⟨r1.lk, r2.lk⟩, rfl, fun _ => ⟨by show T.dep + deep + 1 ≤ 64; omega, by show T2.dep + deep + 1 ≤ 64; omega⟩, fun q => absurd h1 q⟩
    | false =>
      rw [if_neg (by simp)]
      have z1 := r1.size
      have d1 := r1.dep
      simp only at z1 d1
      exact ⟨by show T.size + 0 ≤ _ + (n1 + 0); omega, Nat.zero_le _, ⟨r1.lk, trivial⟩, rfl, fun _ => ⟨by show T.dep + deep + 1 ≤ 64; omega, by show 0 + deep + 1 ≤ 64; omega⟩, fun q => absurd h1 q⟩
  · rw [if_neg h1] at h ⊢
    exact plain_rei hB h1 h
theorem low_block {op : Int} (h : 2 ≤ op ∧ op ≤ 4) : imI op = 1 := by
  have : op = 2 ∨ op = 3 ∨ op = 4 := by omega
  rcases this with rfl | rfl | rfl <;> decide
theorem sq_red {sat : Bool} : ∀ (N : Nat) (l : List Int), l.length ≤ N → Byt l → ∀ (deep : Nat) (may : Bool), (sq sat deep may l).2.2 = 0 → deep ≤ 64 → Red deep may l (sq sat deep may l) := by
  intro N
  induction N with
  | zero =>
    intro l hl hB deep may h hd
    have : l = [] := List.eq_nil_of_length_eq_zero (by omega)
    subst this
    exact absurd (show (100 : Int) = 0 from h) (by decide)
  | succ N ih =>
    intro l hl hB deep may h hd
    rw [sq_eq] at h ⊢
    obtain ⟨a1, a2, g⟩ := bd_inv h
    rw [g]
    have hp := rOp_pos a1
    have hlen := (gq_Op sat may deep).len l
    rcases rOp_deep a1 with hdd | hdd
    · generalize hx : rOp sat may deep l = x at *
      obtain ⟨op, n1, e1⟩ := x
      simp only at a1 hp hlen hdd a2 ⊢
      have hB1 : Byt (l.drop n1) := byt_dropS hB n1
      by_cases hy : op = 5 ∨ op = 11
      · rw [if_pos hy]
        refine ⟨by show 0 + 1 ≤ n1 + 0; omega, trivial, by show 0 + deep ≤ 64; omega, fun hm => ?_⟩
        have h11 : op = 11 := by
          rcases hy with q | q
          · have := hdd.2.1 q; rw [hm] at this; cases this
          · exact q
        subst h11
        refine ⟨rfl, ?_⟩
        show l.getD (n1 + 0 - 1) 0 = 11
        cases l with
        | nil =>
          have : ((0 : Int), 0, (100 : Int)) = (11, n1, e1) := hx
          have q : (0 : Int) = 11 := congrArg Prod.fst this
          exact absurd q (by decide)
        | cons c r =>
          rw [rOp_cons] at hx
          split at hx
          · exfalso
            have h0 : (rFc (c :: r)).2.2 = 0 := by rw [hx]; exact a1
            have h1 : (rFc (c :: r)).1 = 11 := by rw [hx]
            unfold rFc at h0 h1
            obtain ⟨_, g2, g3⟩ := bd_inv h0
            rw [g3] at h1
            obtain ⟨_, g5, g6⟩ := bd_inv g2
            rw [g6] at h1
            generalize hn : (rU 32 ((c :: r).drop (rB (c :: r)).2.1)).1 = n at h1 g5
            have hn0 : 0 ≤ n := by rw [← hn]; exact Int.emod_nonneg _ (by decide)
            cases hq : decide (n ≤ 7) with
            | true => rw [hq] at h1; have h1' : 64512 + n = 11 := h1; omega
            | false => rw [hq] at g5; exact absurd (show (108 : Int) = 0 from g5) (by decide)
          · split at hx
            · have q : (0 : Int) = 11 := congrArg Prod.fst hx
              exact absurd q (by decide)
            · split at hx
              · have q : (0 : Int) = 11 := congrArg Prod.fst hx
                exact absurd q (by decide)
              · injection hx with q1 q2
                injection q2 with q2 q3
                subst q1; subst q2
                rfl
      · rw [if_neg hy] at a2 ⊢
        obtain ⟨b1, b2, g2⟩ := bd_inv a2
        rw [g2]
        have hl1 : (l.drop n1).length ≤ N := by rw [List.length_drop]; omega
        have r1 := rest_rei (sat := sat) hB1 (fun d m l' hl' hB' hh hd' => ih l' (by omega) hB' d m hh hd') hd hdd.1 b1
        generalize hl1' : l.drop n1 = l1 at *
        generalize hx2 : rRest (sq sat) deep op l1 = x2 at *
        obtain ⟨⟨hh, t, e⟩, n2, e2⟩ := x2
        simp only at b1 b2 r1 ⊢
        obtain ⟨c1, c2, g3⟩ := bd_inv b2
        rw [g3]
        have r2 := ih (l1.drop n2) (by rw [List.length_drop]; omega) (byt_dropS hB1 n2) deep may c1 hd
        generalize hx3 : sq sat deep may (l1.drop n2) = x3 at *
        obtain ⟨⟨T, s⟩, n3, e3⟩ := x3
        obtain ⟨z1, z2, z3, z4⟩ := r2
        obtain ⟨y1, y2, y3, y4, y5, y6⟩ := r1
        simp only at z1 z2 z3 z4 y1 y2 y3 y4 y5 y6
        refine ⟨by show (1 + t.size + e.size + T.size) + 1 ≤ n1 + (n2 + (n3 + 0)); omega, ⟨by rw [y4]; exact hdd.2.2, y2, y3.1, y3.2, z2⟩, ?_, fun hm => ⟨(z4 hm).1, ?_⟩⟩
        · show max (if max t.dep e.dep > 0 ∨ t.len + e.len > 0 ∨ (2 ≤ hh.op ∧ hh.op ≤ 4) then max t.dep e.dep + 1 else max t.dep e.dep) T.dep + deep ≤ 64
          by_cases hi : imI op = 1
          · have := y5 hi
            split <;> omega
          · obtain ⟨rfl, rfl⟩ := y6 hi
            rw [if_neg (by
              rw [y4]
              intro hh
              rcases hh with hh | hh | hh
              · exact absurd hh (by decide)
              · exact absurd hh (by decide)
              · exact hi (low_block hh))]
            show max (max 0 0) T.dep + deep ≤ 64
            omega
        · have := (z4 hm).2
          show l.getD (n1 + (n2 + (n3 + 0)) - 1) 0 = 11
          rw [getD_dropS, ← hl1', getD_dropS] at this
          rw [show n1 + (n2 + (n3 + 0)) - 1 = n1 + (n2 + (n3 - 1)) by omega]
          exact this
    · exact absurd hB hdd
end Go.Proofs.YtjoonmpjcophnaaGreatDoor
namespace Go.Proofs.YtjoonmpjcophnaaGreatDoor
open Go.RowKit

/-- The document's reader's memory. -/
structure Rq (c rb : Nat) (a : Option Addr) (len cap : Nat) (xs : List Int) (sat : Bool) (k : Nat) (e : Int) (w : World) : Prop where
  cur : Cs c a len cap xs k e w
  rdr : At2 rb (.pointer (some ⟨c, 0, none⟩)) (.bool sat) w
  var : Mk w
  ne : rb ≠ c
  c3 : 4 ≤ c
  r3 : 4 ≤ rb
  far : ∀ p, a = some p → 0 < len → p.block ≠ rb
section
variable {c rb : Nat} {a : Option Addr} {len cap : Nat} {xs : List Int} {sat : Bool} {k : Nat} {e : Int} {w w' : World}
theorem Rq.old (h : Rq c rb a len cap xs sat k e w) {N : Nat} (hN : w.heap.size ≤ N) : Old N c rb a len :=
  have hc := h.cur.1.lt
  have hr := World.block_lt_of_cell? w _ h.rdr.1
  ⟨by have := h.c3; omega, by omega, by simp only at hr; omega, fun p hp hl => Nat.lt_of_lt_of_le (h.cur.2.1.lt p hp hl) hN⟩
theorem Rq.fr {l : List Nat} {N : Nat} (h : Rq c rb a len cap xs sat k e w) (hf : Fr l w w') (ho : Old N c rb a len) (hl : ∀ i ∈ l, N ≤ i) : Rq c rb a len cap xs sat k e w' :=
  ⟨h.cur.fr hf (fun hm => by have := hl c hm; have := ho.c; omega) (fun p hp hn hm => by have := hl _ hm; have := ho.b p hp hn; omega),
   h.rdr.fr hf (fun hm => by have := hl rb hm; have := ho.r; omega),
   h.var.fr hf (fun i hi => by have := hl i hi; have := ho.n3; omega), h.ne, h.c3, h.r3, h.far⟩
theorem Rq.bel (h : Rq c rb a len cap xs sat k e w) (hf : Below w.heap.size w w') : Rq c rb a len cap xs sat k e w' :=
  h.fr (Fr.of hf []) (h.old (Nat.le_refl _)) (by simp)
theorem Rq.step {k' : Nat} {e' : Int} (h : Rq c rb a len cap xs sat k e w) (hf : Fr [c] w w') (hc : Cs c a len cap xs k' e' w') : Rq c rb a len cap xs sat k' e' w' :=
  ⟨hc, h.rdr.fr hf (by simpa using h.ne), h.var.fr hf (by simpa using h.c3), h.ne, h.c3, h.r3, h.far⟩
theorem Rq.byt (h : Rq c rb a len cap xs sat k e w) : Byt xs := h.cur.2.2.2.1
end
end Go.Proofs.YtjoonmpjcophnaaGreatDoor
namespace Go.Proofs.YtjoonmpjcophnaaGreatDoor
open Go.RowKit

section
variable {P : Program} {ops : Array Oper} {Q : Exit → Act → World → Prop} {md : Region.Mode} {S : World → Prop}
/-- Two that may come up. -/
theorem rdB (i j mi mj : Nat) {ds ds' : Option Tmp} {op op' : Op} {ty ty' : TypeId} {pos pos' : String} {af af' : Array Edge} {g g' : Option (Nat × Bool)} {n m fuel : Nat} {a : Act} {w : World}
    (h : ∀ K' : Act → World → Prop, Shut (∀ a w, S w → (S w → wpAnyH P md ops Q S fuel (lst n mi) a w) → K' a w) → if Region.wanted ⟨ds, op, ty, pos, af, g⟩ (yielded ops a.tmps) = true then Oper.wp P ⟨ds, op, ty, pos, af, g⟩ a w K' Q else K' (a.put ds undef) w)
    (h' : ∀ K' : Act → World → Prop, Shut (∀ a w, S w → (S w → wpAnyH P md ops Q S fuel (lst n mj) a w) → K' a w) → if Region.wanted ⟨ds', op', ty', pos', af', g'⟩ (yielded ops a.tmps) = true then Oper.wp P ⟨ds', op', ty', pos', af', g'⟩ a w K' Q else K' (a.put ds' undef) w)
    (hi : ops[i]? = some ⟨ds, op, ty, pos, af, g⟩ := by rfl) (hj : ops[j]? = some ⟨ds', op', ty', pos', af', g'⟩ := by rfl) (hr : Region.ready md ops (lst n m) = [i, j] := by kernel_rfl) (he : (lst n m).setIfInBounds i true = lst n mi := by kernel_rfl) (he' : (lst n m).setIfInBounds j true = lst n mj := by kernel_rfl) : wpAnyH P md ops Q S (fuel + 1) (lst n m) a w :=
  wpAnyH_ready hr (by simp) (AllReadyH.cons hi (fun K' hK => h K' (by rw [he] at hK; exact hK)) (AllReadyH.cons hj (fun K' hK => h' K' (by rw [he'] at hK; exact hK)) AllReadyH.nil))
end
/-- An append that is known, as an operation. -/
theorem oper_app {t : TypeId} {dst : Option Tmp} {s x : Operand} {pos : String} {af : Array Edge} {g : Option (Nat × Bool)} {a : Act} {w w' : World} {K : Act → World → Prop} {Q : Exit → Act → World → Prop} {v u v' : Value}
    (hs : a.eval s = v) (hx : a.eval x = u) (hrun : (Builtin.append_ #[t, t] t #[v, u]).run Tryz.prog w = .ok v' w') (h : K (a.put dst v') w') :
    Oper.wp Tryz.prog ⟨dst, .call { callee := .builtin .append, args := #[s, x], argTypes := #[t, t] }, t, pos, af, g⟩ a w K Q := by
  unfold Oper.wp
  simp only [execOp, resolve, invoke, builtin, Sem.run_bind, Sem.run_pure, Result.andThen_ok, List.map_toArray, List.map_cons, List.map_nil, hs, hx, hrun]
  exact h
/-- A row of numbers of one's own. -/
def Ou (w : World) (B : Nat) (v : Value) (ys : List Int) : Prop := w.ownsRow B 30 1 v ys.length (uCells ys)
theorem Ou.fr {w w' : World} {B : Nat} {v : Value} {ys : List Int} {l : List Nat} (h : Ou w B v ys) (hf : Fr l w w') (hl : ∀ i ∈ l, i < B) : Ou w' B v ys := by
  refine ⟨h.1, ?_⟩
  rcases h.2 with hn | ⟨g, cap, cur, h1, hb, hgg, rest⟩
  · exact .inl hn
  · refine .inr ⟨g, cap, cur, h1, hb, ?_, rest⟩
    rw [hf.block g (Array.getElem?_eq_some_iff.1 hgg).1 (fun hm => by have := hl g hm; omega)]
    exact hgg
theorem Ou.slice {w : World} {B : Nat} {v : Value} {ys : List Int} (h : Ou w B v ys) : ∃ p s, v = .slice p ys.length s := by
  rcases h.2 with ⟨h1, h2⟩ | ⟨g, cap, cur, h1, _⟩
  · exact ⟨none, 0, by rw [h1, h2]⟩
  · exact ⟨_, _, h1⟩
theorem Ou.slc {w : World} {B : Nat} {v : Value} {ys : List Int} (h : Ou w B v ys) : Slc w (fun b => B ≤ b) ys.length (uCells ys) v := slc_own h (by decide) (fun g hg => (h.lt g hg).1)
end Go.Proofs.YtjoonmpjcophnaaGreatDoor
namespace Go.Proofs.YtjoonmpjcophnaaGreatDoor
open Go.RowKit

theorem iIn73 : Tryz.prog.info? 158 = some ((Tryz.prog.info? 158).getD default) := by kernel_rfl
theorem size73 : ((Tryz.prog.info? 158).getD default).size = 9 := by kernel_rfl
theorem bytes73 : ((Tryz.prog.info? 158).getD default).bytes ≤ 1000 := Nat.le_of_ble_eq_true (by kernel_rfl)
theorem zero73 : ((Tryz.prog.info? 158).getD default).zero = some (.agg #[.int .i64 0, .int .u8 0, .int .u32 0, .int .u32 0, .int .u64 0, .slice none 0 0, .slice none 0 0, .slice none 0 0, .bool false]) := by kernel_rfl
end Go.Proofs.YtjoonmpjcophnaaGreatDoor
