/- RadC. -/
import Derived.Test.YtafejbkjkbgocaaG10
import Derived.Test.YtafejbkjkbgocaaG25
import Derived.Test.YtafejbkjkbgocaaG26
import Derived.Test.YtafejbkjkbgocaaG31
import Derived.WalkMore
import Derived.Deep.Cut
import Derived.Deep.DeepCutAuto
namespace Go.Proofs.Ytafejbkjkbgocaa
open Go.RowKit
open Go.Proofs.Ytafejbkjkbgocaa.W

theorem room2_new (W : World) (v0 v1 : Value) (t : TypeId) : Room W.heap.size 2 (W.alloc (.cells #[v0, v1] t)) := by
  intro o ho
  match o, ho with
  | 0, _ | 1, _ => simp [go_sem]
theorem at2_set2 {b : Nat} {w : World} (h : Room b 2 w) (v0 v1 : Value) : At2 b v0 v1 ((w.setCell ⟨b, 0, none⟩ v0).setCell ⟨b, 1, none⟩ v1) := by
  obtain ⟨⟨u0, h0⟩, _⟩ := h 0 (by omega)
  obtain ⟨⟨u1, h1⟩, _⟩ := (h.set 0 v0) 1 (by omega)
  exact ⟨set_off _ (by omega) (World.cell?_setCell_same _ _ _ h0), World.cell?_setCell_same _ _ _ h1⟩
theorem Room.set2 {b : Nat} {w : World} (h : Room b 2 w) (v0 v1 : Value) : Room b 2 ((w.setCell ⟨b, 0, none⟩ v0).setCell ⟨b, 1, none⟩ v1) := (h.set _ _).set _ _
theorem bset2 {a b : World} {c : Nat} (h : Below a.heap.size a b) (hc : a.heap.size ≤ c) (v0 v1 : Value) : Below a.heap.size a ((b.setCell ⟨c, 0, none⟩ v0).setCell ⟨c, 1, none⟩ v1) := bset (bset h _ hc _ _) _ hc _ _
theorem At4.set2 {b c : Nat} {x y z u : Value} {w : World} (h : At4 b x y z u w) (hc : b ≠ c) (v0 v1 : Value) : At4 b x y z u ((w.setCell ⟨c, 0, none⟩ v0).setCell ⟨c, 1, none⟩ v1) := (h.set hc _ _).set hc _ _
theorem at2_new (w : World) (x y : Value) (t : TypeId) : At2 w.heap.size x y (w.alloc (.cells #[x, y] t)) := by unfold At2; simp [go_sem]

theorem even_iff (x : Int) : x.tmod 2 = 0 ↔ x % 2 = 0 := by
  have h := Int.tmod_add_mul_tdiv x 2
  constructor
  · intro h0
    omega
  · intro h0
    by_cases hx : 0 ≤ x
    · rw [Int.tmod_eq_emod_of_nonneg hx]
      exact h0
    · have h1 : (-x).tmod 2 = -(x.tmod 2) := Int.neg_tmod x 2
      rw [Int.tmod_eq_emod_of_nonneg (by omega)] at h1
      omega
/-- Behind k rounds: no bit is lost, and one more than 127 bits are there only with an even power. -/
def Ev (v : Nat) (X : Int) (k : Nat) : Prop := Go.bitLen v + k ≤ 127 ∨ (Go.bitLen v + k = 128 ∧ (X - k).tmod 2 = 0)
theorem ev_fit {v k : Nat} {X : Int} (h : Ev v X k) : W2 (v * 2 ^ k) := by
  unfold W2
  by_cases h0 : v = 0
  · rw [h0, Nat.zero_mul]; omega
  · have := bl_lt (x := v * 2 ^ k) (k := 128) (by rw [bl_shl _ _ h0]; unfold Ev at h; omega)
    omega
theorem ev_next {v k : Nat} {X : Int} (h : Ev v X k) (hc : Go.bitLen v + k < 127 ∨ (X - k).tmod 2 ≠ 0) : Ev v X (k + 1) ∧ shlN (v * 2 ^ k) 1 = v * 2 ^ (k + 1) := by
  have h' : Ev v X (k + 1) := by
    unfold Ev at *
    rcases h with h | h
    · by_cases hl : Go.bitLen v + k < 127
      · exact Or.inl (by omega)
      · refine Or.inr ⟨by omega, ?_⟩
        have e1 := even_iff (X - (k : Int))
        have e2 := even_iff (X - ((k + 1 : Nat) : Int))
        omega
    · omega
  refine ⟨h', ?_⟩
  have := ev_fit h'
  unfold W2 at this
  unfold shlN
  rw [show (1 : Int).toNat = 1 from rfl, Nat.mul_assoc, ← Nat.pow_add, Nat.mod_eq_of_lt (by omega)]

set_option maxRecDepth 100000 in
set_option maxHeartbeats 2000000 in
theorem evened_any {K X : Int} {v : Nat} {n : Bool} (W : World) (v0 : v ≠ 0) (v1 : v < 18446744073709551616) (x0 : -4000 ≤ X) (x1 : X ≤ 4000) :
    Calls Try.prog 21 #[.agg #[.bool n, .int .i64 K, .int .i64 X, .int .u64 (v : Int)]] W fun r W' => ∃ k : Nat, r = .returned (.tuple #[.agg #[.int .u64 (hi (v * 2 ^ k)), .int .u64 (lo (v * 2 ^ k))], .int .i64 (X - k)]) ∧ (127 ≤ Go.bitLen v + k ∧ Go.bitLen v + k ≤ 128 ∧ (X - k).tmod 2 = 0) ∧ Below W.heap.size W W' := by
  have HO := fun W => of_n (v : Int) W (by omega) (by omega)
  rw [Int.toNat_natCast] at HO
  have HO := hide HO
  have HE : Hid (Ev v X 0) := Or.inl (by have := bitLen_of (k := 64) v1; omega)
  go_enter Try.func21, Try.ntmps21
  go_wp2_with fail
  have HB := hide (below2 W (.cells #[.bool n, .int .i64 K, .int .i64 X, .int .u64 (v : Int)] 30) (.cells #[.int .u64 0, .int .u64 0] 39)).drew
  have HA := hide ((at4_new2a W (.bool n) (.int .i64 K) (.int .i64 X) (.int .u64 (v : Int)) 30 (.cells #[.int .u64 0, .int .u64 0] 39)).below ((Below.refl _ _).drew))
  have HR : Hid (Room (W.heap.size + 1) 2 ((W.alloc (.cells #[.bool n, .int .i64 K, .int .i64 X, .int .u64 (v : Int)] 30)).alloc (.cells #[.int .u64 0, .int .u64 0] 39)).drew) := by
    have := room2_new (W.alloc (.cells #[.bool n, .int .i64 K, .int .i64 X, .int .u64 (v : Int)] 30)) (.int .u64 0) (.int .u64 0) 39
    rw [show (W.alloc (.cells #[.bool n, .int .i64 K, .int .i64 X, .int .u64 (v : Int)] 30)).heap.size = W.heap.size + 1 by simp] at this
    exact this.drew
  go_step3
  go_wp2_with fail
  go_cut [3] (fun t wx => t = .int .i64 X ∧ At2 (W.heap.size + 1) (.int .u64 (hi v)) (.int .u64 (lo v)) wx ∧ Room (W.heap.size + 1) 2 wx ∧ Below W.heap.size W wx)
  case first =>
    obtain ⟨c0, c1, c2, c3⟩ := unhide HA
    obtain ⟨⟨y0, f0⟩, r0⟩ := (unhide HR) 0 (by omega)
    obtain ⟨⟨y1, f1⟩, r1⟩ := (unhide HR) 1 (by omega)
    go_region_with (first
      | (go_at_call 24; refine (unhide HO _).mono ?_; rintro e w8 ⟨rfl, hbl⟩; have HB8 := hide (bthen (unhide HB) hbl); have HR8 := hide ((unhide HR).below hbl); obtain ⟨e0, e1, e2, e3⟩ := (unhide HA).below hbl; obtain ⟨⟨v0, g0⟩, s0⟩ := (unhide HR8) 0 (by omega); obtain ⟨⟨v1, g1⟩, s1⟩ := (unhide HR8) 1 (by omega); clear hbl))
    all_goals
      go_wp2_with fail
      go_meet
      exact ⟨rfl, at2_set2 (unhide HR8) _ _, (unhide HR8).set2 _ _, bset2 (unhide HB8) (by omega) _ _⟩
  case rest =>
    obtain ⟨rfl, H2, HR, HB⟩ := hcut
    clear HA HO
    go_wp2_with fail
    go_step3
    go_wp2_with fail
    go_loopw [3] (fun x wr => ∃ k : Nat, x = .int .i64 (X - k) ∧ Ev v X k ∧ At2 (W.heap.size + 1) (.int .u64 (hi (v * 2 ^ k))) (.int .u64 (lo (v * 2 ^ k))) wr ∧ Room (W.heap.size + 1) 2 wr ∧ Below W.heap.size W wr) (fun x _ => (intOf x - (X - 128)).toNat)
    case atStart =>
      refine ⟨0, by rw [show X - ((0 : Nat) : Int) = X by omega], unhide HE, ?_, HR, HB⟩
      rw [Nat.pow_zero, Nat.mul_one]
      exact H2
    case round =>
      clear H2 HR HB HE
      obtain ⟨k, rfl, he, h2, hr, hb⟩ := hrel
      have H2 := hide h2
      have HR := hide hr
      have HB := hide hb
      clear h2 hr hb
      have hk : k ≤ 128 := by unfold Ev at he; omega
      have hw := ev_fit he
      have hlen : Go.bitLen (v * 2 ^ k) = Go.bitLen v + k := by rw [bl_shl _ _ v0]; omega
      have HN := fun W => len_n (v * 2 ^ k) W hw
      rw [hlen] at HN
      obtain ⟨L, hL⟩ : ∃ L : Int, ((Go.bitLen v + k : Nat) : Int) = L := ⟨_, rfl⟩
      rw [hL] at HN
      have HN := hide HN
      obtain ⟨u, hu⟩ : ∃ u : Nat, v * 2 ^ k = u := ⟨_, rfl⟩
      have ZN := hide (fun hc => ev_next he hc)
      rw [hu] at HN H2 hw ZN
      have HV := hide hu
      have HE := hide he
      have HW := hide hw
      clear hu hlen he hw
      obtain ⟨d0, d1⟩ := unhide H2
      by_cases hc : L < 127
      · have HX := hide (unhide ZN (Or.inl (by omega)))
        have hk2 : k + 1 ≤ 128 := by have := (unhide HX).1; unfold Ev at this; omega
        have HS := fun W => left_n u 1 W (unhide HW)
        rw [(unhide HX).2] at HS
        have HS := hide HS
        have k1 : IntKind.i64.wrap (X - (k : Int) - 1) = X - ((k + 1 : Nat) : Int) := by rw [i64_id (by omega) (by omega)]; omega
        go_wp2_with fail
        clear d0 d1
        refine (unhide HN _).mono ?_
        rintro _ w2 ⟨rfl, hb⟩
        have HB := hide (bthen (unhide HB) hb)
        have H2 := hide ((unhide H2).below hb)
        have HR := hide ((unhide HR).below hb)
        clear hb
        obtain ⟨d0, d1⟩ := unhide H2
        obtain ⟨⟨y0, g0⟩, s0⟩ := (unhide HR) 0 (by omega)
        obtain ⟨⟨y1, g1⟩, s1⟩ := (unhide HR) 1 (by omega)
        go_wp2_with fail
        clear d0 d1 g0 g1 s0 s1 y0 y1
        refine (unhide HS _).mono ?_
        rintro _ w3 ⟨rfl, hb⟩
        have HB := hide (bthen (unhide HB) hb)
        have H2 := hide ((unhide H2).below hb)
        have HR := hide ((unhide HR).below hb)
        clear hb
        obtain ⟨d0, d1⟩ := unhide H2
        obtain ⟨⟨y0, g0⟩, s0⟩ := (unhide HR) 0 (by omega)
        obtain ⟨⟨y1, g1⟩, s1⟩ := (unhide HR) 1 (by omega)
        have RX := hide (And.intro (unhide HX).1 (And.intro (at2_set2 (unhide HR) (.int .u64 (hi (v * 2 ^ (k + 1)))) (.int .u64 (lo (v * 2 ^ (k + 1))))) (And.intro ((unhide HR).set2 (.int .u64 (hi (v * 2 ^ (k + 1)))) (.int .u64 (lo (v * 2 ^ (k + 1))))) (bset2 (unhide HB) (show W.heap.size ≤ W.heap.size + 1 by omega) (.int .u64 (hi (v * 2 ^ (k + 1)))) (.int .u64 (lo (v * 2 ^ (k + 1))))))))
        go_wp2
        exact ⟨⟨k + 1, rfl, unhide RX⟩, by simp only [intOf]; omega⟩
      · by_cases hp : (X - (k : Int)).tmod 2 = 0
        · have q1 : (IntKind.i64.wrap ((X - (k : Int)).tmod 2) != 0) = false := by rw [hp]; decide
          have HP := hide hp
          go_wp2_with fail
          clear d0 d1
          refine (unhide HN _).mono ?_
          rintro _ w2 ⟨rfl, hb⟩
          have HB := hide (bthen (unhide HB) hb)
          have H2 := hide ((unhide H2).below hb)
          have HR := hide ((unhide HR).below hb)
          clear hb
          obtain ⟨d0, d1⟩ := unhide H2
          obtain ⟨⟨y0, g0⟩, s0⟩ := (unhide HR) 0 (by omega)
          obtain ⟨⟨y1, g1⟩, s1⟩ := (unhide HR) 1 (by omega)
          go_wp2_with fail
          rw [Exit.noGoto_ret]
          exact bodyPost_ret (v := .tuple #[.agg #[.int .u64 (hi u), .int .u64 (lo u)], .int .i64 (X - k)]) (by simp (maxDischargeDepth := 8) [results, Try.results21, go_sem, g0, g1]) rfl ⟨k, by rw [unhide HV], ⟨by omega, by have := unhide HE; unfold Ev at this; omega, unhide HP⟩, bset2 (unhide HB) (by omega) _ _⟩
        · have q1 : (X - (k : Int)).tmod 2 = 1 ∨ (X - (k : Int)).tmod 2 = -1 := by
            have h1 := Int.tmod_add_mul_tdiv (X - (k : Int)) 2
            have h2 := Int.tmod_lt_of_pos (X - (k : Int)) (show (0 : Int) < 2 by omega)
            have h3 := Int.neg_tmod (X - (k : Int)) 2
            have h4 := Int.tmod_lt_of_pos (-(X - (k : Int))) (show (0 : Int) < 2 by omega)
            omega
          have q2 : (IntKind.i64.wrap ((X - (k : Int)).tmod 2) != 0) = true := by rw [i64_id (by omega) (by omega)]; exact ne_t hp
          have HX := hide (unhide ZN (Or.inr hp))
          have hk2 : k + 1 ≤ 128 := by have := (unhide HX).1; unfold Ev at this; omega
          have HS := fun W => left_n u 1 W (unhide HW)
          rw [(unhide HX).2] at HS
          have HS := hide HS
          have k1 : IntKind.i64.wrap (X - (k : Int) - 1) = X - ((k + 1 : Nat) : Int) := by rw [i64_id (by omega) (by omega)]; omega
          go_wp2_with fail
          clear d0 d1
          refine (unhide HN _).mono ?_
          rintro _ w2 ⟨rfl, hb⟩
          have HB := hide (bthen (unhide HB) hb)
          have H2 := hide ((unhide H2).below hb)
          have HR := hide ((unhide HR).below hb)
          clear hb
          obtain ⟨d0, d1⟩ := unhide H2
          obtain ⟨⟨y0, g0⟩, s0⟩ := (unhide HR) 0 (by omega)
          obtain ⟨⟨y1, g1⟩, s1⟩ := (unhide HR) 1 (by omega)
          go_wp2_with fail
          clear d0 d1 g0 g1 s0 s1 y0 y1
          refine (unhide HS _).mono ?_
          rintro _ w3 ⟨rfl, hb⟩
          have HB := hide (bthen (unhide HB) hb)
          have H2 := hide ((unhide H2).below hb)
          have HR := hide ((unhide HR).below hb)
          clear hb
          obtain ⟨d0, d1⟩ := unhide H2
          obtain ⟨⟨y0, g0⟩, s0⟩ := (unhide HR) 0 (by omega)
          obtain ⟨⟨y1, g1⟩, s1⟩ := (unhide HR) 1 (by omega)
          have RX := hide (And.intro (unhide HX).1 (And.intro (at2_set2 (unhide HR) (.int .u64 (hi (v * 2 ^ (k + 1)))) (.int .u64 (lo (v * 2 ^ (k + 1))))) (And.intro ((unhide HR).set2 (.int .u64 (hi (v * 2 ^ (k + 1)))) (.int .u64 (lo (v * 2 ^ (k + 1))))) (bset2 (unhide HB) (show W.heap.size ≤ W.heap.size + 1 by omega) (.int .u64 (hi (v * 2 ^ (k + 1)))) (.int .u64 (lo (v * 2 ^ (k + 1))))))))
          go_wp2
          exact ⟨⟨k + 1, rfl, unhide RX⟩, by simp only [intOf]; omega⟩

end Go.Proofs.Ytafejbkjkbgocaa
