/- Contracts of package round's Pack, by the arithmetic of rounding. -/
import Derived.Test.YtpbgpdmffejdgaaGreatDoorPackA
namespace Go.Proofs.YtpbgpdmffejdgaaGreatDoor
open Go.RowKit
open Go.Proofs.YtpbgpdmffejdgaaGreatDoor.W

/-- An exponent, brought near. -/
def cap (X : Int) : Int := if X < -4096 then -4096 else if 4096 < X then 4096 else X
theorem cap_in (X : Int) : -4096 ≤ cap X ∧ cap X ≤ 4096 := by unfold cap; split <;> (try split) <;> omega
/-- The least floats' last bit, 5000 bits up. -/
def lowN (f b : Int) : Nat := (5001 - b - f).toNat
/-- A code, no more than the infinite one's. -/
def lid (P Q c : Int) : Int := if (Q - 1) * P ≤ c then (Q - 1) * P else c
/-- The float of a code and a sign. -/
def fl (f P Q : Int) (n : Bool) (c : Int) : Int := put f P Q n (c / P) (c % P)
/-- The number (2 · v + m) · 2^(X - 1), 5000 bits up. -/
def num (v : Nat) (m : Bool) (X : Int) : Nat := (2 * v + m.toNat) * 2 ^ (X + 4999).toNat

theorem fl_eq {f P Q c x y : Int} (n : Bool) (h1 : c / P = x) (h2 : c % P = y) : fl f P Q n c = put f P Q n x y := by unfold fl; rw [h1, h2]

set_option maxHeartbeats 1000000 in
theorem float_known {w e f P Q b h l E : Int} (k : Kd w e f P Q b) (n m : Bool) (s : Nat) (U : Int) (hs : (s : Int) ≤ 2 * P) (hd : 1 - b - f < U → P ≤ (s : Int)) (hL : 1 - b - f ≤ U) (u1 : U ≤ 10000) (W : World) :
    Calls Tryz.prog 268 #[.agg #[.bool n, .int .u64 h, .int .u64 l, .int .i64 E, .bool m, .int .i64 w, .int .i64 f, .int .i64 (1 - b - f), .int .i64 (Q - 2 - b - f)], .int .u64 (s : Int), .int .i64 U] W fun r W' => r = .returned (.int .u64 (fl f P Q n (lid P Q ((U - (1 - b - f)) * P + (s : Int))))) ∧ Below W.heap.size W W' := by
  have HZ := hide (fun W => zero_any n k.wd W)
  have HI := hide (fun W => inf_any n k.wd W)
  have HC := fun (X S V c : Int) (s0 : 0 ≤ S) (s1 : S < 18446744073709551616) (hc : ClosedF f P Q b n X S V c) => hide (fun W => close_any (K := 1) W k s0 s1 (Or.inl ⟨rfl, hc⟩))
  unfold ClosedF at HC
  have g0 : 0 ≤ f := by rcases k with k | k <;> omega
  have g1 : f ≤ 63 := by rcases k with k | k <;> omega
  have hP : (2 : Int) ^ f.toNat = P := by rcases k with ⟨_, _, rfl, rfl, _⟩ | ⟨_, _, rfl, rfl, _⟩ <;> rfl
  have kd : (s : Int) / 2 ^ f.toNat = (s : Int) / P := by rw [hP]
  have ku : IntKind.i64.wrap (U + 1) = U + 1 := i64_id (by rcases k with k | k <;> omega) (by omega)
  rcases k with ⟨rfl, rfl, rfl, rfl, rfl, rfl⟩ | ⟨rfl, rfl, rfl, rfl, rfl, rfl⟩
  · unfold lid
    by_cases hb : 1 < (s : Int) / 8388608
    · by_cases g : 256 - 2 - 127 - 23 < U + 1
      · rw [if_pos (by omega), fl_eq n (x := 256 - 1) (y := 0) (by rfl) (by rfl)]
        exact float_bi W g0 g1 kd hb rfl ku (eq_f (by omega)) (dt g) HI
      · rw [if_neg (by omega), fl_eq n (x := U + 1 + 127 + 23) (y := 0) (by omega) (by omega)]
        exact float_bc W g0 g1 kd hb rfl ku (eq_f (by omega)) (df g) (HC (U + 1) _ _ 0 (by omega) (by omega) (Or.inr (Or.inl ⟨by omega, by omega, by omega, by omega, by rw [show (s : Int) / 2 % 8388608 = 0 by omega], rfl⟩)))
    · by_cases hz : (s : Int) = 0
      · rw [if_neg (by omega), fl_eq n (x := 0) (y := 0) (by omega) (by omega)]
        exact float_sz W g0 g1 kd hb (eq_t hz) HZ
      · by_cases g : 256 - 2 - 127 - 23 < U
        · rw [if_pos (by omega), fl_eq n (x := 256 - 1) (y := 0) (by rfl) (by rfl)]
          exact float_si W g0 g1 kd hb (eq_f hz) (dt g) HI
        · rw [if_neg (by omega)]
          by_cases ht : (s : Int) < 8388608
          · rw [fl_eq n (x := 0) (y := (s : Int) % 8388608) (by omega) (by omega)]
            exact float_sc W g0 g1 kd hb (eq_f hz) (df g) (HC U _ _ 0 (by omega) (by omega) (Or.inl ⟨ht, hz, by omega, rfl, rfl⟩))
          · rw [fl_eq n (x := U + 127 + 23) (y := (s : Int) % 8388608) (by omega) (by omega)]
            exact float_sc W g0 g1 kd hb (eq_f hz) (df g) (HC U _ _ 0 (by omega) (by omega) (Or.inr (Or.inl ⟨by omega, by omega, by omega, by omega, rfl, rfl⟩)))
  · unfold lid
    by_cases hb : 1 < (s : Int) / 4503599627370496
    · by_cases g : 2048 - 2 - 1023 - 52 < U + 1
      · rw [if_pos (by omega), fl_eq n (x := 2048 - 1) (y := 0) (by rfl) (by rfl)]
        exact float_bi W g0 g1 kd hb rfl ku (eq_f (by omega)) (dt g) HI
      · rw [if_neg (by omega), fl_eq n (x := U + 1 + 1023 + 52) (y := 0) (by omega) (by omega)]
        exact float_bc W g0 g1 kd hb rfl ku (eq_f (by omega)) (df g) (HC (U + 1) _ _ 0 (by omega) (by omega) (Or.inr (Or.inl ⟨by omega, by omega, by omega, by omega, by rw [show (s : Int) / 2 % 4503599627370496 = 0 by omega], rfl⟩)))
    · by_cases hz : (s : Int) = 0
      · rw [if_neg (by omega), fl_eq n (x := 0) (y := 0) (by omega) (by omega)]
        exact float_sz W g0 g1 kd hb (eq_t hz) HZ
      · by_cases g : 2048 - 2 - 1023 - 52 < U
        · rw [if_pos (by omega), fl_eq n (x := 2048 - 1) (y := 0) (by rfl) (by rfl)]
          exact float_si W g0 g1 kd hb (eq_f hz) (dt g) HI
        · rw [if_neg (by omega)]
          by_cases ht : (s : Int) < 4503599627370496
          · rw [fl_eq n (x := 0) (y := (s : Int) % 4503599627370496) (by omega) (by omega)]
            exact float_sc W g0 g1 kd hb (eq_f hz) (df g) (HC U _ _ 0 (by omega) (by omega) (Or.inl ⟨ht, hz, by omega, rfl, rfl⟩))
          · rw [fl_eq n (x := U + 1023 + 52) (y := (s : Int) % 4503599627370496) (by omega) (by omega)]
            exact float_sc W g0 g1 kd hb (eq_f hz) (df g) (HC U _ _ 0 (by omega) (by omega) (Or.inr (Or.inl ⟨by omega, by omega, by omega, by omega, rfl, rfl⟩)))

/-- Of another width all floats are 0. -/
theorem float_no {w e f P Q b h l E : Int} (k : Wd w e f P Q b) (hf : f = 0) (n m : Bool) (s : Nat) (U : Int) (u0 : -10000 ≤ U) (u1 : U ≤ 10000) (W : World) :
    Calls Tryz.prog 268 #[.agg #[.bool n, .int .u64 h, .int .u64 l, .int .i64 E, .bool m, .int .i64 w, .int .i64 0, .int .i64 0, .int .i64 0], .int .u64 (s : Int), .int .i64 U] W fun r W' => r = .returned (.int .u64 0) ∧ Below W.heap.size W W' := by
  have p0 : ∀ (x y : Int), put f P Q n x y = 0 := fun x y => by unfold put; rw [if_pos hf]
  have HZ := hide (fun W => zero_any n k W)
  have HI := hide (fun W => inf_any n k W)
  rw [p0] at HZ HI
  have HC := fun (X S : Int) => hide (fun W => close_no (K := 1) (X := X) (S := S) (n := n) W k (ne_f hf))
  have kd : (s : Int) / 2 ^ (0 : Int).toNat = (s : Int) := by simp
  have ku : IntKind.i64.wrap (U + 1) = U + 1 := i64_id (by omega) (by omega)
  by_cases hb : 1 < (s : Int)
  · by_cases g : 0 < U + 1
    · exact float_bi W (by omega) (by omega) kd hb rfl ku (eq_f (by omega)) (dt g) HI
    · exact float_bc W (by omega) (by omega) kd hb rfl ku (eq_f (by omega)) (df g) (HC _ _)
  · by_cases hz : (s : Int) = 0
    · exact float_sz W (by omega) (by omega) kd hb (eq_t hz) HZ
    · by_cases g : 0 < U
      · exact float_si W (by omega) (by omega) kd hb (eq_f hz) (dt g) HI
      · exact float_sc W (by omega) (by omega) kd hb (eq_f hz) (df g) (HC _ _)

theorem Kd.pow {w e f P Q b : Int} (k : Kd w e f P Q b) : P = ((2 ^ f.toNat : Nat) : Int) ∧ 0 ≤ f ∧ f ≤ 52 ∧ -1074 ≤ 1 - b - f ∧ 1 - b - f ≤ 0 ∧ 127 ≤ b ∧ b ≤ 1023 := by
  rcases k with ⟨_, _, rfl, rfl, _, rfl⟩ | ⟨_, _, rfl, rfl, _, rfl⟩ <;> exact ⟨rfl, by omega, by omega, by omega, by omega, by omega, by omega⟩

theorem num_len (v : Nat) (m : Bool) (E : Int) (h : ¬ (v = 0 ∧ m = false)) : Go.bitLen (num v m E) = (E + 4999).toNat + (Go.bitLen v + 1) := by
  have hm : m.toNat ≤ 1 := by cases m <;> simp
  have hne : 2 * v + m.toNat ≠ 0 := by cases m <;> simp at h ⊢ <;> omega
  unfold num
  rw [bl_shl _ _ hne, bl_two v m.toNat hm hne]

set_option maxHeartbeats 1000000 in
theorem nearest_known {w e f P Q b : Int} (v : Nat) (n m : Bool) (E : Int) (k : Kd w e f P Q b) (hv : W2 v) (e0 : -4096 ≤ E) (e1 : E ≤ 4096) (W : World) :
    Calls Tryz.prog 238 #[.agg #[.bool n, .int .u64 (hi v), .int .u64 (lo v), .int .i64 E, .bool m, .int .i64 w, .int .i64 f, .int .i64 (1 - b - f), .int .i64 (Q - 2 - b - f)]] W fun r W' => r = .returned (.int .u64 (fl f P Q n (lid P Q (code f.toNat (lowN f b) (num v m E) : Nat)))) ∧ Below W.heap.size W W' := by
  have HN := hide (fun W => isNought_any v E n m W)
  obtain ⟨hP, f0, f1, l0, l1, b0, b1⟩ := k.pow
  by_cases hz : v = 0 ∧ m = false
  · obtain ⟨rfl, rfl⟩ := hz
    have : num 0 false E = 0 := by unfold num; simp
    rw [this, code_zero]
    have hq : ¬ (Q - 1) * P ≤ ((0 : Nat) : Int) := by rcases k with ⟨_, _, _, rfl, rfl, _⟩ | ⟨_, _, _, rfl, rfl, _⟩ <;> omega
    unfold lid
    rw [if_neg hq, fl_eq n (x := 0) (y := 0) (by simp) (by simp)]
    exact nearest_z W HN (hide (fun W => zero_any n k.wd W))
  · have hNv : (decide (v = 0) && !m) = false := by cases m <;> simp at hz ⊢; exact hz
    rw [hNv] at HN
    have hbl : Go.bitLen v ≤ 128 := bitLen_128 hv
    have hl := num_len v m E hz
    have HT := hide (fun W => top_l (n := n) (m := m) W (hide (fun W => len_n v W hv)) (i64_id (x := E + (Go.bitLen v : Int)) (by omega) (by omega)) (i64_id (by omega) (by omega)))
    obtain ⟨U, hU⟩ : ∃ U : Int, U = if E + (Go.bitLen v : Int) - 1 - f < 1 - b - f then 1 - b - f else E + (Go.bitLen v : Int) - 1 - f := ⟨_, rfl⟩
    have hU1 : 1 - b - f ≤ U ∧ E + (Go.bitLen v : Int) - 1 - f ≤ U ∧ U ≤ 5000 := by rw [hU]; split <;> omega
    have hu : unitOf f.toNat (lowN f b) (num v m E) = (U + 5000).toNat := by
      unfold unitOf lowN
      rw [hl, hU]
      split <;> omega
    obtain ⟨N, lost, hN, hp, hH⟩ := halves_near v n m E U hv e0 e1 (by omega) (by omega) (by omega)
    have hup := unit_up f.toNat (lowN f b) (num v m E)
    have hdn := fun h => unit_dn (f := f.toNat) (L := lowN f b) (X := num v m E) h
    have hcode : ((code f.toNat (lowN f b) (num v m E) : Nat) : Int) = (U - (1 - b - f)) * P + (near (num v m E) (2 ^ (U + 5000).toNat) : Nat) := by
      unfold code
      rw [hu, hP, show (U - (1 - b - f)) = (((U + 5000).toNat - lowN f b : Nat) : Int) by unfold lowN; omega]
      simp
    rw [hu] at hup hdn
    change pick N lost = near (num v m E) _ at hp
    generalize hsg : near (num v m E) (2 ^ (U + 5000).toNat) = s at *
    rw [hcode]
    refine nearest_pick (T := E + (Go.bitLen v : Int) - 1) (U := U) (N := N) (s := s) (lost := lost) W HN HT (by omega) (by omega) f0 (by omega) hU hN hp (hide hH) (hide (fun W => float_known k n m s U ?_ ?_ hU1.1 (by omega) W))
    · rw [hP]; omega
    · intro hlt
      rw [hP]
      have := hdn (by unfold lowN; omega)
      omega

set_option maxHeartbeats 1000000 in
theorem nearest_no {w e f P Q b : Int} (v : Nat) (n m : Bool) (E : Int) (k : Wd w e f P Q b) (hf : f = 0) (hv : W2 v) (e0 : -4096 ≤ E) (e1 : E ≤ 4096) (W : World) :
    Calls Tryz.prog 238 #[.agg #[.bool n, .int .u64 (hi v), .int .u64 (lo v), .int .i64 E, .bool m, .int .i64 w, .int .i64 0, .int .i64 0, .int .i64 0]] W fun r W' => r = .returned (.int .u64 0) ∧ Below W.heap.size W W' := by
  have HN := hide (fun W => isNought_any v E n m W)
  by_cases hz : v = 0 ∧ m = false
  · obtain ⟨rfl, rfl⟩ := hz
    have p0 : put f P Q n 0 0 = 0 := by unfold put; rw [if_pos hf]
    have HZ := hide (fun W => zero_any n k W)
    rw [p0] at HZ
    exact nearest_z W HN HZ
  · have hNv : (decide (v = 0) && !m) = false := by cases m <;> simp at hz ⊢; exact hz
    rw [hNv] at HN
    have hbl : Go.bitLen v ≤ 128 := bitLen_128 hv
    have HT := hide (fun W => top_l (n := n) (m := m) W (hide (fun W => len_n v W hv)) (i64_id (x := E + (Go.bitLen v : Int)) (by omega) (by omega)) (i64_id (by omega) (by omega)))
    obtain ⟨U, hU⟩ : ∃ U : Int, U = if E + (Go.bitLen v : Int) - 1 - 0 < 0 then 0 else E + (Go.bitLen v : Int) - 1 - 0 := ⟨_, rfl⟩
    have hU1 : 0 ≤ U ∧ E + (Go.bitLen v : Int) - 1 ≤ U ∧ U ≤ 5000 := by rw [hU]; split <;> omega
    obtain ⟨N, lost, hN, hp, hH⟩ := halves_near v n m E U hv e0 e1 (by omega) (by omega) (by omega)
    exact nearest_pick (T := E + (Go.bitLen v : Int) - 1) (U := U) (N := N) (lost := lost) W HN HT (by omega) (by omega) (by omega) (by omega) hU hN rfl (hide hH) (hide (fun W => float_no k hf n m _ U (by omega) (by omega) W))

theorem floatsOf_known {w e f P Q b : Int} (k : Kd w e f P Q b) (W : World) :
    Calls Tryz.prog 237 #[.int .i64 w] W fun r W' => r = .returned (.agg #[.int .i64 w, .int .i64 f, .int .i64 (1 - b - f), .int .i64 (Q - 2 - b - f)]) ∧ Below W.heap.size W W' := by
  have HF := hide (fun W => fields_any k.wd W)
  have HM := hide (fun W => most_w false k.wd W)
  have hm : put f P Q false (Q - 2) (P - 1) = (Q - 2) * P + (P - 1) := put_no k.f0
  rw [hm] at HM
  have ho1 : Opened f P Q b (sg P Q 1) (1 / P % Q) (1 % P) false 1 (1 - b - f) 1 := by
    unfold Opened sg
    rcases k with ⟨rfl, rfl, rfl, rfl, rfl, rfl⟩ | ⟨rfl, rfl, rfl, rfl, rfl, rfl⟩ <;> simp
  have ho2 : Opened f P Q b (sg P Q ((Q - 2) * P + (P - 1))) (((Q - 2) * P + (P - 1)) / P % Q) (((Q - 2) * P + (P - 1)) % P) false 1 (Q - 2 - b - f) (2 * P - 1) := by
    unfold Opened sg
    rcases k with ⟨rfl, rfl, rfl, rfl, rfl, rfl⟩ | ⟨rfl, rfl, rfl, rfl, rfl, rfl⟩ <;> simp
  have hr : 0 ≤ (Q - 2) * P + (P - 1) ∧ (Q - 2) * P + (P - 1) < 18446744073709551616 := by
    rcases k with ⟨rfl, rfl, rfl, rfl, rfl, rfl⟩ | ⟨rfl, rfl, rfl, rfl, rfl, rfl⟩ <;> omega
  exact floatsOf_l W HF (hide (fun W => open_any 1 k.wd W (by omega) (by omega) ho1)) HM (hide (fun W => open_any _ k.wd W hr.1 hr.2 ho2))

theorem floatsOf_no {w e f P Q b : Int} (k : Wd w e f P Q b) (hf : f = 0) (W : World) :
    Calls Tryz.prog 237 #[.int .i64 w] W fun r W' => r = .returned (.agg #[.int .i64 w, .int .i64 0, .int .i64 0, .int .i64 0]) ∧ Below W.heap.size W W' := by
  have HF := hide (fun W => fields_any k W)
  have HM := hide (fun W => most_w false k W)
  have hm : put f P Q false (Q - 2) (P - 1) = 0 := by unfold put; rw [if_pos hf]
  rw [hm] at HM
  have ho : ∀ x, Opened f P Q b (sg P Q x) (x / P % Q) (x % P) false 0 0 0 := fun x => Or.inl ⟨hf, rfl, rfl, rfl, rfl⟩
  rw [hf] at HF
  exact floatsOf_l W HF (hide (fun W => open_any 1 k W (by omega) (by omega) (ho 1))) HM (hide (fun W => open_any 0 k W (by omega) (by omega) (ho 0)))

/-- Pack: the float of the number's code. -/
theorem pack_known {w e f P Q b : Int} (v : Nat) (n m : Bool) (X : Int) (k : Kd w e f P Q b) (hv : W2 v) (W : World) :
    Calls Tryz.prog 160 #[.int .i64 w, .bool n, .agg #[.int .u64 (hi v), .int .u64 (lo v)], .int .i64 X, .bool m] W fun r W' => r = .returned (.int .u64 (fl f P Q n (lid P Q (code f.toNat (lowN f b) (num v m (cap X)) : Nat)))) ∧ Below W.heap.size W W' := by
  obtain ⟨c0, c1⟩ := cap_in X
  have HO := hide (fun W => floatsOf_known k W)
  have HN := hide (fun W => nearest_known v n m (cap X) k hv c0 c1 W)
  by_cases h1 : X < -4096
  · have : cap X = -4096 := by unfold cap; rw [if_pos h1]
    rw [this] at HN ⊢
    exact pack_l W h1 HO HN
  · by_cases h2 : 4096 < X
    · have : cap X = 4096 := by unfold cap; rw [if_neg h1, if_pos h2]
      rw [this] at HN ⊢
      exact pack_h W h1 h2 HO HN
    · have : cap X = X := by unfold cap; rw [if_neg h1, if_neg h2]
      rw [this] at HN ⊢
      exact pack_m W h1 h2 HO HN
theorem pack_no {w e f P Q b : Int} (v : Nat) (n m : Bool) (X : Int) (k : Wd w e f P Q b) (hf : f = 0) (hv : W2 v) (W : World) :
    Calls Tryz.prog 160 #[.int .i64 w, .bool n, .agg #[.int .u64 (hi v), .int .u64 (lo v)], .int .i64 X, .bool m] W fun r W' => r = .returned (.int .u64 0) ∧ Below W.heap.size W W' := by
  obtain ⟨c0, c1⟩ := cap_in X
  have HO := hide (fun W => floatsOf_no k hf W)
  have HN := hide (fun W => nearest_no v n m (cap X) k hf hv c0 c1 W)
  by_cases h1 : X < -4096
  · have : cap X = -4096 := by unfold cap; rw [if_pos h1]
    rw [this] at HN
    exact pack_l W h1 HO HN
  · by_cases h2 : 4096 < X
    · have : cap X = 4096 := by unfold cap; rw [if_neg h1, if_pos h2]
      rw [this] at HN
      exact pack_h W h1 h2 HO HN
    · have : cap X = X := by unfold cap; rw [if_neg h1, if_neg h2]
      rw [this] at HN
      exact pack_m W h1 h2 HO HN

end Go.Proofs.YtpbgpdmffejdgaaGreatDoor
