/- RadS, RadD, Roots, Keeps. -/
import Derived.Test.YtafejbkjkbgocaaG32
import Derived.Test.YtafejbkjkbgocaaG33
import Derived.Test.YtafejbkjkbgocaaG34
namespace Go.Proofs.Ytafejbkjkbgocaa
open Go.RowKit
open Go.Proofs.Ytafejbkjkbgocaa.W

set_option maxRecDepth 100000 in
set_option maxHeartbeats 2000000 in
theorem sqrt_z {w x K X S V : Int} {n : Bool} (W : World) (HO : Hid (∀ W, Calls Try.prog 13 #[.int .i64 w, .int .u64 x] W fun r W' => r = .returned (.agg #[.bool n, .int .i64 K, .int .i64 X, .int .u64 S]) ∧ Below W.heap.size W W')) (a0 : (K == 0) = true) (HC : Hid (∀ W, Calls Try.prog 19 #[.int .i64 w, .bool n] W fun r W' => r = .returned (.int .u64 V) ∧ Below W.heap.size W W')) :
    Calls Try.prog 7 #[.int .i64 w, .int .u64 x] W fun r W' => r = .returned (.int .u64 V) ∧ Below W.heap.size W W' := by
  go_enter Try.func7, Try.ntmps7
  go_wp2_with fail
  refine (unhide HO _).mono ?_
  rintro _ w1 ⟨rfl, hb⟩
  have HB := hide (balloc hb (.cells #[.bool n, .int .i64 K, .int .i64 X, .int .u64 S] 30))
  have HA := hide (at4_new w1 (.bool n) (.int .i64 K) (.int .i64 X) (.int .u64 S) 30)
  clear hb
  obtain ⟨c0, c1, c2, c3⟩ := unhide HA
  go_wp2_with fail
  refine (unhide HC _).mono ?_
  rintro _ w2 ⟨rfl, hb⟩
  have HB := hide (bthen (unhide HB) hb)
  go_wp2_with fail
  go_ret
  exact ⟨rfl, unhide HB⟩
set_option maxRecDepth 100000 in
set_option maxHeartbeats 2000000 in
theorem sqrt_n {w x K X S V : Int} {n : Bool} (W : World) (HO : Hid (∀ W, Calls Try.prog 13 #[.int .i64 w, .int .u64 x] W fun r W' => r = .returned (.agg #[.bool n, .int .i64 K, .int .i64 X, .int .u64 S]) ∧ Below W.heap.size W W')) (a0 : (K == 0) = false) (a3 : (K == 3) = true) (HC : Hid (∀ W, Calls Try.prog 12 #[.int .i64 w] W fun r W' => r = .returned (.int .u64 V) ∧ Below W.heap.size W W')) :
    Calls Try.prog 7 #[.int .i64 w, .int .u64 x] W fun r W' => r = .returned (.int .u64 V) ∧ Below W.heap.size W W' := by
  go_enter Try.func7, Try.ntmps7
  go_wp2_with fail
  refine (unhide HO _).mono ?_
  rintro _ w1 ⟨rfl, hb⟩
  have HB := hide (balloc hb (.cells #[.bool n, .int .i64 K, .int .i64 X, .int .u64 S] 30))
  have HA := hide (at4_new w1 (.bool n) (.int .i64 K) (.int .i64 X) (.int .u64 S) 30)
  clear hb
  obtain ⟨c0, c1, c2, c3⟩ := unhide HA
  go_wp2_with fail
  refine (unhide HC _).mono ?_
  rintro _ w2 ⟨rfl, hb⟩
  have HB := hide (bthen (unhide HB) hb)
  go_wp2_with fail
  go_ret
  exact ⟨rfl, unhide HB⟩
set_option maxRecDepth 100000 in
set_option maxHeartbeats 2000000 in
theorem sqrt_m {w x K X S V : Int} (W : World) (HO : Hid (∀ W, Calls Try.prog 13 #[.int .i64 w, .int .u64 x] W fun r W' => r = .returned (.agg #[.bool true, .int .i64 K, .int .i64 X, .int .u64 S]) ∧ Below W.heap.size W W')) (a0 : (K == 0) = false) (a3 : (K == 3) = false) (HC : Hid (∀ W, Calls Try.prog 12 #[.int .i64 w] W fun r W' => r = .returned (.int .u64 V) ∧ Below W.heap.size W W')) :
    Calls Try.prog 7 #[.int .i64 w, .int .u64 x] W fun r W' => r = .returned (.int .u64 V) ∧ Below W.heap.size W W' := by
  go_enter Try.func7, Try.ntmps7
  go_wp2_with fail
  refine (unhide HO _).mono ?_
  rintro _ w1 ⟨rfl, hb⟩
  have HB := hide (balloc hb (.cells #[.bool true, .int .i64 K, .int .i64 X, .int .u64 S] 30))
  have HA := hide (at4_new w1 (.bool true) (.int .i64 K) (.int .i64 X) (.int .u64 S) 30)
  clear hb
  obtain ⟨c0, c1, c2, c3⟩ := unhide HA
  go_wp2_with fail
  refine (unhide HC _).mono ?_
  rintro _ w2 ⟨rfl, hb⟩
  have HB := hide (bthen (unhide HB) hb)
  go_wp2_with fail
  go_ret
  exact ⟨rfl, unhide HB⟩
set_option maxRecDepth 100000 in
set_option maxHeartbeats 2000000 in
theorem sqrt_i {w x K X S V : Int} (W : World) (HO : Hid (∀ W, Calls Try.prog 13 #[.int .i64 w, .int .u64 x] W fun r W' => r = .returned (.agg #[.bool false, .int .i64 K, .int .i64 X, .int .u64 S]) ∧ Below W.heap.size W W')) (a0 : (K == 0) = false) (a3 : (K == 3) = false) (a2 : (K == 2) = true) (HC : Hid (∀ W, Calls Try.prog 20 #[.int .i64 w, .bool false] W fun r W' => r = .returned (.int .u64 V) ∧ Below W.heap.size W W')) :
    Calls Try.prog 7 #[.int .i64 w, .int .u64 x] W fun r W' => r = .returned (.int .u64 V) ∧ Below W.heap.size W W' := by
  go_enter Try.func7, Try.ntmps7
  go_wp2_with fail
  refine (unhide HO _).mono ?_
  rintro _ w1 ⟨rfl, hb⟩
  have HB := hide (balloc hb (.cells #[.bool false, .int .i64 K, .int .i64 X, .int .u64 S] 30))
  have HA := hide (at4_new w1 (.bool false) (.int .i64 K) (.int .i64 X) (.int .u64 S) 30)
  clear hb
  obtain ⟨c0, c1, c2, c3⟩ := unhide HA
  go_wp2_with fail
  refine (unhide HC _).mono ?_
  rintro _ w2 ⟨rfl, hb⟩
  have HB := hide (bthen (unhide HB) hb)
  go_wp2_with fail
  go_ret
  exact ⟨rfl, unhide HB⟩
set_option maxRecDepth 100000 in
set_option maxHeartbeats 2000000 in
theorem sqrt_f {w x X S V : Int} (W : World) (HO : Hid (∀ W, Calls Try.prog 13 #[.int .i64 w, .int .u64 x] W fun r W' => r = .returned (.agg #[.bool false, .int .i64 1, .int .i64 X, .int .u64 S]) ∧ Below W.heap.size W W')) (G : Nat → Int → Prop) (H : Int → Nat → Bool → Prop) (HE : Hid (∀ W, Calls Try.prog 21 #[.agg #[.bool false, .int .i64 1, .int .i64 X, .int .u64 S]] W fun r W' => ∃ (v : Nat) (E Y : Int), r = .returned (.tuple #[.agg #[.int .u64 (hi v), .int .u64 (lo v)], .int .i64 E]) ∧ IntKind.i64.wrap (E.tdiv 2) = Y ∧ G v Y ∧ Below W.heap.size W W')) (HR : Hid (∀ (v : Nat) (E : Int) (W : World), G v E → Calls Try.prog 22 #[.agg #[.int .u64 (hi v), .int .u64 (lo v)]] W fun r W' => ∃ (q : Nat) (m : Bool), r = .returned (.tuple #[.int .u64 (q : Int), .bool m]) ∧ H E q m ∧ Below W.heap.size W W')) (HF : Hid (∀ (E : Int) (q : Nat) (m : Bool) (W : World), H E q m → Calls Try.prog 24 #[.int .u64 (q : Int)] W fun r W' => r = .returned (.agg #[.int .u64 (hi q), .int .u64 (lo q)]) ∧ Below W.heap.size W W')) (HP : Hid (∀ (E : Int) (q : Nat) (m : Bool) (W : World), H E q m → Calls Try.prog 23 #[.int .i64 w, .bool false, .agg #[.int .u64 (hi q), .int .u64 (lo q)], .int .i64 E, .bool m] W fun r W' => r = .returned (.int .u64 V) ∧ Below W.heap.size W W')) :
    Calls Try.prog 7 #[.int .i64 w, .int .u64 x] W fun r W' => r = .returned (.int .u64 V) ∧ Below W.heap.size W W' := by
  go_enter Try.func7, Try.ntmps7
  go_wp2_with fail
  refine (unhide HO _).mono ?_
  rintro _ w1 ⟨rfl, hb⟩
  have HB := hide (balloc hb (.cells #[.bool false, .int .i64 1, .int .i64 X, .int .u64 S] 30))
  have HA := hide (at4_new w1 (.bool false) (.int .i64 1) (.int .i64 X) (.int .u64 S) 30)
  clear hb
  obtain ⟨c0, c1, c2, c3⟩ := unhide HA
  go_wp2_with fail
  clear c0 c1 c2 c3
  refine (unhide HE _).mono ?_
  rintro _ w2 ⟨v, E, Y, rfl, kq, hG, hb⟩
  have HB := hide (balloc (bthen (unhide HB) hb) (.cells #[.int .u64 (hi v), .int .u64 (lo v)] 39))
  have H2 := hide (at2_new w2 (.int .u64 (hi v)) (.int .u64 (lo v)) 39)
  clear hb
  obtain ⟨d0, d1⟩ := unhide H2
  go_wp2_with fail
  refine (unhide HR v Y _ hG).mono ?_
  rintro _ w3 ⟨q, m, rfl, hH, hb⟩
  have HB := hide (bthen (unhide HB) hb)
  clear hb
  go_wp2_with fail
  refine (unhide HF Y q m _ hH).mono ?_
  rintro _ w4 ⟨rfl, hb⟩
  have HB := hide (bthen (unhide HB) hb)
  clear hb
  go_wp2_with fail
  refine (unhide HP Y q m _ hH).mono ?_
  rintro _ w5 ⟨rfl, hb⟩
  have HB := hide (bthen (unhide HB) hb)
  clear hb
  go_wp2_with fail
  go_ret
  exact ⟨rfl, unhide HB⟩

end Go.Proofs.Ytafejbkjkbgocaa
namespace Go.Proofs.Ytafejbkjkbgocaa
open Go.RowKit
open Go.Proofs.Ytafejbkjkbgocaa.W

theorem fval_ge (f L : Nat) : ∀ c, c ≤ fval f L c
  | 0 => Nat.zero_le _
  | c + 1 => Nat.lt_of_le_of_lt (fval_ge f L c) (fval_lt.2 (Nat.lt_succ_self c))

theorem isRoot_ex (f L T : Nat) : ∃ c, IsRoot f L T c := by
  have key : ∀ d, rootLe f L T d → ∃ c, IsRoot f L T c := by
    intro d
    induction d with
    | zero => exact fun h => ⟨0, fun e => ⟨fun _ => Nat.zero_le _, fun _ => rootLe_up h (Nat.zero_le _)⟩⟩
    | succ d ih =>
      intro h
      by_cases hd : rootLe f L T d
      · exact ih hd
      · refine ⟨d + 1, fun e => ⟨fun he => ?_, fun he => rootLe_up h he⟩⟩
        exact Decidable.byContradiction fun hn => hd (rootLe_up he (by omega))
  refine key (4 * T + 1) (Or.inl ?_)
  have h1 : 4 * T + 1 ≤ mid2 f L (4 * T + 1) := Nat.le_trans (fval_ge f L _) (Nat.le_add_right _ _)
  have h2 := Nat.mul_le_mul h1 h1
  have h3 : 4 * T + 1 ≤ (4 * T + 1) * (4 * T + 1) := Nat.le_mul_of_pos_right _ (by omega)
  omega
theorem isRoot_of {f L T c : Nat} (h : rootLe f L T (c + 1)) (h' : ¬ rootLe f L T c) : IsRoot f L T (c + 1) := fun _ =>
  ⟨fun he => Decidable.byContradiction fun hn => h' (rootLe_up he (by omega)), fun he => rootLe_up h he⟩

/-- c is the code of the root of a finite float. -/
def IsR (f P Q b x : Int) (c : Nat) : Prop := oK P Q x = 1 → IsRoot f.toNat (lowN f b) (oM f P Q b x * 2 ^ Z5) c
theorem isR_ex (f P Q b x : Int) : ∃ c, IsR f P Q b x c := by
  obtain ⟨c, h⟩ := isRoot_ex f.toNat (lowN f b) (oM f P Q b x * 2 ^ Z5)
  exact ⟨c, fun _ => h⟩
/-- The root of a float. -/
def sqB (f P Q x : Int) (c : Nat) : Int :=
  if oK P Q x = 0 then put f P Q (oN P Q x) 0 0 else if oK P Q x = 3 ∨ oN P Q x = true then nanB f P Q else if oK P Q x = 2 then put f P Q false (Q - 1) 0 else fl f P Q false c

theorem sq_full {v k q : Nat} (v0 : v ≠ 0) (h : 127 ≤ Go.bitLen v + k) (hq : v * 2 ^ k < (q + 1) * (q + 1)) : 64 ≤ Go.bitLen q := by
  refine Decidable.byContradiction fun hn => ?_
  have h1 := bl_lt (x := q) (k := 63) (by omega)
  have h2 := Nat.mul_le_mul (show q + 1 ≤ 2 ^ 63 by omega) (show q + 1 ≤ 2 ^ 63 by omega)
  have h3 : v * 2 ^ k < 2 ^ 126 := Nat.lt_of_lt_of_le hq (Nat.le_trans h2 (by decide))
  have h5 := bitLen_of (k := 126) h3
  rw [bl_shl _ _ v0] at h5
  omega

theorem root_pack {w e f P Q b x X S Y : Int} {c q n : Nat} {m : Bool} (k : Kd w e f P Q b) (hx : oK P Q x = 1) (p : Prt f P Q b 1 X S) (hm : mag X S = oM f P Q b x) (hc : IsRoot f.toNat (lowN f b) (oM f P Q b x * 2 ^ Z5) c)
    (h1 : 127 ≤ Go.bitLen S.toNat + n) (h2 : n ≤ 128) (hY : 2 * Y = X - n) (hq : q * q ≤ S.toNat * 2 ^ n) (hq1 : S.toNat * 2 ^ n < (q + 1) * (q + 1)) (hb : m = decide (q * q ≠ S.toNat * 2 ^ n)) :
    fl f P Q false (lid P Q (code f.toNat (lowN f b) (num q m (cap Y)) : Nat)) = fl f P Q false c := by
  obtain ⟨x0, x1, s0, -, s1⟩ := p.in k
  obtain ⟨hP, f0, f1, l0, l1, b0, b1⟩ := k.pow
  have hS : S.toNat ≠ 0 := by unfold Prt at p; omega
  have hf : 1 ≤ f.toNat ∧ f.toNat ≤ 52 := by rcases k with ⟨-, -, rfl, -⟩ | ⟨-, -, rfl, -⟩ <;> decide
  have hbl := sq_full hS h1 hq1
  rw [cap_id (by omega) (by omega)]
  have hT : oM f P Q b x * 2 ^ Z5 = S.toNat * 2 ^ n * (2 ^ (Y + 5000).toNat * 2 ^ (Y + 5000).toNat) := by
    rw [← hm]
    unfold mag
    rw [← Nat.pow_add, Nat.mul_assoc, ← Nat.pow_add, Nat.mul_assoc, ← Nat.pow_add, show (X + 5000).toNat + Z5 = n + ((Y + 5000).toNat + (Y + 5000).toNat) by unfold Z5; omega]
  have hr : IsRoot f.toNat (lowN f b) (oM f P Q b x * 2 ^ Z5) (code f.toNat (lowN f b) (num q m Y)) := by
    intro d
    rw [hT, root_code f.toNat (lowN f b) (S.toNat * 2 ^ n) q m.toNat (Y + 5000).toNat hf.1 hq hq1 (by rw [hb]; by_cases hh : q * q = S.toNat * 2 ^ n <;> simp [hh]) (by omega) (by omega) d]
    unfold num
    rw [show (Y + 5000).toNat - 1 = (Y + 4999).toNat by omega]
  rw [hr.uniq hc]
  have hi := (root_in k hx hc).2
  unfold lid
  rw [if_neg (by unfold top at hi; omega)]

theorem sqrt_any {w e f P Q b x : Int} {c : Nat} (k : Kd w e f P Q b) (W : World) (x0 : 0 ≤ x) (x1 : x < 18446744073709551616) (hc : IsR f P Q b x c) :
    Calls Try.prog 7 #[.int .i64 w, .int .u64 x] W fun r W' => r = .returned (.int .u64 (sqB f P Q x c)) ∧ Below W.heap.size W W' := by
  obtain ⟨X, S, o1, p1, m1⟩ := open_kd k x
  have HO := hide (fun W => open_any x k.wd W x0 x1 o1)
  have hK : oK P Q x = 0 ∨ oK P Q x = 1 ∨ oK P Q x = 2 ∨ oK P Q x = 3 := by unfold Prt at p1; omega
  unfold sqB
  by_cases a0 : oK P Q x = 0
  · rw [if_pos a0]
    exact sqrt_z W HO (eq_t a0) (hide (fun W => zero_any _ k.wd W))
  rw [if_neg a0]
  by_cases a3 : oK P Q x = 3
  · rw [if_pos (Or.inl a3)]
    exact sqrt_n W HO (eq_f a0) (eq_t a3) (hide (fun W => nan_any k.wd W))
  by_cases hn : oN P Q x = true
  · rw [if_pos (Or.inr hn)]
    rw [hn] at HO
    exact sqrt_m W HO (eq_f a0) (eq_f a3) (hide (fun W => nan_any k.wd W))
  rw [if_neg (fun h => h.elim a3 hn)]
  rw [show oN P Q x = false by simpa using hn] at HO
  by_cases a2 : oK P Q x = 2
  · rw [if_pos a2]
    exact sqrt_i W HO (eq_f a0) (eq_f a3) (eq_t a2) (hide (fun W => inf_any _ k.wd W))
  rw [if_neg a2]
  have a1 : oK P Q x = 1 := by omega
  have hr := hc a1
  rw [a1] at HO p1
  obtain ⟨u0, u1, s0, -, s1⟩ := p1.in k
  have hS : S.toNat ≠ 0 := by unfold Prt at p1; omega
  have HE := fun W => evened_any (K := 1) (X := X) (v := S.toNat) (n := false) W hS (by omega) (by omega) (by omega)
  rw [show ((S.toNat : Nat) : Int) = S by omega] at HE
  refine sqrt_f W HO (fun v Y => ∃ n : Nat, v = S.toNat * 2 ^ n ∧ (127 ≤ Go.bitLen S.toNat + n ∧ n ≤ 128 ∧ W2 v) ∧ 2 * Y = X - n)
    (fun Y q m => ∃ n : Nat, (127 ≤ Go.bitLen S.toNat + n ∧ n ≤ 128 ∧ q < 18446744073709551616) ∧ 2 * Y = X - n ∧ q * q ≤ S.toNat * 2 ^ n ∧ S.toNat * 2 ^ n < (q + 1) * (q + 1) ∧ m = decide (q * q ≠ S.toNat * 2 ^ n))
    (hide fun W => (HE W).mono ?_) (hide ?_) (hide ?_) (hide ?_)
  · rintro _ w' ⟨n, rfl, ⟨h1, h2, h3⟩, hb⟩
    have h4 := Int.tmod_add_mul_tdiv (X - (n : Int)) 2
    refine ⟨_, _, (X - (n : Int)).tdiv 2, rfl, i64_id (by omega) (by omega), ⟨n, rfl, ⟨h1, by omega, ?_⟩, by omega⟩, hb⟩
    have := bl_lt (x := S.toNat * 2 ^ n) (k := 128) (by rw [bl_shl _ _ hS]; omega)
    unfold W2
    omega
  · rintro v Y W ⟨n, rfl, ⟨h1, h2, h3⟩, h4⟩
    refine (root_n _ W h3).mono ?_
    rintro _ w' ⟨q, rfl, hq, hq1, hb⟩
    exact ⟨q, _, rfl, ⟨n, ⟨h1, h2, sq_word h3 hq⟩, h4, hq, hq1, rfl⟩, hb⟩
  · rintro Y q m W ⟨n, ⟨h1, h2, h3⟩, h4, hq, hq1, -⟩
    have HF := of_n (q : Int) W (by omega) (by omega)
    rw [Int.toNat_natCast] at HF
    exact HF
  · rintro Y q m W ⟨n, ⟨h1, h2, h3⟩, h4, hq, hq1, hm⟩
    have := pack_known q false m Y k (by unfold W2; omega) W
    rw [root_pack k a1 p1 m1 hr h1 h2 h4 hq hq1 hm] at this
    exact this
theorem sqrt_no {w e f P Q b x : Int} (k : Wd w e f P Q b) (hf : f = 0) (W : World) (x0 : 0 ≤ x) (x1 : x < 18446744073709551616) :
    Calls Try.prog 7 #[.int .i64 w, .int .u64 x] W fun r W' => r = .returned (.int .u64 0) ∧ Below W.heap.size W W' :=
  sqrt_z W (hide (fun W => open_none k hf x W x0 x1)) (by rfl) (hide (fun W => zero_no k hf false W))

/-- A float without a sign is its own code. -/
theorem fl_self {w e f P Q b c : Int} (k : Kd w e f P Q b) : fl f P Q false c = c := by
  obtain ⟨p1, p2, q1, q2⟩ := k.pos
  unfold fl put
  rw [if_neg k.f0]
  have := Int.emod_add_mul_ediv c P
  rw [Int.mul_comm] at this
  simp
  omega
theorem oc_self {w e f P Q b c : Int} (k : Kd w e f P Q b) (c0 : 0 ≤ c) (c1 : c ≤ top P Q) : ((oc P Q c : Nat) : Int) = c ∧ oN P Q c = false ∧ c < 18446744073709551616 := by
  obtain ⟨r0, r1, r2, r3, -, -⟩ := fl_facts k false c0 c1
  rw [fl_self k] at r1 r2 r3
  exact ⟨r2, r3, r1⟩

theorem cmp_scale (x y t : Nat) : cmpN (x * 2 ^ t) (y * 2 ^ t) = cmpN x y := by
  have h := Nat.two_pow_pos t
  unfold cmpN
  simp only [Nat.mul_lt_mul_right h]
theorem cmpN_in (x y : Nat) : -1 ≤ cmpN x y ∧ cmpN x y ≤ 1 := by
  unfold cmpN
  split <;> (try split) <;> omega

/-- The square of a number against another one: both may be laid 5000 bits up. -/
theorem over_any {m E a e : Int} (W : World) (m0 : 0 ≤ m) (m1 : m < 18446744073709551616) (a0 : 0 ≤ a) (a1 : a < 18446744073709551616) (h0 : -1200 ≤ E) (h1 : E ≤ 1100) (e0 : -1200 ≤ e) (e1 : e ≤ 1100) :
    Calls Try.prog 52 #[.int .u64 m, .int .i64 (E - 1), .int .u64 a, .int .i64 e] W fun r W' => r = .returned (.int .i64 (cmpN (m.toNat * 2 ^ (E + 5000).toNat * (m.toNat * 2 ^ (E + 5000).toNat)) (4 * (mag e a * 2 ^ Z5)))) ∧ Below W.heap.size W W' := by
  have hx : m.toNat * 2 ^ (E + 5000).toNat * (m.toNat * 2 ^ (E + 5000).toNat) = m.toNat * m.toNat * 2 ^ (2 * E + 10000).toNat := by
    rw [Nat.mul_mul_mul_comm, ← Nat.pow_add, show (E + 5000).toNat + (E + 5000).toNat = (2 * E + 10000).toNat by omega]
  have hy : 4 * (mag e a * 2 ^ Z5) = a.toNat * 2 ^ (e + 10002).toNat := by
    unfold mag
    rw [Nat.mul_comm 4, Nat.mul_assoc, Nat.mul_assoc, show (4 : Nat) = 2 ^ 2 by decide, ← Nat.pow_add, ← Nat.pow_add, show (e + 5000).toNat + (Z5 + 2) = (e + 10002).toNat by unfold Z5; omega]
  rw [hx, hy]
  have k2 : IntKind.i64.wrap (2 * (E - 1)) = 2 * E - 2 := by rw [i64_id (by omega) (by omega)]; omega
  by_cases h : e < 2 * E - 2
  · have := over_hi (m := m) (k := E - 1) (a := a) (e := e) (A := 2 * E - 2 - e) W m0 m1 a0 a1 k2 h (i64_id (by omega) (by omega)) (by omega) (by omega)
    rw [← cmp_scale _ _ (e + 10002).toNat, Nat.mul_assoc, ← Nat.pow_add, show (2 * E - 2 - e).toNat + (e + 10002).toNat = (2 * E + 10000).toNat by omega] at this
    exact this
  · have := over_lo (m := m) (k := E - 1) (a := a) (e := e) (A := e - (2 * E - 2)) W m0 m1 a0 a1 k2 h (i64_id (by omega) (by omega)) (by omega) (by omega)
    rw [← cmp_scale _ _ (2 * E + 10000).toNat, Nat.mul_assoc a.toNat, ← Nat.pow_add, show (e - (2 * E - 2)).toNat + (2 * E + 10000).toNat = (e + 10002).toNat by omega] at this
    exact this

theorem side_any {w e f P Q b X S : Int} {n : Bool} (k : Kd w e f P Q b) (p : Prt f P Q b 1 X S) (c : Nat) (hc : (c : Int) < top P Q) (W : World) :
    Calls Try.prog 29 #[.int .i64 w, .int .u64 (c : Int), .agg #[.bool n, .int .i64 1, .int .i64 X, .int .u64 S]] W fun r W' => r = .returned (.int .i64 (-(cmpN (mid2 f.toNat (lowN f b) c * mid2 f.toNat (lowN f b) c) (4 * (mag X S * 2 ^ Z5))))) ∧ Below W.heap.size W W' := by
  obtain ⟨hP, f0, f1, l0, l1, b0, b1⟩ := k.pow
  obtain ⟨x0, x1, s0, -, s1⟩ := p.in k
  obtain ⟨o1, o2, o3⟩ := oc_self (c := (c : Int)) k (by omega) (by omega)
  obtain ⟨X1, S1, q1, q2, q3⟩ := open_kd k (c : Int)
  have HO := hide (fun W => refOpen_any (c : Int) k W (by omega) o3 q1)
  obtain ⟨y0, y1, t0, t2, t1⟩ := q2.in k
  have hoc : oc P Q (c : Int) = c := by omega
  obtain ⟨z, hz⟩ : ∃ z, cmpN (mid2 f.toNat (lowN f b) c * mid2 f.toNat (lowN f b) c) (4 * (mag X S * 2 ^ Z5)) = z := ⟨_, rfl⟩
  have hcm : -1 ≤ z ∧ z ≤ 1 := hz ▸ cmpN_in _ _
  rw [hz]
  have k4 : IntKind.i64.wrap (-z) = -z := i64_id (by omega) (by omega)
  have ht := top_pos k
  rcases kind_oc k (c : Int) with ⟨-, h2, -⟩ | ⟨-, h2, -⟩ | ⟨h1, h2, -, h3⟩ | ⟨h1, h2, -⟩
  · omega
  · omega
  · rw [h1] at HO q2
    rw [h3, hoc] at q3
    have hs : S1.toNat < 2 ^ (f.toNat + 1) := by rw [pow_two]; omega
    have hk : lowN f b ≤ (X1 + 5000).toNat := by unfold lowN; unfold Prt at q2; omega
    have hk2 : lowN f b < (X1 + 5000).toNat → 2 ^ f.toNat ≤ S1.toNat := by
      intro h
      unfold lowN at h
      unfold Prt at q2
      omega
    have hcc : c = ((X1 + 5000).toNat - lowN f b) * 2 ^ f.toNat + S1.toNat := by
      apply fval_inj (f := f.toNat) (L := lowN f b)
      rw [fval_norm _ _ _ _ hs hk hk2, ← q3]
      rfl
    have hmid : mid2 f.toNat (lowN f b) c = (2 * S1 + 1).toNat * 2 ^ (X1 + 5000).toNat := by
      rw [hcc, mid2_norm _ _ _ _ hs hk hk2, show (2 * S1 + 1).toNat = 2 * S1.toNat + 1 by omega]
    have HV := fun W => over_any (m := 2 * S1 + 1) (E := X1) (a := S) (e := X) W (by omega) (by omega) s0 (by omega) y0 y1 x0 x1
    rw [← hmid, hz] at HV
    exact side_fin W HO (by rfl) (u64_id (by omega) (by omega)) (u64_id (by omega) (by omega)) (i64_id (by omega) (by omega)) (hide HV) k4
  · rw [h1] at HO q2
    obtain rfl : c = 0 := by omega
    have hS1 : S1 = 0 := by unfold Prt at q2; omega
    obtain ⟨X2, S2, r1, r2, r3⟩ := open_kd k 1
    have HO1 := hide (fun W => refOpen_any 1 k W (by omega) (by omega) r1)
    have hX2 : X2 = 1 - b - f := by
      unfold Opened at r1
      obtain ⟨p1, p2, q1', q2'⟩ := k.pos
      have e1 : (1 : Int) / P = 0 := Int.ediv_eq_zero_of_lt (by omega) (by omega)
      have e2 : (1 : Int) % P = 1 := Int.emod_eq_of_lt (by omega) (by omega)
      rw [e1, e2, Int.zero_emod] at r1
      have := k.f0
      omega
    have hmid : mid2 f.toNat (lowN f b) 0 = (2 * S1 + 1).toNat * 2 ^ (X2 + 5000).toNat := by
      have := mid2_norm f.toNat (lowN f b) 0 (lowN f b) (Nat.two_pow_pos _) (Nat.le_refl _) (fun h => absurd h (Nat.lt_irrefl _))
      rw [Nat.sub_self, Nat.zero_mul, Nat.add_zero] at this
      rw [this, hS1, show (X2 + 5000).toNat = lowN f b by unfold lowN; omega]
      rfl
    obtain ⟨y2, y3, -⟩ := r2.in k
    have HV := fun W => over_any (m := 2 * S1 + 1) (E := X2) (a := S) (e := X) W (by omega) (by omega) s0 (by omega) y2 y3 x0 x1
    rw [← hmid, hz] at HV
    exact side_zero W HO (by rfl) HO1 (u64_id (by omega) (by omega)) (u64_id (by omega) (by omega)) (i64_id (by omega) (by omega)) (hide HV) k4

theorem refSqrt_any {w e f P Q b x : Int} {c : Nat} (k : Kd w e f P Q b) (W : World) (x0 : 0 ≤ x) (x1 : x < 18446744073709551616) (hc : IsR f P Q b x c) :
    Calls Try.prog 9 #[.int .i64 w, .int .u64 x] W fun r W' => r = .returned (.int .u64 (sqB f P Q x c)) ∧ Below W.heap.size W W' := by
  obtain ⟨X, S, o1, p1, m1⟩ := open_kd k x
  have HO := hide (fun W => refOpen_any x k W x0 x1 o1)
  obtain ⟨t1, t2, t3, t4⟩ := k.pos
  have hK : oK P Q x = 0 ∨ oK P Q x = 1 ∨ oK P Q x = 2 ∨ oK P Q x = 3 := by unfold Prt at p1; omega
  unfold sqB
  by_cases a0 : oK P Q x = 0
  · rw [if_pos a0]
    exact refSqrt_z W HO (eq_t a0) (hide (fun W => make_any _ 0 0 k W (by omega) (by omega) (by omega) (by omega)))
  rw [if_neg a0]
  by_cases a3 : oK P Q x = 3
  · rw [if_pos (Or.inl a3)]
    exact refSqrt_n W HO (eq_f a0) (eq_t a3) (hide (fun W => refNan_any k W))
  by_cases hn : oN P Q x = true
  · rw [if_pos (Or.inr hn)]
    rw [hn] at HO
    exact refSqrt_m W HO (eq_f a0) (eq_f a3) (hide (fun W => refNan_any k W))
  rw [if_neg (fun h => h.elim a3 hn)]
  rw [show oN P Q x = false by simpa using hn] at HO
  by_cases a2 : oK P Q x = 2
  · rw [if_pos a2]
    exact refSqrt_i W HO (eq_f a0) (eq_f a3) (eq_t a2) (hide (fun W => refInf_any _ k W))
  rw [if_neg a2]
  have a1 : oK P Q x = 1 := by omega
  have hr := hc a1
  rw [a1] at HO p1
  have ht := top_pos k
  have HI := fun W => refInf_any false k W
  rw [put_inf k, fl_self k] at HI
  have hw := (fl_facts k false (Int.le_of_lt ht) (Int.le_refl _)).2.1
  rw [fl_self k] at hw
  rw [fl_self k]
  refine refSqrt_f W HO (by omega) (hide HI) ht hw (root_in k a1 hr).2 (fun m => -(cmpN (mid2 f.toNat (lowN f b) m * mid2 f.toNat (lowN f b) m) (4 * (mag X S * 2 ^ Z5)))) (hide fun m hm W => side_any k p1 m hm W) (hide fun m => ?_)
  have h1 := hr m
  rw [← m1] at h1
  unfold rootLe at h1
  unfold cmpN
  generalize mid2 f.toNat (lowN f b) m * mid2 f.toNat (lowN f b) m = A at *
  generalize mag X S * 2 ^ Z5 = B at *
  split
  · omega
  · split <;> omega

theorem kind_code {w e f P Q b : Int} (k : Kd w e f P Q b) (c : Nat) (h0 : c ≠ 0) (h1 : (c : Int) < top P Q) : oK P Q (c : Int) = 1 ∧ oN P Q (c : Int) = false ∧ oc P Q (c : Int) = c ∧ (c : Int) < 18446744073709551616 := by
  obtain ⟨o1, o2, o3⟩ := oc_self (c := (c : Int)) k (by omega) (by omega)
  rcases kind_oc (b := b) k (c : Int) with ⟨-, h2, -⟩ | ⟨-, h2, -⟩ | ⟨h1, -, -, h3⟩ | ⟨-, h2, -⟩
  · omega
  · omega
  · exact ⟨h1, o2, by omega, o3⟩
  · omega
theorem sq_fin {w e f P Q b x : Int} {c : Nat} (k : Kd w e f P Q b) (h : oK P Q x = 1) (hn : oN P Q x = false) : sqB f P Q x c = (c : Int) := by
  unfold sqB
  rw [if_neg (by omega), if_neg (by rw [hn]; intro h'; rcases h' with h' | h'; omega; exact absurd h' (by decide)), if_neg (by omega), fl_self k]

end Go.Proofs.Ytafejbkjkbgocaa
namespace Go.Proofs.Ytafejbkjkbgocaa
open Go.RowKit
open Go.Proofs.Ytafejbkjkbgocaa.W

set_option maxRecDepth 100000 in
set_option maxHeartbeats 2000000 in
theorem awake_l (W : World) (HA : Hid (∀ W, Calls Try.prog 7 #[.int .i64 64, .int .u64 4611686018427387904] W fun r W' => r = .returned (.int .u64 4609047870845172685) ∧ Below W.heap.size W W')) (HB0 : Hid (∀ W, Calls Try.prog 7 #[.int .i64 64, .int .u64 9223372036854775808] W fun r W' => r = .returned (.int .u64 9223372036854775808) ∧ Below W.heap.size W W')) (HC : Hid (∀ W, Calls Try.prog 7 #[.int .i64 32, .int .u64 1082130432] W fun r W' => r = .returned (.int .u64 1073741824) ∧ Below W.heap.size W W')) :
    Calls Try.prog 6 #[] W fun r W' => r = .returned (.bool true) ∧ Below W.heap.size W W' := by
  go_enter Try.func6, Try.ntmps6
  go_wp2_with fail
  refine (unhide HA _).mono ?_
  rintro _ w1 ⟨rfl, hb⟩
  have HB := hide hb
  clear hb
  go_wp2_with fail
  refine (unhide HB0 _).mono ?_
  rintro _ w2 ⟨rfl, hb⟩
  have HB := hide (bthen (unhide HB) hb)
  clear hb
  go_wp2_with fail
  refine (unhide HC _).mono ?_
  rintro _ w3 ⟨rfl, hb⟩
  have HB := hide (bthen (unhide HB) hb)
  clear hb
  go_wp2_with fail
  go_ret
  exact ⟨rfl, unhide HB⟩
theorem kd_32s : Kd 32 8 23 8388608 256 127 := Or.inl ⟨rfl, rfl, rfl, rfl, rfl, rfl⟩
theorem kd_64s : Kd 64 11 52 4503599627370496 2048 1023 := Or.inr ⟨rfl, rfl, rfl, rfl, rfl, rfl⟩
theorem rad_a : IsR 52 4503599627370496 2048 1023 4611686018427387904 4609047870845172685 := fun _ => isRoot_of (by unfold rootLe; decide +kernel) (by unfold rootLe; decide +kernel)
theorem rad_b : IsR 52 4503599627370496 2048 1023 9223372036854775808 0 := fun h => absurd h (by decide +kernel)
theorem rad_c : IsR 23 8388608 256 127 1082130432 1073741824 := fun _ => isRoot_of (by unfold rootLe; decide +kernel) (by unfold rootLe; decide +kernel)
theorem sq_a : sqB 52 4503599627370496 2048 4611686018427387904 4609047870845172685 = 4609047870845172685 := by decide +kernel
theorem sq_b : sqB 52 4503599627370496 2048 9223372036854775808 0 = 9223372036854775808 := by decide +kernel
theorem sq_c : sqB 23 8388608 256 1082130432 1073741824 = 1073741824 := by decide +kernel
theorem awake_any (W : World) : Calls Try.prog 6 #[] W fun r W' => r = .returned (.bool true) ∧ Below W.heap.size W W' := by
  have h1 := fun W => sqrt_any (x := 4611686018427387904) kd_64s W (by omega) (by omega) rad_a
  have h2 := fun W => sqrt_any (x := 9223372036854775808) kd_64s W (by omega) (by omega) rad_b
  have h3 := fun W => sqrt_any (x := 1082130432) kd_32s W (by omega) (by omega) rad_c
  rw [sq_a] at h1
  rw [sq_b] at h2
  rw [sq_c] at h3
  exact awake_l W (hide h1) (hide h2) (hide h3)
set_option maxRecDepth 100000 in
set_option maxHeartbeats 2000000 in
theorem roots_t {w x U : Int} (W : World) (HW : Hid (∀ W, Calls Try.prog 6 #[] W fun r W' => r = .returned (.bool true) ∧ Below W.heap.size W W')) (HA : Hid (∀ W, Calls Try.prog 7 #[.int .i64 w, .int .u64 x] W fun r W' => r = .returned (.int .u64 U) ∧ Below W.heap.size W W')) (HK : Hid (∀ W, Calls Try.prog 8 #[.int .i64 w] W fun r W' => r = .returned (.bool true) ∧ Below W.heap.size W W')) (HA2 : Hid (∀ W, Calls Try.prog 9 #[.int .i64 w, .int .u64 x] W fun r W' => r = .returned (.int .u64 U) ∧ Below W.heap.size W W')) :
    Calls Try.prog 3 #[.int .i64 w, .int .u64 x] W fun r W' => r = .returned (.bool true) ∧ Below W.heap.size W W' := by
  go_enter Try.func3, Try.ntmps3
  go_wp2_with fail
  refine (unhide HW _).mono ?_
  rintro _ w1 ⟨rfl, hb⟩
  have HB := hide hb
  clear hb
  go_wp2_with fail
  refine (unhide HA _).mono ?_
  rintro _ w2 ⟨rfl, hb⟩
  have HB := hide (bthen (unhide HB) hb)
  clear hb
  go_wp2_with fail
  refine (unhide HK _).mono ?_
  rintro _ w3 ⟨rfl, hb⟩
  have HB := hide (bthen (unhide HB) hb)
  clear hb
  go_wp2_with fail
  refine (unhide HA2 _).mono ?_
  rintro _ w4 ⟨rfl, hb⟩
  have HB := hide (bthen (unhide HB) hb)
  clear hb
  go_wp2_with fail
  go_ret
  exact ⟨by simp, unhide HB⟩
set_option maxRecDepth 100000 in
set_option maxHeartbeats 2000000 in
theorem roots_f {w x : Int} (W : World) (HW : Hid (∀ W, Calls Try.prog 6 #[] W fun r W' => r = .returned (.bool true) ∧ Below W.heap.size W W')) (HA : Hid (∀ W, Calls Try.prog 7 #[.int .i64 w, .int .u64 x] W fun r W' => r = .returned (.int .u64 0) ∧ Below W.heap.size W W')) (HK : Hid (∀ W, Calls Try.prog 8 #[.int .i64 w] W fun r W' => r = .returned (.bool false) ∧ Below W.heap.size W W')) :
    Calls Try.prog 3 #[.int .i64 w, .int .u64 x] W fun r W' => r = .returned (.bool true) ∧ Below W.heap.size W W' := by
  go_enter Try.func3, Try.ntmps3
  go_wp2_with fail
  refine (unhide HW _).mono ?_
  rintro _ w1 ⟨rfl, hb⟩
  have HB := hide hb
  clear hb
  go_wp2_with fail
  refine (unhide HA _).mono ?_
  rintro _ w2 ⟨rfl, hb⟩
  have HB := hide (bthen (unhide HB) hb)
  clear hb
  go_wp2_with fail
  refine (unhide HK _).mono ?_
  rintro _ w3 ⟨rfl, hb⟩
  have HB := hide (bthen (unhide HB) hb)
  clear hb
  go_wp2_with fail
  go_ret
  exact ⟨rfl, unhide HB⟩
set_option maxRecDepth 100000 in
set_option maxHeartbeats 2000000 in
theorem rs_f {w x N : Int} (W : World) (HW : Hid (∀ W, Calls Try.prog 6 #[] W fun r W' => r = .returned (.bool true) ∧ Below W.heap.size W W')) (HK : Hid (∀ W, Calls Try.prog 8 #[.int .i64 w] W fun r W' => r = .returned (.bool false) ∧ Below W.heap.size W W')) :
    Calls Try.prog 5 #[.int .i64 w, .int .u64 x, .int .i64 N] W fun r W' => r = .returned (.bool true) ∧ Below W.heap.size W W' := by
  go_enter Try.func5, Try.ntmps5
  go_wp2_with fail
  refine (unhide HW _).mono ?_
  rintro _ w1 ⟨rfl, hb⟩
  have HB := hide hb
  clear hb
  go_wp2_with fail
  refine (unhide HK _).mono ?_
  rintro _ w2 ⟨rfl, hb⟩
  have HB := hide (bthen (unhide HB) hb)
  clear hb
  go_wp2_with fail
  go_ret
  exact ⟨rfl, unhide HB⟩
set_option maxRecDepth 100000 in
set_option maxHeartbeats 2000000 in
theorem rs_lo {w x N : Int} (W : World) (HW : Hid (∀ W, Calls Try.prog 6 #[] W fun r W' => r = .returned (.bool true) ∧ Below W.heap.size W W')) (HK : Hid (∀ W, Calls Try.prog 8 #[.int .i64 w] W fun r W' => r = .returned (.bool true) ∧ Below W.heap.size W W')) (h1 : N < -1000) :
    Calls Try.prog 5 #[.int .i64 w, .int .u64 x, .int .i64 N] W fun r W' => r = .returned (.bool true) ∧ Below W.heap.size W W' := by
  go_enter Try.func5, Try.ntmps5
  go_wp2_with fail
  refine (unhide HW _).mono ?_
  rintro _ w1 ⟨rfl, hb⟩
  have HB := hide hb
  clear hb
  go_wp2_with fail
  refine (unhide HK _).mono ?_
  rintro _ w2 ⟨rfl, hb⟩
  have HB := hide (bthen (unhide HB) hb)
  clear hb
  go_wp2_with fail
  go_ret
  exact ⟨rfl, unhide HB⟩
set_option maxRecDepth 100000 in
set_option maxHeartbeats 2000000 in
theorem rs_hi {w x N : Int} (W : World) (HW : Hid (∀ W, Calls Try.prog 6 #[] W fun r W' => r = .returned (.bool true) ∧ Below W.heap.size W W')) (HK : Hid (∀ W, Calls Try.prog 8 #[.int .i64 w] W fun r W' => r = .returned (.bool true) ∧ Below W.heap.size W W')) (h1 : ¬ N < -1000) (h2 : 1000 < N) :
    Calls Try.prog 5 #[.int .i64 w, .int .u64 x, .int .i64 N] W fun r W' => r = .returned (.bool true) ∧ Below W.heap.size W W' := by
  go_enter Try.func5, Try.ntmps5
  go_wp2_with fail
  refine (unhide HW _).mono ?_
  rintro _ w1 ⟨rfl, hb⟩
  have HB := hide hb
  clear hb
  go_wp2_with fail
  refine (unhide HK _).mono ?_
  rintro _ w2 ⟨rfl, hb⟩
  have HB := hide (bthen (unhide HB) hb)
  clear hb
  go_wp2_with fail
  go_ret
  exact ⟨rfl, unhide HB⟩
set_option maxRecDepth 100000 in
set_option maxHeartbeats 2000000 in
theorem rs_n {w x N E : Int} (W : World) (HW : Hid (∀ W, Calls Try.prog 6 #[] W fun r W' => r = .returned (.bool true) ∧ Below W.heap.size W W')) (HK : Hid (∀ W, Calls Try.prog 8 #[.int .i64 w] W fun r W' => r = .returned (.bool true) ∧ Below W.heap.size W W')) (h1 : ¬ N < -1000) (h2 : ¬ 1000 < N) (HX : Hid (∀ W, Calls Try.prog 15 #[.int .i64 w, .int .u64 x] W fun r W' => r = .returned (.int .i64 E) ∧ Below W.heap.size W W')) (HN : Hid (∀ W, Calls Try.prog 16 #[.int .i64 w, .int .u64 x] W fun r W' => r = .returned (.bool true) ∧ Below W.heap.size W W'))  :
    Calls Try.prog 5 #[.int .i64 w, .int .u64 x, .int .i64 N] W fun r W' => r = .returned (.bool true) ∧ Below W.heap.size W W' := by
  go_enter Try.func5, Try.ntmps5
  go_wp2_with fail
  refine (unhide HW _).mono ?_
  rintro _ w1 ⟨rfl, hb⟩
  have HB := hide hb
  clear hb
  go_wp2_with fail
  refine (unhide HK _).mono ?_
  rintro _ w2 ⟨rfl, hb⟩
  have HB := hide (bthen (unhide HB) hb)
  clear hb
  go_wp2_with fail
  refine (unhide HX _).mono ?_
  rintro _ w3 ⟨rfl, hb⟩
  have HB := hide (bthen (unhide HB) hb)
  clear hb
  go_wp2_with fail
  refine (unhide HN _).mono ?_
  rintro _ w4 ⟨rfl, hb⟩
  have HB := hide (bthen (unhide HB) hb)
  clear hb
  go_wp2_with fail
  go_ret
  exact ⟨rfl, unhide HB⟩
set_option maxRecDepth 100000 in
set_option maxHeartbeats 2000000 in
theorem rs_0 {w x N E : Int} (W : World) (HW : Hid (∀ W, Calls Try.prog 6 #[] W fun r W' => r = .returned (.bool true) ∧ Below W.heap.size W W')) (HK : Hid (∀ W, Calls Try.prog 8 #[.int .i64 w] W fun r W' => r = .returned (.bool true) ∧ Below W.heap.size W W')) (h1 : ¬ N < -1000) (h2 : ¬ 1000 < N) (HX : Hid (∀ W, Calls Try.prog 15 #[.int .i64 w, .int .u64 x] W fun r W' => r = .returned (.int .i64 E) ∧ Below W.heap.size W W')) (HN : Hid (∀ W, Calls Try.prog 16 #[.int .i64 w, .int .u64 x] W fun r W' => r = .returned (.bool false) ∧ Below W.heap.size W W')) (e0 : (E == 0) = true) :
    Calls Try.prog 5 #[.int .i64 w, .int .u64 x, .int .i64 N] W fun r W' => r = .returned (.bool true) ∧ Below W.heap.size W W' := by
  go_enter Try.func5, Try.ntmps5
  go_wp2_with fail
  refine (unhide HW _).mono ?_
  rintro _ w1 ⟨rfl, hb⟩
  have HB := hide hb
  clear hb
  go_wp2_with fail
  refine (unhide HK _).mono ?_
  rintro _ w2 ⟨rfl, hb⟩
  have HB := hide (bthen (unhide HB) hb)
  clear hb
  go_wp2_with fail
  refine (unhide HX _).mono ?_
  rintro _ w3 ⟨rfl, hb⟩
  have HB := hide (bthen (unhide HB) hb)
  clear hb
  go_wp2_with fail
  refine (unhide HN _).mono ?_
  rintro _ w4 ⟨rfl, hb⟩
  have HB := hide (bthen (unhide HB) hb)
  clear hb
  go_wp2_with fail
  go_ret
  exact ⟨rfl, unhide HB⟩
set_option maxRecDepth 100000 in
set_option maxHeartbeats 2000000 in
theorem rs_1 {w x N E T : Int} (W : World) (HW : Hid (∀ W, Calls Try.prog 6 #[] W fun r W' => r = .returned (.bool true) ∧ Below W.heap.size W W')) (HK : Hid (∀ W, Calls Try.prog 8 #[.int .i64 w] W fun r W' => r = .returned (.bool true) ∧ Below W.heap.size W W')) (h1 : ¬ N < -1000) (h2 : ¬ 1000 < N) (HX : Hid (∀ W, Calls Try.prog 15 #[.int .i64 w, .int .u64 x] W fun r W' => r = .returned (.int .i64 E) ∧ Below W.heap.size W W')) (HN : Hid (∀ W, Calls Try.prog 16 #[.int .i64 w, .int .u64 x] W fun r W' => r = .returned (.bool false) ∧ Below W.heap.size W W')) (e0 : (E == 0) = false) (HT : Hid (∀ W, Calls Try.prog 17 #[.int .i64 w] W fun r W' => r = .returned (.int .i64 T) ∧ Below W.heap.size W W')) (e1 : (E == T) = true) :
    Calls Try.prog 5 #[.int .i64 w, .int .u64 x, .int .i64 N] W fun r W' => r = .returned (.bool true) ∧ Below W.heap.size W W' := by
  go_enter Try.func5, Try.ntmps5
  go_wp2_with fail
  refine (unhide HW _).mono ?_
  rintro _ w1 ⟨rfl, hb⟩
  have HB := hide hb
  clear hb
  go_wp2_with fail
  refine (unhide HK _).mono ?_
  rintro _ w2 ⟨rfl, hb⟩
  have HB := hide (bthen (unhide HB) hb)
  clear hb
  go_wp2_with fail
  refine (unhide HX _).mono ?_
  rintro _ w3 ⟨rfl, hb⟩
  have HB := hide (bthen (unhide HB) hb)
  clear hb
  go_wp2_with fail
  refine (unhide HN _).mono ?_
  rintro _ w4 ⟨rfl, hb⟩
  have HB := hide (bthen (unhide HB) hb)
  clear hb
  go_wp2_with fail
  refine (unhide HT _).mono ?_
  rintro _ w5 ⟨rfl, hb⟩
  have HB := hide (bthen (unhide HB) hb)
  clear hb
  go_wp2_with fail
  go_ret
  exact ⟨rfl, unhide HB⟩
set_option maxRecDepth 100000 in
set_option maxHeartbeats 2000000 in
theorem rs_2 {w x N E T M E2 : Int} (W : World) (HW : Hid (∀ W, Calls Try.prog 6 #[] W fun r W' => r = .returned (.bool true) ∧ Below W.heap.size W W')) (HK : Hid (∀ W, Calls Try.prog 8 #[.int .i64 w] W fun r W' => r = .returned (.bool true) ∧ Below W.heap.size W W')) (h1 : ¬ N < -1000) (h2 : ¬ 1000 < N) (HX : Hid (∀ W, Calls Try.prog 15 #[.int .i64 w, .int .u64 x] W fun r W' => r = .returned (.int .i64 E) ∧ Below W.heap.size W W')) (HN : Hid (∀ W, Calls Try.prog 16 #[.int .i64 w, .int .u64 x] W fun r W' => r = .returned (.bool false) ∧ Below W.heap.size W W')) (e0 : (E == 0) = false) (HT : Hid (∀ W, Calls Try.prog 17 #[.int .i64 w] W fun r W' => r = .returned (.int .i64 T) ∧ Below W.heap.size W W')) (e1 : (E == T) = false) (k1 : IntKind.i64.wrap (2 * N) = M) (k2 : IntKind.i64.wrap (E + M) = E2) (e2 : E2 < 1) :
    Calls Try.prog 5 #[.int .i64 w, .int .u64 x, .int .i64 N] W fun r W' => r = .returned (.bool true) ∧ Below W.heap.size W W' := by
  go_enter Try.func5, Try.ntmps5
  go_wp2_with fail
  refine (unhide HW _).mono ?_
  rintro _ w1 ⟨rfl, hb⟩
  have HB := hide hb
  clear hb
  go_wp2_with fail
  refine (unhide HK _).mono ?_
  rintro _ w2 ⟨rfl, hb⟩
  have HB := hide (bthen (unhide HB) hb)
  clear hb
  go_wp2_with fail
  refine (unhide HX _).mono ?_
  rintro _ w3 ⟨rfl, hb⟩
  have HB := hide (bthen (unhide HB) hb)
  clear hb
  go_wp2_with fail
  refine (unhide HN _).mono ?_
  rintro _ w4 ⟨rfl, hb⟩
  have HB := hide (bthen (unhide HB) hb)
  clear hb
  go_wp2_with fail
  refine (unhide HT _).mono ?_
  rintro _ w5 ⟨rfl, hb⟩
  have HB := hide (bthen (unhide HB) hb)
  clear hb
  go_wp2_with fail
  go_ret
  exact ⟨rfl, unhide HB⟩
set_option maxRecDepth 100000 in
set_option maxHeartbeats 2000000 in
theorem rs_3 {w x N E T M E2 : Int} (W : World) (HW : Hid (∀ W, Calls Try.prog 6 #[] W fun r W' => r = .returned (.bool true) ∧ Below W.heap.size W W')) (HK : Hid (∀ W, Calls Try.prog 8 #[.int .i64 w] W fun r W' => r = .returned (.bool true) ∧ Below W.heap.size W W')) (h1 : ¬ N < -1000) (h2 : ¬ 1000 < N) (HX : Hid (∀ W, Calls Try.prog 15 #[.int .i64 w, .int .u64 x] W fun r W' => r = .returned (.int .i64 E) ∧ Below W.heap.size W W')) (HN : Hid (∀ W, Calls Try.prog 16 #[.int .i64 w, .int .u64 x] W fun r W' => r = .returned (.bool false) ∧ Below W.heap.size W W')) (e0 : (E == 0) = false) (HT : Hid (∀ W, Calls Try.prog 17 #[.int .i64 w] W fun r W' => r = .returned (.int .i64 T) ∧ Below W.heap.size W W')) (e1 : (E == T) = false) (k1 : IntKind.i64.wrap (2 * N) = M) (k2 : IntKind.i64.wrap (E + M) = E2) (e2 : ¬ E2 < 1) (e3 : T ≤ E2) :
    Calls Try.prog 5 #[.int .i64 w, .int .u64 x, .int .i64 N] W fun r W' => r = .returned (.bool true) ∧ Below W.heap.size W W' := by
  go_enter Try.func5, Try.ntmps5
  go_wp2_with fail
  refine (unhide HW _).mono ?_
  rintro _ w1 ⟨rfl, hb⟩
  have HB := hide hb
  clear hb
  go_wp2_with fail
  refine (unhide HK _).mono ?_
  rintro _ w2 ⟨rfl, hb⟩
  have HB := hide (bthen (unhide HB) hb)
  clear hb
  go_wp2_with fail
  refine (unhide HX _).mono ?_
  rintro _ w3 ⟨rfl, hb⟩
  have HB := hide (bthen (unhide HB) hb)
  clear hb
  go_wp2_with fail
  refine (unhide HN _).mono ?_
  rintro _ w4 ⟨rfl, hb⟩
  have HB := hide (bthen (unhide HB) hb)
  clear hb
  go_wp2_with fail
  refine (unhide HT _).mono ?_
  rintro _ w5 ⟨rfl, hb⟩
  have HB := hide (bthen (unhide HB) hb)
  clear hb
  go_wp2_with fail
  refine (unhide HT _).mono ?_
  rintro _ w6 ⟨rfl, hb⟩
  have HB := hide (bthen (unhide HB) hb)
  clear hb
  go_wp2_with fail
  go_ret
  exact ⟨rfl, unhide HB⟩
set_option maxRecDepth 100000 in
set_option maxHeartbeats 2000000 in
theorem rs_t {w x N E T M E2 y s V : Int} (W : World) (HW : Hid (∀ W, Calls Try.prog 6 #[] W fun r W' => r = .returned (.bool true) ∧ Below W.heap.size W W')) (HK : Hid (∀ W, Calls Try.prog 8 #[.int .i64 w] W fun r W' => r = .returned (.bool true) ∧ Below W.heap.size W W')) (h1 : ¬ N < -1000) (h2 : ¬ 1000 < N) (HX : Hid (∀ W, Calls Try.prog 15 #[.int .i64 w, .int .u64 x] W fun r W' => r = .returned (.int .i64 E) ∧ Below W.heap.size W W')) (HN : Hid (∀ W, Calls Try.prog 16 #[.int .i64 w, .int .u64 x] W fun r W' => r = .returned (.bool false) ∧ Below W.heap.size W W')) (e0 : (E == 0) = false) (HT : Hid (∀ W, Calls Try.prog 17 #[.int .i64 w] W fun r W' => r = .returned (.int .i64 T) ∧ Below W.heap.size W W')) (e1 : (E == T) = false) (k1 : IntKind.i64.wrap (2 * N) = M) (k2 : IntKind.i64.wrap (E + M) = E2) (e2 : ¬ E2 < 1) (e3 : ¬ T ≤ E2) (HS : Hid (∀ W, Calls Try.prog 18 #[.int .i64 w, .int .u64 x, .int .i64 M] W fun r W' => r = .returned (.int .u64 y) ∧ Below W.heap.size W W')) (HA : Hid (∀ W, Calls Try.prog 7 #[.int .i64 w, .int .u64 y] W fun r W' => r = .returned (.int .u64 V) ∧ Below W.heap.size W W')) (HA2 : Hid (∀ W, Calls Try.prog 7 #[.int .i64 w, .int .u64 x] W fun r W' => r = .returned (.int .u64 s) ∧ Below W.heap.size W W')) (HS2 : Hid (∀ W, Calls Try.prog 18 #[.int .i64 w, .int .u64 s, .int .i64 N] W fun r W' => r = .returned (.int .u64 V) ∧ Below W.heap.size W W')) :
    Calls Try.prog 5 #[.int .i64 w, .int .u64 x, .int .i64 N] W fun r W' => r = .returned (.bool true) ∧ Below W.heap.size W W' := by
  go_enter Try.func5, Try.ntmps5
  go_wp2_with fail
  refine (unhide HW _).mono ?_
  rintro _ w1 ⟨rfl, hb⟩
  have HB := hide hb
  clear hb
  go_wp2_with fail
  refine (unhide HK _).mono ?_
  rintro _ w2 ⟨rfl, hb⟩
  have HB := hide (bthen (unhide HB) hb)
  clear hb
  go_wp2_with fail
  refine (unhide HX _).mono ?_
  rintro _ w3 ⟨rfl, hb⟩
  have HB := hide (bthen (unhide HB) hb)
  clear hb
  go_wp2_with fail
  refine (unhide HN _).mono ?_
  rintro _ w4 ⟨rfl, hb⟩
  have HB := hide (bthen (unhide HB) hb)
  clear hb
  go_wp2_with fail
  refine (unhide HT _).mono ?_
  rintro _ w5 ⟨rfl, hb⟩
  have HB := hide (bthen (unhide HB) hb)
  clear hb
  go_wp2_with fail
  refine (unhide HT _).mono ?_
  rintro _ w6 ⟨rfl, hb⟩
  have HB := hide (bthen (unhide HB) hb)
  clear hb
  go_wp2_with fail
  refine (unhide HS _).mono ?_
  rintro _ w7 ⟨rfl, hb⟩
  have HB := hide (bthen (unhide HB) hb)
  clear hb
  go_wp2_with fail
  refine (unhide HA _).mono ?_
  rintro _ w8 ⟨rfl, hb⟩
  have HB := hide (bthen (unhide HB) hb)
  clear hb
  go_wp2_with fail
  refine (unhide HA2 _).mono ?_
  rintro _ w9 ⟨rfl, hb⟩
  have HB := hide (bthen (unhide HB) hb)
  clear hb
  go_wp2_with fail
  refine (unhide HS2 _).mono ?_
  rintro _ w10 ⟨rfl, hb⟩
  have HB := hide (bthen (unhide HB) hb)
  clear hb
  go_wp2_with fail
  go_ret
  exact ⟨by simp, unhide HB⟩

end Go.Proofs.Ytafejbkjkbgocaa
namespace Go.Proofs.Ytafejbkjkbgocaa
open Go.RowKit
open Go.Proofs.Ytafejbkjkbgocaa.W

set_option maxRecDepth 100000 in
set_option maxHeartbeats 2000000 in
theorem keeps_no {w x y : Int} (W : World) (g1 : (w != 32) = true) (g2 : (w != 64) = true) (HW : Hid (∀ W, Calls Try.prog 6 #[] W fun r W' => r = .returned (.bool true) ∧ Below W.heap.size W W')) :
    Calls Try.prog 4 #[.int .i64 w, .int .u64 x, .int .u64 y] W fun r W' => r = .returned (.bool true) ∧ Below W.heap.size W W' := by
  go_enter Try.func4, Try.ntmps4
  go_wp2_with fail
  refine (unhide HW _).mono ?_
  rintro _ w1 ⟨rfl, hb⟩
  have HB := hide hb
  clear hb
  go_wp2_with fail
  go_ret
  exact ⟨rfl, unhide HB⟩
set_option maxRecDepth 100000 in
set_option maxHeartbeats 2000000 in
theorem keeps_n32 {w x y a a2 z u s t : Int} (W : World) (g1 : (w != 32) = false) (HW : Hid (∀ W, Calls Try.prog 6 #[] W fun r W' => r = .returned (.bool true) ∧ Below W.heap.size W W')) (kn : x.tmod 4096 = a) (km : IntKind.u64.wrap (a * a) = a2) (HA : Hid (∀ W, Calls Try.prog 10 #[.int .i64 w, .bool false, .int .u64 a2] W fun r W' => r = .returned (.int .u64 z) ∧ Below W.heap.size W W')) (HS0 : Hid (∀ W, Calls Try.prog 7 #[.int .i64 w, .int .u64 z] W fun r W' => r = .returned (.int .u64 u) ∧ Below W.heap.size W W')) (HA1 : Hid (∀ W, Calls Try.prog 10 #[.int .i64 w, .bool false, .int .u64 a] W fun r W' => r = .returned (.int .u64 u) ∧ Below W.heap.size W W')) (HS1 : Hid (∀ W, Calls Try.prog 7 #[.int .i64 w, .int .u64 x] W fun r W' => r = .returned (.int .u64 s) ∧ Below W.heap.size W W')) (HS2 : Hid (∀ W, Calls Try.prog 7 #[.int .i64 w, .int .u64 y] W fun r W' => r = .returned (.int .u64 t) ∧ Below W.heap.size W W')) (HT : Hid (∀ W, Calls Try.prog 11 #[.int .i64 w, .int .u64 s] W fun r W' => r = .returned (.bool true) ∧ Below W.heap.size W W')) (HN : Hid (∀ W, Calls Try.prog 12 #[.int .i64 w] W fun r W' => r = .returned (.int .u64 s) ∧ Below W.heap.size W W')) :
    Calls Try.prog 4 #[.int .i64 w, .int .u64 x, .int .u64 y] W fun r W' => r = .returned (.bool true) ∧ Below W.heap.size W W' := by
  go_enter Try.func4, Try.ntmps4
  go_wp2_with fail
  refine (unhide HW _).mono ?_
  rintro _ w1 ⟨rfl, hb⟩
  have HB := hide hb
  clear hb
  go_wp2_with fail
  refine (unhide HA _).mono ?_
  rintro _ w2 ⟨rfl, hb⟩
  have HB := hide (bthen (unhide HB) hb)
  clear hb
  go_wp2_with fail
  refine (unhide HS0 _).mono ?_
  rintro _ w3 ⟨rfl, hb⟩
  have HB := hide (bthen (unhide HB) hb)
  clear hb
  go_wp2_with fail
  refine (unhide HA1 _).mono ?_
  rintro _ w4 ⟨rfl, hb⟩
  have HB := hide (bthen (unhide HB) hb)
  clear hb
  go_wp2_with fail
  refine (unhide HS1 _).mono ?_
  rintro _ w5 ⟨rfl, hb⟩
  have HB := hide (bthen (unhide HB) hb)
  clear hb
  go_wp2_with fail
  refine (unhide HS2 _).mono ?_
  rintro _ w6 ⟨rfl, hb⟩
  have HB := hide (bthen (unhide HB) hb)
  clear hb
  go_wp2_with fail
  refine (unhide HT _).mono ?_
  rintro _ w7 ⟨rfl, hb⟩
  have HB := hide (bthen (unhide HB) hb)
  clear hb
  go_wp2_with fail
  refine (unhide HN _).mono ?_
  rintro _ w8 ⟨rfl, hb⟩
  have HB := hide (bthen (unhide HB) hb)
  clear hb
  go_wp2_with fail
  go_ret
  exact ⟨by simp, unhide HB⟩
set_option maxRecDepth 100000 in
set_option maxHeartbeats 2000000 in
theorem keeps_a32 {w x y a a2 z u s t K X S K1 X1 S1 : Int} {n1 : Bool} (W : World) (g1 : (w != 32) = false) (HW : Hid (∀ W, Calls Try.prog 6 #[] W fun r W' => r = .returned (.bool true) ∧ Below W.heap.size W W')) (kn : x.tmod 4096 = a) (km : IntKind.u64.wrap (a * a) = a2) (HA : Hid (∀ W, Calls Try.prog 10 #[.int .i64 w, .bool false, .int .u64 a2] W fun r W' => r = .returned (.int .u64 z) ∧ Below W.heap.size W W')) (HS0 : Hid (∀ W, Calls Try.prog 7 #[.int .i64 w, .int .u64 z] W fun r W' => r = .returned (.int .u64 u) ∧ Below W.heap.size W W')) (HA1 : Hid (∀ W, Calls Try.prog 10 #[.int .i64 w, .bool false, .int .u64 a] W fun r W' => r = .returned (.int .u64 u) ∧ Below W.heap.size W W')) (HS1 : Hid (∀ W, Calls Try.prog 7 #[.int .i64 w, .int .u64 x] W fun r W' => r = .returned (.int .u64 s) ∧ Below W.heap.size W W')) (HS2 : Hid (∀ W, Calls Try.prog 7 #[.int .i64 w, .int .u64 y] W fun r W' => r = .returned (.int .u64 t) ∧ Below W.heap.size W W')) (HT : Hid (∀ W, Calls Try.prog 11 #[.int .i64 w, .int .u64 s] W fun r W' => r = .returned (.bool false) ∧ Below W.heap.size W W')) (HP : Hid (∀ W, Calls Try.prog 13 #[.int .i64 w, .int .u64 x] W fun r W' => r = .returned (.agg #[.bool true, .int .i64 K, .int .i64 X, .int .u64 S]) ∧ Below W.heap.size W W')) (HQ : Hid (∀ W, Calls Try.prog 13 #[.int .i64 w, .int .u64 y] W fun r W' => r = .returned (.agg #[.bool n1, .int .i64 K1, .int .i64 X1, .int .u64 S1]) ∧ Below W.heap.size W W'))  :
    Calls Try.prog 4 #[.int .i64 w, .int .u64 x, .int .u64 y] W fun r W' => r = .returned (.bool true) ∧ Below W.heap.size W W' := by
  go_enter Try.func4, Try.ntmps4
  go_wp2_with fail
  refine (unhide HW _).mono ?_
  rintro _ w1 ⟨rfl, hb⟩
  have HB := hide hb
  clear hb
  go_wp2_with fail
  refine (unhide HA _).mono ?_
  rintro _ w2 ⟨rfl, hb⟩
  have HB := hide (bthen (unhide HB) hb)
  clear hb
  go_wp2_with fail
  refine (unhide HS0 _).mono ?_
  rintro _ w3 ⟨rfl, hb⟩
  have HB := hide (bthen (unhide HB) hb)
  clear hb
  go_wp2_with fail
  refine (unhide HA1 _).mono ?_
  rintro _ w4 ⟨rfl, hb⟩
  have HB := hide (bthen (unhide HB) hb)
  clear hb
  go_wp2_with fail
  refine (unhide HS1 _).mono ?_
  rintro _ w5 ⟨rfl, hb⟩
  have HB := hide (bthen (unhide HB) hb)
  clear hb
  go_wp2_with fail
  refine (unhide HS2 _).mono ?_
  rintro _ w6 ⟨rfl, hb⟩
  have HB := hide (bthen (unhide HB) hb)
  clear hb
  go_wp2_with fail
  refine (unhide HT _).mono ?_
  rintro _ w7 ⟨rfl, hb⟩
  have HB := hide (bthen (unhide HB) hb)
  clear hb
  go_wp2_with fail
  refine (unhide HP _).mono ?_
  rintro _ w8 ⟨rfl, hb⟩
  have HB := hide (bthen (unhide HB) hb)
  clear hb
  go_wp2_with fail
  refine (unhide HQ _).mono ?_
  rintro _ w9 ⟨rfl, hb⟩
  have HB := hide (bthen (unhide HB) hb)
  have HB := hide (balloc (balloc (unhide HB) (.cells #[.bool true, .int .i64 K, .int .i64 X, .int .u64 S] 30)) (.cells #[.bool n1, .int .i64 K1, .int .i64 X1, .int .u64 S1] 30))
  have H1 := hide (at4_new2a w9 (.bool true) (.int .i64 K) (.int .i64 X) (.int .u64 S) 30 (.cells #[.bool n1, .int .i64 K1, .int .i64 X1, .int .u64 S1] 30))
  have H2 := hide (at4_new2b w9 (.cells #[.bool true, .int .i64 K, .int .i64 X, .int .u64 S] 30) (.bool n1) (.int .i64 K1) (.int .i64 X1) (.int .u64 S1) 30)
  obtain ⟨c0, c1, c2, c3⟩ := unhide H1
  obtain ⟨d0, d1, d2, d3⟩ := unhide H2
  clear hb
  go_wp2_with fail
  go_ret
  exact ⟨rfl, unhide HB⟩
set_option maxRecDepth 100000 in
set_option maxHeartbeats 2000000 in
theorem keeps_b32 {w x y a a2 z u s t K X S K1 X1 S1 : Int} (W : World) (g1 : (w != 32) = false) (HW : Hid (∀ W, Calls Try.prog 6 #[] W fun r W' => r = .returned (.bool true) ∧ Below W.heap.size W W')) (kn : x.tmod 4096 = a) (km : IntKind.u64.wrap (a * a) = a2) (HA : Hid (∀ W, Calls Try.prog 10 #[.int .i64 w, .bool false, .int .u64 a2] W fun r W' => r = .returned (.int .u64 z) ∧ Below W.heap.size W W')) (HS0 : Hid (∀ W, Calls Try.prog 7 #[.int .i64 w, .int .u64 z] W fun r W' => r = .returned (.int .u64 u) ∧ Below W.heap.size W W')) (HA1 : Hid (∀ W, Calls Try.prog 10 #[.int .i64 w, .bool false, .int .u64 a] W fun r W' => r = .returned (.int .u64 u) ∧ Below W.heap.size W W')) (HS1 : Hid (∀ W, Calls Try.prog 7 #[.int .i64 w, .int .u64 x] W fun r W' => r = .returned (.int .u64 s) ∧ Below W.heap.size W W')) (HS2 : Hid (∀ W, Calls Try.prog 7 #[.int .i64 w, .int .u64 y] W fun r W' => r = .returned (.int .u64 t) ∧ Below W.heap.size W W')) (HT : Hid (∀ W, Calls Try.prog 11 #[.int .i64 w, .int .u64 s] W fun r W' => r = .returned (.bool false) ∧ Below W.heap.size W W')) (HP : Hid (∀ W, Calls Try.prog 13 #[.int .i64 w, .int .u64 x] W fun r W' => r = .returned (.agg #[.bool false, .int .i64 K, .int .i64 X, .int .u64 S]) ∧ Below W.heap.size W W')) (HQ : Hid (∀ W, Calls Try.prog 13 #[.int .i64 w, .int .u64 y] W fun r W' => r = .returned (.agg #[.bool true, .int .i64 K1, .int .i64 X1, .int .u64 S1]) ∧ Below W.heap.size W W'))  :
    Calls Try.prog 4 #[.int .i64 w, .int .u64 x, .int .u64 y] W fun r W' => r = .returned (.bool true) ∧ Below W.heap.size W W' := by
  go_enter Try.func4, Try.ntmps4
  go_wp2_with fail
  refine (unhide HW _).mono ?_
  rintro _ w1 ⟨rfl, hb⟩
  have HB := hide hb
  clear hb
  go_wp2_with fail
  refine (unhide HA _).mono ?_
  rintro _ w2 ⟨rfl, hb⟩
  have HB := hide (bthen (unhide HB) hb)
  clear hb
  go_wp2_with fail
  refine (unhide HS0 _).mono ?_
  rintro _ w3 ⟨rfl, hb⟩
  have HB := hide (bthen (unhide HB) hb)
  clear hb
  go_wp2_with fail
  refine (unhide HA1 _).mono ?_
  rintro _ w4 ⟨rfl, hb⟩
  have HB := hide (bthen (unhide HB) hb)
  clear hb
  go_wp2_with fail
  refine (unhide HS1 _).mono ?_
  rintro _ w5 ⟨rfl, hb⟩
  have HB := hide (bthen (unhide HB) hb)
  clear hb
  go_wp2_with fail
  refine (unhide HS2 _).mono ?_
  rintro _ w6 ⟨rfl, hb⟩
  have HB := hide (bthen (unhide HB) hb)
  clear hb
  go_wp2_with fail
  refine (unhide HT _).mono ?_
  rintro _ w7 ⟨rfl, hb⟩
  have HB := hide (bthen (unhide HB) hb)
  clear hb
  go_wp2_with fail
  refine (unhide HP _).mono ?_
  rintro _ w8 ⟨rfl, hb⟩
  have HB := hide (bthen (unhide HB) hb)
  clear hb
  go_wp2_with fail
  refine (unhide HQ _).mono ?_
  rintro _ w9 ⟨rfl, hb⟩
  have HB := hide (bthen (unhide HB) hb)
  have HB := hide (balloc (balloc (unhide HB) (.cells #[.bool false, .int .i64 K, .int .i64 X, .int .u64 S] 30)) (.cells #[.bool true, .int .i64 K1, .int .i64 X1, .int .u64 S1] 30))
  have H1 := hide (at4_new2a w9 (.bool false) (.int .i64 K) (.int .i64 X) (.int .u64 S) 30 (.cells #[.bool true, .int .i64 K1, .int .i64 X1, .int .u64 S1] 30))
  have H2 := hide (at4_new2b w9 (.cells #[.bool false, .int .i64 K, .int .i64 X, .int .u64 S] 30) (.bool true) (.int .i64 K1) (.int .i64 X1) (.int .u64 S1) 30)
  obtain ⟨c0, c1, c2, c3⟩ := unhide H1
  obtain ⟨d0, d1, d2, d3⟩ := unhide H2
  clear hb
  go_wp2_with fail
  go_ret
  exact ⟨rfl, unhide HB⟩
set_option maxRecDepth 100000 in
set_option maxHeartbeats 2000000 in
theorem keeps_c32 {w x y a a2 z u s t K X S K1 X1 S1 : Int} (W : World) (g1 : (w != 32) = false) (HW : Hid (∀ W, Calls Try.prog 6 #[] W fun r W' => r = .returned (.bool true) ∧ Below W.heap.size W W')) (kn : x.tmod 4096 = a) (km : IntKind.u64.wrap (a * a) = a2) (HA : Hid (∀ W, Calls Try.prog 10 #[.int .i64 w, .bool false, .int .u64 a2] W fun r W' => r = .returned (.int .u64 z) ∧ Below W.heap.size W W')) (HS0 : Hid (∀ W, Calls Try.prog 7 #[.int .i64 w, .int .u64 z] W fun r W' => r = .returned (.int .u64 u) ∧ Below W.heap.size W W')) (HA1 : Hid (∀ W, Calls Try.prog 10 #[.int .i64 w, .bool false, .int .u64 a] W fun r W' => r = .returned (.int .u64 u) ∧ Below W.heap.size W W')) (HS1 : Hid (∀ W, Calls Try.prog 7 #[.int .i64 w, .int .u64 x] W fun r W' => r = .returned (.int .u64 s) ∧ Below W.heap.size W W')) (HS2 : Hid (∀ W, Calls Try.prog 7 #[.int .i64 w, .int .u64 y] W fun r W' => r = .returned (.int .u64 t) ∧ Below W.heap.size W W')) (HT : Hid (∀ W, Calls Try.prog 11 #[.int .i64 w, .int .u64 s] W fun r W' => r = .returned (.bool false) ∧ Below W.heap.size W W')) (HP : Hid (∀ W, Calls Try.prog 13 #[.int .i64 w, .int .u64 x] W fun r W' => r = .returned (.agg #[.bool false, .int .i64 K, .int .i64 X, .int .u64 S]) ∧ Below W.heap.size W W')) (HQ : Hid (∀ W, Calls Try.prog 13 #[.int .i64 w, .int .u64 y] W fun r W' => r = .returned (.agg #[.bool false, .int .i64 K1, .int .i64 X1, .int .u64 S1]) ∧ Below W.heap.size W W')) (k3 : (K1 == 3) = true) :
    Calls Try.prog 4 #[.int .i64 w, .int .u64 x, .int .u64 y] W fun r W' => r = .returned (.bool true) ∧ Below W.heap.size W W' := by
  go_enter Try.func4, Try.ntmps4
  go_wp2_with fail
  refine (unhide HW _).mono ?_
  rintro _ w1 ⟨rfl, hb⟩
  have HB := hide hb
  clear hb
  go_wp2_with fail
  refine (unhide HA _).mono ?_
  rintro _ w2 ⟨rfl, hb⟩
  have HB := hide (bthen (unhide HB) hb)
  clear hb
  go_wp2_with fail
  refine (unhide HS0 _).mono ?_
  rintro _ w3 ⟨rfl, hb⟩
  have HB := hide (bthen (unhide HB) hb)
  clear hb
  go_wp2_with fail
  refine (unhide HA1 _).mono ?_
  rintro _ w4 ⟨rfl, hb⟩
  have HB := hide (bthen (unhide HB) hb)
  clear hb
  go_wp2_with fail
  refine (unhide HS1 _).mono ?_
  rintro _ w5 ⟨rfl, hb⟩
  have HB := hide (bthen (unhide HB) hb)
  clear hb
  go_wp2_with fail
  refine (unhide HS2 _).mono ?_
  rintro _ w6 ⟨rfl, hb⟩
  have HB := hide (bthen (unhide HB) hb)
  clear hb
  go_wp2_with fail
  refine (unhide HT _).mono ?_
  rintro _ w7 ⟨rfl, hb⟩
  have HB := hide (bthen (unhide HB) hb)
  clear hb
  go_wp2_with fail
  refine (unhide HP _).mono ?_
  rintro _ w8 ⟨rfl, hb⟩
  have HB := hide (bthen (unhide HB) hb)
  clear hb
  go_wp2_with fail
  refine (unhide HQ _).mono ?_
  rintro _ w9 ⟨rfl, hb⟩
  have HB := hide (bthen (unhide HB) hb)
  have HB := hide (balloc (balloc (unhide HB) (.cells #[.bool false, .int .i64 K, .int .i64 X, .int .u64 S] 30)) (.cells #[.bool false, .int .i64 K1, .int .i64 X1, .int .u64 S1] 30))
  have H1 := hide (at4_new2a w9 (.bool false) (.int .i64 K) (.int .i64 X) (.int .u64 S) 30 (.cells #[.bool false, .int .i64 K1, .int .i64 X1, .int .u64 S1] 30))
  have H2 := hide (at4_new2b w9 (.cells #[.bool false, .int .i64 K, .int .i64 X, .int .u64 S] 30) (.bool false) (.int .i64 K1) (.int .i64 X1) (.int .u64 S1) 30)
  obtain ⟨c0, c1, c2, c3⟩ := unhide H1
  obtain ⟨d0, d1, d2, d3⟩ := unhide H2
  clear hb
  go_wp2_with fail
  go_ret
  exact ⟨rfl, unhide HB⟩
set_option maxRecDepth 100000 in
set_option maxHeartbeats 2000000 in
theorem keeps_d32 {w x y a a2 z u s t K X S K1 X1 S1 c1 c2 : Int} (W : World) (g1 : (w != 32) = false) (HW : Hid (∀ W, Calls Try.prog 6 #[] W fun r W' => r = .returned (.bool true) ∧ Below W.heap.size W W')) (kn : x.tmod 4096 = a) (km : IntKind.u64.wrap (a * a) = a2) (HA : Hid (∀ W, Calls Try.prog 10 #[.int .i64 w, .bool false, .int .u64 a2] W fun r W' => r = .returned (.int .u64 z) ∧ Below W.heap.size W W')) (HS0 : Hid (∀ W, Calls Try.prog 7 #[.int .i64 w, .int .u64 z] W fun r W' => r = .returned (.int .u64 u) ∧ Below W.heap.size W W')) (HA1 : Hid (∀ W, Calls Try.prog 10 #[.int .i64 w, .bool false, .int .u64 a] W fun r W' => r = .returned (.int .u64 u) ∧ Below W.heap.size W W')) (HS1 : Hid (∀ W, Calls Try.prog 7 #[.int .i64 w, .int .u64 x] W fun r W' => r = .returned (.int .u64 s) ∧ Below W.heap.size W W')) (HS2 : Hid (∀ W, Calls Try.prog 7 #[.int .i64 w, .int .u64 y] W fun r W' => r = .returned (.int .u64 t) ∧ Below W.heap.size W W')) (HT : Hid (∀ W, Calls Try.prog 11 #[.int .i64 w, .int .u64 s] W fun r W' => r = .returned (.bool false) ∧ Below W.heap.size W W')) (HP : Hid (∀ W, Calls Try.prog 13 #[.int .i64 w, .int .u64 x] W fun r W' => r = .returned (.agg #[.bool false, .int .i64 K, .int .i64 X, .int .u64 S]) ∧ Below W.heap.size W W')) (HQ : Hid (∀ W, Calls Try.prog 13 #[.int .i64 w, .int .u64 y] W fun r W' => r = .returned (.agg #[.bool false, .int .i64 K1, .int .i64 X1, .int .u64 S1]) ∧ Below W.heap.size W W')) (k3 : (K1 == 3) = false) (HC1 : Hid (∀ W, Calls Try.prog 14 #[.int .i64 w, .int .u64 y] W fun r W' => r = .returned (.int .u64 c1) ∧ Below W.heap.size W W')) (HC2 : Hid (∀ W, Calls Try.prog 14 #[.int .i64 w, .int .u64 x] W fun r W' => r = .returned (.int .u64 c2) ∧ Below W.heap.size W W')) (hc : c1 < c2) :
    Calls Try.prog 4 #[.int .i64 w, .int .u64 x, .int .u64 y] W fun r W' => r = .returned (.bool true) ∧ Below W.heap.size W W' := by
  go_enter Try.func4, Try.ntmps4
  go_wp2_with fail
  refine (unhide HW _).mono ?_
  rintro _ w1 ⟨rfl, hb⟩
  have HB := hide hb
  clear hb
  go_wp2_with fail
  refine (unhide HA _).mono ?_
  rintro _ w2 ⟨rfl, hb⟩
  have HB := hide (bthen (unhide HB) hb)
  clear hb
  go_wp2_with fail
  refine (unhide HS0 _).mono ?_
  rintro _ w3 ⟨rfl, hb⟩
  have HB := hide (bthen (unhide HB) hb)
  clear hb
  go_wp2_with fail
  refine (unhide HA1 _).mono ?_
  rintro _ w4 ⟨rfl, hb⟩
  have HB := hide (bthen (unhide HB) hb)
  clear hb
  go_wp2_with fail
  refine (unhide HS1 _).mono ?_
  rintro _ w5 ⟨rfl, hb⟩
  have HB := hide (bthen (unhide HB) hb)
  clear hb
  go_wp2_with fail
  refine (unhide HS2 _).mono ?_
  rintro _ w6 ⟨rfl, hb⟩
  have HB := hide (bthen (unhide HB) hb)
  clear hb
  go_wp2_with fail
  refine (unhide HT _).mono ?_
  rintro _ w7 ⟨rfl, hb⟩
  have HB := hide (bthen (unhide HB) hb)
  clear hb
  go_wp2_with fail
  refine (unhide HP _).mono ?_
  rintro _ w8 ⟨rfl, hb⟩
  have HB := hide (bthen (unhide HB) hb)
  clear hb
  go_wp2_with fail
  refine (unhide HQ _).mono ?_
  rintro _ w9 ⟨rfl, hb⟩
  have HB := hide (bthen (unhide HB) hb)
  have HB := hide (balloc (balloc (unhide HB) (.cells #[.bool false, .int .i64 K, .int .i64 X, .int .u64 S] 30)) (.cells #[.bool false, .int .i64 K1, .int .i64 X1, .int .u64 S1] 30))
  have H1 := hide (at4_new2a w9 (.bool false) (.int .i64 K) (.int .i64 X) (.int .u64 S) 30 (.cells #[.bool false, .int .i64 K1, .int .i64 X1, .int .u64 S1] 30))
  have H2 := hide (at4_new2b w9 (.cells #[.bool false, .int .i64 K, .int .i64 X, .int .u64 S] 30) (.bool false) (.int .i64 K1) (.int .i64 X1) (.int .u64 S1) 30)
  obtain ⟨c0, c1, c2, c3⟩ := unhide H1
  obtain ⟨d0, d1, d2, d3⟩ := unhide H2
  clear hb
  go_wp2_with fail
  refine (unhide HC1 _).mono ?_
  rintro _ w10 ⟨rfl, hb⟩
  have HB := hide (bthen (unhide HB) hb)
  clear hb
  go_wp2_with fail
  refine (unhide HC2 _).mono ?_
  rintro _ w11 ⟨rfl, hb⟩
  have HB := hide (bthen (unhide HB) hb)
  clear hb
  go_wp2_with fail
  go_ret
  exact ⟨rfl, unhide HB⟩
set_option maxRecDepth 100000 in
set_option maxHeartbeats 2000000 in
theorem keeps_e32 {w x y a a2 z u s t K X S K1 X1 S1 c1 c2 : Int} (W : World) (g1 : (w != 32) = false) (HW : Hid (∀ W, Calls Try.prog 6 #[] W fun r W' => r = .returned (.bool true) ∧ Below W.heap.size W W')) (kn : x.tmod 4096 = a) (km : IntKind.u64.wrap (a * a) = a2) (HA : Hid (∀ W, Calls Try.prog 10 #[.int .i64 w, .bool false, .int .u64 a2] W fun r W' => r = .returned (.int .u64 z) ∧ Below W.heap.size W W')) (HS0 : Hid (∀ W, Calls Try.prog 7 #[.int .i64 w, .int .u64 z] W fun r W' => r = .returned (.int .u64 u) ∧ Below W.heap.size W W')) (HA1 : Hid (∀ W, Calls Try.prog 10 #[.int .i64 w, .bool false, .int .u64 a] W fun r W' => r = .returned (.int .u64 u) ∧ Below W.heap.size W W')) (HS1 : Hid (∀ W, Calls Try.prog 7 #[.int .i64 w, .int .u64 x] W fun r W' => r = .returned (.int .u64 s) ∧ Below W.heap.size W W')) (HS2 : Hid (∀ W, Calls Try.prog 7 #[.int .i64 w, .int .u64 y] W fun r W' => r = .returned (.int .u64 t) ∧ Below W.heap.size W W')) (HT : Hid (∀ W, Calls Try.prog 11 #[.int .i64 w, .int .u64 s] W fun r W' => r = .returned (.bool false) ∧ Below W.heap.size W W')) (HP : Hid (∀ W, Calls Try.prog 13 #[.int .i64 w, .int .u64 x] W fun r W' => r = .returned (.agg #[.bool false, .int .i64 K, .int .i64 X, .int .u64 S]) ∧ Below W.heap.size W W')) (HQ : Hid (∀ W, Calls Try.prog 13 #[.int .i64 w, .int .u64 y] W fun r W' => r = .returned (.agg #[.bool false, .int .i64 K1, .int .i64 X1, .int .u64 S1]) ∧ Below W.heap.size W W')) (k3 : (K1 == 3) = false) (HC1 : Hid (∀ W, Calls Try.prog 14 #[.int .i64 w, .int .u64 y] W fun r W' => r = .returned (.int .u64 c1) ∧ Below W.heap.size W W')) (HC2 : Hid (∀ W, Calls Try.prog 14 #[.int .i64 w, .int .u64 x] W fun r W' => r = .returned (.int .u64 c2) ∧ Below W.heap.size W W')) (hc : ¬ c1 < c2) (hs : s ≤ t) :
    Calls Try.prog 4 #[.int .i64 w, .int .u64 x, .int .u64 y] W fun r W' => r = .returned (.bool true) ∧ Below W.heap.size W W' := by
  go_enter Try.func4, Try.ntmps4
  go_wp2_with fail
  refine (unhide HW _).mono ?_
  rintro _ w1 ⟨rfl, hb⟩
  have HB := hide hb
  clear hb
  go_wp2_with fail
  refine (unhide HA _).mono ?_
  rintro _ w2 ⟨rfl, hb⟩
  have HB := hide (bthen (unhide HB) hb)
  clear hb
  go_wp2_with fail
  refine (unhide HS0 _).mono ?_
  rintro _ w3 ⟨rfl, hb⟩
  have HB := hide (bthen (unhide HB) hb)
  clear hb
  go_wp2_with fail
  refine (unhide HA1 _).mono ?_
  rintro _ w4 ⟨rfl, hb⟩
  have HB := hide (bthen (unhide HB) hb)
  clear hb
  go_wp2_with fail
  refine (unhide HS1 _).mono ?_
  rintro _ w5 ⟨rfl, hb⟩
  have HB := hide (bthen (unhide HB) hb)
  clear hb
  go_wp2_with fail
  refine (unhide HS2 _).mono ?_
  rintro _ w6 ⟨rfl, hb⟩
  have HB := hide (bthen (unhide HB) hb)
  clear hb
  go_wp2_with fail
  refine (unhide HT _).mono ?_
  rintro _ w7 ⟨rfl, hb⟩
  have HB := hide (bthen (unhide HB) hb)
  clear hb
  go_wp2_with fail
  refine (unhide HP _).mono ?_
  rintro _ w8 ⟨rfl, hb⟩
  have HB := hide (bthen (unhide HB) hb)
  clear hb
  go_wp2_with fail
  refine (unhide HQ _).mono ?_
  rintro _ w9 ⟨rfl, hb⟩
  have HB := hide (bthen (unhide HB) hb)
  have HB := hide (balloc (balloc (unhide HB) (.cells #[.bool false, .int .i64 K, .int .i64 X, .int .u64 S] 30)) (.cells #[.bool false, .int .i64 K1, .int .i64 X1, .int .u64 S1] 30))
  have H1 := hide (at4_new2a w9 (.bool false) (.int .i64 K) (.int .i64 X) (.int .u64 S) 30 (.cells #[.bool false, .int .i64 K1, .int .i64 X1, .int .u64 S1] 30))
  have H2 := hide (at4_new2b w9 (.cells #[.bool false, .int .i64 K, .int .i64 X, .int .u64 S] 30) (.bool false) (.int .i64 K1) (.int .i64 X1) (.int .u64 S1) 30)
  obtain ⟨c0, c1, c2, c3⟩ := unhide H1
  obtain ⟨d0, d1, d2, d3⟩ := unhide H2
  clear hb
  go_wp2_with fail
  refine (unhide HC1 _).mono ?_
  rintro _ w10 ⟨rfl, hb⟩
  have HB := hide (bthen (unhide HB) hb)
  clear hb
  go_wp2_with fail
  refine (unhide HC2 _).mono ?_
  rintro _ w11 ⟨rfl, hb⟩
  have HB := hide (bthen (unhide HB) hb)
  clear hb
  go_wp2_with fail
  go_ret
  exact ⟨by simp, unhide HB⟩
set_option maxRecDepth 100000 in
set_option maxHeartbeats 2000000 in
theorem keeps_n64 {w x y a a2 z u s t : Int} (W : World) (g1 : (w != 32) = true) (g2 : (w != 64) = false) (HW : Hid (∀ W, Calls Try.prog 6 #[] W fun r W' => r = .returned (.bool true) ∧ Below W.heap.size W W')) (kn : x.tmod 4096 = a) (km : IntKind.u64.wrap (a * a) = a2) (HA : Hid (∀ W, Calls Try.prog 10 #[.int .i64 w, .bool false, .int .u64 a2] W fun r W' => r = .returned (.int .u64 z) ∧ Below W.heap.size W W')) (HS0 : Hid (∀ W, Calls Try.prog 7 #[.int .i64 w, .int .u64 z] W fun r W' => r = .returned (.int .u64 u) ∧ Below W.heap.size W W')) (HA1 : Hid (∀ W, Calls Try.prog 10 #[.int .i64 w, .bool false, .int .u64 a] W fun r W' => r = .returned (.int .u64 u) ∧ Below W.heap.size W W')) (HS1 : Hid (∀ W, Calls Try.prog 7 #[.int .i64 w, .int .u64 x] W fun r W' => r = .returned (.int .u64 s) ∧ Below W.heap.size W W')) (HS2 : Hid (∀ W, Calls Try.prog 7 #[.int .i64 w, .int .u64 y] W fun r W' => r = .returned (.int .u64 t) ∧ Below W.heap.size W W')) (HT : Hid (∀ W, Calls Try.prog 11 #[.int .i64 w, .int .u64 s] W fun r W' => r = .returned (.bool true) ∧ Below W.heap.size W W')) (HN : Hid (∀ W, Calls Try.prog 12 #[.int .i64 w] W fun r W' => r = .returned (.int .u64 s) ∧ Below W.heap.size W W')) :
    Calls Try.prog 4 #[.int .i64 w, .int .u64 x, .int .u64 y] W fun r W' => r = .returned (.bool true) ∧ Below W.heap.size W W' := by
  go_enter Try.func4, Try.ntmps4
  go_wp2_with fail
  refine (unhide HW _).mono ?_
  rintro _ w1 ⟨rfl, hb⟩
  have HB := hide hb
  clear hb
  go_wp2_with fail
  refine (unhide HA _).mono ?_
  rintro _ w2 ⟨rfl, hb⟩
  have HB := hide (bthen (unhide HB) hb)
  clear hb
  go_wp2_with fail
  refine (unhide HS0 _).mono ?_
  rintro _ w3 ⟨rfl, hb⟩
  have HB := hide (bthen (unhide HB) hb)
  clear hb
  go_wp2_with fail
  refine (unhide HA1 _).mono ?_
  rintro _ w4 ⟨rfl, hb⟩
  have HB := hide (bthen (unhide HB) hb)
  clear hb
  go_wp2_with fail
  refine (unhide HS1 _).mono ?_
  rintro _ w5 ⟨rfl, hb⟩
  have HB := hide (bthen (unhide HB) hb)
  clear hb
  go_wp2_with fail
  refine (unhide HS2 _).mono ?_
  rintro _ w6 ⟨rfl, hb⟩
  have HB := hide (bthen (unhide HB) hb)
  clear hb
  go_wp2_with fail
  refine (unhide HT _).mono ?_
  rintro _ w7 ⟨rfl, hb⟩
  have HB := hide (bthen (unhide HB) hb)
  clear hb
  go_wp2_with fail
  refine (unhide HN _).mono ?_
  rintro _ w8 ⟨rfl, hb⟩
  have HB := hide (bthen (unhide HB) hb)
  clear hb
  go_wp2_with fail
  go_ret
  exact ⟨by simp, unhide HB⟩
set_option maxRecDepth 100000 in
set_option maxHeartbeats 2000000 in
theorem keeps_a64 {w x y a a2 z u s t K X S K1 X1 S1 : Int} {n1 : Bool} (W : World) (g1 : (w != 32) = true) (g2 : (w != 64) = false) (HW : Hid (∀ W, Calls Try.prog 6 #[] W fun r W' => r = .returned (.bool true) ∧ Below W.heap.size W W')) (kn : x.tmod 4096 = a) (km : IntKind.u64.wrap (a * a) = a2) (HA : Hid (∀ W, Calls Try.prog 10 #[.int .i64 w, .bool false, .int .u64 a2] W fun r W' => r = .returned (.int .u64 z) ∧ Below W.heap.size W W')) (HS0 : Hid (∀ W, Calls Try.prog 7 #[.int .i64 w, .int .u64 z] W fun r W' => r = .returned (.int .u64 u) ∧ Below W.heap.size W W')) (HA1 : Hid (∀ W, Calls Try.prog 10 #[.int .i64 w, .bool false, .int .u64 a] W fun r W' => r = .returned (.int .u64 u) ∧ Below W.heap.size W W')) (HS1 : Hid (∀ W, Calls Try.prog 7 #[.int .i64 w, .int .u64 x] W fun r W' => r = .returned (.int .u64 s) ∧ Below W.heap.size W W')) (HS2 : Hid (∀ W, Calls Try.prog 7 #[.int .i64 w, .int .u64 y] W fun r W' => r = .returned (.int .u64 t) ∧ Below W.heap.size W W')) (HT : Hid (∀ W, Calls Try.prog 11 #[.int .i64 w, .int .u64 s] W fun r W' => r = .returned (.bool false) ∧ Below W.heap.size W W')) (HP : Hid (∀ W, Calls Try.prog 13 #[.int .i64 w, .int .u64 x] W fun r W' => r = .returned (.agg #[.bool true, .int .i64 K, .int .i64 X, .int .u64 S]) ∧ Below W.heap.size W W')) (HQ : Hid (∀ W, Calls Try.prog 13 #[.int .i64 w, .int .u64 y] W fun r W' => r = .returned (.agg #[.bool n1, .int .i64 K1, .int .i64 X1, .int .u64 S1]) ∧ Below W.heap.size W W'))  :
    Calls Try.prog 4 #[.int .i64 w, .int .u64 x, .int .u64 y] W fun r W' => r = .returned (.bool true) ∧ Below W.heap.size W W' := by
  go_enter Try.func4, Try.ntmps4
  go_wp2_with fail
  refine (unhide HW _).mono ?_
  rintro _ w1 ⟨rfl, hb⟩
  have HB := hide hb
  clear hb
  go_wp2_with fail
  refine (unhide HA _).mono ?_
  rintro _ w2 ⟨rfl, hb⟩
  have HB := hide (bthen (unhide HB) hb)
  clear hb
  go_wp2_with fail
  refine (unhide HS0 _).mono ?_
  rintro _ w3 ⟨rfl, hb⟩
  have HB := hide (bthen (unhide HB) hb)
  clear hb
  go_wp2_with fail
  refine (unhide HA1 _).mono ?_
  rintro _ w4 ⟨rfl, hb⟩
  have HB := hide (bthen (unhide HB) hb)
  clear hb
  go_wp2_with fail
  refine (unhide HS1 _).mono ?_
  rintro _ w5 ⟨rfl, hb⟩
  have HB := hide (bthen (unhide HB) hb)
  clear hb
  go_wp2_with fail
  refine (unhide HS2 _).mono ?_
  rintro _ w6 ⟨rfl, hb⟩
  have HB := hide (bthen (unhide HB) hb)
  clear hb
  go_wp2_with fail
  refine (unhide HT _).mono ?_
  rintro _ w7 ⟨rfl, hb⟩
  have HB := hide (bthen (unhide HB) hb)
  clear hb
  go_wp2_with fail
  refine (unhide HP _).mono ?_
  rintro _ w8 ⟨rfl, hb⟩
  have HB := hide (bthen (unhide HB) hb)
  clear hb
  go_wp2_with fail
  refine (unhide HQ _).mono ?_
  rintro _ w9 ⟨rfl, hb⟩
  have HB := hide (bthen (unhide HB) hb)
  have HB := hide (balloc (balloc (unhide HB) (.cells #[.bool true, .int .i64 K, .int .i64 X, .int .u64 S] 30)) (.cells #[.bool n1, .int .i64 K1, .int .i64 X1, .int .u64 S1] 30))
  have H1 := hide (at4_new2a w9 (.bool true) (.int .i64 K) (.int .i64 X) (.int .u64 S) 30 (.cells #[.bool n1, .int .i64 K1, .int .i64 X1, .int .u64 S1] 30))
  have H2 := hide (at4_new2b w9 (.cells #[.bool true, .int .i64 K, .int .i64 X, .int .u64 S] 30) (.bool n1) (.int .i64 K1) (.int .i64 X1) (.int .u64 S1) 30)
  obtain ⟨c0, c1, c2, c3⟩ := unhide H1
  obtain ⟨d0, d1, d2, d3⟩ := unhide H2
  clear hb
  go_wp2_with fail
  go_ret
  exact ⟨rfl, unhide HB⟩
set_option maxRecDepth 100000 in
set_option maxHeartbeats 2000000 in
theorem keeps_b64 {w x y a a2 z u s t K X S K1 X1 S1 : Int} (W : World) (g1 : (w != 32) = true) (g2 : (w != 64) = false) (HW : Hid (∀ W, Calls Try.prog 6 #[] W fun r W' => r = .returned (.bool true) ∧ Below W.heap.size W W')) (kn : x.tmod 4096 = a) (km : IntKind.u64.wrap (a * a) = a2) (HA : Hid (∀ W, Calls Try.prog 10 #[.int .i64 w, .bool false, .int .u64 a2] W fun r W' => r = .returned (.int .u64 z) ∧ Below W.heap.size W W')) (HS0 : Hid (∀ W, Calls Try.prog 7 #[.int .i64 w, .int .u64 z] W fun r W' => r = .returned (.int .u64 u) ∧ Below W.heap.size W W')) (HA1 : Hid (∀ W, Calls Try.prog 10 #[.int .i64 w, .bool false, .int .u64 a] W fun r W' => r = .returned (.int .u64 u) ∧ Below W.heap.size W W')) (HS1 : Hid (∀ W, Calls Try.prog 7 #[.int .i64 w, .int .u64 x] W fun r W' => r = .returned (.int .u64 s) ∧ Below W.heap.size W W')) (HS2 : Hid (∀ W, Calls Try.prog 7 #[.int .i64 w, .int .u64 y] W fun r W' => r = .returned (.int .u64 t) ∧ Below W.heap.size W W')) (HT : Hid (∀ W, Calls Try.prog 11 #[.int .i64 w, .int .u64 s] W fun r W' => r = .returned (.bool false) ∧ Below W.heap.size W W')) (HP : Hid (∀ W, Calls Try.prog 13 #[.int .i64 w, .int .u64 x] W fun r W' => r = .returned (.agg #[.bool false, .int .i64 K, .int .i64 X, .int .u64 S]) ∧ Below W.heap.size W W')) (HQ : Hid (∀ W, Calls Try.prog 13 #[.int .i64 w, .int .u64 y] W fun r W' => r = .returned (.agg #[.bool true, .int .i64 K1, .int .i64 X1, .int .u64 S1]) ∧ Below W.heap.size W W'))  :
    Calls Try.prog 4 #[.int .i64 w, .int .u64 x, .int .u64 y] W fun r W' => r = .returned (.bool true) ∧ Below W.heap.size W W' := by
  go_enter Try.func4, Try.ntmps4
  go_wp2_with fail
  refine (unhide HW _).mono ?_
  rintro _ w1 ⟨rfl, hb⟩
  have HB := hide hb
  clear hb
  go_wp2_with fail
  refine (unhide HA _).mono ?_
  rintro _ w2 ⟨rfl, hb⟩
  have HB := hide (bthen (unhide HB) hb)
  clear hb
  go_wp2_with fail
  refine (unhide HS0 _).mono ?_
  rintro _ w3 ⟨rfl, hb⟩
  have HB := hide (bthen (unhide HB) hb)
  clear hb
  go_wp2_with fail
  refine (unhide HA1 _).mono ?_
  rintro _ w4 ⟨rfl, hb⟩
  have HB := hide (bthen (unhide HB) hb)
  clear hb
  go_wp2_with fail
  refine (unhide HS1 _).mono ?_
  rintro _ w5 ⟨rfl, hb⟩
  have HB := hide (bthen (unhide HB) hb)
  clear hb
  go_wp2_with fail
  refine (unhide HS2 _).mono ?_
  rintro _ w6 ⟨rfl, hb⟩
  have HB := hide (bthen (unhide HB) hb)
  clear hb
  go_wp2_with fail
  refine (unhide HT _).mono ?_
  rintro _ w7 ⟨rfl, hb⟩
  have HB := hide (bthen (unhide HB) hb)
  clear hb
  go_wp2_with fail
  refine (unhide HP _).mono ?_
  rintro _ w8 ⟨rfl, hb⟩
  have HB := hide (bthen (unhide HB) hb)
  clear hb
  go_wp2_with fail
  refine (unhide HQ _).mono ?_
  rintro _ w9 ⟨rfl, hb⟩
  have HB := hide (bthen (unhide HB) hb)
  have HB := hide (balloc (balloc (unhide HB) (.cells #[.bool false, .int .i64 K, .int .i64 X, .int .u64 S] 30)) (.cells #[.bool true, .int .i64 K1, .int .i64 X1, .int .u64 S1] 30))
  have H1 := hide (at4_new2a w9 (.bool false) (.int .i64 K) (.int .i64 X) (.int .u64 S) 30 (.cells #[.bool true, .int .i64 K1, .int .i64 X1, .int .u64 S1] 30))
  have H2 := hide (at4_new2b w9 (.cells #[.bool false, .int .i64 K, .int .i64 X, .int .u64 S] 30) (.bool true) (.int .i64 K1) (.int .i64 X1) (.int .u64 S1) 30)
  obtain ⟨c0, c1, c2, c3⟩ := unhide H1
  obtain ⟨d0, d1, d2, d3⟩ := unhide H2
  clear hb
  go_wp2_with fail
  go_ret
  exact ⟨rfl, unhide HB⟩
set_option maxRecDepth 100000 in
set_option maxHeartbeats 2000000 in
theorem keeps_c64 {w x y a a2 z u s t K X S K1 X1 S1 : Int} (W : World) (g1 : (w != 32) = true) (g2 : (w != 64) = false) (HW : Hid (∀ W, Calls Try.prog 6 #[] W fun r W' => r = .returned (.bool true) ∧ Below W.heap.size W W')) (kn : x.tmod 4096 = a) (km : IntKind.u64.wrap (a * a) = a2) (HA : Hid (∀ W, Calls Try.prog 10 #[.int .i64 w, .bool false, .int .u64 a2] W fun r W' => r = .returned (.int .u64 z) ∧ Below W.heap.size W W')) (HS0 : Hid (∀ W, Calls Try.prog 7 #[.int .i64 w, .int .u64 z] W fun r W' => r = .returned (.int .u64 u) ∧ Below W.heap.size W W')) (HA1 : Hid (∀ W, Calls Try.prog 10 #[.int .i64 w, .bool false, .int .u64 a] W fun r W' => r = .returned (.int .u64 u) ∧ Below W.heap.size W W')) (HS1 : Hid (∀ W, Calls Try.prog 7 #[.int .i64 w, .int .u64 x] W fun r W' => r = .returned (.int .u64 s) ∧ Below W.heap.size W W')) (HS2 : Hid (∀ W, Calls Try.prog 7 #[.int .i64 w, .int .u64 y] W fun r W' => r = .returned (.int .u64 t) ∧ Below W.heap.size W W')) (HT : Hid (∀ W, Calls Try.prog 11 #[.int .i64 w, .int .u64 s] W fun r W' => r = .returned (.bool false) ∧ Below W.heap.size W W')) (HP : Hid (∀ W, Calls Try.prog 13 #[.int .i64 w, .int .u64 x] W fun r W' => r = .returned (.agg #[.bool false, .int .i64 K, .int .i64 X, .int .u64 S]) ∧ Below W.heap.size W W')) (HQ : Hid (∀ W, Calls Try.prog 13 #[.int .i64 w, .int .u64 y] W fun r W' => r = .returned (.agg #[.bool false, .int .i64 K1, .int .i64 X1, .int .u64 S1]) ∧ Below W.heap.size W W')) (k3 : (K1 == 3) = true) :
    Calls Try.prog 4 #[.int .i64 w, .int .u64 x, .int .u64 y] W fun r W' => r = .returned (.bool true) ∧ Below W.heap.size W W' := by
  go_enter Try.func4, Try.ntmps4
  go_wp2_with fail
  refine (unhide HW _).mono ?_
  rintro _ w1 ⟨rfl, hb⟩
  have HB := hide hb
  clear hb
  go_wp2_with fail
  refine (unhide HA _).mono ?_
  rintro _ w2 ⟨rfl, hb⟩
  have HB := hide (bthen (unhide HB) hb)
  clear hb
  go_wp2_with fail
  refine (unhide HS0 _).mono ?_
  rintro _ w3 ⟨rfl, hb⟩
  have HB := hide (bthen (unhide HB) hb)
  clear hb
  go_wp2_with fail
  refine (unhide HA1 _).mono ?_
  rintro _ w4 ⟨rfl, hb⟩
  have HB := hide (bthen (unhide HB) hb)
  clear hb
  go_wp2_with fail
  refine (unhide HS1 _).mono ?_
  rintro _ w5 ⟨rfl, hb⟩
  have HB := hide (bthen (unhide HB) hb)
  clear hb
  go_wp2_with fail
  refine (unhide HS2 _).mono ?_
  rintro _ w6 ⟨rfl, hb⟩
  have HB := hide (bthen (unhide HB) hb)
  clear hb
  go_wp2_with fail
  refine (unhide HT _).mono ?_
  rintro _ w7 ⟨rfl, hb⟩
  have HB := hide (bthen (unhide HB) hb)
  clear hb
  go_wp2_with fail
  refine (unhide HP _).mono ?_
  rintro _ w8 ⟨rfl, hb⟩
  have HB := hide (bthen (unhide HB) hb)
  clear hb
  go_wp2_with fail
  refine (unhide HQ _).mono ?_
  rintro _ w9 ⟨rfl, hb⟩
  have HB := hide (bthen (unhide HB) hb)
  have HB := hide (balloc (balloc (unhide HB) (.cells #[.bool false, .int .i64 K, .int .i64 X, .int .u64 S] 30)) (.cells #[.bool false, .int .i64 K1, .int .i64 X1, .int .u64 S1] 30))
  have H1 := hide (at4_new2a w9 (.bool false) (.int .i64 K) (.int .i64 X) (.int .u64 S) 30 (.cells #[.bool false, .int .i64 K1, .int .i64 X1, .int .u64 S1] 30))
  have H2 := hide (at4_new2b w9 (.cells #[.bool false, .int .i64 K, .int .i64 X, .int .u64 S] 30) (.bool false) (.int .i64 K1) (.int .i64 X1) (.int .u64 S1) 30)
  obtain ⟨c0, c1, c2, c3⟩ := unhide H1
  obtain ⟨d0, d1, d2, d3⟩ := unhide H2
  clear hb
  go_wp2_with fail
  go_ret
  exact ⟨rfl, unhide HB⟩
set_option maxRecDepth 100000 in
set_option maxHeartbeats 2000000 in
theorem keeps_d64 {w x y a a2 z u s t K X S K1 X1 S1 c1 c2 : Int} (W : World) (g1 : (w != 32) = true) (g2 : (w != 64) = false) (HW : Hid (∀ W, Calls Try.prog 6 #[] W fun r W' => r = .returned (.bool true) ∧ Below W.heap.size W W')) (kn : x.tmod 4096 = a) (km : IntKind.u64.wrap (a * a) = a2) (HA : Hid (∀ W, Calls Try.prog 10 #[.int .i64 w, .bool false, .int .u64 a2] W fun r W' => r = .returned (.int .u64 z) ∧ Below W.heap.size W W')) (HS0 : Hid (∀ W, Calls Try.prog 7 #[.int .i64 w, .int .u64 z] W fun r W' => r = .returned (.int .u64 u) ∧ Below W.heap.size W W')) (HA1 : Hid (∀ W, Calls Try.prog 10 #[.int .i64 w, .bool false, .int .u64 a] W fun r W' => r = .returned (.int .u64 u) ∧ Below W.heap.size W W')) (HS1 : Hid (∀ W, Calls Try.prog 7 #[.int .i64 w, .int .u64 x] W fun r W' => r = .returned (.int .u64 s) ∧ Below W.heap.size W W')) (HS2 : Hid (∀ W, Calls Try.prog 7 #[.int .i64 w, .int .u64 y] W fun r W' => r = .returned (.int .u64 t) ∧ Below W.heap.size W W')) (HT : Hid (∀ W, Calls Try.prog 11 #[.int .i64 w, .int .u64 s] W fun r W' => r = .returned (.bool false) ∧ Below W.heap.size W W')) (HP : Hid (∀ W, Calls Try.prog 13 #[.int .i64 w, .int .u64 x] W fun r W' => r = .returned (.agg #[.bool false, .int .i64 K, .int .i64 X, .int .u64 S]) ∧ Below W.heap.size W W')) (HQ : Hid (∀ W, Calls Try.prog 13 #[.int .i64 w, .int .u64 y] W fun r W' => r = .returned (.agg #[.bool false, .int .i64 K1, .int .i64 X1, .int .u64 S1]) ∧ Below W.heap.size W W')) (k3 : (K1 == 3) = false) (HC1 : Hid (∀ W, Calls Try.prog 14 #[.int .i64 w, .int .u64 y] W fun r W' => r = .returned (.int .u64 c1) ∧ Below W.heap.size W W')) (HC2 : Hid (∀ W, Calls Try.prog 14 #[.int .i64 w, .int .u64 x] W fun r W' => r = .returned (.int .u64 c2) ∧ Below W.heap.size W W')) (hc : c1 < c2) :
    Calls Try.prog 4 #[.int .i64 w, .int .u64 x, .int .u64 y] W fun r W' => r = .returned (.bool true) ∧ Below W.heap.size W W' := by
  go_enter Try.func4, Try.ntmps4
  go_wp2_with fail
  refine (unhide HW _).mono ?_
  rintro _ w1 ⟨rfl, hb⟩
  have HB := hide hb
  clear hb
  go_wp2_with fail
  refine (unhide HA _).mono ?_
  rintro _ w2 ⟨rfl, hb⟩
  have HB := hide (bthen (unhide HB) hb)
  clear hb
  go_wp2_with fail
  refine (unhide HS0 _).mono ?_
  rintro _ w3 ⟨rfl, hb⟩
  have HB := hide (bthen (unhide HB) hb)
  clear hb
  go_wp2_with fail
  refine (unhide HA1 _).mono ?_
  rintro _ w4 ⟨rfl, hb⟩
  have HB := hide (bthen (unhide HB) hb)
  clear hb
  go_wp2_with fail
  refine (unhide HS1 _).mono ?_
  rintro _ w5 ⟨rfl, hb⟩
  have HB := hide (bthen (unhide HB) hb)
  clear hb
  go_wp2_with fail
  refine (unhide HS2 _).mono ?_
  rintro _ w6 ⟨rfl, hb⟩
  have HB := hide (bthen (unhide HB) hb)
  clear hb
  go_wp2_with fail
  refine (unhide HT _).mono ?_
  rintro _ w7 ⟨rfl, hb⟩
  have HB := hide (bthen (unhide HB) hb)
  clear hb
  go_wp2_with fail
  refine (unhide HP _).mono ?_
  rintro _ w8 ⟨rfl, hb⟩
  have HB := hide (bthen (unhide HB) hb)
  clear hb
  go_wp2_with fail
  refine (unhide HQ _).mono ?_
  rintro _ w9 ⟨rfl, hb⟩
  have HB := hide (bthen (unhide HB) hb)
  have HB := hide (balloc (balloc (unhide HB) (.cells #[.bool false, .int .i64 K, .int .i64 X, .int .u64 S] 30)) (.cells #[.bool false, .int .i64 K1, .int .i64 X1, .int .u64 S1] 30))
  have H1 := hide (at4_new2a w9 (.bool false) (.int .i64 K) (.int .i64 X) (.int .u64 S) 30 (.cells #[.bool false, .int .i64 K1, .int .i64 X1, .int .u64 S1] 30))
  have H2 := hide (at4_new2b w9 (.cells #[.bool false, .int .i64 K, .int .i64 X, .int .u64 S] 30) (.bool false) (.int .i64 K1) (.int .i64 X1) (.int .u64 S1) 30)
  obtain ⟨c0, c1, c2, c3⟩ := unhide H1
  obtain ⟨d0, d1, d2, d3⟩ := unhide H2
  clear hb
  go_wp2_with fail
  refine (unhide HC1 _).mono ?_
  rintro _ w10 ⟨rfl, hb⟩
  have HB := hide (bthen (unhide HB) hb)
  clear hb
  go_wp2_with fail
  refine (unhide HC2 _).mono ?_
  rintro _ w11 ⟨rfl, hb⟩
  have HB := hide (bthen (unhide HB) hb)
  clear hb
  go_wp2_with fail
  go_ret
  exact ⟨rfl, unhide HB⟩
set_option maxRecDepth 100000 in
set_option maxHeartbeats 2000000 in
theorem keeps_e64 {w x y a a2 z u s t K X S K1 X1 S1 c1 c2 : Int} (W : World) (g1 : (w != 32) = true) (g2 : (w != 64) = false) (HW : Hid (∀ W, Calls Try.prog 6 #[] W fun r W' => r = .returned (.bool true) ∧ Below W.heap.size W W')) (kn : x.tmod 4096 = a) (km : IntKind.u64.wrap (a * a) = a2) (HA : Hid (∀ W, Calls Try.prog 10 #[.int .i64 w, .bool false, .int .u64 a2] W fun r W' => r = .returned (.int .u64 z) ∧ Below W.heap.size W W')) (HS0 : Hid (∀ W, Calls Try.prog 7 #[.int .i64 w, .int .u64 z] W fun r W' => r = .returned (.int .u64 u) ∧ Below W.heap.size W W')) (HA1 : Hid (∀ W, Calls Try.prog 10 #[.int .i64 w, .bool false, .int .u64 a] W fun r W' => r = .returned (.int .u64 u) ∧ Below W.heap.size W W')) (HS1 : Hid (∀ W, Calls Try.prog 7 #[.int .i64 w, .int .u64 x] W fun r W' => r = .returned (.int .u64 s) ∧ Below W.heap.size W W')) (HS2 : Hid (∀ W, Calls Try.prog 7 #[.int .i64 w, .int .u64 y] W fun r W' => r = .returned (.int .u64 t) ∧ Below W.heap.size W W')) (HT : Hid (∀ W, Calls Try.prog 11 #[.int .i64 w, .int .u64 s] W fun r W' => r = .returned (.bool false) ∧ Below W.heap.size W W')) (HP : Hid (∀ W, Calls Try.prog 13 #[.int .i64 w, .int .u64 x] W fun r W' => r = .returned (.agg #[.bool false, .int .i64 K, .int .i64 X, .int .u64 S]) ∧ Below W.heap.size W W')) (HQ : Hid (∀ W, Calls Try.prog 13 #[.int .i64 w, .int .u64 y] W fun r W' => r = .returned (.agg #[.bool false, .int .i64 K1, .int .i64 X1, .int .u64 S1]) ∧ Below W.heap.size W W')) (k3 : (K1 == 3) = false) (HC1 : Hid (∀ W, Calls Try.prog 14 #[.int .i64 w, .int .u64 y] W fun r W' => r = .returned (.int .u64 c1) ∧ Below W.heap.size W W')) (HC2 : Hid (∀ W, Calls Try.prog 14 #[.int .i64 w, .int .u64 x] W fun r W' => r = .returned (.int .u64 c2) ∧ Below W.heap.size W W')) (hc : ¬ c1 < c2) (hs : s ≤ t) :
    Calls Try.prog 4 #[.int .i64 w, .int .u64 x, .int .u64 y] W fun r W' => r = .returned (.bool true) ∧ Below W.heap.size W W' := by
  go_enter Try.func4, Try.ntmps4
  go_wp2_with fail
  refine (unhide HW _).mono ?_
  rintro _ w1 ⟨rfl, hb⟩
  have HB := hide hb
  clear hb
  go_wp2_with fail
  refine (unhide HA _).mono ?_
  rintro _ w2 ⟨rfl, hb⟩
  have HB := hide (bthen (unhide HB) hb)
  clear hb
  go_wp2_with fail
  refine (unhide HS0 _).mono ?_
  rintro _ w3 ⟨rfl, hb⟩
  have HB := hide (bthen (unhide HB) hb)
  clear hb
  go_wp2_with fail
  refine (unhide HA1 _).mono ?_
  rintro _ w4 ⟨rfl, hb⟩
  have HB := hide (bthen (unhide HB) hb)
  clear hb
  go_wp2_with fail
  refine (unhide HS1 _).mono ?_
  rintro _ w5 ⟨rfl, hb⟩
  have HB := hide (bthen (unhide HB) hb)
  clear hb
  go_wp2_with fail
  refine (unhide HS2 _).mono ?_
  rintro _ w6 ⟨rfl, hb⟩
  have HB := hide (bthen (unhide HB) hb)
  clear hb
  go_wp2_with fail
  refine (unhide HT _).mono ?_
  rintro _ w7 ⟨rfl, hb⟩
  have HB := hide (bthen (unhide HB) hb)
  clear hb
  go_wp2_with fail
  refine (unhide HP _).mono ?_
  rintro _ w8 ⟨rfl, hb⟩
  have HB := hide (bthen (unhide HB) hb)
  clear hb
  go_wp2_with fail
  refine (unhide HQ _).mono ?_
  rintro _ w9 ⟨rfl, hb⟩
  have HB := hide (bthen (unhide HB) hb)
  have HB := hide (balloc (balloc (unhide HB) (.cells #[.bool false, .int .i64 K, .int .i64 X, .int .u64 S] 30)) (.cells #[.bool false, .int .i64 K1, .int .i64 X1, .int .u64 S1] 30))
  have H1 := hide (at4_new2a w9 (.bool false) (.int .i64 K) (.int .i64 X) (.int .u64 S) 30 (.cells #[.bool false, .int .i64 K1, .int .i64 X1, .int .u64 S1] 30))
  have H2 := hide (at4_new2b w9 (.cells #[.bool false, .int .i64 K, .int .i64 X, .int .u64 S] 30) (.bool false) (.int .i64 K1) (.int .i64 X1) (.int .u64 S1) 30)
  obtain ⟨c0, c1, c2, c3⟩ := unhide H1
  obtain ⟨d0, d1, d2, d3⟩ := unhide H2
  clear hb
  go_wp2_with fail
  refine (unhide HC1 _).mono ?_
  rintro _ w10 ⟨rfl, hb⟩
  have HB := hide (bthen (unhide HB) hb)
  clear hb
  go_wp2_with fail
  refine (unhide HC2 _).mono ?_
  rintro _ w11 ⟨rfl, hb⟩
  have HB := hide (bthen (unhide HB) hb)
  clear hb
  go_wp2_with fail
  go_ret
  exact ⟨by simp, unhide HB⟩

end Go.Proofs.Ytafejbkjkbgocaa
