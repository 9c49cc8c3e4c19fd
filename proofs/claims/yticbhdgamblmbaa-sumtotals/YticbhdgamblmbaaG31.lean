/- ExA, Keeps32. -/
import Derived.Test.YticbhdgamblmbaaG20
import Derived.Test.YticbhdgamblmbaaG22
import Derived.Test.YticbhdgamblmbaaG29
import Derived.Test.YticbhdgamblmbaaG30
namespace Go.Proofs.Yticbhdgamblmbaa
open Go.RowKit
open Go.Proofs.Yticbhdgamblmbaa.W

theorem stable_and {P Q : World → Prop} (h : Stable P) (k : Stable Q) : Stable (fun w => P w ∧ Q w) := fun _ _ hw hb => ⟨h _ _ hw.1 hb, k _ _ hw.2 hb⟩
theorem stable_nat (s : Value) (x : Nat) : Stable (fun w => IsNat w s x) := fun _ _ h k => h.below k
theorem fresh1 {N b : Nat} {v : Value} {w : World} (h : Fresh N #[v] b w) : w.cell? ⟨b, 0, none⟩ = some v ∧ w.frozen? ⟨b, 0, none⟩ = false := ⟨h.cell 0 _ rfl, h.thawed 0⟩
theorem set_same1 {b : Nat} {w : World} {u : Value} (h : w.cell? ⟨b, 0, none⟩ = some u) (v : Value) : (w.setCell ⟨b, 0, none⟩ v).cell? ⟨b, 0, none⟩ = some v := World.cell?_setCell_same _ _ _ h
theorem shl_k (a : Option Addr) (n c x : Nat) (d : Int) (k : Nat) (w : World) (hd : d = (k : Int)) (hx : IsNat w (.slice a n c) x) (hn : x < pw 2) (hk : k ≤ 10000) :
    Calls Try.prog 53 #[.agg #[.slice a n c], .int .i64 d] w fun e w' => ∃ s', e = .returned (.agg #[s']) ∧ IsNat w' s' (x * 2 ^ k) ∧ Below w.heap.size w w' := by
  subst hd
  exact refShl_any a n c x k w hx (Nat.le_trans (hx.short hn) (by omega)) hk
theorem add_k (a b : Option Addr) (n c m d x y : Nat) (w : World) (hx : IsNat w (.slice a n c) x) (hy : IsNat w (.slice b m d) y) (h1 : x < pw 300) (h2 : y < pw 300) :
    Calls Try.prog 56 #[.agg #[.slice a n c], .agg #[.slice b m d]] w fun e w' => ∃ s', e = .returned (.agg #[s']) ∧ IsNat w' s' (x + y) ∧ Below w.heap.size w w' :=
  refAdd_any a b n c m d x y w hx hy (Nat.le_trans (hx.short h1) (by omega)) (Nat.le_trans (hy.short h2) (by omega))
theorem sub_k (a b : Option Addr) (n c m d x y : Nat) (w : World) (hx : IsNat w (.slice a n c) x) (hy : IsNat w (.slice b m d) y) (h1 : x < pw 300) (h2 : y ≤ x) :
    Calls Try.prog 58 #[.agg #[.slice a n c], .agg #[.slice b m d]] w fun e w' => ∃ s', e = .returned (.agg #[s']) ∧ IsNat w' s' (x - y) ∧ Below w.heap.size w w' :=
  refSub_any a b n c m d x y w hx hy (Nat.le_trans (hx.short h1) (by omega)) h2

/-- The sum's variables: both operands, both numbers. -/
structure ESt (W : World) (b1 b2 : Nat) (n1 n2 : Bool) (K1 X1 S1 K2 X2 S2 : Int) (s1 s2 : Value) (x y : Nat) (w : World) : Prop where
  a1 : At4 W.heap.size (.bool n1) (.int .i64 K1) (.int .i64 X1) (.int .u64 S1) w
  a2 : At4 (W.heap.size + 1) (.bool n2) (.int .i64 K2) (.int .i64 X2) (.int .u64 S2) w
  c1 : w.cell? ⟨b1, 0, none⟩ = some s1
  c2 : w.cell? ⟨b2, 0, none⟩ = some s2
  m1 : IsNat w s1 x
  m2 : IsNat w s2 y
  bel : Below W.heap.size W w
theorem ESt.below {W : World} {b1 b2 : Nat} {n1 n2 : Bool} {K1 X1 S1 K2 X2 S2 : Int} {s1 s2 : Value} {x y : Nat} {w w' : World} (h : ESt W b1 b2 n1 n2 K1 X1 S1 K2 X2 S2 s1 s2 x y w) (hb : Below w.heap.size w w') : ESt W b1 b2 n1 n2 K1 X1 S1 K2 X2 S2 s1 s2 x y w' :=
  { a1 := h.a1.below hb, a2 := h.a2.below hb, c1 := keep1 hb (lt_of_cell h.c1) h.c1, c2 := keep1 hb (lt_of_cell h.c2) h.c2, m1 := h.m1.below hb, m2 := h.m2.below hb, bel := bthen h.bel hb }

end Go.Proofs.Yticbhdgamblmbaa
namespace Go.Proofs.Yticbhdgamblmbaa
open Go.RowKit

set_option maxRecDepth 100000 in
set_option maxHeartbeats 4000000 in
theorem keeps_no {w x y : Int} (W : World) (g1 : (w != 32) = true) (g2 : (w != 64) = true) (HW : Hid (∀ W, Calls Try.prog 8 #[] W fun r W' => r = .returned (.bool true) ∧ Below W.heap.size W W')) :
    Calls Try.prog 5 #[.int .i64 w, .int .u64 x, .int .u64 y] W fun r W' => r = .returned (.bool true) ∧ Below W.heap.size W W' := by
  go_enter Try.func5, Try.ntmps5
  go_wp2_with fail
  refine (unhide HW _).mono ?_
  rintro _ w1 ⟨rfl, hb⟩
  go_wp2_with fail
  go_ret
  exact ⟨rfl, hb⟩
set_option maxRecDepth 100000 in
set_option maxHeartbeats 4000000 in
theorem keeps_n32 {w x y Nn X S : Int} {n : Bool} (W : World) (g1 : (w != 32) = false) (HW : Hid (∀ W, Calls Try.prog 8 #[] W fun r W' => r = .returned (.bool true) ∧ Below W.heap.size W W')) (HA1 : Hid (∀ W, Calls Try.prog 9 #[.int .i64 w, .int .u64 x, .int .u64 y] W fun r W' => r = .returned (.int .u64 Nn) ∧ Below W.heap.size W W')) (HA2 : Hid (∀ W, Calls Try.prog 9 #[.int .i64 w, .int .u64 y, .int .u64 x] W fun r W' => r = .returned (.int .u64 Nn) ∧ Below W.heap.size W W')) (HT : Hid (∀ W, Calls Try.prog 15 #[.int .i64 w, .int .u64 Nn] W fun r W' => r = .returned (.bool true) ∧ Below W.heap.size W W')) (HN : Hid (∀ W, Calls Try.prog 16 #[.int .i64 w] W fun r W' => r = .returned (.int .u64 Nn) ∧ Below W.heap.size W W')) (HC : Hid (∀ W, Calls Try.prog 17 #[.int .i64 w, .int .u64 Nn] W fun r W' => r = .returned (.int .u64 Nn) ∧ Below W.heap.size W W')) (HO : Hid (∀ W, Calls Try.prog 18 #[.int .i64 w, .int .u64 x] W fun r W' => r = .returned (.agg #[.bool n, .int .i64 3, .int .i64 X, .int .u64 S]) ∧ Below W.heap.size W W')) (HS : Hid (∀ W, Calls Try.prog 10 #[.int .i64 w, .int .u64 y, .int .u64 x] W fun r W' => r = .returned (.int .u64 Nn) ∧ Below W.heap.size W W')) :
    Calls Try.prog 5 #[.int .i64 w, .int .u64 x, .int .u64 y] W fun r W' => r = .returned (.bool true) ∧ Below W.heap.size W W' := by
  go_enter Try.func5, Try.ntmps5
  go_wp2_with fail
  refine (unhide HW _).mono ?_
  rintro _ w1 ⟨rfl, hb⟩
  have HB := hide hb
  clear hb
  go_wp2_with fail
  refine (unhide HA1 _).mono ?_
  rintro _ w2 ⟨rfl, hb⟩
  have HB := hide (bthen (unhide HB) hb)
  clear hb
  go_wp2_with fail
  refine (unhide HA2 _).mono ?_
  rintro _ w3 ⟨rfl, hb⟩
  have HB := hide (bthen (unhide HB) hb)
  clear hb
  go_wp2_with fail
  refine (unhide HT _).mono ?_
  rintro _ w4 ⟨rfl, hb⟩
  have HB := hide (bthen (unhide HB) hb)
  clear hb
  go_wp2_with fail
  refine (unhide HN _).mono ?_
  rintro _ w5 ⟨rfl, hb⟩
  have HB := hide (bthen (unhide HB) hb)
  clear hb
  go_wp2_with fail
  refine (unhide HC _).mono ?_
  rintro _ w6 ⟨rfl, hb⟩
  have HB := hide (bthen (unhide HB) hb)
  clear hb
  go_wp2_with fail
  refine (unhide HO _).mono ?_
  rintro _ w7 ⟨rfl, hb⟩
  have HB := hide (bthen (unhide HB) hb)
  have HB := hide (balloc (unhide HB) (.cells #[.bool n, .int .i64 3, .int .i64 X, .int .u64 S] 34))
  have HA := hide (at4_new w7 (.bool n) (.int .i64 3) (.int .i64 X) (.int .u64 S) 34)
  clear hb
  have c1' := (unhide HA).2.1
  go_wp2_with fail
  clear c1'
  refine (unhide HN _).mono ?_
  rintro _ w8 ⟨rfl, hb⟩
  have HB := hide (bthen (unhide HB) hb)
  have HA := hide ((unhide HA).below hb)
  clear hb
  have c1' := (unhide HA).2.1
  go_wp2_with fail
  clear c1'
  refine (unhide HS _).mono ?_
  rintro _ w9 ⟨rfl, hb⟩
  have HB := hide (bthen (unhide HB) hb)
  have HA := hide ((unhide HA).below hb)
  clear hb
  have c1' := (unhide HA).2.1
  go_wp2_with fail
  go_ret
  exact ⟨by simp, unhide HB⟩
set_option maxRecDepth 100000 in
set_option maxHeartbeats 4000000 in
theorem keeps_it32 {w x y Nn X S d Z x' cx : Int} {n : Bool} (W : World) (g1 : (w != 32) = false) (HW : Hid (∀ W, Calls Try.prog 8 #[] W fun r W' => r = .returned (.bool true) ∧ Below W.heap.size W W')) (HA1 : Hid (∀ W, Calls Try.prog 9 #[.int .i64 w, .int .u64 x, .int .u64 y] W fun r W' => r = .returned (.int .u64 Nn) ∧ Below W.heap.size W W')) (HA2 : Hid (∀ W, Calls Try.prog 9 #[.int .i64 w, .int .u64 y, .int .u64 x] W fun r W' => r = .returned (.int .u64 Nn) ∧ Below W.heap.size W W')) (HT : Hid (∀ W, Calls Try.prog 15 #[.int .i64 w, .int .u64 Nn] W fun r W' => r = .returned (.bool true) ∧ Below W.heap.size W W')) (HN : Hid (∀ W, Calls Try.prog 16 #[.int .i64 w] W fun r W' => r = .returned (.int .u64 Nn) ∧ Below W.heap.size W W')) (HC : Hid (∀ W, Calls Try.prog 17 #[.int .i64 w, .int .u64 Nn] W fun r W' => r = .returned (.int .u64 Nn) ∧ Below W.heap.size W W')) (HO : Hid (∀ W, Calls Try.prog 18 #[.int .i64 w, .int .u64 x] W fun r W' => r = .returned (.agg #[.bool n, .int .i64 2, .int .i64 X, .int .u64 S]) ∧ Below W.heap.size W W')) (HX : Hid (∀ W, Calls Try.prog 10 #[.int .i64 w, .int .u64 x, .int .u64 x] W fun r W' => r = .returned (.int .u64 Nn) ∧ Below W.heap.size W W')) (HS : Hid (∀ W, Calls Try.prog 10 #[.int .i64 w, .int .u64 y, .int .u64 x] W fun r W' => r = .returned (.int .u64 d) ∧ Below W.heap.size W W')) (HZ : Hid (∀ W, Calls Try.prog 19 #[.int .i64 w, .bool true] W fun r W' => r = .returned (.int .u64 Z) ∧ Below W.heap.size W W')) (kx : bits .xor .u64 x Z = x') (HA3 : Hid (∀ W, Calls Try.prog 9 #[.int .i64 w, .int .u64 y, .int .u64 x'] W fun r W' => r = .returned (.int .u64 d) ∧ Below W.heap.size W W')) (HA4 : Hid (∀ W, Calls Try.prog 9 #[.int .i64 w, .int .u64 x, .int .u64 0] W fun r W' => r = .returned (.int .u64 cx) ∧ Below W.heap.size W W')) (HC2 : Hid (∀ W, Calls Try.prog 17 #[.int .i64 w, .int .u64 x] W fun r W' => r = .returned (.int .u64 cx) ∧ Below W.heap.size W W')) :
    Calls Try.prog 5 #[.int .i64 w, .int .u64 x, .int .u64 y] W fun r W' => r = .returned (.bool true) ∧ Below W.heap.size W W' := by
  go_enter Try.func5, Try.ntmps5
  go_wp2_with fail
  refine (unhide HW _).mono ?_
  rintro _ w1 ⟨rfl, hb⟩
  have HB := hide hb
  clear hb
  go_wp2_with fail
  refine (unhide HA1 _).mono ?_
  rintro _ w2 ⟨rfl, hb⟩
  have HB := hide (bthen (unhide HB) hb)
  clear hb
  go_wp2_with fail
  refine (unhide HA2 _).mono ?_
  rintro _ w3 ⟨rfl, hb⟩
  have HB := hide (bthen (unhide HB) hb)
  clear hb
  go_wp2_with fail
  refine (unhide HT _).mono ?_
  rintro _ w4 ⟨rfl, hb⟩
  have HB := hide (bthen (unhide HB) hb)
  clear hb
  go_wp2_with fail
  refine (unhide HN _).mono ?_
  rintro _ w5 ⟨rfl, hb⟩
  have HB := hide (bthen (unhide HB) hb)
  clear hb
  go_wp2_with fail
  refine (unhide HC _).mono ?_
  rintro _ w6 ⟨rfl, hb⟩
  have HB := hide (bthen (unhide HB) hb)
  clear hb
  go_wp2_with fail
  refine (unhide HO _).mono ?_
  rintro _ w7 ⟨rfl, hb⟩
  have HB := hide (bthen (unhide HB) hb)
  have HB := hide (balloc (unhide HB) (.cells #[.bool n, .int .i64 2, .int .i64 X, .int .u64 S] 34))
  have HA := hide (at4_new w7 (.bool n) (.int .i64 2) (.int .i64 X) (.int .u64 S) 34)
  clear hb
  have c1' := (unhide HA).2.1
  go_wp2_with fail
  clear c1'
  refine (unhide HX _).mono ?_
  rintro _ w8 ⟨rfl, hb⟩
  have HB := hide (bthen (unhide HB) hb)
  have HA := hide ((unhide HA).below hb)
  clear hb
  have c1' := (unhide HA).2.1
  go_wp2_with fail
  clear c1'
  refine (unhide HN _).mono ?_
  rintro _ w9 ⟨rfl, hb⟩
  have HB := hide (bthen (unhide HB) hb)
  have HA := hide ((unhide HA).below hb)
  clear hb
  have c1' := (unhide HA).2.1
  go_wp2_with fail
  clear c1'
  refine (unhide HS _).mono ?_
  rintro _ w10 ⟨rfl, hb⟩
  have HB := hide (bthen (unhide HB) hb)
  have HA := hide ((unhide HA).below hb)
  clear hb
  have c1' := (unhide HA).2.1
  go_wp2_with fail
  clear c1'
  refine (unhide HZ _).mono ?_
  rintro _ w11 ⟨rfl, hb⟩
  have HB := hide (bthen (unhide HB) hb)
  have HA := hide ((unhide HA).below hb)
  clear hb
  have c1' := (unhide HA).2.1
  go_wp2_with fail
  clear c1'
  refine (unhide HA3 _).mono ?_
  rintro _ w12 ⟨rfl, hb⟩
  have HB := hide (bthen (unhide HB) hb)
  have HA := hide ((unhide HA).below hb)
  clear hb
  have c1' := (unhide HA).2.1
  go_wp2_with fail
  clear c1'
  refine (unhide HA4 _).mono ?_
  rintro _ w13 ⟨rfl, hb⟩
  have HB := hide (bthen (unhide HB) hb)
  have HA := hide ((unhide HA).below hb)
  clear hb
  have c1' := (unhide HA).2.1
  go_wp2_with fail
  clear c1'
  refine (unhide HC2 _).mono ?_
  rintro _ w14 ⟨rfl, hb⟩
  have HB := hide (bthen (unhide HB) hb)
  have HA := hide ((unhide HA).below hb)
  clear hb
  have c1' := (unhide HA).2.1
  go_wp2_with fail
  go_ret
  exact ⟨by simp, unhide HB⟩
set_option maxRecDepth 100000 in
set_option maxHeartbeats 4000000 in
theorem keeps_zt32 {w x y Nn  X S d Z x' : Int} {n : Bool} (W : World) (g1 : (w != 32) = false) (HW : Hid (∀ W, Calls Try.prog 8 #[] W fun r W' => r = .returned (.bool true) ∧ Below W.heap.size W W')) (HA1 : Hid (∀ W, Calls Try.prog 9 #[.int .i64 w, .int .u64 x, .int .u64 y] W fun r W' => r = .returned (.int .u64 Nn) ∧ Below W.heap.size W W')) (HA2 : Hid (∀ W, Calls Try.prog 9 #[.int .i64 w, .int .u64 y, .int .u64 x] W fun r W' => r = .returned (.int .u64 Nn) ∧ Below W.heap.size W W')) (HT : Hid (∀ W, Calls Try.prog 15 #[.int .i64 w, .int .u64 Nn] W fun r W' => r = .returned (.bool true) ∧ Below W.heap.size W W')) (HN : Hid (∀ W, Calls Try.prog 16 #[.int .i64 w] W fun r W' => r = .returned (.int .u64 Nn) ∧ Below W.heap.size W W')) (HC : Hid (∀ W, Calls Try.prog 17 #[.int .i64 w, .int .u64 Nn] W fun r W' => r = .returned (.int .u64 Nn) ∧ Below W.heap.size W W')) (HO : Hid (∀ W, Calls Try.prog 18 #[.int .i64 w, .int .u64 x] W fun r W' => r = .returned (.agg #[.bool n, .int .i64 0, .int .i64 X, .int .u64 S]) ∧ Below W.heap.size W W')) (HX : Hid (∀ W, Calls Try.prog 10 #[.int .i64 w, .int .u64 x, .int .u64 x] W fun r W' => r = .returned (.int .u64 0) ∧ Below W.heap.size W W')) (HS : Hid (∀ W, Calls Try.prog 10 #[.int .i64 w, .int .u64 y, .int .u64 x] W fun r W' => r = .returned (.int .u64 d) ∧ Below W.heap.size W W')) (HZ : Hid (∀ W, Calls Try.prog 19 #[.int .i64 w, .bool true] W fun r W' => r = .returned (.int .u64 Z) ∧ Below W.heap.size W W')) (kx : bits .xor .u64 x Z = x') (HA3 : Hid (∀ W, Calls Try.prog 9 #[.int .i64 w, .int .u64 y, .int .u64 x'] W fun r W' => r = .returned (.int .u64 d) ∧ Below W.heap.size W W')) :
    Calls Try.prog 5 #[.int .i64 w, .int .u64 x, .int .u64 y] W fun r W' => r = .returned (.bool true) ∧ Below W.heap.size W W' := by
  go_enter Try.func5, Try.ntmps5
  go_wp2_with fail
  refine (unhide HW _).mono ?_
  rintro _ w1 ⟨rfl, hb⟩
  have HB := hide hb
  clear hb
  go_wp2_with fail
  refine (unhide HA1 _).mono ?_
  rintro _ w2 ⟨rfl, hb⟩
  have HB := hide (bthen (unhide HB) hb)
  clear hb
  go_wp2_with fail
  refine (unhide HA2 _).mono ?_
  rintro _ w3 ⟨rfl, hb⟩
  have HB := hide (bthen (unhide HB) hb)
  clear hb
  go_wp2_with fail
  refine (unhide HT _).mono ?_
  rintro _ w4 ⟨rfl, hb⟩
  have HB := hide (bthen (unhide HB) hb)
  clear hb
  go_wp2_with fail
  refine (unhide HN _).mono ?_
  rintro _ w5 ⟨rfl, hb⟩
  have HB := hide (bthen (unhide HB) hb)
  clear hb
  go_wp2_with fail
  refine (unhide HC _).mono ?_
  rintro _ w6 ⟨rfl, hb⟩
  have HB := hide (bthen (unhide HB) hb)
  clear hb
  go_wp2_with fail
  refine (unhide HO _).mono ?_
  rintro _ w7 ⟨rfl, hb⟩
  have HB := hide (bthen (unhide HB) hb)
  have HB := hide (balloc (unhide HB) (.cells #[.bool n, .int .i64 0, .int .i64 X, .int .u64 S] 34))
  have HA := hide (at4_new w7 (.bool n) (.int .i64 0) (.int .i64 X) (.int .u64 S) 34)
  clear hb
  have c1' := (unhide HA).2.1
  go_wp2_with fail
  clear c1'
  refine (unhide HX _).mono ?_
  rintro _ w8 ⟨rfl, hb⟩
  have HB := hide (bthen (unhide HB) hb)
  have HA := hide ((unhide HA).below hb)
  clear hb
  have c1' := (unhide HA).2.1
  go_wp2_with fail
  clear c1'
  refine (unhide HS _).mono ?_
  rintro _ w9 ⟨rfl, hb⟩
  have HB := hide (bthen (unhide HB) hb)
  have HA := hide ((unhide HA).below hb)
  clear hb
  have c1' := (unhide HA).2.1
  go_wp2_with fail
  clear c1'
  refine (unhide HZ _).mono ?_
  rintro _ w10 ⟨rfl, hb⟩
  have HB := hide (bthen (unhide HB) hb)
  have HA := hide ((unhide HA).below hb)
  clear hb
  have c1' := (unhide HA).2.1
  go_wp2_with fail
  clear c1'
  refine (unhide HA3 _).mono ?_
  rintro _ w11 ⟨rfl, hb⟩
  have HB := hide (bthen (unhide HB) hb)
  have HA := hide ((unhide HA).below hb)
  clear hb
  have c1' := (unhide HA).2.1
  go_wp2_with fail
  go_ret
  exact ⟨by simp, unhide HB⟩
set_option maxRecDepth 100000 in
set_option maxHeartbeats 4000000 in
theorem keeps_ot32 {w x y Nn  X S d Z x' cx : Int} {n : Bool} (W : World) (g1 : (w != 32) = false) (HW : Hid (∀ W, Calls Try.prog 8 #[] W fun r W' => r = .returned (.bool true) ∧ Below W.heap.size W W')) (HA1 : Hid (∀ W, Calls Try.prog 9 #[.int .i64 w, .int .u64 x, .int .u64 y] W fun r W' => r = .returned (.int .u64 Nn) ∧ Below W.heap.size W W')) (HA2 : Hid (∀ W, Calls Try.prog 9 #[.int .i64 w, .int .u64 y, .int .u64 x] W fun r W' => r = .returned (.int .u64 Nn) ∧ Below W.heap.size W W')) (HT : Hid (∀ W, Calls Try.prog 15 #[.int .i64 w, .int .u64 Nn] W fun r W' => r = .returned (.bool true) ∧ Below W.heap.size W W')) (HN : Hid (∀ W, Calls Try.prog 16 #[.int .i64 w] W fun r W' => r = .returned (.int .u64 Nn) ∧ Below W.heap.size W W')) (HC : Hid (∀ W, Calls Try.prog 17 #[.int .i64 w, .int .u64 Nn] W fun r W' => r = .returned (.int .u64 Nn) ∧ Below W.heap.size W W')) (HO : Hid (∀ W, Calls Try.prog 18 #[.int .i64 w, .int .u64 x] W fun r W' => r = .returned (.agg #[.bool n, .int .i64 1, .int .i64 X, .int .u64 S]) ∧ Below W.heap.size W W')) (HX : Hid (∀ W, Calls Try.prog 10 #[.int .i64 w, .int .u64 x, .int .u64 x] W fun r W' => r = .returned (.int .u64 0) ∧ Below W.heap.size W W')) (HS : Hid (∀ W, Calls Try.prog 10 #[.int .i64 w, .int .u64 y, .int .u64 x] W fun r W' => r = .returned (.int .u64 d) ∧ Below W.heap.size W W')) (HZ : Hid (∀ W, Calls Try.prog 19 #[.int .i64 w, .bool true] W fun r W' => r = .returned (.int .u64 Z) ∧ Below W.heap.size W W')) (kx : bits .xor .u64 x Z = x') (HA3 : Hid (∀ W, Calls Try.prog 9 #[.int .i64 w, .int .u64 y, .int .u64 x'] W fun r W' => r = .returned (.int .u64 d) ∧ Below W.heap.size W W')) (HA4 : Hid (∀ W, Calls Try.prog 9 #[.int .i64 w, .int .u64 x, .int .u64 0] W fun r W' => r = .returned (.int .u64 cx) ∧ Below W.heap.size W W')) (HC2 : Hid (∀ W, Calls Try.prog 17 #[.int .i64 w, .int .u64 x] W fun r W' => r = .returned (.int .u64 cx) ∧ Below W.heap.size W W')) :
    Calls Try.prog 5 #[.int .i64 w, .int .u64 x, .int .u64 y] W fun r W' => r = .returned (.bool true) ∧ Below W.heap.size W W' := by
  go_enter Try.func5, Try.ntmps5
  go_wp2_with fail
  refine (unhide HW _).mono ?_
  rintro _ w1 ⟨rfl, hb⟩
  have HB := hide hb
  clear hb
  go_wp2_with fail
  refine (unhide HA1 _).mono ?_
  rintro _ w2 ⟨rfl, hb⟩
  have HB := hide (bthen (unhide HB) hb)
  clear hb
  go_wp2_with fail
  refine (unhide HA2 _).mono ?_
  rintro _ w3 ⟨rfl, hb⟩
  have HB := hide (bthen (unhide HB) hb)
  clear hb
  go_wp2_with fail
  refine (unhide HT _).mono ?_
  rintro _ w4 ⟨rfl, hb⟩
  have HB := hide (bthen (unhide HB) hb)
  clear hb
  go_wp2_with fail
  refine (unhide HN _).mono ?_
  rintro _ w5 ⟨rfl, hb⟩
  have HB := hide (bthen (unhide HB) hb)
  clear hb
  go_wp2_with fail
  refine (unhide HC _).mono ?_
  rintro _ w6 ⟨rfl, hb⟩
  have HB := hide (bthen (unhide HB) hb)
  clear hb
  go_wp2_with fail
  refine (unhide HO _).mono ?_
  rintro _ w7 ⟨rfl, hb⟩
  have HB := hide (bthen (unhide HB) hb)
  have HB := hide (balloc (unhide HB) (.cells #[.bool n, .int .i64 1, .int .i64 X, .int .u64 S] 34))
  have HA := hide (at4_new w7 (.bool n) (.int .i64 1) (.int .i64 X) (.int .u64 S) 34)
  clear hb
  have c1' := (unhide HA).2.1
  go_wp2_with fail
  clear c1'
  refine (unhide HX _).mono ?_
  rintro _ w8 ⟨rfl, hb⟩
  have HB := hide (bthen (unhide HB) hb)
  have HA := hide ((unhide HA).below hb)
  clear hb
  have c1' := (unhide HA).2.1
  go_wp2_with fail
  clear c1'
  refine (unhide HS _).mono ?_
  rintro _ w9 ⟨rfl, hb⟩
  have HB := hide (bthen (unhide HB) hb)
  have HA := hide ((unhide HA).below hb)
  clear hb
  have c1' := (unhide HA).2.1
  go_wp2_with fail
  clear c1'
  refine (unhide HZ _).mono ?_
  rintro _ w10 ⟨rfl, hb⟩
  have HB := hide (bthen (unhide HB) hb)
  have HA := hide ((unhide HA).below hb)
  clear hb
  have c1' := (unhide HA).2.1
  go_wp2_with fail
  clear c1'
  refine (unhide HA3 _).mono ?_
  rintro _ w11 ⟨rfl, hb⟩
  have HB := hide (bthen (unhide HB) hb)
  have HA := hide ((unhide HA).below hb)
  clear hb
  have c1' := (unhide HA).2.1
  go_wp2_with fail
  clear c1'
  refine (unhide HA4 _).mono ?_
  rintro _ w12 ⟨rfl, hb⟩
  have HB := hide (bthen (unhide HB) hb)
  have HA := hide ((unhide HA).below hb)
  clear hb
  have c1' := (unhide HA).2.1
  go_wp2_with fail
  clear c1'
  refine (unhide HC2 _).mono ?_
  rintro _ w13 ⟨rfl, hb⟩
  have HB := hide (bthen (unhide HB) hb)
  have HA := hide ((unhide HA).below hb)
  clear hb
  have c1' := (unhide HA).2.1
  go_wp2_with fail
  go_ret
  exact ⟨by simp, unhide HB⟩
set_option maxRecDepth 100000 in
set_option maxHeartbeats 4000000 in
theorem keeps_if32 {w x y Nn s X S d Z x' cx : Int} {n : Bool} (W : World) (g1 : (w != 32) = false) (HW : Hid (∀ W, Calls Try.prog 8 #[] W fun r W' => r = .returned (.bool true) ∧ Below W.heap.size W W')) (HA1 : Hid (∀ W, Calls Try.prog 9 #[.int .i64 w, .int .u64 x, .int .u64 y] W fun r W' => r = .returned (.int .u64 s) ∧ Below W.heap.size W W')) (HA2 : Hid (∀ W, Calls Try.prog 9 #[.int .i64 w, .int .u64 y, .int .u64 x] W fun r W' => r = .returned (.int .u64 s) ∧ Below W.heap.size W W')) (HT : Hid (∀ W, Calls Try.prog 15 #[.int .i64 w, .int .u64 s] W fun r W' => r = .returned (.bool false) ∧ Below W.heap.size W W')) (HN : Hid (∀ W, Calls Try.prog 16 #[.int .i64 w] W fun r W' => r = .returned (.int .u64 Nn) ∧ Below W.heap.size W W')) (HC : Hid (∀ W, Calls Try.prog 17 #[.int .i64 w, .int .u64 s] W fun r W' => r = .returned (.int .u64 s) ∧ Below W.heap.size W W')) (HO : Hid (∀ W, Calls Try.prog 18 #[.int .i64 w, .int .u64 x] W fun r W' => r = .returned (.agg #[.bool n, .int .i64 2, .int .i64 X, .int .u64 S]) ∧ Below W.heap.size W W')) (HX : Hid (∀ W, Calls Try.prog 10 #[.int .i64 w, .int .u64 x, .int .u64 x] W fun r W' => r = .returned (.int .u64 Nn) ∧ Below W.heap.size W W')) (HS : Hid (∀ W, Calls Try.prog 10 #[.int .i64 w, .int .u64 y, .int .u64 x] W fun r W' => r = .returned (.int .u64 d) ∧ Below W.heap.size W W')) (HZ : Hid (∀ W, Calls Try.prog 19 #[.int .i64 w, .bool true] W fun r W' => r = .returned (.int .u64 Z) ∧ Below W.heap.size W W')) (kx : bits .xor .u64 x Z = x') (HA3 : Hid (∀ W, Calls Try.prog 9 #[.int .i64 w, .int .u64 y, .int .u64 x'] W fun r W' => r = .returned (.int .u64 d) ∧ Below W.heap.size W W')) (HA4 : Hid (∀ W, Calls Try.prog 9 #[.int .i64 w, .int .u64 x, .int .u64 0] W fun r W' => r = .returned (.int .u64 cx) ∧ Below W.heap.size W W')) (HC2 : Hid (∀ W, Calls Try.prog 17 #[.int .i64 w, .int .u64 x] W fun r W' => r = .returned (.int .u64 cx) ∧ Below W.heap.size W W')) :
    Calls Try.prog 5 #[.int .i64 w, .int .u64 x, .int .u64 y] W fun r W' => r = .returned (.bool true) ∧ Below W.heap.size W W' := by
  go_enter Try.func5, Try.ntmps5
  go_wp2_with fail
  refine (unhide HW _).mono ?_
  rintro _ w1 ⟨rfl, hb⟩
  have HB := hide hb
  clear hb
  go_wp2_with fail
  refine (unhide HA1 _).mono ?_
  rintro _ w2 ⟨rfl, hb⟩
  have HB := hide (bthen (unhide HB) hb)
  clear hb
  go_wp2_with fail
  refine (unhide HA2 _).mono ?_
  rintro _ w3 ⟨rfl, hb⟩
  have HB := hide (bthen (unhide HB) hb)
  clear hb
  go_wp2_with fail
  refine (unhide HT _).mono ?_
  rintro _ w4 ⟨rfl, hb⟩
  have HB := hide (bthen (unhide HB) hb)
  clear hb
  go_wp2_with fail
  refine (unhide HC _).mono ?_
  rintro _ w5 ⟨rfl, hb⟩
  have HB := hide (bthen (unhide HB) hb)
  clear hb
  go_wp2_with fail
  refine (unhide HO _).mono ?_
  rintro _ w6 ⟨rfl, hb⟩
  have HB := hide (bthen (unhide HB) hb)
  have HB := hide (balloc (unhide HB) (.cells #[.bool n, .int .i64 2, .int .i64 X, .int .u64 S] 34))
  have HA := hide (at4_new w6 (.bool n) (.int .i64 2) (.int .i64 X) (.int .u64 S) 34)
  clear hb
  have c1' := (unhide HA).2.1
  go_wp2_with fail
  clear c1'
  refine (unhide HX _).mono ?_
  rintro _ w7 ⟨rfl, hb⟩
  have HB := hide (bthen (unhide HB) hb)
  have HA := hide ((unhide HA).below hb)
  clear hb
  have c1' := (unhide HA).2.1
  go_wp2_with fail
  clear c1'
  refine (unhide HN _).mono ?_
  rintro _ w8 ⟨rfl, hb⟩
  have HB := hide (bthen (unhide HB) hb)
  have HA := hide ((unhide HA).below hb)
  clear hb
  have c1' := (unhide HA).2.1
  go_wp2_with fail
  clear c1'
  refine (unhide HS _).mono ?_
  rintro _ w9 ⟨rfl, hb⟩
  have HB := hide (bthen (unhide HB) hb)
  have HA := hide ((unhide HA).below hb)
  clear hb
  have c1' := (unhide HA).2.1
  go_wp2_with fail
  clear c1'
  refine (unhide HZ _).mono ?_
  rintro _ w10 ⟨rfl, hb⟩
  have HB := hide (bthen (unhide HB) hb)
  have HA := hide ((unhide HA).below hb)
  clear hb
  have c1' := (unhide HA).2.1
  go_wp2_with fail
  clear c1'
  refine (unhide HA3 _).mono ?_
  rintro _ w11 ⟨rfl, hb⟩
  have HB := hide (bthen (unhide HB) hb)
  have HA := hide ((unhide HA).below hb)
  clear hb
  have c1' := (unhide HA).2.1
  go_wp2_with fail
  clear c1'
  refine (unhide HA4 _).mono ?_
  rintro _ w12 ⟨rfl, hb⟩
  have HB := hide (bthen (unhide HB) hb)
  have HA := hide ((unhide HA).below hb)
  clear hb
  have c1' := (unhide HA).2.1
  go_wp2_with fail
  clear c1'
  refine (unhide HC2 _).mono ?_
  rintro _ w13 ⟨rfl, hb⟩
  have HB := hide (bthen (unhide HB) hb)
  have HA := hide ((unhide HA).below hb)
  clear hb
  have c1' := (unhide HA).2.1
  go_wp2_with fail
  go_ret
  exact ⟨by simp, unhide HB⟩
set_option maxRecDepth 100000 in
set_option maxHeartbeats 4000000 in
theorem keeps_zf32 {w x y  s X S d Z x' : Int} {n : Bool} (W : World) (g1 : (w != 32) = false) (HW : Hid (∀ W, Calls Try.prog 8 #[] W fun r W' => r = .returned (.bool true) ∧ Below W.heap.size W W')) (HA1 : Hid (∀ W, Calls Try.prog 9 #[.int .i64 w, .int .u64 x, .int .u64 y] W fun r W' => r = .returned (.int .u64 s) ∧ Below W.heap.size W W')) (HA2 : Hid (∀ W, Calls Try.prog 9 #[.int .i64 w, .int .u64 y, .int .u64 x] W fun r W' => r = .returned (.int .u64 s) ∧ Below W.heap.size W W')) (HT : Hid (∀ W, Calls Try.prog 15 #[.int .i64 w, .int .u64 s] W fun r W' => r = .returned (.bool false) ∧ Below W.heap.size W W')) (HC : Hid (∀ W, Calls Try.prog 17 #[.int .i64 w, .int .u64 s] W fun r W' => r = .returned (.int .u64 s) ∧ Below W.heap.size W W')) (HO : Hid (∀ W, Calls Try.prog 18 #[.int .i64 w, .int .u64 x] W fun r W' => r = .returned (.agg #[.bool n, .int .i64 0, .int .i64 X, .int .u64 S]) ∧ Below W.heap.size W W')) (HX : Hid (∀ W, Calls Try.prog 10 #[.int .i64 w, .int .u64 x, .int .u64 x] W fun r W' => r = .returned (.int .u64 0) ∧ Below W.heap.size W W')) (HS : Hid (∀ W, Calls Try.prog 10 #[.int .i64 w, .int .u64 y, .int .u64 x] W fun r W' => r = .returned (.int .u64 d) ∧ Below W.heap.size W W')) (HZ : Hid (∀ W, Calls Try.prog 19 #[.int .i64 w, .bool true] W fun r W' => r = .returned (.int .u64 Z) ∧ Below W.heap.size W W')) (kx : bits .xor .u64 x Z = x') (HA3 : Hid (∀ W, Calls Try.prog 9 #[.int .i64 w, .int .u64 y, .int .u64 x'] W fun r W' => r = .returned (.int .u64 d) ∧ Below W.heap.size W W')) :
    Calls Try.prog 5 #[.int .i64 w, .int .u64 x, .int .u64 y] W fun r W' => r = .returned (.bool true) ∧ Below W.heap.size W W' := by
  go_enter Try.func5, Try.ntmps5
  go_wp2_with fail
  refine (unhide HW _).mono ?_
  rintro _ w1 ⟨rfl, hb⟩
  have HB := hide hb
  clear hb
  go_wp2_with fail
  refine (unhide HA1 _).mono ?_
  rintro _ w2 ⟨rfl, hb⟩
  have HB := hide (bthen (unhide HB) hb)
  clear hb
  go_wp2_with fail
  refine (unhide HA2 _).mono ?_
  rintro _ w3 ⟨rfl, hb⟩
  have HB := hide (bthen (unhide HB) hb)
  clear hb
  go_wp2_with fail
  refine (unhide HT _).mono ?_
  rintro _ w4 ⟨rfl, hb⟩
  have HB := hide (bthen (unhide HB) hb)
  clear hb
  go_wp2_with fail
  refine (unhide HC _).mono ?_
  rintro _ w5 ⟨rfl, hb⟩
  have HB := hide (bthen (unhide HB) hb)
  clear hb
  go_wp2_with fail
  refine (unhide HO _).mono ?_
  rintro _ w6 ⟨rfl, hb⟩
  have HB := hide (bthen (unhide HB) hb)
  have HB := hide (balloc (unhide HB) (.cells #[.bool n, .int .i64 0, .int .i64 X, .int .u64 S] 34))
  have HA := hide (at4_new w6 (.bool n) (.int .i64 0) (.int .i64 X) (.int .u64 S) 34)
  clear hb
  have c1' := (unhide HA).2.1
  go_wp2_with fail
  clear c1'
  refine (unhide HX _).mono ?_
  rintro _ w7 ⟨rfl, hb⟩
  have HB := hide (bthen (unhide HB) hb)
  have HA := hide ((unhide HA).below hb)
  clear hb
  have c1' := (unhide HA).2.1
  go_wp2_with fail
  clear c1'
  refine (unhide HS _).mono ?_
  rintro _ w8 ⟨rfl, hb⟩
  have HB := hide (bthen (unhide HB) hb)
  have HA := hide ((unhide HA).below hb)
  clear hb
  have c1' := (unhide HA).2.1
  go_wp2_with fail
  clear c1'
  refine (unhide HZ _).mono ?_
  rintro _ w9 ⟨rfl, hb⟩
  have HB := hide (bthen (unhide HB) hb)
  have HA := hide ((unhide HA).below hb)
  clear hb
  have c1' := (unhide HA).2.1
  go_wp2_with fail
  clear c1'
  refine (unhide HA3 _).mono ?_
  rintro _ w10 ⟨rfl, hb⟩
  have HB := hide (bthen (unhide HB) hb)
  have HA := hide ((unhide HA).below hb)
  clear hb
  have c1' := (unhide HA).2.1
  go_wp2_with fail
  go_ret
  exact ⟨by simp, unhide HB⟩
set_option maxRecDepth 100000 in
set_option maxHeartbeats 4000000 in
theorem keeps_of32 {w x y  s X S d Z x' cx : Int} {n : Bool} (W : World) (g1 : (w != 32) = false) (HW : Hid (∀ W, Calls Try.prog 8 #[] W fun r W' => r = .returned (.bool true) ∧ Below W.heap.size W W')) (HA1 : Hid (∀ W, Calls Try.prog 9 #[.int .i64 w, .int .u64 x, .int .u64 y] W fun r W' => r = .returned (.int .u64 s) ∧ Below W.heap.size W W')) (HA2 : Hid (∀ W, Calls Try.prog 9 #[.int .i64 w, .int .u64 y, .int .u64 x] W fun r W' => r = .returned (.int .u64 s) ∧ Below W.heap.size W W')) (HT : Hid (∀ W, Calls Try.prog 15 #[.int .i64 w, .int .u64 s] W fun r W' => r = .returned (.bool false) ∧ Below W.heap.size W W')) (HC : Hid (∀ W, Calls Try.prog 17 #[.int .i64 w, .int .u64 s] W fun r W' => r = .returned (.int .u64 s) ∧ Below W.heap.size W W')) (HO : Hid (∀ W, Calls Try.prog 18 #[.int .i64 w, .int .u64 x] W fun r W' => r = .returned (.agg #[.bool n, .int .i64 1, .int .i64 X, .int .u64 S]) ∧ Below W.heap.size W W')) (HX : Hid (∀ W, Calls Try.prog 10 #[.int .i64 w, .int .u64 x, .int .u64 x] W fun r W' => r = .returned (.int .u64 0) ∧ Below W.heap.size W W')) (HS : Hid (∀ W, Calls Try.prog 10 #[.int .i64 w, .int .u64 y, .int .u64 x] W fun r W' => r = .returned (.int .u64 d) ∧ Below W.heap.size W W')) (HZ : Hid (∀ W, Calls Try.prog 19 #[.int .i64 w, .bool true] W fun r W' => r = .returned (.int .u64 Z) ∧ Below W.heap.size W W')) (kx : bits .xor .u64 x Z = x') (HA3 : Hid (∀ W, Calls Try.prog 9 #[.int .i64 w, .int .u64 y, .int .u64 x'] W fun r W' => r = .returned (.int .u64 d) ∧ Below W.heap.size W W')) (HA4 : Hid (∀ W, Calls Try.prog 9 #[.int .i64 w, .int .u64 x, .int .u64 0] W fun r W' => r = .returned (.int .u64 cx) ∧ Below W.heap.size W W')) (HC2 : Hid (∀ W, Calls Try.prog 17 #[.int .i64 w, .int .u64 x] W fun r W' => r = .returned (.int .u64 cx) ∧ Below W.heap.size W W')) :
    Calls Try.prog 5 #[.int .i64 w, .int .u64 x, .int .u64 y] W fun r W' => r = .returned (.bool true) ∧ Below W.heap.size W W' := by
  go_enter Try.func5, Try.ntmps5
  go_wp2_with fail
  refine (unhide HW _).mono ?_
  rintro _ w1 ⟨rfl, hb⟩
  have HB := hide hb
  clear hb
  go_wp2_with fail
  refine (unhide HA1 _).mono ?_
  rintro _ w2 ⟨rfl, hb⟩
  have HB := hide (bthen (unhide HB) hb)
  clear hb
  go_wp2_with fail
  refine (unhide HA2 _).mono ?_
  rintro _ w3 ⟨rfl, hb⟩
  have HB := hide (bthen (unhide HB) hb)
  clear hb
  go_wp2_with fail
  refine (unhide HT _).mono ?_
  rintro _ w4 ⟨rfl, hb⟩
  have HB := hide (bthen (unhide HB) hb)
  clear hb
  go_wp2_with fail
  refine (unhide HC _).mono ?_
  rintro _ w5 ⟨rfl, hb⟩
  have HB := hide (bthen (unhide HB) hb)
  clear hb
  go_wp2_with fail
  refine (unhide HO _).mono ?_
  rintro _ w6 ⟨rfl, hb⟩
  have HB := hide (bthen (unhide HB) hb)
  have HB := hide (balloc (unhide HB) (.cells #[.bool n, .int .i64 1, .int .i64 X, .int .u64 S] 34))
  have HA := hide (at4_new w6 (.bool n) (.int .i64 1) (.int .i64 X) (.int .u64 S) 34)
  clear hb
  have c1' := (unhide HA).2.1
  go_wp2_with fail
  clear c1'
  refine (unhide HX _).mono ?_
  rintro _ w7 ⟨rfl, hb⟩
  have HB := hide (bthen (unhide HB) hb)
  have HA := hide ((unhide HA).below hb)
  clear hb
  have c1' := (unhide HA).2.1
  go_wp2_with fail
  clear c1'
  refine (unhide HS _).mono ?_
  rintro _ w8 ⟨rfl, hb⟩
  have HB := hide (bthen (unhide HB) hb)
  have HA := hide ((unhide HA).below hb)
  clear hb
  have c1' := (unhide HA).2.1
  go_wp2_with fail
  clear c1'
  refine (unhide HZ _).mono ?_
  rintro _ w9 ⟨rfl, hb⟩
  have HB := hide (bthen (unhide HB) hb)
  have HA := hide ((unhide HA).below hb)
  clear hb
  have c1' := (unhide HA).2.1
  go_wp2_with fail
  clear c1'
  refine (unhide HA3 _).mono ?_
  rintro _ w10 ⟨rfl, hb⟩
  have HB := hide (bthen (unhide HB) hb)
  have HA := hide ((unhide HA).below hb)
  clear hb
  have c1' := (unhide HA).2.1
  go_wp2_with fail
  clear c1'
  refine (unhide HA4 _).mono ?_
  rintro _ w11 ⟨rfl, hb⟩
  have HB := hide (bthen (unhide HB) hb)
  have HA := hide ((unhide HA).below hb)
  clear hb
  have c1' := (unhide HA).2.1
  go_wp2_with fail
  clear c1'
  refine (unhide HC2 _).mono ?_
  rintro _ w12 ⟨rfl, hb⟩
  have HB := hide (bthen (unhide HB) hb)
  have HA := hide ((unhide HA).below hb)
  clear hb
  have c1' := (unhide HA).2.1
  go_wp2_with fail
  go_ret
  exact ⟨by simp, unhide HB⟩

end Go.Proofs.Yticbhdgamblmbaa
