/- The reference's exact sum: its state. -/
import Derived.Test.YticbhdgamblmbaaPlusB
import Derived.Test.YticbhdgamblmbaaWRefJ
import Derived.Test.YticbhdgamblmbaaClose
namespace Go.Proofs.Yticbhdgamblmbaa
open Go.RowKit
open Go.Proofs.Yticbhdgamblmbaa.W

theorem stable_and {P Q : World → Prop} (h : Stable P) (k : Stable Q) : Stable (fun w => P w ∧ Q w) := fun _ _ hw hb => ⟨h _ _ hw.1 hb, k _ _ hw.2 hb⟩
theorem stable_nat (s : Value) (x : Nat) : Stable (fun w => IsNat w s x) := fun _ _ h k => h.below k
theorem fresh1 {N b : Nat} {v : Value} {w : World} (h : Fresh N #[v] b w) : w.cell? ⟨b, 0, none⟩ = some v ∧ w.frozen? ⟨b, 0, none⟩ = false := ⟨h.cell 0 _ rfl, h.thawed 0⟩
theorem set_same1 {b : Nat} {w : World} {u : Value} (h : w.cell? ⟨b, 0, none⟩ = some u) (v : Value) : (w.setCell ⟨b, 0, none⟩ v).cell? ⟨b, 0, none⟩ = some v := World.cell?_setCell_same _ _ _ h
theorem shl_k (a : Option Addr) (n c x : Nat) (d : Int) (k : Nat) (w : World) (hd : d = (k : Int)) (hx : IsNat w (.slice a n c) x) (hn : x < pw 2) (hk : k ≤ 10000) :
    Calls Try.prog 53 #[.agg #[.slice a n c], .int .i64 d] w fun e w' => ∃ s', e = .returned (.agg #[s']) ∧ IsNat w' s' (x * 2 ^ k) ∧ Below w.heap.size w w' := by
  subst hd
  exact refShl_any a n c x k w hx (Nat.le_trans (hx.short hn) (by omega)) hk
theorem add_k (a b : Option Addr) (n c m d x y : Nat) (w : World) (hx : IsNat w (.slice a n c) x) (hy : IsNat w (.slice b m d) y) (h1 : x < pw 300) (h2 : y < pw 300) :
    Calls Try.prog 56 #[.agg #[.slice a n c], .agg #[.slice b m d]] w fun e w' => ∃ s', e = .returned (.agg #[s']) ∧ IsNat w' s' (x + y) ∧ Below w.heap.size w w' :=
  refAdd_any a b n c m d x y w hx hy (Nat.le_trans (hx.short h1) (by omega)) (Nat.le_trans (hy.short h2) (by omega))
theorem sub_k (a b : Option Addr) (n c m d x y : Nat) (w : World) (hx : IsNat w (.slice a n c) x) (hy : IsNat w (.slice b m d) y) (h1 : x < pw 300) (h2 : y ≤ x) :
    Calls Try.prog 58 #[.agg #[.slice a n c], .agg #[.slice b m d]] w fun e w' => ∃ s', e = .returned (.agg #[s']) ∧ IsNat w' s' (x - y) ∧ Below w.heap.size w w' :=
  refSub_any a b n c m d x y w hx hy (Nat.le_trans (hx.short h1) (by omega)) h2

/-- The sum's variables: both operands, both numbers. -/
structure ESt (W : World) (b1 b2 : Nat) (n1 n2 : Bool) (K1 X1 S1 K2 X2 S2 : Int) (s1 s2 : Value) (x y : Nat) (w : World) : Prop where
  a1 : At4 W.heap.size (.bool n1) (.int .i64 K1) (.int .i64 X1) (.int .u64 S1) w
  a2 : At4 (W.heap.size + 1) (.bool n2) (.int .i64 K2) (.int .i64 X2) (.int .u64 S2) w
  c1 : w.cell? ⟨b1, 0, none⟩ = some s1
  c2 : w.cell? ⟨b2, 0, none⟩ = some s2
  m1 : IsNat w s1 x
  m2 : IsNat w s2 y
  bel : Below W.heap.size W w
theorem ESt.below {W : World} {b1 b2 : Nat} {n1 n2 : Bool} {K1 X1 S1 K2 X2 S2 : Int} {s1 s2 : Value} {x y : Nat} {w w' : World} (h : ESt W b1 b2 n1 n2 K1 X1 S1 K2 X2 S2 s1 s2 x y w) (hb : Below w.heap.size w w') : ESt W b1 b2 n1 n2 K1 X1 S1 K2 X2 S2 s1 s2 x y w' :=
  { a1 := h.a1.below hb, a2 := h.a2.below hb, c1 := keep1 hb (lt_of_cell h.c1) h.c1, c2 := keep1 hb (lt_of_cell h.c2) h.c2, m1 := h.m1.below hb, m2 := h.m2.below hb, bel := bthen h.bel hb }

end Go.Proofs.Yticbhdgamblmbaa
