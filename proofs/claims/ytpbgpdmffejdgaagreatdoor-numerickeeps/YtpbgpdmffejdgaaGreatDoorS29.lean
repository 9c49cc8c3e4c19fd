/- ExA, NuK. -/
import Derived.Test.YtpbgpdmffejdgaaGreatDoorS01
import Derived.Test.YtpbgpdmffejdgaaGreatDoorS16
import Derived.Test.YtpbgpdmffejdgaaGreatDoorS24
import Derived.Test.YtpbgpdmffejdgaaGreatDoorS25
namespace Go.Proofs.YtpbgpdmffejdgaaGreatDoor
open Go.RowKit
open Go.Proofs.YtpbgpdmffejdgaaGreatDoor.W

theorem stable_and {P Q : World → Prop} (h : Stable P) (k : Stable Q) : Stable (fun w => P w ∧ Q w) := fun _ _ hw hb => ⟨h _ _ hw.1 hb, k _ _ hw.2 hb⟩
theorem stable_nat (s : Value) (x : Nat) : Stable (fun w => IsNat w s x) := fun _ _ h k => h.below k
theorem fresh1 {N b : Nat} {v : Value} {w : World} (h : Fresh N #[v] b w) : w.cell? ⟨b, 0, none⟩ = some v ∧ w.frozen? ⟨b, 0, none⟩ = false := ⟨h.cell 0 _ rfl, h.thawed 0⟩
theorem set_same1 {b : Nat} {w : World} {u : Value} (h : w.cell? ⟨b, 0, none⟩ = some u) (v : Value) : (w.setCell ⟨b, 0, none⟩ v).cell? ⟨b, 0, none⟩ = some v := World.cell?_setCell_same _ _ _ h
theorem shl_k (a : Option Addr) (n c x : Nat) (d : Int) (k : Nat) (w : World) (hd : d = (k : Int)) (hx : IsNat w (.slice a n c) x) (hn : x < pw 2) (hk : k ≤ 10000) :
    Calls Tryz.prog 59 #[.agg #[.slice a n c], .int .i64 d] w fun e w' => ∃ s', e = .returned (.agg #[s']) ∧ IsNat w' s' (x * 2 ^ k) ∧ Below w.heap.size w w' := by
  subst hd
  exact refShl_any a n c x k w hx (Nat.le_trans (hx.short hn) (by omega)) hk
theorem add_k (a b : Option Addr) (n c m d x y : Nat) (w : World) (hx : IsNat w (.slice a n c) x) (hy : IsNat w (.slice b m d) y) (h1 : x < pw 300) (h2 : y < pw 300) :
    Calls Tryz.prog 118 #[.agg #[.slice a n c], .agg #[.slice b m d]] w fun e w' => ∃ s', e = .returned (.agg #[s']) ∧ IsNat w' s' (x + y) ∧ Below w.heap.size w w' :=
  refAdd_any a b n c m d x y w hx hy (Nat.le_trans (hx.short h1) (by omega)) (Nat.le_trans (hy.short h2) (by omega))
theorem sub_k (a b : Option Addr) (n c m d x y : Nat) (w : World) (hx : IsNat w (.slice a n c) x) (hy : IsNat w (.slice b m d) y) (h1 : x < pw 300) (h2 : y ≤ x) :
    Calls Tryz.prog 119 #[.agg #[.slice a n c], .agg #[.slice b m d]] w fun e w' => ∃ s', e = .returned (.agg #[s']) ∧ IsNat w' s' (x - y) ∧ Below w.heap.size w w' :=
  refSub_any a b n c m d x y w hx hy (Nat.le_trans (hx.short h1) (by omega)) h2

/-- The sum's variables: both operands, both numbers. -/
structure ESt (W : World) (b1 b2 : Nat) (n1 n2 : Bool) (K1 X1 S1 K2 X2 S2 : Int) (s1 s2 : Value) (x y : Nat) (w : World) : Prop where
  a1 : At4 W.heap.size (.bool n1) (.int .i64 K1) (.int .i64 X1) (.int .u64 S1) w
  a2 : At4 (W.heap.size + 1) (.bool n2) (.int .i64 K2) (.int .i64 X2) (.int .u64 S2) w
  c1 : w.cell? ⟨b1, 0, none⟩ = some s1
  c2 : w.cell? ⟨b2, 0, none⟩ = some s2
  m1 : IsNat w s1 x
  m2 : IsNat w s2 y
  bel : Below W.heap.size W w
theorem ESt.below {W : World} {b1 b2 : Nat} {n1 n2 : Bool} {K1 X1 S1 K2 X2 S2 : Int} {s1 s2 : Value} {x y : Nat} {w w' : World} (h : ESt W b1 b2 n1 n2 K1 X1 S1 K2 X2 S2 s1 s2 x y w) (hb : Below w.heap.size w w') : ESt W b1 b2 n1 n2 K1 X1 S1 K2 X2 S2 s1 s2 x y w' :=
  { a1 := h.a1.below hb, a2 := h.a2.below hb, c1 := keep1 hb (lt_of_cell h.c1) h.c1, c2 := keep1 hb (lt_of_cell h.c2) h.c2, m1 := h.m1.below hb, m2 := h.m2.below hb, bel := bthen h.bel hb }

end Go.Proofs.YtpbgpdmffejdgaaGreatDoor
namespace Go.Proofs.YtpbgpdmffejdgaaGreatDoor
open Go.RowKit

/-- How many operands there are. -/
def opn (d k : Int) : Int := if d = 0 then (if k ≤ 0 then 1 else 2) else if d = 2 then (if k ≤ 2 then 1 else 2) else if d = 3 then (if k ≤ 6 then 1 else 2) else if d = 1 then 2 else 1
set_option maxHeartbeats 4000000 in
set_option maxRecDepth 100000 in
theorem opn_w {f n d o k : Int} (h : d = 0 ∨ d = 1 ∨ d = 2 ∨ d = 3 ∨ d = 4 ∨ d = 5) : Ct 26 #[.agg #[.int .i64 f, .int .i64 n, .int .i64 d, .int .u8 o], .int .i64 k] (.int .i64 (opn d k)) := by
  refine hide (fun W => ?_)
  have HO := fun l a => one_l l a
  rcases h with rfl | rfl | rfl | rfl | rfl | rfl
  all_goals
    go_enter Tryz.func26, Tryz.ntmps26
    go_wp2_with fail
    try
      refine (unhide (HO _ _) _).mono ?_
      rintro _ w1 ⟨rfl, hb⟩
      have HB := hide (bthen (below1 _ _) hb)
      clear hb
      go_wp2_with fail
    all_goals
      go_ret
      first | exact ⟨by rfl, below1 _ _⟩ | exact ⟨by first | rfl | (unfold opn; simp <;> omega), unhide HB⟩
set_option maxHeartbeats 4000000 in
set_option maxRecDepth 100000 in
theorem kind_w {op f n d o k ti tu c : Int} (HF : Cm 24 #[.int .i64 op] (.tuple #[.agg #[.int .i64 f, .int .i64 n, .int .i64 d, .int .u8 o], .int .i64 k, .bool true])) (HT : Cm 25 #[.agg #[.int .i64 f, .int .i64 n, .int .i64 d, .int .u8 o], .int .i64 k] (.agg #[.int .u8 ti, .int .u8 tu])) (HO : Ct 26 #[.agg #[.int .i64 f, .int .i64 n, .int .i64 d, .int .u8 o], .int .i64 k] (.int .i64 c)) :
    Cm 10 #[.int .i64 op] (.tuple #[.int .u8 ti, .int .i64 c, .int .u8 tu, .bool true]) := by
  refine hide (fun W m => ?_)
  have HM := hide m
  clear m
  have HB := hide (Below.refl W.heap.size W)
  go_enter Tryz.func10, Tryz.ntmps10
  go_wp2_with fail
  refine (unhide HF _ (unhide HM)).mono ?_
  rintro _ w1 ⟨rfl, hb⟩
  have HB := hide (bthen (unhide HB) hb)
  have HM := hide ((unhide HM).below hb)
  clear hb
  have HB := hide (balloc (unhide HB) (.cells #[.int .i64 f, .int .i64 n, .int .i64 d, .int .u8 o] 55))
  have HG := hide (at4_new w1 (.int .i64 f) (.int .i64 n) (.int .i64 d) (.int .u8 o) 55)
  have HM := hide ((unhide HM).below (below1 w1 (.cells #[.int .i64 f, .int .i64 n, .int .i64 d, .int .u8 o] 55)))
  go_wp2_with fail
  refine (unhide HT _ (unhide HM)).mono ?_
  rintro _ w2 ⟨rfl, hb⟩
  have HB := hide (bthen (unhide HB) hb)
  have HM := hide ((unhide HM).below hb)
  have HG := hide ((unhide HG).below hb)
  clear hb
  have HB := hide (balloc (unhide HB) (.cells #[.int .u8 ti, .int .u8 tu] 59)).drew
  have HG := hide ((unhide HG).below (below1 w2 (.cells #[.int .u8 ti, .int .u8 tu] 59)).drew)
  have HM := hide ((unhide HM).below (below1 w2 (.cells #[.int .u8 ti, .int .u8 tu] 59)).drew)
  have H2 := hide ((at2_new w2 (.int .u8 ti) (.int .u8 tu) 59).below ((Below.refl _ _).drew))
  have HS := hide (And.intro (unhide H2) (unhide HG))
  go_wp2_with fail
  refine wp_region_held_drew (S := fun w' => (w'.cell? ⟨w2.heap.size, 0, none⟩ = some (.int .u8 ti) ∧ w'.cell? ⟨w2.heap.size, 1, none⟩ = some (.int .u8 tu)) ∧ (w'.cell? ⟨w1.heap.size, 0, none⟩ = some (.int .i64 f) ∧ w'.cell? ⟨w1.heap.size, 1, none⟩ = some (.int .i64 n) ∧ w'.cell? ⟨w1.heap.size, 2, none⟩ = some (.int .i64 d) ∧ w'.cell? ⟨w1.heap.size, 3, none⟩ = some (.int .u8 o))) (by kernel_rfl) ?_ (fun hHeld => ?_)
  · (try dsimp only)
    exact unhide HS
  refine lst0 11 (by kernel_rfl) ?_
  refine tkA 0 20 1 ?_
  refine tkA 1 21 3 ?_
  refine tkA 2 22 7 ?_
  refine tkA 3 23 15 ?_
  refine tkA 5 25 47 ?_
  refine tkA 6 26 111 ?_
  refine rdA 4 127 (fun Kk hKk => ?_)
  go_simp
  refine (unhide HO _).mono ?_
  rintro _ w3 ⟨rfl, hb⟩
  have HB := hide (bthen (unhide HB) hb)
  have HM := hide ((unhide HM).below hb)
  have HG := hide ((unhide HG).below hb)
  have H2 := hide ((unhide H2).below hb)
  clear hb
  have HS := hide (And.intro (unhide H2) (unhide HG))
  (try go_wp2_with fail)
  refine hKk.out _ _ ?_ (fun hHeld => ?_)
  · (try dsimp only)
    exact unhide HS
  clear hKk Kk
  (try simp only [List.setIfInBounds_toArray, List.set_cons_zero, List.set_cons_succ])
  refine tkA 7 2 255 ?_
  refine tkA 8 3 511 ?_
  refine tkA 9 4 1023 ?_
  refine tkA 10 5 2047 ?_
  refine wpAnyH_done (by kernel_rfl) ?_ _
  clear hHeld H2
  go_wp2_with fail
  exact bodyPost_ret (v := .tuple #[.int .u8 ti, .int .i64 c, .int .u8 tu, .bool true]) (by simp [results, Tryz.results10, go_sem]) rfl ⟨rfl, unhide HB⟩
set_option maxHeartbeats 4000000 in
set_option maxRecDepth 100000 in
theorem kind_no {op : Int} (HF : Cm 24 #[.int .i64 op] (.tuple #[.agg #[.int .i64 0, .int .i64 0, .int .i64 0, .int .u8 0], .int .i64 0, .bool false])) : Cm 10 #[.int .i64 op] (.tuple #[.int .u8 0, .int .i64 0, .int .u8 0, .bool false]) := by
  refine hide (fun W m => ?_)
  have HM := hide m
  clear m
  have HB := hide (Below.refl W.heap.size W)
  go_enter Tryz.func10, Tryz.ntmps10
  go_wp2_with fail
  refine (unhide HF _ (unhide HM)).mono ?_
  rintro _ w1 ⟨rfl, hb⟩
  have HB := hide (bthen (unhide HB) hb)
  have HM := hide ((unhide HM).below hb)
  clear hb
  have HB := hide (balloc (unhide HB) (.cells #[.int .i64 0, .int .i64 0, .int .i64 0, .int .u8 0] 55))
  go_wp2_with fail
  exact bodyPost_ret (v := .tuple #[.int .u8 0, .int .i64 0, .int .u8 0, .bool false]) (by simp [results, Tryz.results10, go_sem]) rfl ⟨rfl, unhide HB⟩
set_option maxHeartbeats 4000000 in
set_option maxRecDepth 100000 in
theorem sat_w {op f n d o k : Int} (HF : Cm 24 #[.int .i64 op] (.tuple #[.agg #[.int .i64 f, .int .i64 n, .int .i64 d, .int .u8 o], .int .i64 k, .bool true])) : Cm 12 #[.int .i64 op] (.bool (d == 5)) := by
  refine hide (fun W m => ?_)
  have HM := hide m
  clear m
  have HB := hide (Below.refl W.heap.size W)
  go_enter Tryz.func12, Tryz.ntmps12
  go_wp2_with fail
  refine (unhide HF _ (unhide HM)).mono ?_
  rintro _ w1 ⟨rfl, hb⟩
  have HB := hide (bthen (unhide HB) hb)
  have HM := hide ((unhide HM).below hb)
  clear hb
  have HB := hide (balloc (unhide HB) (.cells #[.int .i64 f, .int .i64 n, .int .i64 d, .int .u8 o] 55))
  go_wp2_with fail
  go_ret
  exact ⟨rfl, unhide HB⟩
end Go.Proofs.YtpbgpdmffejdgaaGreatDoor
