/- Slices of bytes; rows of bytes that are owned; what is appended to them. -/
import Derived.Test.YtphgljhlamjmgaaLbA
import Derived.Test.YtphgljhlamjmgaaUtC
import Derived.BigQuiet
import Derived.Laws.AppendOwn
import Derived.Laws.OwnMore
import Derived.Laws.Bits128
import Derived.Laws.RangeAny
import Derived.Laws.Runes
import Derived.Laws.IdiomStrings
import Derived.Deep.Cut
namespace Go.Proofs.Ytphgljhlamjmgaa
open Go.RowKit

/-- Bytes as values. -/
def bys (xs : List Int) : List Value := xs.map (Value.int .u8)
theorem bys_len (xs : List Int) : (bys xs).length = xs.length := by simp [bys]
theorem bys_app (xs ys : List Int) : bys (xs ++ ys) = bys xs ++ bys ys := by simp [bys]
theorem bys_one (x : Int) : bys [x] = [.int .u8 x] := rfl
theorem bys_at (xs : List Int) (j : Nat) (h : j < xs.length) : (bys xs)[j]? = some (.int .u8 (xs.getD j 0)) := by
  unfold bys
  rw [List.getElem?_map, List.getD_eq_getElem?_getD, List.getElem?_eq_getElem h]
  rfl
theorem bys_cell (xs : List Int) : ∀ u ∈ bys xs, u.oneCell' = true := by
  intro u hu
  obtain ⟨x, -, rfl⟩ := List.mem_map.1 hu
  rfl
/-- A slice that is owned from block B on, and holds these bytes. -/
def Ow (w : World) (B : Nat) (v : Value) (xs : List Int) : Prop := w.ownsRow B 5 1 v xs.length (bys xs)
theorem iU8 : Try.prog.info? 5 = some ((Try.prog.info? 5).getD default) := by kernel_rfl
theorem ow_nil (w : World) (B : Nat) : Ow w B (.slice none 0 0) [] := World.ownsRow_nil _ _ _ _
theorem Ow.below {w w' : World} {B : Nat} {v : Value} {xs : List Int} (h : Ow w B v xs) (hb : Below w.heap.size w w') : Ow w' B v xs := by
  refine ⟨h.1, ?_⟩
  rcases h.2 with hn | ⟨g, cap, cur, rfl, hg, hgg, rest⟩
  · exact .inl hn
  · exact .inr ⟨g, cap, cur, rfl, hg, by rw [hb.block g (Array.getElem?_eq_some_iff.1 hgg).1]; exact hgg, rest⟩
theorem Ow.alloc {w : World} {B : Nat} {v : Value} {xs : List Int} (h : Ow w B v xs) (o : Obj) : Ow (w.alloc o) B v xs := World.ownsRow.alloc h o
theorem Ow.mono {w : World} {B B' : Nat} {v : Value} {xs : List Int} (h : Ow w B v xs) (hb : B' ≤ B) : Ow w B' v xs := by
  refine ⟨h.1, ?_⟩
  rcases h.2 with hn | ⟨g, cap, cur, rfl, hg, rest⟩
  · exact .inl hn
  · exact .inr ⟨g, cap, cur, rfl, Nat.le_trans hb hg, rest⟩
/-- It is a slice of so many. -/
theorem Ow.form {w : World} {B : Nat} {v : Value} {xs : List Int} (h : Ow w B v xs) (hn : xs ≠ []) : ∃ g cap, v = .slice (some ⟨g, 0, none⟩) xs.length cap ∧ B ≤ g ∧ g < w.heap.size ∧ xs.length ≤ cap ∧ ∀ j, j < xs.length → w.cell? ⟨g, j, none⟩ = some (.int .u8 (xs.getD j 0)) := by
  obtain ⟨h1, h2⟩ := h
  rcases h2 with ⟨_, h3⟩ | ⟨g, cap, cur, h2, h3, h4, h5, h6, h7, h8⟩
  · exact absurd (List.eq_nil_of_length_eq_zero h3) hn
  · refine ⟨g, cap, h2, h3, ?_, h5, fun j hj => ?_⟩
    · rw [Array.getElem?_eq_some_iff] at h4; exact h4.1
    · rw [← bys_at xs j hj]
      exact World.ownsRow.cellAt (w := w) (base := B) (e := 5) (size := 1) (g := g) (n := xs.length) (cap := cap) (xs := bys xs) ⟨h1, Or.inr ⟨g, cap, cur, rfl, h3, h4, h5, h6, h7, h8⟩⟩ j (by omega)
theorem Ow.sl {w : World} {B g cap : Nat} {xs : List Int} (h : Ow w B (.slice (some ⟨g, 0, none⟩) xs.length cap) xs) (hn : xs ≠ []) (hl : xs.length ≤ 140737488355328) : Sl w (some ⟨g, 0, none⟩) xs.length cap xs := by
  obtain ⟨g', cap', he, _, _, h4, h5⟩ := h.form hn
  injection he with e1 _ e3
  injection e1 with e1
  injection e1 with e1
  subst e1
  subst e3
  exact ⟨rfl, h4, hl, Or.inr ⟨g, 0, rfl, fun j hj => by rw [Nat.zero_add]; exact h5 j hj⟩⟩
theorem base_le {B : Nat} {w : World} (h : B ≤ w.heap.size) (o : Obj) : B ≤ (w.alloc o).heap.size := by simp; omega
/-- A byte more in an owned row. -/
theorem app_one {wq w1 W0 : World} {B : Nat} {v v' : Value} {xs : List Int} {d d' : Int} {o : Obj} (hO : Ow wq B v xs) (hB : Below B W0 wq) (hL : B ≤ wq.heap.size)
    (hown : w1.ownsRow B 5 1 v' (xs.length + 1) (bys xs ++ [.int .u8 d])) (hgr : (wq.alloc o).grownBy w1 v.ownBlock) (hd : d = d') : Ow w1 B v' (xs ++ [d']) ∧ Below B W0 w1 := by
  subst hd
  constructor
  · unfold Ow
    rw [bys_app, bys_one, List.length_append, List.length_singleton]
    exact hown
  · exact (hB.alloc hL o).grown hgr (base_le hL o) (fun k hk => (World.ownsRow.lt hO k hk).1)
/-- A row more behind an owned one. -/
theorem app_row {wq w1 W0 : World} {B : Nat} {v v' : Value} {xs ys : List Int} (hO : Ow wq B v xs) (hB : Below B W0 wq) (hL : B ≤ wq.heap.size)
    (hown : w1.ownsRow B 5 1 v' (xs.length + ys.length) (bys xs ++ bys ys)) (hgr : wq.grownBy w1 v.ownBlock) : Ow w1 B v' (xs ++ ys) ∧ Below B W0 w1 := by
  constructor
  · unfold Ow
    rw [bys_app, List.length_append]
    exact hown
  · exact hB.grown hgr hL (fun k hk => (World.ownsRow.lt hO k hk).1)
theorem cell_lit {w : World} {B : Nat} {cs : Array Value} (t : TypeId) (j : Nat) (u : Value) (h : cs[j]? = some u) (hb : B = w.heap.size) : (w.alloc (.cells cs t)).cell? ((⟨B, 0, none⟩ : Addr).add j) = some u := by
  subst hb
  rw [Addr.add_lit]
  have := cell_of_row (w.alloc (.cells cs t)) w.heap.size j cs t (0, 0) (heap_alloc_new w _)
  rw [Nat.zero_add, this, h]
theorem len_app {A : Type} {l xs ys : List A} {k : Nat} (h : l.length ≤ k) (e : l = xs ++ ys) : xs.length ≤ k := by rw [e, List.length_append] at h; omega
theorem form_one {w : World} {B : Nat} {v : Value} {xs : List Int} (h : Ow w B v xs) (hn : xs ≠ []) : ∃ g cap, v = .slice (some ⟨g, 0, none⟩) xs.length cap := by
  obtain ⟨g, cap, h, _⟩ := h.form hn
  exact ⟨g, cap, h⟩
/-- What holds behind every operation may be more. -/
theorem wpAnyH_more {P : Program} {ops : Array Oper} {Q : Exit → Act → World → Prop} {md : Region.Mode} {S S' : World → Prop} (h : ∀ w, S' w → S w) :
    ∀ (fuel : Nat) (listed : Array Bool) (a : Act) (w : World), wpAnyH P md ops Q S' fuel listed a w → wpAnyH P md ops Q S fuel listed a w
  | 0, _, _, _, k => k
  | fuel + 1, _, _, _, k => ⟨k.1, fun i hi => wpOp_mono (fun a' w' k' => ⟨h w' k'.1, wpAnyH_more h fuel _ a' w' k'.2⟩) (k.2 i hi)⟩
theorem conv_run {w : World} {a : Option Addr} {len cap : Nat} {xs : List Int} (h : Sl w a len cap xs) : (convert 22 9 (.slice a len cap)).run Try.prog w = .ok (.string (strOfNums xs)) w := by
  obtain ⟨h1, _, _, h4⟩ := h
  rcases h4 with ⟨rfl, rfl, rfl⟩ | ⟨b, off, rfl, h4⟩
  · have : xs = [] := List.eq_nil_of_length_eq_zero h1
    subst this
    exact run_convert_bytes_nil w 22 5 Try.underlying22 Try.underlying5 0 0 9 Try.underlying9
  · exact run_convert_bytes_arg w 22 5 Try.underlying22 Try.underlying5 b off len cap xs h1 h4 9 Try.underlying9
theorem sl_lit (w : World) (xs : List Int) (n : Nat) (h : xs.length = n) (hn : n ≤ 1000) : Sl (w.alloc (.cells (bys xs).toArray 5)) (some ⟨w.heap.size, 0, none⟩) n n xs := by
  refine ⟨h, Nat.le_refl _, by omega, Or.inr ⟨w.heap.size, 0, rfl, fun j hj => ?_⟩⟩
  rw [Nat.zero_add, cell_of_row _ _ _ _ _ _ (heap_alloc_new w _)]
  rw [List.getElem?_toArray, bys_at xs j (by omega)]
end Go.Proofs.Ytphgljhlamjmgaa
