/- CdQ. -/
import Derived.Test.YtalahdkgigcpfaaDoorC27
import Derived.Test.YtalahdkgigcpfaaDoorC28
import Derived.Test.YtalahdkgigcpfaaDoorC29
import Derived.Test.YtalahdkgigcpfaaDoorC34
import Derived.Test.YtalahdkgigcpfaaDoorC36
namespace Go.Proofs.YtalahdkgigcpfaaDoor
open Go.RowKit

/-- The document's reader's memory. -/
structure Rq (c rb : Nat) (a : Option Addr) (len cap : Nat) (xs : List Int) (sat : Bool) (k : Nat) (e : Int) (w : World) : Prop where
  cur : Cs c a len cap xs k e w
  rdr : At2 rb (.pointer (some ⟨c, 0, none⟩)) (.bool sat) w
  var : Mk w
  ne : rb ≠ c
  c3 : 3 ≤ c
  r3 : 3 ≤ rb
  far : ∀ p, a = some p → 0 < len → p.block ≠ rb
section
variable {c rb : Nat} {a : Option Addr} {len cap : Nat} {xs : List Int} {sat : Bool} {k : Nat} {e : Int} {w w' : World}
theorem Rq.old (h : Rq c rb a len cap xs sat k e w) {N : Nat} (hN : w.heap.size ≤ N) : Old N c rb a len :=
  have hc := h.cur.1.lt
  have hr := World.block_lt_of_cell? w _ h.rdr.1
  ⟨by have := h.c3; omega, by omega, by simp only at hr; omega, fun p hp hl => Nat.lt_of_lt_of_le (h.cur.2.1.lt p hp hl) hN⟩
theorem Rq.fr {l : List Nat} {N : Nat} (h : Rq c rb a len cap xs sat k e w) (hf : Fr l w w') (ho : Old N c rb a len) (hl : ∀ i ∈ l, N ≤ i) : Rq c rb a len cap xs sat k e w' :=
  ⟨h.cur.fr hf (fun hm => by have := hl c hm; have := ho.c; omega) (fun p hp hn hm => by have := hl _ hm; have := ho.b p hp hn; omega),
   h.rdr.fr hf (fun hm => by have := hl rb hm; have := ho.r; omega),
   h.var.fr hf (fun i hi => by have := hl i hi; have := ho.n3; omega), h.ne, h.c3, h.r3, h.far⟩
theorem Rq.bel (h : Rq c rb a len cap xs sat k e w) (hf : Below w.heap.size w w') : Rq c rb a len cap xs sat k e w' :=
  h.fr (Fr.of hf []) (h.old (Nat.le_refl _)) (by simp)
theorem Rq.step {k' : Nat} {e' : Int} (h : Rq c rb a len cap xs sat k e w) (hf : Fr [c] w w') (hc : Cs c a len cap xs k' e' w') : Rq c rb a len cap xs sat k' e' w' :=
  ⟨hc, h.rdr.fr hf (by simpa using h.ne), h.var.fr hf (by simpa using h.c3), h.ne, h.c3, h.r3, h.far⟩
theorem Rq.byt (h : Rq c rb a len cap xs sat k e w) : Byt xs := h.cur.2.2.2.1
end
end Go.Proofs.YtalahdkgigcpfaaDoor
