/- By of anything. -/
import Derived.Test.YtkpdanjfdcoldaaOpI
namespace Go.Proofs.Ytkpdanjfdcoldaa
open Go.RowKit

theorem find_flat {α : Type} (g : Nat → List α) (p : α → Bool) (k : Nat) (a r : List α) (y : α) (h : ∀ j, j < k → ∀ z ∈ g j, p z = false) (hg : g k = a ++ y :: r) (ha : ∀ z ∈ a, p z = false) (hy : p y = true) :
    ∀ n, k < n → ((List.range n).flatMap g).find? p = some y
  | 0, hk => absurd hk (by omega)
  | n + 1, hk => by
    rw [List.range_succ, List.flatMap_append, List.find?_append]
    by_cases hkn : k < n
    · rw [find_flat g p k a r y h hg ha hy n hkn]; rfl
    · obtain rfl : k = n := by omega
      have h0 : ((List.range k).flatMap g).find? p = none := List.find?_eq_none.2 fun z hz => by
        obtain ⟨j, hj, hz⟩ := List.mem_flatMap.1 hz
        simp [h j (List.mem_range.1 hj) z hz]
      have h1 : a.find? p = none := List.find?_eq_none.2 fun z hz => by simp [ha z hz]
      simp [h0, hg, List.find?_append, h1, hy]
theorem by_any (s : List UInt8) (W : World) : Calls Try.prog 5 #[.string (bs s)] W fun e W' => e = .returned (.tuple #[.int .i64 ((byN s).getD 0), .bool (byN s).isSome]) ∧ Below W.heap.size W W' := by
  refine (by_s _ (hide (ix_any tx)) (hide (runs_s tx runsF_fn)) (hide ok_at) s W).mono ?_
  rintro e W' ⟨⟨x, t, rfl, h⟩, hb⟩
  refine ⟨?_, hb⟩
  rcases h with ⟨rfl, rfl, h⟩ | ⟨rfl, k, p, r, hk, h1, h2, h3⟩
  · have : tab.find? (fun p => p.2 == s) = none := List.find?_eq_none.2 fun z hz => by
      obtain ⟨j, hj, hz⟩ := List.mem_flatMap.1 hz
      simpa using h j (List.mem_range.1 hj) z hz
    simp [byN, this]
  · have : tab.find? (fun p => p.2 == s) = some (x, s) := find_flat (fun k => prs (fs k) (ws k)) _ k p r (x, s) (fun j hj z hz => by simpa using h1 j hj z hz) h2 (fun z hz => by simpa using h3 z hz) (by simp) 18 hk
    simp [byN, this]

end Go.Proofs.Ytkpdanjfdcoldaa
