/- OpcodeFinds of anything. -/
import Derived.Test.YtkpdanjfdcoldaaLawF
namespace Go.Proofs.Ytkpdanjfdcoldaa
open Go.RowKit

attribute [local irreducible] nm byN tab
theorem finds_any (s : ByteArray) (op : Int) (W : World) : Calls Try.prog 3 #[.string s, .int .i64 op] W fun e W' => e = .returned (.bool true) ∧ Below W.heap.size W W' := by
  by_cases h : 100 < s.size
  · exact finds_long s op h W
  have hB : ∀ (z : ByteArray) (W : World), Calls Try.prog 5 #[.string z] W fun e W' => e = .returned (.tuple #[.int .i64 ((byN z.data.toList).getD 0), .bool (byN z.data.toList).isSome]) ∧ Below W.heap.size W W' := fun z W => by
    have := by_any z.data.toList W
    rwa [bs_data] at this
  have hR : ∀ W, Calls Try.prog 6 #[.string s] W fun e W' => e = .returned (.int .i64 ((byN s.data.toList).getD (-1))) ∧ Below W.heap.size W W' := fun W => by
    have := rby_s (fun k => nm (k : Int)) (hide fun _ => rfl) (hide fun k W => unhide (rname_any (k : Int)) W) s.data.toList W
    rw [bs_data] at this
    refine this.mono ?_
    rintro e W' ⟨⟨r, rfl, hr⟩, hb⟩
    refine ⟨?_, hb⟩
    rcases hr.byN with ⟨-, h2⟩ | ⟨h1, h2⟩
    · rw [h2]; rfl
    · rw [h2, h1]; rfl
  refine finds_s s op _ _ _ _ _ (bs (nm op)) (by omega) (hide (hB s)) (hide hR) ?_ (name_any op) (hide (hB _)) ?_ W
  · cases hq : byN s.data.toList with
    | none => exact .inr ⟨rfl, rfl, rfl⟩
    | some q => exact .inl ⟨nm_pos (nm_by hq), rfl, rfl⟩
  · by_cases hn : nm op = []
    · exact .inl (by simp [hn, bs, Lib.toList_data])
    · refine .inr ⟨by simp [hn, bs, Lib.toList_data], ?_, ?_⟩
      · simp [bs, by_nm hn]
      · simp [bs, by_nm hn]

end Go.Proofs.Ytkpdanjfdcoldaa
