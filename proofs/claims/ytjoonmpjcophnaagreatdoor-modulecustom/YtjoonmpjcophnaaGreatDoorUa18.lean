/- UtE. -/
import Derived.Test.YtjoonmpjcophnaaGreatDoorUa17
namespace Go.Proofs.YtjoonmpjcophnaaGreatDoor
open Go.RowKit

theorem conv_at {w : World} {b off len cap : Nat} {xs : List Int} (h1 : xs.length = len) (h2 : ∀ j, j < len → w.cell? ⟨b, off + j, none⟩ = some (.int .u8 (xs.getD j 0))) : (convert 22 9 (.slice (some ⟨b, off, none⟩) len cap)).run Tryz.prog w = .ok (.string (strOfNums xs)) w :=
  run_convert_bytes_arg w 22 5 Tryz.underlying22 Tryz.underlying5 b off len cap xs h1 h2 9 Tryz.underlying9
/-- What Count answers. -/
def cnT (o : Option Nat) : Value := .tuple #[.int .i64 ((o.getD 0 : Nat) : Int), .bool o.isSome]
theorem map_two (o : Option Nat) (n : Nat) : (o.map (· + 1)).map (· + n) = o.map (· + (n + 1)) := by
  cases o with
  | none => rfl
  | some m => show some (m + 1 + n) = some (m + (n + 1)); congr 1; omega
set_option maxHeartbeats 1000000 in
set_option maxRecDepth 100000 in
theorem count_w {a : Option Addr} {len cap : Nat} {xs : List Int} {W : World} (HX : Hid (Byt xs)) (HL : Hid (xs.length = len)) (hl : len ≤ 140737488355328)
    (hcv : (convert 22 9 (.slice a len cap)).run Tryz.prog W = .ok (.string (strOfNums xs)) W) :
    Calls Tryz.prog 155 #[.slice a len cap] W fun r W' => r = .returned (cnT (cnt xs)) ∧ Below W.heap.size W W' := by
  have HT : Hid (∃ T, cnt xs = T) := hide ⟨_, rfl⟩
  obtain ⟨T, hT⟩ := unhide HT
  rw [hT]
  have HT := hide hT
  clear hT
  have HSZ : Hid ((strOfNums xs).size = len) := hide (by rw [strOfNums_size]; exact unhide HL)
  have HD := hide (decode_str xs (unhide HX))
  generalize strOfNums xs = s at *
  go_enter Tryz.func155, Tryz.ntmps155
  go_wp2_with fail
  clear hcv
  go_loopw [2, 4] (fun v2 v4 wr => ∃ pos n p : Nat, wr = W.iter s pos ∧ v2 = .int .i64 (n : Int) ∧ v4 = .int .i64 (p : Int) ∧ pos ≤ len ∧ n ≤ pos ∧ p ≤ pos + 4 ∧ (p = pos ∧ T = (cnt (xs.drop pos)).map (· + n) ∨ p ≠ pos ∧ T = none)) (fun _ _ wr => len - wr.iterPos W.heap.size)
  case atStart => exact ⟨0, 0, 0, rfl, rfl, rfl, by omega, by omega, by omega, Or.inl ⟨rfl, by rw [List.drop_zero, unhide HT]; cases T <;> rfl⟩⟩
  case round =>
    obtain ⟨pos, n, p, rfl, rfl, rfl, hp, hn, hp4, hw⟩ := hrel
    by_cases hlt : pos < len
    · obtain ⟨c, hc⟩ : ∃ c, (dc (xs.drop pos)).1 = c := ⟨_, rfl⟩
      obtain ⟨wd, hwd⟩ : ∃ wd, (dc (xs.drop pos)).2 = wd := ⟨_, rfl⟩
      have hnx : ∀ ty, (Instr.next (.pointer (some ⟨W.heap.size, 0, none⟩)) true ty).run Tryz.prog (W.iter s pos) = .ok (.tuple #[.bool true, .int .i64 (pos : Int), .int .i32 (c : Int)]) (W.iter s (pos + wd)) := fun ty => by
        rw [run_next_any W s pos ty (by rw [unhide HSZ]; exact hlt), unhide HD, hc, hwd]
      have HL' : 1 ≤ (xs.drop pos).length := by rw [List.length_drop, unhide HL]; omega
      have HN : xs.drop pos ≠ [] := fun e => by rw [e] at HL'; simp at HL'
      have HZ := size_at c
      have hsz := sz_le c
      have hle := dc_le (byt_drop (unhide HX) pos) HL'
      have hpo := dc_pos (xs.drop pos)
      rw [hwd, List.length_drop, unhide HL] at hle
      rw [hwd] at hpo
      rcases hw with ⟨rfl, hT⟩ | ⟨hne, rfl⟩
      · have HR : Hid ((sz (c : Int) = wd ∧ T = (cnt (xs.drop (p + wd))).map (· + (n + 1))) ∨ (sz (c : Int) = 3 ∧ wd = 1 ∧ T = none)) := hide (by
          rcases isC_ways (byt_drop (unhide HX) p) HL' with ⟨q1, q2, q3, q4⟩ | ⟨q1, q2⟩
          · rw [hc, hwd] at q2
            rw [cnt_ok HN q1, hwd, List.drop_drop, map_two] at hT
            exact Or.inl ⟨q2, hT⟩
          · rw [cnt_bad HN q1] at hT
            rw [q2] at hc hwd
            refine Or.inr ⟨?_, hwd.symm, hT⟩
            rw [← hc]
            exact bad_sz)
        have HT2 := hide hT
        clear hT hc hwd HL' HN
        obtain ⟨z, hz⟩ : ∃ z, sz (c : Int) = z := ⟨_, rfl⟩
        rw [hz] at HZ HR hsz
        clear hz
        go_wp2_with fail
        refine (unhide HZ _).mono ?_
        rintro _ w1 ⟨rfl, rfl⟩
        go_wp2_with fail
        refine ⟨⟨p + wd, n + 1, p + z, rfl, by go_num, by go_num, by omega, by omega, by omega, ?_⟩, by simp; omega⟩
        rcases unhide HR with ⟨r1, r2⟩ | ⟨r1, r2, r3⟩
        · exact Or.inl ⟨by omega, r2⟩
        · exact Or.inr ⟨by omega, r3⟩
      · clear hc hwd HL' HN
        have hne' : ¬ (pos : Int) = (p : Int) := by omega
        go_wp2_with fail
        exact bodyPost_ret (v := .tuple #[.int .i64 0, .bool false]) (by simp [results, Tryz.results155, go_sem]) rfl ⟨rfl, below1 _ _⟩
    · obtain rfl : pos = len := by omega
      have hnx : ∀ ty, (Instr.next (.pointer (some ⟨W.heap.size, 0, none⟩)) true ty).run Tryz.prog (W.iter s pos) = .ok (.tuple #[.bool false]) (W.iter s pos) := fun ty => run_next_end W s pos ty (by rw [unhide HSZ]; exact hlt)
      rcases hw with ⟨rfl, hT⟩ | ⟨hne, rfl⟩
      · rw [List.drop_of_length_le (by rw [unhide HL]; omega), cnt_nil] at hT
        have HT2 := hide hT
        clear hT
        go_wp2_with fail
        exact bodyPost_ret (v := .tuple #[.int .i64 (n : Int), .bool true]) (by simp [results, Tryz.results155, go_sem]) rfl ⟨by rw [unhide HT2]; show _ = Ending.returned (.tuple #[.int .i64 ((0 + n : Nat) : Int), .bool true]); rw [Nat.zero_add], below1 _ _⟩
      · have hne' : ¬ (p : Int) = (pos : Int) := by omega
        go_wp2_with fail
        exact bodyPost_ret (v := .tuple #[.int .i64 0, .bool false]) (by simp [results, Tryz.results155, go_sem]) rfl ⟨rfl, below1 _ _⟩
theorem count_any {a : Option Addr} {len cap : Nat} {xs : List Int} {W : World} (HX : Byt xs) (HS : Sl W a len cap xs) :
    Calls Tryz.prog 155 #[.slice a len cap] W fun r W' => r = .returned (cnT (cnt xs)) ∧ Below W.heap.size W W' := count_w (hide HX) (hide HS.1) HS.2.2.1 (conv_run HS)
set_option maxHeartbeats 1000000 in
set_option maxRecDepth 100000 in
theorem valid_any {a : Option Addr} {len cap : Nat} {xs : List Int} {W : World} (HX : Byt xs) (HS : Sl W a len cap xs) :
    Calls Tryz.prog 137 #[.slice a len cap] W fun r W' => r = .returned (.bool (cnt xs).isSome) ∧ Below W.heap.size W W' := by
  have HC := hide (count_any HX HS)
  unfold cnT at HC
  go_enter Tryz.func137, Tryz.ntmps137
  go_wp2_with fail
  refine (unhide HC).mono ?_
  rintro _ w1 ⟨rfl, hb⟩
  go_wp2_with fail
  go_ret
  exact ⟨rfl, hb⟩
end Go.Proofs.YtjoonmpjcophnaaGreatDoor
