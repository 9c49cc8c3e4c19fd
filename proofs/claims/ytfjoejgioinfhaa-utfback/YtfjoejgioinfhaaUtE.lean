/- Next of any bytes; the walks of Count and Valid. -/
import Derived.Test.YtfjoejgioinfhaaUtD
namespace Go.Proofs.Ytfjoejgioinfhaa
open Go.RowKit

/-- What Next answers of the bytes from a place on. -/
def nxT (k : Nat) (l : List Int) : Value := if l ≠ [] ∧ isC l = true then .tuple #[.int .i32 ((dc l).1 : Int), .int .i64 ((k + (dc l).2 : Nat) : Int), .bool true] else .tuple #[.int .i32 0, .int .i64 0, .bool false]
theorem nxT_nil (k : Nat) : nxT k [] = .tuple #[.int .i32 0, .int .i64 0, .bool false] := by
  unfold nxT
  rw [if_neg (fun h => h.1 rfl)]
theorem nxT_bad (k : Nat) {l : List Int} (h : isC l = false) : nxT k l = .tuple #[.int .i32 0, .int .i64 0, .bool false] := by
  unfold nxT
  rw [if_neg (fun e => by rw [h] at e; cases e.2)]
theorem str_nil : strOfNums [] = ByteArray.empty := rfl
theorem conv_at {w : World} {b off len cap : Nat} {xs : List Int} (h1 : xs.length = len) (h2 : ∀ j, j < len → w.cell? ⟨b, off + j, none⟩ = some (.int .u8 (xs.getD j 0))) : (convert 22 9 (.slice (some ⟨b, off, none⟩) len cap)).run Try.prog w = .ok (.string (strOfNums xs)) w :=
  run_convert_bytes_arg w 22 5 Try.underlying22 Try.underlying5 b off len cap xs h1 h2 9 Try.underlying9
theorem getD_takeN (xs : List Int) (m j : Nat) (h : j < m) : (xs.take m).getD j 0 = xs.getD j 0 := by
  simp [List.getD, h]
theorem next_any {a : Option Addr} {len cap k : Nat} {xs : List Int} {W : World} (HX : Byt xs) (HS : Sl W a len cap xs) (hk : k ≤ len) :
    Calls Try.prog 8 #[.slice a len cap, .int .i64 (k : Int)] W fun r W' => r = .returned (nxT k (xs.drop k)) ∧ Below W.heap.size W W' := by
  obtain ⟨h1, h2, h3, h4⟩ := HS
  have z1 : ¬ ((0 : Nat) : Int) = ((sz 0 : Nat) : Int) := by decide
  rcases h4 with ⟨rfl, rfl, rfl⟩ | ⟨b, off, rfl, h4⟩
  · obtain rfl : k = 0 := by omega
    have e : xs = [] := List.eq_nil_of_length_eq_zero h1
    subst e
    rw [List.drop_nil, nxT_nil]
    exact next_nil (run_convert_bytes_nil W 22 5 Try.underlying22 Try.underlying5 0 0 9 Try.underlying9) (hide fun W => first_none W) (size_at 0) z1
  · by_cases hc : cap = k
    · obtain rfl : len = k := by omega
      subst hc
      have e : xs.drop cap = [] := List.drop_of_length_le (by omega)
      rw [e, nxT_nil]
      exact next_end (conv_at (xs := []) rfl (fun j hj => by omega)) (hide fun W => first_none W) (size_at 0) z1
    · obtain ⟨m, hm⟩ : ∃ m, len - k ≤ 4 ∧ m = len - k ∨ 4 < len - k ∧ m = 4 := by
        by_cases h : len - k ≤ 4
        · exact ⟨_, Or.inl ⟨h, rfl⟩⟩
        · exact ⟨_, Or.inr ⟨by omega, rfl⟩⟩
      have hcv := conv_at (w := W) (b := b) (off := off + k) (len := m) (cap := cap - k) (xs := (xs.drop k).take 4) (by rw [List.length_take, List.length_drop]; omega)
        (fun j hj => by rw [getD_takeN _ _ _ (by omega), getD_drop, Nat.add_assoc]; exact h4 (k + j) (by omega))
      have hb := byt_drop HX k
      have hb4 := byt_take hb 4
      have hl : (xs.drop k).length = len - k := by rw [List.length_drop, h1]
      by_cases hn : len = k
      · have e : xs.drop k = [] := List.drop_of_length_le (by omega)
        rw [e] at hcv ⊢
        rw [nxT_nil]
        exact next_bad hk h2 hc h3 hm hcv (hide fun W => first_none W) (size_at 0) z1
      · have h0 : 1 ≤ (xs.drop k).length := by omega
        have hs : (strOfNums ((xs.drop k).take 4)).size = m := by rw [strOfNums_size, List.length_take, hl]; omega
        have hd : Utf8.decode (strOfNums ((xs.drop k).take 4)) 0 = ((dc (xs.drop k)).1, (dc (xs.drop k)).2) := by rw [decode_str _ hb4, List.drop_zero, dc_take]
        have p1 := dc_pos (xs.drop k)
        have p2 := dc_le hb4 (by rw [List.length_take]; omega)
        rw [dc_take, List.length_take] at p2
        have F := fun W => first_some (W := W) hd hs (by omega) (by omega) (by omega)
        rcases isC_ways hb h0 with ⟨q1, q2, q3, q4⟩ | ⟨q1, q2⟩
        · have e : nxT k (xs.drop k) = .tuple #[.int .i32 ((dc (xs.drop k)).1 : Int), .int .i64 ((k + (dc (xs.drop k)).2 : Nat) : Int), .bool true] := by
            unfold nxT
            rw [if_pos ⟨fun e => by rw [e] at h0; simp at h0, q1⟩]
          rw [e]
          exact next_in hk h2 hc h3 hm hcv (hide F) (by omega) (size_at _) (by rw [q2])
        · rw [nxT_bad k q1]
          refine next_bad hk h2 hc h3 hm hcv (hide F) (size_at _) ?_
          rw [q2]
          show ¬ (((1 : Nat) : Int)) = ((sz 65533 : Nat) : Int)
          rw [bad_sz]
          decide
/-- What Count answers. -/
def cnT (o : Option Nat) : Value := .tuple #[.int .i64 ((o.getD 0 : Nat) : Int), .bool o.isSome]
theorem map_two (o : Option Nat) (n : Nat) : (o.map (· + 1)).map (· + n) = o.map (· + (n + 1)) := by
  cases o with
  | none => rfl
  | some m => show some (m + 1 + n) = some (m + (n + 1)); congr 1; omega
set_option maxHeartbeats 1000000 in
set_option maxRecDepth 100000 in
theorem count_w {a : Option Addr} {len cap : Nat} {xs : List Int} {W : World} (HX : Hid (Byt xs)) (HL : Hid (xs.length = len)) (hl : len ≤ 140737488355328)
    (hcv : (convert 22 9 (.slice a len cap)).run Try.prog W = .ok (.string (strOfNums xs)) W) :
    Calls Try.prog 10 #[.slice a len cap] W fun r W' => r = .returned (cnT (cnt xs)) ∧ Below W.heap.size W W' := by
  have HT : Hid (∃ T, cnt xs = T) := hide ⟨_, rfl⟩
  obtain ⟨T, hT⟩ := unhide HT
  rw [hT]
  have HT := hide hT
  clear hT
  have HSZ : Hid ((strOfNums xs).size = len) := hide (by rw [strOfNums_size]; exact unhide HL)
  have HD := hide (decode_str xs (unhide HX))
  generalize strOfNums xs = s at *
  go_enter Try.func10, Try.ntmps10
  go_wp2_with fail
  clear hcv
  go_loopw [2, 4] (fun v2 v4 wr => ∃ pos n p : Nat, wr = W.iter s pos ∧ v2 = .int .i64 (n : Int) ∧ v4 = .int .i64 (p : Int) ∧ pos ≤ len ∧ n ≤ pos ∧ p ≤ pos + 4 ∧ (p = pos ∧ T = (cnt (xs.drop pos)).map (· + n) ∨ p ≠ pos ∧ T = none)) (fun _ _ wr => len - wr.iterPos W.heap.size)
  case atStart => exact ⟨0, 0, 0, rfl, rfl, rfl, by omega, by omega, by omega, Or.inl ⟨rfl, by rw [List.drop_zero, unhide HT]; cases T <;> rfl⟩⟩
  case round =>
    obtain ⟨pos, n, p, rfl, rfl, rfl, hp, hn, hp4, hw⟩ := hrel
    by_cases hlt : pos < len
    · obtain ⟨c, hc⟩ : ∃ c, (dc (xs.drop pos)).1 = c := ⟨_, rfl⟩
      obtain ⟨wd, hwd⟩ : ∃ wd, (dc (xs.drop pos)).2 = wd := ⟨_, rfl⟩
      have hnx : ∀ ty, (Instr.next (.pointer (some ⟨W.heap.size, 0, none⟩)) true ty).run Try.prog (W.iter s pos) = .ok (.tuple #[.bool true, .int .i64 (pos : Int), .int .i32 (c : Int)]) (W.iter s (pos + wd)) := fun ty => by
        rw [run_next_any W s pos ty (by rw [unhide HSZ]; exact hlt), unhide HD, hc, hwd]
      have HL' : 1 ≤ (xs.drop pos).length := by rw [List.length_drop, unhide HL]; omega
      have HN : xs.drop pos ≠ [] := fun e => by rw [e] at HL'; simp at HL'
      have HZ := size_at c
      have hsz := sz_le c
      have hle := dc_le (byt_drop (unhide HX) pos) HL'
      have hpo := dc_pos (xs.drop pos)
      rw [hwd, List.length_drop, unhide HL] at hle
      rw [hwd] at hpo
      rcases hw with ⟨rfl, hT⟩ | ⟨hne, rfl⟩
      · have HR : Hid ((sz (c : Int) = wd ∧ T = (cnt (xs.drop (p + wd))).map (· + (n + 1))) ∨ (sz (c : Int) = 3 ∧ wd = 1 ∧ T = none)) := hide (by
          rcases isC_ways (byt_drop (unhide HX) p) HL' with ⟨q1, q2, q3, q4⟩ | ⟨q1, q2⟩
          · rw [hc, hwd] at q2
            rw [cnt_ok HN q1, hwd, List.drop_drop, map_two] at hT
            exact Or.inl ⟨q2, hT⟩
          · rw [cnt_bad HN q1] at hT
            rw [q2] at hc hwd
            refine Or.inr ⟨?_, hwd.symm, hT⟩
            rw [← hc]
            exact bad_sz)
        have HT2 := hide hT
        clear hT hc hwd HL' HN
        obtain ⟨z, hz⟩ : ∃ z, sz (c : Int) = z := ⟨_, rfl⟩
        rw [hz] at HZ HR hsz
        clear hz
        go_wp2_with fail
        refine (unhide HZ _).mono ?_
        rintro _ w1 ⟨rfl, rfl⟩
        go_wp2_with fail
        refine ⟨⟨p + wd, n + 1, p + z, rfl, by go_num, by go_num, by omega, by omega, by omega, ?_⟩, by simp; omega⟩
        rcases unhide HR with ⟨r1, r2⟩ | ⟨r1, r2, r3⟩
        · exact Or.inl ⟨by omega, r2⟩
        · exact Or.inr ⟨by omega, r3⟩
      · clear hc hwd HL' HN
        have hne' : ¬ (pos : Int) = (p : Int) := by omega
        go_wp2_with fail
        exact bodyPost_ret (v := .tuple #[.int .i64 0, .bool false]) (by simp [results, Try.results10, go_sem]) rfl ⟨rfl, below1 _ _⟩
    · obtain rfl : pos = len := by omega
      have hnx : ∀ ty, (Instr.next (.pointer (some ⟨W.heap.size, 0, none⟩)) true ty).run Try.prog (W.iter s pos) = .ok (.tuple #[.bool false]) (W.iter s pos) := fun ty => run_next_end W s pos ty (by rw [unhide HSZ]; exact hlt)
      rcases hw with ⟨rfl, hT⟩ | ⟨hne, rfl⟩
      · rw [List.drop_of_length_le (by rw [unhide HL]; omega), cnt_nil] at hT
        have HT2 := hide hT
        clear hT
        go_wp2_with fail
        exact bodyPost_ret (v := .tuple #[.int .i64 (n : Int), .bool true]) (by simp [results, Try.results10, go_sem]) rfl ⟨by rw [unhide HT2]; show _ = Ending.returned (.tuple #[.int .i64 ((0 + n : Nat) : Int), .bool true]); rw [Nat.zero_add], below1 _ _⟩
      · have hne' : ¬ (p : Int) = (pos : Int) := by omega
        go_wp2_with fail
        exact bodyPost_ret (v := .tuple #[.int .i64 0, .bool false]) (by simp [results, Try.results10, go_sem]) rfl ⟨rfl, below1 _ _⟩
theorem count_any {a : Option Addr} {len cap : Nat} {xs : List Int} {W : World} (HX : Byt xs) (HS : Sl W a len cap xs) :
    Calls Try.prog 10 #[.slice a len cap] W fun r W' => r = .returned (cnT (cnt xs)) ∧ Below W.heap.size W W' := count_w (hide HX) (hide HS.1) HS.2.2.1 (conv_run HS)
set_option maxHeartbeats 1000000 in
set_option maxRecDepth 100000 in
theorem valid_any {a : Option Addr} {len cap : Nat} {xs : List Int} {W : World} (HX : Byt xs) (HS : Sl W a len cap xs) :
    Calls Try.prog 12 #[.slice a len cap] W fun r W' => r = .returned (.bool (cnt xs).isSome) ∧ Below W.heap.size W W' := by
  have HC := hide (count_any HX HS)
  unfold cnT at HC
  go_enter Try.func12, Try.ntmps12
  go_wp2_with fail
  refine (unhide HC).mono ?_
  rintro _ w1 ⟨rfl, hb⟩
  go_wp2_with fail
  go_ret
  exact ⟨rfl, hb⟩
end Go.Proofs.Ytfjoejgioinfhaa
