/- The law UtfBack: its walk. -/
import Derived.Test.YtfjoejgioinfhaaLawE
namespace Go.Proofs.Ytfjoejgioinfhaa
open Go.RowKit

set_option maxHeartbeats 4000000 in
set_option maxRecDepth 100000 in
theorem back_w {a a' : Option Addr} {len cap len' cap' : Nat} {zs ys : List Int} (W : World) (h1 : len ≤ 100) (h2 : len' ≤ 100)
    (HCE : Hid (∀ W', Below W.heap.size W W' → ∀ j, j < len → ∃ b0 off0, a = some ⟨b0, off0, none⟩ ∧ W'.cell? ⟨b0, off0 + j, none⟩ = some (.int .i32 (zs.getD j 0))))
    (HY : Hid (Byt ys)) (HT : Hid (Sl W a' len' cap' ys)) :
    Calls Try.prog 5 #[.slice a len cap, .slice a' len' cap'] W fun r W' => r = .returned (.bool true) ∧ Below W.heap.size W W' := by
  have HA := awake_any
  have d1 : decide ((100 : Int) < (len : Int)) = false := decide_eq_false (by omega)
  have d2 : decide ((100 : Int) < (len' : Int)) = false := decide_eq_false (by omega)
  go_enter Try.func5, Try.ntmps5
  go_wp2_with fail
  refine (unhide HA _).mono ?_
  rintro _ w1 ⟨rfl, hb⟩
  have HB := hide hb
  clear hb
  go_wp2_with fail
  go_loopw [5, 6, 33] (fun v5 v6 v33 wr => ∃ (i : Nat) (cs : List Int) (L : Nat) (x : Option Addr) (c : Nat), i ≤ len ∧ v33 = .int .i64 (i : Int) ∧ v6 = .int .i64 ((cs.length : Nat) : Int) ∧ v5 = .slice x L c ∧ (flat cs).length = L ∧ Ow wr w1.heap.size (.slice x L c) (flat cs) ∧ Sl wr x L c (flat cs) ∧ (∀ q ∈ cs, sz q ≠ 0) ∧ cs.length ≤ i ∧ Below w1.heap.size w1 wr) (fun _ _ v33 _ => len - (intOf v33).toNat)
  case atStart => exact ⟨0, [], 0, none, 0, by omega, rfl, rfl, rfl, rfl, ow_nil _ _, sl_none _, fun q hq => by simp at hq, by simp, Below.refl _ _⟩
  case round =>
    obtain ⟨i, cs, L, x, c, hi, rfl, rfl, rfl, hL, hO, hS, hcs, hci, hb⟩ := hrel
    have HO := hide hO
    have HS := hide hS
    have HL := hide hL
    have HCS := hide hcs
    have HB2 := hide hb
    have hfl := flat_len cs
    rw [hL] at hfl
    obtain ⟨nc, hnc⟩ : ∃ nc, cs.length = nc := ⟨_, rfl⟩
    rw [hnc] at hci hfl ⊢
    have HNC := hide hnc
    clear hO hS hL hcs hb hnc
    by_cases hlt : i < len
    · obtain ⟨b0, off0, rfl, hcl⟩ := unhide HCE _ (bthen (unhide HB) (unhide HB2)) i hlt
      have hi' : (i : Int) < (len : Int) := by omega
      generalize zs.getD i 0 = q at *
      by_cases hz : sz q = 0
      · have HP := hide (put_no hz)
        go_wp2_with fail
        refine (unhide HP _).mono ?_
        rintro _ w3 ⟨rfl, hb⟩
        have HO := hide ((unhide HO).below hb)
        have HS := hide ((unhide HS).below hb)
        have HB2 := hide (bthen (unhide HB2) hb)
        clear hb hcl
        go_wp2_with fail
        exact ⟨⟨i + 1, cs, L, x, c, by omega, by go_num, by rw [unhide HNC], rfl, unhide HL, unhide HO, unhide HS, unhide HCS, by rw [unhide HNC]; omega, unhide HB2⟩, by simp [intOf]; omega⟩
      · have HP := hide (put_yes hz)
        have hz4 := sz_le q
        obtain ⟨z, hzz⟩ : ∃ z, sz q = z := ⟨_, rfl⟩
        rw [hzz] at HP hz hz4
        have HZ := hide hzz
        clear hzz
        go_wp2_with fail
        refine (unhide HP _).mono ?_
        rintro _ w3 ⟨g, pc, rfl, hSP, hb⟩
        have HO := hide ((unhide HO).below hb)
        have HB2 := hide (bthen (unhide HB2) hb)
        clear hb hcl
        obtain ⟨x2, c2, w4, hrun, hO2, hS2, hb⟩ := app_run (unhide HO) (unhide HB2).size hSP (by rw [unhide HL]; omega)
        rw [unhide HL] at hrun hO2 hS2
        have HO := hide hO2
        have HS := hide hS2
        have HB2 := hide ((unhide HB2).trans hb)
        clear hb hSP hO2 hS2
        have HN := hide (next_put (unhide HZ) hz (unhide HL) (unhide HS))
        have HR := hide hrun
        clear hrun
        go_wp2_with (at_builtin; refine wpList_app (by rfl) rfl rfl (unhide HR) ?_)
        refine (unhide HN).mono ?_
        rintro _ w5 ⟨rfl, hb⟩
        have HO := hide ((unhide HO).below hb)
        have HS := hide ((unhide HS).below hb)
        have HB2 := hide (bthen (unhide HB2) hb)
        clear hb
        go_wp2_with fail
        refine ⟨⟨i + 1, cs ++ [q], L + z, x2, c2, by omega, by go_num, ?_, rfl, ?_, ?_, ?_, ?_, ?_, unhide HB2⟩, by simp [intOf]; omega⟩
        · rw [List.length_append, unhide HNC]; rfl
        · rw [flat_snoc, List.length_append, unhide HL, put_len, unhide HZ]
        · rw [flat_snoc]; exact unhide HO
        · rw [flat_snoc]; exact unhide HS
        · intro y hy
          rcases List.mem_append.1 hy with hy | hy
          · exact unhide HCS y hy
          · rw [List.mem_singleton.1 hy, unhide HZ]; exact hz
        · rw [List.length_append, unhide HNC, List.length_singleton]; omega
    · obtain rfl : i = len := by omega
      have HFB := hide (flat_byt cs)
      have HC := hide (count_any (unhide HFB) (unhide HS))
      rw [cnt_flat_nil cs (unhide HCS), unhide HNC, show cnT (some nc) = .tuple #[.int .i64 (nc : Int), .bool true] from rfl] at HC
      go_wp2_with fail
      refine (unhide HC).mono ?_
      rintro _ w3 ⟨rfl, hb⟩
      have HS := hide ((unhide HS).below hb)
      have HB := hide (bthen (unhide HB) (bthen (unhide HB2) hb))
      clear hb HB2 HC HO
      -- with 255 behind
      obtain ⟨x4, c4, w4, hr, hO, _, hb⟩ := app_run (ow_lit w3 [] 0 rfl (by omega)) (by simp) ((unhide HS).below (below1 w3 _)) (by rw [List.length_nil]; omega)
      rw [List.length_nil, Nat.zero_add, List.nil_append] at hO
      rw [List.length_nil, Nat.zero_add] at hr
      have HR4 := hide hr
      have HB4 := hide ((below1 w3 _).trans hb)
      obtain ⟨x5, c5, w5, hr5, _, hS5, hb5⟩ := app_run (ys := [255]) (hO.alloc (.cells (bys [255]).toArray 5)) (by have := (unhide HB4).size; simp; omega) (sl_lit w4 [255] 1 rfl (by omega)) (by rw [unhide HL]; omega)
      rw [unhide HL] at hr5 hS5
      have HR5 := hide hr5
      have HB := hide (bthen (unhide HB) ((unhide HB4).trans (((below1 w4 _).mono (unhide HB4).size).trans hb5)))
      have HS := hide ((unhide HS).below ((unhide HB4).trans (((below1 w4 _).mono (unhide HB4).size).trans hb5)))
      have HV := hide (valid_any (byt_app (unhide HFB) (show Byt [255] by intro x hx; simp at hx; omega)) hS5)
      rw [cnt_flat cs (unhide HCS), cnt_255, show (Option.map (· + cs.length) (none : Option Nat)).isSome = false from rfl] at HV
      clear hr hO hb hr5 hS5 hb5 HB4
      go_wp2_with (at_builtin; first | refine wpList_app (w := w3.alloc (.cells #[] 5)) (by rfl) rfl rfl (unhide HR4) ?_ | refine wpList_app (w := w4.alloc (.cells #[.int .u8 255] 5)) (by rfl) rfl rfl (unhide HR5) ?_)
      refine (unhide HV).mono ?_
      rintro _ w6 ⟨rfl, hb⟩
      have HS := hide ((unhide HS).below hb)
      have HB := hide (bthen (unhide HB) hb)
      clear hb HV HR4 HR5
      -- with 128 ahead
      obtain ⟨x7, c7, w7, hr, _, hS7, hb⟩ := app_run (ow_lit w6 [128] 1 rfl (by omega)) (by simp) ((unhide HS).below (below1 w6 _)) (by rw [List.length_singleton]; omega)
      have HR7 := hide hr
      have HV := hide (valid_any (byt_app (show Byt [128] by intro x hx; simp at hx; omega) (unhide HFB)) hS7)
      rw [show ([128] ++ flat cs : List Int) = 128 :: flat cs from rfl, cnt_128 _ (unhide HFB), show (none : Option Nat).isSome = false from rfl] at HV
      have HB := hide (bthen (unhide HB) ((below1 w6 _).trans hb))
      have HS := hide ((unhide HS).below ((below1 w6 _).trans hb))
      clear hr hS7 hb
      go_wp2_with (at_builtin; refine wpList_app (by rfl) rfl rfl (unhide HR7) ?_)
      refine (unhide HV).mono ?_
      rintro _ w8 ⟨rfl, hb⟩
      have HS := hide ((unhide HS).below hb)
      have HB := hide (bthen (unhide HB) hb)
      have HC := hide (count_any (unhide HY) ((unhide HT).below (unhide HB)))
      clear hb HV HR7
      obtain ⟨k1, k3, k2, hK1, hK2, hK3⟩ : ∃ (k1 k3 : Nat) (k2 : Bool), cnT (cnt ys) = .tuple #[.int .i64 (k1 : Int), .bool k2] ∧ cnT ((cnt ys).map (· + nc)) = .tuple #[.int .i64 (k3 : Int), .bool k2] ∧ (k2 = true ∧ k3 = nc + k1 ∧ k1 ≤ 100 ∨ k2 = false) := by
        cases hn : cnt ys with
        | none => exact ⟨0, 0, false, rfl, rfl, Or.inr rfl⟩
        | some m =>
          have := cnt_bound (unhide HY) hn
          rw [(unhide HT).1] at this
          exact ⟨m, m + nc, true, rfl, rfl, Or.inl ⟨rfl, by omega, by omega⟩⟩
      have HK2 := hide hK2
      rw [hK1] at HC
      clear hK1 hK2
      rcases hK3 with ⟨rfl, rfl, hk⟩ | rfl
      all_goals
        go_wp2_with fail
        refine (unhide HC).mono ?_
        rintro _ w9 ⟨rfl, hb⟩
        have HS := hide ((unhide HS).below hb)
        have HB := hide (bthen (unhide HB) hb)
        have HT := hide ((unhide HT).below (unhide HB))
        clear hb HC
        obtain ⟨x10, c10, w10, hr, hO, _, hb⟩ := app_run (ow_lit w9 [] 0 rfl (by omega)) (by simp) ((unhide HS).below (below1 w9 _)) (by rw [List.length_nil]; omega)
        rw [List.length_nil, Nat.zero_add, List.nil_append] at hO
        rw [List.length_nil, Nat.zero_add] at hr
        have HR10 := hide hr
        have HB10 := hide ((below1 w9 _).trans hb)
        obtain ⟨x11, c11, w11, hr11, _, hS11, hb11⟩ := app_run hO (unhide HB10).size ((unhide HT).below (unhide HB10)) (by rw [unhide HL]; omega)
        rw [unhide HL] at hr11 hS11
        have HR11 := hide hr11
        have HB := hide (bthen (unhide HB) ((unhide HB10).trans hb11))
        have HC := hide (count_any (byt_app (unhide HFB) (unhide HY)) hS11)
        rw [cnt_flat cs (unhide HCS), unhide HNC, unhide HK2] at HC
        clear hr hO hb hr11 hS11 hb11 HB10
        go_wp2_with (at_builtin; first | refine wpList_app (w := w9.alloc (.cells #[] 5)) (by rfl) rfl rfl (unhide HR10) ?_ | refine wpList_app (w := w10) (by rfl) rfl rfl (unhide HR11) ?_)
        refine (unhide HC).mono ?_
        rintro _ w12 ⟨rfl, hb⟩
        have HB := hide (bthen (unhide HB) hb)
        clear hb HC
        go_wp2_with fail
        go_ret
        exact ⟨by first | rfl | simp, unhide HB⟩
theorem back_any {a a' : Option Addr} {len cap len' cap' : Nat} {zs ys : List Int} (W : World) (hC : len ≤ 140737488355328 → ∀ j, j < len → ∃ b0 off0, a = some ⟨b0, off0, none⟩ ∧ W.cell? ⟨b0, off0 + j, none⟩ = some (.int .i32 (zs.getD j 0)))
    (hY : Byt ys) (hT : len' ≤ 140737488355328 → Sl W a' len' cap' ys) :
    Calls Try.prog 5 #[.slice a len cap, .slice a' len' cap'] W fun r W' => r = .returned (.bool true) ∧ Below W.heap.size W W' := by
  by_cases h : (100 : Int) < (len : Int) ∨ (100 : Int) < (len' : Int)
  · exact back_big W h
  · refine back_w (zs := zs) W (by omega) (by omega) (hide fun W' hb j hj => ?_) (hide hY) (hide (hT (by omega)))
    obtain ⟨b0, off0, h1, h2⟩ := hC (by omega) j hj
    exact ⟨b0, off0, h1, by rw [hb.cell (World.block_lt_of_cell? W _ h2)]; exact h2⟩
end Go.Proofs.Ytfjoejgioinfhaa
