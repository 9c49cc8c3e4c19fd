/- CgA, CgB. -/
import Derived.Test.YtalahdkgigcpfaaDoorC34
namespace Go.Proofs.YtalahdkgigcpfaaDoor
open Go.RowKit
attribute [local go_sem] Oper.semAt_some

/-- What a round keeps, in words of one's own: what lay in the blocks P of W0, and what was laid just ahead of it. -/
structure Kps (W0 : World) (P : Nat → Prop) (Kp : World → World → Prop) : Prop where
  refl : ∀ W, Kp W W
  trans : ∀ A B C, Kp A B → Kp B C → Kp A C
  alloc : ∀ W o, Kp W0 W → Kp W (W.alloc o)
  old : ∀ W (p : Addr) v, Kp W0 W → W0.cell? p = some v → P p.block → W.cell? p = some v
  new : ∀ W o W', Kp W0 W → Kp (W.alloc o) W' → ∀ j v, (W.alloc o).cell? ⟨W.heap.size, j, none⟩ = some v → W'.cell? ⟨W.heap.size, j, none⟩ = some v
theorem Elt.kp {W0 w' : World} {P : Nat → Prop} {Kp : World → World → Prop} {b o : Nat} {hd : Hd} {vl vt ve : Value} (h : Elt W0 b o hd vl vt ve) (hk : Kps W0 P Kp) (hf : Kp W0 w') (hn : P b) : Elt w' b o hd vl vt ve :=
  ⟨hk.old _ _ _ hf h.1 hn, hk.old _ _ _ hf h.2.1 hn, hk.old _ _ _ hf h.2.2.1 hn, hk.old _ _ _ hf h.2.2.2.1 hn, hk.old _ _ _ hf h.2.2.2.2.1 hn, hk.old _ _ _ hf h.2.2.2.2.2.1 hn, hk.old _ _ _ hf h.2.2.2.2.2.2.1 hn, hk.old _ _ _ hf h.2.2.2.2.2.2.2.1 hn, hk.old _ _ _ hf h.2.2.2.2.2.2.2.2 hn⟩
def Good2 (W0 : World) (P : Nat → Prop) (x : It) : Prop := Good W0 P x ∧ x.t.size ≤ 4000000 ∧ x.e.size ≤ 4000000 ∧ x.list.length ≤ 10000000000 ∧ Lok x.t ∧ Lok x.e
abbrev Gx2 (W0 : World) (P : Nat → Prop) := { x : It // Good2 W0 P x }
abbrev en2 {W0 : World} {P : Nat → Prop} (x : Gx2 W0 P) : Array Value := #[.int .i64 (x.1.b : Int), x.1.agg]
def bop2 {W0 : World} {P : Nat → Prop} (x : Gx2 W0 P) : Nat × Int := (x.1.b, x.1.op)
set_option maxHeartbeats 8000000 in
set_option maxRecDepth 100000 in
theorem tell2_in {W0 : World} {P : Nat → Prop} {Kp : World → World → Prop} (hKp : Kps W0 P Kp) (l N : Nat) (J Jx : List (Gx2 W0 P) → World → Prop) (hJ : ∀ s V o, J s V → J s (V.alloc o))
    (hY : ∀ m pre (x : Gx2 W0 P) W, J pre W → pre.length < N → YieldAt Fence.wide m Tryd.prog l (en2 x) W fun e W' => (e = .returned (.bool true) ∧ J (pre ++ [x]) W' ∧ Kp W W') ∨ (e = .returned (.bool false) ∧ Jx (pre ++ [x]) W')) :
    ∀ (k : Nat) (T : Fo) (b : Nat) (v : Value) (pre : List (Gx2 W0 P)) (W : World) (n : Nat), T.size < k → Lw T → Lok T → Fov W0 P T v → Kp W0 W → J pre W → pre.length + T.size ≤ N → b + T.size ≤ 4000000 →
      CallsIn Fence.wide n Tryd.prog 41 #[v, .int .i64 (b : Int), .func (.yield l) #[] #[]] W fun e W' => (e = .returned (.bool true) ∧ (∃ ys : List (Gx2 W0 P), ys.map bop2 = tellP b T ∧ J (pre ++ ys) W') ∧ Kp W W') ∨ (e = .returned (.bool false) ∧ ∃ q, Jx q W') := by
  intro k
  induction k with
  | zero => exact fun _ _ _ _ _ _ h => absurd h (Nat.not_lt_zero _)
  | succ k ih =>
    intro T b v pre W n hT hw hlk hF hK hJ0 hN hb
    obtain ⟨a, cap, rfl, hc, ho⟩ := hF.open2
    have hl := T.len_le
    have HIh := hide ih
    have HK := hide hK
    have HF := hide hF
    have HO := hide ho
    have HW := hide hw
    have HKp := hide hKp
    have HLk := hide hlk
    have HY := hide hY
    have HJ := hide hJ
    clear ih hw hK hF ho hKp hY hJ hlk
    have hdd : ∀ k : Nat, (Fence.wide.depth.isSome = true → 1 ≤ k) := fun k h => by cases h
    refine callsIn_of_wp Tryd.func41 rfl trivial ?_ rfl
    simp only [Tryd.ntmps41, List.size_toArray, List.length_cons, List.length_nil, Nat.reduceAdd, Nat.reduceSub, Array.replicate_succ, Array.replicate_zero, List.push_toArray, List.append_toArray, List.nil_append, List.cons_append]
    gi_wp2
    gi_loopw [11] (fun v11 wr => ∃ (i : Nat) (ys : List (Gx2 W0 P)), i ≤ T.len ∧ v11 = .int .i64 (i : Int) ∧ ys.map bop2 = tellP b (T.pre i) ∧ J (pre ++ ys) wr ∧ Kp W wr) (fun v11 _ => T.len - (intOf v11).toNat)
    case atStart => exact ⟨0, [], by omega, rfl, rfl, by rw [List.append_nil]; exact hJ0, (unhide HKp).refl _⟩
    case round =>
      obtain ⟨i, ys, hi, rfl, hys, hJs, hKs⟩ := hrel
      by_cases hlt : i < T.len
      · obtain ⟨⟨⟨op, ty, aa, bb, bits, li, has⟩, t, e⟩, hat⟩ := Fo.at_some hlt
        rcases unhide HO with h0 | ⟨b1, o1, rfl, hp, hel⟩
        · omega
        · obtain ⟨l1, l3, t1, t3, e1, e3, hE, hL, ht, he⟩ := hel i _ t e hat
          have hsz := Fo.pre_size1 hat
          have hi' : (i : Int) < (T.len : Int) := by omega
          have hi2 : (0 : Int) ≤ (i : Int) := by omega
          have HG : Hid (Good2 W0 P ⟨b, op, ty, aa, bb, bits, li, has, t, e, l1, l3, t1, t3, e1, e3⟩) := hide ⟨⟨⟨by show b ≤ 4000000; omega, ((unhide HW).at hat).1⟩, hL, ht, he⟩, by show t.size ≤ 4000000; omega, by show e.size ≤ 4000000; omega, ((unhide HLk).at hat).1, ((unhide HLk).at hat).2.1, ((unhide HLk).at hat).2.2⟩
          obtain ⟨g0, g1, g2, g3, g4, g5, g6, g7, g8⟩ := hE.kp (unhide HKp) ((unhide HKp).trans _ _ _ (unhide HK) hKs) hp
          dsimp only at g0 g1 g2 g3 g4 g5 g6 g7 g8
          have hylen : ys.length = (T.pre i).size := by rw [← tellP_len b, ← hys, List.length_map]
          have HKs := hide hKs
          have HYs := hide hys
          have HAt := hide hat
          have hJ1 : J (pre ++ ys) (wr.alloc (.cells #[.int .i64 op, .int .u8 ty, .int .u32 aa, .int .u32 bb, .int .u64 bits, .slice l1 li.length l3, .slice t1 t.len t3, .slice e1 e.len e3, .bool has] 50)) := (unhide HJ) _ wr _ hJs
          obtain ⟨fn, tmps, assign, body, hy, hR⟩ := unhide HY (n - 1) (pre ++ ys) ⟨_, unhide HG⟩ _ hJ1 (by rw [List.length_append]; omega)
          dsimp only [en2, It.agg] at hy
          clear hE hL ht he hKs hys hat hel hJs hJ1
          have hKa := (unhide HKp).alloc wr (.cells #[.int .i64 op, .int .u8 ty, .int .u32 aa, .int .u32 bb, .int .u64 bits, .slice l1 li.length l3, .slice t1 t.len t3, .slice e1 e.len e3, .bool has] 50) ((unhide HKp).trans _ _ _ (unhide HK) (unhide HKs))
          have hqL := fun W2 hk2 j u => (unhide HKp).new wr (.cells #[.int .i64 op, .int .u8 ty, .int .u32 aa, .int .u32 bb, .int .u64 bits, .slice l1 li.length l3, .slice t1 t.len t3, .slice e1 e.len e3, .bool has] 50) W2 ((unhide HKp).trans _ _ _ (unhide HK) (unhide HKs)) hk2 j u
          have HC : Hid ((wr.alloc (.cells #[.int .i64 op, .int .u8 ty, .int .u32 aa, .int .u32 bb, .int .u64 bits, .slice l1 li.length l3, .slice t1 t.len t3, .slice e1 e.len e3, .bool has] 50)).cell? ⟨wr.heap.size, 6, none⟩ = some (.slice t1 t.len t3) ∧ (wr.alloc (.cells #[.int .i64 op, .int .u8 ty, .int .u32 aa, .int .u32 bb, .int .u64 bits, .slice l1 li.length l3, .slice t1 t.len t3, .slice e1 e.len e3, .bool has] 50)).cell? ⟨wr.heap.size, 7, none⟩ = some (.slice e1 e.len e3)) := hide (by simp [go_sem])
          have HKa := hide hKa
          have HQ := hide hqL
          have iw : IntKind.i64.wrap ((b : Int) + 1) = (b : Int) + 1 := i64_id (by omega) (by omega)
          clear hKa hqL
          gi_wp2
          refine ⟨hdd _, hR.mono ?_⟩
          clear hR
          rintro ee W2 (⟨rfl, hJ2, hk2⟩ | ⟨rfl, hJx2⟩)
          · have c6 := unhide HQ W2 hk2 _ _ (unhide HC).1
            have c7 := unhide HQ W2 hk2 _ _ (unhide HC).2
            have HK2 := hide hk2
            have HKs := hide ((unhide HKp).trans _ _ _ ((unhide HKp).trans _ _ _ (unhide HKs) (unhide HKa)) hk2)
            clear hy g0 g1 g2 g3 g4 g5 g6 g7 g8
            have hq := unhide HIh t (b + 1) (.slice t1 t.len t3) _ W2 (n - 1) (by omega) ((unhide HW).at (unhide HAt)).2.1 ((unhide HLk).at (unhide HAt)).2.1 (unhide HG).1.2.2.1 ((unhide HKp).trans _ _ _ (unhide HK) (unhide HKs)) hJ2 (by rw [List.length_append, List.length_append]; simp; omega) (by omega)
            rw [show ((b + 1 : Nat) : Int) = (b : Int) + 1 from by omega] at hq
            have HC2 := hide (And.intro c6 c7)
            gi_wp2
            refine ⟨trivial, hdd _, hq.mono ?_⟩
            clear hq
            rintro e3' W3 (⟨rfl, ⟨ys3, hys3, hJ3⟩, hk3⟩ | ⟨rfl, q3, hx3⟩)
            · have HKs := hide ((unhide HKp).trans _ _ _ (unhide HKs) hk3)
              have c7' := unhide HQ W3 ((unhide HKp).trans _ _ _ (unhide HK2) hk3) _ _ (unhide HC).2
              have hl3 : ys3.length = t.size := by rw [← tellP_len (b + 1) t, ← hys3, List.length_map]
              clear c6 c7
              have hq := unhide HIh e (b + 1) (.slice e1 e.len e3) _ W3 (n - 1) (by omega) ((unhide HW).at (unhide HAt)).2.2 ((unhide HLk).at (unhide HAt)).2.2 (unhide HG).1.2.2.2 ((unhide HKp).trans _ _ _ (unhide HK) (unhide HKs)) hJ3 (by rw [List.length_append, List.length_append, List.length_append]; simp; omega) (by omega)
              rw [show ((b + 1 : Nat) : Int) = (b : Int) + 1 from by omega] at hq
              gi_wp2
              refine ⟨trivial, hdd _, hq.mono ?_⟩
              clear hq
              rintro e4' W4 (⟨rfl, ⟨ys4, hys4, hJ4⟩, hk4⟩ | ⟨rfl, q4, hx4⟩)
              · have HKs := hide ((unhide HKp).trans _ _ _ (unhide HKs) hk4)
                gi_wp2
                go_roundw
                case rel =>
                  refine ⟨i + 1, ys ++ [⟨_, unhide HG⟩] ++ ys3 ++ ys4, by omega, by go_num, ?_, by simpa [List.append_assoc] using hJ4, unhide HKs⟩
                  rw [Fo.pre_succ (unhide HAt), tellP_app, List.map_append, List.map_append, List.map_append, unhide HYs, hys3, hys4]
                  simp [tellP, bop2]
                case measure => simp [intOf]; omega
              · gi_wp2
                go_ret
                exact .inr ⟨rfl, _, hx4⟩
            · gi_wp2
              refine ⟨trivial, ?_⟩
              gi_wp2
              go_ret
              exact .inr ⟨rfl, _, hx3⟩
          · gi_wp2
            refine ⟨trivial, ?_⟩
            gi_wp2
            refine ⟨trivial, ?_⟩
            gi_wp2
            go_ret
            exact .inr ⟨rfl, _, hJx2⟩
      · obtain rfl : i = T.len := by omega
        gi_wp2
        go_ret
        rw [T.pre_all] at hys
        exact .inl ⟨rfl, ⟨ys, hys, hJs⟩, hKs⟩
set_option maxHeartbeats 8000000 in
set_option maxRecDepth 100000 in
theorem all12_in {W0 : World} {P : Nat → Prop} {Kp : World → World → Prop} (hKp : Kps W0 P Kp) (l n Bt : Nat) (T : Fo) (v : Value) (hw : Lw T) (hlk : Lok T) (hF : Fov W0 P T v) (hb : T.size ≤ 4000000) (J Jx : List (Gx2 W0 P) → World → Prop) (hJ : ∀ s V o, J s V → J s (V.alloc o))
    (hY : ∀ pre (x : Gx2 W0 P) W, J pre W → pre.length < T.size → YieldAt Fence.wide (n - 1) Tryd.prog l (en2 x) W fun e W' => (e = .returned (.bool true) ∧ J (pre ++ [x]) W' ∧ Kp W W') ∨ (e = .returned (.bool false) ∧ Jx (pre ++ [x]) W'))
    (W : World) (hK : Kp W0 W) (hBt : W.cell? ⟨Bt, 0, none⟩ = some v) (h0 : J [] W) :
    CallsIn Fence.wide n Tryd.prog 40 #[.func (.yield l) #[] #[], .pointer (some ⟨Bt, 0, none⟩)] W fun e W' => (∃ v, e = .returned v) ∧ ((∃ ys : List (Gx2 W0 P), ys.map bop2 = tellP 0 T ∧ J ys W') ∨ (∃ q, True ∧ Jx q W')) := by
  have hdd : ∀ k : Nat, (Fence.wide.depth.isSome = true → 1 ≤ k) := fun k h => by cases h
  have hp := tell2_in hKp l T.size J Jx hJ (fun m pre x W hj hl => by
    obtain ⟨fn, tmps, assign, body, hy, hR⟩ := hY pre x W hj hl
    exact ⟨fn, tmps, assign, body, hy, ⟨hR.1, fun c cs _ => hR.2 c cs (fun d h => by cases h)⟩⟩) (T.size + 1) T 0 v [] W (n - 1) (Nat.lt_succ_self _) hw hlk hF hK h0 (by simp) (by omega)
  obtain ⟨a, cap, rfl⟩ := hF.slc
  clear hY hK h0 hJ hKp hF hlk
  refine callsIn_of_wp Tryd.func40 rfl trivial ?_ rfl
  simp only [Tryd.ntmps40, List.size_toArray, List.length_cons, List.length_nil, Nat.reduceAdd, Nat.reduceSub, Array.replicate_succ, Array.replicate_zero, List.push_toArray, List.append_toArray, List.nil_append, List.cons_append]
  gi_wp2
  refine ⟨trivial, hdd _, hp.mono ?_⟩
  clear hp
  rintro e W1 (⟨rfl, ⟨ys, hys, hJ1⟩, -⟩ | ⟨rfl, q, hx⟩)
  · gi_wp2
    refine bodyPost_end (results_none rfl _ _ _) rfl ⟨⟨_, rfl⟩, .inl ⟨ys, hys, by simpa using hJ1⟩⟩
  · gi_wp2
    refine bodyPost_end (results_none rfl _ _ _) rfl ⟨⟨_, rfl⟩, .inr ⟨q, trivial, hx⟩⟩
end Go.Proofs.YtalahdkgigcpfaaDoor
namespace Go.Proofs.YtalahdkgigcpfaaDoor
open Go.RowKit
attribute [local go_sem] Oper.semAt_some

/-- How a round's body may be left: off its end, with what holds against the world ahead of the assignment. -/
def endT {α : Type} (B : Nat) (Kp : World → World → Prop) (I : List α → World → Prop) (xs : List α) (V0 V : World) : Exit → Act → World → Prop
  | .normal, _, V' => KeepsFrom B V V' ∧ Kp V0 V' ∧ I xs V'
  | _, _, _ => False
set_option maxHeartbeats 4000000 in
/-- The statement, where each round runs to its end; Tn: what the iterator does between two rounds. -/
theorem range_t {F : Fence} {n : Nat} {P : Program} {α : Type} {g : Operand} {ps : Array Tmp} {assign body : Code} {Q : Exit → Act → World → Prop} {a : Act} {w : World} (hro : F.round = none) (h1 : 1 ≤ n) {gf : Nat} {lb : Array Value}
    (hg : a.eval g = .func (.func gf) #[] lb) (hFg : F.fn gf) (eg : ∀ args w, (callFunc gf args).run P w = .ok (.enter gf args) w) {encs : α → Array Value} {S : List α → Prop} {N : Nat} (hps : ∀ x, (encs x).size = ps.size)
    (Kp Tn : World → World → Prop) (I : List α → World → Prop)
    (hseq : ∀ (l : Nat) (J : List α → World → Prop) (W : World), l = w.heap.size + 1 → W.heap.size = w.heap.size + 2 → Below w.heap.size w W → (∀ s V V', J s V → Tn V V' → J s V') →
      (∀ s V, J s V → I s V) →
      (∀ pre x V, J pre V → pre.length < N → YieldAt F (n - 1 - 1) P l (encs x) V fun e V' => e = .returned (.bool true) ∧ J (pre ++ [x]) V' ∧ Kp V V') → J [] W →
      CallsIn F (n - 1) P gf (#[.func (.yield l) #[] #[]] ++ lb) W fun e W' => (∃ v, e = .returned v) ∧ ∃ xs, S xs ∧ J xs W')
    (hTn : ∀ s V V', I s V → Tn V V' → ∀ k o, k = w.heap.size ∨ k = w.heap.size + 1 → V.heap[k]? = some o → o.isCells = false → V'.heap[k]? = some o)
    (hKb : ∀ A B r r', Kp A B → B.heap[w.heap.size + 1]? = some (.loop r) → Kp A (B.putObj (w.heap.size + 1) (.loop r')))
    (hI : OwnFrom w.heap.size I) (hIT : ∀ s V V', I s V → Tn V V' → I s V') (h0 : I [] w)
    (Ax : World → α → Act → World → Prop) (hAx : ∀ V0 x a' V r r', Ax V0 x a' V → V.heap[w.heap.size + 1]? = some (.loop r) → Ax V0 x a' (V.putObj (w.heap.size + 1) (.loop r')))
    (hassign : ∀ (l : Nat) (pre : List α) (x : α) (V : World) (K : Act → World → Prop), l = w.heap.size + 1 → I pre V → (∀ a' V', KeepsFrom w.heap.size V V' → I pre V' → Ax V x a' V' → K a' V') →
      assign.wpIn (F.inRound l) (n - 1 - 1) P (Exit.then K (fun _ _ _ => False)) { tmps := (ps.zip (encs x)).foldl (fun t (p, v) => t.setIfInBounds p v) a.tmps, defers := [] } V)
    (hbody : ∀ (l : Nat) (pre : List α) (x : α) (V0 : World) (a' : Act) (V : World), l = w.heap.size + 1 → I pre V → Ax V0 x a' V → pre.length < N → body.wpIn (F.inRound l) (n - 1 - 1) P (endT w.heap.size Kp I (pre ++ [x]) V0 V) a' V)
    (hdone : ∀ (xs : List α) (V : World), S xs → I xs V → V.heap[w.heap.size]? = some (.deferred (some [])) → Q .normal { a with defers := { target := .collected w.heap.size, args := #[] } :: a.defers } V) :
    (Code.rangeFunc g ps assign body).wpIn F n P Q a w := by
  refine wpIn_rangeFunc fun fn hfn => ?_
  rw [hro]
  let rc : LoopState → Option Code → Loop := fun st pe => { state := st, pending := pe, fn, tmps := a.tmps, params := ps, assign, body, defers := w.heap.size }
  obtain ⟨W1, hW1⟩ : ∃ W1, (w.alloc (.deferred (some []))).alloc (.loop (rc .ready none)) = W1 := ⟨_, rfl⟩
  have hsz : W1.heap.size = w.heap.size + 2 := by rw [← hW1]; simp
  have hl1 : W1.heap[w.heap.size + 1]? = some (.loop (rc .ready none)) := by
    rw [← hW1]; have := World.alloc_heap_new (w.alloc (.deferred (some []))) (.loop (rc .ready none)); rwa [World.size_alloc] at this
  have hd1 : W1.heap[w.heap.size]? = some (.deferred (some [])) := by
    rw [← hW1]; exact (Below.heap_alloc _ _ _ (by simp)).trans (World.alloc_heap_new w _)
  have hi1 : I [] W1 := by rw [← hW1]; exact hI.alloc _ (hI.alloc _ h0)
  have hb1 : Below w.heap.size w W1 := by rw [← hW1]; exact ((Below.refl _ w).alloc (Nat.le_refl _) _).alloc (by simp) _
  refine ⟨w.heap.size + 1, [{ target := .collected w.heap.size, args := #[] }], W1, { target := .fn (.func gf) lb, args := #[.func (.yield (w.heap.size + 1)) #[] #[]] }, W1, gf, #[.func (.yield (w.heap.size + 1)) #[] #[]] ++ lb, W1, ?_, ?_, ?_, ?_, fun _ => h1, ?_⟩
  · rw [← hW1]; exact run_enterLoop_outer _ _ _ _ _
  · simp only [resolve, hg]
    simp [go_sem]
  · intro f' hf'
    simp [Target.leads] at hf'
    subst hf'
    exact hFg
  · simp [invoke, go_sem, eg]
  · refine (hseq (w.heap.size + 1) (fun s V => I s V ∧ V.heap[w.heap.size + 1]? = some (.loop (rc .ready none)) ∧ V.heap[w.heap.size]? = some (.deferred (some []))) W1 rfl hsz hb1
      (fun s V V' hs ht => ⟨hIT _ _ _ hs.1 ht, hTn _ _ _ hs.1 ht _ _ (.inr rfl) hs.2.1 rfl, hTn _ _ _ hs.1 ht _ _ (.inl rfl) hs.2.2 rfl⟩) (fun s V hs => hs.1) ?_ ⟨hi1, hl1, hd1⟩).mono ?_
    · rintro pre x V ⟨hi, hl, hd⟩ hlen
      have hy := run_yield (P := P) (args := encs x) hl (hps x)
      refine ⟨fn, _, assign, body, hy, roundIn_of_wpIn hfn (hassign _ pre x V _ rfl hi ?_)⟩
      intro a' Va hka hia hax
      have hla := hka.same _ _ (by omega) hl rfl
      have hda := hka.same _ _ (Nat.le_refl _) hd rfl
      have hlt : w.heap.size + 1 < Va.heap.size := (Array.getElem?_eq_some_iff.1 hla).1
      refine ⟨_, run_beginRound hla rfl, ?_⟩
      have hl2 : (Va.putObj (w.heap.size + 1) (.loop { rc .ready none with state := .busy })).heap[w.heap.size + 1]? = some (.loop { rc .ready none with state := .busy }) := World.putObj_heap_same hlt
      have hd2 : (Va.putObj (w.heap.size + 1) (.loop { rc .ready none with state := .busy })).heap[w.heap.size]? = some (.deferred (some [])) := (World.putObj_heap_other (by omega)).trans hda
      refine wpIn_mono (hbody _ pre x V a' _ rfl (hI.putObj _ hia (by omega) hla rfl) (hAx V x a' _ _ _ hax hla) hlen) ?_
      intro e a3 V3 hp
      cases e with
      | normal =>
        obtain ⟨hk3, hkp3, hi3⟩ := hp
        have hl3 := hk3.same _ _ (by omega) hl2 rfl
        have hd3 := hk3.same _ _ (Nat.le_refl _) hd2 rfl
        exact ⟨_, _, run_endRound none hl3, rfl, ⟨hI.putObj _ hi3 (by omega) hl3 rfl, World.putObj_heap_same (Array.getElem?_eq_some_iff.1 hl3).1, (World.putObj_heap_other (by omega)).trans hd3⟩, hKb _ _ _ _ hkp3 hl3⟩
      | _ => exact hp.elim
    · rintro e W2 ⟨⟨v, rfl⟩, xs, hS, hi, hl, hd⟩
      exact ⟨none, _, run_endLoop hl (by simp [rc]), hdone xs _ hS (hI.putObj _ hi (by omega) hl rfl) ((World.putObj_heap_other (by omega)).trans hd)⟩

theorem keepsFrom_frL {A B : World} {L : List Nat} {M : Nat} (hf : Fr L A B) (hL : ∀ i ∈ L, i < M ∨ ∃ o, A.heap[i]? = some o ∧ o.isCells = true) : KeepsFrom M A B := by
  refine ⟨hf.size, fun k o hk ho ho2 => (hf.block k (Array.getElem?_eq_some_iff.1 ho).1 (fun hm => ?_)).trans ho⟩
  rcases hL k hm with q | ⟨o', h1, h2⟩
  · omega
  · rw [ho] at h1
    cases h1
    rw [ho2] at h2
    cases h2
/-- A block of the boxes bx, or of a row that one of them holds. -/
def Rwb (bx : List Nat) (V : World) (b : Nat) : Prop := b ∈ bx ∨ ∃ B ∈ bx, ∃ v, V.cell? ⟨B, 0, none⟩ = some v ∧ v.ownBlock = some b
/-- A round's word: all other cells hold what they held. -/
structure Kr (bx : List Nat) (A B : World) : Prop where
  size : A.heap.size ≤ B.heap.size
  cell : ∀ (p : Addr) (v : Value), A.cell? p = some v → ¬ Rwb bx A p.block → B.cell? p = some v
  row : ∀ b, Rwb bx B b → Rwb bx A b ∨ A.heap.size ≤ b ∧ b < B.heap.size
/-- The iterator's word: what lies below B, and the rows, lie as they lay. -/
structure Th (bx : List Nat) (B : Nat) (A A' : World) : Prop where
  bel : Below B A A'
  row : ∀ b o, Rwb bx A b → A.heap[b]? = some o → o.isCells = true → A'.heap[b]? = some o
theorem Kr.refl (bx : List Nat) (A : World) : Kr bx A A := ⟨Nat.le_refl _, fun _ _ h _ => h, fun _ h => .inl h⟩
theorem Kr.trans {bx : List Nat} {A B C : World} (h : Kr bx A B) (k : Kr bx B C) : Kr bx A C := by
  refine ⟨Nat.le_trans h.size k.size, fun p v hp hn => k.cell p v (h.cell p v hp hn) (fun q => ?_), fun b q => ?_⟩
  · rcases h.row _ q with q | q
    · exact hn q
    · have := World.block_lt_of_cell? A p hp; omega
  · have h1 := h.size
    have h2 := k.size
    rcases k.row _ q with q | q
    · rcases h.row _ q with q | q
      · exact .inl q
      · exact .inr (by omega)
    · exact .inr (by omega)
theorem Rwb.of {bx : List Nat} {A B : World} (hb : ∀ i ∈ bx, i < A.heap.size ∧ B.heap[i]? = A.heap[i]?) {b : Nat} (h : Rwb bx B b) : Rwb bx A b := by
  rcases h with h | ⟨i, hi, v, h1, h2⟩
  · exact .inl h
  · exact .inr ⟨i, hi, v, (World.cell?_of_block (w := A) (a := ⟨i, 0, none⟩) (hb i hi).2) ▸ h1, h2⟩
theorem Kr.of {bx : List Nat} {A B : World} (hb : ∀ i ∈ bx, i < A.heap.size) (h : Below A.heap.size A B) : Kr bx A B :=
  ⟨h.size, fun p _ hp _ => (h.cell (World.block_lt_of_cell? A p hp)).trans hp, fun _ q => .inl (q.of fun i hi => ⟨hb i hi, h.block i (hb i hi)⟩)⟩
theorem Kr.lt {bx : List Nat} {A B : World} (h : Kr bx A B) (hr : ∀ b, Rwb bx A b → b < A.heap.size) {b : Nat} (q : Rwb bx B b) : b < B.heap.size := by
  have h1 := h.size
  rcases h.row _ q with q | q
  · have := hr _ q; omega
  · exact q.2
theorem Kr.put {bx : List Nat} {A B : World} {l : Nat} {o : Obj} (h : Kr bx A B) (hb : ∀ i ∈ bx, i < B.heap.size ∧ i ≠ l) (hl : B.heap[l]? = some o) (hc : o.isCells = false) (o' : Obj) : Kr bx A (B.putObj l o') := by
  refine h.trans ⟨by simp, fun p v hp _ => ?_, fun _ q => .inl (q.of fun i hi => ⟨(hb i hi).1, World.putObj_heap_other (hb i hi).2⟩)⟩
  by_cases he : p.block = l
  · exfalso
    unfold World.cell? at hp
    rw [he, hl] at hp
    cases o <;> simp_all [Obj.isCells]
  · exact (World.cell?_of_block (w := B) (World.putObj_heap_other he)).trans hp
theorem Kr.grown {bx : List Nat} {A B : World} {row : Option Nat} {N : Nat} (hg : A.grownBy B row) (hr : ∀ r, row = some r → N ≤ r ∧ ∃ o : Obj, A.heap[r]? = some o ∧ o.isCells = false) (hb : ∀ i ∈ bx, i < N) (hN : N ≤ A.heap.size) : Kr bx A B :=
  ⟨hg.size, fun _ _ hp _ => cell_kept hp hg (fun r e => (hr r e).2), fun _ q => .inl (q.of fun i hi => ⟨Nat.lt_of_lt_of_le (hb i hi) hN, hg.block i (Nat.lt_of_lt_of_le (hb i hi) hN) (fun e => by have := (hr i e.symm).1; have := hb i hi; omega)⟩)⟩
theorem Th.grown {bx : List Nat} {A B : World} {row : Option Nat} {N M : Nat} (hg : A.grownBy B row) (hr : ∀ r, row = some r → N ≤ r ∧ ∃ o : Obj, A.heap[r]? = some o ∧ o.isCells = false) (hM : M ≤ N) (hA : M ≤ A.heap.size) : Th bx M A B :=
  ⟨(Below.refl M A).grown hg hA (fun k e => by have := (hr k e).1; omega), fun b o _ ho hc => (hg.block b (Array.getElem?_eq_some_iff.1 ho).1 (fun e => by obtain ⟨_, o2, h2, h3⟩ := hr b e.symm; rw [ho] at h2; cases h2; rw [hc] at h3; cases h3)).trans ho⟩
theorem Th.of {bx : List Nat} {A B : World} {M : Nat} (h : Below A.heap.size A B) (hA : M ≤ A.heap.size) : Th bx M A B :=
  ⟨h.mono hA, fun b _ _ ho _ => (h.block b (Array.getElem?_eq_some_iff.1 ho).1).trans ho⟩
theorem Th.fr {bx : List Nat} {A B : World} {M g : Nat} (h : Fr [g] A B) (hA : M ≤ A.heap.size) (hM : M ≤ g) (hn : ¬ Rwb bx A g) : Th bx M A B :=
  ⟨⟨h.os, h.tape, h.output, h.size, fun k hk => h.block k (by omega) (by simp; omega)⟩, fun b o hb ho _ => (h.block b (Array.getElem?_eq_some_iff.1 ho).1 (by simp; intro e; subst e; exact hn hb)).trans ho⟩
theorem Kr.kps {bx : List Nat} {W0 : World} {P : Nat → Prop} (hb : ∀ i ∈ bx, i < W0.heap.size) (hr : ∀ b, Rwb bx W0 b → b < W0.heap.size ∧ ¬ P b) : Kps W0 P (Kr bx) where
  refl := Kr.refl bx
  trans := fun _ _ _ h k => h.trans k
  alloc := fun W o h => Kr.of (fun i hi => Nat.lt_of_lt_of_le (hb i hi) h.size) (below1 W o)
  old := fun _ p v h hp hP => h.cell p v hp (fun q => (hr _ q).2 hP)
  new := fun W o W' h k j v hv => k.cell _ v hv (fun q => by
    have hs := h.size
    have q' : Rwb bx W W.heap.size := Rwb.of (fun i hi => ⟨Nat.lt_of_lt_of_le (hb i hi) hs, Below.heap_alloc _ _ _ (Nat.lt_of_lt_of_le (hb i hi) hs)⟩) q
    have := h.lt (fun b hb => (hr b hb).1) q'
    omega)
theorem Elt.all {A B : World} {b o : Nat} {hd : Hd} {vl vt ve : Value} (h : Elt A b o hd vl vt ve) (k : ∀ j v, A.cell? ⟨b, j, none⟩ = some v → B.cell? ⟨b, j, none⟩ = some v) : Elt B b o hd vl vt ve :=
  ⟨k _ _ h.1, k _ _ h.2.1, k _ _ h.2.2.1, k _ _ h.2.2.2.1, k _ _ h.2.2.2.2.1, k _ _ h.2.2.2.2.2.1, k _ _ h.2.2.2.2.2.2.1, k _ _ h.2.2.2.2.2.2.2.1, k _ _ h.2.2.2.2.2.2.2.2⟩
end Go.Proofs.YtalahdkgigcpfaaDoor
