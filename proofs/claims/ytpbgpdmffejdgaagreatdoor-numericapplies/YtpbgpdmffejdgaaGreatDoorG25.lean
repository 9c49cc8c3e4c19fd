/- MNew, MInR, MInQ, MInT. -/
import Derived.Test.YtpbgpdmffejdgaaGreatDoorG01
import Derived.Test.YtpbgpdmffejdgaaGreatDoorG20
import Derived.Test.YtpbgpdmffejdgaaGreatDoorG21
import Derived.Test.YtpbgpdmffejdgaaGreatDoorG24
namespace Go.Proofs.YtpbgpdmffejdgaaGreatDoor
open Go.RowKit
section
variable {P : Program} {ops : Array Oper} {Q : Exit → Act → World → Prop} {md : Region.Mode} {S : World → Prop}
def bg (ops : Array Oper) (j d : Nat) : Bool:=
 match ops[j]? with
 | some o => !(o.looksAt ops).contains d && o.dst != some d
 | none => false
theorem eO {j d : Nat} {v : Value} (hn : bg ops j d = true) (hs : Region.noSelect ops = true)
 (hQ : ∀ c a w,Q (.panic c) a w → Q (.panic c) (a.put (some d) v) w) {K : Act → World → Prop} {a : Act} {w : World}
 (h : wpOp P ops Q j (fun a' w' => K (a'.put (some d) v) w') a w) : wpOp P ops Q j K (a.put (some d) v) w:=by
 unfold bg at hn
 cases hj : ops[j]? with
 | none => simp [hj] at hn
 | some oj =>
  simp [hj] at hn
  obtain ⟨h1',h2'⟩:=hn
  have h1 : ∀ e,some d = some e → e ∉ oj.looksAt ops:=fun e he => by injection he with he; subst he; exact h1'
  have h2 : ∀ e,oj.dst = some e → some d ≠ some e:=fun e he hd => h2' (by rw [he,hd])
  have hsj : ∀ cs b,oj.op ≠ .select cs b:=fun cs b => Region.noSelect_spec hs j oj cs b hj
  unfold wpOp at *
  simp only [hj] at *
  rw [wanted_put oj a (some d) v h1]
  split
  ·rename_i hw
   simp only [hw,if_true] at h
   rcases h with h | ⟨hasks,hlets⟩
   case inr => exact .inr ⟨by unfold Oper.asks at *; rw [execOp_put oj hsj a (some d) v h1]; exact hasks,hlets⟩
   refine .inl ?_
   unfold Oper.wp at *
   rw [execOp_put oj hsj a (some d) v h1]
   generalize (execOp a.eval oj).run P w = r at *
   cases r with
   | ok n w' =>
    cases n <;> simp only [Oper.upon] at h ⊢
    case value u => rw [← Act.put_comm a u v h2]; exact h
    case skip => rw [← Act.put_comm a undef v h2]; exact h
    case defer dd =>
     rw [Act.put_defers,← Act.put_comm _ undef v h2]
     exact h
    case enter f args =>
     refine Calls.mono h fun e w'' he => ?_
     cases e with
     | returned u => simp only [] at he ⊢; rw [← Act.put_comm a u v h2]; exact he
     | panicked c => exact hQ _ _ _ he
     | outgrown => exact he
    case row row args => exact Rows.mono h fun u w'' he => by rw [← Act.put_comm a u v h2]; exact he
   | halt x w' =>
    cases x <;> simp only [Oper.upon] at h ⊢
    case panic u => exact hQ _ _ _ h
    all_goals exact h
  ·rename_i hw
   simp only [hw] at h
   rw [← Act.put_comm a undef v h2]; exact h
def ptr (b : Nat) : Value:=.pointer (some ⟨b,0,none⟩)
structure aY (N : Nat) (vs : Array Value) (b : Nat) (w : World) : Prop where
 cell : ∀ o v,vs[o]? = some v → w.cell? ⟨b,o,none⟩ = some v
 thawed : ∀ o,w.frozen? ⟨b,o,none⟩ = false
 size : b < w.heap.size
 base : N ≤ b
theorem aY.below {N b : Nat} {vs : Array Value} {w w' : World} (h : aY N vs b w) (hb : Below w.heap.size w w') : aY N vs b w':=
 ⟨fun o v hv => by rw [hb.cell (p:=⟨b,o,none⟩) h.size]; exact h.cell o v hv,fun o => by rw [hb.frozen (p:=⟨b,o,none⟩) h.size]; exact h.thawed o,Nat.lt_of_lt_of_le h.size hb.size,h.base⟩
theorem aY.new {N : Nat} {vs : Array Value} {t : TypeId} {w : World} (h : N ≤ w.heap.size) : aY N vs w.heap.size (w.alloc (.cells vs t)):=
 ⟨fun o v hv => by rw [World.cell?_alloc_new]; exact hv,fun o => by simp [go_sem],by simp,h⟩
def kY (P : Program) (ops : Array Oper) (Q : Exit → Act → World → Prop) (i d : Nat) (vs : Array Value) (t : TypeId) : Prop:=
 ∀ (a : Act) (w : World) (K : Act → World → Prop),K (a.put (some d) (ptr w.heap.size)) (w.alloc (.cells vs t)) → wpOp P ops Q i K a w
theorem dw {L : Array Bool} {i : Nat} : i ∉ Region.ready md ops (L.setIfInBounds i true):=by
 intro h
 have h0:=(mem_ready.1 h).1
 rw [Array.getD_eq_getD_getElem?,Array.getElem?_setIfInBounds] at h0
 simp at h0
 split at h0 <;> simp_all
theorem ay {T : World → Prop} (h : aP T) {w : World} (hT : T w) (o : Obj) : T (w.alloc o):=h _ _ hT (ae _ _)
theorem dz {i d : Nat} {oi : Oper} {v p : Value} {a : Act} (hi : ops[i]? = some oi) (hs : Region.noSelect ops = true) (hn : bg ops i d = true) (h : YieldsIf P ops S oi v a) : YieldsIf P ops S oi v (a.put (some d) p):=by
 unfold bg at hn
 simp [hi] at hn
 have h1 : ∀ e,some d = some e → e ∉ oi.looksAt ops:=fun e he => by injection he with he; subst he; exact hn.1
 exact h.of_same (execOp_put oi (fun cs b => Region.noSelect_spec hs i oi cs b hi) a (some d) p h1) (wanted_put oi a (some d) p h1)
theorem nk {i d : Nat} {oi : Oper} (hi : ops[i]? = some oi) (hn : bg ops i d = true) : ∀ e,oi.dst = some e → some d ≠ some e:=by
 unfold bg at hn
 simp [hi] at hn
 exact fun e he hd => hn.2 (by rw [he,hd])
def WO (P : Program) (ops : Array Oper) (Q : Exit → Act → World → Prop) (md : Region.Mode) (S : World → Prop) (N i1 d1 : Nat) (v1 : Array Value) (f : Nat) : Nat → Array Bool → Act → (World → Prop) → Prop
 | 0,L,a,T => (!(Region.ready md ops L).isEmpty && (Region.ready md ops L).all (fun j => j == i1)) = true ∧
  ∀ w b1,S w → T w → aY N v1 b1 w → wpAnyH P md ops Q S f (L.setIfInBounds i1 true) (a.put (some d1) (ptr b1)) w
 | n + 1,L,a,T =>
  (∃ i oi v,ops[i]? = some oi ∧ [L,L.setIfInBounds i1 true].all (fun L' => Region.free md ops L' i && (Region.ready md ops L').contains i) = true ∧ bg ops i d1 = true ∧ i ≠ i1 ∧
   (∀ c a w,Q (.panic c) (a.put oi.dst v) w → Q (.panic c) a w) ∧ YieldsIf P ops S oi v a ∧ WO P ops Q md S N i1 d1 v1 f n (L.setIfInBounds i true) (a.put oi.dst v) T) ∨
  (∃ c,[L,L.setIfInBounds i1 true].all (fun L' => !(Region.ready md ops L').isEmpty && (Region.ready md ops L').all (fun j => j == c || j == i1)) = true ∧ bg ops c d1 = true ∧ c ≠ i1 ∧
   ∀ w,S w → T w → wpOp P ops Q c (fun a' w' => Below w.heap.size w w' ∧ ∃ T',aP T' ∧ T' w' ∧ WO P ops Q md S N i1 d1 v1 f n (L.setIfInBounds c true) a' T') a w)
variable {N i1 d1 : Nat} {v1 : Array Value} {t1 : TypeId} {f : Nat}
theorem aky (hs : Region.noSelect ops = true) (hQ : ∀ c a d v w,Q (.panic c) a w → Q (.panic c) (a.put (some d) v) w) (hS : aP S) (m1 : kY P ops Q i1 d1 v1 t1) :
 ∀ (n : Nat) (L : Array Bool) (a : Act) (T : World → Prop),aP T → WO P ops Q md S N i1 d1 v1 f n L a T →
  (∀ w,S w → T w → N ≤ w.heap.size → wpAnyH P md ops Q S (f + n + 1) L a w) ∧
  (∀ w b1,S w → T w → N ≤ w.heap.size → aY N v1 b1 w → wpAnyH P md ops Q S (f + n) (L.setIfInBounds i1 true) (a.put (some d1) (ptr b1)) w):=by
 intro n
 induction n with
 | zero =>
  intro L a T hT h
  obtain ⟨hr,h1⟩:=h
  simp only [Bool.and_eq_true,List.all_eq_true,beq_iff_eq,Bool.not_eq_true',List.isEmpty_eq_false_iff] at hr
  obtain ⟨e0,r0⟩:=hr
  have g1 : ∀ w b1,S w → T w → N ≤ w.heap.size → aY N v1 b1 w → wpAnyH P md ops Q S (f + 0) (L.setIfInBounds i1 true) (a.put (some d1) (ptr b1)) w:=
   fun w b1 hSw hTw _ k1 => h1 w b1 hSw hTw k1
  refine ⟨?_,g1⟩
  intro w hSw hTw hN
  refine ⟨fun h => absurd h e0,fun j hj => ?_⟩
  have hji:=r0 j hj
  subst hji
  exact m1 _ _ _ ⟨ay hS hSw _,g1 _ _ (ay hS hSw _) (ay hT hTw _) (by simp; omega) (aY.new hN)⟩
 | succ n ih =>
  intro L a T hT h
  rcases h with ⟨i,oi,v,ho,hr,nt1,hi1,hP,hy,hW⟩ | ⟨c,hr,nt1,hc1,hc⟩
  ·obtain ⟨h0,h1⟩:=ih _ _ T hT hW
   simp only [List.all_cons,List.all_nil,Bool.and_true,Bool.and_eq_true] at hr
   obtain ⟨⟨f0,r0⟩,⟨f1,r1⟩⟩:=hr
   refine ⟨?_,?_⟩
   ·intro w hSw hTw hN
    exact wpAnyH_take ho hs f0 r0 hP hy hSw (h0 w hSw hTw hN)
   ·intro w b1 hSw hTw hN k1
    refine wpAnyH_take ho hs f1 r1 hP (dz ho hs nt1 hy) hSw ?_
    rw [← Act.put_comm a _ _ (nk ho nt1),← Array.setIfInBounds_comm _ _ hi1]
    exact h1 w b1 hSw hTw hN k1
  ·simp only [List.all_cons,List.all_nil,Bool.and_true,Bool.and_eq_true,List.all_eq_true,Bool.or_eq_true,beq_iff_eq,Bool.not_eq_true',List.isEmpty_eq_false_iff] at hr
   obtain ⟨⟨e0,r0⟩,⟨e1,r1⟩⟩:=hr
   have sz : ∀ {w w' : World},N ≤ w.heap.size → Below w.heap.size w w' → N ≤ w'.heap.size:=fun h k => Nat.le_trans h k.size
   have g1 : ∀ w b1,S w → T w → N ≤ w.heap.size → aY N v1 b1 w → wpAnyH P md ops Q S (f + (n + 1)) (L.setIfInBounds i1 true) (a.put (some d1) (ptr b1)) w:=by
    intro w b1 hSw hTw hN k1
    refine ⟨fun h => absurd h e1,fun j hj => ?_⟩
    rcases r1 j hj with rfl | rfl
    ·refine eO nt1 hs (fun c a w h => hQ c a _ _ w h) (wpOp_mono (fun a' w' hh => ?_) (hc w hSw hTw))
     obtain ⟨hB,T',hT',hTw',hW⟩:=hh
     refine ⟨hS _ _ hSw hB,?_⟩
     rw [← Array.setIfInBounds_comm _ _ hc1]
     exact (ih _ _ T' hT' hW).2 w' b1 (hS _ _ hSw hB) hTw' (sz hN hB) (k1.below hB)
    ·exact absurd hj dw
   refine ⟨?_,g1⟩
   intro w hSw hTw hN
   refine ⟨fun h => absurd h e0,fun j hj => ?_⟩
   rcases r0 j hj with rfl | rfl
   ·refine wpOp_mono (fun a' w' hh => ?_) (hc w hSw hTw)
    obtain ⟨hB,T',hT',hTw',hW⟩:=hh
    exact ⟨hS _ _ hSw hB,(ih _ _ T' hT' hW).1 w' (hS _ _ hSw hB) hTw' (sz hN hB)⟩
   ·exact m1 _ _ _ ⟨ay hS hSw _,g1 _ _ (ay hS hSw _) (ay hT hTw _) (by simp; omega) (aY.new hN)⟩
theorem bF {m n : Nat} {L : Array Bool} {a : Act} {T : World → Prop} {w : World} (hm : m = f + n + 1) (hs : Region.noSelect ops = true) (hQ : ∀ c a d v w,Q (.panic c) a w → Q (.panic c) (a.put (some d) v) w) (hS : aP S)
 (m1 : kY P ops Q i1 d1 v1 t1) (hT : aP T) (hSw : S w) (hTw : T w) (hN : N ≤ w.heap.size) (h : WO P ops Q md S N i1 d1 v1 f n L a T) : wpAnyH P md ops Q S m L a w:=by
 subst hm
 exact (aky hs hQ hS m1 n L a T hT h).1 w hSw hTw hN
theorem aeb {i : Nat} {oi : Oper} {v : Value} {n : Nat} {L : Array Bool} {a : Act} {T : World → Prop} (ho : ops[i]? = some oi)
 (hr : [L,L.setIfInBounds i1 true].all (fun L' => Region.free md ops L' i && (Region.ready md ops L').contains i) = true) (ht : (bg ops i d1 && i != i1) = true)
 (hQ : ∀ c a w,Q (.panic c) (a.put oi.dst v) w → Q (.panic c) a w) (hy : YieldsIf P ops S oi v a) (h : WO P ops Q md S N i1 d1 v1 f n (L.setIfInBounds i true) (a.put oi.dst v) T) :
 WO P ops Q md S N i1 d1 v1 f (n + 1) L a T:=by
 simp at ht
 exact Or.inl ⟨i,oi,v,ho,hr,ht.1,ht.2,hQ,hy,h⟩
theorem woA (i d : Nat) {v : Value} {op : Op} {ty : TypeId} {pos : String} {af : Array Edge} {g : Option (Nat × Bool)} {n : Nat} {L : Array Bool} {a a' : Act} {T : World → Prop}
 (h : WO P ops Q md S N i1 d1 v1 f n (L.setIfInBounds i true) a' T)
 (ho : ops[i]? = some ⟨some d,op,ty,pos,af,g⟩:=by rfl)
 (hr : [L,L.setIfInBounds i1 true].all (fun L' => Region.free md ops L' i && (Region.ready md ops L').contains i) = true:=by kernel_rfl) (ht : (bg ops i d1 && i != i1) = true:=by kernel_rfl)
 (hQ : ∀ c a w,Q (.panic c) (a.put (some d) v) w → Q (.panic c) a w:=by exact fun _ _ _ h => h)
 (hy : YieldsIf P ops S ⟨some d,op,ty,pos,af,g⟩ v a:=by exact Or.inl ⟨by rfl,fun w hSw => by (try dsimp only at hSw); go_simp; with_reducible rfl⟩)
 (ha : a.put (some d) v = a':=by ((try simp only [Act.put,List.setIfInBounds_toArray,List.set_cons_zero,List.set_cons_succ]); rfl)) :
 WO P ops Q md S N i1 d1 v1 f (n + 1) L a T:=by
 subst ha
 exact aeb ho hr ht hQ hy h
theorem bv {c : Nat} {o : Oper} {n : Nat} {L : Array Bool} {a : Act} {T : World → Prop} (ho : ops[c]? = some o)
 (hr : [L,L.setIfInBounds i1 true].all (fun L' => !(Region.ready md ops L').isEmpty && (Region.ready md ops L').all (fun j => j == c || j == i1)) = true) (ht : (bg ops c d1 && c != i1) = true)
 (h : ∀ w,S w → T w → ∀ K' : Act → World → Prop,Shut (∀ a' w' T',Below w.heap.size w w' → aP T' → T' w' → WO P ops Q md S N i1 d1 v1 f n (L.setIfInBounds c true) a' T' → K' a' w') → if Region.wanted o (yielded ops a.tmps) = true then Oper.wp P o a w K' Q else K' (a.put o.dst undef) w) :
 WO P ops Q md S N i1 d1 v1 f (n + 1) L a T:=by
 simp at ht
 refine Or.inr ⟨c,hr,ht.1,ht.2,fun w hSw hTw => ?_⟩
 exact wpOp_step ho (fun K' hK => h w hSw hTw K' (fun a' w' T' hB hT' hTw' hW => hK a' w' ⟨hB,T',hT',hTw',hW⟩))
theorem cQ {L : Array Bool} {a : Act} {T : World → Prop} (hr : (!(Region.ready md ops L).isEmpty && (Region.ready md ops L).all (fun j => j == i1)) = true)
 (h : ∀ w b1,S w → T w → aY N v1 b1 w → wpAnyH P md ops Q S f (L.setIfInBounds i1 true) (a.put (some d1) (ptr b1)) w) :
 WO P ops Q md S N i1 d1 v1 f 0 L a T:=⟨hr,h⟩
theorem ao (w0 : World) : aP (fun w => Below w0.heap.size w0 w):=fun _ _ h k => ac h k
end
set_option maxHeartbeats 4000000
set_option maxRecDepth 100000
open Go.Proofs.YtpbgpdmffejdgaaGreatDoor.W
theorem ap0 {w a c : Int} (HC : Ct 41 #[.int .i64 w,.int .u64 a] (.int .u64 c)) (c0 : 0 ≤ c) (c1 : c < 18446744073709551616) : Hid (∀ W,Calls Tryz.prog 193 #[.int .i64 w,.int .u64 a] W fun e w' => ∃ s,e = .returned (.agg #[s]) ∧ ai w' s (c.toNat) ∧ Below W.heap.size W w'):=by
 refine ab (fun W => ?_)
 go_enter Tryz.func193,Tryz.ntmps193
 go_wp2_with fail
 have HB:=ab (ae W (.cells #[.slice none 0 0] 41))
 have HC0 : Hid ((W.alloc (.cells #[.slice none 0 0] 41)).cell? ⟨W.heap.size,0,none⟩ = some (.slice none 0 0) ∧ (W.alloc (.cells #[.slice none 0 0] 41)).frozen? ⟨W.heap.size,0,none⟩ = false):=by unfold Hid; simp [go_sem]
 refine cg1 HC fun w1 hb => ?_
 have HB:=bt HB hb
 have HC0:=ab (And.intro (aw hb (ag (aa HC0).1) (aa HC0).1) ((hb.frozen (ag (aa HC0).1)).trans (aa HC0).2))
 clear hb
 go_wp2_with fail
 refine (aE c _ c0 c1).mono ?_
 rintro _ w2 ⟨s2,rfl,hN,hb⟩
 obtain ⟨a2,m2,c2,rfl⟩:=hN.slice
 have HB:=bt HB hb
 have HC0:=ab (And.intro (aw hb (ag (aa HC0).1) (aa HC0).1) ((hb.frozen (ag (aa HC0).1)).trans (aa HC0).2))
 have HN:=ab hN
 clear hb hN
 obtain ⟨d0,d1⟩:=aa HC0
 go_wp2
 refine bodyPost_ret (v:=.agg #[.slice a2 m2 c2]) (by simp [results,Tryz.results193,go_sem,d0]) rfl ⟨_,rfl,(aa HN).store d0 _,aZ (aa HB) _ (Nat.le_refl _) _ _⟩
theorem jU {w H M : Int} {n : Nat} (k : Wm w n H M) {a : Int} (ha : Rg a) : Hid (∀ W,Calls Tryz.prog 193 #[.int .i64 w,.int .u64 a] W fun e w' => ∃ s,e = .returned (.agg #[s]) ∧ ai w' s ((a % M).toNat) ∧ Below W.heap.size W w'):=ap0 (bR k ha) (k.rg a).1 (k.rg a).2
theorem ap1 {w c : Int} {x : Nat} (HC : Ct 41 #[.int .i64 w,.int .u64 (lo x)] (.int .u64 c)) : Hid (∀ (a1 : Option Addr) (m1 c1 : Nat) W,ai W (.slice a1 m1 c1) x → Calls Tryz.prog 191 #[.int .i64 w,.agg #[.slice a1 m1 c1]] W fun r W' => r = .returned (.int .u64 c) ∧ Below W.heap.size W W'):=by
 refine ab (fun a1 m1 c1 W hN => ?_)
 have HN:=ab (hN.alloc (.cells #[.slice a1 m1 c1] 41))
 clear hN
 go_enter Tryz.func191,Tryz.ntmps191
 go_wp2_with fail
 have HB:=ab (ae W (.cells #[.slice a1 m1 c1] 41))
 refine (ek _ _ _ _ _ (aa HN)).mono ?_
 rintro _ w1 ⟨rfl,hb⟩
 have HB:=bt HB hb
 clear hb
 go_wp2_with fail
 refine cg0 HC HB fun w2 HB => ?_
 go_wp2_with fail
 go_ret
 exact ⟨rfl,aa HB⟩
theorem lC {w H M : Int} {n : Nat} (k : Wm w n H M) (x : Nat) : Hid (∀ (a1 : Option Addr) (m1 c1 : Nat) W,ai W (.slice a1 m1 c1) x → Calls Tryz.prog 191 #[.int .i64 w,.agg #[.slice a1 m1 c1]] W fun r W' => r = .returned (.int .u64 ((x : Int) % M)) ∧ Below W.heap.size W W'):=by
 have h:=bR k (a:=lo x) (by unfold Rg lo; omega)
 rw [show lo x % M = (x : Int) % M by unfold lo; rcases k with ⟨rfl,rfl,rfl,rfl⟩ | ⟨rfl,rfl,rfl,rfl⟩ <;> omega] at h
 exact ap1 h
theorem rp {x : Int} (h : Rg x) : x.toNat < pw 2:=by rw [lu]; unfold Rg at h; omega
theorem ap2 {w a b r : Int} {x y : Nat} (HA : Hid (∀ W,Calls Tryz.prog 193 #[.int .i64 w,.int .u64 a] W fun e w' => ∃ s,e = .returned (.agg #[s]) ∧ ai w' s (x) ∧ Below W.heap.size W w')) (HD : Hid (∀ W,Calls Tryz.prog 193 #[.int .i64 w,.int .u64 b] W fun e w' => ∃ s,e = .returned (.agg #[s]) ∧ ai w' s (y) ∧ Below W.heap.size W w')) (hx : x < pw 2) (hy : y < pw 2)
 (HM : Hid (∀ (a1 : Option Addr) (m1 c1 : Nat) W,ai W (.slice a1 m1 c1) (x + y) → Calls Tryz.prog 191 #[.int .i64 w,.agg #[.slice a1 m1 c1]] W fun r' W' => r' = .returned (.int .u64 r) ∧ Below W.heap.size W W')) : Ct 196 #[.int .i64 w,.int .u64 a,.int .u64 b] (.int .u64 r):=by
 refine ab (fun W => ?_)
 have HB:=rf W
 go_enter Tryz.func196,Tryz.ntmps196
 go_wp2_with fail
 refine (aa HA _).mono ?_
 rintro _ w1 ⟨s1,rfl,hN,hb⟩
 obtain ⟨a1,m1,c1,rfl⟩:=hN.slice
 have HB:=bt HB hb
 have HN1:=ab hN
 clear hb hN
 go_wp2_with fail
 refine (aa HD _).mono ?_
 rintro _ w2 ⟨s2,rfl,hN,hb⟩
 obtain ⟨a2,m2,c2,rfl⟩:=hN.slice
 have HB:=bt HB hb
 have HN1:=ab ((aa HN1).below hb)
 have HN2:=ab hN
 clear hb hN
 go_wp2_with fail
 have z1:=(aa HN1).short hx
 have z2:=(aa HN2).short hy
 refine (bO _ _ _ _ _ _ _ _ _ (aa HN1) (aa HN2) (by omega) (by omega)).mono ?_
 rintro _ w3 ⟨s3,rfl,hN,hb⟩
 obtain ⟨a3,m3,c3,rfl⟩:=hN.slice
 have HB:=bt HB hb
 have HN3:=ab hN
 clear hb hN
 go_wp2_with fail
 refine (aa HM _ _ _ _ (aa HN3)).mono ?_
 rintro _ w4 ⟨rfl,hb⟩
 have HB:=bt HB hb
 clear hb
 go_wp2_with fail
 go_ret
 exact ⟨rfl,aa HB⟩
theorem ap3 {w a b r : Int} {x y : Nat} (HA : Hid (∀ W,Calls Tryz.prog 193 #[.int .i64 w,.int .u64 a] W fun e w' => ∃ s,e = .returned (.agg #[s]) ∧ ai w' s (x) ∧ Below W.heap.size W w')) (HD : Hid (∀ W,Calls Tryz.prog 193 #[.int .i64 w,.int .u64 b] W fun e w' => ∃ s,e = .returned (.agg #[s]) ∧ ai w' s (y) ∧ Below W.heap.size W w')) (hx : x < pw 2) (hy : y < pw 2)
 (HM : Hid (∀ (a1 : Option Addr) (m1 c1 : Nat) W,ai W (.slice a1 m1 c1) (x * y) → Calls Tryz.prog 191 #[.int .i64 w,.agg #[.slice a1 m1 c1]] W fun r' W' => r' = .returned (.int .u64 r) ∧ Below W.heap.size W W')) : Ct 197 #[.int .i64 w,.int .u64 a,.int .u64 b] (.int .u64 r):=by
 refine ab (fun W => ?_)
 have HB:=rf W
 go_enter Tryz.func197,Tryz.ntmps197
 go_wp2_with fail
 refine (aa HA _).mono ?_
 rintro _ w1 ⟨s1,rfl,hN,hb⟩
 obtain ⟨a1,m1,c1,rfl⟩:=hN.slice
 have HB:=bt HB hb
 have HN1:=ab hN
 clear hb hN
 go_wp2_with fail
 refine (aa HD _).mono ?_
 rintro _ w2 ⟨s2,rfl,hN,hb⟩
 obtain ⟨a2,m2,c2,rfl⟩:=hN.slice
 have HB:=bt HB hb
 have HN1:=ab ((aa HN1).below hb)
 have HN2:=ab hN
 clear hb hN
 go_wp2_with fail
 have z1:=(aa HN1).short hx
 have z2:=(aa HN2).short hy
 refine (fc _ _ _ _ _ _ _ _ _ (aa HN1) (aa HN2) (by omega) (by omega)).mono ?_
 rintro _ w3 ⟨s3,rfl,hN,hb⟩
 obtain ⟨a3,m3,c3,rfl⟩:=hN.slice
 have HB:=bt HB hb
 have HN3:=ab hN
 clear hb hN
 go_wp2_with fail
 refine (aa HM _ _ _ _ (aa HN3)).mono ?_
 rintro _ w4 ⟨rfl,hb⟩
 have HB:=bt HB hb
 clear hb
 go_wp2_with fail
 go_ret
 exact ⟨rfl,aa HB⟩
theorem ap4 {a b r : Int} {n x y : Nat} (hn : n ≤ 64) (HA : Hid (∀ W,Calls Tryz.prog 193 #[.int .i64 (n : Int),.int .u64 a] W fun e w' => ∃ s,e = .returned (.agg #[s]) ∧ ai w' s (x) ∧ Below W.heap.size W w')) (HD : Hid (∀ W,Calls Tryz.prog 193 #[.int .i64 (n : Int),.int .u64 b] W fun e w' => ∃ s,e = .returned (.agg #[s]) ∧ ai w' s (y) ∧ Below W.heap.size W w')) (hx : x < pw 2) (hle : y ≤ x + 1 * 2 ^ n)
 (HM : Hid (∀ (a1 : Option Addr) (m1 c1 : Nat) W,ai W (.slice a1 m1 c1) (x + 1 * 2 ^ n - y) → Calls Tryz.prog 191 #[.int .i64 (n : Int),.agg #[.slice a1 m1 c1]] W fun r' W' => r' = .returned (.int .u64 r) ∧ Below W.heap.size W W')) : Ct 192 #[.int .i64 (n : Int),.int .u64 a,.int .u64 b] (.int .u64 r):=by
 have hp : 1 * 2 ^ n < pw 4:=by
  have:=Nat.pow_le_pow_right (show 0 < 2 by omega) hn
  rw [rh]
  omega
 have hp4 : pw 2 ≤ pw 4:=fZ (by omega)
 have hs : x + 1 * 2 ^ n < pw 5:=by rw [b8]; omega
 refine ab (fun W => ?_)
 have HB:=rf W
 go_enter Tryz.func192,Tryz.ntmps192
 go_wp2_with fail
 refine (aa HA _).mono ?_
 rintro _ w1 ⟨s1,rfl,hN,hb⟩
 obtain ⟨a1,m1,c1,rfl⟩:=hN.slice
 have HB:=bt HB hb
 have HN1:=ab hN
 clear hb hN
 go_wp2_with fail
 refine (dN _).mono ?_
 rintro _ w2 ⟨s2,rfl,hN,hb⟩
 obtain ⟨a2,m2,c2,rfl⟩:=hN.slice
 have HB:=bt HB hb
 have HN1:=ab ((aa HN1).below hb)
 have HN2:=ab hN
 clear hb hN
 go_wp2_with fail
 have z2:=(aa HN2).short (show 1 < pw 4 by rw [rh]; omega)
 refine (cB _ _ _ _ n _ (aa HN2) (by omega) (by omega)).mono ?_
 rintro _ w3 ⟨s3,rfl,hN,hb⟩
 obtain ⟨a3,m3,c3,rfl⟩:=hN.slice
 have HB:=bt HB hb
 have HN1:=ab ((aa HN1).below hb)
 have HN3:=ab hN
 clear hb hN HN2
 go_wp2_with fail
 have z1:=(aa HN1).short hx
 have z3:=(aa HN3).short hp
 generalize 1 * 2 ^ n = T at *
 refine (bO _ _ _ _ _ _ _ _ _ (aa HN1) (aa HN3) (by omega) (by omega)).mono ?_
 rintro _ w4 ⟨s4,rfl,hN,hb⟩
 obtain ⟨a4,m4,c4,rfl⟩:=hN.slice
 have z4:=hN.short hs
 have HB:=ab ((ad (ac (aa HB) hb) (.cells #[.slice a4 m4 c4] 41)).drew)
 have HN4:=ab ((hN.alloc (.cells #[.slice a4 m4 c4] 41)).below ((Below.refl _ _).drew))
 have HC0 : Hid ((w4.alloc (.cells #[.slice a4 m4 c4] 41)).drew.cell? ⟨w4.heap.size,0,none⟩ = some (.slice a4 m4 c4)):=by unfold Hid; simp [go_sem]
 clear hb hN HN1 HN3
 go_wp2_with fail
 refine wp_region_held_drew (S:=fun w' => w'.cell? ⟨w4.heap.size,0,none⟩ = some (.slice a4 m4 c4)) (by kernel_rfl) ?_ (fun hHeld => ?_)
 ·(try dsimp only)
  exact aa HC0
 refine aC 8 (by kernel_rfl) ?_
 refine tkA 0 15 1 ?_
 refine tkA 1 16 3 ?_
 refine tkA 2 17 7 ?_
 refine tkA 3 18 15 ?_
 refine rdA 4 31 (fun Kk hKk => ?_)
 go_simp
 refine (aa HD _).mono ?_
 rintro _ w5 ⟨s5,rfl,hN,hb⟩
 obtain ⟨a5,m5,c5,rfl⟩:=hN.slice
 have HB:=bt HB hb
 have HN4:=ab ((aa HN4).below hb)
 have HN5:=ab hN
 have HC0:=ab (aw hb (ag (aa HC0)) (aa HC0))
 clear hb hN
 (try go_wp2_with fail)
 refine oA hKk (aa HC0) fun hHeld => ?_
 clear hKk Kk
 refine rdA 5 63 (fun Kk hKk => ?_)
 go_simp
 refine (ix _ _ _ _ _ _ _ _ _ (aa HN4) (aa HN5) (by omega) hle).mono ?_
 rintro _ w6 ⟨s6,rfl,hN,hb⟩
 obtain ⟨a6,m6,c6,rfl⟩:=hN.slice
 have HB:=bt HB hb
 have HN6:=ab hN
 have HC0:=ab (aw hb (ag (aa HC0)) (aa HC0))
 clear hb hN
 (try go_wp2_with fail)
 refine oA hKk (aa HC0) fun hHeld => ?_
 clear hKk Kk
 refine rdA 6 127 (fun Kk hKk => ?_)
 go_simp
 refine (aa HM _ _ _ _ (aa HN6)).mono ?_
 rintro _ w7 ⟨rfl,hb⟩
 have HB:=bt HB hb
 have HC0:=ab (aw hb (ag (aa HC0)) (aa HC0))
 clear hb
 (try go_wp2_with fail)
 refine oA hKk (aa HC0) fun hHeld => ?_
 clear hKk Kk
 refine tkA 7 6 255 ?_
 refine wpAnyH_done (by kernel_rfl) ?_ _
 clear hHeld
 go_wp2_with fail
 go_ret
 exact ⟨rfl,aa HB⟩
theorem al1 {w H M : Int} {n : Nat} (k : Wm w n H M) {a b : Int} (ha : Rg a) (hb : Rg b) : Ct 196 #[.int .i64 w,.int .u64 a,.int .u64 b] (.int .u64 ((a + b) % M)):=by
 have h:=ap2 (jU k ha) (jU k hb) (rp (k.rg a)) (rp (k.rg b)) (lC k _)
 refine ee h ?_
 obtain ⟨a0,-⟩:=k.cut a
 obtain ⟨b0,-⟩:=k.cut b
 rw [Int.natCast_add,Int.toNat_of_nonneg a0,Int.toNat_of_nonneg b0,← Int.add_emod]
theorem al2 {w H M : Int} {n : Nat} (k : Wm w n H M) {a b : Int} (ha : Rg a) (hb : Rg b) : Ct 197 #[.int .i64 w,.int .u64 a,.int .u64 b] (.int .u64 (a * b % M)):=by
 have h:=ap3 (jU k ha) (jU k hb) (rp (k.rg a)) (rp (k.rg b)) (lC k _)
 refine ee h ?_
 obtain ⟨a0,-⟩:=k.cut a
 obtain ⟨b0,-⟩:=k.cut b
 rw [Int.natCast_mul,Int.toNat_of_nonneg a0,Int.toNat_of_nonneg b0,← Int.mul_emod]
theorem rr {w H M : Int} {n : Nat} (k : Wm w n H M) {a b : Int} (ha : Rg a) (hb : Rg b) : Ct 192 #[.int .i64 w,.int .u64 a,.int .u64 b] (.int .u64 ((a - b) % M)):=by
 obtain ⟨-,k2,k3,-,k5,-⟩:=k.two
 obtain ⟨a0,a1⟩:=k.cut a
 obtain ⟨b0,b1⟩:=k.cut b
 have hA:=jU k ha
 have hB:=jU k hb
 have hM:=lC k ((a % M).toNat + 1 * 2 ^ n - (b % M).toNat)
 have hr:=rp (k.rg a)
 have hle : (b % M).toNat ≤ (a % M).toNat + 1 * 2 ^ n:=by omega
 have he : ((((a % M).toNat + 1 * 2 ^ n - (b % M).toNat : Nat) : Int)) % M = (a - b) % M:=by
  rw [show (((a % M).toNat + 1 * 2 ^ n - (b % M).toNat : Nat) : Int) = a % M - b % M + M by omega,Int.add_emod_right,← Int.sub_emod]
 rw [k3] at hA hB hM ⊢
 exact ee (ap4 k5 hA hB hr hle hM) he
theorem agd {w a b q r : Int} {x y : Nat} (HA : Hid (∀ W,Calls Tryz.prog 193 #[.int .i64 w,.int .u64 a] W fun e w' => ∃ s,e = .returned (.agg #[s]) ∧ ai w' s (x) ∧ Below W.heap.size W w')) (HD : Hid (∀ W,Calls Tryz.prog 193 #[.int .i64 w,.int .u64 b] W fun e w' => ∃ s,e = .returned (.agg #[s]) ∧ ai w' s (y) ∧ Below W.heap.size W w')) (hx : x < pw 2) (hy : y < pw 2) (hy0 : y ≠ 0) (HM1 : Hid (∀ (a1 : Option Addr) (m1 c1 : Nat) W,ai W (.slice a1 m1 c1) (x / y) → Calls Tryz.prog 191 #[.int .i64 w,.agg #[.slice a1 m1 c1]] W fun r' W' => r' = .returned (.int .u64 q) ∧ Below W.heap.size W W')) (HM2 : Hid (∀ (a1 : Option Addr) (m1 c1 : Nat) W,ai W (.slice a1 m1 c1) (x % y) → Calls Tryz.prog 191 #[.int .i64 w,.agg #[.slice a1 m1 c1]] W fun r' W' => r' = .returned (.int .u64 r) ∧ Below W.heap.size W W')) : Ct 106 #[.int .i64 w,.int .u64 a,.int .u64 b] (.tuple #[.int .u64 q,.int .u64 r]):=by
 refine ab (fun W => ?_)
 have HB:=rf W
 go_enter Tryz.func106,Tryz.ntmps106
 go_wp2_with fail
 refine (aa HA _).mono ?_
 rintro _ w1 ⟨s1,rfl,hN,hb⟩
 obtain ⟨a1,m1,c1,rfl⟩:=hN.slice
 have HB:=bt HB hb
 have HN1:=ab hN
 clear hb hN
 go_wp2_with fail
 refine (aa HD _).mono ?_
 rintro _ w2 ⟨s2,rfl,hN,hb⟩
 obtain ⟨a2,m2,c2,rfl⟩:=hN.slice
 have HB:=bt HB hb
 have HN1:=ab ((aa HN1).below hb)
 have HN2:=ab hN
 clear hb hN
 go_wp2_with fail
 refine (cS _ _ _ _ _ _ _ _ _ (aa HN1) (aa HN2) hy0 (ck 300 hx (by omega)) (ck 300 hy (by omega))).mono ?_
 rintro _ w3 ⟨s3,s4,rfl,hN3,hN4,hb⟩
 obtain ⟨a3,m3,c3,rfl⟩:=hN3.slice
 obtain ⟨a4,m4,c4,rfl⟩:=hN4.slice
 have HB:=ab ((ad (ad (ac (aa HB) hb) (.cells #[.slice a3 m3 c3] 41)) (.cells #[.slice a4 m4 c4] 41)).drew)
 have HN3:=ab (((hN3.alloc (.cells #[.slice a3 m3 c3] 41)).alloc (.cells #[.slice a4 m4 c4] 41)).below ((Below.refl _ _).drew))
 have HN4:=ab (((hN4.alloc (.cells #[.slice a3 m3 c3] 41)).alloc (.cells #[.slice a4 m4 c4] 41)).below ((Below.refl _ _).drew))
 have HC3 : Hid (((w3.alloc (.cells #[.slice a3 m3 c3] 41)).alloc (.cells #[.slice a4 m4 c4] 41)).drew.cell? ⟨w3.heap.size,0,none⟩ = some (.slice a3 m3 c3)):=by unfold Hid; simp [go_sem]
 have HC4 : Hid (((w3.alloc (.cells #[.slice a3 m3 c3] 41)).alloc (.cells #[.slice a4 m4 c4] 41)).drew.cell? ⟨w3.heap.size + 1,0,none⟩ = some (.slice a4 m4 c4)):=by unfold Hid; simp [go_sem]
 clear hb hN3 hN4
 go_wp2_with fail
 refine wp_region_held_drew (S:=fun w' => w'.cell? ⟨w3.heap.size,0,none⟩ = some (.slice a3 m3 c3) ∧ w'.cell? ⟨w3.heap.size + 1,0,none⟩ = some (.slice a4 m4 c4)) (by kernel_rfl) ?_ (fun hHeld => ?_)
 ·(try dsimp only)
  exact ⟨aa HC3,aa HC4⟩
 refine aC 8 (by kernel_rfl) ?_
 refine tkA 0 20 1 ?_
 refine tkA 1 21 3 ?_
 refine tkA 3 23 11 ?_
 refine tkA 4 24 27 ?_
 refine rdA 2 31 (fun Kk hKk => ?_)
 go_simp
 refine (aa HM1 _ _ _ _ (aa HN3)).mono ?_
 rintro _ w5 ⟨rfl,hb⟩
 have HB:=bt HB hb
 have HN3:=ab ((aa HN3).below hb)
 have HN4:=ab ((aa HN4).below hb)
 have HC3:=ab (aw hb (ag (aa HC3)) (aa HC3))
 have HC4:=ab (aw hb (ag (aa HC4)) (aa HC4))
 clear hb
 (try go_wp2_with fail)
 refine oA hKk (⟨aa HC3,aa HC4⟩) fun hHeld => ?_
 clear hKk Kk
 refine rdA 5 63 (fun Kk hKk => ?_)
 go_simp
 refine (aa HM2 _ _ _ _ (aa HN4)).mono ?_
 rintro _ w6 ⟨rfl,hb⟩
 have HB:=bt HB hb
 have HN3:=ab ((aa HN3).below hb)
 have HN4:=ab ((aa HN4).below hb)
 have HC3:=ab (aw hb (ag (aa HC3)) (aa HC3))
 have HC4:=ab (aw hb (ag (aa HC4)) (aa HC4))
 clear hb
 (try go_wp2_with fail)
 refine oA hKk (⟨aa HC3,aa HC4⟩) fun hHeld => ?_
 clear hKk Kk
 refine tkA 6 6 127 ?_
 refine tkA 7 7 255 ?_
 refine wpAnyH_done (by kernel_rfl) ?_ _
 clear hHeld
 go_wp2_with fail
 go_ret2
 exact ⟨rfl,aa HB⟩
theorem kJ {w a b m n p r j T : Int} {sb : Int → Int} {sx sy : Bool} (HS1 : Ct 184 #[.int .i64 w,.int .u64 a] (.tuple #[.bool sx,.int .u64 m])) (HS2 : Ct 184 #[.int .i64 w,.int .u64 b] (.tuple #[.bool sy,.int .u64 n])) (m0 : 0 ≤ m) (m1 : m < 18446744073709551616) (n0 : 0 ≤ n) (n1 : n < 18446744073709551616) (hy0 : n.toNat ≠ 0) (HM1 : Hid (∀ (a1 : Option Addr) (m1 c1 : Nat) W,ai W (.slice a1 m1 c1) (m.toNat / n.toNat) → Calls Tryz.prog 191 #[.int .i64 w,.agg #[.slice a1 m1 c1]] W fun r' W' => r' = .returned (.int .u64 p) ∧ Below W.heap.size W W')) (HM2 : Hid (∀ (a1 : Option Addr) (m1 c1 : Nat) W,ai W (.slice a1 m1 c1) (m.toNat % n.toNat) → Calls Tryz.prog 191 #[.int .i64 w,.agg #[.slice a1 m1 c1]] W fun r' W' => r' = .returned (.int .u64 r) ∧ Below W.heap.size W W')) (hj : IntKind.i64.wrap (w - 1) = j) (HT : Ct 183 #[.int .i64 j] (.int .u64 T)) (T0 : 0 ≤ T) (T1 : T < 18446744073709551616) (HP : ∀ v,v = p ∨ v = r → Ct 192 #[.int .i64 w,.int .u64 0,.int .u64 v] (.int .u64 (sb v))) : Ct 105 #[.int .i64 w,.int .u64 a,.int .u64 b] (.tuple #[.int .u64 (if sx = sy then p else sb p),.int .u64 (if sx then sb r else r),.bool (sx == sy && aK (m.toNat / n.toNat) T.toNat == 0)]):=by
 have hx : m.toNat < pw 2:=by rw [lu]; omega
 have hy : n.toNat < pw 2:=by rw [lu]; omega
 refine ab (fun W => ?_)
 have HB:=rf W
 go_enter Tryz.func105,Tryz.ntmps105
 go_wp2_with fail
 refine cg0 HS1 HB fun wx HB => ?_
 go_wp2_with fail
 refine cg0 HS2 HB fun wy HB => ?_
 go_wp2_with fail
 refine (aE m _ m0 m1).mono ?_
 rintro _ w1 ⟨s1,rfl,hN,hb⟩
 obtain ⟨a1,m1,c1,rfl⟩:=hN.slice
 have HB:=bt HB hb
 have HN1:=ab hN
 clear hb hN
 go_wp2_with fail
 refine (aE n _ n0 n1).mono ?_
 rintro _ w2 ⟨s2,rfl,hN,hb⟩
 obtain ⟨a2,m2,c2,rfl⟩:=hN.slice
 have HB:=bt HB hb
 have HN1:=ab ((aa HN1).below hb)
 have HN2:=ab hN
 clear hb hN
 go_wp2_with fail
 refine (cS _ _ _ _ _ _ _ _ _ (aa HN1) (aa HN2) hy0 (ck 300 hx (by omega)) (ck 300 hy (by omega))).mono ?_
 rintro _ w3 ⟨s3,s4,rfl,hN3,hN4,hb⟩
 obtain ⟨a3,m3,c3,rfl⟩:=hN3.slice
 obtain ⟨a4,m4,c4,rfl⟩:=hN4.slice
 have HB:=ab ((ad (ad (ac (aa HB) hb) (.cells #[.slice a3 m3 c3] 41)) (.cells #[.slice a4 m4 c4] 41)).drew)
 have HN3:=ab (((hN3.alloc (.cells #[.slice a3 m3 c3] 41)).alloc (.cells #[.slice a4 m4 c4] 41)).below ((Below.refl _ _).drew))
 have HN4:=ab (((hN4.alloc (.cells #[.slice a3 m3 c3] 41)).alloc (.cells #[.slice a4 m4 c4] 41)).below ((Below.refl _ _).drew))
 have HC3 : Hid (((w3.alloc (.cells #[.slice a3 m3 c3] 41)).alloc (.cells #[.slice a4 m4 c4] 41)).drew.cell? ⟨w3.heap.size,0,none⟩ = some (.slice a3 m3 c3)):=by unfold Hid; simp [go_sem]
 have HC4 : Hid (((w3.alloc (.cells #[.slice a3 m3 c3] 41)).alloc (.cells #[.slice a4 m4 c4] 41)).drew.cell? ⟨w3.heap.size + 1,0,none⟩ = some (.slice a4 m4 c4)):=by unfold Hid; simp [go_sem]
 clear hb hN3 hN4
 go_wp2_with fail
 cases sx <;> cases sy
 case' false.false | true.true =>
  refine wp_region_held_drew (S:=fun w' => w'.cell? ⟨w3.heap.size,0,none⟩ = some (.slice a3 m3 c3) ∧ w'.cell? ⟨w3.heap.size + 1,0,none⟩ = some (.slice a4 m4 c4)) (by kernel_rfl) ?_ (fun hHeld => ?_)
  ·(try dsimp only)
   exact ⟨aa HC3,aa HC4⟩
  refine aC 13 (by kernel_rfl) ?_
  refine tkA 0 38 1 ?_
  refine tkA 1 39 3 ?_
  refine tkA 2 40 7 ?_
  refine tkA 3 41 15 ?_
  refine tkA 4 42 31 ?_
  refine tkA 5 43 63 ?_
  refine tkA 6 44 127 ?_
  refine rdA 7 255 (fun Kk hKk => ?_)
  go_simp
  refine cg1 HT fun w5 hb => ?_
  have HB:=bt HB hb
  have HN3:=ab ((aa HN3).below hb)
  have HN4:=ab ((aa HN4).below hb)
  have HC3:=ab (aw hb (ag (aa HC3)) (aa HC3))
  have HC4:=ab (aw hb (ag (aa HC4)) (aa HC4))
  clear hb
  (try go_wp2_with fail)
  refine oA hKk (⟨aa HC3,aa HC4⟩) fun hHeld => ?_
  clear hKk Kk
  refine rdA 8 511 (fun Kk hKk => ?_)
  go_simp
  refine (aE T _ T0 T1).mono ?_
  rintro _ w6 ⟨s6,rfl,hN,hb⟩
  obtain ⟨a6,m6,c6,rfl⟩:=hN.slice
  have HB:=bt HB hb
  have HN3:=ab ((aa HN3).below hb)
  have HN4:=ab ((aa HN4).below hb)
  have HC3:=ab (aw hb (ag (aa HC3)) (aa HC3))
  have HC4:=ab (aw hb (ag (aa HC4)) (aa HC4))
  have H6:=ab hN
  clear hb hN
  (try go_wp2_with fail)
  refine oA hKk (⟨aa HC3,aa HC4⟩) fun hHeld => ?_
  clear hKk Kk
  refine rdA 9 1023 (fun Kk hKk => ?_)
  go_simp
  refine (bc _ _ _ _ _ _ _ _ _ (aa HN3) (aa H6)).mono ?_
  rintro _ w7 ⟨rfl,hb⟩
  have HB:=bt HB hb
  have HN3:=ab ((aa HN3).below hb)
  have HN4:=ab ((aa HN4).below hb)
  have HC3:=ab (aw hb (ag (aa HC3)) (aa HC3))
  have HC4:=ab (aw hb (ag (aa HC4)) (aa HC4))
  clear hb H6
  (try go_wp2_with fail)
  refine oA hKk (⟨aa HC3,aa HC4⟩) fun hHeld => ?_
  clear hKk Kk
  refine tkA 10 48 2047 ?_
  refine tkA 11 49 4095 ?_
  refine tkA 12 15 8191 ?_
  refine wpAnyH_done (by kernel_rfl) ?_ _
  clear hHeld
 case' false.true | true.false =>
  refine wp_region_held_drew (S:=fun w' => w'.cell? ⟨w3.heap.size,0,none⟩ = some (.slice a3 m3 c3) ∧ w'.cell? ⟨w3.heap.size + 1,0,none⟩ = some (.slice a4 m4 c4)) (by kernel_rfl) ?_ (fun hHeld => ?_)
  ·(try dsimp only)
   exact ⟨aa HC3,aa HC4⟩
  refine aC 13 (by kernel_rfl) ?_
  refine tkA 0 38 1 ?_
  refine tkA 1 39 3 ?_
  refine tkA 2 40 7 ?_
  refine tkA 3 41 15 ?_
  refine tkU 4 42 31 ?_
  refine tkU 5 43 63 ?_
  refine tkU 6 44 127 ?_
  refine rdA 7 255 (fun Kk hKk => ?_)
  go_simp
  refine oA hKk (hHeld) fun hHeld => ?_
  clear hKk Kk
  refine rdA 8 511 (fun Kk hKk => ?_)
  go_simp
  refine oA hKk (hHeld) fun hHeld => ?_
  clear hKk Kk
  refine rdA 9 1023 (fun Kk hKk => ?_)
  go_simp
  refine oA hKk (hHeld) fun hHeld => ?_
  clear hKk Kk
  refine tkU 10 48 2047 ?_
  refine tkA 11 49 4095 ?_
  refine tkA 12 15 8191 ?_
  refine wpAnyH_done (by kernel_rfl) ?_ _
  clear hHeld
 all_goals
  have e3:=aa HC3
  have e4:=aa HC4
  go_wp2_with fail
  clear e3 e4
  refine (aa HM1 _ _ _ _ (aa HN3)).mono ?_
  rintro _ w8 ⟨rfl,hb⟩
  have HB:=bt HB hb
  have HN3:=ab ((aa HN3).below hb)
  have HN4:=ab ((aa HN4).below hb)
  have HC3:=ab (aw hb (ag (aa HC3)) (aa HC3))
  have HC4:=ab (aw hb (ag (aa HC4)) (aa HC4))
  clear hb
  have e3:=aa HC3
  have e4:=aa HC4
  go_wp2_with fail
  clear e3 e4
  refine (aa HM2 _ _ _ _ (aa HN4)).mono ?_
  rintro _ w9 ⟨rfl,hb⟩
  have HB:=bt HB hb
  clear hb
  go_wp2_with fail
 iterate 2
  all_goals try
   go_at_call 192
   refine (aa (HP _ (by first | exact Or.inl rfl | exact Or.inr rfl)) _).mono ?_
   rintro _ wA ⟨rfl,hb⟩
   have HB:=bt HB hb
   clear hb
   go_wp2_with fail
 all_goals
  exact bodyPost_ret (by simp [results,Tryz.results105,go_sem]; rfl) rfl ⟨by simp,aa HB⟩
theorem agc {f : Nat} {ar : Array Value} {v v' t t' : Int} (h : Ct f ar (.tuple #[.int .u64 v,.int .u64 t])) (e : v = v') (e' : t = t') : Ct f ar (.tuple #[.int .u64 v',.int .u64 t']):=by rw [← e,← e']; exact h
theorem kI {f : Nat} {ar : Array Value} {v v' t t' : Int} {o o' : Bool} (h : Ct f ar (.tuple #[.int .u64 v,.int .u64 t,.bool o])) (e : v = v') (e' : t = t') (e2 : o = o') : Ct f ar (.tuple #[.int .u64 v',.int .u64 t',.bool o']):=by rw [← e,← e',← e2]; exact h
theorem tX {w H M : Int} {n : Nat} (k : Wm w n H M) {a b : Int} (ha : Rg a) (hb : Rg b) (g : ¬ b % M = 0) : Ct 106 #[.int .i64 w,.int .u64 a,.int .u64 b] (.tuple #[.int .u64 (a % M / (b % M)),.int .u64 (a % M % (b % M))]):=by
 obtain ⟨a0,a1⟩:=k.cut a
 obtain ⟨b0,b1⟩:=k.cut b
 refine agc (agd (jU k ha) (jU k hb) (rp (k.rg a)) (rp (k.rg b)) (by omega) (lC k _) (lC k _)) ?_ ?_
 ·rw [Int.natCast_ediv,Int.toNat_of_nonneg a0,Int.toNat_of_nonneg b0]
  have q1:=Int.ediv_nonneg a0 b0
  have q2:=Int.ediv_le_self (b % M) a0
  exact Int.emod_eq_of_lt q1 (by omega)
 ·rw [Int.natCast_emod,Int.toNat_of_nonneg a0,Int.toNat_of_nonneg b0]
  have q3:=Int.emod_nonneg (a % M) g
  have q4:=Int.emod_lt_of_pos (a % M) (show 0 < b % M by omega)
  exact Int.emod_eq_of_lt q3 (by omega)
theorem eI (u M : Int) : (0 - u % M) % M = (-u) % M:=by rw [Int.sub_emod,Int.emod_emod,← Int.sub_emod,Int.zero_sub]
theorem iU (X Y : Nat) : (X : Int).tdiv (Y : Int) = ((X / Y : Nat) : Int):=by rw [Int.tdiv_eq_ediv_of_nonneg (by omega),Int.natCast_ediv]
theorem iV (X Y : Nat) : (X : Int).tmod (Y : Int) = ((X % Y : Nat) : Int):=by rw [Int.tmod_eq_emod_of_nonneg (by omega),Int.natCast_emod]
theorem zJ (x y : Nat) : (aK x y == 0) = decide (x = y):=by
 unfold aK
 by_cases h1 : x < y
 ·rw [if_pos h1,decide_eq_false (by omega)]; rfl
 ·rw [if_neg h1]
  by_cases h2 : y < x
  ·rw [if_pos h2,decide_eq_false (by omega)]; rfl
  ·rw [if_neg h2,decide_eq_true (by omega)]; rfl
theorem al0 {w H M : Int} {n : Nat} (k : Wm w n H M) : IntKind.i64.wrap (w - 1) = w - 1 ∧ Ct 183 #[.int .i64 (w - 1)] (.int .u64 H):=by
 rcases k with ⟨rfl,rfl,rfl,rfl⟩ | ⟨rfl,rfl,rfl,rfl⟩
 ·exact ⟨by decide,ab (fun W => dm 31 2147483648 W (by omega) (by omega) (by decide +kernel))⟩
 ·exact ⟨by decide,ab (fun W => dm 63 9223372036854775808 W (by omega) (by omega) (by decide +kernel))⟩
theorem tY {w H M : Int} {n : Nat} (k : Wm w n H M) {a b : Int} (ha : Rg a) (hb : Rg b) (g : ¬ sgv H M b = 0) : Ct 105 #[.int .i64 w,.int .u64 a,.int .u64 b] (.tuple #[.int .u64 ((sgv H M a).tdiv (sgv H M b) % M),.int .u64 ((sgv H M a).tmod (sgv H M b) % M),.bool (decide ((sgv H M a) = -H ∧ (sgv H M b) = -1))]):=by
 have HS1:=iT k ha
 have HS2:=iT k hb
 obtain ⟨a0,a1,-⟩:=nA k a
 obtain ⟨b0,b1,-⟩:=nA k b
 obtain ⟨k1,-,-,-,-,-,k7⟩:=k.two
 obtain ⟨hj,HT⟩:=al0 k
 generalize sgv H M a = A at *
 generalize sgv H M b = B at *
 have hX : A.natAbs < 18446744073709551616:=by omega
 have hY : B.natAbs < 18446744073709551616:=by omega
 have HM1:=lC k (A.natAbs / B.natAbs)
 have HM2:=lC k (A.natAbs % B.natAbs)
 have r0 : Rg 0:=⟨by omega,by omega⟩
 have HS : ∀ v : Int,v = ((A.natAbs / B.natAbs : Nat) : Int) % M ∨ v = ((A.natAbs % B.natAbs : Nat) : Int) % M → Ct 192 #[.int .i64 w,.int .u64 0,.int .u64 v] (.int .u64 ((fun v => (0 - v) % M) v)):=fun v hv => by
  rcases hv with rfl | rfl
  ·exact rr k r0 (k.rg _)
  ·exact rr k r0 (k.rg _)
 by_cases ga : A < 0
 ·have eA : A = -(A.natAbs : Int):=by omega
  rw [decide_eq_true ga] at HS1
  by_cases gb : B < 0
  ·have eB : B = -(B.natAbs : Int):=by omega
   rw [decide_eq_true gb] at HS2
   refine kI (kJ HS1 HS2 (by omega) (by omega) (by omega) (by omega) (by omega) HM1 HM2 hj HT (by omega) (by omega) HS) ?_ ?_ ?_
   ·conv => rhs; rw [eA,eB,Int.neg_tdiv,Int.tdiv_neg,Int.neg_neg,iU]
    rw [if_pos rfl]
   ·conv => rhs; rw [eA,eB,Int.neg_tmod,Int.tmod_neg,iV]
    rw [if_pos rfl,← eI]
   ·show (aK _ _ == 0) = _
    rw [zJ]
    refine decide_eq_decide.mpr ?_
    rw [Int.toNat_natCast,Int.toNat_natCast]
    have hle:=Nat.div_le_self A.natAbs B.natAbs
    constructor
    ·intro h
     have hXH : A.natAbs = H.toNat:=by omega
     refine ⟨by omega,?_⟩
     by_cases h1 : B.natAbs = 1
     ·omega
     ·exfalso
      have:=Nat.div_lt_self (show 0 < A.natAbs by omega) (show 1 < B.natAbs by omega)
      omega
    ·rintro ⟨h1,h2⟩
     have e1 : B.natAbs = 1:=by omega
     rw [e1,Nat.div_one]
     omega
  ·have eB : B = (B.natAbs : Int):=by omega
   rw [decide_eq_false gb] at HS2
   refine kI (kJ HS1 HS2 (by omega) (by omega) (by omega) (by omega) (by omega) HM1 HM2 hj HT (by omega) (by omega) HS) ?_ ?_ ?_
   ·conv => rhs; rw [eA,eB,Int.neg_tdiv,iU]
    rw [if_neg (by decide),← eI]
   ·conv => rhs; rw [eA,eB,Int.neg_tmod,iV]
    rw [if_pos rfl,← eI]
   ·exact (decide_eq_false (by omega)).symm
 ·have eA : A = (A.natAbs : Int):=by omega
  rw [decide_eq_false ga] at HS1
  by_cases gb : B < 0
  ·have eB : B = -(B.natAbs : Int):=by omega
   rw [decide_eq_true gb] at HS2
   refine kI (kJ HS1 HS2 (by omega) (by omega) (by omega) (by omega) (by omega) HM1 HM2 hj HT (by omega) (by omega) HS) ?_ ?_ ?_
   ·conv => rhs; rw [eA,eB,Int.tdiv_neg,iU]
    rw [if_neg (by decide),← eI]
   ·conv => rhs; rw [eA,eB,Int.tmod_neg,iV]
    rw [if_neg (by decide)]
   ·exact (decide_eq_false (by omega)).symm
  ·have eB : B = (B.natAbs : Int):=by omega
   rw [decide_eq_false gb] at HS2
   refine kI (kJ HS1 HS2 (by omega) (by omega) (by omega) (by omega) (by omega) HM1 HM2 hj HT (by omega) (by omega) HS) ?_ ?_ ?_
   ·conv => rhs; rw [eA,eB,iU]
    rw [if_pos rfl]
   ·conv => rhs; rw [eA,eB,iV]
    rw [if_neg (by decide)]
   ·show (aK _ _ == 0) = _
    rw [zJ]
    rw [Int.toNat_natCast,Int.toNat_natCast]
    have hle:=Nat.div_le_self A.natAbs B.natAbs
    rw [decide_eq_false (by omega),decide_eq_false (by omega)]
end Go.Proofs.YtpbgpdmffejdgaaGreatDoor
