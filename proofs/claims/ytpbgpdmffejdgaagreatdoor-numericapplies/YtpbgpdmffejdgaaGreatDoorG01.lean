/- MBase, MTk, MVar, MLaid, MLeaf, MBits, MZf, MCsA, MChA. -/
import Derived.Test.YtpbgpdmffejdgaaGreatDoorRows
import Derived.WalkKit
import Derived.WalkSpells
import Derived.WalkLawsBesides
import Derived.Laws.MathBits
import Derived.Laws.Pointers
import Derived.Deep.RegionHeld3
import Derived.RowKit3
import Derived.Laws.Bits64b
import Derived.Shelf.Spec.TrailingZeros
import Derived.Test.YtpbgpdmffejdgaaGreatDoorTie
import Derived.ProofKit
import Derived.LaidMore
import Derived.OpenShut
import Derived.Stop.Joined
import Derived.Lib.SmallJoins
namespace Go.Proofs.YtpbgpdmffejdgaaGreatDoor
set_option maxHeartbeats 1000000
open Go.RowKit
theorem ab {p : Prop} (h : p) : Hid p:=h
theorem aa {p : Prop} (h : Hid p) : p:=h
def Ct (f : Nat) (args : Array Value) (res : Value) : Prop:=Hid (∀ W,Calls Tryz.prog f args W fun r W' => r = .returned res ∧ Below W.heap.size W W')
theorem ac {a b c : World} (h : Below a.heap.size a b) (k : Below b.heap.size b c) : Below a.heap.size a c:=h.trans (k.mono h.size)
theorem ad {a b : World} (h : Below a.heap.size a b) (o : Obj) : Below a.heap.size a (b.alloc o):=h.alloc h.size o
theorem ae (w : World) (o1 : Obj) : Below w.heap.size w (w.alloc o1):=(Below.refl _ _).alloc (Nat.le_refl _) _
theorem aq (w : World) (o1 o2 : Obj) : Below w.heap.size w ((w.alloc o1).alloc o2):=((Below.refl _ _).alloc (Nat.le_refl _) _).alloc (by simp) _
theorem fP {k : IntKind} {a c : Int} (h1 : a = c) : Ending.returned (.int k a) = .returned (.int k c):=by rw [h1]
theorem asy {a b : Bool} (h : a = b) : Ending.returned (.bool a) = .returned (.bool b):=by rw [h]
def Sz (e f P Q b : Int) : Prop:=(e = 8 ∧ f = 23 ∧ P = 8388608 ∧ Q = 256 ∧ b = 127) ∨ (e = 11 ∧ f = 52 ∧ P = 4503599627370496 ∧ Q = 2048 ∧ b = 1023) ∨ (e = 0 ∧ f = 0 ∧ P = 1 ∧ Q = 1 ∧ b = -1)
def Wd (w e f P Q b : Int) : Prop:=(w = 32 ∧ e = 8 ∧ f = 23 ∧ P = 8388608 ∧ Q = 256 ∧ b = 127) ∨ (w = 64 ∧ e = 11 ∧ f = 52 ∧ P = 4503599627370496 ∧ Q = 2048 ∧ b = 1023) ∨ ((w ≠ 32 ∧ w ≠ 64) ∧ e = 0 ∧ f = 0 ∧ P = 1 ∧ Q = 1 ∧ b = -1)
theorem Wd.sz {w e f P Q b : Int} (h : Wd w e f P Q b) : Sz e f P Q b:=by
 rcases h with h | h | h
 ·exact Or.inl h.2
 ·exact Or.inr (Or.inl h.2)
 ·exact Or.inr (Or.inr h.2)
theorem aV {w e f P Q b : Int} (h : Wd w e f P Q b) (W : World) :
 Calls Tryz.prog 60 #[.int .i64 w] W fun r W' => r = .returned (.agg #[.int .i64 e,.int .i64 f]) ∧ Below W.heap.size W W':=by
 rcases h with ⟨rfl,rfl,rfl,rfl,rfl,rfl⟩ | ⟨rfl,rfl,rfl,rfl,rfl,rfl⟩ | ⟨⟨h1,h2⟩,rfl,rfl,rfl,rfl,rfl⟩
 all_goals
  go_enter Tryz.func60,Tryz.ntmps60
  go_wp2
  refine bodyPost_ret (v:=.agg #[.int .i64 _,.int .i64 _]) (by simp [results,Tryz.results60,go_sem]) rfl ⟨rfl,ae _ _⟩
theorem ba (e f : Int) (W : World) :
 Calls Tryz.prog 47 #[.agg #[.int .i64 e,.int .i64 f]] W fun r W' => r = .returned (.bool (f != 0)) ∧ Below W.heap.size W W':=by
 go_enter Tryz.func47,Tryz.ntmps47
 go_wp2
 go_ret
 exact ⟨rfl,ae _ _⟩
theorem ci {e f P Q b : Int} (h : Sz e f P Q b) (W : World) :
 Calls Tryz.prog 49 #[.agg #[.int .i64 e,.int .i64 f]] W fun r W' => r = .returned (.int .u64 (Q - 1)) ∧ Below W.heap.size W W':=by
 rcases h with ⟨rfl,rfl,rfl,rfl,rfl⟩ | ⟨rfl,rfl,rfl,rfl,rfl⟩ | ⟨rfl,rfl,rfl,rfl,rfl⟩
 all_goals
  go_enter Tryz.func49,Tryz.ntmps49
  go_wp2
  go_ret
  exact ⟨rfl,ae _ _⟩
theorem cU {e f P Q b : Int} (h : Sz e f P Q b) (W : World) :
 Calls Tryz.prog 51 #[.agg #[.int .i64 e,.int .i64 f]] W fun r W' => r = .returned (.int .u64 P) ∧ Below W.heap.size W W':=by
 rcases h with ⟨rfl,rfl,rfl,rfl,rfl⟩ | ⟨rfl,rfl,rfl,rfl,rfl⟩ | ⟨rfl,rfl,rfl,rfl,rfl⟩
 all_goals
  go_enter Tryz.func51,Tryz.ntmps51
  go_wp2
  go_ret
  exact ⟨rfl,ae _ _⟩
theorem gO {e f P Q b : Int} (x : Int) (h : Sz e f P Q b) (W : World) (h1 : -5000 ≤ x) (h2 : x ≤ 5000) :
 Calls Tryz.prog 50 #[.agg #[.int .i64 e,.int .i64 f],.int .i64 x] W fun r W' => r = .returned (.int .i64 (x - b - f)) ∧ Below W.heap.size W W':=by
 rcases h with ⟨rfl,rfl,rfl,rfl,rfl⟩ | ⟨rfl,rfl,rfl,rfl,rfl⟩ | ⟨rfl,rfl,rfl,rfl,rfl⟩
 all_goals
  go_enter Tryz.func50,Tryz.ntmps50
  go_wp2
  go_ret
  exact ⟨fP (by omega),ae _ _⟩
theorem eM {e f P Q b : Int} (h : Sz e f P Q b) (W : World) :
 Calls Tryz.prog 52 #[.agg #[.int .i64 e,.int .i64 f]] W fun r W' => r = .returned (.int .i64 (1 - b - f)) ∧ Below W.heap.size W W':=by
 go_enter Tryz.func52,Tryz.ntmps52
 go_wp2_with (go_at_call 50; refine (gO 1 h _ (by omega) (by omega)).mono ?_; rintro _ w1 ⟨rfl,hb1⟩)
 go_ret
 exact ⟨rfl,ac (ae _ _) hb1⟩
theorem d8 {W w1 : World} (hb : Below W.heap.size W w1) (b o : Nat) (h : b < W.heap.size) : w1.cell? ⟨b,o,none⟩ = W.cell? ⟨b,o,none⟩:=hb.cell (p:=⟨b,o,none⟩) h
theorem aw {W w' : World} {b o : Nat} {x : Value} (hb : Below W.heap.size W w') (hz : b < W.heap.size) (h : W.cell? ⟨b,o,none⟩ = some x) : w'.cell? ⟨b,o,none⟩ = some x:=by rw [d8 hb b o hz]; exact h
theorem ag {W : World} {b o : Nat} {x : Value} (h : W.cell? ⟨b,o,none⟩ = some x) : b < W.heap.size:=by
 apply Decidable.byContradiction
 intro hn
 simp [World.cell?,Nat.le_of_not_lt hn] at h
def At2 (b : Nat) (x y : Value) (w : World) : Prop:=w.cell? ⟨b,0,none⟩ = some x ∧ w.cell? ⟨b,1,none⟩ = some y
def At5 (b : Nat) (x y z u v : Value) (w : World) : Prop:=w.cell? ⟨b,0,none⟩ = some x ∧ w.cell? ⟨b,1,none⟩ = some y ∧ w.cell? ⟨b,2,none⟩ = some z ∧ w.cell? ⟨b,3,none⟩ = some u ∧ w.cell? ⟨b,4,none⟩ = some v
theorem At2.below {b : Nat} {x y : Value} {w w' : World} (h : At2 b x y w) (hb : Below w.heap.size w w') : At2 b x y w':=
 have hz:=ag h.1
 ⟨aw hb hz h.1,aw hb hz h.2⟩
theorem At5.below {b : Nat} {x y z u v : Value} {w w' : World} (h : At5 b x y z u v w) (hb : Below w.heap.size w w') : At5 b x y z u v w':=
 have hz:=ag h.1
 ⟨aw hb hz h.1,aw hb hz h.2.1,aw hb hz h.2.2.1,aw hb hz h.2.2.2.1,aw hb hz h.2.2.2.2⟩
theorem aj {x : Int} (h1 : -9223372036854775808 ≤ x) (h2 : x < 9223372036854775808) : IntKind.i64.wrap x = x:=by
 simp only [IntKind.wrap,IntKind.bits,IntKind.signed]
 simp
 omega
section
variable {P : Program} {ops : Array Oper} {Q : Exit → Act → World → Prop} {md : Region.Mode} {S : World → Prop}
theorem ct {fuel : Nat} {listed : Array Bool} {a : Act} {w : World} (l : Array Bool) (h : listed = l) (k : wpAnyH P md ops Q S fuel l a w) : wpAnyH P md ops Q S fuel listed a w:=h ▸ k
end
def aP (T : World → Prop) : Prop:=∀ w w',T w → Below w.heap.size w w' → T w'
theorem aP.and {A B : World → Prop} (ha : aP A) (hb : aP B) : aP (fun w => A w ∧ B w):=fun w w' h k => ⟨ha w w' h.1 k,hb w w' h.2 k⟩
theorem gj (p : Addr) (v : Value) : aP (fun w => w.cell? p = some v):=fun w _ h k => (k.cell (World.block_lt_of_cell? w p h)).trans h
def aS (b n : Nat) (w : World) : Prop:=∀ o,o < n → (∃ v,w.cell? ⟨b,o,none⟩ = some v) ∧ w.frozen? ⟨b,o,none⟩ = false
theorem oB (b n : Nat) : aP (aS b n):=fun w _ h k o ho => by
 obtain ⟨⟨v,h1⟩,h2⟩:=h o ho
 have hz:=World.block_lt_of_cell? w _ h1
 exact ⟨⟨v,(k.cell hz).trans h1⟩,(k.frozen hz).trans h2⟩
theorem aS.below {b n : Nat} {w w' : World} (h : aS b n w) (hb : Below w.heap.size w w') : aS b n w':=oB b n w w' h hb
theorem aS.drew {b n : Nat} {w : World} (h : aS b n w) : aS b n w.drew:=h.below ((Below.refl _ _).drew)
theorem aS.alloc {b n : Nat} {w : World} (h : aS b n w) (o : Obj) : aS b n (w.alloc o):=h.below (ae w o)
def aor (_ : World) : Prop:=True
theorem ip (w : World) : aor w:=True.intro
theorem aW (w : World) (p q : Addr) (v : Value) : (w.setCell p v).frozen? q = w.frozen? q:=by simp [go_sem]
theorem ax {w : World} {b o : Nat} {x : Value} (b' o' : Nat) (v : Value) (hne : b ≠ b') (h : w.cell? ⟨b,o,none⟩ = some x) : (w.setCell ⟨b',o',none⟩ v).cell? ⟨b,o,none⟩ = some x:=by
 rw [World.cell?_setCell_other _ _ _ _ (by intro he; injection he with he1; exact hne he1.symm)]; exact h
theorem aS.set {b n : Nat} {w : World} (h : aS b n w) (o' : Nat) (v : Value) : aS b n (w.setCell ⟨b,o',none⟩ v):=fun o ho => by
 obtain ⟨⟨u,h1⟩,h2⟩:=h o ho
 refine ⟨?_,by rw [aW]; exact h2⟩
 by_cases he : o = o'
 ·subst he; exact ⟨v,World.cell?_setCell_same _ _ _ h1⟩
 ·exact ⟨u,by rw [World.cell?_setCell_other _ _ _ _ (by intro hh; injection hh with _ h3; exact he h3.symm)]; exact h1⟩
theorem aZ {a b : World} (h : Below a.heap.size a b) (n : Nat) (hn : a.heap.size ≤ n) (o : Nat) (v : Value) : Below a.heap.size a (b.setCell ⟨n,o,none⟩ v):=h.setCell hn v
theorem bV (k : Nat) (z m : Int) (h0 : 0 ≤ z) (h1 : z < 18446744073709551616) (hm : m = ((2 ^ k - 1 : Nat) : Int)) (hk : k ≤ 63) : bits .and .u64 z m = z % ((2 ^ k : Nat) : Int):=by
 obtain ⟨Z,rfl⟩:=Int.eq_ofNat_of_zero_le h0
 have hp : 2 ^ k ≤ 2 ^ 63:=Nat.pow_le_pow_right (by omega) hk
 rw [hm,Go.bits_and_u64_nat Z (2 ^ k - 1) (by omega) (by omega),Nat.and_two_pow_sub_one_eq_mod,Int.natCast_emod]
theorem oC {e f P Q b : Int} (h : Sz e f P Q b) (W : World) :
 Calls Tryz.prog 289 #[.agg #[.int .i64 e,.int .i64 f]] W fun r W' => r = .returned (.int .i64 (Q - 2 - b - f)) ∧ Below W.heap.size W W':=by
 have hQ : IntKind.i64.wrap (IntKind.i64.wrap (Q - 1) - 1) = Q - 2 ∧ -5000 ≤ Q - 2 ∧ Q - 2 ≤ 5000:=by
  have : 1 ≤ Q ∧ Q ≤ 2048:=by rcases h with h | h | h <;> omega
  rw [aj (x:=Q - 1) (by omega) (by omega),aj (by omega) (by omega)]
  omega
 obtain ⟨q1,q2,q3⟩:=hQ
 go_enter Tryz.func289,Tryz.ntmps289
 go_wp2_with fail
 go_region_held3 (fun w' => w'.cell? ⟨W.heap.size,0,none⟩ = some (.int .i64 e) ∧ w'.cell? ⟨W.heap.size,1,none⟩ = some (.int .i64 f)) (first | exact At2.below ‹_› (by assumption) | (simp [go_sem]; done))
  (first
   | (go_at_call 49; refine (ci h _).mono ?_; rintro _ w1 ⟨rfl,hb1⟩)
   | (go_at_call 50; refine (gO _ h _ q2 q3).mono ?_; rintro _ w2 ⟨rfl,hb2⟩))
 go_wp2
 go_ret
 exact ⟨rfl,ac (ac (ae _ _).drew hb1) hb2⟩
theorem bt {a b c : World} (h : Hid (Below a.heap.size a b)) (k : Below b.heap.size b c) : Hid (Below a.heap.size a c):=ab (ac (aa h) k)
theorem cg1 {f : Nat} {ar : Array Value} {v : Value} {W : World} {Q : Ending → World → Prop} (h : Ct f ar v) (k : ∀ w',Below W.heap.size W w' → Q (.returned v) w') : Calls Tryz.prog f ar W Q:=(aa h W).mono fun _ w' q => q.1 ▸ k w' q.2
theorem rf (W : World) : Hid (Below W.heap.size W W):=ab (Below.refl W.heap.size W)
theorem oA {P : Program} {ops : Array Oper} {Q : Exit → Act → World → Prop} {md : Region.Mode} {S : World → Prop} {fuel : Nat} {l : Array Bool} {K : Act → World → Prop} {a a' : Act} {w : World} (hK : Shut (∀ a w,S w → (S w → wpAnyH P md ops Q S fuel l a w) → K a w)) (hS : S w) (h : S w → wpAnyH P md ops Q S fuel l a' w) (ha : a = a':=by ((try simp only [List.setIfInBounds_toArray,List.set_cons_zero,List.set_cons_succ]); rfl)) : K a w:=hK a w hS (ha ▸ h)
theorem cg0 {f : Nat} {ar : Array Value} {v : Value} {W W0 : World} {Q : Ending → World → Prop} (h : Ct f ar v) (HB : Hid (Below W0.heap.size W0 W)) (k : ∀ w',Hid (Below W0.heap.size W0 w') → Q (.returned v) w') : Calls Tryz.prog f ar W Q:=(aa h W).mono fun _ w' q => q.1 ▸ k w' (bt HB q.2)
section
variable {P : Program} {ops : Array Oper} {Q : Exit → Act → World → Prop} {md : Region.Mode} {S : World → Prop}
def lsb : Nat → Nat → List Bool
 | 0,_ => []
 | n + 1,m => (m % 2 == 1) :: lsb n (m / 2)
def lst (n m : Nat) : Array Bool:=⟨lsb n m⟩
theorem aC (n : Nat) {fuel : Nat} {listed : Array Bool} {a : Act} {w : World} (h : listed = lst n 0) (k : wpAnyH P md ops Q S fuel (lst n 0) a w) : wpAnyH P md ops Q S fuel listed a w:=h ▸ k
theorem tkH (i d m' : Nat) (v : Value) {op : Op} {ty : TypeId} {pos : String} {af : Array Edge} {g : Option (Nat × Bool)} {n m fuel : Nat} {a : Act} {w : World} (hi : ops[i]? = some ⟨some d,op,ty,pos,af,g⟩)
 (hc : (Region.noSelect ops && Region.free md ops (lst n m) i && (Region.ready md ops (lst n m)).contains i) = true) (he : (lst n m).setIfInBounds i true = lst n m')
 (hQ : ∀ c a w,Q (.panic c) (a.put (some d) v) w → Q (.panic c) a w) (hS : S w) (hy : YieldsIf P ops S ⟨some d,op,ty,pos,af,g⟩ v a)
 (h : wpAnyH P md ops Q S fuel (lst n m') (a.put (some d) v) w) : wpAnyH P md ops Q S (fuel + 1) (lst n m) a w:=by
 simp only [Bool.and_eq_true] at hc
 refine wpAnyH_take hi hc.1.1 hc.1.2 hc.2 hQ hy hS ?_
 rw [he]
 exact h
theorem rdH (i m' : Nat) {ds : Option Tmp} {op : Op} {ty : TypeId} {pos : String} {af : Array Edge} {g : Option (Nat × Bool)} {n m fuel : Nat} {a : Act} {w : World} (hi : ops[i]? = some ⟨ds,op,ty,pos,af,g⟩)
 (hr : Region.ready md ops (lst n m) = [i]) (he : (lst n m).setIfInBounds i true = lst n m')
 (h : ∀ K' : Act → World → Prop,Shut (∀ a w,S w → (S w → wpAnyH P md ops Q S fuel (lst n m') a w) → K' a w) → if Region.wanted ⟨ds,op,ty,pos,af,g⟩ (yielded ops a.tmps) = true then Oper.wp P ⟨ds,op,ty,pos,af,g⟩ a w K' Q else K' (a.put ds undef) w) : wpAnyH P md ops Q S (fuel + 1) (lst n m) a w:=
 wpAnyH_ready hr (by simp) (AllReadyH.cons hi (fun K' hK => h K' (by rw [he] at hK; exact hK)) AllReadyH.nil)
theorem tkA (i d m' : Nat) {v : Value} {op : Op} {ty : TypeId} {pos : String} {af : Array Edge} {g : Option (Nat × Bool)} {n m fuel : Nat} {a a' : Act} {w : World}
 (h : wpAnyH P md ops Q S fuel (lst n m') a' w)
 (hi : ops[i]? = some ⟨some d,op,ty,pos,af,g⟩:=by rfl)
 (hc : (Region.noSelect ops && Region.free md ops (lst n m) i && (Region.ready md ops (lst n m)).contains i) = true:=by kernel_rfl)
 (he : (lst n m).setIfInBounds i true = lst n m':=by kernel_rfl)
 (hQ : ∀ c a w,Q (.panic c) (a.put (some d) v) w → Q (.panic c) a w:=by exact fun _ _ _ h => h)
 (hS : S w:=by assumption)
 (hy : YieldsIf P ops S ⟨some d,op,ty,pos,af,g⟩ v a:=by (refine Or.inl ⟨by rfl,?_⟩; ((intro w hSw; (try dsimp only at hSw); go_simp) <;> with_reducible rfl)))
 (ha : a.put (some d) v = a':=by ((try simp only [Act.put,List.setIfInBounds_toArray,List.set_cons_zero,List.set_cons_succ]); rfl)) :
 wpAnyH P md ops Q S (fuel + 1) (lst n m) a w:=by
 subst ha
 exact tkH i d m' v hi hc he hQ hS hy h
theorem tkU (i d m' : Nat) {op : Op} {ty : TypeId} {pos : String} {af : Array Edge} {g : Option (Nat × Bool)} {n m fuel : Nat} {a a' : Act} {w : World}
 (h : wpAnyH P md ops Q S fuel (lst n m') a' w)
 (hi : ops[i]? = some ⟨some d,op,ty,pos,af,g⟩:=by rfl)
 (hc : (Region.noSelect ops && Region.free md ops (lst n m) i && (Region.ready md ops (lst n m)).contains i) = true:=by kernel_rfl)
 (he : (lst n m).setIfInBounds i true = lst n m':=by kernel_rfl)
 (hQ : ∀ c a w,Q (.panic c) (a.put (some d) undef) w → Q (.panic c) a w:=by exact fun _ _ _ h => h)
 (hS : S w:=by assumption)
 (hy : YieldsIf P ops S ⟨some d,op,ty,pos,af,g⟩ undef a:=by exact Or.inr ⟨by rfl,rfl⟩)
 (ha : a.put (some d) undef = a':=by ((try simp only [Act.put,List.setIfInBounds_toArray,List.set_cons_zero,List.set_cons_succ]); rfl)) :
 wpAnyH P md ops Q S (fuel + 1) (lst n m) a w:=by
 subst ha
 exact tkH i d m' undef hi hc he hQ hS hy h
theorem rdA (i m' : Nat) {ds : Option Tmp} {op : Op} {ty : TypeId} {pos : String} {af : Array Edge} {g : Option (Nat × Bool)} {n m fuel : Nat} {a : Act} {w : World}
 (h : ∀ K' : Act → World → Prop,Shut (∀ a w,S w → (S w → wpAnyH P md ops Q S fuel (lst n m') a w) → K' a w) → if Region.wanted ⟨ds,op,ty,pos,af,g⟩ (yielded ops a.tmps) = true then Oper.wp P ⟨ds,op,ty,pos,af,g⟩ a w K' Q else K' (a.put ds undef) w)
 (hi : ops[i]? = some ⟨ds,op,ty,pos,af,g⟩:=by rfl) (hr : Region.ready md ops (lst n m) = [i]:=by kernel_rfl) (he : (lst n m).setIfInBounds i true = lst n m':=by kernel_rfl) : wpAnyH P md ops Q S (fuel + 1) (lst n m) a w:=rdH i m' hi hr he h
end
def Tab (W : World) (g : Nat) (L : List Value) : Prop:=∀ j v,L[j]? = some v → W.cell? ⟨g,j,none⟩ = some v
theorem Tab.below {w w' : World} {g : Nat} {L : List Value} (h : Tab w g L) (hb : Below w.heap.size w w') : Tab w' g L:=fun j v hv => aw hb (ag (h j v hv)) (h j v hv)
def gL : List Value:=[.int .i64 69,.int .i64 11,.int .i64 0,.int .u8 127,.int .i64 80,.int .i64 11,.int .i64 0,.int .u8 126,.int .i64 91,.int .i64 6,.int .i64 1,.int .u8 125,.int .i64 97,.int .i64 6,.int .i64 1,.int .u8 124,.int .i64 103,.int .i64 18,.int .i64 2,.int .u8 127,.int .i64 121,.int .i64 18,.int .i64 2,.int .u8 126,.int .i64 139,.int .i64 14,.int .i64 3,.int .u8 125,.int .i64 153,.int .i64 14,.int .i64 3,.int .u8 124,.int .i64 167,.int .i64 25,.int .i64 4,.int .u8 0,.int .i64 64512,.int .i64 8,.int .i64 5,.int .u8 0]
def cL : List Value:=[126,127,125,127,125,127,124,127,124,127,127,126,127,126,125,126,125,126,124,126,124,126,127,125,127,125,126,125,126,125,124,125,127,124,127,124,126,124,126,124,125,124,125,127,124,126,127,125,126,124].map fun n : Int => .int .u8 n
def sL : List Value:=[125,127,125,127,124,127,124,127,125,126,125,126,124,126,124,126].map fun n : Int => .int .u8 n
structure Mk (W : World) : Prop where
 groups : Tab W 0 gL
 changed : Tab W 1 cL
 stopped : Tab W 2 sL
 marks : W.cell? ⟨3,0,none⟩ = some (.int .i64 32) ∧ W.cell? ⟨3,1,none⟩ = some (.int .u64 2147483648) ∧ W.cell? ⟨3,2,none⟩ = some (.int .i64 64) ∧ W.cell? ⟨3,3,none⟩ = some (.int .u64 9223372036854775808)
 tab : ∀ j,j < 64 → W.cell? ⟨4,j,none⟩ = some (.int .u8 (Lib.deBruijn64tab.getD j 0 : Nat))
theorem Mk.below {w w' : World} (h : Mk w) (hb : Below w.heap.size w w') : Mk w':=
 have hz:=ag h.marks.1
 ⟨h.groups.below hb,h.changed.below hb,h.stopped.below hb,⟨aw hb hz h.marks.1,aw hb hz h.marks.2.1,aw hb hz h.marks.2.2.1,aw hb hz h.marks.2.2.2⟩,fun j hj => aw hb (ag (h.tab j hj)) (h.tab j hj)⟩
def Cm (f : Nat) (args : Array Value) (res : Value) : Prop:=Hid (∀ W,Mk W → Calls Tryz.prog f args W fun r W' => r = .returned res ∧ Below W.heap.size W W')
theorem Ct.m {f : Nat} {args : Array Value} {res : Value} (h : Ct f args res) : Cm f args res:=fun W _ => h W
set_option maxRecDepth 100000
open Go.ChangeShapes Go.WideShapes Go.ChangeAt Go.WideElems Go.Joins
def oy : List (String × DataW Unit):=[("math/bits.deBruijn64tab",Rows.laid_math_bits_deBruijn64tab),("trunnion/sign.marks",Rows.laid_trunnion_sign_marks),("trunnion/numeric.groups",Rows.laid_trunnion_numeric_groups),("trunnion/numeric.changed",Rows.laid_trunnion_numeric_changed),("trunnion/numeric.stopped",Rows.laid_trunnion_numeric_stopped)]
theorem own : ownKnob Tryz.prog.godebug = none:=by kernel_rfl
theorem gv4 : Tryz.prog.globalNamed "math/bits.deBruijn64tab" = some 4:=by kernel_rfl
theorem tv4 : (Tryz.prog.globals[4]?).map (·.type) = some 218:=by kernel_rfl
theorem gv3 : Tryz.prog.globalNamed "trunnion/sign.marks" = some 3:=by kernel_rfl
theorem tv3 : (Tryz.prog.globals[3]?).map (·.type) = some 188:=by kernel_rfl
theorem gv0 : Tryz.prog.globalNamed "trunnion/numeric.groups" = some 0:=by kernel_rfl
theorem tv0 : (Tryz.prog.globals[0]?).map (·.type) = some 93:=by kernel_rfl
theorem gv1 : Tryz.prog.globalNamed "trunnion/numeric.changed" = some 1:=by kernel_rfl
theorem tv1 : (Tryz.prog.globals[1]?).map (·.type) = some 94:=by kernel_rfl
theorem gv2 : Tryz.prog.globalNamed "trunnion/numeric.stopped" = some 2:=by kernel_rfl
theorem tv2 : (Tryz.prog.globals[2]?).map (·.type) = some 95:=by kernel_rfl
theorem xG (os : Os) (args : Array Value) : laidMetH Tryz.prog oy ((World.doorLaid Tryz.prog 400 os).forCall (fun _ _ => 0) ⟨#[],args,[]⟩).memory:=
 laidMetH_of_parts3 (fuel:=8) (laidMet_of_run' 8 (by kernel_rfl) (by kernel_rfl)) (by kernel_rfl) (by kernel_rfl)
theorem cvI : Tryz.prog.cellsOf 3 = 1:=by kernel_rfl
theorem cvU : Tryz.prog.cellsOf 28 = 1:=by kernel_rfl
theorem cvB : Tryz.prog.cellsOf 5 = 1:=by kernel_rfl
theorem cvM : Tryz.prog.cellsOf 187 = 2:=by kernel_rfl
theorem cvG : Tryz.prog.cellsOf 55 = 4:=by kernel_rfl
theorem cvT : Tryz.prog.cellsOf 59 = 2:=by kernel_rfl
theorem uT {W : World} {g s : Nat} {cs : List Value} {α : Type} (D : List α) (c : α → List Value) (h : ∀ i a,D[i]? = some a → (cs.drop (i * s)).take s = c a) (hc : ∀ o,W.cell? ⟨g,o,none⟩ = cs[o]?) : Tab W g (D.flatMap c):=by
 have key : ∀ k,k ≤ D.length → (D.take k).flatMap c = cs.take (k * s):=by
  intro k
  induction k with
  | zero => intro _; simp
  | succ k ih =>
   intro hk
   have hg : D[k]? = some D[k]:=List.getElem?_eq_getElem (by omega)
   rw [List.take_add_one,List.flatMap_append,ih (by omega),hg,Nat.add_mul,Nat.one_mul,List.take_add,h k _ hg]
   simp
 intro j v hv
 rw [← List.take_length (l:=D),key _ (Nat.le_refl _)] at hv
 rw [hc j]
 rw [List.getElem?_take] at hv
 split at hv
 ·exact hv
 ·simp at hv
theorem gh {H : Type} {enc : TypeId × Value → H} {W : World} {base : Nat} {sp : Nat → Bool} {hd : Bool} {m n g s : Nat} {e : TypeId} {cs : List Value} {xs : List (DataW H × List MemPlace)} {α : Type} (D : List α) (d : α → DataW H) (c : α → List Value) (hn : D.length = n)
 (hel : ∀ i,i < n → DataW.trod enc Tryz.prog W base sp hd m e ((cs.drop (i * s)).take s) = xs[i]?) (hx : D.map d = xs.map (·.1)) (hE : ∀ a x cs',DataW.trod enc Tryz.prog W base sp hd m e cs' = some x → x.1 = d a → cs' = c a) (hc : ∀ o,W.cell? ⟨g,o,none⟩ = cs[o]?) : Tab W g (D.flatMap c):=by
 refine uT (s:=s) D c (fun i a ha => ?_) hc
 have hi : i < D.length:=by
  rcases List.getElem?_eq_some_iff.1 ha with ⟨h,_⟩
  exact h
 have h1:=congrArg (·[i]?) hx
 simp only [List.getElem?_map,ha,Option.map_some] at h1
 have h2:=hel i (by omega)
 cases hx' : xs[i]? with
 | none => rw [hx'] at h1; simp at h1
 | some x =>
  rw [hx'] at h1 h2
  simp only [Option.map_some,Option.some.injEq] at h1
  exact hE a x _ h2 h1.symm
theorem ac8 {H : Type} {enc : TypeId × Value → H} {W : World} {base : Nat} {sp : Nat → Bool} {hd : Bool} {n : Nat} (p : Int × Int) (x : DataW H × List MemPlace) (cs : List Value)
 (h : DataW.trod enc Tryz.prog W base sp hd n 187 cs = some x) (hx : x.1 = .agg [.lit (.int .i64 p.1),.lit (.int .u64 p.2)]) : cs = [.int .i64 p.1,.int .u64 p.2]:=by
 obtain ⟨y0,y1,m,rfl,hl,h0,h1⟩:=trod_struct2 Tryz.underlying187 h
 rw [cvM] at hl
 obtain ⟨k0,e0,rfl,-⟩:=DataW.trod_int Tryz.underlying3 h0
 obtain ⟨k1,e1,rfl,-⟩:=DataW.trod_int Tryz.underlying28 h1
 simp only [DataW.agg.injEq,List.cons.injEq,DataW.lit.injEq,Lit.int.injEq,true_and,and_true] at hx
 obtain ⟨rfl,rfl⟩:=hx
 match cs,hl with
 | [v0,v1],_ =>
  simp [cvI] at e0
  simp [cvU] at e1
  rw [e0,e1]
theorem oz {H : Type} {enc : TypeId × Value → H} {W : World} {base : Nat} {sp : Nat → Bool} {hd : Bool} {n : Nat} (p : Int × Int) (x : DataW H × List MemPlace) (cs : List Value)
 (h : DataW.trod enc Tryz.prog W base sp hd n 59 cs = some x) (hx : x.1 = .agg [.lit (.int .u8 p.1),.lit (.int .u8 p.2)]) : cs = [.int .u8 p.1,.int .u8 p.2]:=by
 obtain ⟨y0,y1,m,rfl,hl,h0,h1⟩:=trod_struct2 Tryz.underlying59 h
 rw [cvT] at hl
 obtain ⟨k0,e0,rfl,-⟩:=DataW.trod_int Tryz.underlying5 h0
 obtain ⟨k1,e1,rfl,-⟩:=DataW.trod_int Tryz.underlying5 h1
 simp only [DataW.agg.injEq,List.cons.injEq,DataW.lit.injEq,Lit.int.injEq,true_and,and_true] at hx
 obtain ⟨rfl,rfl⟩:=hx
 match cs,hl with
 | [v0,v1],_ =>
  simp [cvB] at e0
  simp [cvB] at e1
  rw [e0,e1]
theorem xH {H : Type} {enc : TypeId × Value → H} {W : World} {base : Nat} {sp : Nat → Bool} {hd : Bool} {n : Nat} (p : Int × Int × Int × Int) (x : DataW H × List MemPlace) (cs : List Value)
 (h : DataW.trod enc Tryz.prog W base sp hd n 55 cs = some x) (hx : x.1 = .agg [.lit (.int .i64 p.1),.lit (.int .i64 p.2.1),.lit (.int .i64 p.2.2.1),.lit (.int .u8 p.2.2.2)]) : cs = [.int .i64 p.1,.int .i64 p.2.1,.int .i64 p.2.2.1,.int .u8 p.2.2.2]:=by
 obtain ⟨y0,y1,y2,y3,m,rfl,hl,h0,h1,h2,h3⟩:=trod_struct4 Tryz.underlying55 h
 rw [cvG] at hl
 obtain ⟨k0,e0,rfl,-⟩:=DataW.trod_int Tryz.underlying3 h0
 obtain ⟨k1,e1,rfl,-⟩:=DataW.trod_int Tryz.underlying3 h1
 obtain ⟨k2,e2,rfl,-⟩:=DataW.trod_int Tryz.underlying3 h2
 obtain ⟨k3,e3,rfl,-⟩:=DataW.trod_int Tryz.underlying5 h3
 simp only [DataW.agg.injEq,List.cons.injEq,DataW.lit.injEq,Lit.int.injEq,true_and,and_true] at hx
 obtain ⟨rfl,rfl,rfl,rfl⟩:=hx
 match cs,hl with
 | [v0,v1,v2,v3],_ =>
  simp [cvI] at e0 e1 e2
  simp [cvB] at e3
  rw [e0,e1,e2,e3]
theorem ac9 {H : Type} {enc : TypeId × Value → H} {W : World} {base : Nat} {sp : Nat → Bool} {hd : Bool} {n : Nat} (p : Nat) (x : DataW H × List MemPlace) (cs : List Value)
 (h : DataW.trod enc Tryz.prog W base sp hd n 5 cs = some x) (hx : x.1 = .lit (.int .u8 (p : Int))) : cs = [.int .u8 (p : Int)]:=by
 obtain ⟨k,e0,e1,-⟩:=DataW.trod_int Tryz.underlying5 h
 rw [e1] at hx
 simp only [DataW.lit.injEq,Lit.int.injEq,true_and] at hx
 rw [e0,hx]
def gD : List (Int × Int × Int × Int):=[(69,11,0,127),(80,11,0,126),(91,6,1,125),(97,6,1,124),(103,18,2,127),(121,18,2,126),(139,14,3,125),(153,14,3,124),(167,25,4,0),(64512,8,5,0)]
def cD : List (Int × Int):=[(126,127),(125,127),(125,127),(124,127),(124,127),(127,126),(127,126),(125,126),(125,126),(124,126),(124,126),(127,125),(127,125),(126,125),(126,125),(124,125),(127,124),(127,124),(126,124),(126,124),(125,124),(125,127),(124,126),(127,125),(126,124)]
def sD : List (Int × Int):=[(125,127),(125,127),(124,127),(124,127),(125,126),(125,126),(124,126),(124,126)]
def mD : List (Int × Int):=[(32,2147483648),(64,9223372036854775808)]
theorem ada {W : World} (h : laidMetH Tryz.prog oy W) : Mk W:=by
 rw [MakeChecks.laidMetH_plain _ _ _ (by kernel_rfl)] at h
 obtain ⟨ps,⟨g4',t4',⟨cs4⟩,f4,p4,q4,hg4,ht4,hv4,hd4,⟨g3',t3',⟨cs3⟩,f3,p3,q3,hg3,ht3,hv3,hd3,⟨g0',t0',⟨cs0⟩,f0,p0,q0,hg0,ht0,hv0,hd0,⟨g1',t1',⟨cs1⟩,f1,p1,q1,hg1,ht1,hv1,hd1,⟨g2',t2',⟨cs2⟩,f2,p2,q2,hg2,ht2,hv2,hd2,_,_⟩,_⟩,_⟩,_⟩,_⟩,_,_⟩:=h
 obtain rfl:=Option.some.inj (gv4.symm.trans hg4)
 obtain rfl:=Option.some.inj (tv4.symm.trans ht4)
 obtain ⟨xs4,m4,-,hx4,-,-,hel4⟩:=DataW.trod_array Tryz.underlying218 hd4
 rw [cvB] at hel4
 have T4:=gh Lib.deBruijn64tab (fun p : Nat => .lit (.int .u8 (p : Int))) (fun p : Nat => [.int .u8 (p : Int)]) rfl hel4 (by simp only [Prod.mk.injEq] at hx4; have hy:=hx4.1; unfold Rows.laid_math_bits_deBruijn64tab at hy; injection hy) ac9 (fun o => by have:=World.var?_cell hg4 hv4 o; simpa using this)
 obtain rfl:=Option.some.inj (gv3.symm.trans hg3)
 obtain rfl:=Option.some.inj (tv3.symm.trans ht3)
 obtain ⟨xs3,m3,-,hx3,-,-,hel3⟩:=DataW.trod_array Tryz.underlying188 hd3
 rw [cvM] at hel3
 have T3:=gh mD (fun p => .agg [.lit (.int .i64 p.1),.lit (.int .u64 p.2)]) (fun p => [.int .i64 p.1,.int .u64 p.2]) rfl hel3 (by simp only [Prod.mk.injEq] at hx3; have hy:=hx3.1; unfold Rows.laid_trunnion_sign_marks at hy; injection hy) ac8 (fun o => by have:=World.var?_cell hg3 hv3 o; simpa using this)
 obtain rfl:=Option.some.inj (gv0.symm.trans hg0)
 obtain rfl:=Option.some.inj (tv0.symm.trans ht0)
 obtain ⟨xs0,m0,-,hx0,-,-,hel0⟩:=DataW.trod_array Tryz.underlying93 hd0
 rw [cvG] at hel0
 have T0:=gh gD (fun p => .agg [.lit (.int .i64 p.1),.lit (.int .i64 p.2.1),.lit (.int .i64 p.2.2.1),.lit (.int .u8 p.2.2.2)]) (fun p => [.int .i64 p.1,.int .i64 p.2.1,.int .i64 p.2.2.1,.int .u8 p.2.2.2]) rfl hel0 (by simp only [Prod.mk.injEq] at hx0; have hy:=hx0.1; unfold Rows.laid_trunnion_numeric_groups at hy; injection hy) xH (fun o => by have:=World.var?_cell hg0 hv0 o; simpa using this)
 obtain rfl:=Option.some.inj (gv1.symm.trans hg1)
 obtain rfl:=Option.some.inj (tv1.symm.trans ht1)
 obtain ⟨xs1,m1,-,hx1,-,-,hel1⟩:=DataW.trod_array Tryz.underlying94 hd1
 rw [cvT] at hel1
 have T1:=gh cD (fun p => .agg [.lit (.int .u8 p.1),.lit (.int .u8 p.2)]) (fun p => [.int .u8 p.1,.int .u8 p.2]) rfl hel1 (by simp only [Prod.mk.injEq] at hx1; have hy:=hx1.1; unfold Rows.laid_trunnion_numeric_changed at hy; injection hy) oz (fun o => by have:=World.var?_cell hg1 hv1 o; simpa using this)
 obtain rfl:=Option.some.inj (gv2.symm.trans hg2)
 obtain rfl:=Option.some.inj (tv2.symm.trans ht2)
 obtain ⟨xs2,m2,-,hx2,-,-,hel2⟩:=DataW.trod_array Tryz.underlying95 hd2
 rw [cvT] at hel2
 have T2:=gh sD (fun p => .agg [.lit (.int .u8 p.1),.lit (.int .u8 p.2)]) (fun p => [.int .u8 p.1,.int .u8 p.2]) rfl hel2 (by simp only [Prod.mk.injEq] at hx2; have hy:=hx2.1; unfold Rows.laid_trunnion_numeric_stopped at hy; injection hy) oz (fun o => by have:=World.var?_cell hg2 hv2 o; simpa using this)
 refine ⟨T0,T1,T2,⟨T3 0 _ rfl,T3 1 _ rfl,T3 2 _ rfl,T3 3 _ rfl⟩,fun j hj => T4 j _ ?_⟩
 have hl : Lib.deBruijn64tab.length = 64:=rfl
 rw [show (Lib.deBruijn64tab.flatMap fun p : Nat => [Value.int .u8 (p : Int)]) = Lib.deBruijn64tab.map fun p : Nat => Value.int .u8 (p : Int) from rfl,List.getElem?_map,List.getElem?_eq_getElem (by omega),List.getD_eq_getElem?_getD,List.getElem?_eq_getElem (by omega)]
 rfl
theorem uwf {x : Int} (h : (Lit.int .u64 x).wf = true) : 0 ≤ x ∧ x < 18446744073709551616:=by
 simp [Lit.wf,IntKind.min,IntKind.max,IntKind.signed,IntKind.bits] at h
 exact ⟨by omega,by omega⟩
theorem iwf {x : Int} (h : (Lit.int .i64 x).wf = true) : -9223372036854775808 ≤ x ∧ x ≤ 9223372036854775807:=by
 simp [Lit.wf,IntKind.min,IntKind.max,IntKind.signed,IntKind.bits] at h
 exact ⟨by omega,by omega⟩
set_option maxHeartbeats 4000000
theorem xP {e f P Q b : Int} (n : Bool) (x y : Int) (h : Sz e f P Q b) (W : World) (hq : (x == Q - 1) = false) :
 Calls Tryz.prog 48 #[.agg #[.int .i64 e,.int .i64 f,.bool n,.int .u64 x,.int .u64 y]] W fun r W' => r = .returned (.bool (x == Q - 1 && y != 0)) ∧ Below W.heap.size W W':=by
 go_enter Tryz.func48,Tryz.ntmps48
 go_wp2_with fail
 refine wp_region_held_drew (S:=fun w' => w'.cell? ⟨W.heap.size,0,none⟩ = some (.int .i64 e) ∧ w'.cell? ⟨W.heap.size,1,none⟩ = some (.int .i64 f) ∧ w'.cell? ⟨W.heap.size,2,none⟩ = some (.bool n) ∧ w'.cell? ⟨W.heap.size,3,none⟩ = some (.int .u64 x) ∧ w'.cell? ⟨W.heap.size,4,none⟩ = some (.int .u64 y)) (by kernel_rfl) ?_ (fun hHeld => ?_)
 ·(try dsimp only)
  simp [go_sem]
 refine aC 12 (by kernel_rfl) ?_
 refine tkA 0 3 1 ?_
 refine tkA 1 4 3 ?_
 refine tkA 2 5 7 ?_
 refine tkA 3 6 15 ?_
 refine rdA 4 31 (fun Kk hKk => ?_)
 go_simp
 refine (ci h _).mono ?_
 rintro _ w1 ⟨rfl,hbl⟩
 have HB:=ab (ac (ae _ _).drew hbl)
 (try go_wp2_with fail)
 refine oA hKk (At5.below hHeld hbl) fun hHeld => ?_
 clear hKk Kk
 refine tkA 5 8 63 ?_
 refine tkA 6 9 127 ?_
 refine tkU 7 10 255 ?_
 refine tkU 8 11 511 ?_
 refine tkU 9 12 1023 ?_
 refine tkA 10 13 2047 ?_
 refine tkA 11 2 4095 ?_
 refine wpAnyH_done (by kernel_rfl) ?_ _
 go_wp2
 go_ret
 exact ⟨by simp [hq],aa HB⟩
theorem uW {e f P Q b : Int} (n : Bool) (x y : Int) (h : Sz e f P Q b) (W : World) (hq : (x == Q - 1) = true) :
 Calls Tryz.prog 48 #[.agg #[.int .i64 e,.int .i64 f,.bool n,.int .u64 x,.int .u64 y]] W fun r W' => r = .returned (.bool (x == Q - 1 && y != 0)) ∧ Below W.heap.size W W':=by
 go_enter Tryz.func48,Tryz.ntmps48
 go_wp2_with fail
 refine wp_region_held_drew (S:=fun w' => w'.cell? ⟨W.heap.size,0,none⟩ = some (.int .i64 e) ∧ w'.cell? ⟨W.heap.size,1,none⟩ = some (.int .i64 f) ∧ w'.cell? ⟨W.heap.size,2,none⟩ = some (.bool n) ∧ w'.cell? ⟨W.heap.size,3,none⟩ = some (.int .u64 x) ∧ w'.cell? ⟨W.heap.size,4,none⟩ = some (.int .u64 y)) (by kernel_rfl) ?_ (fun hHeld => ?_)
 ·(try dsimp only)
  simp [go_sem]
 refine aC 12 (by kernel_rfl) ?_
 refine tkA 0 3 1 ?_
 refine tkA 1 4 3 ?_
 refine tkA 2 5 7 ?_
 refine tkA 3 6 15 ?_
 refine rdA 4 31 (fun Kk hKk => ?_)
 go_simp
 refine (ci h _).mono ?_
 rintro _ w1 ⟨rfl,hbl⟩
 have HB:=ab (ac (ae _ _).drew hbl)
 (try go_wp2_with fail)
 refine oA hKk (At5.below hHeld hbl) fun hHeld => ?_
 clear hKk Kk
 refine tkA 5 8 63 ?_
 refine tkA 6 9 127 ?_
 refine tkA 7 10 255 ?_
 refine tkA 8 11 511 ?_
 refine tkA 9 12 1023 ?_
 refine tkA 10 13 2047 ?_
 refine tkA 11 2 4095 ?_
 refine wpAnyH_done (by kernel_rfl) ?_ _
 go_wp2
 go_ret
 exact ⟨by simp [hq],aa HB⟩
theorem eN {e f P Q b : Int} (n : Bool) (x y : Int) (h : Sz e f P Q b) (W : World) :
 Calls Tryz.prog 48 #[.agg #[.int .i64 e,.int .i64 f,.bool n,.int .u64 x,.int .u64 y]] W fun r W' => r = .returned (.bool (x == Q - 1 && y != 0)) ∧ Below W.heap.size W W':=by
 cases hq : (x == Q - 1)
 ·rw [← hq]; exact xP n x y h W hq
 ·rw [← hq]; exact uW n x y h W hq
theorem adh (x : Int) (W : World) (h0 : 0 ≤ x) (h1 : x < 18446744073709551616) :
 Calls Tryz.prog 46 #[.int .i64 32,.int .u64 x] W fun r W' => r = .returned (.agg #[.int .i64 8,.int .i64 23,.bool (x / 2147483648 % 2 == 1),.int .u64 (x / 8388608 % 256),.int .u64 (x % 8388608)]) ∧ Below W.heap.size W W':=by
 have h : Wd 32 8 23 8388608 256 (127):=Or.inl ⟨rfl,rfl,rfl,rfl,rfl,rfl⟩
 have hs:=h.sz
 have k1 : IntKind.i64.wrap 31 = 31:=by decide +kernel
 have k2 : IntKind.u64.wrap 8388607 = 8388607:=by decide +kernel
 have a1 : bits .and .u64 (x / 2147483648) 1 = x / 2147483648 % 2:=bV 1 _ _ (by omega) (by omega) rfl (by omega)
 have a2 : bits .and .u64 (x / 8388608) 255 = x / 8388608 % 256:=bV 8 _ _ (by omega) (by omega) rfl (by omega)
 have a3 : bits .and .u64 x 8388607 = x % 8388608:=bV 23 _ _ (by omega) (by omega) rfl (by omega)
 clear h0 h1
 go_enter Tryz.func46,Tryz.ntmps46
 go_wp2_with fail
 refine (aV h _).mono ?_
 rintro _ w1 ⟨rfl,hbl⟩
 have HB:=ab (ac (ae _ _) hbl)
 have HR : aS W.heap.size 5 w1:=aS.below (w:=W.alloc (.cells #[.int .i64 0,.int .i64 0,.bool false,.int .u64 0,.int .u64 0] 82)) (by
  intro o ho
  match o,ho with
  | 0,_ | 1,_ | 2,_ | 3,_ | 4,_ => simp [go_sem]) hbl
 have hz1 : W.heap.size < w1.heap.size:=by have:=hbl.size; simp at this; omega
 have HR:=ab HR
 go_wp2_with fail
 have HB:=ab ((ad (aa HB) (.cells #[.int .i64 8,.int .i64 23] 80)).drew)
 refine wp_region_held_drew (S:=fun w' => (w'.cell? ⟨w1.heap.size,0,none⟩ = some (.int .i64 8) ∧ w'.cell? ⟨w1.heap.size,1,none⟩ = some (.int .i64 23)) ∧ aS W.heap.size 5 w') (by kernel_rfl) ?_ (fun hHeld => ?_)
 ·(try dsimp only)
  exact ⟨by simp [go_sem],((aa HR).alloc _).drew⟩
 refine aC 24 (by kernel_rfl) ?_
 refine tkA 0 8 1 ?_
 refine tkA 1 9 3 ?_
 refine tkA 2 10 7 ?_
 refine tkA 3 11 15 ?_
 refine tkA 4 12 31 ?_
 refine tkA 5 13 63 ?_
 refine tkA 6 14 127 ?_
 refine tkA 7 15 255 ?_
 refine tkA 8 16 511 ?_
 refine tkA 9 17 1023 ?_
 refine tkA 10 18 2047 ?_
 refine tkA 11 19 4095 ?_
 refine tkA 12 20 8191 ?_
 refine tkA 13 21 16383 ?_
 refine tkA 14 22 32767 ?_
 refine tkA 17 25 163839 ?_
 refine tkA 18 26 425983 ?_
 refine rdA 15 458751 (fun Kk hKk => ?_)
 go_simp
 refine (ci hs _).mono ?_
 rintro _ w2 ⟨rfl,hbl⟩
 have HB:=bt HB hbl
 (try go_wp2_with fail)
 refine oA hKk (⟨At2.below hHeld.1 hbl,hHeld.2.below hbl⟩) fun hHeld => ?_
 clear hKk Kk
 refine tkA 16 24 524287 ?_
 refine rdA 19 1048575 (fun Kk hKk => ?_)
 go_simp
 refine (cU hs _).mono ?_
 rintro _ w3 ⟨rfl,hbl⟩
 have HB:=bt HB hbl
 (try go_wp2_with fail)
 refine oA hKk (⟨At2.below hHeld.1 hbl,hHeld.2.below hbl⟩) fun hHeld => ?_
 clear hKk Kk
 refine tkA 20 28 2097151 ?_
 refine tkA 21 29 4194303 ?_
 refine tkA 22 30 8388607 ?_
 refine rdA 23 16777215 (fun Kk hKk => ?_)
 obtain ⟨⟨v0,c0⟩,f0⟩:=hHeld.2 0 (by omega)
 obtain ⟨⟨v1,c1⟩,f1⟩:=hHeld.2 1 (by omega)
 obtain ⟨⟨v2,c2⟩,f2⟩:=hHeld.2 2 (by omega)
 obtain ⟨⟨v3,c3⟩,f3⟩:=hHeld.2 3 (by omega)
 obtain ⟨⟨v4,c4⟩,f4⟩:=hHeld.2 4 (by omega)
 obtain ⟨g0,g1⟩:=hHeld.1
 go_simp
 refine oA hKk (⟨⟨ax _ _ _ (by omega) (ax _ _ _ (by omega) (ax _ _ _ (by omega) (ax _ _ _ (by omega) (ax _ _ _ (by omega) g0)))),ax _ _ _ (by omega) (ax _ _ _ (by omega) (ax _ _ _ (by omega) (ax _ _ _ (by omega) (ax _ _ _ (by omega) g1))))⟩,((((hHeld.2.set _ _).set _ _).set _ _).set _ _).set _ _⟩) fun hHeld => ?_
 clear hKk Kk
 refine wpAnyH_done (by kernel_rfl) ?_ _
 clear hHeld
 go_wp2
 exact bodyPost_ret (v:=.agg #[.int .i64 8,.int .i64 23,.bool (x / 2147483648 % 2 == 1),.int .u64 (x / 8388608 % 256),.int .u64 (x % 8388608)]) (by simp (maxDischargeDepth:=8) [results,Tryz.results46,go_sem,c0,c1,c2,c3,c4]) rfl ⟨rfl,aZ (aZ (aZ (aZ (aZ (aa HB) _ (Nat.le_refl _) _ _) _ (Nat.le_refl _) _ _) _ (Nat.le_refl _) _ _) _ (Nat.le_refl _) _ _) _ (Nat.le_refl _) _ _⟩
theorem adi (x : Int) (W : World) (h0 : 0 ≤ x) (h1 : x < 18446744073709551616) :
 Calls Tryz.prog 46 #[.int .i64 64,.int .u64 x] W fun r W' => r = .returned (.agg #[.int .i64 11,.int .i64 52,.bool (x / 9223372036854775808 % 2 == 1),.int .u64 (x / 4503599627370496 % 2048),.int .u64 (x % 4503599627370496)]) ∧ Below W.heap.size W W':=by
 have h : Wd 64 11 52 4503599627370496 2048 (1023):=Or.inr (Or.inl ⟨rfl,rfl,rfl,rfl,rfl,rfl⟩)
 have hs:=h.sz
 have k1 : IntKind.i64.wrap 63 = 63:=by decide +kernel
 have k2 : IntKind.u64.wrap 4503599627370495 = 4503599627370495:=by decide +kernel
 have a1 : bits .and .u64 (x / 9223372036854775808) 1 = x / 9223372036854775808 % 2:=bV 1 _ _ (by omega) (by omega) rfl (by omega)
 have a2 : bits .and .u64 (x / 4503599627370496) 2047 = x / 4503599627370496 % 2048:=bV 11 _ _ (by omega) (by omega) rfl (by omega)
 have a3 : bits .and .u64 x 4503599627370495 = x % 4503599627370496:=bV 52 _ _ (by omega) (by omega) rfl (by omega)
 clear h0 h1
 go_enter Tryz.func46,Tryz.ntmps46
 go_wp2_with fail
 refine (aV h _).mono ?_
 rintro _ w1 ⟨rfl,hbl⟩
 have HB:=ab (ac (ae _ _) hbl)
 have HR : aS W.heap.size 5 w1:=aS.below (w:=W.alloc (.cells #[.int .i64 0,.int .i64 0,.bool false,.int .u64 0,.int .u64 0] 82)) (by
  intro o ho
  match o,ho with
  | 0,_ | 1,_ | 2,_ | 3,_ | 4,_ => simp [go_sem]) hbl
 have hz1 : W.heap.size < w1.heap.size:=by have:=hbl.size; simp at this; omega
 have HR:=ab HR
 go_wp2_with fail
 have HB:=ab ((ad (aa HB) (.cells #[.int .i64 11,.int .i64 52] 80)).drew)
 refine wp_region_held_drew (S:=fun w' => (w'.cell? ⟨w1.heap.size,0,none⟩ = some (.int .i64 11) ∧ w'.cell? ⟨w1.heap.size,1,none⟩ = some (.int .i64 52)) ∧ aS W.heap.size 5 w') (by kernel_rfl) ?_ (fun hHeld => ?_)
 ·(try dsimp only)
  exact ⟨by simp [go_sem],((aa HR).alloc _).drew⟩
 refine aC 24 (by kernel_rfl) ?_
 refine tkA 0 8 1 ?_
 refine tkA 1 9 3 ?_
 refine tkA 2 10 7 ?_
 refine tkA 3 11 15 ?_
 refine tkA 4 12 31 ?_
 refine tkA 5 13 63 ?_
 refine tkA 6 14 127 ?_
 refine tkA 7 15 255 ?_
 refine tkA 8 16 511 ?_
 refine tkA 9 17 1023 ?_
 refine tkA 10 18 2047 ?_
 refine tkA 11 19 4095 ?_
 refine tkA 12 20 8191 ?_
 refine tkA 13 21 16383 ?_
 refine tkA 14 22 32767 ?_
 refine tkA 17 25 163839 ?_
 refine tkA 18 26 425983 ?_
 refine rdA 15 458751 (fun Kk hKk => ?_)
 go_simp
 refine (ci hs _).mono ?_
 rintro _ w2 ⟨rfl,hbl⟩
 have HB:=bt HB hbl
 (try go_wp2_with fail)
 refine oA hKk (⟨At2.below hHeld.1 hbl,hHeld.2.below hbl⟩) fun hHeld => ?_
 clear hKk Kk
 refine tkA 16 24 524287 ?_
 refine rdA 19 1048575 (fun Kk hKk => ?_)
 go_simp
 refine (cU hs _).mono ?_
 rintro _ w3 ⟨rfl,hbl⟩
 have HB:=bt HB hbl
 (try go_wp2_with fail)
 refine oA hKk (⟨At2.below hHeld.1 hbl,hHeld.2.below hbl⟩) fun hHeld => ?_
 clear hKk Kk
 refine tkA 20 28 2097151 ?_
 refine tkA 21 29 4194303 ?_
 refine tkA 22 30 8388607 ?_
 refine rdA 23 16777215 (fun Kk hKk => ?_)
 obtain ⟨⟨v0,c0⟩,f0⟩:=hHeld.2 0 (by omega)
 obtain ⟨⟨v1,c1⟩,f1⟩:=hHeld.2 1 (by omega)
 obtain ⟨⟨v2,c2⟩,f2⟩:=hHeld.2 2 (by omega)
 obtain ⟨⟨v3,c3⟩,f3⟩:=hHeld.2 3 (by omega)
 obtain ⟨⟨v4,c4⟩,f4⟩:=hHeld.2 4 (by omega)
 obtain ⟨g0,g1⟩:=hHeld.1
 go_simp
 refine oA hKk (⟨⟨ax _ _ _ (by omega) (ax _ _ _ (by omega) (ax _ _ _ (by omega) (ax _ _ _ (by omega) (ax _ _ _ (by omega) g0)))),ax _ _ _ (by omega) (ax _ _ _ (by omega) (ax _ _ _ (by omega) (ax _ _ _ (by omega) (ax _ _ _ (by omega) g1))))⟩,((((hHeld.2.set _ _).set _ _).set _ _).set _ _).set _ _⟩) fun hHeld => ?_
 clear hKk Kk
 refine wpAnyH_done (by kernel_rfl) ?_ _
 clear hHeld
 go_wp2
 exact bodyPost_ret (v:=.agg #[.int .i64 11,.int .i64 52,.bool (x / 9223372036854775808 % 2 == 1),.int .u64 (x / 4503599627370496 % 2048),.int .u64 (x % 4503599627370496)]) (by simp (maxDischargeDepth:=8) [results,Tryz.results46,go_sem,c0,c1,c2,c3,c4]) rfl ⟨rfl,aZ (aZ (aZ (aZ (aZ (aa HB) _ (Nat.le_refl _) _ _) _ (Nat.le_refl _) _ _) _ (Nat.le_refl _) _ _) _ (Nat.le_refl _) _ _) _ (Nat.le_refl _) _ _⟩
theorem adj (w : Int) (x : Int) (W : World) (h0 : 0 ≤ x) (h1 : x < 18446744073709551616) (hw : w ≠ 32 ∧ w ≠ 64) :
 Calls Tryz.prog 46 #[.int .i64 w,.int .u64 x] W fun r W' => r = .returned (.agg #[.int .i64 0,.int .i64 0,.bool (x % 2 == 1),.int .u64 0,.int .u64 0]) ∧ Below W.heap.size W W':=by
 have h : Wd w 0 0 1 1 (-1):=Or.inr (Or.inr ⟨hw,rfl,rfl,rfl,rfl,rfl⟩)
 have hs:=h.sz
 have k1 : IntKind.i64.wrap 0 = 0:=by decide +kernel
 have k2 : IntKind.u64.wrap 0 = 0:=by decide +kernel
 have a1 : bits .and .u64 (x) 1 = x % 2:=bV 1 _ _ (by omega) (by omega) rfl (by omega)
 have a2 : bits .and .u64 x 0 = 0:=(bV 0 _ _ (by omega) (by omega) rfl (by omega)).trans (Int.emod_one _)
 clear h0 h1
 go_enter Tryz.func46,Tryz.ntmps46
 go_wp2_with fail
 refine (aV h _).mono ?_
 rintro _ w1 ⟨rfl,hbl⟩
 have HB:=ab (ac (ae _ _) hbl)
 have HR : aS W.heap.size 5 w1:=aS.below (w:=W.alloc (.cells #[.int .i64 0,.int .i64 0,.bool false,.int .u64 0,.int .u64 0] 82)) (by
  intro o ho
  match o,ho with
  | 0,_ | 1,_ | 2,_ | 3,_ | 4,_ => simp [go_sem]) hbl
 have hz1 : W.heap.size < w1.heap.size:=by have:=hbl.size; simp at this; omega
 have HR:=ab HR
 go_wp2_with fail
 have HB:=ab ((ad (aa HB) (.cells #[.int .i64 0,.int .i64 0] 80)).drew)
 refine wp_region_held_drew (S:=fun w' => (w'.cell? ⟨w1.heap.size,0,none⟩ = some (.int .i64 0) ∧ w'.cell? ⟨w1.heap.size,1,none⟩ = some (.int .i64 0)) ∧ aS W.heap.size 5 w') (by kernel_rfl) ?_ (fun hHeld => ?_)
 ·(try dsimp only)
  exact ⟨by simp [go_sem],((aa HR).alloc _).drew⟩
 refine aC 24 (by kernel_rfl) ?_
 refine tkA 0 8 1 ?_
 refine tkA 1 9 3 ?_
 refine tkA 2 10 7 ?_
 refine tkA 3 11 15 ?_
 refine tkA 4 12 31 ?_
 refine tkA 5 13 63 ?_
 refine tkA 6 14 127 ?_
 refine tkA 7 15 255 ?_
 refine tkA 8 16 511 ?_
 refine tkA 9 17 1023 ?_
 refine tkA 10 18 2047 ?_
 refine tkA 11 19 4095 ?_
 refine tkA 12 20 8191 ?_
 refine tkA 13 21 16383 ?_
 refine tkA 14 22 32767 ?_
 refine tkA 17 25 163839 ?_
 refine tkA 18 26 425983 ?_
 refine rdA 15 458751 (fun Kk hKk => ?_)
 go_simp
 refine (ci hs _).mono ?_
 rintro _ w2 ⟨rfl,hbl⟩
 have HB:=bt HB hbl
 (try go_wp2_with fail)
 refine oA hKk (⟨At2.below hHeld.1 hbl,hHeld.2.below hbl⟩) fun hHeld => ?_
 clear hKk Kk
 refine tkA 16 24 524287 ?_
 refine rdA 19 1048575 (fun Kk hKk => ?_)
 go_simp
 refine (cU hs _).mono ?_
 rintro _ w3 ⟨rfl,hbl⟩
 have HB:=bt HB hbl
 (try go_wp2_with fail)
 refine oA hKk (⟨At2.below hHeld.1 hbl,hHeld.2.below hbl⟩) fun hHeld => ?_
 clear hKk Kk
 refine tkA 20 28 2097151 ?_
 refine tkA 21 29 4194303 ?_
 refine tkA 22 30 8388607 ?_
 refine rdA 23 16777215 (fun Kk hKk => ?_)
 obtain ⟨⟨v0,c0⟩,f0⟩:=hHeld.2 0 (by omega)
 obtain ⟨⟨v1,c1⟩,f1⟩:=hHeld.2 1 (by omega)
 obtain ⟨⟨v2,c2⟩,f2⟩:=hHeld.2 2 (by omega)
 obtain ⟨⟨v3,c3⟩,f3⟩:=hHeld.2 3 (by omega)
 obtain ⟨⟨v4,c4⟩,f4⟩:=hHeld.2 4 (by omega)
 obtain ⟨g0,g1⟩:=hHeld.1
 go_simp
 refine oA hKk (⟨⟨ax _ _ _ (by omega) (ax _ _ _ (by omega) (ax _ _ _ (by omega) (ax _ _ _ (by omega) (ax _ _ _ (by omega) g0)))),ax _ _ _ (by omega) (ax _ _ _ (by omega) (ax _ _ _ (by omega) (ax _ _ _ (by omega) (ax _ _ _ (by omega) g1))))⟩,((((hHeld.2.set _ _).set _ _).set _ _).set _ _).set _ _⟩) fun hHeld => ?_
 clear hKk Kk
 refine wpAnyH_done (by kernel_rfl) ?_ _
 clear hHeld
 go_wp2
 exact bodyPost_ret (v:=.agg #[.int .i64 0,.int .i64 0,.bool (x % 2 == 1),.int .u64 0,.int .u64 0]) (by simp (maxDischargeDepth:=8) [results,Tryz.results46,go_sem,c0,c1,c2,c3,c4]) rfl ⟨rfl,aZ (aZ (aZ (aZ (aZ (aa HB) _ (Nat.le_refl _) _ _) _ (Nat.le_refl _) _ _) _ (Nat.le_refl _) _ _) _ (Nat.le_refl _) _ _) _ (Nat.le_refl _) _ _⟩
set_option maxHeartbeats 2000000
theorem iq (k : Nat) (X Y : Int) (h0 : 0 ≤ X) (h1 : X < 18446744073709551616) (hm : X % ((2 ^ k : Nat) : Int) = 0) (y0 : 0 ≤ Y) (y1 : Y < ((2 ^ k : Nat) : Int)) (hk : k ≤ 63) : bits .or .u64 X Y = X + Y:=by
 obtain ⟨A,rfl⟩:=Int.eq_ofNat_of_zero_le h0
 obtain ⟨B,rfl⟩:=Int.eq_ofNat_of_zero_le y0
 have hp : 2 ^ k ≤ 2 ^ 63:=Nat.pow_le_pow_right (by omega) hk
 rw [← Int.natCast_emod] at hm
 rw [Go.bits_or_u64_nat A B (by omega) (by omega),Go.nat_join k A B (by omega) (by omega),Int.natCast_add]
theorem iG (k : Nat) (X Y : Int) (h0 : 0 ≤ X) (h1 : X < 18446744073709551616) (hm : X % ((2 ^ k : Nat) : Int) = 0) (y0 : 0 ≤ Y) (y1 : Y < ((2 ^ k : Nat) : Int)) (hk : k ≤ 63) : bits .or .u64 Y X = Y + X:=by
 obtain ⟨A,rfl⟩:=Int.eq_ofNat_of_zero_le h0
 obtain ⟨B,rfl⟩:=Int.eq_ofNat_of_zero_le y0
 have hp : 2 ^ k ≤ 2 ^ 63:=Nat.pow_le_pow_right (by omega) hk
 rw [← Int.natCast_emod] at hm
 rw [Go.bits_or_u64_nat B A (by omega) (by omega),Nat.or_comm,Go.nat_join k A B (by omega) (by omega),Int.natCast_add,Int.add_comm]
theorem ng {W w1 : World} {v0 v1 v2 v3 v4 : Value} {t : TypeId} (hb : Below (W.alloc (.cells #[v0,v1,v2,v3,v4] t)).heap.size (W.alloc (.cells #[v0,v1,v2,v3,v4] t)) w1) : At5 W.heap.size v0 v1 v2 v3 v4 w1:=
 At5.below (w:=W.alloc (.cells #[v0,v1,v2,v3,v4] t)) (by unfold At5; simp [go_sem]) hb
theorem adg (n : Bool) (x y : Int) (W : World) :
 Calls Tryz.prog 54 #[.agg #[.int .i64 0,.int .i64 0,.bool n,.int .u64 x,.int .u64 y]] W fun r W' => r = .returned (.int .u64 0) ∧ Below W.heap.size W W':=by
 go_enter Tryz.func54,Tryz.ntmps54
 go_wp2_with fail
 refine (ba 0 0 _).mono ?_
 rintro _ w1 ⟨rfl,hb1⟩
 go_wp2_with fail
 go_ret
 exact ⟨rfl,ac (ae _ _) hb1⟩
theorem xL (x y : Int) (W : World) (x0 : 0 ≤ x) (x1 : x < 256) (y0 : 0 ≤ y) (y1 : y < 8388608) :
 Calls Tryz.prog 54 #[.agg #[.int .i64 8,.int .i64 23,.bool false,.int .u64 x,.int .u64 y]] W fun r W' => r = .returned (.int .u64 (x * 8388608 + y)) ∧ Below W.heap.size W W':=by
 have k1 : IntKind.u64.wrap (x * 8388608) = x * 8388608:=by rw [IntKind.wrap_u64]; omega
 have o1 : bits .or .u64 (x * 8388608) y = x * 8388608 + y:=iq 23 _ _ (by omega) (by omega) (by omega) (by omega) (by omega) (by omega)
 clear x0 x1 y0 y1
 go_enter Tryz.func54,Tryz.ntmps54
 go_wp2_with fail
 refine (ba 8 23 _).mono ?_
 rintro _ w1 ⟨rfl,hb1⟩
 obtain ⟨q0,q1,q2,q3,q4⟩:=ng hb1
 have HB:=ab (ac (ae _ _) hb1)
 clear hb1
 go_wp2_with fail
 refine wp_region_held_drew (S:=fun w' => w'.cell? ⟨W.heap.size,0,none⟩ = some (.int .i64 8) ∧ w'.cell? ⟨W.heap.size,1,none⟩ = some (.int .i64 23) ∧ w'.cell? ⟨W.heap.size,2,none⟩ = some (.bool false) ∧ w'.cell? ⟨W.heap.size,3,none⟩ = some (.int .u64 x) ∧ w'.cell? ⟨W.heap.size,4,none⟩ = some (.int .u64 y)) (by kernel_rfl) ?_ (fun hHeld => ?_)
 ·(try dsimp only)
  simp [go_sem,q0,q1,q2,q3,q4]
 refine aC 10 (by kernel_rfl) ?_
 refine tkA 0 8 1 ?_
 refine tkA 1 9 3 ?_
 refine tkA 2 10 7 ?_
 refine tkA 3 11 15 ?_
 refine tkA 4 12 31 ?_
 refine tkA 5 13 63 ?_
 refine tkA 6 14 127 ?_
 refine tkA 7 15 255 ?_
 refine tkA 8 16 511 ?_
 refine tkA 9 3 1023 ?_
 refine wpAnyH_done (by kernel_rfl) ?_ _
 go_wp2_with fail
 go_ret
 exact ⟨rfl,(aa HB).drew⟩
theorem xM (x y : Int) (W : World) (x0 : 0 ≤ x) (x1 : x < 256) (y0 : 0 ≤ y) (y1 : y < 8388608) :
 Calls Tryz.prog 54 #[.agg #[.int .i64 8,.int .i64 23,.bool true,.int .u64 x,.int .u64 y]] W fun r W' => r = .returned (.int .u64 (x * 8388608 + y + 2147483648)) ∧ Below W.heap.size W W':=by
 have k1 : IntKind.u64.wrap (x * 8388608) = x * 8388608:=by rw [IntKind.wrap_u64]; omega
 have o1 : bits .or .u64 (x * 8388608) y = x * 8388608 + y:=iq 23 _ _ (by omega) (by omega) (by omega) (by omega) (by omega) (by omega)
 have k2 : IntKind.i64.wrap 31 = 31:=by decide +kernel
 have o2 : bits .or .u64 (x * 8388608 + y) 2147483648 = x * 8388608 + y + 2147483648:=iG 31 _ _ (by omega) (by omega) (by omega) (by omega) (by omega) (by omega)
 clear x0 x1 y0 y1
 go_enter Tryz.func54,Tryz.ntmps54
 go_wp2_with fail
 refine (ba 8 23 _).mono ?_
 rintro _ w1 ⟨rfl,hb1⟩
 obtain ⟨q0,q1,q2,q3,q4⟩:=ng hb1
 have HB:=ab (ac (ae _ _) hb1)
 clear hb1
 go_wp2_with fail
 refine wp_region_held_drew (S:=fun w' => w'.cell? ⟨W.heap.size,0,none⟩ = some (.int .i64 8) ∧ w'.cell? ⟨W.heap.size,1,none⟩ = some (.int .i64 23) ∧ w'.cell? ⟨W.heap.size,2,none⟩ = some (.bool true) ∧ w'.cell? ⟨W.heap.size,3,none⟩ = some (.int .u64 x) ∧ w'.cell? ⟨W.heap.size,4,none⟩ = some (.int .u64 y)) (by kernel_rfl) ?_ (fun hHeld => ?_)
 ·(try dsimp only)
  simp [go_sem,q0,q1,q2,q3,q4]
 refine aC 10 (by kernel_rfl) ?_
 refine tkA 0 8 1 ?_
 refine tkA 1 9 3 ?_
 refine tkA 2 10 7 ?_
 refine tkA 3 11 15 ?_
 refine tkA 4 12 31 ?_
 refine tkA 5 13 63 ?_
 refine tkA 6 14 127 ?_
 refine tkA 7 15 255 ?_
 refine tkA 8 16 511 ?_
 refine tkA 9 3 1023 ?_
 refine wpAnyH_done (by kernel_rfl) ?_ _
 go_wp2_with fail
 go_ret
 exact ⟨rfl,(aa HB).drew⟩
theorem xN (x y : Int) (W : World) (x0 : 0 ≤ x) (x1 : x < 2048) (y0 : 0 ≤ y) (y1 : y < 4503599627370496) :
 Calls Tryz.prog 54 #[.agg #[.int .i64 11,.int .i64 52,.bool false,.int .u64 x,.int .u64 y]] W fun r W' => r = .returned (.int .u64 (x * 4503599627370496 + y)) ∧ Below W.heap.size W W':=by
 have k1 : IntKind.u64.wrap (x * 4503599627370496) = x * 4503599627370496:=by rw [IntKind.wrap_u64]; omega
 have o1 : bits .or .u64 (x * 4503599627370496) y = x * 4503599627370496 + y:=iq 52 _ _ (by omega) (by omega) (by omega) (by omega) (by omega) (by omega)
 clear x0 x1 y0 y1
 go_enter Tryz.func54,Tryz.ntmps54
 go_wp2_with fail
 refine (ba 11 52 _).mono ?_
 rintro _ w1 ⟨rfl,hb1⟩
 obtain ⟨q0,q1,q2,q3,q4⟩:=ng hb1
 have HB:=ab (ac (ae _ _) hb1)
 clear hb1
 go_wp2_with fail
 refine wp_region_held_drew (S:=fun w' => w'.cell? ⟨W.heap.size,0,none⟩ = some (.int .i64 11) ∧ w'.cell? ⟨W.heap.size,1,none⟩ = some (.int .i64 52) ∧ w'.cell? ⟨W.heap.size,2,none⟩ = some (.bool false) ∧ w'.cell? ⟨W.heap.size,3,none⟩ = some (.int .u64 x) ∧ w'.cell? ⟨W.heap.size,4,none⟩ = some (.int .u64 y)) (by kernel_rfl) ?_ (fun hHeld => ?_)
 ·(try dsimp only)
  simp [go_sem,q0,q1,q2,q3,q4]
 refine aC 10 (by kernel_rfl) ?_
 refine tkA 0 8 1 ?_
 refine tkA 1 9 3 ?_
 refine tkA 2 10 7 ?_
 refine tkA 3 11 15 ?_
 refine tkA 4 12 31 ?_
 refine tkA 5 13 63 ?_
 refine tkA 6 14 127 ?_
 refine tkA 7 15 255 ?_
 refine tkA 8 16 511 ?_
 refine tkA 9 3 1023 ?_
 refine wpAnyH_done (by kernel_rfl) ?_ _
 go_wp2_with fail
 go_ret
 exact ⟨rfl,(aa HB).drew⟩
theorem xO (x y : Int) (W : World) (x0 : 0 ≤ x) (x1 : x < 2048) (y0 : 0 ≤ y) (y1 : y < 4503599627370496) :
 Calls Tryz.prog 54 #[.agg #[.int .i64 11,.int .i64 52,.bool true,.int .u64 x,.int .u64 y]] W fun r W' => r = .returned (.int .u64 (x * 4503599627370496 + y + 9223372036854775808)) ∧ Below W.heap.size W W':=by
 have k1 : IntKind.u64.wrap (x * 4503599627370496) = x * 4503599627370496:=by rw [IntKind.wrap_u64]; omega
 have o1 : bits .or .u64 (x * 4503599627370496) y = x * 4503599627370496 + y:=iq 52 _ _ (by omega) (by omega) (by omega) (by omega) (by omega) (by omega)
 have k2 : IntKind.i64.wrap 63 = 63:=by decide +kernel
 have o2 : bits .or .u64 (x * 4503599627370496 + y) 9223372036854775808 = x * 4503599627370496 + y + 9223372036854775808:=iG 63 _ _ (by omega) (by omega) (by omega) (by omega) (by omega) (by omega)
 clear x0 x1 y0 y1
 go_enter Tryz.func54,Tryz.ntmps54
 go_wp2_with fail
 refine (ba 11 52 _).mono ?_
 rintro _ w1 ⟨rfl,hb1⟩
 obtain ⟨q0,q1,q2,q3,q4⟩:=ng hb1
 have HB:=ab (ac (ae _ _) hb1)
 clear hb1
 go_wp2_with fail
 refine wp_region_held_drew (S:=fun w' => w'.cell? ⟨W.heap.size,0,none⟩ = some (.int .i64 11) ∧ w'.cell? ⟨W.heap.size,1,none⟩ = some (.int .i64 52) ∧ w'.cell? ⟨W.heap.size,2,none⟩ = some (.bool true) ∧ w'.cell? ⟨W.heap.size,3,none⟩ = some (.int .u64 x) ∧ w'.cell? ⟨W.heap.size,4,none⟩ = some (.int .u64 y)) (by kernel_rfl) ?_ (fun hHeld => ?_)
 ·(try dsimp only)
  simp [go_sem,q0,q1,q2,q3,q4]
 refine aC 10 (by kernel_rfl) ?_
 refine tkA 0 8 1 ?_
 refine tkA 1 9 3 ?_
 refine tkA 2 10 7 ?_
 refine tkA 3 11 15 ?_
 refine tkA 4 12 31 ?_
 refine tkA 5 13 63 ?_
 refine tkA 6 14 127 ?_
 refine tkA 7 15 255 ?_
 refine tkA 8 16 511 ?_
 refine tkA 9 3 1023 ?_
 refine wpAnyH_done (by kernel_rfl) ?_ _
 go_wp2_with fail
 go_ret
 exact ⟨rfl,(aa HB).drew⟩
def Z5 : Nat:=5000
theorem un : ((0 : Int) + 5000).toNat = Z5:=rfl
set_option maxHeartbeats 4000000
theorem qB {x y R : Int} (W : World) (g : x < 0) (h1 : IntKind.u64.wrap x = y) (h2 : IntKind.u64.wrap (-y) = R) :
 Calls Tryz.prog 271 #[.int .i32 x] W fun r W' => r = .returned (.tuple #[.bool true,.int .u64 R]) ∧ Below W.heap.size W W':=by
 have HB:=rf W
 go_enter Tryz.func271,Tryz.ntmps271
 go_wp2_with fail
 go_ret2
 exact ⟨rfl,aa HB⟩
theorem qC {x R : Int} (W : World) (g : ¬ x < 0) (h1 : IntKind.u64.wrap x = R) :
 Calls Tryz.prog 271 #[.int .i32 x] W fun r W' => r = .returned (.tuple #[.bool false,.int .u64 R]) ∧ Below W.heap.size W W':=by
 have HB:=rf W
 go_enter Tryz.func271,Tryz.ntmps271
 go_wp2_with fail
 go_ret2
 exact ⟨rfl,aa HB⟩
theorem qD {x R : Int} (W : World) (g : ¬ x < 0) (h1 : IntKind.u64.wrap x = R) :
 Calls Tryz.prog 272 #[.int .u32 x] W fun r W' => r = .returned (.tuple #[.bool false,.int .u64 R]) ∧ Below W.heap.size W W':=by
 have HB:=rf W
 go_enter Tryz.func272,Tryz.ntmps272
 go_wp2_with fail
 go_ret2
 exact ⟨rfl,aa HB⟩
theorem qE {x y R : Int} (W : World) (g : x < 0) (h1 : IntKind.u64.wrap x = y) (h2 : IntKind.u64.wrap (-y) = R) :
 Calls Tryz.prog 273 #[.int .i64 x] W fun r W' => r = .returned (.tuple #[.bool true,.int .u64 R]) ∧ Below W.heap.size W W':=by
 have HB:=rf W
 go_enter Tryz.func273,Tryz.ntmps273
 go_wp2_with fail
 go_ret2
 exact ⟨rfl,aa HB⟩
theorem qF {x R : Int} (W : World) (g : ¬ x < 0) (h1 : IntKind.u64.wrap x = R) :
 Calls Tryz.prog 273 #[.int .i64 x] W fun r W' => r = .returned (.tuple #[.bool false,.int .u64 R]) ∧ Below W.heap.size W W':=by
 have HB:=rf W
 go_enter Tryz.func273,Tryz.ntmps273
 go_wp2_with fail
 go_ret2
 exact ⟨rfl,aa HB⟩
theorem qG {x : Int} (W : World) (g : ¬ x < 0) :
 Calls Tryz.prog 274 #[.int .u64 x] W fun r W' => r = .returned (.tuple #[.bool false,.int .u64 x]) ∧ Below W.heap.size W W':=by
 have HB:=rf W
 go_enter Tryz.func274,Tryz.ntmps274
 go_wp2_with fail
 go_ret2
 exact ⟨rfl,aa HB⟩
theorem ki {x a y : Int} {m : Bool} (W : World) (h1 : IntKind.i32.wrap x = y) (HS : Ct 271 #[.int .i32 y] (.tuple #[.bool m,.int .u64 a])) :
 Calls Tryz.prog 249 #[.int .i64 32,.int .u64 x,.bool true] W fun r W' => r = .returned (.tuple #[.bool m,.int .u64 a]) ∧ Below W.heap.size W W':=by
 have HB:=rf W
 go_enter Tryz.func249,Tryz.ntmps249
 go_wp2_with fail
 refine cg0 HS HB fun w1 HB => ?_
 go_wp2_with fail
 go_ret2
 exact ⟨rfl,aa HB⟩
theorem qH {x a y : Int} {m : Bool} (W : World) (h1 : IntKind.u32.wrap x = y) (HS : Ct 272 #[.int .u32 y] (.tuple #[.bool m,.int .u64 a])) :
 Calls Tryz.prog 249 #[.int .i64 32,.int .u64 x,.bool false] W fun r W' => r = .returned (.tuple #[.bool m,.int .u64 a]) ∧ Below W.heap.size W W':=by
 have HB:=rf W
 go_enter Tryz.func249,Tryz.ntmps249
 go_wp2_with fail
 refine cg0 HS HB fun w1 HB => ?_
 go_wp2_with fail
 go_ret2
 exact ⟨rfl,aa HB⟩
theorem kj {x a y : Int} {m : Bool} (W : World) (h1 : IntKind.i64.wrap x = y) (HS : Ct 273 #[.int .i64 y] (.tuple #[.bool m,.int .u64 a])) :
 Calls Tryz.prog 249 #[.int .i64 64,.int .u64 x,.bool true] W fun r W' => r = .returned (.tuple #[.bool m,.int .u64 a]) ∧ Below W.heap.size W W':=by
 have HB:=rf W
 go_enter Tryz.func249,Tryz.ntmps249
 go_wp2_with fail
 refine cg0 HS HB fun w1 HB => ?_
 go_wp2_with fail
 go_ret2
 exact ⟨rfl,aa HB⟩
theorem qI {x a : Int} {m : Bool} (W : World) (HS : Ct 274 #[.int .u64 x] (.tuple #[.bool m,.int .u64 a])) :
 Calls Tryz.prog 249 #[.int .i64 64,.int .u64 x,.bool false] W fun r W' => r = .returned (.tuple #[.bool m,.int .u64 a]) ∧ Below W.heap.size W W':=by
 have HB:=rf W
 go_enter Tryz.func249,Tryz.ntmps249
 go_wp2_with fail
 refine cg0 HS HB fun w1 HB => ?_
 go_wp2_with fail
 go_ret2
 exact ⟨rfl,aa HB⟩
theorem uO {w x h l V : Int} (W : World) (HO : Ct 161 #[.int .u64 x] (.agg #[.int .u64 h,.int .u64 l])) (HP : Ct 160 #[.int .i64 w,.bool false,.agg #[.int .u64 h,.int .u64 l],.int .i64 0,.bool false] (.int .u64 V)) :
 Calls Tryz.prog 250 #[.int .i64 w,.bool false,.int .u64 x] W fun r W' => r = .returned (.int .u64 V) ∧ Below W.heap.size W W':=by
 have HB:=rf W
 go_enter Tryz.func250,Tryz.ntmps250
 go_wp2_with fail
 refine cg0 HO HB fun w1 HB => ?_
 go_wp2_with fail
 refine cg0 HP HB fun w2 HB => ?_
 go_wp2_with fail
 go_ret
 exact ⟨rfl,aa HB⟩
theorem uP {w x h l V : Int} {nb : Bool} (W : World) (hx : (x != 0) = nb) (HO : Ct 161 #[.int .u64 x] (.agg #[.int .u64 h,.int .u64 l])) (HP : Ct 160 #[.int .i64 w,.bool nb,.agg #[.int .u64 h,.int .u64 l],.int .i64 0,.bool false] (.int .u64 V)) :
 Calls Tryz.prog 250 #[.int .i64 w,.bool true,.int .u64 x] W fun r W' => r = .returned (.int .u64 V) ∧ Below W.heap.size W W':=by
 have HB:=rf W
 go_enter Tryz.func250,Tryz.ntmps250
 go_wp2_with fail
 refine cg0 HO HB fun w1 HB => ?_
 go_wp2_with fail
 refine cg0 HP HB fun w2 HB => ?_
 go_wp2_with fail
 go_ret
 exact ⟨rfl,aa HB⟩
theorem jF {w k x a V : Int} {s m : Bool} (W : World) (HN : Ct 249 #[.int .i64 k,.int .u64 x,.bool s] (.tuple #[.bool m,.int .u64 a])) (HW : Ct 250 #[.int .i64 w,.bool m,.int .u64 a] (.int .u64 V)) :
 Calls Tryz.prog 169 #[.int .i64 w,.int .i64 k,.int .u64 x,.bool s] W fun r W' => r = .returned (.int .u64 V) ∧ Below W.heap.size W W':=by
 have HB:=rf W
 go_enter Tryz.func169,Tryz.ntmps169
 go_wp2_with fail
 refine cg0 HN HB fun w1 HB => ?_
 go_wp2_with fail
 refine cg0 HW HB fun w2 HB => ?_
 go_wp2_with fail
 go_ret
 exact ⟨rfl,aa HB⟩
theorem td {w k x V : Int} (W : World) (HN : Ct 169 #[.int .i64 w,.int .i64 k,.int .u64 x,.bool false] (.int .u64 V)) :
 Calls Tryz.prog 94 #[.int .i64 w,.int .i64 k,.int .u64 x] W fun r W' => r = .returned (.int .u64 V) ∧ Below W.heap.size W W':=by
 have HB:=rf W
 go_enter Tryz.func94,Tryz.ntmps94
 go_wp2_with fail
 refine cg0 HN HB fun w1 HB => ?_
 go_wp2_with fail
 go_ret
 exact ⟨rfl,aa HB⟩
theorem xt {w k x V : Int} (W : World) (HN : Ct 169 #[.int .i64 w,.int .i64 k,.int .u64 x,.bool true] (.int .u64 V)) :
 Calls Tryz.prog 93 #[.int .i64 w,.int .i64 k,.int .u64 x] W fun r W' => r = .returned (.int .u64 V) ∧ Below W.heap.size W W':=by
 have HB:=rf W
 go_enter Tryz.func93,Tryz.ntmps93
 go_wp2_with fail
 refine cg0 HN HB fun w1 HB => ?_
 go_wp2_with fail
 go_ret
 exact ⟨rfl,aa HB⟩
theorem xu {x K E S V : Int} {n : Bool} (W : World) (HO : Ct 15 #[.int .i64 32,.int .u64 x] (.agg #[.bool n,.int .i64 K,.int .i64 E,.int .u64 S])) (HN : Ct 170 #[.int .i64 64,.agg #[.bool n,.int .i64 K,.int .i64 E,.int .u64 S]] (.int .u64 V)) :
 Calls Tryz.prog 96 #[.int .u64 x] W fun r W' => r = .returned (.int .u64 V) ∧ Below W.heap.size W W':=by
 have HB:=rf W
 go_enter Tryz.func96,Tryz.ntmps96
 go_wp2_with fail
 refine cg0 HO HB fun w1 HB => ?_
 go_wp2_with fail
 refine cg0 HN HB fun w2 HB => ?_
 go_wp2_with fail
 go_ret
 exact ⟨rfl,aa HB⟩
theorem acu {x K E S V : Int} {n : Bool} (W : World) (HO : Ct 15 #[.int .i64 64,.int .u64 x] (.agg #[.bool n,.int .i64 K,.int .i64 E,.int .u64 S])) (HN : Ct 170 #[.int .i64 32,.agg #[.bool n,.int .i64 K,.int .i64 E,.int .u64 S]] (.int .u64 V)) :
 Calls Tryz.prog 95 #[.int .u64 x] W fun r W' => r = .returned (.int .u64 V) ∧ Below W.heap.size W W':=by
 have HB:=rf W
 go_enter Tryz.func95,Tryz.ntmps95
 go_wp2_with fail
 refine cg0 HO HB fun w1 HB => ?_
 go_wp2_with fail
 refine cg0 HN HB fun w2 HB => ?_
 go_wp2_with fail
 go_ret
 exact ⟨rfl,aa HB⟩
theorem aun {k e f : Int} (W : World) (HF : Ct 23 #[.int .i64 k] (.tuple #[.int .i64 e,.int .i64 f])) :
 Calls Tryz.prog 245 #[.int .i64 k] W fun r W' => r = .returned (.bool (e != 0)) ∧ Below W.heap.size W W':=by
 have HB:=rf W
 go_enter Tryz.func245,Tryz.ntmps245
 go_wp2_with fail
 refine cg0 HF HB fun w1 HB => ?_
 go_wp2_with fail
 go_ret
 exact ⟨rfl,aa HB⟩
theorem acx {k a h L : Int} (W : World) (HC : Ct 17 #[.int .i64 k,.int .u64 18446744073709551615] (.int .u64 a)) (h1 : a / 2 = h) (h2 : IntKind.u64.wrap (a - h) = L) :
 Calls Tryz.prog 246 #[.int .i64 k,.bool true] W fun r W' => r = .returned (.tuple #[.int .u64 L,.int .u64 h]) ∧ Below W.heap.size W W':=by
 have HB:=rf W
 go_enter Tryz.func246,Tryz.ntmps246
 go_wp2_with fail
 refine cg0 HC HB fun w1 HB => ?_
 go_wp2_with fail
 go_ret2
 exact ⟨rfl,aa HB⟩
theorem acy {k a : Int} (W : World) (HC : Ct 17 #[.int .i64 k,.int .u64 18446744073709551615] (.int .u64 a)) :
 Calls Tryz.prog 246 #[.int .i64 k,.bool false] W fun r W' => r = .returned (.tuple #[.int .u64 0,.int .u64 a]) ∧ Below W.heap.size W W':=by
 have HB:=rf W
 go_enter Tryz.func246,Tryz.ntmps246
 go_wp2_with fail
 refine cg0 HC HB fun w1 HB => ?_
 go_wp2_with fail
 go_ret2
 exact ⟨rfl,aa HB⟩
theorem an2 {k x y V : Int} (W : World) (h1 : IntKind.u64.wrap (-x) = y) (HC : Ct 17 #[.int .i64 k,.int .u64 y] (.int .u64 V)) :
 Calls Tryz.prog 248 #[.int .i64 k,.bool true,.int .u64 x] W fun r W' => r = .returned (.int .u64 V) ∧ Below W.heap.size W W':=by
 have HB:=rf W
 go_enter Tryz.func248,Tryz.ntmps248
 go_wp2_with fail
 refine cg0 HC HB fun w1 HB => ?_
 go_wp2_with fail
 go_ret
 exact ⟨rfl,aa HB⟩
theorem an3 {k x : Int} (W : World)  :
 Calls Tryz.prog 248 #[.int .i64 k,.bool false,.int .u64 x] W fun r W' => r = .returned (.int .u64 x) ∧ Below W.heap.size W W':=by
 have HB:=rf W
 go_enter Tryz.func248,Tryz.ntmps248
 go_wp2_with fail
 go_ret
 exact ⟨rfl,aa HB⟩
theorem an4 {w k x a t : Int} {s : Bool} (W : World) (HC : Ct 168 #[.int .i64 w,.int .i64 k,.int .u64 x,.bool s] (.tuple #[.int .u64 a,.int .i64 t])) (g : (t != 0) = true) :
 Calls Tryz.prog 92 #[.int .i64 w,.int .i64 k,.int .u64 x,.bool s] W fun r W' => r = .returned (.tuple #[.int .u64 0,.int .i64 t]) ∧ Below W.heap.size W W':=by
 have HB:=rf W
 go_enter Tryz.func92,Tryz.ntmps92
 go_wp2_with fail
 refine cg0 HC HB fun w1 HB => ?_
 go_wp2_with fail
 go_ret2
 exact ⟨rfl,aa HB⟩
theorem acz {w k x a : Int} {s : Bool} (W : World) (HC : Ct 168 #[.int .i64 w,.int .i64 k,.int .u64 x,.bool s] (.tuple #[.int .u64 a,.int .i64 0])) :
 Calls Tryz.prog 92 #[.int .i64 w,.int .i64 k,.int .u64 x,.bool s] W fun r W' => r = .returned (.tuple #[.int .u64 a,.int .i64 0]) ∧ Below W.heap.size W W':=by
 have HB:=rf W
 go_enter Tryz.func92,Tryz.ntmps92
 go_wp2_with fail
 refine cg0 HC HB fun w1 HB => ?_
 go_wp2_with fail
 go_ret2
 exact ⟨rfl,aa HB⟩
theorem aj9 {w k x a t : Int} {s : Bool} (W : World) (HC : Ct 168 #[.int .i64 w,.int .i64 k,.int .u64 x,.bool s] (.tuple #[.int .u64 a,.int .i64 t])) :
 Calls Tryz.prog 98 #[.int .i64 w,.int .i64 k,.int .u64 x,.bool s] W fun r W' => r = .returned (.int .u64 a) ∧ Below W.heap.size W W':=by
 have HB:=rf W
 go_enter Tryz.func98,Tryz.ntmps98
 go_wp2_with fail
 refine cg0 HC HB fun w1 HB => ?_
 go_wp2_with fail
 go_ret
 exact ⟨rfl,aa HB⟩
end Go.Proofs.YtpbgpdmffejdgaaGreatDoor
