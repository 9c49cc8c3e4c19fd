/- MRbD. -/
import Derived.Test.YtpbgpdmffejdgaaGreatDoorG01
import Derived.Test.YtpbgpdmffejdgaaGreatDoorG26
import Derived.Test.YtpbgpdmffejdgaaGreatDoorG32
namespace Go.Proofs.YtpbgpdmffejdgaaGreatDoor
set_option maxHeartbeats 4000000
set_option maxRecDepth 100000
open Go.RowKit
open Go.Proofs.YtpbgpdmffejdgaaGreatDoor.W
section
variable {P : Program} {ops : Array Oper} {Q : Exit → Act → World → Prop} {md : Region.Mode} {S : World → Prop}
theorem tkX (i d m' : Nat) {v : Value} {op : Go.Op} {ty : TypeId} {pos : String} {af : Array Edge} {g : Option (Nat × Bool)} {n m fuel : Nat} {a a' : Act} {w : World}
 (h : wpAnyH P md ops Q S fuel (lst n m') a' w)
 (hi : ops[i]? = some ⟨some d,op,ty,pos,af,g⟩:=by rfl)
 (hc : (Region.noSelect ops && Region.free md ops (lst n m) i && (Region.ready md ops (lst n m)).contains i) = true:=by kernel_rfl)
 (he : (lst n m).setIfInBounds i true = lst n m':=by kernel_rfl)
 (hQ : ∀ c a w,Q (.panic c) (a.put (some d) v) w → Q (.panic c) a w:=by exact fun _ _ _ h => h)
 (hS : S w:=by assumption)
 (hy : YieldsIf P ops S ⟨some d,op,ty,pos,af,g⟩ v a:=by first | exact Or.inr ⟨by rfl,rfl⟩ | (refine Or.inl ⟨by rfl,?_⟩; ((intro w hSw; (try dsimp only at hSw); go_simp) <;> with_reducible rfl)))
 (ha : a.put (some d) v = a':=by ((try simp only [Act.put,List.setIfInBounds_toArray,List.set_cons_zero,List.set_cons_succ]); rfl)) :
 wpAnyH P md ops Q S (fuel + 1) (lst n m) a w:=by
 subst ha
 exact tkH i d m' v hi hc he hQ hS hy h
end
theorem tN {w : World} {b o : Nat} (x : Obj) (h : b < w.heap.size) : (w.drew.alloc x).cell? ⟨b,o,none⟩ = w.cell? ⟨b,o,none⟩:=by
 rw [World.cell?_alloc_lt _ _ _ (by simpa using h)]
 simp
def q9 (s : ByteArray) (p q : Bool) : Bool:=bif s == ⟨#[97,110,100]⟩ then p && q else bif s == ⟨#[111,114]⟩ then p || q else p != q
theorem alo {s : ByteArray} {a b : Int} {n A B : Nat} {G : Nat → Bool} (HE : Hid (∀ i,q9 s (A.testBit i) (B.testBit i) = G i)) (hs : s = ⟨#[97,110,100]⟩ ∨ s = ⟨#[111,114]⟩ ∨ s = ⟨#[120,111,114]⟩) (hn : n ≤ 64) (n0 : 0 < n)
 (H1 : Hid (∀ W,Calls Tryz.prog 172 #[.int .i64 (n : Int),.int .u64 a] W fun e w' => ∃ s,e = .returned s ∧ db w' s A.testBit n ∧ Below W.heap.size W w'))
 (H2 : Hid (∀ W,Calls Tryz.prog 172 #[.int .i64 (n : Int),.int .u64 b] W fun e w' => ∃ s,e = .returned s ∧ db w' s B.testBit n ∧ Below W.heap.size W w'))
 (HF : Hid (∀ v W,db W v G n → Calls Tryz.prog 173 #[v] W fun e w' => e = .returned (.int .u64 ((bX G n : Nat) : Int)) ∧ Below W.heap.size W w')) :
 Ct 199 #[.string s,.int .i64 (n : Int),.int .u64 a,.int .u64 b] (.int .u64 ((bX G n : Nat) : Int)):=by
 refine ab (fun W => ?_)
 rcases hs with rfl | rfl | rfl
 all_goals
  go_enter Tryz.func199,Tryz.ntmps199
  go_wp2_with fail
  refine (aa H1 _).mono ?_
  rintro _ w1 ⟨s1,rfl,hH1,hb1⟩
  obtain ⟨b1,c1,rfl,hz1,hn1,hg1⟩:=hH1
  go_wp2_with fail
  refine (aa H2 _).mono ?_
  rintro _ w2 ⟨s2,rfl,hH2,hb2⟩
  obtain ⟨b2,c2,rfl,hz2,hn2,hg2⟩:=hH2
  have HZ:=ab (show b1 < w2.heap.size ∧ b2 < w2.heap.size from ⟨Nat.lt_of_lt_of_le hz1 hb2.size,hz2⟩)
  have HG:=ab (show ∀ i,i < n → w2.cell? ⟨b1,i,none⟩ = some (.bool (A.testBit i)) ∧ w2.cell? ⟨b2,i,none⟩ = some (.bool (B.testBit i)) from fun i hi => ⟨aw hb2 hz1 (hg1 i hi),hg2 i hi⟩)
  have HW:=ab (ac hb1 hb2)
  clear hb1 hb2 hg1 hg2 hz1 hz2 H1 H2
  go_wp2_with fail
  go_loopw [11,12] (fun v11 v12 wr => ∃ i : Nat,i ≤ n ∧ v12 = .int .i64 (i : Int) ∧ wr.ownsRow w2.heap.size 4 1 v11 i (cH G i) ∧ Below w2.heap.size w2 wr) (fun _ i _ => n - (intOf i).toNat)
  case atStart => exact ⟨0,by omega,rfl,World.ownsRow_nil _ _ _ _,Below.refl _ _⟩
  case round =>
   obtain ⟨i,hi,rfl,hown,hB⟩:=hrel
   have HO:=ab hown; have HB:=ab hB
   have HL1:=ab (show i + 1 ≤ maxLen by unfold maxLen; omega)
   have HL2:=ab (show (i + 1) * 1 ≤ 140737488355328 by omega)
   have HL3:=ab (show w2.heap.size ≤ wr.heap.size from hB.size)
   clear hown hB
   by_cases hc : i < n
   ·have HEi:=ab (aa HE i)
    have hc1:=aw (aa HB) (aa HZ).1 (aa HG i hc).1
    have hc2:=aw (aa HB) (aa HZ).2 (aa HG i hc).2
    have HZr:=ab (show b1 < wr.heap.size ∧ b2 < wr.heap.size from ⟨Nat.lt_of_lt_of_le (aa HZ).1 (aa HL3),Nat.lt_of_lt_of_le (aa HZ).2 (aa HL3)⟩)
    have HOd : Hid (wr.drew.ownsRow w2.heap.size 4 1 _ i (cH G i)):=ab (aa HO)
    have HBd:=ab (aa HB).drew
    have HL3d : Hid (w2.heap.size ≤ wr.drew.heap.size):=ab (aa HL3)
    generalize A.testBit i = p at *
    generalize B.testBit i = q at *
    go_wp2_with fail
    cases p <;> cases q
    all_goals
     refine wp_region_held_drew (S:=fun u => u.cell? ⟨b1,i,none⟩ = wr.cell? ⟨b1,i,none⟩ ∧ u.cell? ⟨b2,i,none⟩ = wr.cell? ⟨b2,i,none⟩) (by kernel_rfl) ?_ (fun hHeld => ?_)
     ·exact ⟨by simp,by simp⟩
     refine aC 49 (by kernel_rfl) ?_
     refine tkX 0 34 1 ?_
     refine tkX 1 35 3 ?_
     refine tkX 2 36 7 ?_
     refine tkX 3 37 15 ?_
     refine tkX 4 38 31 ?_
     refine tkX 5 39 63 ?_
     refine tkX 6 40 127 ?_
     refine tkX 7 41 255 ?_
     refine tkX 8 42 511 ?_
     refine tkX 9 43 1023 ?_
     refine tkX 10 44 2047 ?_
     refine tkX 11 45 4095 ?_
     refine tkX 12 46 8191 ?_
     refine tkX 13 47 16383 ?_
     refine tkX 14 48 32767 ?_
     refine tkX 15 49 65535 ?_
     refine tkX 16 50 131071 ?_
     refine tkX 17 51 262143 ?_
     refine tkX 18 52 524287 ?_
     refine tkX 19 53 1048575 ?_
     refine tkX 20 54 2097151 ?_
     refine tkX 21 55 4194303 ?_
     refine tkX 22 56 8388607 ?_
     refine tkX 23 57 16777215 ?_
     refine tkX 24 58 33554431 ?_
     refine tkX 25 59 67108863 ?_
     refine tkX 26 60 134217727 ?_
     refine tkX 27 61 268435455 ?_
     refine tkX 28 62 536870911 ?_
     refine tkX 29 63 1073741823 ?_
     refine tkX 30 64 2147483647 ?_
     refine tkX 31 65 4294967295 ?_
     refine tkX 32 66 8589934591 ?_
     refine tkX 33 67 17179869183 ?_
     refine tkX 34 68 34359738367 ?_
     refine tkX 35 69 68719476735 ?_
     refine tkX 36 70 137438953471 ?_
     refine tkX 37 71 274877906943 ?_
     refine tkX 38 72 549755813887 ?_
     refine tkX 39 73 1099511627775 ?_
     refine tkX 40 74 2199023255551 ?_
     refine tkX 41 75 4398046511103 ?_
     refine tkX 42 76 8796093022207 ?_
     refine tkX 43 77 17592186044415 ?_
     refine tkX 44 78 35184372088831 ?_
     refine tkX 45 79 70368744177663 ?_
     refine rdA 46 140737488355327 (fun Kk hKk => ?_)
     go_simp
     refine hKk.out _ _ ⟨tN _ (aa HZr).1,tN _ (aa HZr).2⟩ (fun hHeld => ?_)
     clear hKk Kk
     (try simp only [List.setIfInBounds_toArray,List.set_cons_zero,List.set_cons_succ])
     refine rdA 47 281474976710655 (fun Kk hKk => ?_)
     rw [if_pos (show Region.wanted _ _ = true from rfl)]
     refine wp_append_own _ (.tmp 34) (.tmp 80) 151 rfl (w2.heap.size) 4 _ (.bool false) 1 1 Tryz.underlying151 iB rfl rfl rfl rfl (by decide) _ _ _ rfl (World.ownsRow.alloc (aa HOd) _) ⟨wr.heap.size,0,none⟩ 1 1 [.bool _] rfl rfl (cell_one_new _ _ _) (dL _) (aa HL1) (aa HL2) (bY (aa HL3d) _) (fun v' wz hown' hgr _ => ?_)
     have hr:=cA (aa HOd) (aa HBd) (aa HL3d) hown' hgr (aa HEi)
     refine hKk.out _ _ ⟨(d8 hr.2 b1 i (aa HZ).1).trans (d8 (aa HB) b1 i (aa HZ).1).symm,(d8 hr.2 b2 i (aa HZ).2).trans (d8 (aa HB) b2 i (aa HZ).2).symm⟩ (fun hHeld => ?_)
     have HR:=ab hr
     clear hKk Kk hown' hgr hr
     (try simp only [Act.put,List.setIfInBounds_toArray,List.set_cons_zero,List.set_cons_succ])
     refine tkX 48 11 562949953421311 ?_
     refine wpAnyH_done (by kernel_rfl) ?_ _
     clear hHeld hc1 hc2
     go_wp2_with fail
     exact ⟨⟨i + 1,by omega,by go_num,(aa HR).1,(aa HR).2⟩,by simp [intOf]; omega⟩
   ·have hin : i = n:=by omega
    subst hin
    have hH:=ab (gT (aa HO) n0)
    go_wp2_with fail
    refine (aa HF _ _ (aa hH)).mono ?_
    rintro _ w3 ⟨rfl,hb⟩
    have HB:=ab (ac (ac (aa HW) (aa HB)) hb)
    clear hb
    go_wp2_with fail
    go_ret
    exact ⟨rfl,aa HB⟩
end Go.Proofs.YtpbgpdmffejdgaaGreatDoor
