/- MClose, MCloseW, MParts, MFloat, MExA. -/
import Derived.Test.YtpbgpdmffejdgaaGreatDoorG01
import Derived.Test.YtpbgpdmffejdgaaGreatDoorG02
import Derived.Test.YtpbgpdmffejdgaaGreatDoorG10
import Derived.Test.YtpbgpdmffejdgaaGreatDoorG16
import Derived.Test.YtpbgpdmffejdgaaGreatDoorG24
import Derived.Test.YtpbgpdmffejdgaaGreatDoorG25
namespace Go.Proofs.YtpbgpdmffejdgaaGreatDoor
set_option maxRecDepth 100000
set_option maxHeartbeats 4000000
open Go.RowKit
theorem At2.set {b c : Nat} {x y : Value} {w : World} (h : At2 b x y w) (hc : b ≠ c) (o : Nat) (k : Value) : At2 b x y (w.setCell ⟨c,o,none⟩ k):=
 ⟨ax _ _ _ hc h.1,ax _ _ _ hc h.2⟩
theorem At4.set {b c : Nat} {x y z u : Value} {w : World} (h : At4 b x y z u w) (hc : b ≠ c) (o : Nat) (k : Value) : At4 b x y z u (w.setCell ⟨c,o,none⟩ k):=
 ⟨ax _ _ _ hc h.1,ax _ _ _ hc h.2.1,ax _ _ _ hc h.2.2.1,ax _ _ _ hc h.2.2.2⟩
theorem At2.set5 {b c : Nat} {x y : Value} {w : World} (h : At2 b x y w) (hc : b ≠ c) (v0 v1 v2 v3 v4 : Value) :
 At2 b x y (((((w.setCell ⟨c,0,none⟩ v0).setCell ⟨c,1,none⟩ v1).setCell ⟨c,2,none⟩ v2).setCell ⟨c,3,none⟩ v3).setCell ⟨c,4,none⟩ v4):=
 ((((h.set hc _ _).set hc _ _).set hc _ _).set hc _ _).set hc _ _
theorem At4.set5 {b c : Nat} {x y z u : Value} {w : World} (h : At4 b x y z u w) (hc : b ≠ c) (v0 v1 v2 v3 v4 : Value) :
 At4 b x y z u (((((w.setCell ⟨c,0,none⟩ v0).setCell ⟨c,1,none⟩ v1).setCell ⟨c,2,none⟩ v2).setCell ⟨c,3,none⟩ v3).setCell ⟨c,4,none⟩ v4):=
 ((((h.set hc _ _).set hc _ _).set hc _ _).set hc _ _).set hc _ _
theorem aS.set5 {b : Nat} {w : World} (h : aS b 5 w) (v0 v1 v2 v3 v4 : Value) :
 aS b 5 (((((w.setCell ⟨b,0,none⟩ v0).setCell ⟨b,1,none⟩ v1).setCell ⟨b,2,none⟩ v2).setCell ⟨b,3,none⟩ v3).setCell ⟨b,4,none⟩ v4):=
 ((((h.set _ _).set _ _).set _ _).set _ _).set _ _
theorem gp {b o : Nat} {w : World} (h : aS b 5 w) (ho : o < 5) (v : Value) : (w.setCell ⟨b,o,none⟩ v).cell? ⟨b,o,none⟩ = some v:=by
 obtain ⟨⟨u,h1⟩,_⟩:=h o ho
 exact World.cell?_setCell_same _ _ _ h1
theorem az {b o o' : Nat} {w : World} {x : Value} (v : Value) (hne : o ≠ o') (h : w.cell? ⟨b,o,none⟩ = some x) : (w.setCell ⟨b,o',none⟩ v).cell? ⟨b,o,none⟩ = some x:=by
 rw [World.cell?_setCell_other _ _ _ _ (by intro hh; injection hh with _ h3; exact hne h3.symm)]; exact h
theorem eW {b : Nat} {w : World} (h : aS b 5 w) (v0 v1 v2 v3 v4 : Value) :
 At5 b v0 v1 v2 v3 v4 (((((w.setCell ⟨b,0,none⟩ v0).setCell ⟨b,1,none⟩ v1).setCell ⟨b,2,none⟩ v2).setCell ⟨b,3,none⟩ v3).setCell ⟨b,4,none⟩ v4):=
 ⟨az _ (by omega) (az _ (by omega) (az _ (by omega) (az _ (by omega) (gp h (by omega) _)))),az _ (by omega) (az _ (by omega) (az _ (by omega) (gp (h.set _ _) (by omega) _))),az _ (by omega) (az _ (by omega) (gp ((h.set _ _).set _ _) (by omega) _)),az _ (by omega) (gp (((h.set _ _).set _ _).set _ _) (by omega) _),gp ((((h.set _ _).set _ _).set _ _).set _ _) (by omega) _⟩
theorem kZ {a b : World} {c : Nat} (h : Below a.heap.size a b) (hc : a.heap.size ≤ c) (v0 v1 v2 v3 v4 : Value) :
 Below a.heap.size a (((((b.setCell ⟨c,0,none⟩ v0).setCell ⟨c,1,none⟩ v1).setCell ⟨c,2,none⟩ v2).setCell ⟨c,3,none⟩ v3).setCell ⟨c,4,none⟩ v4):=
 aZ (aZ (aZ (aZ (aZ h _ hc _ _) _ hc _ _) _ hc _ _) _ hc _ _) _ hc _ _
theorem dr {N b : Nat} {v0 v1 v2 v3 v4 : Value} {w : World} (h : aY N #[v0,v1,v2,v3,v4] b w) : aS b 5 w:=fun o ho => by
 refine ⟨?_,h.thawed o⟩
 match o,ho with
 | 0,_ => exact ⟨_,h.cell 0 _ rfl⟩
 | 1,_ => exact ⟨_,h.cell 1 _ rfl⟩
 | 2,_ => exact ⟨_,h.cell 2 _ rfl⟩
 | 3,_ => exact ⟨_,h.cell 3 _ rfl⟩
 | 4,_ => exact ⟨_,h.cell 4 _ rfl⟩
theorem aG (b : Nat) (x y : Value) : aP (At2 b x y):=fun _ _ h k => h.below k
theorem aB (b : Nat) (x y z u : Value) : aP (At4 b x y z u):=fun _ _ h k => h.below k
theorem yr {b : Nat} {x y z u v : Value} {w : World} (h : At5 b x y z u v w) (k : Value) : At5 b x y z k v (w.setCell ⟨b,3,none⟩ k):=
 ⟨az _ (by omega) h.1,az _ (by omega) h.2.1,az _ (by omega) h.2.2.1,World.cell?_setCell_same _ _ _ h.2.2.2.1,az _ (by omega) h.2.2.2.2⟩
theorem aec {e f P Q b K X S D R : Int} {n : Bool} (W : World) (hs : Sz e f P Q b) (g0 : 0 ≤ f) (g1 : f ≤ 63)
 (kp : IntKind.u64.wrap (P - 1) = P - 1) (ka : bits .and .u64 S (P - 1) = R) (kd : S / 2 ^ f.toNat = D) (d0 : (D == 0) = false) (d1 : (D == 1) = false) :
 Calls Tryz.prog 283 #[.agg #[.int .i64 e,.int .i64 f],.agg #[.bool n,.int .i64 K,.int .i64 X,.int .u64 S]] W fun r W' => r = .returned (.tuple #[.int .u64 0,.int .i64 2]) ∧ Below W.heap.size W W':=by
 go_enter Tryz.func283,Tryz.ntmps283
 go_wp2_with fail
 have hz0 : W.heap.size ≠ W.heap.size + 1:=by omega
 refine wp_region_held_drew (S:=fun w' => (w'.cell? ⟨W.heap.size,0,none⟩ = some (.int .i64 e) ∧ w'.cell? ⟨W.heap.size,1,none⟩ = some (.int .i64 f)) ∧ (w'.cell? ⟨W.heap.size + 1,0,none⟩ = some (.bool n) ∧ w'.cell? ⟨W.heap.size + 1,1,none⟩ = some (.int .i64 K) ∧ w'.cell? ⟨W.heap.size + 1,2,none⟩ = some (.int .i64 X) ∧ w'.cell? ⟨W.heap.size + 1,3,none⟩ = some (.int .u64 S))) (by kernel_rfl) ?_ (fun hHeld => ?_)
 ·(try dsimp only)
  simp [go_sem]
 refine bF (N:=W.heap.size + 1 + 1) (i1:=10) (d1:=6) (v1:=#[.int .i64 0,.int .i64 0,.bool false,.int .u64 0,.int .u64 0]) (t1:=82) (f:=1) (n:=10) (T:=fun w' => Below W.heap.size W w') (by kernel_rfl) (by kernel_rfl) (fun _ _ _ _ _ h => h) ((aG _ _ _).and (aB _ _ _ _ _)) ?_ (ao W) hHeld ((aq W _ _).drew) (by simp) ?_
 ·intro a w K h
  unfold wpOp
  go_simp
  exact Or.inl h
 clear hHeld
 refine woA 0 7 ?_
 refine woA 1 8 ?_
 refine woA 2 9 ?_
 refine woA 3 10 ?_
 refine woA 4 11 ?_
 refine woA 5 12 ?_
 refine bv (c:=6) (o:={ dst:=some 13,op:=_,type:=_,pos:=_,after:=_,guard:=_ }) rfl (by kernel_rfl) (by kernel_rfl) (fun u hSu hTu Kk hKk => ?_)
 go_simp
 refine (cU hs _).mono ?_
 rintro _ wn ⟨rfl,hbl⟩
 have HTn:=ab (ac hTu hbl)
 clear hTu hSu
 (try go_wp2_with fail)
 refine hKk.out _ _ (fun w' => Below W.heap.size W w') (by assumption) (ao W) (aa HTn) ?_
 clear hKk Kk HTn
 (try simp only [Act.put,List.setIfInBounds_toArray,List.set_cons_zero,List.set_cons_succ])
 refine woA 7 14 ?_
 refine woA 8 15 ?_
 refine woA 9 16 ?_
 refine cQ (by kernel_rfl) (fun wf b1 hSu hTu k1 => ?_)
 (try simp only [Act.put,List.setIfInBounds_toArray,List.set_cons_zero,List.set_cons_succ])
 unfold ptr
 have zb:=k1.base
 have HRm:=ab (dr k1)
 obtain ⟨⟨v0,c0⟩,f0⟩:=(aa HRm) 0 (by omega)
 obtain ⟨⟨v1,c1⟩,f1⟩:=(aa HRm) 1 (by omega)
 obtain ⟨⟨v2,c2⟩,f2⟩:=(aa HRm) 2 (by omega)
 obtain ⟨⟨v3,c3⟩,f3⟩:=(aa HRm) 3 (by omega)
 obtain ⟨⟨v4,c4⟩,f4⟩:=(aa HRm) 4 (by omega)
 refine ct #[true,true,true,true,true,true,true,true,true,true,true,false] (by kernel_rfl) ?_
 refine wpAnyH_ready (rs:=[11]) (by kernel_rfl) (by simp) ?_
 refine AllReadyH.cons (o:={ dst:=none,op:=_,type:=_,pos:=_,after:=_,guard:=_ }) rfl (fun Kk hKk => ?_) AllReadyH.nil
 go_simp
 refine hKk.out _ _ ?_ (fun hHeld => ?_)
 ·(try dsimp only)
  exact ⟨At2.set5 hSu.1 (by omega) _ _ _ _ _,At4.set5 hSu.2 (by omega) _ _ _ _ _⟩
 clear hKk Kk
 refine wpAnyH_done (by kernel_rfl) ?_ _
 have HA5:=ab (eW (aa HRm) (.int .i64 e) (.int .i64 f) (.bool n) (.int .u64 0) (.int .u64 R))
 have HB:=ab (kZ (c:=b1) hTu (by omega) (.int .i64 e) (.int .i64 f) (.bool n) (.int .u64 0) (.int .u64 R))
 have HRm:=ab ((aa HRm).set5 (.int .i64 e) (.int .i64 f) (.bool n) (.int .u64 0) (.int .u64 R))
 have HS:=ab hHeld
 clear hHeld hSu hTu k1 c0 c1 c2 c3 c4 f0 f1 f2 f3 f4
 generalize ((((wf.setCell ⟨b1,0,none⟩ (.int .i64 e)).setCell ⟨b1,1,none⟩ (.int .i64 f)).setCell ⟨b1,2,none⟩ (.bool n)).setCell ⟨b1,3,none⟩ (.int .u64 0)).setCell ⟨b1,4,none⟩ (.int .u64 R) = wx at *
 obtain ⟨⟨s0,s1⟩,p0,p1,p2,p3⟩:=aa HS
 go_wp2_with fail
 clear s0 s1 p0 p1 p2 p3
 go_ret2
 exact ⟨rfl,aa HB⟩
theorem apg {e f P Q b K X S D R : Int} {n : Bool} (W : World) (hs : Sz e f P Q b) (g0 : 0 ≤ f) (g1 : f ≤ 63)
 (kp : IntKind.u64.wrap (P - 1) = P - 1) (ka : bits .and .u64 S (P - 1) = R) (kd : S / 2 ^ f.toNat = D) (d0 : (D == 0) = true) (z0 : (S == 0) = true) :
 Calls Tryz.prog 283 #[.agg #[.int .i64 e,.int .i64 f],.agg #[.bool n,.int .i64 K,.int .i64 X,.int .u64 S]] W fun r W' => r = .returned (.tuple #[.int .u64 0,.int .i64 2]) ∧ Below W.heap.size W W':=by
 go_enter Tryz.func283,Tryz.ntmps283
 go_wp2_with fail
 have hz0 : W.heap.size ≠ W.heap.size + 1:=by omega
 refine wp_region_held_drew (S:=fun w' => (w'.cell? ⟨W.heap.size,0,none⟩ = some (.int .i64 e) ∧ w'.cell? ⟨W.heap.size,1,none⟩ = some (.int .i64 f)) ∧ (w'.cell? ⟨W.heap.size + 1,0,none⟩ = some (.bool n) ∧ w'.cell? ⟨W.heap.size + 1,1,none⟩ = some (.int .i64 K) ∧ w'.cell? ⟨W.heap.size + 1,2,none⟩ = some (.int .i64 X) ∧ w'.cell? ⟨W.heap.size + 1,3,none⟩ = some (.int .u64 S))) (by kernel_rfl) ?_ (fun hHeld => ?_)
 ·(try dsimp only)
  simp [go_sem]
 refine bF (N:=W.heap.size + 1 + 1) (i1:=10) (d1:=6) (v1:=#[.int .i64 0,.int .i64 0,.bool false,.int .u64 0,.int .u64 0]) (t1:=82) (f:=1) (n:=10) (T:=fun w' => Below W.heap.size W w') (by kernel_rfl) (by kernel_rfl) (fun _ _ _ _ _ h => h) ((aG _ _ _).and (aB _ _ _ _ _)) ?_ (ao W) hHeld ((aq W _ _).drew) (by simp) ?_
 ·intro a w K h
  unfold wpOp
  go_simp
  exact Or.inl h
 clear hHeld
 refine woA 0 7 ?_
 refine woA 1 8 ?_
 refine woA 2 9 ?_
 refine woA 3 10 ?_
 refine woA 4 11 ?_
 refine woA 5 12 ?_
 refine bv (c:=6) (o:={ dst:=some 13,op:=_,type:=_,pos:=_,after:=_,guard:=_ }) rfl (by kernel_rfl) (by kernel_rfl) (fun u hSu hTu Kk hKk => ?_)
 go_simp
 refine (cU hs _).mono ?_
 rintro _ wn ⟨rfl,hbl⟩
 have HTn:=ab (ac hTu hbl)
 clear hTu hSu
 (try go_wp2_with fail)
 refine hKk.out _ _ (fun w' => Below W.heap.size W w') (by assumption) (ao W) (aa HTn) ?_
 clear hKk Kk HTn
 (try simp only [Act.put,List.setIfInBounds_toArray,List.set_cons_zero,List.set_cons_succ])
 refine woA 7 14 ?_
 refine woA 8 15 ?_
 refine woA 9 16 ?_
 refine cQ (by kernel_rfl) (fun wf b1 hSu hTu k1 => ?_)
 (try simp only [Act.put,List.setIfInBounds_toArray,List.set_cons_zero,List.set_cons_succ])
 unfold ptr
 have zb:=k1.base
 have HRm:=ab (dr k1)
 obtain ⟨⟨v0,c0⟩,f0⟩:=(aa HRm) 0 (by omega)
 obtain ⟨⟨v1,c1⟩,f1⟩:=(aa HRm) 1 (by omega)
 obtain ⟨⟨v2,c2⟩,f2⟩:=(aa HRm) 2 (by omega)
 obtain ⟨⟨v3,c3⟩,f3⟩:=(aa HRm) 3 (by omega)
 obtain ⟨⟨v4,c4⟩,f4⟩:=(aa HRm) 4 (by omega)
 refine ct #[true,true,true,true,true,true,true,true,true,true,true,false] (by kernel_rfl) ?_
 refine wpAnyH_ready (rs:=[11]) (by kernel_rfl) (by simp) ?_
 refine AllReadyH.cons (o:={ dst:=none,op:=_,type:=_,pos:=_,after:=_,guard:=_ }) rfl (fun Kk hKk => ?_) AllReadyH.nil
 go_simp
 refine hKk.out _ _ ?_ (fun hHeld => ?_)
 ·(try dsimp only)
  exact ⟨At2.set5 hSu.1 (by omega) _ _ _ _ _,At4.set5 hSu.2 (by omega) _ _ _ _ _⟩
 clear hKk Kk
 refine wpAnyH_done (by kernel_rfl) ?_ _
 have HA5:=ab (eW (aa HRm) (.int .i64 e) (.int .i64 f) (.bool n) (.int .u64 0) (.int .u64 R))
 have HB:=ab (kZ (c:=b1) hTu (by omega) (.int .i64 e) (.int .i64 f) (.bool n) (.int .u64 0) (.int .u64 R))
 have HRm:=ab ((aa HRm).set5 (.int .i64 e) (.int .i64 f) (.bool n) (.int .u64 0) (.int .u64 R))
 have HS:=ab hHeld
 clear hHeld hSu hTu k1 c0 c1 c2 c3 c4 f0 f1 f2 f3 f4
 generalize ((((wf.setCell ⟨b1,0,none⟩ (.int .i64 e)).setCell ⟨b1,1,none⟩ (.int .i64 f)).setCell ⟨b1,2,none⟩ (.bool n)).setCell ⟨b1,3,none⟩ (.int .u64 0)).setCell ⟨b1,4,none⟩ (.int .u64 R) = wx at *
 obtain ⟨⟨s0,s1⟩,p0,p1,p2,p3⟩:=aa HS
 go_wp2_with fail
 clear s0 s1 p0 p1 p2 p3
 have HB:=ab (aa HB).drew
 have HA5:=ab ((aa HA5).below ((Below.refl _ _).drew))
 have HRm:=ab (aa HRm).drew
 have HS:=ab (((aG _ _ _).and (aB _ _ _ _ _)) _ _ (aa HS) ((Below.refl _ _).drew))
 refine wp_region_held_drew (S:=fun w' => (w'.cell? ⟨W.heap.size,0,none⟩ = some (.int .i64 e) ∧ w'.cell? ⟨W.heap.size,1,none⟩ = some (.int .i64 f)) ∧ (w'.cell? ⟨W.heap.size + 1,0,none⟩ = some (.bool n) ∧ w'.cell? ⟨W.heap.size + 1,1,none⟩ = some (.int .i64 K) ∧ w'.cell? ⟨W.heap.size + 1,2,none⟩ = some (.int .i64 X) ∧ w'.cell? ⟨W.heap.size + 1,3,none⟩ = some (.int .u64 S))) (by kernel_rfl) ?_ (fun hHeld => ?_)
 ·(try dsimp only)
  exact aa HS
 refine aC 10 (by kernel_rfl) ?_
 refine tkA 0 24 1 ?_
 refine tkA 1 25 3 ?_
 refine tkA 2 26 7 ?_
 refine tkA 3 27 15 ?_
 refine tkU 4 28 31 ?_
 refine tkU 5 29 63 ?_
 refine tkU 6 30 127 ?_
 refine rdA 7 255 (fun Kk hKk => ?_)
 go_simp
 refine oA hKk (hHeld) fun hHeld => ?_
 clear hKk Kk
 refine tkU 8 32 511 ?_
 refine tkA 9 33 1023 ?_
 refine wpAnyH_done (by kernel_rfl) ?_ _
 clear hHeld
 go_wp2_with fail
 go_ret2
 exact ⟨rfl,aa HB⟩
theorem aph {e f P Q b K X S D R : Int} {n : Bool} (W : World) (hs : Sz e f P Q b) (g0 : 0 ≤ f) (g1 : f ≤ 63)
 (kp : IntKind.u64.wrap (P - 1) = P - 1) (ka : bits .and .u64 S (P - 1) = R) (kd : S / 2 ^ f.toNat = D) (d0 : (D == 0) = true) (z0 : (S == 0) = false) (x0 : (X != 1 - b - f) = true) :
 Calls Tryz.prog 283 #[.agg #[.int .i64 e,.int .i64 f],.agg #[.bool n,.int .i64 K,.int .i64 X,.int .u64 S]] W fun r W' => r = .returned (.tuple #[.int .u64 0,.int .i64 2]) ∧ Below W.heap.size W W':=by
 go_enter Tryz.func283,Tryz.ntmps283
 go_wp2_with fail
 have hz0 : W.heap.size ≠ W.heap.size + 1:=by omega
 refine wp_region_held_drew (S:=fun w' => (w'.cell? ⟨W.heap.size,0,none⟩ = some (.int .i64 e) ∧ w'.cell? ⟨W.heap.size,1,none⟩ = some (.int .i64 f)) ∧ (w'.cell? ⟨W.heap.size + 1,0,none⟩ = some (.bool n) ∧ w'.cell? ⟨W.heap.size + 1,1,none⟩ = some (.int .i64 K) ∧ w'.cell? ⟨W.heap.size + 1,2,none⟩ = some (.int .i64 X) ∧ w'.cell? ⟨W.heap.size + 1,3,none⟩ = some (.int .u64 S))) (by kernel_rfl) ?_ (fun hHeld => ?_)
 ·(try dsimp only)
  simp [go_sem]
 refine bF (N:=W.heap.size + 1 + 1) (i1:=10) (d1:=6) (v1:=#[.int .i64 0,.int .i64 0,.bool false,.int .u64 0,.int .u64 0]) (t1:=82) (f:=1) (n:=10) (T:=fun w' => Below W.heap.size W w') (by kernel_rfl) (by kernel_rfl) (fun _ _ _ _ _ h => h) ((aG _ _ _).and (aB _ _ _ _ _)) ?_ (ao W) hHeld ((aq W _ _).drew) (by simp) ?_
 ·intro a w K h
  unfold wpOp
  go_simp
  exact Or.inl h
 clear hHeld
 refine woA 0 7 ?_
 refine woA 1 8 ?_
 refine woA 2 9 ?_
 refine woA 3 10 ?_
 refine woA 4 11 ?_
 refine woA 5 12 ?_
 refine bv (c:=6) (o:={ dst:=some 13,op:=_,type:=_,pos:=_,after:=_,guard:=_ }) rfl (by kernel_rfl) (by kernel_rfl) (fun u hSu hTu Kk hKk => ?_)
 go_simp
 refine (cU hs _).mono ?_
 rintro _ wn ⟨rfl,hbl⟩
 have HTn:=ab (ac hTu hbl)
 clear hTu hSu
 (try go_wp2_with fail)
 refine hKk.out _ _ (fun w' => Below W.heap.size W w') (by assumption) (ao W) (aa HTn) ?_
 clear hKk Kk HTn
 (try simp only [Act.put,List.setIfInBounds_toArray,List.set_cons_zero,List.set_cons_succ])
 refine woA 7 14 ?_
 refine woA 8 15 ?_
 refine woA 9 16 ?_
 refine cQ (by kernel_rfl) (fun wf b1 hSu hTu k1 => ?_)
 (try simp only [Act.put,List.setIfInBounds_toArray,List.set_cons_zero,List.set_cons_succ])
 unfold ptr
 have zb:=k1.base
 have HRm:=ab (dr k1)
 obtain ⟨⟨v0,c0⟩,f0⟩:=(aa HRm) 0 (by omega)
 obtain ⟨⟨v1,c1⟩,f1⟩:=(aa HRm) 1 (by omega)
 obtain ⟨⟨v2,c2⟩,f2⟩:=(aa HRm) 2 (by omega)
 obtain ⟨⟨v3,c3⟩,f3⟩:=(aa HRm) 3 (by omega)
 obtain ⟨⟨v4,c4⟩,f4⟩:=(aa HRm) 4 (by omega)
 refine ct #[true,true,true,true,true,true,true,true,true,true,true,false] (by kernel_rfl) ?_
 refine wpAnyH_ready (rs:=[11]) (by kernel_rfl) (by simp) ?_
 refine AllReadyH.cons (o:={ dst:=none,op:=_,type:=_,pos:=_,after:=_,guard:=_ }) rfl (fun Kk hKk => ?_) AllReadyH.nil
 go_simp
 refine hKk.out _ _ ?_ (fun hHeld => ?_)
 ·(try dsimp only)
  exact ⟨At2.set5 hSu.1 (by omega) _ _ _ _ _,At4.set5 hSu.2 (by omega) _ _ _ _ _⟩
 clear hKk Kk
 refine wpAnyH_done (by kernel_rfl) ?_ _
 have HA5:=ab (eW (aa HRm) (.int .i64 e) (.int .i64 f) (.bool n) (.int .u64 0) (.int .u64 R))
 have HB:=ab (kZ (c:=b1) hTu (by omega) (.int .i64 e) (.int .i64 f) (.bool n) (.int .u64 0) (.int .u64 R))
 have HRm:=ab ((aa HRm).set5 (.int .i64 e) (.int .i64 f) (.bool n) (.int .u64 0) (.int .u64 R))
 have HS:=ab hHeld
 clear hHeld hSu hTu k1 c0 c1 c2 c3 c4 f0 f1 f2 f3 f4
 generalize ((((wf.setCell ⟨b1,0,none⟩ (.int .i64 e)).setCell ⟨b1,1,none⟩ (.int .i64 f)).setCell ⟨b1,2,none⟩ (.bool n)).setCell ⟨b1,3,none⟩ (.int .u64 0)).setCell ⟨b1,4,none⟩ (.int .u64 R) = wx at *
 obtain ⟨⟨s0,s1⟩,p0,p1,p2,p3⟩:=aa HS
 go_wp2_with fail
 clear s0 s1 p0 p1 p2 p3
 have HB:=ab (aa HB).drew
 have HA5:=ab ((aa HA5).below ((Below.refl _ _).drew))
 have HRm:=ab (aa HRm).drew
 have HS:=ab (((aG _ _ _).and (aB _ _ _ _ _)) _ _ (aa HS) ((Below.refl _ _).drew))
 refine wp_region_held_drew (S:=fun w' => (w'.cell? ⟨W.heap.size,0,none⟩ = some (.int .i64 e) ∧ w'.cell? ⟨W.heap.size,1,none⟩ = some (.int .i64 f)) ∧ (w'.cell? ⟨W.heap.size + 1,0,none⟩ = some (.bool n) ∧ w'.cell? ⟨W.heap.size + 1,1,none⟩ = some (.int .i64 K) ∧ w'.cell? ⟨W.heap.size + 1,2,none⟩ = some (.int .i64 X) ∧ w'.cell? ⟨W.heap.size + 1,3,none⟩ = some (.int .u64 S))) (by kernel_rfl) ?_ (fun hHeld => ?_)
 ·(try dsimp only)
  exact aa HS
 refine aC 10 (by kernel_rfl) ?_
 refine tkA 0 24 1 ?_
 refine tkA 1 25 3 ?_
 refine tkA 2 26 7 ?_
 refine tkA 3 27 15 ?_
 refine tkA 4 28 31 ?_
 refine tkA 5 29 63 ?_
 refine tkA 6 30 127 ?_
 refine rdA 7 255 (fun Kk hKk => ?_)
 go_simp
 refine (eM hs _).mono ?_
 rintro _ wl ⟨rfl,hbl⟩
 have HB:=bt HB hbl
 have HA5:=ab ((aa HA5).below hbl)
 have HRm:=ab ((aa HRm).below hbl)
 have HS:=ab (((aG _ _ _).and (aB _ _ _ _ _)) _ _ (aa HS) hbl)
 clear hbl
 (try go_wp2_with fail)
 refine oA hKk (aa HS) fun hHeld => ?_
 clear hKk Kk
 refine tkA 8 32 511 ?_
 refine tkA 9 33 1023 ?_
 refine wpAnyH_done (by kernel_rfl) ?_ _
 clear hHeld
 go_wp2_with fail
 go_ret2
 exact ⟨rfl,aa HB⟩
theorem aed {e f P Q b K X S D R : Int} {n : Bool} (W : World) (hs : Sz e f P Q b) (g0 : 0 ≤ f) (g1 : f ≤ 63)
 (kp : IntKind.u64.wrap (P - 1) = P - 1) (ka : bits .and .u64 S (P - 1) = R) (kd : S / 2 ^ f.toNat = D) (d0 : (D == 0) = true) (z0 : (S == 0) = false) (x0 : (X != 1 - b - f) = false) {V : Int} (HC : Ct 54 #[.agg #[.int .i64 e,.int .i64 f,.bool n,.int .u64 0,.int .u64 R]] (.int .u64 V)) :
 Calls Tryz.prog 283 #[.agg #[.int .i64 e,.int .i64 f],.agg #[.bool n,.int .i64 K,.int .i64 X,.int .u64 S]] W fun r W' => r = .returned (.tuple #[.int .u64 V,.int .i64 0]) ∧ Below W.heap.size W W':=by
 go_enter Tryz.func283,Tryz.ntmps283
 go_wp2_with fail
 have hz0 : W.heap.size ≠ W.heap.size + 1:=by omega
 refine wp_region_held_drew (S:=fun w' => (w'.cell? ⟨W.heap.size,0,none⟩ = some (.int .i64 e) ∧ w'.cell? ⟨W.heap.size,1,none⟩ = some (.int .i64 f)) ∧ (w'.cell? ⟨W.heap.size + 1,0,none⟩ = some (.bool n) ∧ w'.cell? ⟨W.heap.size + 1,1,none⟩ = some (.int .i64 K) ∧ w'.cell? ⟨W.heap.size + 1,2,none⟩ = some (.int .i64 X) ∧ w'.cell? ⟨W.heap.size + 1,3,none⟩ = some (.int .u64 S))) (by kernel_rfl) ?_ (fun hHeld => ?_)
 ·(try dsimp only)
  simp [go_sem]
 refine bF (N:=W.heap.size + 1 + 1) (i1:=10) (d1:=6) (v1:=#[.int .i64 0,.int .i64 0,.bool false,.int .u64 0,.int .u64 0]) (t1:=82) (f:=1) (n:=10) (T:=fun w' => Below W.heap.size W w') (by kernel_rfl) (by kernel_rfl) (fun _ _ _ _ _ h => h) ((aG _ _ _).and (aB _ _ _ _ _)) ?_ (ao W) hHeld ((aq W _ _).drew) (by simp) ?_
 ·intro a w K h
  unfold wpOp
  go_simp
  exact Or.inl h
 clear hHeld
 refine woA 0 7 ?_
 refine woA 1 8 ?_
 refine woA 2 9 ?_
 refine woA 3 10 ?_
 refine woA 4 11 ?_
 refine woA 5 12 ?_
 refine bv (c:=6) (o:={ dst:=some 13,op:=_,type:=_,pos:=_,after:=_,guard:=_ }) rfl (by kernel_rfl) (by kernel_rfl) (fun u hSu hTu Kk hKk => ?_)
 go_simp
 refine (cU hs _).mono ?_
 rintro _ wn ⟨rfl,hbl⟩
 have HTn:=ab (ac hTu hbl)
 clear hTu hSu
 (try go_wp2_with fail)
 refine hKk.out _ _ (fun w' => Below W.heap.size W w') (by assumption) (ao W) (aa HTn) ?_
 clear hKk Kk HTn
 (try simp only [Act.put,List.setIfInBounds_toArray,List.set_cons_zero,List.set_cons_succ])
 refine woA 7 14 ?_
 refine woA 8 15 ?_
 refine woA 9 16 ?_
 refine cQ (by kernel_rfl) (fun wf b1 hSu hTu k1 => ?_)
 (try simp only [Act.put,List.setIfInBounds_toArray,List.set_cons_zero,List.set_cons_succ])
 unfold ptr
 have zb:=k1.base
 have HRm:=ab (dr k1)
 obtain ⟨⟨v0,c0⟩,f0⟩:=(aa HRm) 0 (by omega)
 obtain ⟨⟨v1,c1⟩,f1⟩:=(aa HRm) 1 (by omega)
 obtain ⟨⟨v2,c2⟩,f2⟩:=(aa HRm) 2 (by omega)
 obtain ⟨⟨v3,c3⟩,f3⟩:=(aa HRm) 3 (by omega)
 obtain ⟨⟨v4,c4⟩,f4⟩:=(aa HRm) 4 (by omega)
 refine ct #[true,true,true,true,true,true,true,true,true,true,true,false] (by kernel_rfl) ?_
 refine wpAnyH_ready (rs:=[11]) (by kernel_rfl) (by simp) ?_
 refine AllReadyH.cons (o:={ dst:=none,op:=_,type:=_,pos:=_,after:=_,guard:=_ }) rfl (fun Kk hKk => ?_) AllReadyH.nil
 go_simp
 refine hKk.out _ _ ?_ (fun hHeld => ?_)
 ·(try dsimp only)
  exact ⟨At2.set5 hSu.1 (by omega) _ _ _ _ _,At4.set5 hSu.2 (by omega) _ _ _ _ _⟩
 clear hKk Kk
 refine wpAnyH_done (by kernel_rfl) ?_ _
 have HA5:=ab (eW (aa HRm) (.int .i64 e) (.int .i64 f) (.bool n) (.int .u64 0) (.int .u64 R))
 have HB:=ab (kZ (c:=b1) hTu (by omega) (.int .i64 e) (.int .i64 f) (.bool n) (.int .u64 0) (.int .u64 R))
 have HRm:=ab ((aa HRm).set5 (.int .i64 e) (.int .i64 f) (.bool n) (.int .u64 0) (.int .u64 R))
 have HS:=ab hHeld
 clear hHeld hSu hTu k1 c0 c1 c2 c3 c4 f0 f1 f2 f3 f4
 generalize ((((wf.setCell ⟨b1,0,none⟩ (.int .i64 e)).setCell ⟨b1,1,none⟩ (.int .i64 f)).setCell ⟨b1,2,none⟩ (.bool n)).setCell ⟨b1,3,none⟩ (.int .u64 0)).setCell ⟨b1,4,none⟩ (.int .u64 R) = wx at *
 obtain ⟨⟨s0,s1⟩,p0,p1,p2,p3⟩:=aa HS
 go_wp2_with fail
 clear s0 s1 p0 p1 p2 p3
 have HB:=ab (aa HB).drew
 have HA5:=ab ((aa HA5).below ((Below.refl _ _).drew))
 have HRm:=ab (aa HRm).drew
 have HS:=ab (((aG _ _ _).and (aB _ _ _ _ _)) _ _ (aa HS) ((Below.refl _ _).drew))
 refine wp_region_held_drew (S:=fun w' => (w'.cell? ⟨W.heap.size,0,none⟩ = some (.int .i64 e) ∧ w'.cell? ⟨W.heap.size,1,none⟩ = some (.int .i64 f)) ∧ (w'.cell? ⟨W.heap.size + 1,0,none⟩ = some (.bool n) ∧ w'.cell? ⟨W.heap.size + 1,1,none⟩ = some (.int .i64 K) ∧ w'.cell? ⟨W.heap.size + 1,2,none⟩ = some (.int .i64 X) ∧ w'.cell? ⟨W.heap.size + 1,3,none⟩ = some (.int .u64 S))) (by kernel_rfl) ?_ (fun hHeld => ?_)
 ·(try dsimp only)
  exact aa HS
 refine aC 10 (by kernel_rfl) ?_
 refine tkA 0 24 1 ?_
 refine tkA 1 25 3 ?_
 refine tkA 2 26 7 ?_
 refine tkA 3 27 15 ?_
 refine tkA 4 28 31 ?_
 refine tkA 5 29 63 ?_
 refine tkA 6 30 127 ?_
 refine rdA 7 255 (fun Kk hKk => ?_)
 go_simp
 refine (eM hs _).mono ?_
 rintro _ wl ⟨rfl,hbl⟩
 have HB:=bt HB hbl
 have HA5:=ab ((aa HA5).below hbl)
 have HRm:=ab ((aa HRm).below hbl)
 have HS:=ab (((aG _ _ _).and (aB _ _ _ _ _)) _ _ (aa HS) hbl)
 clear hbl
 (try go_wp2_with fail)
 refine oA hKk (aa HS) fun hHeld => ?_
 clear hKk Kk
 refine tkA 8 32 511 ?_
 refine tkA 9 33 1023 ?_
 refine wpAnyH_done (by kernel_rfl) ?_ _
 clear hHeld
 obtain ⟨a0,a1,a2,a3,a4⟩:=aa HA5
 go_wp2_with fail
 refine cg1 HC fun wz hbl => ?_
 have HB:=bt HB hbl
 go_wp2_with fail
 go_ret2
 exact ⟨rfl,aa HB⟩
theorem akz {e f P Q b K X S D R : Int} {n : Bool} (W : World) (hs : Sz e f P Q b) (g0 : 0 ≤ f) (g1 : f ≤ 63)
 (kp : IntKind.u64.wrap (P - 1) = P - 1) (ka : bits .and .u64 S (P - 1) = R) (kd : S / 2 ^ f.toNat = D) (d0 : (D == 0) = false) (d1 : (D == 1) = true) (x0 : decide (X < 1 - b - f) = true) :
 Calls Tryz.prog 283 #[.agg #[.int .i64 e,.int .i64 f],.agg #[.bool n,.int .i64 K,.int .i64 X,.int .u64 S]] W fun r W' => r = .returned (.tuple #[.int .u64 0,.int .i64 2]) ∧ Below W.heap.size W W':=by
 go_enter Tryz.func283,Tryz.ntmps283
 go_wp2_with fail
 have hz0 : W.heap.size ≠ W.heap.size + 1:=by omega
 refine wp_region_held_drew (S:=fun w' => (w'.cell? ⟨W.heap.size,0,none⟩ = some (.int .i64 e) ∧ w'.cell? ⟨W.heap.size,1,none⟩ = some (.int .i64 f)) ∧ (w'.cell? ⟨W.heap.size + 1,0,none⟩ = some (.bool n) ∧ w'.cell? ⟨W.heap.size + 1,1,none⟩ = some (.int .i64 K) ∧ w'.cell? ⟨W.heap.size + 1,2,none⟩ = some (.int .i64 X) ∧ w'.cell? ⟨W.heap.size + 1,3,none⟩ = some (.int .u64 S))) (by kernel_rfl) ?_ (fun hHeld => ?_)
 ·(try dsimp only)
  simp [go_sem]
 refine bF (N:=W.heap.size + 1 + 1) (i1:=10) (d1:=6) (v1:=#[.int .i64 0,.int .i64 0,.bool false,.int .u64 0,.int .u64 0]) (t1:=82) (f:=1) (n:=10) (T:=fun w' => Below W.heap.size W w') (by kernel_rfl) (by kernel_rfl) (fun _ _ _ _ _ h => h) ((aG _ _ _).and (aB _ _ _ _ _)) ?_ (ao W) hHeld ((aq W _ _).drew) (by simp) ?_
 ·intro a w K h
  unfold wpOp
  go_simp
  exact Or.inl h
 clear hHeld
 refine woA 0 7 ?_
 refine woA 1 8 ?_
 refine woA 2 9 ?_
 refine woA 3 10 ?_
 refine woA 4 11 ?_
 refine woA 5 12 ?_
 refine bv (c:=6) (o:={ dst:=some 13,op:=_,type:=_,pos:=_,after:=_,guard:=_ }) rfl (by kernel_rfl) (by kernel_rfl) (fun u hSu hTu Kk hKk => ?_)
 go_simp
 refine (cU hs _).mono ?_
 rintro _ wn ⟨rfl,hbl⟩
 have HTn:=ab (ac hTu hbl)
 clear hTu hSu
 (try go_wp2_with fail)
 refine hKk.out _ _ (fun w' => Below W.heap.size W w') (by assumption) (ao W) (aa HTn) ?_
 clear hKk Kk HTn
 (try simp only [Act.put,List.setIfInBounds_toArray,List.set_cons_zero,List.set_cons_succ])
 refine woA 7 14 ?_
 refine woA 8 15 ?_
 refine woA 9 16 ?_
 refine cQ (by kernel_rfl) (fun wf b1 hSu hTu k1 => ?_)
 (try simp only [Act.put,List.setIfInBounds_toArray,List.set_cons_zero,List.set_cons_succ])
 unfold ptr
 have zb:=k1.base
 have HRm:=ab (dr k1)
 obtain ⟨⟨v0,c0⟩,f0⟩:=(aa HRm) 0 (by omega)
 obtain ⟨⟨v1,c1⟩,f1⟩:=(aa HRm) 1 (by omega)
 obtain ⟨⟨v2,c2⟩,f2⟩:=(aa HRm) 2 (by omega)
 obtain ⟨⟨v3,c3⟩,f3⟩:=(aa HRm) 3 (by omega)
 obtain ⟨⟨v4,c4⟩,f4⟩:=(aa HRm) 4 (by omega)
 refine ct #[true,true,true,true,true,true,true,true,true,true,true,false] (by kernel_rfl) ?_
 refine wpAnyH_ready (rs:=[11]) (by kernel_rfl) (by simp) ?_
 refine AllReadyH.cons (o:={ dst:=none,op:=_,type:=_,pos:=_,after:=_,guard:=_ }) rfl (fun Kk hKk => ?_) AllReadyH.nil
 go_simp
 refine hKk.out _ _ ?_ (fun hHeld => ?_)
 ·(try dsimp only)
  exact ⟨At2.set5 hSu.1 (by omega) _ _ _ _ _,At4.set5 hSu.2 (by omega) _ _ _ _ _⟩
 clear hKk Kk
 refine wpAnyH_done (by kernel_rfl) ?_ _
 have HA5:=ab (eW (aa HRm) (.int .i64 e) (.int .i64 f) (.bool n) (.int .u64 0) (.int .u64 R))
 have HB:=ab (kZ (c:=b1) hTu (by omega) (.int .i64 e) (.int .i64 f) (.bool n) (.int .u64 0) (.int .u64 R))
 have HRm:=ab ((aa HRm).set5 (.int .i64 e) (.int .i64 f) (.bool n) (.int .u64 0) (.int .u64 R))
 have HS:=ab hHeld
 clear hHeld hSu hTu k1 c0 c1 c2 c3 c4 f0 f1 f2 f3 f4
 generalize ((((wf.setCell ⟨b1,0,none⟩ (.int .i64 e)).setCell ⟨b1,1,none⟩ (.int .i64 f)).setCell ⟨b1,2,none⟩ (.bool n)).setCell ⟨b1,3,none⟩ (.int .u64 0)).setCell ⟨b1,4,none⟩ (.int .u64 R) = wx at *
 obtain ⟨⟨s0,s1⟩,p0,p1,p2,p3⟩:=aa HS
 go_wp2_with fail
 clear s0 s1 p0 p1 p2 p3
 have HB:=ab (aa HB).drew
 have HA5:=ab ((aa HA5).below ((Below.refl _ _).drew))
 have HRm:=ab (aa HRm).drew
 have HS:=ab (((aG _ _ _).and (aB _ _ _ _ _)) _ _ (aa HS) ((Below.refl _ _).drew))
 refine wp_region_held_drew (S:=fun w' => (w'.cell? ⟨W.heap.size,0,none⟩ = some (.int .i64 e) ∧ w'.cell? ⟨W.heap.size,1,none⟩ = some (.int .i64 f)) ∧ (w'.cell? ⟨W.heap.size + 1,0,none⟩ = some (.bool n) ∧ w'.cell? ⟨W.heap.size + 1,1,none⟩ = some (.int .i64 K) ∧ w'.cell? ⟨W.heap.size + 1,2,none⟩ = some (.int .i64 X) ∧ w'.cell? ⟨W.heap.size + 1,3,none⟩ = some (.int .u64 S))) (by kernel_rfl) ?_ (fun hHeld => ?_)
 ·(try dsimp only)
  exact aa HS
 refine aC 12 (by kernel_rfl) ?_
 refine tkA 0 36 1 ?_
 refine tkA 1 37 3 ?_
 refine tkA 2 38 7 ?_
 refine rdA 3 15 (fun Kk hKk => ?_)
 go_simp
 refine (eM hs _).mono ?_
 rintro _ wl ⟨rfl,hbl⟩
 have HB:=bt HB hbl
 have HA5:=ab ((aa HA5).below hbl)
 have HRm:=ab ((aa HRm).below hbl)
 have HS:=ab (((aG _ _ _).and (aB _ _ _ _ _)) _ _ (aa HS) hbl)
 clear hbl
 (try go_wp2_with fail)
 refine oA hKk (aa HS) fun hHeld => ?_
 clear hKk Kk
 refine tkA 4 40 31 ?_
 refine tkA 5 41 63 ?_
 refine tkU 6 42 127 ?_
 refine tkU 7 43 255 ?_
 refine tkU 8 44 511 ?_
 refine rdA 9 1023 (fun Kk hKk => ?_)
 go_simp
 refine oA hKk (hHeld) fun hHeld => ?_
 clear hKk Kk
 refine tkU 10 46 2047 ?_
 refine tkA 11 47 4095 ?_
 refine wpAnyH_done (by kernel_rfl) ?_ _
 clear hHeld
 go_wp2_with fail
 go_ret2
 exact ⟨rfl,aa HB⟩
theorem ak0 {e f P Q b K X S D R : Int} {n : Bool} (W : World) (hs : Sz e f P Q b) (g0 : 0 ≤ f) (g1 : f ≤ 63)
 (kp : IntKind.u64.wrap (P - 1) = P - 1) (ka : bits .and .u64 S (P - 1) = R) (kd : S / 2 ^ f.toNat = D) (d0 : (D == 0) = false) (d1 : (D == 1) = true) (x0 : decide (X < 1 - b - f) = false) (x1 : decide (Q - 2 - b - f < X) = true) :
 Calls Tryz.prog 283 #[.agg #[.int .i64 e,.int .i64 f],.agg #[.bool n,.int .i64 K,.int .i64 X,.int .u64 S]] W fun r W' => r = .returned (.tuple #[.int .u64 0,.int .i64 2]) ∧ Below W.heap.size W W':=by
 go_enter Tryz.func283,Tryz.ntmps283
 go_wp2_with fail
 have hz0 : W.heap.size ≠ W.heap.size + 1:=by omega
 refine wp_region_held_drew (S:=fun w' => (w'.cell? ⟨W.heap.size,0,none⟩ = some (.int .i64 e) ∧ w'.cell? ⟨W.heap.size,1,none⟩ = some (.int .i64 f)) ∧ (w'.cell? ⟨W.heap.size + 1,0,none⟩ = some (.bool n) ∧ w'.cell? ⟨W.heap.size + 1,1,none⟩ = some (.int .i64 K) ∧ w'.cell? ⟨W.heap.size + 1,2,none⟩ = some (.int .i64 X) ∧ w'.cell? ⟨W.heap.size + 1,3,none⟩ = some (.int .u64 S))) (by kernel_rfl) ?_ (fun hHeld => ?_)
 ·(try dsimp only)
  simp [go_sem]
 refine bF (N:=W.heap.size + 1 + 1) (i1:=10) (d1:=6) (v1:=#[.int .i64 0,.int .i64 0,.bool false,.int .u64 0,.int .u64 0]) (t1:=82) (f:=1) (n:=10) (T:=fun w' => Below W.heap.size W w') (by kernel_rfl) (by kernel_rfl) (fun _ _ _ _ _ h => h) ((aG _ _ _).and (aB _ _ _ _ _)) ?_ (ao W) hHeld ((aq W _ _).drew) (by simp) ?_
 ·intro a w K h
  unfold wpOp
  go_simp
  exact Or.inl h
 clear hHeld
 refine woA 0 7 ?_
 refine woA 1 8 ?_
 refine woA 2 9 ?_
 refine woA 3 10 ?_
 refine woA 4 11 ?_
 refine woA 5 12 ?_
 refine bv (c:=6) (o:={ dst:=some 13,op:=_,type:=_,pos:=_,after:=_,guard:=_ }) rfl (by kernel_rfl) (by kernel_rfl) (fun u hSu hTu Kk hKk => ?_)
 go_simp
 refine (cU hs _).mono ?_
 rintro _ wn ⟨rfl,hbl⟩
 have HTn:=ab (ac hTu hbl)
 clear hTu hSu
 (try go_wp2_with fail)
 refine hKk.out _ _ (fun w' => Below W.heap.size W w') (by assumption) (ao W) (aa HTn) ?_
 clear hKk Kk HTn
 (try simp only [Act.put,List.setIfInBounds_toArray,List.set_cons_zero,List.set_cons_succ])
 refine woA 7 14 ?_
 refine woA 8 15 ?_
 refine woA 9 16 ?_
 refine cQ (by kernel_rfl) (fun wf b1 hSu hTu k1 => ?_)
 (try simp only [Act.put,List.setIfInBounds_toArray,List.set_cons_zero,List.set_cons_succ])
 unfold ptr
 have zb:=k1.base
 have HRm:=ab (dr k1)
 obtain ⟨⟨v0,c0⟩,f0⟩:=(aa HRm) 0 (by omega)
 obtain ⟨⟨v1,c1⟩,f1⟩:=(aa HRm) 1 (by omega)
 obtain ⟨⟨v2,c2⟩,f2⟩:=(aa HRm) 2 (by omega)
 obtain ⟨⟨v3,c3⟩,f3⟩:=(aa HRm) 3 (by omega)
 obtain ⟨⟨v4,c4⟩,f4⟩:=(aa HRm) 4 (by omega)
 refine ct #[true,true,true,true,true,true,true,true,true,true,true,false] (by kernel_rfl) ?_
 refine wpAnyH_ready (rs:=[11]) (by kernel_rfl) (by simp) ?_
 refine AllReadyH.cons (o:={ dst:=none,op:=_,type:=_,pos:=_,after:=_,guard:=_ }) rfl (fun Kk hKk => ?_) AllReadyH.nil
 go_simp
 refine hKk.out _ _ ?_ (fun hHeld => ?_)
 ·(try dsimp only)
  exact ⟨At2.set5 hSu.1 (by omega) _ _ _ _ _,At4.set5 hSu.2 (by omega) _ _ _ _ _⟩
 clear hKk Kk
 refine wpAnyH_done (by kernel_rfl) ?_ _
 have HA5:=ab (eW (aa HRm) (.int .i64 e) (.int .i64 f) (.bool n) (.int .u64 0) (.int .u64 R))
 have HB:=ab (kZ (c:=b1) hTu (by omega) (.int .i64 e) (.int .i64 f) (.bool n) (.int .u64 0) (.int .u64 R))
 have HRm:=ab ((aa HRm).set5 (.int .i64 e) (.int .i64 f) (.bool n) (.int .u64 0) (.int .u64 R))
 have HS:=ab hHeld
 clear hHeld hSu hTu k1 c0 c1 c2 c3 c4 f0 f1 f2 f3 f4
 generalize ((((wf.setCell ⟨b1,0,none⟩ (.int .i64 e)).setCell ⟨b1,1,none⟩ (.int .i64 f)).setCell ⟨b1,2,none⟩ (.bool n)).setCell ⟨b1,3,none⟩ (.int .u64 0)).setCell ⟨b1,4,none⟩ (.int .u64 R) = wx at *
 obtain ⟨⟨s0,s1⟩,p0,p1,p2,p3⟩:=aa HS
 go_wp2_with fail
 clear s0 s1 p0 p1 p2 p3
 have HB:=ab (aa HB).drew
 have HA5:=ab ((aa HA5).below ((Below.refl _ _).drew))
 have HRm:=ab (aa HRm).drew
 have HS:=ab (((aG _ _ _).and (aB _ _ _ _ _)) _ _ (aa HS) ((Below.refl _ _).drew))
 refine wp_region_held_drew (S:=fun w' => (w'.cell? ⟨W.heap.size,0,none⟩ = some (.int .i64 e) ∧ w'.cell? ⟨W.heap.size,1,none⟩ = some (.int .i64 f)) ∧ (w'.cell? ⟨W.heap.size + 1,0,none⟩ = some (.bool n) ∧ w'.cell? ⟨W.heap.size + 1,1,none⟩ = some (.int .i64 K) ∧ w'.cell? ⟨W.heap.size + 1,2,none⟩ = some (.int .i64 X) ∧ w'.cell? ⟨W.heap.size + 1,3,none⟩ = some (.int .u64 S))) (by kernel_rfl) ?_ (fun hHeld => ?_)
 ·(try dsimp only)
  exact aa HS
 refine aC 12 (by kernel_rfl) ?_
 refine tkA 0 36 1 ?_
 refine tkA 1 37 3 ?_
 refine tkA 2 38 7 ?_
 refine rdA 3 15 (fun Kk hKk => ?_)
 go_simp
 refine (eM hs _).mono ?_
 rintro _ wl ⟨rfl,hbl⟩
 have HB:=bt HB hbl
 have HA5:=ab ((aa HA5).below hbl)
 have HRm:=ab ((aa HRm).below hbl)
 have HS:=ab (((aG _ _ _).and (aB _ _ _ _ _)) _ _ (aa HS) hbl)
 clear hbl
 (try go_wp2_with fail)
 refine oA hKk (aa HS) fun hHeld => ?_
 clear hKk Kk
 refine tkA 4 40 31 ?_
 refine tkA 5 41 63 ?_
 refine tkA 6 42 127 ?_
 refine tkA 7 43 255 ?_
 refine tkA 8 44 511 ?_
 refine rdA 9 1023 (fun Kk hKk => ?_)
 go_simp
 refine (oC hs _).mono ?_
 rintro _ wm ⟨rfl,hbl⟩
 have HB:=bt HB hbl
 have HA5:=ab ((aa HA5).below hbl)
 have HRm:=ab ((aa HRm).below hbl)
 have HS:=ab (((aG _ _ _).and (aB _ _ _ _ _)) _ _ (aa HS) hbl)
 clear hbl
 (try go_wp2_with fail)
 refine oA hKk (aa HS) fun hHeld => ?_
 clear hKk Kk
 refine tkA 10 46 2047 ?_
 refine tkA 11 47 4095 ?_
 refine wpAnyH_done (by kernel_rfl) ?_ _
 clear hHeld
 go_wp2_with fail
 go_ret2
 exact ⟨rfl,aa HB⟩
theorem aee {e f P Q b K X S D R : Int} {n : Bool} (W : World) (hs : Sz e f P Q b) (g0 : 0 ≤ f) (g1 : f ≤ 63)
 (kp : IntKind.u64.wrap (P - 1) = P - 1) (ka : bits .and .u64 S (P - 1) = R) (kd : S / 2 ^ f.toNat = D) (d0 : (D == 0) = false) (d1 : (D == 1) = true) (x0 : decide (X < 1 - b - f) = false) (x1 : decide (Q - 2 - b - f < X) = false) {E V G : Int} (HP : Ct 50 #[.agg #[.int .i64 e,.int .i64 f],.int .i64 0] (.int .i64 G)) (k0 : IntKind.i64.wrap (X - G) = E) (k1 : IntKind.u64.wrap E = E) (HC : Ct 54 #[.agg #[.int .i64 e,.int .i64 f,.bool n,.int .u64 E,.int .u64 R]] (.int .u64 V)) :
 Calls Tryz.prog 283 #[.agg #[.int .i64 e,.int .i64 f],.agg #[.bool n,.int .i64 K,.int .i64 X,.int .u64 S]] W fun r W' => r = .returned (.tuple #[.int .u64 V,.int .i64 0]) ∧ Below W.heap.size W W':=by
 go_enter Tryz.func283,Tryz.ntmps283
 go_wp2_with fail
 have hz0 : W.heap.size ≠ W.heap.size + 1:=by omega
 refine wp_region_held_drew (S:=fun w' => (w'.cell? ⟨W.heap.size,0,none⟩ = some (.int .i64 e) ∧ w'.cell? ⟨W.heap.size,1,none⟩ = some (.int .i64 f)) ∧ (w'.cell? ⟨W.heap.size + 1,0,none⟩ = some (.bool n) ∧ w'.cell? ⟨W.heap.size + 1,1,none⟩ = some (.int .i64 K) ∧ w'.cell? ⟨W.heap.size + 1,2,none⟩ = some (.int .i64 X) ∧ w'.cell? ⟨W.heap.size + 1,3,none⟩ = some (.int .u64 S))) (by kernel_rfl) ?_ (fun hHeld => ?_)
 ·(try dsimp only)
  simp [go_sem]
 refine bF (N:=W.heap.size + 1 + 1) (i1:=10) (d1:=6) (v1:=#[.int .i64 0,.int .i64 0,.bool false,.int .u64 0,.int .u64 0]) (t1:=82) (f:=1) (n:=10) (T:=fun w' => Below W.heap.size W w') (by kernel_rfl) (by kernel_rfl) (fun _ _ _ _ _ h => h) ((aG _ _ _).and (aB _ _ _ _ _)) ?_ (ao W) hHeld ((aq W _ _).drew) (by simp) ?_
 ·intro a w K h
  unfold wpOp
  go_simp
  exact Or.inl h
 clear hHeld
 refine woA 0 7 ?_
 refine woA 1 8 ?_
 refine woA 2 9 ?_
 refine woA 3 10 ?_
 refine woA 4 11 ?_
 refine woA 5 12 ?_
 refine bv (c:=6) (o:={ dst:=some 13,op:=_,type:=_,pos:=_,after:=_,guard:=_ }) rfl (by kernel_rfl) (by kernel_rfl) (fun u hSu hTu Kk hKk => ?_)
 go_simp
 refine (cU hs _).mono ?_
 rintro _ wn ⟨rfl,hbl⟩
 have HTn:=ab (ac hTu hbl)
 clear hTu hSu
 (try go_wp2_with fail)
 refine hKk.out _ _ (fun w' => Below W.heap.size W w') (by assumption) (ao W) (aa HTn) ?_
 clear hKk Kk HTn
 (try simp only [Act.put,List.setIfInBounds_toArray,List.set_cons_zero,List.set_cons_succ])
 refine woA 7 14 ?_
 refine woA 8 15 ?_
 refine woA 9 16 ?_
 refine cQ (by kernel_rfl) (fun wf b1 hSu hTu k1 => ?_)
 (try simp only [Act.put,List.setIfInBounds_toArray,List.set_cons_zero,List.set_cons_succ])
 unfold ptr
 have zb:=k1.base
 have HRm:=ab (dr k1)
 obtain ⟨⟨v0,c0⟩,f0⟩:=(aa HRm) 0 (by omega)
 obtain ⟨⟨v1,c1⟩,f1⟩:=(aa HRm) 1 (by omega)
 obtain ⟨⟨v2,c2⟩,f2⟩:=(aa HRm) 2 (by omega)
 obtain ⟨⟨v3,c3⟩,f3⟩:=(aa HRm) 3 (by omega)
 obtain ⟨⟨v4,c4⟩,f4⟩:=(aa HRm) 4 (by omega)
 refine ct #[true,true,true,true,true,true,true,true,true,true,true,false] (by kernel_rfl) ?_
 refine wpAnyH_ready (rs:=[11]) (by kernel_rfl) (by simp) ?_
 refine AllReadyH.cons (o:={ dst:=none,op:=_,type:=_,pos:=_,after:=_,guard:=_ }) rfl (fun Kk hKk => ?_) AllReadyH.nil
 go_simp
 refine hKk.out _ _ ?_ (fun hHeld => ?_)
 ·(try dsimp only)
  exact ⟨At2.set5 hSu.1 (by omega) _ _ _ _ _,At4.set5 hSu.2 (by omega) _ _ _ _ _⟩
 clear hKk Kk
 refine wpAnyH_done (by kernel_rfl) ?_ _
 have HA5:=ab (eW (aa HRm) (.int .i64 e) (.int .i64 f) (.bool n) (.int .u64 0) (.int .u64 R))
 have HB:=ab (kZ (c:=b1) hTu (by omega) (.int .i64 e) (.int .i64 f) (.bool n) (.int .u64 0) (.int .u64 R))
 have HRm:=ab ((aa HRm).set5 (.int .i64 e) (.int .i64 f) (.bool n) (.int .u64 0) (.int .u64 R))
 have HS:=ab hHeld
 clear hHeld hSu hTu k1 c0 c1 c2 c3 c4 f0 f1 f2 f3 f4
 generalize ((((wf.setCell ⟨b1,0,none⟩ (.int .i64 e)).setCell ⟨b1,1,none⟩ (.int .i64 f)).setCell ⟨b1,2,none⟩ (.bool n)).setCell ⟨b1,3,none⟩ (.int .u64 0)).setCell ⟨b1,4,none⟩ (.int .u64 R) = wx at *
 obtain ⟨⟨s0,s1⟩,p0,p1,p2,p3⟩:=aa HS
 go_wp2_with fail
 clear s0 s1 p0 p1 p2 p3
 have HB:=ab (aa HB).drew
 have HA5:=ab ((aa HA5).below ((Below.refl _ _).drew))
 have HRm:=ab (aa HRm).drew
 have HS:=ab (((aG _ _ _).and (aB _ _ _ _ _)) _ _ (aa HS) ((Below.refl _ _).drew))
 refine wp_region_held_drew (S:=fun w' => (w'.cell? ⟨W.heap.size,0,none⟩ = some (.int .i64 e) ∧ w'.cell? ⟨W.heap.size,1,none⟩ = some (.int .i64 f)) ∧ (w'.cell? ⟨W.heap.size + 1,0,none⟩ = some (.bool n) ∧ w'.cell? ⟨W.heap.size + 1,1,none⟩ = some (.int .i64 K) ∧ w'.cell? ⟨W.heap.size + 1,2,none⟩ = some (.int .i64 X) ∧ w'.cell? ⟨W.heap.size + 1,3,none⟩ = some (.int .u64 S))) (by kernel_rfl) ?_ (fun hHeld => ?_)
 ·(try dsimp only)
  exact aa HS
 refine aC 12 (by kernel_rfl) ?_
 refine tkA 0 36 1 ?_
 refine tkA 1 37 3 ?_
 refine tkA 2 38 7 ?_
 refine rdA 3 15 (fun Kk hKk => ?_)
 go_simp
 refine (eM hs _).mono ?_
 rintro _ wl ⟨rfl,hbl⟩
 have HB:=bt HB hbl
 have HA5:=ab ((aa HA5).below hbl)
 have HRm:=ab ((aa HRm).below hbl)
 have HS:=ab (((aG _ _ _).and (aB _ _ _ _ _)) _ _ (aa HS) hbl)
 clear hbl
 (try go_wp2_with fail)
 refine oA hKk (aa HS) fun hHeld => ?_
 clear hKk Kk
 refine tkA 4 40 31 ?_
 refine tkA 5 41 63 ?_
 refine tkA 6 42 127 ?_
 refine tkA 7 43 255 ?_
 refine tkA 8 44 511 ?_
 refine rdA 9 1023 (fun Kk hKk => ?_)
 go_simp
 refine (oC hs _).mono ?_
 rintro _ wm ⟨rfl,hbl⟩
 have HB:=bt HB hbl
 have HA5:=ab ((aa HA5).below hbl)
 have HRm:=ab ((aa HRm).below hbl)
 have HS:=ab (((aG _ _ _).and (aB _ _ _ _ _)) _ _ (aa HS) hbl)
 clear hbl
 (try go_wp2_with fail)
 refine oA hKk (aa HS) fun hHeld => ?_
 clear hKk Kk
 refine tkA 10 46 2047 ?_
 refine tkA 11 47 4095 ?_
 refine wpAnyH_done (by kernel_rfl) ?_ _
 clear hHeld
 go_wp2_with fail
 have HB:=ab (aa HB).drew
 have HA5:=ab ((aa HA5).below ((Below.refl _ _).drew))
 have HRm:=ab (aa HRm).drew
 have HS:=ab (((aG _ _ _).and (aB _ _ _ _ _)) _ _ (aa HS) ((Below.refl _ _).drew))
 refine wp_region_held_drew (S:=fun w' => ((w'.cell? ⟨W.heap.size,0,none⟩ = some (.int .i64 e) ∧ w'.cell? ⟨W.heap.size,1,none⟩ = some (.int .i64 f)) ∧ (w'.cell? ⟨W.heap.size + 1,0,none⟩ = some (.bool n) ∧ w'.cell? ⟨W.heap.size + 1,1,none⟩ = some (.int .i64 K) ∧ w'.cell? ⟨W.heap.size + 1,2,none⟩ = some (.int .i64 X) ∧ w'.cell? ⟨W.heap.size + 1,3,none⟩ = some (.int .u64 S))) ∧ aS b1 5 w') (by kernel_rfl) ?_ (fun hHeld => ?_)
 ·(try dsimp only)
  exact ⟨aa HS,aa HRm⟩
 refine aC 8 (by kernel_rfl) ?_
 refine tkA 0 48 1 ?_
 refine tkA 1 49 3 ?_
 refine tkA 2 50 7 ?_
 refine rdA 3 15 (fun Kk hKk => ?_)
 go_simp
 refine cg1 HP fun wp hbl => ?_
 have HB:=bt HB hbl
 have HA5:=ab ((aa HA5).below hbl)
 have HRm:=ab ((aa HRm).below hbl)
 have HS:=ab (((aG _ _ _).and (aB _ _ _ _ _)) _ _ (aa HS) hbl)
 clear hbl
 (try go_wp2_with fail)
 refine oA hKk (⟨aa HS,aa HRm⟩) fun hHeld => ?_
 clear hKk Kk
 refine tkA 4 52 31 ?_
 refine tkA 5 53 63 ?_
 refine tkA 6 54 127 ?_
 refine rdA 7 255 (fun Kk hKk => ?_)
 obtain ⟨⟨v3,c3⟩,f3⟩:=hHeld.2 3 (by omega)
 go_simp
 refine oA hKk (⟨⟨At2.set (aa HS).1 (by omega) _ _,At4.set (aa HS).2 (by omega) _ _⟩,hHeld.2.set _ _⟩) fun hHeld => ?_
 clear hKk Kk
 refine wpAnyH_done (by kernel_rfl) ?_ _
 clear hHeld
 have HA5:=ab (yr (aa HA5) (.int .u64 E))
 have HB:=ab (aZ (aa HB) b1 (by omega) 3 (.int .u64 E))
 obtain ⟨a0,a1,a2,a3,a4⟩:=aa HA5
 go_wp2_with fail
 refine cg1 HC fun wz hbl => ?_
 have HB:=bt HB hbl
 go_wp2_with fail
 go_ret2
 exact ⟨rfl,aa HB⟩
set_option maxHeartbeats 1000000
def gZ (f P Q b : Int) (n : Bool) (X S V c : Int) : Prop:=
 (S < P ∧ S ≠ 0 ∧ X = 1 - b - f ∧ V = put f P Q n 0 (S % P) ∧ c = 0) ∨
 (P ≤ S ∧ S < 2 * P ∧ 1 - b - f ≤ X ∧ X ≤ Q - 2 - b - f ∧ V = put f P Q n (X + b + f) (S % P) ∧ c = 0) ∨
 (¬ (S < P ∧ S ≠ 0 ∧ X = 1 - b - f) ∧ ¬ (P ≤ S ∧ S < 2 * P ∧ 1 - b - f ≤ X ∧ X ≤ Q - 2 - b - f) ∧ V = 0 ∧ c = 2)
theorem dt {p : Prop} [Decidable p] (h : p) : decide p = true:=by simp [h]
theorem df {p : Prop} [Decidable p] (h : ¬ p) : decide p = false:=by simp [h]
theorem agt {w e f P Q b K X S V c : Int} {n : Bool} (W : World) (h : Kd w e f P Q b) (s0 : 0 ≤ S) (s1 : S < 18446744073709551616) (hc : gZ f P Q b n X S V c) :
 Calls Tryz.prog 283 #[.agg #[.int .i64 e,.int .i64 f],.agg #[.bool n,.int .i64 K,.int .i64 X,.int .u64 S]] W fun r W' => r = .returned (.tuple #[.int .u64 V,.int .i64 c]) ∧ Below W.heap.size W W':=by
 have hs:=h.wd.sz
 obtain ⟨p1,p2,q1,q2⟩:=h.pos
 obtain ⟨u',v'⟩:=cJ S (show 1 ≤ P by omega)
 have g : 0 ≤ f ∧ f ≤ 63 ∧ 0 ≤ b ∧ b ≤ 2000 ∧ Q = 2 * b + 2:=by rcases h with h | h <;> omega
 obtain ⟨g0,g1,g2,g3,g4⟩:=g
 have kp : IntKind.u64.wrap (P - 1) = P - 1:=by rw [IntKind.wrap_u64]; omega
 have ka : bits .and .u64 S (P - 1) = S % P:=by
  rcases h with ⟨_,_,rfl,rfl,_,_⟩ | ⟨_,_,rfl,rfl,_,_⟩
  ·exact bV 23 _ _ (by omega) (by omega) rfl (by omega)
  ·exact bV 52 _ _ (by omega) (by omega) rfl (by omega)
 have kd : S / 2 ^ f.toNat = S / P:=by rcases h with ⟨_,_,rfl,rfl,_,_⟩ | ⟨_,_,rfl,rfl,_,_⟩ <;> rfl
 have D0 : (S / P = 0 ↔ S < P) ∧ (S / P = 1 ↔ P ≤ S ∧ S < 2 * P):=by
  rcases h with ⟨_,_,_,rfl,_,_⟩ | ⟨_,_,_,rfl,_,_⟩ <;> omega
 obtain ⟨D0,D1⟩:=D0
 rcases hc with ⟨c1,c2,c3,rfl,rfl⟩ | ⟨c1,c2,c3,c4,rfl,rfl⟩ | ⟨c1,c2,rfl,rfl⟩
 ·exact aed W hs g0 g1 kp ka kd (aH (D0.2 c1)) (au c2) (dJ c3) (ab (fun W => eP n 0 (S % P) hs W (by omega) (by omega) u' v'))
 ·refine aee (E:=X + b + f) W hs g0 g1 kp ka kd (au (fun hh => by have:=D0.1 hh; omega)) (aH (D1.2 ⟨c1,c2⟩)) (df (by omega)) (df (by omega)) (ab (fun W => gO 0 hs W (by omega) (by omega))) ?_ ?_
   (ab (fun W => eP n (X + b + f) (S % P) hs W (by omega) (by omega) u' v'))
  ·rw [aj (by omega) (by omega)]; omega
  ·rw [IntKind.wrap_u64]; omega
 ·by_cases e0 : S < P
  ·by_cases e1 : S = 0
   ·exact apg W hs g0 g1 kp ka kd (aH (D0.2 e0)) (aH e1)
   ·exact aph W hs g0 g1 kp ka kd (aH (D0.2 e0)) (au e1) (dj (fun hh => c1 ⟨e0,e1,hh⟩))
  ·have d0:=au (fun hh => e0 (D0.1 hh))
   by_cases e1 : S < 2 * P
   ·have d1:=aH (D1.2 ⟨by omega,e1⟩)
    by_cases e2 : X < 1 - b - f
    ·exact akz W hs g0 g1 kp ka kd d0 d1 (dt e2)
    ·exact ak0 W hs g0 g1 kp ka kd d0 d1 (df e2) (dt (by omega))
   ·exact aec W hs g0 g1 kp ka kd d0 (au (fun hh => e1 (D1.1 hh).2))
theorem vM {w e f P Q b K X S : Int} {n : Bool} (W : World) (h : Wd w e f P Q b) (hf : (f != 0) = true) (k1 : (K == 1) = true) {V c : Int} (HC : Ct 283 #[.agg #[.int .i64 e,.int .i64 f],.agg #[.bool n,.int .i64 K,.int .i64 X,.int .u64 S]] (.tuple #[.int .u64 V,.int .i64 c])) :
 Calls Tryz.prog 279 #[.int .i64 w,.agg #[.bool n,.int .i64 K,.int .i64 X,.int .u64 S]] W fun r W' => r = .returned (.tuple #[.int .u64 V,.int .i64 c]) ∧ Below W.heap.size W W':=by
 go_enter Tryz.func279,Tryz.ntmps279
 go_wp2_with fail
 refine (aV h _).mono ?_
 rintro _ w1 ⟨rfl,hbl⟩
 have HA4:=ab (((ak W (.bool n) (.int .i64 K) (.int .i64 X) (.int .u64 S) 37).below hbl).below (ae _ (.cells #[.int .i64 e,.int .i64 f] 80)))
 have HA2 : Hid (At2 w1.heap.size (.int .i64 e) (.int .i64 f) (w1.alloc (.cells #[.int .i64 e,.int .i64 f] 80))):=by unfold Hid At2; simp [go_sem]
 have HB:=ab (ad (ac (ae _ _) hbl) (.cells #[.int .i64 e,.int .i64 f] 80))
 clear hbl
 go_wp2_with fail
 refine (ba e f _).mono ?_
 rintro _ w2 ⟨rfl,hbl⟩
 obtain ⟨p0,p1,p2,p3⟩:=(aa HA4).below hbl
 obtain ⟨q0,q1⟩:=(aa HA2).below hbl
 have HB:=bt HB hbl
 clear hbl HA4 HA2
 go_wp2_with fail
 refine cg1 HC fun w3 hbl => ?_
 have HB:=bt HB hbl
 go_wp2_with fail
 go_ret2
 exact ⟨rfl,aa HB⟩
theorem aaq {w e f P Q b K X S : Int} {n : Bool} (W : World) (h : Wd w e f P Q b) (hf : (f != 0) = true) (k1 : (K == 1) = false) (z1 : (S != 0) = true) :
 Calls Tryz.prog 279 #[.int .i64 w,.agg #[.bool n,.int .i64 K,.int .i64 X,.int .u64 S]] W fun r W' => r = .returned (.tuple #[.int .u64 0,.int .i64 2]) ∧ Below W.heap.size W W':=by
 go_enter Tryz.func279,Tryz.ntmps279
 go_wp2_with fail
 refine (aV h _).mono ?_
 rintro _ w1 ⟨rfl,hbl⟩
 have HA4:=ab (((ak W (.bool n) (.int .i64 K) (.int .i64 X) (.int .u64 S) 37).below hbl).below (ae _ (.cells #[.int .i64 e,.int .i64 f] 80)))
 have HA2 : Hid (At2 w1.heap.size (.int .i64 e) (.int .i64 f) (w1.alloc (.cells #[.int .i64 e,.int .i64 f] 80))):=by unfold Hid At2; simp [go_sem]
 have HB:=ab (ad (ac (ae _ _) hbl) (.cells #[.int .i64 e,.int .i64 f] 80))
 clear hbl
 go_wp2_with fail
 refine (ba e f _).mono ?_
 rintro _ w2 ⟨rfl,hbl⟩
 obtain ⟨p0,p1,p2,p3⟩:=(aa HA4).below hbl
 obtain ⟨q0,q1⟩:=(aa HA2).below hbl
 have HB:=bt HB hbl
 clear hbl HA4 HA2
 go_wp2_with fail
 go_ret2
 exact ⟨rfl,aa HB⟩
theorem aar {w e f P Q b K X S : Int} {n : Bool} (W : World) (h : Wd w e f P Q b) (hf : (f != 0) = true) (k1 : (K == 1) = false) (z1 : (S != 0) = false) (z2 : (X != 0) = true) :
 Calls Tryz.prog 279 #[.int .i64 w,.agg #[.bool n,.int .i64 K,.int .i64 X,.int .u64 S]] W fun r W' => r = .returned (.tuple #[.int .u64 0,.int .i64 2]) ∧ Below W.heap.size W W':=by
 go_enter Tryz.func279,Tryz.ntmps279
 go_wp2_with fail
 refine (aV h _).mono ?_
 rintro _ w1 ⟨rfl,hbl⟩
 have HA4:=ab (((ak W (.bool n) (.int .i64 K) (.int .i64 X) (.int .u64 S) 37).below hbl).below (ae _ (.cells #[.int .i64 e,.int .i64 f] 80)))
 have HA2 : Hid (At2 w1.heap.size (.int .i64 e) (.int .i64 f) (w1.alloc (.cells #[.int .i64 e,.int .i64 f] 80))):=by unfold Hid At2; simp [go_sem]
 have HB:=ab (ad (ac (ae _ _) hbl) (.cells #[.int .i64 e,.int .i64 f] 80))
 clear hbl
 go_wp2_with fail
 refine (ba e f _).mono ?_
 rintro _ w2 ⟨rfl,hbl⟩
 obtain ⟨p0,p1,p2,p3⟩:=(aa HA4).below hbl
 obtain ⟨q0,q1⟩:=(aa HA2).below hbl
 have HB:=bt HB hbl
 clear hbl HA4 HA2
 go_wp2_with fail
 go_ret2
 exact ⟨rfl,aa HB⟩
theorem rV {w e f P Q b K X S : Int} {n : Bool} (W : World) (h : Wd w e f P Q b) (hf : (f != 0) = true) (k1 : (K == 1) = false) (z1 : (S != 0) = false) (z2 : (X != 0) = false) (k0 : (K == 0) = true) {V : Int} (HC : Ct 155 #[.int .i64 w,.bool n] (.int .u64 V)) :
 Calls Tryz.prog 279 #[.int .i64 w,.agg #[.bool n,.int .i64 K,.int .i64 X,.int .u64 S]] W fun r W' => r = .returned (.tuple #[.int .u64 V,.int .i64 0]) ∧ Below W.heap.size W W':=by
 go_enter Tryz.func279,Tryz.ntmps279
 go_wp2_with fail
 refine (aV h _).mono ?_
 rintro _ w1 ⟨rfl,hbl⟩
 have HA4:=ab (((ak W (.bool n) (.int .i64 K) (.int .i64 X) (.int .u64 S) 37).below hbl).below (ae _ (.cells #[.int .i64 e,.int .i64 f] 80)))
 have HA2 : Hid (At2 w1.heap.size (.int .i64 e) (.int .i64 f) (w1.alloc (.cells #[.int .i64 e,.int .i64 f] 80))):=by unfold Hid At2; simp [go_sem]
 have HB:=ab (ad (ac (ae _ _) hbl) (.cells #[.int .i64 e,.int .i64 f] 80))
 clear hbl
 go_wp2_with fail
 refine (ba e f _).mono ?_
 rintro _ w2 ⟨rfl,hbl⟩
 obtain ⟨p0,p1,p2,p3⟩:=(aa HA4).below hbl
 obtain ⟨q0,q1⟩:=(aa HA2).below hbl
 have HB:=bt HB hbl
 clear hbl HA4 HA2
 go_wp2_with fail
 refine cg1 HC fun w3 hbl => ?_
 have HB:=bt HB hbl
 go_wp2_with fail
 go_ret2
 exact ⟨rfl,aa HB⟩
theorem vN {w e f P Q b K X S : Int} {n : Bool} (W : World) (h : Wd w e f P Q b) (hf : (f != 0) = true) (k1 : (K == 1) = false) (z1 : (S != 0) = false) (z2 : (X != 0) = false) (k0 : (K == 0) = false) (k2 : (K == 2) = true) {V : Int} (HC : Ct 157 #[.int .i64 w,.bool n] (.int .u64 V)) :
 Calls Tryz.prog 279 #[.int .i64 w,.agg #[.bool n,.int .i64 K,.int .i64 X,.int .u64 S]] W fun r W' => r = .returned (.tuple #[.int .u64 V,.int .i64 0]) ∧ Below W.heap.size W W':=by
 go_enter Tryz.func279,Tryz.ntmps279
 go_wp2_with fail
 refine (aV h _).mono ?_
 rintro _ w1 ⟨rfl,hbl⟩
 have HA4:=ab (((ak W (.bool n) (.int .i64 K) (.int .i64 X) (.int .u64 S) 37).below hbl).below (ae _ (.cells #[.int .i64 e,.int .i64 f] 80)))
 have HA2 : Hid (At2 w1.heap.size (.int .i64 e) (.int .i64 f) (w1.alloc (.cells #[.int .i64 e,.int .i64 f] 80))):=by unfold Hid At2; simp [go_sem]
 have HB:=ab (ad (ac (ae _ _) hbl) (.cells #[.int .i64 e,.int .i64 f] 80))
 clear hbl
 go_wp2_with fail
 refine (ba e f _).mono ?_
 rintro _ w2 ⟨rfl,hbl⟩
 obtain ⟨p0,p1,p2,p3⟩:=(aa HA4).below hbl
 obtain ⟨q0,q1⟩:=(aa HA2).below hbl
 have HB:=bt HB hbl
 clear hbl HA4 HA2
 go_wp2_with fail
 refine cg1 HC fun w3 hbl => ?_
 have HB:=bt HB hbl
 go_wp2_with fail
 go_ret2
 exact ⟨rfl,aa HB⟩
theorem vO {w e f P Q b K X S : Int} {n : Bool} (W : World) (h : Wd w e f P Q b) (hf : (f != 0) = true) (k1 : (K == 1) = false) (z1 : (S != 0) = false) (z2 : (X != 0) = false) (k0 : (K == 0) = false) (k2 : (K == 2) = false) (k3 : (K == 3) = true) {V : Int} (HC : Ct 156 #[.int .i64 w] (.int .u64 V)) :
 Calls Tryz.prog 279 #[.int .i64 w,.agg #[.bool n,.int .i64 K,.int .i64 X,.int .u64 S]] W fun r W' => r = .returned (.tuple #[.int .u64 V,.int .i64 0]) ∧ Below W.heap.size W W':=by
 go_enter Tryz.func279,Tryz.ntmps279
 go_wp2_with fail
 refine (aV h _).mono ?_
 rintro _ w1 ⟨rfl,hbl⟩
 have HA4:=ab (((ak W (.bool n) (.int .i64 K) (.int .i64 X) (.int .u64 S) 37).below hbl).below (ae _ (.cells #[.int .i64 e,.int .i64 f] 80)))
 have HA2 : Hid (At2 w1.heap.size (.int .i64 e) (.int .i64 f) (w1.alloc (.cells #[.int .i64 e,.int .i64 f] 80))):=by unfold Hid At2; simp [go_sem]
 have HB:=ab (ad (ac (ae _ _) hbl) (.cells #[.int .i64 e,.int .i64 f] 80))
 clear hbl
 go_wp2_with fail
 refine (ba e f _).mono ?_
 rintro _ w2 ⟨rfl,hbl⟩
 obtain ⟨p0,p1,p2,p3⟩:=(aa HA4).below hbl
 obtain ⟨q0,q1⟩:=(aa HA2).below hbl
 have HB:=bt HB hbl
 clear hbl HA4 HA2
 go_wp2_with fail
 refine cg1 HC fun w3 hbl => ?_
 have HB:=bt HB hbl
 go_wp2_with fail
 go_ret2
 exact ⟨rfl,aa HB⟩
theorem vP {w e f P Q b K X S : Int} {n : Bool} (W : World) (h : Wd w e f P Q b) (hf : (f != 0) = true) (k1 : (K == 1) = false) (z1 : (S != 0) = false) (z2 : (X != 0) = false) (k0 : (K == 0) = false) (k2 : (K == 2) = false) (k3 : (K == 3) = false) :
 Calls Tryz.prog 279 #[.int .i64 w,.agg #[.bool n,.int .i64 K,.int .i64 X,.int .u64 S]] W fun r W' => r = .returned (.tuple #[.int .u64 0,.int .i64 2]) ∧ Below W.heap.size W W':=by
 go_enter Tryz.func279,Tryz.ntmps279
 go_wp2_with fail
 refine (aV h _).mono ?_
 rintro _ w1 ⟨rfl,hbl⟩
 have HA4:=ab (((ak W (.bool n) (.int .i64 K) (.int .i64 X) (.int .u64 S) 37).below hbl).below (ae _ (.cells #[.int .i64 e,.int .i64 f] 80)))
 have HA2 : Hid (At2 w1.heap.size (.int .i64 e) (.int .i64 f) (w1.alloc (.cells #[.int .i64 e,.int .i64 f] 80))):=by unfold Hid At2; simp [go_sem]
 have HB:=ab (ad (ac (ae _ _) hbl) (.cells #[.int .i64 e,.int .i64 f] 80))
 clear hbl
 go_wp2_with fail
 refine (ba e f _).mono ?_
 rintro _ w2 ⟨rfl,hbl⟩
 obtain ⟨p0,p1,p2,p3⟩:=(aa HA4).below hbl
 obtain ⟨q0,q1⟩:=(aa HA2).below hbl
 have HB:=bt HB hbl
 clear hbl HA4 HA2
 go_wp2_with fail
 go_ret2
 exact ⟨rfl,aa HB⟩
def nN (f P Q b : Int) (n : Bool) (K X S V c : Int) : Prop:=
 (K = 1 ∧ gZ f P Q b n X S V c) ∨
 (K = 0 ∧ S = 0 ∧ X = 0 ∧ V = put f P Q n 0 0 ∧ c = 0) ∨
 (K = 2 ∧ S = 0 ∧ X = 0 ∧ V = put f P Q n (Q - 1) 0 ∧ c = 0) ∨
 (K = 3 ∧ S = 0 ∧ X = 0 ∧ V = put f P Q false (Q - 1) (P / 2) ∧ c = 0) ∨
 (K ≠ 1 ∧ (S ≠ 0 ∨ X ≠ 0 ∨ (K ≠ 0 ∧ K ≠ 2 ∧ K ≠ 3)) ∧ V = 0 ∧ c = 2)
theorem vQ {w e f P Q b K X S V c : Int} {n : Bool} (W : World) (h : Kd w e f P Q b) (s0 : 0 ≤ S) (s1 : S < 18446744073709551616) (hc : nN f P Q b n K X S V c) :
 Calls Tryz.prog 279 #[.int .i64 w,.agg #[.bool n,.int .i64 K,.int .i64 X,.int .u64 S]] W fun r W' => r = .returned (.tuple #[.int .u64 V,.int .i64 c]) ∧ Below W.heap.size W W':=by
 have hf:=dj h.f0
 rcases hc with ⟨k,hc⟩ | ⟨rfl,rfl,rfl,rfl,rfl⟩ | ⟨rfl,rfl,rfl,rfl,rfl⟩ | ⟨rfl,rfl,rfl,rfl,rfl⟩ | ⟨k1,hz,rfl,rfl⟩
 ·exact vM W h.wd hf (aH k) (ab (fun W => agt W h s0 s1 hc))
 ·exact rV W h.wd hf rfl rfl rfl rfl (ab (fun W => bE n h.wd W))
 ·exact vN W h.wd hf rfl rfl rfl rfl rfl (ab (fun W => d5 n h.wd W))
 ·exact vO W h.wd hf rfl rfl rfl rfl rfl rfl (ab (fun W => cx h.wd W))
 ·by_cases z1 : S = 0
  ·by_cases z2 : X = 0
   ·exact vP W h.wd hf (au k1) (dJ z1) (dJ z2) (au (by omega)) (au (by omega)) (au (by omega))
   ·exact aar W h.wd hf (au k1) (dJ z1) (dj z2)
  ·exact aaq W h.wd hf (au k1) (dj z1)
theorem kM (w : World) (x y z u v : Value) (t : TypeId) : At5 w.heap.size x y z u v (w.alloc (.cells #[x,y,z,u,v] t)):=by unfold At5; simp [go_sem]
theorem rQ {h l E : Int} {n m : Bool} (W : World) (h1 : (h == 0) = false) :
 Calls Tryz.prog 265 #[.agg #[.bool n,.int .u64 h,.int .u64 l,.int .i64 E,.bool m]] W fun r W' => r = .returned (.bool false) ∧ Below W.heap.size W W':=by
 go_enter Tryz.func265,Tryz.ntmps265
 go_wp2_with fail
 go_ret
 exact ⟨rfl,ae _ _⟩
theorem rR {h l E : Int} {n m : Bool} (W : World) (h1 : (h == 0) = true) (h2 : (l == 0) = false) :
 Calls Tryz.prog 265 #[.agg #[.bool n,.int .u64 h,.int .u64 l,.int .i64 E,.bool m]] W fun r W' => r = .returned (.bool false) ∧ Below W.heap.size W W':=by
 go_enter Tryz.func265,Tryz.ntmps265
 go_wp2_with fail
 go_ret
 exact ⟨rfl,ae _ _⟩
theorem rS {h l E : Int} {n : Bool} (W : World) (h1 : (h == 0) = true) (h2 : (l == 0) = true) :
 Calls Tryz.prog 265 #[.agg #[.bool n,.int .u64 h,.int .u64 l,.int .i64 E,.bool true]] W fun r W' => r = .returned (.bool false) ∧ Below W.heap.size W W':=by
 go_enter Tryz.func265,Tryz.ntmps265
 go_wp2_with fail
 go_ret
 exact ⟨rfl,ae _ _⟩
theorem rT {h l E : Int} {n : Bool} (W : World) (h1 : (h == 0) = true) (h2 : (l == 0) = true) :
 Calls Tryz.prog 265 #[.agg #[.bool n,.int .u64 h,.int .u64 l,.int .i64 E,.bool false]] W fun r W' => r = .returned (.bool true) ∧ Below W.heap.size W W':=by
 go_enter Tryz.func265,Tryz.ntmps265
 go_wp2_with fail
 go_ret
 exact ⟨rfl,ae _ _⟩
theorem jb (v : Nat) (E : Int) (n m : Bool) (Wd : World) :
 Calls Tryz.prog 265 #[.agg #[.bool n,.int .u64 (W.hi v),.int .u64 (W.lo v),.int .i64 E,.bool m]] Wd fun r W' => r = .returned (.bool (decide (v = 0) && !m)) ∧ Below Wd.heap.size Wd W':=by
 by_cases h1 : W.hi v = 0
 ·by_cases h2 : W.lo v = 0
  ·have hv : v = 0:=by unfold W.hi at h1; unfold W.lo at h2; omega
   cases m
   ·rw [decide_eq_true hv]; exact rT Wd (aH h1) (aH h2)
   ·rw [decide_eq_true hv]; exact rS Wd (aH h1) (aH h2)
  ·have hv : ¬ v = 0:=fun h0 => h2 (by rw [h0]; rfl)
   rw [decide_eq_false hv]; exact rR Wd (aH h1) (au h2)
 ·have hv : ¬ v = 0:=fun h0 => h1 (by rw [h0]; rfl)
  rw [decide_eq_false hv]; exact rQ Wd (au h1)
theorem ajv {h l E B : Int} {n m : Bool} (W : World) (HL : Ct 233 #[.agg #[.int .u64 h,.int .u64 l]] (.int .i64 B))
 (k1 : IntKind.i64.wrap (E + B) = E + B) (k2 : IntKind.i64.wrap (E + B - 1) = E + B - 1) :
 Calls Tryz.prog 266 #[.agg #[.bool n,.int .u64 h,.int .u64 l,.int .i64 E,.bool m]] W fun r W' => r = .returned (.int .i64 (E + B - 1)) ∧ Below W.heap.size W W':=by
 go_enter Tryz.func266,Tryz.ntmps266
 go_wp2_with fail
 refine wp_region_held_drew (S:=fun w' => w'.cell? ⟨W.heap.size,0,none⟩ = some (.bool n) ∧ w'.cell? ⟨W.heap.size,1,none⟩ = some (.int .u64 h) ∧ w'.cell? ⟨W.heap.size,2,none⟩ = some (.int .u64 l) ∧ w'.cell? ⟨W.heap.size,3,none⟩ = some (.int .i64 E) ∧ w'.cell? ⟨W.heap.size,4,none⟩ = some (.bool m)) (by kernel_rfl) ?_ (fun hHeld => ?_)
 ·(try dsimp only)
  simp [go_sem]
 refine aC 8 (by kernel_rfl) ?_
 refine tkA 0 3 1 ?_
 refine tkA 1 4 3 ?_
 refine tkA 2 5 7 ?_
 refine tkA 3 6 15 ?_
 refine rdA 4 31 (fun Kk hKk => ?_)
 go_simp
 refine cg1 HL fun w1 hbl => ?_
 have HB:=ab (ac (ae _ _).drew hbl)
 (try go_wp2_with fail)
 refine oA hKk (At5.below hHeld hbl) fun hHeld => ?_
 clear hKk Kk
 refine tkA 5 8 63 ?_
 refine tkA 6 9 127 ?_
 refine tkA 7 2 255 ?_
 refine wpAnyH_done (by kernel_rfl) ?_ _
 go_wp2
 go_ret
 exact ⟨rfl,aa HB⟩
theorem vI {h l E U h' l' : Int} {n m : Bool} (W : World) (HR : Ct 262 #[.agg #[.int .u64 h,.int .u64 l],.int .i64 (U - E - 1)] (.tuple #[.agg #[.int .u64 h',.int .u64 l'],.bool true]))
 (g : E < U) (k1 : IntKind.i64.wrap (U - E) = U - E) (k2 : IntKind.i64.wrap (U - E - 1) = U - E - 1) :
 Calls Tryz.prog 267 #[.agg #[.bool n,.int .u64 h,.int .u64 l,.int .i64 E,.bool m],.int .i64 U] W fun r W' => r = .returned (.tuple #[.int .u64 l',.bool true]) ∧ Below W.heap.size W W':=by
 go_enter Tryz.func267,Tryz.ntmps267
 go_wp2_with fail
 refine cg1 HR fun w1 hb => ?_
 have HA:=ab (((kM W _ _ _ _ _ 197).below hb).below ((ae _ (.cells #[.int .u64 h',.int .u64 l'] 135)).drew))
 have HB:=ab ((ad (ac (ae _ _) hb) (.cells #[.int .u64 h',.int .u64 l'] 135)).drew)
 have HZ : Hid (W.heap.size < w1.heap.size):=by have:=hb.size; simp at this; unfold Hid; omega
 clear hb
 obtain ⟨a0,a1,a2,a3,a4⟩:=aa HA
 clear HA
 go_wp2_with fail
 refine wp_region_held_drew (S:=fun w' => (w'.cell? ⟨W.heap.size,0,none⟩ = some (.bool n) ∧ w'.cell? ⟨W.heap.size,1,none⟩ = some (.int .u64 h) ∧ w'.cell? ⟨W.heap.size,2,none⟩ = some (.int .u64 l) ∧ w'.cell? ⟨W.heap.size,3,none⟩ = some (.int .i64 E) ∧ w'.cell? ⟨W.heap.size,4,none⟩ = some (.bool m)) ∧ (w'.cell? ⟨w1.heap.size,0,none⟩ = some (.int .u64 h') ∧ w'.cell? ⟨w1.heap.size,1,none⟩ = some (.int .u64 l'))) (by kernel_rfl) ?_ (fun hHeld => ?_)
 ·(try dsimp only)
  exact ⟨⟨a0,a1,a2,a3,a4⟩,by simp [go_sem],by simp [go_sem]⟩
 refine aC 9 (by kernel_rfl) ?_
 refine tkA 0 24 1 ?_
 refine tkA 1 25 3 ?_
 refine tkA 2 26 7 ?_
 refine tkA 3 27 15 ?_
 refine tkU 4 28 31 ?_
 refine tkU 5 29 63 ?_
 refine tkA 6 30 127 ?_
 refine tkA 7 4 255 ?_
 refine tkA 8 5 511 ?_
 refine wpAnyH_done (by kernel_rfl) ?_ _
 go_wp2
 exact bodyPost_ret (v:=.tuple #[.int .u64 l',.bool true]) (by simp [results,Tryz.results267,go_sem]) rfl ⟨rfl,aa HB⟩
theorem vJ {h l E U h' l' : Int} {n m : Bool} (W : World) (HR : Ct 262 #[.agg #[.int .u64 h,.int .u64 l],.int .i64 (U - E - 1)] (.tuple #[.agg #[.int .u64 h',.int .u64 l'],.bool false]))
 (g : E < U) (k1 : IntKind.i64.wrap (U - E) = U - E) (k2 : IntKind.i64.wrap (U - E - 1) = U - E - 1) :
 Calls Tryz.prog 267 #[.agg #[.bool n,.int .u64 h,.int .u64 l,.int .i64 E,.bool m],.int .i64 U] W fun r W' => r = .returned (.tuple #[.int .u64 l',.bool m]) ∧ Below W.heap.size W W':=by
 go_enter Tryz.func267,Tryz.ntmps267
 go_wp2_with fail
 refine cg1 HR fun w1 hb => ?_
 have HA:=ab (((kM W _ _ _ _ _ 197).below hb).below ((ae _ (.cells #[.int .u64 h',.int .u64 l'] 135)).drew))
 have HB:=ab ((ad (ac (ae _ _) hb) (.cells #[.int .u64 h',.int .u64 l'] 135)).drew)
 have HZ : Hid (W.heap.size < w1.heap.size):=by have:=hb.size; simp at this; unfold Hid; omega
 clear hb
 obtain ⟨a0,a1,a2,a3,a4⟩:=aa HA
 clear HA
 go_wp2_with fail
 refine wp_region_held_drew (S:=fun w' => (w'.cell? ⟨W.heap.size,0,none⟩ = some (.bool n) ∧ w'.cell? ⟨W.heap.size,1,none⟩ = some (.int .u64 h) ∧ w'.cell? ⟨W.heap.size,2,none⟩ = some (.int .u64 l) ∧ w'.cell? ⟨W.heap.size,3,none⟩ = some (.int .i64 E) ∧ w'.cell? ⟨W.heap.size,4,none⟩ = some (.bool m)) ∧ (w'.cell? ⟨w1.heap.size,0,none⟩ = some (.int .u64 h') ∧ w'.cell? ⟨w1.heap.size,1,none⟩ = some (.int .u64 l'))) (by kernel_rfl) ?_ (fun hHeld => ?_)
 ·(try dsimp only)
  exact ⟨⟨a0,a1,a2,a3,a4⟩,by simp [go_sem],by simp [go_sem]⟩
 refine aC 9 (by kernel_rfl) ?_
 refine tkA 0 24 1 ?_
 refine tkA 1 25 3 ?_
 refine tkA 2 26 7 ?_
 refine tkA 3 27 15 ?_
 refine tkA 4 28 31 ?_
 refine tkA 5 29 63 ?_
 refine tkA 6 30 127 ?_
 refine tkA 7 4 255 ?_
 refine tkA 8 5 511 ?_
 refine wpAnyH_done (by kernel_rfl) ?_ _
 go_wp2
 exact bodyPost_ret (v:=.tuple #[.int .u64 l',.bool m]) (by simp [results,Tryz.results267,go_sem]) rfl ⟨rfl,aa HB⟩
theorem vK {h l E U h1 l1 h2 l2 : Int} {n : Bool} (W : World) (H1 : Ct 234 #[.agg #[.int .u64 h,.int .u64 l],.int .i64 1] (.agg #[.int .u64 h1,.int .u64 l1]))
 (H2 : Ct 234 #[.agg #[.int .u64 h1,.int .u64 (l1 + 1)],.int .i64 (E - U)] (.agg #[.int .u64 h2,.int .u64 l2]))
 (g : ¬ E < U) (k1 : IntKind.i64.wrap (E - U) = E - U) (ko : bits .or .u64 l1 1 = l1 + 1) :
 Calls Tryz.prog 267 #[.agg #[.bool n,.int .u64 h,.int .u64 l,.int .i64 E,.bool true],.int .i64 U] W fun r W' => r = .returned (.tuple #[.int .u64 l2,.bool false]) ∧ Below W.heap.size W W':=by
 go_enter Tryz.func267,Tryz.ntmps267
 go_wp2_with fail
 refine cg1 H1 fun w1 hb => ?_
 have HA:=ab ((kM W _ _ _ _ _ 197).below hb)
 have HB:=ab (ad (ac (ae _ _) hb) (.cells #[.int .u64 h1,.int .u64 (l1 + 1)] 135))
 have hz : W.heap.size < w1.heap.size:=by have:=hb.size; simp at this; omega
 have hne : ¬ W.heap.size = w1.heap.size:=by omega
 clear hb
 obtain ⟨a0,a1,a2,a3,a4⟩:=aa HA
 clear HA
 go_wp2_with fail
 refine cg1 H2 fun w2 hb2 => ?_
 have HB:=bt HB hb2
 clear hb2
 have ff : ∀ w : World,(Instr.field 135 (.agg #[.int .u64 h2,.int .u64 l2]) 1).run Tryz.prog w = .ok (.int .u64 l2) w:=fun _ => by kernel_rfl
 go_wp2_with fail
 go_ret2
 exact ⟨rfl,aa HB⟩
theorem vL {h l E U h1 l1 h2 l2 : Int} {n : Bool} (W : World) (H1 : Ct 234 #[.agg #[.int .u64 h,.int .u64 l],.int .i64 1] (.agg #[.int .u64 h1,.int .u64 l1]))
 (H2 : Ct 234 #[.agg #[.int .u64 h1,.int .u64 l1],.int .i64 (E - U)] (.agg #[.int .u64 h2,.int .u64 l2]))
 (g : ¬ E < U) (k1 : IntKind.i64.wrap (E - U) = E - U) :
 Calls Tryz.prog 267 #[.agg #[.bool n,.int .u64 h,.int .u64 l,.int .i64 E,.bool false],.int .i64 U] W fun r W' => r = .returned (.tuple #[.int .u64 l2,.bool false]) ∧ Below W.heap.size W W':=by
 go_enter Tryz.func267,Tryz.ntmps267
 go_wp2_with fail
 refine cg1 H1 fun w1 hb => ?_
 have HA:=ab ((kM W _ _ _ _ _ 197).below hb)
 have HB:=ab (ad (ac (ae _ _) hb) (.cells #[.int .u64 h1,.int .u64 l1] 135))
 have hz : W.heap.size < w1.heap.size:=by have:=hb.size; simp at this; omega
 have hne : ¬ W.heap.size = w1.heap.size:=by omega
 clear hb
 obtain ⟨a0,a1,a2,a3,a4⟩:=aa HA
 clear HA
 go_wp2_with fail
 refine cg1 H2 fun w2 hb2 => ?_
 have HB:=bt HB hb2
 clear hb2
 have ff : ∀ w : World,(Instr.field 135 (.agg #[.int .u64 h2,.int .u64 l2]) 1).run Tryz.prog w = .ok (.int .u64 l2) w:=fun _ => by kernel_rfl
 go_wp2_with fail
 go_ret2
 exact ⟨rfl,aa HB⟩
set_option maxHeartbeats 2000000
def At9 (b : Nat) (x0 x1 x2 x3 x4 x5 x6 x7 x8 : Value) (w : World) : Prop:=
 w.cell? ⟨b,0,none⟩ = some x0 ∧ w.cell? ⟨b,1,none⟩ = some x1 ∧ w.cell? ⟨b,2,none⟩ = some x2 ∧ w.cell? ⟨b,3,none⟩ = some x3 ∧ w.cell? ⟨b,4,none⟩ = some x4 ∧
 w.cell? ⟨b,5,none⟩ = some x5 ∧ w.cell? ⟨b,6,none⟩ = some x6 ∧ w.cell? ⟨b,7,none⟩ = some x7 ∧ w.cell? ⟨b,8,none⟩ = some x8
theorem At9.below {b : Nat} {x0 x1 x2 x3 x4 x5 x6 x7 x8 : Value} {w w' : World} (h : At9 b x0 x1 x2 x3 x4 x5 x6 x7 x8 w) (hb : Below w.heap.size w w') : At9 b x0 x1 x2 x3 x4 x5 x6 x7 x8 w':=
 have hz:=ag h.1
 ⟨aw hb hz h.1,aw hb hz h.2.1,aw hb hz h.2.2.1,aw hb hz h.2.2.2.1,aw hb hz h.2.2.2.2.1,aw hb hz h.2.2.2.2.2.1,aw hb hz h.2.2.2.2.2.2.1,aw hb hz h.2.2.2.2.2.2.2.1,aw hb hz h.2.2.2.2.2.2.2.2⟩
theorem cF (w : World) (x0 x1 x2 x3 x4 x5 x6 x7 x8 : Value) (t : TypeId) : At9 w.heap.size x0 x1 x2 x3 x4 x5 x6 x7 x8 (w.alloc (.cells #[x0,x1,x2,x3,x4,x5,x6,x7,x8] t)):=by unfold At9; simp [go_sem]
theorem lQ {h l E w f L M S U D V : Int} {n m : Bool} (W : World) (g0 : 0 ≤ f) (g1 : f ≤ 63) (kd : S / 2 ^ f.toNat = D) (d : ¬ 1 < D)
 (z : (S == 0) = true) (HC : Ct 155 #[.int .i64 w,.bool n] (.int .u64 V)) :
 Calls Tryz.prog 268 #[.agg #[.bool n,.int .u64 h,.int .u64 l,.int .i64 E,.bool m,.int .i64 w,.int .i64 f,.int .i64 L,.int .i64 M],.int .u64 S,.int .i64 U] W fun r W' => r = .returned (.int .u64 V) ∧ Below W.heap.size W W':=by
 go_enter Tryz.func268,Tryz.ntmps268
 go_wp2_with fail
 refine cg1 HC fun w1 hb => ?_
 have HB:=ab (ac (ae _ _) hb)
 clear hb
 go_wp2_with fail
 go_ret
 exact ⟨rfl,aa HB⟩
theorem lR {h l E w f L M S U D V : Int} {n m : Bool} (W : World) (g0 : 0 ≤ f) (g1 : f ≤ 63) (kd : S / 2 ^ f.toNat = D) (d : ¬ 1 < D)
 (z : (S == 0) = false) (g : decide (M < U) = true) (HC : Ct 157 #[.int .i64 w,.bool n] (.int .u64 V)) :
 Calls Tryz.prog 268 #[.agg #[.bool n,.int .u64 h,.int .u64 l,.int .i64 E,.bool m,.int .i64 w,.int .i64 f,.int .i64 L,.int .i64 M],.int .u64 S,.int .i64 U] W fun r W' => r = .returned (.int .u64 V) ∧ Below W.heap.size W W':=by
 go_enter Tryz.func268,Tryz.ntmps268
 go_wp2_with fail
 refine cg1 HC fun w1 hb => ?_
 have HB:=ab (ac (ae _ _) hb)
 clear hb
 go_wp2_with fail
 go_ret
 exact ⟨rfl,aa HB⟩
theorem gz {h l E w f L M S U D V c : Int} {n m : Bool} (W : World) (g0 : 0 ≤ f) (g1 : f ≤ 63) (kd : S / 2 ^ f.toNat = D) (d : ¬ 1 < D)
 (z : (S == 0) = false) (g : decide (M < U) = false) (HC : Ct 279 #[.int .i64 w,.agg #[.bool n,.int .i64 1,.int .i64 U,.int .u64 S]] (.tuple #[.int .u64 V,.int .i64 c])) :
 Calls Tryz.prog 268 #[.agg #[.bool n,.int .u64 h,.int .u64 l,.int .i64 E,.bool m,.int .i64 w,.int .i64 f,.int .i64 L,.int .i64 M],.int .u64 S,.int .i64 U] W fun r W' => r = .returned (.int .u64 V) ∧ Below W.heap.size W W':=by
 go_enter Tryz.func268,Tryz.ntmps268
 go_wp2_with fail
 refine cg1 HC fun w1 hb => ?_
 have HB:=ab (ac (ae _ _) hb)
 clear hb
 go_wp2_with fail
 go_ret
 exact ⟨rfl,aa HB⟩
theorem lS {h l E w f L M S U D V S2 : Int} {n m : Bool} (W : World) (g0 : 0 ≤ f) (g1 : f ≤ 63) (kd : S / 2 ^ f.toNat = D) (d : 1 < D) (k2 : S / 2 = S2) (ku : IntKind.i64.wrap (U + 1) = U + 1)
 (z : (S2 == 0) = false) (g : decide (M < (U + 1)) = true) (HC : Ct 157 #[.int .i64 w,.bool n] (.int .u64 V)) :
 Calls Tryz.prog 268 #[.agg #[.bool n,.int .u64 h,.int .u64 l,.int .i64 E,.bool m,.int .i64 w,.int .i64 f,.int .i64 L,.int .i64 M],.int .u64 S,.int .i64 U] W fun r W' => r = .returned (.int .u64 V) ∧ Below W.heap.size W W':=by
 go_enter Tryz.func268,Tryz.ntmps268
 go_wp2_with fail
 refine cg1 HC fun w1 hb => ?_
 have HB:=ab (ac (ae _ _) hb)
 clear hb
 go_wp2_with fail
 go_ret
 exact ⟨rfl,aa HB⟩
theorem lT {h l E w f L M S U D V S2 c : Int} {n m : Bool} (W : World) (g0 : 0 ≤ f) (g1 : f ≤ 63) (kd : S / 2 ^ f.toNat = D) (d : 1 < D) (k2 : S / 2 = S2) (ku : IntKind.i64.wrap (U + 1) = U + 1)
 (z : (S2 == 0) = false) (g : decide (M < (U + 1)) = false) (HC : Ct 279 #[.int .i64 w,.agg #[.bool n,.int .i64 1,.int .i64 (U + 1),.int .u64 S2]] (.tuple #[.int .u64 V,.int .i64 c])) :
 Calls Tryz.prog 268 #[.agg #[.bool n,.int .u64 h,.int .u64 l,.int .i64 E,.bool m,.int .i64 w,.int .i64 f,.int .i64 L,.int .i64 M],.int .u64 S,.int .i64 U] W fun r W' => r = .returned (.int .u64 V) ∧ Below W.heap.size W W':=by
 go_enter Tryz.func268,Tryz.ntmps268
 go_wp2_with fail
 refine cg1 HC fun w1 hb => ?_
 have HB:=ab (ac (ae _ _) hb)
 clear hb
 go_wp2_with fail
 go_ret
 exact ⟨rfl,aa HB⟩
open Go.Proofs.YtpbgpdmffejdgaaGreatDoor.W
theorem cf {P Q : World → Prop} (h : aP P) (k : aP Q) : aP (fun w => P w ∧ Q w):=fun _ _ hw hb => ⟨h _ _ hw.1 hb,k _ _ hw.2 hb⟩
theorem aD (s : Value) (x : Nat) : aP (fun w => ai w s x):=fun _ _ h k => h.below k
theorem aaz {N b : Nat} {v : Value} {w : World} (h : aY N #[v] b w) : w.cell? ⟨b,0,none⟩ = some v ∧ w.frozen? ⟨b,0,none⟩ = false:=⟨h.cell 0 _ rfl,h.thawed 0⟩
theorem mS {b : Nat} {w : World} {u : Value} (h : w.cell? ⟨b,0,none⟩ = some u) (v : Value) : (w.setCell ⟨b,0,none⟩ v).cell? ⟨b,0,none⟩ = some v:=World.cell?_setCell_same _ _ _ h
theorem uq (a : Option Addr) (n c x : Nat) (d : Int) (k : Nat) (w : World) (hd : d = (k : Int)) (hx : ai w (.slice a n c) x) (hn : x < pw 2) (hk : k ≤ 10000) :
 Calls Tryz.prog 59 #[.agg #[.slice a n c],.int .i64 d] w fun e w' => ∃ s',e = .returned (.agg #[s']) ∧ ai w' s' (x * 2 ^ k) ∧ Below w.heap.size w w':=by
 subst hd
 exact cB a n c x k w hx (Nat.le_trans (hx.short hn) (by omega)) hk
theorem aqf (a b : Option Addr) (n c m d x y : Nat) (w : World) (hx : ai w (.slice a n c) x) (hy : ai w (.slice b m d) y) (h1 : x < pw 300) (h2 : y < pw 300) :
 Calls Tryz.prog 118 #[.agg #[.slice a n c],.agg #[.slice b m d]] w fun e w' => ∃ s',e = .returned (.agg #[s']) ∧ ai w' s' (x + y) ∧ Below w.heap.size w w':=
 bO a b n c m d x y w hx hy (Nat.le_trans (hx.short h1) (by omega)) (Nat.le_trans (hy.short h2) (by omega))
theorem aj2 (a b : Option Addr) (n c m d x y : Nat) (w : World) (hx : ai w (.slice a n c) x) (hy : ai w (.slice b m d) y) (h1 : x < pw 300) (h2 : y ≤ x) :
 Calls Tryz.prog 119 #[.agg #[.slice a n c],.agg #[.slice b m d]] w fun e w' => ∃ s',e = .returned (.agg #[s']) ∧ ai w' s' (x - y) ∧ Below w.heap.size w w':=
 ix a b n c m d x y w hx hy (Nat.le_trans (hx.short h1) (by omega)) h2
structure ESt (W : World) (b1 b2 : Nat) (n1 n2 : Bool) (K1 X1 S1 K2 X2 S2 : Int) (s1 s2 : Value) (x y : Nat) (w : World) : Prop where
 a1 : At4 W.heap.size (.bool n1) (.int .i64 K1) (.int .i64 X1) (.int .u64 S1) w
 a2 : At4 (W.heap.size + 1) (.bool n2) (.int .i64 K2) (.int .i64 X2) (.int .u64 S2) w
 c1 : w.cell? ⟨b1,0,none⟩ = some s1
 c2 : w.cell? ⟨b2,0,none⟩ = some s2
 m1 : ai w s1 x
 m2 : ai w s2 y
 bel : Below W.heap.size W w
theorem ESt.below {W : World} {b1 b2 : Nat} {n1 n2 : Bool} {K1 X1 S1 K2 X2 S2 : Int} {s1 s2 : Value} {x y : Nat} {w w' : World} (h : ESt W b1 b2 n1 n2 K1 X1 S1 K2 X2 S2 s1 s2 x y w) (hb : Below w.heap.size w w') : ESt W b1 b2 n1 n2 K1 X1 S1 K2 X2 S2 s1 s2 x y w':=
 { a1:=h.a1.below hb,a2:=h.a2.below hb,c1:=aw hb (ag h.c1) h.c1,c2:=aw hb (ag h.c2) h.c2,m1:=h.m1.below hb,m2:=h.m2.below hb,bel:=ac h.bel hb }
end Go.Proofs.YtpbgpdmffejdgaaGreatDoor
