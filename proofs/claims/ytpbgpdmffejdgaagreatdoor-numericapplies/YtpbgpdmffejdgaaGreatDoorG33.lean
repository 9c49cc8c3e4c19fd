/- MRnB. -/
import Derived.Test.YtpbgpdmffejdgaaGreatDoorG01
import Derived.Test.YtpbgpdmffejdgaaGreatDoorG28
namespace Go.Proofs.YtpbgpdmffejdgaaGreatDoor
set_option maxHeartbeats 4000000
set_option maxRecDepth 100000
open Go.RowKit
def bP : List Value:=[.string ⟨#[105,51,50,46]⟩,.string ⟨#[105,54,52,46]⟩,.string ⟨#[102,51,50,46]⟩,.string ⟨#[102,54,52,46]⟩,.string ⟨#[105,51,50,46]⟩,.string ⟨#[105,54,52,46]⟩,.string ⟨#[102,51,50,46]⟩,.string ⟨#[102,54,52,46]⟩,.string ⟨#[]⟩]
def Grp (g : Int) (p : ByteArray) (L : List ByteArray) : Prop:=Hid (∀ W,Calls Tryz.prog 63 #[.int .i64 g] W fun r W' => ∃ b,r = .returned (.tuple #[.string p,.slice (some ⟨b,0,none⟩) L.length L.length]) ∧ Tab W' b (L.map Value.string) ∧ Below W.heap.size W W')
theorem ao5 : Grp 0 ⟨#[105,51,50,46]⟩ uX:=by
 refine ab (fun W => ?_)
 have HB:=ab (ae W (.cells bP.toArray 9)).drew
 have HA:=ab (aw ((Below.refl (W.alloc (.cells bP.toArray 9)).heap.size (W.alloc (.cells bP.toArray 9))).drew) (ag (aJ W bP 9 0 _ rfl)) (aJ W bP 9 0 _ rfl))
 have HL:=aa xQ
 go_enter Tryz.func63,Tryz.ntmps63
 go_wp2_with fail
 refine wp_region_held_drew (S:=fun w' => w'.cell? ⟨W.heap.size,0,none⟩ = some (.string ⟨#[105,51,50,46]⟩)) (by kernel_rfl) ?_ (fun hHeld => ?_)
 ·(try dsimp only)
  exact aa HA
 refine aC 7 (by kernel_rfl) ?_
 refine tkA 0 10 1 ?_
 refine tkA 1 11 3 ?_
 refine tkA 2 12 7 ?_
 refine tkA 3 13 15 ?_
 refine rdA 4 31 (fun Kk hKk => ?_)
 go_simp
 refine (HL _).mono ?_
 rintro _ w1 ⟨b,rfl,hT,hb⟩
 have HB:=bt HB hb
 have HA:=ab (aw hb (ag (aa HA)) (aa HA))
 have HT:=ab hT
 clear hb hT
 (try go_wp2_with fail)
 refine oA hKk (aa HA) fun hHeld => ?_
 clear hKk Kk
 refine tkA 5 2 63 ?_
 refine tkA 6 3 127 ?_
 refine wpAnyH_done (by kernel_rfl) ?_ _
 clear hHeld
 go_wp2_with fail
 go_ret2
 exact ⟨_,rfl,aa HT,aa HB⟩
theorem ao6 : Grp 1 ⟨#[105,54,52,46]⟩ uX:=by
 refine ab (fun W => ?_)
 have HB:=ab (ae W (.cells bP.toArray 9)).drew
 have HA:=ab (aw ((Below.refl (W.alloc (.cells bP.toArray 9)).heap.size (W.alloc (.cells bP.toArray 9))).drew) (ag (aJ W bP 9 1 _ rfl)) (aJ W bP 9 1 _ rfl))
 have HL:=aa xQ
 go_enter Tryz.func63,Tryz.ntmps63
 go_wp2_with fail
 refine wp_region_held_drew (S:=fun w' => w'.cell? ⟨W.heap.size,1,none⟩ = some (.string ⟨#[105,54,52,46]⟩)) (by kernel_rfl) ?_ (fun hHeld => ?_)
 ·(try dsimp only)
  exact aa HA
 refine aC 7 (by kernel_rfl) ?_
 refine tkA 0 10 1 ?_
 refine tkA 1 11 3 ?_
 refine tkA 2 12 7 ?_
 refine tkA 3 13 15 ?_
 refine rdA 4 31 (fun Kk hKk => ?_)
 go_simp
 refine (HL _).mono ?_
 rintro _ w1 ⟨b,rfl,hT,hb⟩
 have HB:=bt HB hb
 have HA:=ab (aw hb (ag (aa HA)) (aa HA))
 have HT:=ab hT
 clear hb hT
 (try go_wp2_with fail)
 refine oA hKk (aa HA) fun hHeld => ?_
 clear hKk Kk
 refine tkA 5 2 63 ?_
 refine tkA 6 3 127 ?_
 refine wpAnyH_done (by kernel_rfl) ?_ _
 clear hHeld
 go_wp2_with fail
 go_ret2
 exact ⟨_,rfl,aa HT,aa HB⟩
theorem ao7 : Grp 2 ⟨#[102,51,50,46]⟩ uY:=by
 refine ab (fun W => ?_)
 have HB:=ab (ae W (.cells bP.toArray 9)).drew
 have HA:=ab (aw ((Below.refl (W.alloc (.cells bP.toArray 9)).heap.size (W.alloc (.cells bP.toArray 9))).drew) (ag (aJ W bP 9 2 _ rfl)) (aJ W bP 9 2 _ rfl))
 have HL:=aa xR
 go_enter Tryz.func63,Tryz.ntmps63
 go_wp2_with fail
 refine wp_region_held_drew (S:=fun w' => w'.cell? ⟨W.heap.size,2,none⟩ = some (.string ⟨#[102,51,50,46]⟩)) (by kernel_rfl) ?_ (fun hHeld => ?_)
 ·(try dsimp only)
  exact aa HA
 refine aC 7 (by kernel_rfl) ?_
 refine tkA 0 18 1 ?_
 refine tkA 1 19 3 ?_
 refine tkA 2 20 7 ?_
 refine tkA 3 21 15 ?_
 refine rdA 4 31 (fun Kk hKk => ?_)
 go_simp
 refine (HL _).mono ?_
 rintro _ w1 ⟨b,rfl,hT,hb⟩
 have HB:=bt HB hb
 have HA:=ab (aw hb (ag (aa HA)) (aa HA))
 have HT:=ab hT
 clear hb hT
 (try go_wp2_with fail)
 refine oA hKk (aa HA) fun hHeld => ?_
 clear hKk Kk
 refine tkA 5 2 63 ?_
 refine tkA 6 3 127 ?_
 refine wpAnyH_done (by kernel_rfl) ?_ _
 clear hHeld
 go_wp2_with fail
 go_ret2
 exact ⟨_,rfl,aa HT,aa HB⟩
theorem ao8 : Grp 3 ⟨#[102,54,52,46]⟩ uY:=by
 refine ab (fun W => ?_)
 have HB:=ab (ae W (.cells bP.toArray 9)).drew
 have HA:=ab (aw ((Below.refl (W.alloc (.cells bP.toArray 9)).heap.size (W.alloc (.cells bP.toArray 9))).drew) (ag (aJ W bP 9 3 _ rfl)) (aJ W bP 9 3 _ rfl))
 have HL:=aa xR
 go_enter Tryz.func63,Tryz.ntmps63
 go_wp2_with fail
 refine wp_region_held_drew (S:=fun w' => w'.cell? ⟨W.heap.size,3,none⟩ = some (.string ⟨#[102,54,52,46]⟩)) (by kernel_rfl) ?_ (fun hHeld => ?_)
 ·(try dsimp only)
  exact aa HA
 refine aC 7 (by kernel_rfl) ?_
 refine tkA 0 18 1 ?_
 refine tkA 1 19 3 ?_
 refine tkA 2 20 7 ?_
 refine tkA 3 21 15 ?_
 refine rdA 4 31 (fun Kk hKk => ?_)
 go_simp
 refine (HL _).mono ?_
 rintro _ w1 ⟨b,rfl,hT,hb⟩
 have HB:=bt HB hb
 have HA:=ab (aw hb (ag (aa HA)) (aa HA))
 have HT:=ab hT
 clear hb hT
 (try go_wp2_with fail)
 refine oA hKk (aa HA) fun hHeld => ?_
 clear hKk Kk
 refine tkA 5 2 63 ?_
 refine tkA 6 3 127 ?_
 refine wpAnyH_done (by kernel_rfl) ?_ _
 clear hHeld
 go_wp2_with fail
 go_ret2
 exact ⟨_,rfl,aa HT,aa HB⟩
theorem ao9 : Grp 4 ⟨#[105,51,50,46]⟩ uZ:=by
 refine ab (fun W => ?_)
 have HB:=ab (ae W (.cells bP.toArray 9)).drew
 have HA:=ab (aw ((Below.refl (W.alloc (.cells bP.toArray 9)).heap.size (W.alloc (.cells bP.toArray 9))).drew) (ag (aJ W bP 9 4 _ rfl)) (aJ W bP 9 4 _ rfl))
 have HL:=aa xS
 go_enter Tryz.func63,Tryz.ntmps63
 go_wp2_with fail
 refine wp_region_held_drew (S:=fun w' => w'.cell? ⟨W.heap.size,4,none⟩ = some (.string ⟨#[105,51,50,46]⟩)) (by kernel_rfl) ?_ (fun hHeld => ?_)
 ·(try dsimp only)
  exact aa HA
 refine aC 7 (by kernel_rfl) ?_
 refine tkA 0 26 1 ?_
 refine tkA 1 27 3 ?_
 refine tkA 2 28 7 ?_
 refine tkA 3 29 15 ?_
 refine rdA 4 31 (fun Kk hKk => ?_)
 go_simp
 refine (HL _).mono ?_
 rintro _ w1 ⟨b,rfl,hT,hb⟩
 have HB:=bt HB hb
 have HA:=ab (aw hb (ag (aa HA)) (aa HA))
 have HT:=ab hT
 clear hb hT
 (try go_wp2_with fail)
 refine oA hKk (aa HA) fun hHeld => ?_
 clear hKk Kk
 refine tkA 5 2 63 ?_
 refine tkA 6 3 127 ?_
 refine wpAnyH_done (by kernel_rfl) ?_ _
 clear hHeld
 go_wp2_with fail
 go_ret2
 exact ⟨_,rfl,aa HT,aa HB⟩
theorem apa : Grp 5 ⟨#[105,54,52,46]⟩ uZ:=by
 refine ab (fun W => ?_)
 have HB:=ab (ae W (.cells bP.toArray 9)).drew
 have HA:=ab (aw ((Below.refl (W.alloc (.cells bP.toArray 9)).heap.size (W.alloc (.cells bP.toArray 9))).drew) (ag (aJ W bP 9 5 _ rfl)) (aJ W bP 9 5 _ rfl))
 have HL:=aa xS
 go_enter Tryz.func63,Tryz.ntmps63
 go_wp2_with fail
 refine wp_region_held_drew (S:=fun w' => w'.cell? ⟨W.heap.size,5,none⟩ = some (.string ⟨#[105,54,52,46]⟩)) (by kernel_rfl) ?_ (fun hHeld => ?_)
 ·(try dsimp only)
  exact aa HA
 refine aC 7 (by kernel_rfl) ?_
 refine tkA 0 26 1 ?_
 refine tkA 1 27 3 ?_
 refine tkA 2 28 7 ?_
 refine tkA 3 29 15 ?_
 refine rdA 4 31 (fun Kk hKk => ?_)
 go_simp
 refine (HL _).mono ?_
 rintro _ w1 ⟨b,rfl,hT,hb⟩
 have HB:=bt HB hb
 have HA:=ab (aw hb (ag (aa HA)) (aa HA))
 have HT:=ab hT
 clear hb hT
 (try go_wp2_with fail)
 refine oA hKk (aa HA) fun hHeld => ?_
 clear hKk Kk
 refine tkA 5 2 63 ?_
 refine tkA 6 3 127 ?_
 refine wpAnyH_done (by kernel_rfl) ?_ _
 clear hHeld
 go_wp2_with fail
 go_ret2
 exact ⟨_,rfl,aa HT,aa HB⟩
theorem apb : Grp 6 ⟨#[102,51,50,46]⟩ u6:=by
 refine ab (fun W => ?_)
 have HB:=ab (ae W (.cells bP.toArray 9)).drew
 have HA:=ab (aw ((Below.refl (W.alloc (.cells bP.toArray 9)).heap.size (W.alloc (.cells bP.toArray 9))).drew) (ag (aJ W bP 9 6 _ rfl)) (aJ W bP 9 6 _ rfl))
 have HL:=aa xT
 go_enter Tryz.func63,Tryz.ntmps63
 go_wp2_with fail
 refine wp_region_held_drew (S:=fun w' => w'.cell? ⟨W.heap.size,6,none⟩ = some (.string ⟨#[102,51,50,46]⟩)) (by kernel_rfl) ?_ (fun hHeld => ?_)
 ·(try dsimp only)
  exact aa HA
 refine aC 7 (by kernel_rfl) ?_
 refine tkA 0 34 1 ?_
 refine tkA 1 35 3 ?_
 refine tkA 2 36 7 ?_
 refine tkA 3 37 15 ?_
 refine rdA 4 31 (fun Kk hKk => ?_)
 go_simp
 refine (HL _).mono ?_
 rintro _ w1 ⟨b,rfl,hT,hb⟩
 have HB:=bt HB hb
 have HA:=ab (aw hb (ag (aa HA)) (aa HA))
 have HT:=ab hT
 clear hb hT
 (try go_wp2_with fail)
 refine oA hKk (aa HA) fun hHeld => ?_
 clear hKk Kk
 refine tkA 5 2 63 ?_
 refine tkA 6 3 127 ?_
 refine wpAnyH_done (by kernel_rfl) ?_ _
 clear hHeld
 go_wp2_with fail
 go_ret2
 exact ⟨_,rfl,aa HT,aa HB⟩
theorem apc : Grp 7 ⟨#[102,54,52,46]⟩ u6:=by
 refine ab (fun W => ?_)
 have HB:=ab (ae W (.cells bP.toArray 9)).drew
 have HA:=ab (aw ((Below.refl (W.alloc (.cells bP.toArray 9)).heap.size (W.alloc (.cells bP.toArray 9))).drew) (ag (aJ W bP 9 7 _ rfl)) (aJ W bP 9 7 _ rfl))
 have HL:=aa xT
 go_enter Tryz.func63,Tryz.ntmps63
 go_wp2_with fail
 refine wp_region_held_drew (S:=fun w' => w'.cell? ⟨W.heap.size,7,none⟩ = some (.string ⟨#[102,54,52,46]⟩)) (by kernel_rfl) ?_ (fun hHeld => ?_)
 ·(try dsimp only)
  exact aa HA
 refine aC 7 (by kernel_rfl) ?_
 refine tkA 0 34 1 ?_
 refine tkA 1 35 3 ?_
 refine tkA 2 36 7 ?_
 refine tkA 3 37 15 ?_
 refine rdA 4 31 (fun Kk hKk => ?_)
 go_simp
 refine (HL _).mono ?_
 rintro _ w1 ⟨b,rfl,hT,hb⟩
 have HB:=bt HB hb
 have HA:=ab (aw hb (ag (aa HA)) (aa HA))
 have HT:=ab hT
 clear hb hT
 (try go_wp2_with fail)
 refine oA hKk (aa HA) fun hHeld => ?_
 clear hKk Kk
 refine tkA 5 2 63 ?_
 refine tkA 6 3 127 ?_
 refine wpAnyH_done (by kernel_rfl) ?_ _
 clear hHeld
 go_wp2_with fail
 go_ret2
 exact ⟨_,rfl,aa HT,aa HB⟩
theorem apd : Grp 8 ⟨#[]⟩ adm:=by
 refine ab (fun W => ?_)
 have HB:=ab (ae W (.cells bP.toArray 9)).drew
 have HA:=ab (aw ((Below.refl (W.alloc (.cells bP.toArray 9)).heap.size (W.alloc (.cells bP.toArray 9))).drew) (ag (aJ W bP 9 8 _ rfl)) (aJ W bP 9 8 _ rfl))
 have HL:=aa aki
 go_enter Tryz.func63,Tryz.ntmps63
 go_wp2_with fail
 refine wp_region_held_drew (S:=fun w' => w'.cell? ⟨W.heap.size,8,none⟩ = some (.string ⟨#[]⟩)) (by kernel_rfl) ?_ (fun hHeld => ?_)
 ·(try dsimp only)
  exact aa HA
 refine aC 7 (by kernel_rfl) ?_
 refine tkA 0 39 1 ?_
 refine tkA 1 40 3 ?_
 refine tkA 2 41 7 ?_
 refine tkA 3 42 15 ?_
 refine rdA 4 31 (fun Kk hKk => ?_)
 go_simp
 refine (HL _).mono ?_
 rintro _ w1 ⟨b,rfl,hT,hb⟩
 have HB:=bt HB hb
 have HA:=ab (aw hb (ag (aa HA)) (aa HA))
 have HT:=ab hT
 clear hb hT
 (try go_wp2_with fail)
 refine oA hKk (aa HA) fun hHeld => ?_
 clear hKk Kk
 refine tkA 5 2 63 ?_
 refine tkA 6 3 127 ?_
 refine wpAnyH_done (by kernel_rfl) ?_ _
 clear hHeld
 go_wp2_with fail
 go_ret2
 exact ⟨_,rfl,aa HT,aa HB⟩
end Go.Proofs.YtpbgpdmffejdgaaGreatDoor
