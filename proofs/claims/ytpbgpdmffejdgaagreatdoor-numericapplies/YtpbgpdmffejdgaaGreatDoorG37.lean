/- MRbN, MNearW. -/
import Derived.Test.YtpbgpdmffejdgaaGreatDoorG24
import Derived.Test.YtpbgpdmffejdgaaGreatDoorG27
import Derived.Test.YtpbgpdmffejdgaaGreatDoorG33
import Derived.LoopN
namespace Go.Proofs.YtpbgpdmffejdgaaGreatDoor
set_option maxHeartbeats 4000000
set_option maxRecDepth 100000
open Go.RowKit
def ao4 : List ByteArray:=[⟨#[105,51,50,46]⟩,⟨#[105,54,52,46]⟩,⟨#[102,51,50,46]⟩,⟨#[102,54,52,46]⟩,⟨#[105,51,50,46]⟩,⟨#[105,54,52,46]⟩,⟨#[102,51,50,46]⟩,⟨#[102,54,52,46]⟩,⟨#[]⟩]
def lsN : List (List ByteArray):=[uX,uX,uY,uY,uZ,uZ,u6,u6,adm]
def nh (g : Nat) : List ByteArray:=((ao4.zip lsN).drop g).flatMap fun t => t.2.map (t.1 ++ ·)
theorem adk (g : Nat) (hg : g < 9) : ∃ p L,Grp (g : Int) p L ∧ nh g = L.map (p ++ ·) ++ nh (g + 1) ∧ p.size ≤ 4 ∧ (∀ x ∈ L,x.size ≤ 30) ∧ L.length ≤ 30:=by
 have h : g = 0 ∨ g = 1 ∨ g = 2 ∨ g = 3 ∨ g = 4 ∨ g = 5 ∨ g = 6 ∨ g = 7 ∨ g = 8:=by omega
 rcases h with rfl | rfl | rfl | rfl | rfl | rfl | rfl | rfl | rfl
 ·exact ⟨_,_,ao5,rfl,by decide,by decide,by decide⟩
 ·exact ⟨_,_,ao6,rfl,by decide,by decide,by decide⟩
 ·exact ⟨_,_,ao7,rfl,by decide,by decide,by decide⟩
 ·exact ⟨_,_,ao8,rfl,by decide,by decide,by decide⟩
 ·exact ⟨_,_,ao9,rfl,by decide,by decide,by decide⟩
 ·exact ⟨_,_,apa,rfl,by decide,by decide,by decide⟩
 ·exact ⟨_,_,apb,rfl,by decide,by decide,by decide⟩
 ·exact ⟨_,_,apc,rfl,by decide,by decide,by decide⟩
 ·exact ⟨_,_,apd,rfl,by decide,by decide,by decide⟩
theorem kT {op : Int} {k : Nat} {x : ByteArray} (h1 : op = 69 + k) (h2 : k < 123) (hx : (nh 0)[k]? = some x) : Ct 27 #[.int .i64 op] (.string x):=by
 refine ab (fun W => ?_)
 have HX:=ab hx
 clear hx
 have g1 : ¬ 64512 ≤ op:=by omega
 have g2 : ¬ op < 69:=by omega
 have g3 : ¬ 191 < op:=by omega
 have e : IntKind.i64.wrap (op - 69) = (k : Int):=by rw [aj (by omega) (by omega)]; omega
 clear h1
 go_enter Tryz.func27,Tryz.ntmps27
 go_wp2_with fail
 clear e
 go_loopw [3,4] (fun v3 v4 wr => ∃ g i : Nat,g ≤ 9 ∧ i ≤ 123 ∧ v4 = .int .i64 (g : Int) ∧ v3 = .int .i64 (i : Int) ∧ (nh g)[i]? = some x ∧ Below W.heap.size W wr) (fun _ v4 _ => 9 - (intOf v4).toNat)
 case atStart => exact ⟨0,k,by omega,by omega,rfl,rfl,aa HX,Below.refl _ _⟩
 case round =>
  obtain ⟨g,i,hg,hi,rfl,rfl,hX,hB⟩:=hrel
  have HB:=ab hB
  have hg9 : g < 9:=by
   refine Decidable.byContradiction fun hn => ?_
   have : g = 9:=by omega
   subst this
   have e9 : nh 9 = []:=rfl
   rw [e9] at hX
   simp at hX
  obtain ⟨p,L,HG,hr,hp,hs,hl⟩:=adk g hg9
  have HR:=ab hX
  rw [hr] at HR
  have HS:=ab hs
  clear hB hX hr hs
  go_wp2_with fail
  refine (aa HG _).mono ?_
  rintro _ w1 ⟨b,rfl,hT,hb⟩
  have HB:=bt HB hb
  by_cases hlt : i < L.length
  ·obtain ⟨y,hy⟩ : ∃ y,L[i]? = some y:=⟨_,List.getElem?_eq_getElem hlt⟩
   have hcell:=hT i (.string y) (by rw [List.getElem?_map,hy]; rfl)
   have hxy : x = p ++ y:=by
    have:=aa HR
    rw [List.getElem?_append_left (by simpa using hlt),List.getElem?_map,hy] at this
    exact (Option.some.inj this).symm
   subst hxy
   have hys:=aa HS y (List.mem_of_getElem? hy)
   have hz : ¬ 9223372036854775807 < p.size + y.size:=by omega
   clear hb hT HR HS HX hy
   go_wp2_with fail
   go_ret
   exact ⟨by first | rfl | simp,aa HB⟩
  ·have hn : (nh (g + 1))[i - L.length]? = some x:=by
    have:=aa HR
    rw [List.getElem?_append_right (by simpa using hlt)] at this
    simpa using this
   have HN:=ab hn
   clear hb hT HR HS HX hn
   go_wp2_with fail
   refine ⟨⟨g + 1,i - L.length,by omega,by omega,by go_num,by go_num,aa HN,aa HB⟩,by simp [intOf]; omega⟩
theorem akh {op : Int} {i : Nat} {x : ByteArray} (g1 : 64512 ≤ op) (g2 : op < 64520) (e : IntKind.i64.wrap (op - 64512) = (i : Int)) (hi : i < 8) (hx : xU[i]? = some x) : Ct 27 #[.int .i64 op] (.string x):=by
 refine ab (fun W => ?_)
 have HB:=rf W
 go_enter Tryz.func27,Tryz.ntmps27
 go_wp2_with fail
 refine (aa akj _).mono ?_
 rintro _ w1 ⟨b,rfl,hT,hb⟩
 have HB:=bt HB hb
 have hcell:=hT i (.string x) (by rw [List.getElem?_map,hx]; rfl)
 clear hb hT
 have hl : xU.length = 8:=rfl
 rw [hl]
 clear hl
 go_wp2_with fail
 go_ret
 exact ⟨rfl,aa HB⟩
theorem adl {op : Int} (h : op < 69 ∨ (192 ≤ op ∧ op < 64512) ∨ 64520 ≤ op) : Ct 27 #[.int .i64 op] (.string ⟨#[]⟩):=by
 refine ab (fun W => ?_)
 rcases h with h | ⟨h,h'⟩ | h
 ·have g1 : ¬ 64512 ≤ op:=by omega
  go_enter Tryz.func27,Tryz.ntmps27
  go_wp2_with fail
  go_ret
  exact ⟨rfl,Below.refl _ _⟩
 ·have g1 : ¬ 64512 ≤ op:=by omega
  have g2 : ¬ op < 69:=by omega
  have g3 : 191 < op:=by omega
  go_enter Tryz.func27,Tryz.ntmps27
  go_wp2_with fail
  go_ret
  exact ⟨rfl,Below.refl _ _⟩
 ·have g1 : 64512 ≤ op:=by omega
  have g2 : ¬ op < 64520:=by omega
  have g3 : ¬ op < 69:=by omega
  have g4 : 191 < op:=by omega
  go_enter Tryz.func27,Tryz.ntmps27
  go_wp2_with fail
  go_ret
  exact ⟨rfl,Below.refl _ _⟩
set_option maxHeartbeats 16000000
open Go.Proofs.YtpbgpdmffejdgaaGreatDoor.W
theorem aa3 (a : Option Addr) (n c x : Nat) (w : World) (hx : ai w (.slice a n c) x) (bx : x < pw 300) :
 Calls Tryz.prog 259 #[.agg #[.slice a n c],.int .i64 1] w fun e w' => ∃ s1,e = .returned (.tuple #[.agg #[s1],.bool (decide (x % 2 ^ 1 ≠ 0))]) ∧ ai w' s1 (x / 2 ^ 1) ∧ Below w.heap.size w w':=zQ a n c x 1 w hx bx (by omega)
theorem aml {w f L Tp P k LA LB TF q q2 S V LG : Int} {n u : Bool} (a b : Option Addr) (na ca nb cb x y G G2 : Nat) (w0 : World) (hx : ai w0 (.slice a na ca) x) (hy : ai w0 (.slice b nb cb) y)
 (HF : Ct 182 #[.int .i64 w] (.int .i64 f)) (HL : Ct 256 #[.int .i64 w] (.int .i64 L)) (HT : Ct 180 #[.int .i64 w] (.int .i64 Tp)) (H2 : Ct 183 #[.int .i64 f] (.int .u64 P))
 (hla : (Go.bitLen x : Int) = LA) (hlb : (Go.bitLen y : Int) = LB) (hlg : (Go.bitLen G : Int) = LG)
 (r1 : 0 ≤ LA ∧ LA ≤ 20000) (r2 : 0 ≤ LB ∧ LB ≤ 20000) (r3 : -20000 ≤ k ∧ k ≤ 20000) (r4 : 0 ≤ f ∧ f ≤ 63) (r5 : -20000 ≤ L ∧ L ≤ 20000) (r6 : -20000 ≤ Tp ∧ Tp ≤ 20000) (rq : -200001 ≤ q ∧ q ≤ 200000) (rq2 : -200001 ≤ q2 ∧ q2 ≤ 200001)
 (htf : LA - LB + k - f = TF) (hq : TF < L ∧ L = q ∨ TF = L ∧ L = q ∨ L < TF ∧ u = false ∧ TF = q ∨ L < TF ∧ u = true ∧ IntKind.i64.wrap (TF - 1) = q)
 (HU : L < TF → ∀ z,z = k - TF - f → Hid (∀ W,ai W (.slice a na ca) x → ai W (.slice b nb cb) y → Calls Tryz.prog 257 #[.agg #[.slice a na ca],.agg #[.slice b nb cb],.int .i64 z] W fun r W' => r = .returned (.bool u) ∧ Below W.heap.size W W'))
 (HG : ∀ z,z = k - q → Hid (∀ W,ai W (.slice a na ca) x → ai W (.slice b nb cb) y → Calls Tryz.prog 258 #[.agg #[.slice a na ca],.agg #[.slice b nb cb],.int .i64 z] W fun r W' => ∃ s',r = .returned (.agg #[s']) ∧ ai W' s' G ∧ Below W.heap.size W W'))
 (HQ : ¬ f + 1 < LG ∧ q = q2 ∧ G = G2 ∨ f + 1 < LG ∧ Hid (G < pw 300) ∧ IntKind.i64.wrap (q + 1) = q2 ∧ G / 2 ^ 1 = G2)
 (HC : decide (L + Tp - 2 < q2) = true ∧ Ct 176 #[.int .i64 w,.bool n] (.int .u64 V) ∨ decide (L + Tp - 2 < q2) = false ∧ Hid (lo G2 = S) ∧ (decide (S < P) = true ∧ Ct 174 #[.int .i64 w,.bool n,.int .i64 0,.int .u64 S] (.int .u64 V) ∨
  decide (S < P) = false ∧ IntKind.u64.wrap (S - P) = S - P ∧ ∀ z,z = q2 - L + 1 → Ct 174 #[.int .i64 w,.bool n,.int .i64 z,.int .u64 (S - P)] (.int .u64 V))) :
 Calls Tryz.prog 202 #[.int .i64 w,.bool n,.agg #[.slice a na ca],.agg #[.slice b nb cb],.int .i64 k] w0 fun r W' => r = .returned (.int .u64 V) ∧ Below w0.heap.size w0 W':=by
 have k1 : IntKind.i64.wrap (LA - LB) = LA - LB:=aj (by omega) (by omega)
 have k2 : IntKind.i64.wrap (LA - LB + k) = LA - LB + k:=aj (by omega) (by omega)
 have k3 : IntKind.i64.wrap (LA - LB + k - f) = TF:=by rw [← htf]; exact aj (by omega) (by omega)
 have k4 : IntKind.i64.wrap (k - TF) = k - TF:=aj (by omega) (by omega)
 have k5 : IntKind.i64.wrap (k - TF - f) = k - TF - f:=aj (by omega) (by omega)
 have k7 : IntKind.i64.wrap (k - q) = k - q:=aj (by omega) (by omega)
 have k8 : IntKind.i64.wrap (f + 1) = f + 1:=aj (by omega) (by omega)
 have k10 : IntKind.i64.wrap (L + Tp) = L + Tp:=aj (by omega) (by omega)
 have k11 : IntKind.i64.wrap (L + Tp - 2) = L + Tp - 2:=aj (by omega) (by omega)
 have k12 : IntKind.i64.wrap (q2 - L) = q2 - L:=aj (by omega) (by omega)
 have k13 : IntKind.i64.wrap (q2 - L + 1) = q2 - L + 1:=aj (by omega) (by omega)
 have z0 : IntKind.i64.wrap 0 = 0:=by decide
 have z1 : IntKind.i64.wrap 1 = 1:=by decide
 have HLA:=ab hla; have HLB:=ab hlb; have HLG:=ab hlg
 clear hla hlb hlg r1 r2 r3 r4 r5 r6 rq rq2 htf
 have HX:=ab hx; have HY:=ab hy
 clear hx hy
 go_enter Tryz.func202,Tryz.ntmps202
 go_wp2_with fail
 have HK : Hid (j3 w0.heap.size w0 (.slice a na ca) (.slice b nb cb) x y ((w0.alloc (.cells #[.slice a na ca] 41)).alloc (.cells #[.slice b nb cb] 41))):=
  { ca:=by simp [go_sem],cb:=by simp [go_sem],na:=(aa HX).below (aq _ _ _),nb:=(aa HY).below (aq _ _ _),bel:=aq _ _ _ }
 clear HX HY
 refine cg1 HF fun w1 hbl => ?_
 have HK:=ab ((aa HK).below hbl)
 clear hbl
 go_wp2_with fail
 have HK:=ab ((aa HK).below ((Below.refl _ _).drew))
 refine wp_region_held_drew (S:=fun w' => w'.cell? ⟨w0.heap.size,0,none⟩ = some (.slice a na ca) ∧ w'.cell? ⟨w0.heap.size + 1,0,none⟩ = some (.slice b nb cb)) (by kernel_rfl) ?_ (fun hHeld => ?_)
 ·(try dsimp only)
  exact ⟨(aa HK).ca,(aa HK).cb⟩
 refine aC 8 (by kernel_rfl) ?_
 refine tkA 0 18 1 ?_
 refine tkA 2 20 5 ?_
 refine tkA 5 23 37 ?_
 refine rdA 1 39 (fun Kk hKk => ?_)
 go_simp
 refine (eZ _ _ _ _ _ (aa HK).na).mono ?_
 rw [aa HLA]
 rintro _ w2 ⟨rfl,hbl⟩
 have HK:=ab ((aa HK).below hbl)
 clear hbl
 (try go_wp2_with fail)
 refine oA hKk (⟨(aa HK).ca,(aa HK).cb⟩) fun hHeld => ?_
 clear hKk Kk
 refine rdA 3 47 (fun Kk hKk => ?_)
 go_simp
 refine (eZ _ _ _ _ _ (aa HK).nb).mono ?_
 rw [aa HLB]
 rintro _ w3 ⟨rfl,hbl⟩
 have HK:=ab ((aa HK).below hbl)
 clear hbl
 (try go_wp2_with fail)
 refine oA hKk (⟨(aa HK).ca,(aa HK).cb⟩) fun hHeld => ?_
 clear hKk Kk
 refine tkA 4 22 63 ?_
 refine tkA 6 24 127 ?_
 refine tkA 7 12 255 ?_
 refine wpAnyH_done (by kernel_rfl) ?_ _
 clear hHeld
 go_wp2_with fail
 refine cg1 HL fun w4 hbl => ?_
 have HK:=ab ((aa HK).below hbl)
 clear hbl
 rcases hq with ⟨xm,rfl⟩ | ⟨rfl,rfl⟩ | ⟨xm,rfl,rfl⟩ | ⟨xm,rfl,k6⟩
 all_goals
  try
   have xd:=dt xm
   have xn:=Int.not_lt.2 (Int.le_of_lt xm)
  go_wp2_with fail
  refine cg1 HL fun w5 hbl => ?_
  have HK:=ab ((aa HK).below hbl)
  clear hbl
  have ca':=(aa HK).ca; have cb':=(aa HK).cb
  go_wp2_with fail
  clear ca' cb'
  (try
   go_at_call 257
   refine (aa (HU xm _ (by omega)) _ (aa HK).na (aa HK).nb).mono ?_
   rintro _ w6 ⟨rfl,hbl⟩
   have HK:=ab ((aa HK).below hbl)
   clear hbl)
  have ca':=(aa HK).ca; have cb':=(aa HK).cb
  go_wp2_with fail
  clear ca' cb'
  refine (aa (HG _ (by omega)) _ (aa HK).na (aa HK).nb).mono ?_
  rintro _ w7 ⟨s7,rfl,hN7,hbl⟩
  obtain ⟨a7,n7,c7,rfl⟩:=hN7.slice
  have HK:=ab ((aa HK).below hbl)
  clear hbl
  have HN : Hid ((w7.alloc (.cells #[.slice a7 n7 c7] 41)).cell? ⟨w7.heap.size,0,none⟩ = some (.slice a7 n7 c7) ∧ (w7.alloc (.cells #[.slice a7 n7 c7] 41)).frozen? ⟨w7.heap.size,0,none⟩ = false ∧ ai (w7.alloc (.cells #[.slice a7 n7 c7] 41)) (.slice a7 n7 c7) G):=⟨by simp [go_sem],by simp [go_sem],hN7.below (ae _ _)⟩
  have HB:=ab (ad (aa HK).bel (.cells #[.slice a7 n7 c7] 41))
  have hz7 : w0.heap.size ≤ w7.heap.size:=(aa HK).bel.size
  clear hN7 HK
  go_wp2_with fail
  refine (eZ _ _ _ _ _ (aa HN).2.2).mono ?_
  rw [aa HLG]
  rintro _ w8 ⟨rfl,hbl⟩
  have HN:=ab (And.intro (aw hbl (ag (aa HN).1) (aa HN).1) (And.intro ((hbl.frozen (ag (aa HN).1)).trans (aa HN).2.1) ((aa HN).2.2.below hbl)))
  have HB:=bt HB hbl
  clear hbl
  rcases HQ with ⟨d,rfl,rfl⟩ | ⟨d,HG3,kq,rfl⟩
  all_goals
   have cn:=(aa HN).1
   go_wp2_with fail
   clear cn
   (try
    go_at_call 259
    refine (aa3 _ _ _ _ _ (aa HN).2.2 (aa HG3)).mono ?_
    rintro _ w9 ⟨s9,rfl,hN9,hbl⟩
    obtain ⟨a9,n9,c9,rfl⟩:=hN9.slice
    have HN:=ab (And.intro (aw hbl (ag (aa HN).1) (aa HN).1) (And.intro ((hbl.frozen (ag (aa HN).1)).trans (aa HN).2.1) ((aa HN).2.2.below hbl)))
    have HB:=bt HB hbl
    clear hbl
    have cn:=(aa HN).1
    have fn:=(aa HN).2.1
    go_wp2_with fail
    have HN : Hid ((w9.setCell ⟨w7.heap.size,0,none⟩ (.slice a9 n9 c9)).cell? ⟨w7.heap.size,0,none⟩ = some (.slice a9 n9 c9) ∧ (w9.setCell ⟨w7.heap.size,0,none⟩ (.slice a9 n9 c9)).frozen? ⟨w7.heap.size,0,none⟩ = false ∧ ai (w9.setCell ⟨w7.heap.size,0,none⟩ (.slice a9 n9 c9)) (.slice a9 n9 c9) (G / 2 ^ 1)):=⟨World.cell?_setCell_same _ _ _ cn,by rw [aW]; exact fn,hN9.store cn _⟩
    have HB:=ab (aZ (aa HB) w7.heap.size hz7 0 (.slice a9 n9 c9))
    clear cn fn hN9
    generalize w9.setCell ⟨w7.heap.size,0,none⟩ (.slice a9 n9 c9) = w9s at *
    go_wp2_with fail)
   refine cg1 HL fun w10 hbl => ?_
   have HN:=ab (And.intro (aw hbl (ag (aa HN).1) (aa HN).1) (And.intro ((hbl.frozen (ag (aa HN).1)).trans (aa HN).2.1) ((aa HN).2.2.below hbl)))
   have HB:=bt HB hbl
   clear hbl
   go_wp2_with fail
   refine cg1 HT fun w11 hbl => ?_
   have HN:=ab (And.intro (aw hbl (ag (aa HN).1) (aa HN).1) (And.intro ((hbl.frozen (ag (aa HN).1)).trans (aa HN).2.1) ((aa HN).2.2.below hbl)))
   have HB:=bt HB hbl
   clear hbl
   rcases HC with ⟨z,HI⟩ | ⟨z,hs,HC⟩
   ·go_wp2_with fail
    refine cg1 HI fun w14 hbl => ?_
    have HB:=bt HB hbl
    clear hbl
    go_wp2_with fail
    go_ret
    exact ⟨rfl,aa HB⟩
   ·have cn:=(aa HN).1
    go_wp2_with fail
    clear cn
    refine (ek _ _ _ _ _ (aa HN).2.2).mono ?_
    rw [aa hs]
    rintro _ w12 ⟨rfl,hbl⟩
    have HB:=bt HB hbl
    clear hbl HN
    go_wp2_with fail
    refine cg1 H2 fun w13 hbl => ?_
    have HB:=bt HB hbl
    clear hbl
    rcases HC with ⟨t,HM⟩ | ⟨t,k14,HM⟩
    ·go_wp2_with fail
     refine cg1 HM fun w14 hbl => ?_
     have HB:=bt HB hbl
     clear hbl
     go_wp2_with fail
     go_ret
     exact ⟨rfl,aa HB⟩
    ·go_wp2_with fail
     refine cg1 HL fun w15 hbl => ?_
     have HB:=bt HB hbl
     clear hbl
     go_wp2_with fail
     refine cg1 H2 fun w16 hbl => ?_
     have HB:=bt HB hbl
     clear hbl
     go_wp2_with fail
     refine (aa (HM _ (by omega)) _).mono ?_
     rintro _ w14 ⟨rfl,hbl⟩
     have HB:=bt HB hbl
     clear hbl
     go_wp2_with fail
     go_ret
     exact ⟨rfl,aa HB⟩
end Go.Proofs.YtpbgpdmffejdgaaGreatDoor
