/- MInC. -/
import Derived.Test.YtpbgpdmffejdgaaGreatDoorG01
namespace Go.Proofs.YtpbgpdmffejdgaaGreatDoor
set_option maxHeartbeats 4000000
set_option maxRecDepth 100000
open Go.RowKit
def At3 (b : Nat) (x y z : Value) (w : World) : Prop:=w.cell? ⟨b,0,none⟩ = some x ∧ w.cell? ⟨b,1,none⟩ = some y ∧ w.cell? ⟨b,2,none⟩ = some z
theorem At3.below {b : Nat} {x y z : Value} {w w' : World} (h : At3 b x y z w) (hb : Below w.heap.size w w') : At3 b x y z w':=
 have hz:=ag h.1
 ⟨aw hb hz h.1,aw hb hz h.2.1,aw hb hz h.2.2⟩
theorem iH (w : World) (x y z : Value) (t : TypeId) : At3 w.heap.size x y z (w.alloc (.cells #[x,y,z] t)):=by unfold At3; simp [go_sem]
theorem yM {w a b v : Int} (HR : Ct 212 #[.int .i64 w,.int .u64 a,.int .u64 b,.func (.func 225) #[] #[],.func (.func 226) #[] #[]] (.int .u64 v)) : Ct 146 #[.int .i64 w,.int .u64 a,.int .u64 b] (.int .u64 v):=by
 refine ab (fun W => ?_)
 have HB:=rf W
 go_enter Tryz.func146,Tryz.ntmps146
 go_wp2_with fail
 refine cg0 HR HB fun w1 HB => ?_
 go_wp2_with fail
 go_ret
 exact ⟨rfl,aa HB⟩
theorem yN {w a b v : Int} (HR : Ct 212 #[.int .i64 w,.int .u64 a,.int .u64 b,.func (.func 227) #[] #[],.func (.func 228) #[] #[]] (.int .u64 v)) : Ct 147 #[.int .i64 w,.int .u64 a,.int .u64 b] (.int .u64 v):=by
 refine ab (fun W => ?_)
 have HB:=rf W
 go_enter Tryz.func147,Tryz.ntmps147
 go_wp2_with fail
 refine cg0 HR HB fun w1 HB => ?_
 go_wp2_with fail
 go_ret
 exact ⟨rfl,aa HB⟩
theorem yO {w a b v : Int} (HR : Ct 212 #[.int .i64 w,.int .u64 a,.int .u64 b,.func (.func 229) #[] #[],.func (.func 230) #[] #[]] (.int .u64 v)) : Ct 148 #[.int .i64 w,.int .u64 a,.int .u64 b] (.int .u64 v):=by
 refine ab (fun W => ?_)
 have HB:=rf W
 go_enter Tryz.func148,Tryz.ntmps148
 go_wp2_with fail
 refine cg0 HR HB fun w1 HB => ?_
 go_wp2_with fail
 go_ret
 exact ⟨rfl,aa HB⟩
theorem yP {w a b : Int} {v : Bool} (HR : Ct 126 #[.int .i64 w,.int .u64 a,.int .u64 b,.func (.func 127) #[] #[],.func (.func 128) #[] #[]] (.bool v)) : Ct 65 #[.int .i64 w,.int .u64 a,.int .u64 b] (.bool v):=by
 refine ab (fun W => ?_)
 have HB:=rf W
 go_enter Tryz.func65,Tryz.ntmps65
 go_wp2_with fail
 refine cg0 HR HB fun w1 HB => ?_
 go_wp2_with fail
 go_ret
 exact ⟨rfl,aa HB⟩
theorem yQ {w a b n v : Int} (HS : Ct 213 #[.int .i64 w,.int .u64 b] (.int .u64 n)) (HR : Ct 212 #[.int .i64 w,.int .u64 a,.int .u64 n,.func (.func 214) #[] #[],.func (.func 215) #[] #[]] (.int .u64 v)) : Ct 138 #[.int .i64 w,.int .u64 a,.int .u64 b] (.int .u64 v):=by
 refine ab (fun W => ?_)
 have HB:=rf W
 go_enter Tryz.func138,Tryz.ntmps138
 go_wp2_with fail
 refine cg0 HS HB fun w1 HB => ?_
 go_wp2_with fail
 refine cg0 HR HB fun w2 HB => ?_
 go_wp2_with fail
 go_ret
 exact ⟨rfl,aa HB⟩
theorem yR {w a b n v : Int} (HS : Ct 213 #[.int .i64 w,.int .u64 b] (.int .u64 n)) (HR : Ct 212 #[.int .i64 w,.int .u64 a,.int .u64 n,.func (.func 219) #[] #[],.func (.func 220) #[] #[]] (.int .u64 v)) : Ct 140 #[.int .i64 w,.int .u64 a,.int .u64 b] (.int .u64 v):=by
 refine ab (fun W => ?_)
 have HB:=rf W
 go_enter Tryz.func140,Tryz.ntmps140
 go_wp2_with fail
 refine cg0 HS HB fun w1 HB => ?_
 go_wp2_with fail
 refine cg0 HR HB fun w2 HB => ?_
 go_wp2_with fail
 go_ret
 exact ⟨rfl,aa HB⟩
theorem yS {w a b n v z : Int} (HS : Ct 213 #[.int .i64 w,.int .u64 b] (.int .u64 n)) (HR : Ct 216 #[.int .i64 w,.int .u64 a,.int .u64 n,.func (.func 217) #[] #[],.func (.func 218) #[] #[]] (.int .u64 v)) (HC : Ct 17 #[.int .i64 w,.int .u64 v] (.int .u64 z)) : Ct 139 #[.int .i64 w,.int .u64 a,.int .u64 b] (.int .u64 z):=by
 refine ab (fun W => ?_)
 have HB:=rf W
 go_enter Tryz.func139,Tryz.ntmps139
 go_wp2_with fail
 refine cg0 HS HB fun w1 HB => ?_
 go_wp2_with fail
 refine cg0 HR HB fun w2 HB => ?_
 go_wp2_with fail
 refine cg0 HC HB fun w3 HB => ?_
 go_wp2_with fail
 go_ret
 exact ⟨rfl,aa HB⟩
theorem yT {w a b m x y z : Int} (HL : Ct 138 #[.int .i64 w,.int .u64 a,.int .u64 b] (.int .u64 x)) (hm : IntKind.u64.wrap (-b) = m) (HR : Ct 140 #[.int .i64 w,.int .u64 a,.int .u64 m] (.int .u64 y)) (hz : bits .or .u64 x y = z) : Ct 141 #[.int .i64 w,.int .u64 a,.int .u64 b] (.int .u64 z):=by
 refine ab (fun W => ?_)
 have HB:=rf W
 go_enter Tryz.func141,Tryz.ntmps141
 go_wp2_with fail
 refine cg0 HL HB fun w1 HB => ?_
 go_wp2_with fail
 refine cg0 HR HB fun w2 HB => ?_
 go_wp2_with fail
 go_ret
 exact ⟨rfl,aa HB⟩
theorem yU {w a b m z : Int} (hm : IntKind.u64.wrap (-b) = m) (HR : Ct 141 #[.int .i64 w,.int .u64 a,.int .u64 m] (.int .u64 z)) : Ct 142 #[.int .i64 w,.int .u64 a,.int .u64 b] (.int .u64 z):=by
 refine ab (fun W => ?_)
 have HB:=rf W
 go_enter Tryz.func142,Tryz.ntmps142
 go_wp2_with fail
 refine cg0 HR HB fun w1 HB => ?_
 go_wp2_with fail
 go_ret
 exact ⟨rfl,aa HB⟩
theorem ajj {w a c p r : Int} (HC : Ct 17 #[.int .i64 w,.int .u64 a] (.int .u64 c)) (HP : Ct 224 #[.int .u64 c] (.int .i64 p)) (hr : IntKind.u64.wrap p = r) : Ct 145 #[.int .i64 w,.int .u64 a] (.int .u64 r):=by
 refine ab (fun W => ?_)
 have HB:=rf W
 go_enter Tryz.func145,Tryz.ntmps145
 go_wp2_with fail
 refine cg0 HC HB fun w1 HB => ?_
 go_wp2_with fail
 refine cg0 HP HB fun w2 HB => ?_
 go_wp2_with fail
 go_ret
 exact ⟨rfl,aa HB⟩
theorem dT {w a b q r t : Int} (HF : Ct 209 #[.int .i64 w,.int .u64 a,.int .u64 b,.func (.func 210) #[] #[],.func (.func 211) #[] #[]] (.agg #[.int .u64 q,.int .u64 r,.int .i64 t])) : Ct 137 #[.int .i64 w,.int .u64 a,.int .u64 b] (.agg #[.int .u64 q,.int .u64 r,.int .i64 t]):=by
 refine ab (fun W => ?_)
 go_enter Tryz.func137,Tryz.ntmps137
 go_wp2_with fail
 have HB:=ab (ae W (.cells #[.int .u64 0,.int .u64 0,.int .i64 0] 127))
 have HR : Hid (aS W.heap.size 3 (W.alloc (.cells #[.int .u64 0,.int .u64 0,.int .i64 0] 127))):=by
  intro o ho
  match o,ho with
  | 0,_ | 1,_ | 2,_ => simp [go_sem]
 refine cg1 HF fun w1 hb => ?_
 have HB:=bt HB hb
 have HR:=ab ((aa HR).below hb)
 clear hb
 obtain ⟨⟨v0,c0⟩,f0⟩:=(aa HR) 0 (by omega)
 obtain ⟨⟨v1,c1⟩,f1⟩:=(aa HR) 1 (by omega)
 obtain ⟨⟨v2,c2⟩,f2⟩:=(aa HR) 2 (by omega)
 have zy:=ag c0
 go_wp2
 exact bodyPost_ret (v:=.agg #[.int .u64 q,.int .u64 r,.int .i64 t]) (by simp (maxDischargeDepth:=8) [results,Tryz.results137,go_sem,c0,c1,c2]) rfl ⟨rfl,aZ (aZ (aZ (aa HB) _ (Nat.le_refl _) _ _) _ (Nat.le_refl _) _ _) _ (Nat.le_refl _) _ _⟩
theorem bL {w a b q r t : Int} (HF : Ct 206 #[.int .i64 w,.int .u64 a,.int .u64 b,.func (.func 207) #[] #[],.func (.func 208) #[] #[]] (.agg #[.int .u64 q,.int .u64 r,.int .i64 t])) : Ct 136 #[.int .i64 w,.int .u64 a,.int .u64 b] (.agg #[.int .u64 q,.int .u64 r,.int .i64 t]):=by
 refine ab (fun W => ?_)
 go_enter Tryz.func136,Tryz.ntmps136
 go_wp2_with fail
 have HB:=ab (ae W (.cells #[.int .u64 0,.int .u64 0,.int .i64 0] 127))
 have HR : Hid (aS W.heap.size 3 (W.alloc (.cells #[.int .u64 0,.int .u64 0,.int .i64 0] 127))):=by
  intro o ho
  match o,ho with
  | 0,_ | 1,_ | 2,_ => simp [go_sem]
 refine cg1 HF fun w1 hb => ?_
 have HB:=bt HB hb
 have HR:=ab ((aa HR).below hb)
 clear hb
 obtain ⟨⟨v0,c0⟩,f0⟩:=(aa HR) 0 (by omega)
 obtain ⟨⟨v1,c1⟩,f1⟩:=(aa HR) 1 (by omega)
 obtain ⟨⟨v2,c2⟩,f2⟩:=(aa HR) 2 (by omega)
 have zy:=ag c0
 go_wp2
 exact bodyPost_ret (v:=.agg #[.int .u64 q,.int .u64 r,.int .i64 t]) (by simp (maxDischargeDepth:=8) [results,Tryz.results136,go_sem,c0,c1,c2]) rfl ⟨rfl,aZ (aZ (aZ (aa HB) _ (Nat.le_refl _) _ _) _ (Nat.le_refl _) _ _) _ (Nat.le_refl _) _ _⟩
theorem qX {w a b q r t : Int} (HD : Ct 137 #[.int .i64 w,.int .u64 a,.int .u64 b] (.agg #[.int .u64 q,.int .u64 r,.int .i64 t]))  : Ct 73 #[.int .i64 w,.int .u64 a,.int .u64 b] (.tuple #[.int .u64 q,.int .i64 t]):=by
 refine ab (fun W => ?_)
 go_enter Tryz.func73,Tryz.ntmps73
 go_wp2_with fail
 refine cg1 HD fun w1 hb => ?_
 have HB:=ab (ad hb (.cells #[.int .u64 q,.int .u64 r,.int .i64 t] 127))
 have HA:=ab (iH w1 (.int .u64 q) (.int .u64 r) (.int .i64 t) 127)
 clear hb
 go_wp2_with fail
 have HB:=ab ((aa HB).drew)
 have HA:=ab ((aa HA).below ((Below.refl _ _).drew))
 refine wp_region_held_drew (S:=fun w' => (w'.cell? ⟨w1.heap.size,0,none⟩ = some (.int .u64 q) ∧ w'.cell? ⟨w1.heap.size,1,none⟩ = some (.int .u64 r) ∧ w'.cell? ⟨w1.heap.size,2,none⟩ = some (.int .i64 t))) (by kernel_rfl) ?_ (fun hHeld => ?_)
 ·(try dsimp only)
  exact aa HA
 refine aC 6 (by kernel_rfl) ?_
 refine tkA 0 13 1 ?_
 refine tkA 1 14 3 ?_
 refine tkA 2 15 7 ?_
 refine tkA 3 16 15 ?_
 refine tkA 4 6 31 ?_
 refine tkA 5 7 63 ?_
 refine wpAnyH_done (by kernel_rfl) ?_ _
 clear hHeld
 go_wp2_with fail
 go_ret2
 exact ⟨rfl,aa HB⟩
theorem qY {w a b q r t : Int} (HD : Ct 137 #[.int .i64 w,.int .u64 a,.int .u64 b] (.agg #[.int .u64 q,.int .u64 r,.int .i64 t]))  : Ct 75 #[.int .i64 w,.int .u64 a,.int .u64 b] (.tuple #[.int .u64 r,.int .i64 t]):=by
 refine ab (fun W => ?_)
 go_enter Tryz.func75,Tryz.ntmps75
 go_wp2_with fail
 refine cg1 HD fun w1 hb => ?_
 have HB:=ab (ad hb (.cells #[.int .u64 q,.int .u64 r,.int .i64 t] 127))
 have HA:=ab (iH w1 (.int .u64 q) (.int .u64 r) (.int .i64 t) 127)
 clear hb
 go_wp2_with fail
 have HB:=ab ((aa HB).drew)
 have HA:=ab ((aa HA).below ((Below.refl _ _).drew))
 refine wp_region_held_drew (S:=fun w' => (w'.cell? ⟨w1.heap.size,0,none⟩ = some (.int .u64 q) ∧ w'.cell? ⟨w1.heap.size,1,none⟩ = some (.int .u64 r) ∧ w'.cell? ⟨w1.heap.size,2,none⟩ = some (.int .i64 t))) (by kernel_rfl) ?_ (fun hHeld => ?_)
 ·(try dsimp only)
  exact aa HA
 refine aC 6 (by kernel_rfl) ?_
 refine tkA 0 13 1 ?_
 refine tkA 1 14 3 ?_
 refine tkA 2 15 7 ?_
 refine tkA 3 16 15 ?_
 refine tkA 4 6 31 ?_
 refine tkA 5 7 63 ?_
 refine wpAnyH_done (by kernel_rfl) ?_ _
 clear hHeld
 go_wp2_with fail
 go_ret2
 exact ⟨rfl,aa HB⟩
theorem ns {w a b q r t z : Int} (HD : Ct 136 #[.int .i64 w,.int .u64 a,.int .u64 b] (.agg #[.int .u64 q,.int .u64 r,.int .i64 t])) (HC : Ct 17 #[.int .i64 w,.int .u64 q] (.int .u64 z)) : Ct 72 #[.int .i64 w,.int .u64 a,.int .u64 b] (.tuple #[.int .u64 z,.int .i64 t]):=by
 refine ab (fun W => ?_)
 go_enter Tryz.func72,Tryz.ntmps72
 go_wp2_with fail
 refine cg1 HD fun w1 hb => ?_
 have HB:=ab (ad hb (.cells #[.int .u64 q,.int .u64 r,.int .i64 t] 127))
 have HA:=ab (iH w1 (.int .u64 q) (.int .u64 r) (.int .i64 t) 127)
 clear hb
 go_wp2_with fail
 have HB:=ab ((aa HB).drew)
 have HA:=ab ((aa HA).below ((Below.refl _ _).drew))
 refine wp_region_held_drew (S:=fun w' => (w'.cell? ⟨w1.heap.size,0,none⟩ = some (.int .u64 q) ∧ w'.cell? ⟨w1.heap.size,1,none⟩ = some (.int .u64 r) ∧ w'.cell? ⟨w1.heap.size,2,none⟩ = some (.int .i64 t))) (by kernel_rfl) ?_ (fun hHeld => ?_)
 ·(try dsimp only)
  exact aa HA
 refine aC 8 (by kernel_rfl) ?_
 refine tkA 0 13 1 ?_
 refine tkA 1 14 3 ?_
 refine tkA 2 15 7 ?_
 refine tkA 4 17 23 ?_
 refine tkA 5 18 55 ?_
 refine rdA 3 63 (fun Kk hKk => ?_)
 go_simp
 refine cg1 HC fun w2 hb => ?_
 have HB:=bt HB hb
 have HA:=ab ((aa HA).below hb)
 clear hb
 (try go_wp2_with fail)
 refine oA hKk (aa HA) fun hHeld => ?_
 clear hKk Kk
 refine tkA 6 6 127 ?_
 refine tkA 7 7 255 ?_
 refine wpAnyH_done (by kernel_rfl) ?_ _
 clear hHeld
 go_wp2_with fail
 go_ret2
 exact ⟨rfl,aa HB⟩
theorem qZ {w a b q r t z : Int} (HD : Ct 136 #[.int .i64 w,.int .u64 a,.int .u64 b] (.agg #[.int .u64 q,.int .u64 r,.int .i64 t])) (HC : Ct 17 #[.int .i64 w,.int .u64 r] (.int .u64 z)) (g : (t == 3) = false) : Ct 74 #[.int .i64 w,.int .u64 a,.int .u64 b] (.tuple #[.int .u64 z,.int .i64 t]):=by
 refine ab (fun W => ?_)
 go_enter Tryz.func74,Tryz.ntmps74
 go_wp2_with fail
 refine cg1 HD fun w1 hb => ?_
 have HB:=ab (ad hb (.cells #[.int .u64 q,.int .u64 r,.int .i64 t] 127))
 have HA:=ab (iH w1 (.int .u64 q) (.int .u64 r) (.int .i64 t) 127)
 clear hb
 obtain ⟨c0,c1,c2⟩:=aa HA
 go_wp2_with fail
 clear c0 c1 c2
 have HB:=ab ((aa HB).drew)
 have HA:=ab ((aa HA).below ((Below.refl _ _).drew))
 refine wp_region_held_drew (S:=fun w' => (w'.cell? ⟨w1.heap.size,0,none⟩ = some (.int .u64 q) ∧ w'.cell? ⟨w1.heap.size,1,none⟩ = some (.int .u64 r) ∧ w'.cell? ⟨w1.heap.size,2,none⟩ = some (.int .i64 t))) (by kernel_rfl) ?_ (fun hHeld => ?_)
 ·(try dsimp only)
  exact aa HA
 refine aC 8 (by kernel_rfl) ?_
 refine tkA 0 16 1 ?_
 refine tkA 1 17 3 ?_
 refine tkA 2 18 7 ?_
 refine tkA 4 20 23 ?_
 refine tkA 5 21 55 ?_
 refine rdA 3 63 (fun Kk hKk => ?_)
 go_simp
 refine cg1 HC fun w2 hb => ?_
 have HB:=bt HB hb
 have HA:=ab ((aa HA).below hb)
 clear hb
 (try go_wp2_with fail)
 refine oA hKk (aa HA) fun hHeld => ?_
 clear hKk Kk
 refine tkA 6 6 127 ?_
 refine tkA 7 7 255 ?_
 refine wpAnyH_done (by kernel_rfl) ?_ _
 clear hHeld
 go_wp2_with fail
 go_ret2
 exact ⟨rfl,aa HB⟩
theorem ak6 {w a b q r : Int} (HD : Ct 136 #[.int .i64 w,.int .u64 a,.int .u64 b] (.agg #[.int .u64 q,.int .u64 r,.int .i64 3]))  : Ct 74 #[.int .i64 w,.int .u64 a,.int .u64 b] (.tuple #[.int .u64 0,.int .i64 0]):=by
 refine ab (fun W => ?_)
 go_enter Tryz.func74,Tryz.ntmps74
 go_wp2_with fail
 refine cg1 HD fun w1 hb => ?_
 have HB:=ab (ad hb (.cells #[.int .u64 q,.int .u64 r,.int .i64 3] 127))
 have HA:=ab (iH w1 (.int .u64 q) (.int .u64 r) (.int .i64 3) 127)
 clear hb
 obtain ⟨c0,c1,c2⟩:=aa HA
 go_wp2_with fail
 go_ret2
 exact ⟨rfl,aa HB⟩
theorem yV {w a b : Int} {v : Bool} (HR : Ct 123 #[.int .i64 w,.int .u64 a,.int .u64 b,.func (.func 124) #[] #[],.func (.func 125) #[] #[]] (.bool v)) : Ct 64 #[.int .i64 w,.int .u64 a,.int .u64 b] (.bool v):=by
 refine ab (fun W => ?_)
 have HB:=rf W
 go_enter Tryz.func64,Tryz.ntmps64
 go_wp2_with fail
 refine cg0 HR HB fun w1 HB => ?_
 go_wp2_with fail
 go_ret
 exact ⟨rfl,aa HB⟩
end Go.Proofs.YtpbgpdmffejdgaaGreatDoor
