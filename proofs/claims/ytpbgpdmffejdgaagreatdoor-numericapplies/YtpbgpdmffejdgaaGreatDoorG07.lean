/- MInB. -/
import Derived.Test.YtpbgpdmffejdgaaGreatDoorG01
namespace Go.Proofs.YtpbgpdmffejdgaaGreatDoor
set_option maxHeartbeats 4000000
set_option maxRecDepth 100000
open Go.RowKit
theorem aez {a b A B v : Int} (hA : IntKind.u32.wrap a = A) (hB : IntKind.u32.wrap b = B) (HF : Ct 225 #[.int .u32 A,.int .u32 B] (.int .u64 v)) : Ct 212 #[.int .i64 32,.int .u64 a,.int .u64 b,.func (.func 225) #[] #[],.func (.func 226) #[] #[]] (.int .u64 v):=by
 refine ab (fun W => ?_)
 have HB:=rf W
 go_enter Tryz.func212,Tryz.ntmps212
 go_wp2_with fail
 refine cg0 HF HB fun w1 HB => ?_
 go_wp2_with fail
 go_ret
 exact ⟨rfl,aa HB⟩
theorem ae0 {a b v : Int} (HF : Ct 226 #[.int .u64 a,.int .u64 b] (.int .u64 v)) : Ct 212 #[.int .i64 64,.int .u64 a,.int .u64 b,.func (.func 225) #[] #[],.func (.func 226) #[] #[]] (.int .u64 v):=by
 refine ab (fun W => ?_)
 have HB:=rf W
 go_enter Tryz.func212,Tryz.ntmps212
 go_wp2_with fail
 refine cg0 HF HB fun w1 HB => ?_
 go_wp2_with fail
 go_ret
 exact ⟨rfl,aa HB⟩
theorem ae2 {a b A B v : Int} (hA : IntKind.u32.wrap a = A) (hB : IntKind.u32.wrap b = B) (HF : Ct 227 #[.int .u32 A,.int .u32 B] (.int .u64 v)) : Ct 212 #[.int .i64 32,.int .u64 a,.int .u64 b,.func (.func 227) #[] #[],.func (.func 228) #[] #[]] (.int .u64 v):=by
 refine ab (fun W => ?_)
 have HB:=rf W
 go_enter Tryz.func212,Tryz.ntmps212
 go_wp2_with fail
 refine cg0 HF HB fun w1 HB => ?_
 go_wp2_with fail
 go_ret
 exact ⟨rfl,aa HB⟩
theorem ae3 {a b v : Int} (HF : Ct 228 #[.int .u64 a,.int .u64 b] (.int .u64 v)) : Ct 212 #[.int .i64 64,.int .u64 a,.int .u64 b,.func (.func 227) #[] #[],.func (.func 228) #[] #[]] (.int .u64 v):=by
 refine ab (fun W => ?_)
 have HB:=rf W
 go_enter Tryz.func212,Tryz.ntmps212
 go_wp2_with fail
 refine cg0 HF HB fun w1 HB => ?_
 go_wp2_with fail
 go_ret
 exact ⟨rfl,aa HB⟩
theorem ae5 {a b A B v : Int} (hA : IntKind.u32.wrap a = A) (hB : IntKind.u32.wrap b = B) (HF : Ct 229 #[.int .u32 A,.int .u32 B] (.int .u64 v)) : Ct 212 #[.int .i64 32,.int .u64 a,.int .u64 b,.func (.func 229) #[] #[],.func (.func 230) #[] #[]] (.int .u64 v):=by
 refine ab (fun W => ?_)
 have HB:=rf W
 go_enter Tryz.func212,Tryz.ntmps212
 go_wp2_with fail
 refine cg0 HF HB fun w1 HB => ?_
 go_wp2_with fail
 go_ret
 exact ⟨rfl,aa HB⟩
theorem ae6 {a b v : Int} (HF : Ct 230 #[.int .u64 a,.int .u64 b] (.int .u64 v)) : Ct 212 #[.int .i64 64,.int .u64 a,.int .u64 b,.func (.func 229) #[] #[],.func (.func 230) #[] #[]] (.int .u64 v):=by
 refine ab (fun W => ?_)
 have HB:=rf W
 go_enter Tryz.func212,Tryz.ntmps212
 go_wp2_with fail
 refine cg0 HF HB fun w1 HB => ?_
 go_wp2_with fail
 go_ret
 exact ⟨rfl,aa HB⟩
theorem ae8 {a b A B v : Int} (hA : IntKind.u32.wrap a = A) (hB : IntKind.u32.wrap b = B) (HF : Ct 214 #[.int .u32 A,.int .u32 B] (.int .u64 v)) : Ct 212 #[.int .i64 32,.int .u64 a,.int .u64 b,.func (.func 214) #[] #[],.func (.func 215) #[] #[]] (.int .u64 v):=by
 refine ab (fun W => ?_)
 have HB:=rf W
 go_enter Tryz.func212,Tryz.ntmps212
 go_wp2_with fail
 refine cg0 HF HB fun w1 HB => ?_
 go_wp2_with fail
 go_ret
 exact ⟨rfl,aa HB⟩
theorem ae9 {a b v : Int} (HF : Ct 215 #[.int .u64 a,.int .u64 b] (.int .u64 v)) : Ct 212 #[.int .i64 64,.int .u64 a,.int .u64 b,.func (.func 214) #[] #[],.func (.func 215) #[] #[]] (.int .u64 v):=by
 refine ab (fun W => ?_)
 have HB:=rf W
 go_enter Tryz.func212,Tryz.ntmps212
 go_wp2_with fail
 refine cg0 HF HB fun w1 HB => ?_
 go_wp2_with fail
 go_ret
 exact ⟨rfl,aa HB⟩
theorem afb {a b A B v : Int} (hA : IntKind.u32.wrap a = A) (hB : IntKind.u32.wrap b = B) (HF : Ct 219 #[.int .u32 A,.int .u32 B] (.int .u64 v)) : Ct 212 #[.int .i64 32,.int .u64 a,.int .u64 b,.func (.func 219) #[] #[],.func (.func 220) #[] #[]] (.int .u64 v):=by
 refine ab (fun W => ?_)
 have HB:=rf W
 go_enter Tryz.func212,Tryz.ntmps212
 go_wp2_with fail
 refine cg0 HF HB fun w1 HB => ?_
 go_wp2_with fail
 go_ret
 exact ⟨rfl,aa HB⟩
theorem afc {a b v : Int} (HF : Ct 220 #[.int .u64 a,.int .u64 b] (.int .u64 v)) : Ct 212 #[.int .i64 64,.int .u64 a,.int .u64 b,.func (.func 219) #[] #[],.func (.func 220) #[] #[]] (.int .u64 v):=by
 refine ab (fun W => ?_)
 have HB:=rf W
 go_enter Tryz.func212,Tryz.ntmps212
 go_wp2_with fail
 refine cg0 HF HB fun w1 HB => ?_
 go_wp2_with fail
 go_ret
 exact ⟨rfl,aa HB⟩
theorem afe {a b A B v : Int} (hA : IntKind.i32.wrap a = A) (hB : IntKind.i32.wrap b = B) (HF : Ct 217 #[.int .i32 A,.int .i32 B] (.int .u64 v)) : Ct 216 #[.int .i64 32,.int .u64 a,.int .u64 b,.func (.func 217) #[] #[],.func (.func 218) #[] #[]] (.int .u64 v):=by
 refine ab (fun W => ?_)
 have HB:=rf W
 go_enter Tryz.func216,Tryz.ntmps216
 go_wp2_with fail
 refine cg0 HF HB fun w1 HB => ?_
 go_wp2_with fail
 go_ret
 exact ⟨rfl,aa HB⟩
theorem aff {a b A B v : Int} (hA : IntKind.i64.wrap a = A) (hB : IntKind.i64.wrap b = B) (HF : Ct 218 #[.int .i64 A,.int .i64 B] (.int .u64 v)) : Ct 216 #[.int .i64 64,.int .u64 a,.int .u64 b,.func (.func 217) #[] #[],.func (.func 218) #[] #[]] (.int .u64 v):=by
 refine ab (fun W => ?_)
 have HB:=rf W
 go_enter Tryz.func216,Tryz.ntmps216
 go_wp2_with fail
 refine cg0 HF HB fun w1 HB => ?_
 go_wp2_with fail
 go_ret
 exact ⟨rfl,aa HB⟩
theorem afh {a b A B : Int} {v : Bool} (hA : IntKind.u32.wrap a = A) (hB : IntKind.u32.wrap b = B) (HF : Ct 127 #[.int .u32 A,.int .u32 B] (.bool v)) : Ct 126 #[.int .i64 32,.int .u64 a,.int .u64 b,.func (.func 127) #[] #[],.func (.func 128) #[] #[]] (.bool v):=by
 refine ab (fun W => ?_)
 have HB:=rf W
 go_enter Tryz.func126,Tryz.ntmps126
 go_wp2_with fail
 refine cg0 HF HB fun w1 HB => ?_
 go_wp2_with fail
 go_ret
 exact ⟨rfl,aa HB⟩
theorem afi {a b : Int} {v : Bool} (HF : Ct 128 #[.int .u64 a,.int .u64 b] (.bool v)) : Ct 126 #[.int .i64 64,.int .u64 a,.int .u64 b,.func (.func 127) #[] #[],.func (.func 128) #[] #[]] (.bool v):=by
 refine ab (fun W => ?_)
 have HB:=rf W
 go_enter Tryz.func126,Tryz.ntmps126
 go_wp2_with fail
 refine cg0 HF HB fun w1 HB => ?_
 go_wp2_with fail
 go_ret
 exact ⟨rfl,aa HB⟩
theorem oU {a b A B q r t : Int} (hA : IntKind.u32.wrap a = A) (hB : IntKind.u32.wrap b = B) (HF : Ct 210 #[.int .u32 A,.int .u32 B] (.agg #[.int .u64 q,.int .u64 r,.int .i64 t])) : Ct 209 #[.int .i64 32,.int .u64 a,.int .u64 b,.func (.func 210) #[] #[],.func (.func 211) #[] #[]] (.agg #[.int .u64 q,.int .u64 r,.int .i64 t]):=by
 refine ab (fun W => ?_)
 go_enter Tryz.func209,Tryz.ntmps209
 go_wp2_with fail
 have HB:=ab (ae W (.cells #[.int .u64 0,.int .u64 0,.int .i64 0] 127))
 have HR : Hid (aS W.heap.size 3 (W.alloc (.cells #[.int .u64 0,.int .u64 0,.int .i64 0] 127))):=by
  intro o ho
  match o,ho with
  | 0,_ | 1,_ | 2,_ => simp [go_sem]
 refine cg1 HF fun w1 hb => ?_
 have HB:=bt HB hb
 have HR:=ab ((aa HR).below hb)
 clear hb
 obtain ⟨⟨v0,c0⟩,f0⟩:=(aa HR) 0 (by omega)
 obtain ⟨⟨v1,c1⟩,f1⟩:=(aa HR) 1 (by omega)
 obtain ⟨⟨v2,c2⟩,f2⟩:=(aa HR) 2 (by omega)
 have zy:=ag c0
 go_wp2
 exact bodyPost_ret (v:=.agg #[.int .u64 q,.int .u64 r,.int .i64 t]) (by simp (maxDischargeDepth:=8) [results,Tryz.results209,go_sem,c0,c1,c2]) rfl ⟨rfl,aZ (aZ (aZ (aa HB) _ (Nat.le_refl _) _ _) _ (Nat.le_refl _) _ _) _ (Nat.le_refl _) _ _⟩
theorem oV {a b q r t : Int} (HF : Ct 211 #[.int .u64 a,.int .u64 b] (.agg #[.int .u64 q,.int .u64 r,.int .i64 t])) : Ct 209 #[.int .i64 64,.int .u64 a,.int .u64 b,.func (.func 210) #[] #[],.func (.func 211) #[] #[]] (.agg #[.int .u64 q,.int .u64 r,.int .i64 t]):=by
 refine ab (fun W => ?_)
 go_enter Tryz.func209,Tryz.ntmps209
 go_wp2_with fail
 have HB:=ab (ae W (.cells #[.int .u64 0,.int .u64 0,.int .i64 0] 127))
 have HR : Hid (aS W.heap.size 3 (W.alloc (.cells #[.int .u64 0,.int .u64 0,.int .i64 0] 127))):=by
  intro o ho
  match o,ho with
  | 0,_ | 1,_ | 2,_ => simp [go_sem]
 refine cg1 HF fun w1 hb => ?_
 have HB:=bt HB hb
 have HR:=ab ((aa HR).below hb)
 clear hb
 obtain ⟨⟨v0,c0⟩,f0⟩:=(aa HR) 0 (by omega)
 obtain ⟨⟨v1,c1⟩,f1⟩:=(aa HR) 1 (by omega)
 obtain ⟨⟨v2,c2⟩,f2⟩:=(aa HR) 2 (by omega)
 have zy:=ag c0
 go_wp2
 exact bodyPost_ret (v:=.agg #[.int .u64 q,.int .u64 r,.int .i64 t]) (by simp (maxDischargeDepth:=8) [results,Tryz.results209,go_sem,c0,c1,c2]) rfl ⟨rfl,aZ (aZ (aZ (aa HB) _ (Nat.le_refl _) _ _) _ (Nat.le_refl _) _ _) _ (Nat.le_refl _) _ _⟩
theorem gq {a b A B q r t : Int} (hA : IntKind.i32.wrap a = A) (hB : IntKind.i32.wrap b = B) (HF : Ct 207 #[.int .i32 A,.int .i32 B] (.agg #[.int .u64 q,.int .u64 r,.int .i64 t])) : Ct 206 #[.int .i64 32,.int .u64 a,.int .u64 b,.func (.func 207) #[] #[],.func (.func 208) #[] #[]] (.agg #[.int .u64 q,.int .u64 r,.int .i64 t]):=by
 refine ab (fun W => ?_)
 go_enter Tryz.func206,Tryz.ntmps206
 go_wp2_with fail
 have HB:=ab (ae W (.cells #[.int .u64 0,.int .u64 0,.int .i64 0] 127))
 have HR : Hid (aS W.heap.size 3 (W.alloc (.cells #[.int .u64 0,.int .u64 0,.int .i64 0] 127))):=by
  intro o ho
  match o,ho with
  | 0,_ | 1,_ | 2,_ => simp [go_sem]
 refine cg1 HF fun w1 hb => ?_
 have HB:=bt HB hb
 have HR:=ab ((aa HR).below hb)
 clear hb
 obtain ⟨⟨v0,c0⟩,f0⟩:=(aa HR) 0 (by omega)
 obtain ⟨⟨v1,c1⟩,f1⟩:=(aa HR) 1 (by omega)
 obtain ⟨⟨v2,c2⟩,f2⟩:=(aa HR) 2 (by omega)
 have zy:=ag c0
 go_wp2
 exact bodyPost_ret (v:=.agg #[.int .u64 q,.int .u64 r,.int .i64 t]) (by simp (maxDischargeDepth:=8) [results,Tryz.results206,go_sem,c0,c1,c2]) rfl ⟨rfl,aZ (aZ (aZ (aa HB) _ (Nat.le_refl _) _ _) _ (Nat.le_refl _) _ _) _ (Nat.le_refl _) _ _⟩
theorem gr {a b A B q r t : Int} (hA : IntKind.i64.wrap a = A) (hB : IntKind.i64.wrap b = B) (HF : Ct 208 #[.int .i64 A,.int .i64 B] (.agg #[.int .u64 q,.int .u64 r,.int .i64 t])) : Ct 206 #[.int .i64 64,.int .u64 a,.int .u64 b,.func (.func 207) #[] #[],.func (.func 208) #[] #[]] (.agg #[.int .u64 q,.int .u64 r,.int .i64 t]):=by
 refine ab (fun W => ?_)
 go_enter Tryz.func206,Tryz.ntmps206
 go_wp2_with fail
 have HB:=ab (ae W (.cells #[.int .u64 0,.int .u64 0,.int .i64 0] 127))
 have HR : Hid (aS W.heap.size 3 (W.alloc (.cells #[.int .u64 0,.int .u64 0,.int .i64 0] 127))):=by
  intro o ho
  match o,ho with
  | 0,_ | 1,_ | 2,_ => simp [go_sem]
 refine cg1 HF fun w1 hb => ?_
 have HB:=bt HB hb
 have HR:=ab ((aa HR).below hb)
 clear hb
 obtain ⟨⟨v0,c0⟩,f0⟩:=(aa HR) 0 (by omega)
 obtain ⟨⟨v1,c1⟩,f1⟩:=(aa HR) 1 (by omega)
 obtain ⟨⟨v2,c2⟩,f2⟩:=(aa HR) 2 (by omega)
 have zy:=ag c0
 go_wp2
 exact bodyPost_ret (v:=.agg #[.int .u64 q,.int .u64 r,.int .i64 t]) (by simp (maxDischargeDepth:=8) [results,Tryz.results206,go_sem,c0,c1,c2]) rfl ⟨rfl,aZ (aZ (aZ (aa HB) _ (Nat.le_refl _) _ _) _ (Nat.le_refl _) _ _) _ (Nat.le_refl _) _ _⟩
theorem afk {a b A B : Int} {v : Bool} (hA : IntKind.i32.wrap a = A) (hB : IntKind.i32.wrap b = B) (HF : Ct 124 #[.int .i32 A,.int .i32 B] (.bool v)) : Ct 123 #[.int .i64 32,.int .u64 a,.int .u64 b,.func (.func 124) #[] #[],.func (.func 125) #[] #[]] (.bool v):=by
 refine ab (fun W => ?_)
 have HB:=rf W
 go_enter Tryz.func123,Tryz.ntmps123
 go_wp2_with fail
 refine cg0 HF HB fun w1 HB => ?_
 go_wp2_with fail
 go_ret
 exact ⟨rfl,aa HB⟩
theorem afl {a b A B : Int} {v : Bool} (hA : IntKind.i64.wrap a = A) (hB : IntKind.i64.wrap b = B) (HF : Ct 125 #[.int .i64 A,.int .i64 B] (.bool v)) : Ct 123 #[.int .i64 64,.int .u64 a,.int .u64 b,.func (.func 124) #[] #[],.func (.func 125) #[] #[]] (.bool v):=by
 refine ab (fun W => ?_)
 have HB:=rf W
 go_enter Tryz.func123,Tryz.ntmps123
 go_wp2_with fail
 refine cg0 HF HB fun w1 HB => ?_
 go_wp2_with fail
 go_ret
 exact ⟨rfl,aa HB⟩
end Go.Proofs.YtpbgpdmffejdgaaGreatDoor
