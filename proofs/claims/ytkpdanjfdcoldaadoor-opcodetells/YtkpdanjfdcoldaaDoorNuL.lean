/- Kind by groups. -/
import Derived.Test.YtkpdanjfdcoldaaDoorNuB
import Derived.Test.YtkpdanjfdcoldaaDoorNuK
namespace Go.Proofs.YtkpdanjfdcoldaaDoor
open Go.RowKit

/-- What Kind answers. -/
def Kn (op ti c tu : Int) : Prop := Cm 12 #[.int .i64 op] (.tuple #[.int .u8 ti, .int .i64 c, .int .u8 tu, .bool true])
theorem kn_0 {op : Int} (h0 : 69 ≤ op) (h1 : op < 80) : Kn op 127 (opn 0 (op - 69)) 127 := kind_w (find_0 h0 h1) (types_0 _ _ _ _).m (opn_w (by decide))
theorem kn_1 {op : Int} (h0 : 80 ≤ op) (h1 : op < 91) : Kn op 126 (opn 0 (op - 80)) 127 := kind_w (find_1 h0 h1) (types_0 _ _ _ _).m (opn_w (by decide))
theorem kn_2 {op : Int} (h0 : 91 ≤ op) (h1 : op < 97) : Kn op 125 (opn 1 (op - 91)) 127 := kind_w (find_2 h0 h1) (types_1 _ _ _ _).m (opn_w (by decide))
theorem kn_3 {op : Int} (h0 : 97 ≤ op) (h1 : op < 103) : Kn op 124 (opn 1 (op - 97)) 127 := kind_w (find_3 h0 h1) (types_1 _ _ _ _).m (opn_w (by decide))
theorem kn_4 {op : Int} (h0 : 103 ≤ op) (h1 : op < 121) : Kn op 127 (opn 2 (op - 103)) 127 := kind_w (find_4 h0 h1) (types_2 _ _ _ _).m (opn_w (by decide))
theorem kn_5 {op : Int} (h0 : 121 ≤ op) (h1 : op < 139) : Kn op 126 (opn 2 (op - 121)) 126 := kind_w (find_5 h0 h1) (types_2 _ _ _ _).m (opn_w (by decide))
theorem kn_6 {op : Int} (h0 : 139 ≤ op) (h1 : op < 153) : Kn op 125 (opn 3 (op - 139)) 125 := kind_w (find_6 h0 h1) (types_3 _ _ _ _).m (opn_w (by decide))
theorem kn_7 {op : Int} (h0 : 153 ≤ op) (h1 : op < 167) : Kn op 124 (opn 3 (op - 153)) 124 := kind_w (find_7 h0 h1) (types_3 _ _ _ _).m (opn_w (by decide))
theorem kn_8 {op ti tu : Int} {k : Nat} (hx : cL[k * 2]? = some (.int .u8 ti)) (hy : cL[k * 2 + 1]? = some (.int .u8 tu)) (h : op - 167 = (k : Int)) (hk : k < 25) : Kn op ti 1 tu := by
  have HF := find_8 (op := op) (by omega) (by omega)
  rw [h] at HF
  exact kind_w HF (types_4 _ _ _ hk hx hy) (opn_w (by decide))
theorem kn_9 {op ti tu : Int} {k : Nat} (hx : sL[k * 2]? = some (.int .u8 ti)) (hy : sL[k * 2 + 1]? = some (.int .u8 tu)) (h : op - 64512 = (k : Int)) (hk : k < 8) : Kn op ti 1 tu := by
  have HF := find_9 (op := op) (by omega) (by omega)
  rw [h] at HF
  exact kind_w HF (types_5 _ _ _ hk hx hy) (opn_w (by decide))
end Go.Proofs.YtkpdanjfdcoldaaDoor
