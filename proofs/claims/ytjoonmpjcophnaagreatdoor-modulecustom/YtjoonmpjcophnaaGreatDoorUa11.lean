/- ImC. -/
import Derived.Test.YtjoonmpjcophnaaGreatDoorUa06
namespace Go.Proofs.YtjoonmpjcophnaaGreatDoor
open Go.RowKit

set_option maxHeartbeats 4000000 in
set_option maxRecDepth 100000 in
theorem imm_16 : Ct 172 #[.int .i64 16] (.tuple #[.int .i64 4, .bool true]) := hide fun W => by
  go_enter Tryz.func172, Tryz.ntmps172
  go_wp2_with fail
  go_ret2
  exact ⟨rfl, Below.refl _ _⟩
set_option maxHeartbeats 4000000 in
set_option maxRecDepth 100000 in
theorem imm_17 : Ct 172 #[.int .i64 17] (.tuple #[.int .i64 5, .bool true]) := hide fun W => by
  go_enter Tryz.func172, Tryz.ntmps172
  go_wp2_with fail
  go_ret2
  exact ⟨rfl, Below.refl _ _⟩
set_option maxHeartbeats 4000000 in
set_option maxRecDepth 100000 in
theorem imm_26 : Ct 172 #[.int .i64 26] (.tuple #[.int .i64 0, .bool true]) := hide fun W => by
  go_enter Tryz.func172, Tryz.ntmps172
  go_wp2_with fail
  go_ret2
  exact ⟨rfl, Below.refl _ _⟩
set_option maxHeartbeats 4000000 in
set_option maxRecDepth 100000 in
theorem imm_27 : Ct 172 #[.int .i64 27] (.tuple #[.int .i64 0, .bool true]) := hide fun W => by
  go_enter Tryz.func172, Tryz.ntmps172
  go_wp2_with fail
  go_ret2
  exact ⟨rfl, Below.refl _ _⟩
set_option maxHeartbeats 4000000 in
set_option maxRecDepth 100000 in
theorem imm_32 : Ct 172 #[.int .i64 32] (.tuple #[.int .i64 4, .bool true]) := hide fun W => by
  go_enter Tryz.func172, Tryz.ntmps172
  go_wp2_with fail
  go_ret2
  exact ⟨rfl, Below.refl _ _⟩
set_option maxHeartbeats 4000000 in
set_option maxRecDepth 100000 in
theorem imm_33 : Ct 172 #[.int .i64 33] (.tuple #[.int .i64 4, .bool true]) := hide fun W => by
  go_enter Tryz.func172, Tryz.ntmps172
  go_wp2_with fail
  go_ret2
  exact ⟨rfl, Below.refl _ _⟩
set_option maxHeartbeats 4000000 in
set_option maxRecDepth 100000 in
theorem imm_34 : Ct 172 #[.int .i64 34] (.tuple #[.int .i64 4, .bool true]) := hide fun W => by
  go_enter Tryz.func172, Tryz.ntmps172
  go_wp2_with fail
  go_ret2
  exact ⟨rfl, Below.refl _ _⟩
set_option maxHeartbeats 4000000 in
set_option maxRecDepth 100000 in
theorem imm_35 : Ct 172 #[.int .i64 35] (.tuple #[.int .i64 4, .bool true]) := hide fun W => by
  go_enter Tryz.func172, Tryz.ntmps172
  go_wp2_with fail
  go_ret2
  exact ⟨rfl, Below.refl _ _⟩
set_option maxHeartbeats 4000000 in
set_option maxRecDepth 100000 in
theorem imm_36 : Ct 172 #[.int .i64 36] (.tuple #[.int .i64 4, .bool true]) := hide fun W => by
  go_enter Tryz.func172, Tryz.ntmps172
  go_wp2_with fail
  go_ret2
  exact ⟨rfl, Below.refl _ _⟩
set_option maxHeartbeats 4000000 in
set_option maxRecDepth 100000 in
theorem imm_63 : Ct 172 #[.int .i64 63] (.tuple #[.int .i64 7, .bool true]) := hide fun W => by
  go_enter Tryz.func172, Tryz.ntmps172
  go_wp2_with fail
  go_ret2
  exact ⟨rfl, Below.refl _ _⟩
set_option maxHeartbeats 4000000 in
set_option maxRecDepth 100000 in
theorem imm_64 : Ct 172 #[.int .i64 64] (.tuple #[.int .i64 7, .bool true]) := hide fun W => by
  go_enter Tryz.func172, Tryz.ntmps172
  go_wp2_with fail
  go_ret2
  exact ⟨rfl, Below.refl _ _⟩

end Go.Proofs.YtjoonmpjcophnaaGreatDoor
