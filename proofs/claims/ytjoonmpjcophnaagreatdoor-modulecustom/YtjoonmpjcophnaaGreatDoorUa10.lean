/- ImB. -/
import Derived.Test.YtjoonmpjcophnaaGreatDoorUa06
namespace Go.Proofs.YtjoonmpjcophnaaGreatDoor
open Go.RowKit

set_option maxHeartbeats 4000000 in
set_option maxRecDepth 100000 in
theorem imm_0 : Ct 172 #[.int .i64 0] (.tuple #[.int .i64 0, .bool true]) := hide fun W => by
  go_enter Tryz.func172, Tryz.ntmps172
  go_wp2_with fail
  go_ret2
  exact ⟨rfl, Below.refl _ _⟩
set_option maxHeartbeats 4000000 in
set_option maxRecDepth 100000 in
theorem imm_1 : Ct 172 #[.int .i64 1] (.tuple #[.int .i64 0, .bool true]) := hide fun W => by
  go_enter Tryz.func172, Tryz.ntmps172
  go_wp2_with fail
  go_ret2
  exact ⟨rfl, Below.refl _ _⟩
set_option maxHeartbeats 4000000 in
set_option maxRecDepth 100000 in
theorem imm_2 : Ct 172 #[.int .i64 2] (.tuple #[.int .i64 1, .bool true]) := hide fun W => by
  go_enter Tryz.func172, Tryz.ntmps172
  go_wp2_with fail
  go_ret2
  exact ⟨rfl, Below.refl _ _⟩
set_option maxHeartbeats 4000000 in
set_option maxRecDepth 100000 in
theorem imm_3 : Ct 172 #[.int .i64 3] (.tuple #[.int .i64 1, .bool true]) := hide fun W => by
  go_enter Tryz.func172, Tryz.ntmps172
  go_wp2_with fail
  go_ret2
  exact ⟨rfl, Below.refl _ _⟩
set_option maxHeartbeats 4000000 in
set_option maxRecDepth 100000 in
theorem imm_4 : Ct 172 #[.int .i64 4] (.tuple #[.int .i64 1, .bool true]) := hide fun W => by
  go_enter Tryz.func172, Tryz.ntmps172
  go_wp2_with fail
  go_ret2
  exact ⟨rfl, Below.refl _ _⟩
set_option maxHeartbeats 4000000 in
set_option maxRecDepth 100000 in
theorem imm_5 : Ct 172 #[.int .i64 5] (.tuple #[.int .i64 12, .bool true]) := hide fun W => by
  go_enter Tryz.func172, Tryz.ntmps172
  go_wp2_with fail
  go_ret2
  exact ⟨rfl, Below.refl _ _⟩
set_option maxHeartbeats 4000000 in
set_option maxRecDepth 100000 in
theorem imm_11 : Ct 172 #[.int .i64 11] (.tuple #[.int .i64 12, .bool true]) := hide fun W => by
  go_enter Tryz.func172, Tryz.ntmps172
  go_wp2_with fail
  go_ret2
  exact ⟨rfl, Below.refl _ _⟩
set_option maxHeartbeats 4000000 in
set_option maxRecDepth 100000 in
theorem imm_12 : Ct 172 #[.int .i64 12] (.tuple #[.int .i64 2, .bool true]) := hide fun W => by
  go_enter Tryz.func172, Tryz.ntmps172
  go_wp2_with fail
  go_ret2
  exact ⟨rfl, Below.refl _ _⟩
set_option maxHeartbeats 4000000 in
set_option maxRecDepth 100000 in
theorem imm_13 : Ct 172 #[.int .i64 13] (.tuple #[.int .i64 2, .bool true]) := hide fun W => by
  go_enter Tryz.func172, Tryz.ntmps172
  go_wp2_with fail
  go_ret2
  exact ⟨rfl, Below.refl _ _⟩
set_option maxHeartbeats 4000000 in
set_option maxRecDepth 100000 in
theorem imm_14 : Ct 172 #[.int .i64 14] (.tuple #[.int .i64 3, .bool true]) := hide fun W => by
  go_enter Tryz.func172, Tryz.ntmps172
  go_wp2_with fail
  go_ret2
  exact ⟨rfl, Below.refl _ _⟩
set_option maxHeartbeats 4000000 in
set_option maxRecDepth 100000 in
theorem imm_15 : Ct 172 #[.int .i64 15] (.tuple #[.int .i64 0, .bool true]) := hide fun W => by
  go_enter Tryz.func172, Tryz.ntmps172
  go_wp2_with fail
  go_ret2
  exact ⟨rfl, Below.refl _ _⟩

end Go.Proofs.YtjoonmpjcophnaaGreatDoor
