/- The sizes and zero values of this program's types: closed facts. -/
import Derived.Test.YtilgolflpdpfnaaI
import Derived.Test.YtilgolflpdpfnaaProg
namespace Go.Proofs.Ytilgolflpdpfnaa
theorem ts_24 : (Try.prog.info? 24).map (·.size) = some 1 := by kernel_rfl
theorem ts_64 : (Try.prog.info? 64).map (·.size) = some 16 := by kernel_rfl
theorem tz_67 : (Try.prog.info? 67).map (fun i => (i.zero, i.size, i.bytes)) = some (some (.agg #[.int .u8 0, .int .u8 0, .int .u8 0, .int .u8 0, .int .u8 0, .int .u8 0, .int .u8 0, .int .u8 0, .int .u8 0, .int .u8 0, .int .u8 0, .int .u8 0, .int .u8 0, .int .u8 0, .int .u8 0, .int .u8 0]), 16, 16) := by kernel_rfl
theorem ts_67 : (Try.prog.info? 67).map (·.size) = some 16 := by kernel_rfl
theorem tz_69 : (Try.prog.info? 69).map (fun i => (i.zero, i.size, i.bytes)) = some (some (.agg #[.int .u8 0, .int .u8 0, .int .u8 0, .int .u8 0, .int .u8 0, .int .u8 0, .int .u8 0, .int .u8 0, .int .u8 0, .int .u8 0, .int .u8 0, .int .u8 0, .int .u8 0, .int .u8 0, .int .u8 0, .int .u8 0, .int .u64 0]), 17, 24) := by kernel_rfl
theorem ts_69 : (Try.prog.info? 69).map (·.size) = some 17 := by kernel_rfl
theorem mixed_ : Try.prog.follows .mixedOrders = true := by kernel_rfl
end Go.Proofs.Ytilgolflpdpfnaa
