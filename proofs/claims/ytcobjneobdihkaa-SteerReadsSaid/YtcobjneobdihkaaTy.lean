/- The sizes and zero values of this program's types: closed facts. -/
import Derived.Test.YtcobjneobdihkaaI
import Derived.Test.YtcobjneobdihkaaProg
namespace Go.Proofs.Ytcobjneobdihkaa
theorem ts_3 : (Try.prog.info? 3).map (·.size) = some 1 := by kernel_rfl
theorem ts_4 : (Try.prog.info? 4).map (·.size) = some 1 := by kernel_rfl
theorem tz_5 : (Try.prog.info? 5).map (fun i => (i.zero, i.size, i.bytes)) = some (some (.int .u8 0), 1, 1) := by kernel_rfl
theorem ts_5 : (Try.prog.info? 5).map (·.size) = some 1 := by kernel_rfl
theorem tz_22 : (Try.prog.info? 22).map (fun i => (i.zero, i.size, i.bytes)) = some (some (.slice none 0 0), 1, 24) := by kernel_rfl
theorem ts_22 : (Try.prog.info? 22).map (·.size) = some 1 := by kernel_rfl
theorem ts_24 : (Try.prog.info? 24).map (·.size) = some 1 := by kernel_rfl
theorem tz_26 : (Try.prog.info? 26).map (fun i => (i.zero, i.size, i.bytes)) = some (some (.agg #[.bool false, .int .u64 0, .int .u64 0]), 3, 24) := by kernel_rfl
theorem ts_26 : (Try.prog.info? 26).map (·.size) = some 3 := by kernel_rfl
theorem ts_27 : (Try.prog.info? 27).map (·.size) = some 1 := by kernel_rfl
theorem tz_29 : (Try.prog.info? 29).map (fun i => (i.zero, i.size, i.bytes)) = some (some (.agg #[.bool false, .int .u64 0, .int .u64 0, .bool false, .int .u64 0, .int .u64 0, .int .u16 0, .int .u16 0, .int .u8 0]), 9, 56) := by kernel_rfl
theorem ts_29 : (Try.prog.info? 29).map (·.size) = some 9 := by kernel_rfl
theorem ts_30 : (Try.prog.info? 30).map (·.size) = some 1 := by kernel_rfl
theorem tz_32 : (Try.prog.info? 32).map (fun i => (i.zero, i.size, i.bytes)) = some (some (.agg #[.bool false, .int .u64 0, .int .u64 0, .bool false, .int .u64 0, .int .u64 0, .int .u16 0, .int .u16 0, .int .u8 0, .int .u32 0, .bool false]), 11, 64) := by kernel_rfl
theorem ts_32 : (Try.prog.info? 32).map (·.size) = some 11 := by kernel_rfl
theorem tz_35 : (Try.prog.info? 35).map (fun i => (i.zero, i.size, i.bytes)) = some (some (.agg #[.bool false, .int .u64 0, .int .u64 0, .bool false, .int .u64 0, .int .u64 0, .int .u16 0, .int .u16 0, .int .u8 0, .int .u32 0, .bool false]), 11, 64) := by kernel_rfl
theorem ts_35 : (Try.prog.info? 35).map (·.size) = some 11 := by kernel_rfl
theorem tz_40 : (Try.prog.info? 40).map (fun i => (i.zero, i.size, i.bytes)) = some (some (.agg #[.int .u16 0, .int .u16 0, .int .u32 0, .int .u32 0, .int .u8 0, .int .u16 0, .int .u16 0, .int .u16 0, .slice none 0 0, .slice none 0 0]), 10, 72) := by kernel_rfl
theorem ts_40 : (Try.prog.info? 40).map (·.size) = some 10 := by kernel_rfl
theorem tz_49 : (Try.prog.info? 49).map (fun i => (i.zero, i.size, i.bytes)) = some (some (.agg #[.int .u16 0, .int .u16 0, .int .u32 0, .int .u32 0, .int .u8 0, .int .u16 0, .int .u16 0, .int .u16 0, .slice none 0 0, .slice none 0 0]), 10, 72) := by kernel_rfl
theorem ts_49 : (Try.prog.info? 49).map (·.size) = some 10 := by kernel_rfl
theorem ts_64 : (Try.prog.info? 64).map (·.size) = some 16 := by kernel_rfl
theorem mixed_ : Try.prog.follows .mixedOrders = true := by kernel_rfl
end Go.Proofs.Ytcobjneobdihkaa
