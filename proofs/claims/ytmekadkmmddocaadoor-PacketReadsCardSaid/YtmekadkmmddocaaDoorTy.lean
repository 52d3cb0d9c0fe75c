/- The sizes and zero values of this program's types: closed facts. -/
import Derived.Test.YtmekadkmmddocaaDoorI
import Derived.Test.YtmekadkmmddocaaDoorProg
namespace Go.Proofs.YtmekadkmmddocaaDoor
theorem ts_3 : (Tryd.prog.info? 3).map (·.size) = some 1 := by kernel_rfl
theorem ts_4 : (Tryd.prog.info? 4).map (·.size) = some 1 := by kernel_rfl
theorem tz_5 : (Tryd.prog.info? 5).map (fun i => (i.zero, i.size, i.bytes)) = some (some (.int .u8 0), 1, 1) := by kernel_rfl
theorem ts_5 : (Tryd.prog.info? 5).map (·.size) = some 1 := by kernel_rfl
theorem ts_9 : (Tryd.prog.info? 9).map (·.size) = some 1 := by kernel_rfl
theorem tz_22 : (Tryd.prog.info? 22).map (fun i => (i.zero, i.size, i.bytes)) = some (some (.slice none 0 0), 1, 24) := by kernel_rfl
theorem ts_22 : (Tryd.prog.info? 22).map (·.size) = some 1 := by kernel_rfl
theorem ts_24 : (Tryd.prog.info? 24).map (·.size) = some 1 := by kernel_rfl
theorem tz_26 : (Tryd.prog.info? 26).map (fun i => (i.zero, i.size, i.bytes)) = some (some (.agg #[.bool false, .int .u64 0, .int .u64 0]), 3, 24) := by kernel_rfl
theorem ts_26 : (Tryd.prog.info? 26).map (·.size) = some 3 := by kernel_rfl
theorem ts_27 : (Tryd.prog.info? 27).map (·.size) = some 1 := by kernel_rfl
theorem ts_29 : (Tryd.prog.info? 29).map (·.size) = some 9 := by kernel_rfl
theorem ts_30 : (Tryd.prog.info? 30).map (·.size) = some 1 := by kernel_rfl
theorem tz_32 : (Tryd.prog.info? 32).map (fun i => (i.zero, i.size, i.bytes)) = some (some (.agg #[.int .u16 0, .int .u16 0, .int .u32 0, .int .u32 0, .int .u8 0, .int .u16 0, .int .u16 0, .int .u16 0, .slice none 0 0, .slice none 0 0]), 10, 72) := by kernel_rfl
theorem ts_32 : (Tryd.prog.info? 32).map (·.size) = some 10 := by kernel_rfl
theorem tz_34 : (Tryd.prog.info? 34).map (fun i => (i.zero, i.size, i.bytes)) = some (some (.agg #[.int .u16 0, .int .u16 0, .int .u16 0, .slice none 0 0]), 4, 32) := by kernel_rfl
theorem ts_34 : (Tryd.prog.info? 34).map (·.size) = some 4 := by kernel_rfl
theorem tz_36 : (Tryd.prog.info? 36).map (fun i => (i.zero, i.size, i.bytes)) = some (some (.agg #[.int .u8 0, .int .u8 0, .int .u16 0, .int .u32 0, .slice none 0 0]), 5, 32) := by kernel_rfl
theorem ts_36 : (Tryd.prog.info? 36).map (·.size) = some 5 := by kernel_rfl
theorem tz_38 : (Tryd.prog.info? 38).map (fun i => (i.zero, i.size, i.bytes)) = some (some (.agg #[.bool false, .bool false, .int .u8 0, .bool false, .int .u64 0, .int .u64 0, .bool false, .int .u64 0, .int .u64 0, .int .u16 0, .int .u16 0, .int .u8 0, .int .u16 0, .int .u16 0, .int .u32 0, .int .u32 0, .int .u8 0, .int .u16 0, .int .u16 0, .int .u16 0, .slice none 0 0, .slice none 0 0, .int .u16 0, .int .u16 0, .int .u16 0, .slice none 0 0, .int .u8 0, .int .u8 0, .int .u16 0, .int .u32 0, .slice none 0 0]), 31, 200) := by kernel_rfl
theorem ts_38 : (Tryd.prog.info? 38).map (·.size) = some 31 := by kernel_rfl
theorem tz_42 : (Tryd.prog.info? 42).map (fun i => (i.zero, i.size, i.bytes)) = some (some (.agg #[.int .u16 0, .int .u16 0, .int .u32 0, .int .u32 0, .int .u8 0, .int .u16 0, .int .u16 0, .int .u16 0, .slice none 0 0, .slice none 0 0]), 10, 72) := by kernel_rfl
theorem ts_42 : (Tryd.prog.info? 42).map (·.size) = some 10 := by kernel_rfl
theorem tz_43 : (Tryd.prog.info? 43).map (fun i => (i.zero, i.size, i.bytes)) = some (some (.agg #[.int .u16 0, .int .u16 0, .int .u16 0, .slice none 0 0]), 4, 32) := by kernel_rfl
theorem ts_43 : (Tryd.prog.info? 43).map (·.size) = some 4 := by kernel_rfl
theorem tz_44 : (Tryd.prog.info? 44).map (fun i => (i.zero, i.size, i.bytes)) = some (some (.agg #[.int .u8 0, .int .u8 0, .int .u16 0, .int .u32 0, .slice none 0 0]), 5, 32) := by kernel_rfl
theorem ts_44 : (Tryd.prog.info? 44).map (·.size) = some 5 := by kernel_rfl
theorem tz_46 : (Tryd.prog.info? 46).map (fun i => (i.zero, i.size, i.bytes)) = some (some (.agg #[.bool false, .bool false, .int .u8 0, .bool false, .int .u64 0, .int .u64 0, .bool false, .int .u64 0, .int .u64 0, .int .u16 0, .int .u16 0, .int .u8 0, .int .u16 0, .int .u16 0, .int .u32 0, .int .u32 0, .int .u8 0, .int .u16 0, .int .u16 0, .int .u16 0, .slice none 0 0, .slice none 0 0, .int .u16 0, .int .u16 0, .int .u16 0, .slice none 0 0, .int .u8 0, .int .u8 0, .int .u16 0, .int .u32 0, .slice none 0 0]), 31, 200) := by kernel_rfl
theorem ts_46 : (Tryd.prog.info? 46).map (·.size) = some 31 := by kernel_rfl
theorem tz_82 : (Tryd.prog.info? 82).map (fun i => (i.zero, i.size, i.bytes)) = some (some (.agg #[.int .u8 0, .int .u32 0, .int .i64 0, .int .u8 0, .int .u8 0, .bool false, .int .u64 0, .int .u64 0, .bool false, .int .u64 0, .int .u64 0]), 11, 72) := by kernel_rfl
theorem ts_82 : (Tryd.prog.info? 82).map (·.size) = some 11 := by kernel_rfl
theorem tz_88 : (Tryd.prog.info? 88).map (fun i => (i.zero, i.size, i.bytes)) = some (some (.agg #[.int .u8 0, .int .i64 0, .int .u16 0, .bool false, .bool false, .int .i64 0, .int .u8 0, .int .u8 0, .int .u16 0, .bool false, .int .u64 0, .int .u64 0, .bool false, .int .u64 0, .int .u64 0, .slice none 0 0]), 16, 112) := by kernel_rfl
theorem ts_88 : (Tryd.prog.info? 88).map (·.size) = some 16 := by kernel_rfl
theorem tz_95 : (Tryd.prog.info? 95).map (fun i => (i.zero, i.size, i.bytes)) = some (some (.agg #[.int .u8 0, .int .u32 0, .int .i64 0, .int .u8 0, .int .u8 0, .bool false, .int .u64 0, .int .u64 0, .bool false, .int .u64 0, .int .u64 0]), 11, 72) := by kernel_rfl
theorem ts_95 : (Tryd.prog.info? 95).map (·.size) = some 11 := by kernel_rfl
theorem tz_99 : (Tryd.prog.info? 99).map (fun i => (i.zero, i.size, i.bytes)) = some (some (.agg #[.int .u8 0, .int .i64 0, .int .u16 0, .bool false, .bool false, .int .i64 0, .int .u8 0, .int .u8 0, .int .u16 0, .bool false, .int .u64 0, .int .u64 0, .bool false, .int .u64 0, .int .u64 0, .slice none 0 0]), 16, 112) := by kernel_rfl
theorem ts_99 : (Tryd.prog.info? 99).map (·.size) = some 16 := by kernel_rfl
theorem mixed_ : Tryd.prog.follows .mixedOrders = true := by kernel_rfl
end Go.Proofs.YtmekadkmmddocaaDoor
