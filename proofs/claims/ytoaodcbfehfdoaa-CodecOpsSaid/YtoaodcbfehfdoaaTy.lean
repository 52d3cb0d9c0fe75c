
/- The sizes and zero values of this program's types: closed facts. -/
import Derived.Test.YtoaodcbfehfdoaaI
import Derived.Test.YtoaodcbfehfdoaaProg
namespace Go.Proofs.Ytoaodcbfehfdoaa
theorem tz_1 : (Try.prog.info? 1).map (fun i => (i.zero, i.size, i.bytes)) = some (some (.nilFunc), 1, 8) := by kernel_rfl
theorem ts_1 : (Try.prog.info? 1).map (·.size) = some 1 := by kernel_rfl
theorem tz_2 : (Try.prog.info? 2).map (fun i => (i.zero, i.size, i.bytes)) = some (some (.int .i64 0), 1, 8) := by kernel_rfl
theorem ts_2 : (Try.prog.info? 2).map (·.size) = some 1 := by kernel_rfl
theorem tz_3 : (Try.prog.info? 3).map (fun i => (i.zero, i.size, i.bytes)) = some (some (.int .i64 0), 1, 8) := by kernel_rfl
theorem ts_3 : (Try.prog.info? 3).map (·.size) = some 1 := by kernel_rfl
theorem tz_4 : (Try.prog.info? 4).map (fun i => (i.zero, i.size, i.bytes)) = some (some (.bool false), 1, 1) := by kernel_rfl
theorem ts_4 : (Try.prog.info? 4).map (·.size) = some 1 := by kernel_rfl
theorem tz_5 : (Try.prog.info? 5).map (fun i => (i.zero, i.size, i.bytes)) = some (some (.int .u8 0), 1, 1) := by kernel_rfl
theorem ts_5 : (Try.prog.info? 5).map (·.size) = some 1 := by kernel_rfl
theorem tz_6 : (Try.prog.info? 6).map (fun i => (i.zero, i.size, i.bytes)) = some (some (.int .u8 0), 1, 1) := by kernel_rfl
theorem ts_6 : (Try.prog.info? 6).map (·.size) = some 1 := by kernel_rfl
theorem tz_7 : (Try.prog.info? 7).map (fun i => (i.zero, i.size, i.bytes)) = some (some (.agg #[.int .i64 0, .int .i64 0, .bool false, .int .u8 0]), 4, 24) := by kernel_rfl
theorem ts_7 : (Try.prog.info? 7).map (·.size) = some 4 := by kernel_rfl
theorem tz_8 : (Try.prog.info? 8).map (fun i => (i.zero, i.size, i.bytes)) = some (some (.agg #[.int .i64 0, .int .i64 0, .bool false, .int .u8 0]), 4, 24) := by kernel_rfl
theorem ts_8 : (Try.prog.info? 8).map (·.size) = some 4 := by kernel_rfl
theorem tz_9 : (Try.prog.info? 9).map (fun i => (i.zero, i.size, i.bytes)) = some (some (.string ⟨#[]⟩), 1, 16) := by kernel_rfl
theorem ts_9 : (Try.prog.info? 9).map (·.size) = some 1 := by kernel_rfl
theorem tz_10 : (Try.prog.info? 10).map (fun i => (i.zero, i.size, i.bytes)) = some (some (.string ⟨#[]⟩), 1, 16) := by kernel_rfl
theorem ts_10 : (Try.prog.info? 10).map (·.size) = some 1 := by kernel_rfl
theorem tz_11 : (Try.prog.info? 11).map (fun i => (i.zero, i.size, i.bytes)) = some (some (.string ⟨#[]⟩), 1, 16) := by kernel_rfl
theorem ts_11 : (Try.prog.info? 11).map (·.size) = some 1 := by kernel_rfl
theorem tz_12 : (Try.prog.info? 12).map (fun i => (i.zero, i.size, i.bytes)) = some (some (.int .u64 0), 1, 8) := by kernel_rfl
theorem ts_12 : (Try.prog.info? 12).map (·.size) = some 1 := by kernel_rfl
theorem tz_13 : (Try.prog.info? 13).map (fun i => (i.zero, i.size, i.bytes)) = some (some (.agg #[.string ⟨#[]⟩, .int .u64 0]), 2, 24) := by kernel_rfl
theorem ts_13 : (Try.prog.info? 13).map (·.size) = some 2 := by kernel_rfl
theorem tz_14 : (Try.prog.info? 14).map (fun i => (i.zero, i.size, i.bytes)) = some (some (.agg #[.string ⟨#[]⟩, .int .u64 0]), 2, 24) := by kernel_rfl
theorem ts_14 : (Try.prog.info? 14).map (·.size) = some 2 := by kernel_rfl
theorem tz_15 : (Try.prog.info? 15).map (fun i => (i.zero, i.size, i.bytes)) = some (some (.pointer none), 1, 8) := by kernel_rfl
theorem ts_15 : (Try.prog.info? 15).map (·.size) = some 1 := by kernel_rfl
theorem tz_16 : (Try.prog.info? 16).map (fun i => (i.zero, i.size, i.bytes)) = some (some (.pointer none), 1, 8) := by kernel_rfl
theorem ts_16 : (Try.prog.info? 16).map (·.size) = some 1 := by kernel_rfl
theorem tz_17 : (Try.prog.info? 17).map (fun i => (i.zero, i.size, i.bytes)) = some (some (.pointer none), 1, 8) := by kernel_rfl
theorem ts_17 : (Try.prog.info? 17).map (·.size) = some 1 := by kernel_rfl
theorem tz_18 : (Try.prog.info? 18).map (fun i => (i.zero, i.size, i.bytes)) = some (some (.agg #[.pointer none]), 1, 8) := by kernel_rfl
theorem ts_18 : (Try.prog.info? 18).map (·.size) = some 1 := by kernel_rfl
theorem tz_19 : (Try.prog.info? 19).map (fun i => (i.zero, i.size, i.bytes)) = some (some (.agg #[.pointer none]), 1, 8) := by kernel_rfl
theorem ts_19 : (Try.prog.info? 19).map (·.size) = some 1 := by kernel_rfl
theorem tz_20 : (Try.prog.info? 20).map (fun i => (i.zero, i.size, i.bytes)) = some (some (.nilIface), 1, 16) := by kernel_rfl
theorem ts_20 : (Try.prog.info? 20).map (·.size) = some 1 := by kernel_rfl
theorem tz_21 : (Try.prog.info? 21).map (fun i => (i.zero, i.size, i.bytes)) = some (some (.int .i32 0), 1, 4) := by kernel_rfl
theorem ts_21 : (Try.prog.info? 21).map (·.size) = some 1 := by kernel_rfl
theorem tz_22 : (Try.prog.info? 22).map (fun i => (i.zero, i.size, i.bytes)) = some (some (.int .u64 0), 1, 8) := by kernel_rfl
theorem ts_22 : (Try.prog.info? 22).map (·.size) = some 1 := by kernel_rfl
theorem tz_23 : (Try.prog.info? 23).map (fun i => (i.zero, i.size, i.bytes)) = some (some (.agg #[.bool false, .int .u64 0, .int .u64 0]), 3, 24) := by kernel_rfl
theorem ts_23 : (Try.prog.info? 23).map (·.size) = some 3 := by kernel_rfl
theorem tz_24 : (Try.prog.info? 24).map (fun i => (i.zero, i.size, i.bytes)) = some (some (.agg #[.bool false, .int .u64 0, .int .u64 0]), 3, 24) := by kernel_rfl
theorem ts_24 : (Try.prog.info? 24).map (·.size) = some 3 := by kernel_rfl
theorem tz_25 : (Try.prog.info? 25).map (fun i => (i.zero, i.size, i.bytes)) = some (some (.int .u16 0), 1, 2) := by kernel_rfl
theorem ts_25 : (Try.prog.info? 25).map (·.size) = some 1 := by kernel_rfl
theorem tz_26 : (Try.prog.info? 26).map (fun i => (i.zero, i.size, i.bytes)) = some (some (.slice none 0 0), 1, 24) := by kernel_rfl
theorem ts_26 : (Try.prog.info? 26).map (·.size) = some 1 := by kernel_rfl
theorem tz_27 : (Try.prog.info? 27).map (fun i => (i.zero, i.size, i.bytes)) = some (some (.agg #[.int .i64 0, .int .i64 0, .int .i64 0, .int .i64 0, .bool false, .int .u64 0, .int .u64 0, .int .u16 0, .int .u8 0, .int .i64 0, .slice none 0 0]), 11, 96) := by kernel_rfl
theorem ts_27 : (Try.prog.info? 27).map (·.size) = some 11 := by kernel_rfl
theorem tz_28 : (Try.prog.info? 28).map (fun i => (i.zero, i.size, i.bytes)) = some (some (.agg #[.int .i64 0, .int .i64 0, .int .i64 0, .int .i64 0, .bool false, .int .u64 0, .int .u64 0, .int .u16 0, .int .u8 0, .int .i64 0, .slice none 0 0]), 11, 96) := by kernel_rfl
theorem ts_28 : (Try.prog.info? 28).map (·.size) = some 11 := by kernel_rfl
theorem tz_29 : (Try.prog.info? 29).map (fun i => (i.zero, i.size, i.bytes)) = some (some (.slice none 0 0), 1, 24) := by kernel_rfl
theorem ts_29 : (Try.prog.info? 29).map (·.size) = some 1 := by kernel_rfl
theorem tz_30 : (Try.prog.info? 30).map (fun i => (i.zero, i.size, i.bytes)) = some (some (.nilFunc), 1, 8) := by kernel_rfl
theorem ts_30 : (Try.prog.info? 30).map (·.size) = some 1 := by kernel_rfl
theorem tz_31 : (Try.prog.info? 31).map (fun i => (i.zero, i.size, i.bytes)) = some (some (.slice none 0 0), 1, 24) := by kernel_rfl
theorem ts_31 : (Try.prog.info? 31).map (·.size) = some 1 := by kernel_rfl
theorem tz_32 : (Try.prog.info? 32).map (fun i => (i.zero, i.size, i.bytes)) = some (some (.nilFunc), 1, 8) := by kernel_rfl
theorem ts_32 : (Try.prog.info? 32).map (·.size) = some 1 := by kernel_rfl
theorem tz_33 : (Try.prog.info? 33).map (fun i => (i.zero, i.size, i.bytes)) = some (some (.slice none 0 0), 1, 24) := by kernel_rfl
theorem ts_33 : (Try.prog.info? 33).map (·.size) = some 1 := by kernel_rfl
theorem tz_34 : (Try.prog.info? 34).map (fun i => (i.zero, i.size, i.bytes)) = some (some (.agg #[.int .i64 0, .int .i64 0, .int .i64 0, .int .i64 0, .bool false, .int .u64 0, .int .u64 0, .int .u16 0, .int .u8 0, .int .i64 0, .slice none 0 0]), 11, 96) := by kernel_rfl
theorem ts_34 : (Try.prog.info? 34).map (·.size) = some 11 := by kernel_rfl
theorem tz_35 : (Try.prog.info? 35).map (fun i => (i.zero, i.size, i.bytes)) = some (some (.agg #[.int .i64 0, .int .i64 0, .int .i64 0, .int .i64 0, .bool false, .int .u64 0, .int .u64 0, .int .u16 0, .int .u8 0, .int .i64 0, .slice none 0 0]), 11, 96) := by kernel_rfl
theorem ts_35 : (Try.prog.info? 35).map (·.size) = some 11 := by kernel_rfl
theorem tz_36 : (Try.prog.info? 36).map (fun i => (i.zero, i.size, i.bytes)) = some (some (.int .i64 0), 1, 8) := by kernel_rfl
theorem ts_36 : (Try.prog.info? 36).map (·.size) = some 1 := by kernel_rfl
theorem tz_38 : (Try.prog.info? 38).map (fun i => (i.zero, i.size, i.bytes)) = some (some (.nilFunc), 1, 8) := by kernel_rfl
theorem ts_38 : (Try.prog.info? 38).map (·.size) = some 1 := by kernel_rfl
theorem tz_40 : (Try.prog.info? 40).map (fun i => (i.zero, i.size, i.bytes)) = some (some (.nilFunc), 1, 8) := by kernel_rfl
theorem ts_40 : (Try.prog.info? 40).map (·.size) = some 1 := by kernel_rfl
theorem tz_41 : (Try.prog.info? 41).map (fun i => (i.zero, i.size, i.bytes)) = some (some (.nilFunc), 1, 8) := by kernel_rfl
theorem ts_41 : (Try.prog.info? 41).map (·.size) = some 1 := by kernel_rfl
theorem tz_42 : (Try.prog.info? 42).map (fun i => (i.zero, i.size, i.bytes)) = some (some (.nilFunc), 1, 8) := by kernel_rfl
theorem ts_42 : (Try.prog.info? 42).map (·.size) = some 1 := by kernel_rfl
theorem tz_43 : (Try.prog.info? 43).map (fun i => (i.zero, i.size, i.bytes)) = some (some (.nilFunc), 1, 8) := by kernel_rfl
theorem ts_43 : (Try.prog.info? 43).map (·.size) = some 1 := by kernel_rfl
theorem tz_44 : (Try.prog.info? 44).map (fun i => (i.zero, i.size, i.bytes)) = some (some (.nilFunc), 1, 8) := by kernel_rfl
theorem ts_44 : (Try.prog.info? 44).map (·.size) = some 1 := by kernel_rfl
theorem tz_45 : (Try.prog.info? 45).map (fun i => (i.zero, i.size, i.bytes)) = some (some (.nilFunc), 1, 8) := by kernel_rfl
theorem ts_45 : (Try.prog.info? 45).map (·.size) = some 1 := by kernel_rfl
theorem tz_46 : (Try.prog.info? 46).map (fun i => (i.zero, i.size, i.bytes)) = some (some (.nilFunc), 1, 8) := by kernel_rfl
theorem ts_46 : (Try.prog.info? 46).map (·.size) = some 1 := by kernel_rfl
theorem tz_47 : (Try.prog.info? 47).map (fun i => (i.zero, i.size, i.bytes)) = some (some (.nilFunc), 1, 8) := by kernel_rfl
theorem ts_47 : (Try.prog.info? 47).map (·.size) = some 1 := by kernel_rfl
theorem tz_48 : (Try.prog.info? 48).map (fun i => (i.zero, i.size, i.bytes)) = some (some (.pointer none), 1, 8) := by kernel_rfl
theorem ts_48 : (Try.prog.info? 48).map (·.size) = some 1 := by kernel_rfl
theorem tz_49 : (Try.prog.info? 49).map (fun i => (i.zero, i.size, i.bytes)) = some (some (.nilFunc), 1, 8) := by kernel_rfl
theorem ts_49 : (Try.prog.info? 49).map (·.size) = some 1 := by kernel_rfl
theorem tz_50 : (Try.prog.info? 50).map (fun i => (i.zero, i.size, i.bytes)) = some (some (.nilFunc), 1, 8) := by kernel_rfl
theorem ts_50 : (Try.prog.info? 50).map (·.size) = some 1 := by kernel_rfl
theorem tz_52 : (Try.prog.info? 52).map (fun i => (i.zero, i.size, i.bytes)) = some (some (.nilFunc), 1, 8) := by kernel_rfl
theorem ts_52 : (Try.prog.info? 52).map (·.size) = some 1 := by kernel_rfl
theorem tz_53 : (Try.prog.info? 53).map (fun i => (i.zero, i.size, i.bytes)) = some (some (.nilFunc), 1, 8) := by kernel_rfl
theorem ts_53 : (Try.prog.info? 53).map (·.size) = some 1 := by kernel_rfl
theorem tz_55 : (Try.prog.info? 55).map (fun i => (i.zero, i.size, i.bytes)) = some (some (.nilFunc), 1, 8) := by kernel_rfl
theorem ts_55 : (Try.prog.info? 55).map (·.size) = some 1 := by kernel_rfl
theorem tz_56 : (Try.prog.info? 56).map (fun i => (i.zero, i.size, i.bytes)) = some (some (.nilFunc), 1, 8) := by kernel_rfl
theorem ts_56 : (Try.prog.info? 56).map (·.size) = some 1 := by kernel_rfl
theorem tz_57 : (Try.prog.info? 57).map (fun i => (i.zero, i.size, i.bytes)) = some (some (.pointer none), 1, 8) := by kernel_rfl
theorem ts_57 : (Try.prog.info? 57).map (·.size) = some 1 := by kernel_rfl
theorem tz_58 : (Try.prog.info? 58).map (fun i => (i.zero, i.size, i.bytes)) = some (some (.agg #[.slice none 0 0, .bool false]), 2, 32) := by kernel_rfl
theorem ts_58 : (Try.prog.info? 58).map (·.size) = some 2 := by kernel_rfl
theorem tz_59 : (Try.prog.info? 59).map (fun i => (i.zero, i.size, i.bytes)) = some (some (.agg #[.slice none 0 0, .bool false]), 2, 32) := by kernel_rfl
theorem ts_59 : (Try.prog.info? 59).map (·.size) = some 2 := by kernel_rfl
theorem tz_60 : (Try.prog.info? 60).map (fun i => (i.zero, i.size, i.bytes)) = some (some (.nilFunc), 1, 8) := by kernel_rfl
theorem ts_60 : (Try.prog.info? 60).map (·.size) = some 1 := by kernel_rfl
theorem tz_61 : (Try.prog.info? 61).map (fun i => (i.zero, i.size, i.bytes)) = some (some (.nilFunc), 1, 8) := by kernel_rfl
theorem ts_61 : (Try.prog.info? 61).map (·.size) = some 1 := by kernel_rfl
theorem tz_62 : (Try.prog.info? 62).map (fun i => (i.zero, i.size, i.bytes)) = some (some (.nilFunc), 1, 8) := by kernel_rfl
theorem ts_62 : (Try.prog.info? 62).map (·.size) = some 1 := by kernel_rfl
theorem tz_63 : (Try.prog.info? 63).map (fun i => (i.zero, i.size, i.bytes)) = some (some (.agg #[.int .i64 0, .int .i64 0]), 2, 16) := by kernel_rfl
theorem ts_63 : (Try.prog.info? 63).map (·.size) = some 2 := by kernel_rfl
theorem tz_64 : (Try.prog.info? 64).map (fun i => (i.zero, i.size, i.bytes)) = some (some (.agg #[.int .i64 0, .int .i64 0]), 2, 16) := by kernel_rfl
theorem ts_64 : (Try.prog.info? 64).map (·.size) = some 2 := by kernel_rfl
theorem tz_65 : (Try.prog.info? 65).map (fun i => (i.zero, i.size, i.bytes)) = some (some (.agg #[.int .i64 0, .int .i64 0]), 2, 16) := by kernel_rfl
theorem ts_65 : (Try.prog.info? 65).map (·.size) = some 2 := by kernel_rfl
theorem tz_66 : (Try.prog.info? 66).map (fun i => (i.zero, i.size, i.bytes)) = some (some (.nilFunc), 1, 8) := by kernel_rfl
theorem ts_66 : (Try.prog.info? 66).map (·.size) = some 1 := by kernel_rfl
theorem tz_67 : (Try.prog.info? 67).map (fun i => (i.zero, i.size, i.bytes)) = some (some (.nilFunc), 1, 8) := by kernel_rfl
theorem ts_67 : (Try.prog.info? 67).map (·.size) = some 1 := by kernel_rfl
theorem tz_68 : (Try.prog.info? 68).map (fun i => (i.zero, i.size, i.bytes)) = some (some (.nilFunc), 1, 8) := by kernel_rfl
theorem ts_68 : (Try.prog.info? 68).map (·.size) = some 1 := by kernel_rfl
theorem tz_69 : (Try.prog.info? 69).map (fun i => (i.zero, i.size, i.bytes)) = some (some (.nilFunc), 1, 8) := by kernel_rfl
theorem ts_69 : (Try.prog.info? 69).map (·.size) = some 1 := by kernel_rfl
theorem tz_70 : (Try.prog.info? 70).map (fun i => (i.zero, i.size, i.bytes)) = some (some (.nilFunc), 1, 8) := by kernel_rfl
theorem ts_70 : (Try.prog.info? 70).map (·.size) = some 1 := by kernel_rfl
theorem tz_71 : (Try.prog.info? 71).map (fun i => (i.zero, i.size, i.bytes)) = some (some (.nilFunc), 1, 8) := by kernel_rfl
theorem ts_71 : (Try.prog.info? 71).map (·.size) = some 1 := by kernel_rfl
theorem tz_72 : (Try.prog.info? 72).map (fun i => (i.zero, i.size, i.bytes)) = some (some (.nilFunc), 1, 8) := by kernel_rfl
theorem ts_72 : (Try.prog.info? 72).map (·.size) = some 1 := by kernel_rfl
theorem tz_73 : (Try.prog.info? 73).map (fun i => (i.zero, i.size, i.bytes)) = some (some (.nilFunc), 1, 8) := by kernel_rfl
theorem ts_73 : (Try.prog.info? 73).map (·.size) = some 1 := by kernel_rfl
theorem tz_74 : (Try.prog.info? 74).map (fun i => (i.zero, i.size, i.bytes)) = some (some (.nilFunc), 1, 8) := by kernel_rfl
theorem ts_74 : (Try.prog.info? 74).map (·.size) = some 1 := by kernel_rfl
theorem tz_75 : (Try.prog.info? 75).map (fun i => (i.zero, i.size, i.bytes)) = some (some (.nilFunc), 1, 8) := by kernel_rfl
theorem ts_75 : (Try.prog.info? 75).map (·.size) = some 1 := by kernel_rfl
theorem tz_76 : (Try.prog.info? 76).map (fun i => (i.zero, i.size, i.bytes)) = some (some (.nilFunc), 1, 8) := by kernel_rfl
theorem ts_76 : (Try.prog.info? 76).map (·.size) = some 1 := by kernel_rfl
theorem tz_77 : (Try.prog.info? 77).map (fun i => (i.zero, i.size, i.bytes)) = some (some (.slice none 0 0), 1, 24) := by kernel_rfl
theorem ts_77 : (Try.prog.info? 77).map (·.size) = some 1 := by kernel_rfl
theorem tz_78 : (Try.prog.info? 78).map (fun i => (i.zero, i.size, i.bytes)) = some (some (.agg #[.slice none 0 0, .bool false]), 2, 32) := by kernel_rfl
theorem ts_78 : (Try.prog.info? 78).map (·.size) = some 2 := by kernel_rfl
theorem tz_79 : (Try.prog.info? 79).map (fun i => (i.zero, i.size, i.bytes)) = some (some (.agg #[.slice none 0 0, .bool false]), 2, 32) := by kernel_rfl
theorem ts_79 : (Try.prog.info? 79).map (·.size) = some 2 := by kernel_rfl
theorem tz_80 : (Try.prog.info? 80).map (fun i => (i.zero, i.size, i.bytes)) = some (some (.nilFunc), 1, 8) := by kernel_rfl
theorem ts_80 : (Try.prog.info? 80).map (·.size) = some 1 := by kernel_rfl
theorem tz_82 : (Try.prog.info? 82).map (fun i => (i.zero, i.size, i.bytes)) = some (some (.nilFunc), 1, 8) := by kernel_rfl
theorem ts_82 : (Try.prog.info? 82).map (·.size) = some 1 := by kernel_rfl
theorem tz_83 : (Try.prog.info? 83).map (fun i => (i.zero, i.size, i.bytes)) = some (some (.nilFunc), 1, 8) := by kernel_rfl
theorem ts_83 : (Try.prog.info? 83).map (·.size) = some 1 := by kernel_rfl
theorem tz_84 : (Try.prog.info? 84).map (fun i => (i.zero, i.size, i.bytes)) = some (some (.nilFunc), 1, 8) := by kernel_rfl
theorem ts_84 : (Try.prog.info? 84).map (·.size) = some 1 := by kernel_rfl
theorem tz_85 : (Try.prog.info? 85).map (fun i => (i.zero, i.size, i.bytes)) = some (some (.nilFunc), 1, 8) := by kernel_rfl
theorem ts_85 : (Try.prog.info? 85).map (·.size) = some 1 := by kernel_rfl
theorem tz_86 : (Try.prog.info? 86).map (fun i => (i.zero, i.size, i.bytes)) = some (some (.nilFunc), 1, 8) := by kernel_rfl
theorem ts_86 : (Try.prog.info? 86).map (·.size) = some 1 := by kernel_rfl
theorem tz_87 : (Try.prog.info? 87).map (fun i => (i.zero, i.size, i.bytes)) = some (some (.slice none 0 0), 1, 24) := by kernel_rfl
theorem ts_87 : (Try.prog.info? 87).map (·.size) = some 1 := by kernel_rfl
theorem tz_88 : (Try.prog.info? 88).map (fun i => (i.zero, i.size, i.bytes)) = some (some (.nilFunc), 1, 8) := by kernel_rfl
theorem ts_88 : (Try.prog.info? 88).map (·.size) = some 1 := by kernel_rfl
theorem tz_89 : (Try.prog.info? 89).map (fun i => (i.zero, i.size, i.bytes)) = some (some (.int .u64 0), 1, 8) := by kernel_rfl
theorem ts_89 : (Try.prog.info? 89).map (·.size) = some 1 := by kernel_rfl
theorem tz_90 : (Try.prog.info? 90).map (fun i => (i.zero, i.size, i.bytes)) = some (some (.nilFunc), 1, 8) := by kernel_rfl
theorem ts_90 : (Try.prog.info? 90).map (·.size) = some 1 := by kernel_rfl
theorem tz_91 : (Try.prog.info? 91).map (fun i => (i.zero, i.size, i.bytes)) = some (some (.nilFunc), 1, 8) := by kernel_rfl
theorem ts_91 : (Try.prog.info? 91).map (·.size) = some 1 := by kernel_rfl
theorem tz_92 : (Try.prog.info? 92).map (fun i => (i.zero, i.size, i.bytes)) = some (some (.agg #[.pointer none, .pointer none, .pointer none, .string ⟨#[]⟩]), 4, 40) := by kernel_rfl
theorem ts_92 : (Try.prog.info? 92).map (·.size) = some 4 := by kernel_rfl
theorem tz_93 : (Try.prog.info? 93).map (fun i => (i.zero, i.size, i.bytes)) = some (some (.agg #[.pointer none, .pointer none, .pointer none, .string ⟨#[]⟩]), 4, 40) := by kernel_rfl
theorem ts_93 : (Try.prog.info? 93).map (·.size) = some 4 := by kernel_rfl
theorem tz_97 : (Try.prog.info? 97).map (fun i => (i.zero, i.size, i.bytes)) = some (some (.int .u32 0), 1, 4) := by kernel_rfl
theorem ts_97 : (Try.prog.info? 97).map (·.size) = some 1 := by kernel_rfl
theorem tz_98 : (Try.prog.info? 98).map (fun i => (i.zero, i.size, i.bytes)) = some (some (.int .u8 0), 1, 1) := by kernel_rfl
theorem ts_98 : (Try.prog.info? 98).map (·.size) = some 1 := by kernel_rfl
theorem tz_99 : (Try.prog.info? 99).map (fun i => (i.zero, i.size, i.bytes)) = some (some (.int .u8 0), 1, 1) := by kernel_rfl
theorem ts_99 : (Try.prog.info? 99).map (·.size) = some 1 := by kernel_rfl
theorem tz_100 : (Try.prog.info? 100).map (fun i => (i.zero, i.size, i.bytes)) = some (some (.nilFunc), 1, 8) := by kernel_rfl
theorem ts_100 : (Try.prog.info? 100).map (·.size) = some 1 := by kernel_rfl
theorem tz_101 : (Try.prog.info? 101).map (fun i => (i.zero, i.size, i.bytes)) = some (some (.pointer none), 1, 8) := by kernel_rfl
theorem ts_101 : (Try.prog.info? 101).map (·.size) = some 1 := by kernel_rfl
theorem tz_102 : (Try.prog.info? 102).map (fun i => (i.zero, i.size, i.bytes)) = some (some (.int .i32 0), 1, 4) := by kernel_rfl
theorem ts_102 : (Try.prog.info? 102).map (·.size) = some 1 := by kernel_rfl
theorem tz_103 : (Try.prog.info? 103).map (fun i => (i.zero, i.size, i.bytes)) = some (some (.int .i32 0), 1, 4) := by kernel_rfl
theorem ts_103 : (Try.prog.info? 103).map (·.size) = some 1 := by kernel_rfl
theorem tz_104 : (Try.prog.info? 104).map (fun i => (i.zero, i.size, i.bytes)) = some (some (.agg #[.int .u64 0, .int .u64 0, .int .u32 0, .int .u8 0, .int .u8 0, .int .u8 0, .int .u8 0, .nilFunc, .pointer none, .int .i32 0, .int .i32 0]), 11, 48) := by kernel_rfl
theorem ts_104 : (Try.prog.info? 104).map (·.size) = some 11 := by kernel_rfl
theorem tz_105 : (Try.prog.info? 105).map (fun i => (i.zero, i.size, i.bytes)) = some (some (.agg #[.int .u64 0, .int .u64 0, .int .u32 0, .int .u8 0, .int .u8 0, .int .u8 0, .int .u8 0, .nilFunc, .pointer none, .int .i32 0, .int .i32 0]), 11, 48) := by kernel_rfl
theorem ts_105 : (Try.prog.info? 105).map (·.size) = some 11 := by kernel_rfl
theorem mixed_ : Try.prog.follows .mixedOrders = true := by kernel_rfl
def i64v (n : Int) : Value := .int .i64 n
end Go.Proofs.Ytoaodcbfehfdoaa
