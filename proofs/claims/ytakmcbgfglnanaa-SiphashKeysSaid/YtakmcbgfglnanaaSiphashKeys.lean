
/- Proved: SiphashKeys returns true for every two numbers, every key and number, and changes no memory that was there. Conditions: none. -/
import Derived.Test.YtakmcbgfglnanaaKeysRefDerive
import Derived.Test.YtakmcbgfglnanaaKit
namespace Go.Proofs.Ytakmcbgfglnanaa.SiphashKeys
open Go.RowKit

set_option maxRecDepth 100000 in
set_option maxHeartbeats 2000000 in
theorem walk_ (H L : Nat) (kl : List Nat) (u : Nat) (w : World) (h16 : kl.length = 16) (hkb : Bytes kl) (hH : U64 H) (hL : U64 L) (hu : U64 u) :
    Calls Try.prog 12 #[.int .u64 (H : Int), .int .u64 (L : Int), keyV kl, .int .u64 (u : Int)] w fun e w' => e = .returned (.bool true) ∧ Below w.heap.size w w' := by
  have HH := Lib.hid hH
  have HL := Lib.hid hL
  have HU := Lib.hid hu
  have HKB := Lib.hid hkb
  have H16 := Lib.hid h16
  have HF1 := Lib.hid (show (be H 8 ++ be L 8).length = 16 by simp [be_length])
  have HF2 := Lib.hid (show (derK kl u).length = 16 by simp [derK, be_length])
  clear hu hkb h16 hH hL
  have hZ1 := Lib.hid (Arr.new w 105 (kl.map u8v))
  have hbel := (Below.refl w.heap.size w).alloc (Nat.le_refl _) (.cells (kl.map u8v).toArray 105)
  have hs2 : w.heap.size < (w.alloc (.cells (kl.map u8v).toArray 105)).heap.size := by simp
  unfold keyV
  obtain ⟨xs, HX⟩ : ∃ x, Hid ((kl.map u8v).toArray = x) := ⟨_, Lib.hid rfl⟩
  rw [HX.out] at hZ1 hbel hs2 ⊢
  go_enter Try.func12, Try.ntmps12
  go_upto_region 1 with (fail)
  generalize w.alloc (.cells xs 105) = w1 at hZ1 hbel hs2 ⊢
  have hs1 : w.heap.size + 1 ≤ w1.heap.size := by omega
  refine rb_start_at (w.heap.size+1) (by assumption) (by kernel_rfl) (fun wn hwn hBwn => ?_)
  have hbx := hbel.trans (hwn.mono (by omega))
  have AK := hid_arr ((show Arr w1 w.heap.size 105 _ from hZ1.out).below hwn (by omega))
  have hB2 := Nat.lt_of_lt_of_le hs2 hwn.size
  clear hwn hZ1 hbel hs1 hs2
  have hBn : w.heap.size + 1 ≤ wn.heap.size := hB2
  refine rb_take 0 (some 9) (v := ?_) rfl rfl (by kernel_rfl) (by kernel_rfl) (by kernel_rfl) (by kernel_rfl) ?_ ?_
  rotate_left
  focus (intro w' hw'; go_simp; try with_reducible rfl)
  try simp only [Act.put, List.setIfInBounds_toArray, List.set_cons_zero, List.set_cons_succ]
  refine rb_take 1 (some 10) (v := ?_) rfl rfl (by kernel_rfl) (by kernel_rfl) (by kernel_rfl) (by kernel_rfl) ?_ ?_
  rotate_left
  focus (intro w' hw'; go_simp; try with_reducible rfl)
  try simp only [Act.put, List.setIfInBounds_toArray, List.set_cons_zero, List.set_cons_succ]
  refine rb_take 3 (some 12) (v := ?_) rfl rfl (by kernel_rfl) (by kernel_rfl) (by kernel_rfl) (by kernel_rfl) ?_ ?_
  rotate_left
  focus (intro w' hw'; go_simp; try with_reducible rfl)
  try simp only [Act.put, List.setIfInBounds_toArray, List.set_cons_zero, List.set_cons_succ]
  refine rb_take 4 (some 13) (v := ?_) rfl rfl (by kernel_rfl) (by kernel_rfl) (by kernel_rfl) (by kernel_rfl) ?_ ?_
  rotate_left
  focus (intro w' hw'; go_simp; try with_reducible rfl)
  try simp only [Act.put, List.setIfInBounds_toArray, List.set_cons_zero, List.set_cons_succ]
  refine rb_keep 2 rfl (by kernel_rfl) (by kernel_rfl) (by first | assumption | exact hBB _ _ | exact Nat.le_refl _) (fun K hK => ?_)
  go_simp
  refine (of_c H L wn HH.out HL.out).mono ?_
  rintro e wn ⟨rfl, hb⟩
  refine hK.out _ _ (hb.mono (by assumption)) ?_
  clear hK K
  replace hbx := hbx.trans (hb.mono hbx.size)
  replace AK := hid_arr (AK.out.below hb (by omega))
  replace hB2 := Nat.lt_of_lt_of_le hB2 hb.size
  have hBn : w.heap.size + 1 ≤ wn.heap.size := hB2
  clear hb
  try simp only [Act.put, List.setIfInBounds_toArray, List.set_cons_zero, List.set_cons_succ]
  refine rb_keep 5 rfl (by kernel_rfl) (by kernel_rfl) (by first | assumption | exact hBB _ _ | exact Nat.le_refl _) (fun K hK => ?_)
  go_simp
  refine (ref_of_c H L wn HH.out HL.out).mono ?_
  rintro e wn ⟨rfl, hb⟩
  refine hK.out _ _ (hb.mono (by assumption)) ?_
  clear hK K
  replace hbx := hbx.trans (hb.mono hbx.size)
  replace AK := hid_arr (AK.out.below hb (by omega))
  replace hB2 := Nat.lt_of_lt_of_le hB2 hb.size
  have hBn : w.heap.size + 1 ≤ wn.heap.size := hB2
  clear hb
  try simp only [Act.put, List.setIfInBounds_toArray, List.set_cons_zero, List.set_cons_succ]
  refine rb_take 6 (some 15) (v := .bool true) rfl rfl (by kernel_rfl) (by kernel_rfl) (by kernel_rfl) (by kernel_rfl) ?_ ?_
  focus (intro w' hw'; exact eq_key _ _ _ rfl (be H 8 ++ be L 8) HF1.out rfl rfl)
  try simp only [Act.put, List.setIfInBounds_toArray, List.set_cons_zero, List.set_cons_succ]
  refine rb_take 7 (some 16) (v := ?_) rfl rfl (by kernel_rfl) (by kernel_rfl) (by kernel_rfl) (by kernel_rfl) ?_ ?_
  rotate_left
  focus (intro w' hw'; go_simp; try with_reducible rfl)
  try simp only [Act.put, List.setIfInBounds_toArray, List.set_cons_zero, List.set_cons_succ]
  refine rb_take 8 (some 17) (v := keyV kl) rfl rfl (by kernel_rfl) (by kernel_rfl) (by kernel_rfl) (by kernel_rfl) ?_ ?_
  focus (intro w' hw'; exact exec_loadA _ _ rfl w.heap.size _ (kl.map u8v) rfl (AK.out.below hw' (by omega)) _ Try.underlying105 rfl (key_size2 H16.out) rfl)
  try simp only [Act.put, List.setIfInBounds_toArray, List.set_cons_zero, List.set_cons_succ]
  refine rb_take 9 (some 18) (v := ?_) rfl rfl (by kernel_rfl) (by kernel_rfl) (by kernel_rfl) (by kernel_rfl) ?_ ?_
  rotate_left
  focus (intro w' hw'; go_simp; try with_reducible rfl)
  try simp only [Act.put, List.setIfInBounds_toArray, List.set_cons_zero, List.set_cons_succ]
  refine rb_take 11 (some 20) (v := keyV kl) rfl rfl (by kernel_rfl) (by kernel_rfl) (by kernel_rfl) (by kernel_rfl) ?_ ?_
  focus (intro w' hw'; exact exec_loadA _ _ rfl w.heap.size _ (kl.map u8v) rfl (AK.out.below hw' (by omega)) _ Try.underlying105 rfl (key_size2 H16.out) rfl)
  try simp only [Act.put, List.setIfInBounds_toArray, List.set_cons_zero, List.set_cons_succ]
  refine rb_take 12 (some 21) (v := ?_) rfl rfl (by kernel_rfl) (by kernel_rfl) (by kernel_rfl) (by kernel_rfl) ?_ ?_
  rotate_left
  focus (intro w' hw'; go_simp; try with_reducible rfl)
  try simp only [Act.put, List.setIfInBounds_toArray, List.set_cons_zero, List.set_cons_succ]
  refine rb_keep 10 rfl (by kernel_rfl) (by kernel_rfl) (by first | assumption | exact hBB _ _ | exact Nat.le_refl _) (fun K hK => ?_)
  go_simp
  refine (derive_c kl u wn H16.out HKB.out HU.out).mono ?_
  rintro e wn ⟨rfl, hb⟩
  refine hK.out _ _ (hb.mono (by assumption)) ?_
  clear hK K
  replace hbx := hbx.trans (hb.mono hbx.size)
  replace AK := hid_arr (AK.out.below hb (by omega))
  replace hB2 := Nat.lt_of_lt_of_le hB2 hb.size
  have hBn : w.heap.size + 1 ≤ wn.heap.size := hB2
  clear hb
  try simp only [Act.put, List.setIfInBounds_toArray, List.set_cons_zero, List.set_cons_succ]
  refine rb_keep 13 rfl (by kernel_rfl) (by kernel_rfl) (by first | assumption | exact hBB _ _ | exact Nat.le_refl _) (fun K hK => ?_)
  go_simp
  refine (ref_derive_c kl u wn H16.out HKB.out HU.out).mono ?_
  rintro e wn ⟨rfl, hb⟩
  refine hK.out _ _ (hb.mono (by assumption)) ?_
  clear hK K
  replace hbx := hbx.trans (hb.mono hbx.size)
  replace AK := hid_arr (AK.out.below hb (by omega))
  replace hB2 := Nat.lt_of_lt_of_le hB2 hb.size
  have hBn : w.heap.size + 1 ≤ wn.heap.size := hB2
  clear hb
  try simp only [Act.put, List.setIfInBounds_toArray, List.set_cons_zero, List.set_cons_succ]
  refine rb_take 14 (some 23) (v := .bool true) rfl rfl (by kernel_rfl) (by kernel_rfl) (by kernel_rfl) (by kernel_rfl) ?_ ?_
  focus (intro w' hw'; exact eq_key _ _ _ rfl (derK kl u) HF2.out rfl rfl)
  try simp only [Act.put, List.setIfInBounds_toArray, List.set_cons_zero, List.set_cons_succ]
  refine rb_take 15 (some 24) (v := ?_) rfl rfl (by kernel_rfl) (by kernel_rfl) (by kernel_rfl) (by kernel_rfl) ?_ ?_
  rotate_left
  focus (intro w' hw'; go_simp; try with_reducible rfl)
  try simp only [Act.put, List.setIfInBounds_toArray, List.set_cons_zero, List.set_cons_succ]
  refine rb_take 16 (some 25) (v := ?_) rfl rfl (by kernel_rfl) (by kernel_rfl) (by kernel_rfl) (by kernel_rfl) ?_ ?_
  rotate_left
  focus (intro w' hw'; go_simp; try with_reducible rfl)
  try simp only [Act.put, List.setIfInBounds_toArray, List.set_cons_zero, List.set_cons_succ]
  refine rb_keep 17 rfl (by kernel_rfl) (by kernel_rfl) (by first | assumption | exact hBB _ _ | exact Nat.le_refl _) (fun K hK => ?_)
  go_simp
  refine (sip_awake_c _).mono ?_
  rintro e wn ⟨rfl, hb⟩
  refine hK.out _ _ (hb.mono (by assumption)) ?_
  clear hK K
  replace hbx := hbx.trans (hb.mono hbx.size)
  replace AK := hid_arr (AK.out.below hb (by omega))
  replace hB2 := Nat.lt_of_lt_of_le hB2 hb.size
  have hBn : w.heap.size + 1 ≤ wn.heap.size := hB2
  clear hb
  try simp only [Act.put, List.setIfInBounds_toArray, List.set_cons_zero, List.set_cons_succ]
  refine rb_take 18 (some 27) (v := ?_) rfl rfl (by kernel_rfl) (by kernel_rfl) (by kernel_rfl) (by kernel_rfl) ?_ ?_
  rotate_left
  focus (intro w' hw'; go_simp; try with_reducible rfl)
  try simp only [Act.put, List.setIfInBounds_toArray, List.set_cons_zero, List.set_cons_succ]
  refine rb_take 19 (some 8) (v := ?_) rfl rfl (by kernel_rfl) (by kernel_rfl) (by kernel_rfl) (by kernel_rfl) ?_ ?_
  rotate_left
  focus (intro w' hw'; go_simp; try with_reducible rfl)
  try simp only [Act.put, List.setIfInBounds_toArray, List.set_cons_zero, List.set_cons_succ]
  refine rb_done (by first | assumption | exact hBB _ _ | exact Nat.le_refl _) (by kernel_rfl) ?_
  go_wp2_with fail
  go_ret
  exact ⟨rfl, hbx⟩

open Go.ChangeShapes Go.WideShapes Go.ChangeAt in
set_option maxRecDepth 100000 in
theorem walk {H : Type} {enc : TypeId × Value → H} {r : Reach} {b0 : Nat} {d : DataW H} {ps : List MemPlace} (a0 a1 : Int) (v : Value) (a3 : Int) (w : World)
    (w0 : 0 ≤ a0 ∧ a0 < 18446744073709551616) (w1 : 0 ≤ a1 ∧ a1 < 18446744073709551616)
    (hval : Value.okWide Try.prog w r b0 105 v) (hd : DataW.Trod enc Try.prog w 0 (fun _ => true) true 105 v d ps)
    (w3 : 0 ≤ a3 ∧ a3 < 18446744073709551616) :
    Calls Try.prog 12 #[.int .u64 a0, .int .u64 a1, v, .int .u64 a3] w fun e w' => e = .returned (.bool true) ∧ Below w.heap.size w w' := by
  obtain ⟨kl, rfl, h16, hb⟩ := open_key hval hd
  obtain ⟨H, rfl⟩ := Int.eq_ofNat_of_zero_le w0.1
  obtain ⟨L, rfl⟩ := Int.eq_ofNat_of_zero_le w1.1
  obtain ⟨u, rfl⟩ := Int.eq_ofNat_of_zero_le w3.1
  exact walk_ H L kl u w h16 hb (U64.of (by omega)) (U64.of (by omega)) (U64.of (by omega))
end Go.Proofs.Ytakmcbgfglnanaa.SiphashKeys
