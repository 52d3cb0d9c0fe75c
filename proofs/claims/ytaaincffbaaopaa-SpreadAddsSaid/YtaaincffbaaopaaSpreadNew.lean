/- spread.New and Pick by contracts, and the chapter's example. Conditions: none but bounds. -/
import Derived.Test.YtaaincffbaaopaaSpread
import Derived.Test.YtaaincffbaaopaaAppend
import Derived.Test.YtaaincffbaaopaaRegion
import Derived.Laws.ResultCell
namespace Go.Proofs.Ytaaincffbaaopaa
open Go.RowKit

def i64v (n : Int) : Value := .int .i64 n
/-- The first k places of a table. -/
def cyc (to : List Int) : Nat → List Int
  | 0 => []
  | k + 1 => cyc to k ++ [to.getD (k % to.length) 0]
theorem cyc_length (to : List Int) (k : Nat) : (cyc to k).length = k := by
  induction k with
  | zero => rfl
  | succ k ih => simp [cyc, ih]
theorem i64info : (Try.prog.info? 3).map (fun i => (i.zero, i.size, i.bytes)) = some (some (.int .i64 0), 1, 8) := by kernel_rfl

set_option maxRecDepth 100000 in
theorem spread_new_c (n : Nat) (A : Option Addr) (c : Nat) (to : List Int) (w : World) (hv : View w w.heap.size A (to.map i64v)) (hn : 1 ≤ n) (hn4 : n ≤ 4096) (hto : 0 < to.length) (htl : to.length ≤ 1000000)
    (hand : bits .and .i64 (n : Int) ((n : Int) - 1) = 0) :
    Calls Try.prog 62 #[.int .i64 (n : Int), .slice A to.length c] w fun e w' => ∃ A' c', e = .returned (.tuple #[.agg #[.slice A' n c'], .int .i64 0]) ∧ n ≤ c' ∧ View w' w'.heap.size A' ((cyc to n).map i64v) ∧ Below w.heap.size w w' := by
  have h1 : (1 : Int) ≤ (n : Int) ∧ (n : Int) ≤ 4096 := by omega
  have h2 : ((to.length : Int) == 0) = false := by rw [beq_eq_false_iff_ne]; omega
  have h3 : ¬ to.length = 0 := by omega
  go_enter Try.func62, Try.ntmps62
  go_wp2_with fail
  go_loopw [28] (fun i wr => ∃ (k : Nat) (A' : Option Addr) (c' : Nat), k ≤ n ∧ i = .int .i64 (k : Int) ∧ Hid (Arr wr w.heap.size 107 [.slice none 0 0]) ∧ Hid (Arr wr (w.heap.size + 1) 107 [.slice A' k c']) ∧
    Hid (Own wr (w.heap.size + 2) 3 A' k c' ((cyc to k).map i64v)) ∧ Below w.heap.size w wr) (fun i _ => n - (intOf i).toNat)
  case atStart => exact ⟨0, none, 0, Nat.zero_le _, rfl, hid_arr ((Arr.new w 107 [.slice none 0 0]).alloc _), hid_arr (by have h := Arr.new (w.alloc (.cells #[.slice none 0 0] 107)) 107 [.slice none 0 0]; simpa using h), Own.nil_ _ _ _, ((Below.refl _ _).alloc (Nat.le_refl _) _).alloc (by simp) _⟩
  case round =>
    rename_i wr
    obtain ⟨k, A', c', hk, rfl, hR, hT, hO, hbel⟩ := hrel
    by_cases hlt : k < n
    · have hk0 : (k : Int) < (n : Int) := by omega
      obtain ⟨m, hmk⟩ : ∃ m, m = k % to.length := ⟨_, rfl⟩
      have hkm : m < to.length := by rw [hmk]; exact Nat.mod_lt _ hto
      obtain ⟨bt, ot, rfl, hbt, hct⟩ := (hv.below hbel) (by intro e; rw [List.map_eq_nil_iff] at e; rw [e] at hto; simp at hto)
      have q0 := hct m (i64v (to.getD m 0)) (by rw [List.getElem?_map, List.getD_eq_getElem?_getD, List.getElem?_eq_getElem hkm]; rfl)
      unfold i64v at q0
      have hTl := hT.out.lt
      have hRl := hR.out.lt
      have HM := Lib.hid (show (k : Int).tmod (to.length : Int) = (m : Int) by rw [hmk, Int.tmod_eq_emod_of_nonneg (by omega), ← Int.natCast_emod])
      have HC := Lib.hid (show cyc to (k + 1) = cyc to k ++ [to.getD m 0] by rw [hmk]; rfl)
      have hm0 : (0 : Int) ≤ (m : Int) := by omega
      have hm1 : (m : Int) < (to.length : Int) := by omega
      have hws : w.heap.size ≤ wr.heap.size := hbel.size
      clear hct hmk
      generalize to.getD m 0 = u at q0 HC
      go_wp2_with fail
      refine rb_start_at (w.heap.size) (by assumption) (by kernel_rfl) (fun wx hwx hBwx => ?_)
      have hTx := hT.out.below hwx hTl
      have hRx := hR.out.below hwx hRl
      have hOx := Lib.hid (own_keep hO.out (Mod.of_below (g := wr.heap.size) hwx) (by intro a ha e; injection e with e; have := (World.ownsRow.lt hO.out a (by rw [ha]; rfl)).2; omega))
      have hTxl := hTx.lt
      have p0 := (hwx.cell (p := ⟨bt, ot + m, none⟩) (by simp; omega)).trans q0
      have hbx := hbel.trans (hwx.mono hbel.size)
      refine rb_take 0 (some 31) (v := ?_) rfl rfl (by kernel_rfl) (by kernel_rfl) (by kernel_rfl) (by kernel_rfl) ?_ ?_
      rotate_left
      focus (intro w' hw'; go_simp; try with_reducible rfl)
      try simp only [Act.put, List.setIfInBounds_toArray, List.set_cons_zero, List.set_cons_succ]
      refine rb_take 2 (some 33) (v := ?_) rfl rfl (by kernel_rfl) (by kernel_rfl) (by kernel_rfl) (by kernel_rfl) ?_ ?_
      rotate_left
      focus (intro w' hw'; go_simp; try with_reducible rfl)
      try simp only [Act.put, List.setIfInBounds_toArray, List.set_cons_zero, List.set_cons_succ]
      refine rb_take 3 (some 34) (v := ?_) rfl rfl (by kernel_rfl) (by kernel_rfl) (by kernel_rfl) (by kernel_rfl) ?_ ?_
      rotate_left
      focus (intro w' hw'; go_simp; try with_reducible rfl)
      try simp only [Act.put, List.setIfInBounds_toArray, List.set_cons_zero, List.set_cons_succ]
      refine rb_take 4 (some 35) (v := ?_) rfl rfl (by kernel_rfl) (by kernel_rfl) (by kernel_rfl) (by kernel_rfl) ?_ ?_
      rotate_left
      focus (intro w' hw'; go_simp; try with_reducible rfl)
      try simp only [Act.put, List.setIfInBounds_toArray, List.set_cons_zero, List.set_cons_succ]
      refine rb_take 5 (some 36) (v := ?_) rfl rfl (by kernel_rfl) (by kernel_rfl) (by kernel_rfl) (by kernel_rfl) ?_ ?_
      rotate_left
      focus (intro w' hw'; go_simp; try with_reducible rfl)
      try simp only [Act.put, List.setIfInBounds_toArray, List.set_cons_zero, List.set_cons_succ]
      refine rb_take 6 (some 37) (v := ?_) rfl rfl (by kernel_rfl) (by kernel_rfl) (by kernel_rfl) (by kernel_rfl) ?_ ?_
      rotate_left
      focus (intro w' hw'; go_simp; rw [HM.out])
      try simp only [Act.put, List.setIfInBounds_toArray, List.set_cons_zero, List.set_cons_succ]
      refine rb_take 7 (some 38) (v := ?_) rfl rfl (by kernel_rfl) (by kernel_rfl) (by kernel_rfl) (by kernel_rfl) ?_ ?_
      rotate_left
      focus (intro w' hw'; go_simp; try with_reducible rfl)
      try simp only [Act.put, List.setIfInBounds_toArray, List.set_cons_zero, List.set_cons_succ]
      refine rb_take 8 (some 39) (v := ?_) rfl rfl (by kernel_rfl) (by kernel_rfl) (by kernel_rfl) (by kernel_rfl) ?_ ?_
      rotate_left
      focus (intro w' hw'; have q := (hw'.cell (p := ⟨bt, ot + m, none⟩) (by simp; omega)).trans p0; go_simp; try with_reducible rfl)
      try simp only [Act.put, List.setIfInBounds_toArray, List.set_cons_zero, List.set_cons_succ]
      refine rb_keep2 1 9 rfl rfl (by kernel_rfl) (by kernel_rfl) (by kernel_rfl) (by assumption) (fun K hK => ?_) (fun K hK => ?_)
      · have qT := hTx.cell 0
        have qT2 := (hTx.alloc (.cells #[.int .i64 u] 3)).cell 0
        simp only [List.getElem?_cons_zero] at qT qT2
        go_simp
        refine hK.out _ _ (Below.refl _ _) ?_
        clear hK K qT qT2
        try simp only [Act.put, List.setIfInBounds_toArray, List.set_cons_zero, List.set_cons_succ]
        refine rb_keep 9 rfl (by kernel_rfl) (by kernel_rfl) (by assumption) (fun K hK => ?_)
        go_simp
        refine hK.out _ _ ((Below.refl _ _).alloc hBwx _) ?_
        clear hK K
        have hB9 : w.heap.size ≤ (wx.alloc (.cells #[.int .i64 u] 3)).heap.size := by simp; omega
        try simp only [Act.put, List.setIfInBounds_toArray, List.set_cons_zero, List.set_cons_succ]
        refine rb_keep 10 rfl (by kernel_rfl) (by kernel_rfl) (by assumption) (fun K hK => ?_)
        refine owp_append_one _ _ _ rfl (w.heap.size + 2) 3 (.int .i64 0) 8 rfl Try.underlying105 i64info A' k c' ((cyc to k).map i64v) rfl (Own.alloc hOx.out _) wx.heap.size (.int .i64 u) rfl ((Arr.new wx 3 [.int .i64 u]).cell 0) rfl (by unfold maxLen; omega) (by omega) (by simp; omega) ?_
        intro ga ca wz hoz hgz hplz hlz
        have hbz := (Below.refl w.heap.size (wx.alloc (.cells #[.int .i64 u] 3))).grown hgz hB9 (by intro k9 hk9; rcases row_form hOx.out with h | ⟨g9, h, h1, _⟩ <;> rw [h] at hk9 <;> simp at hk9; omega)
        refine hK.out _ _ hbz ?_
        clear hK K
        have hB10 : w.heap.size ≤ wz.heap.size := Nat.le_trans hB9 hbz.size
        have hRz := Lib.hid ((hgz.block w.heap.size (hRx.alloc _).lt (by rcases row_form hOx.out with h | ⟨g9, h, h1, _⟩ <;> rw [h] <;> simp <;> omega)).trans (hRx.alloc _))
        have hTz := Lib.hid ((hgz.block (w.heap.size + 1) (hTx.alloc _).lt (by rcases row_form hOx.out with h | ⟨g9, h, h1, _⟩ <;> rw [h] <;> simp <;> omega)).trans (hTx.alloc _))
        try simp only [Act.put, List.setIfInBounds_toArray, List.set_cons_zero, List.set_cons_succ]
        refine rb_take 11 (some 42) (v := ?_) rfl rfl (by kernel_rfl) (by kernel_rfl) (by kernel_rfl) (by kernel_rfl) ?_ ?_
        rotate_left
        focus (intro w' hw'; go_simp; try with_reducible rfl)
        try simp only [Act.put, List.setIfInBounds_toArray, List.set_cons_zero, List.set_cons_succ]
        refine rb_keep 12 rfl (by kernel_rfl) (by kernel_rfl) (by assumption) (fun K hK => ?_)
        have qz := (show Arr wz (w.heap.size + 1) 107 [.slice A' k c'] from hTz.out).cell 0
        have fz := (show Arr wz (w.heap.size + 1) 107 [.slice A' k c'] from hTz.out).frozen 0
        simp only [List.getElem?_cons_zero] at qz
        have hst : Below w.heap.size wz (wz.setCell ⟨w.heap.size + 1, 0, none⟩ (.slice (some ⟨ga, 0, none⟩) (k + 1) ca)) := (((Mod.refl (w.heap.size + 1) wz).set 0 _).below (by have := (show Arr wz (w.heap.size + 1) 107 [.slice A' k c'] from hTz.out).lt; omega)).mono (by omega)
        go_simp
        refine hK.out _ _ hst ?_
        clear hK K qz fz
        have hB12 := Nat.le_trans hB10 hst.size
        try simp only [Act.put, List.setIfInBounds_toArray, List.set_cons_zero, List.set_cons_succ]
        refine rb_done (by assumption) (by kernel_rfl) ?_
        go_wp2
        go_roundw
        case rel => (refine ⟨k + 1, some ⟨ga, 0, none⟩, ca, by omega, by go_num, hid_arr (Arr.far (show Arr wz w.heap.size 107 [.slice none 0 0] from hRz.out) (by simp) _), hid_arr ((show Arr wz (w.heap.size + 1) 107 [.slice A' k c'] from hTz.out).set_ 0 _), ?_, hbx.trans (((Below.refl _ _).alloc hBwx _).trans (hbz.trans hst))⟩; rw [HC.out, List.map_append]; exact own_keep hoz.out ((Mod.refl (w.heap.size + 1) wz).set 0 _) (by intro a ha e; injection e with e; have := (World.ownsRow.lt hoz.out a (by rw [ha]; rfl)).1; omega))
        case measure => (simp [intOf] <;> omega)
      · go_simp
        refine hK.out _ _ ((Below.refl _ _).alloc hBwx _) ?_
        clear hK K
        have hB9 : w.heap.size ≤ (wx.alloc (.cells #[.int .i64 u] 3)).heap.size := by simp; omega
        try simp only [Act.put, List.setIfInBounds_toArray, List.set_cons_zero, List.set_cons_succ]
        refine rb_keep 1 rfl (by kernel_rfl) (by kernel_rfl) (by assumption) (fun K hK => ?_)
        have qT := hTx.cell 0
        have qT2 := (hTx.alloc (.cells #[.int .i64 u] 3)).cell 0
        simp only [List.getElem?_cons_zero] at qT qT2
        go_simp
        refine hK.out _ _ (Below.refl _ _) ?_
        clear hK K qT qT2
        try simp only [Act.put, List.setIfInBounds_toArray, List.set_cons_zero, List.set_cons_succ]
        refine rb_keep 10 rfl (by kernel_rfl) (by kernel_rfl) (by assumption) (fun K hK => ?_)
        refine owp_append_one _ _ _ rfl (w.heap.size + 2) 3 (.int .i64 0) 8 rfl Try.underlying105 i64info A' k c' ((cyc to k).map i64v) rfl (Own.alloc hOx.out _) wx.heap.size (.int .i64 u) rfl ((Arr.new wx 3 [.int .i64 u]).cell 0) rfl (by unfold maxLen; omega) (by omega) (by simp; omega) ?_
        intro ga ca wz hoz hgz hplz hlz
        have hbz := (Below.refl w.heap.size (wx.alloc (.cells #[.int .i64 u] 3))).grown hgz hB9 (by intro k9 hk9; rcases row_form hOx.out with h | ⟨g9, h, h1, _⟩ <;> rw [h] at hk9 <;> simp at hk9; omega)
        refine hK.out _ _ hbz ?_
        clear hK K
        have hB10 : w.heap.size ≤ wz.heap.size := Nat.le_trans hB9 hbz.size
        have hRz := Lib.hid ((hgz.block w.heap.size (hRx.alloc _).lt (by rcases row_form hOx.out with h | ⟨g9, h, h1, _⟩ <;> rw [h] <;> simp <;> omega)).trans (hRx.alloc _))
        have hTz := Lib.hid ((hgz.block (w.heap.size + 1) (hTx.alloc _).lt (by rcases row_form hOx.out with h | ⟨g9, h, h1, _⟩ <;> rw [h] <;> simp <;> omega)).trans (hTx.alloc _))
        try simp only [Act.put, List.setIfInBounds_toArray, List.set_cons_zero, List.set_cons_succ]
        refine rb_take 11 (some 42) (v := ?_) rfl rfl (by kernel_rfl) (by kernel_rfl) (by kernel_rfl) (by kernel_rfl) ?_ ?_
        rotate_left
        focus (intro w' hw'; go_simp; try with_reducible rfl)
        try simp only [Act.put, List.setIfInBounds_toArray, List.set_cons_zero, List.set_cons_succ]
        refine rb_keep 12 rfl (by kernel_rfl) (by kernel_rfl) (by assumption) (fun K hK => ?_)
        have qz := (show Arr wz (w.heap.size + 1) 107 [.slice A' k c'] from hTz.out).cell 0
        have fz := (show Arr wz (w.heap.size + 1) 107 [.slice A' k c'] from hTz.out).frozen 0
        simp only [List.getElem?_cons_zero] at qz
        have hst : Below w.heap.size wz (wz.setCell ⟨w.heap.size + 1, 0, none⟩ (.slice (some ⟨ga, 0, none⟩) (k + 1) ca)) := (((Mod.refl (w.heap.size + 1) wz).set 0 _).below (by have := (show Arr wz (w.heap.size + 1) 107 [.slice A' k c'] from hTz.out).lt; omega)).mono (by omega)
        go_simp
        refine hK.out _ _ hst ?_
        clear hK K qz fz
        have hB12 := Nat.le_trans hB10 hst.size
        try simp only [Act.put, List.setIfInBounds_toArray, List.set_cons_zero, List.set_cons_succ]
        refine rb_done (by assumption) (by kernel_rfl) ?_
        go_wp2
        go_roundw
        case rel => (refine ⟨k + 1, some ⟨ga, 0, none⟩, ca, by omega, by go_num, hid_arr (Arr.far (show Arr wz w.heap.size 107 [.slice none 0 0] from hRz.out) (by simp) _), hid_arr ((show Arr wz (w.heap.size + 1) 107 [.slice A' k c'] from hTz.out).set_ 0 _), ?_, hbx.trans (((Below.refl _ _).alloc hBwx _).trans (hbz.trans hst))⟩; rw [HC.out, List.map_append]; exact own_keep hoz.out ((Mod.refl (w.heap.size + 1) wz).set 0 _) (by intro a ha e; injection e with e; have := (World.ownsRow.lt hoz.out a (by rw [ha]; rfl)).1; omega))
        case measure => (simp [intOf] <;> omega)
    · obtain rfl : k = n := by omega
      have qR := hR.out.cell 0
      have qT := hT.out.cell 0
      have fR := hR.out.frozen 0
      simp only [List.getElem?_cons_zero] at qR qT
      go_wp2_with fail
      have hR2 : Arr (wr.setCell ⟨w.heap.size, 0, none⟩ (.slice A' k c')) w.heap.size 107 [.slice A' k c'] := hR.out.set_ 0 _
      have qr := hR2.cell 0
      simp only [List.getElem?_cons_zero] at qr
      refine bodyPost_ret_by (v := .tuple #[.agg #[.slice A' k c'], .int .i64 0]) ?_ rfl ?_
      · rw [results_cell_tmp (p := 4) (u := 5) (ty := 107) rfl]
        go_simp
      · have hm := (Mod.refl w.heap.size wr).set 0 (.slice A' k c')
        have hO2 := own_keep hO.out hm (by intro a ha e; injection e with e; have := (World.ownsRow.lt hO.out a (by rw [ha]; rfl)).1; omega)
        exact ⟨A', c', rfl, Own.le_cap hO2, Own.view hO2, hbel.trans (hm.below hbel.size)⟩

set_option maxRecDepth 100000 in
theorem table_pick_c (n : Nat) (A : Option Addr) (c : Nat) (l : List Int) (sum : Nat) (w : World) (hv : View w w.heap.size A (l.map i64v)) (hl : l.length = n) (hn : 1 ≤ n) (hn4 : n ≤ 4096) (hs : sum < 4294967296) :
    Calls Try.prog 63 #[.agg #[.slice A n c], .int .u32 (sum : Int)] w fun e w' => e = .returned (.int .i64 (l.getD (sum % n) 0)) ∧ Below w.heap.size w w' := by
  have h1 : (1 : Int) ≤ (n : Int) ∧ (n : Int) ≤ 4096 := by omega
  have h2 : ((n : Int) == 0) = false := by rw [beq_eq_false_iff_ne]; omega
  have h3 : ¬ n = 0 := by omega
  have hs1 : (0 : Int) ≤ (sum : Int) ∧ (sum : Int) < 4294967296 := by omega
  obtain ⟨m, hmk⟩ : ∃ m, m = sum % n := ⟨_, rfl⟩
  have hm : m < l.length := by rw [hl, hmk]; exact Nat.mod_lt _ (by omega)
  obtain ⟨bt, ot, rfl, hbt, hct⟩ := hv (by intro e; rw [List.map_eq_nil_iff] at e; rw [e] at hm; simp at hm)
  have q0 := hct m (i64v (l.getD m 0)) (by rw [List.getElem?_map, List.getD_eq_getElem?_getD, List.getElem?_eq_getElem hm]; rfl)
  unfold i64v at q0
  have HN := Lib.hid (show IntKind.u32.wrap (n : Int) = (n : Int) by rw [IntKind.wrap_u32]; omega)
  have HS := Lib.hid (show (sum : Int).tmod (n : Int) = (m : Int) by rw [hmk, Int.tmod_eq_emod_of_nonneg (by omega), ← Int.natCast_emod])
  have HG := Lib.hid (show l.getD (sum % n) 0 = l.getD m 0 by rw [hmk])
  have hm0 : (0 : Int) ≤ (m : Int) := by omega
  have hm1 : (m : Int) < (n : Int) := by omega
  clear hmk hct
  generalize l.getD m 0 = u at q0 HG
  have hN := hid_arr (Arr.new w 107 [.slice (some ⟨bt, ot, none⟩) n c])
  have hBw : Below w.heap.size w (w.alloc (.cells #[.slice (some ⟨bt, ot, none⟩) n c] 107)) := (Below.refl _ _).alloc (Nat.le_refl _) _
  go_enter Try.func63, Try.ntmps63
  go_wp2_with fail
  refine rb_start (by kernel_rfl) (fun wx hwx => ?_)
  have hNx := (show Arr _ w.heap.size 107 [.slice (some ⟨bt, ot, none⟩) n c] from hN.out).below hwx hN.out.lt
  have hNl := hNx.lt
  have qn := hNx.cell 0
  simp only [List.getElem?_cons_zero] at qn
  have hbx := hBw.trans (hwx.mono hBw.size)
  have p0 := (hbx.cell (p := ⟨bt, ot + m, none⟩) (by simp; omega)).trans q0
  refine rb_take 0 (some 9) (v := ?_) rfl rfl (by kernel_rfl) (by kernel_rfl) (by kernel_rfl) (by kernel_rfl) ?_ ?_
  rotate_left
  focus (intro w' hw'; go_simp; try with_reducible rfl)
  try simp only [Act.put, List.setIfInBounds_toArray, List.set_cons_zero, List.set_cons_succ]
  refine rb_take 1 (some 10) (v := ?_) rfl rfl (by kernel_rfl) (by kernel_rfl) (by kernel_rfl) (by kernel_rfl) ?_ ?_
  rotate_left
  focus (intro w' hw'; have q := (hw'.cell (p := ⟨w.heap.size, 0, none⟩) (by simp; omega)).trans qn; go_simp; try with_reducible rfl)
  try simp only [Act.put, List.setIfInBounds_toArray, List.set_cons_zero, List.set_cons_succ]
  refine rb_take 2 (some 11) (v := ?_) rfl rfl (by kernel_rfl) (by kernel_rfl) (by kernel_rfl) (by kernel_rfl) ?_ ?_
  rotate_left
  focus (intro w' hw'; go_simp; try with_reducible rfl)
  try simp only [Act.put, List.setIfInBounds_toArray, List.set_cons_zero, List.set_cons_succ]
  refine rb_take 3 (some 12) (v := ?_) rfl rfl (by kernel_rfl) (by kernel_rfl) (by kernel_rfl) (by kernel_rfl) ?_ ?_
  rotate_left
  focus (intro w' hw'; go_simp; try with_reducible rfl)
  try simp only [Act.put, List.setIfInBounds_toArray, List.set_cons_zero, List.set_cons_succ]
  refine rb_take 4 (some 13) (v := ?_) rfl rfl (by kernel_rfl) (by kernel_rfl) (by kernel_rfl) (by kernel_rfl) ?_ ?_
  rotate_left
  focus (intro w' hw'; have q := (hw'.cell (p := ⟨w.heap.size, 0, none⟩) (by simp; omega)).trans qn; go_simp; try with_reducible rfl)
  try simp only [Act.put, List.setIfInBounds_toArray, List.set_cons_zero, List.set_cons_succ]
  refine rb_take 5 (some 14) (v := ?_) rfl rfl (by kernel_rfl) (by kernel_rfl) (by kernel_rfl) (by kernel_rfl) ?_ ?_
  rotate_left
  focus (intro w' hw'; go_simp; try with_reducible rfl)
  try simp only [Act.put, List.setIfInBounds_toArray, List.set_cons_zero, List.set_cons_succ]
  refine rb_take 6 (some 15) (v := ?_) rfl rfl (by kernel_rfl) (by kernel_rfl) (by kernel_rfl) (by kernel_rfl) ?_ ?_
  rotate_left
  focus (intro w' hw'; go_simp; first | rw [HN.out] | with_reducible rfl)
  try simp only [Act.put, List.setIfInBounds_toArray, List.set_cons_zero, List.set_cons_succ]
  refine rb_take 7 (some 16) (v := ?_) rfl rfl (by kernel_rfl) (by kernel_rfl) (by kernel_rfl) (by kernel_rfl) ?_ ?_
  rotate_left
  focus (intro w' hw'; go_simp; first | rw [HS.out] | with_reducible rfl)
  try simp only [Act.put, List.setIfInBounds_toArray, List.set_cons_zero, List.set_cons_succ]
  refine rb_take 8 (some 17) (v := ?_) rfl rfl (by kernel_rfl) (by kernel_rfl) (by kernel_rfl) (by kernel_rfl) ?_ ?_
  rotate_left
  focus (intro w' hw'; go_simp; try with_reducible rfl)
  try simp only [Act.put, List.setIfInBounds_toArray, List.set_cons_zero, List.set_cons_succ]
  refine rb_take 9 (some 18) (v := ?_) rfl rfl (by kernel_rfl) (by kernel_rfl) (by kernel_rfl) (by kernel_rfl) ?_ ?_
  rotate_left
  focus (intro w' hw'; have q := (hw'.cell (p := ⟨bt, ot + m, none⟩) (by simp; omega)).trans p0; go_simp; try with_reducible rfl)
  try simp only [Act.put, List.setIfInBounds_toArray, List.set_cons_zero, List.set_cons_succ]
  refine rb_take 10 (some 4) (v := ?_) rfl rfl (by kernel_rfl) (by kernel_rfl) (by kernel_rfl) (by kernel_rfl) ?_ ?_
  rotate_left
  focus (intro w' hw'; go_simp; try with_reducible rfl)
  try simp only [Act.put, List.setIfInBounds_toArray, List.set_cons_zero, List.set_cons_succ]
  refine rb_done (Nat.le_refl _) (by kernel_rfl) ?_
  go_wp2
  go_ret
  rw [HG.out]
  exact ⟨rfl, hbx⟩
end Go.Proofs.Ytaaincffbaaopaa
