
/- siphash.Derive by a contract. Conditions: none. -/
import Derived.Test.YtilgolflpdpfnaaKeysRef
namespace Go.Proofs.Ytilgolflpdpfnaa.Old
open Go.RowKit

def sipN (kl l : List Nat) : Nat := (sipV kl l).toNat
theorem sipN_eq (kl l : List Nat) : sipV kl l = (sipN kl l : Nat) ∧ U64 (sipN kl l) := by
  have h := finS_bd (absorbS (absN (startS kl) l (l.length / 8)) (lastW l))
  have h2 : InU (sipV kl l) := h
  unfold InU at h2
  unfold sipN U64
  omega
theorem sum_n (kl : List Nat) (A : Option Addr) (c : Nat) (l : List Nat) (n d : Nat) (w : World) (h16 : kl.length = 16) (hkb : Bytes kl) (hv : BView w w.heap.size A l) (hl : l.length = n) (hn : n ≤ 1000000) (hc : n ≤ c) (hd : sipN kl l = d) :
    Calls Try.prog 129 #[keyV kl, .slice A n c] w fun e w' => e = .returned (.int .u64 (d : Int)) ∧ Below w.heap.size w w' := by
  subst hl
  subst hd
  have h := sip_sum_c kl A c l w h16 hkb hv hn hc
  rw [(sipN_eq kl l).1] at h
  exact h
theorem ref_sum_n (kl : List Nat) (A : Option Addr) (c : Nat) (l : List Nat) (n d : Nat) (w : World) (h16 : kl.length = 16) (hkb : Bytes kl) (hv : BView w w.heap.size A l) (hl : l.length = n) (hn : n ≤ 1000000) (hc : n ≤ c) (hA : A = none → c = 0) (hd : sipN kl l = d) :
    Calls Try.prog 82 #[keyV kl, .slice A n c] w fun e w' => e = .returned (.int .u64 (d : Int)) ∧ Below w.heap.size w w' := by
  subst hl
  subst hd
  have h := ref_sip_c kl A c l w h16 hkb hv hn hc hA
  rw [sip_same hv.bytes, (sipN_eq kl l).1] at h
  exact h
/-- The key that a key yields. -/
def derK (kl : List Nat) (u : Nat) : List Nat := be (sipN kl ([1] ++ be u 8)) 8 ++ be (sipN kl ([2] ++ be u 8)) 8

set_option maxRecDepth 100000 in
set_option maxHeartbeats 2000000 in
theorem derive_c (kl : List Nat) (u : Nat) (w : World) (h16 : kl.length = 16) (hkb : Bytes kl) (hu : U64 u) :
    Calls Try.prog 98 #[keyV kl, .int .u64 (u : Int)] w fun e w' => e = .returned (keyV (derK kl u)) ∧ Below w.heap.size w w' := by
  have HU := Lib.hid hu
  unfold derK
  obtain ⟨d1, HD1⟩ : ∃ d, Hid (sipN kl ([1] ++ be u 8) = d) := ⟨_, Lib.hid rfl⟩
  obtain ⟨d2, HD2⟩ : ∃ d, Hid (sipN kl ([2] ++ be u 8) = d) := ⟨_, Lib.hid rfl⟩
  have HU1 := Lib.hid (show U64 d1 by rw [← HD1.out]; exact (sipN_eq _ _).2)
  have HU2 := Lib.hid (show U64 d2 by rw [← HD2.out]; exact (sipN_eq _ _).2)
  rw [HD1.out, HD2.out]
  have HKB := Lib.hid hkb
  have H16 := Lib.hid h16
  have HF := Lib.hid (show (be d1 8 ++ be d2 8).length = 16 by simp [be_length])
  clear hu hkb h16
  have hZ1 := Lib.hid ((Arr.new w 67 (kl.map u8v)).alloc (.cells ((List.replicate 16 0).map u8v).toArray 67))
  have hZ2 := Lib.hid (arr_new2 w (.cells (kl.map u8v).toArray 67) 67 ((List.replicate 16 0).map u8v))
  have hbel := below2 w (.cells (kl.map u8v).toArray 67) (.cells ((List.replicate 16 0).map u8v).toArray 67)
  have hs2 : w.heap.size + 1 < ((w.alloc (.cells (kl.map u8v).toArray 67)).alloc (.cells ((List.replicate 16 0).map u8v).toArray 67)).heap.size := by simp
  rw [show ((List.replicate 16 0).map u8v).toArray = #[.int .u8 0, .int .u8 0, .int .u8 0, .int .u8 0, .int .u8 0, .int .u8 0, .int .u8 0, .int .u8 0, .int .u8 0, .int .u8 0, .int .u8 0, .int .u8 0, .int .u8 0, .int .u8 0, .int .u8 0, .int .u8 0] from rfl] at hZ1 hZ2 hbel hs2
  unfold keyV
  obtain ⟨xs, HX⟩ : ∃ x, Hid ((kl.map u8v).toArray = x) := ⟨_, Lib.hid rfl⟩
  rw [HX.out] at hZ1 hZ2 hbel hs2 ⊢
  go_enter Try.func98, Try.ntmps98
  go_upto_region 1 with (fail)
  generalize (w.alloc (.cells xs 67)).alloc (.cells #[.int .u8 0, .int .u8 0, .int .u8 0, .int .u8 0, .int .u8 0, .int .u8 0, .int .u8 0, .int .u8 0, .int .u8 0, .int .u8 0, .int .u8 0, .int .u8 0, .int .u8 0, .int .u8 0, .int .u8 0, .int .u8 0] 67) = w1 at hZ1 hZ2 hbel hs2 ⊢
  have hs1 : w.heap.size + 1 ≤ w1.heap.size := by omega
  refine rb_start_at (w.heap.size+1) (by assumption) (by kernel_rfl) (fun wn hwn hBwn => ?_)
  have hbx := hbel.trans (hwn.mono (by omega))
  have AK := hid_arr ((show Arr w1 w.heap.size 67 _ from hZ1.out).below hwn (by omega))
  have AZ := hid_arr ((show Arr w1 (w.heap.size + 1) 67 _ from hZ2.out).below hwn (by omega))
  have hB2 := Nat.lt_of_lt_of_le hs2 hwn.size
  clear hwn hZ1 hZ2 hbel hs1 hs2
  have hBn := Nat.le_of_lt hB2
  refine rb_take 0 (some 5) (v := keyV kl) rfl rfl (by kernel_rfl) (by kernel_rfl) (by kernel_rfl) (by kernel_rfl) ?_ ?_
  focus (intro w' hw'; exact exec_loadA _ _ rfl w.heap.size _ (kl.map u8v) rfl (AK.out.below hw' (by omega)) _ Try.underlying67 rfl (key_size1 H16.out) rfl)
  try simp only [Act.put, List.setIfInBounds_toArray, List.set_cons_zero, List.set_cons_succ]
  refine rb_take 2 (some 7) (v := ?_) rfl rfl (by kernel_rfl) (by kernel_rfl) (by kernel_rfl) (by kernel_rfl) ?_ ?_
  rotate_left
  focus (intro w' hw'; go_simp; try with_reducible rfl)
  try simp only [Act.put, List.setIfInBounds_toArray, List.set_cons_zero, List.set_cons_succ]
  refine rb_take 5 (some 10) (v := keyV kl) rfl rfl (by kernel_rfl) (by kernel_rfl) (by kernel_rfl) (by kernel_rfl) ?_ ?_
  focus (intro w' hw'; exact exec_loadA _ _ rfl w.heap.size _ (kl.map u8v) rfl (AK.out.below hw' (by omega)) _ Try.underlying67 rfl (key_size1 H16.out) rfl)
  try simp only [Act.put, List.setIfInBounds_toArray, List.set_cons_zero, List.set_cons_succ]
  refine rb_take 7 (some 12) (v := ?_) rfl rfl (by kernel_rfl) (by kernel_rfl) (by kernel_rfl) (by kernel_rfl) ?_ ?_
  rotate_left
  focus (intro w' hw'; go_simp; try with_reducible rfl)
  try simp only [Act.put, List.setIfInBounds_toArray, List.set_cons_zero, List.set_cons_succ]
  refine rb_keep2 1 6 rfl rfl (by kernel_rfl) (by kernel_rfl) (by kernel_rfl) (by first | assumption | exact hBB _ _ | exact Nat.le_refl _) (fun K hK => ?_) (fun K hK => ?_)
  · skip
    go_simp
    have hb : Below wn.heap.size wn (wn.alloc (.cells #[.int .u8 1] 5)) := (Below.refl _ _).alloc (Nat.le_refl _) _
    refine hK.out _ _ (hb.mono (by assumption)) ?_
    clear hK K
    have v1 : BView (wn.alloc (.cells #[.int .u8 1] 5)) (wn.alloc (.cells #[.int .u8 1] 5)).heap.size (some ⟨wn.heap.size, 0, none⟩) [1] := BView.of_arr (by intro x hx; simp at hx; omega) (Arr.new wn 5 ([1].map u8v)) (by simp)
    obtain ⟨b1, e1⟩ : ∃ b, Hid (wn.heap.size = b) := ⟨_, Lib.hid rfl⟩
    rw [e1.out] at v1
    simp only [e1.out]
    have hb' := hb
    rw [e1.out] at hb'
    obtain ⟨wn, hwm⟩ : ∃ x, Hid (wn.alloc (.cells #[.int .u8 1] 5) = x) := ⟨_, Lib.hid rfl⟩
    rw [hwm.out] at v1 hb ⊢
    clear hb' hwm
    replace hbx := hbx.trans (hb.mono hbx.size)
    replace AK := hid_arr (AK.out.below hb (by omega))
    replace AZ := hid_arr (AZ.out.below hb (by omega))
    try replace v1 := v1.step hb
    try replace v6 := v6.step hb
    try replace v3 := v3.step hb
    try replace v8 := v8.step hb
    replace hB2 := Nat.lt_of_lt_of_le hB2 hb.size
    have hBn := Nat.le_of_lt hB2
    clear hb
    try simp only [Act.put, List.setIfInBounds_toArray, List.set_cons_zero, List.set_cons_succ]
    refine rb_keep2 3 6 rfl rfl (by kernel_rfl) (by kernel_rfl) (by kernel_rfl) (by first | assumption | exact hBB _ _ | exact Nat.le_refl _) (fun K hK => ?_) (fun K hK => ?_)
    · go_simp
      refine (put_n _ 1 [1] 1 9 u wn v1 rfl rfl (by omega) HU.out).mono ?_
      rintro e wn ⟨b3, rfl, v3, hb⟩
      refine hK.out _ _ (hb.mono (by assumption)) ?_
      clear hK K
      replace hbx := hbx.trans (hb.mono hbx.size)
      replace AK := hid_arr (AK.out.below hb (by omega))
      replace AZ := hid_arr (AZ.out.below hb (by omega))
      try replace v1 := v1.step hb
      try replace v6 := v6.step hb
      try replace v3 := v3.step hb
      try replace v8 := v8.step hb
      replace hB2 := Nat.lt_of_lt_of_le hB2 hb.size
      have hBn := Nat.le_of_lt hB2
      clear hb
      try simp only [Act.put, List.setIfInBounds_toArray, List.set_cons_zero, List.set_cons_succ]
      refine rb_keep2 4 6 rfl rfl (by kernel_rfl) (by kernel_rfl) (by kernel_rfl) (by first | assumption | exact hBB _ _ | exact Nat.le_refl _) (fun K hK => ?_) (fun K hK => ?_)
      · go_simp
        refine (sum_n kl _ 9 ([1] ++ be u 8) 9 d1 wn H16.out HKB.out v3 (by simp [be_length]) (by omega) (by omega) HD1.out).mono ?_
        rintro e wn ⟨rfl, hb⟩
        refine hK.out _ _ (hb.mono (by assumption)) ?_
        clear hK K
        replace hbx := hbx.trans (hb.mono hbx.size)
        replace AK := hid_arr (AK.out.below hb (by omega))
        replace AZ := hid_arr (AZ.out.below hb (by omega))
        try replace v1 := v1.step hb
        try replace v6 := v6.step hb
        try replace v3 := v3.step hb
        try replace v8 := v8.step hb
        replace hB2 := Nat.lt_of_lt_of_le hB2 hb.size
        have hBn := Nat.le_of_lt hB2
        clear hb
        try simp only [Act.put, List.setIfInBounds_toArray, List.set_cons_zero, List.set_cons_succ]
        refine rb_keep 6 rfl (by kernel_rfl) (by kernel_rfl) (by first | assumption | exact hBB _ _ | exact Nat.le_refl _) (fun K hK => ?_)
        skip
        go_simp
        have hb : Below wn.heap.size wn (wn.alloc (.cells #[.int .u8 2] 5)) := (Below.refl _ _).alloc (Nat.le_refl _) _
        refine hK.out _ _ (hb.mono (by assumption)) ?_
        clear hK K
        have v6 : BView (wn.alloc (.cells #[.int .u8 2] 5)) (wn.alloc (.cells #[.int .u8 2] 5)).heap.size (some ⟨wn.heap.size, 0, none⟩) [2] := BView.of_arr (by intro x hx; simp at hx; omega) (Arr.new wn 5 ([2].map u8v)) (by simp)
        obtain ⟨b6, e6⟩ : ∃ b, Hid (wn.heap.size = b) := ⟨_, Lib.hid rfl⟩
        rw [e6.out] at v6
        simp only [e6.out]
        have hb' := hb
        rw [e6.out] at hb'
        obtain ⟨wn, hwm⟩ : ∃ x, Hid (wn.alloc (.cells #[.int .u8 2] 5) = x) := ⟨_, Lib.hid rfl⟩
        rw [hwm.out] at v6 hb ⊢
        clear hb' hwm
        replace hbx := hbx.trans (hb.mono hbx.size)
        replace AK := hid_arr (AK.out.below hb (by omega))
        replace AZ := hid_arr (AZ.out.below hb (by omega))
        try replace v1 := v1.step hb
        try replace v6 := v6.step hb
        try replace v3 := v3.step hb
        try replace v8 := v8.step hb
        replace hB2 := Nat.lt_of_lt_of_le hB2 hb.size
        have hBn := Nat.le_of_lt hB2
        clear hb
        try simp only [Act.put, List.setIfInBounds_toArray, List.set_cons_zero, List.set_cons_succ]
        refine rb_keep 8 rfl (by kernel_rfl) (by kernel_rfl) (by first | assumption | exact hBB _ _ | exact Nat.le_refl _) (fun K hK => ?_)
        go_simp
        refine (put_n _ 1 [2] 1 9 u wn v6 rfl rfl (by omega) HU.out).mono ?_
        rintro e wn ⟨b8, rfl, v8, hb⟩
        refine hK.out _ _ (hb.mono (by assumption)) ?_
        clear hK K
        replace hbx := hbx.trans (hb.mono hbx.size)
        replace AK := hid_arr (AK.out.below hb (by omega))
        replace AZ := hid_arr (AZ.out.below hb (by omega))
        try replace v1 := v1.step hb
        try replace v6 := v6.step hb
        try replace v3 := v3.step hb
        try replace v8 := v8.step hb
        replace hB2 := Nat.lt_of_lt_of_le hB2 hb.size
        have hBn := Nat.le_of_lt hB2
        clear hb
        try simp only [Act.put, List.setIfInBounds_toArray, List.set_cons_zero, List.set_cons_succ]
        refine rb_keep 9 rfl (by kernel_rfl) (by kernel_rfl) (by first | assumption | exact hBB _ _ | exact Nat.le_refl _) (fun K hK => ?_)
        go_simp
        refine (sum_n kl _ 9 ([2] ++ be u 8) 9 d2 wn H16.out HKB.out v8 (by simp [be_length]) (by omega) (by omega) HD2.out).mono ?_
        rintro e wn ⟨rfl, hb⟩
        refine hK.out _ _ (hb.mono (by assumption)) ?_
        clear hK K
        replace hbx := hbx.trans (hb.mono hbx.size)
        replace AK := hid_arr (AK.out.below hb (by omega))
        replace AZ := hid_arr (AZ.out.below hb (by omega))
        try replace v1 := v1.step hb
        try replace v6 := v6.step hb
        try replace v3 := v3.step hb
        try replace v8 := v8.step hb
        replace hB2 := Nat.lt_of_lt_of_le hB2 hb.size
        have hBn := Nat.le_of_lt hB2
        clear hb
        try simp only [Act.put, List.setIfInBounds_toArray, List.set_cons_zero, List.set_cons_succ]
        refine rb_keep 10 rfl (by kernel_rfl) (by kernel_rfl) (by first | assumption | exact hBB _ _ | exact Nat.le_refl _) (fun K hK => ?_)
        go_simp
        refine (of_c d1 d2 wn HU1.out HU2.out).mono ?_
        rintro e wn ⟨rfl, hb⟩
        refine hK.out _ _ (hb.mono (by assumption)) ?_
        clear hK K
        replace hbx := hbx.trans (hb.mono hbx.size)
        replace AK := hid_arr (AK.out.below hb (by omega))
        replace AZ := hid_arr (AZ.out.below hb (by omega))
        try replace v1 := v1.step hb
        try replace v6 := v6.step hb
        try replace v3 := v3.step hb
        try replace v8 := v8.step hb
        replace hB2 := Nat.lt_of_lt_of_le hB2 hb.size
        have hBn := Nat.le_of_lt hB2
        clear hb
        try simp only [Act.put, List.setIfInBounds_toArray, List.set_cons_zero, List.set_cons_succ]
        refine rb_keep 11 rfl (by kernel_rfl) (by kernel_rfl) (by first | assumption | exact hBB _ _ | exact Nat.le_refl _) (fun K hK => ?_)
        refine owp_storeA _ _ _ rfl (w.heap.size + 1) 67 ((be d1 8 ++ be d2 8).map u8v) _ rfl rfl AZ.out (key_size1 HF.out) (by simp [be_length]) (key_one _) (w.heap.size + 1) wn (Below.refl _ _) (Nat.le_refl _) ?_
        intro wn A5 hb5 hb5'
        refine hK.out _ _ hb5 ?_
        clear hK K
        replace hbx := hbx.trans (hb5.mono (by omega))
        have hBn : w.heap.size + 1 ≤ wn.heap.size := by have := hb5.size; omega
        try simp only [Act.put, List.setIfInBounds_toArray, List.set_cons_zero, List.set_cons_succ]
        refine rb_done (by first | assumption | exact hBB _ _ | exact Nat.le_refl _) (by kernel_rfl) ?_
        go_wp2_with fail
        refine ret_key1 (g := w.heap.size + 1) rfl A5.out HF.out rfl rfl ⟨rfl, hbx⟩
      · skip
        go_simp
        have hb : Below wn.heap.size wn (wn.alloc (.cells #[.int .u8 2] 5)) := (Below.refl _ _).alloc (Nat.le_refl _) _
        refine hK.out _ _ (hb.mono (by assumption)) ?_
        clear hK K
        have v6 : BView (wn.alloc (.cells #[.int .u8 2] 5)) (wn.alloc (.cells #[.int .u8 2] 5)).heap.size (some ⟨wn.heap.size, 0, none⟩) [2] := BView.of_arr (by intro x hx; simp at hx; omega) (Arr.new wn 5 ([2].map u8v)) (by simp)
        obtain ⟨b6, e6⟩ : ∃ b, Hid (wn.heap.size = b) := ⟨_, Lib.hid rfl⟩
        rw [e6.out] at v6
        simp only [e6.out]
        have hb' := hb
        rw [e6.out] at hb'
        obtain ⟨wn, hwm⟩ : ∃ x, Hid (wn.alloc (.cells #[.int .u8 2] 5) = x) := ⟨_, Lib.hid rfl⟩
        rw [hwm.out] at v6 hb ⊢
        clear hb' hwm
        replace hbx := hbx.trans (hb.mono hbx.size)
        replace AK := hid_arr (AK.out.below hb (by omega))
        replace AZ := hid_arr (AZ.out.below hb (by omega))
        try replace v1 := v1.step hb
        try replace v6 := v6.step hb
        try replace v3 := v3.step hb
        try replace v8 := v8.step hb
        replace hB2 := Nat.lt_of_lt_of_le hB2 hb.size
        have hBn := Nat.le_of_lt hB2
        clear hb
        try simp only [Act.put, List.setIfInBounds_toArray, List.set_cons_zero, List.set_cons_succ]
        refine rb_keep 4 rfl (by kernel_rfl) (by kernel_rfl) (by first | assumption | exact hBB _ _ | exact Nat.le_refl _) (fun K hK => ?_)
        go_simp
        refine (sum_n kl _ 9 ([1] ++ be u 8) 9 d1 wn H16.out HKB.out v3 (by simp [be_length]) (by omega) (by omega) HD1.out).mono ?_
        rintro e wn ⟨rfl, hb⟩
        refine hK.out _ _ (hb.mono (by assumption)) ?_
        clear hK K
        replace hbx := hbx.trans (hb.mono hbx.size)
        replace AK := hid_arr (AK.out.below hb (by omega))
        replace AZ := hid_arr (AZ.out.below hb (by omega))
        try replace v1 := v1.step hb
        try replace v6 := v6.step hb
        try replace v3 := v3.step hb
        try replace v8 := v8.step hb
        replace hB2 := Nat.lt_of_lt_of_le hB2 hb.size
        have hBn := Nat.le_of_lt hB2
        clear hb
        try simp only [Act.put, List.setIfInBounds_toArray, List.set_cons_zero, List.set_cons_succ]
        refine rb_keep 8 rfl (by kernel_rfl) (by kernel_rfl) (by first | assumption | exact hBB _ _ | exact Nat.le_refl _) (fun K hK => ?_)
        go_simp
        refine (put_n _ 1 [2] 1 9 u wn v6 rfl rfl (by omega) HU.out).mono ?_
        rintro e wn ⟨b8, rfl, v8, hb⟩
        refine hK.out _ _ (hb.mono (by assumption)) ?_
        clear hK K
        replace hbx := hbx.trans (hb.mono hbx.size)
        replace AK := hid_arr (AK.out.below hb (by omega))
        replace AZ := hid_arr (AZ.out.below hb (by omega))
        try replace v1 := v1.step hb
        try replace v6 := v6.step hb
        try replace v3 := v3.step hb
        try replace v8 := v8.step hb
        replace hB2 := Nat.lt_of_lt_of_le hB2 hb.size
        have hBn := Nat.le_of_lt hB2
        clear hb
        try simp only [Act.put, List.setIfInBounds_toArray, List.set_cons_zero, List.set_cons_succ]
        refine rb_keep 9 rfl (by kernel_rfl) (by kernel_rfl) (by first | assumption | exact hBB _ _ | exact Nat.le_refl _) (fun K hK => ?_)
        go_simp
        refine (sum_n kl _ 9 ([2] ++ be u 8) 9 d2 wn H16.out HKB.out v8 (by simp [be_length]) (by omega) (by omega) HD2.out).mono ?_
        rintro e wn ⟨rfl, hb⟩
        refine hK.out _ _ (hb.mono (by assumption)) ?_
        clear hK K
        replace hbx := hbx.trans (hb.mono hbx.size)
        replace AK := hid_arr (AK.out.below hb (by omega))
        replace AZ := hid_arr (AZ.out.below hb (by omega))
        try replace v1 := v1.step hb
        try replace v6 := v6.step hb
        try replace v3 := v3.step hb
        try replace v8 := v8.step hb
        replace hB2 := Nat.lt_of_lt_of_le hB2 hb.size
        have hBn := Nat.le_of_lt hB2
        clear hb
        try simp only [Act.put, List.setIfInBounds_toArray, List.set_cons_zero, List.set_cons_succ]
        refine rb_keep 10 rfl (by kernel_rfl) (by kernel_rfl) (by first | assumption | exact hBB _ _ | exact Nat.le_refl _) (fun K hK => ?_)
        go_simp
        refine (of_c d1 d2 wn HU1.out HU2.out).mono ?_
        rintro e wn ⟨rfl, hb⟩
        refine hK.out _ _ (hb.mono (by assumption)) ?_
        clear hK K
        replace hbx := hbx.trans (hb.mono hbx.size)
        replace AK := hid_arr (AK.out.below hb (by omega))
        replace AZ := hid_arr (AZ.out.below hb (by omega))
        try replace v1 := v1.step hb
        try replace v6 := v6.step hb
        try replace v3 := v3.step hb
        try replace v8 := v8.step hb
        replace hB2 := Nat.lt_of_lt_of_le hB2 hb.size
        have hBn := Nat.le_of_lt hB2
        clear hb
        try simp only [Act.put, List.setIfInBounds_toArray, List.set_cons_zero, List.set_cons_succ]
        refine rb_keep 11 rfl (by kernel_rfl) (by kernel_rfl) (by first | assumption | exact hBB _ _ | exact Nat.le_refl _) (fun K hK => ?_)
        refine owp_storeA _ _ _ rfl (w.heap.size + 1) 67 ((be d1 8 ++ be d2 8).map u8v) _ rfl rfl AZ.out (key_size1 HF.out) (by simp [be_length]) (key_one _) (w.heap.size + 1) wn (Below.refl _ _) (Nat.le_refl _) ?_
        intro wn A5 hb5 hb5'
        refine hK.out _ _ hb5 ?_
        clear hK K
        replace hbx := hbx.trans (hb5.mono (by omega))
        have hBn : w.heap.size + 1 ≤ wn.heap.size := by have := hb5.size; omega
        try simp only [Act.put, List.setIfInBounds_toArray, List.set_cons_zero, List.set_cons_succ]
        refine rb_done (by first | assumption | exact hBB _ _ | exact Nat.le_refl _) (by kernel_rfl) ?_
        go_wp2_with fail
        refine ret_key1 (g := w.heap.size + 1) rfl A5.out HF.out rfl rfl ⟨rfl, hbx⟩
    · skip
      go_simp
      have hb : Below wn.heap.size wn (wn.alloc (.cells #[.int .u8 2] 5)) := (Below.refl _ _).alloc (Nat.le_refl _) _
      refine hK.out _ _ (hb.mono (by assumption)) ?_
      clear hK K
      have v6 : BView (wn.alloc (.cells #[.int .u8 2] 5)) (wn.alloc (.cells #[.int .u8 2] 5)).heap.size (some ⟨wn.heap.size, 0, none⟩) [2] := BView.of_arr (by intro x hx; simp at hx; omega) (Arr.new wn 5 ([2].map u8v)) (by simp)
      obtain ⟨b6, e6⟩ : ∃ b, Hid (wn.heap.size = b) := ⟨_, Lib.hid rfl⟩
      rw [e6.out] at v6
      simp only [e6.out]
      have hb' := hb
      rw [e6.out] at hb'
      obtain ⟨wn, hwm⟩ : ∃ x, Hid (wn.alloc (.cells #[.int .u8 2] 5) = x) := ⟨_, Lib.hid rfl⟩
      rw [hwm.out] at v6 hb ⊢
      clear hb' hwm
      replace hbx := hbx.trans (hb.mono hbx.size)
      replace AK := hid_arr (AK.out.below hb (by omega))
      replace AZ := hid_arr (AZ.out.below hb (by omega))
      try replace v1 := v1.step hb
      try replace v6 := v6.step hb
      try replace v3 := v3.step hb
      try replace v8 := v8.step hb
      replace hB2 := Nat.lt_of_lt_of_le hB2 hb.size
      have hBn := Nat.le_of_lt hB2
      clear hb
      try simp only [Act.put, List.setIfInBounds_toArray, List.set_cons_zero, List.set_cons_succ]
      refine rb_keep 3 rfl (by kernel_rfl) (by kernel_rfl) (by first | assumption | exact hBB _ _ | exact Nat.le_refl _) (fun K hK => ?_)
      go_simp
      refine (put_n _ 1 [1] 1 9 u wn v1 rfl rfl (by omega) HU.out).mono ?_
      rintro e wn ⟨b3, rfl, v3, hb⟩
      refine hK.out _ _ (hb.mono (by assumption)) ?_
      clear hK K
      replace hbx := hbx.trans (hb.mono hbx.size)
      replace AK := hid_arr (AK.out.below hb (by omega))
      replace AZ := hid_arr (AZ.out.below hb (by omega))
      try replace v1 := v1.step hb
      try replace v6 := v6.step hb
      try replace v3 := v3.step hb
      try replace v8 := v8.step hb
      replace hB2 := Nat.lt_of_lt_of_le hB2 hb.size
      have hBn := Nat.le_of_lt hB2
      clear hb
      try simp only [Act.put, List.setIfInBounds_toArray, List.set_cons_zero, List.set_cons_succ]
      refine rb_keep 4 rfl (by kernel_rfl) (by kernel_rfl) (by first | assumption | exact hBB _ _ | exact Nat.le_refl _) (fun K hK => ?_)
      go_simp
      refine (sum_n kl _ 9 ([1] ++ be u 8) 9 d1 wn H16.out HKB.out v3 (by simp [be_length]) (by omega) (by omega) HD1.out).mono ?_
      rintro e wn ⟨rfl, hb⟩
      refine hK.out _ _ (hb.mono (by assumption)) ?_
      clear hK K
      replace hbx := hbx.trans (hb.mono hbx.size)
      replace AK := hid_arr (AK.out.below hb (by omega))
      replace AZ := hid_arr (AZ.out.below hb (by omega))
      try replace v1 := v1.step hb
      try replace v6 := v6.step hb
      try replace v3 := v3.step hb
      try replace v8 := v8.step hb
      replace hB2 := Nat.lt_of_lt_of_le hB2 hb.size
      have hBn := Nat.le_of_lt hB2
      clear hb
      try simp only [Act.put, List.setIfInBounds_toArray, List.set_cons_zero, List.set_cons_succ]
      refine rb_keep 8 rfl (by kernel_rfl) (by kernel_rfl) (by first | assumption | exact hBB _ _ | exact Nat.le_refl _) (fun K hK => ?_)
      go_simp
      refine (put_n _ 1 [2] 1 9 u wn v6 rfl rfl (by omega) HU.out).mono ?_
      rintro e wn ⟨b8, rfl, v8, hb⟩
      refine hK.out _ _ (hb.mono (by assumption)) ?_
      clear hK K
      replace hbx := hbx.trans (hb.mono hbx.size)
      replace AK := hid_arr (AK.out.below hb (by omega))
      replace AZ := hid_arr (AZ.out.below hb (by omega))
      try replace v1 := v1.step hb
      try replace v6 := v6.step hb
      try replace v3 := v3.step hb
      try replace v8 := v8.step hb
      replace hB2 := Nat.lt_of_lt_of_le hB2 hb.size
      have hBn := Nat.le_of_lt hB2
      clear hb
      try simp only [Act.put, List.setIfInBounds_toArray, List.set_cons_zero, List.set_cons_succ]
      refine rb_keep 9 rfl (by kernel_rfl) (by kernel_rfl) (by first | assumption | exact hBB _ _ | exact Nat.le_refl _) (fun K hK => ?_)
      go_simp
      refine (sum_n kl _ 9 ([2] ++ be u 8) 9 d2 wn H16.out HKB.out v8 (by simp [be_length]) (by omega) (by omega) HD2.out).mono ?_
      rintro e wn ⟨rfl, hb⟩
      refine hK.out _ _ (hb.mono (by assumption)) ?_
      clear hK K
      replace hbx := hbx.trans (hb.mono hbx.size)
      replace AK := hid_arr (AK.out.below hb (by omega))
      replace AZ := hid_arr (AZ.out.below hb (by omega))
      try replace v1 := v1.step hb
      try replace v6 := v6.step hb
      try replace v3 := v3.step hb
      try replace v8 := v8.step hb
      replace hB2 := Nat.lt_of_lt_of_le hB2 hb.size
      have hBn := Nat.le_of_lt hB2
      clear hb
      try simp only [Act.put, List.setIfInBounds_toArray, List.set_cons_zero, List.set_cons_succ]
      refine rb_keep 10 rfl (by kernel_rfl) (by kernel_rfl) (by first | assumption | exact hBB _ _ | exact Nat.le_refl _) (fun K hK => ?_)
      go_simp
      refine (of_c d1 d2 wn HU1.out HU2.out).mono ?_
      rintro e wn ⟨rfl, hb⟩
      refine hK.out _ _ (hb.mono (by assumption)) ?_
      clear hK K
      replace hbx := hbx.trans (hb.mono hbx.size)
      replace AK := hid_arr (AK.out.below hb (by omega))
      replace AZ := hid_arr (AZ.out.below hb (by omega))
      try replace v1 := v1.step hb
      try replace v6 := v6.step hb
      try replace v3 := v3.step hb
      try replace v8 := v8.step hb
      replace hB2 := Nat.lt_of_lt_of_le hB2 hb.size
      have hBn := Nat.le_of_lt hB2
      clear hb
      try simp only [Act.put, List.setIfInBounds_toArray, List.set_cons_zero, List.set_cons_succ]
      refine rb_keep 11 rfl (by kernel_rfl) (by kernel_rfl) (by first | assumption | exact hBB _ _ | exact Nat.le_refl _) (fun K hK => ?_)
      refine owp_storeA _ _ _ rfl (w.heap.size + 1) 67 ((be d1 8 ++ be d2 8).map u8v) _ rfl rfl AZ.out (key_size1 HF.out) (by simp [be_length]) (key_one _) (w.heap.size + 1) wn (Below.refl _ _) (Nat.le_refl _) ?_
      intro wn A5 hb5 hb5'
      refine hK.out _ _ hb5 ?_
      clear hK K
      replace hbx := hbx.trans (hb5.mono (by omega))
      have hBn : w.heap.size + 1 ≤ wn.heap.size := by have := hb5.size; omega
      try simp only [Act.put, List.setIfInBounds_toArray, List.set_cons_zero, List.set_cons_succ]
      refine rb_done (by first | assumption | exact hBB _ _ | exact Nat.le_refl _) (by kernel_rfl) ?_
      go_wp2_with fail
      refine ret_key1 (g := w.heap.size + 1) rfl A5.out HF.out rfl rfl ⟨rfl, hbx⟩
  · skip
    go_simp
    have hb : Below wn.heap.size wn (wn.alloc (.cells #[.int .u8 2] 5)) := (Below.refl _ _).alloc (Nat.le_refl _) _
    refine hK.out _ _ (hb.mono (by assumption)) ?_
    clear hK K
    have v6 : BView (wn.alloc (.cells #[.int .u8 2] 5)) (wn.alloc (.cells #[.int .u8 2] 5)).heap.size (some ⟨wn.heap.size, 0, none⟩) [2] := BView.of_arr (by intro x hx; simp at hx; omega) (Arr.new wn 5 ([2].map u8v)) (by simp)
    obtain ⟨b6, e6⟩ : ∃ b, Hid (wn.heap.size = b) := ⟨_, Lib.hid rfl⟩
    rw [e6.out] at v6
    simp only [e6.out]
    have hb' := hb
    rw [e6.out] at hb'
    obtain ⟨wn, hwm⟩ : ∃ x, Hid (wn.alloc (.cells #[.int .u8 2] 5) = x) := ⟨_, Lib.hid rfl⟩
    rw [hwm.out] at v6 hb ⊢
    clear hb' hwm
    replace hbx := hbx.trans (hb.mono hbx.size)
    replace AK := hid_arr (AK.out.below hb (by omega))
    replace AZ := hid_arr (AZ.out.below hb (by omega))
    try replace v1 := v1.step hb
    try replace v6 := v6.step hb
    try replace v3 := v3.step hb
    try replace v8 := v8.step hb
    replace hB2 := Nat.lt_of_lt_of_le hB2 hb.size
    have hBn := Nat.le_of_lt hB2
    clear hb
    try simp only [Act.put, List.setIfInBounds_toArray, List.set_cons_zero, List.set_cons_succ]
    refine rb_keep 1 rfl (by kernel_rfl) (by kernel_rfl) (by first | assumption | exact hBB _ _ | exact Nat.le_refl _) (fun K hK => ?_)
    skip
    go_simp
    have hb : Below wn.heap.size wn (wn.alloc (.cells #[.int .u8 1] 5)) := (Below.refl _ _).alloc (Nat.le_refl _) _
    refine hK.out _ _ (hb.mono (by assumption)) ?_
    clear hK K
    have v1 : BView (wn.alloc (.cells #[.int .u8 1] 5)) (wn.alloc (.cells #[.int .u8 1] 5)).heap.size (some ⟨wn.heap.size, 0, none⟩) [1] := BView.of_arr (by intro x hx; simp at hx; omega) (Arr.new wn 5 ([1].map u8v)) (by simp)
    obtain ⟨b1, e1⟩ : ∃ b, Hid (wn.heap.size = b) := ⟨_, Lib.hid rfl⟩
    rw [e1.out] at v1
    simp only [e1.out]
    have hb' := hb
    rw [e1.out] at hb'
    obtain ⟨wn, hwm⟩ : ∃ x, Hid (wn.alloc (.cells #[.int .u8 1] 5) = x) := ⟨_, Lib.hid rfl⟩
    rw [hwm.out] at v1 hb ⊢
    clear hb' hwm
    replace hbx := hbx.trans (hb.mono hbx.size)
    replace AK := hid_arr (AK.out.below hb (by omega))
    replace AZ := hid_arr (AZ.out.below hb (by omega))
    try replace v1 := v1.step hb
    try replace v6 := v6.step hb
    try replace v3 := v3.step hb
    try replace v8 := v8.step hb
    replace hB2 := Nat.lt_of_lt_of_le hB2 hb.size
    have hBn := Nat.le_of_lt hB2
    clear hb
    try simp only [Act.put, List.setIfInBounds_toArray, List.set_cons_zero, List.set_cons_succ]
    refine rb_keep 3 rfl (by kernel_rfl) (by kernel_rfl) (by first | assumption | exact hBB _ _ | exact Nat.le_refl _) (fun K hK => ?_)
    go_simp
    refine (put_n _ 1 [1] 1 9 u wn v1 rfl rfl (by omega) HU.out).mono ?_
    rintro e wn ⟨b3, rfl, v3, hb⟩
    refine hK.out _ _ (hb.mono (by assumption)) ?_
    clear hK K
    replace hbx := hbx.trans (hb.mono hbx.size)
    replace AK := hid_arr (AK.out.below hb (by omega))
    replace AZ := hid_arr (AZ.out.below hb (by omega))
    try replace v1 := v1.step hb
    try replace v6 := v6.step hb
    try replace v3 := v3.step hb
    try replace v8 := v8.step hb
    replace hB2 := Nat.lt_of_lt_of_le hB2 hb.size
    have hBn := Nat.le_of_lt hB2
    clear hb
    try simp only [Act.put, List.setIfInBounds_toArray, List.set_cons_zero, List.set_cons_succ]
    refine rb_keep 4 rfl (by kernel_rfl) (by kernel_rfl) (by first | assumption | exact hBB _ _ | exact Nat.le_refl _) (fun K hK => ?_)
    go_simp
    refine (sum_n kl _ 9 ([1] ++ be u 8) 9 d1 wn H16.out HKB.out v3 (by simp [be_length]) (by omega) (by omega) HD1.out).mono ?_
    rintro e wn ⟨rfl, hb⟩
    refine hK.out _ _ (hb.mono (by assumption)) ?_
    clear hK K
    replace hbx := hbx.trans (hb.mono hbx.size)
    replace AK := hid_arr (AK.out.below hb (by omega))
    replace AZ := hid_arr (AZ.out.below hb (by omega))
    try replace v1 := v1.step hb
    try replace v6 := v6.step hb
    try replace v3 := v3.step hb
    try replace v8 := v8.step hb
    replace hB2 := Nat.lt_of_lt_of_le hB2 hb.size
    have hBn := Nat.le_of_lt hB2
    clear hb
    try simp only [Act.put, List.setIfInBounds_toArray, List.set_cons_zero, List.set_cons_succ]
    refine rb_keep 8 rfl (by kernel_rfl) (by kernel_rfl) (by first | assumption | exact hBB _ _ | exact Nat.le_refl _) (fun K hK => ?_)
    go_simp
    refine (put_n _ 1 [2] 1 9 u wn v6 rfl rfl (by omega) HU.out).mono ?_
    rintro e wn ⟨b8, rfl, v8, hb⟩
    refine hK.out _ _ (hb.mono (by assumption)) ?_
    clear hK K
    replace hbx := hbx.trans (hb.mono hbx.size)
    replace AK := hid_arr (AK.out.below hb (by omega))
    replace AZ := hid_arr (AZ.out.below hb (by omega))
    try replace v1 := v1.step hb
    try replace v6 := v6.step hb
    try replace v3 := v3.step hb
    try replace v8 := v8.step hb
    replace hB2 := Nat.lt_of_lt_of_le hB2 hb.size
    have hBn := Nat.le_of_lt hB2
    clear hb
    try simp only [Act.put, List.setIfInBounds_toArray, List.set_cons_zero, List.set_cons_succ]
    refine rb_keep 9 rfl (by kernel_rfl) (by kernel_rfl) (by first | assumption | exact hBB _ _ | exact Nat.le_refl _) (fun K hK => ?_)
    go_simp
    refine (sum_n kl _ 9 ([2] ++ be u 8) 9 d2 wn H16.out HKB.out v8 (by simp [be_length]) (by omega) (by omega) HD2.out).mono ?_
    rintro e wn ⟨rfl, hb⟩
    refine hK.out _ _ (hb.mono (by assumption)) ?_
    clear hK K
    replace hbx := hbx.trans (hb.mono hbx.size)
    replace AK := hid_arr (AK.out.below hb (by omega))
    replace AZ := hid_arr (AZ.out.below hb (by omega))
    try replace v1 := v1.step hb
    try replace v6 := v6.step hb
    try replace v3 := v3.step hb
    try replace v8 := v8.step hb
    replace hB2 := Nat.lt_of_lt_of_le hB2 hb.size
    have hBn := Nat.le_of_lt hB2
    clear hb
    try simp only [Act.put, List.setIfInBounds_toArray, List.set_cons_zero, List.set_cons_succ]
    refine rb_keep 10 rfl (by kernel_rfl) (by kernel_rfl) (by first | assumption | exact hBB _ _ | exact Nat.le_refl _) (fun K hK => ?_)
    go_simp
    refine (of_c d1 d2 wn HU1.out HU2.out).mono ?_
    rintro e wn ⟨rfl, hb⟩
    refine hK.out _ _ (hb.mono (by assumption)) ?_
    clear hK K
    replace hbx := hbx.trans (hb.mono hbx.size)
    replace AK := hid_arr (AK.out.below hb (by omega))
    replace AZ := hid_arr (AZ.out.below hb (by omega))
    try replace v1 := v1.step hb
    try replace v6 := v6.step hb
    try replace v3 := v3.step hb
    try replace v8 := v8.step hb
    replace hB2 := Nat.lt_of_lt_of_le hB2 hb.size
    have hBn := Nat.le_of_lt hB2
    clear hb
    try simp only [Act.put, List.setIfInBounds_toArray, List.set_cons_zero, List.set_cons_succ]
    refine rb_keep 11 rfl (by kernel_rfl) (by kernel_rfl) (by first | assumption | exact hBB _ _ | exact Nat.le_refl _) (fun K hK => ?_)
    refine owp_storeA _ _ _ rfl (w.heap.size + 1) 67 ((be d1 8 ++ be d2 8).map u8v) _ rfl rfl AZ.out (key_size1 HF.out) (by simp [be_length]) (key_one _) (w.heap.size + 1) wn (Below.refl _ _) (Nat.le_refl _) ?_
    intro wn A5 hb5 hb5'
    refine hK.out _ _ hb5 ?_
    clear hK K
    replace hbx := hbx.trans (hb5.mono (by omega))
    have hBn : w.heap.size + 1 ≤ wn.heap.size := by have := hb5.size; omega
    try simp only [Act.put, List.setIfInBounds_toArray, List.set_cons_zero, List.set_cons_succ]
    refine rb_done (by first | assumption | exact hBB _ _ | exact Nat.le_refl _) (by kernel_rfl) ?_
    go_wp2_with fail
    refine ret_key1 (g := w.heap.size + 1) rfl A5.out HF.out rfl rfl ⟨rfl, hbx⟩
end Go.Proofs.Ytilgolflpdpfnaa.Old
