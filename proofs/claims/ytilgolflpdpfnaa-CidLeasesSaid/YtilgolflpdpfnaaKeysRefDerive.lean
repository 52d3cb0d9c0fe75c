
/- The reference's Derive of siphash by a contract. Conditions: none. -/
import Derived.Test.YtilgolflpdpfnaaKeysDerive
namespace Go.Proofs.Ytilgolflpdpfnaa.Old
open Go.RowKit

theorem owp_app_mod {P : Program} {w : World} {o : Oper} {a : Act} {K : Act → World → Prop} {Q : Exit → Act → World → Prop} (dst : Option Tmp) (hdst : o.dst = dst) (s x : Operand) (t : TypeId)
    (ho : o.op = .call { callee := .builtin .append, args := #[s, x], argTypes := #[t, t] })
    (g : Nat) (e : TypeId) (z : Value) (by_ : Nat) (hz1 : z.cells = #[z]) (ht : P.underlying t = some (.slice e)) (h2 : (P.info? e).map (fun i => (i.zero, i.size, i.bytes)) = some (some z, 1, by_))
    (n c : Nat) (xs : List Value) (hs : a.eval s = .slice (some ⟨g, 0, none⟩) n c) (hown : Own w g e (some ⟨g, 0, none⟩) n c xs)
    (B : Nat) (ad : Addr) (m cx r : Nat) (ys : List Value) (hx : a.eval x = .slice (some ad) m cx) (hv : View w B (some ad) ys) (hm : ys.length = m) (h1 : ∀ u ∈ ys, u.oneCell' = true)
    (h63 : n + m ≤ maxLen) (hbytes : (n + m) * by_ ≤ 140737488355328) (hr : n + m = r) (hbase : g ≤ w.heap.size)
    (h : ∀ A' c' w', Hid (Own w' g e A' r c' (xs ++ ys)) → Mod g w w' → K (a.put dst (.slice A' r c')) w') : o.wp P a w K Q := by
  subst hdst
  subst hr
  obtain ⟨i, hi, hz, hsz, hby⟩ := info_parts h2
  have hcells : ∀ j u, ys[j]? = some u → w.cell? (ad.add j) = some u := by
    intro j u hu
    obtain ⟨b, o', e1, _, hc⟩ := hv (by rintro rfl; simp at hu)
    injection e1 with e1
    subst e1
    have := hc j u hu
    unfold Addr.add
    split
    · next h0 => subst h0; simpa using this
    · exact this
  obtain ⟨v', w', hr, h2', h3, h4⟩ := run_append_own (P := P) w g t o.type e i z 1 by_ ht hi hz hsz hby (by rw [hz1]; rfl) (by omega) _ n xs hown ad m cx ys (by omega) hcells h1 h63 hbytes hbase
  obtain ⟨A', c', rfl⟩ := own_form h2'
  unfold Oper.wp execOp
  simp only [ho, resolve, invoke, builtin, Sem.run_bind, Sem.run_pure, Result.andThen_ok, List.map_toArray, List.map_cons, List.map_nil, hs, hx, hr]
  exact h A' c' w' h2' h3

set_option maxRecDepth 100000 in
set_option maxHeartbeats 2000000 in
theorem ref_derive_c (kl : List Nat) (u : Nat) (w : World) (h16 : kl.length = 16) (hkb : Bytes kl) (hu : U64 u) :
    Calls Try.prog 99 #[keyV kl, .int .u64 (u : Int)] w fun e w' => e = .returned (keyV (derK kl u)) ∧ Below w.heap.size w w' := by
  have HU := Lib.hid hu
  unfold derK
  obtain ⟨d1, HD1⟩ : ∃ d, Hid (sipN kl ([1] ++ be u 8) = d) := ⟨_, Lib.hid rfl⟩
  obtain ⟨d2, HD2⟩ : ∃ d, Hid (sipN kl ([2] ++ be u 8) = d) := ⟨_, Lib.hid rfl⟩
  have HU1 := Lib.hid (show U64 d1 by rw [← HD1.out]; exact (sipN_eq _ _).2)
  have HU2 := Lib.hid (show U64 d2 by rw [← HD2.out]; exact (sipN_eq _ _).2)
  rw [HD1.out, HD2.out]
  have HKB := Lib.hid hkb
  have H16 := Lib.hid h16
  have HF := Lib.hid (show (be d1 8 ++ be d2 8).length = 16 by simp [be_length])
  clear hu hkb h16
  have hZ1 := Lib.hid ((Arr.new w 64 (kl.map u8v)).alloc (.cells ((List.replicate 16 0).map u8v).toArray 64))
  have hZ2 := Lib.hid (arr_new2 w (.cells (kl.map u8v).toArray 64) 64 ((List.replicate 16 0).map u8v))
  have hbel := below2 w (.cells (kl.map u8v).toArray 64) (.cells ((List.replicate 16 0).map u8v).toArray 64)
  have hs2 : w.heap.size + 1 < ((w.alloc (.cells (kl.map u8v).toArray 64)).alloc (.cells ((List.replicate 16 0).map u8v).toArray 64)).heap.size := by simp
  rw [show ((List.replicate 16 0).map u8v).toArray = #[.int .u8 0, .int .u8 0, .int .u8 0, .int .u8 0, .int .u8 0, .int .u8 0, .int .u8 0, .int .u8 0, .int .u8 0, .int .u8 0, .int .u8 0, .int .u8 0, .int .u8 0, .int .u8 0, .int .u8 0, .int .u8 0] from rfl] at hZ1 hZ2 hbel hs2
  unfold keyV
  obtain ⟨xs, HX⟩ : ∃ x, Hid ((kl.map u8v).toArray = x) := ⟨_, Lib.hid rfl⟩
  rw [HX.out] at hZ1 hZ2 hbel hs2 ⊢
  go_enter Try.func99, Try.ntmps99
  go_upto_region 1 with (fail)
  generalize (w.alloc (.cells xs 64)).alloc (.cells #[.int .u8 0, .int .u8 0, .int .u8 0, .int .u8 0, .int .u8 0, .int .u8 0, .int .u8 0, .int .u8 0, .int .u8 0, .int .u8 0, .int .u8 0, .int .u8 0, .int .u8 0, .int .u8 0, .int .u8 0, .int .u8 0] 64) = w1 at hZ1 hZ2 hbel hs2 ⊢
  have hs1 : w.heap.size + 1 ≤ w1.heap.size := by omega
  go_wp2_with fail
  refine (ref_bytes_c u 8 8 w1 HU.out (.inr (.inl ⟨rfl, by omega, by omega⟩))).mono ?_
  rintro e w2 ⟨gx, rfl, hgx, hAx, hb2, hy⟩
  rw [be_length]
  have AK2 := hid_arr ((show Arr w1 w.heap.size 64 _ from hZ1.out).below hb2 (by omega))
  have AZ2 := hid_arr ((show Arr w1 (w.heap.size + 1) 64 _ from hZ2.out).below hb2 (by omega))
  have hbz := hbel.trans (hb2.mono (by omega))
  have hBz := Nat.lt_of_lt_of_le hs2 hb2.size
  have hBy := Nat.le_of_lt hBz
  have hgz : w.heap.size + 1 < gx := by omega
  clear hb2 hZ1 hZ2 hbel hs1 hs2 hgx
  go_upto_region 2 with (fail)
  refine rb_start_at (w.heap.size+1) (by assumption) (by kernel_rfl) (fun wn hwn hBwn => ?_)
  have hbx := hbz.trans (hwn.mono (by omega))
  have AK := hid_arr (AK2.out.below hwn (by omega))
  have AZ := hid_arr (AZ2.out.below hwn (by omega))
  have X := hid_arr (hAx.out.below hwn hAx.out.lt)
  have hB2 := Nat.lt_of_lt_of_le hBz hwn.size
  clear hwn AK2 AZ2 hAx hBz hBy hbz
  have hBn := Nat.le_of_lt hB2
  refine rb_take 0 (some 8) (v := keyV kl) rfl rfl (by kernel_rfl) (by kernel_rfl) (by kernel_rfl) (by kernel_rfl) ?_ ?_
  focus (intro w' hw'; exact exec_loadA _ _ rfl w.heap.size _ (kl.map u8v) rfl (AK.out.below hw' (by omega)) _ Try.underlying64 rfl (key_size2 H16.out) rfl)
  try simp only [Act.put, List.setIfInBounds_toArray, List.set_cons_zero, List.set_cons_succ]
  refine rb_take 2 (some 10) (v := ?_) rfl rfl (by kernel_rfl) (by kernel_rfl) (by kernel_rfl) (by kernel_rfl) ?_ ?_
  rotate_left
  focus (intro w' hw'; go_simp; try with_reducible rfl)
  try simp only [Act.put, List.setIfInBounds_toArray, List.set_cons_zero, List.set_cons_succ]
  refine rb_take 5 (some 13) (v := keyV kl) rfl rfl (by kernel_rfl) (by kernel_rfl) (by kernel_rfl) (by kernel_rfl) ?_ ?_
  focus (intro w' hw'; exact exec_loadA _ _ rfl w.heap.size _ (kl.map u8v) rfl (AK.out.below hw' (by omega)) _ Try.underlying64 rfl (key_size2 H16.out) rfl)
  try simp only [Act.put, List.setIfInBounds_toArray, List.set_cons_zero, List.set_cons_succ]
  refine rb_take 7 (some 15) (v := ?_) rfl rfl (by kernel_rfl) (by kernel_rfl) (by kernel_rfl) (by kernel_rfl) ?_ ?_
  rotate_left
  focus (intro w' hw'; go_simp; try with_reducible rfl)
  try simp only [Act.put, List.setIfInBounds_toArray, List.set_cons_zero, List.set_cons_succ]
  refine rb_keep2 1 6 rfl rfl (by kernel_rfl) (by kernel_rfl) (by kernel_rfl) (by first | assumption | exact hBB _ _ | exact Nat.le_refl _) (fun K hK => ?_) (fun K hK => ?_)
  · skip
    go_simp
    have hb : Below wn.heap.size wn (wn.alloc (.cells #[.int .u8 1] 5)) := (Below.refl _ _).alloc (Nat.le_refl _) _
    refine hK.out _ _ (hb.mono (by assumption)) ?_
    clear hK K
    have L1 := hid_arr (Arr.new wn 5 ([1].map u8v))
    rw [show ([1].map u8v).toArray = #[.int .u8 1] from rfl] at L1
    obtain ⟨b1, e1⟩ : ∃ b, Hid (wn.heap.size = b) := ⟨_, Lib.hid rfl⟩
    rw [e1.out] at L1
    simp only [e1.out]
    have G1 : gx < b1 := by rw [← e1.out]; exact X.out.lt
    have Z1 : w.heap.size + 1 < b1 := by rw [← e1.out]; exact hB2
    try have N16 : b6 < b1 := by rw [← e1.out]; exact L6.out.lt
    obtain ⟨wn, hwm⟩ : ∃ x, Hid (wn.alloc (.cells #[.int .u8 1] 5) = x) := ⟨_, Lib.hid rfl⟩
    rw [hwm.out] at L1 hb ⊢
    clear hwm e1
    replace hbx := hbx.trans (hb.mono hbx.size)
    replace AK := hid_arr (AK.out.below hb (by omega))
    replace AZ := hid_arr (AZ.out.below hb (by omega))
    replace X := hid_arr (X.out.below hb X.out.lt)
    try replace L1 := hid_arr (L1.out.below hb L1.out.lt)
    try replace L6 := hid_arr (L6.out.below hb L6.out.lt)
    try replace v3 := v3.step hb
    try replace v8 := v8.step hb
    replace hB2 := Nat.lt_of_lt_of_le hB2 hb.size
    have hBn := Nat.le_of_lt hB2
    clear hb
    try simp only [Act.put, List.setIfInBounds_toArray, List.set_cons_zero, List.set_cons_succ]
    refine rb_keep2 3 6 rfl rfl (by kernel_rfl) (by kernel_rfl) (by kernel_rfl) (by first | assumption | exact hBB _ _ | exact Nat.le_refl _) (fun K hK => ?_) (fun K hK => ?_)
    · skip
      refine owp_app_mod (some 11) rfl _ _ _ rfl b1 5 (.int .u8 0) 1 rfl Try.underlying22 u8info 1 1 ([1].map u8v) rfl (own_arr 1 L1.out rfl (Nat.le_refl _) (by decide)) wn.heap.size ⟨gx, 0, none⟩ 8 8 9 ((be u 8).map u8v) rfl (X.out.view X.out.lt) (by simp [be_length]) (u8v_one _) (by decide) (by decide) rfl (Nat.le_of_lt L1.out.lt) ?_
      intro A3 c3 wn own hm
      have hsz := hm.size
      have hlt := L1.out.lt
      refine hK.out _ _ ((hm.below (Nat.le_of_lt hlt)).mono (by omega)) ?_
      clear hK K
      replace hbx := Below.mod hbx hm (by omega) (by omega)
      replace AK := hid_arr (hm.arr AK.out (by omega))
      replace AZ := hid_arr (hm.arr AZ.out (by omega))
      replace X := hid_arr (hm.arr X.out (by omega))
      clear L1 hlt
      try replace L6 := hid_arr (hm.arr L6.out (by omega))
      have v3 : BView wn wn.heap.size A3 ([1] ++ be u 8) := Own.bview (l := [1] ++ be u 8) (by rw [List.map_append]; exact own.out) (Bytes.append (by intro x hx; simp at hx; omega) (be_bytes _ _))
      have R3 := own.out.le_cap
      have S3 := own.out.cap0
      replace hB2 := Nat.lt_of_lt_of_le hB2 hsz
      have hBn := Nat.le_of_lt hB2
      clear hm hsz own
      try simp only [Act.put, List.setIfInBounds_toArray, List.set_cons_zero, List.set_cons_succ]
      refine rb_keep2 4 6 rfl rfl (by kernel_rfl) (by kernel_rfl) (by kernel_rfl) (by first | assumption | exact hBB _ _ | exact Nat.le_refl _) (fun K hK => ?_) (fun K hK => ?_)
      · go_simp
        refine (ref_sum_n kl A3 c3 ([1] ++ be u 8) 9 d1 wn H16.out HKB.out v3 (by simp [be_length]) (by omega) R3 S3 HD1.out).mono ?_
        rintro e wn ⟨rfl, hb⟩
        refine hK.out _ _ (hb.mono (by assumption)) ?_
        clear hK K
        replace hbx := hbx.trans (hb.mono hbx.size)
        replace AK := hid_arr (AK.out.below hb (by omega))
        replace AZ := hid_arr (AZ.out.below hb (by omega))
        replace X := hid_arr (X.out.below hb X.out.lt)
        try replace L1 := hid_arr (L1.out.below hb L1.out.lt)
        try replace L6 := hid_arr (L6.out.below hb L6.out.lt)
        try replace v3 := v3.step hb
        try replace v8 := v8.step hb
        replace hB2 := Nat.lt_of_lt_of_le hB2 hb.size
        have hBn := Nat.le_of_lt hB2
        clear hb
        try simp only [Act.put, List.setIfInBounds_toArray, List.set_cons_zero, List.set_cons_succ]
        refine rb_keep 6 rfl (by kernel_rfl) (by kernel_rfl) (by first | assumption | exact hBB _ _ | exact Nat.le_refl _) (fun K hK => ?_)
        skip
        go_simp
        have hb : Below wn.heap.size wn (wn.alloc (.cells #[.int .u8 2] 5)) := (Below.refl _ _).alloc (Nat.le_refl _) _
        refine hK.out _ _ (hb.mono (by assumption)) ?_
        clear hK K
        have L6 := hid_arr (Arr.new wn 5 ([2].map u8v))
        rw [show ([2].map u8v).toArray = #[.int .u8 2] from rfl] at L6
        obtain ⟨b6, e6⟩ : ∃ b, Hid (wn.heap.size = b) := ⟨_, Lib.hid rfl⟩
        rw [e6.out] at L6
        simp only [e6.out]
        have G6 : gx < b6 := by rw [← e6.out]; exact X.out.lt
        have Z6 : w.heap.size + 1 < b6 := by rw [← e6.out]; exact hB2
        try have N16 : b1 < b6 := by rw [← e6.out]; exact L1.out.lt
        obtain ⟨wn, hwm⟩ : ∃ x, Hid (wn.alloc (.cells #[.int .u8 2] 5) = x) := ⟨_, Lib.hid rfl⟩
        rw [hwm.out] at L6 hb ⊢
        clear hwm e6
        replace hbx := hbx.trans (hb.mono hbx.size)
        replace AK := hid_arr (AK.out.below hb (by omega))
        replace AZ := hid_arr (AZ.out.below hb (by omega))
        replace X := hid_arr (X.out.below hb X.out.lt)
        try replace L1 := hid_arr (L1.out.below hb L1.out.lt)
        try replace L6 := hid_arr (L6.out.below hb L6.out.lt)
        try replace v3 := v3.step hb
        try replace v8 := v8.step hb
        replace hB2 := Nat.lt_of_lt_of_le hB2 hb.size
        have hBn := Nat.le_of_lt hB2
        clear hb
        try simp only [Act.put, List.setIfInBounds_toArray, List.set_cons_zero, List.set_cons_succ]
        refine rb_keep 8 rfl (by kernel_rfl) (by kernel_rfl) (by first | assumption | exact hBB _ _ | exact Nat.le_refl _) (fun K hK => ?_)
        skip
        refine owp_app_mod (some 16) rfl _ _ _ rfl b6 5 (.int .u8 0) 1 rfl Try.underlying22 u8info 1 1 ([2].map u8v) rfl (own_arr 1 L6.out rfl (Nat.le_refl _) (by decide)) wn.heap.size ⟨gx, 0, none⟩ 8 8 9 ((be u 8).map u8v) rfl (X.out.view X.out.lt) (by simp [be_length]) (u8v_one _) (by decide) (by decide) rfl (Nat.le_of_lt L6.out.lt) ?_
        intro A8 c8 wn own hm
        have hsz := hm.size
        have hlt := L6.out.lt
        refine hK.out _ _ ((hm.below (Nat.le_of_lt hlt)).mono (by omega)) ?_
        clear hK K
        replace hbx := Below.mod hbx hm (by omega) (by omega)
        replace AK := hid_arr (hm.arr AK.out (by omega))
        replace AZ := hid_arr (hm.arr AZ.out (by omega))
        replace X := hid_arr (hm.arr X.out (by omega))
        clear L6 hlt
        try replace L1 := hid_arr (hm.arr L1.out (by omega))
        have v8 : BView wn wn.heap.size A8 ([2] ++ be u 8) := Own.bview (l := [2] ++ be u 8) (by rw [List.map_append]; exact own.out) (Bytes.append (by intro x hx; simp at hx; omega) (be_bytes _ _))
        have R8 := own.out.le_cap
        have S8 := own.out.cap0
        replace hB2 := Nat.lt_of_lt_of_le hB2 hsz
        have hBn := Nat.le_of_lt hB2
        clear hm hsz own
        try simp only [Act.put, List.setIfInBounds_toArray, List.set_cons_zero, List.set_cons_succ]
        refine rb_keep 9 rfl (by kernel_rfl) (by kernel_rfl) (by first | assumption | exact hBB _ _ | exact Nat.le_refl _) (fun K hK => ?_)
        go_simp
        refine (ref_sum_n kl A8 c8 ([2] ++ be u 8) 9 d2 wn H16.out HKB.out v8 (by simp [be_length]) (by omega) R8 S8 HD2.out).mono ?_
        rintro e wn ⟨rfl, hb⟩
        refine hK.out _ _ (hb.mono (by assumption)) ?_
        clear hK K
        replace hbx := hbx.trans (hb.mono hbx.size)
        replace AK := hid_arr (AK.out.below hb (by omega))
        replace AZ := hid_arr (AZ.out.below hb (by omega))
        replace X := hid_arr (X.out.below hb X.out.lt)
        try replace L1 := hid_arr (L1.out.below hb L1.out.lt)
        try replace L6 := hid_arr (L6.out.below hb L6.out.lt)
        try replace v3 := v3.step hb
        try replace v8 := v8.step hb
        replace hB2 := Nat.lt_of_lt_of_le hB2 hb.size
        have hBn := Nat.le_of_lt hB2
        clear hb
        try simp only [Act.put, List.setIfInBounds_toArray, List.set_cons_zero, List.set_cons_succ]
        refine rb_keep 10 rfl (by kernel_rfl) (by kernel_rfl) (by first | assumption | exact hBB _ _ | exact Nat.le_refl _) (fun K hK => ?_)
        go_simp
        refine (ref_of_c d1 d2 wn HU1.out HU2.out).mono ?_
        rintro e wn ⟨rfl, hb⟩
        refine hK.out _ _ (hb.mono (by assumption)) ?_
        clear hK K
        replace hbx := hbx.trans (hb.mono hbx.size)
        replace AK := hid_arr (AK.out.below hb (by omega))
        replace AZ := hid_arr (AZ.out.below hb (by omega))
        replace X := hid_arr (X.out.below hb X.out.lt)
        try replace L1 := hid_arr (L1.out.below hb L1.out.lt)
        try replace L6 := hid_arr (L6.out.below hb L6.out.lt)
        try replace v3 := v3.step hb
        try replace v8 := v8.step hb
        replace hB2 := Nat.lt_of_lt_of_le hB2 hb.size
        have hBn := Nat.le_of_lt hB2
        clear hb
        try simp only [Act.put, List.setIfInBounds_toArray, List.set_cons_zero, List.set_cons_succ]
        refine rb_keep 11 rfl (by kernel_rfl) (by kernel_rfl) (by first | assumption | exact hBB _ _ | exact Nat.le_refl _) (fun K hK => ?_)
        refine owp_storeA _ _ _ rfl (w.heap.size + 1) 64 ((be d1 8 ++ be d2 8).map u8v) _ rfl rfl AZ.out (key_size2 HF.out) (by simp [be_length]) (key_one _) (w.heap.size + 1) wn (Below.refl _ _) (Nat.le_refl _) ?_
        intro wn A5 hb5 hb5'
        refine hK.out _ _ hb5 ?_
        clear hK K
        replace hbx := hbx.trans (hb5.mono (by omega))
        have hBn : w.heap.size + 1 ≤ wn.heap.size := by have := hb5.size; omega
        try simp only [Act.put, List.setIfInBounds_toArray, List.set_cons_zero, List.set_cons_succ]
        refine rb_done (by first | assumption | exact hBB _ _ | exact Nat.le_refl _) (by kernel_rfl) ?_
        go_wp2_with fail
        refine ret_key2 (g := w.heap.size + 1) rfl A5.out HF.out rfl rfl ⟨rfl, hbx⟩
      · skip
        go_simp
        have hb : Below wn.heap.size wn (wn.alloc (.cells #[.int .u8 2] 5)) := (Below.refl _ _).alloc (Nat.le_refl _) _
        refine hK.out _ _ (hb.mono (by assumption)) ?_
        clear hK K
        have L6 := hid_arr (Arr.new wn 5 ([2].map u8v))
        rw [show ([2].map u8v).toArray = #[.int .u8 2] from rfl] at L6
        obtain ⟨b6, e6⟩ : ∃ b, Hid (wn.heap.size = b) := ⟨_, Lib.hid rfl⟩
        rw [e6.out] at L6
        simp only [e6.out]
        have G6 : gx < b6 := by rw [← e6.out]; exact X.out.lt
        have Z6 : w.heap.size + 1 < b6 := by rw [← e6.out]; exact hB2
        try have N16 : b1 < b6 := by rw [← e6.out]; exact L1.out.lt
        obtain ⟨wn, hwm⟩ : ∃ x, Hid (wn.alloc (.cells #[.int .u8 2] 5) = x) := ⟨_, Lib.hid rfl⟩
        rw [hwm.out] at L6 hb ⊢
        clear hwm e6
        replace hbx := hbx.trans (hb.mono hbx.size)
        replace AK := hid_arr (AK.out.below hb (by omega))
        replace AZ := hid_arr (AZ.out.below hb (by omega))
        replace X := hid_arr (X.out.below hb X.out.lt)
        try replace L1 := hid_arr (L1.out.below hb L1.out.lt)
        try replace L6 := hid_arr (L6.out.below hb L6.out.lt)
        try replace v3 := v3.step hb
        try replace v8 := v8.step hb
        replace hB2 := Nat.lt_of_lt_of_le hB2 hb.size
        have hBn := Nat.le_of_lt hB2
        clear hb
        try simp only [Act.put, List.setIfInBounds_toArray, List.set_cons_zero, List.set_cons_succ]
        refine rb_keep 4 rfl (by kernel_rfl) (by kernel_rfl) (by first | assumption | exact hBB _ _ | exact Nat.le_refl _) (fun K hK => ?_)
        go_simp
        refine (ref_sum_n kl A3 c3 ([1] ++ be u 8) 9 d1 wn H16.out HKB.out v3 (by simp [be_length]) (by omega) R3 S3 HD1.out).mono ?_
        rintro e wn ⟨rfl, hb⟩
        refine hK.out _ _ (hb.mono (by assumption)) ?_
        clear hK K
        replace hbx := hbx.trans (hb.mono hbx.size)
        replace AK := hid_arr (AK.out.below hb (by omega))
        replace AZ := hid_arr (AZ.out.below hb (by omega))
        replace X := hid_arr (X.out.below hb X.out.lt)
        try replace L1 := hid_arr (L1.out.below hb L1.out.lt)
        try replace L6 := hid_arr (L6.out.below hb L6.out.lt)
        try replace v3 := v3.step hb
        try replace v8 := v8.step hb
        replace hB2 := Nat.lt_of_lt_of_le hB2 hb.size
        have hBn := Nat.le_of_lt hB2
        clear hb
        try simp only [Act.put, List.setIfInBounds_toArray, List.set_cons_zero, List.set_cons_succ]
        refine rb_keep 8 rfl (by kernel_rfl) (by kernel_rfl) (by first | assumption | exact hBB _ _ | exact Nat.le_refl _) (fun K hK => ?_)
        skip
        refine owp_app_mod (some 16) rfl _ _ _ rfl b6 5 (.int .u8 0) 1 rfl Try.underlying22 u8info 1 1 ([2].map u8v) rfl (own_arr 1 L6.out rfl (Nat.le_refl _) (by decide)) wn.heap.size ⟨gx, 0, none⟩ 8 8 9 ((be u 8).map u8v) rfl (X.out.view X.out.lt) (by simp [be_length]) (u8v_one _) (by decide) (by decide) rfl (Nat.le_of_lt L6.out.lt) ?_
        intro A8 c8 wn own hm
        have hsz := hm.size
        have hlt := L6.out.lt
        refine hK.out _ _ ((hm.below (Nat.le_of_lt hlt)).mono (by omega)) ?_
        clear hK K
        replace hbx := Below.mod hbx hm (by omega) (by omega)
        replace AK := hid_arr (hm.arr AK.out (by omega))
        replace AZ := hid_arr (hm.arr AZ.out (by omega))
        replace X := hid_arr (hm.arr X.out (by omega))
        clear L6 hlt
        try replace L1 := hid_arr (hm.arr L1.out (by omega))
        have v8 : BView wn wn.heap.size A8 ([2] ++ be u 8) := Own.bview (l := [2] ++ be u 8) (by rw [List.map_append]; exact own.out) (Bytes.append (by intro x hx; simp at hx; omega) (be_bytes _ _))
        have R8 := own.out.le_cap
        have S8 := own.out.cap0
        replace hB2 := Nat.lt_of_lt_of_le hB2 hsz
        have hBn := Nat.le_of_lt hB2
        clear hm hsz own
        try simp only [Act.put, List.setIfInBounds_toArray, List.set_cons_zero, List.set_cons_succ]
        refine rb_keep 9 rfl (by kernel_rfl) (by kernel_rfl) (by first | assumption | exact hBB _ _ | exact Nat.le_refl _) (fun K hK => ?_)
        go_simp
        refine (ref_sum_n kl A8 c8 ([2] ++ be u 8) 9 d2 wn H16.out HKB.out v8 (by simp [be_length]) (by omega) R8 S8 HD2.out).mono ?_
        rintro e wn ⟨rfl, hb⟩
        refine hK.out _ _ (hb.mono (by assumption)) ?_
        clear hK K
        replace hbx := hbx.trans (hb.mono hbx.size)
        replace AK := hid_arr (AK.out.below hb (by omega))
        replace AZ := hid_arr (AZ.out.below hb (by omega))
        replace X := hid_arr (X.out.below hb X.out.lt)
        try replace L1 := hid_arr (L1.out.below hb L1.out.lt)
        try replace L6 := hid_arr (L6.out.below hb L6.out.lt)
        try replace v3 := v3.step hb
        try replace v8 := v8.step hb
        replace hB2 := Nat.lt_of_lt_of_le hB2 hb.size
        have hBn := Nat.le_of_lt hB2
        clear hb
        try simp only [Act.put, List.setIfInBounds_toArray, List.set_cons_zero, List.set_cons_succ]
        refine rb_keep 10 rfl (by kernel_rfl) (by kernel_rfl) (by first | assumption | exact hBB _ _ | exact Nat.le_refl _) (fun K hK => ?_)
        go_simp
        refine (ref_of_c d1 d2 wn HU1.out HU2.out).mono ?_
        rintro e wn ⟨rfl, hb⟩
        refine hK.out _ _ (hb.mono (by assumption)) ?_
        clear hK K
        replace hbx := hbx.trans (hb.mono hbx.size)
        replace AK := hid_arr (AK.out.below hb (by omega))
        replace AZ := hid_arr (AZ.out.below hb (by omega))
        replace X := hid_arr (X.out.below hb X.out.lt)
        try replace L1 := hid_arr (L1.out.below hb L1.out.lt)
        try replace L6 := hid_arr (L6.out.below hb L6.out.lt)
        try replace v3 := v3.step hb
        try replace v8 := v8.step hb
        replace hB2 := Nat.lt_of_lt_of_le hB2 hb.size
        have hBn := Nat.le_of_lt hB2
        clear hb
        try simp only [Act.put, List.setIfInBounds_toArray, List.set_cons_zero, List.set_cons_succ]
        refine rb_keep 11 rfl (by kernel_rfl) (by kernel_rfl) (by first | assumption | exact hBB _ _ | exact Nat.le_refl _) (fun K hK => ?_)
        refine owp_storeA _ _ _ rfl (w.heap.size + 1) 64 ((be d1 8 ++ be d2 8).map u8v) _ rfl rfl AZ.out (key_size2 HF.out) (by simp [be_length]) (key_one _) (w.heap.size + 1) wn (Below.refl _ _) (Nat.le_refl _) ?_
        intro wn A5 hb5 hb5'
        refine hK.out _ _ hb5 ?_
        clear hK K
        replace hbx := hbx.trans (hb5.mono (by omega))
        have hBn : w.heap.size + 1 ≤ wn.heap.size := by have := hb5.size; omega
        try simp only [Act.put, List.setIfInBounds_toArray, List.set_cons_zero, List.set_cons_succ]
        refine rb_done (by first | assumption | exact hBB _ _ | exact Nat.le_refl _) (by kernel_rfl) ?_
        go_wp2_with fail
        refine ret_key2 (g := w.heap.size + 1) rfl A5.out HF.out rfl rfl ⟨rfl, hbx⟩
    · skip
      go_simp
      have hb : Below wn.heap.size wn (wn.alloc (.cells #[.int .u8 2] 5)) := (Below.refl _ _).alloc (Nat.le_refl _) _
      refine hK.out _ _ (hb.mono (by assumption)) ?_
      clear hK K
      have L6 := hid_arr (Arr.new wn 5 ([2].map u8v))
      rw [show ([2].map u8v).toArray = #[.int .u8 2] from rfl] at L6
      obtain ⟨b6, e6⟩ : ∃ b, Hid (wn.heap.size = b) := ⟨_, Lib.hid rfl⟩
      rw [e6.out] at L6
      simp only [e6.out]
      have G6 : gx < b6 := by rw [← e6.out]; exact X.out.lt
      have Z6 : w.heap.size + 1 < b6 := by rw [← e6.out]; exact hB2
      try have N16 : b1 < b6 := by rw [← e6.out]; exact L1.out.lt
      obtain ⟨wn, hwm⟩ : ∃ x, Hid (wn.alloc (.cells #[.int .u8 2] 5) = x) := ⟨_, Lib.hid rfl⟩
      rw [hwm.out] at L6 hb ⊢
      clear hwm e6
      replace hbx := hbx.trans (hb.mono hbx.size)
      replace AK := hid_arr (AK.out.below hb (by omega))
      replace AZ := hid_arr (AZ.out.below hb (by omega))
      replace X := hid_arr (X.out.below hb X.out.lt)
      try replace L1 := hid_arr (L1.out.below hb L1.out.lt)
      try replace L6 := hid_arr (L6.out.below hb L6.out.lt)
      try replace v3 := v3.step hb
      try replace v8 := v8.step hb
      replace hB2 := Nat.lt_of_lt_of_le hB2 hb.size
      have hBn := Nat.le_of_lt hB2
      clear hb
      try simp only [Act.put, List.setIfInBounds_toArray, List.set_cons_zero, List.set_cons_succ]
      refine rb_keep 3 rfl (by kernel_rfl) (by kernel_rfl) (by first | assumption | exact hBB _ _ | exact Nat.le_refl _) (fun K hK => ?_)
      skip
      refine owp_app_mod (some 11) rfl _ _ _ rfl b1 5 (.int .u8 0) 1 rfl Try.underlying22 u8info 1 1 ([1].map u8v) rfl (own_arr 1 L1.out rfl (Nat.le_refl _) (by decide)) wn.heap.size ⟨gx, 0, none⟩ 8 8 9 ((be u 8).map u8v) rfl (X.out.view X.out.lt) (by simp [be_length]) (u8v_one _) (by decide) (by decide) rfl (Nat.le_of_lt L1.out.lt) ?_
      intro A3 c3 wn own hm
      have hsz := hm.size
      have hlt := L1.out.lt
      refine hK.out _ _ ((hm.below (Nat.le_of_lt hlt)).mono (by omega)) ?_
      clear hK K
      replace hbx := Below.mod hbx hm (by omega) (by omega)
      replace AK := hid_arr (hm.arr AK.out (by omega))
      replace AZ := hid_arr (hm.arr AZ.out (by omega))
      replace X := hid_arr (hm.arr X.out (by omega))
      clear L1 hlt
      try replace L6 := hid_arr (hm.arr L6.out (by omega))
      have v3 : BView wn wn.heap.size A3 ([1] ++ be u 8) := Own.bview (l := [1] ++ be u 8) (by rw [List.map_append]; exact own.out) (Bytes.append (by intro x hx; simp at hx; omega) (be_bytes _ _))
      have R3 := own.out.le_cap
      have S3 := own.out.cap0
      replace hB2 := Nat.lt_of_lt_of_le hB2 hsz
      have hBn := Nat.le_of_lt hB2
      clear hm hsz own
      try simp only [Act.put, List.setIfInBounds_toArray, List.set_cons_zero, List.set_cons_succ]
      refine rb_keep 4 rfl (by kernel_rfl) (by kernel_rfl) (by first | assumption | exact hBB _ _ | exact Nat.le_refl _) (fun K hK => ?_)
      go_simp
      refine (ref_sum_n kl A3 c3 ([1] ++ be u 8) 9 d1 wn H16.out HKB.out v3 (by simp [be_length]) (by omega) R3 S3 HD1.out).mono ?_
      rintro e wn ⟨rfl, hb⟩
      refine hK.out _ _ (hb.mono (by assumption)) ?_
      clear hK K
      replace hbx := hbx.trans (hb.mono hbx.size)
      replace AK := hid_arr (AK.out.below hb (by omega))
      replace AZ := hid_arr (AZ.out.below hb (by omega))
      replace X := hid_arr (X.out.below hb X.out.lt)
      try replace L1 := hid_arr (L1.out.below hb L1.out.lt)
      try replace L6 := hid_arr (L6.out.below hb L6.out.lt)
      try replace v3 := v3.step hb
      try replace v8 := v8.step hb
      replace hB2 := Nat.lt_of_lt_of_le hB2 hb.size
      have hBn := Nat.le_of_lt hB2
      clear hb
      try simp only [Act.put, List.setIfInBounds_toArray, List.set_cons_zero, List.set_cons_succ]
      refine rb_keep 8 rfl (by kernel_rfl) (by kernel_rfl) (by first | assumption | exact hBB _ _ | exact Nat.le_refl _) (fun K hK => ?_)
      skip
      refine owp_app_mod (some 16) rfl _ _ _ rfl b6 5 (.int .u8 0) 1 rfl Try.underlying22 u8info 1 1 ([2].map u8v) rfl (own_arr 1 L6.out rfl (Nat.le_refl _) (by decide)) wn.heap.size ⟨gx, 0, none⟩ 8 8 9 ((be u 8).map u8v) rfl (X.out.view X.out.lt) (by simp [be_length]) (u8v_one _) (by decide) (by decide) rfl (Nat.le_of_lt L6.out.lt) ?_
      intro A8 c8 wn own hm
      have hsz := hm.size
      have hlt := L6.out.lt
      refine hK.out _ _ ((hm.below (Nat.le_of_lt hlt)).mono (by omega)) ?_
      clear hK K
      replace hbx := Below.mod hbx hm (by omega) (by omega)
      replace AK := hid_arr (hm.arr AK.out (by omega))
      replace AZ := hid_arr (hm.arr AZ.out (by omega))
      replace X := hid_arr (hm.arr X.out (by omega))
      clear L6 hlt
      try replace L1 := hid_arr (hm.arr L1.out (by omega))
      have v8 : BView wn wn.heap.size A8 ([2] ++ be u 8) := Own.bview (l := [2] ++ be u 8) (by rw [List.map_append]; exact own.out) (Bytes.append (by intro x hx; simp at hx; omega) (be_bytes _ _))
      have R8 := own.out.le_cap
      have S8 := own.out.cap0
      replace hB2 := Nat.lt_of_lt_of_le hB2 hsz
      have hBn := Nat.le_of_lt hB2
      clear hm hsz own
      try simp only [Act.put, List.setIfInBounds_toArray, List.set_cons_zero, List.set_cons_succ]
      refine rb_keep 9 rfl (by kernel_rfl) (by kernel_rfl) (by first | assumption | exact hBB _ _ | exact Nat.le_refl _) (fun K hK => ?_)
      go_simp
      refine (ref_sum_n kl A8 c8 ([2] ++ be u 8) 9 d2 wn H16.out HKB.out v8 (by simp [be_length]) (by omega) R8 S8 HD2.out).mono ?_
      rintro e wn ⟨rfl, hb⟩
      refine hK.out _ _ (hb.mono (by assumption)) ?_
      clear hK K
      replace hbx := hbx.trans (hb.mono hbx.size)
      replace AK := hid_arr (AK.out.below hb (by omega))
      replace AZ := hid_arr (AZ.out.below hb (by omega))
      replace X := hid_arr (X.out.below hb X.out.lt)
      try replace L1 := hid_arr (L1.out.below hb L1.out.lt)
      try replace L6 := hid_arr (L6.out.below hb L6.out.lt)
      try replace v3 := v3.step hb
      try replace v8 := v8.step hb
      replace hB2 := Nat.lt_of_lt_of_le hB2 hb.size
      have hBn := Nat.le_of_lt hB2
      clear hb
      try simp only [Act.put, List.setIfInBounds_toArray, List.set_cons_zero, List.set_cons_succ]
      refine rb_keep 10 rfl (by kernel_rfl) (by kernel_rfl) (by first | assumption | exact hBB _ _ | exact Nat.le_refl _) (fun K hK => ?_)
      go_simp
      refine (ref_of_c d1 d2 wn HU1.out HU2.out).mono ?_
      rintro e wn ⟨rfl, hb⟩
      refine hK.out _ _ (hb.mono (by assumption)) ?_
      clear hK K
      replace hbx := hbx.trans (hb.mono hbx.size)
      replace AK := hid_arr (AK.out.below hb (by omega))
      replace AZ := hid_arr (AZ.out.below hb (by omega))
      replace X := hid_arr (X.out.below hb X.out.lt)
      try replace L1 := hid_arr (L1.out.below hb L1.out.lt)
      try replace L6 := hid_arr (L6.out.below hb L6.out.lt)
      try replace v3 := v3.step hb
      try replace v8 := v8.step hb
      replace hB2 := Nat.lt_of_lt_of_le hB2 hb.size
      have hBn := Nat.le_of_lt hB2
      clear hb
      try simp only [Act.put, List.setIfInBounds_toArray, List.set_cons_zero, List.set_cons_succ]
      refine rb_keep 11 rfl (by kernel_rfl) (by kernel_rfl) (by first | assumption | exact hBB _ _ | exact Nat.le_refl _) (fun K hK => ?_)
      refine owp_storeA _ _ _ rfl (w.heap.size + 1) 64 ((be d1 8 ++ be d2 8).map u8v) _ rfl rfl AZ.out (key_size2 HF.out) (by simp [be_length]) (key_one _) (w.heap.size + 1) wn (Below.refl _ _) (Nat.le_refl _) ?_
      intro wn A5 hb5 hb5'
      refine hK.out _ _ hb5 ?_
      clear hK K
      replace hbx := hbx.trans (hb5.mono (by omega))
      have hBn : w.heap.size + 1 ≤ wn.heap.size := by have := hb5.size; omega
      try simp only [Act.put, List.setIfInBounds_toArray, List.set_cons_zero, List.set_cons_succ]
      refine rb_done (by first | assumption | exact hBB _ _ | exact Nat.le_refl _) (by kernel_rfl) ?_
      go_wp2_with fail
      refine ret_key2 (g := w.heap.size + 1) rfl A5.out HF.out rfl rfl ⟨rfl, hbx⟩
  · skip
    go_simp
    have hb : Below wn.heap.size wn (wn.alloc (.cells #[.int .u8 2] 5)) := (Below.refl _ _).alloc (Nat.le_refl _) _
    refine hK.out _ _ (hb.mono (by assumption)) ?_
    clear hK K
    have L6 := hid_arr (Arr.new wn 5 ([2].map u8v))
    rw [show ([2].map u8v).toArray = #[.int .u8 2] from rfl] at L6
    obtain ⟨b6, e6⟩ : ∃ b, Hid (wn.heap.size = b) := ⟨_, Lib.hid rfl⟩
    rw [e6.out] at L6
    simp only [e6.out]
    have G6 : gx < b6 := by rw [← e6.out]; exact X.out.lt
    have Z6 : w.heap.size + 1 < b6 := by rw [← e6.out]; exact hB2
    try have N16 : b1 < b6 := by rw [← e6.out]; exact L1.out.lt
    obtain ⟨wn, hwm⟩ : ∃ x, Hid (wn.alloc (.cells #[.int .u8 2] 5) = x) := ⟨_, Lib.hid rfl⟩
    rw [hwm.out] at L6 hb ⊢
    clear hwm e6
    replace hbx := hbx.trans (hb.mono hbx.size)
    replace AK := hid_arr (AK.out.below hb (by omega))
    replace AZ := hid_arr (AZ.out.below hb (by omega))
    replace X := hid_arr (X.out.below hb X.out.lt)
    try replace L1 := hid_arr (L1.out.below hb L1.out.lt)
    try replace L6 := hid_arr (L6.out.below hb L6.out.lt)
    try replace v3 := v3.step hb
    try replace v8 := v8.step hb
    replace hB2 := Nat.lt_of_lt_of_le hB2 hb.size
    have hBn := Nat.le_of_lt hB2
    clear hb
    try simp only [Act.put, List.setIfInBounds_toArray, List.set_cons_zero, List.set_cons_succ]
    refine rb_keep 1 rfl (by kernel_rfl) (by kernel_rfl) (by first | assumption | exact hBB _ _ | exact Nat.le_refl _) (fun K hK => ?_)
    skip
    go_simp
    have hb : Below wn.heap.size wn (wn.alloc (.cells #[.int .u8 1] 5)) := (Below.refl _ _).alloc (Nat.le_refl _) _
    refine hK.out _ _ (hb.mono (by assumption)) ?_
    clear hK K
    have L1 := hid_arr (Arr.new wn 5 ([1].map u8v))
    rw [show ([1].map u8v).toArray = #[.int .u8 1] from rfl] at L1
    obtain ⟨b1, e1⟩ : ∃ b, Hid (wn.heap.size = b) := ⟨_, Lib.hid rfl⟩
    rw [e1.out] at L1
    simp only [e1.out]
    have G1 : gx < b1 := by rw [← e1.out]; exact X.out.lt
    have Z1 : w.heap.size + 1 < b1 := by rw [← e1.out]; exact hB2
    try have N16 : b6 < b1 := by rw [← e1.out]; exact L6.out.lt
    obtain ⟨wn, hwm⟩ : ∃ x, Hid (wn.alloc (.cells #[.int .u8 1] 5) = x) := ⟨_, Lib.hid rfl⟩
    rw [hwm.out] at L1 hb ⊢
    clear hwm e1
    replace hbx := hbx.trans (hb.mono hbx.size)
    replace AK := hid_arr (AK.out.below hb (by omega))
    replace AZ := hid_arr (AZ.out.below hb (by omega))
    replace X := hid_arr (X.out.below hb X.out.lt)
    try replace L1 := hid_arr (L1.out.below hb L1.out.lt)
    try replace L6 := hid_arr (L6.out.below hb L6.out.lt)
    try replace v3 := v3.step hb
    try replace v8 := v8.step hb
    replace hB2 := Nat.lt_of_lt_of_le hB2 hb.size
    have hBn := Nat.le_of_lt hB2
    clear hb
    try simp only [Act.put, List.setIfInBounds_toArray, List.set_cons_zero, List.set_cons_succ]
    refine rb_keep 3 rfl (by kernel_rfl) (by kernel_rfl) (by first | assumption | exact hBB _ _ | exact Nat.le_refl _) (fun K hK => ?_)
    skip
    refine owp_app_mod (some 11) rfl _ _ _ rfl b1 5 (.int .u8 0) 1 rfl Try.underlying22 u8info 1 1 ([1].map u8v) rfl (own_arr 1 L1.out rfl (Nat.le_refl _) (by decide)) wn.heap.size ⟨gx, 0, none⟩ 8 8 9 ((be u 8).map u8v) rfl (X.out.view X.out.lt) (by simp [be_length]) (u8v_one _) (by decide) (by decide) rfl (Nat.le_of_lt L1.out.lt) ?_
    intro A3 c3 wn own hm
    have hsz := hm.size
    have hlt := L1.out.lt
    refine hK.out _ _ ((hm.below (Nat.le_of_lt hlt)).mono (by omega)) ?_
    clear hK K
    replace hbx := Below.mod hbx hm (by omega) (by omega)
    replace AK := hid_arr (hm.arr AK.out (by omega))
    replace AZ := hid_arr (hm.arr AZ.out (by omega))
    replace X := hid_arr (hm.arr X.out (by omega))
    clear L1 hlt
    try replace L6 := hid_arr (hm.arr L6.out (by omega))
    have v3 : BView wn wn.heap.size A3 ([1] ++ be u 8) := Own.bview (l := [1] ++ be u 8) (by rw [List.map_append]; exact own.out) (Bytes.append (by intro x hx; simp at hx; omega) (be_bytes _ _))
    have R3 := own.out.le_cap
    have S3 := own.out.cap0
    replace hB2 := Nat.lt_of_lt_of_le hB2 hsz
    have hBn := Nat.le_of_lt hB2
    clear hm hsz own
    try simp only [Act.put, List.setIfInBounds_toArray, List.set_cons_zero, List.set_cons_succ]
    refine rb_keep 4 rfl (by kernel_rfl) (by kernel_rfl) (by first | assumption | exact hBB _ _ | exact Nat.le_refl _) (fun K hK => ?_)
    go_simp
    refine (ref_sum_n kl A3 c3 ([1] ++ be u 8) 9 d1 wn H16.out HKB.out v3 (by simp [be_length]) (by omega) R3 S3 HD1.out).mono ?_
    rintro e wn ⟨rfl, hb⟩
    refine hK.out _ _ (hb.mono (by assumption)) ?_
    clear hK K
    replace hbx := hbx.trans (hb.mono hbx.size)
    replace AK := hid_arr (AK.out.below hb (by omega))
    replace AZ := hid_arr (AZ.out.below hb (by omega))
    replace X := hid_arr (X.out.below hb X.out.lt)
    try replace L1 := hid_arr (L1.out.below hb L1.out.lt)
    try replace L6 := hid_arr (L6.out.below hb L6.out.lt)
    try replace v3 := v3.step hb
    try replace v8 := v8.step hb
    replace hB2 := Nat.lt_of_lt_of_le hB2 hb.size
    have hBn := Nat.le_of_lt hB2
    clear hb
    try simp only [Act.put, List.setIfInBounds_toArray, List.set_cons_zero, List.set_cons_succ]
    refine rb_keep 8 rfl (by kernel_rfl) (by kernel_rfl) (by first | assumption | exact hBB _ _ | exact Nat.le_refl _) (fun K hK => ?_)
    skip
    refine owp_app_mod (some 16) rfl _ _ _ rfl b6 5 (.int .u8 0) 1 rfl Try.underlying22 u8info 1 1 ([2].map u8v) rfl (own_arr 1 L6.out rfl (Nat.le_refl _) (by decide)) wn.heap.size ⟨gx, 0, none⟩ 8 8 9 ((be u 8).map u8v) rfl (X.out.view X.out.lt) (by simp [be_length]) (u8v_one _) (by decide) (by decide) rfl (Nat.le_of_lt L6.out.lt) ?_
    intro A8 c8 wn own hm
    have hsz := hm.size
    have hlt := L6.out.lt
    refine hK.out _ _ ((hm.below (Nat.le_of_lt hlt)).mono (by omega)) ?_
    clear hK K
    replace hbx := Below.mod hbx hm (by omega) (by omega)
    replace AK := hid_arr (hm.arr AK.out (by omega))
    replace AZ := hid_arr (hm.arr AZ.out (by omega))
    replace X := hid_arr (hm.arr X.out (by omega))
    clear L6 hlt
    try replace L1 := hid_arr (hm.arr L1.out (by omega))
    have v8 : BView wn wn.heap.size A8 ([2] ++ be u 8) := Own.bview (l := [2] ++ be u 8) (by rw [List.map_append]; exact own.out) (Bytes.append (by intro x hx; simp at hx; omega) (be_bytes _ _))
    have R8 := own.out.le_cap
    have S8 := own.out.cap0
    replace hB2 := Nat.lt_of_lt_of_le hB2 hsz
    have hBn := Nat.le_of_lt hB2
    clear hm hsz own
    try simp only [Act.put, List.setIfInBounds_toArray, List.set_cons_zero, List.set_cons_succ]
    refine rb_keep 9 rfl (by kernel_rfl) (by kernel_rfl) (by first | assumption | exact hBB _ _ | exact Nat.le_refl _) (fun K hK => ?_)
    go_simp
    refine (ref_sum_n kl A8 c8 ([2] ++ be u 8) 9 d2 wn H16.out HKB.out v8 (by simp [be_length]) (by omega) R8 S8 HD2.out).mono ?_
    rintro e wn ⟨rfl, hb⟩
    refine hK.out _ _ (hb.mono (by assumption)) ?_
    clear hK K
    replace hbx := hbx.trans (hb.mono hbx.size)
    replace AK := hid_arr (AK.out.below hb (by omega))
    replace AZ := hid_arr (AZ.out.below hb (by omega))
    replace X := hid_arr (X.out.below hb X.out.lt)
    try replace L1 := hid_arr (L1.out.below hb L1.out.lt)
    try replace L6 := hid_arr (L6.out.below hb L6.out.lt)
    try replace v3 := v3.step hb
    try replace v8 := v8.step hb
    replace hB2 := Nat.lt_of_lt_of_le hB2 hb.size
    have hBn := Nat.le_of_lt hB2
    clear hb
    try simp only [Act.put, List.setIfInBounds_toArray, List.set_cons_zero, List.set_cons_succ]
    refine rb_keep 10 rfl (by kernel_rfl) (by kernel_rfl) (by first | assumption | exact hBB _ _ | exact Nat.le_refl _) (fun K hK => ?_)
    go_simp
    refine (ref_of_c d1 d2 wn HU1.out HU2.out).mono ?_
    rintro e wn ⟨rfl, hb⟩
    refine hK.out _ _ (hb.mono (by assumption)) ?_
    clear hK K
    replace hbx := hbx.trans (hb.mono hbx.size)
    replace AK := hid_arr (AK.out.below hb (by omega))
    replace AZ := hid_arr (AZ.out.below hb (by omega))
    replace X := hid_arr (X.out.below hb X.out.lt)
    try replace L1 := hid_arr (L1.out.below hb L1.out.lt)
    try replace L6 := hid_arr (L6.out.below hb L6.out.lt)
    try replace v3 := v3.step hb
    try replace v8 := v8.step hb
    replace hB2 := Nat.lt_of_lt_of_le hB2 hb.size
    have hBn := Nat.le_of_lt hB2
    clear hb
    try simp only [Act.put, List.setIfInBounds_toArray, List.set_cons_zero, List.set_cons_succ]
    refine rb_keep 11 rfl (by kernel_rfl) (by kernel_rfl) (by first | assumption | exact hBB _ _ | exact Nat.le_refl _) (fun K hK => ?_)
    refine owp_storeA _ _ _ rfl (w.heap.size + 1) 64 ((be d1 8 ++ be d2 8).map u8v) _ rfl rfl AZ.out (key_size2 HF.out) (by simp [be_length]) (key_one _) (w.heap.size + 1) wn (Below.refl _ _) (Nat.le_refl _) ?_
    intro wn A5 hb5 hb5'
    refine hK.out _ _ hb5 ?_
    clear hK K
    replace hbx := hbx.trans (hb5.mono (by omega))
    have hBn : w.heap.size + 1 ≤ wn.heap.size := by have := hb5.size; omega
    try simp only [Act.put, List.setIfInBounds_toArray, List.set_cons_zero, List.set_cons_succ]
    refine rb_done (by first | assumption | exact hBB _ _ | exact Nat.le_refl _) (by kernel_rfl) ?_
    go_wp2_with fail
    refine ret_key2 (g := w.heap.size + 1) rfl A5.out HF.out rfl rfl ⟨rfl, hbx⟩
end Go.Proofs.Ytilgolflpdpfnaa.Old
