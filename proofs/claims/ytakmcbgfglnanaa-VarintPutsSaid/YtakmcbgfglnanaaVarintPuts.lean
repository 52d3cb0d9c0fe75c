
/- Proved: VarintPuts returns true for all bytes and numbers, and changes no memory that was there. Conditions: none. -/
import Derived.Test.YtakmcbgfglnanaaVPutRow
import Derived.Test.YtakmcbgfglnanaaAppend
import Derived.Test.YtakmcbgfglnanaaKit
namespace Go.Proofs.Ytakmcbgfglnanaa.VarintPuts
open Go.RowKit

theorem owp_append_any {P : Program} {w : World} {o : Oper} {a : Act} {K : Act → World → Prop} {Q : Exit → Act → World → Prop} (s x : Operand) (t : TypeId)
    (ho : o.op = .call { callee := .builtin .append, args := #[s, x], argTypes := #[t, t] })
    (base : Nat) (e : TypeId) (z : Value) (by_ : Nat) (hz1 : z.cells = #[z]) (ht : P.underlying t = some (.slice e)) (h2 : (P.info? e).map (fun i => (i.zero, i.size, i.bytes)) = some (some z, 1, by_))
    (A : Option Addr) (n c : Nat) (xs : List Value) (hs : a.eval s = .slice A n c) (hown : Own w base e A n c xs)
    (B : Nat) (Ax : Option Addr) (m cx : Nat) (ys : List Value) (hx : a.eval x = .slice Ax m cx) (hv : View w B Ax ys) (hm : ys.length = m) (hcx : Ax = none → cx = 0) (h1 : ∀ u ∈ ys, u.oneCell' = true)
    (h63 : n + m ≤ maxLen) (hbytes : (n + m) * by_ ≤ 140737488355328) (hbase : base ≤ w.heap.size) (B0 : Nat) (w0 : World) (hb0 : Below B0 w0 w) (hB0 : B0 ≤ base) (hB1 : B0 ≤ w.heap.size)
    (h : ∀ A' c' w', Hid (Own w' base e A' (n + m) c' (xs ++ ys)) → Below B0 w0 w' → Below B0 w w' → K (a.put o.dst (.slice A' (n + m) c')) w') : o.wp P a w K Q := by
  obtain ⟨i, hi, hz, hsz, hby⟩ := info_parts h2
  cases Ax with
  | none =>
    have h0 : ys = [] := by
      rcases ys with _ | ⟨y, ys⟩
      · rfl
      · obtain ⟨b, o, e1, _⟩ := hv (by simp); cases e1
    subst h0
    simp only [List.length_nil] at hm
    subst hm
    rw [hcx rfl] at hx
    have hr := run_append_owned_none (P := P) (w := w) base t o.type e i 1 ht hi _ n xs hown
    unfold Oper.wp execOp
    simp only [ho, resolve, invoke, builtin, Sem.run_bind, Sem.run_pure, Result.andThen_ok, List.map_toArray, List.map_cons, List.map_nil, hs, hx, hr]
    exact h A c w (by rw [List.append_nil]; exact Lib.hid hown) hb0 (Below.refl _ _)
  | some ad => exact owp_append1 s x t ho base e z by_ hz1 ht h2 A n c xs hs hown B ad m cx ys hx hv hm h1 h63 hbytes hbase B0 w0 hb0 hB0 hB1 h

theorem own_arr {w : World} {g base : Nat} {l : List Nat} (n : Nat) (h : Arr w g 5 (l.map u8v)) (hn : l.length = n) (hb : base ≤ g) (hm : n ≤ maxLen) : Own w base 5 (some ⟨g, 0, none⟩) n n (l.map u8v) := by
  refine ⟨by simp [hn], .inr ⟨g, n, (l.map u8v).toArray, rfl, hb, h, Nat.le_refl _, hm, by simp [hn], ?_⟩⟩
  rw [List.toList_toArray]
  exact List.take_of_length_le (by simp [hn])

theorem vTake_row (A : Option Addr) (c k n q s m : Nat) (b : List Nat) (w : World) (hv : BView w w.heap.size A (vrow n s m ++ b)) (hk : s + b.length = k) (hl : k ≤ 1000000) (h : VCls n q s m) :
    Calls Try.prog 49 #[.slice A k c] w fun e w' => ∃ A' c', e = .returned (.tuple #[.int .u64 (n : Int), .slice A' b.length c', .int .i64 0]) ∧ BView w' w'.heap.size A' b ∧ Below w.heap.size w w' := by
  obtain ⟨h1, h2, h3, h4⟩ := row_take b h
  have hlen : (vrow n s m ++ b).length = k := by rw [List.length_append, vrow_length]; exact hk
  rw [← hlen]
  refine (vTake_c A c _ w hv (by omega)).mono ?_
  rintro e w' (⟨_, A', c', rfl, hv', hb'⟩ | ⟨hno, _⟩)
  · rw [h2, h3]
    rw [h2, h4] at hv'
    rw [hlen, show k - s = b.length by omega]
    exact ⟨A', c', rfl, hv', hb'⟩
  · exact absurd h1 hno

theorem vcls_all (n : Nat) (h : n < 4611686018427387904) : ∃ q s m, VCls n q s m := by
  unfold VCls
  by_cases h1 : n < 64
  · exact ⟨0, 1, 0, by omega⟩
  by_cases h2 : n < 16384
  · exact ⟨1, 2, 16384, by omega⟩
  by_cases h3 : n < 1073741824
  · exact ⟨2, 4, 2147483648, by omega⟩
  · exact ⟨3, 8, 13835058055282163712, by omega⟩

set_option maxRecDepth 100000 in
set_option maxHeartbeats 4000000 in
theorem walk (a0 : Option Addr) (n0 c0 : Nat) (l0 : List Nat) (a1 : Int) (w : World)
    (w0 : l0.length = n0 ∧ (a0 = none → c0 = 0) ∧ BView w w.heap.size a0 l0 ∧ n0 ≤ c0) (w1 : 0 ≤ a1 ∧ a1 < 18446744073709551616) :
    Calls Try.prog 9 #[.slice a0 n0 c0, .int .u64 a1] w fun e w' => e = .returned (.bool true) ∧ Below w.heap.size w w' := by
  obtain ⟨rfl, hc0, hv0, _⟩ := w0
  obtain ⟨n, rfl⟩ := Int.eq_ofNat_of_zero_le w1.1
  by_cases hlong : (500 : Int) < (l0.length : Int)
  · clear w1
    go_enter Try.func9, Try.ntmps9
    go_wp2_with fail
    refine (varint_awake_c _).mono ?_
    rintro e wa ⟨rfl, rfl⟩
    go_wp2
    go_ret
    exact ⟨rfl, Below.refl _ _⟩
  have hl5 : l0.length ≤ 500 := by omega
  by_cases hbig : 4611686018427387904 ≤ n
  · have HB := Lib.hid hbig
    clear w1 hbig
    go_enter Try.func9, Try.ntmps9
    go_wp2_with fail
    refine (vPut_no a0 c0 l0.length n w HB.out).mono ?_
    rintro e wa ⟨rfl, rfl⟩
    go_wp2_with fail
    refine (vSize_no n _ HB.out).mono ?_
    rintro e wa ⟨rfl, rfl⟩
    go_wp2_with fail
    refine (ref_size_no n _ HB.out).mono ?_
    rintro e wa ⟨rfl, rfl⟩
    go_wp2_with fail
    refine (ref_size_no n _ HB.out).mono ?_
    rintro e wa ⟨rfl, rfl⟩
    go_wp2_with fail
    refine (varint_awake_c _).mono ?_
    rintro e wa ⟨rfl, rfl⟩
    go_wp2
    go_ret
    exact ⟨rfl, Below.refl _ _⟩
  · obtain ⟨q, s, m, hcl⟩ := vcls_all n (by omega)
    have hs1 : 1 ≤ s ∧ s ≤ 8 := by unfold VCls at hcl; omega
    have hsi : (1 : Int) ≤ (s : Int) ∧ (s : Int) ≤ 8 := by omega
    have hse : ¬ s = 0 := by omega
    have hsp : ((s : Int) == 0) = false := by rw [beq_eq_false_iff_ne]; omega
    have HC := Lib.hid hcl
    have hlr : (vrow n s m).length = s := vrow_length _ _ _
    have hwb := Below.refl w.heap.size w
    clear w1 hbig hcl
    go_enter Try.func9, Try.ntmps9
    go_wp2_with fail
    refine (vPut_c a0 c0 l0 n q s m w w.heap.size hv0 (Nat.le_refl _) (by omega) HC.out).mono ?_
    rintro e w1 ⟨g1, rfl, hg1, hA1, hb1, hy1⟩
    have hv1 := hv0.step hb1
    have hp1 := BView.of_arr hy1 hA1.out hA1.out.lt
    have HL1 := Lib.hid (show (l0 ++ vrow n s m).length = l0.length + s by rw [List.length_append, hlr])
    rw [HL1.out]
    go_wp2_with fail
    refine (vSize_c n q s m _ HC.out).mono ?_
    rintro e wa ⟨rfl, rfl⟩
    go_wp2_with fail
    refine (ref_size_c n q s m _ HC.out).mono ?_
    rintro e wa ⟨rfl, rfl⟩
    go_wp2_with fail
    refine (ref_size_c n q s m _ HC.out).mono ?_
    rintro e wa ⟨rfl, rfl⟩
    go_wp2_with fail
    refine (ref_vBytes_c n q s m _ HC.out).mono ?_
    rintro e w2 ⟨g2, rfl, hg2, hA2, hb2, hy2⟩
    rw [hlr]
    have hv2 := hv1.step hb2
    have hp2 := hp1.step hb2
    have HO2 := Lib.hid (own_arr s hA2.out hlr hg2 (by unfold maxLen; omega))
    go_wp2_with (at_builtin; (refine wp_append1 rfl _ _ _ rfl w1.heap.size 5 (.int .u8 0) 1 rfl Try.underlying80 u8info _ s s _ rfl HO2.out w2.heap.size a0 _ c0 (l0.map u8v) rfl hv2.view (by simp) hc0 (u8v_one l0) (by unfold maxLen; omega) (by omega) hb2.size w1.heap.size w1 hb2 (Nat.le_refl _) ?_); intro A3 c3 w3 hown3 hb3)
    have hv3 := hv1.step hb3
    have hp3 := hp1.step hb3
    have hap : BView w3 w3.heap.size A3 (vrow n s m ++ l0) := Own.bview (l := vrow n s m ++ l0) (by rw [List.map_append]; exact hown3.out) (hy2.append hv0.bytes)
    refine (vTake_row A3 c3 _ n q s m l0 w3 hap rfl (by omega) HC.out).mono ?_
    rintro e w4 ⟨A4, c4, rfl, hv4, hb4⟩
    have hv4o := hv3.step hb4
    have hp4 := hp3.step hb4
    have hbz : Below w.heap.size w w4 := hb1.trans ((hb3.trans (hb4.mono hb3.size)).mono hb1.size)
    clear hap hown3 HO2 hA1 hA2 hp1 hp2 hp3 hv1 hv2 hv3
    go_wp2_with fail
    have hww : w4.heap.size ≤ w4.heap.size := Nat.le_refl _
    refine rb_start_at (w4.heap.size) (by assumption) (by kernel_rfl) (fun wx hwx hBwx => ?_)
    have hbx := hbz.trans (hwx.mono hbz.size)
    have hx0 := hv4o.below hwx
    have hBa : ∀ o', w4.heap.size ≤ (wx.alloc o').heap.size := by intro o'; simp; omega
    refine rb_take 0 (some 47) (v := ?_) rfl rfl (by kernel_rfl) (by kernel_rfl) (by kernel_rfl) (by kernel_rfl) ?_ ?_
    rotate_left
    focus (intro w' hw'; go_simp; try with_reducible rfl)
    try simp only [Act.put, List.setIfInBounds_toArray, List.set_cons_zero, List.set_cons_succ]
    refine rb_take 1 (some 48) (v := .string (bstr (l0 ++ vrow n s m))) rfl rfl (by kernel_rfl) (by kernel_rfl) (by kernel_rfl) (by kernel_rfl) ?_ ?_
    focus (intro w' hw'; exact exec_bstr (n := l0.length + s) (l0.length + s) (.tmp 47) _ _ rfl (by kernel_rfl) (hp4.step (hwx.trans hw')) HL1.out _ Try.underlying80 Try.underlying5 Try.underlying9 rfl)
    try simp only [Act.put, List.setIfInBounds_toArray, List.set_cons_zero, List.set_cons_succ]
    refine rb_take 3 (some 50) (v := ?_) rfl rfl (by kernel_rfl) (by kernel_rfl) (by kernel_rfl) (by kernel_rfl) ?_ ?_
    rotate_left
    focus (intro w' hw'; go_simp; try with_reducible rfl)
    try simp only [Act.put, List.setIfInBounds_toArray, List.set_cons_zero, List.set_cons_succ]
    refine rb_take 5 (some 52) (v := ?_) rfl rfl (by kernel_rfl) (by kernel_rfl) (by kernel_rfl) (by kernel_rfl) ?_ ?_
    rotate_left
    focus (intro w' hw'; go_simp; try with_reducible rfl)
    try simp only [Act.put, List.setIfInBounds_toArray, List.set_cons_zero, List.set_cons_succ]
    refine rb_keep 2 rfl (by kernel_rfl) (by kernel_rfl) (by first | assumption | exact hBB _ _ | exact Nat.le_refl _) (fun K hK => ?_)
    go_simp
    refine hK.out _ _ ((Below.refl _ _).alloc hBwx _) ?_
    clear hK K
    have hBa1 : w4.heap.size ≤ (wx.alloc (.cells #[] 5)).heap.size := hBa _
    try simp only [Act.put, List.setIfInBounds_toArray, List.set_cons_zero, List.set_cons_succ]
    refine rb_keep 4 rfl (by kernel_rfl) (by kernel_rfl) (by first | assumption | exact hBB _ _ | exact Nat.le_refl _) (fun K hK => ?_)
    refine owp_append_any _ _ _ rfl wx.heap.size 5 (.int .u8 0) 1 rfl Try.underlying80 u8info _ 0 _ _ rfl (Own.lit wx 5 #[] 0 (by decide) rfl) w4.heap.size a0 _ c0 (l0.map u8v) rfl (hx0.view.alloc hBwx _) (by simp) hc0 (u8v_one l0) (by unfold maxLen; omega) (by omega) (by simp) w4.heap.size w4 (hwx.alloc hBwx _) hBwx hBa1 ?_
    intro A5 c5 w5 hown5 hb5 hbz5
    refine hK.out _ _ hbz5 ?_
    clear hK K
    have hO5 := Lib.hid (show Own w5 wx.heap.size 5 A5 l0.length c5 (l0.map u8v) by have h := hown5.out; rw [Nat.zero_add] at h; exact h)
    have hB5 : w4.heap.size ≤ w5.heap.size := hb5.size
    have hbx5 : wx.heap.size ≤ w5.heap.size := by have := hbz5.size; simp at this; omega
    clear hown5
    try simp only [Nat.zero_add]
    try simp only [Act.put, List.setIfInBounds_toArray, List.set_cons_zero, List.set_cons_succ]
    refine rb_keep 6 rfl (by kernel_rfl) (by kernel_rfl) (by first | assumption | exact hBB _ _ | exact Nat.le_refl _) (fun K hK => ?_)
    go_simp
    refine (ref_vBytes_c n q s m _ HC.out).mono ?_
    rintro e w6 ⟨g6, rfl, hg6, hA6, hb6, hy6⟩
    rw [hlr]
    refine hK.out _ _ (hb6.mono hB5) ?_
    clear hK K
    have hO6 := Lib.hid (hO5.out.below hb6 (fun g hg => (World.ownsRow.lt hO5.out g (by rw [hg]; rfl)).2))
    have hb6z := hb5.trans (hb6.mono hB5)
    have hB6 : w4.heap.size ≤ w6.heap.size := hb6z.size
    have hbx6 : wx.heap.size ≤ w6.heap.size := by have := hb6.size; omega
    try simp only [Act.put, List.setIfInBounds_toArray, List.set_cons_zero, List.set_cons_succ]
    refine rb_step 7 rfl (by kernel_rfl) (by kernel_rfl) (by first | assumption | exact hBB _ _ | exact Nat.le_refl _) (fun K hK => ?_)
    refine owp_append_any _ _ _ rfl wx.heap.size 5 (.int .u8 0) 1 rfl Try.underlying80 u8info _ l0.length c5 _ rfl hO6.out w6.heap.size (some ⟨g6, 0, none⟩) s s ((vrow n s m).map u8v) rfl (hA6.out.view hA6.out.lt) (by rw [List.length_map]; exact hlr) (by intro h; cases h) (u8v_one _) (by unfold maxLen; omega) (by omega) hbx6 w4.heap.size w4 hb6z hBwx hB6 ?_
    intro A7 c7 w7 hown7 hb7 hbz7
    refine hK.out _ _ hbz7 ?_
    clear hK K
    have hp7 : BView w7 w7.heap.size A7 (l0 ++ vrow n s m) := Own.bview (l := l0 ++ vrow n s m) (by rw [List.map_append]; exact hown7.out) (hv0.bytes.append hy6)
    have hx07 := hv4o.step hb7
    have hx47 := hv4.step hb7
    try simp only [Act.put, List.setIfInBounds_toArray, List.set_cons_zero, List.set_cons_succ]
    refine rb_take 8 (some 55) (v := .string (bstr (l0 ++ vrow n s m))) rfl rfl (by kernel_rfl) (by kernel_rfl) (by kernel_rfl) (by kernel_rfl) ?_ ?_
    focus (intro w' hw'; exact exec_bstr (n := l0.length + s) c7 (.tmp 54) _ _ rfl (by kernel_rfl) (hp7.step hw') HL1.out _ Try.underlying80 Try.underlying5 Try.underlying9 rfl)
    try simp only [Act.put, List.setIfInBounds_toArray, List.set_cons_zero, List.set_cons_succ]
    refine rb_take 9 (some 56) (v := ?_) rfl rfl (by kernel_rfl) (by kernel_rfl) (by kernel_rfl) (by kernel_rfl) ?_ ?_
    rotate_left
    focus (intro w' hw'; go_simp; try with_reducible rfl)
    try simp only [Act.put, List.setIfInBounds_toArray, List.set_cons_zero, List.set_cons_succ]
    refine rb_take 10 (some 57) (v := ?_) rfl rfl (by kernel_rfl) (by kernel_rfl) (by kernel_rfl) (by kernel_rfl) ?_ ?_
    rotate_left
    focus (intro w' hw'; go_simp; try with_reducible rfl)
    try simp only [Act.put, List.setIfInBounds_toArray, List.set_cons_zero, List.set_cons_succ]
    refine rb_take 11 (some 58) (v := ?_) rfl rfl (by kernel_rfl) (by kernel_rfl) (by kernel_rfl) (by kernel_rfl) ?_ ?_
    rotate_left
    focus (intro w' hw'; go_simp; try with_reducible rfl)
    try simp only [Act.put, List.setIfInBounds_toArray, List.set_cons_zero, List.set_cons_succ]
    refine rb_take 12 (some 59) (v := ?_) rfl rfl (by kernel_rfl) (by kernel_rfl) (by kernel_rfl) (by kernel_rfl) ?_ ?_
    rotate_left
    focus (intro w' hw'; go_simp; try with_reducible rfl)
    try simp only [Act.put, List.setIfInBounds_toArray, List.set_cons_zero, List.set_cons_succ]
    refine rb_take 13 (some 60) (v := ?_) rfl rfl (by kernel_rfl) (by kernel_rfl) (by kernel_rfl) (by kernel_rfl) ?_ ?_
    rotate_left
    focus (intro w' hw'; go_simp; try with_reducible rfl)
    try simp only [Act.put, List.setIfInBounds_toArray, List.set_cons_zero, List.set_cons_succ]
    refine rb_take 14 (some 61) (v := ?_) rfl rfl (by kernel_rfl) (by kernel_rfl) (by kernel_rfl) (by kernel_rfl) ?_ ?_
    rotate_left
    focus (intro w' hw'; go_simp; try with_reducible rfl)
    try simp only [Act.put, List.setIfInBounds_toArray, List.set_cons_zero, List.set_cons_succ]
    refine rb_take 15 (some 62) (v := ?_) rfl rfl (by kernel_rfl) (by kernel_rfl) (by kernel_rfl) (by kernel_rfl) ?_ ?_
    rotate_left
    focus (intro w' hw'; go_simp; try with_reducible rfl)
    try simp only [Act.put, List.setIfInBounds_toArray, List.set_cons_zero, List.set_cons_succ]
    refine rb_take 16 (some 63) (v := ?_) rfl rfl (by kernel_rfl) (by kernel_rfl) (by kernel_rfl) (by kernel_rfl) ?_ ?_
    rotate_left
    focus (intro w' hw'; go_simp; try with_reducible rfl)
    try simp only [Act.put, List.setIfInBounds_toArray, List.set_cons_zero, List.set_cons_succ]
    refine rb_take 17 (some 64) (v := ?_) rfl rfl (by kernel_rfl) (by kernel_rfl) (by kernel_rfl) (by kernel_rfl) ?_ ?_
    rotate_left
    focus (intro w' hw'; go_simp; try with_reducible rfl)
    try simp only [Act.put, List.setIfInBounds_toArray, List.set_cons_zero, List.set_cons_succ]
    refine rb_take 18 (some 65) (v := ?_) rfl rfl (by kernel_rfl) (by kernel_rfl) (by kernel_rfl) (by kernel_rfl) ?_ ?_
    rotate_left
    focus (intro w' hw'; go_simp; try with_reducible rfl)
    try simp only [Act.put, List.setIfInBounds_toArray, List.set_cons_zero, List.set_cons_succ]
    refine rb_take 19 (some 66) (v := ?_) rfl rfl (by kernel_rfl) (by kernel_rfl) (by kernel_rfl) (by kernel_rfl) ?_ ?_
    rotate_left
    focus (intro w' hw'; go_simp; try with_reducible rfl)
    try simp only [Act.put, List.setIfInBounds_toArray, List.set_cons_zero, List.set_cons_succ]
    refine rb_take 20 (some 67) (v := ?_) rfl rfl (by kernel_rfl) (by kernel_rfl) (by kernel_rfl) (by kernel_rfl) ?_ ?_
    rotate_left
    focus (intro w' hw'; go_simp; try with_reducible rfl)
    try simp only [Act.put, List.setIfInBounds_toArray, List.set_cons_zero, List.set_cons_succ]
    refine rb_take 21 (some 68) (v := .string (bstr l0)) rfl rfl (by kernel_rfl) (by kernel_rfl) (by kernel_rfl) (by kernel_rfl) ?_ ?_
    focus (intro w' hw'; exact exec_bstr c4 (.tmp 67) _ _ rfl (by kernel_rfl) (hx47.step hw') rfl _ Try.underlying80 Try.underlying5 Try.underlying9 rfl)
    try simp only [Act.put, List.setIfInBounds_toArray, List.set_cons_zero, List.set_cons_succ]
    refine rb_take 22 (some 69) (v := ?_) rfl rfl (by kernel_rfl) (by kernel_rfl) (by kernel_rfl) (by kernel_rfl) ?_ ?_
    rotate_left
    focus (intro w' hw'; go_simp; try with_reducible rfl)
    try simp only [Act.put, List.setIfInBounds_toArray, List.set_cons_zero, List.set_cons_succ]
    refine rb_take 23 (some 70) (v := .string (bstr l0)) rfl rfl (by kernel_rfl) (by kernel_rfl) (by kernel_rfl) (by kernel_rfl) ?_ ?_
    focus (intro w' hw'; exact exec_bstr c0 (.tmp 69) _ _ rfl (by kernel_rfl) (hx07.step hw') rfl _ Try.underlying80 Try.underlying5 Try.underlying9 rfl)
    try simp only [Act.put, List.setIfInBounds_toArray, List.set_cons_zero, List.set_cons_succ]
    refine rb_take 24 (some 71) (v := ?_) rfl rfl (by kernel_rfl) (by kernel_rfl) (by kernel_rfl) (by kernel_rfl) ?_ ?_
    rotate_left
    focus (intro w' hw'; go_simp; try with_reducible rfl)
    try simp only [Act.put, List.setIfInBounds_toArray, List.set_cons_zero, List.set_cons_succ]
    refine rb_take 25 (some 72) (v := ?_) rfl rfl (by kernel_rfl) (by kernel_rfl) (by kernel_rfl) (by kernel_rfl) ?_ ?_
    rotate_left
    focus (intro w' hw'; go_simp; try with_reducible rfl)
    try simp only [Act.put, List.setIfInBounds_toArray, List.set_cons_zero, List.set_cons_succ]
    refine rb_take 26 (some 73) (v := ?_) rfl rfl (by kernel_rfl) (by kernel_rfl) (by kernel_rfl) (by kernel_rfl) ?_ ?_
    rotate_left
    focus (intro w' hw'; go_simp; try with_reducible rfl)
    try simp only [Act.put, List.setIfInBounds_toArray, List.set_cons_zero, List.set_cons_succ]
    refine rb_take 27 (some 74) (v := ?_) rfl rfl (by kernel_rfl) (by kernel_rfl) (by kernel_rfl) (by kernel_rfl) ?_ ?_
    rotate_left
    focus (intro w' hw'; go_simp; try with_reducible rfl)
    try simp only [Act.put, List.setIfInBounds_toArray, List.set_cons_zero, List.set_cons_succ]
    refine rb_take 28 (some 75) (v := ?_) rfl rfl (by kernel_rfl) (by kernel_rfl) (by kernel_rfl) (by kernel_rfl) ?_ ?_
    rotate_left
    focus (intro w' hw'; go_simp; try with_reducible rfl)
    try simp only [Act.put, List.setIfInBounds_toArray, List.set_cons_zero, List.set_cons_succ]
    refine rb_take 29 (some 76) (v := ?_) rfl rfl (by kernel_rfl) (by kernel_rfl) (by kernel_rfl) (by kernel_rfl) ?_ ?_
    rotate_left
    focus (intro w' hw'; go_simp; try with_reducible rfl)
    try simp only [Act.put, List.setIfInBounds_toArray, List.set_cons_zero, List.set_cons_succ]
    refine rb_take 30 (some 77) (v := ?_) rfl rfl (by kernel_rfl) (by kernel_rfl) (by kernel_rfl) (by kernel_rfl) ?_ ?_
    rotate_left
    focus (intro w' hw'; go_simp; try with_reducible rfl)
    try simp only [Act.put, List.setIfInBounds_toArray, List.set_cons_zero, List.set_cons_succ]
    refine rb_keep 31 rfl (by kernel_rfl) (by kernel_rfl) (by first | assumption | exact hBB _ _ | exact Nat.le_refl _) (fun K hK => ?_)
    go_simp
    refine (varint_awake_c _).mono ?_
    rintro e wl ⟨rfl, rfl⟩
    refine hK.out _ _ (Below.refl _ _) ?_
    clear hK K
    have hball := hbz.trans (hb7.mono hbz.size)
    try simp only [Act.put, List.setIfInBounds_toArray, List.set_cons_zero, List.set_cons_succ]
    refine rb_take 32 (some 79) (v := ?_) rfl rfl (by kernel_rfl) (by kernel_rfl) (by kernel_rfl) (by kernel_rfl) ?_ ?_
    rotate_left
    focus (intro w' hw'; go_simp; try with_reducible rfl)
    try simp only [Act.put, List.setIfInBounds_toArray, List.set_cons_zero, List.set_cons_succ]
    refine rb_take 33 (some 4) (v := ?_) rfl rfl (by kernel_rfl) (by kernel_rfl) (by kernel_rfl) (by kernel_rfl) ?_ ?_
    rotate_left
    focus (intro w' hw'; go_simp; try with_reducible rfl)
    try simp only [Act.put, List.setIfInBounds_toArray, List.set_cons_zero, List.set_cons_succ]
    refine rb_done (by first | assumption | exact hBB _ _ | exact Nat.le_refl _) (by kernel_rfl) ?_
    go_wp2
    go_ret
    exact ⟨rfl, hball⟩
end Go.Proofs.Ytakmcbgfglnanaa.VarintPuts
