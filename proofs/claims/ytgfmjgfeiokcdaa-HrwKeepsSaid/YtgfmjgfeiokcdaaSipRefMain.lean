
/- The reference's Sum by a contract. Conditions: bounds on lengths. -/
import Derived.Test.YtgfmjgfeiokcdaaSipMain
import Derived.Deep.Cut
import Derived.Deep.DeepCutAuto
namespace Go.Proofs.Ytgfmjgfeiokcdaa.Old
open Go.RowKit

theorem ref_round_s (s : St) (w : World) (h : StOk s) :
    Calls Try.prog 30 #[.agg #[.int .u64 s.1, .int .u64 s.2.1, .int .u64 s.2.2.1, .int .u64 s.2.2.2]] w fun e w' => e = .returned (.agg #[.int .u64 (rndS s).1, .int .u64 (rndS s).2.1, .int .u64 (rndS s).2.2.1, .int .u64 (rndS s).2.2.2]) ∧ Below w.heap.size w w' :=
  ref_round_c _ _ _ _ w h.1 h.2.1 h.2.2.1 h.2.2.2
def RAtS (w : World) (g : Nat) (s : St) : Prop := RAt w g s.1 s.2.1 s.2.2.1 s.2.2.2
theorem _root_.Go.Proofs.Ytgfmjgfeiokcdaa.BView.from0 {w : World} {B ga k : Nat} {L : List Nat} (h : BView w B (some ⟨ga, 0, none⟩) L) : BView w B (some ⟨ga, k, none⟩) (L.drop k) :=
  ⟨h.1.drop k, fun hn => by
    obtain ⟨b, o, e, hb, hc⟩ := h.2 (by intro e; apply hn; rw [List.map_drop, e]; simp)
    injection e with e
    injection e with e1 e2
    subst e1; subst e2
    exact ⟨ga, k, rfl, hb, fun j u hu => by have := hc (k + j) u (by rw [← hu, List.map_drop, List.getElem?_drop]); simpa using this⟩⟩
def padN (l : List Nat) : Nat := 7 - l.length % 8
def allL (l : List Nat) : List Nat := l ++ List.replicate (padN l) 0 ++ [l.length % 256]

set_option maxRecDepth 100000 in
set_option maxHeartbeats 4000000 in
theorem ref_sip_c (kl : List Nat) (A : Option Addr) (c : Nat) (l : List Nat) (w : World) (h16 : kl.length = 16) (hkb : Bytes kl) (hv : BView w w.heap.size A l) (hn : l.length ≤ 1000000) (hc : l.length ≤ c) (hA0 : A = none → c = 0) :
    Calls Try.prog 17 #[keyV kl, .slice A l.length c] w fun e w' => e = .returned (.int .u64 (finS (absN (startS kl) (allL l) (l.length / 8 + 1)))) ∧ Below w.heap.size w w' := by
  have hA := Lib.hid (Arr.new w 22 (kl.map u8v))
  have hl1 : (kl.take 8).length = 8 := by simp; omega
  have hl2 : (kl.drop 8).length = 8 := by simp; omega
  have hx := leN_in (hkb.take 8) hl1
  have hy := leN_in (hkb.drop 8) hl2
  unfold InU at hx hy
  have HB := Lib.hid hkb
  have hbel := (Below.refl w.heap.size w).alloc (Nat.le_refl _) (.cells (kl.map u8v).toArray 22)
  have HL := Lib.hid (And.intro hl1 hl2)
  obtain ⟨s0, HS0⟩ : ∃ s, Hid (startS kl = s ∧ StOk s) := ⟨_, Lib.hid ⟨rfl, startS_ok kl⟩⟩
  obtain ⟨x, HX⟩ : ∃ x, Hid (leN (kl.take 8) = x) := ⟨_, Lib.hid rfl⟩
  obtain ⟨y, HY⟩ : ∃ y, Hid (leN (kl.drop 8) = y) := ⟨_, Lib.hid rfl⟩
  have HS1 := Lib.hid (show s0 = (xorI x 8317987319222330741, xorI y 7237128888997146477, xorI x 7816392313619706465, xorI y 8387220255154660723) by rw [← HS0.out.1, startS, HX.out, HY.out])
  rw [HX.out] at hx
  rw [HY.out] at hy
  rw [HS0.out.1]
  obtain ⟨kq, HK⟩ : ∃ q, Hid (kl = q) := ⟨_, Lib.hid rfl⟩
  have hk : (kl.map u8v) = kq.map u8v := by rw [HK.out]
  rw [HK.out] at HB HL HX HY h16
  obtain ⟨k0, k1, k2, k3, k4, k5, k6, k7, k8, k9, k10, k11, k12, k13, k14, k15, rfl⟩ := list16 (show kl.length = 16 by rw [HK.out]; exact h16)
  unfold keyV
  simp only [List.map_cons, List.map_nil] at hA hbel hk ⊢
  have HKM := Lib.hid hk
  clear hk hkb hl1 hl2 HS0
  go_enter Try.func17, Try.ntmps17
  go_wp2_with fail
  refine rb_start (by kernel_rfl) (fun wx hwx => ?_)
  have hbx := hbel.trans (hwx.mono (by simp))
  have hAy := (show Arr _ w.heap.size 22 _ from hA.out).below hwx (by simp)
  rw [HKM.out] at hAy
  have hAx : Arr wx w.heap.size 22 (kq.map u8v) := hAy
  have hv1 := Lib.hid ((BView.of_arr HB.out hAx hAx.lt).take 8)
  have hv2 := Lib.hid (arr_from (k := 8) hAx HB.out hAx.lt)
  refine rb_take 0 (some 11) (v := ?_) rfl rfl (by kernel_rfl) (by kernel_rfl) (by kernel_rfl) (by kernel_rfl) ?_ ?_
  rotate_left
  focus (intro w' hw'; go_simp; try with_reducible rfl)
  try simp only [Act.put, List.setIfInBounds_toArray, List.set_cons_zero, List.set_cons_succ]
  refine rb_take 2 (some 13) (v := ?_) rfl rfl (by kernel_rfl) (by kernel_rfl) (by kernel_rfl) (by kernel_rfl) ?_ ?_
  rotate_left
  focus (intro w' hw'; go_simp; try with_reducible rfl)
  try simp only [Act.put, List.setIfInBounds_toArray, List.set_cons_zero, List.set_cons_succ]
  refine rb_step 1 rfl (by kernel_rfl) (by kernel_rfl) (Nat.le_refl _) (fun K hK => ?_)
  go_simp
  refine (ref_little_c _ _ (kq.take 8) _ _ hv1.out HL.out.1 8 rfl).mono ?_
  rintro e w9 ⟨rfl, hw9⟩
  replace hw9 := hw9.symm
  subst hw9
  rw [HX.out]
  refine hK.out _ _ (Below.refl _ _) ?_
  clear hK K
  try simp only [Act.put, List.setIfInBounds_toArray, List.set_cons_zero, List.set_cons_succ]
  refine rb_step 3 rfl (by kernel_rfl) (by kernel_rfl) (Nat.le_refl _) (fun K hK => ?_)
  go_simp
  refine (ref_little_c _ _ (kq.drop 8) _ _ hv2.out HL.out.2 8 rfl).mono ?_
  rintro e w9 ⟨rfl, hw9⟩
  replace hw9 := hw9.symm
  subst hw9
  rw [HY.out]
  refine hK.out _ _ (Below.refl _ _) ?_
  clear hK K
  try simp only [Act.put, List.setIfInBounds_toArray, List.set_cons_zero, List.set_cons_succ]
  refine rb_take 4 (some 5) (v := ?_) rfl rfl (by kernel_rfl) (by kernel_rfl) (by kernel_rfl) (by kernel_rfl) ?_ ?_
  rotate_left
  focus (intro w' hw'; go_simp; try with_reducible rfl)
  try simp only [Act.put, List.setIfInBounds_toArray, List.set_cons_zero, List.set_cons_succ]
  refine rb_take 5 (some 6) (v := ?_) rfl rfl (by kernel_rfl) (by kernel_rfl) (by kernel_rfl) (by kernel_rfl) ?_ ?_
  rotate_left
  focus (intro w' hw'; go_simp; try with_reducible rfl)
  try simp only [Act.put, List.setIfInBounds_toArray, List.set_cons_zero, List.set_cons_succ]
  refine rb_done (Nat.le_refl _) (by kernel_rfl) ?_
  have hok0 : StOk s0 := by rw [HS1.out]; exact ⟨xorI_bd _ _, xorI_bd _ _, xorI_bd _ _, xorI_bd _ _⟩
  have HOK0 := Lib.hid hok0
  clear hok0
  have hR0 : RAtS (wx.alloc (.cells #[.int .u64 (bits .xor .u64 (x : Int) 8317987319222330741), .int .u64 (bits .xor .u64 (y : Int) 7237128888997146477), .int .u64 (bits .xor .u64 (x : Int) 7816392313619706465), .int .u64 (bits .xor .u64 (y : Int) 8387220255154660723)] 67)) wx.heap.size s0 := by
    rw [HS1.out]
    exact hid_arr (Arr.new wx 67 [_, _, _, _])
  have hb0 := hbx.alloc hbx.size (.cells #[.int .u64 (bits .xor .u64 (x : Int) 8317987319222330741), .int .u64 (bits .xor .u64 (y : Int) 7237128888997146477), .int .u64 (bits .xor .u64 (x : Int) 7816392313619706465), .int .u64 (bits .xor .u64 (y : Int) 8387220255154660723)] 67)
  have hgw := hbx.size
  clear hAx hAy hv1 hv2 hbx
  go_upto_region 3 with (fail)
  generalize wx.alloc (.cells #[.int .u64 (bits .xor .u64 (x : Int) 8317987319222330741), .int .u64 (bits .xor .u64 (y : Int) 7237128888997146477), .int .u64 (bits .xor .u64 (x : Int) 7816392313619706465), .int .u64 (bits .xor .u64 (y : Int) 8387220255154660723)] 67) = w2 at hR0 hb0 ⊢
  generalize wx.heap.size = g at hR0 hgw ⊢
  have hg2 := hR0.out.lt
  have hvl := hv.view.below hb0
  have hw2s := hb0.size
  go_wp2_with (at_builtin; (refine wp_append1 rfl _ _ _ rfl w2.heap.size 5 (.int .u8 0) 1 rfl Try.underlying24 u8info _ 0 _ _ rfl (Own.lit w2 5 #[] 0 (by decide) rfl) w.heap.size A _ c (l.map u8v) rfl (hvl.alloc hw2s _) (by simp) hA0 (u8v_one l) (by unfold maxLen; omega) (by omega) (by simp) w2.heap.size w2 ((Below.refl _ _).alloc (Nat.le_refl _) _) (Nat.le_refl _) ?_); intro A2 c2 w3 hown2 hbel2)
  rw [Nat.zero_add, List.nil_append] at hown2
  have HPD := Lib.hid (show padN l ≤ 7 ∧ (l.length + padN l) % 8 = 7 ∧ l.length + padN l + 1 = 8 * (l.length / 8 + 1) by unfold padN; omega)
  go_loopw [8] (fun v8 wr => ∃ (z : Nat) (A' : Option Addr) (c' : Nat), z ≤ padN l ∧ v8 = .slice A' (l.length + z) c' ∧ Hid (Own wr w2.heap.size 5 A' (l.length + z) c' ((l ++ List.replicate z 0).map u8v)) ∧ Below w2.heap.size w2 wr) (fun v8 _ => l.length + 7 - sliceLen v8)
  case atStart => exact ⟨0, A2, c2, Nat.zero_le _, by simp only [Nat.add_zero, Nat.zero_add], by simpa using hown2, hbel2⟩
  case round =>
    rename_i wr
    clear hown2 hbel2
    obtain ⟨z, A', c', hz, rfl, hown, hbel⟩ := hrel
    have hz7 := HPD.out.1
    by_cases hlt : z < padN l
    · have hne : ¬ (((l.length + z : Nat) : Int) % 8 = 7) := by unfold padN at hlt; omega
      have hne2 : ((((l.length + z : Nat) : Int) % 8) == 7) = false := by simpa using hne
      have hws := hbel.size
      go_wp2_with (at_builtin; (refine wp_append1 rfl _ _ _ rfl w2.heap.size 5 (.int .u8 0) 1 rfl Try.underlying24 u8info A' (l.length + z) c' _ rfl (Own.alloc hown.out _) (wr.heap.size + 1) (some ⟨wr.heap.size, 0, none⟩) 1 1 ([0].map u8v) rfl ((Arr.new wr 5 ([0].map u8v)).view (by simp)) rfl (by intro h; cases h) (u8v_one [0]) (by unfold maxLen; omega) (by omega) (by simp; omega) w2.heap.size w2 (hbel.alloc hws _) (Nat.le_refl _) ?_); intro A5 c5 w5 hown5 hbel5)
      go_roundw
      case rel => exact ⟨z + 1, A5, c5, by omega, rfl, by have h := hown5.out; rw [← List.map_append, List.append_assoc, ← List.replicate_succ'] at h; exact h, hbel5⟩
      case measure => simp [sliceLen]; omega
    · obtain rfl : z = padN l := by omega
      have heq : ((l.length + padN l : Nat) : Int) % 8 = 7 := by have := HPD.out.2.1; omega
      have hws := hbel.size
      have hln : (0 : Int) ≤ (l.length : Int) ∧ (l.length : Int) ≤ 1000000 := by omega
      have HLM := Lib.hid (show (l.length : Int) % 256 = ((l.length % 256 : Nat) : Int) by omega)
      go_wp2_with (at_builtin; (refine wp_append1 rfl _ _ _ rfl w2.heap.size 5 (.int .u8 0) 1 rfl Try.underlying24 u8info A' (l.length + padN l) c' _ rfl (Own.alloc hown.out _) (wr.heap.size + 1) (some ⟨wr.heap.size, 0, none⟩) 1 1 ([l.length % 256].map u8v) rfl ((Arr.new wr 5 ([l.length % 256].map u8v)).view (by simp)) rfl (by intro h; cases h) (u8v_one [_]) (by unfold maxLen; omega) (by omega) (by simp; omega) w2.heap.size w2 (hbel.alloc hws _) (Nat.le_refl _) ?_); intro A6 c6 w6 hown6 hbel6)
      obtain ⟨nb, HNB⟩ : ∃ n, Hid (l.length / 8 + 1 = n ∧ l.length + padN l + 1 = 8 * n ∧ n ≤ 125001 ∧ 1 ≤ n) := ⟨_, Lib.hid ⟨rfl, HPD.out.2.2, by omega, by omega⟩⟩
      have HLL : Hid ((allL l).length = 8 * nb ∧ Bytes (allL l)) := Lib.hid ⟨by rw [← HNB.out.2.1]; simp [allL]; omega, (hv.bytes.append (Bytes.replicate _)).append (Bytes.cons (by omega) Bytes.nil)⟩
      have hOA : Hid (Own w6 w2.heap.size 5 A6 (8 * nb) c6 ((allL l).map u8v)) := by
        have h := hown6.out
        rw [← List.map_append, HNB.out.2.1] at h
        exact h
      have hnb := HNB.out.2.2
      have hR6 : RAtS w6 g s0 := hid_arr (hR0.out.below hbel6 hg2)
      have hb6 := hb0.trans (hbel6.mono hw2s)
      have hcap : 8 * nb ≤ c6 := hOA.out.le_cap
      obtain ⟨ga, rfl⟩ := hOA.out.addr (by omega)
      have hga := hOA.out.ge
      rw [HNB.out.2.1]
      obtain ⟨L, HLe⟩ : ∃ x, Hid (allL l = x) := ⟨_, Lib.hid rfl⟩
      rw [HLe.out] at hOA HLL
      clear hown6 hbel6 hown hbel HPD hR0 hb0 heq hlt
      go_loopw [9] (fun v9 wq => ∃ k : Nat, k ≤ nb ∧ v9 = .int .i64 ((8 * k : Nat) : Int) ∧ RAtS wq g (absN s0 L k) ∧ Mod g w6 wq) (fun v9 _ => 8 * nb - (intOf v9).toNat)
      case atStart => exact ⟨0, Nat.zero_le _, rfl, hR6, Mod.refl _ _⟩
      case round =>
        rename World => wq
        obtain ⟨k, hk, rfl, hR, hM⟩ := hrel
        have hbq := Below.mod hb6 hM hgw hb6.size
        have hOq := own_keep hOA.out hM (by intro g' e e2; injection e with e; injection e2 with e2; injection e with e3; omega)
        have hbv := Own.bview hOq HLL.out.2
        by_cases hlt : k < nb
        · have hvw := Lib.hid (((hbv.from0 (k := 8 * k)).take 8))
          have hi1 : ((8 * k : Nat) : Int) < ((8 * nb : Nat) : Int) := by omega
          have hi2 : ((8 * k : Nat) : Int) + 8 ≤ ((8 * nb : Nat) : Int) := by omega
          have hi3 : ((8 * nb : Nat) : Int) ≤ (c6 : Int) := by omega
          have hi0 : (0 : Int) ≤ ((8 * k : Nat) : Int) := by omega
          have hi4 : ¬ c6 = 8 * k := by omega
          have hwn := wordN_in HLL.out.2 k (by have := HLL.out.1; omega)
          have HWN := Lib.hid hwn
          have hlen8 := Lib.hid (show ((L.drop (8 * k)).take 8).length = 8 by rw [List.length_take, List.length_drop, HLL.out.1]; omega)
          clear hwn hbv hOq
          go_wp2_with fail
          refine (ref_little_c _ _ _ _ _ hvw.out hlen8.out 8 (by first | rfl | omega)).mono ?_
          rintro e w9 ⟨rfl, hw9⟩
          replace hw9 := hw9.symm
          subst hw9
          obtain ⟨m, HM⟩ : ∃ m : Int, Hid (((wordN L k : Nat) : Int) = m) := ⟨_, Lib.hid rfl⟩
          rw [show ((leN ((L.drop (8 * k)).take 8) : Nat) : Int) = m from HM.out]
          have hm := HWN.out
          rw [HM.out] at hm
          unfold InU at hm
          have hok := absN_ok HOK0.out L k
          have HA2 := Lib.hid (show absN s0 L (k + 1) = absorbS (absN s0 L k) m by show absorbS _ _ = _; rw [HM.out])
          generalize absN s0 L k = s1 at hR hok HA2
          obtain ⟨a, b, c3, d⟩ := s1
          obtain ⟨ha, hb, hc3, hd⟩ := hok
          unfold InU at ha hb hc3 hd
          simp only at ha hb hc3 hd
          replace hR : RAt _ g a b c3 d := hR
          obtain ⟨xx, HXX, hxx⟩ : ∃ x, Hid (xorI d m = x) ∧ 0 ≤ x ∧ x < 18446744073709551616 := ⟨_, Lib.hid rfl, xorI_bd _ _⟩
          have q0 := hR.out.cell 0
          have q1 := hR.out.cell 1
          have q2 := hR.out.cell 2
          have q3 := hR.out.cell 3
          have f0 := hR.out.frozen 0
          have f1 := hR.out.frozen 1
          have f2 := hR.out.frozen 2
          have f3 := hR.out.frozen 3
          simp only [List.getElem?_cons_zero, List.getElem?_cons_succ] at q0 q1 q2 q3
          go_upto_region 12 with (fail)
          rw [show bits .xor .u64 d m = xx from HXX.out]
          have hR7 : RAt (wq.setCell ⟨g, 3, none⟩ (.int .u64 xx)) g a b c3 xx := hid_arr (hR.out.set_ 3 _)
          have hM7 := hM.set 3 (.int .u64 xx)
          clear q0 q1 q2 q3 f0 f1 f2 f3 hR hM hbq
          generalize wq.setCell ⟨g, 3, none⟩ (.int .u64 xx) = w7 at hR7 hM7 ⊢
          have q0 := hR7.out.cell 0
          have q1 := hR7.out.cell 1
          have q2 := hR7.out.cell 2
          have q3 := hR7.out.cell 3
          have f0 := hR7.out.frozen 0
          have f1 := hR7.out.frozen 1
          have f2 := hR7.out.frozen 2
          have f3 := hR7.out.frozen 3
          simp only [List.getElem?_cons_zero, List.getElem?_cons_succ] at q0 q1 q2 q3
          go_wp2_with fail
          refine (ref_round_s (a, b, c3, xx) _ ⟨ha, hb, hc3, hxx⟩).mono ?_
          rintro e w8 ⟨rfl, hb8⟩
          go_wp2_with fail
          refine (ref_round_s (rndS (a, b, c3, xx)) _ (rndS_ok _)).mono ?_
          rintro e w10 ⟨rfl, hb10⟩
          have hMM := (hM7.trans (Mod.of_below hb8)).trans (Mod.of_below hb10)
          have hRR : RAt w10 g a b c3 xx := hid_arr ((hR7.out.below hb8 hR7.out.lt).below hb10 (hR7.out.below hb8 hR7.out.lt).lt)
          have hA5 := Lib.hid (show absN s0 L (k + 1) = (xorI (rndS (rndS (a, b, c3, xx))).1 m, (rndS (rndS (a, b, c3, xx))).2.1, (rndS (rndS (a, b, c3, xx))).2.2.1, (rndS (rndS (a, b, c3, xx))).2.2.2) by rw [HA2.out]; unfold absorbS; simp only; rw [HXX.out])
          have hok5 := rndS_ok (rndS (a, b, c3, xx))
          clear q0 q1 q2 q3 f0 f1 f2 f3 hb8 hb10 hR7 hM7
          generalize rndS (rndS (a, b, c3, xx)) = s5 at hA5 hok5 ⊢
          obtain ⟨a5, b5, c5, d5⟩ := s5
          obtain ⟨ha5, hb5, hc5, hd5⟩ := hok5
          unfold InU at ha5 hb5 hc5 hd5
          simp only at ha5 hb5 hc5 hd5 hA5
          have q0 := hRR.out.cell 0
          have q1 := hRR.out.cell 1
          have q2 := hRR.out.cell 2
          have q3 := hRR.out.cell 3
          have f0 := hRR.out.frozen 0
          have f1 := hRR.out.frozen 1
          have f2 := hRR.out.frozen 2
          have f3 := hRR.out.frozen 3
          simp only [List.getElem?_cons_zero, List.getElem?_cons_succ] at q0 q1 q2 q3
          go_upto_region 13 with (fail)
          have hR9 : RAt ((((w10.setCell ⟨g, 0, none⟩ (.int .u64 a5)).setCell ⟨g, 1, none⟩ (.int .u64 b5)).setCell ⟨g, 2, none⟩ (.int .u64 c5)).setCell ⟨g, 3, none⟩ (.int .u64 d5)) g a5 b5 c5 d5 := hid_arr ((((hRR.out.set_ 0 _).set_ 1 _).set_ 2 _).set_ 3 _)
          have hM9 := (((hMM.set 0 (.int .u64 a5)).set 1 (.int .u64 b5)).set 2 (.int .u64 c5)).set 3 (.int .u64 d5)
          clear q0 q1 q2 q3 f0 f1 f2 f3 hRR hMM
          generalize (((w10.setCell ⟨g, 0, none⟩ (.int .u64 a5)).setCell ⟨g, 1, none⟩ (.int .u64 b5)).setCell ⟨g, 2, none⟩ (.int .u64 c5)).setCell ⟨g, 3, none⟩ (.int .u64 d5) = w11 at hR9 hM9 ⊢
          have q0 := hR9.out.cell 0
          have f0 := hR9.out.frozen 0
          simp only [List.getElem?_cons_zero, List.getElem?_cons_succ] at q0
          go_wp2_with fail
          go_roundw
          case rel => exact ⟨k + 1, by omega, by go_num, by rw [hA5.out]; exact hid_arr (hR9.out.set_ 0 _), hM9.set 0 _⟩
          case measure => (simp [intOf] <;> omega)
        · obtain rfl : k = nb := by omega
          clear hOq hbv
          have hok := absN_ok HOK0.out L k
          have HE := Lib.hid (show finS (absN s0 (allL l) (l.length / 8 + 1)) = finS (absN s0 L k) by rw [HLe.out, HNB.out.1])
          generalize absN s0 L k = s1 at hR hok HE
          obtain ⟨a, b, c3, d⟩ := s1
          obtain ⟨ha, hb, hc3, hd⟩ := hok
          unfold InU at ha hb hc3 hd
          simp only at ha hb hc3 hd
          replace hR : RAt _ g a b c3 d := hR
          obtain ⟨xx, HXX, hxx⟩ : ∃ x, Hid (xorI c3 255 = x) ∧ 0 ≤ x ∧ x < 18446744073709551616 := ⟨_, Lib.hid rfl, xorI_bd _ _⟩
          have HE2 := Lib.hid (show finS (a, b, c3, d) = outS (roundsN (a, b, xx, d) 4) by unfold finS midS; simp only; rw [HXX.out])
          have q0 := hR.out.cell 0
          have q1 := hR.out.cell 1
          have q2 := hR.out.cell 2
          have q3 := hR.out.cell 3
          have f0 := hR.out.frozen 0
          have f1 := hR.out.frozen 1
          have f2 := hR.out.frozen 2
          have f3 := hR.out.frozen 3
          simp only [List.getElem?_cons_zero, List.getElem?_cons_succ] at q0 q1 q2 q3
          go_upto_region 15 with (fail)
          rw [show bits .xor .u64 c3 255 = xx from HXX.out]
          have hR7 : RAt (wq.setCell ⟨g, 2, none⟩ (.int .u64 xx)) g a b xx d := hid_arr (hR.out.set_ 2 _)
          have hb7 := hbq.setCell (p := ⟨g, 2, none⟩) (by exact hgw) (.int .u64 xx)
          clear q0 q1 q2 q3 f0 f1 f2 f3 hR hM hbq
          generalize wq.setCell ⟨g, 2, none⟩ (.int .u64 xx) = w7 at hR7 hb7 ⊢
          have q0 := hR7.out.cell 0
          have q1 := hR7.out.cell 1
          have q2 := hR7.out.cell 2
          have q3 := hR7.out.cell 3
          have f0 := hR7.out.frozen 0
          have f1 := hR7.out.frozen 1
          have f2 := hR7.out.frozen 2
          have f3 := hR7.out.frozen 3
          simp only [List.getElem?_cons_zero, List.getElem?_cons_succ] at q0 q1 q2 q3
          go_wp2_with fail
          refine (ref_round_s (a, b, xx, d) _ ⟨ha, hb, hxx, hd⟩).mono ?_
          rintro e w8 ⟨rfl, hb8⟩
          go_wp2_with fail
          refine (ref_round_s (rndS (a, b, xx, d)) _ (rndS_ok _)).mono ?_
          rintro e w9 ⟨rfl, hb9⟩
          go_wp2_with fail
          refine (ref_round_s (rndS (rndS (a, b, xx, d))) _ (rndS_ok _)).mono ?_
          rintro e w10 ⟨rfl, hb10⟩
          go_wp2_with fail
          refine (ref_round_s (rndS (rndS (rndS (a, b, xx, d)))) _ (rndS_ok _)).mono ?_
          rintro e w11 ⟨rfl, hb11⟩
          have hE8 := hR7.out.below hb8 hR7.out.lt
          have hE9 := hE8.below hb9 hE8.lt
          have hE10 := hE9.below hb10 hE9.lt
          have hRR : RAt w11 g a b xx d := hid_arr (hE10.below hb11 hE10.lt)
          have hbb := (((hb7.trans (hb8.mono hb7.size)).trans (hb9.mono (Nat.le_trans hb7.size hb8.size))).trans (hb10.mono (Nat.le_trans (Nat.le_trans hb7.size hb8.size) hb9.size))).trans (hb11.mono (Nat.le_trans (Nat.le_trans (Nat.le_trans hb7.size hb8.size) hb9.size) hb10.size))
          have HE3 := Lib.hid (show outS (roundsN (a, b, xx, d) 4) = outS (rndS (rndS (rndS (rndS (a, b, xx, d))))) from rfl)
          clear q0 q1 q2 q3 f0 f1 f2 f3 hb8 hb9 hb10 hb11 hR7 hb7 hE8 hE9 hE10
          generalize rndS (rndS (rndS (rndS (a, b, xx, d)))) = s5 at HE3 ⊢
          obtain ⟨a5, b5, c5, d5⟩ := s5
          have q0 := hRR.out.cell 0
          have q1 := hRR.out.cell 1
          have q2 := hRR.out.cell 2
          have q3 := hRR.out.cell 3
          have f0 := hRR.out.frozen 0
          have f1 := hRR.out.frozen 1
          have f2 := hRR.out.frozen 2
          have f3 := hRR.out.frozen 3
          simp only [List.getElem?_cons_zero, List.getElem?_cons_succ] at q0 q1 q2 q3
          go_upto_region 16 with (fail)
          have hR9 : RAt ((((w11.setCell ⟨g, 0, none⟩ (.int .u64 a5)).setCell ⟨g, 1, none⟩ (.int .u64 b5)).setCell ⟨g, 2, none⟩ (.int .u64 c5)).setCell ⟨g, 3, none⟩ (.int .u64 d5)) g a5 b5 c5 d5 := hid_arr ((((hRR.out.set_ 0 _).set_ 1 _).set_ 2 _).set_ 3 _)
          have hb9 : Below w.heap.size w ((((w11.setCell ⟨g, 0, none⟩ (.int .u64 a5)).setCell ⟨g, 1, none⟩ (.int .u64 b5)).setCell ⟨g, 2, none⟩ (.int .u64 c5)).setCell ⟨g, 3, none⟩ (.int .u64 d5)) := (((hbb.setCell (by exact hgw) _).setCell (by exact hgw) _).setCell (by exact hgw) _).setCell (by exact hgw) _
          clear q0 q1 q2 q3 f0 f1 f2 f3 hRR hbb
          generalize (((w11.setCell ⟨g, 0, none⟩ (.int .u64 a5)).setCell ⟨g, 1, none⟩ (.int .u64 b5)).setCell ⟨g, 2, none⟩ (.int .u64 c5)).setCell ⟨g, 3, none⟩ (.int .u64 d5) = w12 at hR9 hb9 ⊢
          have q0 := hR9.out.cell 0
          have q1 := hR9.out.cell 1
          have q2 := hR9.out.cell 2
          have q3 := hR9.out.cell 3
          simp only [List.getElem?_cons_zero, List.getElem?_cons_succ] at q0 q1 q2 q3
          go_wp2
          go_ret
          rw [HE.out, HE2.out, HE3.out]
          exact ⟨rfl, hb9⟩

/-! ### both sums are one -/
theorem or_top (n r : Nat) (hr : r < 72057594037927936) : bits .or .u64 (IntKind.u64.wrap ((n : Int) * 72057594037927936)) (r : Int) = ((r + n % 256 * 72057594037927936 : Nat) : Int) := by
  have hw : IntKind.u64.wrap ((n : Int) * 72057594037927936) = ((n % 256 * 72057594037927936 : Nat) : Int) := by
    simp [IntKind.wrap, IntKind.bits, IntKind.signed]
    omega
  have h56 : (2 : Nat) ^ 56 = 72057594037927936 := by decide
  have hj := Nat.two_pow_add_eq_or_of_lt (i := 56) (b := r) (by rw [h56]; exact hr) (n % 256)
  rw [h56, Nat.mul_comm] at hj
  rw [hw, u64_or _ _ (by omega) (by omega) (by omega) (by omega)]
  simp only [Int.toNat_natCast]
  rw [← hj]
  omega
theorem wordN_allL (l : List Nat) (k : Nat) (h : 8 * k + 8 ≤ l.length) : wordN (allL l) k = wordN l k := by
  unfold wordN allL
  congr 1
  rw [List.append_assoc, List.drop_append_of_le_length (by omega), List.take_append_of_le_length (by simp; omega)]
theorem absN_allL (s : St) (l : List Nat) : ∀ k, 8 * k ≤ l.length → absN s (allL l) k = absN s l k
  | 0, _ => rfl
  | k + 1, h => by
    show absorbS _ _ = absorbS _ _
    rw [absN_allL s l k (by omega), wordN_allL l k (by omega)]
theorem leN_append_zeros (l : List Nat) (z : Nat) : leN (l ++ List.replicate z 0) = leN l := by
  induction l with
  | nil => induction z with
    | zero => rfl
    | succ z ih => rw [List.replicate_succ]; simp only [List.nil_append, leN] at ih ⊢; rw [ih]
  | cons a l ih => simp only [List.cons_append, leN, ih]
theorem last_allL {l : List Nat} (hb : Bytes l) : ((wordN (allL l) (l.length / 8) : Nat) : Int) = lastW l := by
  unfold lastW wordN allL
  have hd : (l.drop (8 * (l.length / 8))).length = l.length % 8 := by simp; omega
  have h1 : (List.drop (8 * (l.length / 8)) (l ++ List.replicate (padN l) 0 ++ [l.length % 256])).take 8 = l.drop (8 * (l.length / 8)) ++ List.replicate (padN l) 0 ++ [l.length % 256] := by
    rw [List.append_assoc, List.drop_append_of_le_length (by omega), List.take_of_length_le (by simp [padN]; omega), List.append_assoc]
  rw [h1, leN_snoc, leN_append_zeros]
  have hl7 : (l.drop (8 * (l.length / 8)) ++ List.replicate (padN l) 0).length = 7 := by simp [padN]; omega
  rw [hl7, show (256 : Nat) ^ 7 = 72057594037927936 by decide]
  have hlt := leN_lt (hb.drop (8 * (l.length / 8)))
  have hle : (256 : Nat) ^ (l.drop (8 * (l.length / 8))).length ≤ 256 ^ 7 := Nat.pow_le_pow_right (by omega) (by omega)
  have h7 : (256 : Nat) ^ 7 = 72057594037927936 := by decide
  rw [or_top _ _ (by omega)]
theorem sip_same {kl l : List Nat} (hb : Bytes l) : finS (absN (startS kl) (allL l) (l.length / 8 + 1)) = sipV kl l := by
  unfold sipV
  show finS (absorbS (absN (startS kl) (allL l) (l.length / 8)) _) = _
  rw [absN_allL _ _ _ (by omega), last_allL hb]
end Go.Proofs.Ytgfmjgfeiokcdaa.Old
