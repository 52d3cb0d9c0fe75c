
/- siphash's words out of bytes, its start, and what absorbing does, by contracts. Conditions: bounds on lengths. -/
import Derived.Test.YtgfmjgfeiokcdaaSipRef
namespace Go.Proofs.Ytgfmjgfeiokcdaa.Old
open Go.RowKit

/-- The number of bytes, least significant first. -/
def leN : List Nat → Nat
  | [] => 0
  | x :: l => x + 256 * leN l
theorem leN_snoc (l : List Nat) (x : Nat) : leN (l ++ [x]) = leN l + x * 256 ^ l.length := by
  induction l with
  | nil => simp [leN]
  | cons a l ih => simp only [List.cons_append, leN, ih, List.length_cons, Nat.pow_succ]; rw [Nat.mul_add, Nat.add_assoc]; congr 1; congr 1; rw [← Nat.mul_assoc, Nat.mul_comm 256 x, Nat.mul_assoc, Nat.mul_comm 256]
theorem leN_lt {l : List Nat} (h : Bytes l) : leN l < 256 ^ l.length := by
  induction l with
  | nil => simp [leN]
  | cons a l ih =>
    have h1 := ih (fun x hx => h x (by simp [hx]))
    have h2 := h a (by simp)
    simp only [leN, List.length_cons, Nat.pow_succ]
    generalize 256 ^ l.length = P at h1 ⊢
    generalize leN l = x at h1 ⊢
    omega
theorem leN_take {l : List Nat} (k : Nat) (h : k < l.length) : leN (l.take (k + 1)) = leN (l.take k) + nth l k * 256 ^ k := by
  have e : nth l k = l[k] := by unfold nth; rw [List.getD_eq_getElem?_getD, List.getElem?_eq_getElem h]; rfl
  rw [List.take_succ_eq_append_getElem h, leN_snoc, e, List.length_take, Nat.min_eq_left (by omega)]
theorem leN_le8 {l : List Nat} (h : Bytes l) (k : Nat) (h8 : k ≤ 8) (hk : k ≤ l.length) : leN (l.take k) < 256 ^ k := by
  have := leN_lt (h.take k)
  rwa [List.length_take, Nat.min_eq_left hk] at this

theorem or_shl (x c k : Nat) (hk : k < 8) (hx : x < 256 ^ k) (hc : c < 256) : bits .or .u64 (x : Int) (IntKind.u64.wrap ((c : Int) * 2 ^ (8 * k))) = ((x + c * 256 ^ k : Nat) : Int) := by
  have e : (c : Int) * 2 ^ (8 * k) = ((c * 256 ^ k : Nat) : Int) := by
    rw [Int.pow_mul]; simp
  have h7 : (256 : Nat) ^ k ≤ 256 ^ 7 := Nat.pow_le_pow_right (by omega) (by omega)
  have h8 : (256 : Nat) ^ 7 = 72057594037927936 := by decide
  have hm : c * 256 ^ k ≤ 255 * 72057594037927936 := Nat.mul_le_mul (by omega) (by omega)
  have hj := Nat.two_pow_add_eq_or_of_lt (i := 8 * k) (b := x) (by rw [Nat.pow_mul]; exact hx) c
  rw [Nat.pow_mul, Nat.mul_comm (_ ^ _) c] at hj
  rw [e]
  generalize 256 ^ k = P at *
  have hj2 : c * P ||| x = c * P + x := hj.symm
  generalize c * P = m at hm hj2 ⊢
  rw [IntWalk.u64_in (m : Int) (by omega), u64_or (x : Int) (m : Int) (by omega) (by omega) (by omega) (by omega)]
  simp only [Int.toNat_natCast]
  rw [Nat.or_comm, hj2, Nat.add_comm]

set_option maxRecDepth 100000 in
theorem little_c (A : Option Addr) (c : Nat) (l : List Nat) (w : World) (B : Nat) (hv : BView w B A l) (hn : l.length ≤ 8) :
    Calls Try.prog 27 #[.slice A l.length c] w fun e w' => e = .returned (.int .u64 (leN l : Nat)) ∧ w = w' := by
  go_enter Try.func27, Try.ntmps27
  go_wp2
  go_loop [3, 8] (fun v i => ∃ k : Nat, k ≤ l.length ∧ i = .int .i64 (k : Int) ∧ v = .int .u64 (leN (l.take k) : Nat)) (fun _ i => l.length - (intOf i).toNat)
  case atStart => exact ⟨0, Nat.zero_le _, rfl, by simp [leN]⟩
  case round =>
    obtain ⟨k, hk, rfl, rfl⟩ := hrel
    by_cases hlt : k < l.length
    · obtain ⟨b, o, rfl, hb, hcell⟩ := hv.at_ hlt
      have hc1 := hcell k hlt
      have hn1 := nth_lt hv.bytes k
      have hx1 : (0 : Int) ≤ (nth l k : Int) ∧ (nth l k : Int) < 256 := by omega
      have HO := Lib.hid (or_shl (leN (l.take k)) (nth l k) k (by omega) (leN_le8 hv.bytes k (by omega) (by omega)) hn1)
      have HS := Lib.hid (leN_take k hlt)
      clear hcell
      generalize leN (l.take k) = x at HO HS ⊢
      generalize nth l k = y at hc1 hx1 HO HS
      go_wp2
      go_round
      case rel => exact ⟨k + 1, by omega, by go_num, by rw [HS.out, HO.out]⟩
      case measure => (simp [intOf] <;> omega)
    · obtain rfl : k = l.length := by omega
      rw [List.take_length]
      go_wp2
      go_ret
      exact ⟨rfl, rfl⟩
theorem leN_drop {l : List Nat} (k : Nat) (h : k < l.length) : leN (l.drop k) = nth l k + 256 * leN (l.drop (k + 1)) := by
  have e : nth l k = l[k] := by unfold nth; rw [List.getD_eq_getElem?_getD, List.getElem?_eq_getElem h]; rfl
  rw [List.drop_eq_getElem_cons h, leN, e]
theorem leN_drop_lt {l : List Nat} (hb : Bytes l) (h8 : l.length = 8) (k : Nat) (hk : 1 ≤ k) : leN (l.drop k) < 72057594037927936 := by
  have h1 := leN_lt (hb.drop k)
  have h2 : (256 : Nat) ^ (l.drop k).length ≤ 256 ^ 7 := Nat.pow_le_pow_right (by omega) (by simp; omega)
  have h3 : (256 : Nat) ^ 7 = 72057594037927936 := by decide
  omega

set_option maxRecDepth 100000 in
theorem ref_little_c (A : Option Addr) (c : Nat) (l : List Nat) (w : World) (B : Nat) (hv : BView w B A l) (hn : l.length = 8) (n : Nat) (hnn : n = 8) :
    Calls Try.prog 29 #[.slice A n c] w fun e w' => e = .returned (.int .u64 (leN l : Nat)) ∧ w' = w := by
  subst hnn
  go_enter Try.func29, Try.ntmps29
  go_wp2
  go_loop [3, 4] (fun v i => ∃ k : Nat, k ≤ 8 ∧ i = .int .i64 ((k : Int) - 1) ∧ v = .int .u64 (leN (l.drop k) : Nat)) (fun _ i => (intOf i + 1).toNat)
  case atStart => exact ⟨8, by omega, by go_num, by rw [List.drop_eq_nil_of_le (by omega)]; rfl⟩
  case round =>
    obtain ⟨k, hk, rfl, rfl⟩ := hrel
    rcases k with _ | k
    · go_wp2
      go_ret
      exact ⟨rfl, rfl⟩
    · obtain ⟨b, o, rfl, hb, hcell⟩ := hv.at_ (show k < l.length by omega)
      have hc1 := hcell k (by omega)
      have hn1 := nth_lt hv.bytes k
      have hx1 : (0 : Int) ≤ (nth l k : Int) ∧ (nth l k : Int) < 256 := by omega
      have hlt := leN_drop_lt hv.bytes hn (k + 1) (by omega)
      have hx2 : (0 : Int) ≤ (leN (l.drop (k + 1)) : Int) ∧ (leN (l.drop (k + 1)) : Int) < 72057594037927936 := by omega
      have HS := Lib.hid (leN_drop (l := l) k (by omega))
      have hk0 : (((k + 1 : Nat) : Int) - 1) = (k : Int) := by omega
      have hk1 : (0 : Int) ≤ (k : Int) ∧ (k : Int) < 8 := by omega
      rw [hk0]
      clear hcell hlt hk0
      generalize leN (l.drop (k + 1)) = x at hx2 HS ⊢
      generalize nth l k = y at hc1 hx1 hn1 HS
      go_wp2
      go_round
      case rel => exact ⟨k, by omega, by go_num, by rw [HS.out]; congr 1; omega⟩
      case measure => (simp [intOf] <;> omega)
theorem little_s (A : Option Addr) (c : Nat) (l : List Nat) (n : Nat) (w : World) (B : Nat) (hv : BView w B A l) (hn : l.length = n) (h8 : n ≤ 8) :
    Calls Try.prog 27 #[.slice A n c] w fun e w' => e = .returned (.int .u64 (leN l : Nat)) ∧ w' = w := by
  subst hn
  exact (little_c A c l w B hv h8).mono fun _ _ ⟨h, e⟩ => ⟨h, e.symm⟩

def St := Int × Int × Int × Int
def rndS (s : St) : St := rnd s.1 s.2.1 s.2.2.1 s.2.2.2
def InU (x : Int) : Prop := 0 ≤ x ∧ x < 18446744073709551616
def StOk (s : St) : Prop := InU s.1 ∧ InU s.2.1 ∧ InU s.2.2.1 ∧ InU s.2.2.2
theorem rndS_ok (s : St) : StOk (rndS s) := ⟨addI_bd _ _, xorI_bd _ _, rotI_bd _ _ _, xorI_bd _ _⟩
def absorbS (s : St) (m : Int) : St := let s2 := rndS (rndS (s.1, s.2.1, s.2.2.1, xorI s.2.2.2 m)); (xorI s2.1 m, s2.2.1, s2.2.2.1, s2.2.2.2)
theorem absorbS_ok (s : St) (m : Int) : StOk (absorbS s m) := ⟨xorI_bd _ _, (rndS_ok _).2.1, (rndS_ok _).2.2.1, (rndS_ok _).2.2.2⟩
def WAtS (w : World) (g : Nat) (s : St) : Prop := WAt w g s.1 s.2.1 s.2.2.1 s.2.2.2
theorem round_s (g : Nat) (s : St) (w : World) (hW : WAtS w g s) (h : StOk s) :
    Calls Try.prog 28 #[.pointer (some ⟨g, 0, none⟩)] w fun e w' => e = .returned (.tuple #[]) ∧ WAtS w' g (rndS s) ∧ Mod g w w' :=
  round_c g _ _ _ _ w hW h.1 h.2.1 h.2.2.1 h.2.2.2

set_option maxRecDepth 100000 in
theorem absorb_c (g : Nat) (s : St) (m : Int) (w : World) (hW : WAtS w g s) (h : StOk s) (hm : 0 ≤ m ∧ m < 18446744073709551616) :
    Calls Try.prog 26 #[.pointer (some ⟨g, 0, none⟩), .int .u64 m] w fun e w' => e = .returned (.tuple #[]) ∧ WAtS w' g (absorbS s m) ∧ Mod g w w' := by
  have hM := Mod.refl g w
  obtain ⟨a, b, c, d⟩ := s
  obtain ⟨ha, hb, hc, hd⟩ := h
  unfold InU at ha hb hc hd
  simp only at ha hb hc hd
  replace hW : WAt w g a b c d := hW
  obtain ⟨x, HX, hx⟩ : ∃ x, Hid (xorI d m = x) ∧ 0 ≤ x ∧ x < 18446744073709551616 := ⟨_, Lib.hid rfl, xorI_bd _ _⟩
  have HR := Lib.hid (show absorbS (a, b, c, d) m = (xorI (rndS (rndS (a, b, c, x))).1 m, (rndS (rndS (a, b, c, x))).2.1, (rndS (rndS (a, b, c, x))).2.2.1, (rndS (rndS (a, b, c, x))).2.2.2) by unfold absorbS; simp only; rw [HX.out])
  have hok := rndS_ok (rndS (a, b, c, x))
  go_enter Try.func26, Try.ntmps26
  go_wp2_with fail
  have q0 := hW.out.cell 0
  have q1 := hW.out.cell 1
  have q2 := hW.out.cell 2
  have q3 := hW.out.cell 3
  simp only [List.getElem?_cons_zero, List.getElem?_cons_succ] at q0 q1 q2 q3
  refine wp_region_still_tail 8 (by kernel_rfl) (by kernel_rfl) ?_
  simp only [List.take_succ_cons, List.take_zero, List.drop_succ_cons, List.drop_zero]
  repeat still_step
  try refine wpStill_nil ?_
  have hU0 : WAt (w.drew) g a b c d := hW
  have hN0 : Mod g w (w.drew) := hM.trans (Mod.of_below (Below.refl _ _).drew)
  clear q0 q1 q2 q3 hW hM
  change wpList _ _ _ _ _ (w.drew)
  generalize w.drew = v0 at hU0 hN0 ⊢
  have q0 := hU0.out.cell 3
  simp only [List.getElem?_cons_zero, List.getElem?_cons_succ] at q0
  have f0 := hU0.out.frozen 3
  go_wp2_with fail
  rw [show bits .xor .u64 d m = x from HX.out]
  have hW1 : WAtS (v0.setCell ⟨g, 3, none⟩ (.int .u64 x)) g (a, b, c, x) := hid_arr (hU0.out.set_ 3 _)
  have hM1 := hN0.set 3 (.int .u64 x)
  clear q0 f0 hU0 hN0
  generalize v0.setCell ⟨g, 3, none⟩ (.int .u64 x) = u1 at hW1 hM1 ⊢
  refine (round_s g _ u1 hW1 ⟨ha, hb, hc, hx⟩).mono ?_
  rintro e w2 ⟨rfl, hW2, hM2⟩
  have hM3 := hM1.trans hM2
  go_wp2_with fail
  refine (round_s g _ w2 hW2 (rndS_ok _)).mono ?_
  rintro e w3 ⟨rfl, hW3, hM4⟩
  have hM5 := hM3.trans hM4
  clear hM1 hM2 hM3 hM4 hW1 hW2
  generalize rndS (rndS (a, b, c, x)) = s2 at hW3 hok HR
  obtain ⟨a2, b2, c2, d2⟩ := s2
  obtain ⟨ha2, hb2, hc2, hd2⟩ := hok
  unfold InU at ha2 hb2 hc2 hd2
  simp only at ha2 hb2 hc2 hd2 HR
  replace hW3 : WAt w3 g a2 b2 c2 d2 := hW3
  obtain ⟨y, HY, hy⟩ : ∃ x, Hid (xorI a2 m = x) ∧ 0 ≤ x ∧ x < 18446744073709551616 := ⟨_, Lib.hid rfl, xorI_bd _ _⟩
  rw [HY.out] at HR
  go_wp2_with fail
  have q0 := hW3.out.cell 0
  have q1 := hW3.out.cell 1
  have q2 := hW3.out.cell 2
  have q3 := hW3.out.cell 3
  simp only [List.getElem?_cons_zero, List.getElem?_cons_succ] at q0 q1 q2 q3
  refine wp_region_still_tail 8 (by kernel_rfl) (by kernel_rfl) ?_
  simp only [List.take_succ_cons, List.take_zero, List.drop_succ_cons, List.drop_zero]
  repeat still_step
  try refine wpStill_nil ?_
  have hU1 : WAt (w3.drew) g a2 b2 c2 d2 := hW3
  have hN1 : Mod g w (w3.drew) := hM5.trans (Mod.of_below (Below.refl _ _).drew)
  clear q0 q1 q2 q3 hW3 hM5
  change wpList _ _ _ _ _ (w3.drew)
  generalize w3.drew = v1 at hU1 hN1 ⊢
  have q0 := hU1.out.cell 0
  simp only [List.getElem?_cons_zero, List.getElem?_cons_succ] at q0
  have f0 := hU1.out.frozen 0
  go_wp2_with fail
  rw [show bits .xor .u64 a2 m = y from HY.out]
  refine bodyPost_end (results_none rfl _ _ _) rfl ⟨rfl, ?_, hN1.set 0 _⟩
  rw [HR.out]
  exact hid_arr (hU1.out.set_ 0 _)

def keyV (kl : List Nat) : Value := .agg (kl.map u8v).toArray
def startS (kl : List Nat) : St := (xorI (leN (kl.take 8) : Nat) 8317987319222330741, xorI (leN (kl.drop 8) : Nat) 7237128888997146477, xorI (leN (kl.take 8) : Nat) 7816392313619706465, xorI (leN (kl.drop 8) : Nat) 8387220255154660723)
theorem startS_ok (kl : List Nat) : StOk (startS kl) := ⟨xorI_bd _ _, xorI_bd _ _, xorI_bd _ _, xorI_bd _ _⟩
theorem list16 {kl : List Nat} (h : kl.length = 16) : ∃ k0 k1 k2 k3 k4 k5 k6 k7 k8 k9 k10 k11 k12 k13 k14 k15, kl = [k0, k1, k2, k3, k4, k5, k6, k7, k8, k9, k10, k11, k12, k13, k14, k15] := by
  match kl, h with
  | [k0, k1, k2, k3, k4, k5, k6, k7, k8, k9, k10, k11, k12, k13, k14, k15], _ => exact ⟨_, _, _, _, _, _, _, _, _, _, _, _, _, _, _, _, rfl⟩
theorem arr_from {w : World} {g k B : Nat} {t : TypeId} {l : List Nat} (h : Arr w g t (l.map u8v)) (hb : Bytes l) (hB : g < B) : BView w B (some ⟨g, k, none⟩) (l.drop k) :=
  ⟨hb.drop k, fun _ => ⟨g, k, rfl, hB, fun j u hu => by rw [h.cell, ← hu, List.map_drop, List.getElem?_drop]⟩⟩
theorem load_wd {w : World} {g : Nat} {a b c d : Value} (hA : Arr w g 62 [a, b, c, d]) (h1 : a.oneCell' = true) (h2 : b.oneCell' = true) (h3 : c.oneCell' = true) (h4 : d.oneCell' = true) :
    (loadVar 62 ⟨g, 0, none⟩).run Try.prog w = .ok (.agg #[a, b, c, d]) w := by
  have q0 := hA.cell 0
  have q1 := hA.cell 1
  have q2 := hA.cell 2
  have q3 := hA.cell 3
  simp only [List.getElem?_cons_zero, List.getElem?_cons_succ] at q0 q1 q2 q3
  go_simp
theorem ret_wd {fn : Func} {R : Ending → World → Prop} {act : Act} {w : World} {g p : Nat} {a b c d : Value} (hres : fn.results = #[.cell p 62]) (hA : Arr w g 62 [a, b, c, d])
    (h1 : a.oneCell' = true) (h2 : b.oneCell' = true) (h3 : c.oneCell' = true) (h4 : d.oneCell' = true)
    (hp : act.tmps.getD p undef = .pointer (some ⟨g, 0, none⟩)) (hd : act.defers = [])
    (hR : R (.returned (.agg #[a, b, c, d])) w) : bodyPost Try.prog fn R .ret act w := by
  refine bodyPost_ret_by (v := .agg #[a, b, c, d]) ?_ hd hR
  rw [results_cell_one hres, hp]
  simp only [asAddr, Sem.run_pure, Result.andThen, load_wd hA h1 h2 h3 h4]
theorem leN_in {l : List Nat} (h : Bytes l) (h8 : l.length = 8) : InU (leN l : Nat) := by
  have := leN_lt h
  rw [h8] at this
  have h3 : (256 : Nat) ^ 8 = 18446744073709551616 := by decide
  unfold InU
  omega
set_option maxRecDepth 100000 in
theorem start_c (kl : List Nat) (w : World) (h16 : kl.length = 16) (hb : Bytes kl) :
    Calls Try.prog 25 #[keyV kl] w fun e w' => e = .returned (.agg #[.int .u64 (startS kl).1, .int .u64 (startS kl).2.1, .int .u64 (startS kl).2.2.1, .int .u64 (startS kl).2.2.2]) ∧ Below w.heap.size w w' := by
  have hA := Lib.hid ((Arr.new w 43 (kl.map u8v)).alloc (.cells #[.int .u64 0, .int .u64 0, .int .u64 0, .int .u64 0] 62))
  have hl1 : (kl.take 8).length = 8 := by simp; omega
  have hl2 : (kl.drop 8).length = 8 := by simp; omega
  have hx := leN_in (hb.take 8) hl1
  have hy := leN_in (hb.drop 8) hl2
  unfold InU at hx hy
  unfold startS
  have HB := Lib.hid hb
  have hbel := below2 w (.cells (kl.map u8v).toArray 43) (.cells #[.int .u64 0, .int .u64 0, .int .u64 0, .int .u64 0] 62)
  have hZ := Lib.hid (arr_new2 w (.cells (kl.map u8v).toArray 43) 62 [.int .u64 0, .int .u64 0, .int .u64 0, .int .u64 0])
  have HL := Lib.hid (And.intro hl1 hl2)
  obtain ⟨x, HX⟩ : ∃ x, Hid (leN (kl.take 8) = x) := ⟨_, Lib.hid rfl⟩
  obtain ⟨y, HY⟩ : ∃ y, Hid (leN (kl.drop 8) = y) := ⟨_, Lib.hid rfl⟩
  rw [HX.out] at hx ⊢
  rw [HY.out] at hy ⊢
  obtain ⟨kq, HK⟩ : ∃ q, Hid (kl = q) := ⟨_, Lib.hid rfl⟩
  rw [HK.out] at HB HL HX HY h16
  have hk : (kl.map u8v) = kq.map u8v := by rw [HK.out]
  clear hb hl1 hl2
  obtain ⟨k0, k1, k2, k3, k4, k5, k6, k7, k8, k9, k10, k11, k12, k13, k14, k15, rfl⟩ := list16 (show kl.length = 16 by rw [HK.out]; exact h16)
  unfold keyV
  simp only [List.map_cons, List.map_nil] at hA hbel hZ hk ⊢
  have HKM := Lib.hid hk
  clear hk
  go_enter Try.func25, Try.ntmps25
  go_wp2_with fail
  refine rb_start (by kernel_rfl) (fun wx hwx => ?_)
  have hbx := hbel.trans (hwx.mono (by simp; omega))
  have hAy := (show Arr _ w.heap.size 43 _ from hA.out).below hwx (by simp; omega)
  rw [HKM.out] at hAy
  have hAx : Arr wx w.heap.size 43 (kq.map u8v) := hAy
  have hZx := (show Arr _ (w.heap.size + 1) 62 [.int .u64 0, .int .u64 0, .int .u64 0, .int .u64 0] from hZ.out).below hwx (by simp)
  have hv1 := Lib.hid ((BView.of_arr HB.out hAx hAx.lt).take 8)
  have hv2 := Lib.hid (arr_from (k := 8) hAx HB.out hAx.lt)
  refine rb_take 0 (some 5) (v := ?_) rfl rfl (by kernel_rfl) (by kernel_rfl) (by kernel_rfl) (by kernel_rfl) ?_ ?_
  rotate_left
  focus (intro w' hw'; go_simp; try with_reducible rfl)
  try simp only [Act.put, List.setIfInBounds_toArray, List.set_cons_zero, List.set_cons_succ]
  refine rb_take 2 (some 7) (v := ?_) rfl rfl (by kernel_rfl) (by kernel_rfl) (by kernel_rfl) (by kernel_rfl) ?_ ?_
  rotate_left
  focus (intro w' hw'; go_simp; try with_reducible rfl)
  try simp only [Act.put, List.setIfInBounds_toArray, List.set_cons_zero, List.set_cons_succ]
  refine rb_step 1 rfl (by kernel_rfl) (by kernel_rfl) (Nat.le_refl _) (fun K hK => ?_)
  go_simp
  refine (little_s _ _ (kq.take 8) 8 _ _ hv1.out HL.out.1 (by omega)).mono ?_
  rintro e w9 ⟨rfl, hw9⟩
  replace hw9 := hw9.symm
  subst hw9
  rw [HX.out]
  refine hK.out _ _ (Below.refl _ _) ?_
  clear hK K
  try simp only [Act.put, List.setIfInBounds_toArray, List.set_cons_zero, List.set_cons_succ]
  refine rb_step 3 rfl (by kernel_rfl) (by kernel_rfl) (Nat.le_refl _) (fun K hK => ?_)
  go_simp
  refine (little_s _ _ (kq.drop 8) 8 _ _ hv2.out HL.out.2 (by omega)).mono ?_
  rintro e w9 ⟨rfl, hw9⟩
  replace hw9 := hw9.symm
  subst hw9
  rw [HY.out]
  refine hK.out _ _ (Below.refl _ _) ?_
  clear hK K
  try simp only [Act.put, List.setIfInBounds_toArray, List.set_cons_zero, List.set_cons_succ]
  refine rb_take 4 (some 3) (v := ?_) rfl rfl (by kernel_rfl) (by kernel_rfl) (by kernel_rfl) (by kernel_rfl) ?_ ?_
  rotate_left
  focus (intro w' hw'; go_simp; try with_reducible rfl)
  try simp only [Act.put, List.setIfInBounds_toArray, List.set_cons_zero, List.set_cons_succ]
  refine rb_take 5 (some 4) (v := ?_) rfl rfl (by kernel_rfl) (by kernel_rfl) (by kernel_rfl) (by kernel_rfl) ?_ ?_
  rotate_left
  focus (intro w' hw'; go_simp; try with_reducible rfl)
  try simp only [Act.put, List.setIfInBounds_toArray, List.set_cons_zero, List.set_cons_succ]
  refine rb_done (Nat.le_refl _) (by kernel_rfl) ?_
  have hZh := hid_arr hZx
  have r0 := hZx.cell 0
  have r1 := hZx.cell 1
  have r2 := hZx.cell 2
  have r3 := hZx.cell 3
  have rf0 := hZx.frozen 0
  have rf1 := hZx.frozen 1
  have rf2 := hZx.frozen 2
  have rf3 := hZx.frozen 3
  simp only [List.getElem?_cons_zero, List.getElem?_cons_succ] at r0 r1 r2 r3
  go_wp2_with fail
  refine ret_wd (g := w.heap.size + 1) rfl ((((hZh.out.set_ 0 _).set_ 1 _).set_ 2 _).set_ 3 _) rfl rfl rfl rfl rfl rfl ⟨rfl, (((hbx.setCell (by simp) _).setCell (by simp) _).setCell (by simp) _).setCell (by simp) _⟩
end Go.Proofs.Ytgfmjgfeiokcdaa.Old
