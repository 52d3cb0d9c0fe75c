
/- siphash.Sum by a contract. Conditions: bounds on lengths. -/
import Derived.Test.YtgfmjgfeiokcdaaSipSum
import Derived.Test.YtgfmjgfeiokcdaaOctet
namespace Go.Proofs.Ytgfmjgfeiokcdaa.Old
open Go.RowKit

def roundsN (s : St) : Nat → St
  | 0 => s
  | n + 1 => rndS (roundsN s n)
theorem roundsN_ok {s : St} (h : StOk s) : ∀ n, StOk (roundsN s n)
  | 0 => h
  | _ + 1 => rndS_ok _
def midS (s : St) : St := (s.1, s.2.1, xorI s.2.2.1 255, s.2.2.2)
theorem midS_ok {s : St} (h : StOk s) : StOk (midS s) := ⟨h.1, h.2.1, xorI_bd _ _, h.2.2.2⟩
def outS (t : St) : Int := xorI (xorI (xorI t.1 t.2.1) t.2.2.1) t.2.2.2
def finS (s : St) : Int := outS (roundsN (midS s) 4)
theorem finS_bd (s : St) : InU (finS s) := xorI_bd _ _
def wordN (l : List Nat) (n : Nat) : Nat := leN ((l.drop (8 * n)).take 8)
def absN (s : St) (l : List Nat) : Nat → St
  | 0 => s
  | n + 1 => absorbS (absN s l n) (wordN l n : Nat)
theorem absN_ok {s : St} (h : StOk s) (l : List Nat) : ∀ n, StOk (absN s l n)
  | 0 => h
  | _ + 1 => absorbS_ok _ _
def lastW (l : List Nat) : Int := bits .or .u64 (IntKind.u64.wrap ((l.length : Int) * 72057594037927936)) (leN (l.drop (8 * (l.length / 8))) : Nat)
def sipV (kl l : List Nat) : Int := finS (absorbS (absN (startS kl) l (l.length / 8)) (lastW l))
def sliceLen : Value → Nat
  | .slice _ n _ => n
  | _ => 0
theorem wordN_in {l : List Nat} (hb : Bytes l) (n : Nat) (h : 8 * n + 8 ≤ l.length) : InU (wordN l n : Nat) := leN_in ((hb.drop _).take 8) (by simp; omega)

set_option maxRecDepth 100000 in
set_option maxHeartbeats 2000000 in
theorem sip_sum_c (kl : List Nat) (A : Option Addr) (c : Nat) (l : List Nat) (w : World) (h16 : kl.length = 16) (hkb : Bytes kl) (hv : BView w w.heap.size A l) (hn : l.length ≤ 1000000) (hc : l.length ≤ c) :
    Calls Try.prog 16 #[keyV kl, .slice A l.length c] w fun e w' => e = .returned (.int .u64 (sipV kl l)) ∧ Below w.heap.size w w' := by
  have hvl := Lib.hid hv.bytes
  have hbK := Lib.hid ((Below.refl w.heap.size w).alloc (Nat.le_refl _) (.cells (kl.map u8v).toArray 43))
  have HS := Lib.hid (fun w => start_c kl w h16 hkb)
  have HV : sipV kl l = sipV kl l := rfl
  obtain ⟨s0, HS0⟩ : ∃ s, Hid (startS kl = s ∧ StOk s) := ⟨_, Lib.hid ⟨rfl, startS_ok kl⟩⟩
  have HF := Lib.hid (show sipV kl l = finS (absorbS (absN s0 l (l.length / 8)) (lastW l)) by unfold sipV; rw [HS0.out.1])
  rw [HS0.out.1] at HS
  clear HV
  obtain ⟨k0, k1, k2, k3, k4, k5, k6, k7, k8, k9, k10, k11, k12, k13, k14, k15, rfl⟩ := list16 h16
  unfold keyV at HS ⊢
  simp only [List.map_cons, List.map_nil] at HS hbK ⊢
  go_enter Try.func16, Try.ntmps16
  go_wp2_with fail
  refine (HS.out _).mono ?_
  rintro e w1 ⟨rfl, hb1⟩
  have hb2 := hbK.out.trans (hb1.mono hbK.out.size)
  have hW1 : WAtS (w1.alloc (.cells #[.int .u64 s0.1, .int .u64 s0.2.1, .int .u64 s0.2.2.1, .int .u64 s0.2.2.2] 62)) w1.heap.size s0 := hid_arr (Arr.new w1 62 [.int .u64 s0.1, .int .u64 s0.2.1, .int .u64 s0.2.2.1, .int .u64 s0.2.2.2])
  have hb3 := hb2.alloc hb2.size (.cells #[.int .u64 s0.1, .int .u64 s0.2.1, .int .u64 s0.2.2.1, .int .u64 s0.2.2.2] 62)
  have hgw := hb2.size
  clear HS hbK hb1 hb2
  go_wp2_with fail
  generalize w1.alloc (.cells #[.int .u64 s0.1, .int .u64 s0.2.1, .int .u64 s0.2.2.1, .int .u64 s0.2.2.2] 62) = w2 at hW1 hb3 ⊢
  generalize w1.heap.size = g at hW1 hgw ⊢
  go_loopw [1] (fun v1 wr => ∃ (k m : Nat) (A' : Option Addr) (c' : Nat), m + 8 * k = l.length ∧ m ≤ c' ∧ v1 = .slice A' m c' ∧ Hid (BView wr w.heap.size A' (l.drop (8 * k))) ∧ WAtS wr g (absN s0 l k) ∧ Below w.heap.size w wr) (fun v1 _ => sliceLen v1)
  case atStart => exact ⟨0, l.length, A, c, by omega, hc, rfl, Lib.hid (by simpa using hv.below hb3), hW1, hb3⟩
  case round =>
    rename_i wr
    clear hW1 hb3
    obtain ⟨k, m, A', c', hm, hmc, rfl, hvx, hW, hbel⟩ := hrel
    have hws := hbel.size
    have hml : (l.drop (8 * k)).length = m := by simp; omega
    have HM := Lib.hid (And.intro hm hml)
    by_cases h8 : 8 ≤ m
    · have hvt := hvx.out.take 8
      have hvc := hvx.out.cut (k := 8) (c := c') (by omega)
      rw [List.drop_drop, show 8 * k + 8 = 8 * (k + 1) by omega] at hvc
      obtain ⟨b, o, rfl, hbb, _⟩ := hvx.out.at_ (k := 0) (by omega)
      have HVT := Lib.hid hvt
      have h8i : (8 : Int) ≤ (m : Int) := by omega
      have h8c : (8 : Int) ≤ (c' : Int) := by omega
      have hmci : (m : Int) ≤ (c' : Int) := by omega
      have hin := wordN_in hvl.out k (by omega)
      have hin2 : 0 ≤ ((wordN l k : Nat) : Int) ∧ ((wordN l k : Nat) : Int) < 18446744073709551616 := hin
      have HIN := Lib.hid hin2
      have HAN := Lib.hid (absN_ok HS0.out.2 l k)
      clear hm hml hvt hin hin2
      by_cases hc8 : c' = 8
      · rw [if_pos hc8] at hvc
        have HVC := Lib.hid hvc
        clear hvc
        subst hc8
        obtain rfl : m = 8 := by omega
        go_wp2_with fail
        refine (little_s _ _ ((l.drop (8 * k)).take 8) 8 _ _ HVT.out (by rw [List.length_take, HM.out.2]; omega) (by omega)).mono ?_
        rintro e w4 ⟨rfl, hw4⟩
        replace hw4 := hw4.symm
        subst hw4
        go_wp2_with fail
        refine (absorb_c g (absN s0 l k) (wordN l k : Nat) _ hW HAN.out HIN.out).mono ?_
        rintro e w5 ⟨rfl, hW5, hM5⟩
        have hb5 := Below.mod hbel hM5 hgw hws
        go_wp2_with fail
        go_roundw
        case rel => exact ⟨k + 1, 0, _, 0, by have := HM.out.1; omega, by omega, rfl, Lib.hid ⟨HVC.out.1, HVC.out.2.keep (fun p hp => (hM5.below (Nat.le_of_lt hW.out.lt)).cell (by omega))⟩, hW5, hb5⟩
        case measure => simp [sliceLen]
      · rw [if_neg hc8] at hvc
        have HVC := Lib.hid hvc
        clear hvc
        go_wp2_with fail
        refine (little_s _ _ ((l.drop (8 * k)).take 8) 8 _ _ HVT.out (by rw [List.length_take, HM.out.2]; omega) (by omega)).mono ?_
        rintro e w4 ⟨rfl, hw4⟩
        replace hw4 := hw4.symm
        subst hw4
        go_wp2_with fail
        refine (absorb_c g (absN s0 l k) (wordN l k : Nat) _ hW HAN.out HIN.out).mono ?_
        rintro e w5 ⟨rfl, hW5, hM5⟩
        have hb5 := Below.mod hbel hM5 hgw hws
        go_wp2_with fail
        go_roundw
        case rel => exact ⟨k + 1, m - 8, _, _, by have := HM.out.1; omega, by omega, rfl, Lib.hid ⟨HVC.out.1, HVC.out.2.keep (fun p hp => (hM5.below (Nat.le_of_lt hW.out.lt)).cell (by omega))⟩, hW5, hb5⟩
        case measure => simp [sliceLen]; omega
    · have hk : k = l.length / 8 := by omega
      have h8i : (m : Int) < 8 := by omega
      subst hk
      clear hm hml
      obtain ⟨s1, HS1⟩ : ∃ s, Hid (absN s0 l (l.length / 8) = s ∧ StOk s) := ⟨_, Lib.hid ⟨rfl, absN_ok HS0.out.2 l _⟩⟩
      rw [HS1.out.1] at hW HF
      go_wp2_with fail
      refine (little_s _ _ (l.drop (8 * (l.length / 8))) m _ _ hvx.out HM.out.2 (by omega)).mono ?_
      rintro e w4 ⟨rfl, hw4⟩
      replace hw4 := hw4.symm
      subst hw4
      go_wp2_with fail
      refine (absorb_c g s1 (lastW l) _ hW HS1.out.2 (bits_bd _ _ _)).mono ?_
      rintro e w5 ⟨rfl, hW5, hM5⟩
      have hb5 := Below.mod hbel hM5 hgw hws
      have hok5 := absorbS_ok s1 (lastW l)
      clear hM5 hW hbel hvx
      generalize absorbS s1 (lastW l) = s2 at hW5 hok5 HF
      obtain ⟨a, b, c2, d⟩ := s2
      obtain ⟨ha, hb, hc2, hd⟩ := hok5
      unfold InU at ha hb hc2 hd
      simp only at ha hb hc2 hd
      replace hW5 : WAt w5 g a b c2 d := hW5
      obtain ⟨x, HX, hx⟩ : ∃ x, Hid (xorI c2 255 = x) ∧ 0 ≤ x ∧ x < 18446744073709551616 := ⟨_, Lib.hid rfl, xorI_bd _ _⟩
      have HF2 := Lib.hid (show sipV _ l = outS (roundsN (a, b, x, d) 4) by rw [HF.out]; unfold finS midS; simp only; rw [HX.out])
      have q2 := hW5.out.cell 2
      have f2 := hW5.out.frozen 2
      simp only [List.getElem?_cons_zero, List.getElem?_cons_succ] at q2
      go_wp2_with fail
      rw [show bits .xor .u64 c2 255 = x from HX.out]
      have hW6 : WAtS (w5.setCell ⟨g, 2, none⟩ (.int .u64 x)) g (a, b, x, d) := hid_arr (hW5.out.set_ 2 _)
      have hb6 : Below w.heap.size w (w5.setCell ⟨g, 2, none⟩ (.int .u64 x)) := hb5.setCell (by exact hgw) _
      have HOK := Lib.hid (show StOk (a, b, x, d) from ⟨ha, hb, hx, hd⟩)
      clear q2 f2 hW5 hb5 HF
      generalize w5.setCell ⟨g, 2, none⟩ (.int .u64 x) = w6 at hW6 hb6 ⊢
      generalize (a, b, x, d) = s3 at hW6 HOK HF2
      go_loopw [31] (fun i wr => ∃ n : Nat, n ≤ 4 ∧ i = .int .i64 (n : Int) ∧ WAtS wr g (roundsN s3 n) ∧ Below w.heap.size w wr) (fun i _ => 4 - (intOf i).toNat)
      case atStart => exact ⟨0, by omega, rfl, hW6, hb6⟩
      case round =>
        obtain ⟨n, hn4, rfl, hW7, hb7⟩ := hrel
        clear hW6 hb6
        by_cases hlt : n < 4
        · have hni : (n : Int) < 4 := by omega
          have HR := Lib.hid (roundsN_ok HOK.out n)
          go_wp2_with fail
          refine (round_s g _ _ hW7 HR.out).mono ?_
          rintro e w8 ⟨rfl, hW8, hM8⟩
          have hb8 := Below.mod hb7 hM8 hgw hb7.size
          go_wp2_with fail
          go_roundw
          case rel => exact ⟨n + 1, by omega, by go_num, hW8, hb8⟩
          case measure => (simp [intOf] <;> omega)
        · obtain rfl : n = 4 := by omega
          generalize roundsN s3 4 = t at hW7 HF2
          obtain ⟨a4, b4, c4, d4⟩ := t
          replace hW7 : WAt _ g a4 b4 c4 d4 := hW7
          have q0 := hW7.out.cell 0
          have q1 := hW7.out.cell 1
          have q2 := hW7.out.cell 2
          have q3 := hW7.out.cell 3
          simp only [List.getElem?_cons_zero, List.getElem?_cons_succ] at q0 q1 q2 q3
          go_wp2
          go_ret
          rw [HF2.out]
          exact ⟨rfl, hb7⟩
end Go.Proofs.Ytgfmjgfeiokcdaa.Old
