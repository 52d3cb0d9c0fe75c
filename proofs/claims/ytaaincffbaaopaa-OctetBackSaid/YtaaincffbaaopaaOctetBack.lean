/- Proved: OctetBack returns true for all numbers and sizes, and changes no memory that was there. Conditions: none. -/
import Derived.Test.YtaaincffbaaopaaOctet
import Derived.Test.YtaaincffbaaopaaReader
import Derived.Test.YtaaincffbaaopaaOctetAwake
import Derived.Test.YtaaincffbaaopaaKit
import Derived.Test.YtaaincffbaaopaaRegion
import Derived.IntWalk
namespace Go.Proofs.Ytaaincffbaaopaa.OctetBack
open Go.RowKit

/-- What is put in the rounds from k on, m rounds in all. -/
def cat (l s : List Nat) : Nat → List Nat
  | 0 => []
  | k + 1 => cat l s k ++ be (nth l k) (nth s k % 9)
theorem cat_len (l s : List Nat) (k : Nat) : (cat l s k).length ≤ 8 * k := by
  induction k with
  | zero => simp [cat]
  | succ k ih => simp [cat, be_length]; omega
theorem cat_bytes (l s : List Nat) (k : Nat) : Bytes (cat l s k) := by
  induction k with
  | zero => exact Bytes.nil
  | succ k ih => exact ih.append (be_bytes _ _)
theorem cat_drop (l s : List Nat) (k m : Nat) (h : k < m) : (cat l s m).drop (cat l s k).length = be (nth l k) (nth s k % 9) ++ (cat l s m).drop (cat l s (k + 1)).length := by
  induction m with
  | zero => omega
  | succ m ih =>
    rcases Nat.lt_or_ge k m with h1 | h1
    · have hle : ∀ a b : Nat, a ≤ b → (cat l s a).length ≤ (cat l s b).length := by
        intro a b hab
        induction b with
        | zero => simp [Nat.le_zero.1 hab]
        | succ b ihb =>
          rcases Nat.lt_or_ge a (b + 1) with h2 | h2
          · have := ihb (by omega); simp [cat]; omega
          · simp [show a = b + 1 by omega]
      have h2 := hle k m (by omega)
      have h3 := hle (k + 1) m (by omega)
      show (cat l s m ++ _).drop _ = _ ++ (cat l s m ++ _).drop _
      rw [List.drop_append_of_le_length h2, List.drop_append_of_le_length h3, ih h1, List.append_assoc]
    · obtain rfl : k = m := by omega
      show (cat l s k ++ _).drop _ = _ ++ (cat l s k ++ _).drop (cat l s k ++ _).length
      rw [List.drop_left, List.drop_length, List.append_nil]

theorem size9 (n : Nat) (h : n < 256) : IntKind.i64.wrap ((n : Int).tmod 9) = ((n % 9 : Nat) : Int) := by
  rw [Int.tmod_eq_emod_of_nonneg (by omega), IntWalk.i64_in _ (by omega)]
  omega


set_option maxRecDepth 100000 in
set_option maxHeartbeats 800000 in
theorem walk_ (A0 A1 : Option Addr) (n0 n1 c0 c1 : Nat) (l s : List Nat) (w : World) (hn0 : l.length = n0) (hn1 : s.length = n1) (hl : ∀ x ∈ l, U64 x) (hv0 : View w w.heap.size A0 (l.map u64v)) (hv1 : BView w w.heap.size A1 s) :
    Calls Try.prog 4 #[.slice A0 n0 c0, .slice A1 n1 c1] w fun e w' => e = .returned (.bool true) ∧ Below w.heap.size w w' := by
  subst hn0; subst hn1
  obtain ⟨m, hm⟩ : ∃ m, m = min (min l.length s.length) 50 := ⟨_, rfl⟩
  have HM := Lib.hid hm
  have hml : m ≤ l.length := by omega
  have hms : m ≤ s.length := by omega
  have hm5 : m ≤ 50 := by omega
  clear hm
  go_enter Try.func4, Try.ntmps4
  go_wp2
  go_loopw [5, 6] (fun v i wr => ∃ (k : Nat) (A c : _), k ≤ m ∧ i = .int .i64 (k : Int) ∧ v = .slice A (cat l s k).length c ∧ BView wr wr.heap.size A (cat l s k) ∧ Below w.heap.size w wr) (fun _ i _ => m - (intOf i).toNat)
  case atStart => exact ⟨0, none, 0, Nat.zero_le _, rfl, rfl, BView.nil_, Below.refl _ _⟩
  case round =>
    rename_i wr
    obtain ⟨k, A, c, hk, rfl, rfl, hv, hbel⟩ := hrel
    by_cases hlt : k < m
    · obtain ⟨b0, o0, rfl, hb0, hcell0⟩ := (hv0.below hbel) (by intro e; rw [List.map_eq_nil_iff] at e; subst e; simp at hml; omega)
      have q0 := hcell0 k (u64v (nth l k)) (by rw [List.getElem?_map, nth_get (by omega)]; rfl)
      obtain ⟨b1, o1, rfl, hb1, hcell1⟩ := (hv1.below hbel).at_ (show k < s.length by omega)
      have q1 := hcell1 k (by omega)
      have hs9 := nth_lt hv1.bytes k
      have hU : U64 (nth l k) := hl _ (by rw [show nth l k = l[k] by unfold nth; rw [List.getD_eq_getElem?_getD, List.getElem?_eq_getElem (by omega)]; rfl]; exact List.getElem_mem _)
      have hcl := cat_len l s k
      have hx0 : (0 : Int) ≤ (k : Int) := by omega
      have hx1 : (k : Int) < (l.length : Int) := by omega
      have hx2 : (k : Int) < (s.length : Int) := by omega
      have hx3 : (k : Int) < 50 := by omega
      unfold u64v at q0
      have H9 := Lib.hid (size9 (nth s k) hs9)
      clear hcell0 hcell1
      go_wp2_with fail
      refine rb_start (by kernel_rfl) (fun wx hwx => ?_)
      have hvx := hv.step hwx
      have hbx := hbel.trans (hwx.mono hbel.size)
      have p0 := (hwx.cell (p := ⟨b0, o0 + k, none⟩) (by have := hbel.size; simp; omega)).trans q0
      have p1 := (hwx.cell (p := ⟨b1, o1 + k, none⟩) (by have := hbel.size; simp; omega)).trans q1
      refine rb_take 0 (some 25) (v := ?_) rfl rfl (by kernel_rfl) (by kernel_rfl) (by kernel_rfl) (by kernel_rfl) ?_ ?_
      rotate_left
      focus (intro w' hw'; go_simp; try with_reducible rfl)
      try simp only [Act.put, List.setIfInBounds_toArray, List.set_cons_zero, List.set_cons_succ]
      refine rb_take 1 (some 26) (v := ?_) rfl rfl (by kernel_rfl) (by kernel_rfl) (by kernel_rfl) (by kernel_rfl) ?_ ?_
      rotate_left
      focus (intro w' hw'; go_simp; try with_reducible rfl)
      try simp only [Act.put, List.setIfInBounds_toArray, List.set_cons_zero, List.set_cons_succ]
      refine rb_take 2 (some 27) (v := ?_) rfl rfl (by kernel_rfl) (by kernel_rfl) (by kernel_rfl) (by kernel_rfl) ?_ ?_
      rotate_left
      focus (intro w' hw'; go_simp; try with_reducible rfl)
      try simp only [Act.put, List.setIfInBounds_toArray, List.set_cons_zero, List.set_cons_succ]
      refine rb_take 3 (some 28) (v := ?_) rfl rfl (by kernel_rfl) (by kernel_rfl) (by kernel_rfl) (by kernel_rfl) ?_ ?_
      rotate_left
      focus (intro w' hw'; go_simp; try with_reducible rfl)
      try simp only [Act.put, List.setIfInBounds_toArray, List.set_cons_zero, List.set_cons_succ]
      refine rb_take 4 (some 29) (v := ?_) rfl rfl (by kernel_rfl) (by kernel_rfl) (by kernel_rfl) (by kernel_rfl) ?_ ?_
      rotate_left
      focus (intro w' hw'; have q := (hw'.cell (p := ⟨b0, o0 + k, none⟩) (by have := hbx.size; simp; omega)).trans p0; go_simp; try with_reducible rfl)
      try simp only [Act.put, List.setIfInBounds_toArray, List.set_cons_zero, List.set_cons_succ]
      refine rb_take 5 (some 30) (v := ?_) rfl rfl (by kernel_rfl) (by kernel_rfl) (by kernel_rfl) (by kernel_rfl) ?_ ?_
      rotate_left
      focus (intro w' hw'; go_simp; try with_reducible rfl)
      try simp only [Act.put, List.setIfInBounds_toArray, List.set_cons_zero, List.set_cons_succ]
      refine rb_take 6 (some 31) (v := ?_) rfl rfl (by kernel_rfl) (by kernel_rfl) (by kernel_rfl) (by kernel_rfl) ?_ ?_
      rotate_left
      focus (intro w' hw'; go_simp; try with_reducible rfl)
      try simp only [Act.put, List.setIfInBounds_toArray, List.set_cons_zero, List.set_cons_succ]
      refine rb_take 7 (some 32) (v := ?_) rfl rfl (by kernel_rfl) (by kernel_rfl) (by kernel_rfl) (by kernel_rfl) ?_ ?_
      rotate_left
      focus (intro w' hw'; go_simp; try with_reducible rfl)
      try simp only [Act.put, List.setIfInBounds_toArray, List.set_cons_zero, List.set_cons_succ]
      refine rb_take 8 (some 33) (v := ?_) rfl rfl (by kernel_rfl) (by kernel_rfl) (by kernel_rfl) (by kernel_rfl) ?_ ?_
      rotate_left
      focus (intro w' hw'; have q := (hw'.cell (p := ⟨b1, o1 + k, none⟩) (by have := hbx.size; simp; omega)).trans p1; go_simp; try with_reducible rfl)
      try simp only [Act.put, List.setIfInBounds_toArray, List.set_cons_zero, List.set_cons_succ]
      refine rb_take 9 (some 34) (v := ?_) rfl rfl (by kernel_rfl) (by kernel_rfl) (by kernel_rfl) (by kernel_rfl) ?_ ?_
      rotate_left
      focus (intro w' hw'; go_simp; try with_reducible rfl)
      try simp only [Act.put, List.setIfInBounds_toArray, List.set_cons_zero, List.set_cons_succ]
      refine rb_take 10 (some 35) (v := ?_) rfl rfl (by kernel_rfl) (by kernel_rfl) (by kernel_rfl) (by kernel_rfl) ?_ ?_
      rotate_left
      focus (intro w' hw'; go_simp; try with_reducible rfl)
      try simp only [Act.put, List.setIfInBounds_toArray, List.set_cons_zero, List.set_cons_succ]
      refine rb_step 11 rfl (by kernel_rfl) (by kernel_rfl) (Nat.le_refl _) (fun K hK => ?_)
      go_simp
      rw [H9.out]
      refine (put_c A c (cat l s k) (nth l k) ((nth s k % 9 : Nat) : Int) (nth s k % 9) _ _ hvx (Nat.le_refl _) (by omega) hU (by omega)).mono ?_
      rintro e w2 ⟨g2, rfl, hg2, hA2, hb2, hy2⟩
      refine hK.out _ _ hb2 ?_
      clear hK K
      try simp only [Act.put, List.setIfInBounds_toArray, List.set_cons_zero, List.set_cons_succ]
      refine rb_take 12 (some 5) (v := ?_) rfl rfl (by kernel_rfl) (by kernel_rfl) (by kernel_rfl) (by kernel_rfl) ?_ ?_
      rotate_left
      focus (intro w' hw'; go_simp; try with_reducible rfl)
      try simp only [Act.put, List.setIfInBounds_toArray, List.set_cons_zero, List.set_cons_succ]
      refine rb_done (Nat.le_refl _) (by kernel_rfl) ?_
      go_wp2
      go_roundw
      case rel => exact ⟨k + 1, some ⟨g2, 0, none⟩, (cat l s (k + 1)).length, by omega, by go_num, by simp [cat], BView.of_arr hy2 hA2.out hA2.out.lt, hbx.trans (hb2.mono hbx.size)⟩
      case measure => (simp [intOf] <;> omega)
    · have hbx : ¬ ((k : Int) < l.length ∧ (k : Int) < s.length ∧ (k : Int) < 50) := by have := HM.out; omega
      obtain rfl : k = m := by omega
      have hcl := cat_len l s k
      have HB := Lib.hid hbx
      clear hbx hlt
      by_cases h1 : (k : Int) < l.length
      · by_cases h2 : (k : Int) < s.length
        · have h3 : ¬ (k : Int) < 50 := by have := HB.out; omega
          go_wp2_with fail
          refine (read_c A c (cat l s k) _ hv (by omega)).mono ?_
          rintro e wq ⟨g, rfl, hg, hr, hbel2⟩
          have hgw : w.heap.size ≤ g := Nat.le_trans hbel.size hg
          have hgb := hbel.trans (hbel2.mono hbel.size)
          have hglt := hr.lt
          clear hbel hbel2 hv hg
          go_wp2_with fail
          go_loopw [8] (fun i wr => ∃ j : Nat, j ≤ k ∧ i = .int .i64 (j : Int) ∧ RdrAt wr g ((cat l s k).drop (cat l s j).length) false ∧ Below w.heap.size w wr) (fun i _ => k - (intOf i).toNat)
          case atStart => exact ⟨0, Nat.zero_le _, rfl, hr, hgb⟩
          case round =>
            rename_i wr
            clear hr hgb hglt
            obtain ⟨j, hj, rfl, hr, hbel⟩ := hrel
            by_cases hlt : j < k
            · obtain ⟨b0, o0, rfl, hb0, hcell0⟩ := (hv0.below hbel) (by intro e; rw [List.map_eq_nil_iff] at e; subst e; simp at hml; omega)
              have q0 := hcell0 j (u64v (nth l j)) (by rw [List.getElem?_map, nth_get (by omega)]; rfl)
              obtain ⟨b1, o1, rfl, hb1, hcell1⟩ := (hv1.below hbel).at_ (show j < s.length by omega)
              have q1 := hcell1 j (by omega)
              have hs9 := nth_lt hv1.bytes j
              have hU : U64 (nth l j) := hl _ (by rw [show nth l j = l[j] by unfold nth; rw [List.getD_eq_getElem?_getD, List.getElem?_eq_getElem (by omega)]; rfl]; exact List.getElem_mem _)
              rw [cat_drop l s j k hlt] at hr
              have hlen : (be (nth l j) (nth s j % 9)).length = nth s j % 9 := be_length _ _
              have hcl := cat_len l s k
              have hlen2 : (be (nth l j) (nth s j % 9) ++ (cat l s k).drop (cat l s (j + 1)).length).length ≤ 1000000 := by
                rw [List.length_append, hlen, List.length_drop]; omega
              have HT1 := Lib.hid (show (be (nth l j) (nth s j % 9) ++ (cat l s k).drop (cat l s (j + 1)).length).take (nth s j % 9) = be (nth l j) (nth s j % 9) from List.take_left' hlen)
              have HT2 := Lib.hid (show (be (nth l j) (nth s j % 9) ++ (cat l s k).drop (cat l s (j + 1)).length).drop (nth s j % 9) = (cat l s k).drop (cat l s (j + 1)).length from List.drop_left' hlen)
              have hlen1 : nth s j % 9 ≤ (be (nth l j) (nth s j % 9) ++ (cat l s k).drop (cat l s (j + 1)).length).length := by rw [List.length_append, hlen]; omega
              have hx0 : (0 : Int) ≤ (j : Int) := by omega
              have hx1 : (j : Int) < (l.length : Int) := by omega
              have hx2 : (j : Int) < (s.length : Int) := by omega
              have hx3 : (j : Int) < 50 := by omega
              have hgr := hr.lt
              have hgr' : g ≤ wr.heap.size := Nat.le_of_lt hgr
              unfold u64v at q0
              have H9 := Lib.hid (size9 (nth s j) hs9)
              have HL := Lib.hid (And.intro hlen1 hlen2)
              clear hcell0 hcell1 hlen hlen1 hlen2
              go_wp2_with fail
              refine rb_start_at (g) (by assumption) (by kernel_rfl) (fun wx hwx hBwx => ?_)
              have hrx := hr.below hwx
              have hbx := hbel.trans (hwx.mono hbel.size)
              have p0 := (hwx.cell (p := ⟨b0, o0 + j, none⟩) (by have := hbel.size; simp; omega)).trans q0
              have p1 := (hwx.cell (p := ⟨b1, o1 + j, none⟩) (by have := hbel.size; simp; omega)).trans q1
              refine rb_take 0 (some 57) (v := ?_) rfl rfl (by kernel_rfl) (by kernel_rfl) (by kernel_rfl) (by kernel_rfl) ?_ ?_
              rotate_left
              focus (intro w' hw'; go_simp; try with_reducible rfl)
              try simp only [Act.put, List.setIfInBounds_toArray, List.set_cons_zero, List.set_cons_succ]
              refine rb_take 1 (some 58) (v := ?_) rfl rfl (by kernel_rfl) (by kernel_rfl) (by kernel_rfl) (by kernel_rfl) ?_ ?_
              rotate_left
              focus (intro w' hw'; go_simp; try with_reducible rfl)
              try simp only [Act.put, List.setIfInBounds_toArray, List.set_cons_zero, List.set_cons_succ]
              refine rb_take 2 (some 59) (v := ?_) rfl rfl (by kernel_rfl) (by kernel_rfl) (by kernel_rfl) (by kernel_rfl) ?_ ?_
              rotate_left
              focus (intro w' hw'; go_simp; try with_reducible rfl)
              try simp only [Act.put, List.setIfInBounds_toArray, List.set_cons_zero, List.set_cons_succ]
              refine rb_take 3 (some 60) (v := ?_) rfl rfl (by kernel_rfl) (by kernel_rfl) (by kernel_rfl) (by kernel_rfl) ?_ ?_
              rotate_left
              focus (intro w' hw'; go_simp; try with_reducible rfl)
              try simp only [Act.put, List.setIfInBounds_toArray, List.set_cons_zero, List.set_cons_succ]
              refine rb_take 4 (some 61) (v := ?_) rfl rfl (by kernel_rfl) (by kernel_rfl) (by kernel_rfl) (by kernel_rfl) ?_ ?_
              rotate_left
              focus (intro w' hw'; have q := (hw'.cell (p := ⟨b1, o1 + j, none⟩) (by simp; omega)).trans p1; go_simp; try with_reducible rfl)
              try simp only [Act.put, List.setIfInBounds_toArray, List.set_cons_zero, List.set_cons_succ]
              refine rb_take 5 (some 62) (v := ?_) rfl rfl (by kernel_rfl) (by kernel_rfl) (by kernel_rfl) (by kernel_rfl) ?_ ?_
              rotate_left
              focus (intro w' hw'; go_simp; try with_reducible rfl)
              try simp only [Act.put, List.setIfInBounds_toArray, List.set_cons_zero, List.set_cons_succ]
              refine rb_take 6 (some 63) (v := ?_) rfl rfl (by kernel_rfl) (by kernel_rfl) (by kernel_rfl) (by kernel_rfl) ?_ ?_
              rotate_left
              focus (intro w' hw'; go_simp; try with_reducible rfl)
              try simp only [Act.put, List.setIfInBounds_toArray, List.set_cons_zero, List.set_cons_succ]
              refine rb_take 8 (some 65) (v := ?_) rfl rfl (by kernel_rfl) (by kernel_rfl) (by kernel_rfl) (by kernel_rfl) ?_ ?_
              rotate_left
              focus (intro w' hw'; go_simp; try with_reducible rfl)
              try simp only [Act.put, List.setIfInBounds_toArray, List.set_cons_zero, List.set_cons_succ]
              refine rb_take 9 (some 66) (v := ?_) rfl rfl (by kernel_rfl) (by kernel_rfl) (by kernel_rfl) (by kernel_rfl) ?_ ?_
              rotate_left
              focus (intro w' hw'; go_simp; try with_reducible rfl)
              try simp only [Act.put, List.setIfInBounds_toArray, List.set_cons_zero, List.set_cons_succ]
              refine rb_take 10 (some 67) (v := ?_) rfl rfl (by kernel_rfl) (by kernel_rfl) (by kernel_rfl) (by kernel_rfl) ?_ ?_
              rotate_left
              focus (intro w' hw'; go_simp; try with_reducible rfl)
              try simp only [Act.put, List.setIfInBounds_toArray, List.set_cons_zero, List.set_cons_succ]
              refine rb_take 11 (some 68) (v := ?_) rfl rfl (by kernel_rfl) (by kernel_rfl) (by kernel_rfl) (by kernel_rfl) ?_ ?_
              rotate_left
              focus (intro w' hw'; have q := (hw'.cell (p := ⟨b0, o0 + j, none⟩) (by simp; omega)).trans p0; go_simp; try with_reducible rfl)
              try simp only [Act.put, List.setIfInBounds_toArray, List.set_cons_zero, List.set_cons_succ]
              refine rb_take 12 (some 69) (v := ?_) rfl rfl (by kernel_rfl) (by kernel_rfl) (by kernel_rfl) (by kernel_rfl) ?_ ?_
              rotate_left
              focus (intro w' hw'; go_simp; try with_reducible rfl)
              try simp only [Act.put, List.setIfInBounds_toArray, List.set_cons_zero, List.set_cons_succ]
              refine rb_take 13 (some 70) (v := ?_) rfl rfl (by kernel_rfl) (by kernel_rfl) (by kernel_rfl) (by kernel_rfl) ?_ ?_
              rotate_left
              focus (intro w' hw'; go_simp; try with_reducible rfl)
              try simp only [Act.put, List.setIfInBounds_toArray, List.set_cons_zero, List.set_cons_succ]
              refine rb_take 14 (some 71) (v := ?_) rfl rfl (by kernel_rfl) (by kernel_rfl) (by kernel_rfl) (by kernel_rfl) ?_ ?_
              rotate_left
              focus (intro w' hw'; go_simp; try with_reducible rfl)
              try simp only [Act.put, List.setIfInBounds_toArray, List.set_cons_zero, List.set_cons_succ]
              refine rb_take 15 (some 72) (v := ?_) rfl rfl (by kernel_rfl) (by kernel_rfl) (by kernel_rfl) (by kernel_rfl) ?_ ?_
              rotate_left
              focus (intro w' hw'; have q := (hw'.cell (p := ⟨b1, o1 + j, none⟩) (by simp; omega)).trans p1; go_simp; try with_reducible rfl)
              try simp only [Act.put, List.setIfInBounds_toArray, List.set_cons_zero, List.set_cons_succ]
              refine rb_take 16 (some 73) (v := ?_) rfl rfl (by kernel_rfl) (by kernel_rfl) (by kernel_rfl) (by kernel_rfl) ?_ ?_
              rotate_left
              focus (intro w' hw'; go_simp; try with_reducible rfl)
              try simp only [Act.put, List.setIfInBounds_toArray, List.set_cons_zero, List.set_cons_succ]
              refine rb_take 17 (some 74) (v := ?_) rfl rfl (by kernel_rfl) (by kernel_rfl) (by kernel_rfl) (by kernel_rfl) ?_ ?_
              rotate_left
              focus (intro w' hw'; go_simp; try with_reducible rfl)
              try simp only [Act.put, List.setIfInBounds_toArray, List.set_cons_zero, List.set_cons_succ]
              refine rb_keep 7 rfl (by kernel_rfl) (by kernel_rfl) (by assumption) (fun K hK => ?_)
              go_simp
              rw [H9.out]
              refine (num_ok g _ false (nth s j % 9) _ hrx HL.out.1 HL.out.2 (by omega)).mono ?_
              rintro e w2 ⟨rfl, hr2, hm2⟩
              rw [HT1.out]
              rw [HT2.out] at hr2
              have hbd2 := hm2.below hBwx
              have hb2 := hbx.trans (hbd2.mono hgw)
              refine hK.out _ _ hbd2 ?_
              clear hK K
              have hB2 : g ≤ w2.heap.size := Nat.le_trans hBwx hbd2.size
              try simp only [Act.put, List.setIfInBounds_toArray, List.set_cons_zero, List.set_cons_succ]
              refine rb_keep 18 rfl (by kernel_rfl) (by kernel_rfl) (by assumption) (fun K hK => ?_)
              go_simp
              first | rw [H9.out] | rw [show ((nth s j : Nat) : Int) % 9 = ((nth s j % 9 : Nat) : Int) by omega]
              refine (ref_bytes_c (nth l j) _ (nth s j % 9) _ hU (by omega)).mono ?_
              rintro e w3 ⟨g3, rfl, hg3, hA3, hb3, hy3⟩
              have hr3 := hr2.below hb3
              have hbw := hb2.trans (hb3.mono hb2.size)
              refine hK.out _ _ (hb3.mono hB2) ?_
              clear hK K
              have hB3 : g ≤ w3.heap.size := Nat.le_trans hB2 hb3.size
              try simp only [Act.put, List.setIfInBounds_toArray, List.set_cons_zero, List.set_cons_succ]
              refine rb_keep 19 rfl (by kernel_rfl) (by kernel_rfl) (by assumption) (fun K hK => ?_)
              go_simp
              refine (ref_num_c (some ⟨g3, 0, none⟩) (be (nth l j) (nth s j % 9)).length (be (nth l j) (nth s j % 9)) w3 w3.heap.size (BView.of_arr hy3 hA3.out hA3.out.lt) (by rw [be_length]; omega)).mono ?_
              rintro e w4 ⟨rfl, rfl⟩
              refine hK.out _ _ (Below.refl _ _) ?_
              clear hK K
              try simp only [Act.put, List.setIfInBounds_toArray, List.set_cons_zero, List.set_cons_succ]
              refine rb_take 20 (some 77) (v := ?_) rfl rfl (by kernel_rfl) (by kernel_rfl) (by kernel_rfl) (by kernel_rfl) ?_ ?_
              rotate_left
              focus (intro w' hw'; go_simp; try with_reducible rfl)
              try simp only [Act.put, List.setIfInBounds_toArray, List.set_cons_zero, List.set_cons_succ]
              refine rb_done (by assumption) (by kernel_rfl) ?_
              go_wp2
              go_roundw
              case rel => exact ⟨j + 1, by omega, by go_num, hr3, hbw⟩
              case measure => (simp [intOf] <;> omega)
            · obtain rfl : j = k := by omega
              go_wp2_with fail
              rw [List.drop_length] at hr
              refine (left_c g [] false _ hr).mono ?_
              rintro e w4 ⟨rfl, rfl⟩
              go_wp2_with fail
              refine (bad_c g [] false _ hr).mono ?_
              rintro e w4 ⟨rfl, rfl⟩
              go_wp2_with fail
              refine (octet_awake_c _).mono ?_
              rintro e w5 ⟨rfl, hb5⟩
              go_wp2
              go_ret
              exact ⟨rfl, hbel.trans (hb5.mono hbel.size)⟩
        · go_wp2_with fail
          refine (read_c A c (cat l s k) _ hv (by omega)).mono ?_
          rintro e wq ⟨g, rfl, hg, hr, hbel2⟩
          have hgw : w.heap.size ≤ g := Nat.le_trans hbel.size hg
          have hgb := hbel.trans (hbel2.mono hbel.size)
          have hglt := hr.lt
          clear hbel hbel2 hv hg
          go_wp2_with fail
          go_loopw [8] (fun i wr => ∃ j : Nat, j ≤ k ∧ i = .int .i64 (j : Int) ∧ RdrAt wr g ((cat l s k).drop (cat l s j).length) false ∧ Below w.heap.size w wr) (fun i _ => k - (intOf i).toNat)
          case atStart => exact ⟨0, Nat.zero_le _, rfl, hr, hgb⟩
          case round =>
            rename_i wr
            clear hr hgb hglt
            obtain ⟨j, hj, rfl, hr, hbel⟩ := hrel
            by_cases hlt : j < k
            · obtain ⟨b0, o0, rfl, hb0, hcell0⟩ := (hv0.below hbel) (by intro e; rw [List.map_eq_nil_iff] at e; subst e; simp at hml; omega)
              have q0 := hcell0 j (u64v (nth l j)) (by rw [List.getElem?_map, nth_get (by omega)]; rfl)
              obtain ⟨b1, o1, rfl, hb1, hcell1⟩ := (hv1.below hbel).at_ (show j < s.length by omega)
              have q1 := hcell1 j (by omega)
              have hs9 := nth_lt hv1.bytes j
              have hU : U64 (nth l j) := hl _ (by rw [show nth l j = l[j] by unfold nth; rw [List.getD_eq_getElem?_getD, List.getElem?_eq_getElem (by omega)]; rfl]; exact List.getElem_mem _)
              rw [cat_drop l s j k hlt] at hr
              have hlen : (be (nth l j) (nth s j % 9)).length = nth s j % 9 := be_length _ _
              have hcl := cat_len l s k
              have hlen2 : (be (nth l j) (nth s j % 9) ++ (cat l s k).drop (cat l s (j + 1)).length).length ≤ 1000000 := by
                rw [List.length_append, hlen, List.length_drop]; omega
              have HT1 := Lib.hid (show (be (nth l j) (nth s j % 9) ++ (cat l s k).drop (cat l s (j + 1)).length).take (nth s j % 9) = be (nth l j) (nth s j % 9) from List.take_left' hlen)
              have HT2 := Lib.hid (show (be (nth l j) (nth s j % 9) ++ (cat l s k).drop (cat l s (j + 1)).length).drop (nth s j % 9) = (cat l s k).drop (cat l s (j + 1)).length from List.drop_left' hlen)
              have hlen1 : nth s j % 9 ≤ (be (nth l j) (nth s j % 9) ++ (cat l s k).drop (cat l s (j + 1)).length).length := by rw [List.length_append, hlen]; omega
              have hx0 : (0 : Int) ≤ (j : Int) := by omega
              have hx1 : (j : Int) < (l.length : Int) := by omega
              have hx2 : (j : Int) < (s.length : Int) := by omega
              have hx3 : (j : Int) < 50 := by omega
              have hgr := hr.lt
              have hgr' : g ≤ wr.heap.size := Nat.le_of_lt hgr
              unfold u64v at q0
              have H9 := Lib.hid (size9 (nth s j) hs9)
              have HL := Lib.hid (And.intro hlen1 hlen2)
              clear hcell0 hcell1 hlen hlen1 hlen2
              go_wp2_with fail
              refine rb_start_at (g) (by assumption) (by kernel_rfl) (fun wx hwx hBwx => ?_)
              have hrx := hr.below hwx
              have hbx := hbel.trans (hwx.mono hbel.size)
              have p0 := (hwx.cell (p := ⟨b0, o0 + j, none⟩) (by have := hbel.size; simp; omega)).trans q0
              have p1 := (hwx.cell (p := ⟨b1, o1 + j, none⟩) (by have := hbel.size; simp; omega)).trans q1
              refine rb_take 0 (some 57) (v := ?_) rfl rfl (by kernel_rfl) (by kernel_rfl) (by kernel_rfl) (by kernel_rfl) ?_ ?_
              rotate_left
              focus (intro w' hw'; go_simp; try with_reducible rfl)
              try simp only [Act.put, List.setIfInBounds_toArray, List.set_cons_zero, List.set_cons_succ]
              refine rb_take 1 (some 58) (v := ?_) rfl rfl (by kernel_rfl) (by kernel_rfl) (by kernel_rfl) (by kernel_rfl) ?_ ?_
              rotate_left
              focus (intro w' hw'; go_simp; try with_reducible rfl)
              try simp only [Act.put, List.setIfInBounds_toArray, List.set_cons_zero, List.set_cons_succ]
              refine rb_take 2 (some 59) (v := ?_) rfl rfl (by kernel_rfl) (by kernel_rfl) (by kernel_rfl) (by kernel_rfl) ?_ ?_
              rotate_left
              focus (intro w' hw'; go_simp; try with_reducible rfl)
              try simp only [Act.put, List.setIfInBounds_toArray, List.set_cons_zero, List.set_cons_succ]
              refine rb_take 3 (some 60) (v := ?_) rfl rfl (by kernel_rfl) (by kernel_rfl) (by kernel_rfl) (by kernel_rfl) ?_ ?_
              rotate_left
              focus (intro w' hw'; go_simp; try with_reducible rfl)
              try simp only [Act.put, List.setIfInBounds_toArray, List.set_cons_zero, List.set_cons_succ]
              refine rb_take 4 (some 61) (v := ?_) rfl rfl (by kernel_rfl) (by kernel_rfl) (by kernel_rfl) (by kernel_rfl) ?_ ?_
              rotate_left
              focus (intro w' hw'; have q := (hw'.cell (p := ⟨b1, o1 + j, none⟩) (by simp; omega)).trans p1; go_simp; try with_reducible rfl)
              try simp only [Act.put, List.setIfInBounds_toArray, List.set_cons_zero, List.set_cons_succ]
              refine rb_take 5 (some 62) (v := ?_) rfl rfl (by kernel_rfl) (by kernel_rfl) (by kernel_rfl) (by kernel_rfl) ?_ ?_
              rotate_left
              focus (intro w' hw'; go_simp; try with_reducible rfl)
              try simp only [Act.put, List.setIfInBounds_toArray, List.set_cons_zero, List.set_cons_succ]
              refine rb_take 6 (some 63) (v := ?_) rfl rfl (by kernel_rfl) (by kernel_rfl) (by kernel_rfl) (by kernel_rfl) ?_ ?_
              rotate_left
              focus (intro w' hw'; go_simp; try with_reducible rfl)
              try simp only [Act.put, List.setIfInBounds_toArray, List.set_cons_zero, List.set_cons_succ]
              refine rb_take 8 (some 65) (v := ?_) rfl rfl (by kernel_rfl) (by kernel_rfl) (by kernel_rfl) (by kernel_rfl) ?_ ?_
              rotate_left
              focus (intro w' hw'; go_simp; try with_reducible rfl)
              try simp only [Act.put, List.setIfInBounds_toArray, List.set_cons_zero, List.set_cons_succ]
              refine rb_take 9 (some 66) (v := ?_) rfl rfl (by kernel_rfl) (by kernel_rfl) (by kernel_rfl) (by kernel_rfl) ?_ ?_
              rotate_left
              focus (intro w' hw'; go_simp; try with_reducible rfl)
              try simp only [Act.put, List.setIfInBounds_toArray, List.set_cons_zero, List.set_cons_succ]
              refine rb_take 10 (some 67) (v := ?_) rfl rfl (by kernel_rfl) (by kernel_rfl) (by kernel_rfl) (by kernel_rfl) ?_ ?_
              rotate_left
              focus (intro w' hw'; go_simp; try with_reducible rfl)
              try simp only [Act.put, List.setIfInBounds_toArray, List.set_cons_zero, List.set_cons_succ]
              refine rb_take 11 (some 68) (v := ?_) rfl rfl (by kernel_rfl) (by kernel_rfl) (by kernel_rfl) (by kernel_rfl) ?_ ?_
              rotate_left
              focus (intro w' hw'; have q := (hw'.cell (p := ⟨b0, o0 + j, none⟩) (by simp; omega)).trans p0; go_simp; try with_reducible rfl)
              try simp only [Act.put, List.setIfInBounds_toArray, List.set_cons_zero, List.set_cons_succ]
              refine rb_take 12 (some 69) (v := ?_) rfl rfl (by kernel_rfl) (by kernel_rfl) (by kernel_rfl) (by kernel_rfl) ?_ ?_
              rotate_left
              focus (intro w' hw'; go_simp; try with_reducible rfl)
              try simp only [Act.put, List.setIfInBounds_toArray, List.set_cons_zero, List.set_cons_succ]
              refine rb_take 13 (some 70) (v := ?_) rfl rfl (by kernel_rfl) (by kernel_rfl) (by kernel_rfl) (by kernel_rfl) ?_ ?_
              rotate_left
              focus (intro w' hw'; go_simp; try with_reducible rfl)
              try simp only [Act.put, List.setIfInBounds_toArray, List.set_cons_zero, List.set_cons_succ]
              refine rb_take 14 (some 71) (v := ?_) rfl rfl (by kernel_rfl) (by kernel_rfl) (by kernel_rfl) (by kernel_rfl) ?_ ?_
              rotate_left
              focus (intro w' hw'; go_simp; try with_reducible rfl)
              try simp only [Act.put, List.setIfInBounds_toArray, List.set_cons_zero, List.set_cons_succ]
              refine rb_take 15 (some 72) (v := ?_) rfl rfl (by kernel_rfl) (by kernel_rfl) (by kernel_rfl) (by kernel_rfl) ?_ ?_
              rotate_left
              focus (intro w' hw'; have q := (hw'.cell (p := ⟨b1, o1 + j, none⟩) (by simp; omega)).trans p1; go_simp; try with_reducible rfl)
              try simp only [Act.put, List.setIfInBounds_toArray, List.set_cons_zero, List.set_cons_succ]
              refine rb_take 16 (some 73) (v := ?_) rfl rfl (by kernel_rfl) (by kernel_rfl) (by kernel_rfl) (by kernel_rfl) ?_ ?_
              rotate_left
              focus (intro w' hw'; go_simp; try with_reducible rfl)
              try simp only [Act.put, List.setIfInBounds_toArray, List.set_cons_zero, List.set_cons_succ]
              refine rb_take 17 (some 74) (v := ?_) rfl rfl (by kernel_rfl) (by kernel_rfl) (by kernel_rfl) (by kernel_rfl) ?_ ?_
              rotate_left
              focus (intro w' hw'; go_simp; try with_reducible rfl)
              try simp only [Act.put, List.setIfInBounds_toArray, List.set_cons_zero, List.set_cons_succ]
              refine rb_keep 7 rfl (by kernel_rfl) (by kernel_rfl) (by assumption) (fun K hK => ?_)
              go_simp
              rw [H9.out]
              refine (num_ok g _ false (nth s j % 9) _ hrx HL.out.1 HL.out.2 (by omega)).mono ?_
              rintro e w2 ⟨rfl, hr2, hm2⟩
              rw [HT1.out]
              rw [HT2.out] at hr2
              have hbd2 := hm2.below hBwx
              have hb2 := hbx.trans (hbd2.mono hgw)
              refine hK.out _ _ hbd2 ?_
              clear hK K
              have hB2 : g ≤ w2.heap.size := Nat.le_trans hBwx hbd2.size
              try simp only [Act.put, List.setIfInBounds_toArray, List.set_cons_zero, List.set_cons_succ]
              refine rb_keep 18 rfl (by kernel_rfl) (by kernel_rfl) (by assumption) (fun K hK => ?_)
              go_simp
              first | rw [H9.out] | rw [show ((nth s j : Nat) : Int) % 9 = ((nth s j % 9 : Nat) : Int) by omega]
              refine (ref_bytes_c (nth l j) _ (nth s j % 9) _ hU (by omega)).mono ?_
              rintro e w3 ⟨g3, rfl, hg3, hA3, hb3, hy3⟩
              have hr3 := hr2.below hb3
              have hbw := hb2.trans (hb3.mono hb2.size)
              refine hK.out _ _ (hb3.mono hB2) ?_
              clear hK K
              have hB3 : g ≤ w3.heap.size := Nat.le_trans hB2 hb3.size
              try simp only [Act.put, List.setIfInBounds_toArray, List.set_cons_zero, List.set_cons_succ]
              refine rb_keep 19 rfl (by kernel_rfl) (by kernel_rfl) (by assumption) (fun K hK => ?_)
              go_simp
              refine (ref_num_c (some ⟨g3, 0, none⟩) (be (nth l j) (nth s j % 9)).length (be (nth l j) (nth s j % 9)) w3 w3.heap.size (BView.of_arr hy3 hA3.out hA3.out.lt) (by rw [be_length]; omega)).mono ?_
              rintro e w4 ⟨rfl, rfl⟩
              refine hK.out _ _ (Below.refl _ _) ?_
              clear hK K
              try simp only [Act.put, List.setIfInBounds_toArray, List.set_cons_zero, List.set_cons_succ]
              refine rb_take 20 (some 77) (v := ?_) rfl rfl (by kernel_rfl) (by kernel_rfl) (by kernel_rfl) (by kernel_rfl) ?_ ?_
              rotate_left
              focus (intro w' hw'; go_simp; try with_reducible rfl)
              try simp only [Act.put, List.setIfInBounds_toArray, List.set_cons_zero, List.set_cons_succ]
              refine rb_done (by assumption) (by kernel_rfl) ?_
              go_wp2
              go_roundw
              case rel => exact ⟨j + 1, by omega, by go_num, hr3, hbw⟩
              case measure => (simp [intOf] <;> omega)
            · obtain rfl : j = k := by omega
              go_wp2_with fail
              rw [List.drop_length] at hr
              refine (left_c g [] false _ hr).mono ?_
              rintro e w4 ⟨rfl, rfl⟩
              go_wp2_with fail
              refine (bad_c g [] false _ hr).mono ?_
              rintro e w4 ⟨rfl, rfl⟩
              go_wp2_with fail
              refine (octet_awake_c _).mono ?_
              rintro e w5 ⟨rfl, hb5⟩
              go_wp2
              go_ret
              exact ⟨rfl, hbel.trans (hb5.mono hbel.size)⟩
      · go_wp2_with fail
        refine (read_c A c (cat l s k) _ hv (by omega)).mono ?_
        rintro e wq ⟨g, rfl, hg, hr, hbel2⟩
        have hgw : w.heap.size ≤ g := Nat.le_trans hbel.size hg
        have hgb := hbel.trans (hbel2.mono hbel.size)
        have hglt := hr.lt
        clear hbel hbel2 hv hg
        go_wp2_with fail
        go_loopw [8] (fun i wr => ∃ j : Nat, j ≤ k ∧ i = .int .i64 (j : Int) ∧ RdrAt wr g ((cat l s k).drop (cat l s j).length) false ∧ Below w.heap.size w wr) (fun i _ => k - (intOf i).toNat)
        case atStart => exact ⟨0, Nat.zero_le _, rfl, hr, hgb⟩
        case round =>
          rename_i wr
          clear hr hgb hglt
          obtain ⟨j, hj, rfl, hr, hbel⟩ := hrel
          by_cases hlt : j < k
          · obtain ⟨b0, o0, rfl, hb0, hcell0⟩ := (hv0.below hbel) (by intro e; rw [List.map_eq_nil_iff] at e; subst e; simp at hml; omega)
            have q0 := hcell0 j (u64v (nth l j)) (by rw [List.getElem?_map, nth_get (by omega)]; rfl)
            obtain ⟨b1, o1, rfl, hb1, hcell1⟩ := (hv1.below hbel).at_ (show j < s.length by omega)
            have q1 := hcell1 j (by omega)
            have hs9 := nth_lt hv1.bytes j
            have hU : U64 (nth l j) := hl _ (by rw [show nth l j = l[j] by unfold nth; rw [List.getD_eq_getElem?_getD, List.getElem?_eq_getElem (by omega)]; rfl]; exact List.getElem_mem _)
            rw [cat_drop l s j k hlt] at hr
            have hlen : (be (nth l j) (nth s j % 9)).length = nth s j % 9 := be_length _ _
            have hcl := cat_len l s k
            have hlen2 : (be (nth l j) (nth s j % 9) ++ (cat l s k).drop (cat l s (j + 1)).length).length ≤ 1000000 := by
              rw [List.length_append, hlen, List.length_drop]; omega
            have HT1 := Lib.hid (show (be (nth l j) (nth s j % 9) ++ (cat l s k).drop (cat l s (j + 1)).length).take (nth s j % 9) = be (nth l j) (nth s j % 9) from List.take_left' hlen)
            have HT2 := Lib.hid (show (be (nth l j) (nth s j % 9) ++ (cat l s k).drop (cat l s (j + 1)).length).drop (nth s j % 9) = (cat l s k).drop (cat l s (j + 1)).length from List.drop_left' hlen)
            have hlen1 : nth s j % 9 ≤ (be (nth l j) (nth s j % 9) ++ (cat l s k).drop (cat l s (j + 1)).length).length := by rw [List.length_append, hlen]; omega
            have hx0 : (0 : Int) ≤ (j : Int) := by omega
            have hx1 : (j : Int) < (l.length : Int) := by omega
            have hx2 : (j : Int) < (s.length : Int) := by omega
            have hx3 : (j : Int) < 50 := by omega
            have hgr := hr.lt
            have hgr' : g ≤ wr.heap.size := Nat.le_of_lt hgr
            unfold u64v at q0
            have H9 := Lib.hid (size9 (nth s j) hs9)
            have HL := Lib.hid (And.intro hlen1 hlen2)
            clear hcell0 hcell1 hlen hlen1 hlen2
            go_wp2_with fail
            refine rb_start_at (g) (by assumption) (by kernel_rfl) (fun wx hwx hBwx => ?_)
            have hrx := hr.below hwx
            have hbx := hbel.trans (hwx.mono hbel.size)
            have p0 := (hwx.cell (p := ⟨b0, o0 + j, none⟩) (by have := hbel.size; simp; omega)).trans q0
            have p1 := (hwx.cell (p := ⟨b1, o1 + j, none⟩) (by have := hbel.size; simp; omega)).trans q1
            refine rb_take 0 (some 57) (v := ?_) rfl rfl (by kernel_rfl) (by kernel_rfl) (by kernel_rfl) (by kernel_rfl) ?_ ?_
            rotate_left
            focus (intro w' hw'; go_simp; try with_reducible rfl)
            try simp only [Act.put, List.setIfInBounds_toArray, List.set_cons_zero, List.set_cons_succ]
            refine rb_take 1 (some 58) (v := ?_) rfl rfl (by kernel_rfl) (by kernel_rfl) (by kernel_rfl) (by kernel_rfl) ?_ ?_
            rotate_left
            focus (intro w' hw'; go_simp; try with_reducible rfl)
            try simp only [Act.put, List.setIfInBounds_toArray, List.set_cons_zero, List.set_cons_succ]
            refine rb_take 2 (some 59) (v := ?_) rfl rfl (by kernel_rfl) (by kernel_rfl) (by kernel_rfl) (by kernel_rfl) ?_ ?_
            rotate_left
            focus (intro w' hw'; go_simp; try with_reducible rfl)
            try simp only [Act.put, List.setIfInBounds_toArray, List.set_cons_zero, List.set_cons_succ]
            refine rb_take 3 (some 60) (v := ?_) rfl rfl (by kernel_rfl) (by kernel_rfl) (by kernel_rfl) (by kernel_rfl) ?_ ?_
            rotate_left
            focus (intro w' hw'; go_simp; try with_reducible rfl)
            try simp only [Act.put, List.setIfInBounds_toArray, List.set_cons_zero, List.set_cons_succ]
            refine rb_take 4 (some 61) (v := ?_) rfl rfl (by kernel_rfl) (by kernel_rfl) (by kernel_rfl) (by kernel_rfl) ?_ ?_
            rotate_left
            focus (intro w' hw'; have q := (hw'.cell (p := ⟨b1, o1 + j, none⟩) (by simp; omega)).trans p1; go_simp; try with_reducible rfl)
            try simp only [Act.put, List.setIfInBounds_toArray, List.set_cons_zero, List.set_cons_succ]
            refine rb_take 5 (some 62) (v := ?_) rfl rfl (by kernel_rfl) (by kernel_rfl) (by kernel_rfl) (by kernel_rfl) ?_ ?_
            rotate_left
            focus (intro w' hw'; go_simp; try with_reducible rfl)
            try simp only [Act.put, List.setIfInBounds_toArray, List.set_cons_zero, List.set_cons_succ]
            refine rb_take 6 (some 63) (v := ?_) rfl rfl (by kernel_rfl) (by kernel_rfl) (by kernel_rfl) (by kernel_rfl) ?_ ?_
            rotate_left
            focus (intro w' hw'; go_simp; try with_reducible rfl)
            try simp only [Act.put, List.setIfInBounds_toArray, List.set_cons_zero, List.set_cons_succ]
            refine rb_take 8 (some 65) (v := ?_) rfl rfl (by kernel_rfl) (by kernel_rfl) (by kernel_rfl) (by kernel_rfl) ?_ ?_
            rotate_left
            focus (intro w' hw'; go_simp; try with_reducible rfl)
            try simp only [Act.put, List.setIfInBounds_toArray, List.set_cons_zero, List.set_cons_succ]
            refine rb_take 9 (some 66) (v := ?_) rfl rfl (by kernel_rfl) (by kernel_rfl) (by kernel_rfl) (by kernel_rfl) ?_ ?_
            rotate_left
            focus (intro w' hw'; go_simp; try with_reducible rfl)
            try simp only [Act.put, List.setIfInBounds_toArray, List.set_cons_zero, List.set_cons_succ]
            refine rb_take 10 (some 67) (v := ?_) rfl rfl (by kernel_rfl) (by kernel_rfl) (by kernel_rfl) (by kernel_rfl) ?_ ?_
            rotate_left
            focus (intro w' hw'; go_simp; try with_reducible rfl)
            try simp only [Act.put, List.setIfInBounds_toArray, List.set_cons_zero, List.set_cons_succ]
            refine rb_take 11 (some 68) (v := ?_) rfl rfl (by kernel_rfl) (by kernel_rfl) (by kernel_rfl) (by kernel_rfl) ?_ ?_
            rotate_left
            focus (intro w' hw'; have q := (hw'.cell (p := ⟨b0, o0 + j, none⟩) (by simp; omega)).trans p0; go_simp; try with_reducible rfl)
            try simp only [Act.put, List.setIfInBounds_toArray, List.set_cons_zero, List.set_cons_succ]
            refine rb_take 12 (some 69) (v := ?_) rfl rfl (by kernel_rfl) (by kernel_rfl) (by kernel_rfl) (by kernel_rfl) ?_ ?_
            rotate_left
            focus (intro w' hw'; go_simp; try with_reducible rfl)
            try simp only [Act.put, List.setIfInBounds_toArray, List.set_cons_zero, List.set_cons_succ]
            refine rb_take 13 (some 70) (v := ?_) rfl rfl (by kernel_rfl) (by kernel_rfl) (by kernel_rfl) (by kernel_rfl) ?_ ?_
            rotate_left
            focus (intro w' hw'; go_simp; try with_reducible rfl)
            try simp only [Act.put, List.setIfInBounds_toArray, List.set_cons_zero, List.set_cons_succ]
            refine rb_take 14 (some 71) (v := ?_) rfl rfl (by kernel_rfl) (by kernel_rfl) (by kernel_rfl) (by kernel_rfl) ?_ ?_
            rotate_left
            focus (intro w' hw'; go_simp; try with_reducible rfl)
            try simp only [Act.put, List.setIfInBounds_toArray, List.set_cons_zero, List.set_cons_succ]
            refine rb_take 15 (some 72) (v := ?_) rfl rfl (by kernel_rfl) (by kernel_rfl) (by kernel_rfl) (by kernel_rfl) ?_ ?_
            rotate_left
            focus (intro w' hw'; have q := (hw'.cell (p := ⟨b1, o1 + j, none⟩) (by simp; omega)).trans p1; go_simp; try with_reducible rfl)
            try simp only [Act.put, List.setIfInBounds_toArray, List.set_cons_zero, List.set_cons_succ]
            refine rb_take 16 (some 73) (v := ?_) rfl rfl (by kernel_rfl) (by kernel_rfl) (by kernel_rfl) (by kernel_rfl) ?_ ?_
            rotate_left
            focus (intro w' hw'; go_simp; try with_reducible rfl)
            try simp only [Act.put, List.setIfInBounds_toArray, List.set_cons_zero, List.set_cons_succ]
            refine rb_take 17 (some 74) (v := ?_) rfl rfl (by kernel_rfl) (by kernel_rfl) (by kernel_rfl) (by kernel_rfl) ?_ ?_
            rotate_left
            focus (intro w' hw'; go_simp; try with_reducible rfl)
            try simp only [Act.put, List.setIfInBounds_toArray, List.set_cons_zero, List.set_cons_succ]
            refine rb_keep 7 rfl (by kernel_rfl) (by kernel_rfl) (by assumption) (fun K hK => ?_)
            go_simp
            rw [H9.out]
            refine (num_ok g _ false (nth s j % 9) _ hrx HL.out.1 HL.out.2 (by omega)).mono ?_
            rintro e w2 ⟨rfl, hr2, hm2⟩
            rw [HT1.out]
            rw [HT2.out] at hr2
            have hbd2 := hm2.below hBwx
            have hb2 := hbx.trans (hbd2.mono hgw)
            refine hK.out _ _ hbd2 ?_
            clear hK K
            have hB2 : g ≤ w2.heap.size := Nat.le_trans hBwx hbd2.size
            try simp only [Act.put, List.setIfInBounds_toArray, List.set_cons_zero, List.set_cons_succ]
            refine rb_keep 18 rfl (by kernel_rfl) (by kernel_rfl) (by assumption) (fun K hK => ?_)
            go_simp
            first | rw [H9.out] | rw [show ((nth s j : Nat) : Int) % 9 = ((nth s j % 9 : Nat) : Int) by omega]
            refine (ref_bytes_c (nth l j) _ (nth s j % 9) _ hU (by omega)).mono ?_
            rintro e w3 ⟨g3, rfl, hg3, hA3, hb3, hy3⟩
            have hr3 := hr2.below hb3
            have hbw := hb2.trans (hb3.mono hb2.size)
            refine hK.out _ _ (hb3.mono hB2) ?_
            clear hK K
            have hB3 : g ≤ w3.heap.size := Nat.le_trans hB2 hb3.size
            try simp only [Act.put, List.setIfInBounds_toArray, List.set_cons_zero, List.set_cons_succ]
            refine rb_keep 19 rfl (by kernel_rfl) (by kernel_rfl) (by assumption) (fun K hK => ?_)
            go_simp
            refine (ref_num_c (some ⟨g3, 0, none⟩) (be (nth l j) (nth s j % 9)).length (be (nth l j) (nth s j % 9)) w3 w3.heap.size (BView.of_arr hy3 hA3.out hA3.out.lt) (by rw [be_length]; omega)).mono ?_
            rintro e w4 ⟨rfl, rfl⟩
            refine hK.out _ _ (Below.refl _ _) ?_
            clear hK K
            try simp only [Act.put, List.setIfInBounds_toArray, List.set_cons_zero, List.set_cons_succ]
            refine rb_take 20 (some 77) (v := ?_) rfl rfl (by kernel_rfl) (by kernel_rfl) (by kernel_rfl) (by kernel_rfl) ?_ ?_
            rotate_left
            focus (intro w' hw'; go_simp; try with_reducible rfl)
            try simp only [Act.put, List.setIfInBounds_toArray, List.set_cons_zero, List.set_cons_succ]
            refine rb_done (by assumption) (by kernel_rfl) ?_
            go_wp2
            go_roundw
            case rel => exact ⟨j + 1, by omega, by go_num, hr3, hbw⟩
            case measure => (simp [intOf] <;> omega)
          · obtain rfl : j = k := by omega
            go_wp2_with fail
            rw [List.drop_length] at hr
            refine (left_c g [] false _ hr).mono ?_
            rintro e w4 ⟨rfl, rfl⟩
            go_wp2_with fail
            refine (bad_c g [] false _ hr).mono ?_
            rintro e w4 ⟨rfl, rfl⟩
            go_wp2_with fail
            refine (octet_awake_c _).mono ?_
            rintro e w5 ⟨rfl, hb5⟩
            go_wp2
            go_ret
            exact ⟨rfl, hbel.trans (hb5.mono hbel.size)⟩

theorem walk (A0 : Option Addr) (n0 c0 : Nat) (l : List Nat) (A1 : Option Addr) (n1 c1 : Nat) (s : List Nat) (w : World)
    (w0 : l.length = n0 ∧ (A0 = none → c0 = 0) ∧ (∀ x ∈ l, U64 x) ∧ View w w.heap.size A0 (l.map u64v) ∧ n0 ≤ c0) (w1 : s.length = n1 ∧ (A1 = none → c1 = 0) ∧ BView w w.heap.size A1 s ∧ n1 ≤ c1) :
    Calls Try.prog 4 #[.slice A0 n0 c0, .slice A1 n1 c1] w fun e w' => e = .returned (.bool true) ∧ Below w.heap.size w w' :=
  walk_ A0 A1 n0 n1 c0 c1 l s w w0.1 w1.1 w0.2.2.1 w0.2.2.2.1 w1.2.2.1
end Go.Proofs.Ytaaincffbaaopaa.OctetBack
