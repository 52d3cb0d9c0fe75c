/- sum's functions and their references by contracts: checksums as integers modulo 65535. Conditions: the arguments fit their kinds. -/
import Derived.Test.YtaaincffbaaopaaMath
import Derived.Test.YtaaincffbaaopaaMem
import Derived.Test.YtaaincffbaaopaaRowsB
import Derived.Test.YtaaincffbaaopaaTypes
import Derived.Test.YtaaincffbaaopaaProg
import Derived.KernelRfl
namespace Go.Proofs.Ytaaincffbaaopaa
open Go.RowKit

/-- n folded to 16 bits: 0 for 0 alone, else 1 to 65535. -/
def foldN (n : Int) : Int := if n = 0 then 0 else (n - 1) % 65535 + 1
theorem foldN_step (m : Int) (h : 65535 < m) : foldN (m % 65536 + m / 65536) = foldN m := by
  unfold foldN; rw [if_neg (by omega), if_neg (by omega)]; omega
theorem foldN_small (m : Int) (h0 : 0 ≤ m) (h : m ≤ 65535) : foldN m = m := by unfold foldN; split <;> omega
theorem foldN_bd (m : Int) : 0 ≤ foldN m ∧ foldN m ≤ 65535 := by unfold foldN; split <;> omega
theorem and16 (m : Int) (h0 : 0 ≤ m) (h : m < 18446744073709551616) : bits .and .u64 m 65535 = m % 65536 := by
  rw [u64_and m 65535 h0 h (by omega) (by omega), show (65535 : Int).toNat = 65535 from rfl, nat_mask16]; omega

theorem fold_c (n : Int) (w : World) (hn : 0 ≤ n ∧ n < 9223372036854775807) :
    Calls Try.prog 59 #[.int .u64 n] w fun e w' => e = .returned (.int .u16 (foldN n)) ∧ w = w' := by
  go_enter Try.func59, Try.ntmps59
  go_wp2
  go_loop [0] (fun v => ∃ m : Int, v = .int .u64 m ∧ 0 ≤ m ∧ m < 9223372036854775807 ∧ Hid (foldN m = foldN n)) (fun v => (intOf v).toNat)
  case atStart => exact ⟨n, rfl, hn.1, hn.2, rfl⟩
  case round =>
    obtain ⟨m, rfl, h0, h1, hm⟩ := hrel
    have hb := and16 m h0 (by omega)
    by_cases hlt : 65535 < m
    · go_wp2
      go_round
      case rel => exact ⟨m % 65536 + m / 65536, rfl, by omega, by omega, (foldN_step m hlt).trans hm.out⟩
      case measure => (simp [intOf] <;> omega)
    · go_wp2
      go_ret
      refine ⟨ret_int ?_, rfl⟩
      rw [← hm.out, foldN_small m h0 (by omega)]

def updN (s a b : Int) : Int := 65535 - foldN (65535 - s + (65535 - a) + b)
theorem updN_bd (s a b : Int) : 0 ≤ updN s a b ∧ updN s a b < 65536 := by have := foldN_bd (65535 - s + (65535 - a) + b); unfold updN; omega

theorem xor_ones (n x : Nat) (h : x < 2 ^ n) : (2 ^ n - 1) ^^^ x = 2 ^ n - 1 - x := by
  have h1 : (BitVec.allOnes n ^^^ BitVec.ofNat n x).toNat = (2 ^ n - 1) ^^^ x := by
    rw [BitVec.toNat_xor, BitVec.toNat_allOnes, BitVec.toNat_ofNat, Nat.mod_eq_of_lt h]
  rw [← h1, BitVec.allOnes_xor, BitVec.toNat_not, BitVec.toNat_ofNat, Nat.mod_eq_of_lt h]
theorem not16 (s : Int) (h : 0 ≤ s ∧ s < 65536) : bits BinOp.xor IntKind.u16 (if IntKind.u16.signed = true then -1 else IntKind.u16.max) s = 65535 - s := by
  have e : (if IntKind.u16.signed = true then (-1 : Int) else IntKind.u16.max) = 65535 := by decide
  rw [e, u16_xor 65535 s (by omega) (by omega) h.1 h.2, show (65535 : Int).toNat = 2 ^ 16 - 1 from rfl, xor_ones 16 s.toNat (by omega)]
  omega

theorem update_c (s a b : Int) (w : World) (hs : 0 ≤ s ∧ s < 65536) (ha : 0 ≤ a ∧ a < 65536) (hb : 0 ≤ b ∧ b < 65536) :
    Calls Try.prog 29 #[.int .u16 s, .int .u16 a, .int .u16 b] w fun e w' => e = .returned (.int .u16 (updN s a b)) ∧ w = w' := by
  have hbd := foldN_bd (65535 - s + (65535 - a) + b)
  have h1 := not16 s hs
  have h2 := not16 a ha
  have h3 := not16 (foldN (65535 - s + (65535 - a) + b)) (by omega)
  go_enter Try.func29, Try.ntmps29
  go_wp2_with (go_at_call 59; refine (fold_c _ _ (by omega)).mono ?_; rintro e w' ⟨rfl, rfl⟩)
  go_ret
  exact ⟨ret_int (by unfold updN; first | rfl | omega), rfl⟩

theorem updateLong_c (s a b : Int) (w : World) (hs : 0 ≤ s ∧ s < 65536) (ha : 0 ≤ a ∧ a < 4294967296) (hb : 0 ≤ b ∧ b < 4294967296) :
    Calls Try.prog 30 #[.int .u16 s, .int .u32 a, .int .u32 b] w fun e w' => e = .returned (.int .u16 (updN (updN s (a / 65536) (b / 65536)) (a % 65536) (b % 65536))) ∧ w = w' := by
  have hbd := updN_bd s (a / 65536) (b / 65536)
  have e1 : IntKind.u16.wrap a = a % 65536 := IntKind.wrap_u16 a
  have e2 : IntKind.u16.wrap b = b % 65536 := IntKind.wrap_u16 b
  go_enter Try.func30, Try.ntmps30
  go_wp2_with (go_at_call 29; refine (update_c _ _ _ _ (by omega) (by omega) (by omega)).mono ?_; rintro e w' ⟨rfl, rfl⟩)
  go_ret
  exact ⟨rfl, rfl⟩

def plusN (a b : Int) : Int := if 65535 < a + b then a + b - 65535 else a + b
theorem plus_c (a b : Int) (w : World) (ha : 0 ≤ a) (hb : 0 ≤ b) (hab : a + b < 4294967296) :
    Calls Try.prog 58 #[.int .u32 a, .int .u32 b] w fun e w' => e = .returned (.int .u32 (plusN a b)) ∧ w = w' := by
  by_cases h : 65535 < a + b
  · go_enter Try.func58, Try.ntmps58
    go_wp2
    go_ret
    exact ⟨ret_int (by unfold plusN; rw [if_pos h]), rfl⟩
  · go_enter Try.func58, Try.ntmps58
    go_wp2
    go_ret
    exact ⟨ret_int (by unfold plusN; rw [if_neg (by omega)]), rfl⟩

theorem upd_plus (s a b : Int) (hs : 0 ≤ s ∧ s < 65536) (ha : 0 ≤ a ∧ a < 65536) (hb : 0 ≤ b ∧ b < 65536) : 65535 - plusN (plusN (65535 - s) (65535 - a)) b = updN s a b := by
  unfold updN foldN plusN
  (repeat' split) <;> omega
theorem plusN_bd (a b : Int) (ha : 0 ≤ a ∧ a < 65536) (hb : 0 ≤ b ∧ b < 65536) : 0 ≤ plusN a b ∧ plusN a b < 65536 := by unfold plusN; split <;> omega
theorem plusN_fold (x b : Int) (hx : 0 ≤ x) (hb : 0 ≤ b ∧ b < 65536) : plusN (foldN x) b = foldN (x + b) := by
  unfold plusN foldN
  (repeat' split) <;> omega

theorem ref_update_c (s a b : Int) (w : World) (hs : 0 ≤ s ∧ s < 65536) (ha : 0 ≤ a ∧ a < 65536) (hb : 0 ≤ b ∧ b < 65536) :
    Calls Try.prog 28 #[.int .u16 s, .int .u16 a, .int .u16 b] w fun e w' => e = .returned (.int .u16 (updN s a b)) ∧ w = w' := by
  have h1 := plusN_bd (65535 - s) (65535 - a) (by omega) (by omega)
  have h2 := plusN_bd (plusN (65535 - s) (65535 - a)) b (by omega) (by omega)
  go_enter Try.func28, Try.ntmps28
  go_wp2_with (go_at_call 58; refine (plus_c _ _ _ (by omega) (by omega) (by omega)).mono ?_; rintro e w' ⟨rfl, rfl⟩)
  go_ret
  exact ⟨ret_int (by rw [← upd_plus s a b hs ha hb]), rfl⟩

/-- The words of l up to place k, added up. -/
def psum (l : List Nat) : Nat → Int
  | 0 => 0
  | k + 1 => psum l k + (if k % 2 = 0 then 256 * (nth l k : Int) else (nth l k : Int))
def psumAll (l : List Nat) : Int := psum l l.length
theorem psum_bd {l : List Nat} (h : Bytes l) (k : Nat) : 0 ≤ psum l k ∧ psum l k ≤ 65280 * k := by
  induction k with
  | zero => simp [psum]
  | succ k ih =>
    have := nth_lt h k
    unfold psum
    split <;> omega
/-- The parts of a sum, added up. -/
def psums (rows : List (Option Addr × List Nat × Nat)) : Int := (rows.map fun r => psumAll r.2.1).sum
theorem psums_snoc (rows : List (Option Addr × List Nat × Nat)) (k : Nat) (r) (h : rows[k]? = some r) : psums (rows.take (k + 1)) = psums (rows.take k) + psumAll r.2.1 := by
  have hk : k < rows.length := by
    rcases Nat.lt_or_ge k rows.length with h1 | h1
    · exact h1
    · rw [List.getElem?_eq_none h1] at h; cases h
  rw [List.getElem?_eq_getElem hk] at h
  injection h with h
  rw [List.take_succ_eq_append_getElem hk, h]
  simp [psums]
theorem psums_bd {w B} {rows : List (Option Addr × List Nat × Nat)} (hr : Rows_ w B rows) (k : Nat) (hk : k ≤ rows.length) : 0 ≤ psums (rows.take k) ∧ psums (rows.take k) ≤ 65280 * (joined (rows.take k)).length := by
  induction k with
  | zero => simp [psums, joined]
  | succ k ih =>
    have hr1 := List.getElem?_eq_getElem (show k < rows.length by omega)
    have h2 := psum_bd (hr _ (List.mem_of_getElem? hr1)).1.1 rows[k].2.1.length
    have h3 := ih (by omega)
    rw [psums_snoc _ _ _ hr1, joined_snoc _ _ _ hr1]
    simp only [List.length_append, psumAll]
    omega

theorem psum_le_len {l : List Nat} (h : Bytes l) : 0 ≤ psumAll l ∧ psumAll l ≤ 65280 * l.length := psum_bd h _
theorem nth_set (l : List Nat) (i x j : Nat) (hi : i < l.length) : nth (l.set i x) j = if j = i then x else nth l j := by
  unfold nth
  rw [List.getD_eq_getElem?_getD, List.getD_eq_getElem?_getD, List.getElem?_set]
  by_cases h : i = j
  · subst h; simp [hi]
  · rw [if_neg h, if_neg (fun e => h e.symm)]
theorem psum_set (l : List Nat) (i x : Nat) (hi : i < l.length) (k : Nat) : psum (l.set i x) k = psum l k + (if i < k then (if i % 2 = 0 then 256 * ((x : Int) - nth l i) else ((x : Int) - nth l i)) else 0) := by
  induction k with
  | zero => simp [psum]
  | succ k ih =>
    unfold psum
    rw [ih, nth_set l i x k hi]
    by_cases h1 : k = i
    · subst h1
      simp only [if_true, Nat.lt_irrefl, if_false, Nat.lt_succ_self]
      split <;> omega
    · simp only [if_neg h1]
      by_cases h2 : i < k
      · simp only [if_pos h2, if_pos (show i < k + 1 by omega)]; omega
      · simp only [if_neg h2, if_neg (show ¬ i < k + 1 by omega)]; omega
/-- A word of bytes is replaced. -/
theorem psum_word (l : List Nat) (i x y : Nat) (hi : i + 1 < l.length) (he : i % 2 = 0) : psumAll ((l.set i x).set (i + 1) y) = psumAll l - (256 * nth l i + nth l (i + 1)) + (256 * x + y) := by
  unfold psumAll
  rw [psum_set _ _ _ (by simpa using hi), psum_set _ _ _ (by omega), nth_set _ _ _ _ (by omega)]
  simp only [List.length_set]
  rw [if_pos (by omega), if_pos he, if_pos (by omega), if_neg (by omega), if_neg (by omega)]
  omega

set_option maxRecDepth 100000 in
theorem ref_of_c (A : Option Addr) (c : Nat) (l : List Nat) (w : World) (B : Nat) (hv : BView w B A l) (hn : l.length ≤ 1000000) :
    Calls Try.prog 33 #[.slice A l.length c] w fun e w' => e = .returned (.int .u16 (65535 - foldN (psumAll l))) ∧ w = w' := by
  go_enter Try.func33, Try.ntmps33
  go_wp2
  go_loop [3, 4] (fun s i => ∃ k : Nat, k ≤ l.length + 1 ∧ k % 2 = 0 ∧ i = .int .i64 (k : Int) ∧ s = .int .u32 (foldN (psum l (min k l.length)))) (fun _ i => l.length + 1 - (intOf i).toNat)
  case atStart => exact ⟨0, Nat.zero_le _, rfl, rfl, by simp [psum, foldN]⟩
  case round =>
    obtain ⟨k, hk, hke, rfl, rfl⟩ := hrel
    have hfb := foldN_bd (psum l (min k l.length))
    have hpb := psum_bd hv.bytes (min k l.length)
    by_cases hlt : k < l.length
    · obtain ⟨b, o, rfl, hb, hcell⟩ := hv.at_ hlt
      have hc1 := hcell k hlt
      have hn1 := nth_lt hv.bytes k
      have hm : min k l.length = k := by omega
      rw [hm] at hfb hpb ⊢
      by_cases hlt2 : k + 1 < l.length
      · have hc2 := hcell (k + 1) hlt2
        have hn2 := nth_lt hv.bytes (k + 1)
        have HP := Lib.hid (show plusN (foldN (psum l k)) (256 * nth l k + nth l (k + 1)) = foldN (psum l (min (k + 2) l.length)) by
          rw [plusN_fold _ _ hpb.1 (by omega), show min (k + 2) l.length = k + 1 + 1 by omega, psum, psum, if_pos hke, if_neg (by omega)]
          congr 1; omega)
        have hlt3 : (k : Int) + 1 < (l.length : Int) := by omega
        clear hcell hm
        go_wp2_with (go_at_call 58; refine (plus_c _ _ _ (by omega) (by omega) (by omega)).mono ?_; rintro e w' ⟨rfl, rfl⟩)
        go_round
        case rel => exact ⟨k + 2, by omega, by omega, by go_num, by rw [← HP.out]; congr 2; omega⟩
        case measure => (simp [intOf] <;> omega)
      · have HP := Lib.hid (show plusN (foldN (psum l k)) (256 * nth l k) = foldN (psum l (min (k + 2) l.length)) by
          rw [plusN_fold _ _ hpb.1 (by omega), show min (k + 2) l.length = k + 1 by omega, psum, if_pos hke])
        have hlt3 : ¬ (k : Int) + 1 < (l.length : Int) := by omega
        clear hcell hm
        go_wp2_with (go_at_call 58; refine (plus_c _ _ _ (by omega) (by omega) (by omega)).mono ?_; rintro e w' ⟨rfl, rfl⟩)
        go_round
        case rel => exact ⟨k + 2, by omega, by omega, by go_num, by rw [← HP.out]; congr 2; omega⟩
        case measure => (simp [intOf] <;> omega)
    · have hm : min k l.length = l.length := by omega
      rw [hm] at hfb ⊢
      clear hm
      go_wp2
      go_ret
      exact ⟨ret_int (by unfold psumAll; first | rfl | omega), rfl⟩

set_option maxRecDepth 100000 in
theorem of_c (A : Option Addr) (c : Nat) (rows : List (Option Addr × List Nat × Nat)) (w : World) (B : Nat) (hv : View w B A (rows.map rowV)) (hr : Rows_ w B rows) (hn : rows.length ≤ 1000000) (ht : (joined rows).length ≤ 1000000) :
    Calls Try.prog 32 #[.slice A rows.length c] w fun e w' => e = .returned (.int .u16 (65535 - foldN (psums rows))) ∧ w = w' := by
  have hb0 := psums_bd hr rows.length (Nat.le_refl _)
  rw [List.take_length] at hb0
  have hf0 := foldN_bd (psums rows)
  have hx0 := not16 (foldN (psums rows)) (by omega)
  have HX := Lib.hid hx0
  clear hx0
  go_enter Try.func32, Try.ntmps32
  go_wp2
  go_loop [3, 10] (fun s i => ∃ k : Nat, k ≤ rows.length ∧ i = .int .i64 (k : Int) ∧ s = .int .u64 (psums (rows.take k))) (fun _ i => rows.length - (intOf i).toNat)
  case atStart => exact ⟨0, Nat.zero_le _, rfl, by simp [psums]⟩
  case round =>
    obtain ⟨k, hk, rfl, rfl⟩ := hrel
    by_cases hlt : k < rows.length
    · obtain ⟨⟨Ak, lk, ck⟩, hrk⟩ : ∃ r, rows[k]? = some r := ⟨_, List.getElem?_eq_getElem hlt⟩
      obtain ⟨b, o, rfl, hb, hcell⟩ := hv (by intro e; rw [List.map_eq_nil_iff] at e; subst e; simp at hlt)
      have hc := hcell k (rowV (Ak, lk, ck)) (by rw [List.getElem?_map, hrk]; rfl)
      unfold rowV at hc
      obtain ⟨hkv, hkc⟩ := hr (Ak, lk, ck) (List.mem_of_getElem? hrk)
      have hj := joined_snoc rows k _ hrk
      have hle := joined_take_le rows (k + 1)
      have hlen : (joined (rows.take (k + 1))).length = (joined (rows.take k)).length + lk.length := by rw [hj]; simp
      have hbk := psums_bd hr k hk
      have hsum : (joined (rows.take k)).length + lk.length ≤ 1000000 := by omega
      have HS := Lib.hid (psums_snoc rows k _ hrk)
      clear hcell hle hj hlen hrk
      generalize psums (rows.take k) = S at hbk HS ⊢
      go_wp2
      go_loop [3, 16] (fun s i => ∃ j : Nat, j ≤ lk.length ∧ i = .int .i64 (j : Int) ∧ s = .int .u64 (S + psum lk j)) (fun _ i => lk.length - (intOf i).toNat)
      case atStart => exact ⟨0, Nat.zero_le _, rfl, by simp [psum]⟩
      case round =>
        obtain ⟨j, hj, rfl, rfl⟩ := hrel
        have hbj := psum_bd hkv.bytes j
        by_cases hltj : j < lk.length
        · obtain ⟨b2, o2, rfl, hb2, hcell2⟩ := hkv.at_ hltj
          have hc2 := hcell2 j hltj
          have hn2 := nth_lt hkv.bytes j
          have HP := Lib.hid (show psum lk (j + 1) = psum lk j + (if j % 2 = 0 then 256 * (nth lk j : Int) else (nth lk j : Int)) from rfl)
          clear hcell2
          generalize psum lk j = T at hbj HP ⊢
          by_cases hev : (j : Int) % 2 = 0
          · go_wp2
            go_round
            case rel => exact ⟨j + 1, by omega, by go_num, by rw [HP.out, if_pos (by omega)]; go_num⟩
            case measure => (simp [intOf] <;> omega)
          · go_wp2
            go_round
            case rel => exact ⟨j + 1, by omega, by go_num, by rw [HP.out, if_neg (by omega)]; go_num⟩
            case measure => (simp [intOf] <;> omega)
        · go_wp2
          go_round
          case rel => exact ⟨k + 1, by omega, by go_num, by rw [HS.out, show j = lk.length by omega]; rfl⟩
          case measure => (simp [intOf] <;> omega)
    · obtain rfl : k = rows.length := by omega
      rw [List.take_length]
      go_wp2_with (go_at_call 59; refine (fold_c _ _ (by omega)).mono ?_; rintro e w' ⟨rfl, rfl⟩)
      go_ret
      exact ⟨ret_int HX.out, rfl⟩

theorem right_c (A : Option Addr) (c : Nat) (rows : List (Option Addr × List Nat × Nat)) (w : World) (B : Nat) (hv : View w B A (rows.map rowV)) (hr : Rows_ w B rows) (hn : rows.length ≤ 1000000) (ht : (joined rows).length ≤ 1000000) (hf : foldN (psums rows) = 65535) :
    Calls Try.prog 34 #[.slice A rows.length c] w fun e w' => e = .returned (.bool true) ∧ w = w' := by
  have HF := Lib.hid hf
  clear hf
  go_enter Try.func34, Try.ntmps34
  go_wp2_with (go_at_call 32; refine (of_c _ _ rows _ B hv hr hn ht).mono ?_; rintro e w' ⟨rfl, rfl⟩; rw [HF.out])
  go_ret
  exact ⟨rfl, rfl⟩

/-- The sum of bytes in one part: for a slice that the call builds around it. -/
theorem one_row (w : World) (A : Option Addr) (l : List Nat) (c : Nat) (hv : BView w w.heap.size A l) (hc : A = none → c = 0) (t : TypeId) :
    View (w.alloc (.cells #[.slice A l.length c] t)) (w.heap.size + 1) (some ⟨w.heap.size, 0, none⟩) ([(A, l, c)].map rowV) ∧ Rows_ (w.alloc (.cells #[.slice A l.length c] t)) (w.heap.size + 1) [(A, l, c)] := by
  refine ⟨(Arr.new w t [.slice A l.length c]).view (by omega), fun r hr => ?_⟩
  rw [List.mem_singleton] at hr
  subst hr
  exact ⟨(hv.below ((Below.refl _ _).alloc (Nat.le_refl _) _)).more (by omega), hc⟩

theorem sum_awake_c (w : World) : Calls Try.prog 27 #[] w fun e w' => e = .returned (.bool true) ∧ Below w.heap.size w w' := by
  obtain ⟨L, hL⟩ : ∃ L, L = [69, 0, 0, 115, 0, 0, 64, 0, 64, 17, 0, 0, 192, 168, 0, 1, 192, 168, 0, 199] := ⟨_, rfl⟩
  have hy : Bytes L := by subst hL; intro x hx; simp at hx; omega
  have hs : 65535 - foldN (psums [(some ⟨w.heap.size, 0, none⟩, L, 20)]) = 47201 := by
    have e : psums [(some ⟨w.heap.size, 0, none⟩, L, 20)] = psumAll L := by simp [psums]
    rw [e]; subst hL; decide
  have hA := BView.of_arr hy (Arr.new w 5 (L.map u8v)) (show w.heap.size < w.heap.size + 1 by omega)
  have hlen : L.length = 20 := by subst hL; rfl
  have h1 := one_row (w.alloc (.cells (L.map u8v).toArray 5)) (some ⟨w.heap.size, 0, none⟩) L 20 (by simpa using hA) (by intro h; cases h) 22
  rw [hlen] at h1
  have hcells : (L.map u8v).toArray = #[.int .u8 69, .int .u8 0, .int .u8 0, .int .u8 115, .int .u8 0, .int .u8 0, .int .u8 64, .int .u8 0, .int .u8 64, .int .u8 17, .int .u8 0, .int .u8 0, .int .u8 192, .int .u8 168, .int .u8 0, .int .u8 1, .int .u8 192, .int .u8 168, .int .u8 0, .int .u8 199] := by subst hL; rfl
  rw [hcells] at h1
  have H1 := Lib.hid h1
  have HS := Lib.hid hs
  have HL := Lib.hid hlen
  clear h1 hs hA hL hcells hlen hy
  go_enter Try.func27, Try.ntmps27
  go_wp2_with (go_at_call 32; refine (of_c _ _ [(some ⟨w.heap.size, 0, none⟩, L, 20)] _ _ (by simpa using H1.out.1) (by simpa using H1.out.2) (by simp) (by simp [joined, HL.out])).mono ?_; rintro e w' ⟨rfl, rfl⟩; rw [HS.out])
  go_ret
  exact ⟨rfl, ((Below.refl _ _).alloc (Nat.le_refl _) _).alloc (by simp) _⟩
end Go.Proofs.Ytaaincffbaaopaa
