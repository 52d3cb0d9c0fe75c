
/- octet's functions and their references by contracts. -/
import Derived.Test.YtgfmjgfeiokcdaaMath
import Derived.Test.YtgfmjgfeiokcdaaMem
import Derived.Test.YtgfmjgfeiokcdaaRowsB
import Derived.Test.YtgfmjgfeiokcdaaTypes
import Derived.Test.YtgfmjgfeiokcdaaProg
import Derived.KernelRfl
import Derived.Deep.Cut
import Derived.Deep.CutRange
import Derived.Deep.DeepCutAuto
import Derived.Deep.RegionHeld3
import Derived.Deep.RegionLaw
namespace Go.Proofs.Ytgfmjgfeiokcdaa.Old
open Go.RowKit


def be (n s : Nat) : List Nat := (List.range s).map fun i => n / 256 ^ (s - 1 - i) % 256
theorem be_length (n s : Nat) : (be n s).length = s := by simp [be]
theorem be_bytes (n s : Nat) : Bytes (be n s) := by
  intro x hx
  obtain ⟨i, _, rfl⟩ := List.mem_map.1 hx
  exact Nat.mod_lt _ (by omega)


/-- A block that is filled from place p on: k of the numbers b are in. -/
def filled (p b : List Nat) (k : Nat) : List Nat := p ++ (b.take k ++ List.replicate (b.length - k) 0)
theorem filled_zero (p b : List Nat) : filled p b 0 = p ++ List.replicate b.length 0 := by simp [filled]
theorem filled_all (p b : List Nat) : filled p b b.length = p ++ b := by simp [filled]
theorem filled_length (p b : List Nat) (k : Nat) (h : k ≤ b.length) : (filled p b k).length = p.length + b.length := by simp [filled]; omega
theorem filled_set (p b : List Nat) (k : Nat) (h : k < b.length) : (filled p b k).set (p.length + k) (nth b k) = filled p b (k + 1) := by
  unfold filled
  rw [List.set_append_right _ _ (by omega), show p.length + k - p.length = k from by omega]
  congr 1
  have h1 : (b.take k).length = k := by simp; omega
  rw [List.set_append_right _ _ (by omega), h1, show k - k = 0 from by omega]
  obtain ⟨m, hm⟩ : ∃ m, b.length - k = m + 1 := ⟨b.length - k - 1, by omega⟩
  rw [hm, List.replicate_succ, List.set_cons_zero, show b.length - (k + 1) = m from by omega]
  rw [List.take_succ_eq_append_getElem h, List.append_assoc]
  congr 1
  have : nth b k = b[k] := by unfold nth; rw [List.getD_eq_getElem?_getD, List.getElem?_eq_getElem h]; rfl
  rw [this]; rfl
theorem map_set_u8v (l : List Nat) (i n : Nat) : (l.map u8v).set i (u8v n) = (l.set i n).map u8v := by rw [List.map_set]

theorem splice_fill (l b : List Nat) (n : Nat) (h : n = b.length) : splice (List.replicate (l.length + n) (Value.int .u8 0)) 0 (l.map u8v) = (filled l b 0).map u8v := by
  subst h
  simp [splice, filled_zero, u8v]
theorem be_nth (N s k : Nat) (h : k < s) : nth (be N s) k = N / 256 ^ (s - 1 - k) % 256 := by
  unfold nth be
  rw [List.getD_eq_getElem?_getD, List.getElem?_map, List.getElem?_range h]; rfl
theorem be_cell (N s k : Nat) (h : k < s) : Value.int .u8 ((N : Int) / 2 ^ (8 * (s - 1 - k)) % 256) = u8v (nth (be N s) k) := by
  rw [be_nth N s k h]
  have e : (2 : Int) ^ (8 * (s - 1 - k)) = ((256 ^ (s - 1 - k) : Nat) : Int) := by
    rw [Int.pow_mul]; simp
  rw [e]
  simp [u8v]
theorem be_put {w : World} {g : Nat} {t : TypeId} {l : List Nat} {N s k : Nat} (h : k < s) (hA : Arr w g t ((filled l (be N s) k).map u8v)) :
    Hid (Arr (w.setCell ⟨g, l.length + k, none⟩ (.int .u8 ((N : Int) / 2 ^ (8 * (s - 1 - k)) % 256))) g t ((filled l (be N s) (k + 1)).map u8v)) := by
  rw [be_cell N s k h, ← filled_set _ _ _ (by rw [be_length]; exact h), ← map_set_u8v]
  exact hA.set_ _ _

set_option maxRecDepth 100000 in
theorem put_c (A : Option Addr) (c : Nat) (l : List Nat) (N : Nat) (s : Int) (sz : Nat) (w : World) (B : Nat) (hv : BView w B A l) (hB : B ≤ w.heap.size) (hl : l.length ≤ 1000000) (hN : U64 N)
    (hs : (s ≤ 0 ∧ sz = 0) ∨ (s = sz ∧ 0 < sz ∧ sz ≤ 8) ∨ (8 < s ∧ sz = 8)) :
    Calls Try.prog 15 #[.slice A l.length c, .int .u64 (N : Int), .int .i64 s] w (Fresh w (l ++ be N sz)) := by
  go_enter Try.func15, Try.ntmps15
  go_upto_region 1 with (fail)
  go_cut [2] (fun s2 wx => s2 = .int .i64 (sz : Int) ∧ w = wx)
  case first =>
    have HS := Lib.hid hs
    clear hs hN hl hB hv
    go_wp2
    all_goals (go_meet; have hs := HS.out; exact ⟨by go_num, rfl⟩)
  case rest =>
    obtain ⟨rfl, rfl⟩ := hcut
    have hz : sz ≤ 8 := by omega
    clear hs
    go_wp2_with (first
      | (at_make; refine wp_make1 _ rfl _ _ _ rfl 5 (.int .u8 0) 1 rfl Try.underlying24 u8info _ _ _ _ (l.length + sz) rfl rfl (by omega) (by omega) (by omega) (by unfold maxLen; omega) ?_; intro g w1 hg hg1 hA hbel)
      | (refine wp_copy1 rfl (.tmp 17) (.tmp 18) _ _ rfl 5 Try.underlying24 u8size _ _ _ _ _ _ rfl rfl g 0 _ 5 hA.out (l.map u8v) (by simp) (by omega) B (hv.below (hbel.mono hB)).view (fun _ => rfl) (by simp) (u8v_one l) w.heap.size w hbel hg ?_; intro w2 hA2 hbel2; clear hA hbel))
    go_loopw [21] (fun i wr => ∃ k : Nat, k ≤ sz ∧ i = .int .i64 (k : Int) ∧ Hid (Arr wr g 5 ((filled l (be N sz) k).map u8v)) ∧ Below w.heap.size w wr) (fun i _ => sz - (intOf i).toNat)
    case atStart => exact ⟨0, Nat.zero_le _, rfl, by rw [← splice_fill _ _ _ (by rw [be_length])]; exact hA2, hbel2⟩
    case round =>
      rename_i wr
      obtain ⟨k, hk, rfl, hA3, hbel3⟩ := hrel
      clear hA2 hbel2
      by_cases hlt : k < sz
      · have hc := hA3.out.cell (l.length + k)
        rw [List.getElem?_map, nth_get (by rw [filled_length _ _ _ (by rw [be_length]; omega), be_length]; omega), Option.map_some] at hc
        have hf := hA3.out.frozen (l.length + k)
        go_wp2
        go_roundw
        case rel => exact ⟨k + 1, by omega, by go_num, be_put hlt hA3.out, hbel3.setCell (by exact hg) _⟩
        case measure => simp [intOf]; omega
      · have hks : k = sz := by omega
        subst hks
        go_wp2
        go_ret
        exact ⟨g, by simp [be_length], hg, by have h := hA3.out; have e := filled_all l (be N k); rw [be_length] at e; rw [e] at h; exact h, hbel3, hv.bytes.append (be_bytes _ _)⟩

/-- A block that is filled from the end: the numbers from k on are in. -/
def filledDown (b : List Nat) (k : Nat) : List Nat := List.replicate k 0 ++ b.drop k
theorem filledDown_zero (b : List Nat) : filledDown b 0 = b := by simp [filledDown]
theorem filledDown_all (b : List Nat) : filledDown b b.length = List.replicate b.length 0 := by simp [filledDown]
theorem filledDown_length (b : List Nat) (k : Nat) (h : k ≤ b.length) : (filledDown b k).length = b.length := by simp [filledDown]; omega
theorem filledDown_set (b : List Nat) (j : Nat) (h : j < b.length) : (filledDown b (j + 1)).set j (nth b j) = filledDown b j := by
  unfold filledDown
  rw [List.set_append_left _ _ (by simp), List.replicate_succ', List.set_append_right _ _ (by simp)]
  simp only [List.length_replicate, Nat.sub_self, List.set_cons_zero, List.append_assoc, List.singleton_append]
  rw [List.drop_eq_getElem_cons h]
  congr 1
  have : nth b j = b[j] := by unfold nth; rw [List.getD_eq_getElem?_getD, List.getElem?_eq_getElem h]; rfl
  rw [this]
theorem be_div (N s j x : Nat) (hN : U64 N) (h : j + 1 ≤ s) (hx : x = N / 256 ^ (s - (j + 1))) : IntKind.u64.wrap ((x : Int) / 256) = ((N / 256 ^ (s - j) : Nat) : Int) := by
  have e : s - j = s - (j + 1) + 1 := by omega
  have h1 : x ≤ N := by rw [hx]; exact Nat.div_le_self _ _
  have h2 := hN.out
  rw [e, Nat.pow_succ, ← Nat.div_div_eq_div_mul, ← hx]
  simp [IntKind.wrap, IntKind.bits, IntKind.signed]
  omega
theorem be_put_down {w : World} {g : Nat} {t : TypeId} {N s j x : Nat} (h : j < s) (hx : x = N / 256 ^ (s - (j + 1))) (hA : Arr w g t ((filledDown (be N s) (j + 1)).map u8v)) :
    Hid (Arr (w.setCell ⟨g, j, none⟩ (.int .u8 ((x : Int) % 256))) g t ((filledDown (be N s) j).map u8v)) := by
  subst hx
  have e : Value.int .u8 (((N / 256 ^ (s - (j + 1)) : Nat) : Int) % 256) = u8v (nth (be N s) j) := by
    rw [be_nth N s j h, show s - 1 - j = s - (j + 1) from by omega]; rfl
  rw [e, ← filledDown_set _ _ (by rw [be_length]; exact h), ← map_set_u8v]
  exact hA.set_ _ _

set_option maxRecDepth 100000 in
theorem ref_bytes_c (N : Nat) (s : Int) (sz : Nat) (w : World) (hN : U64 N)
    (hs : (s ≤ 0 ∧ sz = 0) ∨ (s = sz ∧ 0 < sz ∧ sz ≤ 8) ∨ (8 < s ∧ sz = 8)) :
    Calls Try.prog 19 #[.int .u64 (N : Int), .int .i64 s] w (Fresh w (be N sz)) := by
  have hs : (s < 0 ∧ sz = 0) ∨ (s = sz ∧ sz ≤ 8) ∨ (8 < s ∧ sz = 8) := by omega
  rcases hs with ⟨hs, rfl⟩ | ⟨rfl, hs'⟩ | ⟨hs, rfl⟩
  · go_enter Try.func19, Try.ntmps19
    go_wp2_with (first
      | (at_make; refine wp_make1 _ rfl _ _ _ rfl 5 (.int .u8 0) 1 rfl Try.underlying24 u8info _ _ _ _ 0 rfl rfl (by omega) (by omega) (by omega) (by unfold maxLen; omega) ?_; intro g w1 hg hg1 hA hbel))
    go_loopw [0, 6] (fun n i wr => ∃ k : Nat, k ≤ 0 ∧ i = .int .i64 ((k : Int) - 1) ∧ n = .int .u64 ((N / 256 ^ (0 - k) : Nat) : Int) ∧ Hid (Arr wr g 5 ((filledDown (be N 0) k).map u8v)) ∧ Below w.heap.size w wr) (fun _ i _ => ((intOf i) + 1).toNat)
    case atStart => exact ⟨0, Nat.le_refl _, by go_num, by simp, by have e : filledDown (be N 0) 0 = List.replicate 0 0 := (by have := filledDown_all (be N 0); rwa [be_length] at this); rw [e]; simpa [u8v] using hA, hbel⟩
    case round =>
      rename_i wr
      obtain ⟨k, hk, rfl, rfl, hA3, hbel3⟩ := hrel
      clear hA hbel
      by_cases hlt : 0 < k
      · exact absurd hlt (by omega)
      · obtain rfl : k = 0 := by omega
        go_wp2
        go_ret
        exact ⟨g, by simp [be_length], hg, by have h := hA3.out; rw [filledDown_zero] at h; exact h, hbel3, be_bytes _ _⟩
  · go_enter Try.func19, Try.ntmps19
    go_wp2_with (first
      | (at_make; refine wp_make1 _ rfl _ _ _ rfl 5 (.int .u8 0) 1 rfl Try.underlying24 u8info _ _ _ _ sz rfl rfl (by omega) (by omega) (by omega) (by unfold maxLen; omega) ?_; intro g w1 hg hg1 hA hbel))
    go_loopw [0, 6] (fun n i wr => ∃ k : Nat, k ≤ sz ∧ i = .int .i64 ((k : Int) - 1) ∧ n = .int .u64 ((N / 256 ^ (sz - k) : Nat) : Int) ∧ Hid (Arr wr g 5 ((filledDown (be N sz) k).map u8v)) ∧ Below w.heap.size w wr) (fun _ i _ => ((intOf i) + 1).toNat)
    case atStart => exact ⟨sz, Nat.le_refl _, by go_num, by simp, by have e : filledDown (be N sz) sz = List.replicate sz 0 := (by have := filledDown_all (be N sz); rwa [be_length] at this); rw [e]; simpa [u8v] using hA, hbel⟩
    case round =>
      rename_i wr
      obtain ⟨k, hk, rfl, rfl, hA3, hbel3⟩ := hrel
      clear hA hbel
      by_cases hlt : 0 < k
      · obtain ⟨j, rfl⟩ : ∃ j, k = j + 1 := ⟨k - 1, by omega⟩
        have hc := hA3.out.cell j
        rw [List.getElem?_map, nth_get (by rw [filledDown_length _ _ (by rw [be_length]; omega), be_length]; omega), Option.map_some] at hc
        have hf := hA3.out.frozen j
        have hj : ((((j + 1 : Nat) : Int)) - 1) = (j : Int) := by omega
        obtain ⟨x, hx⟩ : ∃ x, x = N / 256 ^ (sz - (j + 1)) := ⟨_, rfl⟩
        rw [← hx]
        rw [hj]
        have HX := Lib.hid hx
        clear hx hj
        go_wp2
        go_roundw
        case rel => exact ⟨j, by omega, by go_num, congrArg (Value.int .u64) (be_div N sz j x hN (by omega) HX.out), be_put_down (by omega) HX.out hA3.out, hbel3.setCell (by exact hg) _⟩
        case measure => (simp [intOf] <;> omega)
      · obtain rfl : k = 0 := by omega
        go_wp2
        go_ret
        exact ⟨g, by simp [be_length], hg, by have h := hA3.out; rw [filledDown_zero] at h; exact h, hbel3, be_bytes _ _⟩
  · go_enter Try.func19, Try.ntmps19
    go_wp2_with (first
      | (at_make; refine wp_make1 _ rfl _ _ _ rfl 5 (.int .u8 0) 1 rfl Try.underlying24 u8info _ _ _ _ 8 rfl rfl (by omega) (by omega) (by omega) (by unfold maxLen; omega) ?_; intro g w1 hg hg1 hA hbel))
    go_loopw [0, 6] (fun n i wr => ∃ k : Nat, k ≤ 8 ∧ i = .int .i64 ((k : Int) - 1) ∧ n = .int .u64 ((N / 256 ^ (8 - k) : Nat) : Int) ∧ Hid (Arr wr g 5 ((filledDown (be N 8) k).map u8v)) ∧ Below w.heap.size w wr) (fun _ i _ => ((intOf i) + 1).toNat)
    case atStart => exact ⟨8, Nat.le_refl _, by go_num, by simp, by have e : filledDown (be N 8) 8 = List.replicate 8 0 := (by have := filledDown_all (be N 8); rwa [be_length] at this); rw [e]; simpa [u8v] using hA, hbel⟩
    case round =>
      rename_i wr
      obtain ⟨k, hk, rfl, rfl, hA3, hbel3⟩ := hrel
      clear hA hbel
      by_cases hlt : 0 < k
      · obtain ⟨j, rfl⟩ : ∃ j, k = j + 1 := ⟨k - 1, by omega⟩
        have hc := hA3.out.cell j
        rw [List.getElem?_map, nth_get (by rw [filledDown_length _ _ (by rw [be_length]; omega), be_length]; omega), Option.map_some] at hc
        have hf := hA3.out.frozen j
        have hj : ((((j + 1 : Nat) : Int)) - 1) = (j : Int) := by omega
        obtain ⟨x, hx⟩ : ∃ x, x = N / 256 ^ (8 - (j + 1)) := ⟨_, rfl⟩
        rw [← hx]
        rw [hj]
        have HX := Lib.hid hx
        clear hx hj
        go_wp2
        go_roundw
        case rel => exact ⟨j, by omega, by go_num, congrArg (Value.int .u64) (be_div N 8 j x hN (by omega) HX.out), be_put_down (by omega) HX.out hA3.out, hbel3.setCell (by exact hg) _⟩
        case measure => (simp [intOf] <;> omega)
      · obtain rfl : k = 0 := by omega
        go_wp2
        go_ret
        exact ⟨g, by simp [be_length], hg, by have h := hA3.out; rw [filledDown_zero] at h; exact h, hbel3, be_bytes _ _⟩

set_option maxRecDepth 100000 in
theorem join_c (A : Option Addr) (c : Nat) (rows : List (Option Addr × List Nat × Nat)) (w : World) (B : Nat) (hv : View w B A (rows.map rowV)) (hr : Rows_ w B rows) (hB : B ≤ w.heap.size) (hn : rows.length ≤ 1000000) (ht : (joined rows).length ≤ 1000000) :
    Calls Try.prog 18 #[.slice A rows.length c] w (Made w (joined rows)) := by
  go_enter Try.func18, Try.ntmps18
  go_wp2
  go_loopw [3, 4] (fun v i wr => ∃ (k : Nat) (A' : Option Addr) (c' : Nat), k ≤ rows.length ∧ i = .int .i64 (k : Int) ∧ v = .slice A' (joined (rows.take k)).length c' ∧ Hid (Own wr w.heap.size 5 A' (joined (rows.take k)).length c' ((joined (rows.take k)).map u8v)) ∧ Below w.heap.size w wr) (fun _ i _ => rows.length - (intOf i).toNat)
  case atStart => exact ⟨0, none, 0, Nat.zero_le _, rfl, rfl, Own.nil_ _ _ _, Below.refl _ _⟩
  case round =>
    rename_i wr
    obtain ⟨k, A', c', hk, rfl, rfl, hown, hbel⟩ := hrel
    by_cases hlt : k < rows.length
    · obtain ⟨⟨Ak, lk, ck⟩, hrk⟩ : ∃ r, rows[k]? = some r := ⟨_, List.getElem?_eq_getElem hlt⟩
      obtain ⟨b, o, rfl, hb, hcell⟩ := (hv.below (hbel.mono hB)) (by intro e; rw [List.map_eq_nil_iff] at e; subst e; simp at hlt)
      have hc := hcell k (rowV (Ak, lk, ck)) (by rw [List.getElem?_map, hrk]; rfl)
      unfold rowV at hc
      obtain ⟨hkv, hkc⟩ := hr (Ak, lk, ck) (List.mem_of_getElem? hrk)
      have hkv' := hkv.below (hbel.mono hB)
      have hj := joined_snoc rows k _ hrk
      have hle := joined_take_le rows (k + 1)
      have hlen : (joined (rows.take (k + 1))).length = (joined (rows.take k)).length + lk.length := by rw [hj]; simp
      have hsum : (joined (rows.take k)).length + lk.length ≤ 1000000 := by omega
      clear hcell hle
      have HJ := Lib.hid hj
      have HL := Lib.hid hlen
      clear hj hlen hrk
      go_wp2_with (at_builtin; refine wp_append1 rfl _ _ _ rfl w.heap.size 5 (.int .u8 0) 1 rfl Try.underlying24 u8info _ _ _ _ rfl hown.out B _ _ _ _ rfl hkv'.view (by simp) hkc (u8v_one lk) (by unfold maxLen; omega) (by omega) hbel.size w.heap.size w hbel (Nat.le_refl _) ?_; intro A2 c2 w2 hown2 hbel2; clear hc)
      go_roundw
      case rel => exact ⟨k + 1, A2, c2, by omega, by go_num, by rw [HL.out], by rw [HL.out, HJ.out, List.map_append]; exact hown2, hbel2⟩
      case measure => (simp [intOf] <;> omega)
    · have hks : k = rows.length := by omega
      subst hks
      rw [List.take_length] at hown ⊢
      go_wp2
      go_ret
      have hb := hr.bytes rows.length
      rw [List.take_length] at hb
      exact ⟨A', c', rfl, hown.out.cap0, hown.out.bview hb, hbel⟩

/-- b with other bytes from place k on. -/
def setAt (b x : List Nat) (k : Nat) : List Nat := splice b k x
theorem setAt_map (b x : List Nat) (k : Nat) : splice (b.map u8v) k (x.map u8v) = (setAt b x k).map u8v := by simp [setAt, splice]
theorem setAt_nil (b : List Nat) (k : Nat) : setAt b [] k = b := by simp [setAt, splice]
theorem setAt_length (b x : List Nat) (k : Nat) (h : k + x.length ≤ b.length) : (setAt b x k).length = b.length := length_splice _ _ _ h
theorem setAt_bytes {b x : List Nat} {k : Nat} (hb : Bytes b) (hx : Bytes x) : Bytes (setAt b x k) := (hb.take k).append (hx.append (hb.drop _))
theorem setAt_step (b x : List Nat) (k j : Nat) (h : k + x.length ≤ b.length) (hj : j < x.length) : (setAt b (x.take j) k).set (k + j) (nth x j) = setAt b (x.take (j + 1)) k := by
  have hxj : nth x j = x[j] := by unfold nth; rw [List.getD_eq_getElem?_getD, List.getElem?_eq_getElem hj]; rfl
  have h1 : (b.take k).length = k := by simp; omega
  have h2 : (x.take j).length = j := by simp; omega
  have h3 : (x.take (j + 1)).length = j + 1 := by simp; omega
  unfold setAt splice
  rw [h2, h3, List.set_append_right _ _ (by omega), h1, show k + j - k = j from by omega]
  congr 1
  rw [List.set_append_right _ _ (by omega), h2, show j - j = 0 from by omega]
  rw [List.drop_eq_getElem_cons (show k + j < b.length by omega), List.set_cons_zero, List.take_succ_eq_append_getElem hj, List.append_assoc, hxj]
  rfl

/-- Set: b with the low bytes of N from place k on, or the error that they do not lie in it. -/
def SetOK (w : World) (l : List Nat) (e : Ending) (w' : World) : Prop :=
  ∃ A c, e = .returned (.tuple #[.slice A l.length c, .int .i64 0]) ∧ BView w' w'.heap.size A l ∧ Below w.heap.size w w'

end Go.Proofs.Ytgfmjgfeiokcdaa.Old
