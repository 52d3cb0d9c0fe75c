
/- varint.Put and the reference's Bytes by contracts; what Take makes of such bytes. Conditions: bounds on lengths. -/
import Derived.Test.YtakmcbgfglnanaaVPut
import Derived.Test.YtakmcbgfglnanaaOctet
namespace Go.Proofs.Ytakmcbgfglnanaa
open Go.RowKit

theorem be1 (N : Nat) : be N 1 = [N % 256] := by simp [be, List.range_succ]
theorem be2 (N : Nat) : be N 2 = [N / 256 % 256, N % 256] := by simp [be, List.range_succ]
theorem be4 (N : Nat) : be N 4 = [N / 16777216 % 256, N / 65536 % 256, N / 256 % 256, N % 256] := by simp [be, List.range_succ]
theorem be8 (N : Nat) : be N 8 = [N / 72057594037927936 % 256, N / 281474976710656 % 256, N / 1099511627776 % 256, N / 4294967296 % 256, N / 16777216 % 256, N / 65536 % 256, N / 256 % 256, N % 256] := by simp [be, List.range_succ]

/-- The encoding. -/
def vrow (n s m : Nat) : List Nat := be (m + n) s
theorem vrow_length (n s m : Nat) : (vrow n s m).length = s := be_length _ _

theorem row_mark {n q s m : Nat} (h : VCls n q s m) : (be n s).set 0 (nth (be n s) 0 + q * 64) = vrow n s m ∧ nth (be n s) 0 < 64 := by
  unfold vrow
  rcases h with ⟨h1, rfl, rfl, rfl⟩ | ⟨h0, h1, rfl, rfl, rfl⟩ | ⟨h0, h1, rfl, rfl, rfl⟩ | ⟨h0, h1, rfl, rfl, rfl⟩
  · rw [be1, be1]
    simp [nth]
    omega
  · rw [be2, be2]
    simp [nth]
    omega
  · rw [be4, be4]
    simp [nth]
    omega
  · rw [be8, be8]
    simp [nth]
    omega

theorem row_take {n q s m : Nat} (b : List Nat) (h : VCls n q s m) : VOk (vrow n s m ++ b) ∧ vsz (vrow n s m ++ b) = s ∧ vval (vrow n s m ++ b) = n ∧ (vrow n s m ++ b).drop s = b := by
  have hd : (vrow n s m ++ b).drop s = b := List.drop_left' (vrow_length _ _ _)
  have hl : (vrow n s m ++ b).length = s + b.length := by rw [List.length_append, vrow_length]
  have key : nth (vrow n s m ++ b) 0 / 64 = q ∧ 2 ^ q = s ∧ 0 < s ∧ nth (vrow n s m ++ b) 0 % 64 * 256 ^ (s - 1) + numBE (((vrow n s m ++ b).drop 1).take (s - 1)) = n := by
    unfold vrow
    rcases h with ⟨h1, rfl, rfl, rfl⟩ | ⟨h0, h1, rfl, rfl, rfl⟩ | ⟨h0, h1, rfl, rfl, rfl⟩ | ⟨h0, h1, rfl, rfl, rfl⟩
    · rw [be1]
      simp [nth, numBE]
      omega
    · rw [be2]
      simp [nth, numBE]
      omega
    · rw [be4]
      simp [nth, numBE]
      omega
    · rw [be8]
      simp [nth, numBE]
      omega
  obtain ⟨k1, k2, k3, k4⟩ := key
  have es : vsz (vrow n s m ++ b) = s := by unfold vsz; rw [k1, k2]
  refine ⟨⟨by omega, by omega⟩, es, ?_, hd⟩
  unfold vval
  rw [es, k4]

theorem or_mark {n q s m : Nat} (h : VCls n q s m) : bits .or .u64 (m : Int) (n : Int) = ((m + n : Nat) : Int) ∧ m + n < 18446744073709551616 := by
  have hb : ∃ a k : Nat, m = 2 ^ k * a ∧ n < 2 ^ k := by
    rcases h with ⟨h1, rfl, rfl, rfl⟩ | ⟨h0, h1, rfl, rfl, rfl⟩ | ⟨h0, h1, rfl, rfl, rfl⟩ | ⟨h0, h1, rfl, rfl, rfl⟩
    · exact ⟨0, 6, by omega, by omega⟩
    · exact ⟨1, 14, by omega, by omega⟩
    · exact ⟨2, 30, by omega, by omega⟩
    · exact ⟨3, 62, by omega, by omega⟩
  have hm : m + n < 18446744073709551616 := by unfold VCls at h; omega
  obtain ⟨a, k, e, hk⟩ := hb
  have hj := Nat.two_pow_add_eq_or_of_lt (i := k) (b := n) hk a
  rw [← e] at hj
  refine ⟨?_, hm⟩
  rw [u64_or (m : Int) (n : Int) (by omega) (by omega) (by omega) (by omega)]
  simp only [Int.toNat_natCast]
  rw [← hj]

def FreshE (w : World) (l : List Nat) (e : Ending) (w' : World) : Prop :=
  ∃ g, e = .returned (.tuple #[.slice (some ⟨g, 0, none⟩) l.length l.length, .int .i64 0]) ∧ w.heap.size ≤ g ∧ Hid (Arr w' g 5 (l.map u8v)) ∧ Below w.heap.size w w' ∧ Bytes l

set_option maxRecDepth 100000 in
theorem vPut_c (A : Option Addr) (c : Nat) (l : List Nat) (n q s m : Nat) (w : World) (B : Nat) (hv : BView w B A l) (hB : B ≤ w.heap.size) (hl : l.length ≤ 1000000) (hcl : VCls n q s m) :
    Calls Try.prog 52 #[.slice A l.length c, .int .u64 (n : Int)] w (FreshE w (l ++ vrow n s m)) := by
  have hor := or_mark hcl
  unfold vrow
  obtain ⟨NN, HN⟩ : ∃ N, Hid (m + n = N) := ⟨_, Lib.hid rfl⟩
  rw [HN.out] at hor ⊢
  have HU : U64 NN := hor.2
  have hcl2 := hcl
  rcases hcl2 with ⟨_, rfl, rfl, rfl⟩ | ⟨_, _, rfl, rfl, rfl⟩ | ⟨_, _, rfl, rfl, rfl⟩ | ⟨_, _, rfl, rfl, rfl⟩
  · have HO := Lib.hid (show bits .or .u64 0 (n : Int) = (NN : Int) from hor.1)
    clear hor
    go_enter Try.func52, Try.ntmps52
    go_wp2_with fail
    refine (class_c n 0 1 0 w hcl).mono ?_
    rintro e w1 ⟨rfl, rfl⟩
    clear hcl
    go_wp2_with fail
    refine (vlength_l 0 1 _ (by omega)).mono ?_
    rintro e w1 ⟨rfl, rfl⟩
    go_wp2_with fail
    rw [HO.out]
    refine (put_c A c l NN 1 1 w B hv hB hl HU (.inr (.inl ⟨rfl, by omega, by omega⟩))).mono ?_
    rintro e w2 ⟨g, rfl, hg, hA, hb, hy⟩
    go_wp2_with fail
    go_ret2
    exact ⟨g, by simp, hg, hA, hb, hy⟩
  · have HO := Lib.hid (show bits .or .u64 16384 (n : Int) = (NN : Int) from hor.1)
    clear hor
    go_enter Try.func52, Try.ntmps52
    go_wp2_with fail
    refine (class_c n 1 2 16384 w hcl).mono ?_
    rintro e w1 ⟨rfl, rfl⟩
    clear hcl
    go_wp2_with fail
    refine (vlength_l 1 2 _ (by omega)).mono ?_
    rintro e w1 ⟨rfl, rfl⟩
    go_wp2_with fail
    rw [HO.out]
    refine (put_c A c l NN 2 2 w B hv hB hl HU (.inr (.inl ⟨rfl, by omega, by omega⟩))).mono ?_
    rintro e w2 ⟨g, rfl, hg, hA, hb, hy⟩
    go_wp2_with fail
    go_ret2
    exact ⟨g, by simp, hg, hA, hb, hy⟩
  · have HO := Lib.hid (show bits .or .u64 2147483648 (n : Int) = (NN : Int) from hor.1)
    clear hor
    go_enter Try.func52, Try.ntmps52
    go_wp2_with fail
    refine (class_c n 2 4 2147483648 w hcl).mono ?_
    rintro e w1 ⟨rfl, rfl⟩
    clear hcl
    go_wp2_with fail
    refine (vlength_l 2 4 _ (by omega)).mono ?_
    rintro e w1 ⟨rfl, rfl⟩
    go_wp2_with fail
    rw [HO.out]
    refine (put_c A c l NN 4 4 w B hv hB hl HU (.inr (.inl ⟨rfl, by omega, by omega⟩))).mono ?_
    rintro e w2 ⟨g, rfl, hg, hA, hb, hy⟩
    go_wp2_with fail
    go_ret2
    exact ⟨g, by simp, hg, hA, hb, hy⟩
  · have HO := Lib.hid (show bits .or .u64 13835058055282163712 (n : Int) = (NN : Int) from hor.1)
    clear hor
    go_enter Try.func52, Try.ntmps52
    go_wp2_with fail
    refine (class_c n 3 8 13835058055282163712 w hcl).mono ?_
    rintro e w1 ⟨rfl, rfl⟩
    clear hcl
    go_wp2_with fail
    refine (vlength_l 3 8 _ (by omega)).mono ?_
    rintro e w1 ⟨rfl, rfl⟩
    go_wp2_with fail
    rw [HO.out]
    refine (put_c A c l NN 8 8 w B hv hB hl HU (.inr (.inl ⟨rfl, by omega, by omega⟩))).mono ?_
    rintro e w2 ⟨g, rfl, hg, hA, hb, hy⟩
    go_wp2_with fail
    go_ret2
    exact ⟨g, by simp, hg, hA, hb, hy⟩

theorem vPut_no (A : Option Addr) (c k : Nat) (n : Nat) (w : World) (h : 4611686018427387904 ≤ n) :
    Calls Try.prog 52 #[.slice A k c, .int .u64 (n : Int)] w fun e w' => e = .returned (.tuple #[.slice none 0 0, .int .i64 30]) ∧ w = w' := by
  go_enter Try.func52, Try.ntmps52
  go_wp2_with fail
  refine (class_no n w h).mono ?_
  rintro e w1 ⟨rfl, rfl⟩
  go_wp2_with fail
  go_ret2
  exact ⟨rfl, rfl⟩

theorem ref_vBytes_c (n q s m : Nat) (w : World) (hcl : VCls n q s m) :
    Calls Try.prog 55 #[.int .u64 (n : Int)] w (Fresh w (vrow n s m)) := by
  have hmk := Lib.hid (row_mark hcl)
  obtain ⟨x, HX⟩ : ∃ x, Hid (nth (be n s) 0 = x) := ⟨_, Lib.hid rfl⟩
  have HU := Lib.hid (show U64 n by unfold VCls at hcl; unfold U64; omega)
  have hx : (0 : Int) ≤ (x : Int) ∧ (x : Int) < 64 := by rw [← HX.out]; have := hmk.out; omega
  have h2 := hcl
  have hcl := Lib.hid hcl
  rcases h2 with ⟨_, rfl, rfl, rfl⟩ | ⟨_, _, rfl, rfl, rfl⟩ | ⟨_, _, rfl, rfl, rfl⟩ | ⟨_, _, rfl, rfl, rfl⟩
  · have hb0 := be_length n 1
    go_enter Try.func55, Try.ntmps55
    go_wp2_with fail
    refine (ref_size_c n 0 1 0 w hcl.out).mono ?_
    rintro e w1 ⟨rfl, rfl⟩
    go_wp2_with fail
    refine (ref_bytes_c n 1 1 w HU.out (.inr (.inl ⟨rfl, by omega, by omega⟩))).mono ?_
    rintro e w2 ⟨g, rfl, hg, hA, hb, hy⟩
    rw [hb0]
    have hc := hA.out.cell 0
    rw [List.getElem?_map, nth_get (by rw [hb0]; omega), HX.out, Option.map_some] at hc
    replace hc : w2.cell? ⟨g, 0, none⟩ = some (.int .u8 (x : Int)) := hc
    have hf := hA.out.frozen 0
    clear hb0
    go_wp2_with fail
    go_loop [5] (fun i => i = .int .u8 0) (fun i => 1 - (intOf i).toNat)
    case atStart => rfl
    case round =>
      subst hrel
      go_wp2_with fail
      refine (power_lit 0 1 _ (by decide) (by decide)).mono ?_
      rintro e w' ⟨rfl, rfl⟩
      go_wp2_with fail
      go_ret
      refine ⟨g, by simp [vrow_length], hg, ?_, hb.setCell (by exact hg) _, be_bytes _ _⟩
      have h := hA.out.set_ 0 (u8v (x + 0))
      rw [map_set_u8v, ← HX.out, hmk.out.1, HX.out] at h
      exact Lib.hid h
  · have hb0 := be_length n 2
    go_enter Try.func55, Try.ntmps55
    go_wp2_with fail
    refine (ref_size_c n 1 2 16384 w hcl.out).mono ?_
    rintro e w1 ⟨rfl, rfl⟩
    go_wp2_with fail
    refine (ref_bytes_c n 2 2 w HU.out (.inr (.inl ⟨rfl, by omega, by omega⟩))).mono ?_
    rintro e w2 ⟨g, rfl, hg, hA, hb, hy⟩
    rw [hb0]
    have hc := hA.out.cell 0
    rw [List.getElem?_map, nth_get (by rw [hb0]; omega), HX.out, Option.map_some] at hc
    replace hc : w2.cell? ⟨g, 0, none⟩ = some (.int .u8 (x : Int)) := hc
    have hf := hA.out.frozen 0
    clear hb0
    go_wp2_with fail
    go_loop [5] (fun i => i = .int .u8 0 ∨ i = .int .u8 1) (fun i => 2 - (intOf i).toNat)
    case atStart => exact .inl rfl
    case round =>
      rcases hrel with rfl | rfl
      · go_wp2_with fail
        refine (power_lit 0 1 _ (by decide) (by decide)).mono ?_
        rintro e w' ⟨rfl, rfl⟩
        go_wp2_with fail
        go_round
        case rel => simp
        case measure => simp [intOf]
      · go_wp2_with fail
        refine (power_lit 1 2 _ (by decide) (by decide)).mono ?_
        rintro e w' ⟨rfl, rfl⟩
        go_wp2_with fail
        go_ret
        refine ⟨g, by simp [vrow_length], hg, ?_, hb.setCell (by exact hg) _, be_bytes _ _⟩
        have h := hA.out.set_ 0 (u8v (x + 64))
        rw [map_set_u8v, ← HX.out, hmk.out.1, HX.out] at h
        exact Lib.hid h
  · have hb0 := be_length n 4
    go_enter Try.func55, Try.ntmps55
    go_wp2_with fail
    refine (ref_size_c n 2 4 2147483648 w hcl.out).mono ?_
    rintro e w1 ⟨rfl, rfl⟩
    go_wp2_with fail
    refine (ref_bytes_c n 4 4 w HU.out (.inr (.inl ⟨rfl, by omega, by omega⟩))).mono ?_
    rintro e w2 ⟨g, rfl, hg, hA, hb, hy⟩
    rw [hb0]
    have hc := hA.out.cell 0
    rw [List.getElem?_map, nth_get (by rw [hb0]; omega), HX.out, Option.map_some] at hc
    replace hc : w2.cell? ⟨g, 0, none⟩ = some (.int .u8 (x : Int)) := hc
    have hf := hA.out.frozen 0
    clear hb0
    go_wp2_with fail
    go_loop [5] (fun i => i = .int .u8 0 ∨ i = .int .u8 1 ∨ i = .int .u8 2) (fun i => 3 - (intOf i).toNat)
    case atStart => exact .inl rfl
    case round =>
      rcases hrel with rfl | rfl | rfl
      · go_wp2_with fail
        refine (power_lit 0 1 _ (by decide) (by decide)).mono ?_
        rintro e w' ⟨rfl, rfl⟩
        go_wp2_with fail
        go_round
        case rel => simp
        case measure => simp [intOf]
      · go_wp2_with fail
        refine (power_lit 1 2 _ (by decide) (by decide)).mono ?_
        rintro e w' ⟨rfl, rfl⟩
        go_wp2_with fail
        go_round
        case rel => simp
        case measure => simp [intOf]
      · go_wp2_with fail
        refine (power_lit 2 4 _ (by decide) (by decide)).mono ?_
        rintro e w' ⟨rfl, rfl⟩
        go_wp2_with fail
        go_ret
        refine ⟨g, by simp [vrow_length], hg, ?_, hb.setCell (by exact hg) _, be_bytes _ _⟩
        have h := hA.out.set_ 0 (u8v (x + 128))
        rw [map_set_u8v, ← HX.out, hmk.out.1, HX.out] at h
        exact Lib.hid h
  · have hb0 := be_length n 8
    go_enter Try.func55, Try.ntmps55
    go_wp2_with fail
    refine (ref_size_c n 3 8 13835058055282163712 w hcl.out).mono ?_
    rintro e w1 ⟨rfl, rfl⟩
    go_wp2_with fail
    refine (ref_bytes_c n 8 8 w HU.out (.inr (.inl ⟨rfl, by omega, by omega⟩))).mono ?_
    rintro e w2 ⟨g, rfl, hg, hA, hb, hy⟩
    rw [hb0]
    have hc := hA.out.cell 0
    rw [List.getElem?_map, nth_get (by rw [hb0]; omega), HX.out, Option.map_some] at hc
    replace hc : w2.cell? ⟨g, 0, none⟩ = some (.int .u8 (x : Int)) := hc
    have hf := hA.out.frozen 0
    clear hb0
    go_wp2_with fail
    go_loop [5] (fun i => i = .int .u8 0 ∨ i = .int .u8 1 ∨ i = .int .u8 2 ∨ i = .int .u8 3) (fun i => 4 - (intOf i).toNat)
    case atStart => exact .inl rfl
    case round =>
      rcases hrel with rfl | rfl | rfl | rfl
      · go_wp2_with fail
        refine (power_lit 0 1 _ (by decide) (by decide)).mono ?_
        rintro e w' ⟨rfl, rfl⟩
        go_wp2_with fail
        go_round
        case rel => simp
        case measure => simp [intOf]
      · go_wp2_with fail
        refine (power_lit 1 2 _ (by decide) (by decide)).mono ?_
        rintro e w' ⟨rfl, rfl⟩
        go_wp2_with fail
        go_round
        case rel => simp
        case measure => simp [intOf]
      · go_wp2_with fail
        refine (power_lit 2 4 _ (by decide) (by decide)).mono ?_
        rintro e w' ⟨rfl, rfl⟩
        go_wp2_with fail
        go_round
        case rel => simp
        case measure => simp [intOf]
      · go_wp2_with fail
        refine (power_lit 3 8 _ (by decide) (by decide)).mono ?_
        rintro e w' ⟨rfl, rfl⟩
        go_wp2_with fail
        go_ret
        refine ⟨g, by simp [vrow_length], hg, ?_, hb.setCell (by exact hg) _, be_bytes _ _⟩
        have h := hA.out.set_ 0 (u8v (x + 192))
        rw [map_set_u8v, ← HX.out, hmk.out.1, HX.out] at h
        exact Lib.hid h
end Go.Proofs.Ytakmcbgfglnanaa
