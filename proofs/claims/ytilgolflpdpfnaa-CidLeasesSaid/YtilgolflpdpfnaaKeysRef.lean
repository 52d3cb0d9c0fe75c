
/- The reference's Of of siphash by a contract. Conditions: none. -/
import Derived.Test.YtilgolflpdpfnaaKeys
import Derived.Test.YtilgolflpdpfnaaVTake
namespace Go.Proofs.Ytilgolflpdpfnaa.Old
open Go.RowKit

theorem owp_append_any {P : Program} {w : World} {o : Oper} {a : Act} {K : Act → World → Prop} {Q : Exit → Act → World → Prop} (dst : Option Tmp) (hdst : o.dst = dst) (s x : Operand) (t : TypeId)
    (ho : o.op = .call { callee := .builtin .append, args := #[s, x], argTypes := #[t, t] })
    (base : Nat) (e : TypeId) (z : Value) (by_ : Nat) (hz1 : z.cells = #[z]) (ht : P.underlying t = some (.slice e)) (h2 : (P.info? e).map (fun i => (i.zero, i.size, i.bytes)) = some (some z, 1, by_))
    (A : Option Addr) (n c : Nat) (xs : List Value) (hs : a.eval s = .slice A n c) (hown : Own w base e A n c xs)
    (B : Nat) (ad : Addr) (m cx r : Nat) (ys : List Value) (hx : a.eval x = .slice (some ad) m cx) (hv : View w B (some ad) ys) (hm : ys.length = m) (h1 : ∀ u ∈ ys, u.oneCell' = true)
    (h63 : n + m ≤ maxLen) (hbytes : (n + m) * by_ ≤ 140737488355328) (hr : n + m = r) (hbase : base ≤ w.heap.size) (B0 : Nat) (w0 : World) (hb0 : Below B0 w0 w) (hB0 : B0 ≤ base) (hB1 : B0 ≤ w.heap.size)
    (h : ∀ A' c' w', Hid (Own w' base e A' r c' (xs ++ ys)) → Below B0 w0 w' → Below B0 w w' → K (a.put dst (.slice A' r c')) w') : o.wp P a w K Q := by
  subst hdst
  subst hr
  exact owp_append1 s x t ho base e z by_ hz1 ht h2 A n c xs hs hown B ad m cx ys hx hv hm h1 h63 hbytes hbase B0 w0 hb0 hB0 hB1 h

theorem own_arr {w : World} {g base : Nat} {l : List Nat} (n : Nat) (h : Arr w g 5 (l.map u8v)) (hn : l.length = n) (hb : base ≤ g) (hm : n ≤ maxLen) : Own w base 5 (some ⟨g, 0, none⟩) n n (l.map u8v) := by
  refine ⟨by simp [hn], .inr ⟨g, n, (l.map u8v).toArray, rfl, hb, h, Nat.le_refl _, hm, by simp [hn], ?_⟩⟩
  rw [List.toList_toArray]
  exact List.take_of_length_le (by simp [hn])

/-- A key that is filled: k bytes are in. -/
def fillK (l : List Nat) (k : Nat) : List Nat := l.take k ++ List.replicate (16 - k) 0
theorem fillK_length {l : List Nat} {k : Nat} (h : l.length = 16) (hk : k ≤ 16) : (fillK l k).length = 16 := by simp [fillK]; omega
theorem fillK_set {l : List Nat} {k : Nat} (h : l.length = 16) (hk : k < 16) : (fillK l k).set k (nth l k) = fillK l (k + 1) := by
  unfold fillK
  rw [List.set_append_right _ _ (by simp; omega)]
  rw [show k - (l.take k).length = 0 by simp; omega]
  rw [show 16 - k = (16 - (k + 1)) + 1 by omega, List.replicate_succ, List.set_cons_zero]
  rw [show l.take (k + 1) = l.take k ++ [nth l k] from by rw [List.take_add_one, nth_get (by omega)]; rfl]
  simp
theorem fillK_all {l : List Nat} (h : l.length = 16) : fillK l 16 = l := by
  unfold fillK
  rw [List.take_of_length_le (by omega)]
  simp

set_option maxRecDepth 100000 in
theorem ref_of_c (H L : Nat) (w : World) (hH : U64 H) (hL : U64 L) :
    Calls Try.prog 103 #[.int .u64 (H : Int), .int .u64 (L : Int)] w fun e w' => e = .returned (keyV (be H 8 ++ be L 8)) ∧ Below w.heap.size w w' := by
  have hZ1 := Lib.hid ((Arr.new w 64 ((List.replicate 16 0).map u8v)).alloc (.cells ((List.replicate 16 0).map u8v).toArray 64))
  have hZ2 := Lib.hid (arr_new2 w (.cells ((List.replicate 16 0).map u8v).toArray 64) 64 ((List.replicate 16 0).map u8v))
  have hbel := below2 w (.cells ((List.replicate 16 0).map u8v).toArray 64) (.cells ((List.replicate 16 0).map u8v).toArray 64)
  have hs2 : w.heap.size + 1 < ((w.alloc (.cells ((List.replicate 16 0).map u8v).toArray 64)).alloc (.cells ((List.replicate 16 0).map u8v).toArray 64)).heap.size := by simp
  have HH := Lib.hid hH
  have HL := Lib.hid hL
  have h16 : (be H 8 ++ be L 8).length = 16 := by simp [be_length]
  have HF := Lib.hid h16
  clear hH hL h16
  rw [show ((List.replicate 16 0).map u8v).toArray = #[.int .u8 0, .int .u8 0, .int .u8 0, .int .u8 0, .int .u8 0, .int .u8 0, .int .u8 0, .int .u8 0, .int .u8 0, .int .u8 0, .int .u8 0, .int .u8 0, .int .u8 0, .int .u8 0, .int .u8 0, .int .u8 0] from rfl] at hZ1 hZ2 hbel hs2
  go_enter Try.func103, Try.ntmps103
  go_upto_region 2 with (fail)
  generalize (w.alloc (.cells #[.int .u8 0, .int .u8 0, .int .u8 0, .int .u8 0, .int .u8 0, .int .u8 0, .int .u8 0, .int .u8 0, .int .u8 0, .int .u8 0, .int .u8 0, .int .u8 0, .int .u8 0, .int .u8 0, .int .u8 0, .int .u8 0] 64)).alloc (.cells #[.int .u8 0, .int .u8 0, .int .u8 0, .int .u8 0, .int .u8 0, .int .u8 0, .int .u8 0, .int .u8 0, .int .u8 0, .int .u8 0, .int .u8 0, .int .u8 0, .int .u8 0, .int .u8 0, .int .u8 0, .int .u8 0] 64) = w1 at hZ1 hZ2 hbel hs2 ⊢
  go_wp2_with fail
  refine (ref_bytes_c H 8 8 w1 HH.out (.inr (.inl ⟨rfl, by omega, by omega⟩))).mono ?_
  rintro e w2 ⟨g2, rfl, hg2, hA2, hb2, hy2⟩
  rw [be_length]
  go_wp2_with fail
  refine (ref_bytes_c L 8 8 w2 HL.out (.inr (.inl ⟨rfl, by omega, by omega⟩))).mono ?_
  rintro e w3 ⟨g3, rfl, hg3, hA3, hb3, hy3⟩
  rw [be_length]
  have hss2 := hb2.size
  have hss3 := hb3.size
  have hg2l := hA2.out.lt
  have HO := Lib.hid (own_arr 8 (hA2.out.below hb3 hg2l) (be_length _ _) hg2 (by decide))
  have hbx := hb2.trans (hb3.mono hss2)
  have hv3 := Lib.hid (hA3.out.view hA3.out.lt)
  go_wp2_with (at_builtin; (refine wp_append1 rfl _ _ _ rfl w1.heap.size 5 (.int .u8 0) 1 rfl Try.underlying22 u8info _ 8 8 _ rfl HO.out w3.heap.size (some ⟨g3, 0, none⟩) 8 8 ((be L 8).map u8v) rfl hv3.out (by simp [be_length]) (by intro h; cases h) (u8v_one _) (by decide) (by decide) (by omega) w1.heap.size w1 hbx (Nat.le_refl _) ?_); intro A4 c4 w4 hown4 hb4)
  have hv4 : BView w4 w4.heap.size A4 (be H 8 ++ be L 8) := Own.bview (l := be H 8 ++ be L 8) (by rw [List.map_append]; exact hown4.out) (hy2.append hy3)
  have hss4 := hb4.size
  have z1 := hid_arr ((show Arr w1 w.heap.size 64 _ from hZ1.out).below hb4 (by omega))
  have z2 := hid_arr ((show Arr w1 (w.heap.size + 1) 64 _ from hZ2.out).below hb4 (by omega))
  have hbz := hbel.trans (hb4.mono (by omega))
  have HV := Lib.hid hv4
  obtain ⟨bx, ox, rfl, hbx4, hcell⟩ := hv4.at_ (k := 0) (by rw [HF.out]; omega)
  have HCL := Lib.hid hcell
  have hbx5 : w1.heap.size ≤ bx := (World.ownsRow.lt hown4.out bx rfl).1
  clear hv4 hown4 HO hA2 hA3 hv3 hcell
  obtain ⟨F, HFF⟩ : ∃ F, Hid (be H 8 ++ be L 8 = F) := ⟨_, Lib.hid rfl⟩
  rw [HFF.out] at HF HV HCL
  go_loopw [7] (fun i wr => ∃ k : Nat, k ≤ 16 ∧ i = .int .i64 (k : Int) ∧ Hid (Arr wr (w.heap.size + 1) 64 ((fillK F k).map u8v)) ∧ Mod (w.heap.size + 1) w4 wr) (fun i _ => 16 - (intOf i).toNat)
  case atStart => exact ⟨0, by omega, rfl, z2, Mod.refl _ _⟩
  case round =>
    rename World => wr
    obtain ⟨k, hk, rfl, hA, hbr⟩ := hrel
    have hsr := hbr.size
    by_cases hlt : k < 16
    · have hki : (0 : Int) ≤ (k : Int) ∧ (k : Int) < 16 := by omega
      have hne : ¬ bx = w.heap.size + 1 := by omega
      have q0 := (hbr.block bx hbx4 (by intro e; injection e with e; exact hne e))
      have q1 : wr.cell? ⟨bx, ox + k, none⟩ = some (.int .u8 (nth F k : Int)) := (World.cell?_of_block q0).trans (HCL.out k (by rw [HF.out]; exact hlt))
      have q2 := hA.out.cell k
      rw [List.getElem?_map, nth_get (by rw [fillK_length HF.out hk]; exact hlt), Option.map_some] at q2
      have q3 := hA.out.frozen k
      have hA' := hA.out.set_ k (u8v (nth F k))
      rw [map_set_u8v, fillK_set HF.out hlt] at hA'
      have HA' := hid_arr hA'
      clear hA' q0
      go_wp2_with fail
      go_roundw
      case rel => exact ⟨k + 1, by omega, by go_num, HA', hbr.set _ _⟩
      case measure => (simp [intOf] <;> omega)
    · obtain rfl : k = 16 := by omega
      have hA' := hA.out
      rw [fillK_all HF.out] at hA'
      have HA := hid_arr hA'
      have z15 := hid_arr (hbr.arr z1.out (by omega))
      clear hA' hA
      go_upto_region 7 with (fail)
      refine wp_region_list ?_
      refine wp_loadA rfl _ _ rfl (w.heap.size + 1) 64 (F.map u8v) rfl HA.out _ Try.underlying64 rfl (key_size2 HF.out) ?_
      refine wp_storeA rfl _ _ _ rfl w.heap.size 64 (F.map u8v) _ rfl rfl z15.out (key_size2 HF.out) (by rw [List.length_map, List.length_map, HF.out]; rfl) (key_one _) w.heap.size w (Below.mod hbz hbr (by omega) (by omega)) (Nat.le_refl _) ?_
      intro w5 hA5 hb5
      go_wp2_with fail
      refine ret_key2 (g := w.heap.size) rfl hA5.out HF.out rfl rfl ⟨by rw [HFF.out], hb5⟩
end Go.Proofs.Ytilgolflpdpfnaa.Old
