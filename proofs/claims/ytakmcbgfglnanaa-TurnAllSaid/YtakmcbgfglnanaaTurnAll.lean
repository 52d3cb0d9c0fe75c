
/- Proved: TurnAll returns true for all candidates and any number of picks ahead, and changes no memory that was there. Conditions: none. -/
import Derived.Test.YtakmcbgfglnanaaTurnAwake
namespace Go.Proofs.Ytakmcbgfglnanaa.TurnAll
open Go.RowKit

theorem boolinfo : (Try.prog.info? 4).map (fun i => (i.zero, i.size, i.bytes)) = some (some (.bool false), 1, 1) := by kernel_rfl
def PickAny (w : World) (g : Nat) (e : Ending) (w' : World) : Prop := ∃ v next, e = .returned v ∧ TurnAt w' g next ∧ 0 ≤ next ∧ next ≤ 4096 ∧ Mod g w w'
theorem pick_any_c (g : Nat) (A : Option Addr) (c : Nat) (l : List Cd) (next : Int) (w : World) (hv : View w w.heap.size A (cdsV l)) (hn : l.length ≤ 1000000) (hT : TurnAt w g next)
    (hs : ∀ j, j < l.length → 0 ≤ (cdAt l j).slot ∧ (cdAt l j).slot ≤ 4095) (hx : 0 ≤ next ∧ next ≤ 4096) :
    Calls Try.prog 21 #[.pointer (some ⟨g, 0, none⟩), .slice A l.length c] w (PickAny w g) := by
  by_cases h0 : 0 < l.length
  · refine (turn_pick_c g A c l next w hv hn h0 hT hs hx).mono ?_
    rintro e w' ⟨rfl, h1, h2⟩
    have := hs _ (pickN_lt l next h0)
    exact ⟨_, _, rfl, h1, by omega, by omega, h2⟩
  · have e0 : l.length = 0 := by omega
    rw [e0]
    refine (turn_pick_none_c g A c w).mono ?_
    rintro e w' ⟨rfl, h1⟩
    exact ⟨_, _, rfl, hT.below h1, hx.1, hx.2, Mod.of_below h1⟩

theorem seen_put {w : World} {g : Nat} {S : Nat → Bool} (h : Arr w g 4 (seenV S)) (s : Nat) : Arr (w.setCell ⟨g, s, none⟩ (.bool true)) g 4 (seenV fun i => if i = s then true else S i) := by
  have := h.set_ s (.bool true)
  rw [seenV_set] at this
  exact this

set_option maxRecDepth 100000 in
set_option maxHeartbeats 1000000 in
theorem walk_ (A : Option Addr) (c : Nat) (l : List Cd) (a : Nat) (w : World) (hv : View w w.heap.size A (cdsV l)) (hc : l.length ≤ c) (hcm : c ≤ maxLen) (ha : a < 256) :
    Calls Try.prog 16 #[.slice A l.length c, .int .u8 (a : Int)] w fun e w' => e = .returned (.bool true) ∧ Below w.heap.size w w' := by
  unfold maxLen at hcm
  by_cases hlong : 70 < l.length
  · have h1 : (70 : Int) < (l.length : Int) := by omega
    go_enter Try.func16, Try.ntmps16
    go_wp2_with fail
    refine (turn_awake_c _).mono ?_
    rintro e w1 ⟨rfl, hb1⟩
    go_wp2
    go_ret
    exact ⟨rfl, hb1⟩
  have h1 : ¬ (70 : Int) < (l.length : Int) := by omega
  have ha1 : (0 : Int) ≤ (a : Int) ∧ (a : Int) < 256 := by omega
  cases hR : rightB (-1) l with
  | false =>
    have HR := Lib.hid hR
    clear hR
    go_enter Try.func16, Try.ntmps16
    go_wp2_with fail
    refine (ref_right_c A c l w w.heap.size hv (by omega)).mono ?_
    rintro e w1 ⟨rfl, rfl⟩
    rw [HR.out]
    go_wp2_with fail
    refine (turn_awake_c _).mono ?_
    rintro e w1 ⟨rfl, hb1⟩
    go_wp2
    go_ret
    exact ⟨rfl, hb1⟩
  | true =>
    have hrise := Lib.hid (rising_of l hR)
    have HR := Lib.hid hR
    clear hR
    have hw1 : Below w.heap.size w (w.alloc (.cells #[.int .i64 0] 26)) := (Below.refl _ _).alloc (Nat.le_refl _) _
    have hT0 : TurnAt (w.alloc (.cells #[.int .i64 0] 26)) w.heap.size 0 := hid_arr (Arr.new w 26 [.int .i64 0])
    have hv0 := Lib.hid ((hv.below hw1).more hw1.size)
    go_enter Try.func16, Try.ntmps16
    go_wp2_with fail
    refine (ref_right_c A c l w w.heap.size hv (by omega)).mono ?_
    rintro e w1 ⟨rfl, rfl⟩
    rw [HR.out]
    go_wp2_with fail
    refine (to_c A c l _ hv0.out (by omega)).mono ?_
    rintro e w1 ⟨A1, c1, rfl, hc1, hv1, hA1, hb1⟩
    have hT1 := hT0.below hb1
    have hb2 := hw1.trans (hb1.mono hw1.size)
    have HA1 := Lib.hid (show ∀ a, A1 = some a → a.block ≠ w.heap.size from fun a ha => by have := hA1 a ha; simp at this; omega)
    clear hv0 hT0 hw1 hb1 hA1
    go_wp2_with fail
    go_loopw [7] (fun i wr => ∃ (k : Nat) (next : Int), k ≤ 80 ∧ i = .int .i64 (k : Int) ∧ TurnAt wr w.heap.size next ∧ 0 ≤ next ∧ next ≤ 4096 ∧ Hid (View wr wr.heap.size A1 (cdsV l)) ∧ Below w.heap.size w wr) (fun i _ => 80 - (intOf i).toNat)
    case atStart => exact ⟨0, 0, by omega, rfl, hT1, by omega, by omega, Lib.hid hv1, hb2⟩
    case round =>
      rename_i wr
      obtain ⟨k, next, hk, rfl, hT, hx0, hx1, hvx, hbel⟩ := hrel
      clear hT1 hv1 hb2
      by_cases hlt : (k : Int) < (a : Int) % 80
      · go_wp2_with fail
        refine (pick_any_c w.heap.size A1 c1 l next wr hvx.out (by omega) hT hrise.out.1 ⟨hx0, hx1⟩).mono ?_
        rintro e w3 ⟨v, nx, rfl, hT3, hn0, hn1, hM3⟩
        have hv3 := Lib.hid ((hvx.out.mod hM3 HA1.out (Nat.le_refl _)).more hM3.size)
        have hb3 := Below.mod hbel hM3 (Nat.le_refl _) hbel.size
        go_wp2_with fail
        go_roundw
        case rel => exact ⟨k + 1, nx, by omega, by go_num, hT3, hn0, hn1, hv3, hb3⟩
        case measure => (simp [intOf] <;> omega)
      · go_wp2_with (first
          | (at_make; refine wp_make1 _ rfl _ _ _ rfl 4 (.bool false) 1 rfl Try.underlying135 boolinfo _ _ _ _ 4096 rfl rfl (by omega) (by omega) (by omega) (by unfold maxLen; omega) ?_; intro gs w4 hg hg1 hA hb4))
        have hgg : w.heap.size < gs := by have := hT.lt; omega
        have hgw := hbel.size
        rw [seenV_zero] at hA
        have hA4 : Hid (Arr w4 gs 4 (seenV fun _ => false)) := hA
        have hT4 : TurnAt w4 w.heap.size next := hT.below hb4
        have hb5 := hbel.trans (hb4.mono hbel.size)
        have hv4 := Lib.hid ((hvx.out.below hb4).more hg)
        obtain ⟨p, HP⟩ : ∃ p, Hid (p = pickN l next) := ⟨_, Lib.hid rfl⟩
        clear hA hT hvx hbel hb4 hlt
        go_loopw [9] (fun i wr => ∃ (k : Nat) (nx : Int) (S : Nat → Bool), k ≤ l.length ∧ i = .int .i64 (k : Int) ∧ Hid (Arr wr gs 4 (seenV S)) ∧ Hid (SeenI l p k S) ∧ TurnAt wr w.heap.size nx ∧ 0 ≤ nx ∧ nx ≤ 4096 ∧ Hid (k < l.length → pickN l nx = (p + k) % l.length) ∧ Hid (View wr gs A1 (cdsV l)) ∧ Below w.heap.size w wr) (fun i _ => l.length - (intOf i).toNat)
        case atStart => exact ⟨0, next, _, Nat.zero_le _, rfl, hA4, SeenI.start _ _, hT4, hx0, hx1, Lib.hid (fun h => by rw [HP.out, Nat.add_zero, Nat.mod_eq_of_lt (pickN_lt l next h)]), hv4, hb5⟩
        case round =>
          obtain ⟨k, nx, S, hk, rfl, hS, hI, hT, hy0, hy1, hpk, hvx, hbel⟩ := hrel
          clear hA4 hT4 hv4 hb5
          by_cases hlt : k < l.length
          · have hk0 : (k : Int) < (l.length : Int) := by omega
            obtain ⟨j, HJ⟩ : ∃ j, Hid (pickN l nx = j ∧ j = (p + k) % l.length ∧ j < l.length) := ⟨_, Lib.hid ⟨rfl, hpk.out hlt, pickN_lt l nx (by omega)⟩⟩
            have hbs := hrise.out.1 j HJ.out.2.2
            obtain ⟨ch, HC⟩ : ∃ ch, Hid (cdAt l j = ch) := ⟨_, Lib.hid rfl⟩
            rw [HC.out] at hbs
            obtain ⟨s, sb, sw, sl⟩ := ch
            obtain ⟨hs0, hs1⟩ := hbs
            simp only at hs0 hs1
            obtain ⟨s, rfl⟩ := Int.eq_ofNat_of_zero_le hs0
            have hslot : (s : Int) = (cdAt l ((p + k) % l.length)).slot := by rw [← HJ.out.2.1, HC.out]
            have hfr := hI.out.fresh hrise.out hlt hslot
            have HI2 := Lib.hid (hI.out.step hslot)
            have HN2 := Lib.hid (show k + 1 < l.length → pickN l ((s : Int) + 1) = (p + (k + 1)) % l.length from fun _ => by
              have := pickN_next hrise.out HJ.out.2.2
              rw [HC.out] at this
              rw [show (s : Int) + 1 = (⟨(s : Int), sb, sw, sl⟩ : Cd).slot + 1 from rfl, this, HJ.out.2.1, mod_step, Nat.add_assoc])
            clear hslot hI hpk
            go_wp2_with fail
            refine (turn_pick_c w.heap.size A1 c1 l nx _ (hvx.out.more (Nat.le_of_lt hS.out.lt)) (by omega) (by omega) hT hrise.out.1 ⟨hy0, hy1⟩).mono ?_
            rintro e w5 ⟨rfl, hT5, hM5⟩
            rw [HJ.out.1, HC.out] at hT5 ⊢
            simp only [Cd.agg] at hT5 ⊢
            have hb6 := Below.mod hbel hM5 (Nat.le_refl _) hbel.size
            have hv5 := hvx.out.mod hM5 HA1.out (Nat.le_of_lt hS.out.lt)
            have hS5 := hM5.arr hS.out (by omega)
            have hS6 := hid_arr (hS5.alloc (.cells #[.int .i64 (s : Int), .int .i64 sb, .int .i64 sw, .int .u32 sl] 34))
            have hT6 : TurnAt (w5.alloc (.cells #[.int .i64 (s : Int), .int .i64 sb, .int .i64 sw, .int .u32 sl] 34)) w.heap.size ((s : Int) + 1) := hT5.below ((Below.refl _ _).alloc (Nat.le_refl _) _)
            have hsl : gs < w5.heap.size := hS5.lt
            have hv6 : View (w5.alloc (.cells #[.int .i64 (s : Int), .int .i64 sb, .int .i64 sw, .int .u32 sl] 34)) gs A1 (cdsV l) := hv5.alloc (Nat.le_of_lt hsl) _
            have hv6h := Lib.hid hv6
            have hb7 : Below w.heap.size w (w5.alloc (.cells #[.int .i64 (s : Int), .int .i64 sb, .int .i64 sw, .int .u32 sl] 34)) := hb6.alloc hb6.size _
            have cs := hS6.out.cell s
            rw [seenV_get S s (by omega), hfr] at cs
            have cf := hS6.out.frozen s
            have hs2 : (0 : Int) ≤ (s : Int) := by omega
            have hs3 : (s : Int) < 4096 := by omega
            have hS7 := hid_arr hS5
            have hv7 := Lib.hid hv5
            clear hv6 hv5 hS5 hfr hT hS hvx
            go_wp2_with fail
            go_roundw
            case rel => exact ⟨k + 1, (s : Int) + 1, _, by omega, by go_num, hid_arr ((seen_put hS7.out s).alloc _), HI2, hid_arr ((hT5.out.far (by simp; omega) _).alloc _), by omega, by omega, HN2, Lib.hid ((hv7.out.setCell (Nat.le_refl _) _).alloc (by simp [World.setCell]; omega) _), (hb6.setCell (by simp; omega) _).alloc (by have := hb6.size; simp [World.setCell]; omega) _⟩
            case measure => (simp [intOf] <;> omega)
          · go_wp2_with fail
            refine (turn_awake_c _).mono ?_
            rintro e w7 ⟨rfl, hb7⟩
            go_wp2
            go_ret
            exact ⟨rfl, hbel.trans (hb7.mono hbel.size)⟩

open Go.ChangeShapes Go.WideShapes Go.ChangeAt in
set_option maxRecDepth 100000 in
theorem walk {H : Type} {enc : TypeId × Value → H} {r : Reach} {b0 : Nat} {d : DataW H} {ps : List MemPlace} (v : Value) (a : Int) (w : World)
    (hval : Value.okWide Try.prog w r b0 27 v) (hd : DataW.Trod enc Try.prog w 0 (fun _ => true) true 27 v d ps) (hlt : ∀ x ∈ ps, x.block < w.heap.size)
    (ha : 0 ≤ a ∧ a < 256) :
    Calls Try.prog 16 #[v, .int .u8 a] w fun e w' => e = .returned (.bool true) ∧ Below w.heap.size w w' := by
  obtain ⟨A, c, l, rfl, _, hc, hcm, hv, _⟩ := open_cands hval hd hlt
  obtain ⟨a, rfl⟩ := Int.eq_ofNat_of_zero_le ha.1
  exact walk_ A c l a w hv hc hcm (by omega)
end Go.Proofs.Ytakmcbgfglnanaa.TurnAll
