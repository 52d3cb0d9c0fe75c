
/- varint.All by a contract. Conditions: bounds on lengths. -/
import Derived.Test.YtakmcbgfglnanaaVRef
namespace Go.Proofs.Ytakmcbgfglnanaa
open Go.RowKit

/-- What is left behind k integers, and these. -/
def rkN (l : List Nat) : Nat → List Nat
  | 0 => l
  | k + 1 => (rkN l k).drop (vsz (rkN l k))
def mkN (l : List Nat) : Nat → List Nat
  | 0 => []
  | k + 1 => mkN l k ++ [vval (rkN l k)]
theorem mkN_length (l : List Nat) : ∀ k, (mkN l k).length = k
  | 0 => rfl
  | k + 1 => by simp [mkN, mkN_length l k]
theorem vsz_pos (l : List Nat) : 1 ≤ vsz l := Nat.pow_pos (by omega)
theorem rkN_length (l : List Nat) : ∀ k, (∀ j, j < k → VOk (rkN l j)) → (rkN l k).length + k ≤ l.length
  | 0, _ => Nat.le_refl _
  | k + 1, h => by
    have h1 := rkN_length l k (fun j hj => h j (by omega))
    have h2 := h k (by omega)
    have h3 := vsz_pos (rkN l k)
    have h4 := h2.2
    simp only [rkN, List.length_drop]
    omega
def slLen : Value → Nat
  | .slice _ n _ => n
  | _ => 0
theorem u64info' : (Try.prog.info? 40).map (fun i => (i.zero, i.size, i.bytes)) = some (some (.int .u64 0), 1, 8) := by kernel_rfl
def AllPost (w : World) (l : List Nat) (e : Ending) (w' : World) : Prop :=
  ∃ K, (∀ j, j < K → VOk (rkN l j)) ∧ Below w.heap.size w w' ∧
    ((rkN l K = [] ∧ ∃ A c, e = .returned (.tuple #[.slice A K c, .int .i64 0]) ∧ View w' w'.heap.size A ((mkN l K).map u64v)) ∨
     (rkN l K ≠ [] ∧ ¬ VOk (rkN l K) ∧ e = .returned (.tuple #[.slice none 0 0, .int .i64 20])))
theorem RdrAt.below1 {w w' : World} {g : Nat} {l : List Nat} {bad : Bool} (h : RdrAt w g l bad) (hb : Below (g + 1) w w') : RdrAt w' g l bad := by
  obtain ⟨A, c, h1, h2, h3⟩ := h
  exact ⟨A, c, h1, h2.out.below hb (by omega), h3.below (hb.mono (by omega))⟩
theorem u64v_one (l : List Nat) : ∀ v ∈ l.map u64v, v.oneCell' = true := by
  intro v hv
  obtain ⟨n, _, rfl⟩ := List.mem_map.1 hv
  rfl

set_option maxRecDepth 100000 in
set_option maxHeartbeats 1000000 in
theorem vAll_c (A : Option Addr) (c : Nat) (l : List Nat) (w : World) (hv : BView w w.heap.size A l) (hl : l.length ≤ 100000) :
    Calls Try.prog 51 #[.slice A l.length c] w (AllPost w l) := by
  go_enter Try.func51, Try.ntmps51
  go_wp2_with fail
  refine (read_c A c l w hv (by omega)).mono ?_
  rintro e w1 ⟨g, rfl, hg, hr1, hb1⟩
  go_wp2_with fail
  go_loopw [5] (fun v5 wr => ∃ (k : Nat) (A' : Option Addr) (c' : Nat), k ≤ l.length ∧ v5 = .slice A' k c' ∧ Hid (∀ j, j < k → VOk (rkN l j)) ∧ Hid (Own wr (g + 1) 40 A' k c' ((mkN l k).map u64v)) ∧ Hid (RdrAt wr g (rkN l k) false) ∧ Below w.heap.size w wr) (fun v5 _ => l.length - slLen v5)
  case atStart => exact ⟨0, none, 0, Nat.zero_le _, rfl, Lib.hid (fun j hj => absurd hj (by omega)), Own.nil_ _ _ _, hr1, hb1⟩
  case round =>
    rename World => wr
    clear hr1 hb1
    obtain ⟨k, A', c', hk, rfl, hok, hO, hR, hbel⟩ := hrel
    have hlen := rkN_length l k hok.out
    have hgl := hR.out.lt
    have hws := hbel.size
    obtain ⟨n, hn⟩ : ∃ n, (rkN l k).length = n := ⟨_, rfl⟩
    have HN := Lib.hid hn
    rw [hn] at hlen
    clear hn
    go_wp2_with fail
    refine (left_c g (rkN l k) false wr hR.out).mono ?_
    rintro e w2 ⟨rfl, rfl⟩
    rw [HN.out]
    by_cases h0 : 0 < n
    · have h0i : (0 : Int) < (n : Int) := by omega
      go_wp2_with fail
      refine (vtake_any g (rkN l k) _ hR.out (by rw [HN.out]; omega)).mono ?_
      rintro e w3 (⟨hv3, rfl, hr3, hm3⟩ | ⟨hno, x, rfl, hr3, hm3⟩)
      · have hok2 := Lib.hid (show ∀ j, j < k + 1 → VOk (rkN l j) from fun j hj => by
          rcases Nat.lt_or_ge j k with h | h
          · exact hok.out j h
          · obtain rfl : j = k := by omega
            exact hv3)
        have hO3 := Lib.hid (own_keep hO.out hm3 (by intro g' e e2; have := (World.ownsRow.lt hO.out g' (by rw [e]; rfl)).1; injection e2 with e2; omega))
        have hb3 := Below.mod hbel hm3 hg hws
        have hw3 := hm3.size
        have HR3 := Lib.hid hr3
        obtain ⟨y, HY⟩ : ∃ y, Hid (vval (rkN l k) = y) := ⟨_, Lib.hid rfl⟩
        rw [HY.out]
        clear hv3 hr3 hO hR
        go_wp2_with (at_builtin; (refine wp_append1 rfl _ _ _ rfl (g + 1) 40 (.int .u64 0) 8 rfl Try.underlying56 u64info' A' k c' _ rfl (Own.alloc hO3.out _) (w3.heap.size + 1) (some ⟨w3.heap.size, 0, none⟩) 1 1 ([y].map u64v) rfl ((Arr.new w3 40 ([y].map u64v)).view (by simp)) rfl (by intro h; cases h) (u64v_one [y]) (by unfold maxLen; omega) (by omega) (by simp; omega) (g + 1) (w3.alloc (.cells #[.int .u64 (y : Int)] 40)) (Below.refl _ _) (Nat.le_refl _) ?_); intro A5 c5 w5 hown5 hbel5)
        go_roundw
        case rel => exact ⟨k + 1, A5, c5, by omega, rfl, hok2, by have h := hown5.out; rw [← List.map_append, ← HY.out] at h; exact h, Lib.hid ((HR3.out.below ((Below.refl _ _).alloc (Nat.le_refl _) _)).below1 hbel5), (hb3.alloc hb3.size _).trans (hbel5.mono (by omega))⟩
        case measure => simp [slLen]; omega
      · have hb3 := Below.mod hbel hm3 hg hws
        go_wp2
        go_ret2
        exact ⟨k, hok.out, hb3, .inr ⟨by intro e; have := HN.out; rw [e] at this; simp at this; omega, hno, rfl⟩⟩
    · have h0i : ¬ (0 : Int) < (n : Int) := by omega
      go_wp2
      go_ret2
      exact ⟨k, hok.out, hbel, .inl ⟨List.eq_nil_of_length_eq_zero (by rw [HN.out]; omega), A', c', rfl, Own.view hO.out⟩⟩
end Go.Proofs.Ytakmcbgfglnanaa
