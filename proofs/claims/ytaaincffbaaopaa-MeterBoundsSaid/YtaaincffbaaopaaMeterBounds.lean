/- Proved: MeterBounds returns true for every rate, size and list of calls, and changes no memory that was there. Conditions: none. -/
import Derived.Test.YtaaincffbaaopaaMeterMath
import Derived.Test.YtaaincffbaaopaaAppend
import Derived.Test.YtaaincffbaaopaaKit
namespace Go.Proofs.Ytaaincffbaaopaa.MeterBounds
open Go.RowKit

def actV (l : List (Int × Nat × Nat)) : List Value := l.flatMap fun p => [.int .i64 p.1, .int .u64 (p.2.1 : Int), .int .u64 (p.2.2 : Int)]
def Acts (l : List (Int × Nat × Nat)) : Prop := ∀ p ∈ l, U64 p.2.1 ∧ U64 p.2.2
theorem actV_get (l : List (Int × Nat × Nat)) (k : Nat) (p : Int × Nat × Nat) (h : l[k]? = some p) : (actV l)[k * 3 + 1]? = some (.int .u64 (p.2.1 : Int)) ∧ (actV l)[k * 3 + 2]? = some (.int .u64 (p.2.2 : Int)) := by
  induction l generalizing k with
  | nil => simp at h
  | cons q l ih =>
    cases k with
    | zero => simp at h; subst h; simp [actV]
    | succ k =>
      have := ih k (by simpa using h)
      have e : actV (q :: l) = .int .i64 q.1 :: .int .u64 (q.2.1 : Int) :: .int .u64 (q.2.2 : Int) :: actV l := rfl
      rw [e, show (k + 1) * 3 + 1 = k * 3 + 1 + 1 + 1 + 1 from by omega, show (k + 1) * 3 + 2 = k * 3 + 2 + 1 + 1 + 1 from by omega]
      simpa using this

/-- A row of numbers that the law itself has made. -/
def OwnU (w : World) (base : Nat) (A : Option Addr) (c : Nat) (l : List Nat) : Prop := Hid (w.ownsRow base 23 1 (.slice A l.length c) l.length (l.map u64v))

theorem u64info : (Try.prog.info? 23).map (fun i => (i.zero, i.size, i.bytes)) = some (some (.int .u64 0), 1, 8) := by kernel_rfl
theorem row_form {w : World} {base : Nat} {e : TypeId} {size n c : Nat} {A : Option Addr} {l : List Value} (h : w.ownsRow base e size (.slice A n c) n l) :
    A = none ∨ ∃ g, A = some ⟨g, 0, none⟩ ∧ base ≤ g ∧ g < w.heap.size := by
  rcases h.2 with ⟨e0, _⟩ | ⟨g, cap, cur, e0, hb, hg', hr⟩
  · injection e0 with e1; exact .inl e1
  · injection e0 with e1; exact .inr ⟨g, e1, hb, (Array.getElem?_eq_some_iff.1 hg').1⟩
theorem bkt_keep {w w' : World} {g r s l t : Nat} {row : Option Nat} (h : BktAt w g r s l t) (hg : w.grownBy w' row) (hne : some g ≠ row) : BktAt w' g r s l t :=
  hid_arr ((hg.block g h.lt hne).trans h.out)
theorem sep_map {w : World} {base : Nat} {e : TypeId} {size n c : Nat} {At An : Option Addr} {l : List Value} (h : w.ownsRow base e size (.slice At n c) n l) (hsep : ∀ a, At = some a → An = some a → False) (a : Nat)
    (ha : An = some ⟨a, 0, none⟩) : some a ≠ At.map (·.block) := by
  rcases row_form h with rfl | ⟨g, rfl, _, _⟩
  · simp
  · intro e; injection e with e; simp only at e; subst e; exact hsep _ rfl ha
set_option maxRecDepth 100000 in
set_option maxHeartbeats 1000000 in
theorem walk_ (r s : Nat) (A : Option Addr) (n c : Nat) (l : List (Int × Nat × Nat)) (w : World) (hr : r < 65536) (hs : s < 65536) (hn : l.length = n) (hv : View w w.heap.size A (actV l)) (hl : Acts l) :
    Calls Try.prog 13 #[.int .u16 (r : Int), .int .u16 (s : Int), .slice A n c] w fun e w' => e = .returned (.bool true) ∧ Below w.heap.size w w' := by
  subst hn
  have hr1 : (0 : Int) ≤ (r : Int) ∧ (r : Int) < 65536 := by omega
  have hs1 : (0 : Int) ≤ (s : Int) ∧ (s : Int) < 65536 := by omega
  clear hr hs
  go_enter Try.func13, Try.ntmps13
  go_wp2_with fail
  refine (meter_awake_c _).mono ?_
  rintro e w1 ⟨rfl, hbel1⟩
  go_wp2_with fail
  rw [show (s : Int) + 1 = ((s + 1 : Nat) : Int) by omega]
  refine (new_c r (s + 1) w1 (by omega) (by omega) (by omega)).mono ?_
  rintro e w2 ⟨g, rfl, hg, hB, hbel2⟩
  have hbel3 := hbel1.trans (hbel2.mono hbel1.size)
  have hgw : w.heap.size ≤ g := Nat.le_trans hbel1.size hg
  clear hbel1 hbel2 hg
  go_wp2_with fail
  go_loopw [9, 10, 11, 12] (fun v9 v10 v11 v12 wr => ∃ (k x lv : Nat) (At An : Option Addr) (ct cn : Nat) (tl nl : List Nat), k ≤ l.length ∧ k ≤ 40 ∧ nl.length ≤ k ∧ v12 = .int .i64 (k : Int) ∧ v9 = .int .u64 (x : Int) ∧ v10 = .slice At tl.length ct ∧ v11 = .slice An nl.length cn ∧
      x < 100000 ∧ OwnU wr (g + 1) At ct tl ∧ OwnU wr (g + 1) An cn nl ∧ (∀ a, At = some a → An = some a → False) ∧ BktAt wr g r (s + 1) lv x ∧ Hid (MInv r (s + 1) lv x tl nl) ∧ Below w.heap.size w wr) (fun _ _ _ i _ => l.length - (intOf i).toNat)
  case atStart => exact ⟨0, 0, s + 1, none, none, 0, 0, [], [], Nat.zero_le _, by omega, Nat.zero_le _, rfl, rfl, rfl, rfl, by omega, World.ownsRow_nil _ _ _ _, World.ownsRow_nil _ _ _ _, by simp, hB, MInv.start _ _, hbel3⟩
  case round =>
    rename_i wr
    clear hB hbel3
    obtain ⟨k, x, lv, At, An, ct, cn, tl, nl, hk, hk4, hnk, rfl, rfl, rfl, rfl, hx, hot, hon, hsep, hB, hI, hbel⟩ := hrel
    by_cases hlt : k < l.length ∧ k < 40
    · obtain ⟨hlt, hlt4⟩ := hlt
      obtain ⟨⟨p0, p1, p2⟩, hp⟩ : ∃ p, l[k]? = some p := ⟨_, List.getElem?_eq_getElem hlt⟩
      obtain ⟨hg1, hg2⟩ := actV_get l k _ hp
      obtain ⟨b, o, rfl, hb, hcell⟩ := (hv.below hbel) (by intro e; rw [e] at hg1; simp at hg1)
      have hc1 := hcell _ _ hg1
      have hc2 := hcell _ _ hg2
      rw [← Nat.add_assoc] at hc1 hc2
      have hpb := hl _ (List.mem_of_getElem? hp)
      have hk0 : (0 : Int) ≤ (k : Int) := by omega
      have hk1 : (k : Int) < (l.length : Int) := by omega
      have hk2 : (k : Int) < 40 := by omega
      clear hcell hg1 hg2 hp
      go_wp2_with fail
      all_goals (obtain ⟨q, HQ⟩ : ∃ q : Nat, Hid ((p1 : Int) % 100000 = (q : Int) ∧ q < 100000) := ⟨p1 % 100000, Lib.hid (by omega)⟩)
      all_goals have hq1 := HQ.out.2
      · obtain ⟨y, HY⟩ : ∃ y : Nat, Hid ((p2 : Int) % 100000 = (y : Int) ∧ y < 100000 ∧ x ≤ y) := ⟨p2 % 100000, Lib.hid (by omega)⟩
        rw [HY.out.1]
        obtain ⟨hy, hxy⟩ := HY.out.2
        rw [HQ.out.1]
        refine (bkt_take_c g r (s + 1) lv x q y wr hB (by omega) (by omega) hI.out.2.1 (U64.of (by omega)) (U64.of (by omega))).mono ?_
        have hI2 := Lib.hid (hI.out.fill hxy)
        have hle2 := refL_le (r := r) (t := x) (now := y) hI.out.2.1
        obtain ⟨lv2, hlv2⟩ : ∃ v, v = refL r (s + 1) lv x y := ⟨_, rfl⟩
        unfold TakePost
        rw [← hlv2] at hI2 hle2
        rw [← hlv2, show max x y = y by omega]
        clear hlv2 hI hc1 hc2 hpb
        rintro e w3 (⟨_, rfl, hB2, hM2⟩ | ⟨hle, rfl, hB2, hM2⟩)
        · have hot2 := own_keep hot.out hM2 (by intro a ha; have := (World.ownsRow.lt hot.out a (by rw [ha]; rfl)).1; intro e; injection e; omega)
          have hon2 := own_keep hon.out hM2 (by intro a ha; have := (World.ownsRow.lt hon.out a (by rw [ha]; rfl)).1; intro e; injection e; omega)
          have HOT := Lib.hid hot2
          have HON := Lib.hid hon2
          have hbel2 := Below.mod hbel hM2 hgw hbel.size
          clear hot hon hot2 hon2
          go_wp2_with fail
          go_loop [14, 15] (fun v14 v15 => ∃ j : Nat, j ≤ nl.length ∧ v15 = .int .i64 ((j : Int) - 1) ∧ v14 = .int .u64 ((nl.drop j).sum : Int)) (fun _ i => (intOf i + 1).toNat)
          case atStart => exact ⟨nl.length, Nat.le_refl _, by first | go_num | (congr 1; (try have hl9 := HL2.out); omega), by simp⟩
          case round =>
            obtain ⟨j, hj, rfl, rfl⟩ := hrel
            rcases j with _ | m
            · go_wp2_with fail
              go_roundw
              case rel => exact ⟨k + 1, y, lv2, _, _, ct, cn, tl, nl, by omega, by omega, (by omega), by go_num, rfl, rfl, rfl, hy, HOT, HON, hsep, hB2, hI2, hbel2⟩
              case measure => (simp [intOf] <;> omega)
            · have HV := hI2.out
              have hm1 : m < tl.length := by have := HV.1; omega
              obtain ⟨h5, h6⟩ := HV.2.2.2 m (by omega)
              have hds := drop_sum nl m (by omega)
              rw [hds] at h6
              have hnm : nth nl m < 100000 := HV.2.2.1 _ (by unfold nth; rw [List.getD_eq_getElem?_getD, List.getElem?_eq_getElem (by omega)]; exact List.getElem_mem _)
              have hsl := HV.sum_le (m + 1)
              obtain ⟨bt, ot, eqt, hbt, hct⟩ := (Own.view HOT.out) (by intro e; rw [List.map_eq_nil_iff] at e; rw [e] at hm1; simp at hm1)
              obtain ⟨bn, on_, eqn, hbn, hcn⟩ := (Own.view HON.out) (by intro e; rw [List.map_eq_nil_iff] at e; rw [e] at hj; simp at hj)
              have qt := hct m (u64v (nth tl m)) (by rw [List.getElem?_map, nth_get (by omega)]; rfl)
              have qn := hcn m (u64v (nth nl m)) (by rw [List.getElem?_map, nth_get (by omega)]; rfl)
              unfold u64v at qt qn
              first
                | (subst eqt; subst eqn)
                | (injection eqt with e1; injection e1 with e2 e3; subst e2; subst e3
                   injection eqn with e1; injection e1 with e2 e3; subst e2; subst e3)
              try rw [Nat.zero_add] at qt qn
              have hty : ((y : Int) - (nth tl m : Int)) = ((y - nth tl m : Nat) : Int) := by omega
              have hq0 : (r : Int) * ((y : Int) - (nth tl m : Int)) = ((r * (y - nth tl m) : Nat) : Int) := by rw [hty, Int.natCast_mul]
              have hqb : r * (y - nth tl m) ≤ 65535 * 100000 := Nat.mul_le_mul (by omega) (by omega)
              have hm0 : (0 : Int) ≤ (m : Int) := by omega
              have hm2 : (m : Int) < (tl.length : Int) := by omega
              have hm3 : (m : Int) < (nl.length : Int) := by omega
              have ha1 : (0 : Int) ≤ (nth nl m : Int) ∧ (nth nl m : Int) < 100000 := by omega
              have ha2 : (0 : Int) ≤ (nth tl m : Int) ∧ (nth tl m : Int) ≤ (y : Int) := by omega
              have ha3 : (0 : Int) ≤ ((nl.drop (m + 1)).sum : Int) ∧ ((nl.drop (m + 1)).sum : Int) ≤ 4000000 := by omega
              have ha4 : (0 : Int) ≤ (r : Int) * ((y : Int) - (nth tl m : Int)) ∧ (r : Int) * ((y : Int) - (nth tl m : Int)) ≤ 6553500000 := by rw [hq0]; omega
              have ha5 : ((nl.drop (m + 1)).sum : Int) + (nth nl m : Int) ≤ (s : Int) + 1 + (r : Int) * ((y : Int) - (nth tl m : Int)) := by rw [hq0]; omega
              have HDS := Lib.hid hds
              clear hds h6 hq0 hty hqb hct hcn HV h5 hnm hsl
              generalize (nl.drop (m + 1)).sum = sm at ha3 ha5 HDS ⊢
              generalize nth tl m = tm at qt ha2 ha4 ha5 ⊢
              generalize nth nl m = nm at qn ha1 ha5 HDS ⊢
              go_wp2_with fail
              go_round
              case rel => exact ⟨m, by omega, by go_num, by rw [HDS.out]; go_num⟩
              case measure => (simp [intOf] <;> omega)
        · have hIn := Lib.hid (hI2.out.take hle hq1)
          have htl : tl.length ≤ 40 := by have := hI2.out.1; omega
          have hnl : nl.length ≤ 40 := by omega
          have HOT := Lib.hid (own_keep hot.out hM2 (by intro a ha; have := (World.ownsRow.lt hot.out a (by rw [ha]; rfl)).1; intro e; injection e; omega))
          have HON := Lib.hid (own_keep hon.out hM2 (by intro a ha; have := (World.ownsRow.lt hon.out a (by rw [ha]; rfl)).1; intro e; injection e; omega))
          have hbel2 := Below.mod hbel hM2 hgw hbel.size
          have hgs := hB2.lt
          clear hot hon hI2 hle hM2
          go_wp2_with (first
            | (at_builtin; refine wp_append_one rfl _ _ _ rfl (g + 1) 23 (.int .u64 0) 8 rfl Try.underlying35 u64info At tl.length ct (tl.map u64v) rfl (Own.alloc HOT.out _) w3.heap.size (.int .u64 (y : Int)) rfl ((Arr.new w3 23 [.int .u64 (y : Int)]).cell 0) rfl (by unfold maxLen; omega) (by omega) (by simp; omega) ?_; intro gt ct2 w4 hot4 hgr4 hpl4 hlt4'; have hgs4 : g < w4.heap.size := (by have := hgr4.size; simp at this; omega); have HON4 := Lib.hid (own_keep (Own.alloc HON.out _) hgr4 (sep_map HOT.out hsep)))
            | (at_builtin; refine wp_append_one rfl _ _ _ rfl (g + 1) 23 (.int .u64 0) 8 rfl Try.underlying35 u64info An nl.length cn (nl.map u64v) rfl (Own.alloc HON4.out _) w4.heap.size (.int .u64 (q : Int)) rfl ((Arr.new w4 23 [.int .u64 (q : Int)]).cell 0) rfl (by unfold maxLen; omega) (by omega) (by simp; omega) ?_; intro gn cn2 w5 hon5 hgr5 hpl5 hlt5'))
          have hsep4 : ∀ a, (some ⟨gt, 0, none⟩ : Option Addr) = some ⟨a, 0, none⟩ → some a ≠ An.map (·.block) := by
            intro a ha
            injection ha with ha; injection ha with ha; subst ha
            rcases row_form HON.out with rfl | ⟨gn', rfl, hn1, hn2⟩
            · simp
            · intro e; injection e with e; simp only at e; subst e
              rcases hpl4 with h | h
              · exact hsep _ h rfl
              · simp at h; omega
          have HOT5 := Lib.hid (own_keep (Own.alloc hot4.out _) hgr5 hsep4)
          have hB5 : BktAt w5 g r (s + 1) (lv2 - q) y := bkt_keep (bkt_keep (hB2.below ((Below.refl _ _).alloc (Nat.le_refl _) _)) hgr4 (by rcases row_form HOT.out with h | ⟨g9, h, h1, _⟩ <;> rw [h] <;> simp <;> omega) |>.below ((Below.refl _ _).alloc (Nat.le_refl _) _)) hgr5 (by rcases row_form HON.out with h | ⟨g9, h, h1, _⟩ <;> rw [h] <;> simp <;> omega)
          have hsep5 : ∀ a, (some ⟨gt, 0, none⟩ : Option Addr) = some a → (some ⟨gn, 0, none⟩ : Option Addr) = some a → False := by
            intro a h1 h2
            rw [← h1] at h2
            injection h2 with h2; injection h2 with h2; subst h2
            rcases hpl5 with h | h
            · exact hsep4 gn rfl (by rw [h]; rfl)
            · simp at h; omega
          have hbel4 := (hbel2.alloc hbel2.size _).grown hgr4 (by have := hbel2.size; simp; omega) (by intro k9 hk9; rcases row_form HOT.out with h | ⟨g9, h, h1, _⟩ <;> rw [h] at hk9 <;> simp at hk9; omega)
          have hbel5 := (hbel4.alloc hbel4.size _).grown hgr5 (by have := hbel4.size; simp; omega) (by intro k9 hk9; rcases row_form HON.out with h | ⟨g9, h, h1, _⟩ <;> rw [h] at hk9 <;> simp at hk9; omega)
          have HOT6 : OwnU w5 (g + 1) (some ⟨gt, 0, none⟩) ct2 (tl ++ [y]) := by have h := HOT5.out; unfold OwnU; rw [List.length_append, List.map_append]; exact h
          have HON6 : OwnU w5 (g + 1) (some ⟨gn, 0, none⟩) cn2 (nl ++ [q]) := by have h := hon5.out; unfold OwnU; rw [List.length_append, List.map_append]; exact h
          have hnl2 : (nl ++ [q]).length ≤ k + 1 := by simp; omega
          have hl2 : (nl ++ [q]).length = nl.length + 1 := by simp
          rw [show tl.length + 1 = (tl ++ [y]).length by simp, show nl.length + 1 = (nl ++ [q]).length by simp]
          clear HOT HON HOT5 hon5 hot4 HON4 hsep4 hpl4 hpl5 hgr4 hgr5 hB2 hbel2 hbel4 htl hnl hsep hnk hgs hgs4
          generalize tl ++ [y] = tl2 at HOT6 hIn ⊢
          generalize nl ++ [q] = nl2 at HON6 hIn hnl2 hl2 ⊢
          have HL2 := Lib.hid hl2
          clear hl2
          go_wp2_with fail
          go_loop [14, 15] (fun v14 v15 => ∃ j : Nat, j ≤ nl2.length ∧ v15 = .int .i64 ((j : Int) - 1) ∧ v14 = .int .u64 ((nl2.drop j).sum : Int)) (fun _ i => (intOf i + 1).toNat)
          case atStart => exact ⟨nl2.length, Nat.le_refl _, by first | go_num | (congr 1; (try have hl9 := HL2.out); omega), by simp⟩
          case round =>
            obtain ⟨j, hj, rfl, rfl⟩ := hrel
            rcases j with _ | m
            · go_wp2_with fail
              go_roundw
              case rel => exact ⟨k + 1, y, (lv2 - q), _, _, ct2, cn2, tl2, nl2, by omega, by omega, hnl2, by go_num, rfl, rfl, rfl, hy, HOT6, HON6, hsep5, hB5, hIn, hbel5⟩
              case measure => (simp [intOf] <;> omega)
            · have HV := hIn.out
              have hm1 : m < tl2.length := by have := HV.1; omega
              obtain ⟨h5, h6⟩ := HV.2.2.2 m (by omega)
              have hds := drop_sum nl2 m (by omega)
              rw [hds] at h6
              have hnm : nth nl2 m < 100000 := HV.2.2.1 _ (by unfold nth; rw [List.getD_eq_getElem?_getD, List.getElem?_eq_getElem (by omega)]; exact List.getElem_mem _)
              have hsl := HV.sum_le (m + 1)
              obtain ⟨bt, ot, eqt, hbt, hct⟩ := (Own.view HOT6.out) (by intro e; rw [List.map_eq_nil_iff] at e; rw [e] at hm1; simp at hm1)
              obtain ⟨bn, on_, eqn, hbn, hcn⟩ := (Own.view HON6.out) (by intro e; rw [List.map_eq_nil_iff] at e; rw [e] at hj; simp at hj)
              have qt := hct m (u64v (nth tl2 m)) (by rw [List.getElem?_map, nth_get (by omega)]; rfl)
              have qn := hcn m (u64v (nth nl2 m)) (by rw [List.getElem?_map, nth_get (by omega)]; rfl)
              unfold u64v at qt qn
              first
                | (subst eqt; subst eqn)
                | (injection eqt with e1; injection e1 with e2 e3; subst e2; subst e3
                   injection eqn with e1; injection e1 with e2 e3; subst e2; subst e3)
              try rw [Nat.zero_add] at qt qn
              have hty : ((y : Int) - (nth tl2 m : Int)) = ((y - nth tl2 m : Nat) : Int) := by omega
              have hq0 : (r : Int) * ((y : Int) - (nth tl2 m : Int)) = ((r * (y - nth tl2 m) : Nat) : Int) := by rw [hty, Int.natCast_mul]
              have hqb : r * (y - nth tl2 m) ≤ 65535 * 100000 := Nat.mul_le_mul (by omega) (by omega)
              have hm0 : (0 : Int) ≤ (m : Int) := by omega
              have hm2 : (m : Int) < (tl2.length : Int) := by omega
              have hm3 : (m : Int) < (nl2.length : Int) := by omega
              have ha1 : (0 : Int) ≤ (nth nl2 m : Int) ∧ (nth nl2 m : Int) < 100000 := by omega
              have ha2 : (0 : Int) ≤ (nth tl2 m : Int) ∧ (nth tl2 m : Int) ≤ (y : Int) := by omega
              have ha3 : (0 : Int) ≤ ((nl2.drop (m + 1)).sum : Int) ∧ ((nl2.drop (m + 1)).sum : Int) ≤ 4000000 := by omega
              have ha4 : (0 : Int) ≤ (r : Int) * ((y : Int) - (nth tl2 m : Int)) ∧ (r : Int) * ((y : Int) - (nth tl2 m : Int)) ≤ 6553500000 := by rw [hq0]; omega
              have ha5 : ((nl2.drop (m + 1)).sum : Int) + (nth nl2 m : Int) ≤ (s : Int) + 1 + (r : Int) * ((y : Int) - (nth tl2 m : Int)) := by rw [hq0]; omega
              have HDS := Lib.hid hds
              clear hds h6 hq0 hty hqb hct hcn HV h5 hnm hsl
              generalize (nl2.drop (m + 1)).sum = sm at ha3 ha5 HDS ⊢
              generalize nth tl2 m = tm at qt ha2 ha4 ha5 ⊢
              generalize nth nl2 m = nm at qn ha1 ha5 HDS ⊢
              go_wp2_with fail
              go_round
              case rel => exact ⟨m, by omega, by go_num, by rw [HDS.out]; go_num⟩
              case measure => (simp [intOf] <;> omega)
      · obtain ⟨y, hy0⟩ : ∃ y : Nat, y = x := ⟨_, rfl⟩
        rw [← hy0]
        have hy : y < 100000 := by omega
        have hxy : x ≤ y := by omega
        clear hy0
        rw [HQ.out.1]
        refine (bkt_take_c g r (s + 1) lv x q y wr hB (by omega) (by omega) hI.out.2.1 (U64.of (by omega)) (U64.of (by omega))).mono ?_
        have hI2 := Lib.hid (hI.out.fill hxy)
        have hle2 := refL_le (r := r) (t := x) (now := y) hI.out.2.1
        obtain ⟨lv2, hlv2⟩ : ∃ v, v = refL r (s + 1) lv x y := ⟨_, rfl⟩
        unfold TakePost
        rw [← hlv2] at hI2 hle2
        rw [← hlv2, show max x y = y by omega]
        clear hlv2 hI hc1 hc2 hpb
        rintro e w3 (⟨_, rfl, hB2, hM2⟩ | ⟨hle, rfl, hB2, hM2⟩)
        · have hot2 := own_keep hot.out hM2 (by intro a ha; have := (World.ownsRow.lt hot.out a (by rw [ha]; rfl)).1; intro e; injection e; omega)
          have hon2 := own_keep hon.out hM2 (by intro a ha; have := (World.ownsRow.lt hon.out a (by rw [ha]; rfl)).1; intro e; injection e; omega)
          have HOT := Lib.hid hot2
          have HON := Lib.hid hon2
          have hbel2 := Below.mod hbel hM2 hgw hbel.size
          clear hot hon hot2 hon2
          go_wp2_with fail
          go_loop [14, 15] (fun v14 v15 => ∃ j : Nat, j ≤ nl.length ∧ v15 = .int .i64 ((j : Int) - 1) ∧ v14 = .int .u64 ((nl.drop j).sum : Int)) (fun _ i => (intOf i + 1).toNat)
          case atStart => exact ⟨nl.length, Nat.le_refl _, by first | go_num | (congr 1; (try have hl9 := HL2.out); omega), by simp⟩
          case round =>
            obtain ⟨j, hj, rfl, rfl⟩ := hrel
            rcases j with _ | m
            · go_wp2_with fail
              go_roundw
              case rel => exact ⟨k + 1, y, lv2, _, _, ct, cn, tl, nl, by omega, by omega, (by omega), by go_num, rfl, rfl, rfl, hy, HOT, HON, hsep, hB2, hI2, hbel2⟩
              case measure => (simp [intOf] <;> omega)
            · have HV := hI2.out
              have hm1 : m < tl.length := by have := HV.1; omega
              obtain ⟨h5, h6⟩ := HV.2.2.2 m (by omega)
              have hds := drop_sum nl m (by omega)
              rw [hds] at h6
              have hnm : nth nl m < 100000 := HV.2.2.1 _ (by unfold nth; rw [List.getD_eq_getElem?_getD, List.getElem?_eq_getElem (by omega)]; exact List.getElem_mem _)
              have hsl := HV.sum_le (m + 1)
              obtain ⟨bt, ot, eqt, hbt, hct⟩ := (Own.view HOT.out) (by intro e; rw [List.map_eq_nil_iff] at e; rw [e] at hm1; simp at hm1)
              obtain ⟨bn, on_, eqn, hbn, hcn⟩ := (Own.view HON.out) (by intro e; rw [List.map_eq_nil_iff] at e; rw [e] at hj; simp at hj)
              have qt := hct m (u64v (nth tl m)) (by rw [List.getElem?_map, nth_get (by omega)]; rfl)
              have qn := hcn m (u64v (nth nl m)) (by rw [List.getElem?_map, nth_get (by omega)]; rfl)
              unfold u64v at qt qn
              first
                | (subst eqt; subst eqn)
                | (injection eqt with e1; injection e1 with e2 e3; subst e2; subst e3
                   injection eqn with e1; injection e1 with e2 e3; subst e2; subst e3)
              try rw [Nat.zero_add] at qt qn
              have hty : ((y : Int) - (nth tl m : Int)) = ((y - nth tl m : Nat) : Int) := by omega
              have hq0 : (r : Int) * ((y : Int) - (nth tl m : Int)) = ((r * (y - nth tl m) : Nat) : Int) := by rw [hty, Int.natCast_mul]
              have hqb : r * (y - nth tl m) ≤ 65535 * 100000 := Nat.mul_le_mul (by omega) (by omega)
              have hm0 : (0 : Int) ≤ (m : Int) := by omega
              have hm2 : (m : Int) < (tl.length : Int) := by omega
              have hm3 : (m : Int) < (nl.length : Int) := by omega
              have ha1 : (0 : Int) ≤ (nth nl m : Int) ∧ (nth nl m : Int) < 100000 := by omega
              have ha2 : (0 : Int) ≤ (nth tl m : Int) ∧ (nth tl m : Int) ≤ (y : Int) := by omega
              have ha3 : (0 : Int) ≤ ((nl.drop (m + 1)).sum : Int) ∧ ((nl.drop (m + 1)).sum : Int) ≤ 4000000 := by omega
              have ha4 : (0 : Int) ≤ (r : Int) * ((y : Int) - (nth tl m : Int)) ∧ (r : Int) * ((y : Int) - (nth tl m : Int)) ≤ 6553500000 := by rw [hq0]; omega
              have ha5 : ((nl.drop (m + 1)).sum : Int) + (nth nl m : Int) ≤ (s : Int) + 1 + (r : Int) * ((y : Int) - (nth tl m : Int)) := by rw [hq0]; omega
              have HDS := Lib.hid hds
              clear hds h6 hq0 hty hqb hct hcn HV h5 hnm hsl
              generalize (nl.drop (m + 1)).sum = sm at ha3 ha5 HDS ⊢
              generalize nth tl m = tm at qt ha2 ha4 ha5 ⊢
              generalize nth nl m = nm at qn ha1 ha5 HDS ⊢
              go_wp2_with fail
              go_round
              case rel => exact ⟨m, by omega, by go_num, by rw [HDS.out]; go_num⟩
              case measure => (simp [intOf] <;> omega)
        · have hIn := Lib.hid (hI2.out.take hle hq1)
          have htl : tl.length ≤ 40 := by have := hI2.out.1; omega
          have hnl : nl.length ≤ 40 := by omega
          have HOT := Lib.hid (own_keep hot.out hM2 (by intro a ha; have := (World.ownsRow.lt hot.out a (by rw [ha]; rfl)).1; intro e; injection e; omega))
          have HON := Lib.hid (own_keep hon.out hM2 (by intro a ha; have := (World.ownsRow.lt hon.out a (by rw [ha]; rfl)).1; intro e; injection e; omega))
          have hbel2 := Below.mod hbel hM2 hgw hbel.size
          have hgs := hB2.lt
          clear hot hon hI2 hle hM2
          go_wp2_with (first
            | (at_builtin; refine wp_append_one rfl _ _ _ rfl (g + 1) 23 (.int .u64 0) 8 rfl Try.underlying35 u64info At tl.length ct (tl.map u64v) rfl (Own.alloc HOT.out _) w3.heap.size (.int .u64 (y : Int)) rfl ((Arr.new w3 23 [.int .u64 (y : Int)]).cell 0) rfl (by unfold maxLen; omega) (by omega) (by simp; omega) ?_; intro gt ct2 w4 hot4 hgr4 hpl4 hlt4'; have hgs4 : g < w4.heap.size := (by have := hgr4.size; simp at this; omega); have HON4 := Lib.hid (own_keep (Own.alloc HON.out _) hgr4 (sep_map HOT.out hsep)))
            | (at_builtin; refine wp_append_one rfl _ _ _ rfl (g + 1) 23 (.int .u64 0) 8 rfl Try.underlying35 u64info An nl.length cn (nl.map u64v) rfl (Own.alloc HON4.out _) w4.heap.size (.int .u64 (q : Int)) rfl ((Arr.new w4 23 [.int .u64 (q : Int)]).cell 0) rfl (by unfold maxLen; omega) (by omega) (by simp; omega) ?_; intro gn cn2 w5 hon5 hgr5 hpl5 hlt5'))
          have hsep4 : ∀ a, (some ⟨gt, 0, none⟩ : Option Addr) = some ⟨a, 0, none⟩ → some a ≠ An.map (·.block) := by
            intro a ha
            injection ha with ha; injection ha with ha; subst ha
            rcases row_form HON.out with rfl | ⟨gn', rfl, hn1, hn2⟩
            · simp
            · intro e; injection e with e; simp only at e; subst e
              rcases hpl4 with h | h
              · exact hsep _ h rfl
              · simp at h; omega
          have HOT5 := Lib.hid (own_keep (Own.alloc hot4.out _) hgr5 hsep4)
          have hB5 : BktAt w5 g r (s + 1) (lv2 - q) y := bkt_keep (bkt_keep (hB2.below ((Below.refl _ _).alloc (Nat.le_refl _) _)) hgr4 (by rcases row_form HOT.out with h | ⟨g9, h, h1, _⟩ <;> rw [h] <;> simp <;> omega) |>.below ((Below.refl _ _).alloc (Nat.le_refl _) _)) hgr5 (by rcases row_form HON.out with h | ⟨g9, h, h1, _⟩ <;> rw [h] <;> simp <;> omega)
          have hsep5 : ∀ a, (some ⟨gt, 0, none⟩ : Option Addr) = some a → (some ⟨gn, 0, none⟩ : Option Addr) = some a → False := by
            intro a h1 h2
            rw [← h1] at h2
            injection h2 with h2; injection h2 with h2; subst h2
            rcases hpl5 with h | h
            · exact hsep4 gn rfl (by rw [h]; rfl)
            · simp at h; omega
          have hbel4 := (hbel2.alloc hbel2.size _).grown hgr4 (by have := hbel2.size; simp; omega) (by intro k9 hk9; rcases row_form HOT.out with h | ⟨g9, h, h1, _⟩ <;> rw [h] at hk9 <;> simp at hk9; omega)
          have hbel5 := (hbel4.alloc hbel4.size _).grown hgr5 (by have := hbel4.size; simp; omega) (by intro k9 hk9; rcases row_form HON.out with h | ⟨g9, h, h1, _⟩ <;> rw [h] at hk9 <;> simp at hk9; omega)
          have HOT6 : OwnU w5 (g + 1) (some ⟨gt, 0, none⟩) ct2 (tl ++ [y]) := by have h := HOT5.out; unfold OwnU; rw [List.length_append, List.map_append]; exact h
          have HON6 : OwnU w5 (g + 1) (some ⟨gn, 0, none⟩) cn2 (nl ++ [q]) := by have h := hon5.out; unfold OwnU; rw [List.length_append, List.map_append]; exact h
          have hnl2 : (nl ++ [q]).length ≤ k + 1 := by simp; omega
          have hl2 : (nl ++ [q]).length = nl.length + 1 := by simp
          rw [show tl.length + 1 = (tl ++ [y]).length by simp, show nl.length + 1 = (nl ++ [q]).length by simp]
          clear HOT HON HOT5 hon5 hot4 HON4 hsep4 hpl4 hpl5 hgr4 hgr5 hB2 hbel2 hbel4 htl hnl hsep hnk hgs hgs4
          generalize tl ++ [y] = tl2 at HOT6 hIn ⊢
          generalize nl ++ [q] = nl2 at HON6 hIn hnl2 hl2 ⊢
          have HL2 := Lib.hid hl2
          clear hl2
          go_wp2_with fail
          go_loop [14, 15] (fun v14 v15 => ∃ j : Nat, j ≤ nl2.length ∧ v15 = .int .i64 ((j : Int) - 1) ∧ v14 = .int .u64 ((nl2.drop j).sum : Int)) (fun _ i => (intOf i + 1).toNat)
          case atStart => exact ⟨nl2.length, Nat.le_refl _, by first | go_num | (congr 1; (try have hl9 := HL2.out); omega), by simp⟩
          case round =>
            obtain ⟨j, hj, rfl, rfl⟩ := hrel
            rcases j with _ | m
            · go_wp2_with fail
              go_roundw
              case rel => exact ⟨k + 1, y, (lv2 - q), _, _, ct2, cn2, tl2, nl2, by omega, by omega, hnl2, by go_num, rfl, rfl, rfl, hy, HOT6, HON6, hsep5, hB5, hIn, hbel5⟩
              case measure => (simp [intOf] <;> omega)
            · have HV := hIn.out
              have hm1 : m < tl2.length := by have := HV.1; omega
              obtain ⟨h5, h6⟩ := HV.2.2.2 m (by omega)
              have hds := drop_sum nl2 m (by omega)
              rw [hds] at h6
              have hnm : nth nl2 m < 100000 := HV.2.2.1 _ (by unfold nth; rw [List.getD_eq_getElem?_getD, List.getElem?_eq_getElem (by omega)]; exact List.getElem_mem _)
              have hsl := HV.sum_le (m + 1)
              obtain ⟨bt, ot, eqt, hbt, hct⟩ := (Own.view HOT6.out) (by intro e; rw [List.map_eq_nil_iff] at e; rw [e] at hm1; simp at hm1)
              obtain ⟨bn, on_, eqn, hbn, hcn⟩ := (Own.view HON6.out) (by intro e; rw [List.map_eq_nil_iff] at e; rw [e] at hj; simp at hj)
              have qt := hct m (u64v (nth tl2 m)) (by rw [List.getElem?_map, nth_get (by omega)]; rfl)
              have qn := hcn m (u64v (nth nl2 m)) (by rw [List.getElem?_map, nth_get (by omega)]; rfl)
              unfold u64v at qt qn
              first
                | (subst eqt; subst eqn)
                | (injection eqt with e1; injection e1 with e2 e3; subst e2; subst e3
                   injection eqn with e1; injection e1 with e2 e3; subst e2; subst e3)
              try rw [Nat.zero_add] at qt qn
              have hty : ((y : Int) - (nth tl2 m : Int)) = ((y - nth tl2 m : Nat) : Int) := by omega
              have hq0 : (r : Int) * ((y : Int) - (nth tl2 m : Int)) = ((r * (y - nth tl2 m) : Nat) : Int) := by rw [hty, Int.natCast_mul]
              have hqb : r * (y - nth tl2 m) ≤ 65535 * 100000 := Nat.mul_le_mul (by omega) (by omega)
              have hm0 : (0 : Int) ≤ (m : Int) := by omega
              have hm2 : (m : Int) < (tl2.length : Int) := by omega
              have hm3 : (m : Int) < (nl2.length : Int) := by omega
              have ha1 : (0 : Int) ≤ (nth nl2 m : Int) ∧ (nth nl2 m : Int) < 100000 := by omega
              have ha2 : (0 : Int) ≤ (nth tl2 m : Int) ∧ (nth tl2 m : Int) ≤ (y : Int) := by omega
              have ha3 : (0 : Int) ≤ ((nl2.drop (m + 1)).sum : Int) ∧ ((nl2.drop (m + 1)).sum : Int) ≤ 4000000 := by omega
              have ha4 : (0 : Int) ≤ (r : Int) * ((y : Int) - (nth tl2 m : Int)) ∧ (r : Int) * ((y : Int) - (nth tl2 m : Int)) ≤ 6553500000 := by rw [hq0]; omega
              have ha5 : ((nl2.drop (m + 1)).sum : Int) + (nth nl2 m : Int) ≤ (s : Int) + 1 + (r : Int) * ((y : Int) - (nth tl2 m : Int)) := by rw [hq0]; omega
              have HDS := Lib.hid hds
              clear hds h6 hq0 hty hqb hct hcn HV h5 hnm hsl
              generalize (nl2.drop (m + 1)).sum = sm at ha3 ha5 HDS ⊢
              generalize nth tl2 m = tm at qt ha2 ha4 ha5 ⊢
              generalize nth nl2 m = nm at qn ha1 ha5 HDS ⊢
              go_wp2_with fail
              go_round
              case rel => exact ⟨m, by omega, by go_num, by rw [HDS.out]; go_num⟩
              case measure => (simp [intOf] <;> omega)
    · have hb2 : ¬ ((k : Int) < l.length ∧ (k : Int) < 40) := by omega
      by_cases h1 : (k : Int) < l.length
      · have h2 : ¬ (k : Int) < 40 := by omega
        clear hb2 hlt
        go_wp2_with fail
        refine (meter_awake_c _).mono ?_
        rintro e w4 ⟨rfl, hb4⟩
        go_wp2
        go_ret
        exact ⟨rfl, hbel.trans (hb4.mono hbel.size)⟩
      · clear hb2 hlt
        go_wp2_with fail
        refine (meter_awake_c _).mono ?_
        rintro e w4 ⟨rfl, hb4⟩
        go_wp2
        go_ret
        exact ⟨rfl, hbel.trans (hb4.mono hbel.size)⟩

open Go.ChangeShapes Go.WideShapes Go.ChangeAt in
set_option maxRecDepth 100000 in
theorem walk {H : Type} {enc : TypeId × Value → H} {r : Reach} {b0 : Nat} {d : DataW H} {ps : List MemPlace} (a b : Int) (v : Value) (w : World) (ha : 0 ≤ a ∧ a < 65536) (hb : 0 ≤ b ∧ b < 65536)
    (hval : Value.okWide Try.prog w r b0 86 v) (hd : DataW.Trod enc Try.prog w 0 (fun _ => true) true 86 v d ps) (hlt : ∀ x ∈ ps, x.block < w.heap.size) :
    Calls Try.prog 13 #[.int .u16 a, .int .u16 b, v] w fun e w' => e = .returned (.bool true) ∧ Below w.heap.size w w' := by
  have hC : Try.prog.cellsOf 91 = 3 := by kernel_rfl
  obtain ⟨A, n, c, es, rfl, hn, hA, _, _, hv, hes⟩ := open_elems Try.underlying86 (by rw [hC]; omega) hval hd hlt
  obtain ⟨l, rfl, hl⟩ := list_decode (fun p : Int × Nat × Nat => [Value.int .i64 p.1, .int .u64 (p.2.1 : Int), .int .u64 (p.2.2 : Int)]) (fun p => U64 p.2.1 ∧ U64 p.2.2) es (by
    intro cs hcs
    obtain ⟨hl, m, x, ht, _⟩ := hes cs hcs
    rw [hC] at hl
    have hf := struct_fields Try.underlying91 (by kernel_rfl) ht hl
    obtain ⟨v0, y0, k0, h0, t0, _⟩ := hf 0 _ rfl
    obtain ⟨v1, y1, k1, h1, t1, _⟩ := hf 1 _ rfl
    obtain ⟨v2, y2, k2, h2, t2, _⟩ := hf 2 _ rfl
    obtain ⟨z0, e0, _, z0w⟩ := DataW.trod_int Try.underlying3 t0
    obtain ⟨z1, e1, _, z1w⟩ := DataW.trod_int Try.underlying23 t1
    obtain ⟨z2, e2, _, z2w⟩ := DataW.trod_int Try.underlying23 t2
    injection e0 with e0; injection e1 with e1; injection e2 with e2
    subst e0; subst e1; subst e2
    have w1 := wf_u64 z1w
    have w2 := wf_u64 z2w
    refine ⟨(z0, z1.toNat, z2.toNat), ?_, U64.of (n := z1.toNat) (by omega), U64.of (n := z2.toNat) (by omega)⟩
    match cs, hl with
    | [c0, c1, c2], _ => simp at h0 h1 h2; rw [h0, h1, h2]; simp only [Int.toNat_of_nonneg w1.1, Int.toNat_of_nonneg w2.1])
  obtain ⟨r, rfl⟩ := Int.eq_ofNat_of_zero_le ha.1
  obtain ⟨s, rfl⟩ := Int.eq_ofNat_of_zero_le hb.1
  exact walk_ r s A n c l w (by omega) (by omega) (by simpa using hn) (by rw [actV, List.flatMap_def]; exact hv) hl
end Go.Proofs.Ytaaincffbaaopaa.MeterBounds
