
/- Proved: HrwKeeps returns true for every input, and changes no memory that was there. Conditions: none. -/
import Derived.Test.YtgfmjgfeiokcdaaHrG
namespace Go.Proofs.Ytgfmjgfeiokcdaa
open Go.ChangeShapes Go.WideShapes Go.ChangeAt Go.RowKit
theorem Bf.trans {x y z : Sc} (h1 : Bf x y) (h2 : Bf y z) : Bf x z := by unfold Bf at *; omega
theorem Bf.asymm {x y : Sc} (h1 : Bf x y) (h2 : Bf y x) : False := by unfold Bf at *; omega
theorem Bf.total {x y : Sc} (h : x.1 ≠ y.1) (hn : ¬ Bf x y) : Bf y x := by unfold Bf at *; omega
theorem plc_zero (P : List Sc) (x : Sc) : ∀ k, plc P x k = 0 → ∀ j, j < k → Bf x (P.getD j default)
  | 0, _, j, hj => absurd hj (by omega)
  | k + 1, h, j, hj => by
    unfold plc at h
    split at h
    · next hb =>
      by_cases hjk : j = k
      · subst hjk; exact hb
      · exact plc_zero P x k h j (by omega)
    · omega
theorem plc_pos (P : List Sc) (x : Sc) : ∀ k q, plc P x k = q + 1 → q < k ∧ ¬ Bf x (P.getD q default)
  | 0, q, h => by cases h
  | k + 1, q, h => by
    unfold plc at h
    split at h
    · have := plc_pos P x k q h
      exact ⟨by omega, this.2⟩
    · next hb =>
      obtain rfl : k = q := by omega
      exact ⟨by omega, hb⟩
theorem mem_ins {P : List Sc} {x y : Sc} : y ∈ ins P x ↔ y = x ∨ y ∈ P := by
  unfold ins
  generalize plc P x P.length = q
  rw [List.mem_append, List.mem_cons]
  conv => rhs; rw [← List.take_append_drop q P, List.mem_append]
  constructor
  · rintro (h | h | h)
    · exact .inr (.inl h)
    · exact .inl h
    · exact .inr (.inr h)
  · rintro (h | h | h)
    · exact .inr (.inl h)
    · exact .inl h
    · exact .inr (.inr h)
def Head (P : List Sc) : Prop := ∀ h t, P = h :: t → ∀ y ∈ P, y = h ∨ Bf h y
theorem ins_head {P : List Sc} {x : Sc} (hP : Head P) (hx : ∀ y ∈ P, y.1 ≠ x.1) : Head (ins P x) := by
  intro h t e y hy
  rcases Nat.eq_zero_or_pos (plc P x P.length) with h0 | h0
  · have hz := plc_zero P x P.length h0
    unfold ins at e
    rw [h0, List.take_zero, List.drop_zero, List.nil_append] at e
    injection e with e1 e2
    subst e1
    rcases mem_ins.1 hy with rfl | hy
    · exact .inl rfl
    · obtain ⟨j, hj, rfl⟩ := List.getElem_of_mem hy
      have := hz j hj
      rw [List.getD_eq_getElem?_getD, List.getElem?_eq_getElem hj] at this
      exact .inr this
  · obtain ⟨q, hq⟩ : ∃ q, plc P x P.length = q + 1 := ⟨plc P x P.length - 1, by omega⟩
    obtain ⟨hql, hnb⟩ := plc_pos P x _ q hq
    cases P with
    | nil => simp at hql
    | cons p P =>
      have e' : h = p := by
        unfold ins at e
        rw [hq, List.take_succ_cons, List.cons_append] at e
        injection e with e1 _
        exact e1.symm
      subst e'
      have hm : (h :: P).getD q default ∈ h :: P := getD_mem hql
      have hpx : Bf h x := by
        have h1 : Bf ((h :: P).getD q default) x := Bf.total (fun e => hx _ hm e.symm) hnb
        rcases hP h P rfl _ hm with h2 | h2
        · rw [h2] at h1; exact h1
        · exact h2.trans h1
      rcases mem_ins.1 hy with rfl | hy
      · exact .inr hpx
      · exact hP h P rfl y hy
theorem srt_spec : ∀ (L : List Sc), (L.map (·.1)).Nodup → Head (srt L) ∧ ∀ y, y ∈ srt L ↔ y ∈ L := by
  intro L hD
  suffices ∀ k, k ≤ L.length → Head (srt (L.take k)) ∧ ∀ y, y ∈ srt (L.take k) ↔ y ∈ L.take k by
    have := this L.length (Nat.le_refl _)
    rwa [List.take_length] at this
  intro k
  induction k with
  | zero => intro _; exact ⟨fun h t e => (by cases e), fun y => Iff.rfl⟩
  | succ k ih =>
    intro hk
    obtain ⟨h1, h2⟩ := ih (by omega)
    rw [List.take_succ_eq_append_getElem (by omega), srt_snoc]
    refine ⟨ins_head h1 fun y hy he => ?_, fun y => ?_⟩
    · have hy' := (h2 y).1 hy
      obtain ⟨j, hj, rfl⟩ := List.getElem_of_mem hy'
      rw [List.length_take] at hj
      rw [List.getElem_take] at he
      have hjk : j < k := by omega
      have := (List.nodup_iff_pairwise_ne.1 hD)
      rw [List.pairwise_iff_getElem] at this
      exact this j k (by rw [List.length_map]; omega) (by rw [List.length_map]; omega) hjk (by rw [List.getElem_map, List.getElem_map]; exact he)
    · rw [mem_ins, h2, List.mem_append, List.mem_singleton]
      exact Or.comm
theorem mem_wgt {O : List Mb} {p : Mb} : p ∈ wgt O ↔ p ∈ O ∧ 0 < p.2 := by unfold wgt; rw [List.mem_filter, decide_eq_true_eq]
/-- What Pick answers. -/
def PkR (k : Nat → Nat) (b : List Nat) (O : List Mb) (n : Int) (ok : Bool) : Prop :=
  (ok = false ∧ n = 0 ∧ ∀ q ∈ O, ¬ 0 < q.2) ∨ (ok = true ∧ ∃ p ∈ O, 0 < p.2 ∧ n = p.1 ∧ ∀ q ∈ O, 0 < q.2 → q.1 = p.1 ∨ Bf (sco k b p) (sco k b q))
theorem nodup_filter {O : List Mb} (h : (O.map (·.1)).Nodup) (k : Nat → Nat) (b : List Nat) : (((wgt O).map (sco k b)).map (·.1)).Nodup := by
  rw [List.map_map]
  have e : ((fun x : Sc => x.1) ∘ sco k b) = (fun p : Mb => p.1) := rfl
  rw [e]
  unfold wgt
  exact h.sublist (List.Sublist.map _ (List.filter_sublist))
theorem pk_spec (k : Nat → Nat) (b : List Nat) {O : List Mb} (hD : (O.map (·.1)).Nodup) : PkR k b O (pkI (ranked k b O)) (pkB (ranked k b O)) := by
  obtain ⟨h1, h2⟩ := srt_spec _ (nodup_filter hD k b)
  unfold ranked
  cases hs : srt ((wgt O).map (sco k b)) with
  | nil =>
    refine .inl ⟨rfl, rfl, fun q hq h0 => ?_⟩
    have := (h2 (sco k b q)).2 (List.mem_map_of_mem (mem_wgt.2 ⟨hq, h0⟩))
    rw [hs] at this
    cases this
  | cons x t =>
    have hx := (h2 x).1 (by rw [hs]; exact List.mem_cons_self ..)
    obtain ⟨p, hp, rfl⟩ := List.mem_map.1 hx
    obtain ⟨hp1, hp2⟩ := mem_wgt.1 hp
    refine .inr ⟨rfl, p, hp1, hp2, rfl, fun q hq h0 => ?_⟩
    have hm := (h2 (sco k b q)).2 (List.mem_map_of_mem (mem_wgt.2 ⟨hq, h0⟩))
    rcases h1 _ t hs _ hm with h | h
    · exact .inl (show (sco k b q).1 = (sco k b p).1 by rw [h])
    · exact .inr h
theorem PkR.same {k : Nat → Nat} {b : List Nat} {O1 O2 : List Mb} {n1 n2 : Int} {k1 k2 : Bool} (h1 : PkR k b O1 n1 k1) (h2 : PkR k b O2 n2 k2) (hm : ∀ q, q ∈ O1 ↔ q ∈ O2) : n1 = n2 ∧ k1 = k2 := by
  rcases h1 with ⟨rfl, rfl, h1⟩ | ⟨rfl, p, hp, hp0, rfl, h1⟩ <;> rcases h2 with ⟨rfl, rfl, h2⟩ | ⟨rfl, p', hp', hp0', rfl, h2⟩
  · exact ⟨rfl, rfl⟩
  · exact absurd hp0' (h1 p' ((hm _).2 hp'))
  · exact absurd hp0 (h2 p ((hm _).1 hp))
  · refine ⟨?_, rfl⟩
    rcases h1 p' ((hm _).2 hp') hp0' with h | h
    · exact h.symm
    · rcases h2 p ((hm _).1 hp) hp0 with h' | h'
      · exact h'
      · exact (h.asymm h').elim
theorem PkR.less {k : Nat → Nat} {b : List Nat} {O1 O2 : List Mb} {n1 n2 : Int} {k1 k2 : Bool} {x : Mb} (h1 : PkR k b O1 n1 k1) (h2 : PkR k b O2 n2 k2) (hm : ∀ q, q ∈ O1 ↔ q = x ∨ q ∈ O2) : k1 = false ∨ n1 = x.1 ∨ (k2 = true ∧ n2 = n1) := by
  rcases h1 with ⟨rfl, rfl, h1⟩ | ⟨rfl, p, hp, hp0, rfl, h1⟩
  · exact .inl rfl
  · rcases (hm p).1 hp with rfl | hp2
    · exact .inr (.inl rfl)
    · rcases h2 with ⟨rfl, rfl, h2⟩ | ⟨rfl, p', hp', hp0', rfl, h2⟩
      · exact absurd hp0 (h2 p hp2)
      · refine .inr (.inr ⟨rfl, ?_⟩)
        rcases h1 p' ((hm _).2 (.inr hp')) hp0' with h | h
        · exact h
        · rcases h2 p hp2 hp0 with h' | h'
          · exact h'.symm
          · exact (h.asymm h').elim
theorem flat_app (a b : List Mb) : flat mv (a ++ b) = flat mv a ++ flat mv b := by unfold flat; rw [List.map_append, List.flatten_append]
theorem flat_drop (l : List Mb) (i : Nat) : (flat mv l).drop (i * 2) = flat mv (l.drop i) := by
  have hl : (flat mv (l.take i)).length = min i l.length * 2 := by rw [flat_length mv_len, List.length_take]
  by_cases h : i ≤ l.length
  · conv => lhs; rw [← List.take_append_drop i l]
    have : flat mv (l.take i ++ l.drop i) = flat mv (l.take i) ++ flat mv (l.drop i) := flat_app _ _
    rw [this, List.drop_left' (by rw [hl, Nat.min_eq_left h])]
  · rw [List.drop_of_length_le (by rw [flat_length mv_len]; omega), List.drop_of_length_le (by omega)]; rfl
theorem flat_take (l : List Mb) (i : Nat) : (flat mv l).take (i * 2) = flat mv (l.take i) := by
  have hl : (flat mv (l.take i)).length = min i l.length * 2 := by rw [flat_length mv_len, List.length_take]
  by_cases h : i ≤ l.length
  · conv => lhs; rw [← List.take_append_drop i l]
    have : flat mv (l.take i ++ l.drop i) = flat mv (l.take i) ++ flat mv (l.drop i) := flat_app _ _
    rw [this, List.take_left' (by rw [hl, Nat.min_eq_left h])]
  · rw [List.take_of_length_le (by rw [flat_length mv_len]; omega), List.take_of_length_le (by omega)]
theorem cut2 {w : World} {bd : Nat} {A : Option Addr} {l : List Mb} {c : Nat} (h : View w bd A (flat mv l)) (hc : l.length ≤ c) (i : Nat) : View w bd (cutA A i c 2) (flat mv (l.drop i)) := by
  have h1 := h.cut (k := i * 2) (c := c * 2) (by rw [flat_length mv_len]; omega)
  rw [flat_drop] at h1
  unfold cutA
  by_cases he : c = i
  · rw [if_pos he]; rw [if_pos (by omega)] at h1; exact h1
  · rw [if_neg he]; rw [if_neg (by omega)] at h1; exact h1
theorem cut2t {w : World} {bd : Nat} {A : Option Addr} {l : List Mb} {c : Nat} (h : View w bd A (flat mv l)) (hc : l.length ≤ c) (i : Nat) : View w bd (cutA A 0 c 2) (flat mv (l.take i)) := by
  have h1 := (cut2 h hc 0).take (i * 2)
  rw [List.drop_zero, flat_take] at h1
  exact h1
theorem mv_one (l : List Mb) : ∀ u ∈ flat mv l, u.oneCell' = true := by
  intro u hu
  unfold flat at hu
  obtain ⟨cs, hcs, huc⟩ := List.mem_flatten.1 hu
  obtain ⟨p, _, rfl⟩ := List.mem_map.1 hcs
  simp only [mv, List.mem_cons, List.not_mem_nil, or_false] at huc
  rcases huc with rfl | rfl <;> rfl
namespace HrwKeeps
theorem nodup_rot {O : List Mb} (h : (O.map (·.1)).Nodup) (i : Nat) : ((O.drop i ++ O.take i).map (·.1)).Nodup := by
  have hp : (O.drop i ++ O.take i).Perm O := (List.perm_append_comm).trans (by rw [List.take_append_drop])
  exact (hp.map _).symm.nodup h
theorem mem_rot {O : List Mb} (i : Nat) (q : Mb) : q ∈ O ↔ q ∈ O.drop i ++ O.take i := by
  conv => lhs; rw [← List.take_append_drop i O]
  rw [List.mem_append, List.mem_append]
  exact Or.comm
theorem nodup_less {O : List Mb} (h : (O.map (·.1)).Nodup) (i : Nat) : ((O.take i ++ O.drop (i + 1)).map (·.1)).Nodup := by
  refine h.sublist (List.Sublist.map _ ?_)
  conv => rhs; rw [← List.take_append_drop i O]
  refine List.Sublist.append (List.Sublist.refl _) ?_
  rw [← List.drop_drop]
  exact List.drop_sublist _ _
theorem mem_less {O : List Mb} {i : Nat} (hi : i < O.length) (q : Mb) : q ∈ O ↔ q = O.getD i default ∨ q ∈ O.take i ++ O.drop (i + 1) := by
  have hg : O.getD i default = O[i] := by rw [List.getD_eq_getElem?_getD, List.getElem?_eq_getElem hi]; rfl
  rw [hg]
  conv => lhs; rw [← List.take_append_drop i O, List.drop_eq_getElem_cons hi]
  rw [List.mem_append, List.mem_cons, List.mem_append]
  constructor
  · rintro (h | h | h)
    · exact .inr (.inl h)
    · exact .inl h
    · exact .inr (.inr h)
  · rintro (h | h | h)
    · exact .inr (.inl h)
    · exact .inl h
    · exact .inr (.inr h)
set_option maxRecDepth 100000 in
set_option maxHeartbeats 4000000 in
theorem walk_all (k : Nat → Nat) (L : Option Addr) (nl cl : Nat) (l : List Mb) (at_ : Nat) (B : Option Addr) (nb cb : Nat) (b : List Nat) (w0 : World) (hkb : Bytes (kL k)) (hvl : View w0 w0.heap.size L (flat mv l)) (hll : l.length = nl) (hnl : nl ≤ 9223372036854775807) (hat : at_ < 256) (hv : View w0 w0.heap.size B (b.map u8v)) (hl : b.length = nb) (hb : Bytes b) :
    Calls Try.prog 4 #[.agg (kC k).toArray, .slice L nl cl, .int .u8 (at_ : Int), .slice B nb cb] w0 fun e w' => e = .returned (.bool true) ∧ Below w0.heap.size w0 w' := by
  have hS := ((St.sv w0).vcons rfl hv).vcons rfl hvl
  refine ent (n := 106) Try.func4 rfl rfl ?_
  refine wp_seq_k ?_; intro K1 hK1
  refine wlit ?_
  refine wl_e rfl ?_; intro K hK
  refine ow_box hS (tmA rfl rfl) rfl ?_
  clear hS; intro g0_0 w hg0_0 hS
  refine hK _ _ ?_; clear hK K
  refine wl_v (x_assign ev_c) ?_
  refine wl_nil ?_
  refine then_n (hK1 _ _ ?_); clear hK1 K1
  refine wp_seq_k ?_; intro K2 hK2
  refine wlit ?_
  refine wl_v (x_move (tmS rfl rfl)) ?_
  refine wl_e rfl ?_; intro K hK
  refine ow_call Try.func6 rfl rfl (evs_cons (tmS rfl rfl) <| evs_nil) (light_c L nl cl l _ (viewV hS.ok 1 rfl) hll hnl) ?_
  rintro e w ⟨G, ng, cg, O, hng, hn12, hOk, hD, rfl, hn, hk⟩
  refine ⟨_, rfl, ?_⟩
  replace hS := hS.addn hk (New.view hn) -- +vo
  clear hn hk
  refine hK _ _ ?_; clear hK K
  refine wl_e rfl ?_; intro K hK
  refine ow_call Try.func8 rfl rfl (evs_cons (tmS rfl rfl) <| evs_nil) (to16_c G ng cg O _ (viewV hS.ok 0 rfl) hng.symm (by omega)) ?_
  rintro e w ⟨T, ct, rfl, hn, hk⟩
  refine ⟨_, rfl, ?_⟩
  have hcap : ng ≤ ct := row_cap hn.1 (by decide)
  replace hS := (hS.addn hk (New.view hn)).pick [0, 2, 4] rfl rfl --ents vt,g0_0,vw
  clear hn hk
  subst hng
  try replace hS := St.nm (M' := [.vw _ _, .blk _ _ [_, _, _, _, _, _, _, _, _, _, _, _, _, _, _, _], .vw _ _]) hS rfl
  refine hK _ _ ?_; clear hK K
  refine wl_v (x_assign (tmS rfl rfl)) ?_
  refine wl_nil ?_
  refine then_n (hK2 _ _ ?_); clear hK2 K2
  refine wp_seq_k ?_; intro K3 hK3
  refine wp_seq_k ?_; intro K4 hK4
  refine wlit ?_
  refine wl_v (x_move (tmS rfl rfl)) ?_
  refine wl_v (x_len Try.underlying24 (tmS rfl rfl)) ?_
  refine wl_v (x_gtr (tmI rfl rfl) (ev_cN 200)) ?_
  refine wl_v (x_move (tmB rfl rfl)) ?_
  refine gs_wl (tm (t := 25) rfl) (fun hg2_3 => ?_) (fun hg2_3 => ?_)
  · have hg2_3' := hg2_3; (try simp only [nrm] at hg2_3'); try (exfalso; first | with_reducible exact absurd hg2_3 Bool.false_ne_true | with_reducible exact absurd hg2_3.symm Bool.false_ne_true | omega | (simp at hg2_3; done))
    all_goals
     refine wl_s rfl (want_n rfl rfl rfl rfl (by rw [hg2_3]; rfl)) ?_
     refine wl_s rfl (want_n rfl rfl rfl rfl (by rw [hg2_3]; rfl)) ?_
     refine wl_s rfl (want_n rfl rfl rfl rfl (by rw [hg2_3]; rfl)) ?_
     refine wl_v (x_pickT (tmB rfl rfl) hg2_3 ev_c) ?_
     refine wl_nil ?_
     refine then_n (hK4 _ _ ?_); clear hK4 K4
     refine cnd_t (tmB rfl rfl) rfl ?_
     refine wp_seq_k ?_; intro K5 hK5
     refine wlit ?_
     refine wl_e rfl ?_; intro K hK
     refine ow_call Try.func5 rfl rfl (evs_nil) (law16_awake_c _) ?_
     rintro e w ⟨rfl, hk⟩
     refine ⟨_, rfl, ?_⟩
     replace hS := hS.kept hk
     clear hk
     refine hK _ _ ?_; clear hK K
     refine wl_v (x_assign (tmB rfl rfl)) ?_
     refine wl_nil ?_
     refine then_n (hK5 _ _ ?_); clear hK5 K5
     refine wp_ret ?_
     refine then_r ?_
     refine ret1 rfl (.tmp rfl (show _ = Value.bool _ from rfl)) ?_
     exact ⟨rfl, hS.kp.below⟩
  have hg2_3' := hg2_3; (try simp only [nrm] at hg2_3'); try (exfalso; first | with_reducible exact absurd hg2_3 Bool.false_ne_true | with_reducible exact absurd hg2_3.symm Bool.false_ne_true | omega | (simp at hg2_3; done))
  all_goals
   refine wl_gv (want_y rfl rfl rfl rfl (by rw [hg2_3]; rfl)) (x_move (tmS rfl rfl)) ?_
   refine wl_gv (want_y rfl rfl rfl rfl (by rw [hg2_3]; rfl)) (x_len Try.underlying29 (tmS rfl rfl)) ?_
   refine wl_gv (want_y rfl rfl rfl rfl (by rw [hg2_3]; rfl)) (x_eql (tmI rfl rfl) (ev_cN 0)) ?_
   refine wl_v (x_pickF (tmB rfl rfl) hg2_3 (tmB rfl rfl)) ?_
   refine wl_nil ?_
   refine then_n (hK4 _ _ ?_); clear hK4 K4
   refine cnd (tm rfl) (fun hc0 => ?_) (fun hc0 => ?_)
   · try (exfalso; first | with_reducible exact absurd hc0 Bool.false_ne_true | with_reducible exact absurd hc0.symm Bool.false_ne_true | (simp only [nrm] at hc0; omega) | (simp at hc0; done))
     all_goals
      try simp only [nrm] at hc0
      refine wp_seq_k ?_; intro K6 hK6
      refine wlit ?_
      refine wl_e rfl ?_; intro K hK
      refine ow_call Try.func5 rfl rfl (evs_nil) (law16_awake_c _) ?_
      rintro e w ⟨rfl, hk⟩
      refine ⟨_, rfl, ?_⟩
      replace hS := hS.kept hk
      clear hk
      refine hK _ _ ?_; clear hK K
      refine wl_v (x_assign (tmB rfl rfl)) ?_
      refine wl_nil ?_
      refine then_n (hK6 _ _ ?_); clear hK6 K6
      refine wp_ret ?_
      refine then_r ?_
      refine ret1 rfl (.tmp rfl (show _ = Value.bool _ from rfl)) ?_
      exact ⟨rfl, hS.kp.below⟩
   try (exfalso; first | with_reducible exact absurd hc0 Bool.false_ne_true | with_reducible exact absurd hc0.symm Bool.false_ne_true | (simp only [nrm] at hc0; omega) | (simp at hc0; done))
   all_goals
    try simp only [nrm] at hc0
    have hO0 : 0 < O.length := by first | omega | (simp at hc0; omega)
    obtain ⟨i, hi⟩ : ∃ i, i = at_ % O.length := ⟨_, rfl⟩
    have hil : i < O.length := by rw [hi]; exact Nat.mod_lt _ hO0
    have hp1 := pk_spec k b hD
    have hp2 := pk_spec k b (nodup_rot hD i)
    have hp3 := pk_spec k b (nodup_less hD i)
    obtain ⟨hnm, hok2⟩ := hp1.same hp2 (mem_rot i)
    have hless := hp1.less hp3 (mem_less hil)
    have hok' : ∀ p ∈ O.drop i ++ O.take i, Mok p := fun p hp => hOk p ((mem_rot i p).2 hp)
    have hok'' : ∀ p ∈ O.take i ++ O.drop (i + 1), Mok p := fun p hp => hOk p ((mem_less hil p).2 (.inr hp))
    have hlen' : (O.drop i ++ O.take i).length = 0 + (O.length - i) + i := by rw [List.length_append, List.length_drop, List.length_take]; omega
    have hlen'' : (O.take i ++ O.drop (i + 1)).length = 0 + i + (O.length - (i + 1)) := by rw [List.length_append, List.length_drop, List.length_take]; omega
    clear hp1 hp2 hp3
    refine wp_skip ?_
    refine then_n (hK3 _ _ ?_); clear hK3 K3
    refine wp_seq_k ?_; intro K7 hK7
    refine wlit ?_
    refine wl_v (x_move (tmI rfl rfl)) ?_
    first
     | refine wl_v (x_convN Try.underlying5 Try.underlying3 (tmI rfl rfl) (fit_i64 (by omega))) ?_
     | refine wl_v (x_conv Try.underlying5 Try.underlying3 (tmI rfl rfl)) ?_
    refine wl_v (x_move (tmS rfl rfl)) ?_
    refine wl_v (x_len Try.underlying29 (tmS rfl rfl)) ?_
    refine wl_v (x_remN (tmI rfl rfl) (tmI rfl rfl) hO0) ?_
    refine wl_v (x_assign (tmI rfl (congrArg (fun q : Nat => Value.int .i64 (q : Int)) hi.symm))) ?_
    refine wl_nil ?_
    refine then_n (hK7 _ _ ?_); clear hK7 K7
    refine wp_seq_k ?_; intro K8 hK8
    refine wlit ?_
    refine wl_v (x_loadA (cs := [_, _, _, _, _, _, _, _, _, _, _, _, _, _, _, _]) Try.underlying22 rfl ts_22 (tmP rfl rfl) (rangeB hS.ok 1 rfl rfl)) ?_
    refine wl_v (x_move (tmS rfl rfl)) ?_
    refine wl_v (x_move (tmS rfl rfl)) ?_
    refine wl_e rfl ?_; intro K hK
    refine ow_call Try.func12 rfl rfl (evs_cons (tmA rfl rfl) <| evs_cons (tmS rfl rfl) <| evs_cons (tmS rfl rfl) <| evs_nil) (pick_c k T O.length ct O B nb cb b _ hkb (viewV hS.ok 0 rfl) rfl hn12 hOk (viewV hS.ok 2 rfl) hl hb (by omega)) ?_
    rintro e w ⟨rfl, hk⟩
    refine ⟨_, rfl, ?_⟩
    replace hS := hS.kept hk
    clear hk
    generalize pkI (ranked k b O) = n1 at *
    generalize pkB (ranked k b O) = b1 at *
    refine hK _ _ ?_; clear hK K
    refine wl_v (x_move (tmT rfl rfl)) ?_
    refine wl_v (x_ext (tmT rfl rfl) rfl) ?_
    refine wl_v (x_ext (tmT rfl rfl) rfl) ?_
    refine wl_v (x_assign (tmI rfl rfl)) ?_
    refine wl_v (x_assign (tmB rfl rfl)) ?_
    refine wl_nil ?_
    refine then_n (hK8 _ _ ?_); clear hK8 K8
    refine wp_seq_k ?_; intro K9 hK9
    refine rg_startk 0 hS mixed_ ?_
    clear hS; intro w hS
    refine rg_take 1 rfl rfl (by kernel_rfl) (by kernel_rfl) (by kernel_rfl) (want_0) (fun w hok => x_move (tmS rfl rfl)) ?_
    refine rg_take 2 rfl rfl (by kernel_rfl) (by kernel_rfl) (by kernel_rfl) (want_0) (fun w hok => x_move (tmI rfl rfl)) ?_
    refine rg_take 3 rfl rfl (by kernel_rfl) (by kernel_rfl) (by kernel_rfl) (want_0) (fun w hok => x_sliceL Try.underlying29 ts_35 (tmS rfl rfl) (tmI rfl rfl) (by omega)) ?_
    refine rg_take 5 rfl rfl (by kernel_rfl) (by kernel_rfl) (by kernel_rfl) (want_0) (fun w hok => x_move (tmS rfl rfl)) ?_
    refine rg_take 6 rfl rfl (by kernel_rfl) (by kernel_rfl) (by kernel_rfl) (want_0) (fun w hok => x_move (tmI rfl rfl)) ?_
    refine rg_take 7 rfl rfl (by kernel_rfl) (by kernel_rfl) (by kernel_rfl) (want_0) (fun w hok => x_sliceH Try.underlying29 ts_35 (tmS rfl rfl) (tmI rfl rfl) (by omega)) ?_
    refine rg_step 0 rfl (by kernel_rfl) (want_0) (oks_drop hS 0 rfl) ?_; intro K hK
    refine ow_build0 hS Try.underlying29 tz_35 rfl rfl ?_
    clear hS; intro g6_0 w hg6_0 hS
    refine hK _ _ ?_; clear hK K
    refine rg_step 4 rfl (by kernel_rfl) (want_0) (oks_drop hS 1 rfl) ?_; intro K hK
    refine ow_appendV hS 0 rfl (cut2 (viewV hS.ok 1 rfl) hcap i) Try.underlying29 tz_35 rfl (tmS rfl rfl) (tmS rfl rfl) (mv_one _) ⟨by decide, by rw [flat_length mv_len, List.length_drop]⟩ (by simp only [maxLen]; omega) (by omega) ?_
    clear hS; intro g6_4 cg6_4 w hA4 hC4 hS
    refine hK _ _ ?_; clear hK K
    refine rg_step 8 rfl (by kernel_rfl) (want_0) (oks_drop hS 1 rfl) ?_; intro K hK
    refine ow_appendV hS 0 rfl (cut2t (viewV hS.ok 1 rfl) hcap i) Try.underlying29 tz_35 rfl (tmS rfl rfl) (tmS rfl rfl) (mv_one _) ⟨by decide, by rw [flat_length mv_len, List.length_take]; omega⟩ (by simp only [maxLen]; omega) (by omega) ?_
    clear hS; intro g6_8 cg6_8 w hA8 hC8 hS
    rw [List.nil_append, ← flat_app] at hS
    refine hK _ _ ?_; clear hK K
    refine rg_take 9 rfl rfl (by kernel_rfl) (by kernel_rfl) (by kernel_rfl) (want_0) (fun w hok => x_assign (tmS rfl rfl)) ?_
    refine rg_done (oks_drop hS 1 rfl) (by kernel_rfl) ?_
    refine then_n (hK9 _ _ ?_); clear hK9 K9
    refine wp_seq_k ?_; intro K10 hK10
    refine wlit ?_
    refine wl_v (x_loadA (cs := [_, _, _, _, _, _, _, _, _, _, _, _, _, _, _, _]) Try.underlying22 rfl ts_22 (tmP rfl rfl) (rangeB hS.ok 2 rfl rfl)) ?_
    refine wl_v (x_move (tmS rfl rfl)) ?_
    refine wl_v (x_move (tmS rfl rfl)) ?_
    refine wl_e rfl ?_; intro K hK
    refine ow_call Try.func12 rfl rfl (evs_cons (tmA rfl rfl) <| evs_cons (tmS rfl rfl) <| evs_cons (tmS rfl rfl) <| evs_nil) (pick_c k _ (0 + (O.length - i) + i) _ (O.drop i ++ O.take i) B nb cb b _ hkb (viewR hS.ok 0 rfl) hlen' (by omega) hok' (viewV hS.ok 3 rfl) hl hb (by omega)) ?_
    rintro e w ⟨rfl, hk⟩
    refine ⟨_, rfl, ?_⟩
    replace hS := hS.kept hk
    clear hk
    rw [← hnm, ← hok2]
    refine hK _ _ ?_; clear hK K
    refine wl_v (x_move (tmT rfl rfl)) ?_
    refine wl_v (x_ext (tmT rfl rfl) rfl) ?_
    refine wl_v (x_ext (tmT rfl rfl) rfl) ?_
    refine wl_v (x_assign (tmI rfl rfl)) ?_
    refine wl_v (x_assign (tmB rfl rfl)) ?_
    refine wl_nil ?_
    refine then_n (hK10 _ _ ?_); clear hK10 K10
    refine wp_seq_k ?_; intro K11 hK11
    refine rg_startk 0 hS mixed_ ?_
    clear hS; intro w hS
    refine rg_take 1 rfl rfl (by kernel_rfl) (by kernel_rfl) (by kernel_rfl) (want_0) (fun w hok => x_move (tmS rfl rfl)) ?_
    refine rg_take 2 rfl rfl (by kernel_rfl) (by kernel_rfl) (by kernel_rfl) (want_0) (fun w hok => x_move (tmI rfl rfl)) ?_
    refine rg_take 3 rfl rfl (by kernel_rfl) (by kernel_rfl) (by kernel_rfl) (want_0) (fun w hok => x_sliceH Try.underlying29 ts_35 (tmS rfl rfl) (tmI rfl rfl) (by omega)) ?_
    refine rg_take 5 rfl rfl (by kernel_rfl) (by kernel_rfl) (by kernel_rfl) (want_0) (fun w hok => x_move (tmS rfl rfl)) ?_
    refine rg_take 6 rfl rfl (by kernel_rfl) (by kernel_rfl) (by kernel_rfl) (want_0) (fun w hok => x_move (tmI rfl rfl)) ?_
    first
     | refine rg_take 7 rfl rfl (by kernel_rfl) (by kernel_rfl) (by kernel_rfl) (want_0) (fun w hok => x_addN (tmI rfl rfl) (ev_cN 1) (fit_i64 (by omega))) ?_
     | refine rg_take 7 rfl rfl (by kernel_rfl) (by kernel_rfl) (by kernel_rfl) (want_0) (fun w hok => x_addI (tmI rfl rfl) (ev_cN 1) (IntWalk.i64_in _ (by omega))) ?_
     | refine rg_take 7 rfl rfl (by kernel_rfl) (by kernel_rfl) (by kernel_rfl) (want_0) (fun w hok => x_add (tmI rfl rfl) (ev_cN 1)) ?_
    refine rg_take 8 rfl rfl (by kernel_rfl) (by kernel_rfl) (by kernel_rfl) (want_0) (fun w hok => x_sliceL Try.underlying29 ts_35 (tmS rfl rfl) (tmI rfl rfl) (by omega)) ?_
    refine rg_step 0 rfl (by kernel_rfl) (want_0) (oks_drop hS 0 rfl) ?_; intro K hK
    refine ow_build0 hS Try.underlying29 tz_35 rfl rfl ?_
    clear hS; intro g8_0 w hg8_0 hS
    refine hK _ _ ?_; clear hK K
    refine rg_step 4 rfl (by kernel_rfl) (want_0) (oks_drop hS 1 rfl) ?_; intro K hK
    refine ow_appendV hS 0 rfl (cut2t (viewV hS.ok 2 rfl) hcap i) Try.underlying29 tz_35 rfl (tmS rfl rfl) (tmS rfl rfl) (mv_one _) ⟨by decide, by rw [flat_length mv_len, List.length_take]; omega⟩ (by simp only [maxLen]; omega) (by omega) ?_
    clear hS; intro g8_4 cg8_4 w hA4 hC4 hS
    refine hK _ _ ?_; clear hK K
    refine rg_step 9 rfl (by kernel_rfl) (want_0) (oks_drop hS 1 rfl) ?_; intro K hK
    refine ow_appendV hS 0 rfl (cut2 (viewV hS.ok 2 rfl) hcap (i + 1)) Try.underlying29 tz_35 rfl (tmS rfl rfl) (tmS rfl rfl) (mv_one _) ⟨by decide, by rw [flat_length mv_len, List.length_drop]⟩ (by simp only [maxLen]; omega) (by omega) ?_
    clear hS; intro g8_9 cg8_9 w hA9 hC9 hS
    rw [List.nil_append, ← flat_app] at hS
    refine hK _ _ ?_; clear hK K
    refine rg_take 10 rfl rfl (by kernel_rfl) (by kernel_rfl) (by kernel_rfl) (want_0) (fun w hok => x_assign (tmS rfl rfl)) ?_
    refine rg_done (oks_drop hS 1 rfl) (by kernel_rfl) ?_
    refine then_n (hK11 _ _ ?_); clear hK11 K11
    refine wp_seq_k ?_; intro K12 hK12
    refine wlit ?_
    refine wl_v (x_loadA (cs := [_, _, _, _, _, _, _, _, _, _, _, _, _, _, _, _]) Try.underlying22 rfl ts_22 (tmP rfl rfl) (rangeB hS.ok 3 rfl rfl)) ?_
    refine wl_v (x_move (tmS rfl rfl)) ?_
    refine wl_v (x_move (tmS rfl rfl)) ?_
    refine wl_e rfl ?_; intro K hK
    refine ow_call Try.func12 rfl rfl (evs_cons (tmA rfl rfl) <| evs_cons (tmS rfl rfl) <| evs_cons (tmS rfl rfl) <| evs_nil) (pick_c k _ (0 + i + (O.length - (i + 1))) _ (O.take i ++ O.drop (i + 1)) B nb cb b _ hkb (viewR hS.ok 0 rfl) hlen'' (by omega) hok'' (viewV hS.ok 4 rfl) hl hb (by omega)) ?_
    rintro e w ⟨rfl, hk⟩
    refine ⟨_, rfl, ?_⟩
    replace hS := hS.kept hk
    clear hk
    generalize pkI (ranked k b (O.take i ++ O.drop (i + 1))) = n3 at *
    generalize pkB (ranked k b (O.take i ++ O.drop (i + 1))) = b3 at *
    refine hK _ _ ?_; clear hK K
    refine wl_v (x_move (tmT rfl rfl)) ?_
    refine wl_v (x_ext (tmT rfl rfl) rfl) ?_
    refine wl_v (x_ext (tmT rfl rfl) rfl) ?_
    refine wl_v (x_assign (tmI rfl rfl)) ?_
    refine wl_v (x_assign (tmB rfl rfl)) ?_
    refine wl_nil ?_
    refine then_n (hK12 _ _ ?_); clear hK12 K12
    refine wp_seq_k ?_; intro K13 hK13
    refine wp_seq_k ?_; intro K14 hK14
    refine wlit ?_
    refine wl_v (x_move (tmI rfl rfl)) ?_
    refine wl_v (x_move (tmI rfl rfl)) ?_
    refine wl_v (x_neq (tmI rfl rfl) (tmI rfl rfl)) ?_
    refine wl_v (x_move (tmB rfl rfl)) ?_
    refine gs_wl (tm (t := 79) rfl) (fun hg10_3 => ?_) (fun hg10_3 => ?_)
    · have hg10_3' := hg10_3; (try simp only [nrm] at hg10_3'); try (exfalso; first | with_reducible exact absurd hg10_3 Bool.false_ne_true | with_reducible exact absurd hg10_3.symm Bool.false_ne_true | omega | (simp at hg10_3; done))
      all_goals
       refine wl_s rfl (want_n rfl rfl rfl rfl (by rw [hg10_3]; rfl)) ?_
       refine wl_s rfl (want_n rfl rfl rfl rfl (by rw [hg10_3]; rfl)) ?_
       refine wl_s rfl (want_n rfl rfl rfl rfl (by rw [hg10_3]; rfl)) ?_
       refine wl_v (x_pickT (tmB rfl rfl) hg10_3 ev_c) ?_
       refine wl_nil ?_
       refine then_n (hK14 _ _ ?_); clear hK14 K14
       refine cnd_t (tmB rfl rfl) rfl ?_
       refine wp_seq_k ?_; intro K15 hK15
       refine wlit ?_
       refine wl_v (x_assign ev_c) ?_
       refine wl_nil ?_
       refine then_n (hK15 _ _ ?_); clear hK15 K15
       refine wp_ret ?_
       refine then_r ?_
       refine ret1 rfl (.tmp rfl (show _ = Value.bool _ from rfl)) ?_
       exact ⟨rfl, hS.kp.below⟩
    have hg10_3' := hg10_3; (try simp only [nrm] at hg10_3'); try (exfalso; first | with_reducible exact absurd hg10_3 Bool.false_ne_true | with_reducible exact absurd hg10_3.symm Bool.false_ne_true | omega | (simp at hg10_3; done))
    all_goals
     refine wl_gv (want_y rfl rfl rfl rfl (by rw [hg10_3]; rfl)) (x_move (tmB rfl rfl)) ?_
     refine wl_gv (want_y rfl rfl rfl rfl (by rw [hg10_3]; rfl)) (x_move (tmB rfl rfl)) ?_
     refine wl_gv (want_y rfl rfl rfl rfl (by rw [hg10_3]; rfl)) (x_bneq Try.underlying4 (tmB rfl rfl) (tmB rfl rfl)) ?_
     refine wl_v (x_pickF (tmB rfl rfl) hg10_3 (tmB rfl rfl)) ?_
     refine wl_nil ?_
     refine then_n (hK14 _ _ ?_); clear hK14 K14
     refine cnd (tm rfl) (fun hc1 => ?_) (fun hc1 => ?_)
     · exfalso
       simp at hc1
     try (exfalso; first | with_reducible exact absurd hc1 Bool.false_ne_true | with_reducible exact absurd hc1.symm Bool.false_ne_true | (simp only [nrm] at hc1; omega) | (simp at hc1; done))
     all_goals
      try simp only [nrm] at hc1
      refine wp_skip ?_
      refine then_n (hK13 _ _ ?_); clear hK13 K13
      refine wp_seq_k ?_; intro K16 hK16
      refine wlit ?_
      refine wl_v (x_move (tmB rfl rfl)) ?_
      refine wl_v (x_not (tmB rfl rfl)) ?_
      refine wl_v (x_move (tmB rfl rfl)) ?_
      refine gs_wl (tm (t := 86) rfl) (fun hg12_2 => ?_) (fun hg12_2 => ?_)
      · have hg12_2' := hg12_2; (try simp only [nrm] at hg12_2'); try (exfalso; first | with_reducible exact absurd hg12_2 Bool.false_ne_true | with_reducible exact absurd hg12_2.symm Bool.false_ne_true | omega | (simp at hg12_2; done))
        all_goals
         refine wl_s rfl (want_n rfl rfl rfl rfl (by rw [hg12_2]; rfl)) ?_
         refine wl_s rfl (want_n rfl rfl rfl rfl (by rw [hg12_2]; rfl)) ?_
         refine wl_s rfl (want_n rfl rfl rfl rfl (by rw [hg12_2]; rfl)) ?_
         refine wl_s rfl (want_n rfl rfl rfl rfl (by rw [hg12_2]; rfl)) ?_
         refine wl_s rfl (want_n rfl rfl rfl rfl (by rw [hg12_2]; rfl)) ?_
         refine wl_s rfl (want_n rfl rfl rfl rfl (by rw [hg12_2]; rfl)) ?_
         refine wl_s rfl (want_n rfl rfl rfl rfl (by rw [hg12_2]; rfl)) ?_
         refine wl_v (x_pickT (tmB rfl rfl) hg12_2 ev_c) ?_
         refine wl_v (x_move (tmB rfl rfl)) ?_
         refine wl_s rfl (want_n rfl rfl rfl rfl rfl) ?_
         refine wl_s rfl (want_n rfl rfl rfl rfl rfl) ?_
         refine wl_s rfl (want_u rfl rfl rfl rfl) ?_
         refine wl_s rfl (want_u rfl rfl rfl rfl) ?_
         refine wl_s rfl (want_u rfl rfl rfl rfl) ?_
         refine wl_s rfl (want_n rfl rfl rfl rfl rfl) ?_
         refine wl_v (x_pickT (tmB rfl rfl) rfl ev_c) ?_
         refine wl_v (x_move (tmB rfl rfl)) ?_
         refine wl_g (want_y rfl rfl rfl rfl rfl) ?_; intro K hK
         refine ow_call Try.func5 rfl rfl (evs_nil) (law16_awake_c _) ?_
         rintro e w ⟨rfl, hk⟩
         refine ⟨_, rfl, ?_⟩
         replace hS := hS.kept hk
         clear hk
         refine hK _ _ ?_; clear hK K
         refine wl_v (x_pickT (tmB rfl rfl) rfl (tmB rfl rfl)) ?_
         refine wl_v (x_assign (tmB rfl rfl)) ?_
         refine wl_nil ?_
         refine then_n (hK16 _ _ ?_); clear hK16 K16
         refine wp_ret ?_
         refine ret1 rfl (.tmp rfl (show _ = Value.bool _ from rfl)) ?_
         exact ⟨rfl, hS.kp.below⟩
      have hg12_2' := hg12_2; (try simp only [nrm] at hg12_2'); try (exfalso; first | with_reducible exact absurd hg12_2 Bool.false_ne_true | with_reducible exact absurd hg12_2.symm Bool.false_ne_true | omega | (simp at hg12_2; done))
      all_goals
       obtain ⟨b4, o4, rfl⟩ := view_some (viewV hS.ok 2 rfl) (by rw [flat_length mv_len]; omega)
       refine wl_gv (want_y rfl rfl rfl rfl (by rw [hg12_2]; rfl)) (x_move (tmI rfl rfl)) ?_
       refine wl_gv (want_y rfl rfl rfl rfl (by rw [hg12_2]; rfl)) (x_move (tmS rfl rfl)) ?_
       refine wl_gv (want_y rfl rfl rfl rfl (by rw [hg12_2]; rfl)) (x_move (tmI rfl rfl)) ?_
       refine wl_gv (want_y rfl rfl rfl rfl (by rw [hg12_2]; rfl)) (x_ixs Try.underlying29 ts_35 (tmS rfl rfl) (tmI rfl rfl) (by omega)) ?_
       refine wl_gv (want_y rfl rfl rfl rfl (by rw [hg12_2]; rfl)) (x_fa 0 Try.underlying35 rfl rfl ts_3 (tmP rfl rfl)) ?_
       refine wl_gv (want_y rfl rfl rfl rfl (by rw [hg12_2]; rfl)) (x_load (v := .int .i64 (O.getD i default).1) Try.underlying3 rfl (tmP rfl rfl) (cellVs hS.ok 2 rfl mv_len rfl hil rfl)) ?_
       refine wl_gv (want_y rfl rfl rfl rfl (by rw [hg12_2]; rfl)) (x_eql (tmI rfl rfl) (tmI rfl rfl)) ?_
       refine wl_v (x_pickF (tmB rfl rfl) hg12_2 (tmB rfl rfl)) ?_
       refine wl_v (x_move (tmB rfl rfl)) ?_
       refine gs_wl (tm (t := 95) rfl) (fun hg12_11 => ?_) (fun hg12_11 => ?_)
       · have hg12_11' := hg12_11; (try simp only [nrm] at hg12_11'); try (exfalso; first | with_reducible exact absurd hg12_11 Bool.false_ne_true | with_reducible exact absurd hg12_11.symm Bool.false_ne_true | omega | (simp at hg12_11; done))
         all_goals
          refine wl_s rfl (want_n rfl rfl rfl rfl (by rw [hg12_11]; rfl)) ?_
          refine wl_s rfl (want_n rfl rfl rfl rfl (by rw [hg12_11]; rfl)) ?_
          refine wl_s rfl (want_u rfl rfl rfl rfl) ?_
          refine wl_s rfl (want_u rfl rfl rfl rfl) ?_
          refine wl_s rfl (want_u rfl rfl rfl rfl) ?_
          refine wl_s rfl (want_n rfl rfl rfl rfl (by rw [hg12_11]; rfl)) ?_
          refine wl_v (x_pickT (tmB rfl rfl) hg12_11 ev_c) ?_
          refine wl_v (x_move (tmB rfl rfl)) ?_
          refine wl_g (want_y rfl rfl rfl rfl rfl) ?_; intro K hK
          refine ow_call Try.func5 rfl rfl (evs_nil) (law16_awake_c _) ?_
          rintro e w ⟨rfl, hk⟩
          refine ⟨_, rfl, ?_⟩
          replace hS := hS.kept hk
          clear hk
          refine hK _ _ ?_; clear hK K
          refine wl_v (x_pickT (tmB rfl rfl) rfl (tmB rfl rfl)) ?_
          refine wl_v (x_assign (tmB rfl rfl)) ?_
          refine wl_nil ?_
          refine then_n (hK16 _ _ ?_); clear hK16 K16
          refine wp_ret ?_
          refine ret1 rfl (.tmp rfl (show _ = Value.bool _ from rfl)) ?_
          exact ⟨rfl, hS.kp.below⟩
       have hg12_11' := hg12_11; (try simp only [nrm] at hg12_11'); try (exfalso; first | with_reducible exact absurd hg12_11 Bool.false_ne_true | with_reducible exact absurd hg12_11.symm Bool.false_ne_true | omega | (simp at hg12_11; done))
       all_goals
        refine wl_gv (want_y rfl rfl rfl rfl (by rw [hg12_11]; rfl)) (x_move (tmB rfl rfl)) ?_
        refine wl_gv (want_y rfl rfl rfl rfl (by rw [hg12_11]; rfl)) (x_move (tmB rfl rfl)) ?_
        refine gs_wls (tm (t := 97) rfl) (fun hg12_13 => ?_) (fun hg12_13 => ?_)
        · exfalso
          rcases hless with h | h | ⟨h, h'⟩
          · rw [h] at hg12_2; cases hg12_2
          · rw [h] at hg12_11; simp at hg12_11
          · rw [h] at hg12_13; cases hg12_13
        have hg12_13' := hg12_13; (try simp only [nrm] at hg12_13'); try (exfalso; first | with_reducible exact absurd hg12_13 Bool.false_ne_true | with_reducible exact absurd hg12_13.symm Bool.false_ne_true | omega | (simp at hg12_13; done))
        all_goals
         refine wl_gv (want_y rfl rfl rfl rfl (by rw [hg12_13]; rfl)) (x_move (tmI rfl rfl)) ?_
         refine wl_gv (want_y rfl rfl rfl rfl (by rw [hg12_13]; rfl)) (x_move (tmI rfl rfl)) ?_
         refine wl_gv (want_y rfl rfl rfl rfl (by rw [hg12_13]; rfl)) (x_eql (tmI rfl rfl) (tmI rfl rfl)) ?_
         refine wl_gv (want_y rfl rfl rfl rfl (by rw [hg12_11]; rfl)) (x_pickT (tmB rfl rfl) hg12_13 (tmB rfl rfl)) ?_
         refine wl_v (x_pickF (tmB rfl rfl) hg12_11 (tmB rfl rfl)) ?_
         refine wl_v (x_move (tmB rfl rfl)) ?_
         refine gs_wls (tm (t := 103) rfl) (fun hg12_19 => ?_) (fun hg12_19 => ?_)
         · exfalso
           rcases hless with h | h | ⟨h, h'⟩
           · rw [h] at hg12_2; cases hg12_2
           · rw [h] at hg12_11; simp at hg12_11
           · rw [h'] at hg12_19; simp at hg12_19
         have hg12_19' := hg12_19; (try simp only [nrm] at hg12_19'); try (exfalso; first | with_reducible exact absurd hg12_19 Bool.false_ne_true | with_reducible exact absurd hg12_19.symm Bool.false_ne_true | omega | (simp at hg12_19; done))
         all_goals
          refine wl_g (want_y rfl rfl rfl rfl (by rw [hg12_19]; rfl)) ?_; intro K hK
          refine ow_call Try.func5 rfl rfl (evs_nil) (law16_awake_c _) ?_
          rintro e w ⟨rfl, hk⟩
          refine ⟨_, rfl, ?_⟩
          replace hS := hS.kept hk
          clear hk
          refine hK _ _ ?_; clear hK K
          refine wl_v (x_pickT (tmB rfl rfl) hg12_19 (tmB rfl rfl)) ?_
          refine wl_v (x_assign (tmB rfl rfl)) ?_
          refine wl_nil ?_
          refine then_n (hK16 _ _ ?_); clear hK16 K16
          refine wp_ret ?_
          refine ret1 rfl (.tmp rfl (show _ = Value.bool _ from rfl)) ?_
          exact ⟨rfl, hS.kp.below⟩
theorem walk (v0 v1 : Value) (a2 : Int) (B : Option Addr) (nb cb : Nat) (b : List Nat) (w0 : World) {H : Type} {enc : TypeId × Value → H} {r : Reach} {b0 b1 : Nat} {d0 d1 : DataW H} {p0 p1 : List MemPlace}
    (hval0 : Value.okWide Try.prog w0 r b0 22 v0) (hd0 : DataW.Trod enc Try.prog w0 0 (fun _ => true) true 22 v0 d0 p0)
    (hval1 : Value.okWide Try.prog w0 r b1 23 v1) (hd1 : DataW.Trod enc Try.prog w0 0 (fun _ => true) true 23 v1 d1 p1) (hlt1 : ∀ p ∈ p1, p.block < w0.heap.size)
    (w2 : 0 ≤ a2 ∧ a2 < 256) (r2 : b.length = nb ∧ (B = none → cb = 0) ∧ BView w0 w0.heap.size B b ∧ nb ≤ cb) :
    Calls Try.prog 4 #[v0, v1, .int .u8 a2, .slice B nb cb] w0 fun e w' => e = .returned (.bool true) ∧ Below w0.heap.size w0 w' := by
  obtain ⟨k, rfl, hkb⟩ := arg_k16 Try.underlying22 Try.underlying5 (by kernel_rfl) (by kernel_rfl) hval0 hd0
  obtain ⟨L, cl, l, rfl, _, hlc, hcm, hvl⟩ := open_mbs hval1 hd1 hlt1
  obtain ⟨hl, _, ⟨hb, hv⟩, _⟩ := r2
  obtain ⟨at_, rfl⟩ := Int.eq_ofNat_of_zero_le w2.1
  have hmx : maxLen = 9223372036854775807 := by simp [maxLen]
  rw [hmx] at hcm
  exact walk_all k L l.length cl l at_ B nb cb b w0 hkb hvl rfl (Nat.le_trans hlc hcm) (by omega) hv hl hb
end HrwKeeps
end Go.Proofs.Ytgfmjgfeiokcdaa
