
/- Proved: FollowBytes returns true for every message and bytes, and changes no memory that was there. Conditions: none. -/
import Derived.Test.YtmokaeflnlajgaaFwG
import Derived.Test.YtmokaeflnlajgaaArgs
namespace Go.Proofs.Ytmokaeflnlajgaa
open Go.ChangeShapes Go.WideShapes Go.ChangeAt Go.RowKit
structure GMsg where
  kind : Int
  num : Nat
  l : Sl (Sl Nat)
def GMsg.V (s : GMsg) : List Value := [.int .i64 s.kind, .int .u64 (s.num : Int), .slice s.l.a s.l.l.length s.l.c]
theorem GMsg.len (s : GMsg) : s.V.length = 3 := rfl
def GMsg.ok (w : World) (s : GMsg) : Prop := (-9223372036854775808 ≤ s.kind ∧ s.kind ≤ 9223372036854775807) ∧ s.num < 18446744073709551616 ∧ okS w slV (okB w) s.l
instance : Inhabited GMsg := ⟨⟨0, 0, default⟩⟩
set_option maxRecDepth 100000 in
theorem GMsg.open_t {H : Type} {enc : TypeId × Value → H} {w : World} {fuel : Nat} {cs : List Value} {x : DataW H × List MemPlace} (hf : DataW.trod enc Try.prog w 0 (fun _ => true) true fuel 25 cs = some x) (hlt : ∀ p ∈ x.2, p.block < w.heap.size) : ∃ s : GMsg, cs = s.V ∧ s.ok w := by
  have hC : Try.prog.cellsOf 25 = 3 := by kernel_rfl
  have hl := (DataW.trod_struct Try.underlying25 hf).choose_spec.choose_spec.2.2.1
  rw [hC] at hl
  obtain ⟨y0, k0, t0, b0⟩ := field_t Try.underlying25 hf hlt 0 _ rfl
  have hC0 : Try.prog.cellsOf 3 = 1 := by kernel_rfl
  obtain ⟨s0, e0, o0⟩ := t_i64 Try.underlying3 t0 b0
  have d0 := split_drop cs 0 1 (hC0 ▸ e0)
  obtain ⟨y1, k1, t1, b1⟩ := field_t Try.underlying25 hf hlt 1 _ rfl
  have hC1 : Try.prog.cellsOf 22 = 1 := by kernel_rfl
  obtain ⟨s1, e1, o1⟩ := t_u64 Try.underlying22 t1 b1
  have d1 := split_drop cs 1 1 (hC1 ▸ e1)
  obtain ⟨y2, k2, t2, b2⟩ := field_t Try.underlying25 hf hlt 2 _ rfl
  have hC2 : Try.prog.cellsOf 23 = 1 := by kernel_rfl
  obtain ⟨s2, e2, o2⟩ := t_sl (V := slV) (ok := okB w) Try.underlying23 1 (by kernel_rfl) (by omega) (fun h1 h2 => t_bytes Try.underlying26 Try.underlying5 (by kernel_rfl) h1 h2) t2 b2
  have d2 := split_drop cs 2 1 (hC2 ▸ e2)
  refine ⟨⟨s0, s1, s2⟩, ?_, ⟨o0, o1, o2⟩⟩
  have dn : cs.drop 3 = [] := List.drop_eq_nil_of_le (by omega)
  rw [← List.drop_zero (l := cs)]
  refine d0.trans ?_
  rw [show cs.drop (0 + 1) = _ from d1]
  rw [show cs.drop (1 + 1) = _ from d2]
  rw [show cs.drop (2 + 1) = [] from dn]
  rfl
set_option maxRecDepth 100000 in
theorem GMsg.open_a {H : Type} {enc : TypeId × Value → H} {w : World} {r : Reach} {b0 : Nat} {v : Value} {d : DataW H} {ps : List MemPlace} (hval : Value.okWide Try.prog w r b0 25 v) (hd : DataW.Trod enc Try.prog w 0 (fun _ => true) true 25 v d ps) (hlt : ∀ p ∈ ps, p.block < w.heap.size) : ∃ s : GMsg, v = .agg s.V.toArray ∧ s.ok w := by
  obtain ⟨cs, rfl, _⟩ := okWide_struct Try.underlying25 hval
  obtain ⟨fuel, hf⟩ := hd
  obtain ⟨s, e, h⟩ := GMsg.open_t hf hlt
  exact ⟨s, by rw [← e]; simp [Value.cells], h⟩
namespace FollowBytes
theorem rangeVw {M : List Ent} {w : World} (hok : ∀ x ∈ M, x.ok w) {b p : Nat} {xs : List Value} (i : Nat) (hM : M[i]? = some (.vw (some ⟨b, p, none⟩) xs)) : w.rangeAt b p xs := fun j v hj => cellV hok i hM hj
theorem FwR.same {w1 w1' w2 w2' : World} {l : List Nat} {n : Nat} {k1 k2 : Int} {u1 u2 : Nat} {L1 L2 : Option Addr} {n1 n2 c1 c2 : Nat} {r1 r2 : List Row3} (h1 : FwR w1 w1' l n k1 u1 L1 n1 c1 r1) (h2 : FwR w2 w2' l n k2 u2 L2 n2 c2 r2) : k1 = k2 ∧ u1 = u2 ∧ n1 = n2 ∧ r1.map (·.2.1) = r2.map (·.2.1) := by
  obtain ⟨a1, _, _, _, b1⟩ := h1
  obtain ⟨a2, _, _, _, b2⟩ := h2
  have hm : k1 = k2 ∧ u1 = u2 ∧ r1.map (·.2.1) = r2.map (·.2.1) := by
    rcases b1 with ⟨o1, d1, e1, f1⟩ | ⟨o1, d1, e1, f1⟩
    · rcases b2 with ⟨o2, d2, e2, f2⟩ | ⟨o2, d2, e2, f2⟩
      · exact ⟨d1.trans d2.symm, e1.trans e2.symm, f1.trans f2.symm⟩
      · exact absurd o1 o2
    · rcases b2 with ⟨o2, d2, e2, f2⟩ | ⟨o2, d2, e2, f2⟩
      · exact absurd o2 o1
      · exact ⟨d1.trans d2.symm, e1.trans e2.symm, by rw [f1, f2]⟩
  refine ⟨hm.1, hm.2.1, ?_, hm.2.2⟩
  have := congrArg List.length hm.2.2
  rw [List.length_map, List.length_map] at this
  omega
theorem FwR.le {w1 w1' : World} {l : List Nat} {n : Nat} {k1 : Int} {u1 : Nat} {L1 : Option Addr} {n1 c1 : Nat} {r1 : List Row3} (hl : l.length = n) (hb : Bytes l) (h1 : FwR w1 w1' l n k1 u1 L1 n1 c1 r1) : n1 ≤ 300 ∧ ∀ r ∈ r1, r.2.1.length ≤ 100000 := by
  obtain ⟨a1, _, _, _, b1⟩ := h1
  rcases b1 with ⟨o1, d1, e1, f1⟩ | ⟨o1, d1, e1, f1⟩
  · have h := congrArg List.length f1
    rw [List.length_map, fparts_len] at h
    have hc : fcnt l n < 256 := rdN_lt hb _
    refine ⟨by omega, fun r hr => ?_⟩
    obtain ⟨i, hi⟩ := rows_mem f1 hr
    rw [hi]
    exact Nat.le_trans (fx_len hl hb _ _) (by decide)
  · subst f1
    refine ⟨by rw [← a1]; exact Nat.zero_le _, fun r hr => (by cases hr)⟩
set_option maxRecDepth 100000 in
set_option maxHeartbeats 8000000 in
theorem fbytes_no_c (kind : Int) (num : Nat) (L : Option Addr) (n c : Nat) (rows : List Row3) (w0 : World) (hv : View w0 w0.heap.size L (rows.map rowV)) (hl : rows.length = n) (hn : n ≤ 9223372036854775807) (hle : ∀ r ∈ rows, r.2.1.length ≤ 9223372036854775807) (hf : ¬ frP kind rows) :
    Calls Try.prog 12 #[.agg (fmV kind num L n c).toArray] w0 fun e w' => e = .returned (.slice none 0 0) ∧ Kp [] w0 w' := by
  have hS := (St.sv w0).vcons rfl hv
  refine ent (n := 40) Try.func12 rfl rfl ?_
  refine wp_seq_k ?_; intro K1 hK1
  refine wlit ?_
  refine wl_e rfl ?_; intro K hK
  refine ow_box hS (tmA rfl rfl) rfl ?_
  clear hS; intro g0_0 w hg0_0 hS
  refine hK _ _ ?_; clear hK K
  refine wl_v (x_assign ev_c) ?_
  refine wl_nil ?_
  refine then_n (hK1 _ _ ?_); clear hK1 K1
  refine wp_seq_k ?_; intro K2 hK2
  refine wp_seq_k ?_; intro K3 hK3
  refine wlit ?_
  refine wl_v (x_loadA (cs := [_, _, _]) Try.underlying29 rfl ts_29 (tmP rfl rfl) (rangeB hS.ok 0 rfl rfl)) ?_
  refine wl_e rfl ?_; intro K hK
  refine ow_call Try.func10 rfl rfl (evs_cons (tmA rfl rfl) <| evs_nil) (fright_c kind num L n c rows _ (viewV hS.ok 1 rfl) hl hn hle) ?_
  rintro e w ⟨rfl, hk⟩
  refine ⟨_, rfl, ?_⟩
  replace hS := hS.kept hk
  clear hk
  refine hK _ _ ?_; clear hK K
  refine wl_v (x_not (tmB rfl rfl)) ?_
  refine wl_nil ?_
  refine then_n (hK3 _ _ ?_); clear hK3 K3
  refine cnds (tm rfl) (fun hc0 => ?_) (fun hc0 => ?_)
  · exfalso
    exact hf (by simpa using hc0)
  try (exfalso; first | with_reducible exact absurd hc0 Bool.false_ne_true | with_reducible exact absurd hc0.symm Bool.false_ne_true | (simp only [nrm] at hc0; omega) | (simp at hc0; done))
  all_goals
   try simp only [nrm] at hc0
   refine wp_seq_k ?_; intro K4 hK4
   refine wlit ?_
   refine wl_v (x_assign ev_c) ?_
   refine wl_nil ?_
   refine then_n (hK4 _ _ ?_); clear hK4 K4
   refine wp_ret ?_
   refine then_r ?_
   refine ret1 rfl (.tmp rfl (show _ = Value.slice _ _ _ from rfl)) ?_
   exact ⟨rfl, hS.kp⟩
theorem fbytes_any_c (kind : Int) (num : Nat) (L : Option Addr) (n c : Nat) (rows : List Row3) (w0 : World) (hv : View w0 w0.heap.size L (rows.map rowV)) (hV : Vws w0 rows) (hl : rows.length = n) (hn : n ≤ 9223372036854775807) (hle : ∀ r ∈ rows, r.2.1.length ≤ 9223372036854775807) (hby : ∀ r ∈ rows, Bytes r.2.1) (hnum : num ≤ 18446744073709551615) (hsum : (fbody rows).length ≤ 5000) :
    Calls Try.prog 12 #[.agg (fmV kind num L n c).toArray] w0 fun e w' => ∃ G m cg l3, e = .returned (.slice G m cg) ∧ NewV w0 w' G (l3.map u8v) ∧ l3.length = m ∧ m ≤ 5010 ∧ Bytes l3 ∧ (frP kind rows → ∃ kn : Nat, kind = (kn : Int) ∧ l3 = fenc kn num rows n) ∧ (¬ frP kind rows → m = 0) ∧ Kp [] w0 w' := by
  by_cases hf : frP kind rows
  · obtain ⟨kn, rfl⟩ : ∃ kn : Nat, kind = (kn : Int) := by
      have := hf.2
      rw [cntP_iff] at this
      exact ⟨kind.toNat, by omega⟩
    refine Calls.mono (fbytes_c kn num L n c rows w0 hv hV hl hf hnum (by omega)) ?_
    rintro e w' ⟨G, m, cg, rfl, hm, _, hn, hk⟩
    exact ⟨G, m, cg, fenc kn num rows n, rfl, New.view hn, hm.symm, by rw [hm]; exact Nat.le_trans (fenc_le _ _ _ _) (by omega), fenc_bytes _ _ _ _ hby, fun _ => ⟨kn, rfl, rfl⟩, fun h => absurd hf h, hk⟩
  · refine Calls.mono (fbytes_no_c kind num L n c rows w0 hv hl hn hle hf) ?_
    rintro e w' ⟨rfl, hk⟩
    exact ⟨none, 0, 0, [], rfl, NewV.nil_ _ _ _, rfl, by omega, Bytes.nil, fun h => absurd h hf, fun _ => rfl, hk⟩
set_option maxRecDepth 100000 in
set_option maxHeartbeats 8000000 in
theorem walk_all (kind : Int) (num : Nat) (L : Option Addr) (n c : Nat) (rows : List Row3) (B : Option Addr) (nb cb : Nat) (b : List Nat) (w0 : World) (hv : View w0 w0.heap.size L (rows.map rowV)) (hV : Vws w0 rows) (hl : rows.length = n) (hn : n ≤ 9223372036854775807) (hle : ∀ r ∈ rows, r.2.1.length ≤ 9223372036854775807) (hby : ∀ r ∈ rows, Bytes r.2.1) (hnum : num ≤ 18446744073709551615)
    (hvb : View w0 w0.heap.size B (b.map u8v)) (hlb : b.length = nb) (hcb : nb ≤ cb) (hbb : Bytes b) :
    Calls Try.prog 3 #[.agg (fmV kind num L n c).toArray, .slice B nb cb] w0 fun e w' => e = .returned (.bool true) ∧ Below w0.heap.size w0 w' := by
  have hS := ((St.sv w0).vcons rfl hvb).vcons rfl hv
  have hB0 := Kp.refl [] w0
  refine ent (n := 92) Try.func3 rfl rfl ?_
  refine wp_seq_k ?_; intro K1 hK1
  refine wlit ?_
  refine wl_e rfl ?_; intro K hK
  refine ow_box hS (tmA rfl rfl) rfl ?_
  clear hS; intro g0_0 w hg0_0 hS
  refine hK _ _ ?_; clear hK K
  refine wl_v (x_assign ev_c) ?_
  refine wl_nil ?_
  refine then_n (hK1 _ _ ?_); clear hK1 K1
  refine wp_seq_k ?_; intro K2 hK2
  refine wp_seq_k ?_; intro K3 hK3
  refine wlit ?_
  refine wl_v (x_loadA (cs := [_, _, _]) Try.underlying25 rfl ts_25 (tmP rfl rfl) (rangeB hS.ok 0 rfl rfl)) ?_
  refine wl_e rfl ?_; intro K hK
  refine ow_call Try.func4 rfl rfl (evs_cons (tmA rfl rfl) <| evs_nil) (flight_c kind num L n c rows _ (viewV hS.ok 1 rfl) hl hn hle) ?_
  rintro e w ⟨li, rfl, hlight, hk⟩
  refine ⟨_, rfl, ?_⟩
  replace hS := hS.kept hk
  clear hk
  refine hK _ _ ?_; clear hK K
  refine wl_v (x_not (tmB rfl rfl)) ?_
  refine wl_v (x_move (tmB rfl rfl)) ?_
  refine gs_wl (tm (t := 15) rfl) (fun hg1_3 => ?_) (fun hg1_3 => ?_)
  · have hg1_3' := hg1_3; (try simp only [nrm] at hg1_3'); try (exfalso; first | with_reducible exact absurd hg1_3 Bool.false_ne_true | with_reducible exact absurd hg1_3.symm Bool.false_ne_true | omega | (simp at hg1_3; done))
    all_goals
     refine wl_s rfl (want_n rfl rfl rfl rfl (by rw [hg1_3]; rfl)) ?_
     refine wl_s rfl (want_n rfl rfl rfl rfl (by rw [hg1_3]; rfl)) ?_
     refine wl_s rfl (want_n rfl rfl rfl rfl (by rw [hg1_3]; rfl)) ?_
     refine wl_v (x_pickT (tmB rfl rfl) hg1_3 ev_c) ?_
     refine wl_nil ?_
     refine then_n (hK3 _ _ ?_); clear hK3 K3
     refine cnd_t (tmB rfl rfl) rfl ?_
     refine wp_seq_k ?_; intro K4 hK4
     refine wlit ?_
     refine wl_e rfl ?_; intro K hK
     refine ow_call Try.func5 rfl rfl (evs_nil) (law27_awake_c _) ?_
     rintro e w ⟨rfl, hk⟩
     refine ⟨_, rfl, ?_⟩
     replace hS := hS.kept hk
     clear hk
     refine hK _ _ ?_; clear hK K
     refine wl_v (x_assign (tmB rfl rfl)) ?_
     refine wl_nil ?_
     refine then_n (hK4 _ _ ?_); clear hK4 K4
     refine wp_ret ?_
     refine then_r ?_
     refine ret1 rfl (.tmp rfl (show _ = Value.bool _ from rfl)) ?_
     first
       | exact ⟨rfl, (hB0.trans hS.kp).below⟩
       | exact ⟨by simp_all, (hB0.trans hS.kp).below⟩
  have hg1_3' := hg1_3; (try simp only [nrm] at hg1_3'); try (exfalso; first | with_reducible exact absurd hg1_3 Bool.false_ne_true | with_reducible exact absurd hg1_3.symm Bool.false_ne_true | omega | (simp at hg1_3; done))
  all_goals
   refine wl_gv (want_y rfl rfl rfl rfl (by rw [hg1_3]; rfl)) (x_move (tmS rfl rfl)) ?_
   refine wl_gv (want_y rfl rfl rfl rfl (by rw [hg1_3]; rfl)) (x_len Try.underlying26 (tmS rfl rfl)) ?_
   refine wl_gv (want_y rfl rfl rfl rfl (by rw [hg1_3]; rfl)) (x_gtr (tmI rfl rfl) (ev_cN 3000)) ?_
   refine wl_v (x_pickF (tmB rfl rfl) hg1_3 (tmB rfl rfl)) ?_
   refine wl_nil ?_
   refine then_n (hK3 _ _ ?_); clear hK3 K3
   refine cnd (tm rfl) (fun hc0 => ?_) (fun hc0 => ?_)
   · try (exfalso; first | with_reducible exact absurd hc0 Bool.false_ne_true | with_reducible exact absurd hc0.symm Bool.false_ne_true | (simp only [nrm] at hc0; omega) | (simp at hc0; done))
     all_goals
      try simp only [nrm] at hc0
      refine wp_seq_k ?_; intro K5 hK5
      refine wlit ?_
      refine wl_e rfl ?_; intro K hK
      refine ow_call Try.func5 rfl rfl (evs_nil) (law27_awake_c _) ?_
      rintro e w ⟨rfl, hk⟩
      refine ⟨_, rfl, ?_⟩
      replace hS := hS.kept hk
      clear hk
      refine hK _ _ ?_; clear hK K
      refine wl_v (x_assign (tmB rfl rfl)) ?_
      refine wl_nil ?_
      refine then_n (hK5 _ _ ?_); clear hK5 K5
      refine wp_ret ?_
      refine then_r ?_
      refine ret1 rfl (.tmp rfl (show _ = Value.bool _ from rfl)) ?_
      first
        | exact ⟨rfl, (hB0.trans hS.kp).below⟩
        | exact ⟨by simp_all, (hB0.trans hS.kp).below⟩
   try (exfalso; first | with_reducible exact absurd hc0 Bool.false_ne_true | with_reducible exact absurd hc0.symm Bool.false_ne_true | (simp only [nrm] at hc0; omega) | (simp at hc0; done))
   all_goals
    try simp only [nrm] at hc0
    have hli : li = true := by simpa using hg1_3
    obtain ⟨hn30, hsum⟩ := hlight hli
    refine wp_skip ?_
    refine then_n (hK2 _ _ ?_); clear hK2 K2
    refine wp_seq_k ?_; intro K6 hK6
    refine wlit ?_
    refine wl_v (x_move (tmS rfl rfl)) ?_
    refine wl_e rfl ?_; intro K hK
    refine ow_call Try.func6 rfl rfl (evs_cons (tmS rfl rfl) <| evs_nil) (fparse_c nb B cb b _ (viewV hS.ok 2 rfl) hlb (by omega) hbb) ?_
    rintro e w ⟨k1, u1, L1, n1, c1, rows1, er1, rfl, hF1, he1, he1', hc1, hk⟩
    refine ⟨_, rfl, ?_⟩
    replace hS := hS.addn hk hF1.2.1 -- +v1
    have hV1 := hF1.2.2.1
    replace hV := hV.kept hS.kp
    replace hB0 := hB0.trans hS.kp
    replace hS := hS.enter [] [0, 1, 2, 3] rfl rfl
    clear hk
    try replace hS := St.nm (M' := [.vw _ _, .blk _ _ [_, _, _], .vw _ _, .vw _ _]) hS rfl
    refine hK _ _ ?_; clear hK K
    refine wl_v (x_move (tmT rfl rfl)) ?_
    refine wl_v (x_ext (tmT rfl rfl) rfl) ?_
    refine wl_v (x_ext (tmT rfl rfl) rfl) ?_
    refine wl_e rfl ?_; intro K hK
    refine ow_alloc hS tz_29 rfl ?_
    clear hS; intro g3_5 w hg3_5 hS
    refine hK _ _ ?_; clear hK K
    refine wl_e rfl ?_; intro K hK
    refine ow_storeA hS 0 rfl ts_29 (tmP rfl rfl) (tmA rfl rfl) rfl rfl rfl ?_
    clear hS; intro w hS
    try replace hS := St.nm (M' := [.blk _ _ [_, _, _], .vw _ _, .blk _ _ [_, _, _], .vw _ _, .vw _ _]) hS rfl
    refine hK _ _ ?_; clear hK K
    refine wl_v (x_assign (tmI rfl rfl)) ?_
    refine wl_nil ?_
    refine then_n (hK6 _ _ ?_); clear hK6 K6
    refine wp_seq_k ?_; intro K7 hK7
    refine wlit ?_
    refine wl_v (x_move (tmS rfl rfl)) ?_
    refine wl_e rfl ?_; intro K hK
    refine ow_call Try.func7 rfl rfl (evs_cons (tmS rfl rfl) <| evs_nil) (rfparse_c nb B cb b _ (viewV hS.ok 4 rfl) hlb hcb (by omega) hbb) ?_
    rintro e w ⟨k2, u2, L2, n2, c2, rows2, ok2, rfl, hF2, he2, hc2, hk⟩
    refine ⟨_, rfl, ?_⟩
    replace hS := hS.addn hk hF2.2.1 -- +v2
    have hV2 := hF2.2.2.1
    replace hV := hV.kept hS.kp
    replace hV1 := hV1.kept hS.kp
    replace hB0 := hB0.trans hS.kp
    replace hS := hS.enter [] [0, 1, 2, 3, 4, 5] rfl rfl
    clear hk
    obtain ⟨rfl, rfl, rfl, hrr⟩ := FwR.same hF1 hF2
    have hb1 := FwR.le hlb hbb hF1
    have hl1 := hF1.1
    have hby1 := hF1.2.2.2.1
    have hE : (er1 = 0 ∧ ok2 = true) ∨ (er1 = 21 ∧ ok2 = false) := by
      by_cases h : fOk b nb
      · exact .inl ⟨he1 h, he2.2 h⟩
      · refine .inr ⟨he1' h, ?_⟩
        cases ok2 with
        | false => rfl
        | true => exact absurd (he2.1 rfl) h
    clear hF1 hF2 he1 he1' he2
    try replace hS := St.nm (M' := [.vw _ _, .blk _ _ [_, _, _], .vw _ _, .blk _ _ [_, _, _], .vw _ _, .vw _ _]) hS rfl
    refine hK _ _ ?_; clear hK K
    refine wl_v (x_move (tmT rfl rfl)) ?_
    refine wl_v (x_ext (tmT rfl rfl) rfl) ?_
    refine wl_v (x_ext (tmT rfl rfl) rfl) ?_
    refine wl_e rfl ?_; intro K hK
    refine ow_alloc hS tz_25 rfl ?_
    clear hS; intro g4_5 w hg4_5 hS
    refine hK _ _ ?_; clear hK K
    refine wl_e rfl ?_; intro K hK
    refine ow_storeA hS 0 rfl ts_25 (tmP rfl rfl) (tmA rfl rfl) rfl rfl rfl ?_
    clear hS; intro w hS
    try replace hS := St.nm (M' := [.blk _ _ [_, _, _], .vw _ _, .blk _ _ [_, _, _], .vw _ _, .blk _ _ [_, _, _], .vw _ _, .vw _ _]) hS rfl
    refine hK _ _ ?_; clear hK K
    refine wl_v (x_assign (tmB rfl rfl)) ?_
    refine wl_nil ?_
    refine then_n (hK7 _ _ ?_); clear hK7 K7
    refine wp_seq_k ?_; intro K8 hK8
    refine wp_seq_k ?_; intro K9 hK9
    refine rg_startk 0 hS mixed_ ?_
    clear hS; intro w hS
    refine rg_take 0 rfl rfl (by kernel_rfl) (by kernel_rfl) (by kernel_rfl) (want_0) (fun w hok => x_loadA (cs := fmV k1 u1 L1 n1 c1) Try.underlying29 rfl rfl (tmP rfl rfl) (rangeVw hok 2 rfl)) ?_
    refine rg_take 1 rfl rfl (by kernel_rfl) (by kernel_rfl) (by kernel_rfl) (want_0) (fun w hok => x_loadA (cs := [_, _, _]) Try.underlying25 rfl ts_25 (tmP rfl rfl) (rangeB hok 0 rfl rfl)) ?_
    refine rg_step 2 rfl (by kernel_rfl) (want_0) (oks_drop hS 0 rfl) ?_; intro K hK
    refine ow_call Try.func8 rfl rfl (evs_cons (tmA rfl rfl) <| evs_cons (tmA rfl rfl) <| evs_nil) (fis_c k1 u1 L1 n1 c1 rows1 L2 c2 rows2 _ (viewV hS.ok 3 rfl) (viewV hS.ok 1 rfl) (hV1.kept hS.kp) (hV2.kept hS.kp) hl1 hb1.1 hb1.2 hby1 hrr) ?_
    rintro e w ⟨rfl, hk⟩
    refine ⟨_, rfl, ?_⟩
    replace hS := hS.kept hk
    clear hk
    refine hK _ _ ?_; clear hK K
    refine rg_take 3 rfl rfl (by kernel_rfl) (by kernel_rfl) (by kernel_rfl) (want_0) (fun w hok => x_not (tmB rfl rfl)) ?_
    refine rg_take 4 rfl rfl (by kernel_rfl) (by kernel_rfl) (by kernel_rfl) (want_0) (fun w hok => x_move (tmB rfl rfl)) ?_
    refine gs_rg (tm (t := 35) rfl) (fun hg5_4 => ?_) (fun hg5_4 => ?_)
    · exfalso
      simp at hg5_4
    have hg5_4' := hg5_4; (try simp only [nrm] at hg5_4'); try (exfalso; first | with_reducible exact absurd hg5_4 Bool.false_ne_true | with_reducible exact absurd hg5_4.symm Bool.false_ne_true | omega | (simp at hg5_4; done))
    all_goals
     refine rg_take 5 rfl rfl (by kernel_rfl) (by kernel_rfl) (by kernel_rfl) (want_y rfl rfl rfl rfl (by rw [hg5_4]; rfl)) (fun w hok => x_move (tmI rfl rfl)) ?_
     refine rg_take 6 rfl rfl (by kernel_rfl) (by kernel_rfl) (by kernel_rfl) (want_y rfl rfl rfl rfl (by rw [hg5_4]; rfl)) (fun w hok => x_eql (tmI rfl rfl) (ev_cN 0)) ?_
     refine rg_take 7 rfl rfl (by kernel_rfl) (by kernel_rfl) (by kernel_rfl) (want_y rfl rfl rfl rfl (by rw [hg5_4]; rfl)) (fun w hok => x_move (tmB rfl rfl)) ?_
     refine rg_take 8 rfl rfl (by kernel_rfl) (by kernel_rfl) (by kernel_rfl) (want_y rfl rfl rfl rfl (by rw [hg5_4]; rfl)) (fun w hok => x_bneq Try.underlying4 (tmB rfl rfl) (tmB rfl rfl)) ?_
     refine rg_take 9 rfl rfl (by kernel_rfl) (by kernel_rfl) (by kernel_rfl) (want_0) (fun w hok => x_pickF (tmB rfl rfl) hg5_4 (tmB rfl rfl)) ?_
     refine rg_take 10 rfl rfl (by kernel_rfl) (by kernel_rfl) (by kernel_rfl) (want_0) (fun w hok => x_move (tmB rfl rfl)) ?_
     refine gs_rg (tm (t := 41) rfl) (fun hg5_10 => ?_) (fun hg5_10 => ?_)
     · exfalso
       rcases hE with ⟨h1, h2⟩ | ⟨h1, h2⟩ <;> simp [h1, h2] at hg5_10
     have hg5_10' := hg5_10; (try simp only [nrm] at hg5_10'); try (exfalso; first | with_reducible exact absurd hg5_10 Bool.false_ne_true | with_reducible exact absurd hg5_10.symm Bool.false_ne_true | omega | (simp at hg5_10; done))
     all_goals
      refine rg_take 11 rfl rfl (by kernel_rfl) (by kernel_rfl) (by kernel_rfl) (want_y rfl rfl rfl rfl (by rw [hg5_10]; rfl)) (fun w hok => x_move (tmB rfl rfl)) ?_
      refine rg_take 12 rfl rfl (by kernel_rfl) (by kernel_rfl) (by kernel_rfl) (want_y rfl rfl rfl rfl (by rw [hg5_10]; rfl)) (fun w hok => x_not (tmB rfl rfl)) ?_
      refine rg_take 13 rfl rfl (by kernel_rfl) (by kernel_rfl) (by kernel_rfl) (want_y rfl rfl rfl rfl (by rw [hg5_10]; rfl)) (fun w hok => x_move (tmB rfl rfl)) ?_
      refine gs_rg (tm (t := 44) rfl) (fun hg5_13 => ?_) (fun hg5_13 => ?_)
      · have hg5_13' := hg5_13; (try simp only [nrm] at hg5_13'); try (exfalso; first | with_reducible exact absurd hg5_13 Bool.false_ne_true | with_reducible exact absurd hg5_13.symm Bool.false_ne_true | omega | (simp at hg5_13; done))
        all_goals
         refine rg_take 14 rfl rfl (by kernel_rfl) (by kernel_rfl) (by kernel_rfl) (want_y rfl rfl rfl rfl (by rw [hg5_13]; rfl)) (fun w hok => x_move (tmI rfl rfl)) ?_
         refine rg_take 15 rfl rfl (by kernel_rfl) (by kernel_rfl) (by kernel_rfl) (want_y rfl rfl rfl rfl (by rw [hg5_13]; rfl)) (fun w hok => x_neq (tmI rfl rfl) (ev_cN 21)) ?_
         refine rg_take 16 rfl rfl (by kernel_rfl) (by kernel_rfl) (by kernel_rfl) (want_y rfl rfl rfl rfl (by rw [hg5_10]; rfl)) (fun w hok => x_pickT (tmB rfl rfl) hg5_13 (tmB rfl rfl)) ?_
         refine rg_take 17 rfl rfl (by kernel_rfl) (by kernel_rfl) (by kernel_rfl) (want_0) (fun w hok => x_pickF (tmB rfl rfl) hg5_10 (tmB rfl rfl)) ?_
         refine rg_take 18 rfl rfl (by kernel_rfl) (by kernel_rfl) (by kernel_rfl) (want_0) (fun w hok => x_move (tmB rfl rfl)) ?_
         refine gs_rg (tm (t := 49) rfl) (fun hg5_18 => ?_) (fun hg5_18 => ?_)
         · exfalso
           rcases hE with ⟨h1, h2⟩ | ⟨h1, h2⟩ <;> simp_all
         have hg5_18' := hg5_18; (try simp only [nrm] at hg5_18'); try (exfalso; first | with_reducible exact absurd hg5_18 Bool.false_ne_true | with_reducible exact absurd hg5_18.symm Bool.false_ne_true | omega | (simp at hg5_18; done))
         all_goals
          refine rg_take 19 rfl rfl (by kernel_rfl) (by kernel_rfl) (by kernel_rfl) (want_y rfl rfl rfl rfl (by rw [hg5_18]; rfl)) (fun w hok => x_loadA (cs := fmV kind num L n c) Try.underlying25 rfl rfl (tmP rfl rfl) (rangeVw hok 4 rfl)) ?_
          refine rg_take 22 rfl rfl (by kernel_rfl) (by kernel_rfl) (by kernel_rfl) (want_y rfl rfl rfl rfl (by rw [hg5_18]; rfl)) (fun w hok => x_loadA (cs := fmV kind num L n c) Try.underlying25 rfl rfl (tmP rfl rfl) (rangeVw hok 4 rfl)) ?_
          refine rg_step 20 rfl (by kernel_rfl) (want_y rfl rfl rfl rfl (by rw [hg5_18]; rfl)) (oks_drop hS 0 rfl) ?_; intro K hK
          refine ow_call Try.func9 rfl rfl (evs_cons (tmA rfl rfl) <| evs_nil) (fto_c kind num L n c _) ?_
          rintro e w ⟨rfl, hk⟩
          refine ⟨_, rfl, ?_⟩
          replace hS := hS.kept hk
          clear hk
          refine hK _ _ ?_; clear hK K
          refine rg_step 21 rfl (by kernel_rfl) (want_y rfl rfl rfl rfl (by rw [hg5_18]; rfl)) (oks_drop hS 0 rfl) ?_; intro K hK
          refine ow_call Try.func10 rfl rfl (evs_cons (tmA rfl rfl) <| evs_nil) (fright_c kind num L n c rows _ (viewV hS.ok 5 rfl) hl hn hle) ?_
          rintro e w ⟨rfl, hk⟩
          refine ⟨_, rfl, ?_⟩
          replace hS := hS.kept hk
          clear hk
          refine hK _ _ ?_; clear hK K
          refine rg_step 23 rfl (by kernel_rfl) (want_y rfl rfl rfl rfl (by rw [hg5_18]; rfl)) (oks_drop hS 0 rfl) ?_; intro K hK
          refine ow_call Try.func11 rfl rfl (evs_cons (tmA rfl rfl) <| evs_nil) (rfright_c kind num L n c rows _ (viewV hS.ok 5 rfl) hl hn hle) ?_
          rintro e w ⟨rfl, hk⟩
          refine ⟨_, rfl, ?_⟩
          replace hS := hS.kept hk
          clear hk
          refine hK _ _ ?_; clear hK K
          refine rg_take 24 rfl rfl (by kernel_rfl) (by kernel_rfl) (by kernel_rfl) (want_y rfl rfl rfl rfl (by rw [hg5_18]; rfl)) (fun w hok => x_bneq Try.underlying4 (tmB rfl rfl) (tmB rfl rfl)) ?_
          refine rg_take 25 rfl rfl (by kernel_rfl) (by kernel_rfl) (by kernel_rfl) (want_0) (fun w hok => x_pickF (tmB rfl rfl) hg5_18 (tmB rfl rfl)) ?_
          refine rg_done (oks_drop hS 0 rfl) (by kernel_rfl) ?_
          refine then_n (hK9 _ _ ?_); clear hK9 K9
          refine cnd (tm rfl) (fun hc1 => ?_) (fun hc1 => ?_)
          · exfalso
            simp at hc1
          try (exfalso; first | with_reducible exact absurd hc1 Bool.false_ne_true | with_reducible exact absurd hc1.symm Bool.false_ne_true | (simp only [nrm] at hc1; omega) | (simp at hc1; done))
          all_goals
           try simp only [nrm] at hc1
           refine wp_skip ?_
           refine then_n (hK8 _ _ ?_); clear hK8 K8
           refine wp_seq_k ?_; intro K10 hK10
           refine wlit ?_
           refine wl_v (x_loadA (cs := fmV kind num L n c) Try.underlying25 rfl rfl (tmP rfl rfl) (rangeVw hS.ok 4 rfl)) ?_
           refine wl_e rfl ?_; intro K hK
           refine ow_call Try.func9 rfl rfl (evs_cons (tmA rfl rfl) <| evs_nil) (fto_c kind num L n c _) ?_
           rintro e w ⟨rfl, hk⟩
           refine ⟨_, rfl, ?_⟩
           replace hS := hS.kept hk
           clear hk
           refine hK _ _ ?_; clear hK K
           refine wl_e rfl ?_; intro K hK
           refine ow_call Try.func12 rfl rfl (evs_cons (tmA rfl rfl) <| evs_nil) (fbytes_any_c kind num L n c rows _ (viewV hS.ok 5 rfl) (hV.kept hS.kp) hl hn hle hby hnum hsum) ?_
           rintro e w ⟨G, m, cg, l3, rfl, hnv, hl3, hm3, hb3, hyes, hno, hk⟩
           refine ⟨_, rfl, ?_⟩
           replace hS := hS.addn hk hnv -- +vg
           clear hk hnv
           refine hK _ _ ?_; clear hK K
           refine wl_v (x_assign (tmS rfl rfl)) ?_
           refine wl_nil ?_
           refine then_n (hK10 _ _ ?_); clear hK10 K10
           refine wp_seq_k ?_; intro K11 hK11
           refine wp_seq_k ?_; intro K12 hK12
           refine wlit ?_
           refine wl_v (x_loadA (cs := fmV kind num L n c) Try.underlying25 rfl rfl (tmP rfl rfl) (rangeVw hS.ok 5 rfl)) ?_
           refine wl_e rfl ?_; intro K hK
           refine ow_call Try.func11 rfl rfl (evs_cons (tmA rfl rfl) <| evs_nil) (rfright_c kind num L n c rows _ (viewV hS.ok 6 rfl) hl hn hle) ?_
           rintro e w ⟨rfl, hk⟩
           refine ⟨_, rfl, ?_⟩
           replace hS := hS.kept hk
           clear hk
           refine hK _ _ ?_; clear hK K
           refine wl_v (x_not (tmB rfl rfl)) ?_
           refine wl_nil ?_
           refine then_n (hK12 _ _ ?_); clear hK12 K12
           refine cnd (tm rfl) (fun hc2 => ?_) (fun hc2 => ?_)
           · try (exfalso; first | with_reducible exact absurd hc2 Bool.false_ne_true | with_reducible exact absurd hc2.symm Bool.false_ne_true | (simp only [nrm] at hc2; omega) | (simp at hc2; done))
             all_goals
              try simp only [nrm] at hc2
              have hm0 : m = 0 := hno (by simpa using hc2)
              refine wp_seq_k ?_; intro K13 hK13
              refine wlit ?_
              refine wl_v (x_move (tmS rfl rfl)) ?_
              refine wl_v (x_len Try.underlying26 (tmS rfl rfl)) ?_
              refine wl_v (x_eql (tmI rfl rfl) (ev_cN 0)) ?_
              refine wl_v (x_move (tmB rfl rfl)) ?_
              refine gs_wl (tm (t := 66) rfl) (fun hg9_3 => ?_) (fun hg9_3 => ?_)
              · have hg9_3' := hg9_3; (try simp only [nrm] at hg9_3'); try (exfalso; first | with_reducible exact absurd hg9_3 Bool.false_ne_true | with_reducible exact absurd hg9_3.symm Bool.false_ne_true | omega | (simp at hg9_3; done))
                all_goals
                 refine wl_g (want_y rfl rfl rfl rfl (by rw [hg9_3]; rfl)) ?_; intro K hK
                 refine ow_call Try.func5 rfl rfl (evs_nil) (law27_awake_c _) ?_
                 rintro e w ⟨rfl, hk⟩
                 refine ⟨_, rfl, ?_⟩
                 replace hS := hS.kept hk
                 clear hk
                 refine hK _ _ ?_; clear hK K
                 refine wl_v (x_pickT (tmB rfl rfl) hg9_3 (tmB rfl rfl)) ?_
                 refine wl_v (x_assign (tmB rfl rfl)) ?_
                 refine wl_nil ?_
                 refine then_n (hK13 _ _ ?_); clear hK13 K13
                 refine wp_ret ?_
                 refine then_r ?_
                 refine ret1 rfl (.tmp rfl (show _ = Value.bool _ from rfl)) ?_
                 first
                   | exact ⟨rfl, (hB0.trans hS.kp).below⟩
                   | exact ⟨by simp_all, (hB0.trans hS.kp).below⟩
              have hg9_3' := hg9_3; (try simp only [nrm] at hg9_3'); try (exfalso; first | with_reducible exact absurd hg9_3 Bool.false_ne_true | with_reducible exact absurd hg9_3.symm Bool.false_ne_true | omega | (simp at hg9_3; done))
              all_goals
               refine wl_s rfl (want_n rfl rfl rfl rfl (by rw [hg9_3]; rfl)) ?_
               refine wl_v (x_pickF (tmB rfl rfl) hg9_3 ev_c) ?_
               refine wl_v (x_assign (tmB rfl rfl)) ?_
               refine wl_nil ?_
               refine then_n (hK13 _ _ ?_); clear hK13 K13
               refine wp_ret ?_
               refine then_r ?_
               refine ret1 rfl (.tmp rfl (show _ = Value.bool _ from rfl)) ?_
               first
                 | exact ⟨rfl, (hB0.trans hS.kp).below⟩
                 | exact ⟨by simp_all, (hB0.trans hS.kp).below⟩
           try (exfalso; first | with_reducible exact absurd hc2 Bool.false_ne_true | with_reducible exact absurd hc2.symm Bool.false_ne_true | (simp only [nrm] at hc2; omega) | (simp at hc2; done))
           all_goals
            try simp only [nrm] at hc2
            have hfr : frP kind rows := by simpa using hc2
            obtain ⟨kn, rfl, rfl⟩ := hyes hfr
            refine wp_skip ?_
            refine then_n (hK11 _ _ ?_); clear hK11 K11
            refine wp_seq_k ?_; intro K14 hK14
            refine wlit ?_
            refine wl_v (x_move (tmS rfl rfl)) ?_
            refine wl_e rfl ?_; intro K hK
            refine ow_call Try.func6 rfl rfl (evs_cons (tmS rfl rfl) <| evs_nil) (fparse_c m G cg _ _ (viewV hS.ok 0 rfl) hl3 (by omega) hb3) ?_
            rintro e w ⟨k3, u3, L3, n3, c3, rows3, er3, rfl, hF3, he3, he3', hc3, hk⟩
            refine ⟨_, rfl, ?_⟩
            replace hS := hS.addn hk hF3.2.1 -- +v3
            have hV3 := hF3.2.2.1
            replace hV := hV.kept hS.kp
            replace hB0 := hB0.trans hS.kp
            replace hS := (hS.pick [0, 1, 6, 7] rfl rfl).enter [] [0, 1, 2, 3] rfl rfl --ents v3,vg,g0_0,vl
            clear hk
            have hb4 := FwR.le hl3 hb3 hF3
            have hback := back_all (l := fenc kn num rows n) (N := m) (kn := kn) (num := num) (rows := rows) (by rw [hl]) hl3 hfr hnum
            have her3 : er3 = 0 := he3 hback.1
            obtain ⟨hk3, hu3, hr3⟩ : k3 = (kn : Int) ∧ u3 = num ∧ rows3.map (·.2.1) = rows.map (·.2.1) := by
              rcases hF3.2.2.2.2 with ⟨_, d1, d2, d3⟩ | ⟨o, _⟩
              · exact ⟨by rw [d1, hback.2.1], by rw [d2, hback.2.2.1], by rw [d3, hback.2.2.2]⟩
              · exact absurd hback.1 o
            have hn3 : n3 = n := by
              have h1 := congrArg List.length hr3
              rw [List.length_map, List.length_map] at h1
              have h2 := hF3.1
              omega
            have hl4 := hF3.1
            have hby4 := hF3.2.2.2.1
            subst her3
            subst hk3
            obtain rfl : num = u3 := hu3.symm
            obtain rfl : n = n3 := hn3.symm
            clear hF3 he3 he3' hback hno hyes
            try replace hS := St.nm (M' := [.vw _ _, .vw _ _, .blk _ _ [_, _, _], .vw _ _]) hS rfl
            refine hK _ _ ?_; clear hK K
            refine wl_v (x_move (tmT rfl rfl)) ?_
            refine wl_v (x_ext (tmT rfl rfl) rfl) ?_
            refine wl_v (x_ext (tmT rfl rfl) rfl) ?_
            refine wl_e rfl ?_; intro K hK
            refine ow_alloc hS tz_29 rfl ?_
            clear hS; intro g10_5 w hg10_5 hS
            refine hK _ _ ?_; clear hK K
            refine wl_e rfl ?_; intro K hK
            refine ow_storeA hS 0 rfl ts_29 (tmP rfl rfl) (tmA rfl rfl) rfl rfl rfl ?_
            clear hS; intro w hS
            try replace hS := St.nm (M' := [.blk _ _ [_, _, _], .vw _ _, .vw _ _, .blk _ _ [_, _, _], .vw _ _]) hS rfl
            refine hK _ _ ?_; clear hK K
            refine wl_v (x_assign (tmI rfl rfl)) ?_
            refine wl_nil ?_
            refine then_n (hK14 _ _ ?_); clear hK14 K14
            refine wp_seq_k ?_; intro K15 hK15
            refine rg_startk 0 hS mixed_ ?_
            clear hS; intro w hS
            refine rg_take 0 rfl rfl (by kernel_rfl) (by kernel_rfl) (by kernel_rfl) (want_0) (fun w hok => x_move (tmS rfl rfl)) ?_
            refine rg_take 1 rfl rfl (by kernel_rfl) (by kernel_rfl) (by kernel_rfl) (want_0) (fun w hok => x_bstr Try.underlying26 Try.underlying5 Try.underlying9 (tmS rfl rfl) (viewV hok 2 rfl) hb3 hl3) ?_
            refine rg_take 2 rfl rfl (by kernel_rfl) (by kernel_rfl) (by kernel_rfl) (want_0) (fun w hok => x_loadA (cs := fmV (kn : Int) num L n c) Try.underlying25 rfl rfl (tmP rfl rfl) (rangeVw hok 3 rfl)) ?_
            refine rg_step 3 rfl (by kernel_rfl) (want_0) (oks_drop hS 0 rfl) ?_; intro K hK
            refine ow_call Try.func13 rfl rfl (evs_cons (tmA rfl rfl) <| evs_nil) (rfbytes_c kn num L n c rows _ (viewV hS.ok 4 rfl) (hV.kept hS.kp) hl hfr hnum (by omega)) ?_
            rintro e w ⟨G2, m2, cg2, rfl, hm2, _, hn2, hk⟩
            refine ⟨_, rfl, ?_⟩
            replace hS := hS.addn hk (New.view hn2) -- +vh
            clear hk hn2
            refine hK _ _ ?_; clear hK K
            refine rg_step 4 rfl (by kernel_rfl) (want_0) (oks_drop hS 1 rfl) ?_; intro K hK
            refine ow_v (x_bstr Try.underlying26 Try.underlying5 Try.underlying9 (tmS rfl rfl) (viewV hS.ok 0 rfl) hb3 hm2.symm) ?_
            refine hK _ _ ?_; clear hK K
            refine rg_take 5 rfl rfl (by kernel_rfl) (by kernel_rfl) (by kernel_rfl) (want_0) (fun w hok => x_Geql (tmG rfl rfl) (tmG rfl rfl) (by first | assumption | exact Bytes.nil | (repeat' (first | assumption | exact Bytes.nil | exact be_bytes _ _ | apply Bytes.append | apply Bytes.take | apply Bytes.drop | apply Bytes.replicate))) (by first | assumption | exact Bytes.nil | (repeat' (first | assumption | exact Bytes.nil | exact be_bytes _ _ | apply Bytes.append | apply Bytes.take | apply Bytes.drop | apply Bytes.replicate)))) ?_
            refine rg_take 6 rfl rfl (by kernel_rfl) (by kernel_rfl) (by kernel_rfl) (want_0) (fun w hok => x_move (tmB rfl rfl)) ?_
            refine gs_rg (tm (t := 80) rfl) (fun hg11_6 => ?_) (fun hg11_6 => ?_)
            · have hg11_6' := hg11_6; (try simp only [nrm] at hg11_6'); try (exfalso; first | with_reducible exact absurd hg11_6 Bool.false_ne_true | with_reducible exact absurd hg11_6.symm Bool.false_ne_true | omega | (simp at hg11_6; done))
              all_goals
               refine rg_take 7 rfl rfl (by kernel_rfl) (by kernel_rfl) (by kernel_rfl) (want_y rfl rfl rfl rfl (by rw [hg11_6]; rfl)) (fun w hok => x_loadA (cs := [_, _, _]) Try.underlying29 rfl ts_29 (tmP rfl rfl) (rangeB hok 0 rfl rfl)) ?_
               refine rg_take 8 rfl rfl (by kernel_rfl) (by kernel_rfl) (by kernel_rfl) (want_y rfl rfl rfl rfl (by rw [hg11_6]; rfl)) (fun w hok => x_loadA (cs := fmV (kn : Int) num L n c) Try.underlying25 rfl rfl (tmP rfl rfl) (rangeVw hok 3 rfl)) ?_
               refine rg_step 9 rfl (by kernel_rfl) (want_y rfl rfl rfl rfl (by rw [hg11_6]; rfl)) (oks_drop hS 1 rfl) ?_; intro K hK
               refine ow_call Try.func8 rfl rfl (evs_cons (tmA rfl rfl) <| evs_cons (tmA rfl rfl) <| evs_nil) (fis_c (kn : Int) num L3 n c3 rows3 L c rows _ (viewV hS.ok 2 rfl) (viewV hS.ok 5 rfl) (hV3.kept hS.kp) (hV.kept hS.kp) hl4 hb4.1 hb4.2 hby4 hr3) ?_
               rintro e w ⟨rfl, hk⟩
               refine ⟨_, rfl, ?_⟩
               replace hS := hS.kept hk
               clear hk
               refine hK _ _ ?_; clear hK K
               refine rg_take 10 rfl rfl (by kernel_rfl) (by kernel_rfl) (by kernel_rfl) (want_0) (fun w hok => x_pickT (tmB rfl rfl) hg11_6 (tmB rfl rfl)) ?_
               refine rg_take 11 rfl rfl (by kernel_rfl) (by kernel_rfl) (by kernel_rfl) (want_0) (fun w hok => x_move (tmB rfl rfl)) ?_
               refine gs_rg (tm (t := 85) rfl) (fun hg11_11 => ?_) (fun hg11_11 => ?_)
               · have hg11_11' := hg11_11; (try simp only [nrm] at hg11_11'); try (exfalso; first | with_reducible exact absurd hg11_11 Bool.false_ne_true | with_reducible exact absurd hg11_11.symm Bool.false_ne_true | omega | (simp at hg11_11; done))
                 all_goals
                  refine rg_take 12 rfl rfl (by kernel_rfl) (by kernel_rfl) (by kernel_rfl) (want_y rfl rfl rfl rfl (by rw [hg11_11]; rfl)) (fun w hok => x_move (tmI rfl rfl)) ?_
                  refine rg_take 13 rfl rfl (by kernel_rfl) (by kernel_rfl) (by kernel_rfl) (want_y rfl rfl rfl rfl (by rw [hg11_11]; rfl)) (fun w hok => x_eql (tmI rfl rfl) (ev_cN 0)) ?_
                  refine rg_take 14 rfl rfl (by kernel_rfl) (by kernel_rfl) (by kernel_rfl) (want_0) (fun w hok => x_pickT (tmB rfl rfl) hg11_11 (tmB rfl rfl)) ?_
                  refine rg_take 15 rfl rfl (by kernel_rfl) (by kernel_rfl) (by kernel_rfl) (want_0) (fun w hok => x_move (tmB rfl rfl)) ?_
                  refine gs_rg (tm (t := 89) rfl) (fun hg11_15 => ?_) (fun hg11_15 => ?_)
                  · have hg11_15' := hg11_15; (try simp only [nrm] at hg11_15'); try (exfalso; first | with_reducible exact absurd hg11_15 Bool.false_ne_true | with_reducible exact absurd hg11_15.symm Bool.false_ne_true | omega | (simp at hg11_15; done))
                    all_goals
                     refine rg_step 16 rfl (by kernel_rfl) (want_y rfl rfl rfl rfl (by rw [hg11_15]; rfl)) (oks_drop hS 1 rfl) ?_; intro K hK
                     refine ow_call Try.func5 rfl rfl (evs_nil) (law27_awake_c _) ?_
                     rintro e w ⟨rfl, hk⟩
                     refine ⟨_, rfl, ?_⟩
                     replace hS := hS.kept hk
                     clear hk
                     refine hK _ _ ?_; clear hK K
                     refine rg_take 17 rfl rfl (by kernel_rfl) (by kernel_rfl) (by kernel_rfl) (want_0) (fun w hok => x_pickT (tmB rfl rfl) hg11_15 (tmB rfl rfl)) ?_
                     refine rg_take 18 rfl rfl (by kernel_rfl) (by kernel_rfl) (by kernel_rfl) (want_0) (fun w hok => x_assign (tmB rfl rfl)) ?_
                     refine rg_done (oks_drop hS 1 rfl) (by kernel_rfl) ?_
                     refine then_n (hK15 _ _ ?_); clear hK15 K15
                     refine wp_ret ?_
                     refine ret1 rfl (.tmp rfl (show _ = Value.bool _ from rfl)) ?_
                     first
                       | exact ⟨rfl, (hB0.trans hS.kp).below⟩
                       | exact ⟨by simp_all, (hB0.trans hS.kp).below⟩
                  have hg11_15' := hg11_15; (try simp only [nrm] at hg11_15'); try (exfalso; first | with_reducible exact absurd hg11_15 Bool.false_ne_true | with_reducible exact absurd hg11_15.symm Bool.false_ne_true | omega | (simp at hg11_15; done))
                  all_goals
                   refine rg_skip 16 rfl rfl (by kernel_rfl) (by kernel_rfl) (by kernel_rfl) (want_n rfl rfl rfl rfl (by rw [hg11_15]; rfl)) ?_
                   refine rg_take 17 rfl rfl (by kernel_rfl) (by kernel_rfl) (by kernel_rfl) (want_0) (fun w hok => x_pickF (tmB rfl rfl) hg11_15 ev_c) ?_
                   refine rg_take 18 rfl rfl (by kernel_rfl) (by kernel_rfl) (by kernel_rfl) (want_0) (fun w hok => x_assign (tmB rfl rfl)) ?_
                   refine rg_done (oks_drop hS 1 rfl) (by kernel_rfl) ?_
                   refine then_n (hK15 _ _ ?_); clear hK15 K15
                   refine wp_ret ?_
                   refine ret1 rfl (.tmp rfl (show _ = Value.bool _ from rfl)) ?_
                   first
                     | exact ⟨rfl, (hB0.trans hS.kp).below⟩
                     | exact ⟨by simp_all, (hB0.trans hS.kp).below⟩
               have hg11_11' := hg11_11; (try simp only [nrm] at hg11_11'); try (exfalso; first | with_reducible exact absurd hg11_11 Bool.false_ne_true | with_reducible exact absurd hg11_11.symm Bool.false_ne_true | omega | (simp at hg11_11; done))
               all_goals
                refine rg_skip 12 rfl rfl (by kernel_rfl) (by kernel_rfl) (by kernel_rfl) (want_n rfl rfl rfl rfl (by rw [hg11_11]; rfl)) ?_
                refine rg_skip 13 rfl rfl (by kernel_rfl) (by kernel_rfl) (by kernel_rfl) (want_n rfl rfl rfl rfl (by rw [hg11_11]; rfl)) ?_
                refine rg_take 14 rfl rfl (by kernel_rfl) (by kernel_rfl) (by kernel_rfl) (want_0) (fun w hok => x_pickF (tmB rfl rfl) hg11_11 ev_c) ?_
                refine rg_take 15 rfl rfl (by kernel_rfl) (by kernel_rfl) (by kernel_rfl) (want_0) (fun w hok => x_move (tmB rfl rfl)) ?_
                refine rg_skip 16 rfl rfl (by kernel_rfl) (by kernel_rfl) (by kernel_rfl) (want_n rfl rfl rfl rfl rfl) ?_
                refine rg_take 17 rfl rfl (by kernel_rfl) (by kernel_rfl) (by kernel_rfl) (want_0) (fun w hok => x_pickF (tmB rfl rfl) rfl ev_c) ?_
                refine rg_take 18 rfl rfl (by kernel_rfl) (by kernel_rfl) (by kernel_rfl) (want_0) (fun w hok => x_assign (tmB rfl rfl)) ?_
                refine rg_done (oks_drop hS 1 rfl) (by kernel_rfl) ?_
                refine then_n (hK15 _ _ ?_); clear hK15 K15
                refine wp_ret ?_
                refine ret1 rfl (.tmp rfl (show _ = Value.bool _ from rfl)) ?_
                first
                  | exact ⟨rfl, (hB0.trans hS.kp).below⟩
                  | exact ⟨by simp_all, (hB0.trans hS.kp).below⟩
            have hg11_6' := hg11_6; (try simp only [nrm] at hg11_6'); try (exfalso; first | with_reducible exact absurd hg11_6 Bool.false_ne_true | with_reducible exact absurd hg11_6.symm Bool.false_ne_true | omega | (simp at hg11_6; done))
            all_goals
             refine rg_skip 7 rfl rfl (by kernel_rfl) (by kernel_rfl) (by kernel_rfl) (want_n rfl rfl rfl rfl (by rw [hg11_6]; rfl)) ?_
             refine rg_skip 8 rfl rfl (by kernel_rfl) (by kernel_rfl) (by kernel_rfl) (want_n rfl rfl rfl rfl (by rw [hg11_6]; rfl)) ?_
             refine rg_skip 9 rfl rfl (by kernel_rfl) (by kernel_rfl) (by kernel_rfl) (want_n rfl rfl rfl rfl (by rw [hg11_6]; rfl)) ?_
             refine rg_take 10 rfl rfl (by kernel_rfl) (by kernel_rfl) (by kernel_rfl) (want_0) (fun w hok => x_pickF (tmB rfl rfl) hg11_6 ev_c) ?_
             refine rg_take 11 rfl rfl (by kernel_rfl) (by kernel_rfl) (by kernel_rfl) (want_0) (fun w hok => x_move (tmB rfl rfl)) ?_
             refine rg_skip 12 rfl rfl (by kernel_rfl) (by kernel_rfl) (by kernel_rfl) (want_n rfl rfl rfl rfl rfl) ?_
             refine rg_skip 13 rfl rfl (by kernel_rfl) (by kernel_rfl) (by kernel_rfl) (want_n rfl rfl rfl rfl rfl) ?_
             refine rg_take 14 rfl rfl (by kernel_rfl) (by kernel_rfl) (by kernel_rfl) (want_0) (fun w hok => x_pickF (tmB rfl rfl) rfl ev_c) ?_
             refine rg_take 15 rfl rfl (by kernel_rfl) (by kernel_rfl) (by kernel_rfl) (want_0) (fun w hok => x_move (tmB rfl rfl)) ?_
             refine rg_skip 16 rfl rfl (by kernel_rfl) (by kernel_rfl) (by kernel_rfl) (want_n rfl rfl rfl rfl rfl) ?_
             refine rg_take 17 rfl rfl (by kernel_rfl) (by kernel_rfl) (by kernel_rfl) (want_0) (fun w hok => x_pickF (tmB rfl rfl) rfl ev_c) ?_
             refine rg_take 18 rfl rfl (by kernel_rfl) (by kernel_rfl) (by kernel_rfl) (want_0) (fun w hok => x_assign (tmB rfl rfl)) ?_
             refine rg_done (oks_drop hS 1 rfl) (by kernel_rfl) ?_
             refine then_n (hK15 _ _ ?_); clear hK15 K15
             refine wp_ret ?_
             refine ret1 rfl (.tmp rfl (show _ = Value.bool _ from rfl)) ?_
             first
               | exact ⟨rfl, (hB0.trans hS.kp).below⟩
               | exact ⟨by simp_all, (hB0.trans hS.kp).below⟩
      have hg5_13' := hg5_13; (try simp only [nrm] at hg5_13'); try (exfalso; first | with_reducible exact absurd hg5_13 Bool.false_ne_true | with_reducible exact absurd hg5_13.symm Bool.false_ne_true | omega | (simp at hg5_13; done))
      all_goals
       refine rg_skip 14 rfl rfl (by kernel_rfl) (by kernel_rfl) (by kernel_rfl) (want_n rfl rfl rfl rfl (by rw [hg5_13]; rfl)) ?_
       refine rg_skip 15 rfl rfl (by kernel_rfl) (by kernel_rfl) (by kernel_rfl) (want_n rfl rfl rfl rfl (by rw [hg5_13]; rfl)) ?_
       refine rg_take 16 rfl rfl (by kernel_rfl) (by kernel_rfl) (by kernel_rfl) (want_y rfl rfl rfl rfl (by rw [hg5_10]; rfl)) (fun w hok => x_pickF (tmB rfl rfl) hg5_13 ev_c) ?_
       refine rg_take 17 rfl rfl (by kernel_rfl) (by kernel_rfl) (by kernel_rfl) (want_0) (fun w hok => x_pickF (tmB rfl rfl) hg5_10 (tmB rfl rfl)) ?_
       refine rg_take 18 rfl rfl (by kernel_rfl) (by kernel_rfl) (by kernel_rfl) (want_0) (fun w hok => x_move (tmB rfl rfl)) ?_
       refine rg_take 19 rfl rfl (by kernel_rfl) (by kernel_rfl) (by kernel_rfl) (want_y rfl rfl rfl rfl rfl) (fun w hok => x_loadA (cs := fmV kind num L n c) Try.underlying25 rfl rfl (tmP rfl rfl) (rangeVw hok 4 rfl)) ?_
       refine rg_take 22 rfl rfl (by kernel_rfl) (by kernel_rfl) (by kernel_rfl) (want_y rfl rfl rfl rfl rfl) (fun w hok => x_loadA (cs := fmV kind num L n c) Try.underlying25 rfl rfl (tmP rfl rfl) (rangeVw hok 4 rfl)) ?_
       refine rg_step 20 rfl (by kernel_rfl) (want_y rfl rfl rfl rfl rfl) (oks_drop hS 0 rfl) ?_; intro K hK
       refine ow_call Try.func9 rfl rfl (evs_cons (tmA rfl rfl) <| evs_nil) (fto_c kind num L n c _) ?_
       rintro e w ⟨rfl, hk⟩
       refine ⟨_, rfl, ?_⟩
       replace hS := hS.kept hk
       clear hk
       refine hK _ _ ?_; clear hK K
       refine rg_step 21 rfl (by kernel_rfl) (want_y rfl rfl rfl rfl rfl) (oks_drop hS 0 rfl) ?_; intro K hK
       refine ow_call Try.func10 rfl rfl (evs_cons (tmA rfl rfl) <| evs_nil) (fright_c kind num L n c rows _ (viewV hS.ok 5 rfl) hl hn hle) ?_
       rintro e w ⟨rfl, hk⟩
       refine ⟨_, rfl, ?_⟩
       replace hS := hS.kept hk
       clear hk
       refine hK _ _ ?_; clear hK K
       refine rg_step 23 rfl (by kernel_rfl) (want_y rfl rfl rfl rfl rfl) (oks_drop hS 0 rfl) ?_; intro K hK
       refine ow_call Try.func11 rfl rfl (evs_cons (tmA rfl rfl) <| evs_nil) (rfright_c kind num L n c rows _ (viewV hS.ok 5 rfl) hl hn hle) ?_
       rintro e w ⟨rfl, hk⟩
       refine ⟨_, rfl, ?_⟩
       replace hS := hS.kept hk
       clear hk
       refine hK _ _ ?_; clear hK K
       refine rg_take 24 rfl rfl (by kernel_rfl) (by kernel_rfl) (by kernel_rfl) (want_y rfl rfl rfl rfl rfl) (fun w hok => x_bneq Try.underlying4 (tmB rfl rfl) (tmB rfl rfl)) ?_
       refine rg_take 25 rfl rfl (by kernel_rfl) (by kernel_rfl) (by kernel_rfl) (want_0) (fun w hok => x_pickF (tmB rfl rfl) rfl (tmB rfl rfl)) ?_
       refine rg_done (oks_drop hS 0 rfl) (by kernel_rfl) ?_
       refine then_n (hK9 _ _ ?_); clear hK9 K9
       refine cnd (tm rfl) (fun hc1 => ?_) (fun hc1 => ?_)
       · exfalso
         simp at hc1
       try (exfalso; first | with_reducible exact absurd hc1 Bool.false_ne_true | with_reducible exact absurd hc1.symm Bool.false_ne_true | (simp only [nrm] at hc1; omega) | (simp at hc1; done))
       all_goals
        try simp only [nrm] at hc1
        refine wp_skip ?_
        refine then_n (hK8 _ _ ?_); clear hK8 K8
        refine wp_seq_k ?_; intro K16 hK16
        refine wlit ?_
        refine wl_v (x_loadA (cs := fmV kind num L n c) Try.underlying25 rfl rfl (tmP rfl rfl) (rangeVw hS.ok 4 rfl)) ?_
        refine wl_e rfl ?_; intro K hK
        refine ow_call Try.func9 rfl rfl (evs_cons (tmA rfl rfl) <| evs_nil) (fto_c kind num L n c _) ?_
        rintro e w ⟨rfl, hk⟩
        refine ⟨_, rfl, ?_⟩
        replace hS := hS.kept hk
        clear hk
        refine hK _ _ ?_; clear hK K
        refine wl_e rfl ?_; intro K hK
        refine ow_call Try.func12 rfl rfl (evs_cons (tmA rfl rfl) <| evs_nil) (fbytes_any_c kind num L n c rows _ (viewV hS.ok 5 rfl) (hV.kept hS.kp) hl hn hle hby hnum hsum) ?_
        rintro e w ⟨G, m, cg, l3, rfl, hnv, hl3, hm3, hb3, hyes, hno, hk⟩
        refine ⟨_, rfl, ?_⟩
        replace hS := hS.addn hk hnv -- +vg
        clear hk hnv
        refine hK _ _ ?_; clear hK K
        refine wl_v (x_assign (tmS rfl rfl)) ?_
        refine wl_nil ?_
        refine then_n (hK16 _ _ ?_); clear hK16 K16
        refine wp_seq_k ?_; intro K17 hK17
        refine wp_seq_k ?_; intro K18 hK18
        refine wlit ?_
        refine wl_v (x_loadA (cs := fmV kind num L n c) Try.underlying25 rfl rfl (tmP rfl rfl) (rangeVw hS.ok 5 rfl)) ?_
        refine wl_e rfl ?_; intro K hK
        refine ow_call Try.func11 rfl rfl (evs_cons (tmA rfl rfl) <| evs_nil) (rfright_c kind num L n c rows _ (viewV hS.ok 6 rfl) hl hn hle) ?_
        rintro e w ⟨rfl, hk⟩
        refine ⟨_, rfl, ?_⟩
        replace hS := hS.kept hk
        clear hk
        refine hK _ _ ?_; clear hK K
        refine wl_v (x_not (tmB rfl rfl)) ?_
        refine wl_nil ?_
        refine then_n (hK18 _ _ ?_); clear hK18 K18
        refine cnd (tm rfl) (fun hc2 => ?_) (fun hc2 => ?_)
        · try (exfalso; first | with_reducible exact absurd hc2 Bool.false_ne_true | with_reducible exact absurd hc2.symm Bool.false_ne_true | (simp only [nrm] at hc2; omega) | (simp at hc2; done))
          all_goals
           try simp only [nrm] at hc2
           have hm0 : m = 0 := hno (by simpa using hc2)
           refine wp_seq_k ?_; intro K19 hK19
           refine wlit ?_
           refine wl_v (x_move (tmS rfl rfl)) ?_
           refine wl_v (x_len Try.underlying26 (tmS rfl rfl)) ?_
           refine wl_v (x_eql (tmI rfl rfl) (ev_cN 0)) ?_
           refine wl_v (x_move (tmB rfl rfl)) ?_
           refine gs_wl (tm (t := 66) rfl) (fun hg9_3 => ?_) (fun hg9_3 => ?_)
           · have hg9_3' := hg9_3; (try simp only [nrm] at hg9_3'); try (exfalso; first | with_reducible exact absurd hg9_3 Bool.false_ne_true | with_reducible exact absurd hg9_3.symm Bool.false_ne_true | omega | (simp at hg9_3; done))
             all_goals
              refine wl_g (want_y rfl rfl rfl rfl (by rw [hg9_3]; rfl)) ?_; intro K hK
              refine ow_call Try.func5 rfl rfl (evs_nil) (law27_awake_c _) ?_
              rintro e w ⟨rfl, hk⟩
              refine ⟨_, rfl, ?_⟩
              replace hS := hS.kept hk
              clear hk
              refine hK _ _ ?_; clear hK K
              refine wl_v (x_pickT (tmB rfl rfl) hg9_3 (tmB rfl rfl)) ?_
              refine wl_v (x_assign (tmB rfl rfl)) ?_
              refine wl_nil ?_
              refine then_n (hK19 _ _ ?_); clear hK19 K19
              refine wp_ret ?_
              refine then_r ?_
              refine ret1 rfl (.tmp rfl (show _ = Value.bool _ from rfl)) ?_
              first
                | exact ⟨rfl, (hB0.trans hS.kp).below⟩
                | exact ⟨by simp_all, (hB0.trans hS.kp).below⟩
           have hg9_3' := hg9_3; (try simp only [nrm] at hg9_3'); try (exfalso; first | with_reducible exact absurd hg9_3 Bool.false_ne_true | with_reducible exact absurd hg9_3.symm Bool.false_ne_true | omega | (simp at hg9_3; done))
           all_goals
            refine wl_s rfl (want_n rfl rfl rfl rfl (by rw [hg9_3]; rfl)) ?_
            refine wl_v (x_pickF (tmB rfl rfl) hg9_3 ev_c) ?_
            refine wl_v (x_assign (tmB rfl rfl)) ?_
            refine wl_nil ?_
            refine then_n (hK19 _ _ ?_); clear hK19 K19
            refine wp_ret ?_
            refine then_r ?_
            refine ret1 rfl (.tmp rfl (show _ = Value.bool _ from rfl)) ?_
            first
              | exact ⟨rfl, (hB0.trans hS.kp).below⟩
              | exact ⟨by simp_all, (hB0.trans hS.kp).below⟩
        try (exfalso; first | with_reducible exact absurd hc2 Bool.false_ne_true | with_reducible exact absurd hc2.symm Bool.false_ne_true | (simp only [nrm] at hc2; omega) | (simp at hc2; done))
        all_goals
         try simp only [nrm] at hc2
         have hfr : frP kind rows := by simpa using hc2
         obtain ⟨kn, rfl, rfl⟩ := hyes hfr
         refine wp_skip ?_
         refine then_n (hK17 _ _ ?_); clear hK17 K17
         refine wp_seq_k ?_; intro K20 hK20
         refine wlit ?_
         refine wl_v (x_move (tmS rfl rfl)) ?_
         refine wl_e rfl ?_; intro K hK
         refine ow_call Try.func6 rfl rfl (evs_cons (tmS rfl rfl) <| evs_nil) (fparse_c m G cg _ _ (viewV hS.ok 0 rfl) hl3 (by omega) hb3) ?_
         rintro e w ⟨k3, u3, L3, n3, c3, rows3, er3, rfl, hF3, he3, he3', hc3, hk⟩
         refine ⟨_, rfl, ?_⟩
         replace hS := hS.addn hk hF3.2.1 -- +v3
         have hV3 := hF3.2.2.1
         replace hV := hV.kept hS.kp
         replace hB0 := hB0.trans hS.kp
         replace hS := (hS.pick [0, 1, 6, 7] rfl rfl).enter [] [0, 1, 2, 3] rfl rfl --ents v3,vg,g0_0,vl
         clear hk
         have hb4 := FwR.le hl3 hb3 hF3
         have hback := back_all (l := fenc kn num rows n) (N := m) (kn := kn) (num := num) (rows := rows) (by rw [hl]) hl3 hfr hnum
         have her3 : er3 = 0 := he3 hback.1
         obtain ⟨hk3, hu3, hr3⟩ : k3 = (kn : Int) ∧ u3 = num ∧ rows3.map (·.2.1) = rows.map (·.2.1) := by
           rcases hF3.2.2.2.2 with ⟨_, d1, d2, d3⟩ | ⟨o, _⟩
           · exact ⟨by rw [d1, hback.2.1], by rw [d2, hback.2.2.1], by rw [d3, hback.2.2.2]⟩
           · exact absurd hback.1 o
         have hn3 : n3 = n := by
           have h1 := congrArg List.length hr3
           rw [List.length_map, List.length_map] at h1
           have h2 := hF3.1
           omega
         have hl4 := hF3.1
         have hby4 := hF3.2.2.2.1
         subst her3
         subst hk3
         obtain rfl : num = u3 := hu3.symm
         obtain rfl : n = n3 := hn3.symm
         clear hF3 he3 he3' hback hno hyes
         try replace hS := St.nm (M' := [.vw _ _, .vw _ _, .blk _ _ [_, _, _], .vw _ _]) hS rfl
         refine hK _ _ ?_; clear hK K
         refine wl_v (x_move (tmT rfl rfl)) ?_
         refine wl_v (x_ext (tmT rfl rfl) rfl) ?_
         refine wl_v (x_ext (tmT rfl rfl) rfl) ?_
         refine wl_e rfl ?_; intro K hK
         refine ow_alloc hS tz_29 rfl ?_
         clear hS; intro g10_5 w hg10_5 hS
         refine hK _ _ ?_; clear hK K
         refine wl_e rfl ?_; intro K hK
         refine ow_storeA hS 0 rfl ts_29 (tmP rfl rfl) (tmA rfl rfl) rfl rfl rfl ?_
         clear hS; intro w hS
         try replace hS := St.nm (M' := [.blk _ _ [_, _, _], .vw _ _, .vw _ _, .blk _ _ [_, _, _], .vw _ _]) hS rfl
         refine hK _ _ ?_; clear hK K
         refine wl_v (x_assign (tmI rfl rfl)) ?_
         refine wl_nil ?_
         refine then_n (hK20 _ _ ?_); clear hK20 K20
         refine wp_seq_k ?_; intro K21 hK21
         refine rg_startk 0 hS mixed_ ?_
         clear hS; intro w hS
         refine rg_take 0 rfl rfl (by kernel_rfl) (by kernel_rfl) (by kernel_rfl) (want_0) (fun w hok => x_move (tmS rfl rfl)) ?_
         refine rg_take 1 rfl rfl (by kernel_rfl) (by kernel_rfl) (by kernel_rfl) (want_0) (fun w hok => x_bstr Try.underlying26 Try.underlying5 Try.underlying9 (tmS rfl rfl) (viewV hok 2 rfl) hb3 hl3) ?_
         refine rg_take 2 rfl rfl (by kernel_rfl) (by kernel_rfl) (by kernel_rfl) (want_0) (fun w hok => x_loadA (cs := fmV (kn : Int) num L n c) Try.underlying25 rfl rfl (tmP rfl rfl) (rangeVw hok 3 rfl)) ?_
         refine rg_step 3 rfl (by kernel_rfl) (want_0) (oks_drop hS 0 rfl) ?_; intro K hK
         refine ow_call Try.func13 rfl rfl (evs_cons (tmA rfl rfl) <| evs_nil) (rfbytes_c kn num L n c rows _ (viewV hS.ok 4 rfl) (hV.kept hS.kp) hl hfr hnum (by omega)) ?_
         rintro e w ⟨G2, m2, cg2, rfl, hm2, _, hn2, hk⟩
         refine ⟨_, rfl, ?_⟩
         replace hS := hS.addn hk (New.view hn2) -- +vh
         clear hk hn2
         refine hK _ _ ?_; clear hK K
         refine rg_step 4 rfl (by kernel_rfl) (want_0) (oks_drop hS 1 rfl) ?_; intro K hK
         refine ow_v (x_bstr Try.underlying26 Try.underlying5 Try.underlying9 (tmS rfl rfl) (viewV hS.ok 0 rfl) hb3 hm2.symm) ?_
         refine hK _ _ ?_; clear hK K
         refine rg_take 5 rfl rfl (by kernel_rfl) (by kernel_rfl) (by kernel_rfl) (want_0) (fun w hok => x_Geql (tmG rfl rfl) (tmG rfl rfl) (by first | assumption | exact Bytes.nil | (repeat' (first | assumption | exact Bytes.nil | exact be_bytes _ _ | apply Bytes.append | apply Bytes.take | apply Bytes.drop | apply Bytes.replicate))) (by first | assumption | exact Bytes.nil | (repeat' (first | assumption | exact Bytes.nil | exact be_bytes _ _ | apply Bytes.append | apply Bytes.take | apply Bytes.drop | apply Bytes.replicate)))) ?_
         refine rg_take 6 rfl rfl (by kernel_rfl) (by kernel_rfl) (by kernel_rfl) (want_0) (fun w hok => x_move (tmB rfl rfl)) ?_
         refine gs_rg (tm (t := 80) rfl) (fun hg11_6 => ?_) (fun hg11_6 => ?_)
         · have hg11_6' := hg11_6; (try simp only [nrm] at hg11_6'); try (exfalso; first | with_reducible exact absurd hg11_6 Bool.false_ne_true | with_reducible exact absurd hg11_6.symm Bool.false_ne_true | omega | (simp at hg11_6; done))
           all_goals
            refine rg_take 7 rfl rfl (by kernel_rfl) (by kernel_rfl) (by kernel_rfl) (want_y rfl rfl rfl rfl (by rw [hg11_6]; rfl)) (fun w hok => x_loadA (cs := [_, _, _]) Try.underlying29 rfl ts_29 (tmP rfl rfl) (rangeB hok 0 rfl rfl)) ?_
            refine rg_take 8 rfl rfl (by kernel_rfl) (by kernel_rfl) (by kernel_rfl) (want_y rfl rfl rfl rfl (by rw [hg11_6]; rfl)) (fun w hok => x_loadA (cs := fmV (kn : Int) num L n c) Try.underlying25 rfl rfl (tmP rfl rfl) (rangeVw hok 3 rfl)) ?_
            refine rg_step 9 rfl (by kernel_rfl) (want_y rfl rfl rfl rfl (by rw [hg11_6]; rfl)) (oks_drop hS 1 rfl) ?_; intro K hK
            refine ow_call Try.func8 rfl rfl (evs_cons (tmA rfl rfl) <| evs_cons (tmA rfl rfl) <| evs_nil) (fis_c (kn : Int) num L3 n c3 rows3 L c rows _ (viewV hS.ok 2 rfl) (viewV hS.ok 5 rfl) (hV3.kept hS.kp) (hV.kept hS.kp) hl4 hb4.1 hb4.2 hby4 hr3) ?_
            rintro e w ⟨rfl, hk⟩
            refine ⟨_, rfl, ?_⟩
            replace hS := hS.kept hk
            clear hk
            refine hK _ _ ?_; clear hK K
            refine rg_take 10 rfl rfl (by kernel_rfl) (by kernel_rfl) (by kernel_rfl) (want_0) (fun w hok => x_pickT (tmB rfl rfl) hg11_6 (tmB rfl rfl)) ?_
            refine rg_take 11 rfl rfl (by kernel_rfl) (by kernel_rfl) (by kernel_rfl) (want_0) (fun w hok => x_move (tmB rfl rfl)) ?_
            refine gs_rg (tm (t := 85) rfl) (fun hg11_11 => ?_) (fun hg11_11 => ?_)
            · have hg11_11' := hg11_11; (try simp only [nrm] at hg11_11'); try (exfalso; first | with_reducible exact absurd hg11_11 Bool.false_ne_true | with_reducible exact absurd hg11_11.symm Bool.false_ne_true | omega | (simp at hg11_11; done))
              all_goals
               refine rg_take 12 rfl rfl (by kernel_rfl) (by kernel_rfl) (by kernel_rfl) (want_y rfl rfl rfl rfl (by rw [hg11_11]; rfl)) (fun w hok => x_move (tmI rfl rfl)) ?_
               refine rg_take 13 rfl rfl (by kernel_rfl) (by kernel_rfl) (by kernel_rfl) (want_y rfl rfl rfl rfl (by rw [hg11_11]; rfl)) (fun w hok => x_eql (tmI rfl rfl) (ev_cN 0)) ?_
               refine rg_take 14 rfl rfl (by kernel_rfl) (by kernel_rfl) (by kernel_rfl) (want_0) (fun w hok => x_pickT (tmB rfl rfl) hg11_11 (tmB rfl rfl)) ?_
               refine rg_take 15 rfl rfl (by kernel_rfl) (by kernel_rfl) (by kernel_rfl) (want_0) (fun w hok => x_move (tmB rfl rfl)) ?_
               refine gs_rg (tm (t := 89) rfl) (fun hg11_15 => ?_) (fun hg11_15 => ?_)
               · have hg11_15' := hg11_15; (try simp only [nrm] at hg11_15'); try (exfalso; first | with_reducible exact absurd hg11_15 Bool.false_ne_true | with_reducible exact absurd hg11_15.symm Bool.false_ne_true | omega | (simp at hg11_15; done))
                 all_goals
                  refine rg_step 16 rfl (by kernel_rfl) (want_y rfl rfl rfl rfl (by rw [hg11_15]; rfl)) (oks_drop hS 1 rfl) ?_; intro K hK
                  refine ow_call Try.func5 rfl rfl (evs_nil) (law27_awake_c _) ?_
                  rintro e w ⟨rfl, hk⟩
                  refine ⟨_, rfl, ?_⟩
                  replace hS := hS.kept hk
                  clear hk
                  refine hK _ _ ?_; clear hK K
                  refine rg_take 17 rfl rfl (by kernel_rfl) (by kernel_rfl) (by kernel_rfl) (want_0) (fun w hok => x_pickT (tmB rfl rfl) hg11_15 (tmB rfl rfl)) ?_
                  refine rg_take 18 rfl rfl (by kernel_rfl) (by kernel_rfl) (by kernel_rfl) (want_0) (fun w hok => x_assign (tmB rfl rfl)) ?_
                  refine rg_done (oks_drop hS 1 rfl) (by kernel_rfl) ?_
                  refine then_n (hK21 _ _ ?_); clear hK21 K21
                  refine wp_ret ?_
                  refine ret1 rfl (.tmp rfl (show _ = Value.bool _ from rfl)) ?_
                  first
                    | exact ⟨rfl, (hB0.trans hS.kp).below⟩
                    | exact ⟨by simp_all, (hB0.trans hS.kp).below⟩
               have hg11_15' := hg11_15; (try simp only [nrm] at hg11_15'); try (exfalso; first | with_reducible exact absurd hg11_15 Bool.false_ne_true | with_reducible exact absurd hg11_15.symm Bool.false_ne_true | omega | (simp at hg11_15; done))
               all_goals
                refine rg_skip 16 rfl rfl (by kernel_rfl) (by kernel_rfl) (by kernel_rfl) (want_n rfl rfl rfl rfl (by rw [hg11_15]; rfl)) ?_
                refine rg_take 17 rfl rfl (by kernel_rfl) (by kernel_rfl) (by kernel_rfl) (want_0) (fun w hok => x_pickF (tmB rfl rfl) hg11_15 ev_c) ?_
                refine rg_take 18 rfl rfl (by kernel_rfl) (by kernel_rfl) (by kernel_rfl) (want_0) (fun w hok => x_assign (tmB rfl rfl)) ?_
                refine rg_done (oks_drop hS 1 rfl) (by kernel_rfl) ?_
                refine then_n (hK21 _ _ ?_); clear hK21 K21
                refine wp_ret ?_
                refine ret1 rfl (.tmp rfl (show _ = Value.bool _ from rfl)) ?_
                first
                  | exact ⟨rfl, (hB0.trans hS.kp).below⟩
                  | exact ⟨by simp_all, (hB0.trans hS.kp).below⟩
            have hg11_11' := hg11_11; (try simp only [nrm] at hg11_11'); try (exfalso; first | with_reducible exact absurd hg11_11 Bool.false_ne_true | with_reducible exact absurd hg11_11.symm Bool.false_ne_true | omega | (simp at hg11_11; done))
            all_goals
             refine rg_skip 12 rfl rfl (by kernel_rfl) (by kernel_rfl) (by kernel_rfl) (want_n rfl rfl rfl rfl (by rw [hg11_11]; rfl)) ?_
             refine rg_skip 13 rfl rfl (by kernel_rfl) (by kernel_rfl) (by kernel_rfl) (want_n rfl rfl rfl rfl (by rw [hg11_11]; rfl)) ?_
             refine rg_take 14 rfl rfl (by kernel_rfl) (by kernel_rfl) (by kernel_rfl) (want_0) (fun w hok => x_pickF (tmB rfl rfl) hg11_11 ev_c) ?_
             refine rg_take 15 rfl rfl (by kernel_rfl) (by kernel_rfl) (by kernel_rfl) (want_0) (fun w hok => x_move (tmB rfl rfl)) ?_
             refine rg_skip 16 rfl rfl (by kernel_rfl) (by kernel_rfl) (by kernel_rfl) (want_n rfl rfl rfl rfl rfl) ?_
             refine rg_take 17 rfl rfl (by kernel_rfl) (by kernel_rfl) (by kernel_rfl) (want_0) (fun w hok => x_pickF (tmB rfl rfl) rfl ev_c) ?_
             refine rg_take 18 rfl rfl (by kernel_rfl) (by kernel_rfl) (by kernel_rfl) (want_0) (fun w hok => x_assign (tmB rfl rfl)) ?_
             refine rg_done (oks_drop hS 1 rfl) (by kernel_rfl) ?_
             refine then_n (hK21 _ _ ?_); clear hK21 K21
             refine wp_ret ?_
             refine ret1 rfl (.tmp rfl (show _ = Value.bool _ from rfl)) ?_
             first
               | exact ⟨rfl, (hB0.trans hS.kp).below⟩
               | exact ⟨by simp_all, (hB0.trans hS.kp).below⟩
         have hg11_6' := hg11_6; (try simp only [nrm] at hg11_6'); try (exfalso; first | with_reducible exact absurd hg11_6 Bool.false_ne_true | with_reducible exact absurd hg11_6.symm Bool.false_ne_true | omega | (simp at hg11_6; done))
         all_goals
          refine rg_skip 7 rfl rfl (by kernel_rfl) (by kernel_rfl) (by kernel_rfl) (want_n rfl rfl rfl rfl (by rw [hg11_6]; rfl)) ?_
          refine rg_skip 8 rfl rfl (by kernel_rfl) (by kernel_rfl) (by kernel_rfl) (want_n rfl rfl rfl rfl (by rw [hg11_6]; rfl)) ?_
          refine rg_skip 9 rfl rfl (by kernel_rfl) (by kernel_rfl) (by kernel_rfl) (want_n rfl rfl rfl rfl (by rw [hg11_6]; rfl)) ?_
          refine rg_take 10 rfl rfl (by kernel_rfl) (by kernel_rfl) (by kernel_rfl) (want_0) (fun w hok => x_pickF (tmB rfl rfl) hg11_6 ev_c) ?_
          refine rg_take 11 rfl rfl (by kernel_rfl) (by kernel_rfl) (by kernel_rfl) (want_0) (fun w hok => x_move (tmB rfl rfl)) ?_
          refine rg_skip 12 rfl rfl (by kernel_rfl) (by kernel_rfl) (by kernel_rfl) (want_n rfl rfl rfl rfl rfl) ?_
          refine rg_skip 13 rfl rfl (by kernel_rfl) (by kernel_rfl) (by kernel_rfl) (want_n rfl rfl rfl rfl rfl) ?_
          refine rg_take 14 rfl rfl (by kernel_rfl) (by kernel_rfl) (by kernel_rfl) (want_0) (fun w hok => x_pickF (tmB rfl rfl) rfl ev_c) ?_
          refine rg_take 15 rfl rfl (by kernel_rfl) (by kernel_rfl) (by kernel_rfl) (want_0) (fun w hok => x_move (tmB rfl rfl)) ?_
          refine rg_skip 16 rfl rfl (by kernel_rfl) (by kernel_rfl) (by kernel_rfl) (want_n rfl rfl rfl rfl rfl) ?_
          refine rg_take 17 rfl rfl (by kernel_rfl) (by kernel_rfl) (by kernel_rfl) (want_0) (fun w hok => x_pickF (tmB rfl rfl) rfl ev_c) ?_
          refine rg_take 18 rfl rfl (by kernel_rfl) (by kernel_rfl) (by kernel_rfl) (want_0) (fun w hok => x_assign (tmB rfl rfl)) ?_
          refine rg_done (oks_drop hS 1 rfl) (by kernel_rfl) ?_
          refine then_n (hK21 _ _ ?_); clear hK21 K21
          refine wp_ret ?_
          refine ret1 rfl (.tmp rfl (show _ = Value.bool _ from rfl)) ?_
          first
            | exact ⟨rfl, (hB0.trans hS.kp).below⟩
            | exact ⟨by simp_all, (hB0.trans hS.kp).below⟩
theorem flat_sl (l : List (Sl Nat)) : flat slV l = (l.map fun t => ((t.a, t.l, t.c) : Row3)).map rowV := by
  unfold flat
  induction l with
  | nil => rfl
  | cons x l ih =>
    rw [List.map_cons, List.flatten_cons, ih]
    rfl
set_option maxRecDepth 100000 in
theorem walk (v : Value) (B : Option Addr) (nb cb : Nat) (b : List Nat) (w0 : World) {H : Type} {enc : TypeId × Value → H} {r : Reach} {b0 : Nat} {d : DataW H} {ps : List MemPlace} (hval : Value.okWide Try.prog w0 r b0 25 v) (hd : DataW.Trod enc Try.prog w0 0 (fun _ => true) true 25 v d ps) (hlt : ∀ p ∈ ps, p.block < w0.heap.size)
    (r1 : b.length = nb ∧ (B = none → cb = 0) ∧ BView w0 w0.heap.size B b ∧ nb ≤ cb) :
    Calls Try.prog 3 #[v, .slice B nb cb] w0 fun e w' => e = .returned (.bool true) ∧ Below w0.heap.size w0 w' := by
  obtain ⟨s, rfl, hs⟩ := GMsg.open_a hval hd hlt
  obtain ⟨kind, num, l⟩ := s
  obtain ⟨_, h2, h3⟩ := hs
  have h2' : num < 18446744073709551616 := h2
  obtain ⟨hnc, hcm, hv, hall⟩ := h3
  obtain ⟨hl, _, ⟨hb, hvb⟩, hcb⟩ := r1
  have hmx : maxLen = 9223372036854775807 := by simp [maxLen]
  rw [hmx] at hcm
  refine walk_all kind num l.a l.l.length l.c (l.l.map fun t => ((t.a, t.l, t.c) : Row3)) B nb cb b w0 (by rw [← flat_sl]; exact hv) ?_ (List.length_map ..) (Nat.le_trans hnc hcm) ?_ ?_ (by omega) hvb hl hcb hb
  · intro r hr
    obtain ⟨t, ht, rfl⟩ := List.mem_map.1 hr
    exact (hall t ht).2.2.2
  · intro r hr
    obtain ⟨t, ht, rfl⟩ := List.mem_map.1 hr
    obtain ⟨q1, q2, _⟩ := hall t ht
    rw [hmx] at q2
    exact Nat.le_trans q1 q2
  · intro r hr
    obtain ⟨t, ht, rfl⟩ := List.mem_map.1 hr
    exact (hall t ht).2.2.1
end FollowBytes
end Go.Proofs.Ytmokaeflnlajgaa
