
/- Proved: FragSplits returns true for every input, and changes no memory that was there. Conditions: none. -/
import Derived.Test.YtpibinkekfkafaaFrD
import Derived.Test.YtpibinkekfkafaaFrE
import Derived.Test.YtpibinkekfkafaaFrF
import Derived.Test.YtpibinkekfkafaaArgs
namespace Go.Proofs.Ytpibinkekfkafaa
open Go.ChangeShapes Go.WideShapes Go.ChangeAt Go.RowKit
theorem CutR.most {tos id : Nat} {stay more : Bool} {off ttl pr : Nat} {s d : Ad} {o x : List Nat} {sp n : Nat} {rows : List Row3} {er : Nat} (h : CutR (cutBx tos id stay more off ttl pr s d o x sp) (cutEx off s d o x sp) x.length (8 * sp) rows er) (hm : 20 + o.length + 8 * sp ≤ n) : ∀ r ∈ rows, r.2.1.length ≤ n :=
  h.lens fun p _ _ => by
    refine Nat.le_trans (pkB_len _ _ _ _ _ _ _ _ _ _ _) ?_
    rw [List.length_take, List.length_drop]
    omega
theorem SplitR.same {l : List Nat} {most : Int} {tos : Nat} {len : Int} {id : Nat} {stay more : Bool} {off ttl pr : Nat} {s d : Ad} {o x : List Nat} {er : Nat} {r1 r2 : List Row3} {e1 e2 : Nat} (h1 : SplitR l most tos len id stay more off ttl pr s d o x er r1 e1) (h2 : SplitR l most tos len id stay more off ttl pr s d o x er r2 e2) : e1 = e2 ∧ r1.map (·.2.1) = r2.map (·.2.1) := by
  rcases h1 with ⟨a, rfl, rfl⟩ | ⟨a, ⟨a1, rfl, a2⟩ | ⟨a1, ⟨a2, rfl, rfl⟩ | ⟨a2, ⟨a3, rfl, rfl⟩ | ⟨a3, hR⟩⟩⟩⟩ <;> rcases h2 with ⟨b, rfl, hb⟩ | ⟨b, ⟨b1, hb, b2⟩ | ⟨b1, ⟨b2, rfl, hb⟩ | ⟨b2, ⟨b3, rfl, hb⟩ | ⟨b3, hR2⟩⟩⟩⟩
  all_goals first
    | exact ⟨hb.symm, rfl⟩
    | exact ⟨hb.symm, a2.trans b2.symm⟩
    | exact hR.same hR2
    | exact absurd b a
    | exact absurd a b
    | (exfalso; omega)
    | (exfalso; rw [a2] at b2; exact Bool.noConfusion b2)
theorem SplitR.most {l : List Nat} {most : Int} {tos : Nat} {len : Int} {id : Nat} {stay more : Bool} {off ttl pr : Nat} {s d : Ad} {o x : List Nat} {er : Nat} {rows : List Row3} {e : Nat} (h : SplitR l most tos len id stay more off ttl pr s d o x er rows e) (hlen : er = 0 → ∃ n : Nat, len = (n : Int) ∧ n ≤ l.length) : ∀ r ∈ rows, (r.2.1.length : Int) ≤ most := by
  intro r hr
  rcases h with ⟨a, rfl, rfl⟩ | ⟨a, ⟨a1, rfl, a2⟩ | ⟨a1, ⟨a2, rfl, rfl⟩ | ⟨a2, ⟨a3, rfl, rfl⟩ | ⟨a3, hR⟩⟩⟩⟩
  · cases hr
  · obtain ⟨n, rfl, hn⟩ := hlen a
    have hm : r.2.1 ∈ rows.map (·.2.1) := List.mem_map_of_mem hr
    rw [a2] at hm
    obtain hm' := List.mem_singleton.1 hm
    rw [hm', List.length_take]
    have : (n : Int).toNat = n := rfl
    rw [this]
    omega
  · cases hr
  · cases hr
  · have := hR.most (n := most.toNat) (by omega) r hr
    omega
theorem SplitR.few {l : List Nat} {most : Int} {tos : Nat} {len : Int} {id : Nat} {stay more : Bool} {off ttl pr : Nat} {s d : Ad} {o x : List Nat} {er : Nat} {rows : List Row3} {e : Nat} (h : SplitR l most tos len id stay more off ttl pr s d o x er rows e) (hx : x.length ≤ 3000) : rows.length ≤ 3001 := by
  rcases h with ⟨a, rfl, rfl⟩ | ⟨a, ⟨a1, rfl, a2⟩ | ⟨a1, ⟨a2, rfl, rfl⟩ | ⟨a2, ⟨a3, rfl, rfl⟩ | ⟨a3, hR⟩⟩⟩⟩
  · simp
  · have := congrArg List.length a2
    rw [List.length_map] at this
    rw [this]; simp
  · simp
  · simp
  · rcases hR with ⟨_, rfl, _⟩ | ⟨_, k, a2, _, a4⟩
    · simp
    · have h1 := congrArg List.length a2
      rw [List.length_map, List.length_map, List.length_range] at h1
      rw [h1]
      by_cases hk : k = 0
      · omega
      · have h2 := (a4 (k - 1) (by omega)).1
        have h3 := Nat.le_mul_of_pos_right (k - 1) (show 0 < 8 * ((most.toNat - (20 + o.length)) / 8) by omega)
        omega
theorem rows_get {r1 r2 : List Row3} (h : r1.map (·.2.1) = r2.map (·.2.1)) {k : Nat} (hk : k < r1.length) : (r1.getD k default).2.1 = (r2.getD k default).2.1 := by
  have hl : r1.length = r2.length := by simpa using congrArg List.length h
  have := congrArg (fun l => l[k]?) h
  simp only [List.getElem?_map] at this
  rw [List.getElem?_eq_getElem hk, List.getElem?_eq_getElem (by omega)] at this
  rw [List.getD_eq_getElem?_getD, List.getD_eq_getElem?_getD, List.getElem?_eq_getElem hk, List.getElem?_eq_getElem (by omega)]
  simpa using this
theorem SplitR.bytes {l : List Nat} {most : Int} {tos : Nat} {len : Int} {id : Nat} {stay more : Bool} {off ttl pr : Nat} {s d : Ad} {o x : List Nat} {er : Nat} {rows : List Row3} {e : Nat} (h : SplitR l most tos len id stay more off ttl pr s d o x er rows e) (hl : Bytes l) (ho : Bytes o) (hx : Bytes x) : ∀ r ∈ rows, Bytes r.2.1 := by
  intro r hr
  rcases h with ⟨a, rfl, rfl⟩ | ⟨a, ⟨a1, rfl, a2⟩ | ⟨a1, ⟨a2, rfl, rfl⟩ | ⟨a2, ⟨a3, rfl, rfl⟩ | ⟨a3, hR⟩⟩⟩⟩
  · cases hr
  · have hm : r.2.1 ∈ rows.map (·.2.1) := List.mem_map_of_mem hr
    rw [a2] at hm
    rw [List.mem_singleton.1 hm]
    exact hl.take _
  · cases hr
  · cases hr
  · rcases hR with ⟨_, rfl, _⟩ | ⟨_, k, a2, _, a4⟩
    · cases hr
    · have hm : r.2.1 ∈ rows.map (·.2.1) := List.mem_map_of_mem hr
      rw [a2] at hm
      obtain ⟨j, hj, he⟩ := List.mem_map.1 hm
      rw [← he]
      exact pkB_bytes _ _ _ _ _ _ _ _ _ ho ((hx.drop _).take _)
namespace FragSplits
set_option maxRecDepth 100000 in
set_option maxHeartbeats 4000000 in
theorem walk_all (A : Option Addr) (c : Nat) (l : List Nat) (most : Int) (w0 : World) (hv : View w0 w0.heap.size A (l.map u8v)) (hc : l.length ≤ c) (hb : Bytes l) (hm1 : -9223372036854775808 ≤ most ∧ most ≤ 9223372036854775807) :
    Calls Try.prog 3 #[.slice A l.length c, .int .i64 most] w0 fun e w' => e = .returned (.bool true) ∧ Below w0.heap.size w0 w' := by
  have hS := (St.sv w0).vcons rfl hv
  refine ent (n := 63) Try.func3 rfl rfl ?_
  refine wp_seq_k ?_; intro K1 hK1
  refine wlit ?_
  refine wl_v (x_assign ev_c) ?_
  refine wl_nil ?_
  refine then_n (hK1 _ _ ?_); clear hK1 K1
  refine wp_seq_k ?_; intro K2 hK2
  refine wp_seq_k ?_; intro K3 hK3
  refine wlit ?_
  refine wl_v (x_move (tmS rfl rfl)) ?_
  refine wl_v (x_len Try.underlying22 (tmS rfl rfl)) ?_
  refine wl_v (x_gtr (tmI rfl rfl) (ev_cN 2000)) ?_
  refine wl_nil ?_
  refine then_n (hK3 _ _ ?_); clear hK3 K3
  refine cnd (tm rfl) (fun hc0 => ?_) (fun hc0 => ?_)
  · try (exfalso; first | with_reducible exact absurd hc0 Bool.false_ne_true | with_reducible exact absurd hc0.symm Bool.false_ne_true | (simp only [nrm] at hc0; omega) | (simp at hc0; done))
    all_goals
     try simp only [nrm] at hc0
     refine wp_seq_k ?_; intro K4 hK4
     refine wlit ?_
     refine wl_e rfl ?_; intro K hK
     refine ow_call Try.func6 rfl rfl (evs_nil) (law38_awake_c _) ?_
     rintro e w ⟨rfl, hk⟩
     refine ⟨_, rfl, ?_⟩
     replace hS := hS.kept hk
     clear hk
     refine hK _ _ ?_; clear hK K
     refine wl_v (x_assign (tmB rfl rfl)) ?_
     refine wl_nil ?_
     refine then_n (hK4 _ _ ?_); clear hK4 K4
     refine wp_ret ?_
     refine then_r ?_
     refine ret1 rfl (.tmp rfl (show _ = Value.bool _ from rfl)) ?_
     exact ⟨rfl, hS.kp.below⟩
  try (exfalso; first | with_reducible exact absurd hc0 Bool.false_ne_true | with_reducible exact absurd hc0.symm Bool.false_ne_true | (simp only [nrm] at hc0; omega) | (simp at hc0; done))
  all_goals
   try simp only [nrm] at hc0
   have hl : l.length ≤ 2000 := by first | omega | (simp at hc0; omega)
   obtain ⟨tos, len, id, stay, more, off, ttl, pr, sum, s, d, o, x, er, q1, q3, q7, q8, q9, hob, ho, hxb, hx, her, hlen, hP1, hP2⟩ := jf_ex l hb (by omega)
   have hs1 := fun w h => split_c A c l most tos len id stay more off ttl pr sum s d o x er w h hc (by omega) hm1 q1 q3 q7 q8 q9 hob ho hx her hlen hP1
   have hs2 := fun w h => rsplit_c A c l most tos len id stay more off ttl pr sum s d o x er w h hc (by omega) hm1 q1 q3 q7 q8 q9 hob ho hx her hlen hP2
   clear hP1 hP2
   refine wp_skip ?_
   refine then_n (hK2 _ _ ?_); clear hK2 K2
   refine wp_seq_k ?_; intro K5 hK5
   refine wlit ?_
   refine wl_v (x_move (tmS rfl rfl)) ?_
   refine wl_v (x_move (tmI rfl rfl)) ?_
   refine wl_e rfl ?_; intro K hK
   refine ow_call Try.func7 rfl rfl (evs_cons (tmS rfl rfl) <| evs_cons (tmI rfl rfl) <| evs_nil) (hs1 _ (viewV hS.ok 0 rfl)) ?_
   rintro e w ⟨G1, n1, c1, r1, e1, hn1, rfl, hR1, hnv1, hv1, hk⟩
   refine ⟨_, rfl, ?_⟩
   replace hS := hS.addn hk hnv1 -- +vg
   clear hk hnv1
   refine hK _ _ ?_; clear hK K
   refine wl_v (x_move (tmT rfl rfl)) ?_
   refine wl_v (x_ext (tmT rfl rfl) rfl) ?_
   refine wl_v (x_ext (tmT rfl rfl) rfl) ?_
   refine wl_v (x_assign (tmS rfl rfl)) ?_
   refine wl_v (x_assign (tmI rfl rfl)) ?_
   refine wl_nil ?_
   refine then_n (hK5 _ _ ?_); clear hK5 K5
   refine wp_seq_k ?_; intro K6 hK6
   refine wlit ?_
   refine wl_v (x_move (tmS rfl rfl)) ?_
   refine wl_v (x_move (tmI rfl rfl)) ?_
   refine wl_e rfl ?_; intro K hK
   refine ow_call Try.func8 rfl rfl (evs_cons (tmS rfl rfl) <| evs_cons (tmI rfl rfl) <| evs_nil) (hs2 _ (viewV hS.ok 1 rfl)) ?_
   rintro e w ⟨G2, n2, c2, r2, e2, hn2, rfl, hR2, hnv2, hv2, hk⟩
   refine ⟨_, rfl, ?_⟩
   replace hS := hS.addn hk hnv2 -- +vr
   replace hv1 := hv1.kept hk
   clear hk hnv2
   obtain ⟨rfl, hrr⟩ := hR1.same hR2
   have hmost := hR1.most hlen
   have hfew := hR1.few hx
   rw [hn1] at hfew
   have hby1 := hR1.bytes hb hob hxb
   have hby2 := hR2.bytes hb hob hxb
   have hnn : n1 = n2 := by
     have := congrArg List.length hrr
     rw [List.length_map, List.length_map] at this
     omega
   subst hnn
   clear hR1 hR2 hs1 hs2 hlen
   refine hK _ _ ?_; clear hK K
   refine wl_v (x_move (tmT rfl rfl)) ?_
   refine wl_v (x_ext (tmT rfl rfl) rfl) ?_
   refine wl_v (x_ext (tmT rfl rfl) rfl) ?_
   refine wl_v (x_assign (tmS rfl rfl)) ?_
   refine wl_v (x_assign (tmI rfl rfl)) ?_
   refine wl_nil ?_
   refine then_n (hK6 _ _ ?_); clear hK6 K6
   refine wp_seq_k ?_; intro K7 hK7
   refine wp_seq_k ?_; intro K8 hK8
   refine wlit ?_
   refine wl_v (x_move (tmI rfl rfl)) ?_
   refine wl_v (x_move (tmI rfl rfl)) ?_
   refine wl_v (x_neq (tmI rfl rfl) (tmI rfl rfl)) ?_
   refine wl_v (x_move (tmB rfl rfl)) ?_
   refine gs_wl (tm (t := 29) rfl) (fun hg5_3 => ?_) (fun hg5_3 => ?_)
   · have hg5_3' := hg5_3; (try simp only [nrm] at hg5_3'); try (exfalso; first | with_reducible exact absurd hg5_3 Bool.false_ne_true | with_reducible exact absurd hg5_3.symm Bool.false_ne_true | omega | (simp at hg5_3; done))
     all_goals
      refine wl_s rfl (want_n rfl rfl rfl rfl (by rw [hg5_3]; rfl)) ?_
      refine wl_s rfl (want_n rfl rfl rfl rfl (by rw [hg5_3]; rfl)) ?_
      refine wl_s rfl (want_n rfl rfl rfl rfl (by rw [hg5_3]; rfl)) ?_
      refine wl_s rfl (want_n rfl rfl rfl rfl (by rw [hg5_3]; rfl)) ?_
      refine wl_s rfl (want_n rfl rfl rfl rfl (by rw [hg5_3]; rfl)) ?_
      refine wl_v (x_pickT (tmB rfl rfl) hg5_3 ev_c) ?_
      refine wl_nil ?_
      refine then_n (hK8 _ _ ?_); clear hK8 K8
      refine cnd_t (tmB rfl rfl) rfl ?_
      refine wp_seq_k ?_; intro K9 hK9
      refine wlit ?_
      refine wl_v (x_assign ev_c) ?_
      refine wl_nil ?_
      refine then_n (hK9 _ _ ?_); clear hK9 K9
      refine wp_ret ?_
      refine then_r ?_
      refine ret1 rfl (.tmp rfl (show _ = Value.bool _ from rfl)) ?_
      exact ⟨rfl, hS.kp.below⟩
   have hg5_3' := hg5_3; (try simp only [nrm] at hg5_3'); try (exfalso; first | with_reducible exact absurd hg5_3 Bool.false_ne_true | with_reducible exact absurd hg5_3.symm Bool.false_ne_true | omega | (simp at hg5_3; done))
   all_goals
    refine wl_gv (want_y rfl rfl rfl rfl (by rw [hg5_3]; rfl)) (x_move (tmS rfl rfl)) ?_
    refine wl_gv (want_y rfl rfl rfl rfl (by rw [hg5_3]; rfl)) (x_len Try.underlying24 (tmS rfl rfl)) ?_
    refine wl_gv (want_y rfl rfl rfl rfl (by rw [hg5_3]; rfl)) (x_move (tmS rfl rfl)) ?_
    refine wl_gv (want_y rfl rfl rfl rfl (by rw [hg5_3]; rfl)) (x_len Try.underlying24 (tmS rfl rfl)) ?_
    refine wl_gv (want_y rfl rfl rfl rfl (by rw [hg5_3]; rfl)) (x_neq (tmI rfl rfl) (tmI rfl rfl)) ?_
    refine wl_v (x_pickF (tmB rfl rfl) hg5_3 (tmB rfl rfl)) ?_
    refine wl_nil ?_
    refine then_n (hK8 _ _ ?_); clear hK8 K8
    refine cnd (tm rfl) (fun hc1 => ?_) (fun hc1 => ?_)
    · exfalso
      simp at hc1
    try (exfalso; first | with_reducible exact absurd hc1 Bool.false_ne_true | with_reducible exact absurd hc1.symm Bool.false_ne_true | (simp only [nrm] at hc1; omega) | (simp at hc1; done))
    all_goals
     try simp only [nrm] at hc1
     refine wp_skip ?_
     refine then_n (hK7 _ _ ?_); clear hK7 K7
     refine wp_seq_k ?_; intro K10 hK10
     refine wp_seq_k ?_; intro K11 hK11
     refine wlit ?_
     refine wl_v (x_assign (ev_cN 0)) ?_
     refine wl_nil ?_
     refine then_n (hK11 _ _ ?_); clear hK11 K11
     refine wp_block ?_
     have hS := hS.pick [1, 0] rfl rfl
     refine lp [4, 9, 36, 37, 38, 39, 40, 41, 42, 43, 44, 45, 46, 47, 48, 49, 50, 51, 52, 53, 54, 55, 56, 57, 58, 59, 60, 61] (fun mz g w => ∃ (k : Nat), mz = n1 - k ∧ g 9 = .int .i64 (k : Int) ∧ St [] w0 [.vw G1 (r1.map rowV), .vw G2 (r2.map rowV)] w ∧ (k ≤ n1) ∧ (Vws w r1) ∧ (Vws w r2)) ?_ ?_
     · exact ⟨_, 0, rfl, (by first | rfl | go_num | exact congrArg (Value.int _) (by first | omega | (simp; done) | (simp; omega))), hS, (by omega), (by first | exact hv1 | exact hv1.kept hS.kp), (by first | exact hv2 | exact hv2.kept hS.kp)⟩
     · clear hS; intro mz g w hI
       obtain ⟨k, rfl, hs9, hS, hk, hv1, hv2⟩ := hI
       refine fr_know (d := 9) hs9 ?_; clear hs9
       refine wp_seq_k ?_; intro K12 hK12
       refine wp_seq_k ?_; intro K13 hK13
       refine wlit ?_
       refine wl_v (x_move (tmI rfl rfl)) ?_
       refine wl_v (x_move (tmS rfl rfl)) ?_
       refine wl_v (x_len Try.underlying24 (tmS rfl rfl)) ?_
       refine wl_v (x_lss (tmI rfl rfl) (tmI rfl rfl)) ?_
       refine wl_nil ?_
       refine then_n (hK13 _ _ ?_); clear hK13 K13
       refine cnd (tm rfl) (fun hc2 => ?_) (fun hc2 => ?_)
       · try (exfalso; first | with_reducible exact absurd hc2 Bool.false_ne_true | with_reducible exact absurd hc2.symm Bool.false_ne_true | (simp only [nrm] at hc2; omega) | (simp at hc2; done))
         all_goals
          try simp only [nrm] at hc2
          have hk1 : k < r1.length := by omega
          have hk2 : k < r2.length := by omega
          obtain ⟨b1, o1, rfl⟩ := view_some (viewV hS.ok 0 rfl) (by rw [List.length_map]; omega)
          obtain ⟨b2, o2, rfl⟩ := view_some (viewV hS.ok 1 rfl) (by rw [List.length_map]; omega)
          have hm1 : r1.getD k default ∈ r1 := by
            rw [List.getD_eq_getElem?_getD, List.getElem?_eq_getElem hk1]
            exact List.getElem_mem _
          have hm2 : r2.getD k default ∈ r2 := by
            rw [List.getD_eq_getElem?_getD, List.getElem?_eq_getElem hk2]
            exact List.getElem_mem _
          have hg1 : (r1.map rowV)[k]? = some (.slice (r1.getD k default).1 (r1.getD k default).2.1.length (r1.getD k default).2.2) := by rw [List.getElem?_map, List.getElem?_eq_getElem hk1, List.getD_eq_getElem?_getD, List.getElem?_eq_getElem hk1]; rfl
          have hg2 : (r2.map rowV)[k]? = some (.slice (r2.getD k default).1 (r2.getD k default).2.1.length (r2.getD k default).2.2) := by rw [List.getElem?_map, List.getElem?_eq_getElem hk2, List.getD_eq_getElem?_getD, List.getElem?_eq_getElem hk2]; rfl
          have hsame := rows_get hrr hk1
          have hle := hmost _ hm1
          have hb1 := hby1 _ hm1
          have hw1 := hv1 _ hm1
          have hw2 := hv2 _ hm2
          generalize r1.getD k default = ra at *
          generalize r2.getD k default = rb at *
          obtain ⟨Aa, la, ca⟩ := ra
          obtain ⟨Ab, lb, cb⟩ := rb
          obtain rfl : la = lb := hsame
          replace hw1 : View w w.heap.size Aa (la.map u8v) := hw1
          replace hw2 : View w w.heap.size Ab (la.map u8v) := hw2
          replace hb1 : Bytes la := hb1
          replace hle : (la.length : Int) ≤ most := hle
          replace hg1 : (r1.map rowV)[k]? = some (.slice Aa la.length ca) := hg1
          replace hg2 : (r2.map rowV)[k]? = some (.slice Ab la.length cb) := hg2
          have hS0 := (hS.addv hw1 (fun e he => .inl (by rcases List.mem_cons.1 he with rfl | he; rfl; rcases List.mem_cons.1 he with rfl | he; rfl; cases he))).addv hw2 (fun e he => .inl (by rcases List.mem_cons.1 he with rfl | he; rfl; rcases List.mem_cons.1 he with rfl | he; rfl; rcases List.mem_cons.1 he with rfl | he; rfl; cases he))
          replace hS := hS0.enter [] [0, 1, 2, 3] rfl rfl
          try replace hS := St.nm (M' := [.vw _ _, .vw _ _, .vw _ _, .vw _ _]) hS rfl
          refine wp_skip ?_
          refine then_n (hK12 _ _ ?_); clear hK12 K12
          refine wp_seq_k ?_; intro K14 hK14
          refine wp_block ?_
          refine wp_seq_k ?_; intro K15 hK15
          refine rg_startk 0 hS mixed_ ?_
          clear hS; intro w hS
          refine rg_take 0 rfl rfl (by kernel_rfl) (by kernel_rfl) (by kernel_rfl) (want_0) (fun w hok => x_move (tmS rfl rfl)) ?_
          refine rg_take 1 rfl rfl (by kernel_rfl) (by kernel_rfl) (by kernel_rfl) (want_0) (fun w hok => x_move (tmI rfl rfl)) ?_
          refine rg_take 2 rfl rfl (by kernel_rfl) (by kernel_rfl) (by kernel_rfl) (want_0) (fun w hok => x_ixs1 Try.underlying24 ts_22 (tmS rfl rfl) (tmI rfl rfl) (by omega)) ?_
          refine rg_take 3 rfl rfl (by kernel_rfl) (by kernel_rfl) (by kernel_rfl) (want_0) (fun w hok => x_load (v := .slice Aa la.length ca) Try.underlying22 rfl (tmP rfl rfl) (cellV hok 2 rfl hg1)) ?_
          refine rg_take 4 rfl rfl (by kernel_rfl) (by kernel_rfl) (by kernel_rfl) (want_0) (fun w hok => x_bstr Try.underlying22 Try.underlying5 Try.underlying9 (tmS rfl rfl) (viewV hok 1 rfl) hb1 rfl) ?_
          refine rg_take 5 rfl rfl (by kernel_rfl) (by kernel_rfl) (by kernel_rfl) (want_0) (fun w hok => x_move (tmS rfl rfl)) ?_
          refine rg_take 6 rfl rfl (by kernel_rfl) (by kernel_rfl) (by kernel_rfl) (want_0) (fun w hok => x_move (tmI rfl rfl)) ?_
          refine rg_take 7 rfl rfl (by kernel_rfl) (by kernel_rfl) (by kernel_rfl) (want_0) (fun w hok => x_ixs1 Try.underlying24 ts_22 (tmS rfl rfl) (tmI rfl rfl) (by omega)) ?_
          refine rg_take 8 rfl rfl (by kernel_rfl) (by kernel_rfl) (by kernel_rfl) (want_0) (fun w hok => x_load (v := .slice Ab la.length cb) Try.underlying22 rfl (tmP rfl rfl) (cellV hok 3 rfl hg2)) ?_
          refine rg_take 9 rfl rfl (by kernel_rfl) (by kernel_rfl) (by kernel_rfl) (want_0) (fun w hok => x_bstr Try.underlying22 Try.underlying5 Try.underlying9 (tmS rfl rfl) (viewV hok 0 rfl) hb1 rfl) ?_
          refine rg_take 10 rfl rfl (by kernel_rfl) (by kernel_rfl) (by kernel_rfl) (want_0) (fun w hok => x_Gneq (tmG rfl rfl) (tmG rfl rfl) hb1 hb1) ?_
          refine rg_take 11 rfl rfl (by kernel_rfl) (by kernel_rfl) (by kernel_rfl) (want_0) (fun w hok => x_move (tmB rfl rfl)) ?_
          refine gs_rg (tm (t := 53) rfl) (fun hg10_11 => ?_) (fun hg10_11 => ?_)
          · have hg10_11' := hg10_11; (try simp only [nrm] at hg10_11'); try (exfalso; first | with_reducible exact absurd hg10_11 Bool.false_ne_true | with_reducible exact absurd hg10_11.symm Bool.false_ne_true | omega | (simp at hg10_11; done))
            all_goals
             refine rg_skip 12 rfl rfl (by kernel_rfl) (by kernel_rfl) (by kernel_rfl) (want_n rfl rfl rfl rfl (by rw [hg10_11]; rfl)) ?_
             refine rg_skip 13 rfl rfl (by kernel_rfl) (by kernel_rfl) (by kernel_rfl) (want_n rfl rfl rfl rfl (by rw [hg10_11]; rfl)) ?_
             refine rg_skip 14 rfl rfl (by kernel_rfl) (by kernel_rfl) (by kernel_rfl) (want_n rfl rfl rfl rfl (by rw [hg10_11]; rfl)) ?_
             refine rg_skip 15 rfl rfl (by kernel_rfl) (by kernel_rfl) (by kernel_rfl) (want_n rfl rfl rfl rfl (by rw [hg10_11]; rfl)) ?_
             refine rg_skip 16 rfl rfl (by kernel_rfl) (by kernel_rfl) (by kernel_rfl) (want_n rfl rfl rfl rfl (by rw [hg10_11]; rfl)) ?_
             refine rg_skip 17 rfl rfl (by kernel_rfl) (by kernel_rfl) (by kernel_rfl) (want_n rfl rfl rfl rfl (by rw [hg10_11]; rfl)) ?_
             refine rg_skip 18 rfl rfl (by kernel_rfl) (by kernel_rfl) (by kernel_rfl) (want_n rfl rfl rfl rfl (by rw [hg10_11]; rfl)) ?_
             refine rg_take 19 rfl rfl (by kernel_rfl) (by kernel_rfl) (by kernel_rfl) (want_0) (fun w hok => x_pickT (tmB rfl rfl) hg10_11 ev_c) ?_
             refine rg_done (oks_drop hS 0 rfl) (by kernel_rfl) ?_
             refine then_n (hK15 _ _ ?_); clear hK15 K15
             refine cnd_t (tmB rfl rfl) rfl ?_
             refine wp_seq_k ?_; intro K16 hK16
             refine wlit ?_
             refine wl_v (x_assign ev_c) ?_
             refine wl_nil ?_
             refine then_n (hK16 _ _ ?_); clear hK16 K16
             refine wp_ret ?_
             refine inb_r ?_
             refine then_r ?_
             refine then_r ?_
             refine inb_r ?_
             refine then_r ?_
             refine ret1 rfl (.tmp rfl (show _ = Value.bool _ from rfl)) ?_
             exact ⟨rfl, hS.kp.below⟩
          have hg10_11' := hg10_11; (try simp only [nrm] at hg10_11'); try (exfalso; first | with_reducible exact absurd hg10_11 Bool.false_ne_true | with_reducible exact absurd hg10_11.symm Bool.false_ne_true | omega | (simp at hg10_11; done))
          all_goals
           refine rg_take 12 rfl rfl (by kernel_rfl) (by kernel_rfl) (by kernel_rfl) (want_y rfl rfl rfl rfl (by rw [hg10_11]; rfl)) (fun w hok => x_move (tmS rfl rfl)) ?_
           refine rg_take 13 rfl rfl (by kernel_rfl) (by kernel_rfl) (by kernel_rfl) (want_y rfl rfl rfl rfl (by rw [hg10_11]; rfl)) (fun w hok => x_move (tmI rfl rfl)) ?_
           refine rg_take 14 rfl rfl (by kernel_rfl) (by kernel_rfl) (by kernel_rfl) (want_y rfl rfl rfl rfl (by rw [hg10_11]; rfl)) (fun w hok => x_ixs1 Try.underlying24 ts_22 (tmS rfl rfl) (tmI rfl rfl) (by omega)) ?_
           refine rg_take 15 rfl rfl (by kernel_rfl) (by kernel_rfl) (by kernel_rfl) (want_y rfl rfl rfl rfl (by rw [hg10_11]; rfl)) (fun w hok => x_load (v := .slice Aa la.length ca) Try.underlying22 rfl (tmP rfl rfl) (cellV hok 2 rfl hg1)) ?_
           refine rg_take 16 rfl rfl (by kernel_rfl) (by kernel_rfl) (by kernel_rfl) (want_y rfl rfl rfl rfl (by rw [hg10_11]; rfl)) (fun w hok => x_len Try.underlying22 (tmS rfl rfl)) ?_
           refine rg_take 17 rfl rfl (by kernel_rfl) (by kernel_rfl) (by kernel_rfl) (want_y rfl rfl rfl rfl (by rw [hg10_11]; rfl)) (fun w hok => x_move (tmI rfl rfl)) ?_
           refine rg_take 18 rfl rfl (by kernel_rfl) (by kernel_rfl) (by kernel_rfl) (want_y rfl rfl rfl rfl (by rw [hg10_11]; rfl)) (fun w hok => x_gtr (tmI rfl rfl) (tmI rfl rfl)) ?_
           refine rg_take 19 rfl rfl (by kernel_rfl) (by kernel_rfl) (by kernel_rfl) (want_0) (fun w hok => x_pickF (tmB rfl rfl) hg10_11 (tmB rfl rfl)) ?_
           refine rg_done (oks_drop hS 0 rfl) (by kernel_rfl) ?_
           refine then_n (hK15 _ _ ?_); clear hK15 K15
           refine cnd (tm rfl) (fun hc3 => ?_) (fun hc3 => ?_)
           · exfalso
             simp at hc3
             omega
           try (exfalso; first | with_reducible exact absurd hc3 Bool.false_ne_true | with_reducible exact absurd hc3.symm Bool.false_ne_true | (simp only [nrm] at hc3; omega) | (simp at hc3; done))
           all_goals
            try simp only [nrm] at hc3
            refine wp_skip ?_
            refine inb_n ?_
            refine then_n (hK14 _ _ ?_); clear hK14 K14
            refine wlit ?_
            refine wl_v (x_move (tmI rfl rfl)) ?_
            first
             | refine wl_v (x_addN (tmI rfl rfl) (ev_cN 1) (fit_i64 (by omega))) ?_
             | refine wl_v (x_addI (tmI rfl rfl) (ev_cN 1) (IntWalk.i64_in _ (by omega))) ?_
             | refine wl_v (x_add (tmI rfl rfl) (ev_cN 1)) ?_
            refine wl_v (x_assign (tmI rfl rfl)) ?_
            refine wl_nil ?_
            exact then_n ⟨_, _, rfl, (by show _ < _; omega), (by repeat (first | exact agree_self | exact agree_refl | refine agree_upd rfl ?_ | refine agree_mix rfl ?_)), k + 1, rfl, (by first | rfl | go_num | exact congrArg (Value.int _) (by first | omega | (simp; done) | (simp; omega))), (hS0.leave [] [2, 3] rfl rfl rfl (hS.pick [] rfl rfl) rfl), (by omega), (by first | exact hv1 | exact hv1.kept hS.kp), (by first | exact hv2 | exact hv2.kept hS.kp)⟩
       try (exfalso; first | with_reducible exact absurd hc2 Bool.false_ne_true | with_reducible exact absurd hc2.symm Bool.false_ne_true | (simp only [nrm] at hc2; omega) | (simp at hc2; done))
       all_goals
        try simp only [nrm] at hc2
        refine wp_exit ?_
        refine then_x ?_; clear hK12 K12
        refine then_x ?_
        refine inb_x ?_
        refine then_n (hK10 _ _ ?_); clear hK10 K10
        refine wp_seq_k ?_; intro K17 hK17
        refine wlit ?_
        refine wl_e rfl ?_; intro K hK
        refine ow_call Try.func6 rfl rfl (evs_nil) (law38_awake_c _) ?_
        rintro e w ⟨rfl, hk⟩
        refine ⟨_, rfl, ?_⟩
        replace hS := hS.kept hk
        clear hk
        refine hK _ _ ?_; clear hK K
        refine wl_v (x_assign (tmB rfl rfl)) ?_
        refine wl_nil ?_
        refine then_n (hK17 _ _ ?_); clear hK17 K17
        refine wp_ret ?_
        refine ret1 rfl (.tmp rfl (show _ = Value.bool _ from rfl)) ?_
        exact ⟨rfl, hS.kp.below⟩
theorem walk (A : Option Addr) (n c : Nat) (l : List Nat) (most : Int) (w0 : World)
    (r1 : l.length = n ∧ (A = none → c = 0) ∧ BView w0 w0.heap.size A l ∧ n ≤ c) (hm : -9223372036854775808 ≤ most ∧ most ≤ 9223372036854775807) :
    Calls Try.prog 3 #[.slice A n c, .int .i64 most] w0 fun e w' => e = .returned (.bool true) ∧ Below w0.heap.size w0 w' := by
  obtain ⟨rfl, _, ⟨hb, hv⟩, hc⟩ := r1
  exact walk_all A c l most w0 hv hc hb hm
end FragSplits
end Go.Proofs.Ytpibinkekfkafaa
