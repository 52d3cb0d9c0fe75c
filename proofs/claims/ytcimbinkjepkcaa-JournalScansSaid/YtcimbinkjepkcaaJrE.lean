
/- the reference's Scan, by contract. Conditions: none but bounds. -/
import Derived.Test.YtcimbinkjepkcaaJrD
namespace Go.Proofs.Ytcimbinkjepkcaa
open Go.ChangeShapes Go.WideShapes Go.ChangeAt Go.RowKit
theorem split4 (l : List Nat) (p n : Nat) : (l.drop p).take (14 + n) = (l.drop p).take 8 ++ ((l.drop (p + 8)).take 2 ++ ((l.drop (p + 10)).take 4 ++ (l.drop (p + 14)).take n)) := by
  rw [show 14 + n = 8 + (2 + (4 + n)) by omega, List.take_add, List.drop_drop, List.take_add, List.drop_drop, List.take_add, List.drop_drop]
theorem be_eq_iff {l : List Nat} (hb : Bytes l) {p k v : Nat} (hl : p + k ≤ l.length) (hv : v < 256 ^ k) : be v k = (l.drop p).take k ↔ getN l p k = v := by
  have hlen : ((l.drop p).take k).length = k := by rw [List.length_take, List.length_drop]; omega
  constructor
  · intro h
    unfold getN
    rw [← h, numBE_be, Nat.mod_eq_of_lt hv]
  · intro h
    have := be_numBE ((hb.drop p).take k)
    rw [hlen] at this
    rw [← this]
    unfold getN at h
    rw [h]
theorem jfit_iff {l : List Nat} (hb : Bytes l) {p num : Nat} (h1 : jlen l p ≤ 4096) (h2 : p + 14 + jlen l p ≤ l.length) (hN : num ≤ 18446744073709551615) : frm num (jrec l p) = (l.drop p).take (14 + jlen l p) ↔ jfit l p num := by
  have hx : (jrec l p).length = jlen l p := by unfold jrec; rw [List.length_take, List.length_drop]; omega
  have hbx : Bytes (jrec l p) := (hb.drop _).take _
  have hc := crc_lt ((hdr_bytes num (jlen l p)).append hbx)
  have e8 := be_eq_iff hb (p := p) (k := 8) (v := num) (by omega) (by omega)
  have e2 := be_eq_iff hb (p := p + 8) (k := 2) (v := jlen l p) (by omega) (by omega)
  have e4 := be_eq_iff hb (p := p + 10) (k := 4) (v := crc (hdr num (jlen l p) ++ jrec l p)) (by omega) (by omega)
  rw [split4]
  unfold frm hdr
  rw [hx, List.append_assoc]
  constructor
  · intro h
    have hl8 : ((l.drop p).take 8).length = 8 := by rw [List.length_take, List.length_drop]; omega
    have hl2 : ((l.drop (p + 8)).take 2).length = 2 := by rw [List.length_take, List.length_drop]; omega
    have hl4 : ((l.drop (p + 10)).take 4).length = 4 := by rw [List.length_take, List.length_drop]; omega
    obtain ⟨h8, h⟩ := List.append_inj h (by rw [be_length, hl8])
    obtain ⟨h2', h⟩ := List.append_inj h (by rw [be_length, hl2])
    obtain ⟨h4, h⟩ := List.append_inj h (by rw [be_length, hl4])
    exact ⟨by omega, h1, h2, e8.1 h8, e4.1 h4⟩
  · rintro ⟨_, _, _, h8, h4⟩
    have h4' := e4.2 h4
    unfold hdr at h4'
    rw [e8.2 h8, e2.2 rfl] at *
    rw [h4']
    rfl
set_option maxRecDepth 100000 in
set_option maxHeartbeats 4000000 in
theorem rscan_c (n : Nat) (A : Option Addr) (c : Nat) (l : List Nat) (w0 : World) (hv : View w0 w0.heap.size A (l.map u8v)) (hl : l.length = n) (hc : n ≤ c) (hn4 : n ≤ 1000000) (hb : Bytes l) :
    Calls Try.prog 6 #[.slice A n c] w0 fun e w' => ∃ G ng cg rows sz, rows.length = ng ∧ e = .returned (.tuple #[.slice G ng cg, .int .i64 ((sz : Nat) : Int)]) ∧ ScanR l rows sz ∧ New w0 w' (.row (.slice G ng cg) 22 1 ng (rows.map rowV)) ∧ Vws w' rows ∧ Kp [] w0 w' := by
  subst hl
  have hS := (St.sv w0).vcons rfl hv
  refine ent (n := 67) Try.func6 rfl rfl ?_
  refine wp_seq_k ?_; intro K1 hK1
  refine wlit ?_
  refine wl_v (x_assign ev_c) ?_
  refine wl_v (x_assign (ev_cN 0)) ?_
  refine wl_nil ?_
  refine then_n (hK1 _ _ ?_); clear hK1 K1
  refine wp_seq_k ?_; intro K2 hK2
  refine wlit ?_
  refine wl_v (x_assign ev_c) ?_
  refine wl_nil ?_
  refine then_n (hK2 _ _ ?_); clear hK2 K2
  refine wp_seq_k ?_; intro K3 hK3
  refine wlit ?_
  refine wl_v (x_assign (ev_cN 0)) ?_
  refine wl_nil ?_
  refine then_n (hK3 _ _ ?_); clear hK3 K3
  refine wp_seq_k ?_; intro K4 hK4
  refine wp_block ?_
  have hS := (hS.nilrow 22 1).pick [0, 1] rfl rfl --ents row,vw
  refine lp [2, 3, 4, 5, 6, 7, 8, 9, 10, 11, 12, 13, 14, 15, 16, 17, 18, 19, 20, 21, 22, 23, 24, 25, 26, 27, 28, 29, 30, 31, 32, 33, 34, 35, 36, 37, 38, 39, 40, 41, 42, 43, 44, 45, 46, 47, 48, 49, 50, 51, 52, 53, 54, 55, 56, 57, 58, 59, 60, 61, 62, 63, 64] (fun mz g w => ∃ (k p : Nat), ∃ (G : Option Addr), ∃ (ng cg : Nat), ∃ (rows : List Row3), mz = 2 * (l.length + 14 - p) ∧ g 4 = .slice G ng cg ∧ g 5 = .int .i64 (p : Int) ∧ St [] w0 [.row (.slice G ng cg) 22 1 ng (rows.map rowV), .vw A (l.map u8v)] w ∧ (p = jpos l k) ∧ (p ≤ l.length) ∧ (k ≤ p) ∧ (∀ j, j < k → jfit l (jpos l j) (j + 1)) ∧ (ng = k) ∧ (rows.length = ng) ∧ (rows.map (·.2.1) = (List.range k).map (fun j => jrec l (jpos l j))) ∧ (∀ r ∈ rows, r.2.1.length ≤ r.2.2 ∧ Sub A l r.1 r.2.1)) ?_ ?_
  · exact ⟨_, 0, 0, none, 0, 0, [], rfl, (by first | rfl | go_num | exact congrArg (Value.int _) (by first | omega | (simp; done) | (simp; omega))), (by first | rfl | go_num | exact congrArg (Value.int _) (by first | omega | (simp; done) | (simp; omega))), hS, (by first | exact hp2 | rfl), (by omega), (by omega), (by first | exact hN2 | (intro j hj; omega)), (by first | rfl | omega), (by first | rfl | (rw [List.length_append, hn]; rfl)), (by first | exact hM2 | rfl), (by first | exact haw2 | (intro r hr; cases hr))⟩
  · clear hS; intro mz g w hI
    obtain ⟨k, p, G, ng, cg, rows, rfl, hs4, hs5, hS, hp, hpl, hkp, hN, hnk, hn, hM, haw⟩ := hI
    refine fr_know (d := 4) hs4 ?_; clear hs4
    refine fr_know (d := 5) (upd_ne rfl hs5) ?_; clear hs5
    refine wp_seq_k ?_; intro K5 hK5
    refine wp_seq_k ?_; intro K6 hK6
    refine wlit ?_
    refine wl_v (x_move (tmI rfl rfl)) ?_
    first
     | refine wl_v (x_addN (tmI rfl rfl) (ev_cN 14) (fit_i64 (by omega))) ?_
     | refine wl_v (x_addI (tmI rfl rfl) (ev_cN 14) (IntWalk.i64_in _ (by omega))) ?_
     | refine wl_v (x_add (tmI rfl rfl) (ev_cN 14)) ?_
    refine wl_v (x_move (tmS rfl rfl)) ?_
    refine wl_v (x_len Try.underlying22 (tmS rfl rfl)) ?_
    refine wl_v (x_leq (tmI rfl rfl) (tmI rfl rfl)) ?_
    refine wl_nil ?_
    refine then_n (hK6 _ _ ?_); clear hK6 K6
    refine cnd (tm rfl) (fun hc0 => ?_) (fun hc0 => ?_)
    · try (exfalso; first | with_reducible exact absurd hc0 Bool.false_ne_true | with_reducible exact absurd hc0.symm Bool.false_ne_true | (simp only [nrm] at hc0; omega) | (simp at hc0; done))
      all_goals
       try simp only [nrm] at hc0
       refine wp_skip ?_
       refine then_n (hK5 _ _ ?_); clear hK5 K5
       refine wp_block ?_
       refine wp_seq_k ?_; intro K7 hK7
       refine wlit ?_
       refine wl_v (x_move (tmS rfl rfl)) ?_
       refine wl_v (x_move (tmI rfl rfl)) ?_
       first
        | refine wl_v (x_addN (tmI rfl rfl) (ev_cN 8) (fit_i64 (by omega))) ?_
        | refine wl_v (x_addI (tmI rfl rfl) (ev_cN 8) (IntWalk.i64_in _ (by omega))) ?_
        | refine wl_v (x_add (tmI rfl rfl) (ev_cN 8)) ?_
       refine wl_e rfl ?_; intro K hK
       refine ow_call Try.func20 rfl rfl (evs_cons (tmS rfl rfl) <| evs_cons (tmI rfl rfl) <| evs_cons (ev_cN 2) <| evs_nil) (get_c l.length A c l (p + 8) 2 _ (viewV hS.ok 1 rfl) rfl hc hn4 hb (by omega) (by omega)) ?_
       rintro e w ⟨rfl, hk⟩
       refine ⟨_, rfl, ?_⟩
       replace hS := hS.kept hk
       clear hk
       have hj2 : getN l (p + 8) 2 < 256 ^ 2 := getN_lt hb (p + 8) 2
       have hjd : getN l (p + 8) 2 = jlen l p := rfl
       rw [hjd] at hj2 ⊢
       refine hK _ _ ?_; clear hK K
       first
        | refine wl_v (x_convN Try.underlying23 Try.underlying3 (tmI rfl rfl) (fit_i64 (by omega))) ?_
        | refine wl_v (x_conv Try.underlying23 Try.underlying3 (tmI rfl rfl)) ?_
       refine wl_v (x_assign (tmI rfl rfl)) ?_
       refine wl_nil ?_
       refine then_n (hK7 _ _ ?_); clear hK7 K7
       refine wp_seq_k ?_; intro K8 hK8
       refine wp_seq_k ?_; intro K9 hK9
       refine wlit ?_
       refine wl_v (x_move (tmI rfl rfl)) ?_
       refine wl_v (x_gtr (tmI rfl rfl) (ev_cN 4096)) ?_
       refine wl_v (x_move (tmB rfl rfl)) ?_
       refine gs_wl (tm (t := 20) rfl) (fun hg5_2 => ?_) (fun hg5_2 => ?_)
       · have hg5_2' := hg5_2; (try simp only [nrm] at hg5_2'); try (exfalso; first | with_reducible exact absurd hg5_2 Bool.false_ne_true | with_reducible exact absurd hg5_2.symm Bool.false_ne_true | omega | (simp at hg5_2; done))
         all_goals
          refine wl_s rfl (want_n rfl rfl rfl rfl (by rw [hg5_2]; rfl)) ?_
          refine wl_s rfl (want_n rfl rfl rfl rfl (by rw [hg5_2]; rfl)) ?_
          refine wl_s rfl (want_n rfl rfl rfl rfl (by rw [hg5_2]; rfl)) ?_
          refine wl_s rfl (want_n rfl rfl rfl rfl (by rw [hg5_2]; rfl)) ?_
          refine wl_s rfl (want_n rfl rfl rfl rfl (by rw [hg5_2]; rfl)) ?_
          refine wl_s rfl (want_n rfl rfl rfl rfl (by rw [hg5_2]; rfl)) ?_
          refine wl_s rfl (want_n rfl rfl rfl rfl (by rw [hg5_2]; rfl)) ?_
          refine wl_v (x_pickT (tmB rfl rfl) hg5_2 ev_c) ?_
          refine wl_nil ?_
          refine then_n (hK9 _ _ ?_); clear hK9 K9
          refine cnd_t (tmB rfl rfl) rfl ?_
          refine wp_seq_k ?_; intro K10 hK10
          refine wlit ?_
          refine wl_v (x_move (tmS rfl rfl)) ?_
          refine wl_v (x_move (tmI rfl rfl)) ?_
          refine wl_v (x_assign (tmS rfl rfl)) ?_
          refine wl_v (x_assign (tmI rfl rfl)) ?_
          refine wl_nil ?_
          refine then_n (hK10 _ _ ?_); clear hK10 K10
          refine wp_ret ?_
          refine then_r ?_
          refine inb_r ?_
          refine then_r ?_
          refine inb_r ?_
          refine then_r ?_
          refine ret2 rfl (.tmp rfl (show _ = Value.slice _ _ _ from rfl)) (.tmp rfl (show _ = Value.int _ _ from rfl)) ?_
          have hno : ¬ jfit l p (ng + 1) := by
            first
              | exact hno
              | (rintro ⟨a1, a2, a3, _⟩; omega)
          exact ⟨G, ng, cg, rows, p, hn, rfl, ⟨k, hM, hp, hN, by rw [← hp, ← hnk]; exact hno⟩, hS.new 0 rfl rfl, (fun r hr => (haw r hr).2.1 _ _ (viewV hS.ok 1 rfl)), hS.kp⟩
       have hg5_2' := hg5_2; (try simp only [nrm] at hg5_2'); try (exfalso; first | with_reducible exact absurd hg5_2 Bool.false_ne_true | with_reducible exact absurd hg5_2.symm Bool.false_ne_true | omega | (simp at hg5_2; done))
       all_goals
        refine wl_gv (want_y rfl rfl rfl rfl (by rw [hg5_2]; rfl)) (x_move (tmI rfl rfl)) ?_
        first
         | refine wl_gv (want_y rfl rfl rfl rfl (by rw [hg5_2]; rfl)) (x_addN (tmI rfl rfl) (ev_cN 14) (fit_i64 (by omega))) ?_
         | refine wl_gv (want_y rfl rfl rfl rfl (by rw [hg5_2]; rfl)) (x_addI (tmI rfl rfl) (ev_cN 14) (IntWalk.i64_in _ (by omega))) ?_
         | refine wl_gv (want_y rfl rfl rfl rfl (by rw [hg5_2]; rfl)) (x_add (tmI rfl rfl) (ev_cN 14)) ?_
        refine wl_gv (want_y rfl rfl rfl rfl (by rw [hg5_2]; rfl)) (x_move (tmI rfl rfl)) ?_
        first
         | refine wl_gv (want_y rfl rfl rfl rfl (by rw [hg5_2]; rfl)) (x_addN (tmI rfl rfl) (tmI rfl rfl) (fit_i64 (by omega))) ?_
         | refine wl_gv (want_y rfl rfl rfl rfl (by rw [hg5_2]; rfl)) (x_addI (tmI rfl rfl) (tmI rfl rfl) (IntWalk.i64_in _ (by omega))) ?_
         | refine wl_gv (want_y rfl rfl rfl rfl (by rw [hg5_2]; rfl)) (x_add (tmI rfl rfl) (tmI rfl rfl)) ?_
        refine wl_gv (want_y rfl rfl rfl rfl (by rw [hg5_2]; rfl)) (x_move (tmS rfl rfl)) ?_
        refine wl_gv (want_y rfl rfl rfl rfl (by rw [hg5_2]; rfl)) (x_len Try.underlying22 (tmS rfl rfl)) ?_
        refine wl_gv (want_y rfl rfl rfl rfl (by rw [hg5_2]; rfl)) (x_gtr (tmI rfl rfl) (tmI rfl rfl)) ?_
        refine wl_v (x_pickF (tmB rfl rfl) hg5_2 (tmB rfl rfl)) ?_
        refine wl_nil ?_
        refine then_n (hK9 _ _ ?_); clear hK9 K9
        refine cnd (tm rfl) (fun hc1 => ?_) (fun hc1 => ?_)
        · try (exfalso; first | with_reducible exact absurd hc1 Bool.false_ne_true | with_reducible exact absurd hc1.symm Bool.false_ne_true | (simp only [nrm] at hc1; omega) | (simp at hc1; done))
          all_goals
           try simp only [nrm] at hc1
           refine wp_seq_k ?_; intro K11 hK11
           refine wlit ?_
           refine wl_v (x_move (tmS rfl rfl)) ?_
           refine wl_v (x_move (tmI rfl rfl)) ?_
           refine wl_v (x_assign (tmS rfl rfl)) ?_
           refine wl_v (x_assign (tmI rfl rfl)) ?_
           refine wl_nil ?_
           refine then_n (hK11 _ _ ?_); clear hK11 K11
           refine wp_ret ?_
           refine then_r ?_
           refine inb_r ?_
           refine then_r ?_
           refine inb_r ?_
           refine then_r ?_
           refine ret2 rfl (.tmp rfl (show _ = Value.slice _ _ _ from rfl)) (.tmp rfl (show _ = Value.int _ _ from rfl)) ?_
           have hno : ¬ jfit l p (ng + 1) := by
             first
               | exact hno
               | (rintro ⟨a1, a2, a3, _⟩; omega)
           exact ⟨G, ng, cg, rows, p, hn, rfl, ⟨k, hM, hp, hN, by rw [← hp, ← hnk]; exact hno⟩, hS.new 0 rfl rfl, (fun r hr => (haw r hr).2.1 _ _ (viewV hS.ok 1 rfl)), hS.kp⟩
        try (exfalso; first | with_reducible exact absurd hc1 Bool.false_ne_true | with_reducible exact absurd hc1.symm Bool.false_ne_true | (simp only [nrm] at hc1; omega) | (simp at hc1; done))
        all_goals
         try simp only [nrm] at hc1
         refine wp_skip ?_
         refine then_n (hK8 _ _ ?_); clear hK8 K8
         refine wp_seq_k ?_; intro K12 hK12
         refine wlit ?_
         refine wl_v (x_move (tmS rfl rfl)) ?_
         refine wl_v (x_move (tmI rfl rfl)) ?_
         first
          | refine wl_v (x_addN (tmI rfl rfl) (ev_cN 14) (fit_i64 (by omega))) ?_
          | refine wl_v (x_addI (tmI rfl rfl) (ev_cN 14) (IntWalk.i64_in _ (by omega))) ?_
          | refine wl_v (x_add (tmI rfl rfl) (ev_cN 14)) ?_
         refine wl_v (x_move (tmI rfl rfl)) ?_
         first
          | refine wl_v (x_addN (tmI rfl rfl) (ev_cN 14) (fit_i64 (by omega))) ?_
          | refine wl_v (x_addI (tmI rfl rfl) (ev_cN 14) (IntWalk.i64_in _ (by omega))) ?_
          | refine wl_v (x_add (tmI rfl rfl) (ev_cN 14)) ?_
         refine wl_v (x_move (tmI rfl rfl)) ?_
         first
          | refine wl_v (x_addN (tmI rfl rfl) (tmI rfl rfl) (fit_i64 (by omega))) ?_
          | refine wl_v (x_addI (tmI rfl rfl) (tmI rfl rfl) (IntWalk.i64_in _ (by omega))) ?_
          | refine wl_v (x_add (tmI rfl rfl) (tmI rfl rfl)) ?_
         refine wl_v (x_sliceLH Try.underlying22 ts_5 (tmS rfl rfl) (tmI rfl rfl) (tmI rfl rfl) (by omega)) ?_
         refine wl_v (x_assign (tmS rfl rfl)) ?_
         refine wl_nil ?_
         refine then_n (hK12 _ _ ?_); clear hK12 K12
         refine wp_seq_k ?_; intro K13 hK13
         refine wp_seq_k ?_; intro K14 hK14
         have hjl : (jrec l p).length = jlen l p := by unfold jrec; rw [List.length_take, List.length_drop]; omega
         have hbx : Bytes (jrec l p) := (hb.drop _).take _
         have hbf : Bytes (frm (ng + 1) (jrec l p)) := frm_bytes hbx
         have hfl := frm_len (ng + 1) (jrec l p)
         have hoffB : Off A (p + 14) l.length (cutA A (p + 14) c 1) := by
           have h := off_cut (k := p + 14) (c := c) (off_zero (A0 := A) (n := l.length)) (by omega)
           rwa [Nat.zero_add] at h
         have hoffS : Off A p l.length (cutA A p c 1) := by
           have h := off_cut (k := p) (c := c) (off_zero (A0 := A) (n := l.length)) (by omega)
           rwa [Nat.zero_add] at h
         have hsubB : Sub A l (cutA A (p + 14) c 1) (jrec l p) := sub_off rfl hoffB _
         have hsubS : Sub A l (cutA A p c 1) ((l.drop p).take (14 + jlen l p)) := sub_off rfl hoffS _
         have hbs : Bytes ((l.drop p).take (14 + jlen l p)) := (hb.drop _).take _
         have hsl : ((l.drop p).take (14 + jlen l p)).length = p + 14 + jlen l p - p := by rw [List.length_take, List.length_drop]; omega
         have hiff := jfit_iff hb (p := p) (num := ng + 1) hg5_2' hc1 (by omega)
         have hp2 : p + 14 + jlen l p = jpos l (k + 1) := by rw [hp]; rfl
         have hmap : (rows ++ [(cutA A (p + 14) c 1, jrec l p, c - (p + 14))]).map rowV = rows.map rowV ++ [.slice (cutA A (p + 14) c 1) (p + 14 + jlen l p - (p + 14)) (c - (p + 14))] := by
           rw [List.map_append, show p + 14 + jlen l p - (p + 14) = (jrec l p).length by omega]; rfl
         have hM2 : (rows ++ [(cutA A (p + 14) c 1, jrec l p, c - (p + 14))]).map (·.2.1) = (List.range (k + 1)).map (fun j => jrec l (jpos l j)) := by
           rw [List.map_append, hM, List.range_succ, List.map_append]
           show _ ++ [jrec l p] = _ ++ [jrec l (jpos l k)]
           rw [← hp]
         have haw2 : ∀ r ∈ rows ++ [(cutA A (p + 14) c 1, jrec l p, c - (p + 14))], r.2.1.length ≤ r.2.2 ∧ Sub A l r.1 r.2.1 := fun r hr => by
           rcases List.mem_append.1 hr with h | h
           · exact haw r h
           · obtain rfl := List.mem_singleton.1 h
             exact ⟨by show (jrec l p).length ≤ c - (p + 14); omega, hsubB⟩
         replace hS := (hS.subb 1 rfl hsubB)
         replace hS := (hS.subb 2 rfl hsubS)
         generalize hS9 : (l.drop p).take (14 + jlen l p) = sl at *
         generalize hfr : frm (ng + 1) (jrec l p) = fr at *
         refine rg_startk 0 hS mixed_ ?_
         clear hS; intro w hS
         refine rg_take 0 rfl rfl (by kernel_rfl) (by kernel_rfl) (by kernel_rfl) (want_0) (fun w hok => x_move (tmS rfl rfl)) ?_
         refine rg_take 1 rfl rfl (by kernel_rfl) (by kernel_rfl) (by kernel_rfl) (want_0) (fun w hok => x_len Try.underlying25 (tmS rfl rfl)) ?_
         first
          | refine rg_take 2 rfl rfl (by kernel_rfl) (by kernel_rfl) (by kernel_rfl) (want_0) (fun w hok => x_addN (tmI rfl rfl) (ev_cN 1) (fit_i64 (by omega))) ?_
          | refine rg_take 2 rfl rfl (by kernel_rfl) (by kernel_rfl) (by kernel_rfl) (want_0) (fun w hok => x_addI (tmI rfl rfl) (ev_cN 1) (IntWalk.i64_in _ (by omega))) ?_
          | refine rg_take 2 rfl rfl (by kernel_rfl) (by kernel_rfl) (by kernel_rfl) (want_0) (fun w hok => x_add (tmI rfl rfl) (ev_cN 1)) ?_
         first
          | refine rg_take 3 rfl rfl (by kernel_rfl) (by kernel_rfl) (by kernel_rfl) (want_0) (fun w hok => x_convN Try.underlying3 Try.underlying23 (tmI rfl rfl) (fit_u64 (by omega))) ?_
          | refine rg_take 3 rfl rfl (by kernel_rfl) (by kernel_rfl) (by kernel_rfl) (want_0) (fun w hok => x_convU Try.underlying3 Try.underlying23 (tmI rfl rfl) rfl) ?_
          | refine rg_take 3 rfl rfl (by kernel_rfl) (by kernel_rfl) (by kernel_rfl) (want_0) (fun w hok => x_conv Try.underlying3 Try.underlying23 (tmI rfl rfl)) ?_
         refine rg_take 4 rfl rfl (by kernel_rfl) (by kernel_rfl) (by kernel_rfl) (want_0) (fun w hok => x_move (tmS rfl rfl)) ?_
         refine rg_take 7 rfl rfl (by kernel_rfl) (by kernel_rfl) (by kernel_rfl) (want_0) (fun w hok => x_move (tmS rfl rfl)) ?_
         refine rg_take 8 rfl rfl (by kernel_rfl) (by kernel_rfl) (by kernel_rfl) (want_0) (fun w hok => x_move (tmI rfl rfl)) ?_
         refine rg_take 9 rfl rfl (by kernel_rfl) (by kernel_rfl) (by kernel_rfl) (want_0) (fun w hok => x_move (tmI rfl rfl)) ?_
         first
          | refine rg_take 10 rfl rfl (by kernel_rfl) (by kernel_rfl) (by kernel_rfl) (want_0) (fun w hok => x_addN (tmI rfl rfl) (ev_cN 14) (fit_i64 (by omega))) ?_
          | refine rg_take 10 rfl rfl (by kernel_rfl) (by kernel_rfl) (by kernel_rfl) (want_0) (fun w hok => x_addI (tmI rfl rfl) (ev_cN 14) (IntWalk.i64_in _ (by omega))) ?_
          | refine rg_take 10 rfl rfl (by kernel_rfl) (by kernel_rfl) (by kernel_rfl) (want_0) (fun w hok => x_add (tmI rfl rfl) (ev_cN 14)) ?_
         refine rg_take 11 rfl rfl (by kernel_rfl) (by kernel_rfl) (by kernel_rfl) (want_0) (fun w hok => x_move (tmI rfl rfl)) ?_
         first
          | refine rg_take 12 rfl rfl (by kernel_rfl) (by kernel_rfl) (by kernel_rfl) (want_0) (fun w hok => x_addN (tmI rfl rfl) (tmI rfl rfl) (fit_i64 (by omega))) ?_
          | refine rg_take 12 rfl rfl (by kernel_rfl) (by kernel_rfl) (by kernel_rfl) (want_0) (fun w hok => x_addI (tmI rfl rfl) (tmI rfl rfl) (IntWalk.i64_in _ (by omega))) ?_
          | refine rg_take 12 rfl rfl (by kernel_rfl) (by kernel_rfl) (by kernel_rfl) (want_0) (fun w hok => x_add (tmI rfl rfl) (tmI rfl rfl)) ?_
         refine rg_take 13 rfl rfl (by kernel_rfl) (by kernel_rfl) (by kernel_rfl) (want_0) (fun w hok => x_sliceLH Try.underlying22 ts_5 (tmS rfl rfl) (tmI rfl rfl) (tmI rfl rfl) (by omega)) ?_
         refine rg_take 14 rfl rfl (by kernel_rfl) (by kernel_rfl) (by kernel_rfl) (want_0) (fun w hok => x_bstr Try.underlying22 Try.underlying5 Try.underlying9 (tmS rfl rfl) (viewV hok 0 rfl) hbs hsl) ?_
         refine rg_step 5 rfl (by kernel_rfl) (want_0) (oks_drop hS 0 rfl) ?_; intro K hK
         refine ow_call Try.func8 rfl rfl (evs_cons (tmI rfl rfl) <| evs_cons (tmS rfl rfl) <| evs_nil) (rframe_c (ng + 1) _ _ _ (jrec l p) _ (viewV hS.ok 1 rfl) (by omega) (by omega) (by omega) hbx) ?_
         rintro e w ⟨Af, mf, cf, hmf, rfl, hn9, hk⟩
         refine ⟨_, rfl, ?_⟩
         rw [hfr] at hmf hn9
         replace hS := hS.add hk hn9 -- +rowf
         clear hk hn9
         refine hK _ _ ?_; clear hK K
         refine rg_step 6 rfl (by kernel_rfl) (want_0) (oks_drop hS 1 rfl) ?_; intro K hK
         refine ow_v (x_bstr Try.underlying22 Try.underlying5 Try.underlying9 (tmS rfl rfl) (viewR hS.ok 0 rfl) hbf hmf.symm) ?_
         refine hK _ _ ?_; clear hK K
         refine rg_take 15 rfl rfl (by kernel_rfl) (by kernel_rfl) (by kernel_rfl) (want_0) (fun w hok => x_Gneq (tmG rfl rfl) (tmG rfl rfl) (by first | assumption | exact Bytes.nil | (repeat' (first | assumption | exact Bytes.nil | exact be_bytes _ _ | apply Bytes.append | apply Bytes.take | apply Bytes.drop | apply Bytes.replicate))) (by first | assumption | exact Bytes.nil | (repeat' (first | assumption | exact Bytes.nil | exact be_bytes _ _ | apply Bytes.append | apply Bytes.take | apply Bytes.drop | apply Bytes.replicate)))) ?_
         refine rg_done (oks_drop hS 1 rfl) (by kernel_rfl) ?_
         refine then_n (hK14 _ _ ?_); clear hK14 K14
         refine cnd (tm rfl) (fun hc2 => ?_) (fun hc2 => ?_)
         · try (exfalso; first | with_reducible exact absurd hc2 Bool.false_ne_true | with_reducible exact absurd hc2.symm Bool.false_ne_true | (simp only [nrm] at hc2; omega) | (simp at hc2; done))
           all_goals
            try simp only [nrm] at hc2
            have hno : ¬ jfit l p (ng + 1) := fun h => by
              have := hiff.2 h
              first | (simp [this] at hc2; done) | exact absurd this hc2
            refine wp_seq_k ?_; intro K15 hK15
            refine wlit ?_
            refine wl_v (x_move (tmS rfl rfl)) ?_
            refine wl_v (x_move (tmI rfl rfl)) ?_
            refine wl_v (x_assign (tmS rfl rfl)) ?_
            refine wl_v (x_assign (tmI rfl rfl)) ?_
            refine wl_nil ?_
            refine then_n (hK15 _ _ ?_); clear hK15 K15
            refine wp_ret ?_
            refine then_r ?_
            refine inb_r ?_
            refine then_r ?_
            refine inb_r ?_
            refine then_r ?_
            refine ret2 rfl (.tmp rfl (show _ = Value.slice _ _ _ from rfl)) (.tmp rfl (show _ = Value.int _ _ from rfl)) ?_
            have hno : ¬ jfit l p (ng + 1) := by
              first
                | exact hno
                | (rintro ⟨a1, a2, a3, _⟩; omega)
            exact ⟨G, ng, cg, rows, p, hn, rfl, ⟨k, hM, hp, hN, by rw [← hp, ← hnk]; exact hno⟩, hS.new 3 rfl rfl, (fun r hr => (haw r hr).2.1 _ _ (viewV hS.ok 4 rfl)), hS.kp⟩
         try (exfalso; first | with_reducible exact absurd hc2 Bool.false_ne_true | with_reducible exact absurd hc2.symm Bool.false_ne_true | (simp only [nrm] at hc2; omega) | (simp at hc2; done))
         all_goals
          try simp only [nrm] at hc2
          have hf : jfit l p (ng + 1) := hiff.1 (by first | (simpa using hc2) | exact hc2)
          have hN2 : ∀ j, j < k + 1 → jfit l (jpos l j) (j + 1) := fun j hj => by
            by_cases h : j < k
            · exact hN j h
            · obtain rfl : j = k := by omega
              rw [← hp, ← hnk]; exact hf
          refine wp_skip ?_
          refine then_n (hK13 _ _ ?_); clear hK13 K13
          refine wp_seq_k ?_; intro K16 hK16
          refine wlit ?_
          refine wl_v (x_move (tmS rfl rfl)) ?_
          refine wl_v (x_move (tmS rfl rfl)) ?_
          refine wl_e rfl ?_; intro K hK
          refine ow_build hS Try.underlying25 tz_22 (bc_take (tmS rfl rfl) <| bc_nil) rfl rfl (by kernel_rfl) ?_
          clear hS; intro g10_2 w hg10_2 hS
          refine hK _ _ ?_; clear hK K
          refine wl_e rfl ?_; intro K hK
          first
           | (refine ow_append hS 1 0 rfl rfl Try.underlying25 tz_22 rfl (tmS rfl rfl) (tmS rfl rfl) rfl ⟨by decide, by decide, rfl⟩ (by simp only [maxLen]; omega) (by omega) ?_; clear hS; intro g10_3 cg10_3 w hS)
           | (refine ow_append hS 4 0 rfl rfl Try.underlying25 tz_22 rfl (tmS rfl rfl) (tmS rfl rfl) rfl ⟨by decide, by decide, rfl⟩ (by simp only [maxLen]; omega) (by omega) ?_; clear hS; intro g10_3 cg10_3 w hS)
          refine hK _ _ ?_; clear hK K
          refine wl_v (x_assign (tmS rfl rfl)) ?_
          refine wl_nil ?_
          refine then_n (hK16 _ _ ?_); clear hK16 K16
          refine wlit ?_
          refine wl_v (x_move (tmI rfl rfl)) ?_
          first
           | refine wl_v (x_addN (tmI rfl rfl) (ev_cN 14) (fit_i64 (by omega))) ?_
           | refine wl_v (x_addI (tmI rfl rfl) (ev_cN 14) (IntWalk.i64_in _ (by omega))) ?_
           | refine wl_v (x_add (tmI rfl rfl) (ev_cN 14)) ?_
          refine wl_v (x_move (tmI rfl rfl)) ?_
          first
           | refine wl_v (x_addN (tmI rfl rfl) (tmI rfl rfl) (fit_i64 (by omega))) ?_
           | refine wl_v (x_addI (tmI rfl rfl) (tmI rfl rfl) (IntWalk.i64_in _ (by omega))) ?_
           | refine wl_v (x_add (tmI rfl rfl) (tmI rfl rfl)) ?_
          refine wl_v (x_assign (tmI rfl rfl)) ?_
          refine wl_nil ?_
          refine inb_n ?_
          exact then_n ⟨_, _, rfl, (by show _ < _; omega), (by repeat (first | exact agree_self | exact agree_refl | refine agree_upd rfl ?_ | refine agree_mix rfl ?_)), k + 1, p + 14 + jlen l p, _, _, _, rows ++ [(cutA A (p + 14) c 1, jrec l p, c - (p + 14))], rfl, (by first | rfl | go_num | exact congrArg (Value.int _) (by first | omega | (simp; done) | (simp; omega))), (by first | rfl | go_num | exact congrArg (Value.int _) (by first | omega | (simp; done) | (simp; omega))), (by rw [hmap]; exact hS.pick [4, 5] rfl rfl), (by first | exact hp2 | rfl), (by omega), (by omega), (by first | exact hN2 | (intro j hj; omega)), (by first | rfl | omega), (by first | rfl | (rw [List.length_append, hn]; rfl)), (by first | exact hM2 | rfl), (by first | exact haw2 | (intro r hr; cases hr))⟩
    try (exfalso; first | with_reducible exact absurd hc0 Bool.false_ne_true | with_reducible exact absurd hc0.symm Bool.false_ne_true | (simp only [nrm] at hc0; omega) | (simp at hc0; done))
    all_goals
     try simp only [nrm] at hc0
     refine wp_exit ?_
     refine then_x ?_; clear hK5 K5
     refine then_x ?_
     refine inb_x ?_
     refine then_n (hK4 _ _ ?_); clear hK4 K4
     refine wp_seq_k ?_; intro K17 hK17
     refine wlit ?_
     refine wl_v (x_move (tmS rfl rfl)) ?_
     refine wl_v (x_move (tmI rfl rfl)) ?_
     refine wl_v (x_assign (tmS rfl rfl)) ?_
     refine wl_v (x_assign (tmI rfl rfl)) ?_
     refine wl_nil ?_
     refine then_n (hK17 _ _ ?_); clear hK17 K17
     refine wp_ret ?_
     refine ret2 rfl (.tmp rfl (show _ = Value.slice _ _ _ from rfl)) (.tmp rfl (show _ = Value.int _ _ from rfl)) ?_
     have hno : ¬ jfit l p (ng + 1) := by
       first
         | exact hno
         | (rintro ⟨a1, a2, a3, _⟩; omega)
     exact ⟨G, ng, cg, rows, p, hn, rfl, ⟨k, hM, hp, hN, by rw [← hp, ← hnk]; exact hno⟩, hS.new 0 rfl rfl, (fun r hr => (haw r hr).2.1 _ _ (viewV hS.ok 1 rfl)), hS.kp⟩
end Go.Proofs.Ytcimbinkjepkcaa
