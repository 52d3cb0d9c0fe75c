
/- Scan by both, by contract. Conditions: none but bounds. -/
import Derived.Test.YtcimbinkjepkcaaJrC
import Derived.Test.YtcimbinkjepkcaaRws
namespace Go.Proofs.Ytcimbinkjepkcaa
open Go.ChangeShapes Go.WideShapes Go.ChangeAt Go.RowKit
def jpos (l : List Nat) : Nat → Nat
  | 0 => 0
  | k + 1 => jpos l k + 14 + jlen l (jpos l k)
def ScanR (l : List Nat) (rows : List Row3) (sz : Nat) : Prop :=
  ∃ k, rows.map (·.2.1) = (List.range k).map (fun j => jrec l (jpos l j)) ∧ sz = jpos l k ∧ (∀ j, j < k → jfit l (jpos l j) (j + 1)) ∧ ¬ jfit l (jpos l k) (k + 1)
theorem ScanR.same {l : List Nat} {r1 r2 : List Row3} {s1 s2 : Nat} (h1 : ScanR l r1 s1) (h2 : ScanR l r2 s2) : s1 = s2 ∧ r1.map (·.2.1) = r2.map (·.2.1) := by
  obtain ⟨k, a1, a2, a3, a4⟩ := h1
  obtain ⟨q, b1, b2, b3, b4⟩ := h2
  have : k = q := by
    rcases Nat.lt_trichotomy k q with h | h | h
    · exact absurd (b3 k h) a4
    · exact h
    · exact absurd (a3 q h) b4
  subst this
  exact ⟨a2.trans b2.symm, a1.trans b1.symm⟩
theorem jpos_le (l : List Nat) : ∀ k, (∀ j, j < k → jfit l (jpos l j) (j + 1)) → jpos l k ≤ l.length
  | 0, _ => Nat.zero_le _
  | k + 1, h => (h k (Nat.lt_succ_self k)).2.2.1
theorem jpos_ge (l : List Nat) : ∀ k, 14 * k ≤ jpos l k
  | 0 => Nat.zero_le _
  | k + 1 => by
    have := jpos_ge l k
    show 14 * (k + 1) ≤ jpos l k + 14 + jlen l (jpos l k)
    omega
theorem ScanR.bounds {l : List Nat} {rows : List Row3} {sz : Nat} (h : ScanR l rows sz) : sz ≤ l.length ∧ rows.length ≤ l.length ∧ ∀ r ∈ rows, r.2.1.length ≤ l.length := by
  obtain ⟨k, h1, h2, h3, h4⟩ := h
  have hle := jpos_le l k h3
  have hge := jpos_ge l k
  have hlen := congrArg List.length h1
  simp at hlen
  refine ⟨by omega, by omega, fun r hr => ?_⟩
  have hm : r.2.1 ∈ rows.map (·.2.1) := List.mem_map_of_mem hr
  rw [h1] at hm
  obtain ⟨j, hj, he⟩ := List.mem_map.1 hm
  rw [← he]
  unfold jrec
  rw [List.length_take, List.length_drop]
  omega
theorem ScanR.bytes {l : List Nat} {rows : List Row3} {sz : Nat} (h : ScanR l rows sz) (hb : Bytes l) : ∀ r ∈ rows, Bytes r.2.1 := by
  obtain ⟨k, h1, h2, h3, h4⟩ := h
  intro r hr
  have hm : r.2.1 ∈ rows.map (·.2.1) := List.mem_map_of_mem hr
  rw [h1] at hm
  obtain ⟨j, hj, he⟩ := List.mem_map.1 hm
  rw [← he]
  exact (hb.drop _).take _
set_option maxRecDepth 100000 in
set_option maxHeartbeats 4000000 in
theorem scan_c (n : Nat) (A : Option Addr) (c : Nat) (l : List Nat) (w0 : World) (hv : View w0 w0.heap.size A (l.map u8v)) (hl : l.length = n) (hn4 : n ≤ 1000000) (hb : Bytes l) :
    Calls Try.prog 5 #[.slice A n c] w0 fun e w' => ∃ G ng cg rows sz, rows.length = ng ∧ e = .returned (.tuple #[.slice G ng cg, .int .i64 ((sz : Nat) : Int)]) ∧ ScanR l rows sz ∧ New w0 w' (.row (.slice G ng cg) 22 1 ng (rows.map rowV)) ∧ Vws w' rows ∧ Kp [] w0 w' := by
  subst hl
  have hS := (St.sv w0).vcons rfl hv
  refine ent (n := 34) Try.func5 rfl rfl ?_
  refine wp_seq_k ?_; intro K1 hK1
  refine wlit ?_
  refine wl_v (x_assign ev_c) ?_
  refine wl_v (x_assign (ev_cN 0)) ?_
  refine wl_nil ?_
  refine then_n (hK1 _ _ ?_); clear hK1 K1
  refine wp_seq_k ?_; intro K2 hK2
  refine wlit ?_
  refine wl_v (x_move (tmS rfl rfl)) ?_
  refine wl_e rfl ?_; intro K hK
  refine ow_call Try.func16 rfl rfl (evs_cons (tmS rfl rfl) <| evs_nil) (read_c l.length A c l _ (viewV hS.ok 0 rfl) rfl hn4) ?_
  rintro e w ⟨gr, A0, rfl, hS2⟩
  refine ⟨_, rfl, ?_⟩
  replace hS := hS.leave [] [0] rfl rfl rfl hS2 rfl --ents gr,row,vw
  clear hS2
  replace hS := (hS.freeze 1 rfl) --ents gr,va,vw
  try replace hS := St.nm (M' := [_, .vw _ _, .vw _ _]) hS rfl
  refine hK _ _ ?_; clear hK K
  refine wl_v (x_assign (tmP rfl rfl)) ?_
  refine wl_nil ?_
  refine then_n (hK2 _ _ ?_); clear hK2 K2
  refine wp_seq_k ?_; intro K3 hK3
  refine wlit ?_
  refine wl_v (x_assign ev_c) ?_
  refine wl_nil ?_
  refine then_n (hK3 _ _ ?_); clear hK3 K3
  refine wp_seq_k ?_; intro K4 hK4
  refine wlit ?_
  refine wl_v (x_assign (ev_cN 0)) ?_
  refine wl_nil ?_
  refine then_n (hK4 _ _ ?_); clear hK4 K4
  refine wp_block ?_
  have hS := (hS.nilrow 22 1).pick [0, 1, 2] rfl rfl --ents row,gr,va
  refine lp [2, 3, 5, 6, 7, 8, 11, 12, 13, 14, 15, 16, 17, 18, 19, 20, 21, 22, 23, 24, 25, 26, 27, 28, 29, 30, 31, 32, 33] (fun mz g w => ∃ (k p : Nat), ∃ (G : Option Addr), ∃ (ng cg : Nat), ∃ (rows : List Row3), ∃ (A1 : Option Addr), ∃ (m1 c1 : Nat), mz = 2 * (l.length + 14 - p) ∧ g 5 = .slice G ng cg ∧ g 6 = .int .i64 (p : Int) ∧ St [] w0 [.row (.slice G ng cg) 22 1 ng (rows.map rowV), .blk gr 61 (rdV A1 m1 c1 false), .vw A0 (l.map u8v)] w ∧ (p = jpos l k) ∧ (p ≤ l.length) ∧ (k ≤ p) ∧ (∀ j, j < k → jfit l (jpos l j) (j + 1)) ∧ (RdO A0 l.length (some p) A1 m1 c1 false) ∧ (ng = k) ∧ (rows.length = ng) ∧ (rows.map (·.2.1) = (List.range k).map (fun j => jrec l (jpos l j))) ∧ (Rws w w0.heap.size (blks [.row (.slice G ng cg) 22 1 ng (rows.map rowV), .blk gr 61 (rdV A1 m1 c1 false)]) rows)) ?_ ?_
  · exact ⟨_, 0, 0, none, 0, 0, [], A0, l.length, l.length, rfl, (by first | rfl | go_num | exact congrArg (Value.int _) (by first | omega | (simp; done) | (simp; omega))), (by first | rfl | go_num | exact congrArg (Value.int _) (by first | omega | (simp; done) | (simp; omega))), hS, (by first | exact hp2 | rfl), (by omega), (by omega), (by first | exact hN2 | (intro j hj; omega)), (by first | exact hR3 | exact ⟨rfl, Nat.zero_le _, rfl, off_zero, Nat.le_refl _⟩), (by first | rfl | omega), (by first | rfl | (rw [List.length_append, hn]; rfl)), (by first | exact hM2 A2 c2 | rfl), (by first | exact Rws.nil | (rw [hmap]; exact (haw.step (hS.pick [(no_label_row), 0] rfl rfl) rfl).snoc c2 (hS.pick [(no_label_vp), (no_label_row), 0] rfl rfl) rfl hlo))⟩
  · clear hS; intro mz g w hI
    obtain ⟨k, p, G, ng, cg, rows, A1, m1, c1, rfl, hs5, hs6, hS, hp, hpl, hkp, hN, hR, hnk, hn, hM, haw⟩ := hI
    refine fr_know (d := 5) hs5 ?_; clear hs5
    refine fr_know (d := 6) (upd_ne rfl hs6) ?_; clear hs6
    refine wp_block ?_
    refine wp_seq_k ?_; intro K5 hK5
    have hS0 := hS
    replace hS := hS0.enter [0, 1] [2] rfl rfl
    try replace hS := St.nm (M' := [.row _ _ _ _ _, _, .vw _ _]) hS rfl
    refine wlit ?_
    refine wl_v (x_move (tmP rfl rfl)) ?_
    refine wl_v (x_move (tmS rfl rfl)) ?_
    refine wl_v (x_len Try.underlying25 (tmS rfl rfl)) ?_
    first
     | refine wl_v (x_addN (tmI rfl rfl) (ev_cN 1) (fit_i64 (by omega))) ?_
     | refine wl_v (x_addI (tmI rfl rfl) (ev_cN 1) (IntWalk.i64_in _ (by omega))) ?_
     | refine wl_v (x_add (tmI rfl rfl) (ev_cN 1)) ?_
    first
     | refine wl_v (x_convN Try.underlying3 Try.underlying23 (tmI rfl rfl) (fit_u64 (by omega))) ?_
     | refine wl_v (x_convU Try.underlying3 Try.underlying23 (tmI rfl rfl) rfl) ?_
     | refine wl_v (x_conv Try.underlying3 Try.underlying23 (tmI rfl rfl)) ?_
    refine wl_e rfl ?_; intro K hK
    refine ow_call Try.func17 rfl rfl (evs_cons (tmP rfl rfl) <| evs_cons (tmI rfl rfl) <| evs_nil) (jtake_c gr A0 A1 p l.length m1 c1 l false (ng + 1) _ _ (hS.enter [1] [2] rfl rfl) hR rfl hb (by omega) hn4) ?_
    rintro e w ⟨B, nb, A3, m3, c3, bad3, ok, rfl, hS2, hT⟩
    refine ⟨_, rfl, ?_⟩
    replace hS := hS.leave [1] [0, 2] rfl rfl rfl hS2 rfl --ents gr,row,va
    clear hS2
    try replace hS := St.nm (M' := [_, .row _ _ _ _ _, .vw _ _]) hS rfl
    refine hK _ _ ?_; clear hK K
    refine wl_v (x_move (tmT rfl rfl)) ?_
    refine wl_v (x_ext (tmT rfl rfl) rfl) ?_
    refine wl_v (x_ext (tmT rfl rfl) rfl) ?_
    refine wl_v (x_assign (tmS rfl rfl)) ?_
    refine wl_v (x_assign (tmB rfl rfl)) ?_
    refine wl_nil ?_
    refine then_n (hK5 _ _ ?_); clear hK5 K5
    refine wp_seq_k ?_; intro K6 hK6
    refine wp_seq_k ?_; intro K7 hK7
    refine wlit ?_
    refine wl_v (x_move (tmB rfl rfl)) ?_
    refine wl_v (x_not (tmB rfl rfl)) ?_
    refine wl_nil ?_
    refine then_n (hK7 _ _ ?_); clear hK7 K7
    refine cnd (tm rfl) (fun hc0 => ?_) (fun hc0 => ?_)
    · try (exfalso; first | with_reducible exact absurd hc0 Bool.false_ne_true | with_reducible exact absurd hc0.symm Bool.false_ne_true | (simp only [nrm] at hc0; omega) | (simp at hc0; done))
      all_goals
       try simp only [nrm] at hc0
       have hno : ¬ jfit l p (ng + 1) := by
         rcases hT with ⟨rfl, _⟩ | ⟨_, h⟩
         · first | (exfalso; simp at hc0; done) | cases hc0
         · exact h
       refine wp_seq_k ?_; intro K8 hK8
       refine wlit ?_
       refine wl_v (x_move (tmS rfl rfl)) ?_
       refine wl_v (x_move (tmI rfl rfl)) ?_
       refine wl_v (x_assign (tmS rfl rfl)) ?_
       refine wl_v (x_assign (tmI rfl rfl)) ?_
       refine wl_nil ?_
       refine then_n (hK8 _ _ ?_); clear hK8 K8
       refine wp_ret ?_
       refine then_r ?_
       refine inb_r ?_
       refine then_r ?_
       refine inb_r ?_
       refine ret2 rfl (.tmp rfl (show _ = Value.slice _ _ _ from rfl)) (.tmp rfl (show _ = Value.int _ _ from rfl)) ?_
       exact ⟨G, ng, cg, rows, p, hn, rfl, ⟨k, hM, hp, hN, by rw [← hp, ← hnk]; exact hno⟩, (hS0.leave [0, 1] [2] rfl rfl rfl (hS.pick [1, 0] rfl rfl) rfl).new 0 rfl rfl, (fun r hr => (haw.step (hS.pick [1, 0] rfl rfl) rfl r hr).1), (hS0.leave [0, 1] [2] rfl rfl rfl (hS.pick [1, 0] rfl rfl) rfl).kp⟩
    try (exfalso; first | with_reducible exact absurd hc0 Bool.false_ne_true | with_reducible exact absurd hc0.symm Bool.false_ne_true | (simp only [nrm] at hc0; omega) | (simp at hc0; done))
    all_goals
     try simp only [nrm] at hc0
     have hyes : jfit l p (ng + 1) ∧ nb = jlen l p ∧ Sub A0 l B (jrec l p) ∧ RdO A0 l.length (some (p + 14 + jlen l p)) A3 m3 c3 bad3 := by
       rcases hT with ⟨_, h⟩ | ⟨rfl, _⟩
       · exact h
       · first | (exfalso; simp at hc0; done) | cases hc0
     clear hT
     obtain ⟨hf, rfl, hsub, hR2⟩ := hyes
     obtain ⟨rfl, hR2⟩ : bad3 = false ∧ RdO A0 l.length (some (p + 14 + jlen l p)) A3 m3 c3 bad3 := ⟨hR2.1, hR2⟩
     have hR3 := hR2
     have hm3 : m3 = l.length - (p + 14 + jlen l p) := hR2.2.2.1
     have hle3 := hf.2.2.1
     have hjl : (jrec l p).length = jlen l p := by unfold jrec; rw [List.length_take, List.length_drop]; omega
     have hp2 : p + 14 + jlen l p = jpos l (k + 1) := by rw [hp]; rfl
     have hM2 : ∀ (A2 : Option Addr) (c2 : Nat), (rows ++ [(A2, jrec l p, c2)]).map (·.2.1) = (List.range (k + 1)).map (fun j => jrec l (jpos l j)) := fun A2 c2 => by
       rw [List.map_append, hM, List.range_succ, List.map_append]
       show _ ++ [jrec l p] = _ ++ [jrec l (jpos l k)]
       rw [← hp]
     have hN2 : ∀ j, j < k + 1 → jfit l (jpos l j) (j + 1) := fun j hj => by
       by_cases h : j < k
       · exact hN j h
       · obtain rfl : j = k := by omega
         rw [← hp, ← hnk]; exact hf
     replace hS := hS.subb 2 rfl hsub
     generalize hjr : jrec l p = x at *
     refine wp_skip ?_
     refine then_n (hK6 _ _ ?_); clear hK6 K6
     refine wp_seq_k ?_; intro K9 hK9
     refine wlit ?_
     refine wl_v (x_move (tmS rfl rfl)) ?_
     refine wl_v (x_move (tmS rfl rfl)) ?_
     refine wl_e rfl ?_; intro K hK
     refine ow_call Try.func18 rfl rfl (evs_cons (tmS rfl rfl) <| evs_nil) (clone_c _ B _ x _ (viewV hS.ok 0 rfl) hjl (by omega)) ?_
     rintro e w ⟨A2, c2, rfl, hn9, hk⟩
     refine ⟨_, rfl, ?_⟩
     have hlo : ∀ b, (Ent.vw A2 (x.map u8v)).blk? = some b → w0.heap.size ≤ b := fun b hb => Nat.le_trans (Nat.le_trans hS0.kp.size hS.kp.size) ((New.view hn9).2 b hb)
     have hmap : (rows ++ [(A2, x, c2)]).map rowV = rows.map rowV ++ [.slice A2 (jlen l p) c2] := by rw [List.map_append, ← hjl]; rfl
     replace hS := hS.addn hk (New.view hn9) -- +vp
     clear hk hn9
     refine hK _ _ ?_; clear hK K
     refine wl_e rfl ?_; intro K hK
     refine ow_build hS Try.underlying25 tz_22 (bc_take (tmS rfl rfl) <| bc_nil) rfl rfl (by kernel_rfl) ?_
     clear hS; intro g7_3 w hg7_3 hS
     refine hK _ _ ?_; clear hK K
     refine wl_e rfl ?_; intro K hK
     (refine ow_append hS 4 0 rfl rfl Try.underlying25 tz_22 rfl (tmS rfl rfl) (tmS rfl rfl) rfl ⟨by decide, by decide, rfl⟩ (by simp only [maxLen]; omega) (by omega) ?_; clear hS; intro g7_4 cg7_4 w hS)
     refine hK _ _ ?_; clear hK K
     refine wl_v (x_assign (tmS rfl rfl)) ?_
     refine wl_nil ?_
     refine then_n (hK9 _ _ ?_); clear hK9 K9
     refine wlit ?_
     refine wl_v (x_move (tmS rfl rfl)) ?_
     refine wl_v (x_len Try.underlying22 (tmS rfl rfl)) ?_
     refine wl_v (x_move (tmP rfl rfl)) ?_
     refine wl_e rfl ?_; intro K hK
     refine ow_call Try.func19 rfl rfl (evs_cons (tmP rfl rfl) <| evs_nil) (left_c gr A3 m3 c3 false _ (viewB hS.ok 3 rfl)) ?_
     rintro e w ⟨rfl, hk⟩
     refine ⟨_, rfl, ?_⟩
     replace hS := hS.kept hk
     clear hk
     refine hK _ _ ?_; clear hK K
     first
      | refine wl_v (x_subN (tmI rfl rfl) (tmI rfl rfl) (fit_i64 (by omega)) (by omega)) ?_
      | refine wl_v (x_subI (tmI rfl rfl) (tmI rfl rfl) (IntWalk.i64_in _ (by omega))) ?_
      | refine wl_v (x_sub (tmI rfl rfl) (tmI rfl rfl)) ?_
     refine wl_v (x_assign (tmI rfl rfl)) ?_
     refine wl_nil ?_
     refine inb_n ?_
     exact then_n ⟨_, _, rfl, (by show _ < _; omega), (by repeat (first | exact agree_self | exact agree_refl | refine agree_upd rfl ?_ | refine agree_mix rfl ?_)), k + 1, p + 14 + jlen l p, _, _, _, rows ++ [(A2, x, c2)], A3, m3, c3, rfl, (by first | rfl | go_num | exact congrArg (Value.int _) (by first | omega | (simp; done) | (simp; omega))), (by first | rfl | go_num | exact congrArg (Value.int _) (by first | omega | (simp; done) | (simp; omega))), (by rw [hmap]; exact hS0.leave [0, 1] [2] rfl rfl rfl (hS.pick [4, 3] rfl rfl) rfl), (by first | exact hp2 | rfl), (by omega), (by omega), (by first | exact hN2 | (intro j hj; omega)), (by first | exact hR3 | exact ⟨rfl, Nat.zero_le _, rfl, off_zero, Nat.le_refl _⟩), (by first | rfl | omega), (by first | rfl | (rw [List.length_append, hn]; rfl)), (by first | exact hM2 A2 c2 | rfl), (by first | exact Rws.nil | (rw [hmap]; exact (haw.step (hS.pick [4, 3] rfl rfl) rfl).snoc c2 (hS.pick [1, 4, 3] rfl rfl) rfl hlo))⟩
end Go.Proofs.Ytcimbinkjepkcaa
