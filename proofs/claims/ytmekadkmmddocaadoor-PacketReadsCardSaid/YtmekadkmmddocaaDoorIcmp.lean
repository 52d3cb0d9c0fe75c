/- icmp: TooBig, Bytes, and the references' TooBig and Same, by contract. Conditions: none but bounds. -/
import Derived.Test.YtmekadkmmddocaaDoorOct
namespace Go.Proofs.YtmekadkmmddocaaDoor
open Go.RowKit

def msgV (ty code sum word : Nat) (A : Option Addr) (n c : Nat) : List Value := [.int .u8 (ty : Int), .int .u8 (code : Int), .int .u16 (sum : Int), .int .u32 (word : Int), .slice A n c]
def icmpB (ty code sum word : Nat) (l : List Nat) : List Nat := [] ++ be ty 1 ++ be code 1 ++ be sum 2 ++ be word 4 ++ l

set_option maxRecDepth 100000 in
set_option maxHeartbeats 4000000 in
theorem icmp_bytes_c (ty code sum word : Nat) (A : Option Addr) (n c : Nat) (l : List Nat) (w0 : World) (hv : View w0 w0.heap.size A (l.map u8v)) (hl : l.length = n) (hn4 : n ≤ 900000) (h1 : ty ≤ 255) (h2 : code ≤ 255) (h3 : sum ≤ 65535) (h4 : word ≤ 4294967295) :
    Calls Tryd.prog 104 #[.agg (msgV ty code sum word A n c).toArray] w0 fun e w' => ∃ A' m c', m = 8 + n ∧ e = .returned (.slice A' m c') ∧ New w0 w' (.row (.slice A' m c') 5 1 m ((icmpB ty code sum word l).map u8v)) ∧ Kp [] w0 w' := by
  have hS := (St.sv w0).vcons rfl hv
  refine ent (n := 27) Tryd.func104 rfl rfl ?_
  refine wp_seq_k ?_; intro K1 hK1
  refine wlit ?_
  refine wl_e rfl ?_; intro K hK
  refine ow_box hS (tmA rfl rfl) rfl ?_
  clear hS; intro g0_0 w hg0_0 hS
  refine hK _ _ ?_; clear hK K
  refine wl_v (x_assign ev_c) ?_
  refine wl_nil ?_
  refine then_n (hK1 _ _ ?_); clear hK1 K1
  refine wp_seq_k ?_; intro K2 hK2
  refine wlit ?_
  refine wl_v (x_fa 0 Tryd.underlying36 rfl rfl ts_5 (tmP rfl rfl)) ?_
  refine wl_v (x_load Tryd.underlying5 rfl (tmP rfl rfl) (cellB hS.ok 0 rfl rfl)) ?_
  refine wl_v (x_convN Tryd.underlying5 Tryd.underlying24 (tmI rfl rfl) (fit_u64 (by omega))) ?_
  refine wl_e rfl ?_; intro K hK
  refine ow_call Tryd.func61 rfl rfl (evs_cons ev_c <| evs_cons (tmI rfl rfl) <| evs_cons (ev_cN 1) <| evs_nil) (put_c 0 none 0 [] ty 1 _ View.nil_ rfl (by omega) (by omega) (by omega)) ?_
  rintro e w ⟨g1, rfl, hn, hk⟩
  refine ⟨_, rfl, ?_⟩
  replace hS := hS.add hk hn -- +1
  clear hn hk
  refine hK _ _ ?_; clear hK K
  refine wl_v (x_assign (tmS rfl rfl)) ?_
  refine wl_nil ?_
  refine then_n (hK2 _ _ ?_); clear hK2 K2
  refine wp_seq_k ?_; intro K3 hK3
  refine wlit ?_
  refine wl_v (x_move (tmS rfl rfl)) ?_
  refine wl_v (x_fa 1 Tryd.underlying36 rfl rfl ts_5 (tmP rfl rfl)) ?_
  refine wl_v (x_load Tryd.underlying5 rfl (tmP rfl rfl) (cellB hS.ok 1 rfl rfl)) ?_
  refine wl_v (x_convN Tryd.underlying5 Tryd.underlying24 (tmI rfl rfl) (fit_u64 (by omega))) ?_
  refine wl_e rfl ?_; intro K hK
  refine ow_call Tryd.func61 rfl rfl (evs_cons (tmS rfl rfl) <| evs_cons (tmI rfl rfl) <| evs_cons (ev_cN 1) <| evs_nil) (put_c _ _ _ _ code 1 _ (viewR hS.ok 0 rfl) (by simp [be_length]) (by omega) (by omega) (by omega)) ?_
  rintro e w ⟨g2, rfl, hn, hk⟩
  refine ⟨_, rfl, ?_⟩
  replace hS := (hS.add hk hn).pick [0, 2, 3] rfl rfl
  clear hn hk
  try replace hS := St.nm (M' := [_, .blk _ _ [_, _, _, _, _], .vw _ _]) hS rfl
  refine hK _ _ ?_; clear hK K
  refine wl_v (x_assign (tmS rfl rfl)) ?_
  refine wl_nil ?_
  refine then_n (hK3 _ _ ?_); clear hK3 K3
  refine wp_seq_k ?_; intro K4 hK4
  refine wlit ?_
  refine wl_v (x_move (tmS rfl rfl)) ?_
  refine wl_v (x_fa 2 Tryd.underlying36 rfl rfl ts_27 (tmP rfl rfl)) ?_
  refine wl_v (x_load Tryd.underlying27 rfl (tmP rfl rfl) (cellB hS.ok 1 rfl rfl)) ?_
  refine wl_v (x_convN Tryd.underlying27 Tryd.underlying24 (tmI rfl rfl) (fit_u64 (by omega))) ?_
  refine wl_e rfl ?_; intro K hK
  refine ow_call Tryd.func61 rfl rfl (evs_cons (tmS rfl rfl) <| evs_cons (tmI rfl rfl) <| evs_cons (ev_cN 2) <| evs_nil) (put_c _ _ _ _ sum 2 _ (viewR hS.ok 0 rfl) (by simp [be_length]) (by omega) (by omega) (by omega)) ?_
  rintro e w ⟨g3, rfl, hn, hk⟩
  refine ⟨_, rfl, ?_⟩
  replace hS := (hS.add hk hn).pick [0, 2, 3] rfl rfl
  clear hn hk
  try replace hS := St.nm (M' := [_, .blk _ _ [_, _, _, _, _], .vw _ _]) hS rfl
  refine hK _ _ ?_; clear hK K
  refine wl_v (x_assign (tmS rfl rfl)) ?_
  refine wl_nil ?_
  refine then_n (hK4 _ _ ?_); clear hK4 K4
  refine wp_seq_k ?_; intro K5 hK5
  refine wlit ?_
  refine wl_v (x_move (tmS rfl rfl)) ?_
  refine wl_v (x_fa 3 Tryd.underlying36 rfl rfl ts_30 (tmP rfl rfl)) ?_
  refine wl_v (x_load Tryd.underlying30 rfl (tmP rfl rfl) (cellB hS.ok 1 rfl rfl)) ?_
  refine wl_v (x_convN Tryd.underlying30 Tryd.underlying24 (tmI rfl rfl) (fit_u64 (by omega))) ?_
  refine wl_e rfl ?_; intro K hK
  refine ow_call Tryd.func61 rfl rfl (evs_cons (tmS rfl rfl) <| evs_cons (tmI rfl rfl) <| evs_cons (ev_cN 4) <| evs_nil) (put_c _ _ _ _ word 4 _ (viewR hS.ok 0 rfl) (by simp [be_length]) (by omega) (by omega) (by omega)) ?_
  rintro e w ⟨g4, rfl, hn, hk⟩
  refine ⟨_, rfl, ?_⟩
  replace hS := (hS.add hk hn).pick [0, 2, 3] rfl rfl
  clear hn hk
  try replace hS := St.nm (M' := [_, .blk _ _ [_, _, _, _, _], .vw _ _]) hS rfl
  refine hK _ _ ?_; clear hK K
  refine wl_v (x_assign (tmS rfl rfl)) ?_
  refine wl_nil ?_
  refine then_n (hK5 _ _ ?_); clear hK5 K5
  refine wp_seq_k ?_; intro K6 hK6
  refine wlit ?_
  refine wl_v (x_move (tmS rfl rfl)) ?_
  refine wl_v (x_fa 4 Tryd.underlying36 rfl rfl ts_22 (tmP rfl rfl)) ?_
  refine wl_v (x_load Tryd.underlying22 rfl (tmP rfl rfl) (cellB hS.ok 1 rfl rfl)) ?_
  refine wl_e rfl ?_; intro K hK
  refine ow_appendV hS 0 rfl (viewV hS.ok 2 rfl) Tryd.underlying22 tz_5 rfl (tmS rfl rfl) (tmS rfl rfl) (by first | exact u8v_one _ | (intro u hu; simp at hu; first | (rcases hu with rfl | rfl <;> rfl) | (obtain ⟨_, _, rfl⟩ := hu; rfl))) ⟨by decide, by first | rfl | (simp; done) | (simp; omega)⟩ (by simp only [maxLen]; omega) (by omega) ?_; clear hS; intro g5_3 cg5_3 w hAg5_3 hCg5_3 hS
  refine hK _ _ ?_; clear hK K
  refine wl_v (x_assign (tmS rfl rfl)) ?_
  refine wl_nil ?_
  rw [← List.map_append] at hS
  refine then_n (hK6 _ _ ?_); clear hK6 K6
  refine wp_ret ?_
  refine ret1 rfl (.tmp rfl (show _ = Value.slice _ _ _ from rfl)) ?_
  exact ⟨_, _, _, by omega, rfl, hS.new 0 rfl rfl, hS.kp⟩

set_option maxRecDepth 100000 in
set_option maxHeartbeats 4000000 in
theorem same08_c (t c s d t' c' s' d' : Nat) (A : Option Addr) (n k : Nat) (A' : Option Addr) (n' k' : Nat) (l l' : List Nat) (w0 : World) (hv : View w0 w0.heap.size A (l.map u8v)) (hl : l.length = n) (hb : Bytes l) (hv' : View w0 w0.heap.size A' (l'.map u8v)) (hl' : l'.length = n') (hb' : Bytes l') :
    Calls Tryd.prog 28 #[.agg (msgV t c s d A n k).toArray, .agg (msgV t' c' s' d' A' n' k').toArray] w0 fun e w' => e = .returned (.bool (decide (t = t' ∧ c = c' ∧ s = s' ∧ d = d' ∧ l = l'))) ∧ Kp [] w0 w' := by
  have hS := ((St.sv w0).vcons rfl hv).vcons rfl hv'
  refine ent (n := 40) Tryd.func28 rfl rfl ?_
  refine wp_seq_k ?_; intro K1 hK1
  refine wlit ?_
  refine wl_e rfl ?_; intro K hK
  refine ow_box hS (tmA rfl rfl) rfl ?_
  clear hS; intro g0_0 w hg0_0 hS
  refine hK _ _ ?_; clear hK K
  refine wl_e rfl ?_; intro K hK
  refine ow_box hS (tmA rfl rfl) rfl ?_
  clear hS; intro g0_1 w hg0_1 hS
  refine hK _ _ ?_; clear hK K
  refine wl_v (x_assign ev_c) ?_
  refine wl_nil ?_
  refine then_n (hK1 _ _ ?_); clear hK1 K1
  refine wp_seq_k ?_; intro K2 hK2
  refine wlit ?_
  refine wl_v (x_fa 0 Tryd.underlying44 rfl rfl ts_5 (tmP rfl rfl)) ?_
  refine wl_v (x_load Tryd.underlying5 rfl (tmP rfl rfl) (cellB hS.ok 1 rfl rfl)) ?_
  refine wl_v (x_fa 0 Tryd.underlying44 rfl rfl ts_5 (tmP rfl rfl)) ?_
  refine wl_v (x_load Tryd.underlying5 rfl (tmP rfl rfl) (cellB hS.ok 0 rfl rfl)) ?_
  refine wl_v (x_eql (tmI rfl rfl) (tmI rfl rfl)) ?_
  refine wl_v (x_move (tmB rfl rfl)) ?_
  refine gs_wl (tm (t := 10) rfl) (fun hg1_5 => ?_) (fun hg1_5 => ?_)
  · have hg1_5' := hg1_5; (try simp only [nrm] at hg1_5')
    all_goals
     refine wl_gv (want_y rfl rfl rfl rfl (by rw [hg1_5]; rfl)) (x_fa 1 Tryd.underlying44 rfl rfl ts_5 (tmP rfl rfl)) ?_
     refine wl_gv (want_y rfl rfl rfl rfl (by rw [hg1_5]; rfl)) (x_load Tryd.underlying5 rfl (tmP rfl rfl) (cellB hS.ok 1 rfl rfl)) ?_
     refine wl_gv (want_y rfl rfl rfl rfl (by rw [hg1_5]; rfl)) (x_fa 1 Tryd.underlying44 rfl rfl ts_5 (tmP rfl rfl)) ?_
     refine wl_gv (want_y rfl rfl rfl rfl (by rw [hg1_5]; rfl)) (x_load Tryd.underlying5 rfl (tmP rfl rfl) (cellB hS.ok 0 rfl rfl)) ?_
     refine wl_gv (want_y rfl rfl rfl rfl (by rw [hg1_5]; rfl)) (x_eql (tmI rfl rfl) (tmI rfl rfl)) ?_
     refine wl_v (x_pickT (tmB rfl rfl) hg1_5 (tmB rfl rfl)) ?_
     refine wl_v (x_move (tmB rfl rfl)) ?_
     refine gs_wl (tm (t := 17) rfl) (fun hg1_12 => ?_) (fun hg1_12 => ?_)
     · have hg1_12' := hg1_12; (try simp only [nrm] at hg1_12')
       all_goals
        refine wl_gv (want_y rfl rfl rfl rfl (by rw [hg1_12]; rfl)) (x_fa 2 Tryd.underlying44 rfl rfl ts_27 (tmP rfl rfl)) ?_
        refine wl_gv (want_y rfl rfl rfl rfl (by rw [hg1_12]; rfl)) (x_load Tryd.underlying27 rfl (tmP rfl rfl) (cellB hS.ok 1 rfl rfl)) ?_
        refine wl_gv (want_y rfl rfl rfl rfl (by rw [hg1_12]; rfl)) (x_fa 2 Tryd.underlying44 rfl rfl ts_27 (tmP rfl rfl)) ?_
        refine wl_gv (want_y rfl rfl rfl rfl (by rw [hg1_12]; rfl)) (x_load Tryd.underlying27 rfl (tmP rfl rfl) (cellB hS.ok 0 rfl rfl)) ?_
        refine wl_gv (want_y rfl rfl rfl rfl (by rw [hg1_12]; rfl)) (x_eql (tmI rfl rfl) (tmI rfl rfl)) ?_
        refine wl_v (x_pickT (tmB rfl rfl) hg1_12 (tmB rfl rfl)) ?_
        refine wl_v (x_move (tmB rfl rfl)) ?_
        refine gs_wl (tm (t := 24) rfl) (fun hg1_19 => ?_) (fun hg1_19 => ?_)
        · have hg1_19' := hg1_19; (try simp only [nrm] at hg1_19')
          all_goals
           refine wl_gv (want_y rfl rfl rfl rfl (by rw [hg1_19]; rfl)) (x_fa 3 Tryd.underlying44 rfl rfl ts_30 (tmP rfl rfl)) ?_
           refine wl_gv (want_y rfl rfl rfl rfl (by rw [hg1_19]; rfl)) (x_load Tryd.underlying30 rfl (tmP rfl rfl) (cellB hS.ok 1 rfl rfl)) ?_
           refine wl_gv (want_y rfl rfl rfl rfl (by rw [hg1_19]; rfl)) (x_fa 3 Tryd.underlying44 rfl rfl ts_30 (tmP rfl rfl)) ?_
           refine wl_gv (want_y rfl rfl rfl rfl (by rw [hg1_19]; rfl)) (x_load Tryd.underlying30 rfl (tmP rfl rfl) (cellB hS.ok 0 rfl rfl)) ?_
           refine wl_gv (want_y rfl rfl rfl rfl (by rw [hg1_19]; rfl)) (x_eql (tmI rfl rfl) (tmI rfl rfl)) ?_
           refine wl_v (x_pickT (tmB rfl rfl) hg1_19 (tmB rfl rfl)) ?_
           refine wl_v (x_move (tmB rfl rfl)) ?_
           refine gs_wl (tm (t := 31) rfl) (fun hg1_26 => ?_) (fun hg1_26 => ?_)
           · have hg1_26' := hg1_26; (try simp only [nrm] at hg1_26')
             all_goals
              refine wl_gv (want_y rfl rfl rfl rfl (by rw [hg1_26]; rfl)) (x_fa 4 Tryd.underlying44 rfl rfl ts_22 (tmP rfl rfl)) ?_
              refine wl_gv (want_y rfl rfl rfl rfl (by rw [hg1_26]; rfl)) (x_load Tryd.underlying22 rfl (tmP rfl rfl) (cellB hS.ok 1 rfl rfl)) ?_
              refine wl_gv (want_y rfl rfl rfl rfl (by rw [hg1_26]; rfl)) (x_bstr Tryd.underlying22 Tryd.underlying5 Tryd.underlying9 (tmS rfl rfl) (viewV hS.ok 3 rfl) (by first | assumption | exact Bytes.nil | (repeat' (first | assumption | exact Bytes.nil | exact be_bytes _ _ | apply Bytes.append | apply Bytes.take | apply Bytes.drop | apply Bytes.replicate))) (by first | rfl | assumption | (simp; done) | (simp; omega) | omega)) ?_
              refine wl_gv (want_y rfl rfl rfl rfl (by rw [hg1_26]; rfl)) (x_fa 4 Tryd.underlying44 rfl rfl ts_22 (tmP rfl rfl)) ?_
              refine wl_gv (want_y rfl rfl rfl rfl (by rw [hg1_26]; rfl)) (x_load Tryd.underlying22 rfl (tmP rfl rfl) (cellB hS.ok 0 rfl rfl)) ?_
              refine wl_gv (want_y rfl rfl rfl rfl (by rw [hg1_26]; rfl)) (x_bstr Tryd.underlying22 Tryd.underlying5 Tryd.underlying9 (tmS rfl rfl) (viewV hS.ok 2 rfl) (by first | assumption | exact Bytes.nil | (repeat' (first | assumption | exact Bytes.nil | exact be_bytes _ _ | apply Bytes.append | apply Bytes.take | apply Bytes.drop | apply Bytes.replicate))) (by first | rfl | assumption | (simp; done) | (simp; omega) | omega)) ?_
              refine wl_gv (want_y rfl rfl rfl rfl (by rw [hg1_26]; rfl)) (x_Geql (tmG rfl rfl) (tmG rfl rfl) (by first | assumption | exact Bytes.nil | (repeat' (first | assumption | exact Bytes.nil | exact be_bytes _ _ | apply Bytes.append | apply Bytes.take | apply Bytes.drop | apply Bytes.replicate))) (by first | assumption | exact Bytes.nil | (repeat' (first | assumption | exact Bytes.nil | exact be_bytes _ _ | apply Bytes.append | apply Bytes.take | apply Bytes.drop | apply Bytes.replicate)))) ?_
              refine wl_v (x_pickT (tmB rfl rfl) hg1_26 (tmB rfl rfl)) ?_
              refine wl_v (x_assign (tmB rfl rfl)) ?_
              refine wl_nil ?_
              refine then_n (hK2 _ _ ?_); clear hK2 K2
              refine wp_ret ?_
              refine ret1 rfl (.tmp rfl (show _ = Value.bool _ from rfl)) ?_
              exact ⟨by simp [*], hS.kp⟩
           have hg1_26' := hg1_26; (try simp only [nrm] at hg1_26')
           all_goals
            refine wl_s rfl (want_n rfl rfl rfl rfl (by rw [hg1_26]; rfl)) ?_
            refine wl_s rfl (want_n rfl rfl rfl rfl (by rw [hg1_26]; rfl)) ?_
            refine wl_s rfl (want_n rfl rfl rfl rfl (by rw [hg1_26]; rfl)) ?_
            refine wl_s rfl (want_n rfl rfl rfl rfl (by rw [hg1_26]; rfl)) ?_
            refine wl_s rfl (want_n rfl rfl rfl rfl (by rw [hg1_26]; rfl)) ?_
            refine wl_s rfl (want_n rfl rfl rfl rfl (by rw [hg1_26]; rfl)) ?_
            refine wl_s rfl (want_n rfl rfl rfl rfl (by rw [hg1_26]; rfl)) ?_
            refine wl_v (x_pickF (tmB rfl rfl) hg1_26 ev_c) ?_
            refine wl_v (x_assign (tmB rfl rfl)) ?_
            refine wl_nil ?_
            refine then_n (hK2 _ _ ?_); clear hK2 K2
            refine wp_ret ?_
            refine ret1 rfl (.tmp rfl (show _ = Value.bool _ from rfl)) ?_
            exact ⟨by simp [*], hS.kp⟩
        have hg1_19' := hg1_19; (try simp only [nrm] at hg1_19')
        all_goals
         refine wl_s rfl (want_n rfl rfl rfl rfl (by rw [hg1_19]; rfl)) ?_
         refine wl_s rfl (want_n rfl rfl rfl rfl (by rw [hg1_19]; rfl)) ?_
         refine wl_s rfl (want_n rfl rfl rfl rfl (by rw [hg1_19]; rfl)) ?_
         refine wl_s rfl (want_n rfl rfl rfl rfl (by rw [hg1_19]; rfl)) ?_
         refine wl_s rfl (want_n rfl rfl rfl rfl (by rw [hg1_19]; rfl)) ?_
         refine wl_v (x_pickF (tmB rfl rfl) hg1_19 ev_c) ?_
         refine wl_v (x_move (tmB rfl rfl)) ?_
         refine wl_s rfl (want_n rfl rfl rfl rfl rfl) ?_
         refine wl_s rfl (want_n rfl rfl rfl rfl rfl) ?_
         refine wl_s rfl (want_n rfl rfl rfl rfl rfl) ?_
         refine wl_s rfl (want_n rfl rfl rfl rfl rfl) ?_
         refine wl_s rfl (want_n rfl rfl rfl rfl rfl) ?_
         refine wl_s rfl (want_n rfl rfl rfl rfl rfl) ?_
         refine wl_s rfl (want_n rfl rfl rfl rfl rfl) ?_
         refine wl_v (x_pickF (tmB rfl rfl) rfl ev_c) ?_
         refine wl_v (x_assign (tmB rfl rfl)) ?_
         refine wl_nil ?_
         refine then_n (hK2 _ _ ?_); clear hK2 K2
         refine wp_ret ?_
         refine ret1 rfl (.tmp rfl (show _ = Value.bool _ from rfl)) ?_
         exact ⟨by simp [*], hS.kp⟩
     have hg1_12' := hg1_12; (try simp only [nrm] at hg1_12')
     all_goals
      refine wl_s rfl (want_n rfl rfl rfl rfl (by rw [hg1_12]; rfl)) ?_
      refine wl_s rfl (want_n rfl rfl rfl rfl (by rw [hg1_12]; rfl)) ?_
      refine wl_s rfl (want_n rfl rfl rfl rfl (by rw [hg1_12]; rfl)) ?_
      refine wl_s rfl (want_n rfl rfl rfl rfl (by rw [hg1_12]; rfl)) ?_
      refine wl_s rfl (want_n rfl rfl rfl rfl (by rw [hg1_12]; rfl)) ?_
      refine wl_v (x_pickF (tmB rfl rfl) hg1_12 ev_c) ?_
      refine wl_v (x_move (tmB rfl rfl)) ?_
      refine wl_s rfl (want_n rfl rfl rfl rfl rfl) ?_
      refine wl_s rfl (want_n rfl rfl rfl rfl rfl) ?_
      refine wl_s rfl (want_n rfl rfl rfl rfl rfl) ?_
      refine wl_s rfl (want_n rfl rfl rfl rfl rfl) ?_
      refine wl_s rfl (want_n rfl rfl rfl rfl rfl) ?_
      refine wl_v (x_pickF (tmB rfl rfl) rfl ev_c) ?_
      refine wl_v (x_move (tmB rfl rfl)) ?_
      refine wl_s rfl (want_n rfl rfl rfl rfl rfl) ?_
      refine wl_s rfl (want_n rfl rfl rfl rfl rfl) ?_
      refine wl_s rfl (want_n rfl rfl rfl rfl rfl) ?_
      refine wl_s rfl (want_n rfl rfl rfl rfl rfl) ?_
      refine wl_s rfl (want_n rfl rfl rfl rfl rfl) ?_
      refine wl_s rfl (want_n rfl rfl rfl rfl rfl) ?_
      refine wl_s rfl (want_n rfl rfl rfl rfl rfl) ?_
      refine wl_v (x_pickF (tmB rfl rfl) rfl ev_c) ?_
      refine wl_v (x_assign (tmB rfl rfl)) ?_
      refine wl_nil ?_
      refine then_n (hK2 _ _ ?_); clear hK2 K2
      refine wp_ret ?_
      refine ret1 rfl (.tmp rfl (show _ = Value.bool _ from rfl)) ?_
      exact ⟨by simp [*], hS.kp⟩
  have hg1_5' := hg1_5; (try simp only [nrm] at hg1_5')
  all_goals
   refine wl_s rfl (want_n rfl rfl rfl rfl (by rw [hg1_5]; rfl)) ?_
   refine wl_s rfl (want_n rfl rfl rfl rfl (by rw [hg1_5]; rfl)) ?_
   refine wl_s rfl (want_n rfl rfl rfl rfl (by rw [hg1_5]; rfl)) ?_
   refine wl_s rfl (want_n rfl rfl rfl rfl (by rw [hg1_5]; rfl)) ?_
   refine wl_s rfl (want_n rfl rfl rfl rfl (by rw [hg1_5]; rfl)) ?_
   refine wl_v (x_pickF (tmB rfl rfl) hg1_5 ev_c) ?_
   refine wl_v (x_move (tmB rfl rfl)) ?_
   refine wl_s rfl (want_n rfl rfl rfl rfl rfl) ?_
   refine wl_s rfl (want_n rfl rfl rfl rfl rfl) ?_
   refine wl_s rfl (want_n rfl rfl rfl rfl rfl) ?_
   refine wl_s rfl (want_n rfl rfl rfl rfl rfl) ?_
   refine wl_s rfl (want_n rfl rfl rfl rfl rfl) ?_
   refine wl_v (x_pickF (tmB rfl rfl) rfl ev_c) ?_
   refine wl_v (x_move (tmB rfl rfl)) ?_
   refine wl_s rfl (want_n rfl rfl rfl rfl rfl) ?_
   refine wl_s rfl (want_n rfl rfl rfl rfl rfl) ?_
   refine wl_s rfl (want_n rfl rfl rfl rfl rfl) ?_
   refine wl_s rfl (want_n rfl rfl rfl rfl rfl) ?_
   refine wl_s rfl (want_n rfl rfl rfl rfl rfl) ?_
   refine wl_v (x_pickF (tmB rfl rfl) rfl ev_c) ?_
   refine wl_v (x_move (tmB rfl rfl)) ?_
   refine wl_s rfl (want_n rfl rfl rfl rfl rfl) ?_
   refine wl_s rfl (want_n rfl rfl rfl rfl rfl) ?_
   refine wl_s rfl (want_n rfl rfl rfl rfl rfl) ?_
   refine wl_s rfl (want_n rfl rfl rfl rfl rfl) ?_
   refine wl_s rfl (want_n rfl rfl rfl rfl rfl) ?_
   refine wl_s rfl (want_n rfl rfl rfl rfl rfl) ?_
   refine wl_s rfl (want_n rfl rfl rfl rfl rfl) ?_
   refine wl_v (x_pickF (tmB rfl rfl) rfl ev_c) ?_
   refine wl_v (x_assign (tmB rfl rfl)) ?_
   refine wl_nil ?_
   refine then_n (hK2 _ _ ?_); clear hK2 K2
   refine wp_ret ?_
   refine ret1 rfl (.tmp rfl (show _ = Value.bool _ from rfl)) ?_
   exact ⟨by simp [*], hS.kp⟩

end Go.Proofs.YtmekadkmmddocaaDoor
