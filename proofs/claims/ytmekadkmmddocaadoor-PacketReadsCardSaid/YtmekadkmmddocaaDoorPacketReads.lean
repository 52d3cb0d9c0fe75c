/- Proved: PacketReads returns true for every input, and changes no memory that was there. Conditions: the package-level table packet.names reads as the program's text lays it (the card ties it). -/
import Derived.Test.YtmekadkmmddocaaDoorPkJ
import Derived.Test.YtmekadkmmddocaaDoorPkA
import Derived.Test.YtmekadkmmddocaaDoorKitL
namespace Go.Proofs.YtmekadkmmddocaaDoor
open Go.ChangeShapes Go.WideShapes Go.ChangeAt Go.RowKit
namespace PacketReads
set_option maxRecDepth 100000 in
set_option maxHeartbeats 8000000 in
theorem walk (A : Option Addr) (n c : Nat) (l : List Nat) (w0 : World)
    (r1 : l.length = n ∧ (A = none → c = 0) ∧ BView w0 w0.heap.size A l ∧ n ≤ c) (hN : Names w0) :
    Calls Tryd.prog 3 #[.slice A n c] w0 fun e w' => e = .returned (.bool true) ∧ Below w0.heap.size w0 w' := by
  obtain ⟨rfl, _, ⟨hb, hv⟩, hc⟩ := r1
  have hS := ((St.sv w0).vcons rfl hN).vcons rfl hv
  by_cases hbig : l.length ≤ 3000
  · obtain ⟨ri, rw_, hi, hw, ok1, ok2, hA, hB, hC, hD⟩ := read_ex l hb hbig
    refine ent (n := 56) Tryd.func3 rfl rfl ?_
    refine wp_seq_k ?_; intro K1 hK1
    refine wlit ?_
    refine wl_v (x_assign ev_c) ?_
    refine wl_nil ?_
    refine then_n (hK1 _ _ ?_); clear hK1 K1
    refine wp_seq_k ?_; intro K2 hK2
    refine wp_seq_k ?_; intro K3 hK3
    refine wlit ?_
    refine wl_v (x_move (tmS rfl rfl)) ?_
    refine wl_v (x_len Tryd.underlying22 (tmS rfl rfl)) ?_
    refine wl_v (x_gtr (tmI rfl rfl) (ev_cN 3000)) ?_
    refine wl_nil ?_
    refine then_n (hK3 _ _ ?_); clear hK3 K3
    refine cnd (tm rfl) (fun hc0 => ?_) (fun hc0 => ?_)
    · exfalso
      simp at hc0
      omega
    all_goals
     try simp only [nrm] at hc0
     refine wp_skip ?_
     refine then_n (hK2 _ _ ?_); clear hK2 K2
     refine wp_seq_k ?_; intro K4 hK4
     refine wlit ?_
     refine wl_v (x_move (tmS rfl rfl)) ?_
     refine wl_e rfl ?_; intro K hK
     refine ow_call Tryd.func7 rfl rfl (evs_cons (tmS rfl rfl) <| evs_nil) (hA _ A c (viewV hS.ok 0 rfl) hc) ?_
     rintro e w ⟨pa, rfl, n1, n2, n3, n4, hk⟩
     refine ⟨_, rfl, ?_⟩
     replace hS := (hS.addn4 hk n1 n2 n3 n4) -- +a1,a2,a3,a4
     clear hk n1 n2 n3 n4
     refine hK _ _ ?_; clear hK K
     refine wl_v (x_move (tmT rfl rfl)) ?_
     refine wl_v (x_ext (tmT rfl rfl) rfl) ?_
     refine wl_v (x_ext (tmT rfl rfl) rfl) ?_
     refine wl_e rfl ?_; intro K hK
     refine ow_alloc hS tz_38 rfl ?_
     clear hS; intro g3_5 w hg3_5 hS
     refine hK _ _ ?_; clear hK K
     refine wl_e rfl ?_; intro K hK
     refine ow_storeA hS 0 rfl ts_38 (tmP rfl rfl) (tmA rfl rfl) rfl rfl rfl ?_
     clear hS; intro w hS
     try replace hS := St.nm (M' := [.blk _ _ [_, _, _, _, _, _, _, _, _, _, _, _, _, _, _, _, _, _, _, _, _, _, _, _, _, _, _, _, _, _, _], _, _, _, _, .vw _ _, .vw _ _]) hS rfl
     refine hK _ _ ?_; clear hK K
     refine wl_v (x_assign (tmI rfl rfl)) ?_
     refine wl_nil ?_
     refine then_n (hK4 _ _ ?_); clear hK4 K4
     refine wp_seq_k ?_; intro K5 hK5
     refine wlit ?_
     refine wl_v (x_move (tmS rfl rfl)) ?_
     refine wl_e rfl ?_; intro K hK
     refine ow_call Tryd.func8 rfl rfl (evs_cons (tmS rfl rfl) <| evs_nil) (hB _ A c (viewV hS.ok 5 rfl) hc) ?_
     rintro e w ⟨pb, rfl, n1, n2, n3, n4, hk⟩
     refine ⟨_, rfl, ?_⟩
     replace hS := (hS.addn4 hk n1 n2 n3 n4) -- +b1,b2,b3,b4
     clear hk n1 n2 n3 n4
     refine hK _ _ ?_; clear hK K
     refine wl_v (x_move (tmT rfl rfl)) ?_
     refine wl_v (x_ext (tmT rfl rfl) rfl) ?_
     refine wl_v (x_ext (tmT rfl rfl) rfl) ?_
     refine wl_e rfl ?_; intro K hK
     refine ow_alloc hS tz_46 rfl ?_
     clear hS; intro g4_5 w hg4_5 hS
     refine hK _ _ ?_; clear hK K
     refine wl_e rfl ?_; intro K hK
     refine ow_storeA hS 0 rfl ts_46 (tmP rfl rfl) (tmA rfl rfl) rfl rfl rfl ?_
     clear hS; intro w hS
     try replace hS := St.nm (M' := [.blk _ _ [_, _, _, _, _, _, _, _, _, _, _, _, _, _, _, _, _, _, _, _, _, _, _, _, _, _, _, _, _, _, _], _, _, _, _, .blk _ _ [_, _, _, _, _, _, _, _, _, _, _, _, _, _, _, _, _, _, _, _, _, _, _, _, _, _, _, _, _, _, _], _, _, _, _, .vw _ _, .vw _ _]) hS rfl
     refine hK _ _ ?_; clear hK K
     refine wl_v (x_assign (tmI rfl rfl)) ?_
     refine wl_nil ?_
     refine then_n (hK5 _ _ ?_); clear hK5 K5
     refine wp_seq_k ?_; intro K6 hK6
     refine wlit ?_
     refine wl_v (x_move (tmS rfl rfl)) ?_
     refine wl_e rfl ?_; intro K hK
     refine ow_call Tryd.func9 rfl rfl (evs_cons (tmS rfl rfl) <| evs_nil) (hC _ A c (viewV hS.ok 10 rfl) hc) ?_
     rintro e w ⟨pc, rfl, n1, n2, n3, n4, hk⟩
     refine ⟨_, rfl, ?_⟩
     replace hS := (hS.addn4 hk n1 n2 n3 n4) -- +d1,d2,d3,d4
     clear hk n1 n2 n3 n4
     refine hK _ _ ?_; clear hK K
     refine wl_v (x_move (tmT rfl rfl)) ?_
     refine wl_v (x_ext (tmT rfl rfl) rfl) ?_
     refine wl_v (x_ext (tmT rfl rfl) rfl) ?_
     refine wl_e rfl ?_; intro K hK
     refine ow_alloc hS tz_38 rfl ?_
     clear hS; intro g5_5 w hg5_5 hS
     refine hK _ _ ?_; clear hK K
     refine wl_e rfl ?_; intro K hK
     refine ow_storeA hS 0 rfl ts_38 (tmP rfl rfl) (tmA rfl rfl) rfl rfl rfl ?_
     clear hS; intro w hS
     try replace hS := St.nm (M' := [.blk _ _ [_, _, _, _, _, _, _, _, _, _, _, _, _, _, _, _, _, _, _, _, _, _, _, _, _, _, _, _, _, _, _], _, _, _, _, .blk _ _ [_, _, _, _, _, _, _, _, _, _, _, _, _, _, _, _, _, _, _, _, _, _, _, _, _, _, _, _, _, _, _], _, _, _, _, .blk _ _ [_, _, _, _, _, _, _, _, _, _, _, _, _, _, _, _, _, _, _, _, _, _, _, _, _, _, _, _, _, _, _], _, _, _, _, .vw _ _, .vw _ _]) hS rfl
     refine hK _ _ ?_; clear hK K
     refine wl_v (x_assign (tmI rfl rfl)) ?_
     refine wl_nil ?_
     refine then_n (hK6 _ _ ?_); clear hK6 K6
     refine wp_seq_k ?_; intro K7 hK7
     refine wlit ?_
     refine wl_v (x_move (tmS rfl rfl)) ?_
     refine wl_e rfl ?_; intro K hK
     refine ow_call Tryd.func10 rfl rfl (evs_cons (tmS rfl rfl) <| evs_nil) (hD _ A c (viewV hS.ok 15 rfl) hc) ?_
     rintro e w ⟨pd, rfl, n1, n2, n3, n4, hk⟩
     refine ⟨_, rfl, ?_⟩
     replace hS := (hS.addn4 hk n1 n2 n3 n4) -- +e1,e2,e3,e4
     clear hk n1 n2 n3 n4
     refine hK _ _ ?_; clear hK K
     refine wl_v (x_move (tmT rfl rfl)) ?_
     refine wl_v (x_ext (tmT rfl rfl) rfl) ?_
     refine wl_v (x_ext (tmT rfl rfl) rfl) ?_
     refine wl_e rfl ?_; intro K hK
     refine ow_alloc hS tz_46 rfl ?_
     clear hS; intro g6_5 w hg6_5 hS
     refine hK _ _ ?_; clear hK K
     refine wl_e rfl ?_; intro K hK
     refine ow_storeA hS 0 rfl ts_46 (tmP rfl rfl) (tmA rfl rfl) rfl rfl rfl ?_
     clear hS; intro w hS
     try replace hS := St.nm (M' := [.blk _ _ [_, _, _, _, _, _, _, _, _, _, _, _, _, _, _, _, _, _, _, _, _, _, _, _, _, _, _, _, _, _, _], _, _, _, _, .blk _ _ [_, _, _, _, _, _, _, _, _, _, _, _, _, _, _, _, _, _, _, _, _, _, _, _, _, _, _, _, _, _, _], _, _, _, _, .blk _ _ [_, _, _, _, _, _, _, _, _, _, _, _, _, _, _, _, _, _, _, _, _, _, _, _, _, _, _, _, _, _, _], _, _, _, _, .blk _ _ [_, _, _, _, _, _, _, _, _, _, _, _, _, _, _, _, _, _, _, _, _, _, _, _, _, _, _, _, _, _, _], _, _, _, _, .vw _ _, .vw _ _]) hS rfl
     refine hK _ _ ?_; clear hK K
     refine wl_v (x_assign (tmI rfl rfl)) ?_
     refine wl_nil ?_
     refine then_n (hK7 _ _ ?_); clear hK7 K7
     refine wp_seq_k ?_; intro K8 hK8
     refine wlit ?_
     refine wl_v (x_loadA (cs := [_, _, _, _, _, _, _, _, _, _, _, _, _, _, _, _, _, _, _, _, _, _, _, _, _, _, _, _, _, _, _]) Tryd.underlying38 rfl ts_38 (tmP rfl rfl) (rangeB hS.ok 15 rfl rfl)) ?_
     refine wl_v (x_loadA (cs := [_, _, _, _, _, _, _, _, _, _, _, _, _, _, _, _, _, _, _, _, _, _, _, _, _, _, _, _, _, _, _]) Tryd.underlying46 rfl ts_46 (tmP rfl rfl) (rangeB hS.ok 10 rfl rfl)) ?_
     refine wl_e rfl ?_; intro K hK
     refine ow_call Tryd.func11 rfl rfl (evs_cons (tmA rfl rfl) <| evs_cons (tmA rfl rfl) <| evs_nil) (is28_c ri pa pb _ ok1 (viewV hS.ok 16 rfl) (viewV hS.ok 17 rfl) (viewV hS.ok 18 rfl) (viewV hS.ok 19 rfl) (viewV hS.ok 11 rfl) (viewV hS.ok 12 rfl) (viewV hS.ok 13 rfl) (viewV hS.ok 14 rfl)) ?_
     rintro e w ⟨rfl, hk⟩
     refine ⟨_, rfl, ?_⟩
     replace hS := hS.kept hk
     clear hk
     refine hK _ _ ?_; clear hK K
     refine wl_v (x_move (tmB rfl rfl)) ?_
     refine gs_wl (tm (t := 38) rfl) (fun hg7_3 => ?_) (fun hg7_3 => ?_)
     · have hg7_3' := hg7_3; (try simp only [nrm] at hg7_3')
       all_goals
        refine wl_gv (want_y rfl rfl rfl rfl (by rw [hg7_3]; rfl)) (x_move (tmI rfl rfl)) ?_
        refine wl_gv (want_y rfl rfl rfl rfl (by rw [hg7_3]; rfl)) (x_move (tmI rfl rfl)) ?_
        refine wl_gv (want_y rfl rfl rfl rfl (by rw [hg7_3]; rfl)) (x_eql (tmI rfl rfl) (tmI rfl rfl)) ?_
        refine wl_v (x_pickT (tmB rfl rfl) hg7_3 (tmB rfl rfl)) ?_
        refine wl_v (x_move (tmB rfl rfl)) ?_
        refine gs_wl (tm (t := 43) rfl) (fun hg7_8 => ?_) (fun hg7_8 => ?_)
        · have hg7_8' := hg7_8; (try simp only [nrm] at hg7_8')
          all_goals
           refine wl_gv (want_y rfl rfl rfl rfl (by rw [hg7_8]; rfl)) (x_loadA (cs := [_, _, _, _, _, _, _, _, _, _, _, _, _, _, _, _, _, _, _, _, _, _, _, _, _, _, _, _, _, _, _]) Tryd.underlying38 rfl ts_38 (tmP rfl rfl) (rangeB hS.ok 5 rfl rfl)) ?_
           refine wl_gv (want_y rfl rfl rfl rfl (by rw [hg7_8]; rfl)) (x_loadA (cs := [_, _, _, _, _, _, _, _, _, _, _, _, _, _, _, _, _, _, _, _, _, _, _, _, _, _, _, _, _, _, _]) Tryd.underlying46 rfl ts_46 (tmP rfl rfl) (rangeB hS.ok 0 rfl rfl)) ?_
           refine wl_g (want_y rfl rfl rfl rfl (by rw [hg7_8]; rfl)) ?_; intro K hK
           refine ow_call Tryd.func11 rfl rfl (evs_cons (tmA rfl rfl) <| evs_cons (tmA rfl rfl) <| evs_nil) (is28_c hi pc pd _ ok2 (viewV hS.ok 6 rfl) (viewV hS.ok 7 rfl) (viewV hS.ok 8 rfl) (viewV hS.ok 9 rfl) (viewV hS.ok 1 rfl) (viewV hS.ok 2 rfl) (viewV hS.ok 3 rfl) (viewV hS.ok 4 rfl)) ?_
           rintro e w ⟨rfl, hk⟩
           refine ⟨_, rfl, ?_⟩
           replace hS := hS.kept hk
           clear hk
           refine hK _ _ ?_; clear hK K
           refine wl_v (x_pickT (tmB rfl rfl) hg7_8 (tmB rfl rfl)) ?_
           refine wl_v (x_move (tmB rfl rfl)) ?_
           refine gs_wl (tm (t := 48) rfl) (fun hg7_13 => ?_) (fun hg7_13 => ?_)
           · have hg7_13' := hg7_13; (try simp only [nrm] at hg7_13')
             all_goals
              refine wl_gv (want_y rfl rfl rfl rfl (by rw [hg7_13]; rfl)) (x_move (tmI rfl rfl)) ?_
              refine wl_gv (want_y rfl rfl rfl rfl (by rw [hg7_13]; rfl)) (x_move (tmI rfl rfl)) ?_
              refine wl_gv (want_y rfl rfl rfl rfl (by rw [hg7_13]; rfl)) (x_eql (tmI rfl rfl) (tmI rfl rfl)) ?_
              refine wl_v (x_pickT (tmB rfl rfl) hg7_13 (tmB rfl rfl)) ?_
              refine wl_v (x_move (tmB rfl rfl)) ?_
              refine gs_wl (tm (t := 53) rfl) (fun hg7_18 => ?_) (fun hg7_18 => ?_)
              · have hg7_18' := hg7_18; (try simp only [nrm] at hg7_18')
                all_goals
                 refine wl_g (want_y rfl rfl rfl rfl (by rw [hg7_18]; rfl)) ?_; intro K hK
                 refine ow_call Tryd.func6 rfl rfl (evs_nil) (law28_awake_c _ (viewV hS.ok 21 rfl)) ?_
                 rintro e w ⟨rfl, hk⟩
                 refine ⟨_, rfl, ?_⟩
                 replace hS := hS.kept hk
                 clear hk
                 refine hK _ _ ?_; clear hK K
                 refine wl_v (x_pickT (tmB rfl rfl) hg7_18 (tmB rfl rfl)) ?_
                 refine wl_v (x_assign (tmB rfl rfl)) ?_
                 refine wl_nil ?_
                 refine then_n (hK8 _ _ ?_); clear hK8 K8
                 refine wp_ret ?_
                 refine ret1 rfl (.tmp rfl (show _ = Value.bool _ from rfl)) ?_
                 exact ⟨rfl, hS.kp.below⟩
              have hg7_18' := hg7_18; (try simp only [nrm] at hg7_18'); try (exfalso; first | with_reducible exact absurd hg7_18 Bool.false_ne_true | with_reducible exact absurd hg7_18.symm Bool.false_ne_true | omega | (simp at hg7_18; done))
              all_goals
               refine wl_s rfl (want_n rfl rfl rfl rfl (by rw [hg7_18]; rfl)) ?_
               refine wl_v (x_pickF (tmB rfl rfl) hg7_18 ev_c) ?_
               refine wl_v (x_assign (tmB rfl rfl)) ?_
               refine wl_nil ?_
               refine then_n (hK8 _ _ ?_); clear hK8 K8
               refine wp_ret ?_
               refine ret1 rfl (.tmp rfl (show _ = Value.bool _ from rfl)) ?_
               first
                 | exact ⟨rfl, hS.kp.below⟩
                 | exact ⟨by simp, hS.kp.below⟩
           have hg7_13' := hg7_13; (try simp only [nrm] at hg7_13'); try (exfalso; first | with_reducible exact absurd hg7_13 Bool.false_ne_true | with_reducible exact absurd hg7_13.symm Bool.false_ne_true | omega | (simp at hg7_13; done))
           all_goals
            refine wl_s rfl (want_n rfl rfl rfl rfl (by rw [hg7_13]; rfl)) ?_
            refine wl_s rfl (want_n rfl rfl rfl rfl (by rw [hg7_13]; rfl)) ?_
            refine wl_s rfl (want_n rfl rfl rfl rfl (by rw [hg7_13]; rfl)) ?_
            refine wl_v (x_pickF (tmB rfl rfl) hg7_13 ev_c) ?_
            refine wl_v (x_move (tmB rfl rfl)) ?_
            refine wl_s rfl (want_n rfl rfl rfl rfl rfl) ?_
            refine wl_v (x_pickF (tmB rfl rfl) rfl ev_c) ?_
            refine wl_v (x_assign (tmB rfl rfl)) ?_
            refine wl_nil ?_
            refine then_n (hK8 _ _ ?_); clear hK8 K8
            refine wp_ret ?_
            refine ret1 rfl (.tmp rfl (show _ = Value.bool _ from rfl)) ?_
            first
              | exact ⟨rfl, hS.kp.below⟩
              | exact ⟨by simp, hS.kp.below⟩
        have hg7_8' := hg7_8; (try simp only [nrm] at hg7_8'); try (exfalso; first | with_reducible exact absurd hg7_8 Bool.false_ne_true | with_reducible exact absurd hg7_8.symm Bool.false_ne_true | omega | (simp at hg7_8; done))
        all_goals
         refine wl_s rfl (want_n rfl rfl rfl rfl (by rw [hg7_8]; rfl)) ?_
         refine wl_s rfl (want_n rfl rfl rfl rfl (by rw [hg7_8]; rfl)) ?_
         refine wl_s rfl (want_n rfl rfl rfl rfl (by rw [hg7_8]; rfl)) ?_
         refine wl_v (x_pickF (tmB rfl rfl) hg7_8 ev_c) ?_
         refine wl_v (x_move (tmB rfl rfl)) ?_
         refine wl_s rfl (want_n rfl rfl rfl rfl rfl) ?_
         refine wl_s rfl (want_n rfl rfl rfl rfl rfl) ?_
         refine wl_s rfl (want_n rfl rfl rfl rfl rfl) ?_
         refine wl_v (x_pickF (tmB rfl rfl) rfl ev_c) ?_
         refine wl_v (x_move (tmB rfl rfl)) ?_
         refine wl_s rfl (want_n rfl rfl rfl rfl rfl) ?_
         refine wl_v (x_pickF (tmB rfl rfl) rfl ev_c) ?_
         refine wl_v (x_assign (tmB rfl rfl)) ?_
         refine wl_nil ?_
         refine then_n (hK8 _ _ ?_); clear hK8 K8
         refine wp_ret ?_
         refine ret1 rfl (.tmp rfl (show _ = Value.bool _ from rfl)) ?_
         first
           | exact ⟨rfl, hS.kp.below⟩
           | exact ⟨by simp, hS.kp.below⟩
     have hg7_3' := hg7_3; (try simp only [nrm] at hg7_3'); try (exfalso; first | with_reducible exact absurd hg7_3 Bool.false_ne_true | with_reducible exact absurd hg7_3.symm Bool.false_ne_true | omega | (simp at hg7_3; done))
     all_goals
      refine wl_s rfl (want_n rfl rfl rfl rfl (by rw [hg7_3]; rfl)) ?_
      refine wl_s rfl (want_n rfl rfl rfl rfl (by rw [hg7_3]; rfl)) ?_
      refine wl_s rfl (want_n rfl rfl rfl rfl (by rw [hg7_3]; rfl)) ?_
      refine wl_v (x_pickF (tmB rfl rfl) hg7_3 ev_c) ?_
      refine wl_v (x_move (tmB rfl rfl)) ?_
      refine wl_s rfl (want_n rfl rfl rfl rfl rfl) ?_
      refine wl_s rfl (want_n rfl rfl rfl rfl rfl) ?_
      refine wl_s rfl (want_n rfl rfl rfl rfl rfl) ?_
      refine wl_v (x_pickF (tmB rfl rfl) rfl ev_c) ?_
      refine wl_v (x_move (tmB rfl rfl)) ?_
      refine wl_s rfl (want_n rfl rfl rfl rfl rfl) ?_
      refine wl_s rfl (want_n rfl rfl rfl rfl rfl) ?_
      refine wl_s rfl (want_n rfl rfl rfl rfl rfl) ?_
      refine wl_v (x_pickF (tmB rfl rfl) rfl ev_c) ?_
      refine wl_v (x_move (tmB rfl rfl)) ?_
      refine wl_s rfl (want_n rfl rfl rfl rfl rfl) ?_
      refine wl_v (x_pickF (tmB rfl rfl) rfl ev_c) ?_
      refine wl_v (x_assign (tmB rfl rfl)) ?_
      refine wl_nil ?_
      refine then_n (hK8 _ _ ?_); clear hK8 K8
      refine wp_ret ?_
      refine ret1 rfl (.tmp rfl (show _ = Value.bool _ from rfl)) ?_
      first
        | exact ⟨rfl, hS.kp.below⟩
        | exact ⟨by simp, hS.kp.below⟩
  · skip
    refine ent (n := 56) Tryd.func3 rfl rfl ?_
    refine wp_seq_k ?_; intro K1 hK1
    refine wlit ?_
    refine wl_v (x_assign ev_c) ?_
    refine wl_nil ?_
    refine then_n (hK1 _ _ ?_); clear hK1 K1
    refine wp_seq_k ?_; intro K2 hK2
    refine wp_seq_k ?_; intro K3 hK3
    refine wlit ?_
    refine wl_v (x_move (tmS rfl rfl)) ?_
    refine wl_v (x_len Tryd.underlying22 (tmS rfl rfl)) ?_
    refine wl_v (x_gtr (tmI rfl rfl) (ev_cN 3000)) ?_
    refine wl_nil ?_
    refine then_n (hK3 _ _ ?_); clear hK3 K3
    refine cnds (tm rfl) (fun hc0 => ?_) (fun hc0 => ?_)
    · exfalso
      simp at hc0
      omega
    all_goals
     try simp only [nrm] at hc0
     refine wp_seq_k ?_; intro K4 hK4
     refine wlit ?_
     refine wl_e rfl ?_; intro K hK
     refine ow_call Tryd.func6 rfl rfl (evs_nil) (law28_awake_c _ (viewV hS.ok 1 rfl)) ?_
     rintro e w ⟨rfl, hk⟩
     refine ⟨_, rfl, ?_⟩
     replace hS := hS.kept hk
     clear hk
     refine hK _ _ ?_; clear hK K
     refine wl_v (x_assign (tmB rfl rfl)) ?_
     refine wl_nil ?_
     refine then_n (hK4 _ _ ?_); clear hK4 K4
     refine wp_ret ?_
     refine then_r ?_
     refine ret1 rfl (.tmp rfl (show _ = Value.bool _ from rfl)) ?_
     exact ⟨rfl, hS.kp.below⟩
def laidL : List (Nat × Array Value) := [(0, nmV.toArray)]
theorem laidf {W : World} (h : laidMetH Tryd.prog Rows.packetReadsRow.laid W) : Names W :=
  strs_of_head (P := Tryd.prog) (name := "counterfoil/packet.names") (ss := nmB) (rest := []) (g := 0) (by kernel_rfl) (by kernel_rfl) Tryd.underlying77 Tryd.underlying9 (by kernel_rfl) (by kernel_rfl) h (by decide)
end PacketReads
end Go.Proofs.YtmekadkmmddocaaDoor
