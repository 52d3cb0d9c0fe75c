
/- Proved: AddrOrders returns true for every input, and changes no memory that was there. Conditions: the library's variable MaxLen holds a number (out of the world's shape). -/
import Derived.Test.YtocnmcndcdncmaaDoorAwD
import Derived.Test.YtocnmcndcdncmaaDoorKitS
import Derived.Test.YtocnmcndcdncmaaDoorArgs
namespace Go.Proofs.YtocnmcndcdncmaaDoor
open Go.ChangeShapes Go.WideShapes Go.ChangeAt Go.RowKit
namespace AddrOrders
theorem cmp_lt (a b : Ad) : decide (adCmp a b = -1) = adLt a b := by
  obtain ⟨s1, h1, l1⟩ := a
  obtain ⟨s2, h2, l2⟩ := b
  unfold adCmp adLt cmpN
  cases s1 <;> cases s2 <;> simp <;> (repeat' split) <;> simp_all <;> omega
theorem cmp_gt (a b : Ad) : decide (adCmp a b = 1) = adLt b a := by
  obtain ⟨s1, h1, l1⟩ := a
  obtain ⟨s2, h2, l2⟩ := b
  unfold adCmp adLt cmpN
  cases s1 <;> cases s2 <;> simp <;> (repeat' split) <;> simp_all <;> omega
theorem cmp_eq (a b : Ad) : decide (adCmp a b = 0) = decide (a.six = b.six ∧ a.high = b.high ∧ a.low = b.low) := by
  obtain ⟨s1, h1, l1⟩ := a
  obtain ⟨s2, h2, l2⟩ := b
  unfold adCmp cmpN
  cases s1 <;> cases s2 <;> simp <;> (repeat' split) <;> simp_all <;> omega
set_option maxRecDepth 100000 in
set_option maxHeartbeats 4000000 in
theorem walk_ (s1 s2 : Bool) (h1 l1 h2 l2 : Nat) (w0 : World) (hm : MaxL w0) : Calls Tryd.prog 3 #[.agg (Ad.V ⟨s1, h1, l1⟩).toArray, .agg (Ad.V ⟨s2, h2, l2⟩).toArray] w0 fun x w' => x = .returned (.bool true) ∧ Below w0.heap.size w0 w' := by
  have hS := St.sv w0
  refine ent (n := 34) Tryd.func3 rfl rfl ?_
  refine wp_seq_k ?_; intro K1 hK1
  refine wlit ?_
  refine wl_e rfl ?_; intro K hK
  refine ow_box hS (tmA rfl rfl) rfl ?_
  clear hS; intro g0_0 w hg0_0 hS
  refine hK _ _ ?_; clear hK K
  refine wl_e rfl ?_; intro K hK
  refine ow_box hS (tmA rfl rfl) rfl ?_
  clear hS; intro g0_1 w hg0_1 hS
  refine hK _ _ ?_; clear hK K
  refine wl_v (x_assign ev_c) ?_
  refine wl_nil ?_
  refine then_n (hK1 _ _ ?_); clear hK1 K1
  refine wp_seq_k ?_; intro K2 hK2
  refine wlit ?_
  refine wl_v (x_loadA (cs := [_, _, _]) Tryd.underlying24 rfl ts_24 (tmP rfl rfl) (rangeB hS.ok 1 rfl rfl)) ?_
  refine wl_v (x_loadA (cs := [_, _, _]) Tryd.underlying24 rfl ts_24 (tmP rfl rfl) (rangeB hS.ok 0 rfl rfl)) ?_
  refine wl_e rfl ?_; intro K hK
  refine ow_call Tryd.func5 rfl rfl (evs_cons (tmA rfl rfl) <| evs_cons (tmA rfl rfl) <| evs_nil) (compare_c_ s1 s2 h1 l1 h2 l2 _) ?_
  rintro e w ⟨rfl, hk⟩
  refine ⟨_, rfl, ?_⟩
  replace hS := hS.kept hk
  clear hk
  refine hK _ _ ?_; clear hK K
  refine wl_v (x_assign (tmI rfl rfl)) ?_
  refine wl_nil ?_
  refine then_n (hK2 _ _ ?_); clear hK2 K2
  refine wp_seq_k ?_; intro K3 hK3
  refine wlit ?_
  refine wl_v (x_move (tmI rfl rfl)) ?_
  refine wl_v (x_eql (tmI rfl rfl) ev_c) ?_
  refine wl_v (x_loadA (cs := [_, _, _]) Tryd.underlying24 rfl ts_24 (tmP rfl rfl) (rangeB hS.ok 1 rfl rfl)) ?_
  refine wl_v (x_loadA (cs := [_, _, _]) Tryd.underlying24 rfl ts_24 (tmP rfl rfl) (rangeB hS.ok 0 rfl rfl)) ?_
  refine wl_e rfl ?_; intro K hK
  refine ow_call Tryd.func6 rfl rfl (evs_cons (tmA rfl rfl) <| evs_cons (tmA rfl rfl) <| evs_nil) (rless_c_ s1 s2 h1 l1 h2 l2 _) ?_
  rintro e w ⟨rfl, hk⟩
  refine ⟨_, rfl, ?_⟩
  replace hS := hS.kept hk
  clear hk
  refine hK _ _ ?_; clear hK K
  refine wl_v (x_beql Tryd.underlying4 (tmB rfl rfl) (tmB rfl rfl)) ?_
  refine wl_v (x_move (tmB rfl rfl)) ?_
  refine gs_wl (tm (t := 15) rfl) (fun hg2_6 => ?_) (fun hg2_6 => ?_)
  · have hg2_6' := hg2_6; (try simp only [nrm] at hg2_6'); try (exfalso; first | with_reducible exact absurd hg2_6 Bool.false_ne_true | with_reducible exact absurd hg2_6.symm Bool.false_ne_true | omega | (simp at hg2_6; done))
    all_goals
     refine wl_gv (want_y rfl rfl rfl rfl (by rw [hg2_6]; rfl)) (x_move (tmI rfl rfl)) ?_
     refine wl_gv (want_y rfl rfl rfl rfl (by rw [hg2_6]; rfl)) (x_eql (tmI rfl rfl) (ev_cN 1)) ?_
     refine wl_gv (want_y rfl rfl rfl rfl (by rw [hg2_6]; rfl)) (x_loadA (cs := [_, _, _]) Tryd.underlying24 rfl ts_24 (tmP rfl rfl) (rangeB hS.ok 0 rfl rfl)) ?_
     refine wl_gv (want_y rfl rfl rfl rfl (by rw [hg2_6]; rfl)) (x_loadA (cs := [_, _, _]) Tryd.underlying24 rfl ts_24 (tmP rfl rfl) (rangeB hS.ok 1 rfl rfl)) ?_
     refine wl_g (want_y rfl rfl rfl rfl (by rw [hg2_6]; rfl)) ?_; intro K hK
     refine ow_call Tryd.func6 rfl rfl (evs_cons (tmA rfl rfl) <| evs_cons (tmA rfl rfl) <| evs_nil) (rless_c_ s2 s1 h2 l2 h1 l1 _) ?_
     rintro e w ⟨rfl, hk⟩
     refine ⟨_, rfl, ?_⟩
     replace hS := hS.kept hk
     clear hk
     refine hK _ _ ?_; clear hK K
     refine wl_gv (want_y rfl rfl rfl rfl (by rw [hg2_6]; rfl)) (x_beql Tryd.underlying4 (tmB rfl rfl) (tmB rfl rfl)) ?_
     refine wl_v (x_pickT (tmB rfl rfl) hg2_6 (tmB rfl rfl)) ?_
     refine wl_v (x_move (tmB rfl rfl)) ?_
     refine gs_wl (tm (t := 23) rfl) (fun hg2_14 => ?_) (fun hg2_14 => ?_)
     · have hg2_14' := hg2_14; (try simp only [nrm] at hg2_14'); try (exfalso; first | with_reducible exact absurd hg2_14 Bool.false_ne_true | with_reducible exact absurd hg2_14.symm Bool.false_ne_true | omega | (simp at hg2_14; done))
       all_goals
        refine wl_gv (want_y rfl rfl rfl rfl (by rw [hg2_14]; rfl)) (x_move (tmI rfl rfl)) ?_
        refine wl_gv (want_y rfl rfl rfl rfl (by rw [hg2_14]; rfl)) (x_eql (tmI rfl rfl) (ev_cN 0)) ?_
        refine wl_gv (want_y rfl rfl rfl rfl (by rw [hg2_14]; rfl)) (x_loadA (cs := [_, _, _]) Tryd.underlying24 rfl ts_24 (tmP rfl rfl) (rangeB hS.ok 1 rfl rfl)) ?_
        refine wl_gv (want_y rfl rfl rfl rfl (by rw [hg2_14]; rfl)) (x_loadA (cs := [_, _, _]) Tryd.underlying24 rfl ts_24 (tmP rfl rfl) (rangeB hS.ok 0 rfl rfl)) ?_
        refine wl_gv (want_y rfl rfl rfl rfl (by rw [hg2_14]; rfl)) (x_Aeql (by kernel_rfl) (tmA rfl rfl) (tmA rfl rfl) (eqv_A Tryd.underlying24 (by kernel_rfl) (fe_cons rfl (pt_1 Tryd.underlying4 rfl rfl) (pt_1 Tryd.underlying4 rfl rfl) (eqv_b Tryd.underlying4) <| fe_cons rfl (pt_1 Tryd.underlying22 rfl rfl) (pt_1 Tryd.underlying22 rfl rfl) (eqv_i Tryd.underlying22) <| fe_cons rfl (pt_1 Tryd.underlying22 rfl rfl) (pt_1 Tryd.underlying22 rfl rfl) (eqv_i Tryd.underlying22) <| fe_nil))) ?_
        refine wl_gv (want_y rfl rfl rfl rfl (by rw [hg2_14]; rfl)) (x_beql Tryd.underlying4 (tmB rfl rfl) (tmB rfl rfl)) ?_
        refine wl_v (x_pickT (tmB rfl rfl) hg2_14 (tmB rfl rfl)) ?_
        refine wl_v (x_move (tmB rfl rfl)) ?_
        refine gs_wl (tm (t := 31) rfl) (fun hg2_22 => ?_) (fun hg2_22 => ?_)
        · have hg2_22' := hg2_22; (try simp only [nrm] at hg2_22'); try (exfalso; first | with_reducible exact absurd hg2_22 Bool.false_ne_true | with_reducible exact absurd hg2_22.symm Bool.false_ne_true | omega | (simp at hg2_22; done))
          all_goals
           refine wl_g (want_y rfl rfl rfl rfl (by rw [hg2_22]; rfl)) ?_; intro K hK
           refine ow_call Tryd.func7 rfl rfl (evs_nil) (awake3_c _ (hm.kp hS.kp)) ?_
           rintro e w ⟨rfl, hk⟩
           refine ⟨_, rfl, ?_⟩
           replace hS := hS.kept hk
           clear hk
           refine hK _ _ ?_; clear hK K
           refine wl_v (x_pickT (tmB rfl rfl) hg2_22 (tmB rfl rfl)) ?_
           refine wl_v (x_assign (tmB rfl rfl)) ?_
           refine wl_nil ?_
           refine then_n (hK3 _ _ ?_); clear hK3 K3
           refine wp_ret ?_
           refine ret1 rfl (.tmp rfl (show _ = Value.bool _ from rfl)) ?_
           refine ⟨congrArg (fun z : Bool => Ending.returned (.bool z)) ?_, hS.kp.below⟩
           clear hS
           have e1 := cmp_lt ⟨s1, h1, l1⟩ ⟨s2, h2, l2⟩
           have e2 := cmp_gt ⟨s1, h1, l1⟩ ⟨s2, h2, l2⟩
           have e3 := cmp_eq ⟨s1, h1, l1⟩ ⟨s2, h2, l2⟩
           simp only at e3
           first
             | rfl
             | (simp_all; done)
             | (exfalso; simp_all; done)
             | (exfalso; simp_all; revert hg2_22'; cases s1 <;> cases s2 <;> simp; done)
        have hg2_22' := hg2_22; (try simp only [nrm] at hg2_22'); try (exfalso; first | with_reducible exact absurd hg2_22 Bool.false_ne_true | with_reducible exact absurd hg2_22.symm Bool.false_ne_true | omega | (simp at hg2_22; done))
        all_goals
         refine wl_s rfl (want_n rfl rfl rfl rfl (by rw [hg2_22]; rfl)) ?_
         refine wl_v (x_pickF (tmB rfl rfl) hg2_22 ev_c) ?_
         refine wl_v (x_assign (tmB rfl rfl)) ?_
         refine wl_nil ?_
         refine then_n (hK3 _ _ ?_); clear hK3 K3
         refine wp_ret ?_
         refine ret1 rfl (.tmp rfl (show _ = Value.bool _ from rfl)) ?_
         refine ⟨congrArg (fun z : Bool => Ending.returned (.bool z)) ?_, hS.kp.below⟩
         clear hS
         have e1 := cmp_lt ⟨s1, h1, l1⟩ ⟨s2, h2, l2⟩
         have e2 := cmp_gt ⟨s1, h1, l1⟩ ⟨s2, h2, l2⟩
         have e3 := cmp_eq ⟨s1, h1, l1⟩ ⟨s2, h2, l2⟩
         simp only at e3
         first
           | rfl
           | (simp_all; done)
           | (exfalso; simp_all; done)
           | (exfalso; simp_all; revert hg2_22'; cases s1 <;> cases s2 <;> simp; done)
     have hg2_14' := hg2_14; (try simp only [nrm] at hg2_14'); try (exfalso; first | with_reducible exact absurd hg2_14 Bool.false_ne_true | with_reducible exact absurd hg2_14.symm Bool.false_ne_true | omega | (simp at hg2_14; done))
     all_goals
      refine wl_s rfl (want_n rfl rfl rfl rfl (by rw [hg2_14]; rfl)) ?_
      refine wl_s rfl (want_n rfl rfl rfl rfl (by rw [hg2_14]; rfl)) ?_
      refine wl_s rfl (want_n rfl rfl rfl rfl (by rw [hg2_14]; rfl)) ?_
      refine wl_s rfl (want_n rfl rfl rfl rfl (by rw [hg2_14]; rfl)) ?_
      refine wl_s rfl (want_n rfl rfl rfl rfl (by rw [hg2_14]; rfl)) ?_
      refine wl_s rfl (want_n rfl rfl rfl rfl (by rw [hg2_14]; rfl)) ?_
      refine wl_v (x_pickF (tmB rfl rfl) hg2_14 ev_c) ?_
      refine wl_v (x_move (tmB rfl rfl)) ?_
      refine wl_s rfl (want_n rfl rfl rfl rfl rfl) ?_
      refine wl_v (x_pickF (tmB rfl rfl) rfl ev_c) ?_
      refine wl_v (x_assign (tmB rfl rfl)) ?_
      refine wl_nil ?_
      refine then_n (hK3 _ _ ?_); clear hK3 K3
      refine wp_ret ?_
      refine ret1 rfl (.tmp rfl (show _ = Value.bool _ from rfl)) ?_
      refine ⟨congrArg (fun z : Bool => Ending.returned (.bool z)) ?_, hS.kp.below⟩
      clear hS
      have e1 := cmp_lt ⟨s1, h1, l1⟩ ⟨s2, h2, l2⟩
      have e2 := cmp_gt ⟨s1, h1, l1⟩ ⟨s2, h2, l2⟩
      have e3 := cmp_eq ⟨s1, h1, l1⟩ ⟨s2, h2, l2⟩
      simp only at e3
      first
        | rfl
        | (simp_all; done)
        | (exfalso; simp_all; done)
        | (exfalso; simp_all; revert hg2_22'; cases s1 <;> cases s2 <;> simp; done)
  have hg2_6' := hg2_6; (try simp only [nrm] at hg2_6'); try (exfalso; first | with_reducible exact absurd hg2_6 Bool.false_ne_true | with_reducible exact absurd hg2_6.symm Bool.false_ne_true | omega | (simp at hg2_6; done))
  all_goals
   refine wl_s rfl (want_n rfl rfl rfl rfl (by rw [hg2_6]; rfl)) ?_
   refine wl_s rfl (want_n rfl rfl rfl rfl (by rw [hg2_6]; rfl)) ?_
   refine wl_s rfl (want_n rfl rfl rfl rfl (by rw [hg2_6]; rfl)) ?_
   refine wl_s rfl (want_n rfl rfl rfl rfl (by rw [hg2_6]; rfl)) ?_
   refine wl_s rfl (want_n rfl rfl rfl rfl (by rw [hg2_6]; rfl)) ?_
   refine wl_s rfl (want_n rfl rfl rfl rfl (by rw [hg2_6]; rfl)) ?_
   refine wl_v (x_pickF (tmB rfl rfl) hg2_6 ev_c) ?_
   refine wl_v (x_move (tmB rfl rfl)) ?_
   refine wl_s rfl (want_n rfl rfl rfl rfl rfl) ?_
   refine wl_s rfl (want_n rfl rfl rfl rfl rfl) ?_
   refine wl_s rfl (want_n rfl rfl rfl rfl rfl) ?_
   refine wl_s rfl (want_n rfl rfl rfl rfl rfl) ?_
   refine wl_s rfl (want_n rfl rfl rfl rfl rfl) ?_
   refine wl_s rfl (want_n rfl rfl rfl rfl rfl) ?_
   refine wl_v (x_pickF (tmB rfl rfl) rfl ev_c) ?_
   refine wl_v (x_move (tmB rfl rfl)) ?_
   refine wl_s rfl (want_n rfl rfl rfl rfl rfl) ?_
   refine wl_v (x_pickF (tmB rfl rfl) rfl ev_c) ?_
   refine wl_v (x_assign (tmB rfl rfl)) ?_
   refine wl_nil ?_
   refine then_n (hK3 _ _ ?_); clear hK3 K3
   refine wp_ret ?_
   refine ret1 rfl (.tmp rfl (show _ = Value.bool _ from rfl)) ?_
   refine ⟨congrArg (fun z : Bool => Ending.returned (.bool z)) ?_, hS.kp.below⟩
   clear hS
   have e1 := cmp_lt ⟨s1, h1, l1⟩ ⟨s2, h2, l2⟩
   have e2 := cmp_gt ⟨s1, h1, l1⟩ ⟨s2, h2, l2⟩
   have e3 := cmp_eq ⟨s1, h1, l1⟩ ⟨s2, h2, l2⟩
   simp only at e3
   first
     | rfl
     | (simp_all; done)
     | (exfalso; simp_all; done)
     | (exfalso; simp_all; revert hg2_22'; cases s1 <;> cases s2 <;> simp; done)
set_option maxRecDepth 100000 in
theorem walk (v u : Value) (w0 : World) {H : Type} {enc : TypeId × Value → H} {r r' : Reach} {b0 b1 : Nat} {d d' : DataW H} {ps ps' : List MemPlace}
    (hval : Value.okWide Tryd.prog w0 r b0 24 v) (hd : DataW.Trod enc Tryd.prog w0 0 (fun _ => true) true 24 v d ps) (hlt : ∀ x ∈ ps, x.block < w0.heap.size)
    (hval' : Value.okWide Tryd.prog w0 r' b1 24 u) (hd' : DataW.Trod enc Tryd.prog w0 0 (fun _ => true) true 24 u d' ps') (hlt' : ∀ x ∈ ps', x.block < w0.heap.size) (hm : MaxL w0) :
    Calls Tryd.prog 3 #[v, u] w0 fun x w' => x = .returned (.bool true) ∧ Below w0.heap.size w0 w' := by
  obtain ⟨a, rfl, _⟩ := Ad.open_a hval hd hlt
  obtain ⟨b, rfl, _⟩ := Ad.open_a hval' hd' hlt'
  exact walk_ a.six b.six a.high a.low b.high b.low w0 hm
def laidL : List (Nat × Array Value) := [(0, #[.int .u64 1, .int .u64 10, .int .u64 100, .int .u64 1000, .int .u64 10000, .int .u64 100000, .int .u64 1000000, .int .u64 10000000, .int .u64 100000000, .int .u64 1000000000, .int .u64 10000000000, .int .u64 100000000000, .int .u64 1000000000000, .int .u64 10000000000000, .int .u64 100000000000000, .int .u64 1000000000000000, .int .u64 10000000000000000, .int .u64 100000000000000000, .int .u64 1000000000000000000, .int .u64 10000000000000000000]), (2, #[.int .u8 0, .int .u8 1, .int .u8 28, .int .u8 2, .int .u8 29, .int .u8 14, .int .u8 24, .int .u8 3, .int .u8 30, .int .u8 22, .int .u8 20, .int .u8 15, .int .u8 25, .int .u8 17, .int .u8 4, .int .u8 8, .int .u8 31, .int .u8 27, .int .u8 13, .int .u8 23, .int .u8 21, .int .u8 19, .int .u8 16, .int .u8 7, .int .u8 26, .int .u8 12, .int .u8 18, .int .u8 6, .int .u8 11, .int .u8 5, .int .u8 10, .int .u8 9]), (3, #[.int .u8 0, .int .u8 1, .int .u8 56, .int .u8 2, .int .u8 57, .int .u8 49, .int .u8 28, .int .u8 3, .int .u8 61, .int .u8 58, .int .u8 42, .int .u8 50, .int .u8 38, .int .u8 29, .int .u8 17, .int .u8 4, .int .u8 62, .int .u8 47, .int .u8 59, .int .u8 36, .int .u8 45, .int .u8 43, .int .u8 51, .int .u8 22, .int .u8 53, .int .u8 39, .int .u8 33, .int .u8 30, .int .u8 24, .int .u8 18, .int .u8 12, .int .u8 5, .int .u8 63, .int .u8 55, .int .u8 48, .int .u8 27, .int .u8 60, .int .u8 41, .int .u8 37, .int .u8 16, .int .u8 46, .int .u8 35, .int .u8 44, .int .u8 21, .int .u8 52, .int .u8 32, .int .u8 23, .int .u8 11, .int .u8 54, .int .u8 26, .int .u8 40, .int .u8 15, .int .u8 34, .int .u8 20, .int .u8 31, .int .u8 10, .int .u8 25, .int .u8 14, .int .u8 19, .int .u8 9, .int .u8 13, .int .u8 8, .int .u8 7, .int .u8 6]), (4, #[.int .u8 240, .int .u8 240, .int .u8 240, .int .u8 240, .int .u8 240, .int .u8 240, .int .u8 240, .int .u8 240, .int .u8 240, .int .u8 240, .int .u8 240, .int .u8 240, .int .u8 240, .int .u8 240, .int .u8 240, .int .u8 240, .int .u8 240, .int .u8 240, .int .u8 240, .int .u8 240, .int .u8 240, .int .u8 240, .int .u8 240, .int .u8 240, .int .u8 240, .int .u8 240, .int .u8 240, .int .u8 240, .int .u8 240, .int .u8 240, .int .u8 240, .int .u8 240, .int .u8 240, .int .u8 240, .int .u8 240, .int .u8 240, .int .u8 240, .int .u8 240, .int .u8 240, .int .u8 240, .int .u8 240, .int .u8 240, .int .u8 240, .int .u8 240, .int .u8 240, .int .u8 240, .int .u8 240, .int .u8 240, .int .u8 240, .int .u8 240, .int .u8 240, .int .u8 240, .int .u8 240, .int .u8 240, .int .u8 240, .int .u8 240, .int .u8 240, .int .u8 240, .int .u8 240, .int .u8 240, .int .u8 240, .int .u8 240, .int .u8 240, .int .u8 240, .int .u8 240, .int .u8 240, .int .u8 240, .int .u8 240, .int .u8 240, .int .u8 240, .int .u8 240, .int .u8 240, .int .u8 240, .int .u8 240, .int .u8 240, .int .u8 240, .int .u8 240, .int .u8 240, .int .u8 240, .int .u8 240, .int .u8 240, .int .u8 240, .int .u8 240, .int .u8 240, .int .u8 240, .int .u8 240, .int .u8 240, .int .u8 240, .int .u8 240, .int .u8 240, .int .u8 240, .int .u8 240, .int .u8 240, .int .u8 240, .int .u8 240, .int .u8 240, .int .u8 240, .int .u8 240, .int .u8 240, .int .u8 240, .int .u8 240, .int .u8 240, .int .u8 240, .int .u8 240, .int .u8 240, .int .u8 240, .int .u8 240, .int .u8 240, .int .u8 240, .int .u8 240, .int .u8 240, .int .u8 240, .int .u8 240, .int .u8 240, .int .u8 240, .int .u8 240, .int .u8 240, .int .u8 240, .int .u8 240, .int .u8 240, .int .u8 240, .int .u8 240, .int .u8 240, .int .u8 240, .int .u8 240, .int .u8 240, .int .u8 240, .int .u8 240, .int .u8 241, .int .u8 241, .int .u8 241, .int .u8 241, .int .u8 241, .int .u8 241, .int .u8 241, .int .u8 241, .int .u8 241, .int .u8 241, .int .u8 241, .int .u8 241, .int .u8 241, .int .u8 241, .int .u8 241, .int .u8 241, .int .u8 241, .int .u8 241, .int .u8 241, .int .u8 241, .int .u8 241, .int .u8 241, .int .u8 241, .int .u8 241, .int .u8 241, .int .u8 241, .int .u8 241, .int .u8 241, .int .u8 241, .int .u8 241, .int .u8 241, .int .u8 241, .int .u8 241, .int .u8 241, .int .u8 241, .int .u8 241, .int .u8 241, .int .u8 241, .int .u8 241, .int .u8 241, .int .u8 241, .int .u8 241, .int .u8 241, .int .u8 241, .int .u8 241, .int .u8 241, .int .u8 241, .int .u8 241, .int .u8 241, .int .u8 241, .int .u8 241, .int .u8 241, .int .u8 241, .int .u8 241, .int .u8 241, .int .u8 241, .int .u8 241, .int .u8 241, .int .u8 241, .int .u8 241, .int .u8 241, .int .u8 241, .int .u8 241, .int .u8 241, .int .u8 241, .int .u8 241, .int .u8 2, .int .u8 2, .int .u8 2, .int .u8 2, .int .u8 2, .int .u8 2, .int .u8 2, .int .u8 2, .int .u8 2, .int .u8 2, .int .u8 2, .int .u8 2, .int .u8 2, .int .u8 2, .int .u8 2, .int .u8 2, .int .u8 2, .int .u8 2, .int .u8 2, .int .u8 2, .int .u8 2, .int .u8 2, .int .u8 2, .int .u8 2, .int .u8 2, .int .u8 2, .int .u8 2, .int .u8 2, .int .u8 2, .int .u8 2, .int .u8 19, .int .u8 3, .int .u8 3, .int .u8 3, .int .u8 3, .int .u8 3, .int .u8 3, .int .u8 3, .int .u8 3, .int .u8 3, .int .u8 3, .int .u8 3, .int .u8 3, .int .u8 35, .int .u8 3, .int .u8 3, .int .u8 52, .int .u8 4, .int .u8 4, .int .u8 4, .int .u8 68, .int .u8 241, .int .u8 241, .int .u8 241, .int .u8 241, .int .u8 241, .int .u8 241, .int .u8 241, .int .u8 241, .int .u8 241, .int .u8 241, .int .u8 241]), (5, #[.int .u8 128, .int .u8 191, .int .u8 160, .int .u8 191, .int .u8 128, .int .u8 159, .int .u8 144, .int .u8 191, .int .u8 128, .int .u8 143, .int .u8 0, .int .u8 0, .int .u8 0, .int .u8 0, .int .u8 0, .int .u8 0, .int .u8 0, .int .u8 0, .int .u8 0, .int .u8 0, .int .u8 0, .int .u8 0, .int .u8 0, .int .u8 0, .int .u8 0, .int .u8 0, .int .u8 0, .int .u8 0, .int .u8 0, .int .u8 0, .int .u8 0, .int .u8 0])]
theorem laidf {W : World} (h : laidMetH Tryd.prog Rows.addrOrdersRow.laid W ∧ W.ShapedOpen Tryd.prog) : MaxL W := Tryd.laysM146.s1_3 W h.2
end AddrOrders
end Go.Proofs.YtocnmcndcdncmaaDoor
