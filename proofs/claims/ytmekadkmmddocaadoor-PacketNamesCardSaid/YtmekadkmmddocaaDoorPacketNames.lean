
/- Proved: PacketNames returns true for every input, and changes no memory that was there. Conditions: the package-level table packet.names reads as the program's text lays it (the card ties it). -/
import Derived.Test.YtmekadkmmddocaaDoorPkA
import Derived.Test.YtmekadkmmddocaaDoorKitL
namespace Go.Proofs.YtmekadkmmddocaaDoor
open Go.RowKit
namespace PacketNames
set_option maxRecDepth 100000 in
set_option maxHeartbeats 4000000 in
theorem walk (r e : Int) (w0 : World) (_h1 : -9223372036854775808 ≤ r ∧ r ≤ 9223372036854775807) (_h2 : -9223372036854775808 ≤ e ∧ e ≤ 9223372036854775807) (hv : Names w0) : Calls Tryd.prog 4 #[.int .i64 r, .int .i64 e] w0 fun x w' => x = .returned (.bool true) ∧ Below w0.heap.size w0 w' := by
  have hS := (St.sv w0).vcons rfl hv
  refine ent (n := 20) Tryd.func4 rfl rfl ?_
  refine wp_seq_k ?_; intro K1 hK1
  refine wlit ?_
  refine wl_v (x_assign ev_c) ?_
  refine wl_nil ?_
  refine then_n (hK1 _ _ ?_); clear hK1 K1
  refine wp_seq_k ?_; intro K2 hK2
  refine wlit ?_
  refine wl_v (x_move (tmI rfl rfl)) ?_
  refine wl_e rfl ?_; intro K hK
  refine ow_call Tryd.func12 rfl rfl (evs_cons (tmI rfl rfl) <| evs_nil) (name_c r _ (viewV hS.ok 0 rfl)) ?_
  rintro e w ⟨rfl, hk⟩
  refine ⟨_, rfl, ?_⟩
  replace hS := hS.kept hk
  clear hk
  refine hK _ _ ?_; clear hK K
  refine wl_v (x_move (tmI rfl rfl)) ?_
  refine wl_e rfl ?_; intro K hK
  refine ow_call Tryd.func13 rfl rfl (evs_cons (tmI rfl rfl) <| evs_nil) (rname_c r _) ?_
  rintro e w ⟨rfl, hk⟩
  refine ⟨_, rfl, ?_⟩
  replace hS := hS.kept hk
  clear hk
  refine hK _ _ ?_; clear hK K
  refine wl_v (x_eqv (res := true) (.inl rfl) (tmG rfl rfl) (tmG rfl rfl) (fun _ => rfl) (fun w => by rw [run_Geql, beq_self_eq_true])) ?_
  refine wl_v (x_move (tmB rfl rfl)) ?_
  refine gs_wl (tm (t := 10) rfl) (fun hg1_5 => ?_) (fun hg1_5 => ?_)
  · have hg1_5' := hg1_5; (try simp only [nrm] at hg1_5'); try (exfalso; first | with_reducible exact absurd hg1_5 Bool.false_ne_true | with_reducible exact absurd hg1_5.symm Bool.false_ne_true | omega | (simp at hg1_5; done))
    all_goals
     refine wl_gv (want_y rfl rfl rfl rfl (by rw [hg1_5]; rfl)) (x_move (tmI rfl rfl)) ?_
     refine wl_g (want_y rfl rfl rfl rfl (by rw [hg1_5]; rfl)) ?_; intro K hK
     refine ow_call Tryd.func14 rfl rfl (evs_cons (tmI rfl rfl) <| evs_nil) (of_c e _) ?_
     rintro e w ⟨rfl, hk⟩
     refine ⟨_, rfl, ?_⟩
     replace hS := hS.kept hk
     clear hk
     refine hK _ _ ?_; clear hK K
     refine wl_gv (want_y rfl rfl rfl rfl (by rw [hg1_5]; rfl)) (x_move (tmI rfl rfl)) ?_
     refine wl_g (want_y rfl rfl rfl rfl (by rw [hg1_5]; rfl)) ?_; intro K hK
     refine ow_call Tryd.func15 rfl rfl (evs_cons (tmI rfl rfl) <| evs_nil) (rof_c e _) ?_
     rintro e w ⟨rfl, hk⟩
     refine ⟨_, rfl, ?_⟩
     replace hS := hS.kept hk
     clear hk
     refine hK _ _ ?_; clear hK K
     refine wl_gv (want_y rfl rfl rfl rfl (by rw [hg1_5]; rfl)) (x_eql (tmI rfl rfl) (tmI rfl rfl)) ?_
     refine wl_v (x_pickT (tmB rfl rfl) hg1_5 (tmB rfl rfl)) ?_
     refine wl_v (x_move (tmB rfl rfl)) ?_
     refine gs_wl (tm (t := 17) rfl) (fun hg1_12 => ?_) (fun hg1_12 => ?_)
     · have hg1_12' := hg1_12; (try simp only [nrm] at hg1_12'); try (exfalso; first | with_reducible exact absurd hg1_12 Bool.false_ne_true | with_reducible exact absurd hg1_12.symm Bool.false_ne_true | omega | (simp at hg1_12; done))
       all_goals
        refine wl_g (want_y rfl rfl rfl rfl (by rw [hg1_12]; rfl)) ?_; intro K hK
        refine ow_call Tryd.func6 rfl rfl (evs_nil) (law28_awake_c _ (viewV hS.ok 0 rfl)) ?_
        rintro e w ⟨rfl, hk⟩
        refine ⟨_, rfl, ?_⟩
        replace hS := hS.kept hk
        clear hk
        refine hK _ _ ?_; clear hK K
        refine wl_v (x_pickT (tmB rfl rfl) hg1_12 (tmB rfl rfl)) ?_
        refine wl_v (x_assign (tmB rfl rfl)) ?_
        refine wl_nil ?_
        refine then_n (hK2 _ _ ?_); clear hK2 K2
        refine wp_ret ?_
        refine ret1 rfl (.tmp rfl (show _ = Value.bool _ from rfl)) ?_
        first
          | exact ⟨rfl, hS.kp.below⟩
          | exact ⟨by simp, hS.kp.below⟩
     have hg1_12' := hg1_12; (try simp only [nrm] at hg1_12'); try (exfalso; first | with_reducible exact absurd hg1_12 Bool.false_ne_true | with_reducible exact absurd hg1_12.symm Bool.false_ne_true | omega | (simp at hg1_12; done))
     all_goals
      refine wl_s rfl (want_n rfl rfl rfl rfl (by rw [hg1_12]; rfl)) ?_
      refine wl_v (x_pickF (tmB rfl rfl) hg1_12 ev_c) ?_
      refine wl_v (x_assign (tmB rfl rfl)) ?_
      refine wl_nil ?_
      refine then_n (hK2 _ _ ?_); clear hK2 K2
      refine wp_ret ?_
      refine ret1 rfl (.tmp rfl (show _ = Value.bool _ from rfl)) ?_
      first
        | exact ⟨rfl, hS.kp.below⟩
        | exact ⟨by simp, hS.kp.below⟩
  have hg1_5' := hg1_5; (try simp only [nrm] at hg1_5'); try (exfalso; first | with_reducible exact absurd hg1_5 Bool.false_ne_true | with_reducible exact absurd hg1_5.symm Bool.false_ne_true | omega | (simp at hg1_5; done))
  all_goals
   refine wl_s rfl (want_n rfl rfl rfl rfl (by rw [hg1_5]; rfl)) ?_
   refine wl_s rfl (want_n rfl rfl rfl rfl (by rw [hg1_5]; rfl)) ?_
   refine wl_s rfl (want_n rfl rfl rfl rfl (by rw [hg1_5]; rfl)) ?_
   refine wl_s rfl (want_n rfl rfl rfl rfl (by rw [hg1_5]; rfl)) ?_
   refine wl_s rfl (want_n rfl rfl rfl rfl (by rw [hg1_5]; rfl)) ?_
   refine wl_v (x_pickF (tmB rfl rfl) hg1_5 ev_c) ?_
   refine wl_v (x_move (tmB rfl rfl)) ?_
   refine wl_s rfl (want_n rfl rfl rfl rfl rfl) ?_
   refine wl_v (x_pickF (tmB rfl rfl) rfl ev_c) ?_
   refine wl_v (x_assign (tmB rfl rfl)) ?_
   refine wl_nil ?_
   refine then_n (hK2 _ _ ?_); clear hK2 K2
   refine wp_ret ?_
   refine ret1 rfl (.tmp rfl (show _ = Value.bool _ from rfl)) ?_
   first
     | exact ⟨rfl, hS.kp.below⟩
     | exact ⟨by simp, hS.kp.below⟩
def laidL : List (Nat × Array Value) := [(0, nmV.toArray)]
theorem laidf {W : World} (h : laidMetH Tryd.prog Rows.packetNamesRow.laid W) : Names W :=
  strs_of_head (P := Tryd.prog) (name := "counterfoil/packet.names") (ss := nmB) (rest := []) (g := 0) (by kernel_rfl) (by kernel_rfl) Tryd.underlying77 Tryd.underlying9 (by kernel_rfl) (by kernel_rfl) h (by decide)
end PacketNames
end Go.Proofs.YtmekadkmmddocaaDoor
