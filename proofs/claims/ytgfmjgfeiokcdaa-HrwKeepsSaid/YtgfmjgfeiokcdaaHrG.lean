
/- the law's awake, by contract; reading a slice of members. Conditions: none. -/
import Derived.Test.YtgfmjgfeiokcdaaHrF
import Derived.Test.YtgfmjgfeiokcdaaConst
import Derived.Test.YtgfmjgfeiokcdaaArgs
import Derived.Test.YtgfmjgfeiokcdaaArrO
namespace Go.Proofs.Ytgfmjgfeiokcdaa
open Go.ChangeShapes Go.WideShapes Go.ChangeAt Go.RowKit
set_option maxRecDepth 100000 in
theorem open_mbs {H : Type} {enc : TypeId × Value → H} {r : Reach} {b0 : Nat} {v : Value} {d : DataW H} {ps : List MemPlace} {w : World}
    (hval : Value.okWide Try.prog w r b0 23 v) (hd : DataW.Trod enc Try.prog w 0 (fun _ => true) true 23 v d ps) (hlt : ∀ x ∈ ps, x.block < w.heap.size) :
    ∃ (A : Option Addr) (c : Nat) (l : List Mb), v = .slice A l.length c ∧ (A = none → c = 0) ∧ l.length ≤ c ∧ c ≤ maxLen ∧ View w w.heap.size A (flat mv l) := by
  have hC : Try.prog.cellsOf 37 = 2 := by kernel_rfl
  obtain ⟨A, n, c, es, rfl, hn, hA, hnc, hcm, hv, hes⟩ := open_elems Try.underlying23 (by rw [hC]; omega) hval hd hlt
  obtain ⟨l, rfl, hl⟩ := list_decode mv (fun _ => True) es (by
    intro cs hcs
    obtain ⟨hl, m, x, ht, _⟩ := hes cs hcs
    rw [hC] at hl
    have hf := struct_fields Try.underlying37 (by kernel_rfl) ht hl
    obtain ⟨v0, y0, k0, h0, t0, _⟩ := hf 0 _ rfl
    obtain ⟨v1, y1, k1, h1, t1, _⟩ := hf 1 _ rfl
    obtain ⟨z0, e0, _, z0w⟩ := DataW.trod_int Try.underlying3 t0
    obtain ⟨z1, e1, _, z1w⟩ := DataW.trod_int Try.underlying3 t1
    injection e0 with e0; injection e1 with e1
    subst e0; subst e1
    refine ⟨(z0, z1), ?_, trivial⟩
    match cs, hl with
    | [c0, c1], _ => simp at h0 h1; rw [h0, h1]; rfl)
  refine ⟨A, c, l, by simp at hn; rw [hn], hA, by simp at hn; omega, hcm, hv⟩
def exK : Nat → Nat := fun i => if i = 0 then 1 else 0
theorem exK_bytes : Bytes (kL exK) := by
  intro x hx
  simp [kL, exK] at hx
  omega
theorem pick_one (k : Nat → Nat) (b : List Nat) : pkI (ranked k b [(7, 1)]) = 7 ∧ pkB (ranked k b [(7, 1)]) = true := by
  have h : ranked k b [(7, 1)] = [sco k b (7, 1)] := rfl
  rw [h]
  exact ⟨rfl, rfl⟩
set_option maxRecDepth 100000 in
set_option maxHeartbeats 4000000 in
theorem law16_awake_c (w0 : World) : Calls Try.prog 5 #[] w0 fun e w' => e = .returned (.bool true) ∧ Kp [] w0 w' := by
  have hS := St.sv w0
  have hp := pick_one exK [120]
  have hpc := fun A c B w h1 h2 => pick_c exK A 1 c [((7 : Int), (1 : Int))] B 1 1 [120] w exK_bytes h1 rfl (by omega) (by intro p hp; rw [List.mem_singleton.1 hp]; exact ⟨by decide, by decide, by decide, by decide⟩) h2 rfl (fun x hx => by rw [List.mem_singleton.1 hx]; decide) (by omega)
  rw [hp.1, hp.2] at hpc
  refine ent (n := 17) Try.func5 rfl rfl ?_
  refine wp_seq_k ?_; intro K1 hK1
  refine wlit ?_
  refine wl_v (x_assign ev_c) ?_
  refine wl_nil ?_
  refine then_n (hK1 _ _ ?_); clear hK1 K1
  refine wp_seq_k ?_; intro K2 hK2
  refine wlit ?_
  refine wl_v (x_build (bc_take (ev_cN 1) <| bc_skip (.int .u8 0) <| bc_skip (.int .u8 0) <| bc_skip (.int .u8 0) <| bc_skip (.int .u8 0) <| bc_skip (.int .u8 0) <| bc_skip (.int .u8 0) <| bc_skip (.int .u8 0) <| bc_skip (.int .u8 0) <| bc_skip (.int .u8 0) <| bc_skip (.int .u8 0) <| bc_skip (.int .u8 0) <| bc_skip (.int .u8 0) <| bc_skip (.int .u8 0) <| bc_skip (.int .u8 0) <| bc_skip (.int .u8 0) <| bc_nil) (by kernel_rfl)) ?_
  refine wl_v (x_build (bc_take (ev_cN 7) <| bc_take (ev_cN 1) <| bc_nil) (by kernel_rfl)) ?_
  refine wl_e rfl ?_; intro K hK
  refine ow_build hS Try.underlying29 tz_35 (bc_takeL (tmA rfl rfl) <| bc_nil) rfl rfl (by kernel_rfl) ?_
  clear hS; intro g1_2 w hg1_2 hS
  refine hK _ _ ?_; clear hK K
  refine wl_e rfl ?_; intro K hK
  refine ow_build hS Try.underlying24 tz_5 (bc_take (ev_cN 120) <| bc_nil) rfl rfl (by kernel_rfl) ?_
  clear hS; intro g1_3 w hg1_3 hS
  refine hK _ _ ?_; clear hK K
  refine wl_e rfl ?_; intro K hK
  refine ow_bconst hS 0 rfl Try.underlying24 Try.underlying5 (tmS rfl rfl) ?_
  clear hS; intro w hS
  refine hK _ _ ?_; clear hK K
  refine wl_e rfl ?_; intro K hK
  refine ow_call Try.func12 rfl rfl (evs_cons (tmA rfl rfl) <| evs_cons (tmS rfl rfl) <| evs_cons (tmS rfl rfl) <| evs_nil) (hpc _ _ _ _ (viewB hS.ok 1 rfl) (viewV hS.ok 0 rfl)) ?_
  rintro e w ⟨rfl, hk⟩
  refine ⟨_, rfl, ?_⟩
  replace hS := hS.kept hk
  clear hk
  refine hK _ _ ?_; clear hK K
  refine wl_v (x_move (tmT rfl rfl)) ?_
  refine wl_v (x_ext (tmT rfl rfl) rfl) ?_
  refine wl_v (x_ext (tmT rfl rfl) rfl) ?_
  refine wl_v (x_assign (tmI rfl rfl)) ?_
  refine wl_v (x_assign (tmB rfl rfl)) ?_
  refine wl_nil ?_
  refine then_n (hK2 _ _ ?_); clear hK2 K2
  refine wp_seq_k ?_; intro K3 hK3
  refine wlit ?_
  refine wl_v (x_move (tmI rfl rfl)) ?_
  refine wl_v (x_eql (tmI rfl rfl) (ev_cN 7)) ?_
  refine wl_v (x_move (tmB rfl rfl)) ?_
  refine gs_wl (tm (t := 14) rfl) (fun hg2_2 => ?_) (fun hg2_2 => ?_)
  · have hg2_2' := hg2_2; (try simp only [nrm] at hg2_2'); try (exfalso; first | with_reducible exact absurd hg2_2 Bool.false_ne_true | with_reducible exact absurd hg2_2.symm Bool.false_ne_true | omega | (simp at hg2_2; done))
    all_goals
     refine wl_gv (want_y rfl rfl rfl rfl (by rw [hg2_2]; rfl)) (x_move (tmB rfl rfl)) ?_
     refine wl_v (x_pickT (tmB rfl rfl) hg2_2 (tmB rfl rfl)) ?_
     refine wl_v (x_assign (tmB rfl rfl)) ?_
     refine wl_nil ?_
     refine then_n (hK3 _ _ ?_); clear hK3 K3
     refine wp_ret ?_
     refine ret1 rfl (.tmp rfl (show _ = Value.bool _ from rfl)) ?_
     exact ⟨by simp, hS.kp⟩
  have hg2_2' := hg2_2; (try simp only [nrm] at hg2_2'); try (exfalso; first | with_reducible exact absurd hg2_2 Bool.false_ne_true | with_reducible exact absurd hg2_2.symm Bool.false_ne_true | omega | (simp at hg2_2; done))
  all_goals
   refine wl_s rfl (want_n rfl rfl rfl rfl (by rw [hg2_2]; rfl)) ?_
   refine wl_v (x_pickF (tmB rfl rfl) hg2_2 ev_c) ?_
   refine wl_v (x_assign (tmB rfl rfl)) ?_
   refine wl_nil ?_
   refine then_n (hK3 _ _ ?_); clear hK3 K3
   refine wp_ret ?_
   refine ret1 rfl (.tmp rfl (show _ = Value.bool _ from rfl)) ?_
   exact ⟨by simp, hS.kp⟩
end Go.Proofs.Ytgfmjgfeiokcdaa
