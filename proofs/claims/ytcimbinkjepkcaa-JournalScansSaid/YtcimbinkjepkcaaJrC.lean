
/- take, by contract. Conditions: none but bounds. -/
import Derived.Test.YtcimbinkjepkcaaJrB
import Derived.Test.YtcimbinkjepkcaaRdT
namespace Go.Proofs.Ytcimbinkjepkcaa
open Go.ChangeShapes Go.WideShapes Go.ChangeAt Go.RowKit
def jlen (l : List Nat) (p : Nat) : Nat := getN l (p + 8) 2
def jrec (l : List Nat) (p : Nat) : List Nat := (l.drop (p + 14)).take (jlen l p)
def jfit (l : List Nat) (p num : Nat) : Prop :=
  p + 14 ≤ l.length ∧ jlen l p ≤ 4096 ∧ p + 14 + jlen l p ≤ l.length ∧ getN l p 8 = num ∧ getN l (p + 10) 4 = crc (hdr num (jlen l p) ++ jrec l p)
theorem adv_some {n k p : Nat} (h : p + k ≤ n) : adv n k (some p) = some (p + k) := by unfold adv; dsimp only; rw [if_pos h]
theorem adv_none {n k p : Nat} (h : ¬ p + k ≤ n) : adv n k (some p) = none := by unfold adv; dsimp only; rw [if_neg h]
theorem jr_pos (l : List Nat) (n p k : Nat) : (p + 14 + k ≤ n ∧ adv n k (adv n 4 (adv n 2 (adv n 8 (some p)))) = some (p + 14 + k) ∧ rdN l n 8 (some p) = getN l p 8 ∧ rdN l n 2 (adv n 8 (some p)) = getN l (p + 8) 2 ∧ rdN l n 4 (adv n 2 (adv n 8 (some p))) = getN l (p + 10) 4 ∧ rdB l n k (adv n 4 (adv n 2 (adv n 8 (some p)))) = (l.drop (p + 14)).take k) ∨ (n < p + 14 + k ∧ adv n k (adv n 4 (adv n 2 (adv n 8 (some p)))) = none ∧ (p + 14 ≤ n → rdN l n 2 (adv n 8 (some p)) = getN l (p + 8) 2)) := by
  by_cases h1 : p + 8 ≤ n
  · rw [adv_some h1]
    by_cases h2 : p + 8 + 2 ≤ n
    · rw [adv_some h2]
      have e2 : rdN l n 2 (some (p + 8)) = getN l (p + 8) 2 := by unfold rdN; dsimp only; rw [if_pos h2]
      by_cases h3 : p + 8 + 2 + 4 ≤ n
      · rw [adv_some h3]
        by_cases h4 : p + 8 + 2 + 4 + k ≤ n
        · rw [adv_some h4]
          refine .inl ⟨by omega, by congr 1, ?_, e2, ?_, ?_⟩
          · unfold rdN; dsimp only; rw [if_pos h1]
          · unfold rdN; dsimp only; rw [if_pos h3]
          · unfold rdB; dsimp only; rw [if_pos h4]
        · rw [adv_none h4]
          exact .inr ⟨by omega, rfl, fun _ => e2⟩
      · rw [adv_none h3]
        exact .inr ⟨by omega, rfl, fun _ => e2⟩
    · rw [adv_none h2]
      exact .inr ⟨by omega, rfl, fun h => absurd h (by omega)⟩
  · rw [adv_none h1]
    exact .inr ⟨by omega, rfl, fun h => absurd h (by omega)⟩
def JP (l : List Nat) (n p v2 v4 v8 : Nat) (q4 : Option Nat) (x : List Nat) : Prop :=
  (p + 14 + v2 ≤ n ∧ q4 = some (p + 14 + v2) ∧ v8 = getN l p 8 ∧ v2 = getN l (p + 8) 2 ∧ v4 = getN l (p + 10) 4 ∧ x = (l.drop (p + 14)).take v2) ∨ (n < p + 14 + v2 ∧ q4 = none ∧ (p + 14 ≤ n → v2 = getN l (p + 8) 2))
theorem JP.yes {l : List Nat} {n p num v2 v4 v8 : Nat} {q4 : Option Nat} {x : List Nat} (hl : l.length = n) (hpos : JP l n p v2 v4 v8 q4 x) (hq : q4.isNone = false) (h8 : v8 = num) (h2 : v2 ≤ 4096) (h4 : v4 = crc (hdr num x.length ++ x)) : jfit l p num ∧ x.length = jlen l p ∧ x = jrec l p ∧ q4 = some (p + 14 + jlen l p) := by
  rcases hpos with ⟨a1, rfl, a3, a4, a5, a6⟩ | ⟨_, rfl, _⟩
  · have hj : jlen l p = v2 := a4.symm
    have hx : x.length = v2 := by rw [a6, List.length_take, List.length_drop]; omega
    have hr : x = jrec l p := by unfold jrec; rw [hj]; exact a6
    refine ⟨⟨by omega, by omega, by omega, by omega, ?_⟩, by omega, hr, by rw [hj]⟩
    rw [← a5, h4, hj, ← hr, hx]
  · cases hq
theorem JP.no {l : List Nat} {n p num v2 v4 v8 : Nat} {q4 : Option Nat} {x : List Nat} (hl : l.length = n) (hpos : JP l n p v2 v4 v8 q4 x) (h : q4.isNone = true ∨ v8 ≠ num ∨ 4096 < v2 ∨ v4 ≠ crc (hdr num x.length ++ x)) : ¬ jfit l p num := by
  rintro ⟨b1, b2, b3, b4, b5⟩
  rcases hpos with ⟨a1, rfl, a3, a4, a5, a6⟩ | ⟨c1, rfl, c3⟩
  · have hj : jlen l p = v2 := a4.symm
    have hx : x.length = v2 := by rw [a6, List.length_take, List.length_drop]; omega
    have hr : x = jrec l p := by unfold jrec; rw [hj]; exact a6
    rcases h with h | h | h | h
    · cases h
    · exact h (a3.trans b4)
    · omega
    · apply h
      rw [a5, b5, hj, ← hr, hx]
  · have hj : jlen l p = v2 := (c3 (by omega)).symm
    omega
theorem rdO_bad {A0 : Option Addr} {n : Nat} {q : Option Nat} {A : Option Addr} {m c : Nat} {bad : Bool} (h : RdO A0 n q A m c bad) : bad = q.isNone := by
  cases q with
  | none => exact h.1
  | some p => exact h.1
set_option maxRecDepth 100000 in
set_option maxHeartbeats 4000000 in
theorem jtake_c (gr : Nat) (A0 A : Option Addr) (p n m c : Nat) (l : List Nat) (bad : Bool) (num : Nat) (F : List Nat) (w0 : World)
    (hS : St F w0 [.blk gr 61 (rdV A m c bad), .vw A0 (l.map u8v)] w0) (hR : RdO A0 n (some p) A m c bad) (hl : l.length = n) (hb : Bytes l) (hN : num ≤ 18446744073709551615) (hn4 : n ≤ 1000000) :
    Calls Try.prog 17 #[.pointer (some ⟨gr, 0, none⟩), .int .u64 (num : Int)] w0 fun e w' => ∃ B nb A' m' c' bad' ok, e = .returned (.tuple #[.slice B nb nb, .bool ok]) ∧
      St F w0 [.blk gr 61 (rdV A' m' c' bad')] w' ∧ ((ok = true ∧ jfit l p num ∧ nb = jlen l p ∧ Sub A0 l B (jrec l p) ∧ RdO A0 n (some (p + 14 + jlen l p)) A' m' c' bad') ∨ (ok = false ∧ ¬ jfit l p num)) := by
  have hq0 := rdN_lt (n := n) (k := 2) hb (adv n 8 (some p))
  have hq1 := rdN_lt (n := n) (k := 8) hb (some p)
  have hq4 := rdN_lt (n := n) (k := 4) hb (adv n 2 (adv n 8 (some p)))
  have hpos := jr_pos l n p (rdN l n 2 (adv n 8 (some p)))
  have hblen := rdB_len (n := n) (k := rdN l n 2 (adv n 8 (some p))) hl (adv n 4 (adv n 2 (adv n 8 (some p))))
  have hbb := rdB_bytes (n := n) (k := rdN l n 2 (adv n 8 (some p))) hb (adv n 4 (adv n 2 (adv n 8 (some p))))
  refine ent (n := 45) Try.func17 rfl rfl ?_
  refine wp_seq_k ?_; intro K1 hK1
  refine wlit ?_
  refine wl_v (x_assign ev_c) ?_
  refine wl_v (x_assign ev_c) ?_
  refine wl_nil ?_
  refine then_n (hK1 _ _ ?_); clear hK1 K1
  refine wp_seq_k ?_; intro K2 hK2
  refine wlit ?_
  refine wl_v (x_move (tmP rfl rfl)) ?_
  refine wl_e rfl ?_; intro K hK
  refine ow_call Try.func34 rfl rfl (evs_cons (tmP rfl rfl) <| evs_cons (ev_cN 8) <| evs_nil) (numT_c gr A0 A _ 8 n m c l bad _ _ (hS.enter [0] [1] rfl rfl) hR hl hb (by omega)) ?_
  rintro e w ⟨A1, m1, c1, bad1, rfl, hS2, hR1⟩
  refine ⟨_, rfl, ?_⟩
  replace hS := hS.leave [0] [1] rfl rfl rfl hS2 rfl
  clear hS2
  try replace hS := St.nm (M' := [_, .vw _ _]) hS rfl
  refine hK _ _ ?_; clear hK K
  refine wl_v (x_move (tmP rfl rfl)) ?_
  refine wl_e rfl ?_; intro K hK
  refine ow_call Try.func35 rfl rfl (evs_cons (tmP rfl rfl) <| evs_nil) (wordT_c gr A0 A1 _ n m1 c1 l bad1 _ _ (hS.enter [0] [1] rfl rfl) hR1 hl hb) ?_
  rintro e w ⟨A2, m2, c2, bad2, rfl, hS2, hR2⟩
  refine ⟨_, rfl, ?_⟩
  replace hS := hS.leave [0] [1] rfl rfl rfl hS2 rfl
  clear hS2
  try replace hS := St.nm (M' := [_, .vw _ _]) hS rfl
  refine hK _ _ ?_; clear hK K
  first
   | refine wl_v (x_convN Try.underlying63 Try.underlying3 (tmI rfl rfl) (fit_i64 (by omega))) ?_
   | refine wl_v (x_conv Try.underlying63 Try.underlying3 (tmI rfl rfl)) ?_
  refine wl_v (x_move (tmP rfl rfl)) ?_
  refine wl_e rfl ?_; intro K hK
  refine ow_call Try.func36 rfl rfl (evs_cons (tmP rfl rfl) <| evs_nil) (longT_c gr A0 A2 _ n m2 c2 l bad2 _ _ (hS.enter [0] [1] rfl rfl) hR2 hl hb) ?_
  rintro e w ⟨A3, m3, c3, bad3, rfl, hS2, hR3⟩
  refine ⟨_, rfl, ?_⟩
  replace hS := hS.leave [0] [1] rfl rfl rfl hS2 rfl
  clear hS2
  try replace hS := St.nm (M' := [_, .vw _ _]) hS rfl
  refine hK _ _ ?_; clear hK K
  refine wl_v (x_assign (tmI rfl rfl)) ?_
  refine wl_v (x_assign (tmI rfl rfl)) ?_
  refine wl_v (x_assign (tmI rfl rfl)) ?_
  refine wl_nil ?_
  refine then_n (hK2 _ _ ?_); clear hK2 K2
  refine wp_seq_k ?_; intro K3 hK3
  refine wlit ?_
  refine wl_v (x_move (tmP rfl rfl)) ?_
  refine wl_v (x_move (tmI rfl rfl)) ?_
  refine wl_e rfl ?_; intro K hK
  refine ow_call Try.func37 rfl rfl (evs_cons (tmP rfl rfl) <| evs_cons (tmI rfl rfl) <| evs_nil) (bytesT_c gr A0 A3 _ (rdN l n 2 (adv n 8 (some p))) n m3 c3 l bad3 _ _ (hS.enter [0] [1] rfl rfl) hR3 hl) ?_
  rintro e w ⟨B, nb, A4, m4, c4, bad4, hnb, rfl, hsub, hS2, hR4⟩
  refine ⟨_, rfl, ?_⟩
  replace hS := hS.leave [0] [1] rfl rfl rfl hS2 rfl
  clear hS2 hR1 hR2 hR3
  replace hS := hS.subb 1 rfl hsub --+vb
  have hbad := rdO_bad hR4
  generalize hx : rdB l n (rdN l n 2 (adv n 8 (some p))) (adv n 4 (adv n 2 (adv n 8 (some p)))) = x at *
  generalize hv4 : rdN l n 4 (adv n 2 (adv n 8 (some p))) = v4 at *
  generalize hqq : adv n (rdN l n 2 (adv n 8 (some p))) (adv n 4 (adv n 2 (adv n 8 (some p)))) = q4 at *
  generalize hv2 : rdN l n 2 (adv n 8 (some p)) = v2 at *
  generalize hv8 : rdN l n 8 (some p) = v8 at *
  clear hx hv4 hqq hv2 hv8
  subst hnb
  try replace hS := St.nm (M' := [.vw _ _, _, .vw _ _]) hS rfl
  refine hK _ _ ?_; clear hK K
  refine wl_v (x_assign (tmS rfl rfl)) ?_
  refine wl_nil ?_
  refine then_n (hK3 _ _ ?_); clear hK3 K3
  refine wp_seq_k ?_; intro K4 hK4
  refine wlit ?_
  refine wl_v (x_move (tmP rfl rfl)) ?_
  refine wl_e rfl ?_; intro K hK
  refine ow_call Try.func38 rfl rfl (evs_cons (tmP rfl rfl) <| evs_nil) (bad_c gr A4 m4 c4 bad4 _ (viewB hS.ok 1 rfl)) ?_
  rintro e w ⟨rfl, hk⟩
  refine ⟨_, rfl, ?_⟩
  replace hS := hS.kept hk
  clear hk
  refine hK _ _ ?_; clear hK K
  refine wl_v (x_not (tmB rfl rfl)) ?_
  refine wl_v (x_move (tmB rfl rfl)) ?_
  refine gs_wl (tm (t := 24) rfl) (fun hg3_3 => ?_) (fun hg3_3 => ?_)
  · have hg3_3' := hg3_3; (try simp only [nrm] at hg3_3'); try (exfalso; first | with_reducible exact absurd hg3_3 Bool.false_ne_true | with_reducible exact absurd hg3_3.symm Bool.false_ne_true | omega | (simp at hg3_3; done))
    all_goals
     refine wl_gv (want_y rfl rfl rfl rfl (by rw [hg3_3]; rfl)) (x_move (tmI rfl rfl)) ?_
     refine wl_gv (want_y rfl rfl rfl rfl (by rw [hg3_3]; rfl)) (x_move (tmI rfl rfl)) ?_
     refine wl_gv (want_y rfl rfl rfl rfl (by rw [hg3_3]; rfl)) (x_eql (tmI rfl rfl) (tmI rfl rfl)) ?_
     refine wl_v (x_pickT (tmB rfl rfl) hg3_3 (tmB rfl rfl)) ?_
     refine wl_v (x_move (tmB rfl rfl)) ?_
     refine gs_wl (tm (t := 29) rfl) (fun hg3_8 => ?_) (fun hg3_8 => ?_)
     · have hg3_8' := hg3_8; (try simp only [nrm] at hg3_8'); try (exfalso; first | with_reducible exact absurd hg3_8 Bool.false_ne_true | with_reducible exact absurd hg3_8.symm Bool.false_ne_true | omega | (simp at hg3_8; done))
       all_goals
        refine wl_gv (want_y rfl rfl rfl rfl (by rw [hg3_8]; rfl)) (x_move (tmI rfl rfl)) ?_
        refine wl_gv (want_y rfl rfl rfl rfl (by rw [hg3_8]; rfl)) (x_leq (tmI rfl rfl) (ev_cN 4096)) ?_
        refine wl_v (x_pickT (tmB rfl rfl) hg3_8 (tmB rfl rfl)) ?_
        refine wl_v (x_move (tmB rfl rfl)) ?_
        refine gs_wl (tm (t := 33) rfl) (fun hg3_12 => ?_) (fun hg3_12 => ?_)
        · have hg3_12' := hg3_12; (try simp only [nrm] at hg3_12'); try (exfalso; first | with_reducible exact absurd hg3_12 Bool.false_ne_true | with_reducible exact absurd hg3_12.symm Bool.false_ne_true | omega | (simp at hg3_12; done))
          all_goals
           refine wl_gv (want_y rfl rfl rfl rfl (by rw [hg3_12]; rfl)) (x_move (tmI rfl rfl)) ?_
           refine wl_gv (want_y rfl rfl rfl rfl (by rw [hg3_12]; rfl)) (x_move (tmI rfl rfl)) ?_
           refine wl_gv (want_y rfl rfl rfl rfl (by rw [hg3_12]; rfl)) (x_move (tmS rfl rfl)) ?_
           refine wl_g (want_y rfl rfl rfl rfl (by rw [hg3_12]; rfl)) ?_; intro K hK
           refine ow_call Try.func21 rfl rfl (evs_cons (tmI rfl rfl) <| evs_cons (tmS rfl rfl) <| evs_nil) (front_c num B x.length x.length _ hN (by omega)) ?_
           rintro e w ⟨g1, rfl, hn, hk⟩
           refine ⟨_, rfl, ?_⟩
           replace hS := hS.add hk hn -- +rowa
           clear hn hk
           refine hK _ _ ?_; clear hK K
           refine wl_gv (want_y rfl rfl rfl rfl (by rw [hg3_12]; rfl)) (x_move (tmS rfl rfl)) ?_
           refine wl_g (want_y rfl rfl rfl rfl (by rw [hg3_12]; rfl)) ?_; intro K hK
           refine ow_build hS Try.underlying25 tz_22 (bc_take (tmS rfl rfl) <| bc_take (tmS rfl rfl) <| bc_nil) rfl rfl (by kernel_rfl) ?_
           clear hS; intro g3_18 w hg3_18 hS
           refine hK _ _ ?_; clear hK K
           refine wl_g (want_y rfl rfl rfl rfl (by rw [hg3_12]; rfl)) ?_; intro K hK
           refine ow_call Try.func23 rfl rfl (evs_cons (tmS rfl rfl) <| evs_nil) (check_c 2 _ 2 [(some ⟨g1, 0, none⟩, hdr num x.length, 10), (B, x, x.length)] _ (by have h := viewB hS.ok 0 rfl; simp only [List.map_cons, List.map_nil, rowV, hdr_len]; exact h) (seen_cons (viewR hS.ok 1 rfl) <| seen_cons (viewV hS.ok 2 rfl) seen_nil) rfl (by omega) (by intro r hr; rcases List.mem_cons.1 hr with rfl | hr; exact hdr_bytes _ _; rcases List.mem_cons.1 hr with rfl | hr; exact hbb; cases hr) (by intro r hr; rcases List.mem_cons.1 hr with rfl | hr; (show (hdr num x.length).length ≤ _; rw [hdr_len]; omega); rcases List.mem_cons.1 hr with rfl | hr; (show x.length ≤ _; omega); cases hr)) ?_
           rintro e w ⟨rfl, hk⟩
           refine ⟨_, rfl, ?_⟩
           rw [joined2]
           replace hS := hS.kept hk
           clear hk
           refine hK _ _ ?_; clear hK K
           refine wl_gv (want_y rfl rfl rfl rfl (by rw [hg3_12]; rfl)) (x_eql (tmI rfl rfl) (tmI rfl rfl)) ?_
           refine wl_v (x_pickT (tmB rfl rfl) hg3_12 (tmB rfl rfl)) ?_
           refine wl_v (x_assign (tmB rfl rfl)) ?_
           refine wl_nil ?_
           refine then_n (hK4 _ _ ?_); clear hK4 K4
           refine wp_seq_k ?_; intro K5 hK5
           refine wlit ?_
           refine wl_v (x_move (tmS rfl rfl)) ?_
           refine wl_v (x_move (tmB rfl rfl)) ?_
           refine wl_v (x_assign (tmS rfl rfl)) ?_
           refine wl_v (x_assign (tmB rfl rfl)) ?_
           refine wl_nil ?_
           refine then_n (hK5 _ _ ?_); clear hK5 K5
           refine wp_ret ?_
           refine ret2 rfl (.tmp rfl (show _ = Value.slice _ _ _ from rfl)) (.tmp rfl (show _ = Value.bool _ from rfl)) ?_
           first
             | (by_cases h4 : v4 = crc (hdr num x.length ++ x)
                · obtain ⟨e1, e2, e3, e4⟩ := JP.yes hl hpos (hbad.symm.trans hg3_3') hg3_8' hg3_12' h4
                  rw [e3] at hsub
                  rw [e4] at hR4
                  exact ⟨B, x.length, A4, m4, c4, bad4, true, by simp only [h4, decide_true], hS.pick [3] rfl rfl, .inl ⟨rfl, e1, e2, hsub, hR4⟩⟩
                · exact ⟨B, x.length, A4, m4, c4, bad4, false, by rw [decide_eq_false (by omega)], hS.pick [3] rfl rfl, .inr ⟨rfl, JP.no hl hpos (.inr (.inr (.inr h4)))⟩⟩)
             | exact ⟨B, x.length, A4, m4, c4, bad4, false, rfl, hS.pick [3] rfl rfl, .inr ⟨rfl, JP.no hl hpos (.inr (.inr (.inl hg3_12')))⟩⟩
             | exact ⟨B, x.length, A4, m4, c4, bad4, false, rfl, hS.pick [3] rfl rfl, .inr ⟨rfl, JP.no hl hpos (.inr (.inl hg3_8'))⟩⟩
             | exact ⟨B, x.length, A4, m4, c4, bad4, false, rfl, hS.pick [3] rfl rfl, .inr ⟨rfl, JP.no hl hpos (.inl (hbad.symm.trans hg3_3'))⟩⟩
        have hg3_12' := hg3_12; (try simp only [nrm] at hg3_12'); try (exfalso; first | with_reducible exact absurd hg3_12 Bool.false_ne_true | with_reducible exact absurd hg3_12.symm Bool.false_ne_true | omega | (simp at hg3_12; done))
        all_goals
         refine wl_s rfl (want_n rfl rfl rfl rfl (by rw [hg3_12]; rfl)) ?_
         refine wl_s rfl (want_n rfl rfl rfl rfl (by rw [hg3_12]; rfl)) ?_
         refine wl_s rfl (want_n rfl rfl rfl rfl (by rw [hg3_12]; rfl)) ?_
         refine wl_s rfl (want_n rfl rfl rfl rfl (by rw [hg3_12]; rfl)) ?_
         refine wl_s rfl (want_n rfl rfl rfl rfl (by rw [hg3_12]; rfl)) ?_
         refine wl_s rfl (want_n rfl rfl rfl rfl (by rw [hg3_12]; rfl)) ?_
         refine wl_s rfl (want_n rfl rfl rfl rfl (by rw [hg3_12]; rfl)) ?_
         refine wl_s rfl (want_n rfl rfl rfl rfl (by rw [hg3_12]; rfl)) ?_
         refine wl_v (x_pickF (tmB rfl rfl) hg3_12 ev_c) ?_
         refine wl_v (x_assign (tmB rfl rfl)) ?_
         refine wl_nil ?_
         refine then_n (hK4 _ _ ?_); clear hK4 K4
         refine wp_seq_k ?_; intro K6 hK6
         refine wlit ?_
         refine wl_v (x_move (tmS rfl rfl)) ?_
         refine wl_v (x_move (tmB rfl rfl)) ?_
         refine wl_v (x_assign (tmS rfl rfl)) ?_
         refine wl_v (x_assign (tmB rfl rfl)) ?_
         refine wl_nil ?_
         refine then_n (hK6 _ _ ?_); clear hK6 K6
         refine wp_ret ?_
         refine ret2 rfl (.tmp rfl (show _ = Value.slice _ _ _ from rfl)) (.tmp rfl (show _ = Value.bool _ from rfl)) ?_
         first
           | (by_cases h4 : v4 = crc (hdr num x.length ++ x)
              · obtain ⟨e1, e2, e3, e4⟩ := JP.yes hl hpos (hbad.symm.trans hg3_3') hg3_8' hg3_12' h4
                rw [e3] at hsub
                rw [e4] at hR4
                exact ⟨B, x.length, A4, m4, c4, bad4, true, by simp only [h4, decide_true], hS.pick [1] rfl rfl, .inl ⟨rfl, e1, e2, hsub, hR4⟩⟩
              · exact ⟨B, x.length, A4, m4, c4, bad4, false, by rw [decide_eq_false (by omega)], hS.pick [1] rfl rfl, .inr ⟨rfl, JP.no hl hpos (.inr (.inr (.inr h4)))⟩⟩)
           | exact ⟨B, x.length, A4, m4, c4, bad4, false, rfl, hS.pick [1] rfl rfl, .inr ⟨rfl, JP.no hl hpos (.inr (.inr (.inl hg3_12')))⟩⟩
           | exact ⟨B, x.length, A4, m4, c4, bad4, false, rfl, hS.pick [1] rfl rfl, .inr ⟨rfl, JP.no hl hpos (.inr (.inl hg3_8'))⟩⟩
           | exact ⟨B, x.length, A4, m4, c4, bad4, false, rfl, hS.pick [1] rfl rfl, .inr ⟨rfl, JP.no hl hpos (.inl (hbad.symm.trans hg3_3'))⟩⟩
     have hg3_8' := hg3_8; (try simp only [nrm] at hg3_8'); try (exfalso; first | with_reducible exact absurd hg3_8 Bool.false_ne_true | with_reducible exact absurd hg3_8.symm Bool.false_ne_true | omega | (simp at hg3_8; done))
     all_goals
      refine wl_s rfl (want_n rfl rfl rfl rfl (by rw [hg3_8]; rfl)) ?_
      refine wl_s rfl (want_n rfl rfl rfl rfl (by rw [hg3_8]; rfl)) ?_
      refine wl_v (x_pickF (tmB rfl rfl) hg3_8 ev_c) ?_
      refine wl_v (x_move (tmB rfl rfl)) ?_
      refine wl_s rfl (want_n rfl rfl rfl rfl rfl) ?_
      refine wl_s rfl (want_n rfl rfl rfl rfl rfl) ?_
      refine wl_s rfl (want_n rfl rfl rfl rfl rfl) ?_
      refine wl_s rfl (want_n rfl rfl rfl rfl rfl) ?_
      refine wl_s rfl (want_n rfl rfl rfl rfl rfl) ?_
      refine wl_s rfl (want_n rfl rfl rfl rfl rfl) ?_
      refine wl_s rfl (want_n rfl rfl rfl rfl rfl) ?_
      refine wl_s rfl (want_n rfl rfl rfl rfl rfl) ?_
      refine wl_v (x_pickF (tmB rfl rfl) rfl ev_c) ?_
      refine wl_v (x_assign (tmB rfl rfl)) ?_
      refine wl_nil ?_
      refine then_n (hK4 _ _ ?_); clear hK4 K4
      refine wp_seq_k ?_; intro K7 hK7
      refine wlit ?_
      refine wl_v (x_move (tmS rfl rfl)) ?_
      refine wl_v (x_move (tmB rfl rfl)) ?_
      refine wl_v (x_assign (tmS rfl rfl)) ?_
      refine wl_v (x_assign (tmB rfl rfl)) ?_
      refine wl_nil ?_
      refine then_n (hK7 _ _ ?_); clear hK7 K7
      refine wp_ret ?_
      refine ret2 rfl (.tmp rfl (show _ = Value.slice _ _ _ from rfl)) (.tmp rfl (show _ = Value.bool _ from rfl)) ?_
      first
        | (by_cases h4 : v4 = crc (hdr num x.length ++ x)
           · obtain ⟨e1, e2, e3, e4⟩ := JP.yes hl hpos (hbad.symm.trans hg3_3') hg3_8' hg3_12' h4
             rw [e3] at hsub
             rw [e4] at hR4
             exact ⟨B, x.length, A4, m4, c4, bad4, true, by simp only [h4, decide_true], hS.pick [1] rfl rfl, .inl ⟨rfl, e1, e2, hsub, hR4⟩⟩
           · exact ⟨B, x.length, A4, m4, c4, bad4, false, by rw [decide_eq_false (by omega)], hS.pick [1] rfl rfl, .inr ⟨rfl, JP.no hl hpos (.inr (.inr (.inr h4)))⟩⟩)
        | exact ⟨B, x.length, A4, m4, c4, bad4, false, rfl, hS.pick [1] rfl rfl, .inr ⟨rfl, JP.no hl hpos (.inr (.inr (.inl hg3_12')))⟩⟩
        | exact ⟨B, x.length, A4, m4, c4, bad4, false, rfl, hS.pick [1] rfl rfl, .inr ⟨rfl, JP.no hl hpos (.inr (.inl hg3_8'))⟩⟩
        | exact ⟨B, x.length, A4, m4, c4, bad4, false, rfl, hS.pick [1] rfl rfl, .inr ⟨rfl, JP.no hl hpos (.inl (hbad.symm.trans hg3_3'))⟩⟩
  have hg3_3' := hg3_3; (try simp only [nrm] at hg3_3'); try (exfalso; first | with_reducible exact absurd hg3_3 Bool.false_ne_true | with_reducible exact absurd hg3_3.symm Bool.false_ne_true | omega | (simp at hg3_3; done))
  all_goals
   refine wl_s rfl (want_n rfl rfl rfl rfl (by rw [hg3_3]; rfl)) ?_
   refine wl_s rfl (want_n rfl rfl rfl rfl (by rw [hg3_3]; rfl)) ?_
   refine wl_s rfl (want_n rfl rfl rfl rfl (by rw [hg3_3]; rfl)) ?_
   refine wl_v (x_pickF (tmB rfl rfl) hg3_3 ev_c) ?_
   refine wl_v (x_move (tmB rfl rfl)) ?_
   refine wl_s rfl (want_n rfl rfl rfl rfl rfl) ?_
   refine wl_s rfl (want_n rfl rfl rfl rfl rfl) ?_
   refine wl_v (x_pickF (tmB rfl rfl) rfl ev_c) ?_
   refine wl_v (x_move (tmB rfl rfl)) ?_
   refine wl_s rfl (want_n rfl rfl rfl rfl rfl) ?_
   refine wl_s rfl (want_n rfl rfl rfl rfl rfl) ?_
   refine wl_s rfl (want_n rfl rfl rfl rfl rfl) ?_
   refine wl_s rfl (want_n rfl rfl rfl rfl rfl) ?_
   refine wl_s rfl (want_n rfl rfl rfl rfl rfl) ?_
   refine wl_s rfl (want_n rfl rfl rfl rfl rfl) ?_
   refine wl_s rfl (want_n rfl rfl rfl rfl rfl) ?_
   refine wl_s rfl (want_n rfl rfl rfl rfl rfl) ?_
   refine wl_v (x_pickF (tmB rfl rfl) rfl ev_c) ?_
   refine wl_v (x_assign (tmB rfl rfl)) ?_
   refine wl_nil ?_
   refine then_n (hK4 _ _ ?_); clear hK4 K4
   refine wp_seq_k ?_; intro K8 hK8
   refine wlit ?_
   refine wl_v (x_move (tmS rfl rfl)) ?_
   refine wl_v (x_move (tmB rfl rfl)) ?_
   refine wl_v (x_assign (tmS rfl rfl)) ?_
   refine wl_v (x_assign (tmB rfl rfl)) ?_
   refine wl_nil ?_
   refine then_n (hK8 _ _ ?_); clear hK8 K8
   refine wp_ret ?_
   refine ret2 rfl (.tmp rfl (show _ = Value.slice _ _ _ from rfl)) (.tmp rfl (show _ = Value.bool _ from rfl)) ?_
   first
     | (by_cases h4 : v4 = crc (hdr num x.length ++ x)
        · obtain ⟨e1, e2, e3, e4⟩ := JP.yes hl hpos (hbad.symm.trans hg3_3') hg3_8' hg3_12' h4
          rw [e3] at hsub
          rw [e4] at hR4
          exact ⟨B, x.length, A4, m4, c4, bad4, true, by simp only [h4, decide_true], hS.pick [1] rfl rfl, .inl ⟨rfl, e1, e2, hsub, hR4⟩⟩
        · exact ⟨B, x.length, A4, m4, c4, bad4, false, by rw [decide_eq_false (by omega)], hS.pick [1] rfl rfl, .inr ⟨rfl, JP.no hl hpos (.inr (.inr (.inr h4)))⟩⟩)
     | exact ⟨B, x.length, A4, m4, c4, bad4, false, rfl, hS.pick [1] rfl rfl, .inr ⟨rfl, JP.no hl hpos (.inr (.inr (.inl hg3_12')))⟩⟩
     | exact ⟨B, x.length, A4, m4, c4, bad4, false, rfl, hS.pick [1] rfl rfl, .inr ⟨rfl, JP.no hl hpos (.inr (.inl hg3_8'))⟩⟩
     | exact ⟨B, x.length, A4, m4, c4, bad4, false, rfl, hS.pick [1] rfl rfl, .inr ⟨rfl, JP.no hl hpos (.inl (hbad.symm.trans hg3_3'))⟩⟩
end Go.Proofs.Ytcimbinkjepkcaa
