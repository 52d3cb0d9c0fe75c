
/- Proved: IcmpWrites returns true for every message and addresses, and changes no memory that was there. Conditions: none. -/
import Derived.Test.YtfagblcepibliaaIcmpU
import Derived.Test.YtfagblcepibliaaArgs
namespace Go.Proofs.Ytfagblcepibliaa
open Go.ChangeShapes Go.WideShapes Go.ChangeAt Go.RowKit
structure RMsg where
  type_ : Nat
  code : Nat
  sum : Nat
  word : Nat
  load : Sl Nat
def RMsg.V (s : RMsg) : List Value := [.int .u8 (s.type_ : Int), .int .u8 (s.code : Int), .int .u16 (s.sum : Int), .int .u32 (s.word : Int), .slice s.load.a s.load.l.length s.load.c]
theorem RMsg.len (s : RMsg) : s.V.length = 5 := rfl
def RMsg.ok (w : World) (s : RMsg) : Prop := s.type_ < 256 ∧ s.code < 256 ∧ s.sum < 65536 ∧ s.word < 4294967296 ∧ okB w s.load
instance : Inhabited RMsg := ⟨⟨0, 0, 0, 0, default⟩⟩
set_option maxRecDepth 100000 in
theorem RMsg.open_t {H : Type} {enc : TypeId × Value → H} {w : World} {fuel : Nat} {cs : List Value} {x : DataW H × List MemPlace} (hf : DataW.trod enc Try.prog w 0 (fun _ => true) true fuel 88 cs = some x) (hlt : ∀ p ∈ x.2, p.block < w.heap.size) : ∃ s : RMsg, cs = s.V ∧ s.ok w := by
  have hC : Try.prog.cellsOf 88 = 5 := by kernel_rfl
  have hl := (DataW.trod_struct Try.underlying88 hf).choose_spec.choose_spec.2.2.1
  rw [hC] at hl
  obtain ⟨y0, k0, t0, b0⟩ := field_t Try.underlying88 hf hlt 0 _ rfl
  have hC0 : Try.prog.cellsOf 5 = 1 := by kernel_rfl
  obtain ⟨s0, e0, o0⟩ := t_u8 Try.underlying5 t0 b0
  have d0 := split_drop cs 0 1 (hC0 ▸ e0)
  obtain ⟨y1, k1, t1, b1⟩ := field_t Try.underlying88 hf hlt 1 _ rfl
  have hC1 : Try.prog.cellsOf 5 = 1 := by kernel_rfl
  obtain ⟨s1, e1, o1⟩ := t_u8 Try.underlying5 t1 b1
  have d1 := split_drop cs 1 1 (hC1 ▸ e1)
  obtain ⟨y2, k2, t2, b2⟩ := field_t Try.underlying88 hf hlt 2 _ rfl
  have hC2 : Try.prog.cellsOf 24 = 1 := by kernel_rfl
  obtain ⟨s2, e2, o2⟩ := t_u16 Try.underlying24 t2 b2
  have d2 := split_drop cs 2 1 (hC2 ▸ e2)
  obtain ⟨y3, k3, t3, b3⟩ := field_t Try.underlying88 hf hlt 3 _ rfl
  have hC3 : Try.prog.cellsOf 50 = 1 := by kernel_rfl
  obtain ⟨s3, e3, o3⟩ := t_u32 Try.underlying50 t3 b3
  have d3 := split_drop cs 3 1 (hC3 ▸ e3)
  obtain ⟨y4, k4, t4, b4⟩ := field_t Try.underlying88 hf hlt 4 _ rfl
  have hC4 : Try.prog.cellsOf 22 = 1 := by kernel_rfl
  obtain ⟨s4, e4, o4⟩ := t_bytes Try.underlying22 Try.underlying5 (by kernel_rfl) t4 b4
  have d4 := split_drop cs 4 1 (hC4 ▸ e4)
  refine ⟨⟨s0, s1, s2, s3, s4⟩, ?_, ⟨o0, o1, o2, o3, o4⟩⟩
  have dn : cs.drop 5 = [] := List.drop_eq_nil_of_le (by omega)
  rw [← List.drop_zero (l := cs)]
  refine d0.trans ?_
  rw [show cs.drop (0 + 1) = _ from d1]
  rw [show cs.drop (1 + 1) = _ from d2]
  rw [show cs.drop (2 + 1) = _ from d3]
  rw [show cs.drop (3 + 1) = _ from d4]
  rw [show cs.drop (4 + 1) = [] from dn]
  rfl
set_option maxRecDepth 100000 in
theorem RMsg.open_a {H : Type} {enc : TypeId × Value → H} {w : World} {r : Reach} {b0 : Nat} {v : Value} {d : DataW H} {ps : List MemPlace} (hval : Value.okWide Try.prog w r b0 88 v) (hd : DataW.Trod enc Try.prog w 0 (fun _ => true) true 88 v d ps) (hlt : ∀ p ∈ ps, p.block < w.heap.size) : ∃ s : RMsg, v = .agg s.V.toArray ∧ s.ok w := by
  obtain ⟨cs, rfl, _⟩ := okWide_struct Try.underlying88 hval
  obtain ⟨fuel, hf⟩ := hd
  obtain ⟨s, e, h⟩ := RMsg.open_t hf hlt
  exact ⟨s, by rw [← e]; simp [Value.cells], h⟩
namespace IcmpWrites
set_option maxRecDepth 100000 in
set_option maxHeartbeats 8000000 in
theorem walkC (t c s d : Nat) (A : Option Addr) (n k : Nat) (l : List Nat) (a b : Ad) (w0 : World)
    (h1 : t < 256) (h2 : c < 256) (h3 : s < 65536) (h4 : d < 4294967296) (hla : adLim a) (hlb : adLim b) (hl : l.length = n) (hlb_ : Bytes l) (hv : View w0 w0.heap.size A (l.map u8v)) :
    Calls Try.prog 12 #[.agg (msgV t c s d A n k).toArray, .agg a.V.toArray, .agg b.V.toArray] w0 fun e w' => e = .returned (.bool true) ∧ Below w0.heap.size w0 w' := by
  have hS := (St.sv w0).vcons rfl hv
  by_cases hgood : n ≤ 3000 ∧ adRight a ∧ adRight b ∧ a.six = b.six
  case neg =>
    refine ent (n := 119) Try.func12 rfl rfl ?_
    refine wp_seq_k ?_; intro K1 hK1
    refine wlit ?_
    refine wl_e rfl ?_; intro K hK
    refine ow_box hS (tmA rfl rfl) rfl ?_
    clear hS; intro g0_0 w hg0_0 hS
    refine hK _ _ ?_; clear hK K
    refine wl_e rfl ?_; intro K hK
    refine ow_box hS (tmA rfl rfl) rfl ?_
    clear hS; intro g0_1 w hg0_1 hS
    refine hK _ _ ?_; clear hK K
    refine wl_e rfl ?_; intro K hK
    refine ow_box hS (tmA rfl rfl) rfl ?_
    clear hS; intro g0_2 w hg0_2 hS
    refine hK _ _ ?_; clear hK K
    refine wl_v (x_assign ev_c) ?_
    refine wl_nil ?_
    refine then_n (hK1 _ _ ?_); clear hK1 K1
    refine wp_seq_k ?_; intro K2 hK2
    refine wp_seq_k ?_; intro K3 hK3
    refine wlit ?_
    refine wl_v (x_fa 4 Try.underlying88 rfl rfl ts_22 (tmP rfl rfl)) ?_
    first
     | refine wl_v (x_load Try.underlying22 rfl (tmP rfl rfl) (cellB hS.ok 2 rfl rfl)) ?_
     | refine wl_v (x_load Try.underlying22 rfl (tmP rfl rfl) (cellB hS.ok 2 rfl (getm (by omega)))) ?_
    refine wl_v (x_len Try.underlying22 (tmS rfl rfl)) ?_
    refine wl_v (x_gtr (tmI rfl rfl) (ev_cN 3000)) ?_
    refine wl_v (x_move (tmB rfl rfl)) ?_
    refine gs_wl (tm (t := 18) rfl) (fun hg1_4 => ?_) (fun hg1_4 => ?_)
    · have hg1_4' := hg1_4; (try simp only [nrm] at hg1_4'); try (exfalso; first | with_reducible exact absurd hg1_4 Bool.false_ne_true | with_reducible exact absurd hg1_4.symm Bool.false_ne_true | omega | (simp at hg1_4; done))
      all_goals
       refine wl_s rfl (want_n rfl rfl rfl rfl (by rw [hg1_4]; rfl)) ?_
       refine wl_s rfl (want_n rfl rfl rfl rfl (by rw [hg1_4]; rfl)) ?_
       refine wl_s rfl (want_n rfl rfl rfl rfl (by rw [hg1_4]; rfl)) ?_
       refine wl_v (x_pickT (tmB rfl rfl) hg1_4 ev_c) ?_
       refine wl_v (x_move (tmB rfl rfl)) ?_
       refine wl_s rfl (want_n rfl rfl rfl rfl rfl) ?_
       refine wl_s rfl (want_n rfl rfl rfl rfl rfl) ?_
       refine wl_s rfl (want_n rfl rfl rfl rfl rfl) ?_
       refine wl_v (x_pickT (tmB rfl rfl) rfl ev_c) ?_
       refine wl_v (x_move (tmB rfl rfl)) ?_
       refine wl_s rfl (want_n rfl rfl rfl rfl rfl) ?_
       refine wl_s rfl (want_n rfl rfl rfl rfl rfl) ?_
       refine wl_s rfl (want_n rfl rfl rfl rfl rfl) ?_
       refine wl_s rfl (want_n rfl rfl rfl rfl rfl) ?_
       refine wl_s rfl (want_n rfl rfl rfl rfl rfl) ?_
       refine wl_v (x_pickT (tmB rfl rfl) rfl ev_c) ?_
       refine wl_nil ?_
       refine then_n (hK3 _ _ ?_); clear hK3 K3
       refine cnd_t (tmB rfl rfl) rfl ?_
       refine wp_seq_k ?_; intro K4 hK4
       refine wlit ?_
       refine wl_e rfl ?_; intro K hK
       refine ow_call Try.func60 rfl rfl (evs_nil) (law08_awake_c _) ?_
       rintro e w ⟨rfl, hk⟩
       refine ⟨_, rfl, ?_⟩
       replace hS := hS.kept hk
       clear hk
       refine hK _ _ ?_; clear hK K
       refine wl_v (x_assign (tmB rfl rfl)) ?_
       refine wl_nil ?_
       refine then_n (hK4 _ _ ?_); clear hK4 K4
       refine wp_ret ?_
       refine then_r ?_
       refine ret1 rfl (.tmp rfl (show _ = Value.bool _ from rfl)) ?_
       exact ⟨rfl, hS.kp.below⟩
    have hg1_4' := hg1_4; (try simp only [nrm] at hg1_4'); try (exfalso; first | with_reducible exact absurd hg1_4 Bool.false_ne_true | with_reducible exact absurd hg1_4.symm Bool.false_ne_true | omega | (simp at hg1_4; done))
    all_goals
     refine wl_gv (want_y rfl rfl rfl rfl (by rw [hg1_4]; rfl)) (x_loadA (cs := [_, _, _]) Try.underlying27 rfl ts_27 (tmP rfl rfl) (rangeB hS.ok 1 rfl rfl)) ?_
     refine wl_g (want_y rfl rfl rfl rfl (by rw [hg1_4]; rfl)) ?_; intro K hK
     refine ow_call Try.func65 rfl rfl (evs_cons (tmA rfl rfl) <| evs_nil) (rad_right_c a _) ?_
     rintro e w ⟨rfl, hk⟩
     refine ⟨_, rfl, ?_⟩
     replace hS := hS.kept hk
     clear hk
     refine hK _ _ ?_; clear hK K
     refine wl_gv (want_y rfl rfl rfl rfl (by rw [hg1_4]; rfl)) (x_not (tmB rfl rfl)) ?_
     refine wl_v (x_pickF (tmB rfl rfl) hg1_4 (tmB rfl rfl)) ?_
     refine wl_v (x_move (tmB rfl rfl)) ?_
     refine gs_wl (tm (t := 23) rfl) (fun hg1_9 => ?_) (fun hg1_9 => ?_)
     · have hg1_9' := hg1_9; (try simp only [nrm] at hg1_9'); try (exfalso; first | with_reducible exact absurd hg1_9 Bool.false_ne_true | with_reducible exact absurd hg1_9.symm Bool.false_ne_true | omega | (simp at hg1_9; done))
       all_goals
        refine wl_s rfl (want_n rfl rfl rfl rfl (by rw [hg1_9]; rfl)) ?_
        refine wl_s rfl (want_n rfl rfl rfl rfl (by rw [hg1_9]; rfl)) ?_
        refine wl_s rfl (want_n rfl rfl rfl rfl (by rw [hg1_9]; rfl)) ?_
        refine wl_v (x_pickT (tmB rfl rfl) hg1_9 ev_c) ?_
        refine wl_v (x_move (tmB rfl rfl)) ?_
        refine wl_s rfl (want_n rfl rfl rfl rfl rfl) ?_
        refine wl_s rfl (want_n rfl rfl rfl rfl rfl) ?_
        refine wl_s rfl (want_n rfl rfl rfl rfl rfl) ?_
        refine wl_s rfl (want_n rfl rfl rfl rfl rfl) ?_
        refine wl_s rfl (want_n rfl rfl rfl rfl rfl) ?_
        refine wl_v (x_pickT (tmB rfl rfl) rfl ev_c) ?_
        refine wl_nil ?_
        refine then_n (hK3 _ _ ?_); clear hK3 K3
        refine cnd_t (tmB rfl rfl) rfl ?_
        refine wp_seq_k ?_; intro K5 hK5
        refine wlit ?_
        refine wl_e rfl ?_; intro K hK
        refine ow_call Try.func60 rfl rfl (evs_nil) (law08_awake_c _) ?_
        rintro e w ⟨rfl, hk⟩
        refine ⟨_, rfl, ?_⟩
        replace hS := hS.kept hk
        clear hk
        refine hK _ _ ?_; clear hK K
        refine wl_v (x_assign (tmB rfl rfl)) ?_
        refine wl_nil ?_
        refine then_n (hK5 _ _ ?_); clear hK5 K5
        refine wp_ret ?_
        refine then_r ?_
        refine ret1 rfl (.tmp rfl (show _ = Value.bool _ from rfl)) ?_
        exact ⟨rfl, hS.kp.below⟩
     have hg1_9' := hg1_9; (try simp only [nrm] at hg1_9'); try (exfalso; first | with_reducible exact absurd hg1_9 Bool.false_ne_true | with_reducible exact absurd hg1_9.symm Bool.false_ne_true | omega | (simp at hg1_9; done))
     all_goals
      refine wl_gv (want_y rfl rfl rfl rfl (by rw [hg1_9]; rfl)) (x_loadA (cs := [_, _, _]) Try.underlying27 rfl ts_27 (tmP rfl rfl) (rangeB hS.ok 0 rfl rfl)) ?_
      refine wl_g (want_y rfl rfl rfl rfl (by rw [hg1_9]; rfl)) ?_; intro K hK
      refine ow_call Try.func65 rfl rfl (evs_cons (tmA rfl rfl) <| evs_nil) (rad_right_c b _) ?_
      rintro e w ⟨rfl, hk⟩
      refine ⟨_, rfl, ?_⟩
      replace hS := hS.kept hk
      clear hk
      refine hK _ _ ?_; clear hK K
      refine wl_gv (want_y rfl rfl rfl rfl (by rw [hg1_9]; rfl)) (x_not (tmB rfl rfl)) ?_
      refine wl_v (x_pickF (tmB rfl rfl) hg1_9 (tmB rfl rfl)) ?_
      refine wl_v (x_move (tmB rfl rfl)) ?_
      refine gs_wl (tm (t := 28) rfl) (fun hg1_14 => ?_) (fun hg1_14 => ?_)
      · have hg1_14' := hg1_14; (try simp only [nrm] at hg1_14'); try (exfalso; first | with_reducible exact absurd hg1_14 Bool.false_ne_true | with_reducible exact absurd hg1_14.symm Bool.false_ne_true | omega | (simp at hg1_14; done))
        all_goals
         refine wl_s rfl (want_n rfl rfl rfl rfl (by rw [hg1_14]; rfl)) ?_
         refine wl_s rfl (want_n rfl rfl rfl rfl (by rw [hg1_14]; rfl)) ?_
         refine wl_s rfl (want_n rfl rfl rfl rfl (by rw [hg1_14]; rfl)) ?_
         refine wl_s rfl (want_n rfl rfl rfl rfl (by rw [hg1_14]; rfl)) ?_
         refine wl_s rfl (want_n rfl rfl rfl rfl (by rw [hg1_14]; rfl)) ?_
         refine wl_v (x_pickT (tmB rfl rfl) hg1_14 ev_c) ?_
         refine wl_nil ?_
         refine then_n (hK3 _ _ ?_); clear hK3 K3
         refine cnd_t (tmB rfl rfl) rfl ?_
         refine wp_seq_k ?_; intro K6 hK6
         refine wlit ?_
         refine wl_e rfl ?_; intro K hK
         refine ow_call Try.func60 rfl rfl (evs_nil) (law08_awake_c _) ?_
         rintro e w ⟨rfl, hk⟩
         refine ⟨_, rfl, ?_⟩
         replace hS := hS.kept hk
         clear hk
         refine hK _ _ ?_; clear hK K
         refine wl_v (x_assign (tmB rfl rfl)) ?_
         refine wl_nil ?_
         refine then_n (hK6 _ _ ?_); clear hK6 K6
         refine wp_ret ?_
         refine then_r ?_
         refine ret1 rfl (.tmp rfl (show _ = Value.bool _ from rfl)) ?_
         exact ⟨rfl, hS.kp.below⟩
      have hg1_14' := hg1_14; (try simp only [nrm] at hg1_14'); try (exfalso; first | with_reducible exact absurd hg1_14 Bool.false_ne_true | with_reducible exact absurd hg1_14.symm Bool.false_ne_true | omega | (simp at hg1_14; done))
      all_goals
       refine wl_gv (want_y rfl rfl rfl rfl (by rw [hg1_14]; rfl)) (x_fa 0 Try.underlying27 rfl rfl ts_4 (tmP rfl rfl)) ?_
       first
        | refine wl_gv (want_y rfl rfl rfl rfl (by rw [hg1_14]; rfl)) (x_load Try.underlying4 rfl (tmP rfl rfl) (cellB hS.ok 1 rfl rfl)) ?_
        | refine wl_gv (want_y rfl rfl rfl rfl (by rw [hg1_14]; rfl)) (x_load Try.underlying4 rfl (tmP rfl rfl) (cellB hS.ok 1 rfl (getm (by omega)))) ?_
       refine wl_gv (want_y rfl rfl rfl rfl (by rw [hg1_14]; rfl)) (x_fa 0 Try.underlying27 rfl rfl ts_4 (tmP rfl rfl)) ?_
       first
        | refine wl_gv (want_y rfl rfl rfl rfl (by rw [hg1_14]; rfl)) (x_load Try.underlying4 rfl (tmP rfl rfl) (cellB hS.ok 0 rfl rfl)) ?_
        | refine wl_gv (want_y rfl rfl rfl rfl (by rw [hg1_14]; rfl)) (x_load Try.underlying4 rfl (tmP rfl rfl) (cellB hS.ok 0 rfl (getm (by omega)))) ?_
       refine wl_gv (want_y rfl rfl rfl rfl (by rw [hg1_14]; rfl)) (x_bneq Try.underlying4 (tmB rfl rfl) (tmB rfl rfl)) ?_
       refine wl_v (x_pickF (tmB rfl rfl) hg1_14 (tmB rfl rfl)) ?_
       refine wl_nil ?_
       refine then_n (hK3 _ _ ?_); clear hK3 K3
       refine cnds (tm rfl) (fun hc0 => ?_) (fun hc0 => ?_)
       · exfalso
         first
           | exact absurd hc0 (by decide)
           | exact hgood ⟨by omega, by simpa using hg1_9, by simpa using hg1_14, by simpa using hc0⟩
       try (exfalso; first | with_reducible exact absurd hc0 Bool.false_ne_true | with_reducible exact absurd hc0.symm Bool.false_ne_true | (simp only [nrm] at hc0; omega) | (simp at hc0; done))
       all_goals
        try simp only [nrm] at hc0
        refine wp_seq_k ?_; intro K7 hK7
        refine wlit ?_
        refine wl_e rfl ?_; intro K hK
        refine ow_call Try.func60 rfl rfl (evs_nil) (law08_awake_c _) ?_
        rintro e w ⟨rfl, hk⟩
        refine ⟨_, rfl, ?_⟩
        replace hS := hS.kept hk
        clear hk
        refine hK _ _ ?_; clear hK K
        refine wl_v (x_assign (tmB rfl rfl)) ?_
        refine wl_nil ?_
        refine then_n (hK7 _ _ ?_); clear hK7 K7
        refine wp_ret ?_
        refine then_r ?_
        refine ret1 rfl (.tmp rfl (show _ = Value.bool _ from rfl)) ?_
        exact ⟨rfl, hS.kp.below⟩
  obtain ⟨hn3, hra, hrb, h6⟩ := hgood
  have hBl := icmpB_len t c s d l
  have hBb := icmpB_bytes t c s d hlb_
  have hby : ∀ w, View w w.heap.size A (l.map u8v) → Calls Try.prog 67 #[.agg (msgV t c s d A n k).toArray] w fun e w' => ∃ A' m c', m = (icmpB t c s d l).length ∧ e = .returned (.slice A' m c') ∧ New w w' (.row (.slice A' m c') 5 1 m ((icmpB t c s d l).map u8v)) ∧ Kp [] w w' := fun w h => by
    have h := icmp_bytes_c t c s d A n k l w h hl (by omega) (by omega) (by omega) (by omega) (by omega)
    rw [hBl, hl]; exact h
  have hpar : ∀ w B c', View w w.heap.size B ((icmpB t c s d l).map u8v) → Calls Try.prog 61 #[.slice B (icmpB t c s d l).length c'] w fun e w' => ∃ A', e = .returned (.tuple #[.agg (msgV t c s d A' n n).toArray, .int .i64 0]) ∧ NewV w w' A' (l.map u8v) ∧ Kp [] w w' := fun w B c' h => by
    have h := icmp_parse_c (icmpB t c s d l).length B c' (icmpB t c s d l) w h rfl hBb (by omega) (by omega)
    have g1 := getN_at (l := icmpB t c s d l) (v := t) (s := 1) (k := 0) (P := []) (Q := be c 1 ++ be s 2 ++ be d 4 ++ l) (by simp only [icmpB, List.append_assoc]) rfl
    have g2 := getN_at (l := icmpB t c s d l) (v := c) (s := 1) (k := 1) (P := [] ++ be t 1) (Q := be s 2 ++ be d 4 ++ l) (by simp only [icmpB, List.append_assoc]) (by simp [be_length])
    have g3 := getN_at (l := icmpB t c s d l) (v := s) (s := 2) (k := 2) (P := [] ++ be t 1 ++ be c 1) (Q := be d 4 ++ l) (by simp only [icmpB, List.append_assoc]) (by simp [be_length])
    have g4 := getN_at (l := icmpB t c s d l) (v := d) (s := 4) (k := 4) (P := [] ++ be t 1 ++ be c 1 ++ be s 2) (Q := l) (by simp only [icmpB, List.append_assoc]) (by simp [be_length])
    have g5 := tail_at (l := icmpB t c s d l) (o := l) (k := 8) (P := [] ++ be t 1 ++ be c 1 ++ be s 2 ++ be d 4) rfl (by simp [be_length])
    rw [g1, g2, g3, g4, g5, Nat.mod_eq_of_lt (by omega : t < 256 ^ 1), Nat.mod_eq_of_lt (by omega : c < 256 ^ 1), Nat.mod_eq_of_lt (by omega : s < 256 ^ 2), Nat.mod_eq_of_lt (by omega : d < 256 ^ 4), show (icmpB t c s d l).length - 8 = n by omega] at h
    exact h
  obtain ⟨ck, hck⟩ : ∃ ck, 65535 - foldN (icS t c 0 d l a b) = ck := ⟨_, rfl⟩
  have hckb : ck ≤ 65535 := by omega
  have hsm : ∀ w, View w w.heap.size A (l.map u8v) → Calls Try.prog 72 #[.agg (msgV t c s d A n k).toArray, .agg a.V.toArray, .agg b.V.toArray] w fun e w' => ∃ A' k', e = .returned (.agg (msgV t c ck d A' n k').toArray) ∧ New w w' (.row (.slice A' n k') 5 1 n (l.map u8v)) ∧ Kp [] w w' := fun w h => by
    have h := icmp_summed_c t c s d A n k l a b w h hl hlb_ h6 hla hlb (by omega) (by omega) (by omega) (by omega)
    rw [hck] at h; exact h
  have hrs : ∀ w, View w w.heap.size A (l.map u8v) → Calls Try.prog 73 #[.agg (msgV t c s d A n k).toArray, .agg a.V.toArray, .agg b.V.toArray] w fun e w' => e = .returned (.agg (msgV t c ck d A n k).toArray) ∧ Kp [] w w' := fun w h => by
    have h := ricmp_summed_c t c s d A n k l a b w h hl hlb_ h6 hla hlb (by omega) (by omega) (by omega) (by omega)
    rw [hck] at h; exact h
  have hfin : foldN (icS t c ck d l a b) = 65535 := by
    rw [icS_sum t c ck d l a b (by omega), ← hck]; exact fold_comp _
  have hfb := foldN_bd (icS t c s d l a b)
  have hbo : ∀ j, j < 2 → [Value.bool false, Value.bool true][0 + j]? = some (.bool (decide (j = 1))) := fun j hj => by
    rcases (by omega : j = 0 ∨ j = 1) with rfl | rfl <;> rfl
  refine ent (n := 119) Try.func12 rfl rfl ?_
  refine wp_seq_k ?_; intro K1 hK1
  refine wlit ?_
  refine wl_e rfl ?_; intro K hK
  refine ow_box hS (tmA rfl rfl) rfl ?_
  clear hS; intro g0_0 w hg0_0 hS
  refine hK _ _ ?_; clear hK K
  refine wl_e rfl ?_; intro K hK
  refine ow_box hS (tmA rfl rfl) rfl ?_
  clear hS; intro g0_1 w hg0_1 hS
  refine hK _ _ ?_; clear hK K
  refine wl_e rfl ?_; intro K hK
  refine ow_box hS (tmA rfl rfl) rfl ?_
  clear hS; intro g0_2 w hg0_2 hS
  refine hK _ _ ?_; clear hK K
  refine wl_v (x_assign ev_c) ?_
  refine wl_nil ?_
  refine then_n (hK1 _ _ ?_); clear hK1 K1
  refine wp_seq_k ?_; intro K2 hK2
  refine wp_seq_k ?_; intro K3 hK3
  refine wlit ?_
  refine wl_v (x_fa 4 Try.underlying88 rfl rfl ts_22 (tmP rfl rfl)) ?_
  first
   | refine wl_v (x_load Try.underlying22 rfl (tmP rfl rfl) (cellB hS.ok 2 rfl rfl)) ?_
   | refine wl_v (x_load Try.underlying22 rfl (tmP rfl rfl) (cellB hS.ok 2 rfl (getm (by omega)))) ?_
  refine wl_v (x_len Try.underlying22 (tmS rfl rfl)) ?_
  refine wl_v (x_gtr (tmI rfl rfl) (ev_cN 3000)) ?_
  refine wl_v (x_move (tmB rfl rfl)) ?_
  refine gs_wl (tm (t := 18) rfl) (fun hg1_4 => ?_) (fun hg1_4 => ?_)
  · exfalso
    simp only [nrm] at hg1_4
    omega
  have hg1_4' := hg1_4; (try simp only [nrm] at hg1_4'); try (exfalso; first | with_reducible exact absurd hg1_4 Bool.false_ne_true | with_reducible exact absurd hg1_4.symm Bool.false_ne_true | omega | (simp at hg1_4; done))
  all_goals
   refine wl_gv (want_y rfl rfl rfl rfl (by rw [hg1_4]; rfl)) (x_loadA (cs := [_, _, _]) Try.underlying27 rfl ts_27 (tmP rfl rfl) (rangeB hS.ok 1 rfl rfl)) ?_
   refine wl_g (want_y rfl rfl rfl rfl (by rw [hg1_4]; rfl)) ?_; intro K hK
   refine ow_call Try.func65 rfl rfl (evs_cons (tmA rfl rfl) <| evs_nil) (rad_right_c a _) ?_
   rintro e w ⟨rfl, hk⟩
   refine ⟨_, rfl, ?_⟩
   replace hS := hS.kept hk
   clear hk
   refine hK _ _ ?_; clear hK K
   refine wl_gv (want_y rfl rfl rfl rfl (by rw [hg1_4]; rfl)) (x_not (tmB rfl rfl)) ?_
   refine wl_v (x_pickF (tmB rfl rfl) hg1_4 (tmB rfl rfl)) ?_
   refine wl_v (x_move (tmB rfl rfl)) ?_
   refine gs_wl (tm (t := 23) rfl) (fun hg1_9 => ?_) (fun hg1_9 => ?_)
   · exfalso
     simp at hg1_9
     exact hg1_9 hra
   have hg1_9' := hg1_9; (try simp only [nrm] at hg1_9'); try (exfalso; first | with_reducible exact absurd hg1_9 Bool.false_ne_true | with_reducible exact absurd hg1_9.symm Bool.false_ne_true | omega | (simp at hg1_9; done))
   all_goals
    refine wl_gv (want_y rfl rfl rfl rfl (by rw [hg1_9]; rfl)) (x_loadA (cs := [_, _, _]) Try.underlying27 rfl ts_27 (tmP rfl rfl) (rangeB hS.ok 0 rfl rfl)) ?_
    refine wl_g (want_y rfl rfl rfl rfl (by rw [hg1_9]; rfl)) ?_; intro K hK
    refine ow_call Try.func65 rfl rfl (evs_cons (tmA rfl rfl) <| evs_nil) (rad_right_c b _) ?_
    rintro e w ⟨rfl, hk⟩
    refine ⟨_, rfl, ?_⟩
    replace hS := hS.kept hk
    clear hk
    refine hK _ _ ?_; clear hK K
    refine wl_gv (want_y rfl rfl rfl rfl (by rw [hg1_9]; rfl)) (x_not (tmB rfl rfl)) ?_
    refine wl_v (x_pickF (tmB rfl rfl) hg1_9 (tmB rfl rfl)) ?_
    refine wl_v (x_move (tmB rfl rfl)) ?_
    refine gs_wl (tm (t := 28) rfl) (fun hg1_14 => ?_) (fun hg1_14 => ?_)
    · exfalso
      simp at hg1_14
      exact hg1_14 hrb
    have hg1_14' := hg1_14; (try simp only [nrm] at hg1_14'); try (exfalso; first | with_reducible exact absurd hg1_14 Bool.false_ne_true | with_reducible exact absurd hg1_14.symm Bool.false_ne_true | omega | (simp at hg1_14; done))
    all_goals
     refine wl_gv (want_y rfl rfl rfl rfl (by rw [hg1_14]; rfl)) (x_fa 0 Try.underlying27 rfl rfl ts_4 (tmP rfl rfl)) ?_
     first
      | refine wl_gv (want_y rfl rfl rfl rfl (by rw [hg1_14]; rfl)) (x_load Try.underlying4 rfl (tmP rfl rfl) (cellB hS.ok 1 rfl rfl)) ?_
      | refine wl_gv (want_y rfl rfl rfl rfl (by rw [hg1_14]; rfl)) (x_load Try.underlying4 rfl (tmP rfl rfl) (cellB hS.ok 1 rfl (getm (by omega)))) ?_
     refine wl_gv (want_y rfl rfl rfl rfl (by rw [hg1_14]; rfl)) (x_fa 0 Try.underlying27 rfl rfl ts_4 (tmP rfl rfl)) ?_
     first
      | refine wl_gv (want_y rfl rfl rfl rfl (by rw [hg1_14]; rfl)) (x_load Try.underlying4 rfl (tmP rfl rfl) (cellB hS.ok 0 rfl rfl)) ?_
      | refine wl_gv (want_y rfl rfl rfl rfl (by rw [hg1_14]; rfl)) (x_load Try.underlying4 rfl (tmP rfl rfl) (cellB hS.ok 0 rfl (getm (by omega)))) ?_
     refine wl_gv (want_y rfl rfl rfl rfl (by rw [hg1_14]; rfl)) (x_bneq Try.underlying4 (tmB rfl rfl) (tmB rfl rfl)) ?_
     refine wl_v (x_pickF (tmB rfl rfl) hg1_14 (tmB rfl rfl)) ?_
     refine wl_nil ?_
     refine then_n (hK3 _ _ ?_); clear hK3 K3
     refine cnd (tm rfl) (fun hc0 => ?_) (fun hc0 => ?_)
     · exfalso
       simp at hc0
       exact hc0 h6
     try (exfalso; first | with_reducible exact absurd hc0 Bool.false_ne_true | with_reducible exact absurd hc0.symm Bool.false_ne_true | (simp only [nrm] at hc0; omega) | (simp at hc0; done))
     all_goals
      try simp only [nrm] at hc0
      refine wp_skip ?_
      refine then_n (hK2 _ _ ?_); clear hK2 K2
      refine wp_seq_k ?_; intro K4 hK4
      refine wlit ?_
      refine wl_v (x_loadA (cs := [_, _, _, _, _]) Try.underlying88 rfl ts_88 (tmP rfl rfl) (rangeB hS.ok 2 rfl rfl)) ?_
      refine wl_e rfl ?_; intro K hK
      refine ow_call Try.func66 rfl rfl (evs_cons (tmA rfl rfl) <| evs_nil) (to08_c t c s d A n k _) ?_
      rintro e w ⟨rfl, hk⟩
      refine ⟨_, rfl, ?_⟩
      replace hS := hS.kept hk
      clear hk
      refine hK _ _ ?_; clear hK K
      refine wl_e rfl ?_; intro K hK
      refine ow_alloc hS tz_85 rfl ?_
      clear hS; intro g3_2 w hg3_2 hS
      refine hK _ _ ?_; clear hK K
      refine wl_e rfl ?_; intro K hK
      refine ow_storeA hS 0 rfl ts_85 (tmP rfl rfl) (tmA rfl rfl) rfl rfl rfl ?_
      clear hS; intro w hS
      try replace hS := St.nm (M' := [.blk _ _ [_, _, _, _, _], .blk _ _ [_, _, _], .blk _ _ [_, _, _], .blk _ _ [_, _, _, _, _], .vw _ _]) hS rfl
      refine hK _ _ ?_; clear hK K
      refine wl_nil ?_
      refine then_n (hK4 _ _ ?_); clear hK4 K4
      refine wp_seq_k ?_; intro K5 hK5
      refine wlit ?_
      refine wl_v (x_loadA (cs := [_, _, _, _, _]) Try.underlying85 rfl ts_85 (tmP rfl rfl) (rangeB hS.ok 0 rfl rfl)) ?_
      refine wl_e rfl ?_; intro K hK
      refine ow_call Try.func67 rfl rfl (evs_cons (tmA rfl rfl) <| evs_nil) (hby _ (viewV hS.ok 4 rfl)) ?_
      rintro e w ⟨A1, m1, c1, hm1, rfl, hn, hk⟩
      refine ⟨_, rfl, ?_⟩
      subst hm1
      replace hS := hS.add hk hn -- +rowa
      clear hn hk
      refine hK _ _ ?_; clear hK K
      refine wl_e rfl ?_; intro K hK
      refine ow_call Try.func61 rfl rfl (evs_cons (tmS rfl rfl) <| evs_nil) (hpar _ _ _ (viewR hS.ok 0 rfl)) ?_
      rintro e w ⟨A2, rfl, hn, hk⟩
      refine ⟨_, rfl, ?_⟩
      replace hS := hS.addn hk hn -- +vp
      clear hn hk
      refine hK _ _ ?_; clear hK K
      refine wl_v (x_move (tmT rfl rfl)) ?_
      refine wl_v (x_ext (tmT rfl rfl) rfl) ?_
      refine wl_v (x_ext (tmT rfl rfl) rfl) ?_
      refine wl_e rfl ?_; intro K hK
      refine ow_alloc hS tz_85 rfl ?_
      clear hS; intro g4_6 w hg4_6 hS
      refine hK _ _ ?_; clear hK K
      refine wl_e rfl ?_; intro K hK
      refine ow_storeA hS 0 rfl ts_85 (tmP rfl rfl) (tmA rfl rfl) rfl rfl rfl ?_
      clear hS; intro w hS
      try replace hS := St.nm (M' := [.blk _ _ [_, _, _, _, _], .vw _ _, .row _ _ _ _ _, .blk _ _ [_, _, _, _, _], .blk _ _ [_, _, _], .blk _ _ [_, _, _], .blk _ _ [_, _, _, _, _], .vw _ _]) hS rfl
      refine hK _ _ ?_; clear hK K
      refine wl_v (x_assign (tmI rfl rfl)) ?_
      refine wl_nil ?_
      refine then_n (hK5 _ _ ?_); clear hK5 K5
      refine wp_seq_k ?_; intro K6 hK6
      refine wp_seq_k ?_; intro K7 hK7
      refine rg_startk 0 hS mixed_ ?_
      clear hS; intro w hS
      refine rg_take 0 rfl rfl (by kernel_rfl) (by kernel_rfl) (by kernel_rfl) (want_0) (fun w hok => x_loadA (cs := [_, _, _, _, _]) Try.underlying85 rfl ts_85 (tmP rfl rfl) (rangeB hok 3 rfl rfl)) ?_
      refine rg_take 3 rfl rfl (by kernel_rfl) (by kernel_rfl) (by kernel_rfl) (want_0) (fun w hok => x_loadA (cs := [_, _, _, _, _]) Try.underlying88 rfl ts_88 (tmP rfl rfl) (rangeB hok 6 rfl rfl)) ?_
      refine rg_step 1 rfl (by kernel_rfl) (want_0) (oks_drop hS 0 rfl) ?_; intro K hK
      refine ow_call Try.func67 rfl rfl (evs_cons (tmA rfl rfl) <| evs_nil) (hby _ (viewV hS.ok 7 rfl)) ?_
      rintro e w ⟨A1, m1, c1, hm1, rfl, hn, hk⟩
      refine ⟨_, rfl, ?_⟩
      subst hm1
      replace hS := hS.add hk hn -- +rowa
      clear hn hk
      refine hK _ _ ?_; clear hK K
      refine rg_step2 2 4 rfl rfl (by kernel_rfl) (want_0) (want_0) (oks_drop hS 1 rfl) ?_ ?_
      · intro K hK
        first
         | refine ow_v (x_bstr Try.underlying22 Try.underlying5 Try.underlying9 (tmS rfl rfl) (viewR hS.ok 0 rfl) (by first | assumption | exact Bytes.nil | (repeat' (first | assumption | exact Bytes.nil | exact be_bytes _ _ | apply Bytes.append | apply Bytes.take | apply Bytes.drop | apply Bytes.replicate))) (by first | rfl | assumption | (simp; done) | (simp; omega) | omega)) ?_
         | refine ow_v (x_bstr Try.underlying22 Try.underlying5 Try.underlying9 (tmS rfl rfl) (viewV hS.ok 2 rfl) (by first | assumption | exact Bytes.nil | (repeat' (first | assumption | exact Bytes.nil | exact be_bytes _ _ | apply Bytes.append | apply Bytes.take | apply Bytes.drop | apply Bytes.replicate))) (by first | rfl | assumption | (simp; done) | (simp; omega) | omega)) ?_
         | refine ow_v (x_bstr Try.underlying22 Try.underlying5 Try.underlying9 (tmS rfl rfl) (viewR hS.ok 3 rfl) (by first | assumption | exact Bytes.nil | (repeat' (first | assumption | exact Bytes.nil | exact be_bytes _ _ | apply Bytes.append | apply Bytes.take | apply Bytes.drop | apply Bytes.replicate))) (by first | rfl | assumption | (simp; done) | (simp; omega) | omega)) ?_
         | refine ow_v (x_bstr Try.underlying22 Try.underlying5 Try.underlying9 (tmS rfl rfl) (viewV hS.ok 8 rfl) (by first | assumption | exact Bytes.nil | (repeat' (first | assumption | exact Bytes.nil | exact be_bytes _ _ | apply Bytes.append | apply Bytes.take | apply Bytes.drop | apply Bytes.replicate))) (by first | rfl | assumption | (simp; done) | (simp; omega) | omega)) ?_
         | refine ow_v (x_bstr (l := []) Try.underlying22 Try.underlying5 Try.underlying9 (tmS rfl rfl) View.nil_ (by first | assumption | exact Bytes.nil | (repeat' (first | assumption | exact Bytes.nil | exact be_bytes _ _ | apply Bytes.append | apply Bytes.take | apply Bytes.drop | apply Bytes.replicate))) (by first | rfl | assumption | (simp; done) | (simp; omega) | omega)) ?_
        refine hK _ _ ?_; clear hK K
        refine rg_step 4 rfl (by kernel_rfl) (want_0) (oks_drop hS 1 rfl) ?_; intro K hK
        refine ow_call Try.func68 rfl rfl (evs_cons (tmA rfl rfl) <| evs_nil) (ricmp_bytes_c t c s d A n k l _ (viewV hS.ok 8 rfl) hl (by omega) (by omega) (by omega) (by omega) (by omega)) ?_
        rintro e w ⟨A4, m4, c4, hm4, rfl, hn, hk⟩
        refine ⟨_, rfl, ?_⟩
        subst hm4
        replace hS := hS.add hk hn -- +rowc
        clear hn hk
        refine hK _ _ ?_; clear hK K
        refine rg_step 5 rfl (by kernel_rfl) (want_0) (oks_drop hS 2 rfl) ?_; intro K hK
        first
         | refine ow_v (x_bstr Try.underlying22 Try.underlying5 Try.underlying9 (tmS rfl rfl) (viewR hS.ok 0 rfl) (by first | assumption | exact Bytes.nil | (repeat' (first | assumption | exact Bytes.nil | exact be_bytes _ _ | apply Bytes.append | apply Bytes.take | apply Bytes.drop | apply Bytes.replicate))) (by first | rfl | assumption | (simp; done) | (simp; omega) | omega)) ?_
         | refine ow_v (x_bstr Try.underlying22 Try.underlying5 Try.underlying9 (tmS rfl rfl) (viewR hS.ok 1 rfl) (by first | assumption | exact Bytes.nil | (repeat' (first | assumption | exact Bytes.nil | exact be_bytes _ _ | apply Bytes.append | apply Bytes.take | apply Bytes.drop | apply Bytes.replicate))) (by first | rfl | assumption | (simp; done) | (simp; omega) | omega)) ?_
         | refine ow_v (x_bstr Try.underlying22 Try.underlying5 Try.underlying9 (tmS rfl rfl) (viewV hS.ok 3 rfl) (by first | assumption | exact Bytes.nil | (repeat' (first | assumption | exact Bytes.nil | exact be_bytes _ _ | apply Bytes.append | apply Bytes.take | apply Bytes.drop | apply Bytes.replicate))) (by first | rfl | assumption | (simp; done) | (simp; omega) | omega)) ?_
         | refine ow_v (x_bstr Try.underlying22 Try.underlying5 Try.underlying9 (tmS rfl rfl) (viewR hS.ok 4 rfl) (by first | assumption | exact Bytes.nil | (repeat' (first | assumption | exact Bytes.nil | exact be_bytes _ _ | apply Bytes.append | apply Bytes.take | apply Bytes.drop | apply Bytes.replicate))) (by first | rfl | assumption | (simp; done) | (simp; omega) | omega)) ?_
         | refine ow_v (x_bstr Try.underlying22 Try.underlying5 Try.underlying9 (tmS rfl rfl) (viewV hS.ok 9 rfl) (by first | assumption | exact Bytes.nil | (repeat' (first | assumption | exact Bytes.nil | exact be_bytes _ _ | apply Bytes.append | apply Bytes.take | apply Bytes.drop | apply Bytes.replicate))) (by first | rfl | assumption | (simp; done) | (simp; omega) | omega)) ?_
         | refine ow_v (x_bstr (l := []) Try.underlying22 Try.underlying5 Try.underlying9 (tmS rfl rfl) View.nil_ (by first | assumption | exact Bytes.nil | (repeat' (first | assumption | exact Bytes.nil | exact be_bytes _ _ | apply Bytes.append | apply Bytes.take | apply Bytes.drop | apply Bytes.replicate))) (by first | rfl | assumption | (simp; done) | (simp; omega) | omega)) ?_
        refine hK _ _ ?_; clear hK K
        refine rg_take 6 rfl rfl (by kernel_rfl) (by kernel_rfl) (by kernel_rfl) (want_0) (fun w hok => x_Gneq (tmG rfl rfl) (tmG rfl rfl) (by first | assumption | exact Bytes.nil | (repeat' (first | assumption | exact Bytes.nil | exact be_bytes _ _ | apply Bytes.append | apply Bytes.take | apply Bytes.drop | apply Bytes.replicate))) (by first | assumption | exact Bytes.nil | (repeat' (first | assumption | exact Bytes.nil | exact be_bytes _ _ | apply Bytes.append | apply Bytes.take | apply Bytes.drop | apply Bytes.replicate)))) ?_
        refine rg_take 7 rfl rfl (by kernel_rfl) (by kernel_rfl) (by kernel_rfl) (want_0) (fun w hok => x_move (tmB rfl rfl)) ?_
        refine gs_rg (tm (t := 51) rfl) (fun hg5_7 => ?_) (fun hg5_7 => ?_)
        · exfalso
          simp at hg5_7
        have hg5_7' := hg5_7; (try simp only [nrm] at hg5_7'); try (exfalso; first | with_reducible exact absurd hg5_7 Bool.false_ne_true | with_reducible exact absurd hg5_7.symm Bool.false_ne_true | omega | (simp at hg5_7; done))
        all_goals
         refine rg_take 8 rfl rfl (by kernel_rfl) (by kernel_rfl) (by kernel_rfl) (want_y rfl rfl rfl rfl (by rw [hg5_7]; rfl)) (fun w hok => x_loadA (cs := [_, _, _, _, _]) Try.underlying85 rfl ts_85 (tmP rfl rfl) (rangeB hok 0 rfl rfl)) ?_
         refine rg_take 10 rfl rfl (by kernel_rfl) (by kernel_rfl) (by kernel_rfl) (want_y rfl rfl rfl rfl (by rw [hg5_7]; rfl)) (fun w hok => x_loadA (cs := [_, _, _, _, _]) Try.underlying88 rfl ts_88 (tmP rfl rfl) (rangeB hok 6 rfl rfl)) ?_
         refine rg_step 9 rfl (by kernel_rfl) (want_y rfl rfl rfl rfl (by rw [hg5_7]; rfl)) (oks_drop hS 2 rfl) ?_; intro K hK
         refine ow_call Try.func64 rfl rfl (evs_cons (tmA rfl rfl) <| evs_nil) (of08_c t c s d A2 n n _) ?_
         rintro e w ⟨rfl, hk⟩
         refine ⟨_, rfl, ?_⟩
         replace hS := hS.kept hk
         clear hk
         refine hK _ _ ?_; clear hK K
         refine rg_step 11 rfl (by kernel_rfl) (want_y rfl rfl rfl rfl (by rw [hg5_7]; rfl)) (oks_drop hS 2 rfl) ?_; intro K hK
         refine ow_call Try.func63 rfl rfl (evs_cons (tmA rfl rfl) <| evs_cons (tmA rfl rfl) <| evs_nil) (same08_c t c s d t c s d A2 n n A n k l l _ (viewV hS.ok 3 rfl) hl hlb_ (viewV hS.ok 9 rfl) hl hlb_) ?_
         rintro e w ⟨rfl, hk⟩
         refine ⟨_, rfl, ?_⟩
         replace hS := hS.kept hk
         clear hk
         refine hK _ _ ?_; clear hK K
         refine rg_take 12 rfl rfl (by kernel_rfl) (by kernel_rfl) (by kernel_rfl) (want_y rfl rfl rfl rfl (by rw [hg5_7]; rfl)) (fun w hok => x_not (tmB rfl rfl)) ?_
         refine rg_take 13 rfl rfl (by kernel_rfl) (by kernel_rfl) (by kernel_rfl) (want_0) (fun w hok => x_pickF (tmB rfl rfl) hg5_7 (tmB rfl rfl)) ?_
         refine rg_take 14 rfl rfl (by kernel_rfl) (by kernel_rfl) (by kernel_rfl) (want_0) (fun w hok => x_move (tmB rfl rfl)) ?_
         refine gs_rg (tm (t := 58) rfl) (fun hg5_14 => ?_) (fun hg5_14 => ?_)
         · exfalso
           simp at hg5_14
         have hg5_14' := hg5_14; (try simp only [nrm] at hg5_14'); try (exfalso; first | with_reducible exact absurd hg5_14 Bool.false_ne_true | with_reducible exact absurd hg5_14.symm Bool.false_ne_true | omega | (simp at hg5_14; done))
         all_goals
          refine rg_take 15 rfl rfl (by kernel_rfl) (by kernel_rfl) (by kernel_rfl) (want_y rfl rfl rfl rfl (by rw [hg5_14]; rfl)) (fun w hok => x_move (tmI rfl rfl)) ?_
          refine rg_take 16 rfl rfl (by kernel_rfl) (by kernel_rfl) (by kernel_rfl) (want_y rfl rfl rfl rfl (by rw [hg5_14]; rfl)) (fun w hok => x_neq (tmI rfl rfl) (ev_cN 0)) ?_
          refine rg_take 17 rfl rfl (by kernel_rfl) (by kernel_rfl) (by kernel_rfl) (want_0) (fun w hok => x_pickF (tmB rfl rfl) hg5_14 (tmB rfl rfl)) ?_
          refine rg_done (oks_drop hS 2 rfl) (by kernel_rfl) ?_
          replace hS := hS.pick [5, 6, 7, 8, 9] rfl rfl
          try replace hS := St.nm (M' := [.blk _ _ [_, _, _, _, _], .blk _ _ [_, _, _], .blk _ _ [_, _, _], .blk _ _ [_, _, _, _, _], .vw _ _]) hS rfl
          refine then_n (hK7 _ _ ?_); clear hK7 K7
          refine cnd (tm rfl) (fun hc1 => ?_) (fun hc1 => ?_)
          · exfalso
            simp at hc1
          try (exfalso; first | with_reducible exact absurd hc1 Bool.false_ne_true | with_reducible exact absurd hc1.symm Bool.false_ne_true | (simp only [nrm] at hc1; omega) | (simp at hc1; done))
          all_goals
           try simp only [nrm] at hc1
           refine wp_skip ?_
           refine then_n (hK6 _ _ ?_); clear hK6 K6
           refine wp_seq_k ?_; intro K8 hK8
           refine wp_seq_k ?_; intro K9 hK9
           refine wlit ?_
           refine wl_e rfl ?_; intro K hK
           refine ow_build hS Try.underlying96 tz_4 (bc_take ev_c <| bc_take ev_c <| bc_nil) rfl rfl (by kernel_rfl) ?_
           clear hS; intro g7_0 w hg7_0 hS
           refine hK _ _ ?_; clear hK K
           refine wl_v (x_len Try.underlying96 (tmS rfl rfl)) ?_
           refine wl_v (x_move (ev_cN 0)) ?_
           refine wl_nil ?_
           refine then_n (hK9 _ _ ?_); clear hK9 K9
           refine wp_block ?_
           refine lp [6, 11, 12, 64, 65, 66, 67, 68, 69, 70, 71, 72, 73, 74, 75, 76, 77, 78, 79, 80, 81, 82, 83, 84, 85, 86] (fun mz g w => ∃ (j : Nat), mz = 2 - j ∧ g 64 = .int .i64 (j : Int) ∧ St [] w0 [.blk g7_0 4 [.bool false, .bool true], .blk g3_2 85 (msgV t c s d A n k), .blk g0_2 27 b.V, .blk g0_1 27 a.V, .blk g0_0 88 (msgV t c s d A n k), .vw A (l.map u8v)] w ∧ (j ≤ 2)) ?_ ?_
           · exact ⟨_, 0, rfl, (by first | rfl | go_num | exact congrArg (Value.int _) (by first | omega | (simp; done) | (simp; omega))), hS, (by omega)⟩
           · clear hS; intro mz g w hI
             obtain ⟨j, rfl, hs64, hS, hj⟩ := hI
             refine fr_know (d := 64) hs64 ?_; clear hs64
             refine wp_seq_k ?_; intro K10 hK10
             refine wlit ?_
             refine wl_v (x_lss (tmI rfl rfl) (tmI rfl rfl)) ?_
             refine wl_nil ?_
             refine then_n (hK10 _ _ ?_); clear hK10 K10
             refine wp_seq_k ?_; intro K11 hK11
             refine cnd (tm rfl) (fun hc2 => ?_) (fun hc2 => ?_)
             · try (exfalso; first | with_reducible exact absurd hc2 Bool.false_ne_true | with_reducible exact absurd hc2.symm Bool.false_ne_true | (simp only [nrm] at hc2; omega) | (simp at hc2; done))
               all_goals
                try simp only [nrm] at hc2
                refine wp_skip ?_
                refine then_n (hK11 _ _ ?_); clear hK11 K11
                refine wp_seq_k ?_; intro K12 hK12
                refine wp_block ?_
                refine wp_seq_k ?_; intro K13 hK13
                refine wlit ?_
                refine wl_v (x_ixs1 Try.underlying96 ts_4 (tmS rfl rfl) (tmI rfl rfl) (by omega)) ?_
                refine wl_v (x_load Try.underlying4 rfl (tmP rfl rfl) (cellB hS.ok 0 rfl (hbo j (by omega)))) ?_
                refine wl_v (x_assign (tmB rfl rfl)) ?_
                refine wl_nil ?_
                refine then_n (hK13 _ _ ?_); clear hK13 K13
                refine wp_seq_k ?_; intro K14 hK14
                refine wlit ?_
                refine wl_v (x_assign (ev_cN 8)) ?_
                refine wl_nil ?_
                refine then_n (hK14 _ _ ?_); clear hK14 K14
                refine wp_seq_k ?_; intro K15 hK15
                refine wp_seq_k ?_; intro K16 hK16
                refine wlit ?_
                refine wl_v (x_move (tmB rfl rfl)) ?_
                refine wl_nil ?_
                refine then_n (hK16 _ _ ?_); clear hK16 K16
                refine cnd (tm rfl) (fun hc3 => ?_) (fun hc3 => ?_)
                · try (exfalso; first | with_reducible exact absurd hc3 Bool.false_ne_true | with_reducible exact absurd hc3.symm Bool.false_ne_true | (simp only [nrm] at hc3; omega) | (simp at hc3; done))
                  all_goals
                   try simp only [nrm] at hc3
                   refine wlit ?_
                   refine wl_v (x_assign (ev_cN 128)) ?_
                   refine wl_nil ?_
                   refine then_n (hK15 _ _ ?_); clear hK15 K15
                   refine wp_seq_k ?_; intro K17 hK17
                   refine rg_startk 0 hS mixed_ ?_
                   clear hS; intro w hS
                   refine rg_take 0 rfl rfl (by kernel_rfl) (by kernel_rfl) (by kernel_rfl) (want_0) (fun w hok => x_loadA (cs := [_, _, _, _, _]) Try.underlying85 rfl ts_85 (tmP rfl rfl) (rangeB hok 1 rfl rfl)) ?_
                   refine rg_take 1 rfl rfl (by kernel_rfl) (by kernel_rfl) (by kernel_rfl) (want_0) (fun w hok => x_move (tmB rfl rfl)) ?_
                   refine rg_take 3 rfl rfl (by kernel_rfl) (by kernel_rfl) (by kernel_rfl) (want_0) (fun w hok => x_loadA (cs := [_, _, _, _, _]) Try.underlying88 rfl ts_88 (tmP rfl rfl) (rangeB hok 4 rfl rfl)) ?_
                   refine rg_take 4 rfl rfl (by kernel_rfl) (by kernel_rfl) (by kernel_rfl) (want_0) (fun w hok => x_move (tmB rfl rfl)) ?_
                   refine rg_step 2 rfl (by kernel_rfl) (want_0) (oks_drop hS 0 rfl) ?_; intro K hK
                   refine ow_call Try.func69 rfl rfl (evs_cons (tmA rfl rfl) <| evs_cons (tmB rfl rfl) <| evs_nil) (icmp_error_c t c s d A n k _ _) ?_
                   rintro e w ⟨rfl, hk⟩
                   refine ⟨_, rfl, ?_⟩
                   replace hS := hS.kept hk
                   clear hk
                   refine hK _ _ ?_; clear hK K
                   refine rg_step 5 rfl (by kernel_rfl) (want_0) (oks_drop hS 0 rfl) ?_; intro K hK
                   refine ow_call Try.func70 rfl rfl (evs_cons (tmA rfl rfl) <| evs_cons (tmB rfl rfl) <| evs_nil) (ricmp_error_c t c s d A n k _ _) ?_
                   rintro e w ⟨rfl, hk⟩
                   refine ⟨_, rfl, ?_⟩
                   replace hS := hS.kept hk
                   clear hk
                   refine hK _ _ ?_; clear hK K
                   refine rg_take 6 rfl rfl (by kernel_rfl) (by kernel_rfl) (by kernel_rfl) (want_0) (fun w hok => x_bneq Try.underlying4 (tmB rfl rfl) (tmB rfl rfl)) ?_
                   refine rg_take 7 rfl rfl (by kernel_rfl) (by kernel_rfl) (by kernel_rfl) (want_0) (fun w hok => x_move (tmB rfl rfl)) ?_
                   refine gs_rg (tm (t := 76) rfl) (fun hg13_7 => ?_) (fun hg13_7 => ?_)
                   · exfalso
                     simp at hg13_7
                   have hg13_7' := hg13_7; (try simp only [nrm] at hg13_7'); try (exfalso; first | with_reducible exact absurd hg13_7 Bool.false_ne_true | with_reducible exact absurd hg13_7.symm Bool.false_ne_true | omega | (simp at hg13_7; done))
                   all_goals
                    refine rg_take 8 rfl rfl (by kernel_rfl) (by kernel_rfl) (by kernel_rfl) (want_y rfl rfl rfl rfl (by rw [hg13_7]; rfl)) (fun w hok => x_loadA (cs := [_, _, _, _, _]) Try.underlying85 rfl ts_85 (tmP rfl rfl) (rangeB hok 1 rfl rfl)) ?_
                    refine rg_take 9 rfl rfl (by kernel_rfl) (by kernel_rfl) (by kernel_rfl) (want_y rfl rfl rfl rfl (by rw [hg13_7]; rfl)) (fun w hok => x_move (tmB rfl rfl)) ?_
                    refine rg_take 11 rfl rfl (by kernel_rfl) (by kernel_rfl) (by kernel_rfl) (want_y rfl rfl rfl rfl (by rw [hg13_7]; rfl)) (fun w hok => x_fa 0 Try.underlying88 rfl rfl ts_5 (tmP rfl rfl)) ?_
                    first
                     | refine rg_take 12 rfl rfl (by kernel_rfl) (by kernel_rfl) (by kernel_rfl) (want_y rfl rfl rfl rfl (by rw [hg13_7]; rfl)) (fun w hok => x_load Try.underlying5 rfl (tmP rfl rfl) (cellB hok 4 rfl rfl)) ?_
                     | refine rg_take 12 rfl rfl (by kernel_rfl) (by kernel_rfl) (by kernel_rfl) (want_y rfl rfl rfl rfl (by rw [hg13_7]; rfl)) (fun w hok => x_load Try.underlying5 rfl (tmP rfl rfl) (cellB hok 4 rfl (getm (by omega)))) ?_
                    refine rg_take 13 rfl rfl (by kernel_rfl) (by kernel_rfl) (by kernel_rfl) (want_y rfl rfl rfl rfl (by rw [hg13_7]; rfl)) (fun w hok => x_move (tmI rfl rfl)) ?_
                    refine rg_take 14 rfl rfl (by kernel_rfl) (by kernel_rfl) (by kernel_rfl) (want_y rfl rfl rfl rfl (by rw [hg13_7]; rfl)) (fun w hok => x_eql (tmI rfl rfl) (tmI rfl rfl)) ?_
                    refine rg_step 10 rfl (by kernel_rfl) (want_y rfl rfl rfl rfl (by rw [hg13_7]; rfl)) (oks_drop hS 0 rfl) ?_; intro K hK
                    refine ow_call Try.func71 rfl rfl (evs_cons (tmA rfl rfl) <| evs_cons (tmB rfl rfl) <| evs_nil) (icmp_echo_c t c s d A n k _ _) ?_
                    rintro e w ⟨rfl, hk⟩
                    refine ⟨_, rfl, ?_⟩
                    replace hS := hS.kept hk
                    clear hk
                    refine hK _ _ ?_; clear hK K
                    refine rg_take 15 rfl rfl (by kernel_rfl) (by kernel_rfl) (by kernel_rfl) (want_y rfl rfl rfl rfl (by rw [hg13_7]; rfl)) (fun w hok => x_bneq Try.underlying4 (tmB rfl rfl) (tmB rfl rfl)) ?_
                    refine rg_take 16 rfl rfl (by kernel_rfl) (by kernel_rfl) (by kernel_rfl) (want_0) (fun w hok => x_pickF (tmB rfl rfl) hg13_7 (tmB rfl rfl)) ?_
                    refine rg_done (oks_drop hS 0 rfl) (by kernel_rfl) ?_
                    refine then_n (hK17 _ _ ?_); clear hK17 K17
                    refine cnd (tm rfl) (fun hc4 => ?_) (fun hc4 => ?_)
                    · exfalso
                      unfold echoB at hc4
                      simp [*] at hc4
                      omega
                    try (exfalso; first | with_reducible exact absurd hc4 Bool.false_ne_true | with_reducible exact absurd hc4.symm Bool.false_ne_true | (simp only [nrm] at hc4; omega) | (simp at hc4; done))
                    all_goals
                     try simp only [nrm] at hc4
                     refine wp_skip ?_
                     refine inb_n ?_
                     refine then_n (hK12 _ _ ?_); clear hK12 K12
                     refine wlit ?_
                     first
                      | refine wl_v (x_addN (tmI rfl rfl) (ev_cN 1) (fit_i64 (by omega))) ?_
                      | refine wl_v (x_addI (tmI rfl rfl) (ev_cN 1) (IntWalk.i64_in _ (by omega))) ?_
                      | refine wl_v (x_add (tmI rfl rfl) (ev_cN 1)) ?_
                     refine wl_v (x_move (tmI rfl rfl)) ?_
                     refine wl_nil ?_
                     exact then_n ⟨_, _, rfl, (by show _ < _; omega), (by repeat (first | exact agree_self | exact agree_refl | refine agree_upd rfl ?_ | refine agree_mix rfl ?_)), j + 1, rfl, (by first | rfl | go_num | exact congrArg (Value.int _) (by first | omega | (simp; done) | (simp; omega))), hS, (by omega)⟩
                try (exfalso; first | with_reducible exact absurd hc3 Bool.false_ne_true | with_reducible exact absurd hc3.symm Bool.false_ne_true | (simp only [nrm] at hc3; omega) | (simp at hc3; done))
                all_goals
                 try simp only [nrm] at hc3
                 refine wp_skip ?_
                 refine then_n (hK15 _ _ ?_); clear hK15 K15
                 refine wp_seq_k ?_; intro K18 hK18
                 refine rg_startk 0 hS mixed_ ?_
                 clear hS; intro w hS
                 refine rg_take 0 rfl rfl (by kernel_rfl) (by kernel_rfl) (by kernel_rfl) (want_0) (fun w hok => x_loadA (cs := [_, _, _, _, _]) Try.underlying85 rfl ts_85 (tmP rfl rfl) (rangeB hok 1 rfl rfl)) ?_
                 refine rg_take 1 rfl rfl (by kernel_rfl) (by kernel_rfl) (by kernel_rfl) (want_0) (fun w hok => x_move (tmB rfl rfl)) ?_
                 refine rg_take 3 rfl rfl (by kernel_rfl) (by kernel_rfl) (by kernel_rfl) (want_0) (fun w hok => x_loadA (cs := [_, _, _, _, _]) Try.underlying88 rfl ts_88 (tmP rfl rfl) (rangeB hok 4 rfl rfl)) ?_
                 refine rg_take 4 rfl rfl (by kernel_rfl) (by kernel_rfl) (by kernel_rfl) (want_0) (fun w hok => x_move (tmB rfl rfl)) ?_
                 refine rg_step 2 rfl (by kernel_rfl) (want_0) (oks_drop hS 0 rfl) ?_; intro K hK
                 refine ow_call Try.func69 rfl rfl (evs_cons (tmA rfl rfl) <| evs_cons (tmB rfl rfl) <| evs_nil) (icmp_error_c t c s d A n k _ _) ?_
                 rintro e w ⟨rfl, hk⟩
                 refine ⟨_, rfl, ?_⟩
                 replace hS := hS.kept hk
                 clear hk
                 refine hK _ _ ?_; clear hK K
                 refine rg_step 5 rfl (by kernel_rfl) (want_0) (oks_drop hS 0 rfl) ?_; intro K hK
                 refine ow_call Try.func70 rfl rfl (evs_cons (tmA rfl rfl) <| evs_cons (tmB rfl rfl) <| evs_nil) (ricmp_error_c t c s d A n k _ _) ?_
                 rintro e w ⟨rfl, hk⟩
                 refine ⟨_, rfl, ?_⟩
                 replace hS := hS.kept hk
                 clear hk
                 refine hK _ _ ?_; clear hK K
                 refine rg_take 6 rfl rfl (by kernel_rfl) (by kernel_rfl) (by kernel_rfl) (want_0) (fun w hok => x_bneq Try.underlying4 (tmB rfl rfl) (tmB rfl rfl)) ?_
                 refine rg_take 7 rfl rfl (by kernel_rfl) (by kernel_rfl) (by kernel_rfl) (want_0) (fun w hok => x_move (tmB rfl rfl)) ?_
                 refine gs_rg (tm (t := 76) rfl) (fun hg13_7 => ?_) (fun hg13_7 => ?_)
                 · exfalso
                   simp at hg13_7
                 have hg13_7' := hg13_7; (try simp only [nrm] at hg13_7'); try (exfalso; first | with_reducible exact absurd hg13_7 Bool.false_ne_true | with_reducible exact absurd hg13_7.symm Bool.false_ne_true | omega | (simp at hg13_7; done))
                 all_goals
                  refine rg_take 8 rfl rfl (by kernel_rfl) (by kernel_rfl) (by kernel_rfl) (want_y rfl rfl rfl rfl (by rw [hg13_7]; rfl)) (fun w hok => x_loadA (cs := [_, _, _, _, _]) Try.underlying85 rfl ts_85 (tmP rfl rfl) (rangeB hok 1 rfl rfl)) ?_
                  refine rg_take 9 rfl rfl (by kernel_rfl) (by kernel_rfl) (by kernel_rfl) (want_y rfl rfl rfl rfl (by rw [hg13_7]; rfl)) (fun w hok => x_move (tmB rfl rfl)) ?_
                  refine rg_take 11 rfl rfl (by kernel_rfl) (by kernel_rfl) (by kernel_rfl) (want_y rfl rfl rfl rfl (by rw [hg13_7]; rfl)) (fun w hok => x_fa 0 Try.underlying88 rfl rfl ts_5 (tmP rfl rfl)) ?_
                  first
                   | refine rg_take 12 rfl rfl (by kernel_rfl) (by kernel_rfl) (by kernel_rfl) (want_y rfl rfl rfl rfl (by rw [hg13_7]; rfl)) (fun w hok => x_load Try.underlying5 rfl (tmP rfl rfl) (cellB hok 4 rfl rfl)) ?_
                   | refine rg_take 12 rfl rfl (by kernel_rfl) (by kernel_rfl) (by kernel_rfl) (want_y rfl rfl rfl rfl (by rw [hg13_7]; rfl)) (fun w hok => x_load Try.underlying5 rfl (tmP rfl rfl) (cellB hok 4 rfl (getm (by omega)))) ?_
                  refine rg_take 13 rfl rfl (by kernel_rfl) (by kernel_rfl) (by kernel_rfl) (want_y rfl rfl rfl rfl (by rw [hg13_7]; rfl)) (fun w hok => x_move (tmI rfl rfl)) ?_
                  refine rg_take 14 rfl rfl (by kernel_rfl) (by kernel_rfl) (by kernel_rfl) (want_y rfl rfl rfl rfl (by rw [hg13_7]; rfl)) (fun w hok => x_eql (tmI rfl rfl) (tmI rfl rfl)) ?_
                  refine rg_step 10 rfl (by kernel_rfl) (want_y rfl rfl rfl rfl (by rw [hg13_7]; rfl)) (oks_drop hS 0 rfl) ?_; intro K hK
                  refine ow_call Try.func71 rfl rfl (evs_cons (tmA rfl rfl) <| evs_cons (tmB rfl rfl) <| evs_nil) (icmp_echo_c t c s d A n k _ _) ?_
                  rintro e w ⟨rfl, hk⟩
                  refine ⟨_, rfl, ?_⟩
                  replace hS := hS.kept hk
                  clear hk
                  refine hK _ _ ?_; clear hK K
                  refine rg_take 15 rfl rfl (by kernel_rfl) (by kernel_rfl) (by kernel_rfl) (want_y rfl rfl rfl rfl (by rw [hg13_7]; rfl)) (fun w hok => x_bneq Try.underlying4 (tmB rfl rfl) (tmB rfl rfl)) ?_
                  refine rg_take 16 rfl rfl (by kernel_rfl) (by kernel_rfl) (by kernel_rfl) (want_0) (fun w hok => x_pickF (tmB rfl rfl) hg13_7 (tmB rfl rfl)) ?_
                  refine rg_done (oks_drop hS 0 rfl) (by kernel_rfl) ?_
                  refine then_n (hK18 _ _ ?_); clear hK18 K18
                  refine cnd (tm rfl) (fun hc4 => ?_) (fun hc4 => ?_)
                  · exfalso
                    unfold echoB at hc4
                    simp [*] at hc4
                    omega
                  try (exfalso; first | with_reducible exact absurd hc4 Bool.false_ne_true | with_reducible exact absurd hc4.symm Bool.false_ne_true | (simp only [nrm] at hc4; omega) | (simp at hc4; done))
                  all_goals
                   try simp only [nrm] at hc4
                   refine wp_skip ?_
                   refine inb_n ?_
                   refine then_n (hK12 _ _ ?_); clear hK12 K12
                   refine wlit ?_
                   first
                    | refine wl_v (x_addN (tmI rfl rfl) (ev_cN 1) (fit_i64 (by omega))) ?_
                    | refine wl_v (x_addI (tmI rfl rfl) (ev_cN 1) (IntWalk.i64_in _ (by omega))) ?_
                    | refine wl_v (x_add (tmI rfl rfl) (ev_cN 1)) ?_
                   refine wl_v (x_move (tmI rfl rfl)) ?_
                   refine wl_nil ?_
                   exact then_n ⟨_, _, rfl, (by show _ < _; omega), (by repeat (first | exact agree_self | exact agree_refl | refine agree_upd rfl ?_ | refine agree_mix rfl ?_)), j + 1, rfl, (by first | rfl | go_num | exact congrArg (Value.int _) (by first | omega | (simp; done) | (simp; omega))), hS, (by omega)⟩
             try (exfalso; first | with_reducible exact absurd hc2 Bool.false_ne_true | with_reducible exact absurd hc2.symm Bool.false_ne_true | (simp only [nrm] at hc2; omega) | (simp at hc2; done))
             all_goals
              try simp only [nrm] at hc2
              refine wp_exit ?_
              refine then_x ?_; clear hK11 K11
              refine then_x ?_
              refine inb_x ?_
              refine then_n (hK8 _ _ ?_); clear hK8 K8
              refine wp_seq_k ?_; intro K19 hK19
              refine wlit ?_
              refine wl_v (x_loadA (cs := [_, _, _, _, _]) Try.underlying85 rfl ts_85 (tmP rfl rfl) (rangeB hS.ok 1 rfl rfl)) ?_
              refine wl_v (x_loadA (cs := [_, _, _]) Try.underlying27 rfl ts_27 (tmP rfl rfl) (rangeB hS.ok 3 rfl rfl)) ?_
              refine wl_v (x_loadA (cs := [_, _, _]) Try.underlying27 rfl ts_27 (tmP rfl rfl) (rangeB hS.ok 2 rfl rfl)) ?_
              refine wl_e rfl ?_; intro K hK
              refine ow_call Try.func72 rfl rfl (evs_cons (tmA rfl rfl) <| evs_cons (tmA rfl rfl) <| evs_cons (tmA rfl rfl) <| evs_nil) (hsm _ (viewV hS.ok 5 rfl)) ?_
              rintro e w ⟨A5, k5, rfl, hn, hk⟩
              refine ⟨_, rfl, ?_⟩
              replace hS := hS.add hk hn -- +rows
              clear hn hk
              refine hK _ _ ?_; clear hK K
              refine wl_e rfl ?_; intro K hK
              refine ow_alloc hS tz_85 rfl ?_
              clear hS; intro g16_4 w hg16_4 hS
              refine hK _ _ ?_; clear hK K
              refine wl_e rfl ?_; intro K hK
              refine ow_storeA hS 0 rfl ts_85 (tmP rfl rfl) (tmA rfl rfl) rfl rfl rfl ?_
              clear hS; intro w hS
              try replace hS := St.nm (M' := [.blk _ _ [_, _, _, _, _], .row _ _ _ _ _, _, .blk _ _ [_, _, _, _, _], .blk _ _ [_, _, _], .blk _ _ [_, _, _], .blk _ _ [_, _, _, _, _], .vw _ _]) hS rfl
              refine hK _ _ ?_; clear hK K
              refine wl_nil ?_
              refine then_n (hK19 _ _ ?_); clear hK19 K19
              refine wp_seq_k ?_; intro K20 hK20
              refine rg_startk 0 hS mixed_ ?_
              clear hS; intro w hS
              refine rg_take 0 rfl rfl (by kernel_rfl) (by kernel_rfl) (by kernel_rfl) (want_0) (fun w hok => x_loadA (cs := [_, _, _, _, _]) Try.underlying85 rfl ts_85 (tmP rfl rfl) (rangeB hok 0 rfl rfl)) ?_
              refine rg_take 2 rfl rfl (by kernel_rfl) (by kernel_rfl) (by kernel_rfl) (want_0) (fun w hok => x_loadA (cs := [_, _, _, _, _]) Try.underlying88 rfl ts_88 (tmP rfl rfl) (rangeB hok 6 rfl rfl)) ?_
              refine rg_take 3 rfl rfl (by kernel_rfl) (by kernel_rfl) (by kernel_rfl) (want_0) (fun w hok => x_loadA (cs := [_, _, _]) Try.underlying27 rfl ts_27 (tmP rfl rfl) (rangeB hok 5 rfl rfl)) ?_
              refine rg_take 4 rfl rfl (by kernel_rfl) (by kernel_rfl) (by kernel_rfl) (want_0) (fun w hok => x_loadA (cs := [_, _, _]) Try.underlying27 rfl ts_27 (tmP rfl rfl) (rangeB hok 4 rfl rfl)) ?_
              refine rg_step 1 rfl (by kernel_rfl) (want_0) (oks_drop hS 0 rfl) ?_; intro K hK
              refine ow_call Try.func64 rfl rfl (evs_cons (tmA rfl rfl) <| evs_nil) (of08_c t c ck d A5 n k5 _) ?_
              rintro e w ⟨rfl, hk⟩
              refine ⟨_, rfl, ?_⟩
              replace hS := hS.kept hk
              clear hk
              refine hK _ _ ?_; clear hK K
              refine rg_step 5 rfl (by kernel_rfl) (want_0) (oks_drop hS 0 rfl) ?_; intro K hK
              refine ow_call Try.func73 rfl rfl (evs_cons (tmA rfl rfl) <| evs_cons (tmA rfl rfl) <| evs_cons (tmA rfl rfl) <| evs_nil) (hrs _ (viewV hS.ok 7 rfl)) ?_
              rintro e w ⟨rfl, hk⟩
              refine ⟨_, rfl, ?_⟩
              replace hS := hS.kept hk
              clear hk
              refine hK _ _ ?_; clear hK K
              refine rg_step 6 rfl (by kernel_rfl) (want_0) (oks_drop hS 0 rfl) ?_; intro K hK
              refine ow_call Try.func63 rfl rfl (evs_cons (tmA rfl rfl) <| evs_cons (tmA rfl rfl) <| evs_nil) (same08_c t c ck d t c ck d A5 n k5 A n k l l _ (viewR hS.ok 1 rfl) hl hlb_ (viewV hS.ok 7 rfl) hl hlb_) ?_
              rintro e w ⟨rfl, hk⟩
              refine ⟨_, rfl, ?_⟩
              replace hS := hS.kept hk
              clear hk
              refine hK _ _ ?_; clear hK K
              refine rg_take 7 rfl rfl (by kernel_rfl) (by kernel_rfl) (by kernel_rfl) (want_0) (fun w hok => x_move (tmB rfl rfl)) ?_
              refine gs_rgs (tm (t := 98) rfl) (fun hg17_7 => ?_) (fun hg17_7 => ?_)
              · exfalso
                simp at hg17_7
              have hg17_7' := hg17_7; (try simp only [nrm] at hg17_7'); try (exfalso; first | with_reducible exact absurd hg17_7 Bool.false_ne_true | with_reducible exact absurd hg17_7.symm Bool.false_ne_true | omega | (simp at hg17_7; done))
              all_goals
               refine rg_take 8 rfl rfl (by kernel_rfl) (by kernel_rfl) (by kernel_rfl) (want_y rfl rfl rfl rfl (by rw [hg17_7]; rfl)) (fun w hok => x_loadA (cs := [_, _, _, _, _]) Try.underlying85 rfl ts_85 (tmP rfl rfl) (rangeB hok 3 rfl rfl)) ?_
               refine rg_take 9 rfl rfl (by kernel_rfl) (by kernel_rfl) (by kernel_rfl) (want_y rfl rfl rfl rfl (by rw [hg17_7]; rfl)) (fun w hok => x_loadA (cs := [_, _, _]) Try.underlying27 rfl ts_27 (tmP rfl rfl) (rangeB hok 5 rfl rfl)) ?_
               refine rg_take 10 rfl rfl (by kernel_rfl) (by kernel_rfl) (by kernel_rfl) (want_y rfl rfl rfl rfl (by rw [hg17_7]; rfl)) (fun w hok => x_loadA (cs := [_, _, _]) Try.underlying27 rfl ts_27 (tmP rfl rfl) (rangeB hok 4 rfl rfl)) ?_
               refine rg_take 12 rfl rfl (by kernel_rfl) (by kernel_rfl) (by kernel_rfl) (want_y rfl rfl rfl rfl (by rw [hg17_7]; rfl)) (fun w hok => x_loadA (cs := [_, _, _, _, _]) Try.underlying88 rfl ts_88 (tmP rfl rfl) (rangeB hok 6 rfl rfl)) ?_
               refine rg_take 13 rfl rfl (by kernel_rfl) (by kernel_rfl) (by kernel_rfl) (want_y rfl rfl rfl rfl (by rw [hg17_7]; rfl)) (fun w hok => x_loadA (cs := [_, _, _]) Try.underlying27 rfl ts_27 (tmP rfl rfl) (rangeB hok 5 rfl rfl)) ?_
               refine rg_take 14 rfl rfl (by kernel_rfl) (by kernel_rfl) (by kernel_rfl) (want_y rfl rfl rfl rfl (by rw [hg17_7]; rfl)) (fun w hok => x_loadA (cs := [_, _, _]) Try.underlying27 rfl ts_27 (tmP rfl rfl) (rangeB hok 4 rfl rfl)) ?_
               refine rg_step 11 rfl (by kernel_rfl) (want_y rfl rfl rfl rfl (by rw [hg17_7]; rfl)) (oks_drop hS 0 rfl) ?_; intro K hK
               refine ow_call Try.func74 rfl rfl (evs_cons (tmA rfl rfl) <| evs_cons (tmA rfl rfl) <| evs_cons (tmA rfl rfl) <| evs_nil) (icmp_fine_c t c s d A n k l a b _ (viewV hS.ok 7 rfl) hl hlb_ h6 hla hlb (by omega) (by omega) (by omega) (by omega) (by omega)) ?_
               rintro e w ⟨rfl, hk⟩
               refine ⟨_, rfl, ?_⟩
               replace hS := hS.kept hk
               clear hk
               refine hK _ _ ?_; clear hK K
               refine rg_step 15 rfl (by kernel_rfl) (want_y rfl rfl rfl rfl (by rw [hg17_7]; rfl)) (oks_drop hS 0 rfl) ?_; intro K hK
               refine ow_call Try.func75 rfl rfl (evs_cons (tmA rfl rfl) <| evs_cons (tmA rfl rfl) <| evs_cons (tmA rfl rfl) <| evs_nil) (ricmp_check_c t c s d A n k l a b _ (viewV hS.ok 7 rfl) hl hlb_ h6 hla hlb (by omega) (by omega) (by omega) (by omega) (by omega)) ?_
               rintro e w ⟨rfl, hk⟩
               refine ⟨_, rfl, ?_⟩
               replace hS := hS.kept hk
               clear hk
               refine hK _ _ ?_; clear hK K
               refine rg_take 16 rfl rfl (by kernel_rfl) (by kernel_rfl) (by kernel_rfl) (want_y rfl rfl rfl rfl (by rw [hg17_7]; rfl)) (fun w hok => x_eql (tmI rfl rfl) (ev_cN 0)) ?_
               refine rg_take 17 rfl rfl (by kernel_rfl) (by kernel_rfl) (by kernel_rfl) (want_y rfl rfl rfl rfl (by rw [hg17_7]; rfl)) (fun w hok => x_beql Try.underlying4 (tmB rfl rfl) (tmB rfl rfl)) ?_
               refine rg_take 18 rfl rfl (by kernel_rfl) (by kernel_rfl) (by kernel_rfl) (want_0) (fun w hok => x_pickT (tmB rfl rfl) hg17_7 (tmB rfl rfl)) ?_
               refine rg_take 19 rfl rfl (by kernel_rfl) (by kernel_rfl) (by kernel_rfl) (want_0) (fun w hok => x_move (tmB rfl rfl)) ?_
               refine gs_rgs (tm (t := 110) rfl) (fun hg17_19 => ?_) (fun hg17_19 => ?_)
               · exfalso
                 simp at hg17_19
                 omega
               have hg17_19' := hg17_19; (try simp only [nrm] at hg17_19'); try (exfalso; first | with_reducible exact absurd hg17_19 Bool.false_ne_true | with_reducible exact absurd hg17_19.symm Bool.false_ne_true | omega | (simp at hg17_19; done))
               all_goals
                refine rg_take 20 rfl rfl (by kernel_rfl) (by kernel_rfl) (by kernel_rfl) (want_y rfl rfl rfl rfl (by rw [hg17_19]; rfl)) (fun w hok => x_loadA (cs := [_, _, _, _, _]) Try.underlying85 rfl ts_85 (tmP rfl rfl) (rangeB hok 0 rfl rfl)) ?_
                refine rg_take 21 rfl rfl (by kernel_rfl) (by kernel_rfl) (by kernel_rfl) (want_y rfl rfl rfl rfl (by rw [hg17_19]; rfl)) (fun w hok => x_loadA (cs := [_, _, _]) Try.underlying27 rfl ts_27 (tmP rfl rfl) (rangeB hok 5 rfl rfl)) ?_
                refine rg_take 22 rfl rfl (by kernel_rfl) (by kernel_rfl) (by kernel_rfl) (want_y rfl rfl rfl rfl (by rw [hg17_19]; rfl)) (fun w hok => x_loadA (cs := [_, _, _]) Try.underlying27 rfl ts_27 (tmP rfl rfl) (rangeB hok 4 rfl rfl)) ?_
                refine rg_step 23 rfl (by kernel_rfl) (want_y rfl rfl rfl rfl (by rw [hg17_19]; rfl)) (oks_drop hS 0 rfl) ?_; intro K hK
                refine ow_call Try.func74 rfl rfl (evs_cons (tmA rfl rfl) <| evs_cons (tmA rfl rfl) <| evs_cons (tmA rfl rfl) <| evs_nil) (icmp_fine_c t c ck d A5 n k5 l a b _ (viewR hS.ok 1 rfl) hl hlb_ h6 hla hlb (by omega) (by omega) (by omega) (by omega) (by omega)) ?_
                rintro e w ⟨rfl, hk⟩
                refine ⟨_, rfl, ?_⟩
                rw [hfin]
                replace hS := hS.kept hk
                clear hk
                refine hK _ _ ?_; clear hK K
                refine rg_take 24 rfl rfl (by kernel_rfl) (by kernel_rfl) (by kernel_rfl) (want_0) (fun w hok => x_pickT (tmB rfl rfl) hg17_19 (tmB rfl rfl)) ?_
                refine rg_take 25 rfl rfl (by kernel_rfl) (by kernel_rfl) (by kernel_rfl) (want_0) (fun w hok => x_move (tmB rfl rfl)) ?_
                refine gs_rgs (tm (t := 116) rfl) (fun hg17_25 => ?_) (fun hg17_25 => ?_)
                · exfalso
                  simp at hg17_25
                have hg17_25' := hg17_25; (try simp only [nrm] at hg17_25'); try (exfalso; first | with_reducible exact absurd hg17_25 Bool.false_ne_true | with_reducible exact absurd hg17_25.symm Bool.false_ne_true | omega | (simp at hg17_25; done))
                all_goals
                 refine rg_step 26 rfl (by kernel_rfl) (want_y rfl rfl rfl rfl (by rw [hg17_25]; rfl)) (oks_drop hS 0 rfl) ?_; intro K hK
                 refine ow_call Try.func60 rfl rfl (evs_nil) (law08_awake_c _) ?_
                 rintro e w ⟨rfl, hk⟩
                 refine ⟨_, rfl, ?_⟩
                 replace hS := hS.kept hk
                 clear hk
                 refine hK _ _ ?_; clear hK K
                 refine rg_take 27 rfl rfl (by kernel_rfl) (by kernel_rfl) (by kernel_rfl) (want_0) (fun w hok => x_pickT (tmB rfl rfl) hg17_25 (tmB rfl rfl)) ?_
                 refine rg_take 28 rfl rfl (by kernel_rfl) (by kernel_rfl) (by kernel_rfl) (want_0) (fun w hok => x_assign (tmB rfl rfl)) ?_
                 refine rg_done (oks_drop hS 0 rfl) (by kernel_rfl) ?_
                 refine then_n (hK20 _ _ ?_); clear hK20 K20
                 refine wp_ret ?_
                 refine ret1 rfl (.tmp rfl (show _ = Value.bool _ from rfl)) ?_
                 exact ⟨rfl, hS.kp.below⟩
      · intro K hK
        refine ow_call Try.func68 rfl rfl (evs_cons (tmA rfl rfl) <| evs_nil) (ricmp_bytes_c t c s d A n k l _ (viewV hS.ok 8 rfl) hl (by omega) (by omega) (by omega) (by omega) (by omega)) ?_
        rintro e w ⟨A4, m4, c4, hm4, rfl, hn, hk⟩
        refine ⟨_, rfl, ?_⟩
        subst hm4
        replace hS := hS.add hk hn -- +rowc
        clear hn hk
        refine hK _ _ ?_; clear hK K
        refine rg_step2 2 5 rfl rfl (by kernel_rfl) (want_0) (want_0) (oks_drop hS 2 rfl) ?_ ?_
        · intro K hK
          first
           | refine ow_v (x_bstr Try.underlying22 Try.underlying5 Try.underlying9 (tmS rfl rfl) (viewR hS.ok 0 rfl) (by first | assumption | exact Bytes.nil | (repeat' (first | assumption | exact Bytes.nil | exact be_bytes _ _ | apply Bytes.append | apply Bytes.take | apply Bytes.drop | apply Bytes.replicate))) (by first | rfl | assumption | (simp; done) | (simp; omega) | omega)) ?_
           | refine ow_v (x_bstr Try.underlying22 Try.underlying5 Try.underlying9 (tmS rfl rfl) (viewR hS.ok 1 rfl) (by first | assumption | exact Bytes.nil | (repeat' (first | assumption | exact Bytes.nil | exact be_bytes _ _ | apply Bytes.append | apply Bytes.take | apply Bytes.drop | apply Bytes.replicate))) (by first | rfl | assumption | (simp; done) | (simp; omega) | omega)) ?_
           | refine ow_v (x_bstr Try.underlying22 Try.underlying5 Try.underlying9 (tmS rfl rfl) (viewV hS.ok 3 rfl) (by first | assumption | exact Bytes.nil | (repeat' (first | assumption | exact Bytes.nil | exact be_bytes _ _ | apply Bytes.append | apply Bytes.take | apply Bytes.drop | apply Bytes.replicate))) (by first | rfl | assumption | (simp; done) | (simp; omega) | omega)) ?_
           | refine ow_v (x_bstr Try.underlying22 Try.underlying5 Try.underlying9 (tmS rfl rfl) (viewR hS.ok 4 rfl) (by first | assumption | exact Bytes.nil | (repeat' (first | assumption | exact Bytes.nil | exact be_bytes _ _ | apply Bytes.append | apply Bytes.take | apply Bytes.drop | apply Bytes.replicate))) (by first | rfl | assumption | (simp; done) | (simp; omega) | omega)) ?_
           | refine ow_v (x_bstr Try.underlying22 Try.underlying5 Try.underlying9 (tmS rfl rfl) (viewV hS.ok 9 rfl) (by first | assumption | exact Bytes.nil | (repeat' (first | assumption | exact Bytes.nil | exact be_bytes _ _ | apply Bytes.append | apply Bytes.take | apply Bytes.drop | apply Bytes.replicate))) (by first | rfl | assumption | (simp; done) | (simp; omega) | omega)) ?_
           | refine ow_v (x_bstr (l := []) Try.underlying22 Try.underlying5 Try.underlying9 (tmS rfl rfl) View.nil_ (by first | assumption | exact Bytes.nil | (repeat' (first | assumption | exact Bytes.nil | exact be_bytes _ _ | apply Bytes.append | apply Bytes.take | apply Bytes.drop | apply Bytes.replicate))) (by first | rfl | assumption | (simp; done) | (simp; omega) | omega)) ?_
          refine hK _ _ ?_; clear hK K
          refine rg_step 5 rfl (by kernel_rfl) (want_0) (oks_drop hS 2 rfl) ?_; intro K hK
          first
           | refine ow_v (x_bstr Try.underlying22 Try.underlying5 Try.underlying9 (tmS rfl rfl) (viewR hS.ok 0 rfl) (by first | assumption | exact Bytes.nil | (repeat' (first | assumption | exact Bytes.nil | exact be_bytes _ _ | apply Bytes.append | apply Bytes.take | apply Bytes.drop | apply Bytes.replicate))) (by first | rfl | assumption | (simp; done) | (simp; omega) | omega)) ?_
           | refine ow_v (x_bstr Try.underlying22 Try.underlying5 Try.underlying9 (tmS rfl rfl) (viewR hS.ok 1 rfl) (by first | assumption | exact Bytes.nil | (repeat' (first | assumption | exact Bytes.nil | exact be_bytes _ _ | apply Bytes.append | apply Bytes.take | apply Bytes.drop | apply Bytes.replicate))) (by first | rfl | assumption | (simp; done) | (simp; omega) | omega)) ?_
           | refine ow_v (x_bstr Try.underlying22 Try.underlying5 Try.underlying9 (tmS rfl rfl) (viewV hS.ok 3 rfl) (by first | assumption | exact Bytes.nil | (repeat' (first | assumption | exact Bytes.nil | exact be_bytes _ _ | apply Bytes.append | apply Bytes.take | apply Bytes.drop | apply Bytes.replicate))) (by first | rfl | assumption | (simp; done) | (simp; omega) | omega)) ?_
           | refine ow_v (x_bstr Try.underlying22 Try.underlying5 Try.underlying9 (tmS rfl rfl) (viewR hS.ok 4 rfl) (by first | assumption | exact Bytes.nil | (repeat' (first | assumption | exact Bytes.nil | exact be_bytes _ _ | apply Bytes.append | apply Bytes.take | apply Bytes.drop | apply Bytes.replicate))) (by first | rfl | assumption | (simp; done) | (simp; omega) | omega)) ?_
           | refine ow_v (x_bstr Try.underlying22 Try.underlying5 Try.underlying9 (tmS rfl rfl) (viewV hS.ok 9 rfl) (by first | assumption | exact Bytes.nil | (repeat' (first | assumption | exact Bytes.nil | exact be_bytes _ _ | apply Bytes.append | apply Bytes.take | apply Bytes.drop | apply Bytes.replicate))) (by first | rfl | assumption | (simp; done) | (simp; omega) | omega)) ?_
           | refine ow_v (x_bstr (l := []) Try.underlying22 Try.underlying5 Try.underlying9 (tmS rfl rfl) View.nil_ (by first | assumption | exact Bytes.nil | (repeat' (first | assumption | exact Bytes.nil | exact be_bytes _ _ | apply Bytes.append | apply Bytes.take | apply Bytes.drop | apply Bytes.replicate))) (by first | rfl | assumption | (simp; done) | (simp; omega) | omega)) ?_
          refine hK _ _ ?_; clear hK K
          refine rg_take 6 rfl rfl (by kernel_rfl) (by kernel_rfl) (by kernel_rfl) (want_0) (fun w hok => x_Gneq (tmG rfl rfl) (tmG rfl rfl) (by first | assumption | exact Bytes.nil | (repeat' (first | assumption | exact Bytes.nil | exact be_bytes _ _ | apply Bytes.append | apply Bytes.take | apply Bytes.drop | apply Bytes.replicate))) (by first | assumption | exact Bytes.nil | (repeat' (first | assumption | exact Bytes.nil | exact be_bytes _ _ | apply Bytes.append | apply Bytes.take | apply Bytes.drop | apply Bytes.replicate)))) ?_
          refine rg_take 7 rfl rfl (by kernel_rfl) (by kernel_rfl) (by kernel_rfl) (want_0) (fun w hok => x_move (tmB rfl rfl)) ?_
          refine gs_rg (tm (t := 51) rfl) (fun hg5_7 => ?_) (fun hg5_7 => ?_)
          · exfalso
            simp at hg5_7
          have hg5_7' := hg5_7; (try simp only [nrm] at hg5_7'); try (exfalso; first | with_reducible exact absurd hg5_7 Bool.false_ne_true | with_reducible exact absurd hg5_7.symm Bool.false_ne_true | omega | (simp at hg5_7; done))
          all_goals
           refine rg_take 8 rfl rfl (by kernel_rfl) (by kernel_rfl) (by kernel_rfl) (want_y rfl rfl rfl rfl (by rw [hg5_7]; rfl)) (fun w hok => x_loadA (cs := [_, _, _, _, _]) Try.underlying85 rfl ts_85 (tmP rfl rfl) (rangeB hok 0 rfl rfl)) ?_
           refine rg_take 10 rfl rfl (by kernel_rfl) (by kernel_rfl) (by kernel_rfl) (want_y rfl rfl rfl rfl (by rw [hg5_7]; rfl)) (fun w hok => x_loadA (cs := [_, _, _, _, _]) Try.underlying88 rfl ts_88 (tmP rfl rfl) (rangeB hok 6 rfl rfl)) ?_
           refine rg_step 9 rfl (by kernel_rfl) (want_y rfl rfl rfl rfl (by rw [hg5_7]; rfl)) (oks_drop hS 2 rfl) ?_; intro K hK
           refine ow_call Try.func64 rfl rfl (evs_cons (tmA rfl rfl) <| evs_nil) (of08_c t c s d A2 n n _) ?_
           rintro e w ⟨rfl, hk⟩
           refine ⟨_, rfl, ?_⟩
           replace hS := hS.kept hk
           clear hk
           refine hK _ _ ?_; clear hK K
           refine rg_step 11 rfl (by kernel_rfl) (want_y rfl rfl rfl rfl (by rw [hg5_7]; rfl)) (oks_drop hS 2 rfl) ?_; intro K hK
           refine ow_call Try.func63 rfl rfl (evs_cons (tmA rfl rfl) <| evs_cons (tmA rfl rfl) <| evs_nil) (same08_c t c s d t c s d A2 n n A n k l l _ (viewV hS.ok 3 rfl) hl hlb_ (viewV hS.ok 9 rfl) hl hlb_) ?_
           rintro e w ⟨rfl, hk⟩
           refine ⟨_, rfl, ?_⟩
           replace hS := hS.kept hk
           clear hk
           refine hK _ _ ?_; clear hK K
           refine rg_take 12 rfl rfl (by kernel_rfl) (by kernel_rfl) (by kernel_rfl) (want_y rfl rfl rfl rfl (by rw [hg5_7]; rfl)) (fun w hok => x_not (tmB rfl rfl)) ?_
           refine rg_take 13 rfl rfl (by kernel_rfl) (by kernel_rfl) (by kernel_rfl) (want_0) (fun w hok => x_pickF (tmB rfl rfl) hg5_7 (tmB rfl rfl)) ?_
           refine rg_take 14 rfl rfl (by kernel_rfl) (by kernel_rfl) (by kernel_rfl) (want_0) (fun w hok => x_move (tmB rfl rfl)) ?_
           refine gs_rg (tm (t := 58) rfl) (fun hg5_14 => ?_) (fun hg5_14 => ?_)
           · exfalso
             simp at hg5_14
           have hg5_14' := hg5_14; (try simp only [nrm] at hg5_14'); try (exfalso; first | with_reducible exact absurd hg5_14 Bool.false_ne_true | with_reducible exact absurd hg5_14.symm Bool.false_ne_true | omega | (simp at hg5_14; done))
           all_goals
            refine rg_take 15 rfl rfl (by kernel_rfl) (by kernel_rfl) (by kernel_rfl) (want_y rfl rfl rfl rfl (by rw [hg5_14]; rfl)) (fun w hok => x_move (tmI rfl rfl)) ?_
            refine rg_take 16 rfl rfl (by kernel_rfl) (by kernel_rfl) (by kernel_rfl) (want_y rfl rfl rfl rfl (by rw [hg5_14]; rfl)) (fun w hok => x_neq (tmI rfl rfl) (ev_cN 0)) ?_
            refine rg_take 17 rfl rfl (by kernel_rfl) (by kernel_rfl) (by kernel_rfl) (want_0) (fun w hok => x_pickF (tmB rfl rfl) hg5_14 (tmB rfl rfl)) ?_
            refine rg_done (oks_drop hS 2 rfl) (by kernel_rfl) ?_
            replace hS := hS.pick [5, 6, 7, 8, 9] rfl rfl
            try replace hS := St.nm (M' := [.blk _ _ [_, _, _, _, _], .blk _ _ [_, _, _], .blk _ _ [_, _, _], .blk _ _ [_, _, _, _, _], .vw _ _]) hS rfl
            refine then_n (hK7 _ _ ?_); clear hK7 K7
            refine cnd (tm rfl) (fun hc1 => ?_) (fun hc1 => ?_)
            · exfalso
              simp at hc1
            try (exfalso; first | with_reducible exact absurd hc1 Bool.false_ne_true | with_reducible exact absurd hc1.symm Bool.false_ne_true | (simp only [nrm] at hc1; omega) | (simp at hc1; done))
            all_goals
             try simp only [nrm] at hc1
             refine wp_skip ?_
             refine then_n (hK6 _ _ ?_); clear hK6 K6
             refine wp_seq_k ?_; intro K21 hK21
             refine wp_seq_k ?_; intro K22 hK22
             refine wlit ?_
             refine wl_e rfl ?_; intro K hK
             refine ow_build hS Try.underlying96 tz_4 (bc_take ev_c <| bc_take ev_c <| bc_nil) rfl rfl (by kernel_rfl) ?_
             clear hS; intro g7_0 w hg7_0 hS
             refine hK _ _ ?_; clear hK K
             refine wl_v (x_len Try.underlying96 (tmS rfl rfl)) ?_
             refine wl_v (x_move (ev_cN 0)) ?_
             refine wl_nil ?_
             refine then_n (hK22 _ _ ?_); clear hK22 K22
             refine wp_block ?_
             refine lp [6, 11, 12, 64, 65, 66, 67, 68, 69, 70, 71, 72, 73, 74, 75, 76, 77, 78, 79, 80, 81, 82, 83, 84, 85, 86] (fun mz g w => ∃ (j : Nat), mz = 2 - j ∧ g 64 = .int .i64 (j : Int) ∧ St [] w0 [.blk g7_0 4 [.bool false, .bool true], .blk g3_2 85 (msgV t c s d A n k), .blk g0_2 27 b.V, .blk g0_1 27 a.V, .blk g0_0 88 (msgV t c s d A n k), .vw A (l.map u8v)] w ∧ (j ≤ 2)) ?_ ?_
             · exact ⟨_, 0, rfl, (by first | rfl | go_num | exact congrArg (Value.int _) (by first | omega | (simp; done) | (simp; omega))), hS, (by omega)⟩
             · clear hS; intro mz g w hI
               obtain ⟨j, rfl, hs64, hS, hj⟩ := hI
               refine fr_know (d := 64) hs64 ?_; clear hs64
               refine wp_seq_k ?_; intro K23 hK23
               refine wlit ?_
               refine wl_v (x_lss (tmI rfl rfl) (tmI rfl rfl)) ?_
               refine wl_nil ?_
               refine then_n (hK23 _ _ ?_); clear hK23 K23
               refine wp_seq_k ?_; intro K24 hK24
               refine cnd (tm rfl) (fun hc2 => ?_) (fun hc2 => ?_)
               · try (exfalso; first | with_reducible exact absurd hc2 Bool.false_ne_true | with_reducible exact absurd hc2.symm Bool.false_ne_true | (simp only [nrm] at hc2; omega) | (simp at hc2; done))
                 all_goals
                  try simp only [nrm] at hc2
                  refine wp_skip ?_
                  refine then_n (hK24 _ _ ?_); clear hK24 K24
                  refine wp_seq_k ?_; intro K25 hK25
                  refine wp_block ?_
                  refine wp_seq_k ?_; intro K26 hK26
                  refine wlit ?_
                  refine wl_v (x_ixs1 Try.underlying96 ts_4 (tmS rfl rfl) (tmI rfl rfl) (by omega)) ?_
                  refine wl_v (x_load Try.underlying4 rfl (tmP rfl rfl) (cellB hS.ok 0 rfl (hbo j (by omega)))) ?_
                  refine wl_v (x_assign (tmB rfl rfl)) ?_
                  refine wl_nil ?_
                  refine then_n (hK26 _ _ ?_); clear hK26 K26
                  refine wp_seq_k ?_; intro K27 hK27
                  refine wlit ?_
                  refine wl_v (x_assign (ev_cN 8)) ?_
                  refine wl_nil ?_
                  refine then_n (hK27 _ _ ?_); clear hK27 K27
                  refine wp_seq_k ?_; intro K28 hK28
                  refine wp_seq_k ?_; intro K29 hK29
                  refine wlit ?_
                  refine wl_v (x_move (tmB rfl rfl)) ?_
                  refine wl_nil ?_
                  refine then_n (hK29 _ _ ?_); clear hK29 K29
                  refine cnd (tm rfl) (fun hc3 => ?_) (fun hc3 => ?_)
                  · try (exfalso; first | with_reducible exact absurd hc3 Bool.false_ne_true | with_reducible exact absurd hc3.symm Bool.false_ne_true | (simp only [nrm] at hc3; omega) | (simp at hc3; done))
                    all_goals
                     try simp only [nrm] at hc3
                     refine wlit ?_
                     refine wl_v (x_assign (ev_cN 128)) ?_
                     refine wl_nil ?_
                     refine then_n (hK28 _ _ ?_); clear hK28 K28
                     refine wp_seq_k ?_; intro K30 hK30
                     refine rg_startk 0 hS mixed_ ?_
                     clear hS; intro w hS
                     refine rg_take 0 rfl rfl (by kernel_rfl) (by kernel_rfl) (by kernel_rfl) (want_0) (fun w hok => x_loadA (cs := [_, _, _, _, _]) Try.underlying85 rfl ts_85 (tmP rfl rfl) (rangeB hok 1 rfl rfl)) ?_
                     refine rg_take 1 rfl rfl (by kernel_rfl) (by kernel_rfl) (by kernel_rfl) (want_0) (fun w hok => x_move (tmB rfl rfl)) ?_
                     refine rg_take 3 rfl rfl (by kernel_rfl) (by kernel_rfl) (by kernel_rfl) (want_0) (fun w hok => x_loadA (cs := [_, _, _, _, _]) Try.underlying88 rfl ts_88 (tmP rfl rfl) (rangeB hok 4 rfl rfl)) ?_
                     refine rg_take 4 rfl rfl (by kernel_rfl) (by kernel_rfl) (by kernel_rfl) (want_0) (fun w hok => x_move (tmB rfl rfl)) ?_
                     refine rg_step 2 rfl (by kernel_rfl) (want_0) (oks_drop hS 0 rfl) ?_; intro K hK
                     refine ow_call Try.func69 rfl rfl (evs_cons (tmA rfl rfl) <| evs_cons (tmB rfl rfl) <| evs_nil) (icmp_error_c t c s d A n k _ _) ?_
                     rintro e w ⟨rfl, hk⟩
                     refine ⟨_, rfl, ?_⟩
                     replace hS := hS.kept hk
                     clear hk
                     refine hK _ _ ?_; clear hK K
                     refine rg_step 5 rfl (by kernel_rfl) (want_0) (oks_drop hS 0 rfl) ?_; intro K hK
                     refine ow_call Try.func70 rfl rfl (evs_cons (tmA rfl rfl) <| evs_cons (tmB rfl rfl) <| evs_nil) (ricmp_error_c t c s d A n k _ _) ?_
                     rintro e w ⟨rfl, hk⟩
                     refine ⟨_, rfl, ?_⟩
                     replace hS := hS.kept hk
                     clear hk
                     refine hK _ _ ?_; clear hK K
                     refine rg_take 6 rfl rfl (by kernel_rfl) (by kernel_rfl) (by kernel_rfl) (want_0) (fun w hok => x_bneq Try.underlying4 (tmB rfl rfl) (tmB rfl rfl)) ?_
                     refine rg_take 7 rfl rfl (by kernel_rfl) (by kernel_rfl) (by kernel_rfl) (want_0) (fun w hok => x_move (tmB rfl rfl)) ?_
                     refine gs_rg (tm (t := 76) rfl) (fun hg13_7 => ?_) (fun hg13_7 => ?_)
                     · exfalso
                       simp at hg13_7
                     have hg13_7' := hg13_7; (try simp only [nrm] at hg13_7'); try (exfalso; first | with_reducible exact absurd hg13_7 Bool.false_ne_true | with_reducible exact absurd hg13_7.symm Bool.false_ne_true | omega | (simp at hg13_7; done))
                     all_goals
                      refine rg_take 8 rfl rfl (by kernel_rfl) (by kernel_rfl) (by kernel_rfl) (want_y rfl rfl rfl rfl (by rw [hg13_7]; rfl)) (fun w hok => x_loadA (cs := [_, _, _, _, _]) Try.underlying85 rfl ts_85 (tmP rfl rfl) (rangeB hok 1 rfl rfl)) ?_
                      refine rg_take 9 rfl rfl (by kernel_rfl) (by kernel_rfl) (by kernel_rfl) (want_y rfl rfl rfl rfl (by rw [hg13_7]; rfl)) (fun w hok => x_move (tmB rfl rfl)) ?_
                      refine rg_take 11 rfl rfl (by kernel_rfl) (by kernel_rfl) (by kernel_rfl) (want_y rfl rfl rfl rfl (by rw [hg13_7]; rfl)) (fun w hok => x_fa 0 Try.underlying88 rfl rfl ts_5 (tmP rfl rfl)) ?_
                      first
                       | refine rg_take 12 rfl rfl (by kernel_rfl) (by kernel_rfl) (by kernel_rfl) (want_y rfl rfl rfl rfl (by rw [hg13_7]; rfl)) (fun w hok => x_load Try.underlying5 rfl (tmP rfl rfl) (cellB hok 4 rfl rfl)) ?_
                       | refine rg_take 12 rfl rfl (by kernel_rfl) (by kernel_rfl) (by kernel_rfl) (want_y rfl rfl rfl rfl (by rw [hg13_7]; rfl)) (fun w hok => x_load Try.underlying5 rfl (tmP rfl rfl) (cellB hok 4 rfl (getm (by omega)))) ?_
                      refine rg_take 13 rfl rfl (by kernel_rfl) (by kernel_rfl) (by kernel_rfl) (want_y rfl rfl rfl rfl (by rw [hg13_7]; rfl)) (fun w hok => x_move (tmI rfl rfl)) ?_
                      refine rg_take 14 rfl rfl (by kernel_rfl) (by kernel_rfl) (by kernel_rfl) (want_y rfl rfl rfl rfl (by rw [hg13_7]; rfl)) (fun w hok => x_eql (tmI rfl rfl) (tmI rfl rfl)) ?_
                      refine rg_step 10 rfl (by kernel_rfl) (want_y rfl rfl rfl rfl (by rw [hg13_7]; rfl)) (oks_drop hS 0 rfl) ?_; intro K hK
                      refine ow_call Try.func71 rfl rfl (evs_cons (tmA rfl rfl) <| evs_cons (tmB rfl rfl) <| evs_nil) (icmp_echo_c t c s d A n k _ _) ?_
                      rintro e w ⟨rfl, hk⟩
                      refine ⟨_, rfl, ?_⟩
                      replace hS := hS.kept hk
                      clear hk
                      refine hK _ _ ?_; clear hK K
                      refine rg_take 15 rfl rfl (by kernel_rfl) (by kernel_rfl) (by kernel_rfl) (want_y rfl rfl rfl rfl (by rw [hg13_7]; rfl)) (fun w hok => x_bneq Try.underlying4 (tmB rfl rfl) (tmB rfl rfl)) ?_
                      refine rg_take 16 rfl rfl (by kernel_rfl) (by kernel_rfl) (by kernel_rfl) (want_0) (fun w hok => x_pickF (tmB rfl rfl) hg13_7 (tmB rfl rfl)) ?_
                      refine rg_done (oks_drop hS 0 rfl) (by kernel_rfl) ?_
                      refine then_n (hK30 _ _ ?_); clear hK30 K30
                      refine cnd (tm rfl) (fun hc4 => ?_) (fun hc4 => ?_)
                      · exfalso
                        unfold echoB at hc4
                        simp [*] at hc4
                        omega
                      try (exfalso; first | with_reducible exact absurd hc4 Bool.false_ne_true | with_reducible exact absurd hc4.symm Bool.false_ne_true | (simp only [nrm] at hc4; omega) | (simp at hc4; done))
                      all_goals
                       try simp only [nrm] at hc4
                       refine wp_skip ?_
                       refine inb_n ?_
                       refine then_n (hK25 _ _ ?_); clear hK25 K25
                       refine wlit ?_
                       first
                        | refine wl_v (x_addN (tmI rfl rfl) (ev_cN 1) (fit_i64 (by omega))) ?_
                        | refine wl_v (x_addI (tmI rfl rfl) (ev_cN 1) (IntWalk.i64_in _ (by omega))) ?_
                        | refine wl_v (x_add (tmI rfl rfl) (ev_cN 1)) ?_
                       refine wl_v (x_move (tmI rfl rfl)) ?_
                       refine wl_nil ?_
                       exact then_n ⟨_, _, rfl, (by show _ < _; omega), (by repeat (first | exact agree_self | exact agree_refl | refine agree_upd rfl ?_ | refine agree_mix rfl ?_)), j + 1, rfl, (by first | rfl | go_num | exact congrArg (Value.int _) (by first | omega | (simp; done) | (simp; omega))), hS, (by omega)⟩
                  try (exfalso; first | with_reducible exact absurd hc3 Bool.false_ne_true | with_reducible exact absurd hc3.symm Bool.false_ne_true | (simp only [nrm] at hc3; omega) | (simp at hc3; done))
                  all_goals
                   try simp only [nrm] at hc3
                   refine wp_skip ?_
                   refine then_n (hK28 _ _ ?_); clear hK28 K28
                   refine wp_seq_k ?_; intro K31 hK31
                   refine rg_startk 0 hS mixed_ ?_
                   clear hS; intro w hS
                   refine rg_take 0 rfl rfl (by kernel_rfl) (by kernel_rfl) (by kernel_rfl) (want_0) (fun w hok => x_loadA (cs := [_, _, _, _, _]) Try.underlying85 rfl ts_85 (tmP rfl rfl) (rangeB hok 1 rfl rfl)) ?_
                   refine rg_take 1 rfl rfl (by kernel_rfl) (by kernel_rfl) (by kernel_rfl) (want_0) (fun w hok => x_move (tmB rfl rfl)) ?_
                   refine rg_take 3 rfl rfl (by kernel_rfl) (by kernel_rfl) (by kernel_rfl) (want_0) (fun w hok => x_loadA (cs := [_, _, _, _, _]) Try.underlying88 rfl ts_88 (tmP rfl rfl) (rangeB hok 4 rfl rfl)) ?_
                   refine rg_take 4 rfl rfl (by kernel_rfl) (by kernel_rfl) (by kernel_rfl) (want_0) (fun w hok => x_move (tmB rfl rfl)) ?_
                   refine rg_step 2 rfl (by kernel_rfl) (want_0) (oks_drop hS 0 rfl) ?_; intro K hK
                   refine ow_call Try.func69 rfl rfl (evs_cons (tmA rfl rfl) <| evs_cons (tmB rfl rfl) <| evs_nil) (icmp_error_c t c s d A n k _ _) ?_
                   rintro e w ⟨rfl, hk⟩
                   refine ⟨_, rfl, ?_⟩
                   replace hS := hS.kept hk
                   clear hk
                   refine hK _ _ ?_; clear hK K
                   refine rg_step 5 rfl (by kernel_rfl) (want_0) (oks_drop hS 0 rfl) ?_; intro K hK
                   refine ow_call Try.func70 rfl rfl (evs_cons (tmA rfl rfl) <| evs_cons (tmB rfl rfl) <| evs_nil) (ricmp_error_c t c s d A n k _ _) ?_
                   rintro e w ⟨rfl, hk⟩
                   refine ⟨_, rfl, ?_⟩
                   replace hS := hS.kept hk
                   clear hk
                   refine hK _ _ ?_; clear hK K
                   refine rg_take 6 rfl rfl (by kernel_rfl) (by kernel_rfl) (by kernel_rfl) (want_0) (fun w hok => x_bneq Try.underlying4 (tmB rfl rfl) (tmB rfl rfl)) ?_
                   refine rg_take 7 rfl rfl (by kernel_rfl) (by kernel_rfl) (by kernel_rfl) (want_0) (fun w hok => x_move (tmB rfl rfl)) ?_
                   refine gs_rg (tm (t := 76) rfl) (fun hg13_7 => ?_) (fun hg13_7 => ?_)
                   · exfalso
                     simp at hg13_7
                   have hg13_7' := hg13_7; (try simp only [nrm] at hg13_7'); try (exfalso; first | with_reducible exact absurd hg13_7 Bool.false_ne_true | with_reducible exact absurd hg13_7.symm Bool.false_ne_true | omega | (simp at hg13_7; done))
                   all_goals
                    refine rg_take 8 rfl rfl (by kernel_rfl) (by kernel_rfl) (by kernel_rfl) (want_y rfl rfl rfl rfl (by rw [hg13_7]; rfl)) (fun w hok => x_loadA (cs := [_, _, _, _, _]) Try.underlying85 rfl ts_85 (tmP rfl rfl) (rangeB hok 1 rfl rfl)) ?_
                    refine rg_take 9 rfl rfl (by kernel_rfl) (by kernel_rfl) (by kernel_rfl) (want_y rfl rfl rfl rfl (by rw [hg13_7]; rfl)) (fun w hok => x_move (tmB rfl rfl)) ?_
                    refine rg_take 11 rfl rfl (by kernel_rfl) (by kernel_rfl) (by kernel_rfl) (want_y rfl rfl rfl rfl (by rw [hg13_7]; rfl)) (fun w hok => x_fa 0 Try.underlying88 rfl rfl ts_5 (tmP rfl rfl)) ?_
                    first
                     | refine rg_take 12 rfl rfl (by kernel_rfl) (by kernel_rfl) (by kernel_rfl) (want_y rfl rfl rfl rfl (by rw [hg13_7]; rfl)) (fun w hok => x_load Try.underlying5 rfl (tmP rfl rfl) (cellB hok 4 rfl rfl)) ?_
                     | refine rg_take 12 rfl rfl (by kernel_rfl) (by kernel_rfl) (by kernel_rfl) (want_y rfl rfl rfl rfl (by rw [hg13_7]; rfl)) (fun w hok => x_load Try.underlying5 rfl (tmP rfl rfl) (cellB hok 4 rfl (getm (by omega)))) ?_
                    refine rg_take 13 rfl rfl (by kernel_rfl) (by kernel_rfl) (by kernel_rfl) (want_y rfl rfl rfl rfl (by rw [hg13_7]; rfl)) (fun w hok => x_move (tmI rfl rfl)) ?_
                    refine rg_take 14 rfl rfl (by kernel_rfl) (by kernel_rfl) (by kernel_rfl) (want_y rfl rfl rfl rfl (by rw [hg13_7]; rfl)) (fun w hok => x_eql (tmI rfl rfl) (tmI rfl rfl)) ?_
                    refine rg_step 10 rfl (by kernel_rfl) (want_y rfl rfl rfl rfl (by rw [hg13_7]; rfl)) (oks_drop hS 0 rfl) ?_; intro K hK
                    refine ow_call Try.func71 rfl rfl (evs_cons (tmA rfl rfl) <| evs_cons (tmB rfl rfl) <| evs_nil) (icmp_echo_c t c s d A n k _ _) ?_
                    rintro e w ⟨rfl, hk⟩
                    refine ⟨_, rfl, ?_⟩
                    replace hS := hS.kept hk
                    clear hk
                    refine hK _ _ ?_; clear hK K
                    refine rg_take 15 rfl rfl (by kernel_rfl) (by kernel_rfl) (by kernel_rfl) (want_y rfl rfl rfl rfl (by rw [hg13_7]; rfl)) (fun w hok => x_bneq Try.underlying4 (tmB rfl rfl) (tmB rfl rfl)) ?_
                    refine rg_take 16 rfl rfl (by kernel_rfl) (by kernel_rfl) (by kernel_rfl) (want_0) (fun w hok => x_pickF (tmB rfl rfl) hg13_7 (tmB rfl rfl)) ?_
                    refine rg_done (oks_drop hS 0 rfl) (by kernel_rfl) ?_
                    refine then_n (hK31 _ _ ?_); clear hK31 K31
                    refine cnd (tm rfl) (fun hc4 => ?_) (fun hc4 => ?_)
                    · exfalso
                      unfold echoB at hc4
                      simp [*] at hc4
                      omega
                    try (exfalso; first | with_reducible exact absurd hc4 Bool.false_ne_true | with_reducible exact absurd hc4.symm Bool.false_ne_true | (simp only [nrm] at hc4; omega) | (simp at hc4; done))
                    all_goals
                     try simp only [nrm] at hc4
                     refine wp_skip ?_
                     refine inb_n ?_
                     refine then_n (hK25 _ _ ?_); clear hK25 K25
                     refine wlit ?_
                     first
                      | refine wl_v (x_addN (tmI rfl rfl) (ev_cN 1) (fit_i64 (by omega))) ?_
                      | refine wl_v (x_addI (tmI rfl rfl) (ev_cN 1) (IntWalk.i64_in _ (by omega))) ?_
                      | refine wl_v (x_add (tmI rfl rfl) (ev_cN 1)) ?_
                     refine wl_v (x_move (tmI rfl rfl)) ?_
                     refine wl_nil ?_
                     exact then_n ⟨_, _, rfl, (by show _ < _; omega), (by repeat (first | exact agree_self | exact agree_refl | refine agree_upd rfl ?_ | refine agree_mix rfl ?_)), j + 1, rfl, (by first | rfl | go_num | exact congrArg (Value.int _) (by first | omega | (simp; done) | (simp; omega))), hS, (by omega)⟩
               try (exfalso; first | with_reducible exact absurd hc2 Bool.false_ne_true | with_reducible exact absurd hc2.symm Bool.false_ne_true | (simp only [nrm] at hc2; omega) | (simp at hc2; done))
               all_goals
                try simp only [nrm] at hc2
                refine wp_exit ?_
                refine then_x ?_; clear hK24 K24
                refine then_x ?_
                refine inb_x ?_
                refine then_n (hK21 _ _ ?_); clear hK21 K21
                refine wp_seq_k ?_; intro K32 hK32
                refine wlit ?_
                refine wl_v (x_loadA (cs := [_, _, _, _, _]) Try.underlying85 rfl ts_85 (tmP rfl rfl) (rangeB hS.ok 1 rfl rfl)) ?_
                refine wl_v (x_loadA (cs := [_, _, _]) Try.underlying27 rfl ts_27 (tmP rfl rfl) (rangeB hS.ok 3 rfl rfl)) ?_
                refine wl_v (x_loadA (cs := [_, _, _]) Try.underlying27 rfl ts_27 (tmP rfl rfl) (rangeB hS.ok 2 rfl rfl)) ?_
                refine wl_e rfl ?_; intro K hK
                refine ow_call Try.func72 rfl rfl (evs_cons (tmA rfl rfl) <| evs_cons (tmA rfl rfl) <| evs_cons (tmA rfl rfl) <| evs_nil) (hsm _ (viewV hS.ok 5 rfl)) ?_
                rintro e w ⟨A5, k5, rfl, hn, hk⟩
                refine ⟨_, rfl, ?_⟩
                replace hS := hS.add hk hn -- +rows
                clear hn hk
                refine hK _ _ ?_; clear hK K
                refine wl_e rfl ?_; intro K hK
                refine ow_alloc hS tz_85 rfl ?_
                clear hS; intro g16_4 w hg16_4 hS
                refine hK _ _ ?_; clear hK K
                refine wl_e rfl ?_; intro K hK
                refine ow_storeA hS 0 rfl ts_85 (tmP rfl rfl) (tmA rfl rfl) rfl rfl rfl ?_
                clear hS; intro w hS
                try replace hS := St.nm (M' := [.blk _ _ [_, _, _, _, _], .row _ _ _ _ _, _, .blk _ _ [_, _, _, _, _], .blk _ _ [_, _, _], .blk _ _ [_, _, _], .blk _ _ [_, _, _, _, _], .vw _ _]) hS rfl
                refine hK _ _ ?_; clear hK K
                refine wl_nil ?_
                refine then_n (hK32 _ _ ?_); clear hK32 K32
                refine wp_seq_k ?_; intro K33 hK33
                refine rg_startk 0 hS mixed_ ?_
                clear hS; intro w hS
                refine rg_take 0 rfl rfl (by kernel_rfl) (by kernel_rfl) (by kernel_rfl) (want_0) (fun w hok => x_loadA (cs := [_, _, _, _, _]) Try.underlying85 rfl ts_85 (tmP rfl rfl) (rangeB hok 0 rfl rfl)) ?_
                refine rg_take 2 rfl rfl (by kernel_rfl) (by kernel_rfl) (by kernel_rfl) (want_0) (fun w hok => x_loadA (cs := [_, _, _, _, _]) Try.underlying88 rfl ts_88 (tmP rfl rfl) (rangeB hok 6 rfl rfl)) ?_
                refine rg_take 3 rfl rfl (by kernel_rfl) (by kernel_rfl) (by kernel_rfl) (want_0) (fun w hok => x_loadA (cs := [_, _, _]) Try.underlying27 rfl ts_27 (tmP rfl rfl) (rangeB hok 5 rfl rfl)) ?_
                refine rg_take 4 rfl rfl (by kernel_rfl) (by kernel_rfl) (by kernel_rfl) (want_0) (fun w hok => x_loadA (cs := [_, _, _]) Try.underlying27 rfl ts_27 (tmP rfl rfl) (rangeB hok 4 rfl rfl)) ?_
                refine rg_step 1 rfl (by kernel_rfl) (want_0) (oks_drop hS 0 rfl) ?_; intro K hK
                refine ow_call Try.func64 rfl rfl (evs_cons (tmA rfl rfl) <| evs_nil) (of08_c t c ck d A5 n k5 _) ?_
                rintro e w ⟨rfl, hk⟩
                refine ⟨_, rfl, ?_⟩
                replace hS := hS.kept hk
                clear hk
                refine hK _ _ ?_; clear hK K
                refine rg_step 5 rfl (by kernel_rfl) (want_0) (oks_drop hS 0 rfl) ?_; intro K hK
                refine ow_call Try.func73 rfl rfl (evs_cons (tmA rfl rfl) <| evs_cons (tmA rfl rfl) <| evs_cons (tmA rfl rfl) <| evs_nil) (hrs _ (viewV hS.ok 7 rfl)) ?_
                rintro e w ⟨rfl, hk⟩
                refine ⟨_, rfl, ?_⟩
                replace hS := hS.kept hk
                clear hk
                refine hK _ _ ?_; clear hK K
                refine rg_step 6 rfl (by kernel_rfl) (want_0) (oks_drop hS 0 rfl) ?_; intro K hK
                refine ow_call Try.func63 rfl rfl (evs_cons (tmA rfl rfl) <| evs_cons (tmA rfl rfl) <| evs_nil) (same08_c t c ck d t c ck d A5 n k5 A n k l l _ (viewR hS.ok 1 rfl) hl hlb_ (viewV hS.ok 7 rfl) hl hlb_) ?_
                rintro e w ⟨rfl, hk⟩
                refine ⟨_, rfl, ?_⟩
                replace hS := hS.kept hk
                clear hk
                refine hK _ _ ?_; clear hK K
                refine rg_take 7 rfl rfl (by kernel_rfl) (by kernel_rfl) (by kernel_rfl) (want_0) (fun w hok => x_move (tmB rfl rfl)) ?_
                refine gs_rgs (tm (t := 98) rfl) (fun hg17_7 => ?_) (fun hg17_7 => ?_)
                · exfalso
                  simp at hg17_7
                have hg17_7' := hg17_7; (try simp only [nrm] at hg17_7'); try (exfalso; first | with_reducible exact absurd hg17_7 Bool.false_ne_true | with_reducible exact absurd hg17_7.symm Bool.false_ne_true | omega | (simp at hg17_7; done))
                all_goals
                 refine rg_take 8 rfl rfl (by kernel_rfl) (by kernel_rfl) (by kernel_rfl) (want_y rfl rfl rfl rfl (by rw [hg17_7]; rfl)) (fun w hok => x_loadA (cs := [_, _, _, _, _]) Try.underlying85 rfl ts_85 (tmP rfl rfl) (rangeB hok 3 rfl rfl)) ?_
                 refine rg_take 9 rfl rfl (by kernel_rfl) (by kernel_rfl) (by kernel_rfl) (want_y rfl rfl rfl rfl (by rw [hg17_7]; rfl)) (fun w hok => x_loadA (cs := [_, _, _]) Try.underlying27 rfl ts_27 (tmP rfl rfl) (rangeB hok 5 rfl rfl)) ?_
                 refine rg_take 10 rfl rfl (by kernel_rfl) (by kernel_rfl) (by kernel_rfl) (want_y rfl rfl rfl rfl (by rw [hg17_7]; rfl)) (fun w hok => x_loadA (cs := [_, _, _]) Try.underlying27 rfl ts_27 (tmP rfl rfl) (rangeB hok 4 rfl rfl)) ?_
                 refine rg_take 12 rfl rfl (by kernel_rfl) (by kernel_rfl) (by kernel_rfl) (want_y rfl rfl rfl rfl (by rw [hg17_7]; rfl)) (fun w hok => x_loadA (cs := [_, _, _, _, _]) Try.underlying88 rfl ts_88 (tmP rfl rfl) (rangeB hok 6 rfl rfl)) ?_
                 refine rg_take 13 rfl rfl (by kernel_rfl) (by kernel_rfl) (by kernel_rfl) (want_y rfl rfl rfl rfl (by rw [hg17_7]; rfl)) (fun w hok => x_loadA (cs := [_, _, _]) Try.underlying27 rfl ts_27 (tmP rfl rfl) (rangeB hok 5 rfl rfl)) ?_
                 refine rg_take 14 rfl rfl (by kernel_rfl) (by kernel_rfl) (by kernel_rfl) (want_y rfl rfl rfl rfl (by rw [hg17_7]; rfl)) (fun w hok => x_loadA (cs := [_, _, _]) Try.underlying27 rfl ts_27 (tmP rfl rfl) (rangeB hok 4 rfl rfl)) ?_
                 refine rg_step 11 rfl (by kernel_rfl) (want_y rfl rfl rfl rfl (by rw [hg17_7]; rfl)) (oks_drop hS 0 rfl) ?_; intro K hK
                 refine ow_call Try.func74 rfl rfl (evs_cons (tmA rfl rfl) <| evs_cons (tmA rfl rfl) <| evs_cons (tmA rfl rfl) <| evs_nil) (icmp_fine_c t c s d A n k l a b _ (viewV hS.ok 7 rfl) hl hlb_ h6 hla hlb (by omega) (by omega) (by omega) (by omega) (by omega)) ?_
                 rintro e w ⟨rfl, hk⟩
                 refine ⟨_, rfl, ?_⟩
                 replace hS := hS.kept hk
                 clear hk
                 refine hK _ _ ?_; clear hK K
                 refine rg_step 15 rfl (by kernel_rfl) (want_y rfl rfl rfl rfl (by rw [hg17_7]; rfl)) (oks_drop hS 0 rfl) ?_; intro K hK
                 refine ow_call Try.func75 rfl rfl (evs_cons (tmA rfl rfl) <| evs_cons (tmA rfl rfl) <| evs_cons (tmA rfl rfl) <| evs_nil) (ricmp_check_c t c s d A n k l a b _ (viewV hS.ok 7 rfl) hl hlb_ h6 hla hlb (by omega) (by omega) (by omega) (by omega) (by omega)) ?_
                 rintro e w ⟨rfl, hk⟩
                 refine ⟨_, rfl, ?_⟩
                 replace hS := hS.kept hk
                 clear hk
                 refine hK _ _ ?_; clear hK K
                 refine rg_take 16 rfl rfl (by kernel_rfl) (by kernel_rfl) (by kernel_rfl) (want_y rfl rfl rfl rfl (by rw [hg17_7]; rfl)) (fun w hok => x_eql (tmI rfl rfl) (ev_cN 0)) ?_
                 refine rg_take 17 rfl rfl (by kernel_rfl) (by kernel_rfl) (by kernel_rfl) (want_y rfl rfl rfl rfl (by rw [hg17_7]; rfl)) (fun w hok => x_beql Try.underlying4 (tmB rfl rfl) (tmB rfl rfl)) ?_
                 refine rg_take 18 rfl rfl (by kernel_rfl) (by kernel_rfl) (by kernel_rfl) (want_0) (fun w hok => x_pickT (tmB rfl rfl) hg17_7 (tmB rfl rfl)) ?_
                 refine rg_take 19 rfl rfl (by kernel_rfl) (by kernel_rfl) (by kernel_rfl) (want_0) (fun w hok => x_move (tmB rfl rfl)) ?_
                 refine gs_rgs (tm (t := 110) rfl) (fun hg17_19 => ?_) (fun hg17_19 => ?_)
                 · exfalso
                   simp at hg17_19
                   omega
                 have hg17_19' := hg17_19; (try simp only [nrm] at hg17_19'); try (exfalso; first | with_reducible exact absurd hg17_19 Bool.false_ne_true | with_reducible exact absurd hg17_19.symm Bool.false_ne_true | omega | (simp at hg17_19; done))
                 all_goals
                  refine rg_take 20 rfl rfl (by kernel_rfl) (by kernel_rfl) (by kernel_rfl) (want_y rfl rfl rfl rfl (by rw [hg17_19]; rfl)) (fun w hok => x_loadA (cs := [_, _, _, _, _]) Try.underlying85 rfl ts_85 (tmP rfl rfl) (rangeB hok 0 rfl rfl)) ?_
                  refine rg_take 21 rfl rfl (by kernel_rfl) (by kernel_rfl) (by kernel_rfl) (want_y rfl rfl rfl rfl (by rw [hg17_19]; rfl)) (fun w hok => x_loadA (cs := [_, _, _]) Try.underlying27 rfl ts_27 (tmP rfl rfl) (rangeB hok 5 rfl rfl)) ?_
                  refine rg_take 22 rfl rfl (by kernel_rfl) (by kernel_rfl) (by kernel_rfl) (want_y rfl rfl rfl rfl (by rw [hg17_19]; rfl)) (fun w hok => x_loadA (cs := [_, _, _]) Try.underlying27 rfl ts_27 (tmP rfl rfl) (rangeB hok 4 rfl rfl)) ?_
                  refine rg_step 23 rfl (by kernel_rfl) (want_y rfl rfl rfl rfl (by rw [hg17_19]; rfl)) (oks_drop hS 0 rfl) ?_; intro K hK
                  refine ow_call Try.func74 rfl rfl (evs_cons (tmA rfl rfl) <| evs_cons (tmA rfl rfl) <| evs_cons (tmA rfl rfl) <| evs_nil) (icmp_fine_c t c ck d A5 n k5 l a b _ (viewR hS.ok 1 rfl) hl hlb_ h6 hla hlb (by omega) (by omega) (by omega) (by omega) (by omega)) ?_
                  rintro e w ⟨rfl, hk⟩
                  refine ⟨_, rfl, ?_⟩
                  rw [hfin]
                  replace hS := hS.kept hk
                  clear hk
                  refine hK _ _ ?_; clear hK K
                  refine rg_take 24 rfl rfl (by kernel_rfl) (by kernel_rfl) (by kernel_rfl) (want_0) (fun w hok => x_pickT (tmB rfl rfl) hg17_19 (tmB rfl rfl)) ?_
                  refine rg_take 25 rfl rfl (by kernel_rfl) (by kernel_rfl) (by kernel_rfl) (want_0) (fun w hok => x_move (tmB rfl rfl)) ?_
                  refine gs_rgs (tm (t := 116) rfl) (fun hg17_25 => ?_) (fun hg17_25 => ?_)
                  · exfalso
                    simp at hg17_25
                  have hg17_25' := hg17_25; (try simp only [nrm] at hg17_25'); try (exfalso; first | with_reducible exact absurd hg17_25 Bool.false_ne_true | with_reducible exact absurd hg17_25.symm Bool.false_ne_true | omega | (simp at hg17_25; done))
                  all_goals
                   refine rg_step 26 rfl (by kernel_rfl) (want_y rfl rfl rfl rfl (by rw [hg17_25]; rfl)) (oks_drop hS 0 rfl) ?_; intro K hK
                   refine ow_call Try.func60 rfl rfl (evs_nil) (law08_awake_c _) ?_
                   rintro e w ⟨rfl, hk⟩
                   refine ⟨_, rfl, ?_⟩
                   replace hS := hS.kept hk
                   clear hk
                   refine hK _ _ ?_; clear hK K
                   refine rg_take 27 rfl rfl (by kernel_rfl) (by kernel_rfl) (by kernel_rfl) (want_0) (fun w hok => x_pickT (tmB rfl rfl) hg17_25 (tmB rfl rfl)) ?_
                   refine rg_take 28 rfl rfl (by kernel_rfl) (by kernel_rfl) (by kernel_rfl) (want_0) (fun w hok => x_assign (tmB rfl rfl)) ?_
                   refine rg_done (oks_drop hS 0 rfl) (by kernel_rfl) ?_
                   refine then_n (hK33 _ _ ?_); clear hK33 K33
                   refine wp_ret ?_
                   refine ret1 rfl (.tmp rfl (show _ = Value.bool _ from rfl)) ?_
                   exact ⟨rfl, hS.kp.below⟩
        · intro K hK
          first
           | refine ow_v (x_bstr Try.underlying22 Try.underlying5 Try.underlying9 (tmS rfl rfl) (viewR hS.ok 0 rfl) (by first | assumption | exact Bytes.nil | (repeat' (first | assumption | exact Bytes.nil | exact be_bytes _ _ | apply Bytes.append | apply Bytes.take | apply Bytes.drop | apply Bytes.replicate))) (by first | rfl | assumption | (simp; done) | (simp; omega) | omega)) ?_
           | refine ow_v (x_bstr Try.underlying22 Try.underlying5 Try.underlying9 (tmS rfl rfl) (viewR hS.ok 1 rfl) (by first | assumption | exact Bytes.nil | (repeat' (first | assumption | exact Bytes.nil | exact be_bytes _ _ | apply Bytes.append | apply Bytes.take | apply Bytes.drop | apply Bytes.replicate))) (by first | rfl | assumption | (simp; done) | (simp; omega) | omega)) ?_
           | refine ow_v (x_bstr Try.underlying22 Try.underlying5 Try.underlying9 (tmS rfl rfl) (viewV hS.ok 3 rfl) (by first | assumption | exact Bytes.nil | (repeat' (first | assumption | exact Bytes.nil | exact be_bytes _ _ | apply Bytes.append | apply Bytes.take | apply Bytes.drop | apply Bytes.replicate))) (by first | rfl | assumption | (simp; done) | (simp; omega) | omega)) ?_
           | refine ow_v (x_bstr Try.underlying22 Try.underlying5 Try.underlying9 (tmS rfl rfl) (viewR hS.ok 4 rfl) (by first | assumption | exact Bytes.nil | (repeat' (first | assumption | exact Bytes.nil | exact be_bytes _ _ | apply Bytes.append | apply Bytes.take | apply Bytes.drop | apply Bytes.replicate))) (by first | rfl | assumption | (simp; done) | (simp; omega) | omega)) ?_
           | refine ow_v (x_bstr Try.underlying22 Try.underlying5 Try.underlying9 (tmS rfl rfl) (viewV hS.ok 9 rfl) (by first | assumption | exact Bytes.nil | (repeat' (first | assumption | exact Bytes.nil | exact be_bytes _ _ | apply Bytes.append | apply Bytes.take | apply Bytes.drop | apply Bytes.replicate))) (by first | rfl | assumption | (simp; done) | (simp; omega) | omega)) ?_
           | refine ow_v (x_bstr (l := []) Try.underlying22 Try.underlying5 Try.underlying9 (tmS rfl rfl) View.nil_ (by first | assumption | exact Bytes.nil | (repeat' (first | assumption | exact Bytes.nil | exact be_bytes _ _ | apply Bytes.append | apply Bytes.take | apply Bytes.drop | apply Bytes.replicate))) (by first | rfl | assumption | (simp; done) | (simp; omega) | omega)) ?_
          refine hK _ _ ?_; clear hK K
          refine rg_step 2 rfl (by kernel_rfl) (want_0) (oks_drop hS 2 rfl) ?_; intro K hK
          first
           | refine ow_v (x_bstr Try.underlying22 Try.underlying5 Try.underlying9 (tmS rfl rfl) (viewR hS.ok 0 rfl) (by first | assumption | exact Bytes.nil | (repeat' (first | assumption | exact Bytes.nil | exact be_bytes _ _ | apply Bytes.append | apply Bytes.take | apply Bytes.drop | apply Bytes.replicate))) (by first | rfl | assumption | (simp; done) | (simp; omega) | omega)) ?_
           | refine ow_v (x_bstr Try.underlying22 Try.underlying5 Try.underlying9 (tmS rfl rfl) (viewR hS.ok 1 rfl) (by first | assumption | exact Bytes.nil | (repeat' (first | assumption | exact Bytes.nil | exact be_bytes _ _ | apply Bytes.append | apply Bytes.take | apply Bytes.drop | apply Bytes.replicate))) (by first | rfl | assumption | (simp; done) | (simp; omega) | omega)) ?_
           | refine ow_v (x_bstr Try.underlying22 Try.underlying5 Try.underlying9 (tmS rfl rfl) (viewV hS.ok 3 rfl) (by first | assumption | exact Bytes.nil | (repeat' (first | assumption | exact Bytes.nil | exact be_bytes _ _ | apply Bytes.append | apply Bytes.take | apply Bytes.drop | apply Bytes.replicate))) (by first | rfl | assumption | (simp; done) | (simp; omega) | omega)) ?_
           | refine ow_v (x_bstr Try.underlying22 Try.underlying5 Try.underlying9 (tmS rfl rfl) (viewR hS.ok 4 rfl) (by first | assumption | exact Bytes.nil | (repeat' (first | assumption | exact Bytes.nil | exact be_bytes _ _ | apply Bytes.append | apply Bytes.take | apply Bytes.drop | apply Bytes.replicate))) (by first | rfl | assumption | (simp; done) | (simp; omega) | omega)) ?_
           | refine ow_v (x_bstr Try.underlying22 Try.underlying5 Try.underlying9 (tmS rfl rfl) (viewV hS.ok 9 rfl) (by first | assumption | exact Bytes.nil | (repeat' (first | assumption | exact Bytes.nil | exact be_bytes _ _ | apply Bytes.append | apply Bytes.take | apply Bytes.drop | apply Bytes.replicate))) (by first | rfl | assumption | (simp; done) | (simp; omega) | omega)) ?_
           | refine ow_v (x_bstr (l := []) Try.underlying22 Try.underlying5 Try.underlying9 (tmS rfl rfl) View.nil_ (by first | assumption | exact Bytes.nil | (repeat' (first | assumption | exact Bytes.nil | exact be_bytes _ _ | apply Bytes.append | apply Bytes.take | apply Bytes.drop | apply Bytes.replicate))) (by first | rfl | assumption | (simp; done) | (simp; omega) | omega)) ?_
          refine hK _ _ ?_; clear hK K
          refine rg_take 6 rfl rfl (by kernel_rfl) (by kernel_rfl) (by kernel_rfl) (want_0) (fun w hok => x_Gneq (tmG rfl rfl) (tmG rfl rfl) (by first | assumption | exact Bytes.nil | (repeat' (first | assumption | exact Bytes.nil | exact be_bytes _ _ | apply Bytes.append | apply Bytes.take | apply Bytes.drop | apply Bytes.replicate))) (by first | assumption | exact Bytes.nil | (repeat' (first | assumption | exact Bytes.nil | exact be_bytes _ _ | apply Bytes.append | apply Bytes.take | apply Bytes.drop | apply Bytes.replicate)))) ?_
          refine rg_take 7 rfl rfl (by kernel_rfl) (by kernel_rfl) (by kernel_rfl) (want_0) (fun w hok => x_move (tmB rfl rfl)) ?_
          refine gs_rg (tm (t := 51) rfl) (fun hg5_7 => ?_) (fun hg5_7 => ?_)
          · exfalso
            simp at hg5_7
          have hg5_7' := hg5_7; (try simp only [nrm] at hg5_7'); try (exfalso; first | with_reducible exact absurd hg5_7 Bool.false_ne_true | with_reducible exact absurd hg5_7.symm Bool.false_ne_true | omega | (simp at hg5_7; done))
          all_goals
           refine rg_take 8 rfl rfl (by kernel_rfl) (by kernel_rfl) (by kernel_rfl) (want_y rfl rfl rfl rfl (by rw [hg5_7]; rfl)) (fun w hok => x_loadA (cs := [_, _, _, _, _]) Try.underlying85 rfl ts_85 (tmP rfl rfl) (rangeB hok 0 rfl rfl)) ?_
           refine rg_take 10 rfl rfl (by kernel_rfl) (by kernel_rfl) (by kernel_rfl) (want_y rfl rfl rfl rfl (by rw [hg5_7]; rfl)) (fun w hok => x_loadA (cs := [_, _, _, _, _]) Try.underlying88 rfl ts_88 (tmP rfl rfl) (rangeB hok 6 rfl rfl)) ?_
           refine rg_step 9 rfl (by kernel_rfl) (want_y rfl rfl rfl rfl (by rw [hg5_7]; rfl)) (oks_drop hS 2 rfl) ?_; intro K hK
           refine ow_call Try.func64 rfl rfl (evs_cons (tmA rfl rfl) <| evs_nil) (of08_c t c s d A2 n n _) ?_
           rintro e w ⟨rfl, hk⟩
           refine ⟨_, rfl, ?_⟩
           replace hS := hS.kept hk
           clear hk
           refine hK _ _ ?_; clear hK K
           refine rg_step 11 rfl (by kernel_rfl) (want_y rfl rfl rfl rfl (by rw [hg5_7]; rfl)) (oks_drop hS 2 rfl) ?_; intro K hK
           refine ow_call Try.func63 rfl rfl (evs_cons (tmA rfl rfl) <| evs_cons (tmA rfl rfl) <| evs_nil) (same08_c t c s d t c s d A2 n n A n k l l _ (viewV hS.ok 3 rfl) hl hlb_ (viewV hS.ok 9 rfl) hl hlb_) ?_
           rintro e w ⟨rfl, hk⟩
           refine ⟨_, rfl, ?_⟩
           replace hS := hS.kept hk
           clear hk
           refine hK _ _ ?_; clear hK K
           refine rg_take 12 rfl rfl (by kernel_rfl) (by kernel_rfl) (by kernel_rfl) (want_y rfl rfl rfl rfl (by rw [hg5_7]; rfl)) (fun w hok => x_not (tmB rfl rfl)) ?_
           refine rg_take 13 rfl rfl (by kernel_rfl) (by kernel_rfl) (by kernel_rfl) (want_0) (fun w hok => x_pickF (tmB rfl rfl) hg5_7 (tmB rfl rfl)) ?_
           refine rg_take 14 rfl rfl (by kernel_rfl) (by kernel_rfl) (by kernel_rfl) (want_0) (fun w hok => x_move (tmB rfl rfl)) ?_
           refine gs_rg (tm (t := 58) rfl) (fun hg5_14 => ?_) (fun hg5_14 => ?_)
           · exfalso
             simp at hg5_14
           have hg5_14' := hg5_14; (try simp only [nrm] at hg5_14'); try (exfalso; first | with_reducible exact absurd hg5_14 Bool.false_ne_true | with_reducible exact absurd hg5_14.symm Bool.false_ne_true | omega | (simp at hg5_14; done))
           all_goals
            refine rg_take 15 rfl rfl (by kernel_rfl) (by kernel_rfl) (by kernel_rfl) (want_y rfl rfl rfl rfl (by rw [hg5_14]; rfl)) (fun w hok => x_move (tmI rfl rfl)) ?_
            refine rg_take 16 rfl rfl (by kernel_rfl) (by kernel_rfl) (by kernel_rfl) (want_y rfl rfl rfl rfl (by rw [hg5_14]; rfl)) (fun w hok => x_neq (tmI rfl rfl) (ev_cN 0)) ?_
            refine rg_take 17 rfl rfl (by kernel_rfl) (by kernel_rfl) (by kernel_rfl) (want_0) (fun w hok => x_pickF (tmB rfl rfl) hg5_14 (tmB rfl rfl)) ?_
            refine rg_done (oks_drop hS 2 rfl) (by kernel_rfl) ?_
            replace hS := hS.pick [5, 6, 7, 8, 9] rfl rfl
            try replace hS := St.nm (M' := [.blk _ _ [_, _, _, _, _], .blk _ _ [_, _, _], .blk _ _ [_, _, _], .blk _ _ [_, _, _, _, _], .vw _ _]) hS rfl
            refine then_n (hK7 _ _ ?_); clear hK7 K7
            refine cnd (tm rfl) (fun hc1 => ?_) (fun hc1 => ?_)
            · exfalso
              simp at hc1
            try (exfalso; first | with_reducible exact absurd hc1 Bool.false_ne_true | with_reducible exact absurd hc1.symm Bool.false_ne_true | (simp only [nrm] at hc1; omega) | (simp at hc1; done))
            all_goals
             try simp only [nrm] at hc1
             refine wp_skip ?_
             refine then_n (hK6 _ _ ?_); clear hK6 K6
             refine wp_seq_k ?_; intro K34 hK34
             refine wp_seq_k ?_; intro K35 hK35
             refine wlit ?_
             refine wl_e rfl ?_; intro K hK
             refine ow_build hS Try.underlying96 tz_4 (bc_take ev_c <| bc_take ev_c <| bc_nil) rfl rfl (by kernel_rfl) ?_
             clear hS; intro g7_0 w hg7_0 hS
             refine hK _ _ ?_; clear hK K
             refine wl_v (x_len Try.underlying96 (tmS rfl rfl)) ?_
             refine wl_v (x_move (ev_cN 0)) ?_
             refine wl_nil ?_
             refine then_n (hK35 _ _ ?_); clear hK35 K35
             refine wp_block ?_
             refine lp [6, 11, 12, 64, 65, 66, 67, 68, 69, 70, 71, 72, 73, 74, 75, 76, 77, 78, 79, 80, 81, 82, 83, 84, 85, 86] (fun mz g w => ∃ (j : Nat), mz = 2 - j ∧ g 64 = .int .i64 (j : Int) ∧ St [] w0 [.blk g7_0 4 [.bool false, .bool true], .blk g3_2 85 (msgV t c s d A n k), .blk g0_2 27 b.V, .blk g0_1 27 a.V, .blk g0_0 88 (msgV t c s d A n k), .vw A (l.map u8v)] w ∧ (j ≤ 2)) ?_ ?_
             · exact ⟨_, 0, rfl, (by first | rfl | go_num | exact congrArg (Value.int _) (by first | omega | (simp; done) | (simp; omega))), hS, (by omega)⟩
             · clear hS; intro mz g w hI
               obtain ⟨j, rfl, hs64, hS, hj⟩ := hI
               refine fr_know (d := 64) hs64 ?_; clear hs64
               refine wp_seq_k ?_; intro K36 hK36
               refine wlit ?_
               refine wl_v (x_lss (tmI rfl rfl) (tmI rfl rfl)) ?_
               refine wl_nil ?_
               refine then_n (hK36 _ _ ?_); clear hK36 K36
               refine wp_seq_k ?_; intro K37 hK37
               refine cnd (tm rfl) (fun hc2 => ?_) (fun hc2 => ?_)
               · try (exfalso; first | with_reducible exact absurd hc2 Bool.false_ne_true | with_reducible exact absurd hc2.symm Bool.false_ne_true | (simp only [nrm] at hc2; omega) | (simp at hc2; done))
                 all_goals
                  try simp only [nrm] at hc2
                  refine wp_skip ?_
                  refine then_n (hK37 _ _ ?_); clear hK37 K37
                  refine wp_seq_k ?_; intro K38 hK38
                  refine wp_block ?_
                  refine wp_seq_k ?_; intro K39 hK39
                  refine wlit ?_
                  refine wl_v (x_ixs1 Try.underlying96 ts_4 (tmS rfl rfl) (tmI rfl rfl) (by omega)) ?_
                  refine wl_v (x_load Try.underlying4 rfl (tmP rfl rfl) (cellB hS.ok 0 rfl (hbo j (by omega)))) ?_
                  refine wl_v (x_assign (tmB rfl rfl)) ?_
                  refine wl_nil ?_
                  refine then_n (hK39 _ _ ?_); clear hK39 K39
                  refine wp_seq_k ?_; intro K40 hK40
                  refine wlit ?_
                  refine wl_v (x_assign (ev_cN 8)) ?_
                  refine wl_nil ?_
                  refine then_n (hK40 _ _ ?_); clear hK40 K40
                  refine wp_seq_k ?_; intro K41 hK41
                  refine wp_seq_k ?_; intro K42 hK42
                  refine wlit ?_
                  refine wl_v (x_move (tmB rfl rfl)) ?_
                  refine wl_nil ?_
                  refine then_n (hK42 _ _ ?_); clear hK42 K42
                  refine cnd (tm rfl) (fun hc3 => ?_) (fun hc3 => ?_)
                  · try (exfalso; first | with_reducible exact absurd hc3 Bool.false_ne_true | with_reducible exact absurd hc3.symm Bool.false_ne_true | (simp only [nrm] at hc3; omega) | (simp at hc3; done))
                    all_goals
                     try simp only [nrm] at hc3
                     refine wlit ?_
                     refine wl_v (x_assign (ev_cN 128)) ?_
                     refine wl_nil ?_
                     refine then_n (hK41 _ _ ?_); clear hK41 K41
                     refine wp_seq_k ?_; intro K43 hK43
                     refine rg_startk 0 hS mixed_ ?_
                     clear hS; intro w hS
                     refine rg_take 0 rfl rfl (by kernel_rfl) (by kernel_rfl) (by kernel_rfl) (want_0) (fun w hok => x_loadA (cs := [_, _, _, _, _]) Try.underlying85 rfl ts_85 (tmP rfl rfl) (rangeB hok 1 rfl rfl)) ?_
                     refine rg_take 1 rfl rfl (by kernel_rfl) (by kernel_rfl) (by kernel_rfl) (want_0) (fun w hok => x_move (tmB rfl rfl)) ?_
                     refine rg_take 3 rfl rfl (by kernel_rfl) (by kernel_rfl) (by kernel_rfl) (want_0) (fun w hok => x_loadA (cs := [_, _, _, _, _]) Try.underlying88 rfl ts_88 (tmP rfl rfl) (rangeB hok 4 rfl rfl)) ?_
                     refine rg_take 4 rfl rfl (by kernel_rfl) (by kernel_rfl) (by kernel_rfl) (want_0) (fun w hok => x_move (tmB rfl rfl)) ?_
                     refine rg_step 2 rfl (by kernel_rfl) (want_0) (oks_drop hS 0 rfl) ?_; intro K hK
                     refine ow_call Try.func69 rfl rfl (evs_cons (tmA rfl rfl) <| evs_cons (tmB rfl rfl) <| evs_nil) (icmp_error_c t c s d A n k _ _) ?_
                     rintro e w ⟨rfl, hk⟩
                     refine ⟨_, rfl, ?_⟩
                     replace hS := hS.kept hk
                     clear hk
                     refine hK _ _ ?_; clear hK K
                     refine rg_step 5 rfl (by kernel_rfl) (want_0) (oks_drop hS 0 rfl) ?_; intro K hK
                     refine ow_call Try.func70 rfl rfl (evs_cons (tmA rfl rfl) <| evs_cons (tmB rfl rfl) <| evs_nil) (ricmp_error_c t c s d A n k _ _) ?_
                     rintro e w ⟨rfl, hk⟩
                     refine ⟨_, rfl, ?_⟩
                     replace hS := hS.kept hk
                     clear hk
                     refine hK _ _ ?_; clear hK K
                     refine rg_take 6 rfl rfl (by kernel_rfl) (by kernel_rfl) (by kernel_rfl) (want_0) (fun w hok => x_bneq Try.underlying4 (tmB rfl rfl) (tmB rfl rfl)) ?_
                     refine rg_take 7 rfl rfl (by kernel_rfl) (by kernel_rfl) (by kernel_rfl) (want_0) (fun w hok => x_move (tmB rfl rfl)) ?_
                     refine gs_rg (tm (t := 76) rfl) (fun hg13_7 => ?_) (fun hg13_7 => ?_)
                     · exfalso
                       simp at hg13_7
                     have hg13_7' := hg13_7; (try simp only [nrm] at hg13_7'); try (exfalso; first | with_reducible exact absurd hg13_7 Bool.false_ne_true | with_reducible exact absurd hg13_7.symm Bool.false_ne_true | omega | (simp at hg13_7; done))
                     all_goals
                      refine rg_take 8 rfl rfl (by kernel_rfl) (by kernel_rfl) (by kernel_rfl) (want_y rfl rfl rfl rfl (by rw [hg13_7]; rfl)) (fun w hok => x_loadA (cs := [_, _, _, _, _]) Try.underlying85 rfl ts_85 (tmP rfl rfl) (rangeB hok 1 rfl rfl)) ?_
                      refine rg_take 9 rfl rfl (by kernel_rfl) (by kernel_rfl) (by kernel_rfl) (want_y rfl rfl rfl rfl (by rw [hg13_7]; rfl)) (fun w hok => x_move (tmB rfl rfl)) ?_
                      refine rg_take 11 rfl rfl (by kernel_rfl) (by kernel_rfl) (by kernel_rfl) (want_y rfl rfl rfl rfl (by rw [hg13_7]; rfl)) (fun w hok => x_fa 0 Try.underlying88 rfl rfl ts_5 (tmP rfl rfl)) ?_
                      first
                       | refine rg_take 12 rfl rfl (by kernel_rfl) (by kernel_rfl) (by kernel_rfl) (want_y rfl rfl rfl rfl (by rw [hg13_7]; rfl)) (fun w hok => x_load Try.underlying5 rfl (tmP rfl rfl) (cellB hok 4 rfl rfl)) ?_
                       | refine rg_take 12 rfl rfl (by kernel_rfl) (by kernel_rfl) (by kernel_rfl) (want_y rfl rfl rfl rfl (by rw [hg13_7]; rfl)) (fun w hok => x_load Try.underlying5 rfl (tmP rfl rfl) (cellB hok 4 rfl (getm (by omega)))) ?_
                      refine rg_take 13 rfl rfl (by kernel_rfl) (by kernel_rfl) (by kernel_rfl) (want_y rfl rfl rfl rfl (by rw [hg13_7]; rfl)) (fun w hok => x_move (tmI rfl rfl)) ?_
                      refine rg_take 14 rfl rfl (by kernel_rfl) (by kernel_rfl) (by kernel_rfl) (want_y rfl rfl rfl rfl (by rw [hg13_7]; rfl)) (fun w hok => x_eql (tmI rfl rfl) (tmI rfl rfl)) ?_
                      refine rg_step 10 rfl (by kernel_rfl) (want_y rfl rfl rfl rfl (by rw [hg13_7]; rfl)) (oks_drop hS 0 rfl) ?_; intro K hK
                      refine ow_call Try.func71 rfl rfl (evs_cons (tmA rfl rfl) <| evs_cons (tmB rfl rfl) <| evs_nil) (icmp_echo_c t c s d A n k _ _) ?_
                      rintro e w ⟨rfl, hk⟩
                      refine ⟨_, rfl, ?_⟩
                      replace hS := hS.kept hk
                      clear hk
                      refine hK _ _ ?_; clear hK K
                      refine rg_take 15 rfl rfl (by kernel_rfl) (by kernel_rfl) (by kernel_rfl) (want_y rfl rfl rfl rfl (by rw [hg13_7]; rfl)) (fun w hok => x_bneq Try.underlying4 (tmB rfl rfl) (tmB rfl rfl)) ?_
                      refine rg_take 16 rfl rfl (by kernel_rfl) (by kernel_rfl) (by kernel_rfl) (want_0) (fun w hok => x_pickF (tmB rfl rfl) hg13_7 (tmB rfl rfl)) ?_
                      refine rg_done (oks_drop hS 0 rfl) (by kernel_rfl) ?_
                      refine then_n (hK43 _ _ ?_); clear hK43 K43
                      refine cnd (tm rfl) (fun hc4 => ?_) (fun hc4 => ?_)
                      · exfalso
                        unfold echoB at hc4
                        simp [*] at hc4
                        omega
                      try (exfalso; first | with_reducible exact absurd hc4 Bool.false_ne_true | with_reducible exact absurd hc4.symm Bool.false_ne_true | (simp only [nrm] at hc4; omega) | (simp at hc4; done))
                      all_goals
                       try simp only [nrm] at hc4
                       refine wp_skip ?_
                       refine inb_n ?_
                       refine then_n (hK38 _ _ ?_); clear hK38 K38
                       refine wlit ?_
                       first
                        | refine wl_v (x_addN (tmI rfl rfl) (ev_cN 1) (fit_i64 (by omega))) ?_
                        | refine wl_v (x_addI (tmI rfl rfl) (ev_cN 1) (IntWalk.i64_in _ (by omega))) ?_
                        | refine wl_v (x_add (tmI rfl rfl) (ev_cN 1)) ?_
                       refine wl_v (x_move (tmI rfl rfl)) ?_
                       refine wl_nil ?_
                       exact then_n ⟨_, _, rfl, (by show _ < _; omega), (by repeat (first | exact agree_self | exact agree_refl | refine agree_upd rfl ?_ | refine agree_mix rfl ?_)), j + 1, rfl, (by first | rfl | go_num | exact congrArg (Value.int _) (by first | omega | (simp; done) | (simp; omega))), hS, (by omega)⟩
                  try (exfalso; first | with_reducible exact absurd hc3 Bool.false_ne_true | with_reducible exact absurd hc3.symm Bool.false_ne_true | (simp only [nrm] at hc3; omega) | (simp at hc3; done))
                  all_goals
                   try simp only [nrm] at hc3
                   refine wp_skip ?_
                   refine then_n (hK41 _ _ ?_); clear hK41 K41
                   refine wp_seq_k ?_; intro K44 hK44
                   refine rg_startk 0 hS mixed_ ?_
                   clear hS; intro w hS
                   refine rg_take 0 rfl rfl (by kernel_rfl) (by kernel_rfl) (by kernel_rfl) (want_0) (fun w hok => x_loadA (cs := [_, _, _, _, _]) Try.underlying85 rfl ts_85 (tmP rfl rfl) (rangeB hok 1 rfl rfl)) ?_
                   refine rg_take 1 rfl rfl (by kernel_rfl) (by kernel_rfl) (by kernel_rfl) (want_0) (fun w hok => x_move (tmB rfl rfl)) ?_
                   refine rg_take 3 rfl rfl (by kernel_rfl) (by kernel_rfl) (by kernel_rfl) (want_0) (fun w hok => x_loadA (cs := [_, _, _, _, _]) Try.underlying88 rfl ts_88 (tmP rfl rfl) (rangeB hok 4 rfl rfl)) ?_
                   refine rg_take 4 rfl rfl (by kernel_rfl) (by kernel_rfl) (by kernel_rfl) (want_0) (fun w hok => x_move (tmB rfl rfl)) ?_
                   refine rg_step 2 rfl (by kernel_rfl) (want_0) (oks_drop hS 0 rfl) ?_; intro K hK
                   refine ow_call Try.func69 rfl rfl (evs_cons (tmA rfl rfl) <| evs_cons (tmB rfl rfl) <| evs_nil) (icmp_error_c t c s d A n k _ _) ?_
                   rintro e w ⟨rfl, hk⟩
                   refine ⟨_, rfl, ?_⟩
                   replace hS := hS.kept hk
                   clear hk
                   refine hK _ _ ?_; clear hK K
                   refine rg_step 5 rfl (by kernel_rfl) (want_0) (oks_drop hS 0 rfl) ?_; intro K hK
                   refine ow_call Try.func70 rfl rfl (evs_cons (tmA rfl rfl) <| evs_cons (tmB rfl rfl) <| evs_nil) (ricmp_error_c t c s d A n k _ _) ?_
                   rintro e w ⟨rfl, hk⟩
                   refine ⟨_, rfl, ?_⟩
                   replace hS := hS.kept hk
                   clear hk
                   refine hK _ _ ?_; clear hK K
                   refine rg_take 6 rfl rfl (by kernel_rfl) (by kernel_rfl) (by kernel_rfl) (want_0) (fun w hok => x_bneq Try.underlying4 (tmB rfl rfl) (tmB rfl rfl)) ?_
                   refine rg_take 7 rfl rfl (by kernel_rfl) (by kernel_rfl) (by kernel_rfl) (want_0) (fun w hok => x_move (tmB rfl rfl)) ?_
                   refine gs_rg (tm (t := 76) rfl) (fun hg13_7 => ?_) (fun hg13_7 => ?_)
                   · exfalso
                     simp at hg13_7
                   have hg13_7' := hg13_7; (try simp only [nrm] at hg13_7'); try (exfalso; first | with_reducible exact absurd hg13_7 Bool.false_ne_true | with_reducible exact absurd hg13_7.symm Bool.false_ne_true | omega | (simp at hg13_7; done))
                   all_goals
                    refine rg_take 8 rfl rfl (by kernel_rfl) (by kernel_rfl) (by kernel_rfl) (want_y rfl rfl rfl rfl (by rw [hg13_7]; rfl)) (fun w hok => x_loadA (cs := [_, _, _, _, _]) Try.underlying85 rfl ts_85 (tmP rfl rfl) (rangeB hok 1 rfl rfl)) ?_
                    refine rg_take 9 rfl rfl (by kernel_rfl) (by kernel_rfl) (by kernel_rfl) (want_y rfl rfl rfl rfl (by rw [hg13_7]; rfl)) (fun w hok => x_move (tmB rfl rfl)) ?_
                    refine rg_take 11 rfl rfl (by kernel_rfl) (by kernel_rfl) (by kernel_rfl) (want_y rfl rfl rfl rfl (by rw [hg13_7]; rfl)) (fun w hok => x_fa 0 Try.underlying88 rfl rfl ts_5 (tmP rfl rfl)) ?_
                    first
                     | refine rg_take 12 rfl rfl (by kernel_rfl) (by kernel_rfl) (by kernel_rfl) (want_y rfl rfl rfl rfl (by rw [hg13_7]; rfl)) (fun w hok => x_load Try.underlying5 rfl (tmP rfl rfl) (cellB hok 4 rfl rfl)) ?_
                     | refine rg_take 12 rfl rfl (by kernel_rfl) (by kernel_rfl) (by kernel_rfl) (want_y rfl rfl rfl rfl (by rw [hg13_7]; rfl)) (fun w hok => x_load Try.underlying5 rfl (tmP rfl rfl) (cellB hok 4 rfl (getm (by omega)))) ?_
                    refine rg_take 13 rfl rfl (by kernel_rfl) (by kernel_rfl) (by kernel_rfl) (want_y rfl rfl rfl rfl (by rw [hg13_7]; rfl)) (fun w hok => x_move (tmI rfl rfl)) ?_
                    refine rg_take 14 rfl rfl (by kernel_rfl) (by kernel_rfl) (by kernel_rfl) (want_y rfl rfl rfl rfl (by rw [hg13_7]; rfl)) (fun w hok => x_eql (tmI rfl rfl) (tmI rfl rfl)) ?_
                    refine rg_step 10 rfl (by kernel_rfl) (want_y rfl rfl rfl rfl (by rw [hg13_7]; rfl)) (oks_drop hS 0 rfl) ?_; intro K hK
                    refine ow_call Try.func71 rfl rfl (evs_cons (tmA rfl rfl) <| evs_cons (tmB rfl rfl) <| evs_nil) (icmp_echo_c t c s d A n k _ _) ?_
                    rintro e w ⟨rfl, hk⟩
                    refine ⟨_, rfl, ?_⟩
                    replace hS := hS.kept hk
                    clear hk
                    refine hK _ _ ?_; clear hK K
                    refine rg_take 15 rfl rfl (by kernel_rfl) (by kernel_rfl) (by kernel_rfl) (want_y rfl rfl rfl rfl (by rw [hg13_7]; rfl)) (fun w hok => x_bneq Try.underlying4 (tmB rfl rfl) (tmB rfl rfl)) ?_
                    refine rg_take 16 rfl rfl (by kernel_rfl) (by kernel_rfl) (by kernel_rfl) (want_0) (fun w hok => x_pickF (tmB rfl rfl) hg13_7 (tmB rfl rfl)) ?_
                    refine rg_done (oks_drop hS 0 rfl) (by kernel_rfl) ?_
                    refine then_n (hK44 _ _ ?_); clear hK44 K44
                    refine cnd (tm rfl) (fun hc4 => ?_) (fun hc4 => ?_)
                    · exfalso
                      unfold echoB at hc4
                      simp [*] at hc4
                      omega
                    try (exfalso; first | with_reducible exact absurd hc4 Bool.false_ne_true | with_reducible exact absurd hc4.symm Bool.false_ne_true | (simp only [nrm] at hc4; omega) | (simp at hc4; done))
                    all_goals
                     try simp only [nrm] at hc4
                     refine wp_skip ?_
                     refine inb_n ?_
                     refine then_n (hK38 _ _ ?_); clear hK38 K38
                     refine wlit ?_
                     first
                      | refine wl_v (x_addN (tmI rfl rfl) (ev_cN 1) (fit_i64 (by omega))) ?_
                      | refine wl_v (x_addI (tmI rfl rfl) (ev_cN 1) (IntWalk.i64_in _ (by omega))) ?_
                      | refine wl_v (x_add (tmI rfl rfl) (ev_cN 1)) ?_
                     refine wl_v (x_move (tmI rfl rfl)) ?_
                     refine wl_nil ?_
                     exact then_n ⟨_, _, rfl, (by show _ < _; omega), (by repeat (first | exact agree_self | exact agree_refl | refine agree_upd rfl ?_ | refine agree_mix rfl ?_)), j + 1, rfl, (by first | rfl | go_num | exact congrArg (Value.int _) (by first | omega | (simp; done) | (simp; omega))), hS, (by omega)⟩
               try (exfalso; first | with_reducible exact absurd hc2 Bool.false_ne_true | with_reducible exact absurd hc2.symm Bool.false_ne_true | (simp only [nrm] at hc2; omega) | (simp at hc2; done))
               all_goals
                try simp only [nrm] at hc2
                refine wp_exit ?_
                refine then_x ?_; clear hK37 K37
                refine then_x ?_
                refine inb_x ?_
                refine then_n (hK34 _ _ ?_); clear hK34 K34
                refine wp_seq_k ?_; intro K45 hK45
                refine wlit ?_
                refine wl_v (x_loadA (cs := [_, _, _, _, _]) Try.underlying85 rfl ts_85 (tmP rfl rfl) (rangeB hS.ok 1 rfl rfl)) ?_
                refine wl_v (x_loadA (cs := [_, _, _]) Try.underlying27 rfl ts_27 (tmP rfl rfl) (rangeB hS.ok 3 rfl rfl)) ?_
                refine wl_v (x_loadA (cs := [_, _, _]) Try.underlying27 rfl ts_27 (tmP rfl rfl) (rangeB hS.ok 2 rfl rfl)) ?_
                refine wl_e rfl ?_; intro K hK
                refine ow_call Try.func72 rfl rfl (evs_cons (tmA rfl rfl) <| evs_cons (tmA rfl rfl) <| evs_cons (tmA rfl rfl) <| evs_nil) (hsm _ (viewV hS.ok 5 rfl)) ?_
                rintro e w ⟨A5, k5, rfl, hn, hk⟩
                refine ⟨_, rfl, ?_⟩
                replace hS := hS.add hk hn -- +rows
                clear hn hk
                refine hK _ _ ?_; clear hK K
                refine wl_e rfl ?_; intro K hK
                refine ow_alloc hS tz_85 rfl ?_
                clear hS; intro g16_4 w hg16_4 hS
                refine hK _ _ ?_; clear hK K
                refine wl_e rfl ?_; intro K hK
                refine ow_storeA hS 0 rfl ts_85 (tmP rfl rfl) (tmA rfl rfl) rfl rfl rfl ?_
                clear hS; intro w hS
                try replace hS := St.nm (M' := [.blk _ _ [_, _, _, _, _], .row _ _ _ _ _, _, .blk _ _ [_, _, _, _, _], .blk _ _ [_, _, _], .blk _ _ [_, _, _], .blk _ _ [_, _, _, _, _], .vw _ _]) hS rfl
                refine hK _ _ ?_; clear hK K
                refine wl_nil ?_
                refine then_n (hK45 _ _ ?_); clear hK45 K45
                refine wp_seq_k ?_; intro K46 hK46
                refine rg_startk 0 hS mixed_ ?_
                clear hS; intro w hS
                refine rg_take 0 rfl rfl (by kernel_rfl) (by kernel_rfl) (by kernel_rfl) (want_0) (fun w hok => x_loadA (cs := [_, _, _, _, _]) Try.underlying85 rfl ts_85 (tmP rfl rfl) (rangeB hok 0 rfl rfl)) ?_
                refine rg_take 2 rfl rfl (by kernel_rfl) (by kernel_rfl) (by kernel_rfl) (want_0) (fun w hok => x_loadA (cs := [_, _, _, _, _]) Try.underlying88 rfl ts_88 (tmP rfl rfl) (rangeB hok 6 rfl rfl)) ?_
                refine rg_take 3 rfl rfl (by kernel_rfl) (by kernel_rfl) (by kernel_rfl) (want_0) (fun w hok => x_loadA (cs := [_, _, _]) Try.underlying27 rfl ts_27 (tmP rfl rfl) (rangeB hok 5 rfl rfl)) ?_
                refine rg_take 4 rfl rfl (by kernel_rfl) (by kernel_rfl) (by kernel_rfl) (want_0) (fun w hok => x_loadA (cs := [_, _, _]) Try.underlying27 rfl ts_27 (tmP rfl rfl) (rangeB hok 4 rfl rfl)) ?_
                refine rg_step 1 rfl (by kernel_rfl) (want_0) (oks_drop hS 0 rfl) ?_; intro K hK
                refine ow_call Try.func64 rfl rfl (evs_cons (tmA rfl rfl) <| evs_nil) (of08_c t c ck d A5 n k5 _) ?_
                rintro e w ⟨rfl, hk⟩
                refine ⟨_, rfl, ?_⟩
                replace hS := hS.kept hk
                clear hk
                refine hK _ _ ?_; clear hK K
                refine rg_step 5 rfl (by kernel_rfl) (want_0) (oks_drop hS 0 rfl) ?_; intro K hK
                refine ow_call Try.func73 rfl rfl (evs_cons (tmA rfl rfl) <| evs_cons (tmA rfl rfl) <| evs_cons (tmA rfl rfl) <| evs_nil) (hrs _ (viewV hS.ok 7 rfl)) ?_
                rintro e w ⟨rfl, hk⟩
                refine ⟨_, rfl, ?_⟩
                replace hS := hS.kept hk
                clear hk
                refine hK _ _ ?_; clear hK K
                refine rg_step 6 rfl (by kernel_rfl) (want_0) (oks_drop hS 0 rfl) ?_; intro K hK
                refine ow_call Try.func63 rfl rfl (evs_cons (tmA rfl rfl) <| evs_cons (tmA rfl rfl) <| evs_nil) (same08_c t c ck d t c ck d A5 n k5 A n k l l _ (viewR hS.ok 1 rfl) hl hlb_ (viewV hS.ok 7 rfl) hl hlb_) ?_
                rintro e w ⟨rfl, hk⟩
                refine ⟨_, rfl, ?_⟩
                replace hS := hS.kept hk
                clear hk
                refine hK _ _ ?_; clear hK K
                refine rg_take 7 rfl rfl (by kernel_rfl) (by kernel_rfl) (by kernel_rfl) (want_0) (fun w hok => x_move (tmB rfl rfl)) ?_
                refine gs_rgs (tm (t := 98) rfl) (fun hg17_7 => ?_) (fun hg17_7 => ?_)
                · exfalso
                  simp at hg17_7
                have hg17_7' := hg17_7; (try simp only [nrm] at hg17_7'); try (exfalso; first | with_reducible exact absurd hg17_7 Bool.false_ne_true | with_reducible exact absurd hg17_7.symm Bool.false_ne_true | omega | (simp at hg17_7; done))
                all_goals
                 refine rg_take 8 rfl rfl (by kernel_rfl) (by kernel_rfl) (by kernel_rfl) (want_y rfl rfl rfl rfl (by rw [hg17_7]; rfl)) (fun w hok => x_loadA (cs := [_, _, _, _, _]) Try.underlying85 rfl ts_85 (tmP rfl rfl) (rangeB hok 3 rfl rfl)) ?_
                 refine rg_take 9 rfl rfl (by kernel_rfl) (by kernel_rfl) (by kernel_rfl) (want_y rfl rfl rfl rfl (by rw [hg17_7]; rfl)) (fun w hok => x_loadA (cs := [_, _, _]) Try.underlying27 rfl ts_27 (tmP rfl rfl) (rangeB hok 5 rfl rfl)) ?_
                 refine rg_take 10 rfl rfl (by kernel_rfl) (by kernel_rfl) (by kernel_rfl) (want_y rfl rfl rfl rfl (by rw [hg17_7]; rfl)) (fun w hok => x_loadA (cs := [_, _, _]) Try.underlying27 rfl ts_27 (tmP rfl rfl) (rangeB hok 4 rfl rfl)) ?_
                 refine rg_take 12 rfl rfl (by kernel_rfl) (by kernel_rfl) (by kernel_rfl) (want_y rfl rfl rfl rfl (by rw [hg17_7]; rfl)) (fun w hok => x_loadA (cs := [_, _, _, _, _]) Try.underlying88 rfl ts_88 (tmP rfl rfl) (rangeB hok 6 rfl rfl)) ?_
                 refine rg_take 13 rfl rfl (by kernel_rfl) (by kernel_rfl) (by kernel_rfl) (want_y rfl rfl rfl rfl (by rw [hg17_7]; rfl)) (fun w hok => x_loadA (cs := [_, _, _]) Try.underlying27 rfl ts_27 (tmP rfl rfl) (rangeB hok 5 rfl rfl)) ?_
                 refine rg_take 14 rfl rfl (by kernel_rfl) (by kernel_rfl) (by kernel_rfl) (want_y rfl rfl rfl rfl (by rw [hg17_7]; rfl)) (fun w hok => x_loadA (cs := [_, _, _]) Try.underlying27 rfl ts_27 (tmP rfl rfl) (rangeB hok 4 rfl rfl)) ?_
                 refine rg_step 11 rfl (by kernel_rfl) (want_y rfl rfl rfl rfl (by rw [hg17_7]; rfl)) (oks_drop hS 0 rfl) ?_; intro K hK
                 refine ow_call Try.func74 rfl rfl (evs_cons (tmA rfl rfl) <| evs_cons (tmA rfl rfl) <| evs_cons (tmA rfl rfl) <| evs_nil) (icmp_fine_c t c s d A n k l a b _ (viewV hS.ok 7 rfl) hl hlb_ h6 hla hlb (by omega) (by omega) (by omega) (by omega) (by omega)) ?_
                 rintro e w ⟨rfl, hk⟩
                 refine ⟨_, rfl, ?_⟩
                 replace hS := hS.kept hk
                 clear hk
                 refine hK _ _ ?_; clear hK K
                 refine rg_step 15 rfl (by kernel_rfl) (want_y rfl rfl rfl rfl (by rw [hg17_7]; rfl)) (oks_drop hS 0 rfl) ?_; intro K hK
                 refine ow_call Try.func75 rfl rfl (evs_cons (tmA rfl rfl) <| evs_cons (tmA rfl rfl) <| evs_cons (tmA rfl rfl) <| evs_nil) (ricmp_check_c t c s d A n k l a b _ (viewV hS.ok 7 rfl) hl hlb_ h6 hla hlb (by omega) (by omega) (by omega) (by omega) (by omega)) ?_
                 rintro e w ⟨rfl, hk⟩
                 refine ⟨_, rfl, ?_⟩
                 replace hS := hS.kept hk
                 clear hk
                 refine hK _ _ ?_; clear hK K
                 refine rg_take 16 rfl rfl (by kernel_rfl) (by kernel_rfl) (by kernel_rfl) (want_y rfl rfl rfl rfl (by rw [hg17_7]; rfl)) (fun w hok => x_eql (tmI rfl rfl) (ev_cN 0)) ?_
                 refine rg_take 17 rfl rfl (by kernel_rfl) (by kernel_rfl) (by kernel_rfl) (want_y rfl rfl rfl rfl (by rw [hg17_7]; rfl)) (fun w hok => x_beql Try.underlying4 (tmB rfl rfl) (tmB rfl rfl)) ?_
                 refine rg_take 18 rfl rfl (by kernel_rfl) (by kernel_rfl) (by kernel_rfl) (want_0) (fun w hok => x_pickT (tmB rfl rfl) hg17_7 (tmB rfl rfl)) ?_
                 refine rg_take 19 rfl rfl (by kernel_rfl) (by kernel_rfl) (by kernel_rfl) (want_0) (fun w hok => x_move (tmB rfl rfl)) ?_
                 refine gs_rgs (tm (t := 110) rfl) (fun hg17_19 => ?_) (fun hg17_19 => ?_)
                 · exfalso
                   simp at hg17_19
                   omega
                 have hg17_19' := hg17_19; (try simp only [nrm] at hg17_19'); try (exfalso; first | with_reducible exact absurd hg17_19 Bool.false_ne_true | with_reducible exact absurd hg17_19.symm Bool.false_ne_true | omega | (simp at hg17_19; done))
                 all_goals
                  refine rg_take 20 rfl rfl (by kernel_rfl) (by kernel_rfl) (by kernel_rfl) (want_y rfl rfl rfl rfl (by rw [hg17_19]; rfl)) (fun w hok => x_loadA (cs := [_, _, _, _, _]) Try.underlying85 rfl ts_85 (tmP rfl rfl) (rangeB hok 0 rfl rfl)) ?_
                  refine rg_take 21 rfl rfl (by kernel_rfl) (by kernel_rfl) (by kernel_rfl) (want_y rfl rfl rfl rfl (by rw [hg17_19]; rfl)) (fun w hok => x_loadA (cs := [_, _, _]) Try.underlying27 rfl ts_27 (tmP rfl rfl) (rangeB hok 5 rfl rfl)) ?_
                  refine rg_take 22 rfl rfl (by kernel_rfl) (by kernel_rfl) (by kernel_rfl) (want_y rfl rfl rfl rfl (by rw [hg17_19]; rfl)) (fun w hok => x_loadA (cs := [_, _, _]) Try.underlying27 rfl ts_27 (tmP rfl rfl) (rangeB hok 4 rfl rfl)) ?_
                  refine rg_step 23 rfl (by kernel_rfl) (want_y rfl rfl rfl rfl (by rw [hg17_19]; rfl)) (oks_drop hS 0 rfl) ?_; intro K hK
                  refine ow_call Try.func74 rfl rfl (evs_cons (tmA rfl rfl) <| evs_cons (tmA rfl rfl) <| evs_cons (tmA rfl rfl) <| evs_nil) (icmp_fine_c t c ck d A5 n k5 l a b _ (viewR hS.ok 1 rfl) hl hlb_ h6 hla hlb (by omega) (by omega) (by omega) (by omega) (by omega)) ?_
                  rintro e w ⟨rfl, hk⟩
                  refine ⟨_, rfl, ?_⟩
                  rw [hfin]
                  replace hS := hS.kept hk
                  clear hk
                  refine hK _ _ ?_; clear hK K
                  refine rg_take 24 rfl rfl (by kernel_rfl) (by kernel_rfl) (by kernel_rfl) (want_0) (fun w hok => x_pickT (tmB rfl rfl) hg17_19 (tmB rfl rfl)) ?_
                  refine rg_take 25 rfl rfl (by kernel_rfl) (by kernel_rfl) (by kernel_rfl) (want_0) (fun w hok => x_move (tmB rfl rfl)) ?_
                  refine gs_rgs (tm (t := 116) rfl) (fun hg17_25 => ?_) (fun hg17_25 => ?_)
                  · exfalso
                    simp at hg17_25
                  have hg17_25' := hg17_25; (try simp only [nrm] at hg17_25'); try (exfalso; first | with_reducible exact absurd hg17_25 Bool.false_ne_true | with_reducible exact absurd hg17_25.symm Bool.false_ne_true | omega | (simp at hg17_25; done))
                  all_goals
                   refine rg_step 26 rfl (by kernel_rfl) (want_y rfl rfl rfl rfl (by rw [hg17_25]; rfl)) (oks_drop hS 0 rfl) ?_; intro K hK
                   refine ow_call Try.func60 rfl rfl (evs_nil) (law08_awake_c _) ?_
                   rintro e w ⟨rfl, hk⟩
                   refine ⟨_, rfl, ?_⟩
                   replace hS := hS.kept hk
                   clear hk
                   refine hK _ _ ?_; clear hK K
                   refine rg_take 27 rfl rfl (by kernel_rfl) (by kernel_rfl) (by kernel_rfl) (want_0) (fun w hok => x_pickT (tmB rfl rfl) hg17_25 (tmB rfl rfl)) ?_
                   refine rg_take 28 rfl rfl (by kernel_rfl) (by kernel_rfl) (by kernel_rfl) (want_0) (fun w hok => x_assign (tmB rfl rfl)) ?_
                   refine rg_done (oks_drop hS 0 rfl) (by kernel_rfl) ?_
                   refine then_n (hK46 _ _ ?_); clear hK46 K46
                   refine wp_ret ?_
                   refine ret1 rfl (.tmp rfl (show _ = Value.bool _ from rfl)) ?_
                   exact ⟨rfl, hS.kp.below⟩
set_option maxRecDepth 100000 in
theorem walk (v0 v1 v2 : Value) (w0 : World) {H : Type} {enc : TypeId × Value → H} {r : Reach} {b0 b1 b2 : Nat} {d0 d1 d2 : DataW H} {p0 p1 p2 : List MemPlace}
    (hval0 : Value.okWide Try.prog w0 r b0 88 v0) (hd0 : DataW.Trod enc Try.prog w0 0 (fun _ => true) true 88 v0 d0 p0) (hlt0 : ∀ p ∈ p0, p.block < w0.heap.size)
    (hval1 : Value.okWide Try.prog w0 r b1 27 v1) (hd1 : DataW.Trod enc Try.prog w0 0 (fun _ => true) true 27 v1 d1 p1) (hlt1 : ∀ p ∈ p1, p.block < w0.heap.size)
    (hval2 : Value.okWide Try.prog w0 r b2 27 v2) (hd2 : DataW.Trod enc Try.prog w0 0 (fun _ => true) true 27 v2 d2 p2) (hlt2 : ∀ p ∈ p2, p.block < w0.heap.size) :
    Calls Try.prog 12 #[v0, v1, v2] w0 fun e w' => e = .returned (.bool true) ∧ Below w0.heap.size w0 w' := by
  obtain ⟨x, rfl, hx⟩ := RMsg.open_a hval0 hd0 hlt0
  obtain ⟨a, rfl, ha⟩ := Ad.open_a hval1 hd1 hlt1
  obtain ⟨b, rfl, hb⟩ := Ad.open_a hval2 hd2 hlt2
  obtain ⟨t, c, s, d, ⟨A, l, k⟩⟩ := x
  obtain ⟨q1, q2, q3, q4, ⟨_, _, hlb, hlv⟩⟩ := hx
  exact walkC t c s d A l.length k l a b w0 q1 q2 q3 q4 ⟨by have := ha; simp [Ad.ok] at this; omega, by have := ha; simp [Ad.ok] at this; omega⟩ ⟨by have := hb; simp [Ad.ok] at this; omega, by have := hb; simp [Ad.ok] at this; omega⟩ rfl hlb hlv
end IcmpWrites
end Go.Proofs.Ytfagblcepibliaa
