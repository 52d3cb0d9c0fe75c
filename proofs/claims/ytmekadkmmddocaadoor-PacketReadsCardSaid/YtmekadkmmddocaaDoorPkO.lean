/- packet's reasons of errors and their names, by contract. Conditions: the table of names reads as it was laid. -/
import Derived.Test.YtmekadkmmddocaaDoorOct
import Derived.Test.YtmekadkmmddocaaDoorO
namespace Go.Proofs.YtmekadkmmddocaaDoor
open Go.RowKit
def pkOf (e : Int) : Int := if e = 0 then 0 else if e = 20 then 1 else if e = 22 then 3 else if e = 24 then 11 else if e = 25 then 12 else if e = 26 then 10 else if e = 28 then 13 else 2
set_option maxRecDepth 100000 in
set_option maxHeartbeats 4000000 in
theorem of_c (e : Int) (w0 : World) : Calls Tryd.prog 14 #[.int .i64 e] w0 fun x w' => x = .returned (.int .i64 (pkOf e)) ∧ Kp [] w0 w' := by
  have hS := St.sv w0
  refine ent (n := 18) Tryd.func14 rfl rfl ?_
  refine wp_seq_k ?_; intro K1 hK1
  refine wlit ?_
  refine wl_v (x_assign (ev_cN 0)) ?_
  refine wl_nil ?_
  refine then_n (hK1 _ _ ?_); clear hK1 K1
  refine wp_seq_k ?_; intro K2 hK2
  refine wp_seq_k ?_; intro K3 hK3
  refine wlit ?_
  refine wl_v (x_move (tmI rfl rfl)) ?_
  refine wl_nil ?_
  refine then_n (hK3 _ _ ?_); clear hK3 K3
  refine wp_block ?_
  refine wp_seq_k ?_; intro K4 hK4
  refine wlit ?_
  refine wl_v (x_eql (tmI rfl rfl) (ev_cN 0)) ?_
  refine wl_v (x_assign (tmB rfl rfl)) ?_
  refine wl_nil ?_
  refine then_n (hK4 _ _ ?_); clear hK4 K4
  refine cnd (tm rfl) (fun hc0 => ?_) (fun hc0 => ?_)
  · skip
    all_goals
     try simp only [nrm] at hc0
     refine wp_seq_k ?_; intro K5 hK5
     refine wlit ?_
     refine wl_v (x_assign (ev_cN 0)) ?_
     refine wl_nil ?_
     refine then_n (hK5 _ _ ?_); clear hK5 K5
     refine wp_ret ?_
     refine inb_r ?_
     refine then_r ?_
     refine ret1 rfl (.tmp rfl (show _ = Value.int _ _ from rfl)) ?_
     refine ⟨congrArg (fun z : Int => Ending.returned (.int .i64 z)) ?_, hS.kp⟩
     unfold pkOf
     (repeat' split) <;> omega
  all_goals
   try simp only [nrm] at hc0
   refine wp_seq_k ?_; intro K6 hK6
   refine wlit ?_
   refine wl_v (x_eql (tmI rfl rfl) (ev_cN 20)) ?_
   refine wl_v (x_assign (tmB rfl rfl)) ?_
   refine wl_nil ?_
   refine then_n (hK6 _ _ ?_); clear hK6 K6
   refine cnd (tm rfl) (fun hc1 => ?_) (fun hc1 => ?_)
   · skip
     all_goals
      try simp only [nrm] at hc1
      refine wp_seq_k ?_; intro K7 hK7
      refine wlit ?_
      refine wl_v (x_assign (ev_cN 1)) ?_
      refine wl_nil ?_
      refine then_n (hK7 _ _ ?_); clear hK7 K7
      refine wp_ret ?_
      refine inb_r ?_
      refine then_r ?_
      refine ret1 rfl (.tmp rfl (show _ = Value.int _ _ from rfl)) ?_
      refine ⟨congrArg (fun z : Int => Ending.returned (.int .i64 z)) ?_, hS.kp⟩
      unfold pkOf
      (repeat' split) <;> omega
   all_goals
    try simp only [nrm] at hc1
    refine wp_seq_k ?_; intro K8 hK8
    refine wlit ?_
    refine wl_v (x_eql (tmI rfl rfl) (ev_cN 22)) ?_
    refine wl_v (x_assign (tmB rfl rfl)) ?_
    refine wl_nil ?_
    refine then_n (hK8 _ _ ?_); clear hK8 K8
    refine cnd (tm rfl) (fun hc2 => ?_) (fun hc2 => ?_)
    · skip
      all_goals
       try simp only [nrm] at hc2
       refine wp_seq_k ?_; intro K9 hK9
       refine wlit ?_
       refine wl_v (x_assign (ev_cN 3)) ?_
       refine wl_nil ?_
       refine then_n (hK9 _ _ ?_); clear hK9 K9
       refine wp_ret ?_
       refine inb_r ?_
       refine then_r ?_
       refine ret1 rfl (.tmp rfl (show _ = Value.int _ _ from rfl)) ?_
       refine ⟨congrArg (fun z : Int => Ending.returned (.int .i64 z)) ?_, hS.kp⟩
       unfold pkOf
       (repeat' split) <;> omega
    all_goals
     try simp only [nrm] at hc2
     refine wp_seq_k ?_; intro K10 hK10
     refine wlit ?_
     refine wl_v (x_eql (tmI rfl rfl) (ev_cN 26)) ?_
     refine wl_v (x_assign (tmB rfl rfl)) ?_
     refine wl_nil ?_
     refine then_n (hK10 _ _ ?_); clear hK10 K10
     refine cnd (tm rfl) (fun hc3 => ?_) (fun hc3 => ?_)
     · skip
       all_goals
        try simp only [nrm] at hc3
        refine wp_seq_k ?_; intro K11 hK11
        refine wlit ?_
        refine wl_v (x_assign (ev_cN 10)) ?_
        refine wl_nil ?_
        refine then_n (hK11 _ _ ?_); clear hK11 K11
        refine wp_ret ?_
        refine inb_r ?_
        refine then_r ?_
        refine ret1 rfl (.tmp rfl (show _ = Value.int _ _ from rfl)) ?_
        refine ⟨congrArg (fun z : Int => Ending.returned (.int .i64 z)) ?_, hS.kp⟩
        unfold pkOf
        (repeat' split) <;> omega
     all_goals
      try simp only [nrm] at hc3
      refine wp_seq_k ?_; intro K12 hK12
      refine wlit ?_
      refine wl_v (x_eql (tmI rfl rfl) (ev_cN 24)) ?_
      refine wl_v (x_assign (tmB rfl rfl)) ?_
      refine wl_nil ?_
      refine then_n (hK12 _ _ ?_); clear hK12 K12
      refine cnd (tm rfl) (fun hc4 => ?_) (fun hc4 => ?_)
      · skip
        all_goals
         try simp only [nrm] at hc4
         refine wp_seq_k ?_; intro K13 hK13
         refine wlit ?_
         refine wl_v (x_assign (ev_cN 11)) ?_
         refine wl_nil ?_
         refine then_n (hK13 _ _ ?_); clear hK13 K13
         refine wp_ret ?_
         refine inb_r ?_
         refine then_r ?_
         refine ret1 rfl (.tmp rfl (show _ = Value.int _ _ from rfl)) ?_
         refine ⟨congrArg (fun z : Int => Ending.returned (.int .i64 z)) ?_, hS.kp⟩
         unfold pkOf
         (repeat' split) <;> omega
      all_goals
       try simp only [nrm] at hc4
       refine wp_seq_k ?_; intro K14 hK14
       refine wlit ?_
       refine wl_v (x_eql (tmI rfl rfl) (ev_cN 25)) ?_
       refine wl_v (x_assign (tmB rfl rfl)) ?_
       refine wl_nil ?_
       refine then_n (hK14 _ _ ?_); clear hK14 K14
       refine cnd (tm rfl) (fun hc5 => ?_) (fun hc5 => ?_)
       · skip
         all_goals
          try simp only [nrm] at hc5
          refine wp_seq_k ?_; intro K15 hK15
          refine wlit ?_
          refine wl_v (x_assign (ev_cN 12)) ?_
          refine wl_nil ?_
          refine then_n (hK15 _ _ ?_); clear hK15 K15
          refine wp_ret ?_
          refine inb_r ?_
          refine then_r ?_
          refine ret1 rfl (.tmp rfl (show _ = Value.int _ _ from rfl)) ?_
          refine ⟨congrArg (fun z : Int => Ending.returned (.int .i64 z)) ?_, hS.kp⟩
          unfold pkOf
          (repeat' split) <;> omega
       all_goals
        try simp only [nrm] at hc5
        refine wp_seq_k ?_; intro K16 hK16
        refine wlit ?_
        refine wl_v (x_eql (tmI rfl rfl) (ev_cN 28)) ?_
        refine wl_v (x_assign (tmB rfl rfl)) ?_
        refine wl_nil ?_
        refine then_n (hK16 _ _ ?_); clear hK16 K16
        refine cnd (tm rfl) (fun hc6 => ?_) (fun hc6 => ?_)
        · skip
          all_goals
           try simp only [nrm] at hc6
           refine wp_seq_k ?_; intro K17 hK17
           refine wlit ?_
           refine wl_v (x_assign (ev_cN 13)) ?_
           refine wl_nil ?_
           refine then_n (hK17 _ _ ?_); clear hK17 K17
           refine wp_ret ?_
           refine inb_r ?_
           refine then_r ?_
           refine ret1 rfl (.tmp rfl (show _ = Value.int _ _ from rfl)) ?_
           refine ⟨congrArg (fun z : Int => Ending.returned (.int .i64 z)) ?_, hS.kp⟩
           unfold pkOf
           (repeat' split) <;> omega
        all_goals
         try simp only [nrm] at hc6
         refine wp_skip ?_
         refine inb_n ?_
         refine then_n (hK2 _ _ ?_); clear hK2 K2
         refine wp_seq_k ?_; intro K18 hK18
         refine wlit ?_
         refine wl_v (x_assign (ev_cN 2)) ?_
         refine wl_nil ?_
         refine then_n (hK18 _ _ ?_); clear hK18 K18
         refine wp_ret ?_
         refine ret1 rfl (.tmp rfl (show _ = Value.int _ _ from rfl)) ?_
         refine ⟨congrArg (fun z : Int => Ending.returned (.int .i64 z)) ?_, hS.kp⟩
         unfold pkOf
         (repeat' split) <;> omega
set_option maxRecDepth 100000 in
set_option maxHeartbeats 4000000 in
theorem rof_c (e : Int) (w0 : World) : Calls Tryd.prog 15 #[.int .i64 e] w0 fun x w' => x = .returned (.int .i64 (pkOf e)) ∧ Kp [] w0 w' := by
  have hS := St.sv w0
  refine ent (n := 18) Tryd.func15 rfl rfl ?_
  refine wp_seq_k ?_; intro K1 hK1
  refine wlit ?_
  refine wl_v (x_assign (ev_cN 0)) ?_
  refine wl_nil ?_
  refine then_n (hK1 _ _ ?_); clear hK1 K1
  refine wp_seq_k ?_; intro K2 hK2
  refine wp_seq_k ?_; intro K3 hK3
  refine wlit ?_
  refine wl_v (x_move (tmI rfl rfl)) ?_
  refine wl_nil ?_
  refine then_n (hK3 _ _ ?_); clear hK3 K3
  refine wp_block ?_
  refine wp_seq_k ?_; intro K4 hK4
  refine wlit ?_
  refine wl_v (x_eql (tmI rfl rfl) (ev_cN 0)) ?_
  refine wl_v (x_assign (tmB rfl rfl)) ?_
  refine wl_nil ?_
  refine then_n (hK4 _ _ ?_); clear hK4 K4
  refine cnd (tm rfl) (fun hc0 => ?_) (fun hc0 => ?_)
  · skip
    all_goals
     try simp only [nrm] at hc0
     refine wp_seq_k ?_; intro K5 hK5
     refine wlit ?_
     refine wl_v (x_assign (ev_cN 0)) ?_
     refine wl_nil ?_
     refine then_n (hK5 _ _ ?_); clear hK5 K5
     refine wp_ret ?_
     refine inb_r ?_
     refine then_r ?_
     refine ret1 rfl (.tmp rfl (show _ = Value.int _ _ from rfl)) ?_
     refine ⟨congrArg (fun z : Int => Ending.returned (.int .i64 z)) ?_, hS.kp⟩
     unfold pkOf
     (repeat' split) <;> omega
  all_goals
   try simp only [nrm] at hc0
   refine wp_seq_k ?_; intro K6 hK6
   refine wlit ?_
   refine wl_v (x_eql (tmI rfl rfl) (ev_cN 20)) ?_
   refine wl_v (x_assign (tmB rfl rfl)) ?_
   refine wl_nil ?_
   refine then_n (hK6 _ _ ?_); clear hK6 K6
   refine cnd (tm rfl) (fun hc1 => ?_) (fun hc1 => ?_)
   · skip
     all_goals
      try simp only [nrm] at hc1
      refine wp_seq_k ?_; intro K7 hK7
      refine wlit ?_
      refine wl_v (x_assign (ev_cN 1)) ?_
      refine wl_nil ?_
      refine then_n (hK7 _ _ ?_); clear hK7 K7
      refine wp_ret ?_
      refine inb_r ?_
      refine then_r ?_
      refine ret1 rfl (.tmp rfl (show _ = Value.int _ _ from rfl)) ?_
      refine ⟨congrArg (fun z : Int => Ending.returned (.int .i64 z)) ?_, hS.kp⟩
      unfold pkOf
      (repeat' split) <;> omega
   all_goals
    try simp only [nrm] at hc1
    refine wp_seq_k ?_; intro K8 hK8
    refine wlit ?_
    refine wl_v (x_eql (tmI rfl rfl) (ev_cN 22)) ?_
    refine wl_v (x_assign (tmB rfl rfl)) ?_
    refine wl_nil ?_
    refine then_n (hK8 _ _ ?_); clear hK8 K8
    refine cnd (tm rfl) (fun hc2 => ?_) (fun hc2 => ?_)
    · skip
      all_goals
       try simp only [nrm] at hc2
       refine wp_seq_k ?_; intro K9 hK9
       refine wlit ?_
       refine wl_v (x_assign (ev_cN 3)) ?_
       refine wl_nil ?_
       refine then_n (hK9 _ _ ?_); clear hK9 K9
       refine wp_ret ?_
       refine inb_r ?_
       refine then_r ?_
       refine ret1 rfl (.tmp rfl (show _ = Value.int _ _ from rfl)) ?_
       refine ⟨congrArg (fun z : Int => Ending.returned (.int .i64 z)) ?_, hS.kp⟩
       unfold pkOf
       (repeat' split) <;> omega
    all_goals
     try simp only [nrm] at hc2
     refine wp_seq_k ?_; intro K10 hK10
     refine wlit ?_
     refine wl_v (x_eql (tmI rfl rfl) (ev_cN 24)) ?_
     refine wl_v (x_assign (tmB rfl rfl)) ?_
     refine wl_nil ?_
     refine then_n (hK10 _ _ ?_); clear hK10 K10
     refine cnd (tm rfl) (fun hc3 => ?_) (fun hc3 => ?_)
     · skip
       all_goals
        try simp only [nrm] at hc3
        refine wp_seq_k ?_; intro K11 hK11
        refine wlit ?_
        refine wl_v (x_assign (ev_cN 11)) ?_
        refine wl_nil ?_
        refine then_n (hK11 _ _ ?_); clear hK11 K11
        refine wp_ret ?_
        refine inb_r ?_
        refine then_r ?_
        refine ret1 rfl (.tmp rfl (show _ = Value.int _ _ from rfl)) ?_
        refine ⟨congrArg (fun z : Int => Ending.returned (.int .i64 z)) ?_, hS.kp⟩
        unfold pkOf
        (repeat' split) <;> omega
     all_goals
      try simp only [nrm] at hc3
      refine wp_seq_k ?_; intro K12 hK12
      refine wlit ?_
      refine wl_v (x_eql (tmI rfl rfl) (ev_cN 25)) ?_
      refine wl_v (x_assign (tmB rfl rfl)) ?_
      refine wl_nil ?_
      refine then_n (hK12 _ _ ?_); clear hK12 K12
      refine cnd (tm rfl) (fun hc4 => ?_) (fun hc4 => ?_)
      · skip
        all_goals
         try simp only [nrm] at hc4
         refine wp_seq_k ?_; intro K13 hK13
         refine wlit ?_
         refine wl_v (x_assign (ev_cN 12)) ?_
         refine wl_nil ?_
         refine then_n (hK13 _ _ ?_); clear hK13 K13
         refine wp_ret ?_
         refine inb_r ?_
         refine then_r ?_
         refine ret1 rfl (.tmp rfl (show _ = Value.int _ _ from rfl)) ?_
         refine ⟨congrArg (fun z : Int => Ending.returned (.int .i64 z)) ?_, hS.kp⟩
         unfold pkOf
         (repeat' split) <;> omega
      all_goals
       try simp only [nrm] at hc4
       refine wp_seq_k ?_; intro K14 hK14
       refine wlit ?_
       refine wl_v (x_eql (tmI rfl rfl) (ev_cN 26)) ?_
       refine wl_v (x_assign (tmB rfl rfl)) ?_
       refine wl_nil ?_
       refine then_n (hK14 _ _ ?_); clear hK14 K14
       refine cnd (tm rfl) (fun hc5 => ?_) (fun hc5 => ?_)
       · skip
         all_goals
          try simp only [nrm] at hc5
          refine wp_seq_k ?_; intro K15 hK15
          refine wlit ?_
          refine wl_v (x_assign (ev_cN 10)) ?_
          refine wl_nil ?_
          refine then_n (hK15 _ _ ?_); clear hK15 K15
          refine wp_ret ?_
          refine inb_r ?_
          refine then_r ?_
          refine ret1 rfl (.tmp rfl (show _ = Value.int _ _ from rfl)) ?_
          refine ⟨congrArg (fun z : Int => Ending.returned (.int .i64 z)) ?_, hS.kp⟩
          unfold pkOf
          (repeat' split) <;> omega
       all_goals
        try simp only [nrm] at hc5
        refine wp_seq_k ?_; intro K16 hK16
        refine wlit ?_
        refine wl_v (x_eql (tmI rfl rfl) (ev_cN 28)) ?_
        refine wl_v (x_assign (tmB rfl rfl)) ?_
        refine wl_nil ?_
        refine then_n (hK16 _ _ ?_); clear hK16 K16
        refine cnd (tm rfl) (fun hc6 => ?_) (fun hc6 => ?_)
        · skip
          all_goals
           try simp only [nrm] at hc6
           refine wp_seq_k ?_; intro K17 hK17
           refine wlit ?_
           refine wl_v (x_assign (ev_cN 13)) ?_
           refine wl_nil ?_
           refine then_n (hK17 _ _ ?_); clear hK17 K17
           refine wp_ret ?_
           refine inb_r ?_
           refine then_r ?_
           refine ret1 rfl (.tmp rfl (show _ = Value.int _ _ from rfl)) ?_
           refine ⟨congrArg (fun z : Int => Ending.returned (.int .i64 z)) ?_, hS.kp⟩
           unfold pkOf
           (repeat' split) <;> omega
        all_goals
         try simp only [nrm] at hc6
         refine wp_skip ?_
         refine inb_n ?_
         refine then_n (hK2 _ _ ?_); clear hK2 K2
         refine wp_seq_k ?_; intro K18 hK18
         refine wlit ?_
         refine wl_v (x_assign (ev_cN 2)) ?_
         refine wl_nil ?_
         refine then_n (hK18 _ _ ?_); clear hK18 K18
         refine wp_ret ?_
         refine ret1 rfl (.tmp rfl (show _ = Value.int _ _ from rfl)) ?_
         refine ⟨congrArg (fun z : Int => Ending.returned (.int .i64 z)) ?_, hS.kp⟩
         unfold pkOf
         (repeat' split) <;> omega
def nmB : List ByteArray := [⟨#[102, 105, 110, 101]⟩, ⟨#[115, 104, 111, 114, 116]⟩, ⟨#[109, 97, 108, 102, 111, 114, 109, 101, 100]⟩, ⟨#[98, 97, 100, 115, 117, 109]⟩, ⟨#[102, 114, 97, 103, 109, 101, 110, 116]⟩, ⟨#[101, 120, 112, 105, 114, 101, 100]⟩, ⟨#[110, 111, 112, 114, 111, 116, 111]⟩, ⟨#[110, 111, 115, 101, 114, 118, 105, 99, 101]⟩, ⟨#[110, 111, 116, 97, 98, 108, 101]⟩, ⟨#[110, 111, 98, 97, 99, 107, 101, 110, 100]⟩, ⟨#[110, 111, 107, 101, 121]⟩, ⟨#[110, 111, 118, 101, 114, 115, 105, 111, 110]⟩, ⟨#[110, 111, 115, 108, 111, 116]⟩, ⟨#[101, 118, 105, 99, 116, 101, 100]⟩, ⟨#[116, 111, 111, 98, 105, 103]⟩, ⟨#[115, 116, 114, 97, 110, 103, 101, 114]⟩]
def nmV : List Value := nmB.map Value.string
def nmOf (r : Int) : ByteArray := if 0 ≤ r ∧ r < 16 then nmB.getD r.toNat ⟨#[]⟩ else ⟨#[]⟩
theorem nm_get {k : Nat} (h : k < 16) : nmV[k]? = some (.string (nmOf (k : Int))) := by
  unfold nmOf nmV
  rw [if_pos (by omega), List.getElem?_map, Int.toNat_natCast, List.getD_eq_getElem?_getD, List.getElem?_eq_getElem (by simpa [nmB] using h)]
  rfl
theorem nm_out {r : Int} (h : ¬ (0 ≤ r ∧ r < 16)) : nmOf r = ⟨#[]⟩ := by unfold nmOf; rw [if_neg h]
def Names (w : World) : Prop := View w w.heap.size (some ⟨0, 0, none⟩) nmV
set_option maxRecDepth 100000 in
set_option maxHeartbeats 4000000 in
theorem name_c (r : Int) (w0 : World) (hv : Names w0) : Calls Tryd.prog 12 #[.int .i64 r] w0 fun x w' => x = .returned (.string (nmOf r)) ∧ Kp [] w0 w' := by
  have hS := (St.sv w0).vcons rfl hv
  refine ent (n := 12) Tryd.func12 rfl rfl ?_
  refine wp_seq_k ?_; intro K1 hK1
  refine wlit ?_
  refine wl_v (x_assign ev_c) ?_
  refine wl_nil ?_
  refine then_n (hK1 _ _ ?_); clear hK1 K1
  refine wp_seq_k ?_; intro K2 hK2
  refine wp_seq_k ?_; intro K3 hK3
  refine wlit ?_
  refine wl_v (x_move (tmI rfl rfl)) ?_
  refine wl_v (x_lss (tmI rfl rfl) (ev_cN 0)) ?_
  refine wl_v (x_move (tmB rfl rfl)) ?_
  refine gs_wl (tm (t := 5) rfl) (fun hg1_2 => ?_) (fun hg1_2 => ?_)
  · have hg1_2' := hg1_2; (try simp only [nrm] at hg1_2')
    all_goals
     refine wl_s rfl (want_n rfl rfl rfl rfl (by rw [hg1_2]; rfl)) ?_
     refine wl_s rfl (want_n rfl rfl rfl rfl (by rw [hg1_2]; rfl)) ?_
     refine wl_v (x_pickT (tmB rfl rfl) hg1_2 ev_c) ?_
     refine wl_nil ?_
     refine then_n (hK3 _ _ ?_); clear hK3 K3
     refine cnd_t (tmB rfl rfl) rfl ?_
     refine wp_seq_k ?_; intro K4 hK4
     have hr : ¬ (0 ≤ r ∧ r < 16) := by omega
     refine wlit ?_
     refine wl_v (x_assign ev_c) ?_
     refine wl_nil ?_
     refine then_n (hK4 _ _ ?_); clear hK4 K4
     refine wp_ret ?_
     refine then_r ?_
     refine ret1 rfl (.tmp rfl rfl) ?_
     first
       | (refine ⟨?_, hS.kp⟩
          rw [nm_out hr]
          first | done | rfl)
       | exact ⟨rfl, hS.kp⟩
  have hg1_2' := hg1_2; (try simp only [nrm] at hg1_2')
  all_goals
   refine wl_gv (want_y rfl rfl rfl rfl (by rw [hg1_2]; rfl)) (x_move (tmI rfl rfl)) ?_
   refine wl_gv (want_y rfl rfl rfl rfl (by rw [hg1_2]; rfl)) (x_geq (tmI rfl rfl) (ev_cN 16)) ?_
   refine wl_v (x_pickF (tmB rfl rfl) hg1_2 (tmB rfl rfl)) ?_
   refine wl_nil ?_
   refine then_n (hK3 _ _ ?_); clear hK3 K3
   refine cnd (tm rfl) (fun hc0 => ?_) (fun hc0 => ?_)
   · skip
     all_goals
      try simp only [nrm] at hc0
      refine wp_seq_k ?_; intro K5 hK5
      have hr : ¬ (0 ≤ r ∧ r < 16) := by omega
      refine wlit ?_
      refine wl_v (x_assign ev_c) ?_
      refine wl_nil ?_
      refine then_n (hK5 _ _ ?_); clear hK5 K5
      refine wp_ret ?_
      refine then_r ?_
      refine ret1 rfl (.tmp rfl rfl) ?_
      first
        | (refine ⟨?_, hS.kp⟩
           rw [nm_out hr]
           first | done | rfl)
        | exact ⟨rfl, hS.kp⟩
   all_goals
    try simp only [nrm] at hc0
    have hr : 0 ≤ r ∧ r < 16 := by simp at hc0; omega
    obtain ⟨k, rfl⟩ := Int.eq_ofNat_of_zero_le hr.1
    have hk : k < 16 := by omega
    refine wp_skip ?_
    refine then_n (hK2 _ _ ?_); clear hK2 K2
    refine wp_seq_k ?_; intro K6 hK6
    refine wlit ?_
    refine wl_v (x_move (tmI rfl rfl)) ?_
    refine wl_v (x_ixa1 Tryd.underlying77 ts_9 rfl (tmI rfl rfl) (by omega)) ?_
    refine wl_v (x_load (v := .string (nmOf (k : Int))) Tryd.underlying9 rfl (tmP rfl rfl) (cellV hS.ok 0 rfl (nm_get hk))) ?_
    refine wl_v (x_assign (tmG rfl rfl)) ?_
    refine wl_nil ?_
    refine then_n (hK6 _ _ ?_); clear hK6 K6
    refine wp_ret ?_
    refine ret1 rfl (.tmp rfl rfl) ?_
    first
      | (refine ⟨?_, hS.kp⟩
         rw [nm_out hr]
         first | done | rfl)
      | exact ⟨rfl, hS.kp⟩
end Go.Proofs.YtmekadkmmddocaaDoor
