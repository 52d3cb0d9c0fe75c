import Derived.Test.YtcobjneobdihkaaSteerWholeZE
/- packet: header of both sides at once; carry of everything. Conditions: none but bounds. -/
namespace Go.Proofs.Ytcobjneobdihkaa
open Go.ChangeAt Go.ChangeShapes Go.RowKit Go.WideShapes
theorem why4_z {er : Nat} {more : Bool} {off : Nat} (h : why4 er more off = 0) : er = 0 ∧ more = false ∧ off = 0 := by
  unfold why4 at h
  split at h
  · rename_i h0
    split at h
    · cases h
    · rename_i hc
      cases more with
      | true => exact absurd rfl hc
      | false =>
        refine ⟨h0, rfl, ?_⟩
        by_cases ho : 0 < off
        · exact absurd (by rw [decide_eq_true ho]; rfl) hc
        · omega
  · rename_i h0
    exact absurd h (pkOf_ne h0)
theorem hdr_ex (l : List Nat) (hb : Bytes l) (hn : l.length ≤ 3000) : ∃ (six stay : Bool) (ttl : Nat) (s d : Ad) (pr : Nat) (x : List Nat) (why : Int), ttl < 256 ∧ pr < 256 ∧ s.six = d.six ∧ adLim s ∧ adLim d ∧ Bytes x ∧ x.length ≤ 3000 ∧ (why = 0 → Xpl six l s d pr x) ∧
    HdP 44 l (mkI six stay ttl s d pr) x why ∧ HdP 21 l (mkI six stay ttl s d pr) x why := by
  by_cases h0 : sixE l = 0
  · have hl : l.length ≠ 0 := fun h => by rw [(sx0 h).1] at h0; cases h0
    by_cases h6 : nth l 0 / 16 = 6
    · obtain ⟨_, e2, e3⟩ := sx6 hl h6
      obtain ⟨cl, lb, len, pr, ttl, s, d, x, er, q1, q2, q3, q4, q5, q6, q7, q8, q9, qx, hP1, hP2⟩ := k6_ex l hb hn h6
      exact ⟨true, true, ttl, s, d, pr, x, pkOf (er : Int), q3, q2, q4, q5, q6, q7, q8, fun h => (by obtain ⟨y1, y2, y3, y4, y5⟩ := qx (er_zero h); exact .inr ⟨rfl, h6, y1, y2, y3, y4, y5⟩), header_six l hb hn cl lb len pr ttl s d x er h0 e2 hP1, outer_six l hb hn cl lb len pr ttl s d x er e3 hP2⟩
    · have h4 : nth l 0 / 16 = 4 := by
        by_cases h4 : nth l 0 / 16 = 4
        · exact h4
        · rw [(sxo hl h4 h6).1] at h0; cases h0
      obtain ⟨_, e2, e3⟩ := sx4 hl h4
      obtain ⟨tos, len, id, stay, more, off, ttl, pr, sum, s, d, o, x, er, q1, q2, q3, q4, q5, q6, q7, q8, q9, q10, q11, q12, q13, _, qx, hP1, hP2⟩ := k4_ex l hb hn
      exact ⟨false, stay, ttl, s, d, pr, x, why4 er more off, q3, q4, q11, q12, q13, q8, q9, fun h => (by obtain ⟨z1, z2, z3⟩ := why4_z h; obtain ⟨sz, ln, y1, y2, y3, y4, y5, y6, y7⟩ := qx z1; exact .inl ⟨rfl, sz, ln, y1, y2, y7 z2 z3, y3, y4, y5, y6⟩), header_four l hb hn tos len id stay more off ttl pr sum s d o x er h0 e2 hP1, outer_four l hb hn tos len id stay more off ttl pr sum s d o x er e3 hP2⟩
  · exact ⟨false, false, 0, ⟨false, 0, 0⟩, ⟨false, 0, 0⟩, 0, [], pkOf (sixE l : Int), by decide, by decide, rfl, ⟨Nat.zero_le _, Nat.zero_le _⟩, ⟨Nat.zero_le _, Nat.zero_le _⟩, Bytes.nil, Nat.zero_le _, fun h => absurd h (pkOf_ne h0), header_bad l hb hn _ _ _ h0 rfl, outer_bad l hb hn _ _ _ h0 rfl⟩
def icmpQ (six : Bool) (pr : Nat) : Prop := (pr = 1 ∧ six = false) ∨ (pr = 58 ∧ six = true)
instance (six : Bool) (pr : Nat) : Decidable (icmpQ six pr) := by unfold icmpQ; exact inferInstance
/-- All four parts' bytes are seen. -/
def Inf.E (i : Inf) (p : Pl) : List Ent := [.vw p.O (i.T.o.map u8v), .vw p.X (i.T.x.map u8v), .vw p.U (i.D.x.map u8v), .vw p.M (i.I.x.map u8v)]
theorem St.nilv {F : List Nat} {w0 w : World} {M : List Ent} (h : St F w0 M w) : St F w0 (.vw none (([] : List Nat).map u8v) :: M) w := h.addv View.nil_ fun _ _ => .inr (.inl rfl)
theorem St.leave0 {F : List Nat} {w0 w w' : World} {M M' : List Ent} (h : St F w0 M w) (is : List Nat) (hl : is.all (fun i => Nat.blt i M.length) = true) (hn : nodupB is = true) (hw : (picks M is).all (fun e => !e.ro) = true)
    (hpost : St (blks (picks M is)) w M' w') : St F w0 M' w' := by
  have hp := h.pick is hl hn
  have hG : ∀ g ∈ blks (picks M is), g ∈ F ∨ w0.heap.size ≤ g := by
    intro g hg
    obtain ⟨e, he, hb⟩ := List.mem_filterMap.1 hg
    have := List.all_eq_true.1 hw e he
    exact hp.own e he (by simpa using this) g hb
  refine ⟨h.kp.step hpost.kp hG, hpost.ok, hpost.ap, fun e he hro g hg => ?_⟩
  rcases hpost.own e he hro g hg with h1 | h1
  · exact hG g h1
  · exact .inr (Nat.le_trans h.kp.size h1)
theorem St.addo {F G : List Nat} {w0 w w' : World} {L P : List Ent} (hbig : St F w0 L w') (hpost : St G w P w') {A : Option Addr} {xs : List Value} (i : Nat) (hP : P[i]? = some (.vw A xs)) (hnew : ∀ g, (Ent.vw A xs).blk? = some g → w.heap.size ≤ g)
    (hL : ∀ e' ∈ L, e'.ro = true ∨ (∃ j, j ≠ i ∧ P[j]? = some e') ∨ (∀ g, e'.blk? = some g → g < w.heap.size)) : St F w0 (.vw A xs :: L) w' := by
  refine hbig.addv (hpost.ok _ (mem_of_get hP)) fun e' he' => ?_
  rcases hL e' he' with h | ⟨j, hj, h⟩ | h
  · exact .inl (by rw [h]; rfl)
  · exact hpost.ap i j _ _ (fun e => hj e.symm) hP h
  · cases hx : (Ent.vw A xs).blk? with
    | none => exact .inr (.inl hx)
    | some g =>
      cases hy : e'.blk? with
      | none => exact .inr (.inr (.inl hy))
      | some g' =>
        refine .inr (.inr (.inr ?_))
        rw [hx, hy]
        intro he; injection he with he; subst he
        have h1 := hnew g hx
        have h2 := h g hy
        omega
/-- A call that wrote one block and answers four views that are new. -/
theorem St.leave4 {F : List Nat} {w0 w w' : World} {M : List Ent} (h : St F w0 M w) (i : Nat) (js : List Nat) (hl : ([i] ++ js).all (fun i => Nat.blt i M.length) = true) (hn : nodupB ([i] ++ js) = true) (hw : (picks M [i]).all (fun e => !e.ro) = true) {e0 : Ent} {A1 A2 A3 A4 : Option Addr} {l1 l2 l3 l4 : List Nat}
    (hpost : St (blks (picks M [i])) w [e0, .vw A1 (l1.map u8v), .vw A2 (l2.map u8v), .vw A3 (l3.map u8v), .vw A4 (l4.map u8v)] w') (h0 : e0.ro = false) (b1 : NewB w A1 l1) (b2 : NewB w A2 l2) (b3 : NewB w A3 l3) (b4 : NewB w A4 l4) :
    St F w0 ([.vw A1 (l1.map u8v), .vw A2 (l2.map u8v), .vw A3 (l3.map u8v), .vw A4 (l4.map u8v), e0] ++ picks M js) w' := by
  have hold : ∀ e ∈ picks M js, ∀ g, e.blk? = some g → g < w.heap.size := fun e he g hg => by
    have hjs : js.all (fun i => Nat.blt i M.length) = true := by
      rw [List.all_append, Bool.and_eq_true] at hl; exact hl.2
    obtain ⟨p, hp⟩ := List.getElem?_of_mem he
    obtain ⟨j, _, hj⟩ := picks_get M js hjs p e hp
    exact Ent.ok_lt (h.ok e (mem_of_get hj)) hg
  have hS := h.leave [i] js hl hn hw (hpost.pick [0] rfl rfl) (by show (!e0.ro && true) = true; rw [h0]; rfl)
  have hb : ∀ (L : List Ent), (∀ e ∈ L, e.ro = true) → ∀ (k : Nat), k ≠ 0 → ∀ e' ∈ L ++ (e0 :: picks M js), e'.ro = true ∨ (∃ j, j ≠ k ∧ ([e0, .vw A1 (l1.map u8v), .vw A2 (l2.map u8v), .vw A3 (l3.map u8v), .vw A4 (l4.map u8v)] : List Ent)[j]? = some e') ∨ (∀ g, e'.blk? = some g → g < w.heap.size) := fun L hL k hk e' he' => by
    rcases List.mem_append.1 he' with he' | he'
    · exact .inl (hL e' he')
    · rcases List.mem_cons.1 he' with rfl | he'
      · exact .inr (.inl ⟨0, fun e => hk e.symm, rfl⟩)
      · exact .inr (.inr (hold e' he'))
  have h4 := St.addo hS hpost 4 rfl b4 (hb [] (by simp) 4 (by decide))
  have h3 := St.addo h4 hpost 3 rfl b3 (hb [.vw A4 (l4.map u8v)] (by simp [Ent.ro]) 3 (by decide))
  have h2 := St.addo h3 hpost 2 rfl b2 (hb [.vw A3 (l3.map u8v), .vw A4 (l4.map u8v)] (by simp [Ent.ro]) 2 (by decide))
  exact St.addo h2 hpost 1 rfl b1 (hb [.vw A2 (l2.map u8v), .vw A3 (l3.map u8v), .vw A4 (l4.map u8v)] (by simp [Ent.ro]) 1 (by decide))
/-- What carry makes of a header and a load. -/
def CarP (i : Inf) (x : List Nat) (i' : Inf) (why : Int) : Prop := ∀ (g : Nat) (L : Option Addr) (cl : Nat) (F : List Nat) (w0 : World), St F w0 [.blk g 53 (i.V Pl.Z), .vw L (x.map u8v)] w0 → x.length ≤ cl →
  Calls Try.prog 45 #[.pointer (some ⟨g, 0, none⟩), .slice L x.length cl] w0 fun e w' => ∃ p, e = .returned (.int .i64 why) ∧ i'.T.o.length ≤ p.co ∧ NewB w0 p.O i'.T.o ∧ NewB w0 p.X i'.T.x ∧ NewB w0 p.U i'.D.x ∧ NewB w0 p.M i'.I.x ∧ St F w0 (.blk g 53 (i'.V p) :: i'.E p) w'
set_option maxRecDepth 100000 in
set_option maxHeartbeats 8000000 in
theorem carry_tcp (i : Inf) (hT : i.T = Sg.Z) (hD : i.D = Dg.Z) (hI : i.I = Mg.Z) (x : List Nat) (t : Sg) (er : Nat) (hpr : i.pr = 6) (hb : Bytes x) (hx : x.length ≤ 3000) (h6 : i.s.six = i.d.six) (hls : adLim i.s) (hld : adLim i.d) (hP : PT 33 x t er) :
    CarP i x ⟨i.six, i.stay, i.ttl, i.s, i.d, t.t1, t.t2, i.pr, t, i.D, i.I⟩ (chk (er : Int) (decide (foldN (gS i.s i.d 6 x) = 65535))) := fun g L cl F w0 hS hc => by
  refine ent (n := 54) Try.func45 rfl rfl ?_
  refine wp_seq_k ?_; intro K1 hK1
  refine wlit ?_
  refine wl_v (x_assign (ev_cN 0)) ?_
  refine wl_nil ?_
  refine then_n (hK1 _ _ ?_); clear hK1 K1
  refine wp_seq_k ?_; intro K2 hK2
  refine wp_block ?_
  refine wp_seq_k ?_; intro K3 hK3
  refine wlit ?_
  refine wl_v (x_move (tmP rfl rfl)) ?_
  refine wl_v (x_nil (A := none) (tmP rfl rfl)) ?_
  refine wl_v (x_fa 3 Try.underlying53 rfl rfl ts_29 (tmP rfl rfl)) ?_
  refine wl_v (x_fa 8 Try.underlying29 rfl rfl ts_5 (tmP rfl rfl)) ?_
  refine wl_v (x_load Try.underlying5 rfl (tmP rfl rfl) (cellB hS.ok 0 rfl rfl)) ?_
  refine wl_v (x_eql (tmI rfl rfl) (ev_cN 6)) ?_
  refine wl_v (x_assign (tmB rfl rfl)) ?_
  refine wl_nil ?_
  refine then_n (hK3 _ _ ?_); clear hK3 K3
  refine cnds (tm rfl) (fun hc0 => ?_) (fun hc0 => ?_)
  · exfalso
    first | omega | (simp at hc0; omega)
  try simp only [nrm] at hc0
  refine wp_seq_k ?_; intro K4 hK4
  refine wlit ?_
  refine wl_v (x_move (tmP rfl rfl)) ?_
  refine wl_v (x_move (tmS rfl rfl)) ?_
  refine wl_e rfl ?_; intro K hK
  refine ow_call Try.func66 rfl rfl (evs_cons (tmP rfl rfl) <| evs_cons (tmS rfl rfl) <| evs_nil) (carryTCP_c g i Pl.Z L cl x t er _ _ (hS.enter [0] [1] rfl rfl) hc hb hx h6 hls hld hP) ?_
  rintro e w ⟨O, co, X, cx, rfl, hco, b1, b2, hS2⟩
  refine ⟨_, rfl, ?_⟩
  replace b1 := fun b hb => Nat.le_trans hS.kp.size (b1 b hb)
  replace b2 := fun b hb => Nat.le_trans hS.kp.size (b2 b hb)
  replace hS := hS.leave0 [0] rfl rfl rfl hS2 --ents g,vo,vx
  clear hS2
  try replace hS := St.nm (M' := [_, .vw _ _, .vw _ _]) hS rfl
  refine hK _ _ ?_; clear hK K
  refine wl_v (x_assign (tmI rfl rfl)) ?_
  refine wl_nil ?_
  refine then_n (hK4 _ _ ?_); clear hK4 K4
  refine wp_ret ?_
  refine inb_r ?_
  refine then_r ?_
  refine ret1 rfl (.tmp rfl (show _ = Value.int _ _ from rfl)) ?_
  obtain ⟨six, stay, ttl, s, d, sp, dp, pr, T, D, I⟩ := i
  obtain rfl : T = Sg.Z := hT
  obtain rfl : D = Dg.Z := hD
  obtain rfl : I = Mg.Z := hI
  exact ⟨⟨O, co, X, cx, none, 0, none, 0⟩, rfl, hco, b1, b2, NewB.nil, NewB.nil, hS.nilv.nilv.pick [2, 3, 4, 0, 1] rfl rfl⟩
set_option maxRecDepth 100000 in
set_option maxHeartbeats 8000000 in
theorem carry_udp (i : Inf) (hT : i.T = Sg.Z) (hD : i.D = Dg.Z) (hI : i.I = Mg.Z) (x : List Nat) (t : Dg) (er : Nat) (hpr : i.pr = 17) (hx : x.length ≤ 3000) (h6 : i.s.six = i.d.six) (hls : adLim i.s) (hld : adLim i.d) (ht : t.ok) (hP : PU 79 x t er) :
    CarP i x ⟨i.six, i.stay, i.ttl, i.s, i.d, t.u1, t.u2, i.pr, i.T, t, i.I⟩ (chk (er : Int) (udF t.u1 t.u2 t.u3 t.x i.s i.d)) := fun g L cl F w0 hS hc => by
  refine ent (n := 54) Try.func45 rfl rfl ?_
  refine wp_seq_k ?_; intro K1 hK1
  refine wlit ?_
  refine wl_v (x_assign (ev_cN 0)) ?_
  refine wl_nil ?_
  refine then_n (hK1 _ _ ?_); clear hK1 K1
  refine wp_seq_k ?_; intro K2 hK2
  refine wp_block ?_
  refine wp_seq_k ?_; intro K3 hK3
  refine wlit ?_
  refine wl_v (x_move (tmP rfl rfl)) ?_
  refine wl_v (x_nil (A := none) (tmP rfl rfl)) ?_
  refine wl_v (x_fa 3 Try.underlying53 rfl rfl ts_29 (tmP rfl rfl)) ?_
  refine wl_v (x_fa 8 Try.underlying29 rfl rfl ts_5 (tmP rfl rfl)) ?_
  refine wl_v (x_load Try.underlying5 rfl (tmP rfl rfl) (cellB hS.ok 0 rfl rfl)) ?_
  refine wl_v (x_eql (tmI rfl rfl) (ev_cN 6)) ?_
  refine wl_v (x_assign (tmB rfl rfl)) ?_
  refine wl_nil ?_
  refine then_n (hK3 _ _ ?_); clear hK3 K3
  refine cnd (tm rfl) (fun hc0 => ?_) (fun hc0 => ?_)
  · exfalso
    first | omega | (simp at hc0; omega)
  try simp only [nrm] at hc0
  refine wp_seq_k ?_; intro K4 hK4
  refine wlit ?_
  refine wl_v (x_move (tmP rfl rfl)) ?_
  refine wl_v (x_nil (A := none) (tmP rfl rfl)) ?_
  refine wl_v (x_fa 3 Try.underlying53 rfl rfl ts_29 (tmP rfl rfl)) ?_
  refine wl_v (x_fa 8 Try.underlying29 rfl rfl ts_5 (tmP rfl rfl)) ?_
  refine wl_v (x_load Try.underlying5 rfl (tmP rfl rfl) (cellB hS.ok 0 rfl rfl)) ?_
  refine wl_v (x_eql (tmI rfl rfl) (ev_cN 17)) ?_
  refine wl_v (x_assign (tmB rfl rfl)) ?_
  refine wl_nil ?_
  refine then_n (hK4 _ _ ?_); clear hK4 K4
  refine cnds (tm rfl) (fun hc1 => ?_) (fun hc1 => ?_)
  · exfalso
    first | omega | (simp at hc1; omega)
  try simp only [nrm] at hc1
  refine wp_seq_k ?_; intro K5 hK5
  refine wlit ?_
  refine wl_v (x_move (tmP rfl rfl)) ?_
  refine wl_v (x_move (tmS rfl rfl)) ?_
  refine wl_e rfl ?_; intro K hK
  refine ow_call Try.func67 rfl rfl (evs_cons (tmP rfl rfl) <| evs_cons (tmS rfl rfl) <| evs_nil) (carryUDP_c g i Pl.Z L cl x t er _ _ (hS.enter [0] [1] rfl rfl) hc hx h6 hls hld ht hP) ?_
  rintro e w ⟨U, cu, rfl, b1, hS2⟩
  refine ⟨_, rfl, ?_⟩
  replace b1 := fun b hb => Nat.le_trans hS.kp.size (b1 b hb)
  replace hS := hS.leave0 [0] rfl rfl rfl hS2 --ents g,vu
  clear hS2
  try replace hS := St.nm (M' := [_, .vw _ _]) hS rfl
  refine hK _ _ ?_; clear hK K
  refine wl_v (x_assign (tmI rfl rfl)) ?_
  refine wl_nil ?_
  refine then_n (hK5 _ _ ?_); clear hK5 K5
  refine wp_ret ?_
  refine inb_r ?_
  refine then_r ?_
  refine ret1 rfl (.tmp rfl (show _ = Value.int _ _ from rfl)) ?_
  obtain ⟨six, stay, ttl, s, d, sp, dp, pr, T, D, I⟩ := i
  obtain rfl : T = Sg.Z := hT
  obtain rfl : D = Dg.Z := hD
  obtain rfl : I = Mg.Z := hI
  exact ⟨⟨none, 0, none, 0, U, cu, none, 0⟩, rfl, Nat.zero_le _, NewB.nil, NewB.nil, b1, NewB.nil, hS.nilv.nilv.nilv.pick [3, 0, 1, 4, 2] rfl rfl⟩
set_option maxRecDepth 100000 in
set_option maxHeartbeats 8000000 in
theorem carry_icmp (i : Inf) (hT : i.T = Sg.Z) (hD : i.D = Dg.Z) (hI : i.I = Mg.Z) (x : List Nat) (t : Mg) (er : Nat) (hpr : (i.pr = 1 ∧ i.six = false) ∨ (i.pr = 58 ∧ i.six = true)) (hx : x.length ≤ 3000) (h6 : i.s.six = i.d.six) (hls : adLim i.s) (hld : adLim i.d) (ht : t.ok) (hP : PM x t er) :
    CarP i x ⟨i.six, i.stay, i.ttl, i.s, i.d, i.sp, i.dp, i.pr, i.T, i.D, t⟩ (chk (er : Int) (decide (foldN (icS t.m1 t.m2 t.m3 t.m4 t.x i.s i.d) = 65535))) := fun g L cl F w0 hS hc => by
  refine ent (n := 54) Try.func45 rfl rfl ?_
  refine wp_seq_k ?_; intro K1 hK1
  refine wlit ?_
  refine wl_v (x_assign (ev_cN 0)) ?_
  refine wl_nil ?_
  refine then_n (hK1 _ _ ?_); clear hK1 K1
  refine wp_seq_k ?_; intro K2 hK2
  refine wp_block ?_
  refine wp_seq_k ?_; intro K3 hK3
  refine wlit ?_
  refine wl_v (x_move (tmP rfl rfl)) ?_
  refine wl_v (x_nil (A := none) (tmP rfl rfl)) ?_
  refine wl_v (x_fa 3 Try.underlying53 rfl rfl ts_29 (tmP rfl rfl)) ?_
  refine wl_v (x_fa 8 Try.underlying29 rfl rfl ts_5 (tmP rfl rfl)) ?_
  refine wl_v (x_load Try.underlying5 rfl (tmP rfl rfl) (cellB hS.ok 0 rfl rfl)) ?_
  refine wl_v (x_eql (tmI rfl rfl) (ev_cN 6)) ?_
  refine wl_v (x_assign (tmB rfl rfl)) ?_
  refine wl_nil ?_
  refine then_n (hK3 _ _ ?_); clear hK3 K3
  refine cnd (tm rfl) (fun hc0 => ?_) (fun hc0 => ?_)
  · exfalso
    first | omega | (simp at hc0; omega)
  try simp only [nrm] at hc0
  refine wp_seq_k ?_; intro K4 hK4
  refine wlit ?_
  refine wl_v (x_move (tmP rfl rfl)) ?_
  refine wl_v (x_nil (A := none) (tmP rfl rfl)) ?_
  refine wl_v (x_fa 3 Try.underlying53 rfl rfl ts_29 (tmP rfl rfl)) ?_
  refine wl_v (x_fa 8 Try.underlying29 rfl rfl ts_5 (tmP rfl rfl)) ?_
  refine wl_v (x_load Try.underlying5 rfl (tmP rfl rfl) (cellB hS.ok 0 rfl rfl)) ?_
  refine wl_v (x_eql (tmI rfl rfl) (ev_cN 17)) ?_
  refine wl_v (x_assign (tmB rfl rfl)) ?_
  refine wl_nil ?_
  refine then_n (hK4 _ _ ?_); clear hK4 K4
  refine cnd (tm rfl) (fun hc1 => ?_) (fun hc1 => ?_)
  · exfalso
    first | omega | (simp at hc1; omega)
  try simp only [nrm] at hc1
  refine wp_seq_k ?_; intro K5 hK5
  refine wp_seq_k ?_; intro K6 hK6
  refine wlit ?_
  refine wl_v (x_move (tmP rfl rfl)) ?_
  refine wl_v (x_nil (A := none) (tmP rfl rfl)) ?_
  refine wl_v (x_fa 3 Try.underlying53 rfl rfl ts_29 (tmP rfl rfl)) ?_
  refine wl_v (x_fa 8 Try.underlying29 rfl rfl ts_5 (tmP rfl rfl)) ?_
  refine wl_v (x_load Try.underlying5 rfl (tmP rfl rfl) (cellB hS.ok 0 rfl rfl)) ?_
  refine wl_v (x_eql (tmI rfl rfl) (ev_cN 1)) ?_
  refine wl_v (x_move (tmB rfl rfl)) ?_
  refine gs_wl (tm (t := 32) rfl) (fun hg5_6 => ?_) (fun hg5_6 => ?_)
  · have hg5_6' := hg5_6; (try simp only [nrm] at hg5_6')
    refine wl_gv (want_y rfl rfl rfl rfl (by rw [hg5_6]; rfl)) (x_move (tmP rfl rfl)) ?_
    refine wl_gv (want_y rfl rfl rfl rfl (by rw [hg5_6]; rfl)) (x_nil (A := none) (tmP rfl rfl)) ?_
    refine wl_gv (want_y rfl rfl rfl rfl (by rw [hg5_6]; rfl)) (x_fa 0 Try.underlying53 rfl rfl ts_4 (tmP rfl rfl)) ?_
    refine wl_gv (want_y rfl rfl rfl rfl (by rw [hg5_6]; rfl)) (x_load Try.underlying4 rfl (tmP rfl rfl) (cellB hS.ok 0 rfl rfl)) ?_
    refine wl_gv (want_y rfl rfl rfl rfl (by rw [hg5_6]; rfl)) (x_not (tmB rfl rfl)) ?_
    refine wl_v (x_pickT (tmB rfl rfl) hg5_6 (tmB rfl rfl)) ?_
    refine wl_v (x_assign (tmB rfl rfl)) ?_
    refine wl_nil ?_
    refine then_n (hK6 _ _ ?_); clear hK6 K6
    refine cnd (tm rfl) (fun hc2 => ?_) (fun hc2 => ?_)
    · skip
      try simp only [nrm] at hc2
      refine wp_skip ?_
      refine then_n (hK5 _ _ ?_); clear hK5 K5
      refine cnd (tm rfl) (fun hc3 => ?_) (fun hc3 => ?_)
      · skip
        try simp only [nrm] at hc3
        refine wp_seq_k ?_; intro K7 hK7
        refine wlit ?_
        refine wl_v (x_move (tmP rfl rfl)) ?_
        refine wl_v (x_move (tmS rfl rfl)) ?_
        refine wl_e rfl ?_; intro K hK
        refine ow_call Try.func68 rfl rfl (evs_cons (tmP rfl rfl) <| evs_cons (tmS rfl rfl) <| evs_nil) (carryICMP_c g i Pl.Z L cl x t er _ _ (hS.enter [0] [1] rfl rfl) hc hx h6 hls hld ht hP) ?_
        rintro e w ⟨U, cu, rfl, b1, hS2⟩
        refine ⟨_, rfl, ?_⟩
        replace b1 := fun b hb => Nat.le_trans hS.kp.size (b1 b hb)
        replace hS := hS.leave0 [0] rfl rfl rfl hS2 --ents g,vu
        clear hS2
        try replace hS := St.nm (M' := [_, .vw _ _]) hS rfl
        refine hK _ _ ?_; clear hK K
        refine wl_v (x_assign (tmI rfl rfl)) ?_
        refine wl_nil ?_
        refine then_n (hK7 _ _ ?_); clear hK7 K7
        refine wp_ret ?_
        refine inb_r ?_
        refine then_r ?_
        refine ret1 rfl (.tmp rfl (show _ = Value.int _ _ from rfl)) ?_
        first
          | (obtain ⟨six, stay, ttl, s, d, sp, dp, pr, T, D, I⟩ := i
             obtain rfl : T = Sg.Z := hT
             obtain rfl : D = Dg.Z := hD
             obtain rfl : I = Mg.Z := hI
             exact ⟨⟨none, 0, none, 0, none, 0, U, cu⟩, rfl, Nat.zero_le _, NewB.nil, NewB.nil, NewB.nil, b1, hS.nilv.nilv.nilv.pick [3, 0, 1, 2, 4] rfl rfl⟩)
          | (exfalso; rcases hpr with ⟨h1, h2⟩ | ⟨h1, h2⟩ <;> simp_all)
      try simp only [nrm] at hc3
      refine wp_skip ?_
      refine inb_n ?_
      refine then_n (hK2 _ _ ?_); clear hK2 K2
      refine wp_seq_k ?_; intro K8 hK8
      refine wlit ?_
      refine wl_v (x_assign (ev_cN 6)) ?_
      refine wl_nil ?_
      refine then_n (hK8 _ _ ?_); clear hK8 K8
      refine wp_ret ?_
      refine ret1 rfl (.tmp rfl (show _ = Value.int _ _ from rfl)) ?_
      first
        | (obtain ⟨six, stay, ttl, s, d, sp, dp, pr, T, D, I⟩ := i
           obtain rfl : T = Sg.Z := hT
           obtain rfl : D = Dg.Z := hD
           obtain rfl : I = Mg.Z := hI
           exact ⟨⟨none, 0, none, 0, none, 0, U, cu⟩, rfl, Nat.zero_le _, NewB.nil, NewB.nil, NewB.nil, b1, hS.nilv.nilv.nilv.pick [3, 0, 1, 2, 4] rfl rfl⟩)
        | (exfalso; rcases hpr with ⟨h1, h2⟩ | ⟨h1, h2⟩ <;> simp_all)
    try simp only [nrm] at hc2
    refine wlit ?_
    refine wl_v (x_move (tmP rfl rfl)) ?_
    refine wl_v (x_nil (A := none) (tmP rfl rfl)) ?_
    refine wl_v (x_fa 3 Try.underlying53 rfl rfl ts_29 (tmP rfl rfl)) ?_
    refine wl_v (x_fa 8 Try.underlying29 rfl rfl ts_5 (tmP rfl rfl)) ?_
    refine wl_v (x_load Try.underlying5 rfl (tmP rfl rfl) (cellB hS.ok 0 rfl rfl)) ?_
    refine wl_v (x_eql (tmI rfl rfl) (ev_cN 58)) ?_
    refine wl_v (x_move (tmB rfl rfl)) ?_
    refine gs_wl (tm (t := 45) rfl) (fun hg6_6 => ?_) (fun hg6_6 => ?_)
    · have hg6_6' := hg6_6; (try simp only [nrm] at hg6_6'); try (exfalso; first | with_reducible exact absurd hg6_6 Bool.false_ne_true | with_reducible exact absurd hg6_6.symm Bool.false_ne_true | omega | (simp at hg6_6; done))
    have hg6_6' := hg6_6; (try simp only [nrm] at hg6_6')
    refine wl_s rfl (want_n rfl rfl rfl rfl (by rw [hg6_6]; rfl)) ?_
    refine wl_s rfl (want_n rfl rfl rfl rfl (by rw [hg6_6]; rfl)) ?_
    refine wl_s rfl (want_n rfl rfl rfl rfl (by rw [hg6_6]; rfl)) ?_
    refine wl_s rfl (want_n rfl rfl rfl rfl (by rw [hg6_6]; rfl)) ?_
    refine wl_v (x_pickF (tmB rfl rfl) hg6_6 ev_c) ?_
    refine wl_v (x_assign (tmB rfl rfl)) ?_
    refine wl_nil ?_
    refine then_n (hK5 _ _ ?_); clear hK5 K5
    refine cnd_f (tmB rfl rfl) rfl ?_
    refine wp_skip ?_
    refine inb_n ?_
    refine then_n (hK2 _ _ ?_); clear hK2 K2
    refine wp_seq_k ?_; intro K11 hK11
    refine wlit ?_
    refine wl_v (x_assign (ev_cN 6)) ?_
    refine wl_nil ?_
    refine then_n (hK11 _ _ ?_); clear hK11 K11
    refine wp_ret ?_
    refine ret1 rfl (.tmp rfl (show _ = Value.int _ _ from rfl)) ?_
    first
      | (obtain ⟨six, stay, ttl, s, d, sp, dp, pr, T, D, I⟩ := i
         obtain rfl : T = Sg.Z := hT
         obtain rfl : D = Dg.Z := hD
         obtain rfl : I = Mg.Z := hI
         exact ⟨⟨none, 0, none, 0, none, 0, U, cu⟩, rfl, Nat.zero_le _, NewB.nil, NewB.nil, NewB.nil, b1, hS.nilv.nilv.nilv.pick [3, 0, 1, 2, 4] rfl rfl⟩)
      | (exfalso; rcases hpr with ⟨h1, h2⟩ | ⟨h1, h2⟩ <;> simp_all)
  have hg5_6' := hg5_6; (try simp only [nrm] at hg5_6')
  refine wl_s rfl (want_n rfl rfl rfl rfl (by rw [hg5_6]; rfl)) ?_
  refine wl_s rfl (want_n rfl rfl rfl rfl (by rw [hg5_6]; rfl)) ?_
  refine wl_s rfl (want_n rfl rfl rfl rfl (by rw [hg5_6]; rfl)) ?_
  refine wl_s rfl (want_n rfl rfl rfl rfl (by rw [hg5_6]; rfl)) ?_
  refine wl_s rfl (want_n rfl rfl rfl rfl (by rw [hg5_6]; rfl)) ?_
  refine wl_v (x_pickF (tmB rfl rfl) hg5_6 ev_c) ?_
  refine wl_v (x_assign (tmB rfl rfl)) ?_
  refine wl_nil ?_
  refine then_n (hK6 _ _ ?_); clear hK6 K6
  refine cnd_f (tmB rfl rfl) rfl ?_
  refine wlit ?_
  refine wl_v (x_move (tmP rfl rfl)) ?_
  refine wl_v (x_nil (A := none) (tmP rfl rfl)) ?_
  refine wl_v (x_fa 3 Try.underlying53 rfl rfl ts_29 (tmP rfl rfl)) ?_
  refine wl_v (x_fa 8 Try.underlying29 rfl rfl ts_5 (tmP rfl rfl)) ?_
  refine wl_v (x_load Try.underlying5 rfl (tmP rfl rfl) (cellB hS.ok 0 rfl rfl)) ?_
  refine wl_v (x_eql (tmI rfl rfl) (ev_cN 58)) ?_
  refine wl_v (x_move (tmB rfl rfl)) ?_
  refine gs_wl (tm (t := 45) rfl) (fun hg6_6 => ?_) (fun hg6_6 => ?_)
  · have hg6_6' := hg6_6; (try simp only [nrm] at hg6_6')
    refine wl_gv (want_y rfl rfl rfl rfl (by rw [hg6_6]; rfl)) (x_move (tmP rfl rfl)) ?_
    refine wl_gv (want_y rfl rfl rfl rfl (by rw [hg6_6]; rfl)) (x_nil (A := none) (tmP rfl rfl)) ?_
    refine wl_gv (want_y rfl rfl rfl rfl (by rw [hg6_6]; rfl)) (x_fa 0 Try.underlying53 rfl rfl ts_4 (tmP rfl rfl)) ?_
    refine wl_gv (want_y rfl rfl rfl rfl (by rw [hg6_6]; rfl)) (x_load Try.underlying4 rfl (tmP rfl rfl) (cellB hS.ok 0 rfl rfl)) ?_
    refine wl_v (x_pickT (tmB rfl rfl) hg6_6 (tmB rfl rfl)) ?_
    refine wl_v (x_assign (tmB rfl rfl)) ?_
    refine wl_nil ?_
    refine then_n (hK5 _ _ ?_); clear hK5 K5
    refine cnd (tm rfl) (fun hc3 => ?_) (fun hc3 => ?_)
    · skip
      try simp only [nrm] at hc3
      refine wp_seq_k ?_; intro K12 hK12
      refine wlit ?_
      refine wl_v (x_move (tmP rfl rfl)) ?_
      refine wl_v (x_move (tmS rfl rfl)) ?_
      refine wl_e rfl ?_; intro K hK
      refine ow_call Try.func68 rfl rfl (evs_cons (tmP rfl rfl) <| evs_cons (tmS rfl rfl) <| evs_nil) (carryICMP_c g i Pl.Z L cl x t er _ _ (hS.enter [0] [1] rfl rfl) hc hx h6 hls hld ht hP) ?_
      rintro e w ⟨U, cu, rfl, b1, hS2⟩
      refine ⟨_, rfl, ?_⟩
      replace b1 := fun b hb => Nat.le_trans hS.kp.size (b1 b hb)
      replace hS := hS.leave0 [0] rfl rfl rfl hS2 --ents g,vu
      clear hS2
      try replace hS := St.nm (M' := [_, .vw _ _]) hS rfl
      refine hK _ _ ?_; clear hK K
      refine wl_v (x_assign (tmI rfl rfl)) ?_
      refine wl_nil ?_
      refine then_n (hK12 _ _ ?_); clear hK12 K12
      refine wp_ret ?_
      refine inb_r ?_
      refine then_r ?_
      refine ret1 rfl (.tmp rfl (show _ = Value.int _ _ from rfl)) ?_
      first
        | (obtain ⟨six, stay, ttl, s, d, sp, dp, pr, T, D, I⟩ := i
           obtain rfl : T = Sg.Z := hT
           obtain rfl : D = Dg.Z := hD
           obtain rfl : I = Mg.Z := hI
           exact ⟨⟨none, 0, none, 0, none, 0, U, cu⟩, rfl, Nat.zero_le _, NewB.nil, NewB.nil, NewB.nil, b1, hS.nilv.nilv.nilv.pick [3, 0, 1, 2, 4] rfl rfl⟩)
        | (exfalso; rcases hpr with ⟨h1, h2⟩ | ⟨h1, h2⟩ <;> simp_all)
    try simp only [nrm] at hc3
    refine wp_skip ?_
    refine inb_n ?_
    refine then_n (hK2 _ _ ?_); clear hK2 K2
    refine wp_seq_k ?_; intro K13 hK13
    refine wlit ?_
    refine wl_v (x_assign (ev_cN 6)) ?_
    refine wl_nil ?_
    refine then_n (hK13 _ _ ?_); clear hK13 K13
    refine wp_ret ?_
    refine ret1 rfl (.tmp rfl (show _ = Value.int _ _ from rfl)) ?_
    first
      | (obtain ⟨six, stay, ttl, s, d, sp, dp, pr, T, D, I⟩ := i
         obtain rfl : T = Sg.Z := hT
         obtain rfl : D = Dg.Z := hD
         obtain rfl : I = Mg.Z := hI
         exact ⟨⟨none, 0, none, 0, none, 0, U, cu⟩, rfl, Nat.zero_le _, NewB.nil, NewB.nil, NewB.nil, b1, hS.nilv.nilv.nilv.pick [3, 0, 1, 2, 4] rfl rfl⟩)
      | (exfalso; rcases hpr with ⟨h1, h2⟩ | ⟨h1, h2⟩ <;> simp_all)
  have hg6_6' := hg6_6; (try simp only [nrm] at hg6_6'); try (exfalso; first | with_reducible exact absurd hg6_6 Bool.false_ne_true | with_reducible exact absurd hg6_6.symm Bool.false_ne_true | omega | (simp at hg6_6; done))
set_option maxRecDepth 100000 in
set_option maxHeartbeats 8000000 in
theorem carry_none (i : Inf) (hT : i.T = Sg.Z) (hD : i.D = Dg.Z) (hI : i.I = Mg.Z) (x : List Nat) (h6 : i.pr ≠ 6) (h17 : i.pr ≠ 17) (hpr : ¬ ((i.pr = 1 ∧ i.six = false) ∨ (i.pr = 58 ∧ i.six = true))) :
    CarP i x i 6 := fun g L cl F w0 hS hc => by
  refine ent (n := 54) Try.func45 rfl rfl ?_
  refine wp_seq_k ?_; intro K1 hK1
  refine wlit ?_
  refine wl_v (x_assign (ev_cN 0)) ?_
  refine wl_nil ?_
  refine then_n (hK1 _ _ ?_); clear hK1 K1
  refine wp_seq_k ?_; intro K2 hK2
  refine wp_block ?_
  refine wp_seq_k ?_; intro K3 hK3
  refine wlit ?_
  refine wl_v (x_move (tmP rfl rfl)) ?_
  refine wl_v (x_nil (A := none) (tmP rfl rfl)) ?_
  refine wl_v (x_fa 3 Try.underlying53 rfl rfl ts_29 (tmP rfl rfl)) ?_
  refine wl_v (x_fa 8 Try.underlying29 rfl rfl ts_5 (tmP rfl rfl)) ?_
  refine wl_v (x_load Try.underlying5 rfl (tmP rfl rfl) (cellB hS.ok 0 rfl rfl)) ?_
  refine wl_v (x_eql (tmI rfl rfl) (ev_cN 6)) ?_
  refine wl_v (x_assign (tmB rfl rfl)) ?_
  refine wl_nil ?_
  refine then_n (hK3 _ _ ?_); clear hK3 K3
  refine cnd (tm rfl) (fun hc0 => ?_) (fun hc0 => ?_)
  · exfalso
    first | omega | (simp at hc0; omega)
  try simp only [nrm] at hc0
  refine wp_seq_k ?_; intro K4 hK4
  refine wlit ?_
  refine wl_v (x_move (tmP rfl rfl)) ?_
  refine wl_v (x_nil (A := none) (tmP rfl rfl)) ?_
  refine wl_v (x_fa 3 Try.underlying53 rfl rfl ts_29 (tmP rfl rfl)) ?_
  refine wl_v (x_fa 8 Try.underlying29 rfl rfl ts_5 (tmP rfl rfl)) ?_
  refine wl_v (x_load Try.underlying5 rfl (tmP rfl rfl) (cellB hS.ok 0 rfl rfl)) ?_
  refine wl_v (x_eql (tmI rfl rfl) (ev_cN 17)) ?_
  refine wl_v (x_assign (tmB rfl rfl)) ?_
  refine wl_nil ?_
  refine then_n (hK4 _ _ ?_); clear hK4 K4
  refine cnd (tm rfl) (fun hc1 => ?_) (fun hc1 => ?_)
  · exfalso
    first | omega | (simp at hc1; omega)
  try simp only [nrm] at hc1
  refine wp_seq_k ?_; intro K5 hK5
  refine wp_seq_k ?_; intro K6 hK6
  refine wlit ?_
  refine wl_v (x_move (tmP rfl rfl)) ?_
  refine wl_v (x_nil (A := none) (tmP rfl rfl)) ?_
  refine wl_v (x_fa 3 Try.underlying53 rfl rfl ts_29 (tmP rfl rfl)) ?_
  refine wl_v (x_fa 8 Try.underlying29 rfl rfl ts_5 (tmP rfl rfl)) ?_
  refine wl_v (x_load Try.underlying5 rfl (tmP rfl rfl) (cellB hS.ok 0 rfl rfl)) ?_
  refine wl_v (x_eql (tmI rfl rfl) (ev_cN 1)) ?_
  refine wl_v (x_move (tmB rfl rfl)) ?_
  refine gs_wl (tm (t := 32) rfl) (fun hg5_6 => ?_) (fun hg5_6 => ?_)
  · have hg5_6' := hg5_6; (try simp only [nrm] at hg5_6')
    have h58 : i.pr ≠ 58 := by omega
    refine wl_gv (want_y rfl rfl rfl rfl (by rw [hg5_6]; rfl)) (x_move (tmP rfl rfl)) ?_
    refine wl_gv (want_y rfl rfl rfl rfl (by rw [hg5_6]; rfl)) (x_nil (A := none) (tmP rfl rfl)) ?_
    refine wl_gv (want_y rfl rfl rfl rfl (by rw [hg5_6]; rfl)) (x_fa 0 Try.underlying53 rfl rfl ts_4 (tmP rfl rfl)) ?_
    refine wl_gv (want_y rfl rfl rfl rfl (by rw [hg5_6]; rfl)) (x_load Try.underlying4 rfl (tmP rfl rfl) (cellB hS.ok 0 rfl rfl)) ?_
    refine wl_gv (want_y rfl rfl rfl rfl (by rw [hg5_6]; rfl)) (x_not (tmB rfl rfl)) ?_
    refine wl_v (x_pickT (tmB rfl rfl) hg5_6 (tmB rfl rfl)) ?_
    refine wl_v (x_assign (tmB rfl rfl)) ?_
    refine wl_nil ?_
    refine then_n (hK6 _ _ ?_); clear hK6 K6
    refine cnd (tm rfl) (fun hc2 => ?_) (fun hc2 => ?_)
    · exfalso
      exact hpr (.inl ⟨by first | assumption | omega | simp_all, by first | assumption | simp_all⟩)
    try simp only [nrm] at hc2
    refine wlit ?_
    refine wl_v (x_move (tmP rfl rfl)) ?_
    refine wl_v (x_nil (A := none) (tmP rfl rfl)) ?_
    refine wl_v (x_fa 3 Try.underlying53 rfl rfl ts_29 (tmP rfl rfl)) ?_
    refine wl_v (x_fa 8 Try.underlying29 rfl rfl ts_5 (tmP rfl rfl)) ?_
    refine wl_v (x_load Try.underlying5 rfl (tmP rfl rfl) (cellB hS.ok 0 rfl rfl)) ?_
    refine wl_v (x_eql (tmI rfl rfl) (ev_cN 58)) ?_
    refine wl_v (x_move (tmB rfl rfl)) ?_
    refine gs_wl (tm (t := 45) rfl) (fun hg6_6 => ?_) (fun hg6_6 => ?_)
    · have hg6_6' := hg6_6; (try simp only [nrm] at hg6_6'); try (exfalso; first | with_reducible exact absurd hg6_6 Bool.false_ne_true | with_reducible exact absurd hg6_6.symm Bool.false_ne_true | omega | (simp at hg6_6; done))
    have hg6_6' := hg6_6; (try simp only [nrm] at hg6_6')
    refine wl_s rfl (want_n rfl rfl rfl rfl (by rw [hg6_6]; rfl)) ?_
    refine wl_s rfl (want_n rfl rfl rfl rfl (by rw [hg6_6]; rfl)) ?_
    refine wl_s rfl (want_n rfl rfl rfl rfl (by rw [hg6_6]; rfl)) ?_
    refine wl_s rfl (want_n rfl rfl rfl rfl (by rw [hg6_6]; rfl)) ?_
    refine wl_v (x_pickF (tmB rfl rfl) hg6_6 ev_c) ?_
    refine wl_v (x_assign (tmB rfl rfl)) ?_
    refine wl_nil ?_
    refine then_n (hK5 _ _ ?_); clear hK5 K5
    refine cnd_f (tmB rfl rfl) rfl ?_
    refine wp_skip ?_
    refine inb_n ?_
    refine then_n (hK2 _ _ ?_); clear hK2 K2
    refine wp_seq_k ?_; intro K8 hK8
    refine wlit ?_
    refine wl_v (x_assign (ev_cN 6)) ?_
    refine wl_nil ?_
    refine then_n (hK8 _ _ ?_); clear hK8 K8
    refine wp_ret ?_
    refine ret1 rfl (.tmp rfl (show _ = Value.int _ _ from rfl)) ?_
    obtain ⟨six, stay, ttl, s, d, sp, dp, pr, T, D, I⟩ := i
    obtain rfl : T = Sg.Z := hT
    obtain rfl : D = Dg.Z := hD
    obtain rfl : I = Mg.Z := hI
    exact ⟨Pl.Z, rfl, Nat.zero_le _, NewB.nil, NewB.nil, NewB.nil, NewB.nil, (hS.pick [0] rfl rfl).nilv.nilv.nilv.nilv.pick [4, 0, 1, 2, 3] rfl rfl⟩
  have hg5_6' := hg5_6; (try simp only [nrm] at hg5_6')
  refine wl_s rfl (want_n rfl rfl rfl rfl (by rw [hg5_6]; rfl)) ?_
  refine wl_s rfl (want_n rfl rfl rfl rfl (by rw [hg5_6]; rfl)) ?_
  refine wl_s rfl (want_n rfl rfl rfl rfl (by rw [hg5_6]; rfl)) ?_
  refine wl_s rfl (want_n rfl rfl rfl rfl (by rw [hg5_6]; rfl)) ?_
  refine wl_s rfl (want_n rfl rfl rfl rfl (by rw [hg5_6]; rfl)) ?_
  refine wl_v (x_pickF (tmB rfl rfl) hg5_6 ev_c) ?_
  refine wl_v (x_assign (tmB rfl rfl)) ?_
  refine wl_nil ?_
  refine then_n (hK6 _ _ ?_); clear hK6 K6
  refine cnd_f (tmB rfl rfl) rfl ?_
  refine wlit ?_
  refine wl_v (x_move (tmP rfl rfl)) ?_
  refine wl_v (x_nil (A := none) (tmP rfl rfl)) ?_
  refine wl_v (x_fa 3 Try.underlying53 rfl rfl ts_29 (tmP rfl rfl)) ?_
  refine wl_v (x_fa 8 Try.underlying29 rfl rfl ts_5 (tmP rfl rfl)) ?_
  refine wl_v (x_load Try.underlying5 rfl (tmP rfl rfl) (cellB hS.ok 0 rfl rfl)) ?_
  refine wl_v (x_eql (tmI rfl rfl) (ev_cN 58)) ?_
  refine wl_v (x_move (tmB rfl rfl)) ?_
  refine gs_wl (tm (t := 45) rfl) (fun hg6_6 => ?_) (fun hg6_6 => ?_)
  · have hg6_6' := hg6_6; (try simp only [nrm] at hg6_6')
    refine wl_gv (want_y rfl rfl rfl rfl (by rw [hg6_6]; rfl)) (x_move (tmP rfl rfl)) ?_
    refine wl_gv (want_y rfl rfl rfl rfl (by rw [hg6_6]; rfl)) (x_nil (A := none) (tmP rfl rfl)) ?_
    refine wl_gv (want_y rfl rfl rfl rfl (by rw [hg6_6]; rfl)) (x_fa 0 Try.underlying53 rfl rfl ts_4 (tmP rfl rfl)) ?_
    refine wl_gv (want_y rfl rfl rfl rfl (by rw [hg6_6]; rfl)) (x_load Try.underlying4 rfl (tmP rfl rfl) (cellB hS.ok 0 rfl rfl)) ?_
    refine wl_v (x_pickT (tmB rfl rfl) hg6_6 (tmB rfl rfl)) ?_
    refine wl_v (x_assign (tmB rfl rfl)) ?_
    refine wl_nil ?_
    refine then_n (hK5 _ _ ?_); clear hK5 K5
    refine cnd (tm rfl) (fun hc3 => ?_) (fun hc3 => ?_)
    · exfalso
      exact hpr (.inr ⟨by first | assumption | omega | simp_all, by first | assumption | simp_all⟩)
    try simp only [nrm] at hc3
    refine wp_skip ?_
    refine inb_n ?_
    refine then_n (hK2 _ _ ?_); clear hK2 K2
    refine wp_seq_k ?_; intro K9 hK9
    refine wlit ?_
    refine wl_v (x_assign (ev_cN 6)) ?_
    refine wl_nil ?_
    refine then_n (hK9 _ _ ?_); clear hK9 K9
    refine wp_ret ?_
    refine ret1 rfl (.tmp rfl (show _ = Value.int _ _ from rfl)) ?_
    obtain ⟨six, stay, ttl, s, d, sp, dp, pr, T, D, I⟩ := i
    obtain rfl : T = Sg.Z := hT
    obtain rfl : D = Dg.Z := hD
    obtain rfl : I = Mg.Z := hI
    exact ⟨Pl.Z, rfl, Nat.zero_le _, NewB.nil, NewB.nil, NewB.nil, NewB.nil, (hS.pick [0] rfl rfl).nilv.nilv.nilv.nilv.pick [4, 0, 1, 2, 3] rfl rfl⟩
  have hg6_6' := hg6_6; (try simp only [nrm] at hg6_6')
  refine wl_s rfl (want_n rfl rfl rfl rfl (by rw [hg6_6]; rfl)) ?_
  refine wl_s rfl (want_n rfl rfl rfl rfl (by rw [hg6_6]; rfl)) ?_
  refine wl_s rfl (want_n rfl rfl rfl rfl (by rw [hg6_6]; rfl)) ?_
  refine wl_s rfl (want_n rfl rfl rfl rfl (by rw [hg6_6]; rfl)) ?_
  refine wl_v (x_pickF (tmB rfl rfl) hg6_6 ev_c) ?_
  refine wl_v (x_assign (tmB rfl rfl)) ?_
  refine wl_nil ?_
  refine then_n (hK5 _ _ ?_); clear hK5 K5
  refine cnd_f (tmB rfl rfl) rfl ?_
  refine wp_skip ?_
  refine inb_n ?_
  refine then_n (hK2 _ _ ?_); clear hK2 K2
  refine wp_seq_k ?_; intro K10 hK10
  refine wlit ?_
  refine wl_v (x_assign (ev_cN 6)) ?_
  refine wl_nil ?_
  refine then_n (hK10 _ _ ?_); clear hK10 K10
  refine wp_ret ?_
  refine ret1 rfl (.tmp rfl (show _ = Value.int _ _ from rfl)) ?_
  obtain ⟨six, stay, ttl, s, d, sp, dp, pr, T, D, I⟩ := i
  obtain rfl : T = Sg.Z := hT
  obtain rfl : D = Dg.Z := hD
  obtain rfl : I = Mg.Z := hI
  exact ⟨Pl.Z, rfl, Nat.zero_le _, NewB.nil, NewB.nil, NewB.nil, NewB.nil, (hS.pick [0] rfl rfl).nilv.nilv.nilv.nilv.pick [4, 0, 1, 2, 3] rfl rfl⟩
/-- What reading answers. -/
def outI (least : Nat) (i i' : Inf) (why why2 : Int) : Inf := if why ≠ 0 then Inf.Z else if i.ttl < least then Inf.Z else if why2 ≠ 0 then Inf.Z else i'
def outW (least : Nat) (i : Inf) (why why2 : Int) : Int := if why ≠ 0 then why else if i.ttl < least then 5 else why2
def GiP (fn : Nat) (as_ : List Value) (l : List Nat) (i : Inf) (why : Int) : Prop := ∀ (w : World) (A : Option Addr) (c : Nat), View w w.heap.size A (l.map u8v) → l.length ≤ c →
  Calls Try.prog fn (.slice A l.length c :: as_).toArray w fun e w' => ∃ (p : Pl), e = .returned (.tuple #[.agg (i.V p).toArray, .int .i64 why]) ∧ i.T.o.length ≤ p.co ∧ NewV w w' p.O (i.T.o.map u8v) ∧ NewV w w' p.X (i.T.x.map u8v) ∧ NewV w w' p.U (i.D.x.map u8v) ∧ NewV w w' p.M (i.I.x.map u8v) ∧ Kp [] w w'
theorem GiP.z {w w' : World} : NewV w w' Pl.Z.O (Inf.Z.T.o.map u8v) ∧ NewV w w' Pl.Z.X (Inf.Z.T.x.map u8v) ∧ NewV w w' Pl.Z.U (Inf.Z.D.x.map u8v) ∧ NewV w w' Pl.Z.M (Inf.Z.I.x.map u8v) := ⟨newV_nil w w', newV_nil w w', newV_nil w w', newV_nil w w'⟩
theorem out1 {least : Nat} {i i' : Inf} {why why2 : Int} (h : why ≠ 0) : outI least i i' why why2 = Inf.Z ∧ outW least i why why2 = why := ⟨if_pos h, if_pos h⟩
theorem out2 {least : Nat} {i i' : Inf} {why why2 : Int} (h : why = 0) (ht : i.ttl < least) : outI least i i' why why2 = Inf.Z ∧ outW least i why why2 = 5 := by
  unfold outI outW
  rw [if_neg (by omega), if_pos ht, if_neg (by omega), if_pos ht]; exact ⟨rfl, rfl⟩
theorem out3 {least : Nat} {i i' : Inf} {why why2 : Int} (h : why = 0) (ht : ¬ i.ttl < least) (h2 : why2 ≠ 0) : outI least i i' why why2 = Inf.Z ∧ outW least i why why2 = why2 := by
  unfold outI outW
  rw [if_neg (by omega), if_neg ht, if_pos h2, if_neg (by omega), if_neg ht]; exact ⟨rfl, rfl⟩
theorem out4 {least : Nat} {i i' : Inf} {why why2 : Int} (h : why = 0) (ht : ¬ i.ttl < least) (h2 : why2 = 0) : outI least i i' why why2 = i' ∧ outW least i why why2 = 0 := by
  unfold outI outW
  rw [if_neg (by omega), if_neg ht, if_neg (by omega), if_neg (by omega), if_neg ht, h2]; exact ⟨rfl, rfl⟩
set_option maxRecDepth 100000 in
set_option maxHeartbeats 8000000 in
theorem pread_c (least : Nat) (l : List Nat) (i i' : Inf) (x : List Nat) (why why2 : Int) (hH : HdP 44 l i x why) (hC : CarP i x i' why2) :
    GiP 23 [.int .u8 (least : Int)] l (outI least i i' why why2) (outW least i why why2) := fun w0 A c hv hc => by
  have hS := (St.sv w0).vcons rfl hv
  refine ent (n := 32) Try.func23 rfl rfl ?_
  refine wp_seq_k ?_; intro K1 hK1
  refine wlit ?_
  refine wl_e rfl ?_; intro K hK
  refine ow_alloc hS tz_53 rfl ?_
  clear hS; intro g0_0 w hg0_0 hS
  refine hK _ _ ?_; clear hK K
  refine wl_v (x_assign (ev_cN 0)) ?_
  refine wl_nil ?_
  refine then_n (hK1 _ _ ?_); clear hK1 K1
  refine wp_seq_k ?_; intro K2 hK2
  refine wlit ?_
  refine wl_v (x_move (tmS rfl rfl)) ?_
  refine wl_e rfl ?_; intro K hK
  refine ow_call Try.func44 rfl rfl (evs_cons (tmS rfl rfl) <| evs_nil) (hH _ A c (viewV hS.ok 1 rfl) hc) ?_
  rintro e w ⟨i0, x0, L, cl, hi, hcl, rfl, hn, hk⟩
  refine ⟨_, rfl, ?_⟩
  replace hS := hS.addn hk hn -- +vx
  clear hn hk
  refine hK _ _ ?_; clear hK K
  refine wl_v (x_move (tmT rfl rfl)) ?_
  refine wl_v (x_ext (tmT rfl rfl) rfl) ?_
  refine wl_v (x_ext (tmT rfl rfl) rfl) ?_
  refine wl_v (x_ext (tmT rfl rfl) rfl) ?_
  refine wl_e rfl ?_; intro K hK
  refine ow_alloc hS tz_53 rfl ?_
  clear hS; intro g1_6 w hg1_6 hS
  refine hK _ _ ?_; clear hK K
  refine wl_e rfl ?_; intro K hK
  refine ow_storeA hS 0 rfl ts_53 (tmP rfl rfl) (tmA rfl rfl) rfl rfl rfl ?_
  clear hS; intro w hS
  try replace hS := St.nm (M' := [.blk _ _ [_, _, _, _, _, _, _, _, _, _, _, _, _, _, _, _, _, _, _, _, _, _, _, _, _, _, _, _, _, _, _], .vw _ _, .blk _ _ [_, _, _, _, _, _, _, _, _, _, _, _, _, _, _, _, _, _, _, _, _, _, _, _, _, _, _, _, _, _, _], .vw _ _]) hS rfl
  refine hK _ _ ?_; clear hK K
  refine wl_v (x_assign (tmS rfl rfl)) ?_
  refine wl_v (x_assign (tmI rfl rfl)) ?_
  refine wl_nil ?_
  refine then_n (hK2 _ _ ?_); clear hK2 K2
  refine wp_seq_k ?_; intro K3 hK3
  refine wp_seq_k ?_; intro K4 hK4
  refine wlit ?_
  refine wl_v (x_move (tmI rfl rfl)) ?_
  refine wl_v (x_eql (tmI rfl rfl) (ev_cN 0)) ?_
  refine wl_v (x_move (tmB rfl rfl)) ?_
  refine gs_wl (tm (t := 17) rfl) (fun hg2_2 => ?_) (fun hg2_2 => ?_)
  · have hg2_2' := hg2_2; (try simp only [nrm] at hg2_2')
    refine wl_gv (want_y rfl rfl rfl rfl (by rw [hg2_2]; rfl)) (x_fa 2 Try.underlying53 rfl rfl ts_5 (tmP rfl rfl)) ?_
    refine wl_gv (want_y rfl rfl rfl rfl (by rw [hg2_2]; rfl)) (x_load Try.underlying5 rfl (tmP rfl rfl) (cellB hS.ok 0 rfl rfl)) ?_
    refine wl_gv (want_y rfl rfl rfl rfl (by rw [hg2_2]; rfl)) (x_move (tmI rfl rfl)) ?_
    refine wl_gv (want_y rfl rfl rfl rfl (by rw [hg2_2]; rfl)) (x_lss (tmI rfl rfl) (tmI rfl rfl)) ?_
    refine wl_v (x_pickT (tmB rfl rfl) hg2_2 (tmB rfl rfl)) ?_
    refine wl_nil ?_
    refine then_n (hK4 _ _ ?_); clear hK4 K4
    refine cnd (tm rfl) (fun hc0 => ?_) (fun hc0 => ?_)
    · skip
      try simp only [nrm] at hc0
      refine wlit ?_
      refine wl_v (x_assign (ev_cN 5)) ?_
      refine wl_nil ?_
      refine then_n (hK3 _ _ ?_); clear hK3 K3
      refine wp_seq_k ?_; intro K5 hK5
      refine wp_seq_k ?_; intro K6 hK6
      refine wlit ?_
      refine wl_v (x_move (tmI rfl rfl)) ?_
      refine wl_v (x_eql (tmI rfl rfl) (ev_cN 0)) ?_
      refine wl_nil ?_
      refine then_n (hK6 _ _ ?_); clear hK6 K6
      refine cnd (tm rfl) (fun hc1 => ?_) (fun hc1 => ?_)
      · try (exfalso; first | with_reducible exact absurd hc1 Bool.false_ne_true | with_reducible exact absurd hc1.symm Bool.false_ne_true | (simp only [nrm] at hc1; omega) | (simp at hc1; done))
      try simp only [nrm] at hc1
      refine wp_skip ?_
      refine then_n (hK5 _ _ ?_); clear hK5 K5
      refine wp_seq_k ?_; intro K13 hK13
      refine wp_seq_k ?_; intro K14 hK14
      refine wlit ?_
      refine wl_v (x_move (tmI rfl rfl)) ?_
      refine wl_v (x_neq (tmI rfl rfl) (ev_cN 0)) ?_
      refine wl_nil ?_
      refine then_n (hK14 _ _ ?_); clear hK14 K14
      refine cnd (tm rfl) (fun hc2 => ?_) (fun hc2 => ?_)
      · skip
        try simp only [nrm] at hc2
        refine wp_seq_k ?_; intro K15 hK15
        refine wlit ?_
        refine wl_v (x_build (bc_skip (.bool false) <| bc_skip (.bool false) <| bc_skip (.int .u8 0) <| bc_skipL [.bool false, .int .u64 0, .int .u64 0, .bool false, .int .u64 0, .int .u64 0, .int .u16 0, .int .u16 0, .int .u8 0] <| bc_skipL [.int .u16 0, .int .u16 0, .int .u32 0, .int .u32 0, .int .u8 0, .int .u16 0, .int .u16 0, .int .u16 0, .slice none 0 0, .slice none 0 0] <| bc_skipL [.int .u16 0, .int .u16 0, .int .u16 0, .slice none 0 0] <| bc_skipL [.int .u8 0, .int .u8 0, .int .u16 0, .int .u32 0, .slice none 0 0] <| bc_nil) (by kernel_rfl)) ?_
        refine wl_v (x_move (tmI rfl rfl)) ?_
        refine wl_e rfl ?_; intro K hK
        refine ow_storeA hS 2 rfl ts_53 (tmP rfl rfl) (tmA rfl rfl) rfl rfl rfl ?_
        clear hS; intro w hS
        try replace hS := St.nm (M' := [.blk _ _ [_, _, _, _, _, _, _, _, _, _, _, _, _, _, _, _, _, _, _, _, _, _, _, _, _, _, _, _, _, _, _], .vw _ _, .blk _ _ [_, _, _, _, _, _, _, _, _, _, _, _, _, _, _, _, _, _, _, _, _, _, _, _, _, _, _, _, _, _, _], .vw _ _]) hS rfl
        refine hK _ _ ?_; clear hK K
        refine wl_v (x_assign (tmI rfl rfl)) ?_
        refine wl_nil ?_
        refine then_n (hK15 _ _ ?_); clear hK15 K15
        refine wp_ret ?_
        refine then_r ?_
        refine ret2 rfl (.cell rfl rfl (load_rowB (cs := [_, _, _, _, _, _, _, _, _, _, _, _, _, _, _, _, _, _, _, _, _, _, _, _, _, _, _, _, _, _, _]) hS.ok 2 rfl Try.underlying53 rfl ts_53 rfl)) (.tmp rfl (show _ = Value.int _ _ from rfl)) ?_
        have hz := GiP.z (w := w0) (w' := w)
        first
          | (obtain ⟨e1, e2⟩ := out2 (least := least) (i := i) (i' := i') (why := why) (why2 := why2) (by first | omega | (simp at hg2_2; omega)) (by first | (rw [← (hi (by omega)).1]; omega) | omega)
             rw [e1, e2]
             exact ⟨Pl.Z, rfl, Nat.zero_le _, hz.1, hz.2.1, hz.2.2.1, hz.2.2.2, hS.kp⟩)
          | (obtain ⟨e1, e2⟩ := out4 (least := least) (i' := i') h0 htl (by first | omega | (simp at hc2; omega))
             rw [e1, e2]
             exact ⟨p, rfl, hco, ⟨viewV hS.ok (no_label_v1) rfl, d1⟩, ⟨viewV hS.ok (no_label_v2) rfl, d2⟩, ⟨viewV hS.ok (no_label_v3) rfl, d3⟩, ⟨viewV hS.ok (no_label_v4) rfl, d4⟩, hS.kp⟩)
          | (obtain ⟨e1, e2⟩ := out3 (least := least) (i' := i') h0 htl (by first | omega | (simp at hc2; omega))
             rw [e1, e2]
             exact ⟨Pl.Z, rfl, Nat.zero_le _, hz.1, hz.2.1, hz.2.2.1, hz.2.2.2, hS.kp⟩)
          | (obtain ⟨e1, e2⟩ := out1 (least := least) (i := i) (i' := i') (why := why) (why2 := why2) (by first | omega | (simp at hc2; omega))
             rw [e1, e2]
             exact ⟨Pl.Z, rfl, Nat.zero_le _, hz.1, hz.2.1, hz.2.2.1, hz.2.2.2, hS.kp⟩)
      try (exfalso; first | with_reducible exact absurd hc2 Bool.false_ne_true | with_reducible exact absurd hc2.symm Bool.false_ne_true | (simp only [nrm] at hc2; omega) | (simp at hc2; done))
    try simp only [nrm] at hc0
    refine wp_skip ?_
    refine then_n (hK3 _ _ ?_); clear hK3 K3
    refine wp_seq_k ?_; intro K19 hK19
    refine wp_seq_k ?_; intro K20 hK20
    refine wlit ?_
    refine wl_v (x_move (tmI rfl rfl)) ?_
    refine wl_v (x_eql (tmI rfl rfl) (ev_cN 0)) ?_
    refine wl_nil ?_
    refine then_n (hK20 _ _ ?_); clear hK20 K20
    refine cnd (tm rfl) (fun hc1 => ?_) (fun hc1 => ?_)
    · skip
      try simp only [nrm] at hc1
      have h0 : why = 0 := by first | omega | (simp at hc1; omega)
      obtain ⟨rfl, rfl⟩ := hi h0
      have htl : ¬ i0.ttl < least := by first | omega | (simp at hc0; omega)
      refine wlit ?_
      refine wl_v (x_move (tmS rfl rfl)) ?_
      refine wl_e rfl ?_; intro K hK
      refine ow_call Try.func45 rfl rfl (evs_cons (tmP rfl rfl) <| evs_cons (tmS rfl rfl) <| evs_nil) (hC g1_6 L cl _ _ (hS.enter [0] [1] rfl rfl) hcl) ?_
      rintro e w ⟨p, rfl, hco, b1, b2, b3, b4, hS2⟩
      refine ⟨_, rfl, ?_⟩
      have d1 : NewB w0 p.O i'.T.o := fun b hb => Nat.le_trans hS.kp.size (b1 b hb)
      have d2 : NewB w0 p.X i'.T.x := fun b hb => Nat.le_trans hS.kp.size (b2 b hb)
      have d3 : NewB w0 p.U i'.D.x := fun b hb => Nat.le_trans hS.kp.size (b3 b hb)
      have d4 : NewB w0 p.M i'.I.x := fun b hb => Nat.le_trans hS.kp.size (b4 b hb)
      replace hS := hS.leave4 0 [2] rfl rfl rfl hS2 rfl b1 b2 b3 b4 --ents v1,v2,v3,v4,g1_6,g0_0
      clear hS2 b1 b2 b3 b4
      try replace hS := St.nm (M' := [.vw _ _, .vw _ _, .vw _ _, .vw _ _, .blk _ _ [_, _, _, _, _, _, _, _, _, _, _, _, _, _, _, _, _, _, _, _, _, _, _, _, _, _, _, _, _, _, _], .blk _ _ [_, _, _, _, _, _, _, _, _, _, _, _, _, _, _, _, _, _, _, _, _, _, _, _, _, _, _, _, _, _, _]]) hS rfl
      refine hK _ _ ?_; clear hK K
      refine wl_v (x_assign (tmI rfl rfl)) ?_
      refine wl_nil ?_
      refine then_n (hK19 _ _ ?_); clear hK19 K19
      refine wp_seq_k ?_; intro K21 hK21
      refine wp_seq_k ?_; intro K22 hK22
      refine wlit ?_
      refine wl_v (x_move (tmI rfl rfl)) ?_
      refine wl_v (x_neq (tmI rfl rfl) (ev_cN 0)) ?_
      refine wl_nil ?_
      refine then_n (hK22 _ _ ?_); clear hK22 K22
      refine cnd (tm rfl) (fun hc2 => ?_) (fun hc2 => ?_)
      · skip
        try simp only [nrm] at hc2
        refine wp_seq_k ?_; intro K23 hK23
        refine wlit ?_
        refine wl_v (x_build (bc_skip (.bool false) <| bc_skip (.bool false) <| bc_skip (.int .u8 0) <| bc_skipL [.bool false, .int .u64 0, .int .u64 0, .bool false, .int .u64 0, .int .u64 0, .int .u16 0, .int .u16 0, .int .u8 0] <| bc_skipL [.int .u16 0, .int .u16 0, .int .u32 0, .int .u32 0, .int .u8 0, .int .u16 0, .int .u16 0, .int .u16 0, .slice none 0 0, .slice none 0 0] <| bc_skipL [.int .u16 0, .int .u16 0, .int .u16 0, .slice none 0 0] <| bc_skipL [.int .u8 0, .int .u8 0, .int .u16 0, .int .u32 0, .slice none 0 0] <| bc_nil) (by kernel_rfl)) ?_
        refine wl_v (x_move (tmI rfl rfl)) ?_
        refine wl_e rfl ?_; intro K hK
        refine ow_storeA hS 5 rfl ts_53 (tmP rfl rfl) (tmA rfl rfl) rfl rfl rfl ?_
        clear hS; intro w hS
        try replace hS := St.nm (M' := [.vw _ _, .vw _ _, .vw _ _, .vw _ _, .blk _ _ [_, _, _, _, _, _, _, _, _, _, _, _, _, _, _, _, _, _, _, _, _, _, _, _, _, _, _, _, _, _, _], .blk _ _ [_, _, _, _, _, _, _, _, _, _, _, _, _, _, _, _, _, _, _, _, _, _, _, _, _, _, _, _, _, _, _]]) hS rfl
        refine hK _ _ ?_; clear hK K
        refine wl_v (x_assign (tmI rfl rfl)) ?_
        refine wl_nil ?_
        refine then_n (hK23 _ _ ?_); clear hK23 K23
        refine wp_ret ?_
        refine then_r ?_
        refine ret2 rfl (.cell rfl rfl (load_rowB (cs := [_, _, _, _, _, _, _, _, _, _, _, _, _, _, _, _, _, _, _, _, _, _, _, _, _, _, _, _, _, _, _]) hS.ok 5 rfl Try.underlying53 rfl ts_53 rfl)) (.tmp rfl (show _ = Value.int _ _ from rfl)) ?_
        have hz := GiP.z (w := w0) (w' := w)
        first
          | (obtain ⟨e1, e2⟩ := out2 (least := least) (i := i) (i' := i') (why := why) (why2 := why2) (by first | omega | (simp at hg2_2; omega)) (by first | (rw [← (hi (by omega)).1]; omega) | omega)
             rw [e1, e2]
             exact ⟨Pl.Z, rfl, Nat.zero_le _, hz.1, hz.2.1, hz.2.2.1, hz.2.2.2, hS.kp⟩)
          | (obtain ⟨e1, e2⟩ := out4 (least := least) (i' := i') h0 htl (by first | omega | (simp at hc2; omega))
             rw [e1, e2]
             exact ⟨p, rfl, hco, ⟨viewV hS.ok 0 rfl, d1⟩, ⟨viewV hS.ok 1 rfl, d2⟩, ⟨viewV hS.ok 2 rfl, d3⟩, ⟨viewV hS.ok 3 rfl, d4⟩, hS.kp⟩)
          | (obtain ⟨e1, e2⟩ := out3 (least := least) (i' := i') h0 htl (by first | omega | (simp at hc2; omega))
             rw [e1, e2]
             exact ⟨Pl.Z, rfl, Nat.zero_le _, hz.1, hz.2.1, hz.2.2.1, hz.2.2.2, hS.kp⟩)
          | (obtain ⟨e1, e2⟩ := out1 (least := least) (i := i) (i' := i') (why := why) (why2 := why2) (by first | omega | (simp at hc2; omega))
             rw [e1, e2]
             exact ⟨Pl.Z, rfl, Nat.zero_le _, hz.1, hz.2.1, hz.2.2.1, hz.2.2.2, hS.kp⟩)
      try simp only [nrm] at hc2
      refine wp_skip ?_
      refine then_n (hK21 _ _ ?_); clear hK21 K21
      refine wp_seq_k ?_; intro K25 hK25
      refine wlit ?_
      refine wl_v (x_loadA (cs := [_, _, _, _, _, _, _, _, _, _, _, _, _, _, _, _, _, _, _, _, _, _, _, _, _, _, _, _, _, _, _]) Try.underlying53 rfl ts_53 (tmP rfl rfl) (rangeB hS.ok 4 rfl rfl)) ?_
      refine wl_e rfl ?_; intro K hK
      refine ow_storeA hS 5 rfl ts_53 (tmP rfl rfl) (tmA rfl rfl) rfl rfl rfl ?_
      clear hS; intro w hS
      try replace hS := St.nm (M' := [.vw _ _, .vw _ _, .vw _ _, .vw _ _, .blk _ _ [_, _, _, _, _, _, _, _, _, _, _, _, _, _, _, _, _, _, _, _, _, _, _, _, _, _, _, _, _, _, _], .blk _ _ [_, _, _, _, _, _, _, _, _, _, _, _, _, _, _, _, _, _, _, _, _, _, _, _, _, _, _, _, _, _, _]]) hS rfl
      refine hK _ _ ?_; clear hK K
      refine wl_v (x_assign (ev_cN 0)) ?_
      refine wl_nil ?_
      refine then_n (hK25 _ _ ?_); clear hK25 K25
      refine wp_ret ?_
      refine ret2 rfl (.cell rfl rfl (load_rowB (cs := [_, _, _, _, _, _, _, _, _, _, _, _, _, _, _, _, _, _, _, _, _, _, _, _, _, _, _, _, _, _, _]) hS.ok 5 rfl Try.underlying53 rfl ts_53 rfl)) (.tmp rfl (show _ = Value.int _ _ from rfl)) ?_
      have hz := GiP.z (w := w0) (w' := w)
      first
        | (obtain ⟨e1, e2⟩ := out2 (least := least) (i := i) (i' := i') (why := why) (why2 := why2) (by first | omega | (simp at hg2_2; omega)) (by first | (rw [← (hi (by omega)).1]; omega) | omega)
           rw [e1, e2]
           exact ⟨Pl.Z, rfl, Nat.zero_le _, hz.1, hz.2.1, hz.2.2.1, hz.2.2.2, hS.kp⟩)
        | (obtain ⟨e1, e2⟩ := out4 (least := least) (i' := i') h0 htl (by first | omega | (simp at hc2; omega))
           rw [e1, e2]
           exact ⟨p, rfl, hco, ⟨viewV hS.ok 0 rfl, d1⟩, ⟨viewV hS.ok 1 rfl, d2⟩, ⟨viewV hS.ok 2 rfl, d3⟩, ⟨viewV hS.ok 3 rfl, d4⟩, hS.kp⟩)
        | (obtain ⟨e1, e2⟩ := out3 (least := least) (i' := i') h0 htl (by first | omega | (simp at hc2; omega))
           rw [e1, e2]
           exact ⟨Pl.Z, rfl, Nat.zero_le _, hz.1, hz.2.1, hz.2.2.1, hz.2.2.2, hS.kp⟩)
        | (obtain ⟨e1, e2⟩ := out1 (least := least) (i := i) (i' := i') (why := why) (why2 := why2) (by first | omega | (simp at hc2; omega))
           rw [e1, e2]
           exact ⟨Pl.Z, rfl, Nat.zero_le _, hz.1, hz.2.1, hz.2.2.1, hz.2.2.2, hS.kp⟩)
    try (exfalso; first | with_reducible exact absurd hc1 Bool.false_ne_true | with_reducible exact absurd hc1.symm Bool.false_ne_true | (simp only [nrm] at hc1; omega) | (simp at hc1; done))
  have hg2_2' := hg2_2; (try simp only [nrm] at hg2_2')
  refine wl_s rfl (want_n rfl rfl rfl rfl (by rw [hg2_2]; rfl)) ?_
  refine wl_s rfl (want_n rfl rfl rfl rfl (by rw [hg2_2]; rfl)) ?_
  refine wl_s rfl (want_n rfl rfl rfl rfl (by rw [hg2_2]; rfl)) ?_
  refine wl_s rfl (want_n rfl rfl rfl rfl (by rw [hg2_2]; rfl)) ?_
  refine wl_v (x_pickF (tmB rfl rfl) hg2_2 ev_c) ?_
  refine wl_nil ?_
  refine then_n (hK4 _ _ ?_); clear hK4 K4
  refine cnd_f (tmB rfl rfl) rfl ?_
  refine wp_skip ?_
  refine then_n (hK3 _ _ ?_); clear hK3 K3
  refine wp_seq_k ?_; intro K33 hK33
  refine wp_seq_k ?_; intro K34 hK34
  refine wlit ?_
  refine wl_v (x_move (tmI rfl rfl)) ?_
  refine wl_v (x_eql (tmI rfl rfl) (ev_cN 0)) ?_
  refine wl_nil ?_
  refine then_n (hK34 _ _ ?_); clear hK34 K34
  refine cnd (tm rfl) (fun hc1 => ?_) (fun hc1 => ?_)
  · try (exfalso; first | with_reducible exact absurd hc1 Bool.false_ne_true | with_reducible exact absurd hc1.symm Bool.false_ne_true | (simp only [nrm] at hc1; omega) | (simp at hc1; done))
  try simp only [nrm] at hc1
  refine wp_skip ?_
  refine then_n (hK33 _ _ ?_); clear hK33 K33
  refine wp_seq_k ?_; intro K41 hK41
  refine wp_seq_k ?_; intro K42 hK42
  refine wlit ?_
  refine wl_v (x_move (tmI rfl rfl)) ?_
  refine wl_v (x_neq (tmI rfl rfl) (ev_cN 0)) ?_
  refine wl_nil ?_
  refine then_n (hK42 _ _ ?_); clear hK42 K42
  refine cnd (tm rfl) (fun hc2 => ?_) (fun hc2 => ?_)
  · skip
    try simp only [nrm] at hc2
    refine wp_seq_k ?_; intro K43 hK43
    refine wlit ?_
    refine wl_v (x_build (bc_skip (.bool false) <| bc_skip (.bool false) <| bc_skip (.int .u8 0) <| bc_skipL [.bool false, .int .u64 0, .int .u64 0, .bool false, .int .u64 0, .int .u64 0, .int .u16 0, .int .u16 0, .int .u8 0] <| bc_skipL [.int .u16 0, .int .u16 0, .int .u32 0, .int .u32 0, .int .u8 0, .int .u16 0, .int .u16 0, .int .u16 0, .slice none 0 0, .slice none 0 0] <| bc_skipL [.int .u16 0, .int .u16 0, .int .u16 0, .slice none 0 0] <| bc_skipL [.int .u8 0, .int .u8 0, .int .u16 0, .int .u32 0, .slice none 0 0] <| bc_nil) (by kernel_rfl)) ?_
    refine wl_v (x_move (tmI rfl rfl)) ?_
    refine wl_e rfl ?_; intro K hK
    refine ow_storeA hS 2 rfl ts_53 (tmP rfl rfl) (tmA rfl rfl) rfl rfl rfl ?_
    clear hS; intro w hS
    try replace hS := St.nm (M' := [.blk _ _ [_, _, _, _, _, _, _, _, _, _, _, _, _, _, _, _, _, _, _, _, _, _, _, _, _, _, _, _, _, _, _], .vw _ _, .blk _ _ [_, _, _, _, _, _, _, _, _, _, _, _, _, _, _, _, _, _, _, _, _, _, _, _, _, _, _, _, _, _, _], .vw _ _]) hS rfl
    refine hK _ _ ?_; clear hK K
    refine wl_v (x_assign (tmI rfl rfl)) ?_
    refine wl_nil ?_
    refine then_n (hK43 _ _ ?_); clear hK43 K43
    refine wp_ret ?_
    refine then_r ?_
    refine ret2 rfl (.cell rfl rfl (load_rowB (cs := [_, _, _, _, _, _, _, _, _, _, _, _, _, _, _, _, _, _, _, _, _, _, _, _, _, _, _, _, _, _, _]) hS.ok 2 rfl Try.underlying53 rfl ts_53 rfl)) (.tmp rfl (show _ = Value.int _ _ from rfl)) ?_
    have hz := GiP.z (w := w0) (w' := w)
    first
      | (obtain ⟨e1, e2⟩ := out2 (least := least) (i := i) (i' := i') (why := why) (why2 := why2) (by first | omega | (simp at hg2_2; omega)) (by first | (rw [← (hi (by omega)).1]; omega) | omega)
         rw [e1, e2]
         exact ⟨Pl.Z, rfl, Nat.zero_le _, hz.1, hz.2.1, hz.2.2.1, hz.2.2.2, hS.kp⟩)
      | (obtain ⟨e1, e2⟩ := out4 (least := least) (i' := i') h0 htl (by first | omega | (simp at hc2; omega))
         rw [e1, e2]
         exact ⟨p, rfl, hco, ⟨viewV hS.ok (no_label_v1) rfl, d1⟩, ⟨viewV hS.ok (no_label_v2) rfl, d2⟩, ⟨viewV hS.ok (no_label_v3) rfl, d3⟩, ⟨viewV hS.ok (no_label_v4) rfl, d4⟩, hS.kp⟩)
      | (obtain ⟨e1, e2⟩ := out3 (least := least) (i' := i') h0 htl (by first | omega | (simp at hc2; omega))
         rw [e1, e2]
         exact ⟨Pl.Z, rfl, Nat.zero_le _, hz.1, hz.2.1, hz.2.2.1, hz.2.2.2, hS.kp⟩)
      | (obtain ⟨e1, e2⟩ := out1 (least := least) (i := i) (i' := i') (why := why) (why2 := why2) (by first | omega | (simp at hc2; omega))
         rw [e1, e2]
         exact ⟨Pl.Z, rfl, Nat.zero_le _, hz.1, hz.2.1, hz.2.2.1, hz.2.2.2, hS.kp⟩)
  try (exfalso; first | with_reducible exact absurd hc2 Bool.false_ne_true | with_reducible exact absurd hc2.symm Bool.false_ne_true | (simp only [nrm] at hc2; omega) | (simp at hc2; done))
theorem St.addn4 {F : List Nat} {w0 w w' : World} {M : List Ent} (h : St F w0 M w) {A B C D : Option Addr} {xs ys zs us : List Value} (hk : Kp [] w w') (hn : NewV w w' A xs) (hm : NewV w w' B ys) (hq : NewV w w' C zs) (hr : NewV w w' D us) : St F w0 (.vw A xs :: .vw B ys :: .vw C zs :: .vw D us :: M) w' := by
  refine (h.addn3 hk hm hq hr).addv hn.1 fun e' he' => ?_
  rcases List.mem_cons.1 he' with rfl | h1
  · exact .inl rfl
  · rcases List.mem_cons.1 h1 with rfl | h2
    · exact .inl rfl
    · rcases List.mem_cons.1 h2 with rfl | h3
      · exact .inl rfl
      · exact hn.apart h e' h3
set_option maxRecDepth 100000 in
set_option maxHeartbeats 8000000 in
theorem pRead_c (l : List Nat) (i : Inf) (why : Int) (hR : GiP 23 [.int .u8 ((2 : Nat) : Int)] l i why) : GiP 9 [] l i why := fun w0 A c hv hc => by
  have hS := (St.sv w0).vcons rfl hv
  refine ent (n := 8) Try.func9 rfl rfl ?_
  refine wp_seq_k ?_; intro K1 hK1
  refine wlit ?_
  refine wl_e rfl ?_; intro K hK
  refine ow_alloc hS tz_53 rfl ?_
  clear hS; intro g0_0 w hg0_0 hS
  refine hK _ _ ?_; clear hK K
  refine wl_v (x_assign (ev_cN 0)) ?_
  refine wl_nil ?_
  refine then_n (hK1 _ _ ?_); clear hK1 K1
  refine wp_seq_k ?_; intro K2 hK2
  refine wlit ?_
  refine wl_v (x_move (tmS rfl rfl)) ?_
  refine wl_e rfl ?_; intro K hK
  refine ow_call Try.func23 rfl rfl (evs_cons (tmS rfl rfl) <| evs_cons (ev_cN 2) <| evs_nil) (hR _ A c (viewV hS.ok 1 rfl) hc) ?_
  rintro e w ⟨p, rfl, hco, n1, n2, n3, n4, hk⟩
  refine ⟨_, rfl, ?_⟩
  have m1 := n1.newb hS
  have m2 := n2.newb hS
  have m3 := n3.newb hS
  have m4 := n4.newb hS
  replace hS := (hS.addn4 hk n1 n2 n3 n4) -- +v1,v2,v3,v4
  clear hk n1 n2 n3 n4
  refine hK _ _ ?_; clear hK K
  refine wl_v (x_ext (tmT rfl rfl) rfl) ?_
  refine wl_v (x_ext (tmT rfl rfl) rfl) ?_
  refine wl_e rfl ?_; intro K hK
  refine ow_storeA hS 4 rfl ts_53 (tmP rfl rfl) (tmA rfl rfl) rfl rfl rfl ?_
  clear hS; intro w hS
  try replace hS := St.nm (M' := [.vw _ _, .vw _ _, .vw _ _, .vw _ _, .blk _ _ [_, _, _, _, _, _, _, _, _, _, _, _, _, _, _, _, _, _, _, _, _, _, _, _, _, _, _, _, _, _, _], .vw _ _]) hS rfl
  refine hK _ _ ?_; clear hK K
  refine wl_v (x_assign (tmI rfl rfl)) ?_
  refine wl_nil ?_
  refine then_n (hK2 _ _ ?_); clear hK2 K2
  refine wp_ret ?_
  refine ret2 rfl (.cell rfl rfl (load_rowB (cs := [_, _, _, _, _, _, _, _, _, _, _, _, _, _, _, _, _, _, _, _, _, _, _, _, _, _, _, _, _, _, _]) hS.ok 4 rfl Try.underlying53 rfl ts_53 rfl)) (.tmp rfl (show _ = Value.int _ _ from rfl)) ?_
  exact ⟨p, rfl, hco, ⟨viewV hS.ok 0 rfl, m1⟩, ⟨viewV hS.ok 1 rfl, m2⟩, ⟨viewV hS.ok 2 rfl, m3⟩, ⟨viewV hS.ok 3 rfl, m4⟩, hS.kp⟩
def finI (i' : Inf) (z : Int) : Inf := if z ≠ 0 then Inf.Z else i'
theorem chk_bad {er : Nat} {f : Bool} (h : er ≠ 0) : chk (er : Int) f = pkOf (er : Int) := by unfold chk; rw [if_neg (by omega)]
theorem chk_sum {er : Nat} {f : Bool} (h : er = 0) (hf : f = false) : chk (er : Int) f = 3 := by unfold chk; rw [if_pos ⟨by omega, hf⟩]
theorem chk_ok {er : Nat} {f : Bool} (h : er = 0) (hf : f = true) : chk (er : Int) f = 0 := by unfold chk; rw [if_neg (by rw [hf]; simp), h]; rfl
theorem finI_bad {er : Nat} {f : Bool} {i' : Inf} (h : er ≠ 0) : finI i' (chk (er : Int) f) = Inf.Z ∧ chk (er : Int) f = pkOf (er : Int) := by
  rw [chk_bad h]; exact ⟨if_pos (pkOf_ne h), rfl⟩
theorem finI_sum {er : Nat} {f : Bool} {i' : Inf} (h : er = 0) (hf : f = false) : finI i' (chk (er : Int) f) = Inf.Z ∧ chk (er : Int) f = 3 := by
  rw [chk_sum h hf]; exact ⟨if_pos (by decide), rfl⟩
theorem finI_ok {er : Nat} {f : Bool} {i' : Inf} (h : er = 0) (hf : f = true) : finI i' (chk (er : Int) f) = i' ∧ chk (er : Int) f = 0 := by
  rw [chk_ok h hf]; exact ⟨if_neg (by decide), rfl⟩
set_option maxRecDepth 100000 in
set_option maxHeartbeats 8000000 in
theorem rhost_bad (l : List Nat) (i : Inf) (x : List Nat) (why : Int) (h0 : why ≠ 0) (hH : HdP 21 l i x why) : GiP 22 [] l Inf.Z why := fun w0 A c hv hc => by
  have hS := (St.sv w0).vcons rfl hv
  refine ent (n := 128) Try.func22 rfl rfl ?_
  refine wp_seq_k ?_; intro K1 hK1
  refine wlit ?_
  refine wl_e rfl ?_; intro K hK
  refine ow_alloc hS tz_46 rfl ?_
  clear hS; intro g0_0 w hg0_0 hS
  refine hK _ _ ?_; clear hK K
  refine wl_v (x_assign (ev_cN 0)) ?_
  refine wl_nil ?_
  refine then_n (hK1 _ _ ?_); clear hK1 K1
  refine wp_seq_k ?_; intro K2 hK2
  refine wlit ?_
  refine wl_v (x_move (tmS rfl rfl)) ?_
  refine wl_e rfl ?_; intro K hK
  refine ow_call Try.func21 rfl rfl (evs_cons (tmS rfl rfl) <| evs_nil) (hH _ A c (viewV hS.ok 1 rfl) hc) ?_
  rintro e w ⟨i0, x0, L, cl, hi, hcl, rfl, hn, hk⟩
  refine ⟨_, rfl, ?_⟩
  replace hS := hS.addn hk hn -- +vx
  clear hn hk
  refine hK _ _ ?_; clear hK K
  refine wl_v (x_move (tmT rfl rfl)) ?_
  refine wl_v (x_ext (tmT rfl rfl) rfl) ?_
  refine wl_v (x_ext (tmT rfl rfl) rfl) ?_
  refine wl_v (x_ext (tmT rfl rfl) rfl) ?_
  refine wl_e rfl ?_; intro K hK
  refine ow_alloc hS tz_46 rfl ?_
  clear hS; intro g1_6 w hg1_6 hS
  refine hK _ _ ?_; clear hK K
  refine wl_e rfl ?_; intro K hK
  refine ow_storeA hS 0 rfl ts_46 (tmP rfl rfl) (tmA rfl rfl) rfl rfl rfl ?_
  clear hS; intro w hS
  try replace hS := St.nm (M' := [.blk _ _ [_, _, _, _, _, _, _, _, _, _, _, _, _, _, _, _, _, _, _, _, _, _, _, _, _, _, _, _, _, _, _], .vw _ _, .blk _ _ [_, _, _, _, _, _, _, _, _, _, _, _, _, _, _, _, _, _, _, _, _, _, _, _, _, _, _, _, _, _, _], .vw _ _]) hS rfl
  refine hK _ _ ?_; clear hK K
  refine wl_v (x_assign (tmS rfl rfl)) ?_
  refine wl_v (x_assign (tmI rfl rfl)) ?_
  refine wl_nil ?_
  refine then_n (hK2 _ _ ?_); clear hK2 K2
  refine wp_seq_k ?_; intro K3 hK3
  refine wp_seq_k ?_; intro K4 hK4
  refine wlit ?_
  refine wl_v (x_move (tmI rfl rfl)) ?_
  refine wl_v (x_neq (tmI rfl rfl) (ev_cN 0)) ?_
  refine wl_nil ?_
  refine then_n (hK4 _ _ ?_); clear hK4 K4
  refine cnds (tm rfl) (fun hc0 => ?_) (fun hc0 => ?_)
  · exfalso
    first | omega | (simp at hc0; omega)
  try simp only [nrm] at hc0
  refine wp_seq_k ?_; intro K5 hK5
  refine wlit ?_
  refine wl_v (x_build (bc_skip (.bool false) <| bc_skip (.bool false) <| bc_skip (.int .u8 0) <| bc_skipL [.bool false, .int .u64 0, .int .u64 0, .bool false, .int .u64 0, .int .u64 0, .int .u16 0, .int .u16 0, .int .u8 0] <| bc_skipL [.int .u16 0, .int .u16 0, .int .u32 0, .int .u32 0, .int .u8 0, .int .u16 0, .int .u16 0, .int .u16 0, .slice none 0 0, .slice none 0 0] <| bc_skipL [.int .u16 0, .int .u16 0, .int .u16 0, .slice none 0 0] <| bc_skipL [.int .u8 0, .int .u8 0, .int .u16 0, .int .u32 0, .slice none 0 0] <| bc_nil) (by kernel_rfl)) ?_
  refine wl_v (x_move (tmI rfl rfl)) ?_
  refine wl_e rfl ?_; intro K hK
  refine ow_storeA hS 2 rfl ts_46 (tmP rfl rfl) (tmA rfl rfl) rfl rfl rfl ?_
  clear hS; intro w hS
  try replace hS := St.nm (M' := [.blk _ _ [_, _, _, _, _, _, _, _, _, _, _, _, _, _, _, _, _, _, _, _, _, _, _, _, _, _, _, _, _, _, _], .vw _ _, .blk _ _ [_, _, _, _, _, _, _, _, _, _, _, _, _, _, _, _, _, _, _, _, _, _, _, _, _, _, _, _, _, _, _], .vw _ _]) hS rfl
  refine hK _ _ ?_; clear hK K
  refine wl_v (x_assign (tmI rfl rfl)) ?_
  refine wl_nil ?_
  refine then_n (hK5 _ _ ?_); clear hK5 K5
  refine wp_ret ?_
  refine then_r ?_
  refine ret2 rfl (.cell rfl rfl (load_rowB (cs := [_, _, _, _, _, _, _, _, _, _, _, _, _, _, _, _, _, _, _, _, _, _, _, _, _, _, _, _, _, _, _]) hS.ok 2 rfl Try.underlying46 rfl ts_46 rfl)) (.tmp rfl (show _ = Value.int _ _ from rfl)) ?_
  have hz := GiP.z (w := w0) (w' := w)
  exact ⟨Pl.Z, rfl, Nat.zero_le _, hz.1, hz.2.1, hz.2.2.1, hz.2.2.2, hS.kp⟩
set_option maxRecDepth 100000 in
set_option maxHeartbeats 8000000 in
theorem rhost_tcp (l : List Nat) (i : Inf) (hT : i.T = Sg.Z) (hD : i.D = Dg.Z) (hI : i.I = Mg.Z) (x : List Nat) (t : Sg) (er : Nat) (hpr : i.pr = 6) (hb : Bytes x) (hx : x.length ≤ 3000) (h6 : i.s.six = i.d.six) (hls : adLim i.s) (hld : adLim i.d) (hH : HdP 21 l i x 0) (hP : PT 19 x t er) (f : Bool) (hf : f = decide (foldN (gS i.s i.d 6 x) = 65535)) :
    GiP 22 [] l (finI ⟨i.six, i.stay, i.ttl, i.s, i.d, t.t1, t.t2, i.pr, t, i.D, i.I⟩ (chk (er : Int) f)) (chk (er : Int) f) := fun w0 A c hv hc => by
  have hS := (St.sv w0).vcons rfl hv
  refine ent (n := 128) Try.func22 rfl rfl ?_
  refine wp_seq_k ?_; intro K1 hK1
  refine wlit ?_
  refine wl_e rfl ?_; intro K hK
  refine ow_alloc hS tz_46 rfl ?_
  clear hS; intro g0_0 w hg0_0 hS
  refine hK _ _ ?_; clear hK K
  refine wl_v (x_assign (ev_cN 0)) ?_
  refine wl_nil ?_
  refine then_n (hK1 _ _ ?_); clear hK1 K1
  refine wp_seq_k ?_; intro K2 hK2
  refine wlit ?_
  refine wl_v (x_move (tmS rfl rfl)) ?_
  refine wl_e rfl ?_; intro K hK
  refine ow_call Try.func21 rfl rfl (evs_cons (tmS rfl rfl) <| evs_nil) (hH _ A c (viewV hS.ok 1 rfl) hc) ?_
  rintro e w ⟨i0, x0, L, cl, hi, hcl, rfl, hn, hk⟩
  refine ⟨_, rfl, ?_⟩
  replace hS := hS.addn hk hn -- +vx
  clear hn hk
  obtain ⟨rfl, rfl⟩ := hi rfl
  refine hK _ _ ?_; clear hK K
  refine wl_v (x_move (tmT rfl rfl)) ?_
  refine wl_v (x_ext (tmT rfl rfl) rfl) ?_
  refine wl_v (x_ext (tmT rfl rfl) rfl) ?_
  refine wl_v (x_ext (tmT rfl rfl) rfl) ?_
  refine wl_e rfl ?_; intro K hK
  refine ow_alloc hS tz_46 rfl ?_
  clear hS; intro g1_6 w hg1_6 hS
  refine hK _ _ ?_; clear hK K
  refine wl_e rfl ?_; intro K hK
  refine ow_storeA hS 0 rfl ts_46 (tmP rfl rfl) (tmA rfl rfl) rfl rfl rfl ?_
  clear hS; intro w hS
  try replace hS := St.nm (M' := [.blk _ _ [_, _, _, _, _, _, _, _, _, _, _, _, _, _, _, _, _, _, _, _, _, _, _, _, _, _, _, _, _, _, _], .vw _ _, .blk _ _ [_, _, _, _, _, _, _, _, _, _, _, _, _, _, _, _, _, _, _, _, _, _, _, _, _, _, _, _, _, _, _], .vw _ _]) hS rfl
  refine hK _ _ ?_; clear hK K
  refine wl_v (x_assign (tmS rfl rfl)) ?_
  refine wl_v (x_assign (tmI rfl rfl)) ?_
  refine wl_nil ?_
  refine then_n (hK2 _ _ ?_); clear hK2 K2
  refine wp_seq_k ?_; intro K3 hK3
  refine wp_seq_k ?_; intro K4 hK4
  refine wlit ?_
  refine wl_v (x_move (tmI rfl rfl)) ?_
  refine wl_v (x_neq (tmI rfl rfl) (ev_cN 0)) ?_
  refine wl_nil ?_
  refine then_n (hK4 _ _ ?_); clear hK4 K4
  refine cnd (tm rfl) (fun hc0 => ?_) (fun hc0 => ?_)
  · exfalso
    simp at hc0
  try simp only [nrm] at hc0
  refine wp_skip ?_
  refine then_n (hK3 _ _ ?_); clear hK3 K3
  refine wp_seq_k ?_; intro K5 hK5
  refine wlit ?_
  refine wl_v (x_assign (ev_cN 0)) ?_
  refine wl_v (x_assign ev_c) ?_
  refine wl_nil ?_
  refine then_n (hK5 _ _ ?_); clear hK5 K5
  refine wp_seq_k ?_; intro K6 hK6
  refine wp_block ?_
  refine wp_seq_k ?_; intro K7 hK7
  refine wlit ?_
  refine wl_v (x_fa 3 Try.underlying46 rfl rfl ts_29 (tmP rfl rfl)) ?_
  refine wl_v (x_fa 8 Try.underlying29 rfl rfl ts_5 (tmP rfl rfl)) ?_
  refine wl_v (x_load Try.underlying5 rfl (tmP rfl rfl) (cellB hS.ok 0 rfl rfl)) ?_
  refine wl_v (x_eql (tmI rfl rfl) (ev_cN 6)) ?_
  refine wl_v (x_assign (tmB rfl rfl)) ?_
  refine wl_nil ?_
  refine then_n (hK7 _ _ ?_); clear hK7 K7
  refine cnds (tm rfl) (fun hc1 => ?_) (fun hc1 => ?_)
  · exfalso
    first | omega | (simp at hc1; omega)
  try simp only [nrm] at hc1
  refine wp_seq_k ?_; intro K8 hK8
  refine wlit ?_
  refine wl_v (x_move (tmS rfl rfl)) ?_
  refine wl_e rfl ?_; intro K hK
  refine ow_call Try.func19 rfl rfl (evs_cons (tmS rfl rfl) <| evs_nil) (hP _ L cl (viewV hS.ok 1 rfl) hcl) ?_
  rintro e w ⟨O, co, X, cx, rfl, hco, hn1, hn2, hk⟩
  refine ⟨_, rfl, ?_⟩
  have d1 := hn1.newb hS
  have d2 := hn2.newb hS
  replace hS := hS.addn2 hk hn1 hn2 -- +v1,v2
  clear hn1 hn2 hk
  refine hK _ _ ?_; clear hK K
  refine wl_v (x_move (tmT rfl rfl)) ?_
  refine wl_v (x_ext (tmT rfl rfl) rfl) ?_
  refine wl_v (x_ext (tmT rfl rfl) rfl) ?_
  refine wl_v (x_fa 12 Try.underlying46 rfl rfl ts_40 (tmP rfl rfl)) ?_
  refine wl_e rfl ?_; intro K hK
  refine ow_storeA hS 2 rfl ts_40 (tmP rfl rfl) (tmA rfl rfl) rfl rfl rfl ?_
  clear hS; intro w hS
  try replace hS := St.nm (M' := [.vw _ _, .vw _ _, .blk _ _ [_, _, _, _, _, _, _, _, _, _, _, _, _, _, _, _, _, _, _, _, _, _, _, _, _, _, _, _, _, _, _], .vw _ _, .blk _ _ [_, _, _, _, _, _, _, _, _, _, _, _, _, _, _, _, _, _, _, _, _, _, _, _, _, _, _, _, _, _, _], .vw _ _]) hS rfl
  refine hK _ _ ?_; clear hK K
  refine wl_v (x_assign (tmI rfl rfl)) ?_
  refine wl_nil ?_
  refine then_n (hK8 _ _ ?_); clear hK8 K8
  refine wp_seq_k ?_; intro K9 hK9
  refine wlit ?_
  refine wl_v (x_move (tmS rfl rfl)) ?_
  refine wl_v (x_fa 3 Try.underlying46 rfl rfl ts_29 (tmP rfl rfl)) ?_
  refine wl_v (x_fa 0 Try.underlying29 rfl rfl ts_26 (tmP rfl rfl)) ?_
  refine wl_v (x_loadA (cs := [_, _, _]) Try.underlying26 rfl ts_26 (tmP rfl rfl) (rangeB hS.ok 2 rfl rfl)) ?_
  refine wl_v (x_fa 3 Try.underlying46 rfl rfl ts_29 (tmP rfl rfl)) ?_
  refine wl_v (x_fa 3 Try.underlying29 rfl rfl ts_26 (tmP rfl rfl)) ?_
  refine wl_v (x_loadA (cs := [_, _, _]) Try.underlying26 rfl ts_26 (tmP rfl rfl) (rangeB hS.ok 2 rfl rfl)) ?_
  refine wl_e rfl ?_; intro K hK
  refine ow_call Try.func39 rfl rfl (evs_cons (tmS rfl rfl) <| evs_cons (tmA rfl rfl) <| evs_cons (tmA rfl rfl) <| evs_nil) (rtcp_fine_c L cl x0 i0.s i0.d _ (viewV hS.ok 3 rfl) hb h6 hls hld (by omega)) ?_
  rintro e w ⟨rfl, hk⟩
  refine ⟨_, rfl, ?_⟩
  rw [← hf]
  replace hS := hS.kept hk
  clear hk
  refine hK _ _ ?_; clear hK K
  refine wl_v (x_assign (tmB rfl rfl)) ?_
  refine wl_nil ?_
  refine then_n (hK9 _ _ ?_); clear hK9 K9
  refine wlit ?_
  refine wl_v (x_fa 12 Try.underlying46 rfl rfl ts_40 (tmP rfl rfl)) ?_
  refine wl_v (x_fa 0 Try.underlying40 rfl rfl ts_27 (tmP rfl rfl)) ?_
  refine wl_v (x_load Try.underlying27 rfl (tmP rfl rfl) (cellB hS.ok 2 rfl rfl)) ?_
  refine wl_v (x_fa 12 Try.underlying46 rfl rfl ts_40 (tmP rfl rfl)) ?_
  refine wl_v (x_fa 1 Try.underlying40 rfl rfl ts_27 (tmP rfl rfl)) ?_
  refine wl_v (x_load Try.underlying27 rfl (tmP rfl rfl) (cellB hS.ok 2 rfl rfl)) ?_
  refine wl_v (x_fa 3 Try.underlying46 rfl rfl ts_29 (tmP rfl rfl)) ?_
  refine wl_v (x_fa 6 Try.underlying29 rfl rfl ts_27 (tmP rfl rfl)) ?_
  refine wl_e rfl ?_; intro K hK
  refine ow_store hS 2 rfl ts_27 (tmP rfl rfl) (tmI rfl rfl) rfl rfl ?_
  clear hS; intro w hS
  try replace hS := St.nm (M' := [.vw _ _, .vw _ _, .blk _ _ [_, _, _, _, _, _, _, _, _, _, _, _, _, _, _, _, _, _, _, _, _, _, _, _, _, _, _, _, _, _, _], .vw _ _, .blk _ _ [_, _, _, _, _, _, _, _, _, _, _, _, _, _, _, _, _, _, _, _, _, _, _, _, _, _, _, _, _, _, _], .vw _ _]) hS rfl
  refine hK _ _ ?_; clear hK K
  refine wl_v (x_fa 3 Try.underlying46 rfl rfl ts_29 (tmP rfl rfl)) ?_
  refine wl_v (x_fa 7 Try.underlying29 rfl rfl ts_27 (tmP rfl rfl)) ?_
  refine wl_e rfl ?_; intro K hK
  refine ow_store hS 2 rfl ts_27 (tmP rfl rfl) (tmI rfl rfl) rfl rfl ?_
  clear hS; intro w hS
  try replace hS := St.nm (M' := [.vw _ _, .vw _ _, .blk _ _ [_, _, _, _, _, _, _, _, _, _, _, _, _, _, _, _, _, _, _, _, _, _, _, _, _, _, _, _, _, _, _], .vw _ _, .blk _ _ [_, _, _, _, _, _, _, _, _, _, _, _, _, _, _, _, _, _, _, _, _, _, _, _, _, _, _, _, _, _, _], .vw _ _]) hS rfl
  refine hK _ _ ?_; clear hK K
  refine wl_nil ?_
  refine inb_n ?_
  refine then_n (hK6 _ _ ?_); clear hK6 K6
  refine wp_seq_k ?_; intro K10 hK10
  refine wp_seq_k ?_; intro K11 hK11
  refine wlit ?_
  refine wl_v (x_move (tmI rfl rfl)) ?_
  refine wl_v (x_neq (tmI rfl rfl) (ev_cN 0)) ?_
  refine wl_nil ?_
  refine then_n (hK11 _ _ ?_); clear hK11 K11
  refine cnd (tm rfl) (fun hc5 => ?_) (fun hc5 => ?_)
  · skip
    try simp only [nrm] at hc5
    refine wp_seq_k ?_; intro K12 hK12
    refine wlit ?_
    refine wl_v (x_build (bc_skip (.bool false) <| bc_skip (.bool false) <| bc_skip (.int .u8 0) <| bc_skipL [.bool false, .int .u64 0, .int .u64 0, .bool false, .int .u64 0, .int .u64 0, .int .u16 0, .int .u16 0, .int .u8 0] <| bc_skipL [.int .u16 0, .int .u16 0, .int .u32 0, .int .u32 0, .int .u8 0, .int .u16 0, .int .u16 0, .int .u16 0, .slice none 0 0, .slice none 0 0] <| bc_skipL [.int .u16 0, .int .u16 0, .int .u16 0, .slice none 0 0] <| bc_skipL [.int .u8 0, .int .u8 0, .int .u16 0, .int .u32 0, .slice none 0 0] <| bc_nil) (by kernel_rfl)) ?_
    refine wl_v (x_move (tmI rfl rfl)) ?_
    refine wl_e rfl ?_; intro K hK
    refine ow_call Try.func37 rfl rfl (evs_cons (tmI rfl rfl) <| evs_nil) (rof_c (er : Int) _) ?_
    rintro e w ⟨rfl, hk⟩
    refine ⟨_, rfl, ?_⟩
    replace hS := hS.kept hk
    clear hk
    refine hK _ _ ?_; clear hK K
    refine wl_e rfl ?_; intro K hK
    refine ow_storeA hS 4 rfl ts_46 (tmP rfl rfl) (tmA rfl rfl) rfl rfl rfl ?_
    clear hS; intro w hS
    try replace hS := St.nm (M' := [.vw _ _, .vw _ _, .blk _ _ [_, _, _, _, _, _, _, _, _, _, _, _, _, _, _, _, _, _, _, _, _, _, _, _, _, _, _, _, _, _, _], .vw _ _, .blk _ _ [_, _, _, _, _, _, _, _, _, _, _, _, _, _, _, _, _, _, _, _, _, _, _, _, _, _, _, _, _, _, _], .vw _ _]) hS rfl
    refine hK _ _ ?_; clear hK K
    refine wl_v (x_assign (tmI rfl rfl)) ?_
    refine wl_nil ?_
    refine then_n (hK12 _ _ ?_); clear hK12 K12
    refine wp_ret ?_
    refine then_r ?_
    refine ret2 rfl (.cell rfl rfl (load_rowB (cs := [_, _, _, _, _, _, _, _, _, _, _, _, _, _, _, _, _, _, _, _, _, _, _, _, _, _, _, _, _, _, _]) hS.ok 4 rfl Try.underlying46 rfl ts_46 rfl)) (.tmp rfl (show _ = Value.int _ _ from rfl)) ?_
    have hz := GiP.z (w := w0) (w' := w)
    first
      | (rw [(finI_bad (er := er) hc5).1, chk_bad hc5]
         exact ⟨Pl.Z, rfl, Nat.zero_le _, hz.1, hz.2.1, hz.2.2.1, hz.2.2.2, hS.kp⟩)
      | (have hff : f = false := by first | exact hc6 | simpa using hc6
         rw [(finI_sum (er := er) hc5 hff).1, chk_sum hc5 hff]
         exact ⟨Pl.Z, rfl, Nat.zero_le _, hz.1, hz.2.1, hz.2.2.1, hz.2.2.2, hS.kp⟩)
      | (have hff : f = true := by first | exact hc6 | simpa using hc6
         rw [(finI_ok (er := er) hc5 hff).1, chk_ok hc5 hff]
         obtain ⟨six, stay, ttl, s, d, sp, dp, pr, T, D, I⟩ := i0
         obtain rfl : T = Sg.Z := hT
         obtain rfl : D = Dg.Z := hD
         obtain rfl : I = Mg.Z := hI
         exact ⟨⟨O, co, X, cx, none, 0, none, 0⟩, rfl, hco, ⟨viewV hS.ok 0 rfl, d1⟩, ⟨viewV hS.ok 1 rfl, d2⟩, newV_nil _ _, newV_nil _ _, hS.kp⟩)
  try simp only [nrm] at hc5
  refine wp_skip ?_
  refine then_n (hK10 _ _ ?_); clear hK10 K10
  refine wp_seq_k ?_; intro K14 hK14
  refine wp_seq_k ?_; intro K15 hK15
  refine wlit ?_
  refine wl_v (x_move (tmB rfl rfl)) ?_
  refine wl_v (x_not (tmB rfl rfl)) ?_
  refine wl_nil ?_
  refine then_n (hK15 _ _ ?_); clear hK15 K15
  refine cnd (tm rfl) (fun hc6 => ?_) (fun hc6 => ?_)
  · skip
    try simp only [nrm] at hc6
    refine wp_seq_k ?_; intro K16 hK16
    refine wlit ?_
    refine wl_v (x_build (bc_skip (.bool false) <| bc_skip (.bool false) <| bc_skip (.int .u8 0) <| bc_skipL [.bool false, .int .u64 0, .int .u64 0, .bool false, .int .u64 0, .int .u64 0, .int .u16 0, .int .u16 0, .int .u8 0] <| bc_skipL [.int .u16 0, .int .u16 0, .int .u32 0, .int .u32 0, .int .u8 0, .int .u16 0, .int .u16 0, .int .u16 0, .slice none 0 0, .slice none 0 0] <| bc_skipL [.int .u16 0, .int .u16 0, .int .u16 0, .slice none 0 0] <| bc_skipL [.int .u8 0, .int .u8 0, .int .u16 0, .int .u32 0, .slice none 0 0] <| bc_nil) (by kernel_rfl)) ?_
    refine wl_e rfl ?_; intro K hK
    refine ow_storeA hS 4 rfl ts_46 (tmP rfl rfl) (tmA rfl rfl) rfl rfl rfl ?_
    clear hS; intro w hS
    try replace hS := St.nm (M' := [.vw _ _, .vw _ _, .blk _ _ [_, _, _, _, _, _, _, _, _, _, _, _, _, _, _, _, _, _, _, _, _, _, _, _, _, _, _, _, _, _, _], .vw _ _, .blk _ _ [_, _, _, _, _, _, _, _, _, _, _, _, _, _, _, _, _, _, _, _, _, _, _, _, _, _, _, _, _, _, _], .vw _ _]) hS rfl
    refine hK _ _ ?_; clear hK K
    refine wl_v (x_assign (ev_cN 3)) ?_
    refine wl_nil ?_
    refine then_n (hK16 _ _ ?_); clear hK16 K16
    refine wp_ret ?_
    refine then_r ?_
    refine ret2 rfl (.cell rfl rfl (load_rowB (cs := [_, _, _, _, _, _, _, _, _, _, _, _, _, _, _, _, _, _, _, _, _, _, _, _, _, _, _, _, _, _, _]) hS.ok 4 rfl Try.underlying46 rfl ts_46 rfl)) (.tmp rfl (show _ = Value.int _ _ from rfl)) ?_
    have hz := GiP.z (w := w0) (w' := w)
    first
      | (rw [(finI_bad (er := er) hc5).1, chk_bad hc5]
         exact ⟨Pl.Z, rfl, Nat.zero_le _, hz.1, hz.2.1, hz.2.2.1, hz.2.2.2, hS.kp⟩)
      | (have hff : f = false := by first | exact hc6 | simpa using hc6
         rw [(finI_sum (er := er) hc5 hff).1, chk_sum hc5 hff]
         exact ⟨Pl.Z, rfl, Nat.zero_le _, hz.1, hz.2.1, hz.2.2.1, hz.2.2.2, hS.kp⟩)
      | (have hff : f = true := by first | exact hc6 | simpa using hc6
         rw [(finI_ok (er := er) hc5 hff).1, chk_ok hc5 hff]
         obtain ⟨six, stay, ttl, s, d, sp, dp, pr, T, D, I⟩ := i0
         obtain rfl : T = Sg.Z := hT
         obtain rfl : D = Dg.Z := hD
         obtain rfl : I = Mg.Z := hI
         exact ⟨⟨O, co, X, cx, none, 0, none, 0⟩, rfl, hco, ⟨viewV hS.ok 0 rfl, d1⟩, ⟨viewV hS.ok 1 rfl, d2⟩, newV_nil _ _, newV_nil _ _, hS.kp⟩)
  try simp only [nrm] at hc6
  refine wp_skip ?_
  refine then_n (hK14 _ _ ?_); clear hK14 K14
  refine wp_seq_k ?_; intro K18 hK18
  refine wlit ?_
  refine wl_v (x_loadA (cs := [_, _, _, _, _, _, _, _, _, _, _, _, _, _, _, _, _, _, _, _, _, _, _, _, _, _, _, _, _, _, _]) Try.underlying46 rfl ts_46 (tmP rfl rfl) (rangeB hS.ok 2 rfl rfl)) ?_
  refine wl_e rfl ?_; intro K hK
  refine ow_storeA hS 4 rfl ts_46 (tmP rfl rfl) (tmA rfl rfl) rfl rfl rfl ?_
  clear hS; intro w hS
  try replace hS := St.nm (M' := [.vw _ _, .vw _ _, .blk _ _ [_, _, _, _, _, _, _, _, _, _, _, _, _, _, _, _, _, _, _, _, _, _, _, _, _, _, _, _, _, _, _], .vw _ _, .blk _ _ [_, _, _, _, _, _, _, _, _, _, _, _, _, _, _, _, _, _, _, _, _, _, _, _, _, _, _, _, _, _, _], .vw _ _]) hS rfl
  refine hK _ _ ?_; clear hK K
  refine wl_v (x_assign (ev_cN 0)) ?_
  refine wl_nil ?_
  refine then_n (hK18 _ _ ?_); clear hK18 K18
  refine wp_ret ?_
  refine ret2 rfl (.cell rfl rfl (load_rowB (cs := [_, _, _, _, _, _, _, _, _, _, _, _, _, _, _, _, _, _, _, _, _, _, _, _, _, _, _, _, _, _, _]) hS.ok 4 rfl Try.underlying46 rfl ts_46 rfl)) (.tmp rfl (show _ = Value.int _ _ from rfl)) ?_
  have hz := GiP.z (w := w0) (w' := w)
  first
    | (rw [(finI_bad (er := er) hc5).1, chk_bad hc5]
       exact ⟨Pl.Z, rfl, Nat.zero_le _, hz.1, hz.2.1, hz.2.2.1, hz.2.2.2, hS.kp⟩)
    | (have hff : f = false := by first | exact hc6 | simpa using hc6
       rw [(finI_sum (er := er) hc5 hff).1, chk_sum hc5 hff]
       exact ⟨Pl.Z, rfl, Nat.zero_le _, hz.1, hz.2.1, hz.2.2.1, hz.2.2.2, hS.kp⟩)
    | (have hff : f = true := by first | exact hc6 | simpa using hc6
       rw [(finI_ok (er := er) hc5 hff).1, chk_ok hc5 hff]
       obtain ⟨six, stay, ttl, s, d, sp, dp, pr, T, D, I⟩ := i0
       obtain rfl : T = Sg.Z := hT
       obtain rfl : D = Dg.Z := hD
       obtain rfl : I = Mg.Z := hI
       exact ⟨⟨O, co, X, cx, none, 0, none, 0⟩, rfl, hco, ⟨viewV hS.ok 0 rfl, d1⟩, ⟨viewV hS.ok 1 rfl, d2⟩, newV_nil _ _, newV_nil _ _, hS.kp⟩)
set_option maxRecDepth 100000 in
set_option maxHeartbeats 8000000 in
theorem rhost_udp (l : List Nat) (i : Inf) (hT : i.T = Sg.Z) (hD : i.D = Dg.Z) (hI : i.I = Mg.Z) (x : List Nat) (t : Dg) (er : Nat) (hpr : i.pr = 17) (hx : x.length ≤ 3000) (h6 : i.s.six = i.d.six) (hls : adLim i.s) (hld : adLim i.d) (ht : t.ok) (hH : HdP 21 l i x 0) (hP : PU 40 x t er) (f : Bool) (hf : f = udF t.u1 t.u2 t.u3 t.x i.s i.d) :
    GiP 22 [] l (finI ⟨i.six, i.stay, i.ttl, i.s, i.d, t.u1, t.u2, i.pr, i.T, t, i.I⟩ (chk (er : Int) f)) (chk (er : Int) f) := fun w0 A c hv hc => by
  have hS := (St.sv w0).vcons rfl hv
  obtain ⟨k1, k2, k3, k4, k5⟩ := ht
  refine ent (n := 128) Try.func22 rfl rfl ?_
  refine wp_seq_k ?_; intro K1 hK1
  refine wlit ?_
  refine wl_e rfl ?_; intro K hK
  refine ow_alloc hS tz_46 rfl ?_
  clear hS; intro g0_0 w hg0_0 hS
  refine hK _ _ ?_; clear hK K
  refine wl_v (x_assign (ev_cN 0)) ?_
  refine wl_nil ?_
  refine then_n (hK1 _ _ ?_); clear hK1 K1
  refine wp_seq_k ?_; intro K2 hK2
  refine wlit ?_
  refine wl_v (x_move (tmS rfl rfl)) ?_
  refine wl_e rfl ?_; intro K hK
  refine ow_call Try.func21 rfl rfl (evs_cons (tmS rfl rfl) <| evs_nil) (hH _ A c (viewV hS.ok 1 rfl) hc) ?_
  rintro e w ⟨i0, x0, L, cl, hi, hcl, rfl, hn, hk⟩
  refine ⟨_, rfl, ?_⟩
  replace hS := hS.addn hk hn -- +vx
  clear hn hk
  obtain ⟨rfl, rfl⟩ := hi rfl
  refine hK _ _ ?_; clear hK K
  refine wl_v (x_move (tmT rfl rfl)) ?_
  refine wl_v (x_ext (tmT rfl rfl) rfl) ?_
  refine wl_v (x_ext (tmT rfl rfl) rfl) ?_
  refine wl_v (x_ext (tmT rfl rfl) rfl) ?_
  refine wl_e rfl ?_; intro K hK
  refine ow_alloc hS tz_46 rfl ?_
  clear hS; intro g1_6 w hg1_6 hS
  refine hK _ _ ?_; clear hK K
  refine wl_e rfl ?_; intro K hK
  refine ow_storeA hS 0 rfl ts_46 (tmP rfl rfl) (tmA rfl rfl) rfl rfl rfl ?_
  clear hS; intro w hS
  try replace hS := St.nm (M' := [.blk _ _ [_, _, _, _, _, _, _, _, _, _, _, _, _, _, _, _, _, _, _, _, _, _, _, _, _, _, _, _, _, _, _], .vw _ _, .blk _ _ [_, _, _, _, _, _, _, _, _, _, _, _, _, _, _, _, _, _, _, _, _, _, _, _, _, _, _, _, _, _, _], .vw _ _]) hS rfl
  refine hK _ _ ?_; clear hK K
  refine wl_v (x_assign (tmS rfl rfl)) ?_
  refine wl_v (x_assign (tmI rfl rfl)) ?_
  refine wl_nil ?_
  refine then_n (hK2 _ _ ?_); clear hK2 K2
  refine wp_seq_k ?_; intro K3 hK3
  refine wp_seq_k ?_; intro K4 hK4
  refine wlit ?_
  refine wl_v (x_move (tmI rfl rfl)) ?_
  refine wl_v (x_neq (tmI rfl rfl) (ev_cN 0)) ?_
  refine wl_nil ?_
  refine then_n (hK4 _ _ ?_); clear hK4 K4
  refine cnd (tm rfl) (fun hc0 => ?_) (fun hc0 => ?_)
  · exfalso
    simp at hc0
  try simp only [nrm] at hc0
  refine wp_skip ?_
  refine then_n (hK3 _ _ ?_); clear hK3 K3
  refine wp_seq_k ?_; intro K5 hK5
  refine wlit ?_
  refine wl_v (x_assign (ev_cN 0)) ?_
  refine wl_v (x_assign ev_c) ?_
  refine wl_nil ?_
  refine then_n (hK5 _ _ ?_); clear hK5 K5
  refine wp_seq_k ?_; intro K6 hK6
  refine wp_block ?_
  refine wp_seq_k ?_; intro K7 hK7
  refine wlit ?_
  refine wl_v (x_fa 3 Try.underlying46 rfl rfl ts_29 (tmP rfl rfl)) ?_
  refine wl_v (x_fa 8 Try.underlying29 rfl rfl ts_5 (tmP rfl rfl)) ?_
  refine wl_v (x_load Try.underlying5 rfl (tmP rfl rfl) (cellB hS.ok 0 rfl rfl)) ?_
  refine wl_v (x_eql (tmI rfl rfl) (ev_cN 6)) ?_
  refine wl_v (x_assign (tmB rfl rfl)) ?_
  refine wl_nil ?_
  refine then_n (hK7 _ _ ?_); clear hK7 K7
  refine cnd (tm rfl) (fun hc1 => ?_) (fun hc1 => ?_)
  · exfalso
    first | omega | (simp at hc1; omega)
  try simp only [nrm] at hc1
  refine wp_seq_k ?_; intro K8 hK8
  refine wlit ?_
  refine wl_v (x_fa 3 Try.underlying46 rfl rfl ts_29 (tmP rfl rfl)) ?_
  refine wl_v (x_fa 8 Try.underlying29 rfl rfl ts_5 (tmP rfl rfl)) ?_
  refine wl_v (x_load Try.underlying5 rfl (tmP rfl rfl) (cellB hS.ok 0 rfl rfl)) ?_
  refine wl_v (x_eql (tmI rfl rfl) (ev_cN 17)) ?_
  refine wl_v (x_assign (tmB rfl rfl)) ?_
  refine wl_nil ?_
  refine then_n (hK8 _ _ ?_); clear hK8 K8
  refine cnds (tm rfl) (fun hc2 => ?_) (fun hc2 => ?_)
  · exfalso
    first | omega | (simp at hc2; omega)
  try simp only [nrm] at hc2
  refine wp_seq_k ?_; intro K9 hK9
  refine wlit ?_
  refine wl_v (x_move (tmS rfl rfl)) ?_
  refine wl_e rfl ?_; intro K hK
  refine ow_call Try.func40 rfl rfl (evs_cons (tmS rfl rfl) <| evs_nil) (hP _ L cl (viewV hS.ok 1 rfl) hcl) ?_
  rintro e w ⟨U, cu, rfl, hn1, hk⟩
  refine ⟨_, rfl, ?_⟩
  have d1 := hn1.newb hS
  replace hS := hS.addn hk hn1 -- +v1
  clear hn1 hk
  refine hK _ _ ?_; clear hK K
  refine wl_v (x_move (tmT rfl rfl)) ?_
  refine wl_v (x_ext (tmT rfl rfl) rfl) ?_
  refine wl_v (x_ext (tmT rfl rfl) rfl) ?_
  refine wl_v (x_fa 22 Try.underlying46 rfl rfl ts_42 (tmP rfl rfl)) ?_
  refine wl_e rfl ?_; intro K hK
  refine ow_storeA hS 1 rfl ts_42 (tmP rfl rfl) (tmA rfl rfl) rfl rfl rfl ?_
  clear hS; intro w hS
  try replace hS := St.nm (M' := [.vw _ _, .blk _ _ [_, _, _, _, _, _, _, _, _, _, _, _, _, _, _, _, _, _, _, _, _, _, _, _, _, _, _, _, _, _, _], .vw _ _, .blk _ _ [_, _, _, _, _, _, _, _, _, _, _, _, _, _, _, _, _, _, _, _, _, _, _, _, _, _, _, _, _, _, _], .vw _ _]) hS rfl
  refine hK _ _ ?_; clear hK K
  refine wl_v (x_assign (tmI rfl rfl)) ?_
  refine wl_nil ?_
  refine then_n (hK9 _ _ ?_); clear hK9 K9
  refine wp_seq_k ?_; intro K10 hK10
  refine wlit ?_
  refine wl_v (x_fa 22 Try.underlying46 rfl rfl ts_42 (tmP rfl rfl)) ?_
  refine wl_v (x_loadA (cs := [_, _, _, _]) Try.underlying42 rfl ts_42 (tmP rfl rfl) (rangeB hS.ok 1 rfl rfl)) ?_
  refine wl_v (x_fa 3 Try.underlying46 rfl rfl ts_29 (tmP rfl rfl)) ?_
  refine wl_v (x_fa 0 Try.underlying29 rfl rfl ts_26 (tmP rfl rfl)) ?_
  refine wl_v (x_loadA (cs := [_, _, _]) Try.underlying26 rfl ts_26 (tmP rfl rfl) (rangeB hS.ok 1 rfl rfl)) ?_
  refine wl_v (x_fa 3 Try.underlying46 rfl rfl ts_29 (tmP rfl rfl)) ?_
  refine wl_v (x_fa 3 Try.underlying29 rfl rfl ts_26 (tmP rfl rfl)) ?_
  refine wl_v (x_loadA (cs := [_, _, _]) Try.underlying26 rfl ts_26 (tmP rfl rfl) (rangeB hS.ok 1 rfl rfl)) ?_
  refine wl_e rfl ?_; intro K hK
  refine ow_call Try.func41 rfl rfl (evs_cons (tmA rfl rfl) <| evs_cons (tmA rfl rfl) <| evs_cons (tmA rfl rfl) <| evs_nil) (rudp_fine_c t.u1 t.u2 t.u3 U t.x.length cu t.x i0.s i0.d _ (viewV hS.ok 0 rfl) rfl k1 h6 hls hld (by omega) k3 k4 k5) ?_
  rintro e w ⟨rfl, hk⟩
  refine ⟨_, rfl, ?_⟩
  rw [← hf]
  replace hS := hS.kept hk
  clear hk
  refine hK _ _ ?_; clear hK K
  refine wl_v (x_assign (tmB rfl rfl)) ?_
  refine wl_nil ?_
  refine then_n (hK10 _ _ ?_); clear hK10 K10
  refine wlit ?_
  refine wl_v (x_fa 22 Try.underlying46 rfl rfl ts_42 (tmP rfl rfl)) ?_
  refine wl_v (x_fa 0 Try.underlying42 rfl rfl ts_27 (tmP rfl rfl)) ?_
  refine wl_v (x_load Try.underlying27 rfl (tmP rfl rfl) (cellB hS.ok 1 rfl rfl)) ?_
  refine wl_v (x_fa 22 Try.underlying46 rfl rfl ts_42 (tmP rfl rfl)) ?_
  refine wl_v (x_fa 1 Try.underlying42 rfl rfl ts_27 (tmP rfl rfl)) ?_
  refine wl_v (x_load Try.underlying27 rfl (tmP rfl rfl) (cellB hS.ok 1 rfl rfl)) ?_
  refine wl_v (x_fa 3 Try.underlying46 rfl rfl ts_29 (tmP rfl rfl)) ?_
  refine wl_v (x_fa 6 Try.underlying29 rfl rfl ts_27 (tmP rfl rfl)) ?_
  refine wl_e rfl ?_; intro K hK
  refine ow_store hS 1 rfl ts_27 (tmP rfl rfl) (tmI rfl rfl) rfl rfl ?_
  clear hS; intro w hS
  try replace hS := St.nm (M' := [.vw _ _, .blk _ _ [_, _, _, _, _, _, _, _, _, _, _, _, _, _, _, _, _, _, _, _, _, _, _, _, _, _, _, _, _, _, _], .vw _ _, .blk _ _ [_, _, _, _, _, _, _, _, _, _, _, _, _, _, _, _, _, _, _, _, _, _, _, _, _, _, _, _, _, _, _], .vw _ _]) hS rfl
  refine hK _ _ ?_; clear hK K
  refine wl_v (x_fa 3 Try.underlying46 rfl rfl ts_29 (tmP rfl rfl)) ?_
  refine wl_v (x_fa 7 Try.underlying29 rfl rfl ts_27 (tmP rfl rfl)) ?_
  refine wl_e rfl ?_; intro K hK
  refine ow_store hS 1 rfl ts_27 (tmP rfl rfl) (tmI rfl rfl) rfl rfl ?_
  clear hS; intro w hS
  try replace hS := St.nm (M' := [.vw _ _, .blk _ _ [_, _, _, _, _, _, _, _, _, _, _, _, _, _, _, _, _, _, _, _, _, _, _, _, _, _, _, _, _, _, _], .vw _ _, .blk _ _ [_, _, _, _, _, _, _, _, _, _, _, _, _, _, _, _, _, _, _, _, _, _, _, _, _, _, _, _, _, _, _], .vw _ _]) hS rfl
  refine hK _ _ ?_; clear hK K
  refine wl_nil ?_
  refine inb_n ?_
  refine then_n (hK6 _ _ ?_); clear hK6 K6
  refine wp_seq_k ?_; intro K11 hK11
  refine wp_seq_k ?_; intro K12 hK12
  refine wlit ?_
  refine wl_v (x_move (tmI rfl rfl)) ?_
  refine wl_v (x_neq (tmI rfl rfl) (ev_cN 0)) ?_
  refine wl_nil ?_
  refine then_n (hK12 _ _ ?_); clear hK12 K12
  refine cnd (tm rfl) (fun hc5 => ?_) (fun hc5 => ?_)
  · skip
    try simp only [nrm] at hc5
    refine wp_seq_k ?_; intro K13 hK13
    refine wlit ?_
    refine wl_v (x_build (bc_skip (.bool false) <| bc_skip (.bool false) <| bc_skip (.int .u8 0) <| bc_skipL [.bool false, .int .u64 0, .int .u64 0, .bool false, .int .u64 0, .int .u64 0, .int .u16 0, .int .u16 0, .int .u8 0] <| bc_skipL [.int .u16 0, .int .u16 0, .int .u32 0, .int .u32 0, .int .u8 0, .int .u16 0, .int .u16 0, .int .u16 0, .slice none 0 0, .slice none 0 0] <| bc_skipL [.int .u16 0, .int .u16 0, .int .u16 0, .slice none 0 0] <| bc_skipL [.int .u8 0, .int .u8 0, .int .u16 0, .int .u32 0, .slice none 0 0] <| bc_nil) (by kernel_rfl)) ?_
    refine wl_v (x_move (tmI rfl rfl)) ?_
    refine wl_e rfl ?_; intro K hK
    refine ow_call Try.func37 rfl rfl (evs_cons (tmI rfl rfl) <| evs_nil) (rof_c (er : Int) _) ?_
    rintro e w ⟨rfl, hk⟩
    refine ⟨_, rfl, ?_⟩
    replace hS := hS.kept hk
    clear hk
    refine hK _ _ ?_; clear hK K
    refine wl_e rfl ?_; intro K hK
    refine ow_storeA hS 3 rfl ts_46 (tmP rfl rfl) (tmA rfl rfl) rfl rfl rfl ?_
    clear hS; intro w hS
    try replace hS := St.nm (M' := [.vw _ _, .blk _ _ [_, _, _, _, _, _, _, _, _, _, _, _, _, _, _, _, _, _, _, _, _, _, _, _, _, _, _, _, _, _, _], .vw _ _, .blk _ _ [_, _, _, _, _, _, _, _, _, _, _, _, _, _, _, _, _, _, _, _, _, _, _, _, _, _, _, _, _, _, _], .vw _ _]) hS rfl
    refine hK _ _ ?_; clear hK K
    refine wl_v (x_assign (tmI rfl rfl)) ?_
    refine wl_nil ?_
    refine then_n (hK13 _ _ ?_); clear hK13 K13
    refine wp_ret ?_
    refine then_r ?_
    refine ret2 rfl (.cell rfl rfl (load_rowB (cs := [_, _, _, _, _, _, _, _, _, _, _, _, _, _, _, _, _, _, _, _, _, _, _, _, _, _, _, _, _, _, _]) hS.ok 3 rfl Try.underlying46 rfl ts_46 rfl)) (.tmp rfl (show _ = Value.int _ _ from rfl)) ?_
    have hz := GiP.z (w := w0) (w' := w)
    first
      | (rw [(finI_bad (er := er) hc5).1, chk_bad hc5]
         exact ⟨Pl.Z, rfl, Nat.zero_le _, hz.1, hz.2.1, hz.2.2.1, hz.2.2.2, hS.kp⟩)
      | (have hff : f = false := by first | exact hc6 | simpa using hc6
         rw [(finI_sum (er := er) hc5 hff).1, chk_sum hc5 hff]
         exact ⟨Pl.Z, rfl, Nat.zero_le _, hz.1, hz.2.1, hz.2.2.1, hz.2.2.2, hS.kp⟩)
      | (have hff : f = true := by first | exact hc6 | simpa using hc6
         rw [(finI_ok (er := er) hc5 hff).1, chk_ok hc5 hff]
         obtain ⟨six, stay, ttl, s, d, sp, dp, pr, T, D, I⟩ := i0
         obtain rfl : T = Sg.Z := hT
         obtain rfl : D = Dg.Z := hD
         obtain rfl : I = Mg.Z := hI
         exact ⟨⟨none, 0, none, 0, U, cu, none, 0⟩, rfl, Nat.zero_le _, newV_nil _ _, newV_nil _ _, ⟨viewV hS.ok 0 rfl, d1⟩, newV_nil _ _, hS.kp⟩)
  try simp only [nrm] at hc5
  refine wp_skip ?_
  refine then_n (hK11 _ _ ?_); clear hK11 K11
  refine wp_seq_k ?_; intro K15 hK15
  refine wp_seq_k ?_; intro K16 hK16
  refine wlit ?_
  refine wl_v (x_move (tmB rfl rfl)) ?_
  refine wl_v (x_not (tmB rfl rfl)) ?_
  refine wl_nil ?_
  refine then_n (hK16 _ _ ?_); clear hK16 K16
  refine cnd (tm rfl) (fun hc6 => ?_) (fun hc6 => ?_)
  · skip
    try simp only [nrm] at hc6
    refine wp_seq_k ?_; intro K17 hK17
    refine wlit ?_
    refine wl_v (x_build (bc_skip (.bool false) <| bc_skip (.bool false) <| bc_skip (.int .u8 0) <| bc_skipL [.bool false, .int .u64 0, .int .u64 0, .bool false, .int .u64 0, .int .u64 0, .int .u16 0, .int .u16 0, .int .u8 0] <| bc_skipL [.int .u16 0, .int .u16 0, .int .u32 0, .int .u32 0, .int .u8 0, .int .u16 0, .int .u16 0, .int .u16 0, .slice none 0 0, .slice none 0 0] <| bc_skipL [.int .u16 0, .int .u16 0, .int .u16 0, .slice none 0 0] <| bc_skipL [.int .u8 0, .int .u8 0, .int .u16 0, .int .u32 0, .slice none 0 0] <| bc_nil) (by kernel_rfl)) ?_
    refine wl_e rfl ?_; intro K hK
    refine ow_storeA hS 3 rfl ts_46 (tmP rfl rfl) (tmA rfl rfl) rfl rfl rfl ?_
    clear hS; intro w hS
    try replace hS := St.nm (M' := [.vw _ _, .blk _ _ [_, _, _, _, _, _, _, _, _, _, _, _, _, _, _, _, _, _, _, _, _, _, _, _, _, _, _, _, _, _, _], .vw _ _, .blk _ _ [_, _, _, _, _, _, _, _, _, _, _, _, _, _, _, _, _, _, _, _, _, _, _, _, _, _, _, _, _, _, _], .vw _ _]) hS rfl
    refine hK _ _ ?_; clear hK K
    refine wl_v (x_assign (ev_cN 3)) ?_
    refine wl_nil ?_
    refine then_n (hK17 _ _ ?_); clear hK17 K17
    refine wp_ret ?_
    refine then_r ?_
    refine ret2 rfl (.cell rfl rfl (load_rowB (cs := [_, _, _, _, _, _, _, _, _, _, _, _, _, _, _, _, _, _, _, _, _, _, _, _, _, _, _, _, _, _, _]) hS.ok 3 rfl Try.underlying46 rfl ts_46 rfl)) (.tmp rfl (show _ = Value.int _ _ from rfl)) ?_
    have hz := GiP.z (w := w0) (w' := w)
    first
      | (rw [(finI_bad (er := er) hc5).1, chk_bad hc5]
         exact ⟨Pl.Z, rfl, Nat.zero_le _, hz.1, hz.2.1, hz.2.2.1, hz.2.2.2, hS.kp⟩)
      | (have hff : f = false := by first | exact hc6 | simpa using hc6
         rw [(finI_sum (er := er) hc5 hff).1, chk_sum hc5 hff]
         exact ⟨Pl.Z, rfl, Nat.zero_le _, hz.1, hz.2.1, hz.2.2.1, hz.2.2.2, hS.kp⟩)
      | (have hff : f = true := by first | exact hc6 | simpa using hc6
         rw [(finI_ok (er := er) hc5 hff).1, chk_ok hc5 hff]
         obtain ⟨six, stay, ttl, s, d, sp, dp, pr, T, D, I⟩ := i0
         obtain rfl : T = Sg.Z := hT
         obtain rfl : D = Dg.Z := hD
         obtain rfl : I = Mg.Z := hI
         exact ⟨⟨none, 0, none, 0, U, cu, none, 0⟩, rfl, Nat.zero_le _, newV_nil _ _, newV_nil _ _, ⟨viewV hS.ok 0 rfl, d1⟩, newV_nil _ _, hS.kp⟩)
  try simp only [nrm] at hc6
  refine wp_skip ?_
  refine then_n (hK15 _ _ ?_); clear hK15 K15
  refine wp_seq_k ?_; intro K19 hK19
  refine wlit ?_
  refine wl_v (x_loadA (cs := [_, _, _, _, _, _, _, _, _, _, _, _, _, _, _, _, _, _, _, _, _, _, _, _, _, _, _, _, _, _, _]) Try.underlying46 rfl ts_46 (tmP rfl rfl) (rangeB hS.ok 1 rfl rfl)) ?_
  refine wl_e rfl ?_; intro K hK
  refine ow_storeA hS 3 rfl ts_46 (tmP rfl rfl) (tmA rfl rfl) rfl rfl rfl ?_
  clear hS; intro w hS
  try replace hS := St.nm (M' := [.vw _ _, .blk _ _ [_, _, _, _, _, _, _, _, _, _, _, _, _, _, _, _, _, _, _, _, _, _, _, _, _, _, _, _, _, _, _], .vw _ _, .blk _ _ [_, _, _, _, _, _, _, _, _, _, _, _, _, _, _, _, _, _, _, _, _, _, _, _, _, _, _, _, _, _, _], .vw _ _]) hS rfl
  refine hK _ _ ?_; clear hK K
  refine wl_v (x_assign (ev_cN 0)) ?_
  refine wl_nil ?_
  refine then_n (hK19 _ _ ?_); clear hK19 K19
  refine wp_ret ?_
  refine ret2 rfl (.cell rfl rfl (load_rowB (cs := [_, _, _, _, _, _, _, _, _, _, _, _, _, _, _, _, _, _, _, _, _, _, _, _, _, _, _, _, _, _, _]) hS.ok 3 rfl Try.underlying46 rfl ts_46 rfl)) (.tmp rfl (show _ = Value.int _ _ from rfl)) ?_
  have hz := GiP.z (w := w0) (w' := w)
  first
    | (rw [(finI_bad (er := er) hc5).1, chk_bad hc5]
       exact ⟨Pl.Z, rfl, Nat.zero_le _, hz.1, hz.2.1, hz.2.2.1, hz.2.2.2, hS.kp⟩)
    | (have hff : f = false := by first | exact hc6 | simpa using hc6
       rw [(finI_sum (er := er) hc5 hff).1, chk_sum hc5 hff]
       exact ⟨Pl.Z, rfl, Nat.zero_le _, hz.1, hz.2.1, hz.2.2.1, hz.2.2.2, hS.kp⟩)
    | (have hff : f = true := by first | exact hc6 | simpa using hc6
       rw [(finI_ok (er := er) hc5 hff).1, chk_ok hc5 hff]
       obtain ⟨six, stay, ttl, s, d, sp, dp, pr, T, D, I⟩ := i0
       obtain rfl : T = Sg.Z := hT
       obtain rfl : D = Dg.Z := hD
       obtain rfl : I = Mg.Z := hI
       exact ⟨⟨none, 0, none, 0, U, cu, none, 0⟩, rfl, Nat.zero_le _, newV_nil _ _, newV_nil _ _, ⟨viewV hS.ok 0 rfl, d1⟩, newV_nil _ _, hS.kp⟩)
set_option maxRecDepth 100000 in
set_option maxHeartbeats 8000000 in
theorem rhost_icmp (l : List Nat) (i : Inf) (hT : i.T = Sg.Z) (hD : i.D = Dg.Z) (hI : i.I = Mg.Z) (x : List Nat) (t : Mg) (er : Nat) (her : er = 0 ∨ er = 20) (hpr : (i.pr = 1 ∧ i.six = false) ∨ (i.pr = 58 ∧ i.six = true)) (hx : x.length ≤ 3000) (h6 : i.s.six = i.d.six) (hls : adLim i.s) (hld : adLim i.d) (ht : t.ok) (hH : HdP 21 l i x 0) (hP : PMr x t er) (f : Bool) (hf : f = decide (foldN (icS t.m1 t.m2 t.m3 t.m4 t.x i.s i.d) = 65535)) :
    GiP 22 [] l (finI ⟨i.six, i.stay, i.ttl, i.s, i.d, i.sp, i.dp, i.pr, i.T, i.D, t⟩ (chk (er : Int) f)) (chk (er : Int) f) := fun w0 A c hv hc => by
  have hS := (St.sv w0).vcons rfl hv
  obtain ⟨k1, k2, k3, k4, k5, k6⟩ := ht
  have hfb := foldN_bd (icS t.m1 t.m2 t.m3 t.m4 t.x i.s i.d)
  refine ent (n := 128) Try.func22 rfl rfl ?_
  refine wp_seq_k ?_; intro K1 hK1
  refine wlit ?_
  refine wl_e rfl ?_; intro K hK
  refine ow_alloc hS tz_46 rfl ?_
  clear hS; intro g0_0 w hg0_0 hS
  refine hK _ _ ?_; clear hK K
  refine wl_v (x_assign (ev_cN 0)) ?_
  refine wl_nil ?_
  refine then_n (hK1 _ _ ?_); clear hK1 K1
  refine wp_seq_k ?_; intro K2 hK2
  refine wlit ?_
  refine wl_v (x_move (tmS rfl rfl)) ?_
  refine wl_e rfl ?_; intro K hK
  refine ow_call Try.func21 rfl rfl (evs_cons (tmS rfl rfl) <| evs_nil) (hH _ A c (viewV hS.ok 1 rfl) hc) ?_
  rintro e w ⟨i0, x0, L, cl, hi, hcl, rfl, hn, hk⟩
  refine ⟨_, rfl, ?_⟩
  replace hS := hS.addn hk hn -- +vx
  clear hn hk
  obtain ⟨rfl, rfl⟩ := hi rfl
  refine hK _ _ ?_; clear hK K
  refine wl_v (x_move (tmT rfl rfl)) ?_
  refine wl_v (x_ext (tmT rfl rfl) rfl) ?_
  refine wl_v (x_ext (tmT rfl rfl) rfl) ?_
  refine wl_v (x_ext (tmT rfl rfl) rfl) ?_
  refine wl_e rfl ?_; intro K hK
  refine ow_alloc hS tz_46 rfl ?_
  clear hS; intro g1_6 w hg1_6 hS
  refine hK _ _ ?_; clear hK K
  refine wl_e rfl ?_; intro K hK
  refine ow_storeA hS 0 rfl ts_46 (tmP rfl rfl) (tmA rfl rfl) rfl rfl rfl ?_
  clear hS; intro w hS
  try replace hS := St.nm (M' := [.blk _ _ [_, _, _, _, _, _, _, _, _, _, _, _, _, _, _, _, _, _, _, _, _, _, _, _, _, _, _, _, _, _, _], .vw _ _, .blk _ _ [_, _, _, _, _, _, _, _, _, _, _, _, _, _, _, _, _, _, _, _, _, _, _, _, _, _, _, _, _, _, _], .vw _ _]) hS rfl
  refine hK _ _ ?_; clear hK K
  refine wl_v (x_assign (tmS rfl rfl)) ?_
  refine wl_v (x_assign (tmI rfl rfl)) ?_
  refine wl_nil ?_
  refine then_n (hK2 _ _ ?_); clear hK2 K2
  refine wp_seq_k ?_; intro K3 hK3
  refine wp_seq_k ?_; intro K4 hK4
  refine wlit ?_
  refine wl_v (x_move (tmI rfl rfl)) ?_
  refine wl_v (x_neq (tmI rfl rfl) (ev_cN 0)) ?_
  refine wl_nil ?_
  refine then_n (hK4 _ _ ?_); clear hK4 K4
  refine cnd (tm rfl) (fun hc0 => ?_) (fun hc0 => ?_)
  · exfalso
    simp at hc0
  try simp only [nrm] at hc0
  refine wp_skip ?_
  refine then_n (hK3 _ _ ?_); clear hK3 K3
  refine wp_seq_k ?_; intro K5 hK5
  refine wlit ?_
  refine wl_v (x_assign (ev_cN 0)) ?_
  refine wl_v (x_assign ev_c) ?_
  refine wl_nil ?_
  refine then_n (hK5 _ _ ?_); clear hK5 K5
  refine wp_seq_k ?_; intro K6 hK6
  refine wp_block ?_
  refine wp_seq_k ?_; intro K7 hK7
  refine wlit ?_
  refine wl_v (x_fa 3 Try.underlying46 rfl rfl ts_29 (tmP rfl rfl)) ?_
  refine wl_v (x_fa 8 Try.underlying29 rfl rfl ts_5 (tmP rfl rfl)) ?_
  refine wl_v (x_load Try.underlying5 rfl (tmP rfl rfl) (cellB hS.ok 0 rfl rfl)) ?_
  refine wl_v (x_eql (tmI rfl rfl) (ev_cN 6)) ?_
  refine wl_v (x_assign (tmB rfl rfl)) ?_
  refine wl_nil ?_
  refine then_n (hK7 _ _ ?_); clear hK7 K7
  refine cnd (tm rfl) (fun hc1 => ?_) (fun hc1 => ?_)
  · exfalso
    first | omega | (simp at hc1; omega)
  try simp only [nrm] at hc1
  refine wp_seq_k ?_; intro K8 hK8
  refine wlit ?_
  refine wl_v (x_fa 3 Try.underlying46 rfl rfl ts_29 (tmP rfl rfl)) ?_
  refine wl_v (x_fa 8 Try.underlying29 rfl rfl ts_5 (tmP rfl rfl)) ?_
  refine wl_v (x_load Try.underlying5 rfl (tmP rfl rfl) (cellB hS.ok 0 rfl rfl)) ?_
  refine wl_v (x_eql (tmI rfl rfl) (ev_cN 17)) ?_
  refine wl_v (x_assign (tmB rfl rfl)) ?_
  refine wl_nil ?_
  refine then_n (hK8 _ _ ?_); clear hK8 K8
  refine cnd (tm rfl) (fun hc2 => ?_) (fun hc2 => ?_)
  · exfalso
    first | omega | (simp at hc2; omega)
  try simp only [nrm] at hc2
  refine wp_seq_k ?_; intro K9 hK9
  refine wlit ?_
  refine wl_v (x_fa 0 Try.underlying46 rfl rfl ts_4 (tmP rfl rfl)) ?_
  refine wl_v (x_load Try.underlying4 rfl (tmP rfl rfl) (cellB hS.ok 0 rfl rfl)) ?_
  refine wl_v (x_not (tmB rfl rfl)) ?_
  refine wl_v (x_move (tmB rfl rfl)) ?_
  refine gs_wl (tm (t := 85) rfl) (fun hg14_3 => ?_) (fun hg14_3 => ?_)
  · have hg14_3' := hg14_3; (try simp only [nrm] at hg14_3')
    refine wl_gv (want_y rfl rfl rfl rfl (by rw [hg14_3]; rfl)) (x_fa 3 Try.underlying46 rfl rfl ts_29 (tmP rfl rfl)) ?_
    refine wl_gv (want_y rfl rfl rfl rfl (by rw [hg14_3]; rfl)) (x_fa 8 Try.underlying29 rfl rfl ts_5 (tmP rfl rfl)) ?_
    refine wl_gv (want_y rfl rfl rfl rfl (by rw [hg14_3]; rfl)) (x_load Try.underlying5 rfl (tmP rfl rfl) (cellB hS.ok 0 rfl rfl)) ?_
    refine wl_gv (want_y rfl rfl rfl rfl (by rw [hg14_3]; rfl)) (x_eql (tmI rfl rfl) (ev_cN 1)) ?_
    refine wl_v (x_pickT (tmB rfl rfl) hg14_3 (tmB rfl rfl)) ?_
    refine wl_v (x_move (tmB rfl rfl)) ?_
    refine gs_wls (tm (t := 91) rfl) (fun hg14_9 => ?_) (fun hg14_9 => ?_)
    · exfalso
      rcases hpr with ⟨h1, h2⟩ | ⟨h1, h2⟩
      · rw [h1] at hg14_9
        exact absurd hg14_9 (by decide)
      · exact Bool.noConfusion (h2.symm.trans hg14_3')
    have hg14_9' := hg14_9; (try simp only [nrm] at hg14_9')
    refine wl_s rfl (want_n rfl rfl rfl rfl (by rw [hg14_9]; rfl)) ?_
    refine wl_s rfl (want_n rfl rfl rfl rfl (by rw [hg14_9]; rfl)) ?_
    refine wl_s rfl (want_n rfl rfl rfl rfl (by rw [hg14_9]; rfl)) ?_
    refine wl_s rfl (want_u rfl rfl rfl rfl) ?_
    refine wl_s rfl (want_u rfl rfl rfl rfl) ?_
    refine wl_s rfl (want_u rfl rfl rfl rfl) ?_
    refine wl_s rfl (want_u rfl rfl rfl rfl) ?_
    refine wl_s rfl (want_n rfl rfl rfl rfl (by rw [hg14_9]; rfl)) ?_
    refine wl_v (x_pickT (tmB rfl rfl) hg14_9 ev_c) ?_
    refine wl_v (x_assign (tmB rfl rfl)) ?_
    refine wl_nil ?_
    refine then_n (hK9 _ _ ?_); clear hK9 K9
    refine cnd_t (tmB rfl rfl) rfl ?_
    refine wp_seq_k ?_; intro K10 hK10
    refine wlit ?_
    refine wl_v (x_move (tmS rfl rfl)) ?_
    refine wl_e rfl ?_; intro K hK
    refine ow_call Try.func42 rfl rfl (evs_cons (tmS rfl rfl) <| evs_nil) (hP _ L cl (viewV hS.ok 1 rfl) hcl) ?_
    rintro e w ⟨U, cu, rfl, hn1, hk⟩
    refine ⟨_, rfl, ?_⟩
    have d1 := hn1.newb hS
    replace hS := hS.addn hk hn1 -- +v1
    clear hn1 hk
    refine hK _ _ ?_; clear hK K
    refine wl_v (x_move (tmT rfl rfl)) ?_
    refine wl_v (x_ext (tmT rfl rfl) rfl) ?_
    refine wl_v (x_ext (tmT rfl rfl) rfl) ?_
    refine wl_e rfl ?_; intro K hK
    refine ow_alloc hS tz_44 rfl ?_
    clear hS; intro g15_5 w hg15_5 hS
    refine hK _ _ ?_; clear hK K
    refine wl_e rfl ?_; intro K hK
    refine ow_storeA hS 0 rfl ts_44 (tmP rfl rfl) (tmA rfl rfl) rfl rfl rfl ?_
    clear hS; intro w hS
    try replace hS := St.nm (M' := [.blk _ _ [_, _, _, _, _], .vw _ _, .blk _ _ [_, _, _, _, _, _, _, _, _, _, _, _, _, _, _, _, _, _, _, _, _, _, _, _, _, _, _, _, _, _, _], .vw _ _, .blk _ _ [_, _, _, _, _, _, _, _, _, _, _, _, _, _, _, _, _, _, _, _, _, _, _, _, _, _, _, _, _, _, _], .vw _ _]) hS rfl
    refine hK _ _ ?_; clear hK K
    refine wl_v (x_assign (tmB rfl rfl)) ?_
    refine wl_nil ?_
    refine then_n (hK10 _ _ ?_); clear hK10 K10
    refine wp_seq_k ?_; intro K11 hK11
    refine wlit ?_
    refine wl_v (x_loadA (cs := [_, _, _, _, _]) Try.underlying44 rfl ts_44 (tmP rfl rfl) (rangeB hS.ok 0 rfl rfl)) ?_
    refine wl_v (x_fa 26 Try.underlying46 rfl rfl ts_44 (tmP rfl rfl)) ?_
    refine wl_e rfl ?_; intro K hK
    refine ow_storeA hS 2 rfl ts_44 (tmP rfl rfl) (tmA rfl rfl) rfl rfl rfl ?_
    clear hS; intro w hS
    try replace hS := St.nm (M' := [.blk _ _ [_, _, _, _, _], .vw _ _, .blk _ _ [_, _, _, _, _, _, _, _, _, _, _, _, _, _, _, _, _, _, _, _, _, _, _, _, _, _, _, _, _, _, _], .vw _ _, .blk _ _ [_, _, _, _, _, _, _, _, _, _, _, _, _, _, _, _, _, _, _, _, _, _, _, _, _, _, _, _, _, _, _], .vw _ _]) hS rfl
    refine hK _ _ ?_; clear hK K
    refine wl_nil ?_
    refine then_n (hK11 _ _ ?_); clear hK11 K11
    refine wp_seq_k ?_; intro K12 hK12
    refine wp_seq_k ?_; intro K13 hK13
    refine wlit ?_
    refine wl_v (x_move (tmB rfl rfl)) ?_
    refine wl_v (x_not (tmB rfl rfl)) ?_
    refine wl_nil ?_
    refine then_n (hK13 _ _ ?_); clear hK13 K13
    refine cnd (tm rfl) (fun hc4 => ?_) (fun hc4 => ?_)
    · skip
      try simp only [nrm] at hc4
      refine wlit ?_
      refine wl_v (x_assign (ev_cN 20)) ?_
      refine wl_nil ?_
      refine then_n (hK12 _ _ ?_); clear hK12 K12
      refine wlit ?_
      refine wl_v (x_loadA (cs := [_, _, _, _, _]) Try.underlying44 rfl ts_44 (tmP rfl rfl) (rangeB hS.ok 0 rfl rfl)) ?_
      refine wl_v (x_fa 3 Try.underlying46 rfl rfl ts_29 (tmP rfl rfl)) ?_
      refine wl_v (x_fa 0 Try.underlying29 rfl rfl ts_26 (tmP rfl rfl)) ?_
      refine wl_v (x_loadA (cs := [_, _, _]) Try.underlying26 rfl ts_26 (tmP rfl rfl) (rangeB hS.ok 2 rfl rfl)) ?_
      refine wl_v (x_fa 3 Try.underlying46 rfl rfl ts_29 (tmP rfl rfl)) ?_
      refine wl_v (x_fa 3 Try.underlying29 rfl rfl ts_26 (tmP rfl rfl)) ?_
      refine wl_v (x_loadA (cs := [_, _, _]) Try.underlying26 rfl ts_26 (tmP rfl rfl) (rangeB hS.ok 2 rfl rfl)) ?_
      refine wl_e rfl ?_; intro K hK
      refine ow_call Try.func43 rfl rfl (evs_cons (tmA rfl rfl) <| evs_cons (tmA rfl rfl) <| evs_cons (tmA rfl rfl) <| evs_nil) (ricmp_check_c t.m1 t.m2 t.m3 t.m4 U t.x.length cu t.x i0.s i0.d _ (viewV hS.ok 1 rfl) rfl k1 h6 hls hld (by omega) k3 k4 k5 k6) ?_
      rintro e w ⟨rfl, hk⟩
      refine ⟨_, rfl, ?_⟩
      replace hS := hS.kept hk
      clear hk
      refine hK _ _ ?_; clear hK K
      refine wl_v (x_eql (tmI rfl rfl) (ev_cN 0)) ?_
      refine wl_v (x_assign (tmB rfl rfl)) ?_
      refine wl_nil ?_
      refine inb_n ?_
      refine then_n (hK6 _ _ ?_); clear hK6 K6
      refine wp_seq_k ?_; intro K14 hK14
      refine wp_seq_k ?_; intro K15 hK15
      refine wlit ?_
      refine wl_v (x_move (tmI rfl rfl)) ?_
      refine wl_v (x_neq (tmI rfl rfl) (ev_cN 0)) ?_
      refine wl_nil ?_
      refine then_n (hK15 _ _ ?_); clear hK15 K15
      refine cnd (tm rfl) (fun hc5 => ?_) (fun hc5 => ?_)
      · skip
        try simp only [nrm] at hc5
        refine wp_seq_k ?_; intro K16 hK16
        refine wlit ?_
        refine wl_v (x_build (bc_skip (.bool false) <| bc_skip (.bool false) <| bc_skip (.int .u8 0) <| bc_skipL [.bool false, .int .u64 0, .int .u64 0, .bool false, .int .u64 0, .int .u64 0, .int .u16 0, .int .u16 0, .int .u8 0] <| bc_skipL [.int .u16 0, .int .u16 0, .int .u32 0, .int .u32 0, .int .u8 0, .int .u16 0, .int .u16 0, .int .u16 0, .slice none 0 0, .slice none 0 0] <| bc_skipL [.int .u16 0, .int .u16 0, .int .u16 0, .slice none 0 0] <| bc_skipL [.int .u8 0, .int .u8 0, .int .u16 0, .int .u32 0, .slice none 0 0] <| bc_nil) (by kernel_rfl)) ?_
        refine wl_v (x_move (tmI rfl rfl)) ?_
        refine wl_e rfl ?_; intro K hK
        refine ow_call Try.func37 rfl rfl (evs_cons (tmI rfl rfl) <| evs_nil) (rof_c _ _) ?_
        rintro e w ⟨rfl, hk⟩
        refine ⟨_, rfl, ?_⟩
        replace hS := hS.kept hk
        clear hk
        refine hK _ _ ?_; clear hK K
        refine wl_e rfl ?_; intro K hK
        refine ow_storeA hS 4 rfl ts_46 (tmP rfl rfl) (tmA rfl rfl) rfl rfl rfl ?_
        clear hS; intro w hS
        try replace hS := St.nm (M' := [.blk _ _ [_, _, _, _, _], .vw _ _, .blk _ _ [_, _, _, _, _, _, _, _, _, _, _, _, _, _, _, _, _, _, _, _, _, _, _, _, _, _, _, _, _, _, _], .vw _ _, .blk _ _ [_, _, _, _, _, _, _, _, _, _, _, _, _, _, _, _, _, _, _, _, _, _, _, _, _, _, _, _, _, _, _], .vw _ _]) hS rfl
        refine hK _ _ ?_; clear hK K
        refine wl_v (x_assign (tmI rfl rfl)) ?_
        refine wl_nil ?_
        refine then_n (hK16 _ _ ?_); clear hK16 K16
        refine wp_ret ?_
        refine then_r ?_
        refine ret2 rfl (.cell rfl rfl (load_rowB (cs := [_, _, _, _, _, _, _, _, _, _, _, _, _, _, _, _, _, _, _, _, _, _, _, _, _, _, _, _, _, _, _]) hS.ok 4 rfl Try.underlying46 rfl ts_46 rfl)) (.tmp rfl (show _ = Value.int _ _ from rfl)) ?_
        have hz := GiP.z (w := w0) (w' := w)
        first
          | (obtain rfl : er = 20 := by omega
             rw [(finI_bad (er := 20) (by omega)).1, chk_bad (er := 20) (by omega)]
             exact ⟨Pl.Z, rfl, Nat.zero_le _, hz.1, hz.2.1, hz.2.2.1, hz.2.2.2, hS.kp⟩)
          | (have hff : f = false := by rw [hf]; exact decide_eq_false (by omega)
             rw [(finI_sum (er := er) hc4 hff).1, chk_sum hc4 hff]
             exact ⟨Pl.Z, rfl, Nat.zero_le _, hz.1, hz.2.1, hz.2.2.1, hz.2.2.2, hS.kp⟩)
          | (have hff : f = true := by rw [hf]; exact decide_eq_true (by omega)
             rw [(finI_ok (er := er) hc4 hff).1, chk_ok hc4 hff]
             obtain ⟨six, stay, ttl, s, d, sp, dp, pr, T, D, I⟩ := i0
             obtain rfl : T = Sg.Z := hT
             obtain rfl : D = Dg.Z := hD
             obtain rfl : I = Mg.Z := hI
             exact ⟨⟨none, 0, none, 0, none, 0, U, cu⟩, rfl, Nat.zero_le _, newV_nil _ _, newV_nil _ _, newV_nil _ _, ⟨viewV hS.ok 1 rfl, d1⟩, hS.kp⟩)
      try (exfalso; first | with_reducible exact absurd hc5 Bool.false_ne_true | with_reducible exact absurd hc5.symm Bool.false_ne_true | (simp only [nrm] at hc5; omega) | (simp at hc5; done))
    try simp only [nrm] at hc4
    refine wp_skip ?_
    refine then_n (hK12 _ _ ?_); clear hK12 K12
    refine wlit ?_
    refine wl_v (x_loadA (cs := [_, _, _, _, _]) Try.underlying44 rfl ts_44 (tmP rfl rfl) (rangeB hS.ok 0 rfl rfl)) ?_
    refine wl_v (x_fa 3 Try.underlying46 rfl rfl ts_29 (tmP rfl rfl)) ?_
    refine wl_v (x_fa 0 Try.underlying29 rfl rfl ts_26 (tmP rfl rfl)) ?_
    refine wl_v (x_loadA (cs := [_, _, _]) Try.underlying26 rfl ts_26 (tmP rfl rfl) (rangeB hS.ok 2 rfl rfl)) ?_
    refine wl_v (x_fa 3 Try.underlying46 rfl rfl ts_29 (tmP rfl rfl)) ?_
    refine wl_v (x_fa 3 Try.underlying29 rfl rfl ts_26 (tmP rfl rfl)) ?_
    refine wl_v (x_loadA (cs := [_, _, _]) Try.underlying26 rfl ts_26 (tmP rfl rfl) (rangeB hS.ok 2 rfl rfl)) ?_
    refine wl_e rfl ?_; intro K hK
    refine ow_call Try.func43 rfl rfl (evs_cons (tmA rfl rfl) <| evs_cons (tmA rfl rfl) <| evs_cons (tmA rfl rfl) <| evs_nil) (ricmp_check_c t.m1 t.m2 t.m3 t.m4 U t.x.length cu t.x i0.s i0.d _ (viewV hS.ok 1 rfl) rfl k1 h6 hls hld (by omega) k3 k4 k5 k6) ?_
    rintro e w ⟨rfl, hk⟩
    refine ⟨_, rfl, ?_⟩
    replace hS := hS.kept hk
    clear hk
    refine hK _ _ ?_; clear hK K
    refine wl_v (x_eql (tmI rfl rfl) (ev_cN 0)) ?_
    refine wl_v (x_assign (tmB rfl rfl)) ?_
    refine wl_nil ?_
    refine inb_n ?_
    refine then_n (hK6 _ _ ?_); clear hK6 K6
    refine wp_seq_k ?_; intro K24 hK24
    refine wp_seq_k ?_; intro K25 hK25
    refine wlit ?_
    refine wl_v (x_move (tmI rfl rfl)) ?_
    refine wl_v (x_neq (tmI rfl rfl) (ev_cN 0)) ?_
    refine wl_nil ?_
    refine then_n (hK25 _ _ ?_); clear hK25 K25
    refine cnd (tm rfl) (fun hc5 => ?_) (fun hc5 => ?_)
    · try (exfalso; first | with_reducible exact absurd hc5 Bool.false_ne_true | with_reducible exact absurd hc5.symm Bool.false_ne_true | (simp only [nrm] at hc5; omega) | (simp at hc5; done))
    try simp only [nrm] at hc5
    refine wp_skip ?_
    refine then_n (hK24 _ _ ?_); clear hK24 K24
    refine wp_seq_k ?_; intro K28 hK28
    refine wp_seq_k ?_; intro K29 hK29
    refine wlit ?_
    refine wl_v (x_move (tmB rfl rfl)) ?_
    refine wl_v (x_not (tmB rfl rfl)) ?_
    refine wl_nil ?_
    refine then_n (hK29 _ _ ?_); clear hK29 K29
    refine cnd (tm rfl) (fun hc6 => ?_) (fun hc6 => ?_)
    · skip
      try simp only [nrm] at hc6
      refine wp_seq_k ?_; intro K30 hK30
      refine wlit ?_
      refine wl_v (x_build (bc_skip (.bool false) <| bc_skip (.bool false) <| bc_skip (.int .u8 0) <| bc_skipL [.bool false, .int .u64 0, .int .u64 0, .bool false, .int .u64 0, .int .u64 0, .int .u16 0, .int .u16 0, .int .u8 0] <| bc_skipL [.int .u16 0, .int .u16 0, .int .u32 0, .int .u32 0, .int .u8 0, .int .u16 0, .int .u16 0, .int .u16 0, .slice none 0 0, .slice none 0 0] <| bc_skipL [.int .u16 0, .int .u16 0, .int .u16 0, .slice none 0 0] <| bc_skipL [.int .u8 0, .int .u8 0, .int .u16 0, .int .u32 0, .slice none 0 0] <| bc_nil) (by kernel_rfl)) ?_
      refine wl_e rfl ?_; intro K hK
      refine ow_storeA hS 4 rfl ts_46 (tmP rfl rfl) (tmA rfl rfl) rfl rfl rfl ?_
      clear hS; intro w hS
      try replace hS := St.nm (M' := [.blk _ _ [_, _, _, _, _], .vw _ _, .blk _ _ [_, _, _, _, _, _, _, _, _, _, _, _, _, _, _, _, _, _, _, _, _, _, _, _, _, _, _, _, _, _, _], .vw _ _, .blk _ _ [_, _, _, _, _, _, _, _, _, _, _, _, _, _, _, _, _, _, _, _, _, _, _, _, _, _, _, _, _, _, _], .vw _ _]) hS rfl
      refine hK _ _ ?_; clear hK K
      refine wl_v (x_assign (ev_cN 3)) ?_
      refine wl_nil ?_
      refine then_n (hK30 _ _ ?_); clear hK30 K30
      refine wp_ret ?_
      refine then_r ?_
      refine ret2 rfl (.cell rfl rfl (load_rowB (cs := [_, _, _, _, _, _, _, _, _, _, _, _, _, _, _, _, _, _, _, _, _, _, _, _, _, _, _, _, _, _, _]) hS.ok 4 rfl Try.underlying46 rfl ts_46 rfl)) (.tmp rfl (show _ = Value.int _ _ from rfl)) ?_
      have hz := GiP.z (w := w0) (w' := w)
      first
        | (obtain rfl : er = 20 := by omega
           rw [(finI_bad (er := 20) (by omega)).1, chk_bad (er := 20) (by omega)]
           exact ⟨Pl.Z, rfl, Nat.zero_le _, hz.1, hz.2.1, hz.2.2.1, hz.2.2.2, hS.kp⟩)
        | (have hff : f = false := by rw [hf]; exact decide_eq_false (by omega)
           rw [(finI_sum (er := er) hc4 hff).1, chk_sum hc4 hff]
           exact ⟨Pl.Z, rfl, Nat.zero_le _, hz.1, hz.2.1, hz.2.2.1, hz.2.2.2, hS.kp⟩)
        | (have hff : f = true := by rw [hf]; exact decide_eq_true (by omega)
           rw [(finI_ok (er := er) hc4 hff).1, chk_ok hc4 hff]
           obtain ⟨six, stay, ttl, s, d, sp, dp, pr, T, D, I⟩ := i0
           obtain rfl : T = Sg.Z := hT
           obtain rfl : D = Dg.Z := hD
           obtain rfl : I = Mg.Z := hI
           exact ⟨⟨none, 0, none, 0, none, 0, U, cu⟩, rfl, Nat.zero_le _, newV_nil _ _, newV_nil _ _, newV_nil _ _, ⟨viewV hS.ok 1 rfl, d1⟩, hS.kp⟩)
    try simp only [nrm] at hc6
    refine wp_skip ?_
    refine then_n (hK28 _ _ ?_); clear hK28 K28
    refine wp_seq_k ?_; intro K32 hK32
    refine wlit ?_
    refine wl_v (x_loadA (cs := [_, _, _, _, _, _, _, _, _, _, _, _, _, _, _, _, _, _, _, _, _, _, _, _, _, _, _, _, _, _, _]) Try.underlying46 rfl ts_46 (tmP rfl rfl) (rangeB hS.ok 2 rfl rfl)) ?_
    refine wl_e rfl ?_; intro K hK
    refine ow_storeA hS 4 rfl ts_46 (tmP rfl rfl) (tmA rfl rfl) rfl rfl rfl ?_
    clear hS; intro w hS
    try replace hS := St.nm (M' := [.blk _ _ [_, _, _, _, _], .vw _ _, .blk _ _ [_, _, _, _, _, _, _, _, _, _, _, _, _, _, _, _, _, _, _, _, _, _, _, _, _, _, _, _, _, _, _], .vw _ _, .blk _ _ [_, _, _, _, _, _, _, _, _, _, _, _, _, _, _, _, _, _, _, _, _, _, _, _, _, _, _, _, _, _, _], .vw _ _]) hS rfl
    refine hK _ _ ?_; clear hK K
    refine wl_v (x_assign (ev_cN 0)) ?_
    refine wl_nil ?_
    refine then_n (hK32 _ _ ?_); clear hK32 K32
    refine wp_ret ?_
    refine ret2 rfl (.cell rfl rfl (load_rowB (cs := [_, _, _, _, _, _, _, _, _, _, _, _, _, _, _, _, _, _, _, _, _, _, _, _, _, _, _, _, _, _, _]) hS.ok 4 rfl Try.underlying46 rfl ts_46 rfl)) (.tmp rfl (show _ = Value.int _ _ from rfl)) ?_
    have hz := GiP.z (w := w0) (w' := w)
    first
      | (obtain rfl : er = 20 := by omega
         rw [(finI_bad (er := 20) (by omega)).1, chk_bad (er := 20) (by omega)]
         exact ⟨Pl.Z, rfl, Nat.zero_le _, hz.1, hz.2.1, hz.2.2.1, hz.2.2.2, hS.kp⟩)
      | (have hff : f = false := by rw [hf]; exact decide_eq_false (by omega)
         rw [(finI_sum (er := er) hc4 hff).1, chk_sum hc4 hff]
         exact ⟨Pl.Z, rfl, Nat.zero_le _, hz.1, hz.2.1, hz.2.2.1, hz.2.2.2, hS.kp⟩)
      | (have hff : f = true := by rw [hf]; exact decide_eq_true (by omega)
         rw [(finI_ok (er := er) hc4 hff).1, chk_ok hc4 hff]
         obtain ⟨six, stay, ttl, s, d, sp, dp, pr, T, D, I⟩ := i0
         obtain rfl : T = Sg.Z := hT
         obtain rfl : D = Dg.Z := hD
         obtain rfl : I = Mg.Z := hI
         exact ⟨⟨none, 0, none, 0, none, 0, U, cu⟩, rfl, Nat.zero_le _, newV_nil _ _, newV_nil _ _, newV_nil _ _, ⟨viewV hS.ok 1 rfl, d1⟩, hS.kp⟩)
  have hg14_3' := hg14_3; (try simp only [nrm] at hg14_3')
  refine wl_s rfl (want_n rfl rfl rfl rfl (by rw [hg14_3]; rfl)) ?_
  refine wl_s rfl (want_n rfl rfl rfl rfl (by rw [hg14_3]; rfl)) ?_
  refine wl_s rfl (want_n rfl rfl rfl rfl (by rw [hg14_3]; rfl)) ?_
  refine wl_s rfl (want_n rfl rfl rfl rfl (by rw [hg14_3]; rfl)) ?_
  refine wl_v (x_pickF (tmB rfl rfl) hg14_3 ev_c) ?_
  refine wl_v (x_move (tmB rfl rfl)) ?_
  refine wl_gv (want_y rfl rfl rfl rfl rfl) (x_fa 0 Try.underlying46 rfl rfl ts_4 (tmP rfl rfl)) ?_
  refine wl_gv (want_y rfl rfl rfl rfl rfl) (x_load Try.underlying4 rfl (tmP rfl rfl) (cellB hS.ok 0 rfl rfl)) ?_
  refine wl_gv (want_y rfl rfl rfl rfl rfl) (x_move (tmB rfl rfl)) ?_
  refine gs_wls (tm (t := 94) rfl) (fun hg14_12 => ?_) (fun hg14_12 => ?_)
  · exfalso
    exact Bool.noConfusion (hg14_3'.symm.trans hg14_12)
  have hg14_12' := hg14_12; (try simp only [nrm] at hg14_12')
  refine wl_gv (want_y rfl rfl rfl rfl (by rw [hg14_12]; rfl)) (x_fa 3 Try.underlying46 rfl rfl ts_29 (tmP rfl rfl)) ?_
  refine wl_gv (want_y rfl rfl rfl rfl (by rw [hg14_12]; rfl)) (x_fa 8 Try.underlying29 rfl rfl ts_5 (tmP rfl rfl)) ?_
  refine wl_gv (want_y rfl rfl rfl rfl (by rw [hg14_12]; rfl)) (x_load Try.underlying5 rfl (tmP rfl rfl) (cellB hS.ok 0 rfl rfl)) ?_
  refine wl_gv (want_y rfl rfl rfl rfl (by rw [hg14_12]; rfl)) (x_eql (tmI rfl rfl) (ev_cN 58)) ?_
  refine wl_gv (want_y rfl rfl rfl rfl rfl) (x_pickT (tmB rfl rfl) hg14_12 (tmB rfl rfl)) ?_
  refine wl_v (x_pickF (tmB rfl rfl) rfl (tmB rfl rfl)) ?_
  refine wl_v (x_assign (tmB rfl rfl)) ?_
  refine wl_nil ?_
  refine then_n (hK9 _ _ ?_); clear hK9 K9
  refine cnds (tm rfl) (fun hc3 => ?_) (fun hc3 => ?_)
  · exfalso
    rcases hpr with ⟨h1, h2⟩ | ⟨h1, h2⟩
    · exact Bool.noConfusion (h2.symm.trans hg14_3')
    · rw [h1] at hc3
      exact absurd hc3 (by decide)
  try simp only [nrm] at hc3
  refine wp_seq_k ?_; intro K34 hK34
  refine wlit ?_
  refine wl_v (x_move (tmS rfl rfl)) ?_
  refine wl_e rfl ?_; intro K hK
  refine ow_call Try.func42 rfl rfl (evs_cons (tmS rfl rfl) <| evs_nil) (hP _ L cl (viewV hS.ok 1 rfl) hcl) ?_
  rintro e w ⟨U, cu, rfl, hn1, hk⟩
  refine ⟨_, rfl, ?_⟩
  have d1 := hn1.newb hS
  replace hS := hS.addn hk hn1 -- +v1
  clear hn1 hk
  refine hK _ _ ?_; clear hK K
  refine wl_v (x_move (tmT rfl rfl)) ?_
  refine wl_v (x_ext (tmT rfl rfl) rfl) ?_
  refine wl_v (x_ext (tmT rfl rfl) rfl) ?_
  refine wl_e rfl ?_; intro K hK
  refine ow_alloc hS tz_44 rfl ?_
  clear hS; intro g15_5 w hg15_5 hS
  refine hK _ _ ?_; clear hK K
  refine wl_e rfl ?_; intro K hK
  refine ow_storeA hS 0 rfl ts_44 (tmP rfl rfl) (tmA rfl rfl) rfl rfl rfl ?_
  clear hS; intro w hS
  try replace hS := St.nm (M' := [.blk _ _ [_, _, _, _, _], .vw _ _, .blk _ _ [_, _, _, _, _, _, _, _, _, _, _, _, _, _, _, _, _, _, _, _, _, _, _, _, _, _, _, _, _, _, _], .vw _ _, .blk _ _ [_, _, _, _, _, _, _, _, _, _, _, _, _, _, _, _, _, _, _, _, _, _, _, _, _, _, _, _, _, _, _], .vw _ _]) hS rfl
  refine hK _ _ ?_; clear hK K
  refine wl_v (x_assign (tmB rfl rfl)) ?_
  refine wl_nil ?_
  refine then_n (hK34 _ _ ?_); clear hK34 K34
  refine wp_seq_k ?_; intro K35 hK35
  refine wlit ?_
  refine wl_v (x_loadA (cs := [_, _, _, _, _]) Try.underlying44 rfl ts_44 (tmP rfl rfl) (rangeB hS.ok 0 rfl rfl)) ?_
  refine wl_v (x_fa 26 Try.underlying46 rfl rfl ts_44 (tmP rfl rfl)) ?_
  refine wl_e rfl ?_; intro K hK
  refine ow_storeA hS 2 rfl ts_44 (tmP rfl rfl) (tmA rfl rfl) rfl rfl rfl ?_
  clear hS; intro w hS
  try replace hS := St.nm (M' := [.blk _ _ [_, _, _, _, _], .vw _ _, .blk _ _ [_, _, _, _, _, _, _, _, _, _, _, _, _, _, _, _, _, _, _, _, _, _, _, _, _, _, _, _, _, _, _], .vw _ _, .blk _ _ [_, _, _, _, _, _, _, _, _, _, _, _, _, _, _, _, _, _, _, _, _, _, _, _, _, _, _, _, _, _, _], .vw _ _]) hS rfl
  refine hK _ _ ?_; clear hK K
  refine wl_nil ?_
  refine then_n (hK35 _ _ ?_); clear hK35 K35
  refine wp_seq_k ?_; intro K36 hK36
  refine wp_seq_k ?_; intro K37 hK37
  refine wlit ?_
  refine wl_v (x_move (tmB rfl rfl)) ?_
  refine wl_v (x_not (tmB rfl rfl)) ?_
  refine wl_nil ?_
  refine then_n (hK37 _ _ ?_); clear hK37 K37
  refine cnd (tm rfl) (fun hc4 => ?_) (fun hc4 => ?_)
  · skip
    try simp only [nrm] at hc4
    refine wlit ?_
    refine wl_v (x_assign (ev_cN 20)) ?_
    refine wl_nil ?_
    refine then_n (hK36 _ _ ?_); clear hK36 K36
    refine wlit ?_
    refine wl_v (x_loadA (cs := [_, _, _, _, _]) Try.underlying44 rfl ts_44 (tmP rfl rfl) (rangeB hS.ok 0 rfl rfl)) ?_
    refine wl_v (x_fa 3 Try.underlying46 rfl rfl ts_29 (tmP rfl rfl)) ?_
    refine wl_v (x_fa 0 Try.underlying29 rfl rfl ts_26 (tmP rfl rfl)) ?_
    refine wl_v (x_loadA (cs := [_, _, _]) Try.underlying26 rfl ts_26 (tmP rfl rfl) (rangeB hS.ok 2 rfl rfl)) ?_
    refine wl_v (x_fa 3 Try.underlying46 rfl rfl ts_29 (tmP rfl rfl)) ?_
    refine wl_v (x_fa 3 Try.underlying29 rfl rfl ts_26 (tmP rfl rfl)) ?_
    refine wl_v (x_loadA (cs := [_, _, _]) Try.underlying26 rfl ts_26 (tmP rfl rfl) (rangeB hS.ok 2 rfl rfl)) ?_
    refine wl_e rfl ?_; intro K hK
    refine ow_call Try.func43 rfl rfl (evs_cons (tmA rfl rfl) <| evs_cons (tmA rfl rfl) <| evs_cons (tmA rfl rfl) <| evs_nil) (ricmp_check_c t.m1 t.m2 t.m3 t.m4 U t.x.length cu t.x i0.s i0.d _ (viewV hS.ok 1 rfl) rfl k1 h6 hls hld (by omega) k3 k4 k5 k6) ?_
    rintro e w ⟨rfl, hk⟩
    refine ⟨_, rfl, ?_⟩
    replace hS := hS.kept hk
    clear hk
    refine hK _ _ ?_; clear hK K
    refine wl_v (x_eql (tmI rfl rfl) (ev_cN 0)) ?_
    refine wl_v (x_assign (tmB rfl rfl)) ?_
    refine wl_nil ?_
    refine inb_n ?_
    refine then_n (hK6 _ _ ?_); clear hK6 K6
    refine wp_seq_k ?_; intro K38 hK38
    refine wp_seq_k ?_; intro K39 hK39
    refine wlit ?_
    refine wl_v (x_move (tmI rfl rfl)) ?_
    refine wl_v (x_neq (tmI rfl rfl) (ev_cN 0)) ?_
    refine wl_nil ?_
    refine then_n (hK39 _ _ ?_); clear hK39 K39
    refine cnd (tm rfl) (fun hc5 => ?_) (fun hc5 => ?_)
    · skip
      try simp only [nrm] at hc5
      refine wp_seq_k ?_; intro K40 hK40
      refine wlit ?_
      refine wl_v (x_build (bc_skip (.bool false) <| bc_skip (.bool false) <| bc_skip (.int .u8 0) <| bc_skipL [.bool false, .int .u64 0, .int .u64 0, .bool false, .int .u64 0, .int .u64 0, .int .u16 0, .int .u16 0, .int .u8 0] <| bc_skipL [.int .u16 0, .int .u16 0, .int .u32 0, .int .u32 0, .int .u8 0, .int .u16 0, .int .u16 0, .int .u16 0, .slice none 0 0, .slice none 0 0] <| bc_skipL [.int .u16 0, .int .u16 0, .int .u16 0, .slice none 0 0] <| bc_skipL [.int .u8 0, .int .u8 0, .int .u16 0, .int .u32 0, .slice none 0 0] <| bc_nil) (by kernel_rfl)) ?_
      refine wl_v (x_move (tmI rfl rfl)) ?_
      refine wl_e rfl ?_; intro K hK
      refine ow_call Try.func37 rfl rfl (evs_cons (tmI rfl rfl) <| evs_nil) (rof_c _ _) ?_
      rintro e w ⟨rfl, hk⟩
      refine ⟨_, rfl, ?_⟩
      replace hS := hS.kept hk
      clear hk
      refine hK _ _ ?_; clear hK K
      refine wl_e rfl ?_; intro K hK
      refine ow_storeA hS 4 rfl ts_46 (tmP rfl rfl) (tmA rfl rfl) rfl rfl rfl ?_
      clear hS; intro w hS
      try replace hS := St.nm (M' := [.blk _ _ [_, _, _, _, _], .vw _ _, .blk _ _ [_, _, _, _, _, _, _, _, _, _, _, _, _, _, _, _, _, _, _, _, _, _, _, _, _, _, _, _, _, _, _], .vw _ _, .blk _ _ [_, _, _, _, _, _, _, _, _, _, _, _, _, _, _, _, _, _, _, _, _, _, _, _, _, _, _, _, _, _, _], .vw _ _]) hS rfl
      refine hK _ _ ?_; clear hK K
      refine wl_v (x_assign (tmI rfl rfl)) ?_
      refine wl_nil ?_
      refine then_n (hK40 _ _ ?_); clear hK40 K40
      refine wp_ret ?_
      refine then_r ?_
      refine ret2 rfl (.cell rfl rfl (load_rowB (cs := [_, _, _, _, _, _, _, _, _, _, _, _, _, _, _, _, _, _, _, _, _, _, _, _, _, _, _, _, _, _, _]) hS.ok 4 rfl Try.underlying46 rfl ts_46 rfl)) (.tmp rfl (show _ = Value.int _ _ from rfl)) ?_
      have hz := GiP.z (w := w0) (w' := w)
      first
        | (obtain rfl : er = 20 := by omega
           rw [(finI_bad (er := 20) (by omega)).1, chk_bad (er := 20) (by omega)]
           exact ⟨Pl.Z, rfl, Nat.zero_le _, hz.1, hz.2.1, hz.2.2.1, hz.2.2.2, hS.kp⟩)
        | (have hff : f = false := by rw [hf]; exact decide_eq_false (by omega)
           rw [(finI_sum (er := er) hc4 hff).1, chk_sum hc4 hff]
           exact ⟨Pl.Z, rfl, Nat.zero_le _, hz.1, hz.2.1, hz.2.2.1, hz.2.2.2, hS.kp⟩)
        | (have hff : f = true := by rw [hf]; exact decide_eq_true (by omega)
           rw [(finI_ok (er := er) hc4 hff).1, chk_ok hc4 hff]
           obtain ⟨six, stay, ttl, s, d, sp, dp, pr, T, D, I⟩ := i0
           obtain rfl : T = Sg.Z := hT
           obtain rfl : D = Dg.Z := hD
           obtain rfl : I = Mg.Z := hI
           exact ⟨⟨none, 0, none, 0, none, 0, U, cu⟩, rfl, Nat.zero_le _, newV_nil _ _, newV_nil _ _, newV_nil _ _, ⟨viewV hS.ok 1 rfl, d1⟩, hS.kp⟩)
    try (exfalso; first | with_reducible exact absurd hc5 Bool.false_ne_true | with_reducible exact absurd hc5.symm Bool.false_ne_true | (simp only [nrm] at hc5; omega) | (simp at hc5; done))
  try simp only [nrm] at hc4
  refine wp_skip ?_
  refine then_n (hK36 _ _ ?_); clear hK36 K36
  refine wlit ?_
  refine wl_v (x_loadA (cs := [_, _, _, _, _]) Try.underlying44 rfl ts_44 (tmP rfl rfl) (rangeB hS.ok 0 rfl rfl)) ?_
  refine wl_v (x_fa 3 Try.underlying46 rfl rfl ts_29 (tmP rfl rfl)) ?_
  refine wl_v (x_fa 0 Try.underlying29 rfl rfl ts_26 (tmP rfl rfl)) ?_
  refine wl_v (x_loadA (cs := [_, _, _]) Try.underlying26 rfl ts_26 (tmP rfl rfl) (rangeB hS.ok 2 rfl rfl)) ?_
  refine wl_v (x_fa 3 Try.underlying46 rfl rfl ts_29 (tmP rfl rfl)) ?_
  refine wl_v (x_fa 3 Try.underlying29 rfl rfl ts_26 (tmP rfl rfl)) ?_
  refine wl_v (x_loadA (cs := [_, _, _]) Try.underlying26 rfl ts_26 (tmP rfl rfl) (rangeB hS.ok 2 rfl rfl)) ?_
  refine wl_e rfl ?_; intro K hK
  refine ow_call Try.func43 rfl rfl (evs_cons (tmA rfl rfl) <| evs_cons (tmA rfl rfl) <| evs_cons (tmA rfl rfl) <| evs_nil) (ricmp_check_c t.m1 t.m2 t.m3 t.m4 U t.x.length cu t.x i0.s i0.d _ (viewV hS.ok 1 rfl) rfl k1 h6 hls hld (by omega) k3 k4 k5 k6) ?_
  rintro e w ⟨rfl, hk⟩
  refine ⟨_, rfl, ?_⟩
  replace hS := hS.kept hk
  clear hk
  refine hK _ _ ?_; clear hK K
  refine wl_v (x_eql (tmI rfl rfl) (ev_cN 0)) ?_
  refine wl_v (x_assign (tmB rfl rfl)) ?_
  refine wl_nil ?_
  refine inb_n ?_
  refine then_n (hK6 _ _ ?_); clear hK6 K6
  refine wp_seq_k ?_; intro K48 hK48
  refine wp_seq_k ?_; intro K49 hK49
  refine wlit ?_
  refine wl_v (x_move (tmI rfl rfl)) ?_
  refine wl_v (x_neq (tmI rfl rfl) (ev_cN 0)) ?_
  refine wl_nil ?_
  refine then_n (hK49 _ _ ?_); clear hK49 K49
  refine cnd (tm rfl) (fun hc5 => ?_) (fun hc5 => ?_)
  · try (exfalso; first | with_reducible exact absurd hc5 Bool.false_ne_true | with_reducible exact absurd hc5.symm Bool.false_ne_true | (simp only [nrm] at hc5; omega) | (simp at hc5; done))
  try simp only [nrm] at hc5
  refine wp_skip ?_
  refine then_n (hK48 _ _ ?_); clear hK48 K48
  refine wp_seq_k ?_; intro K52 hK52
  refine wp_seq_k ?_; intro K53 hK53
  refine wlit ?_
  refine wl_v (x_move (tmB rfl rfl)) ?_
  refine wl_v (x_not (tmB rfl rfl)) ?_
  refine wl_nil ?_
  refine then_n (hK53 _ _ ?_); clear hK53 K53
  refine cnd (tm rfl) (fun hc6 => ?_) (fun hc6 => ?_)
  · skip
    try simp only [nrm] at hc6
    refine wp_seq_k ?_; intro K54 hK54
    refine wlit ?_
    refine wl_v (x_build (bc_skip (.bool false) <| bc_skip (.bool false) <| bc_skip (.int .u8 0) <| bc_skipL [.bool false, .int .u64 0, .int .u64 0, .bool false, .int .u64 0, .int .u64 0, .int .u16 0, .int .u16 0, .int .u8 0] <| bc_skipL [.int .u16 0, .int .u16 0, .int .u32 0, .int .u32 0, .int .u8 0, .int .u16 0, .int .u16 0, .int .u16 0, .slice none 0 0, .slice none 0 0] <| bc_skipL [.int .u16 0, .int .u16 0, .int .u16 0, .slice none 0 0] <| bc_skipL [.int .u8 0, .int .u8 0, .int .u16 0, .int .u32 0, .slice none 0 0] <| bc_nil) (by kernel_rfl)) ?_
    refine wl_e rfl ?_; intro K hK
    refine ow_storeA hS 4 rfl ts_46 (tmP rfl rfl) (tmA rfl rfl) rfl rfl rfl ?_
    clear hS; intro w hS
    try replace hS := St.nm (M' := [.blk _ _ [_, _, _, _, _], .vw _ _, .blk _ _ [_, _, _, _, _, _, _, _, _, _, _, _, _, _, _, _, _, _, _, _, _, _, _, _, _, _, _, _, _, _, _], .vw _ _, .blk _ _ [_, _, _, _, _, _, _, _, _, _, _, _, _, _, _, _, _, _, _, _, _, _, _, _, _, _, _, _, _, _, _], .vw _ _]) hS rfl
    refine hK _ _ ?_; clear hK K
    refine wl_v (x_assign (ev_cN 3)) ?_
    refine wl_nil ?_
    refine then_n (hK54 _ _ ?_); clear hK54 K54
    refine wp_ret ?_
    refine then_r ?_
    refine ret2 rfl (.cell rfl rfl (load_rowB (cs := [_, _, _, _, _, _, _, _, _, _, _, _, _, _, _, _, _, _, _, _, _, _, _, _, _, _, _, _, _, _, _]) hS.ok 4 rfl Try.underlying46 rfl ts_46 rfl)) (.tmp rfl (show _ = Value.int _ _ from rfl)) ?_
    have hz := GiP.z (w := w0) (w' := w)
    first
      | (obtain rfl : er = 20 := by omega
         rw [(finI_bad (er := 20) (by omega)).1, chk_bad (er := 20) (by omega)]
         exact ⟨Pl.Z, rfl, Nat.zero_le _, hz.1, hz.2.1, hz.2.2.1, hz.2.2.2, hS.kp⟩)
      | (have hff : f = false := by rw [hf]; exact decide_eq_false (by omega)
         rw [(finI_sum (er := er) hc4 hff).1, chk_sum hc4 hff]
         exact ⟨Pl.Z, rfl, Nat.zero_le _, hz.1, hz.2.1, hz.2.2.1, hz.2.2.2, hS.kp⟩)
      | (have hff : f = true := by rw [hf]; exact decide_eq_true (by omega)
         rw [(finI_ok (er := er) hc4 hff).1, chk_ok hc4 hff]
         obtain ⟨six, stay, ttl, s, d, sp, dp, pr, T, D, I⟩ := i0
         obtain rfl : T = Sg.Z := hT
         obtain rfl : D = Dg.Z := hD
         obtain rfl : I = Mg.Z := hI
         exact ⟨⟨none, 0, none, 0, none, 0, U, cu⟩, rfl, Nat.zero_le _, newV_nil _ _, newV_nil _ _, newV_nil _ _, ⟨viewV hS.ok 1 rfl, d1⟩, hS.kp⟩)
  try simp only [nrm] at hc6
  refine wp_skip ?_
  refine then_n (hK52 _ _ ?_); clear hK52 K52
  refine wp_seq_k ?_; intro K56 hK56
  refine wlit ?_
  refine wl_v (x_loadA (cs := [_, _, _, _, _, _, _, _, _, _, _, _, _, _, _, _, _, _, _, _, _, _, _, _, _, _, _, _, _, _, _]) Try.underlying46 rfl ts_46 (tmP rfl rfl) (rangeB hS.ok 2 rfl rfl)) ?_
  refine wl_e rfl ?_; intro K hK
  refine ow_storeA hS 4 rfl ts_46 (tmP rfl rfl) (tmA rfl rfl) rfl rfl rfl ?_
  clear hS; intro w hS
  try replace hS := St.nm (M' := [.blk _ _ [_, _, _, _, _], .vw _ _, .blk _ _ [_, _, _, _, _, _, _, _, _, _, _, _, _, _, _, _, _, _, _, _, _, _, _, _, _, _, _, _, _, _, _], .vw _ _, .blk _ _ [_, _, _, _, _, _, _, _, _, _, _, _, _, _, _, _, _, _, _, _, _, _, _, _, _, _, _, _, _, _, _], .vw _ _]) hS rfl
  refine hK _ _ ?_; clear hK K
  refine wl_v (x_assign (ev_cN 0)) ?_
  refine wl_nil ?_
  refine then_n (hK56 _ _ ?_); clear hK56 K56
  refine wp_ret ?_
  refine ret2 rfl (.cell rfl rfl (load_rowB (cs := [_, _, _, _, _, _, _, _, _, _, _, _, _, _, _, _, _, _, _, _, _, _, _, _, _, _, _, _, _, _, _]) hS.ok 4 rfl Try.underlying46 rfl ts_46 rfl)) (.tmp rfl (show _ = Value.int _ _ from rfl)) ?_
  have hz := GiP.z (w := w0) (w' := w)
  first
    | (obtain rfl : er = 20 := by omega
       rw [(finI_bad (er := 20) (by omega)).1, chk_bad (er := 20) (by omega)]
       exact ⟨Pl.Z, rfl, Nat.zero_le _, hz.1, hz.2.1, hz.2.2.1, hz.2.2.2, hS.kp⟩)
    | (have hff : f = false := by rw [hf]; exact decide_eq_false (by omega)
       rw [(finI_sum (er := er) hc4 hff).1, chk_sum hc4 hff]
       exact ⟨Pl.Z, rfl, Nat.zero_le _, hz.1, hz.2.1, hz.2.2.1, hz.2.2.2, hS.kp⟩)
    | (have hff : f = true := by rw [hf]; exact decide_eq_true (by omega)
       rw [(finI_ok (er := er) hc4 hff).1, chk_ok hc4 hff]
       obtain ⟨six, stay, ttl, s, d, sp, dp, pr, T, D, I⟩ := i0
       obtain rfl : T = Sg.Z := hT
       obtain rfl : D = Dg.Z := hD
       obtain rfl : I = Mg.Z := hI
       exact ⟨⟨none, 0, none, 0, none, 0, U, cu⟩, rfl, Nat.zero_le _, newV_nil _ _, newV_nil _ _, newV_nil _ _, ⟨viewV hS.ok 1 rfl, d1⟩, hS.kp⟩)
set_option maxRecDepth 100000 in
set_option maxHeartbeats 8000000 in
theorem rhost_none (l : List Nat) (i : Inf) (x : List Nat) (h6 : i.pr ≠ 6) (h17 : i.pr ≠ 17) (hpr : ¬ ((i.pr = 1 ∧ i.six = false) ∨ (i.pr = 58 ∧ i.six = true))) (hH : HdP 21 l i x 0) :
    GiP 22 [] l Inf.Z 6 := fun w0 A c hv hc => by
  have hS := (St.sv w0).vcons rfl hv
  refine ent (n := 128) Try.func22 rfl rfl ?_
  refine wp_seq_k ?_; intro K1 hK1
  refine wlit ?_
  refine wl_e rfl ?_; intro K hK
  refine ow_alloc hS tz_46 rfl ?_
  clear hS; intro g0_0 w hg0_0 hS
  refine hK _ _ ?_; clear hK K
  refine wl_v (x_assign (ev_cN 0)) ?_
  refine wl_nil ?_
  refine then_n (hK1 _ _ ?_); clear hK1 K1
  refine wp_seq_k ?_; intro K2 hK2
  refine wlit ?_
  refine wl_v (x_move (tmS rfl rfl)) ?_
  refine wl_e rfl ?_; intro K hK
  refine ow_call Try.func21 rfl rfl (evs_cons (tmS rfl rfl) <| evs_nil) (hH _ A c (viewV hS.ok 1 rfl) hc) ?_
  rintro e w ⟨i0, x0, L, cl, hi, hcl, rfl, hn, hk⟩
  refine ⟨_, rfl, ?_⟩
  replace hS := hS.addn hk hn -- +vx
  clear hn hk
  obtain ⟨rfl, rfl⟩ := hi rfl
  refine hK _ _ ?_; clear hK K
  refine wl_v (x_move (tmT rfl rfl)) ?_
  refine wl_v (x_ext (tmT rfl rfl) rfl) ?_
  refine wl_v (x_ext (tmT rfl rfl) rfl) ?_
  refine wl_v (x_ext (tmT rfl rfl) rfl) ?_
  refine wl_e rfl ?_; intro K hK
  refine ow_alloc hS tz_46 rfl ?_
  clear hS; intro g1_6 w hg1_6 hS
  refine hK _ _ ?_; clear hK K
  refine wl_e rfl ?_; intro K hK
  refine ow_storeA hS 0 rfl ts_46 (tmP rfl rfl) (tmA rfl rfl) rfl rfl rfl ?_
  clear hS; intro w hS
  try replace hS := St.nm (M' := [.blk _ _ [_, _, _, _, _, _, _, _, _, _, _, _, _, _, _, _, _, _, _, _, _, _, _, _, _, _, _, _, _, _, _], .vw _ _, .blk _ _ [_, _, _, _, _, _, _, _, _, _, _, _, _, _, _, _, _, _, _, _, _, _, _, _, _, _, _, _, _, _, _], .vw _ _]) hS rfl
  refine hK _ _ ?_; clear hK K
  refine wl_v (x_assign (tmS rfl rfl)) ?_
  refine wl_v (x_assign (tmI rfl rfl)) ?_
  refine wl_nil ?_
  refine then_n (hK2 _ _ ?_); clear hK2 K2
  refine wp_seq_k ?_; intro K3 hK3
  refine wp_seq_k ?_; intro K4 hK4
  refine wlit ?_
  refine wl_v (x_move (tmI rfl rfl)) ?_
  refine wl_v (x_neq (tmI rfl rfl) (ev_cN 0)) ?_
  refine wl_nil ?_
  refine then_n (hK4 _ _ ?_); clear hK4 K4
  refine cnd (tm rfl) (fun hc0 => ?_) (fun hc0 => ?_)
  · exfalso
    simp at hc0
  try simp only [nrm] at hc0
  refine wp_skip ?_
  refine then_n (hK3 _ _ ?_); clear hK3 K3
  refine wp_seq_k ?_; intro K5 hK5
  refine wlit ?_
  refine wl_v (x_assign (ev_cN 0)) ?_
  refine wl_v (x_assign ev_c) ?_
  refine wl_nil ?_
  refine then_n (hK5 _ _ ?_); clear hK5 K5
  refine wp_seq_k ?_; intro K6 hK6
  refine wp_block ?_
  refine wp_seq_k ?_; intro K7 hK7
  refine wlit ?_
  refine wl_v (x_fa 3 Try.underlying46 rfl rfl ts_29 (tmP rfl rfl)) ?_
  refine wl_v (x_fa 8 Try.underlying29 rfl rfl ts_5 (tmP rfl rfl)) ?_
  refine wl_v (x_load Try.underlying5 rfl (tmP rfl rfl) (cellB hS.ok 0 rfl rfl)) ?_
  refine wl_v (x_eql (tmI rfl rfl) (ev_cN 6)) ?_
  refine wl_v (x_assign (tmB rfl rfl)) ?_
  refine wl_nil ?_
  refine then_n (hK7 _ _ ?_); clear hK7 K7
  refine cnd (tm rfl) (fun hc1 => ?_) (fun hc1 => ?_)
  · exfalso
    first | omega | (simp at hc1; omega)
  try simp only [nrm] at hc1
  refine wp_seq_k ?_; intro K8 hK8
  refine wlit ?_
  refine wl_v (x_fa 3 Try.underlying46 rfl rfl ts_29 (tmP rfl rfl)) ?_
  refine wl_v (x_fa 8 Try.underlying29 rfl rfl ts_5 (tmP rfl rfl)) ?_
  refine wl_v (x_load Try.underlying5 rfl (tmP rfl rfl) (cellB hS.ok 0 rfl rfl)) ?_
  refine wl_v (x_eql (tmI rfl rfl) (ev_cN 17)) ?_
  refine wl_v (x_assign (tmB rfl rfl)) ?_
  refine wl_nil ?_
  refine then_n (hK8 _ _ ?_); clear hK8 K8
  refine cnd (tm rfl) (fun hc2 => ?_) (fun hc2 => ?_)
  · exfalso
    first | omega | (simp at hc2; omega)
  try simp only [nrm] at hc2
  refine wp_seq_k ?_; intro K9 hK9
  refine wlit ?_
  refine wl_v (x_fa 0 Try.underlying46 rfl rfl ts_4 (tmP rfl rfl)) ?_
  refine wl_v (x_load Try.underlying4 rfl (tmP rfl rfl) (cellB hS.ok 0 rfl rfl)) ?_
  refine wl_v (x_not (tmB rfl rfl)) ?_
  refine wl_v (x_move (tmB rfl rfl)) ?_
  refine gs_wl (tm (t := 85) rfl) (fun hg14_3 => ?_) (fun hg14_3 => ?_)
  · have hg14_3' := hg14_3; (try simp only [nrm] at hg14_3')
    refine wl_gv (want_y rfl rfl rfl rfl (by rw [hg14_3]; rfl)) (x_fa 3 Try.underlying46 rfl rfl ts_29 (tmP rfl rfl)) ?_
    refine wl_gv (want_y rfl rfl rfl rfl (by rw [hg14_3]; rfl)) (x_fa 8 Try.underlying29 rfl rfl ts_5 (tmP rfl rfl)) ?_
    refine wl_gv (want_y rfl rfl rfl rfl (by rw [hg14_3]; rfl)) (x_load Try.underlying5 rfl (tmP rfl rfl) (cellB hS.ok 0 rfl rfl)) ?_
    refine wl_gv (want_y rfl rfl rfl rfl (by rw [hg14_3]; rfl)) (x_eql (tmI rfl rfl) (ev_cN 1)) ?_
    refine wl_v (x_pickT (tmB rfl rfl) hg14_3 (tmB rfl rfl)) ?_
    refine wl_v (x_move (tmB rfl rfl)) ?_
    refine gs_wl (tm (t := 91) rfl) (fun hg14_9 => ?_) (fun hg14_9 => ?_)
    · exfalso
      exact hpr (.inl ⟨by have := of_decide_eq_true hg14_9; omega, hg14_3'⟩)
    have hg14_9' := hg14_9; (try simp only [nrm] at hg14_9')
    refine wl_gv (want_y rfl rfl rfl rfl (by rw [hg14_9]; rfl)) (x_fa 0 Try.underlying46 rfl rfl ts_4 (tmP rfl rfl)) ?_
    refine wl_gv (want_y rfl rfl rfl rfl (by rw [hg14_9]; rfl)) (x_load Try.underlying4 rfl (tmP rfl rfl) (cellB hS.ok 0 rfl rfl)) ?_
    refine wl_gv (want_y rfl rfl rfl rfl (by rw [hg14_9]; rfl)) (x_move (tmB rfl rfl)) ?_
    refine gs_wl (tm (t := 94) rfl) (fun hg14_12 => ?_) (fun hg14_12 => ?_)
    · have hg14_12' := hg14_12; (try simp only [nrm] at hg14_12')
      refine wl_gv (want_y rfl rfl rfl rfl (by rw [hg14_12]; rfl)) (x_fa 3 Try.underlying46 rfl rfl ts_29 (tmP rfl rfl)) ?_
      refine wl_gv (want_y rfl rfl rfl rfl (by rw [hg14_12]; rfl)) (x_fa 8 Try.underlying29 rfl rfl ts_5 (tmP rfl rfl)) ?_
      refine wl_gv (want_y rfl rfl rfl rfl (by rw [hg14_12]; rfl)) (x_load Try.underlying5 rfl (tmP rfl rfl) (cellB hS.ok 0 rfl rfl)) ?_
      refine wl_gv (want_y rfl rfl rfl rfl (by rw [hg14_12]; rfl)) (x_eql (tmI rfl rfl) (ev_cN 58)) ?_
      refine wl_gv (want_y rfl rfl rfl rfl (by rw [hg14_9]; rfl)) (x_pickT (tmB rfl rfl) hg14_12 (tmB rfl rfl)) ?_
      refine wl_v (x_pickF (tmB rfl rfl) hg14_9 (tmB rfl rfl)) ?_
      refine wl_v (x_assign (tmB rfl rfl)) ?_
      refine wl_nil ?_
      refine then_n (hK9 _ _ ?_); clear hK9 K9
      refine cnd (tm rfl) (fun hc3 => ?_) (fun hc3 => ?_)
      · exfalso
        exact hpr (.inr ⟨by have := of_decide_eq_true hc3; omega, by first | exact hg14_12' | exact hg14_3'⟩)
      try simp only [nrm] at hc3
      refine wp_seq_k ?_; intro K10 hK10
      refine wlit ?_
      refine wl_v (x_build (bc_skip (.bool false) <| bc_skip (.bool false) <| bc_skip (.int .u8 0) <| bc_skipL [.bool false, .int .u64 0, .int .u64 0, .bool false, .int .u64 0, .int .u64 0, .int .u16 0, .int .u16 0, .int .u8 0] <| bc_skipL [.int .u16 0, .int .u16 0, .int .u32 0, .int .u32 0, .int .u8 0, .int .u16 0, .int .u16 0, .int .u16 0, .slice none 0 0, .slice none 0 0] <| bc_skipL [.int .u16 0, .int .u16 0, .int .u16 0, .slice none 0 0] <| bc_skipL [.int .u8 0, .int .u8 0, .int .u16 0, .int .u32 0, .slice none 0 0] <| bc_nil) (by kernel_rfl)) ?_
      refine wl_e rfl ?_; intro K hK
      refine ow_storeA hS 2 rfl ts_46 (tmP rfl rfl) (tmA rfl rfl) rfl rfl rfl ?_
      clear hS; intro w hS
      try replace hS := St.nm (M' := [.blk _ _ [_, _, _, _, _, _, _, _, _, _, _, _, _, _, _, _, _, _, _, _, _, _, _, _, _, _, _, _, _, _, _], .vw _ _, .blk _ _ [_, _, _, _, _, _, _, _, _, _, _, _, _, _, _, _, _, _, _, _, _, _, _, _, _, _, _, _, _, _, _], .vw _ _]) hS rfl
      refine hK _ _ ?_; clear hK K
      refine wl_v (x_assign (ev_cN 6)) ?_
      refine wl_nil ?_
      refine then_n (hK10 _ _ ?_); clear hK10 K10
      refine wp_ret ?_
      refine inb_r ?_
      refine then_r ?_
      refine ret2 rfl (.cell rfl rfl (load_rowB (cs := [_, _, _, _, _, _, _, _, _, _, _, _, _, _, _, _, _, _, _, _, _, _, _, _, _, _, _, _, _, _, _]) hS.ok 2 rfl Try.underlying46 rfl ts_46 rfl)) (.tmp rfl (show _ = Value.int _ _ from rfl)) ?_
      have hz := GiP.z (w := w0) (w' := w)
      exact ⟨Pl.Z, rfl, Nat.zero_le _, hz.1, hz.2.1, hz.2.2.1, hz.2.2.2, hS.kp⟩
    have hg14_12' := hg14_12; (try simp only [nrm] at hg14_12')
    refine wl_s rfl (want_n rfl rfl rfl rfl (by rw [hg14_12]; rfl)) ?_
    refine wl_s rfl (want_n rfl rfl rfl rfl (by rw [hg14_12]; rfl)) ?_
    refine wl_s rfl (want_n rfl rfl rfl rfl (by rw [hg14_12]; rfl)) ?_
    refine wl_s rfl (want_n rfl rfl rfl rfl (by rw [hg14_12]; rfl)) ?_
    refine wl_gv (want_y rfl rfl rfl rfl (by rw [hg14_9]; rfl)) (x_pickF (tmB rfl rfl) hg14_12 ev_c) ?_
    refine wl_v (x_pickF (tmB rfl rfl) hg14_9 (tmB rfl rfl)) ?_
    refine wl_v (x_assign (tmB rfl rfl)) ?_
    refine wl_nil ?_
    refine then_n (hK9 _ _ ?_); clear hK9 K9
    refine cnd_f (tmB rfl rfl) rfl ?_
    refine wp_seq_k ?_; intro K12 hK12
    refine wlit ?_
    refine wl_v (x_build (bc_skip (.bool false) <| bc_skip (.bool false) <| bc_skip (.int .u8 0) <| bc_skipL [.bool false, .int .u64 0, .int .u64 0, .bool false, .int .u64 0, .int .u64 0, .int .u16 0, .int .u16 0, .int .u8 0] <| bc_skipL [.int .u16 0, .int .u16 0, .int .u32 0, .int .u32 0, .int .u8 0, .int .u16 0, .int .u16 0, .int .u16 0, .slice none 0 0, .slice none 0 0] <| bc_skipL [.int .u16 0, .int .u16 0, .int .u16 0, .slice none 0 0] <| bc_skipL [.int .u8 0, .int .u8 0, .int .u16 0, .int .u32 0, .slice none 0 0] <| bc_nil) (by kernel_rfl)) ?_
    refine wl_e rfl ?_; intro K hK
    refine ow_storeA hS 2 rfl ts_46 (tmP rfl rfl) (tmA rfl rfl) rfl rfl rfl ?_
    clear hS; intro w hS
    try replace hS := St.nm (M' := [.blk _ _ [_, _, _, _, _, _, _, _, _, _, _, _, _, _, _, _, _, _, _, _, _, _, _, _, _, _, _, _, _, _, _], .vw _ _, .blk _ _ [_, _, _, _, _, _, _, _, _, _, _, _, _, _, _, _, _, _, _, _, _, _, _, _, _, _, _, _, _, _, _], .vw _ _]) hS rfl
    refine hK _ _ ?_; clear hK K
    refine wl_v (x_assign (ev_cN 6)) ?_
    refine wl_nil ?_
    refine then_n (hK12 _ _ ?_); clear hK12 K12
    refine wp_ret ?_
    refine inb_r ?_
    refine then_r ?_
    refine ret2 rfl (.cell rfl rfl (load_rowB (cs := [_, _, _, _, _, _, _, _, _, _, _, _, _, _, _, _, _, _, _, _, _, _, _, _, _, _, _, _, _, _, _]) hS.ok 2 rfl Try.underlying46 rfl ts_46 rfl)) (.tmp rfl (show _ = Value.int _ _ from rfl)) ?_
    have hz := GiP.z (w := w0) (w' := w)
    exact ⟨Pl.Z, rfl, Nat.zero_le _, hz.1, hz.2.1, hz.2.2.1, hz.2.2.2, hS.kp⟩
  have hg14_3' := hg14_3; (try simp only [nrm] at hg14_3')
  refine wl_s rfl (want_n rfl rfl rfl rfl (by rw [hg14_3]; rfl)) ?_
  refine wl_s rfl (want_n rfl rfl rfl rfl (by rw [hg14_3]; rfl)) ?_
  refine wl_s rfl (want_n rfl rfl rfl rfl (by rw [hg14_3]; rfl)) ?_
  refine wl_s rfl (want_n rfl rfl rfl rfl (by rw [hg14_3]; rfl)) ?_
  refine wl_v (x_pickF (tmB rfl rfl) hg14_3 ev_c) ?_
  refine wl_v (x_move (tmB rfl rfl)) ?_
  refine wl_gv (want_y rfl rfl rfl rfl rfl) (x_fa 0 Try.underlying46 rfl rfl ts_4 (tmP rfl rfl)) ?_
  refine wl_gv (want_y rfl rfl rfl rfl rfl) (x_load Try.underlying4 rfl (tmP rfl rfl) (cellB hS.ok 0 rfl rfl)) ?_
  refine wl_gv (want_y rfl rfl rfl rfl rfl) (x_move (tmB rfl rfl)) ?_
  refine gs_wl (tm (t := 94) rfl) (fun hg14_12 => ?_) (fun hg14_12 => ?_)
  · have hg14_12' := hg14_12; (try simp only [nrm] at hg14_12')
    refine wl_gv (want_y rfl rfl rfl rfl (by rw [hg14_12]; rfl)) (x_fa 3 Try.underlying46 rfl rfl ts_29 (tmP rfl rfl)) ?_
    refine wl_gv (want_y rfl rfl rfl rfl (by rw [hg14_12]; rfl)) (x_fa 8 Try.underlying29 rfl rfl ts_5 (tmP rfl rfl)) ?_
    refine wl_gv (want_y rfl rfl rfl rfl (by rw [hg14_12]; rfl)) (x_load Try.underlying5 rfl (tmP rfl rfl) (cellB hS.ok 0 rfl rfl)) ?_
    refine wl_gv (want_y rfl rfl rfl rfl (by rw [hg14_12]; rfl)) (x_eql (tmI rfl rfl) (ev_cN 58)) ?_
    refine wl_gv (want_y rfl rfl rfl rfl rfl) (x_pickT (tmB rfl rfl) hg14_12 (tmB rfl rfl)) ?_
    refine wl_v (x_pickF (tmB rfl rfl) rfl (tmB rfl rfl)) ?_
    refine wl_v (x_assign (tmB rfl rfl)) ?_
    refine wl_nil ?_
    refine then_n (hK9 _ _ ?_); clear hK9 K9
    refine cnd (tm rfl) (fun hc3 => ?_) (fun hc3 => ?_)
    · exfalso
      exact hpr (.inr ⟨by have := of_decide_eq_true hc3; omega, by first | exact hg14_12' | exact hg14_3'⟩)
    try simp only [nrm] at hc3
    refine wp_seq_k ?_; intro K14 hK14
    refine wlit ?_
    refine wl_v (x_build (bc_skip (.bool false) <| bc_skip (.bool false) <| bc_skip (.int .u8 0) <| bc_skipL [.bool false, .int .u64 0, .int .u64 0, .bool false, .int .u64 0, .int .u64 0, .int .u16 0, .int .u16 0, .int .u8 0] <| bc_skipL [.int .u16 0, .int .u16 0, .int .u32 0, .int .u32 0, .int .u8 0, .int .u16 0, .int .u16 0, .int .u16 0, .slice none 0 0, .slice none 0 0] <| bc_skipL [.int .u16 0, .int .u16 0, .int .u16 0, .slice none 0 0] <| bc_skipL [.int .u8 0, .int .u8 0, .int .u16 0, .int .u32 0, .slice none 0 0] <| bc_nil) (by kernel_rfl)) ?_
    refine wl_e rfl ?_; intro K hK
    refine ow_storeA hS 2 rfl ts_46 (tmP rfl rfl) (tmA rfl rfl) rfl rfl rfl ?_
    clear hS; intro w hS
    try replace hS := St.nm (M' := [.blk _ _ [_, _, _, _, _, _, _, _, _, _, _, _, _, _, _, _, _, _, _, _, _, _, _, _, _, _, _, _, _, _, _], .vw _ _, .blk _ _ [_, _, _, _, _, _, _, _, _, _, _, _, _, _, _, _, _, _, _, _, _, _, _, _, _, _, _, _, _, _, _], .vw _ _]) hS rfl
    refine hK _ _ ?_; clear hK K
    refine wl_v (x_assign (ev_cN 6)) ?_
    refine wl_nil ?_
    refine then_n (hK14 _ _ ?_); clear hK14 K14
    refine wp_ret ?_
    refine inb_r ?_
    refine then_r ?_
    refine ret2 rfl (.cell rfl rfl (load_rowB (cs := [_, _, _, _, _, _, _, _, _, _, _, _, _, _, _, _, _, _, _, _, _, _, _, _, _, _, _, _, _, _, _]) hS.ok 2 rfl Try.underlying46 rfl ts_46 rfl)) (.tmp rfl (show _ = Value.int _ _ from rfl)) ?_
    have hz := GiP.z (w := w0) (w' := w)
    exact ⟨Pl.Z, rfl, Nat.zero_le _, hz.1, hz.2.1, hz.2.2.1, hz.2.2.2, hS.kp⟩
  have hg14_12' := hg14_12; (try simp only [nrm] at hg14_12')
  refine wl_s rfl (want_n rfl rfl rfl rfl (by rw [hg14_12]; rfl)) ?_
  refine wl_s rfl (want_n rfl rfl rfl rfl (by rw [hg14_12]; rfl)) ?_
  refine wl_s rfl (want_n rfl rfl rfl rfl (by rw [hg14_12]; rfl)) ?_
  refine wl_s rfl (want_n rfl rfl rfl rfl (by rw [hg14_12]; rfl)) ?_
  refine wl_gv (want_y rfl rfl rfl rfl rfl) (x_pickF (tmB rfl rfl) hg14_12 ev_c) ?_
  refine wl_v (x_pickF (tmB rfl rfl) rfl (tmB rfl rfl)) ?_
  refine wl_v (x_assign (tmB rfl rfl)) ?_
  refine wl_nil ?_
  refine then_n (hK9 _ _ ?_); clear hK9 K9
  refine cnd_f (tmB rfl rfl) rfl ?_
  refine wp_seq_k ?_; intro K16 hK16
  refine wlit ?_
  refine wl_v (x_build (bc_skip (.bool false) <| bc_skip (.bool false) <| bc_skip (.int .u8 0) <| bc_skipL [.bool false, .int .u64 0, .int .u64 0, .bool false, .int .u64 0, .int .u64 0, .int .u16 0, .int .u16 0, .int .u8 0] <| bc_skipL [.int .u16 0, .int .u16 0, .int .u32 0, .int .u32 0, .int .u8 0, .int .u16 0, .int .u16 0, .int .u16 0, .slice none 0 0, .slice none 0 0] <| bc_skipL [.int .u16 0, .int .u16 0, .int .u16 0, .slice none 0 0] <| bc_skipL [.int .u8 0, .int .u8 0, .int .u16 0, .int .u32 0, .slice none 0 0] <| bc_nil) (by kernel_rfl)) ?_
  refine wl_e rfl ?_; intro K hK
  refine ow_storeA hS 2 rfl ts_46 (tmP rfl rfl) (tmA rfl rfl) rfl rfl rfl ?_
  clear hS; intro w hS
  try replace hS := St.nm (M' := [.blk _ _ [_, _, _, _, _, _, _, _, _, _, _, _, _, _, _, _, _, _, _, _, _, _, _, _, _, _, _, _, _, _, _], .vw _ _, .blk _ _ [_, _, _, _, _, _, _, _, _, _, _, _, _, _, _, _, _, _, _, _, _, _, _, _, _, _, _, _, _, _, _], .vw _ _]) hS rfl
  refine hK _ _ ?_; clear hK K
  refine wl_v (x_assign (ev_cN 6)) ?_
  refine wl_nil ?_
  refine then_n (hK16 _ _ ?_); clear hK16 K16
  refine wp_ret ?_
  refine inb_r ?_
  refine then_r ?_
  refine ret2 rfl (.cell rfl rfl (load_rowB (cs := [_, _, _, _, _, _, _, _, _, _, _, _, _, _, _, _, _, _, _, _, _, _, _, _, _, _, _, _, _, _, _]) hS.ok 2 rfl Try.underlying46 rfl ts_46 rfl)) (.tmp rfl (show _ = Value.int _ _ from rfl)) ?_
  have hz := GiP.z (w := w0) (w' := w)
  exact ⟨Pl.Z, rfl, Nat.zero_le _, hz.1, hz.2.1, hz.2.2.1, hz.2.2.2, hS.kp⟩
set_option maxRecDepth 100000 in
set_option maxHeartbeats 8000000 in
theorem rread_c (l : List Nat) (i : Inf) (x : List Nat) (why : Int) (hi_ : Inf) (hw : Int) (hH : HdP 21 l i x why) (hG : GiP 22 [] l hi_ hw) (ri : Inf) (rw_ : Int) (h1 : why = 0 → i.ttl ≤ 1 → ri = Inf.Z ∧ rw_ = 5) (h2 : ¬ (why = 0 ∧ i.ttl ≤ 1) → ri = hi_ ∧ rw_ = hw) :
    GiP 8 [] l ri rw_ := fun w0 A c hv hc => by
  have hS := (St.sv w0).vcons rfl hv
  refine ent (n := 25) Try.func8 rfl rfl ?_
  refine wp_seq_k ?_; intro K1 hK1
  refine wlit ?_
  refine wl_e rfl ?_; intro K hK
  refine ow_alloc hS tz_46 rfl ?_
  clear hS; intro g0_0 w hg0_0 hS
  refine hK _ _ ?_; clear hK K
  refine wl_v (x_assign (ev_cN 0)) ?_
  refine wl_nil ?_
  refine then_n (hK1 _ _ ?_); clear hK1 K1
  refine wp_seq_k ?_; intro K2 hK2
  refine wlit ?_
  refine wl_v (x_move (tmS rfl rfl)) ?_
  refine wl_e rfl ?_; intro K hK
  refine ow_call Try.func21 rfl rfl (evs_cons (tmS rfl rfl) <| evs_nil) (hH _ A c (viewV hS.ok 1 rfl) hc) ?_
  rintro e w ⟨i0, x0, L, cl, hi, hcl, rfl, hn, hk⟩
  refine ⟨_, rfl, ?_⟩
  replace hS := hS.addn hk hn -- +vx
  clear hn hk
  refine hK _ _ ?_; clear hK K
  refine wl_v (x_move (tmT rfl rfl)) ?_
  refine wl_v (x_ext (tmT rfl rfl) rfl) ?_
  refine wl_v (x_ext (tmT rfl rfl) rfl) ?_
  refine wl_v (x_ext (tmT rfl rfl) rfl) ?_
  refine wl_e rfl ?_; intro K hK
  refine ow_alloc hS tz_46 rfl ?_
  clear hS; intro g1_6 w hg1_6 hS
  refine hK _ _ ?_; clear hK K
  refine wl_e rfl ?_; intro K hK
  refine ow_storeA hS 0 rfl ts_46 (tmP rfl rfl) (tmA rfl rfl) rfl rfl rfl ?_
  clear hS; intro w hS
  try replace hS := St.nm (M' := [.blk _ _ [_, _, _, _, _, _, _, _, _, _, _, _, _, _, _, _, _, _, _, _, _, _, _, _, _, _, _, _, _, _, _], .vw _ _, .blk _ _ [_, _, _, _, _, _, _, _, _, _, _, _, _, _, _, _, _, _, _, _, _, _, _, _, _, _, _, _, _, _, _], .vw _ _]) hS rfl
  refine hK _ _ ?_; clear hK K
  refine wl_v (x_assign (tmS rfl rfl)) ?_
  refine wl_v (x_assign (tmI rfl rfl)) ?_
  refine wl_nil ?_
  refine then_n (hK2 _ _ ?_); clear hK2 K2
  refine wp_seq_k ?_; intro K3 hK3
  refine wp_seq_k ?_; intro K4 hK4
  refine wlit ?_
  refine wl_v (x_move (tmI rfl rfl)) ?_
  refine wl_v (x_eql (tmI rfl rfl) (ev_cN 0)) ?_
  refine wl_v (x_move (tmB rfl rfl)) ?_
  refine gs_wl (tm (t := 15) rfl) (fun hg2_2 => ?_) (fun hg2_2 => ?_)
  · have hg2_2' := hg2_2; (try simp only [nrm] at hg2_2')
    refine wl_gv (want_y rfl rfl rfl rfl (by rw [hg2_2]; rfl)) (x_fa 2 Try.underlying46 rfl rfl ts_5 (tmP rfl rfl)) ?_
    refine wl_gv (want_y rfl rfl rfl rfl (by rw [hg2_2]; rfl)) (x_load Try.underlying5 rfl (tmP rfl rfl) (cellB hS.ok 0 rfl rfl)) ?_
    refine wl_gv (want_y rfl rfl rfl rfl (by rw [hg2_2]; rfl)) (x_leq (tmI rfl rfl) (ev_cN 1)) ?_
    refine wl_v (x_pickT (tmB rfl rfl) hg2_2 (tmB rfl rfl)) ?_
    refine wl_nil ?_
    refine then_n (hK4 _ _ ?_); clear hK4 K4
    refine cnd (tm rfl) (fun hc0 => ?_) (fun hc0 => ?_)
    · skip
      try simp only [nrm] at hc0
      refine wp_seq_k ?_; intro K5 hK5
      refine wlit ?_
      refine wl_v (x_build (bc_skip (.bool false) <| bc_skip (.bool false) <| bc_skip (.int .u8 0) <| bc_skipL [.bool false, .int .u64 0, .int .u64 0, .bool false, .int .u64 0, .int .u64 0, .int .u16 0, .int .u16 0, .int .u8 0] <| bc_skipL [.int .u16 0, .int .u16 0, .int .u32 0, .int .u32 0, .int .u8 0, .int .u16 0, .int .u16 0, .int .u16 0, .slice none 0 0, .slice none 0 0] <| bc_skipL [.int .u16 0, .int .u16 0, .int .u16 0, .slice none 0 0] <| bc_skipL [.int .u8 0, .int .u8 0, .int .u16 0, .int .u32 0, .slice none 0 0] <| bc_nil) (by kernel_rfl)) ?_
      refine wl_e rfl ?_; intro K hK
      refine ow_storeA hS 2 rfl ts_46 (tmP rfl rfl) (tmA rfl rfl) rfl rfl rfl ?_
      clear hS; intro w hS
      try replace hS := St.nm (M' := [.blk _ _ [_, _, _, _, _, _, _, _, _, _, _, _, _, _, _, _, _, _, _, _, _, _, _, _, _, _, _, _, _, _, _], .vw _ _, .blk _ _ [_, _, _, _, _, _, _, _, _, _, _, _, _, _, _, _, _, _, _, _, _, _, _, _, _, _, _, _, _, _, _], .vw _ _]) hS rfl
      refine hK _ _ ?_; clear hK K
      refine wl_v (x_assign (ev_cN 5)) ?_
      refine wl_nil ?_
      refine then_n (hK5 _ _ ?_); clear hK5 K5
      refine wp_ret ?_
      refine then_r ?_
      refine ret2 rfl (.cell rfl rfl (load_rowB (cs := [_, _, _, _, _, _, _, _, _, _, _, _, _, _, _, _, _, _, _, _, _, _, _, _, _, _, _, _, _, _, _]) hS.ok 2 rfl Try.underlying46 rfl ts_46 rfl)) (.tmp rfl (show _ = Value.int _ _ from rfl)) ?_
      have hz := GiP.z (w := w0) (w' := w)
      first
        | (have hy : why = 0 := by first | omega | (simp at hg2_2; omega)
           obtain ⟨rfl, rfl⟩ := h1 hy (by rw [← (hi hy).1]; first | omega | (simp at hc0; omega))
           exact ⟨Pl.Z, rfl, Nat.zero_le _, hz.1, hz.2.1, hz.2.2.1, hz.2.2.2, hS.kp⟩)
        | (obtain ⟨rfl, rfl⟩ := h2 (fun h => by
             have := (hi h.1).1
             subst this
             first | omega | (simp at hc0; omega) | (simp at hg2_2; omega))
           exact ⟨p, rfl, hco, ⟨viewV hS.ok (no_label_v1) rfl, m1⟩, ⟨viewV hS.ok (no_label_v2) rfl, m2⟩, ⟨viewV hS.ok (no_label_v3) rfl, m3⟩, ⟨viewV hS.ok (no_label_v4) rfl, m4⟩, hS.kp⟩)
    try simp only [nrm] at hc0
    refine wp_skip ?_
    refine then_n (hK3 _ _ ?_); clear hK3 K3
    refine wp_seq_k ?_; intro K7 hK7
    refine wlit ?_
    refine wl_v (x_move (tmS rfl rfl)) ?_
    refine wl_e rfl ?_; intro K hK
    refine ow_call Try.func22 rfl rfl (evs_cons (tmS rfl rfl) <| evs_nil) (hG _ A c (viewV hS.ok 3 rfl) hc) ?_
    rintro e w ⟨p, rfl, hco, n1, n2, n3, n4, hk⟩
    refine ⟨_, rfl, ?_⟩
    have m1 := n1.newb hS
    have m2 := n2.newb hS
    have m3 := n3.newb hS
    have m4 := n4.newb hS
    replace hS := (hS.addn4 hk n1 n2 n3 n4) -- +v1,v2,v3,v4
    clear hk n1 n2 n3 n4
    refine hK _ _ ?_; clear hK K
    refine wl_v (x_ext (tmT rfl rfl) rfl) ?_
    refine wl_v (x_ext (tmT rfl rfl) rfl) ?_
    refine wl_e rfl ?_; intro K hK
    refine ow_storeA hS 6 rfl ts_46 (tmP rfl rfl) (tmA rfl rfl) rfl rfl rfl ?_
    clear hS; intro w hS
    try replace hS := St.nm (M' := [.vw _ _, .vw _ _, .vw _ _, .vw _ _, .blk _ _ [_, _, _, _, _, _, _, _, _, _, _, _, _, _, _, _, _, _, _, _, _, _, _, _, _, _, _, _, _, _, _], .vw _ _, .blk _ _ [_, _, _, _, _, _, _, _, _, _, _, _, _, _, _, _, _, _, _, _, _, _, _, _, _, _, _, _, _, _, _], .vw _ _]) hS rfl
    refine hK _ _ ?_; clear hK K
    refine wl_v (x_assign (tmI rfl rfl)) ?_
    refine wl_nil ?_
    refine then_n (hK7 _ _ ?_); clear hK7 K7
    refine wp_ret ?_
    refine ret2 rfl (.cell rfl rfl (load_rowB (cs := [_, _, _, _, _, _, _, _, _, _, _, _, _, _, _, _, _, _, _, _, _, _, _, _, _, _, _, _, _, _, _]) hS.ok 6 rfl Try.underlying46 rfl ts_46 rfl)) (.tmp rfl (show _ = Value.int _ _ from rfl)) ?_
    have hz := GiP.z (w := w0) (w' := w)
    first
      | (have hy : why = 0 := by first | omega | (simp at hg2_2; omega)
         obtain ⟨rfl, rfl⟩ := h1 hy (by rw [← (hi hy).1]; first | omega | (simp at hc0; omega))
         exact ⟨Pl.Z, rfl, Nat.zero_le _, hz.1, hz.2.1, hz.2.2.1, hz.2.2.2, hS.kp⟩)
      | (obtain ⟨rfl, rfl⟩ := h2 (fun h => by
           have := (hi h.1).1
           subst this
           first | omega | (simp at hc0; omega) | (simp at hg2_2; omega))
         exact ⟨p, rfl, hco, ⟨viewV hS.ok 0 rfl, m1⟩, ⟨viewV hS.ok 1 rfl, m2⟩, ⟨viewV hS.ok 2 rfl, m3⟩, ⟨viewV hS.ok 3 rfl, m4⟩, hS.kp⟩)
  have hg2_2' := hg2_2; (try simp only [nrm] at hg2_2')
  refine wl_s rfl (want_n rfl rfl rfl rfl (by rw [hg2_2]; rfl)) ?_
  refine wl_s rfl (want_n rfl rfl rfl rfl (by rw [hg2_2]; rfl)) ?_
  refine wl_s rfl (want_n rfl rfl rfl rfl (by rw [hg2_2]; rfl)) ?_
  refine wl_v (x_pickF (tmB rfl rfl) hg2_2 ev_c) ?_
  refine wl_nil ?_
  refine then_n (hK4 _ _ ?_); clear hK4 K4
  refine cnd_f (tmB rfl rfl) rfl ?_
  refine wp_skip ?_
  refine then_n (hK3 _ _ ?_); clear hK3 K3
  refine wp_seq_k ?_; intro K9 hK9
  refine wlit ?_
  refine wl_v (x_move (tmS rfl rfl)) ?_
  refine wl_e rfl ?_; intro K hK
  refine ow_call Try.func22 rfl rfl (evs_cons (tmS rfl rfl) <| evs_nil) (hG _ A c (viewV hS.ok 3 rfl) hc) ?_
  rintro e w ⟨p, rfl, hco, n1, n2, n3, n4, hk⟩
  refine ⟨_, rfl, ?_⟩
  have m1 := n1.newb hS
  have m2 := n2.newb hS
  have m3 := n3.newb hS
  have m4 := n4.newb hS
  replace hS := (hS.addn4 hk n1 n2 n3 n4) -- +v1,v2,v3,v4
  clear hk n1 n2 n3 n4
  refine hK _ _ ?_; clear hK K
  refine wl_v (x_ext (tmT rfl rfl) rfl) ?_
  refine wl_v (x_ext (tmT rfl rfl) rfl) ?_
  refine wl_e rfl ?_; intro K hK
  refine ow_storeA hS 6 rfl ts_46 (tmP rfl rfl) (tmA rfl rfl) rfl rfl rfl ?_
  clear hS; intro w hS
  try replace hS := St.nm (M' := [.vw _ _, .vw _ _, .vw _ _, .vw _ _, .blk _ _ [_, _, _, _, _, _, _, _, _, _, _, _, _, _, _, _, _, _, _, _, _, _, _, _, _, _, _, _, _, _, _], .vw _ _, .blk _ _ [_, _, _, _, _, _, _, _, _, _, _, _, _, _, _, _, _, _, _, _, _, _, _, _, _, _, _, _, _, _, _], .vw _ _]) hS rfl
  refine hK _ _ ?_; clear hK K
  refine wl_v (x_assign (tmI rfl rfl)) ?_
  refine wl_nil ?_
  refine then_n (hK9 _ _ ?_); clear hK9 K9
  refine wp_ret ?_
  refine ret2 rfl (.cell rfl rfl (load_rowB (cs := [_, _, _, _, _, _, _, _, _, _, _, _, _, _, _, _, _, _, _, _, _, _, _, _, _, _, _, _, _, _, _]) hS.ok 6 rfl Try.underlying46 rfl ts_46 rfl)) (.tmp rfl (show _ = Value.int _ _ from rfl)) ?_
  have hz := GiP.z (w := w0) (w' := w)
  first
    | (have hy : why = 0 := by first | omega | (simp at hg2_2; omega)
       obtain ⟨rfl, rfl⟩ := h1 hy (by rw [← (hi hy).1]; first | omega | (simp at hc0; omega))
       exact ⟨Pl.Z, rfl, Nat.zero_le _, hz.1, hz.2.1, hz.2.2.1, hz.2.2.2, hS.kp⟩)
    | (obtain ⟨rfl, rfl⟩ := h2 (fun h => by
         have := (hi h.1).1
         subst this
         first | omega | (simp at hc0; omega) | (simp at hg2_2; omega))
       exact ⟨p, rfl, hco, ⟨viewV hS.ok 0 rfl, m1⟩, ⟨viewV hS.ok 1 rfl, m2⟩, ⟨viewV hS.ok 2 rfl, m3⟩, ⟨viewV hS.ok 3 rfl, m4⟩, hS.kp⟩)
def Inf.ok (i : Inf) : Prop := i.T.ok ∧ i.D.ok ∧ i.I.ok
theorem Inf.Z_ok : Inf.Z.ok := ⟨Sg.Z_ok, Dg.Z_ok, Mg.Z_ok⟩
theorem chk_z {er : Nat} {f : Bool} (h : chk (er : Int) f = 0) : er = 0 := by
  by_cases h0 : er = 0
  · exact h0
  · rw [chk_bad h0] at h
    exact absurd h (pkOf_ne h0)
/-- What a packet that is fine says of its load. -/
def CarX (i : Inf) (x : List Nat) (i' : Inf) : Prop := i'.six = i.six ∧ i'.s = i.s ∧ i'.d = i.d ∧ i'.pr = i.pr ∧
  ((i.pr = 6 ∧ topts x = some i'.T.o ∧ i'.sp = getN x 0 2 ∧ i'.dp = getN x 2 2 ∧ 20 ≤ x.length) ∨ (i.pr = 17 ∧ i'.T.o = [] ∧ i'.sp = getN x 0 2 ∧ i'.dp = getN x 2 2 ∧ 8 ≤ x.length))
theorem car_ex (l : List Nat) (i : Inf) (hT : i.T = Sg.Z) (hD : i.D = Dg.Z) (hI : i.I = Mg.Z) (x : List Nat) (hb : Bytes x) (hx : x.length ≤ 3000) (h6 : i.s.six = i.d.six) (hls : adLim i.s) (hld : adLim i.d) :
    ∃ i' why2, i'.ok ∧ (why2 = 0 → i'.pr = 6 ∨ i'.pr = 17 → CarX i x i') ∧ CarP i x i' why2 ∧ (HdP 21 l i x 0 → GiP 22 [] l (finI i' why2) why2) := by
  have okT : i.T.ok := by rw [hT]; exact Sg.Z_ok
  have okD : i.D.ok := by rw [hD]; exact Dg.Z_ok
  have okI : i.I.ok := by rw [hI]; exact Mg.Z_ok
  by_cases p6 : i.pr = 6
  · obtain ⟨t, er, ht, her, hx1, _, hP1, hP2⟩ := pt_ex x hb hx
    refine ⟨_, _, ?_, ?_, carry_tcp i hT hD hI x t er p6 hb hx h6 hls hld hP1, fun hH => ?_⟩
    · exact ⟨ht, okD, okI⟩
    · exact fun h _ => ⟨rfl, rfl, rfl, rfl, .inl ⟨p6, (hx1 (chk_z h)).1, (hx1 (chk_z h)).2.1, (hx1 (chk_z h)).2.2.1, (hx1 (chk_z h)).2.2.2⟩⟩
    · exact rhost_tcp l i hT hD hI x t er p6 hb hx h6 hls hld hH hP2 _ rfl
  · by_cases p17 : i.pr = 17
    · obtain ⟨t, er, ht, her, hx1, hP1, hP2⟩ := pu_ex x hb hx
      refine ⟨_, _, ?_, ?_, carry_udp i hT hD hI x t er p17 hx h6 hls hld ht hP1, fun hH => ?_⟩
      · exact ⟨okT, ht, okI⟩
      · exact fun h _ => ⟨rfl, rfl, rfl, rfl, .inr ⟨p17, by rw [hT]; rfl, (hx1 (chk_z h)).2.1, (hx1 (chk_z h)).2.2, (hx1 (chk_z h)).1⟩⟩
      · exact rhost_udp l i hT hD hI x t er p17 hx h6 hls hld ht hH hP2 _ rfl
    · by_cases q : (i.pr = 1 ∧ i.six = false) ∨ (i.pr = 58 ∧ i.six = true)
      · obtain ⟨t, er, ht, her, hP1, hP2⟩ := pm_ex x hb hx
        refine ⟨_, _, ?_, ?_, carry_icmp i hT hD hI x t er q hx h6 hls hld ht hP1, fun hH => ?_⟩
        · exact ⟨okT, okD, ht⟩
        · exact fun _ h => absurd h (by show ¬ (i.pr = 6 ∨ i.pr = 17); omega)
        · exact rhost_icmp l i hT hD hI x t er her q hx h6 hls hld ht hH hP2 _ rfl
      · exact ⟨i, 6, ⟨okT, okD, okI⟩, fun h => absurd h (by decide), carry_none i hT hD hI x p6 p17 q, fun hH => rhost_none l i x p6 p17 q hH⟩
/-- Both sides' Read of the same bytes answer the same, and what it says. -/
theorem whole_ex (l : List Nat) (hb : Bytes l) (hn : l.length ≤ 3000) : ∃ (ri : Inf) (rw_ : Int), ri.ok ∧ (rw_ = 0 → ri.pr = 6 ∨ ri.pr = 17 → ∃ i x, Xpl i.six l i.s i.d i.pr x ∧ CarX i x ri) ∧ GiP 9 [] l ri rw_ ∧ GiP 8 [] l ri rw_ := by
  obtain ⟨six, stay, ttl, s, d, pr, x, why, q1, q2, q3, q4, q5, q6, q7, qx, hH1, hH2⟩ := hdr_ex l hb hn
  obtain ⟨i, hi⟩ : ∃ i, i = mkI six stay ttl s d pr := ⟨_, rfl⟩
  obtain ⟨i', why2, hok, hcx, hC, hG⟩ := car_ex l (mkI six stay ttl s d pr) rfl rfl rfl x q6 q7 q3 q4 q5
  have hX : why = 0 → Xpl i.six l i.s i.d i.pr x := by rw [hi]; exact qx
  have r2 := pRead_c l _ _ (pread_c 2 l _ i' x why why2 hH1 hC)
  rw [← hi] at hH2 hG r2 hcx
  by_cases h0 : why = 0
  · subst h0
    have g0 := hG hH2
    have hfok : (finI i' why2).ok := by unfold finI; split; exact Inf.Z_ok; exact hok
    by_cases ht : i.ttl < 2
    · obtain ⟨e1, e2⟩ := out2 (least := 2) (i := i) (i' := i') (why := 0) (why2 := why2) rfl ht
      rw [e1, e2] at r2
      exact ⟨Inf.Z, 5, Inf.Z_ok, fun h => absurd h (by decide), r2, rread_c l i x 0 _ _ hH2 g0 _ _ (fun _ _ => ⟨rfl, rfl⟩) (fun h => absurd ⟨rfl, by omega⟩ h)⟩
    · have e2 : outI 2 i i' 0 why2 = finI i' why2 ∧ outW 2 i 0 why2 = why2 := by
        refine ⟨?_, ?_⟩
        · show (if (0 : Int) ≠ 0 then _ else _) = _
          rw [if_neg (by decide), if_neg ht]; rfl
        · show (if (0 : Int) ≠ 0 then _ else _) = _
          rw [if_neg (by decide), if_neg ht]
      rw [e2.1, e2.2] at r2
      refine ⟨_, _, hfok, fun h hp => ⟨i, x, hX rfl, ?_⟩, r2, rread_c l i x 0 _ _ hH2 g0 _ _ (fun _ h => absurd h (by omega)) (fun _ => ⟨rfl, rfl⟩)⟩
      have ef : finI i' why2 = i' := if_neg (by rw [h]; decide)
      rw [ef] at hp ⊢
      exact hcx h hp
  · obtain ⟨e1, e2⟩ := out1 (least := 2) (i := i) (i' := i') (why2 := why2) h0
    rw [e1, e2] at r2
    have g0 := rhost_bad l i x why h0 hH2
    exact ⟨_, _, Inf.Z_ok, fun h => absurd h h0, r2, rread_c l i x why _ _ hH2 g0 _ _ (fun h _ => absurd h h0) (fun _ => ⟨rfl, rfl⟩)⟩
end Go.Proofs.Ytcobjneobdihkaa
/- steer: Read of both sides, by contract. Conditions: none but bounds. -/
namespace Go.Proofs.Ytcobjneobdihkaa
open Go.ChangeShapes Go.WideShapes Go.ChangeAt Go.RowKit
/-- What Read answers. -/
def ReadS (fn : Nat) (six : Bool) (l : List Nat) (q : List Value) (ok : Bool) : Prop := ∀ (w : World) (A : Option Addr) (c : Nat), View w w.heap.size A (l.map u8v) → l.length ≤ c →
  Calls Try.prog fn #[.slice A l.length c, .bool six] w fun e w' => e = .returned (.tuple #[.agg q.toArray, .bool ok]) ∧ Kp [] w w'
theorem getN_drop (l : List Nat) (q p k : Nat) : getN (l.drop q) p k = getN l (q + p) k := by unfold getN; rw [List.drop_drop]
set_option maxRecDepth 100000 in
set_option maxHeartbeats 8000000 in
theorem sread4_tcp (l : List Nat) (hb : Bytes l) (hn : l.length ≤ 3000) (s d : Ad) (sz : Nat) (hH : HdS 12 l s d 6 sz) (h8 : sz + 8 ≤ l.length) (o : List Nat) (er : Nat) (hob : Bytes o) (ho : o.length ≤ 3000) (hP : PTo 33 (l.drop sz) o er) :
    ReadS 6 false l (quV s d (getN l sz 2) (getN l (sz + 2) 2) 6 (stVal o er) (stHas o er)) true := fun w0 A c hv hc => by
  have hS := (St.sv w0).vcons rfl hv
  have hlx : (l.drop sz).length = l.length - sz := List.length_drop
  have hbx : Bytes (l.drop sz) := hb.drop sz
  refine ent (n := 54) Try.func6 rfl rfl ?_
  refine wp_seq_k ?_; intro K1 hK1
  refine wlit ?_
  refine wl_e rfl ?_; intro K hK
  refine ow_alloc hS tz_32 rfl ?_
  clear hS; intro g0_0 w hg0_0 hS
  refine hK _ _ ?_; clear hK K
  refine wl_v (x_assign ev_c) ?_
  refine wl_nil ?_
  refine then_n (hK1 _ _ ?_); clear hK1 K1
  refine wp_seq_k ?_; intro K2 hK2
  refine wlit ?_
  refine wl_v (x_assign rfl) ?_
  refine wl_nil ?_
  refine then_n (hK2 _ _ ?_); clear hK2 K2
  refine wp_seq_k ?_; intro K3 hK3
  refine wp_seq_k ?_; intro K4 hK4
  refine wlit ?_
  refine wl_v (x_move (tmB rfl rfl)) ?_
  refine wl_nil ?_
  refine then_n (hK4 _ _ ?_); clear hK4 K4
  refine cnd (tm rfl) (fun hc0 => ?_) (fun hc0 => ?_)
  · exfalso
    simp at hc0
  try simp only [nrm] at hc0
  refine wp_skip ?_
  refine then_n (hK3 _ _ ?_); clear hK3 K3
  refine wp_seq_k ?_; intro K5 hK5
  refine wlit ?_
  refine wl_v (x_move (tm rfl)) ?_
  refine wl_v (x_move (tmS rfl rfl)) ?_
  refine wl_e rfl ?_; intro K hK
  refine ow_dyn (tm rfl) Try.func12 rfl rfl (evs_cons (tmS rfl rfl) <| evs_nil) (hH _ A c (viewV hS.ok 1 rfl) hc) ?_
  rintro e w ⟨rfl, hk⟩
  refine ⟨_, rfl, ?_⟩
  replace hS := hS.kept hk
  replace hS := hS.dropb 1 sz rfl hc -- +vx
  clear hk
  refine hK _ _ ?_; clear hK K
  refine wl_v (x_move (tmT rfl rfl)) ?_
  refine wl_v (x_ext (tmT rfl rfl) rfl) ?_
  refine wl_v (x_ext (tmT rfl rfl) rfl) ?_
  refine wl_v (x_ext (tmT rfl rfl) rfl) ?_
  refine wl_e rfl ?_; intro K hK
  refine ow_alloc hS tz_29 rfl ?_
  clear hS; intro g4_7 w hg4_7 hS
  refine hK _ _ ?_; clear hK K
  refine wl_e rfl ?_; intro K hK
  refine ow_storeA hS 0 rfl ts_29 (tmP rfl rfl) (tmA rfl rfl) rfl rfl rfl ?_
  clear hS; intro w hS
  try replace hS := St.nm (M' := [.blk _ _ [_, _, _, _, _, _, _, _, _], .vw _ _, .blk _ _ [_, _, _, _, _, _, _, _, _, _, _], .vw _ _]) hS rfl
  refine hK _ _ ?_; clear hK K
  refine wl_v (x_assign (tmS rfl rfl)) ?_
  refine wl_v (x_assign (tmB rfl rfl)) ?_
  refine wl_nil ?_
  refine then_n (hK5 _ _ ?_); clear hK5 K5
  refine wp_seq_k ?_; intro K6 hK6
  refine wp_seq_k ?_; intro K7 hK7
  refine wlit ?_
  refine wl_v (x_move (tmB rfl rfl)) ?_
  refine wl_v (x_not (tmB rfl rfl)) ?_
  refine wl_v (x_move (tmB rfl rfl)) ?_
  refine gs_wl (tm (t := 22) rfl) (fun hg5_2 => ?_) (fun hg5_2 => ?_)
  · exfalso
    simp at hg5_2
  have hg5_2' := hg5_2; (try simp only [nrm] at hg5_2')
  refine wl_gv (want_y rfl rfl rfl rfl (by rw [hg5_2]; rfl)) (x_fa 8 Try.underlying29 rfl rfl ts_5 (tmP rfl rfl)) ?_
  refine wl_gv (want_y rfl rfl rfl rfl (by rw [hg5_2]; rfl)) (x_load Try.underlying5 rfl (tmP rfl rfl) (cellB hS.ok 0 rfl rfl)) ?_
  refine wl_gv (want_y rfl rfl rfl rfl (by rw [hg5_2]; rfl)) (x_neq (tmI rfl rfl) (ev_cN 6)) ?_
  refine wl_gv (want_y rfl rfl rfl rfl (by rw [hg5_2]; rfl)) (x_move (tmB rfl rfl)) ?_
  refine gs_wl (tm (t := 26) rfl) (fun hg5_6 => ?_) (fun hg5_6 => ?_)
  · exfalso
    simp at hg5_6
  have hg5_6' := hg5_6; (try simp only [nrm] at hg5_6')
  refine wl_s rfl (want_n rfl rfl rfl rfl (by rw [hg5_6]; rfl)) ?_
  refine wl_s rfl (want_n rfl rfl rfl rfl (by rw [hg5_6]; rfl)) ?_
  refine wl_s rfl (want_n rfl rfl rfl rfl (by rw [hg5_6]; rfl)) ?_
  refine wl_gv (want_y rfl rfl rfl rfl (by rw [hg5_2]; rfl)) (x_pickF (tmB rfl rfl) hg5_6 ev_c) ?_
  refine wl_v (x_pickF (tmB rfl rfl) hg5_2 (tmB rfl rfl)) ?_
  refine wl_nil ?_
  refine then_n (hK7 _ _ ?_); clear hK7 K7
  refine cnd_f (tmB rfl rfl) rfl ?_
  refine wp_skip ?_
  refine then_n (hK6 _ _ ?_); clear hK6 K6
  refine wp_seq_k ?_; intro K8 hK8
  refine wlit ?_
  refine wl_v (x_move (tmS rfl rfl)) ?_
  refine wl_e rfl ?_; intro K hK
  refine ow_call Try.func14 rfl rfl (evs_cons (tmS rfl rfl) <| evs_nil) (read_c (l.length - sz) _ (c - sz) (l.drop sz) _ (viewV hS.ok 1 rfl) hlx (by omega)) ?_
  rintro e w ⟨gr, A0, rfl, hS2⟩
  refine ⟨_, rfl, ?_⟩
  replace hS := hS.adds hS2 rfl -- +gr,rowb
  clear hS2
  have hA : Off A0 0 (l.length - sz) A0 := off_zero
  have hcp : l.length - sz - 0 ≤ l.length - sz := by omega
  refine hK _ _ ?_; clear hK K
  refine wl_v (x_assign (tmP rfl rfl)) ?_
  refine wl_nil ?_
  refine then_n (hK8 _ _ ?_); clear hK8 K8
  refine wp_seq_k ?_; intro K9 hK9
  refine wlit ?_
  refine wl_v (x_move (tmP rfl rfl)) ?_
  refine wl_e rfl ?_; intro K hK
  refine ow_call Try.func15 rfl rfl (evs_cons (tmP rfl rfl) <| evs_nil) (word_c gr A0 _ _ (l.length - sz) _ (l.drop sz) false _ _ (hS.enter [0] [1] rfl rfl) hA (by omega) hcp hlx hbx) ?_
  rintro e w ⟨A1, c1, rfl, hS2, hA, hcp⟩
  refine ⟨_, rfl, ?_⟩
  replace hS := hS.turn 0 rfl rfl hS2 rfl
  clear hS2
  try replace hS := St.nm (M' := [_, .row _ _ _ _ _, .blk _ _ [_, _, _, _, _, _, _, _, _], .vw _ _, .blk _ _ [_, _, _, _, _, _, _, _, _, _, _], .vw _ _]) hS rfl
  refine hK _ _ ?_; clear hK K
  refine wl_v (x_move (tmP rfl rfl)) ?_
  refine wl_e rfl ?_; intro K hK
  refine ow_call Try.func15 rfl rfl (evs_cons (tmP rfl rfl) <| evs_nil) (word_c gr A0 _ _ (l.length - sz) _ (l.drop sz) false _ _ (hS.enter [0] [1] rfl rfl) hA (by omega) hcp hlx hbx) ?_
  rintro e w ⟨A1, c1, rfl, hS2, hA, hcp⟩
  refine ⟨_, rfl, ?_⟩
  replace hS := hS.turn 0 rfl rfl hS2 rfl
  clear hS2
  try replace hS := St.nm (M' := [_, .row _ _ _ _ _, .blk _ _ [_, _, _, _, _, _, _, _, _], .vw _ _, .blk _ _ [_, _, _, _, _, _, _, _, _, _, _], .vw _ _]) hS rfl
  refine hK _ _ ?_; clear hK K
  refine wl_v (x_fa 6 Try.underlying29 rfl rfl ts_27 (tmP rfl rfl)) ?_
  refine wl_e rfl ?_; intro K hK
  refine ow_store hS 2 rfl ts_27 (tmP rfl rfl) (tmI rfl rfl) rfl rfl ?_
  clear hS; intro w hS
  try replace hS := St.nm (M' := [_, .row _ _ _ _ _, .blk _ _ [_, _, _, _, _, _, _, _, _], .vw _ _, .blk _ _ [_, _, _, _, _, _, _, _, _, _, _], .vw _ _]) hS rfl
  refine hK _ _ ?_; clear hK K
  refine wl_v (x_fa 7 Try.underlying29 rfl rfl ts_27 (tmP rfl rfl)) ?_
  refine wl_e rfl ?_; intro K hK
  refine ow_store hS 2 rfl ts_27 (tmP rfl rfl) (tmI rfl rfl) rfl rfl ?_
  clear hS; intro w hS
  try replace hS := St.nm (M' := [_, .row _ _ _ _ _, .blk _ _ [_, _, _, _, _, _, _, _, _], .vw _ _, .blk _ _ [_, _, _, _, _, _, _, _, _, _, _], .vw _ _]) hS rfl
  refine hK _ _ ?_; clear hK K
  refine wl_nil ?_
  refine then_n (hK9 _ _ ?_); clear hK9 K9
  refine wp_seq_k ?_; intro K10 hK10
  refine wlit ?_
  refine wl_v (x_loadA (cs := [_, _, _, _, _, _, _, _, _]) Try.underlying29 rfl ts_29 (tmP rfl rfl) (rangeB hS.ok 2 rfl rfl)) ?_
  refine wl_v (x_build (bc_takeL (tmA rfl rfl) <| bc_skip (.int .u32 0) <| bc_skip (.bool false) <| bc_nil) (by kernel_rfl)) ?_
  refine wl_e rfl ?_; intro K hK
  refine ow_alloc hS tz_32 rfl ?_
  clear hS; intro g9_2 w hg9_2 hS
  refine hK _ _ ?_; clear hK K
  refine wl_e rfl ?_; intro K hK
  refine ow_storeA hS 0 rfl ts_32 (tmP rfl rfl) (tmA rfl rfl) rfl rfl rfl ?_
  clear hS; intro w hS
  try replace hS := St.nm (M' := [.blk _ _ [_, _, _, _, _, _, _, _, _, _, _], _, .row _ _ _ _ _, .blk _ _ [_, _, _, _, _, _, _, _, _], .vw _ _, .blk _ _ [_, _, _, _, _, _, _, _, _, _, _], .vw _ _]) hS rfl
  refine hK _ _ ?_; clear hK K
  refine wl_nil ?_
  refine then_n (hK10 _ _ ?_); clear hK10 K10
  refine wp_seq_k ?_; intro K11 hK11
  refine wp_seq_k ?_; intro K12 hK12
  refine wlit ?_
  refine wl_v (x_fa 8 Try.underlying29 rfl rfl ts_5 (tmP rfl rfl)) ?_
  refine wl_v (x_load Try.underlying5 rfl (tmP rfl rfl) (cellB hS.ok 3 rfl rfl)) ?_
  refine wl_v (x_eql (tmI rfl rfl) (ev_cN 6)) ?_
  refine wl_nil ?_
  refine then_n (hK12 _ _ ?_); clear hK12 K12
  refine cnds (tm rfl) (fun hc2 => ?_) (fun hc2 => ?_)
  · exfalso
    simp at hc2
  try simp only [nrm] at hc2
  refine wlit ?_
  refine wl_v (x_move (tmS rfl rfl)) ?_
  refine wl_e rfl ?_; intro K hK
  refine ow_call Try.func16 rfl rfl (evs_cons (tmS rfl rfl) <| evs_nil) (stamp_c (l.drop sz) o er hob ho hP (l.length - sz) _ (c - sz) _ (viewV hS.ok 4 rfl) hlx (by omega)) ?_
  rintro e w ⟨rfl, hk⟩
  refine ⟨_, rfl, ?_⟩
  replace hS := hS.kept hk
  clear hk
  refine hK _ _ ?_; clear hK K
  refine wl_v (x_move (tmT rfl rfl)) ?_
  refine wl_v (x_ext (tmT rfl rfl) rfl) ?_
  refine wl_v (x_ext (tmT rfl rfl) rfl) ?_
  refine wl_v (x_fa 9 Try.underlying32 rfl rfl ts_30 (tmP rfl rfl)) ?_
  refine wl_e rfl ?_; intro K hK
  refine ow_store hS 0 rfl ts_30 (tmP rfl rfl) (tmI rfl rfl) rfl rfl ?_
  clear hS; intro w hS
  try replace hS := St.nm (M' := [.blk _ _ [_, _, _, _, _, _, _, _, _, _, _], _, .row _ _ _ _ _, .blk _ _ [_, _, _, _, _, _, _, _, _], .vw _ _, .blk _ _ [_, _, _, _, _, _, _, _, _, _, _], .vw _ _]) hS rfl
  refine hK _ _ ?_; clear hK K
  refine wl_v (x_fa 10 Try.underlying32 rfl rfl ts_4 (tmP rfl rfl)) ?_
  refine wl_e rfl ?_; intro K hK
  refine ow_store hS 0 rfl ts_4 (tmP rfl rfl) (tmB rfl rfl) rfl rfl ?_
  clear hS; intro w hS
  try replace hS := St.nm (M' := [.blk _ _ [_, _, _, _, _, _, _, _, _, _, _], _, .row _ _ _ _ _, .blk _ _ [_, _, _, _, _, _, _, _, _], .vw _ _, .blk _ _ [_, _, _, _, _, _, _, _, _, _, _], .vw _ _]) hS rfl
  refine hK _ _ ?_; clear hK K
  refine wl_nil ?_
  refine then_n (hK11 _ _ ?_); clear hK11 K11
  refine wp_seq_k ?_; intro K13 hK13
  refine wlit ?_
  refine wl_v (x_loadA (cs := [_, _, _, _, _, _, _, _, _, _, _]) Try.underlying32 rfl ts_32 (tmP rfl rfl) (rangeB hS.ok 0 rfl rfl)) ?_
  refine wl_e rfl ?_; intro K hK
  refine ow_storeA hS 5 rfl ts_32 (tmP rfl rfl) (tmA rfl rfl) rfl rfl rfl ?_
  clear hS; intro w hS
  try replace hS := St.nm (M' := [.blk _ _ [_, _, _, _, _, _, _, _, _, _, _], _, .row _ _ _ _ _, .blk _ _ [_, _, _, _, _, _, _, _, _], .vw _ _, .blk _ _ [_, _, _, _, _, _, _, _, _, _, _], .vw _ _]) hS rfl
  refine hK _ _ ?_; clear hK K
  refine wl_v (x_assign ev_c) ?_
  refine wl_nil ?_
  refine then_n (hK13 _ _ ?_); clear hK13 K13
  refine wp_ret ?_
  refine ret2 rfl (.cell rfl rfl (load_rowB (cs := [_, _, _, _, _, _, _, _, _, _, _]) hS.ok 5 rfl Try.underlying32 rfl ts_32 rfl)) (.tmp rfl (show _ = Value.bool _ from rfl)) ?_
  refine ⟨?_, hS.kp⟩
  rw [getN_drop, getN_drop]
  rfl
set_option maxRecDepth 100000 in
set_option maxHeartbeats 8000000 in
theorem sread4_udp (l : List Nat) (hb : Bytes l) (hn : l.length ≤ 3000) (s d : Ad) (sz : Nat) (hH : HdS 12 l s d 17 sz) (h8 : sz + 8 ≤ l.length) :
    ReadS 6 false l (quV s d (getN l sz 2) (getN l (sz + 2) 2) 17 0 false) true := fun w0 A c hv hc => by
  have hS := (St.sv w0).vcons rfl hv
  have hlx : (l.drop sz).length = l.length - sz := List.length_drop
  have hbx : Bytes (l.drop sz) := hb.drop sz
  refine ent (n := 54) Try.func6 rfl rfl ?_
  refine wp_seq_k ?_; intro K1 hK1
  refine wlit ?_
  refine wl_e rfl ?_; intro K hK
  refine ow_alloc hS tz_32 rfl ?_
  clear hS; intro g0_0 w hg0_0 hS
  refine hK _ _ ?_; clear hK K
  refine wl_v (x_assign ev_c) ?_
  refine wl_nil ?_
  refine then_n (hK1 _ _ ?_); clear hK1 K1
  refine wp_seq_k ?_; intro K2 hK2
  refine wlit ?_
  refine wl_v (x_assign rfl) ?_
  refine wl_nil ?_
  refine then_n (hK2 _ _ ?_); clear hK2 K2
  refine wp_seq_k ?_; intro K3 hK3
  refine wp_seq_k ?_; intro K4 hK4
  refine wlit ?_
  refine wl_v (x_move (tmB rfl rfl)) ?_
  refine wl_nil ?_
  refine then_n (hK4 _ _ ?_); clear hK4 K4
  refine cnd (tm rfl) (fun hc0 => ?_) (fun hc0 => ?_)
  · exfalso
    simp at hc0
  try simp only [nrm] at hc0
  refine wp_skip ?_
  refine then_n (hK3 _ _ ?_); clear hK3 K3
  refine wp_seq_k ?_; intro K5 hK5
  refine wlit ?_
  refine wl_v (x_move (tm rfl)) ?_
  refine wl_v (x_move (tmS rfl rfl)) ?_
  refine wl_e rfl ?_; intro K hK
  refine ow_dyn (tm rfl) Try.func12 rfl rfl (evs_cons (tmS rfl rfl) <| evs_nil) (hH _ A c (viewV hS.ok 1 rfl) hc) ?_
  rintro e w ⟨rfl, hk⟩
  refine ⟨_, rfl, ?_⟩
  replace hS := hS.kept hk
  replace hS := hS.dropb 1 sz rfl hc -- +vx
  clear hk
  refine hK _ _ ?_; clear hK K
  refine wl_v (x_move (tmT rfl rfl)) ?_
  refine wl_v (x_ext (tmT rfl rfl) rfl) ?_
  refine wl_v (x_ext (tmT rfl rfl) rfl) ?_
  refine wl_v (x_ext (tmT rfl rfl) rfl) ?_
  refine wl_e rfl ?_; intro K hK
  refine ow_alloc hS tz_29 rfl ?_
  clear hS; intro g4_7 w hg4_7 hS
  refine hK _ _ ?_; clear hK K
  refine wl_e rfl ?_; intro K hK
  refine ow_storeA hS 0 rfl ts_29 (tmP rfl rfl) (tmA rfl rfl) rfl rfl rfl ?_
  clear hS; intro w hS
  try replace hS := St.nm (M' := [.blk _ _ [_, _, _, _, _, _, _, _, _], .vw _ _, .blk _ _ [_, _, _, _, _, _, _, _, _, _, _], .vw _ _]) hS rfl
  refine hK _ _ ?_; clear hK K
  refine wl_v (x_assign (tmS rfl rfl)) ?_
  refine wl_v (x_assign (tmB rfl rfl)) ?_
  refine wl_nil ?_
  refine then_n (hK5 _ _ ?_); clear hK5 K5
  refine wp_seq_k ?_; intro K6 hK6
  refine wp_seq_k ?_; intro K7 hK7
  refine wlit ?_
  refine wl_v (x_move (tmB rfl rfl)) ?_
  refine wl_v (x_not (tmB rfl rfl)) ?_
  refine wl_v (x_move (tmB rfl rfl)) ?_
  refine gs_wl (tm (t := 22) rfl) (fun hg5_2 => ?_) (fun hg5_2 => ?_)
  · exfalso
    simp at hg5_2
  have hg5_2' := hg5_2; (try simp only [nrm] at hg5_2')
  refine wl_gv (want_y rfl rfl rfl rfl (by rw [hg5_2]; rfl)) (x_fa 8 Try.underlying29 rfl rfl ts_5 (tmP rfl rfl)) ?_
  refine wl_gv (want_y rfl rfl rfl rfl (by rw [hg5_2]; rfl)) (x_load Try.underlying5 rfl (tmP rfl rfl) (cellB hS.ok 0 rfl rfl)) ?_
  refine wl_gv (want_y rfl rfl rfl rfl (by rw [hg5_2]; rfl)) (x_neq (tmI rfl rfl) (ev_cN 6)) ?_
  refine wl_gv (want_y rfl rfl rfl rfl (by rw [hg5_2]; rfl)) (x_move (tmB rfl rfl)) ?_
  refine gs_wls (tm (t := 26) rfl) (fun hg5_6 => ?_) (fun hg5_6 => ?_)
  · exfalso
    simp at hg5_6
  have hg5_6' := hg5_6; (try simp only [nrm] at hg5_6')
  refine wl_gv (want_y rfl rfl rfl rfl (by rw [hg5_6]; rfl)) (x_fa 8 Try.underlying29 rfl rfl ts_5 (tmP rfl rfl)) ?_
  refine wl_gv (want_y rfl rfl rfl rfl (by rw [hg5_6]; rfl)) (x_load Try.underlying5 rfl (tmP rfl rfl) (cellB hS.ok 0 rfl rfl)) ?_
  refine wl_gv (want_y rfl rfl rfl rfl (by rw [hg5_6]; rfl)) (x_neq (tmI rfl rfl) (ev_cN 17)) ?_
  refine wl_gv (want_y rfl rfl rfl rfl (by rw [hg5_2]; rfl)) (x_pickT (tmB rfl rfl) hg5_6 (tmB rfl rfl)) ?_
  refine wl_v (x_pickF (tmB rfl rfl) hg5_2 (tmB rfl rfl)) ?_
  refine wl_nil ?_
  refine then_n (hK7 _ _ ?_); clear hK7 K7
  refine cnd (tm rfl) (fun hc1 => ?_) (fun hc1 => ?_)
  · exfalso
    simp at hc1
  try simp only [nrm] at hc1
  refine wp_skip ?_
  refine then_n (hK6 _ _ ?_); clear hK6 K6
  refine wp_seq_k ?_; intro K8 hK8
  refine wlit ?_
  refine wl_v (x_move (tmS rfl rfl)) ?_
  refine wl_e rfl ?_; intro K hK
  refine ow_call Try.func14 rfl rfl (evs_cons (tmS rfl rfl) <| evs_nil) (read_c (l.length - sz) _ (c - sz) (l.drop sz) _ (viewV hS.ok 1 rfl) hlx (by omega)) ?_
  rintro e w ⟨gr, A0, rfl, hS2⟩
  refine ⟨_, rfl, ?_⟩
  replace hS := hS.adds hS2 rfl -- +gr,rowb
  clear hS2
  have hA : Off A0 0 (l.length - sz) A0 := off_zero
  have hcp : l.length - sz - 0 ≤ l.length - sz := by omega
  refine hK _ _ ?_; clear hK K
  refine wl_v (x_assign (tmP rfl rfl)) ?_
  refine wl_nil ?_
  refine then_n (hK8 _ _ ?_); clear hK8 K8
  refine wp_seq_k ?_; intro K9 hK9
  refine wlit ?_
  refine wl_v (x_move (tmP rfl rfl)) ?_
  refine wl_e rfl ?_; intro K hK
  refine ow_call Try.func15 rfl rfl (evs_cons (tmP rfl rfl) <| evs_nil) (word_c gr A0 _ _ (l.length - sz) _ (l.drop sz) false _ _ (hS.enter [0] [1] rfl rfl) hA (by omega) hcp hlx hbx) ?_
  rintro e w ⟨A1, c1, rfl, hS2, hA, hcp⟩
  refine ⟨_, rfl, ?_⟩
  replace hS := hS.turn 0 rfl rfl hS2 rfl
  clear hS2
  try replace hS := St.nm (M' := [_, .row _ _ _ _ _, .blk _ _ [_, _, _, _, _, _, _, _, _], .vw _ _, .blk _ _ [_, _, _, _, _, _, _, _, _, _, _], .vw _ _]) hS rfl
  refine hK _ _ ?_; clear hK K
  refine wl_v (x_move (tmP rfl rfl)) ?_
  refine wl_e rfl ?_; intro K hK
  refine ow_call Try.func15 rfl rfl (evs_cons (tmP rfl rfl) <| evs_nil) (word_c gr A0 _ _ (l.length - sz) _ (l.drop sz) false _ _ (hS.enter [0] [1] rfl rfl) hA (by omega) hcp hlx hbx) ?_
  rintro e w ⟨A1, c1, rfl, hS2, hA, hcp⟩
  refine ⟨_, rfl, ?_⟩
  replace hS := hS.turn 0 rfl rfl hS2 rfl
  clear hS2
  try replace hS := St.nm (M' := [_, .row _ _ _ _ _, .blk _ _ [_, _, _, _, _, _, _, _, _], .vw _ _, .blk _ _ [_, _, _, _, _, _, _, _, _, _, _], .vw _ _]) hS rfl
  refine hK _ _ ?_; clear hK K
  refine wl_v (x_fa 6 Try.underlying29 rfl rfl ts_27 (tmP rfl rfl)) ?_
  refine wl_e rfl ?_; intro K hK
  refine ow_store hS 2 rfl ts_27 (tmP rfl rfl) (tmI rfl rfl) rfl rfl ?_
  clear hS; intro w hS
  try replace hS := St.nm (M' := [_, .row _ _ _ _ _, .blk _ _ [_, _, _, _, _, _, _, _, _], .vw _ _, .blk _ _ [_, _, _, _, _, _, _, _, _, _, _], .vw _ _]) hS rfl
  refine hK _ _ ?_; clear hK K
  refine wl_v (x_fa 7 Try.underlying29 rfl rfl ts_27 (tmP rfl rfl)) ?_
  refine wl_e rfl ?_; intro K hK
  refine ow_store hS 2 rfl ts_27 (tmP rfl rfl) (tmI rfl rfl) rfl rfl ?_
  clear hS; intro w hS
  try replace hS := St.nm (M' := [_, .row _ _ _ _ _, .blk _ _ [_, _, _, _, _, _, _, _, _], .vw _ _, .blk _ _ [_, _, _, _, _, _, _, _, _, _, _], .vw _ _]) hS rfl
  refine hK _ _ ?_; clear hK K
  refine wl_nil ?_
  refine then_n (hK9 _ _ ?_); clear hK9 K9
  refine wp_seq_k ?_; intro K10 hK10
  refine wlit ?_
  refine wl_v (x_loadA (cs := [_, _, _, _, _, _, _, _, _]) Try.underlying29 rfl ts_29 (tmP rfl rfl) (rangeB hS.ok 2 rfl rfl)) ?_
  refine wl_v (x_build (bc_takeL (tmA rfl rfl) <| bc_skip (.int .u32 0) <| bc_skip (.bool false) <| bc_nil) (by kernel_rfl)) ?_
  refine wl_e rfl ?_; intro K hK
  refine ow_alloc hS tz_32 rfl ?_
  clear hS; intro g9_2 w hg9_2 hS
  refine hK _ _ ?_; clear hK K
  refine wl_e rfl ?_; intro K hK
  refine ow_storeA hS 0 rfl ts_32 (tmP rfl rfl) (tmA rfl rfl) rfl rfl rfl ?_
  clear hS; intro w hS
  try replace hS := St.nm (M' := [.blk _ _ [_, _, _, _, _, _, _, _, _, _, _], _, .row _ _ _ _ _, .blk _ _ [_, _, _, _, _, _, _, _, _], .vw _ _, .blk _ _ [_, _, _, _, _, _, _, _, _, _, _], .vw _ _]) hS rfl
  refine hK _ _ ?_; clear hK K
  refine wl_nil ?_
  refine then_n (hK10 _ _ ?_); clear hK10 K10
  refine wp_seq_k ?_; intro K11 hK11
  refine wp_seq_k ?_; intro K12 hK12
  refine wlit ?_
  refine wl_v (x_fa 8 Try.underlying29 rfl rfl ts_5 (tmP rfl rfl)) ?_
  refine wl_v (x_load Try.underlying5 rfl (tmP rfl rfl) (cellB hS.ok 3 rfl rfl)) ?_
  refine wl_v (x_eql (tmI rfl rfl) (ev_cN 6)) ?_
  refine wl_nil ?_
  refine then_n (hK12 _ _ ?_); clear hK12 K12
  refine cnd (tm rfl) (fun hc2 => ?_) (fun hc2 => ?_)
  · exfalso
    simp at hc2
  try simp only [nrm] at hc2
  refine wp_skip ?_
  refine then_n (hK11 _ _ ?_); clear hK11 K11
  refine wp_seq_k ?_; intro K13 hK13
  refine wlit ?_
  refine wl_v (x_loadA (cs := [_, _, _, _, _, _, _, _, _, _, _]) Try.underlying32 rfl ts_32 (tmP rfl rfl) (rangeB hS.ok 0 rfl rfl)) ?_
  refine wl_e rfl ?_; intro K hK
  refine ow_storeA hS 5 rfl ts_32 (tmP rfl rfl) (tmA rfl rfl) rfl rfl rfl ?_
  clear hS; intro w hS
  try replace hS := St.nm (M' := [.blk _ _ [_, _, _, _, _, _, _, _, _, _, _], _, .row _ _ _ _ _, .blk _ _ [_, _, _, _, _, _, _, _, _], .vw _ _, .blk _ _ [_, _, _, _, _, _, _, _, _, _, _], .vw _ _]) hS rfl
  refine hK _ _ ?_; clear hK K
  refine wl_v (x_assign ev_c) ?_
  refine wl_nil ?_
  refine then_n (hK13 _ _ ?_); clear hK13 K13
  refine wp_ret ?_
  refine ret2 rfl (.cell rfl rfl (load_rowB (cs := [_, _, _, _, _, _, _, _, _, _, _]) hS.ok 5 rfl Try.underlying32 rfl ts_32 rfl)) (.tmp rfl (show _ = Value.bool _ from rfl)) ?_
  refine ⟨?_, hS.kp⟩
  rw [getN_drop, getN_drop]
  rfl
set_option maxRecDepth 100000 in
set_option maxHeartbeats 8000000 in
theorem sread4_no (l : List Nat) (hH : HdN 12 l) : ReadS 6 false l (quV adZ adZ 0 0 0 0 false) false := fun w0 A c hv hc => by
  have hS := (St.sv w0).vcons rfl hv
  refine ent (n := 54) Try.func6 rfl rfl ?_
  refine wp_seq_k ?_; intro K1 hK1
  refine wlit ?_
  refine wl_e rfl ?_; intro K hK
  refine ow_alloc hS tz_32 rfl ?_
  clear hS; intro g0_0 w hg0_0 hS
  refine hK _ _ ?_; clear hK K
  refine wl_v (x_assign ev_c) ?_
  refine wl_nil ?_
  refine then_n (hK1 _ _ ?_); clear hK1 K1
  refine wp_seq_k ?_; intro K2 hK2
  refine wlit ?_
  refine wl_v (x_assign rfl) ?_
  refine wl_nil ?_
  refine then_n (hK2 _ _ ?_); clear hK2 K2
  refine wp_seq_k ?_; intro K3 hK3
  refine wp_seq_k ?_; intro K4 hK4
  refine wlit ?_
  refine wl_v (x_move (tmB rfl rfl)) ?_
  refine wl_nil ?_
  refine then_n (hK4 _ _ ?_); clear hK4 K4
  refine cnd (tm rfl) (fun hc0 => ?_) (fun hc0 => ?_)
  · exfalso
    simp at hc0
  try simp only [nrm] at hc0
  refine wp_skip ?_
  refine then_n (hK3 _ _ ?_); clear hK3 K3
  refine wp_seq_k ?_; intro K5 hK5
  refine wlit ?_
  refine wl_v (x_move (tm rfl)) ?_
  refine wl_v (x_move (tmS rfl rfl)) ?_
  refine wl_e rfl ?_; intro K hK
  refine ow_dyn (tm rfl) Try.func12 rfl rfl (evs_cons (tmS rfl rfl) <| evs_nil) (hH _ A c (viewV hS.ok 1 rfl) hc) ?_
  rintro e w ⟨rfl, hk⟩
  refine ⟨_, rfl, ?_⟩
  replace hS := hS.kept hk
  clear hk
  refine hK _ _ ?_; clear hK K
  refine wl_v (x_move (tmT rfl rfl)) ?_
  refine wl_v (x_ext (tmT rfl rfl) rfl) ?_
  refine wl_v (x_ext (tmT rfl rfl) rfl) ?_
  refine wl_v (x_ext (tmT rfl rfl) rfl) ?_
  refine wl_e rfl ?_; intro K hK
  refine ow_alloc hS tz_29 rfl ?_
  clear hS; intro g4_7 w hg4_7 hS
  refine hK _ _ ?_; clear hK K
  refine wl_e rfl ?_; intro K hK
  refine ow_storeA hS 0 rfl ts_29 (tmP rfl rfl) (tmA rfl rfl) rfl rfl rfl ?_
  clear hS; intro w hS
  try replace hS := St.nm (M' := [.blk _ _ [_, _, _, _, _, _, _, _, _], .blk _ _ [_, _, _, _, _, _, _, _, _, _, _], .vw _ _]) hS rfl
  refine hK _ _ ?_; clear hK K
  refine wl_v (x_assign (tmS rfl rfl)) ?_
  refine wl_v (x_assign (tmB rfl rfl)) ?_
  refine wl_nil ?_
  refine then_n (hK5 _ _ ?_); clear hK5 K5
  refine wp_seq_k ?_; intro K6 hK6
  refine wp_seq_k ?_; intro K7 hK7
  refine wlit ?_
  refine wl_v (x_move (tmB rfl rfl)) ?_
  refine wl_v (x_not (tmB rfl rfl)) ?_
  refine wl_v (x_move (tmB rfl rfl)) ?_
  refine gs_wls (tm (t := 22) rfl) (fun hg5_2 => ?_) (fun hg5_2 => ?_)
  · exfalso
    simp at hg5_2
  have hg5_2' := hg5_2; (try simp only [nrm] at hg5_2')
  refine wl_s rfl (want_n rfl rfl rfl rfl (by rw [hg5_2]; rfl)) ?_
  refine wl_s rfl (want_n rfl rfl rfl rfl (by rw [hg5_2]; rfl)) ?_
  refine wl_s rfl (want_n rfl rfl rfl rfl (by rw [hg5_2]; rfl)) ?_
  refine wl_s rfl (want_n rfl rfl rfl rfl (by rw [hg5_2]; rfl)) ?_
  refine wl_s rfl (want_u rfl rfl rfl rfl) ?_
  refine wl_s rfl (want_u rfl rfl rfl rfl) ?_
  refine wl_s rfl (want_u rfl rfl rfl rfl) ?_
  refine wl_s rfl (want_n rfl rfl rfl rfl (by rw [hg5_2]; rfl)) ?_
  refine wl_v (x_pickT (tmB rfl rfl) hg5_2 ev_c) ?_
  refine wl_nil ?_
  refine then_n (hK7 _ _ ?_); clear hK7 K7
  refine cnd_t (tmB rfl rfl) rfl ?_
  refine wp_seq_k ?_; intro K8 hK8
  refine wlit ?_
  refine wl_v (x_build (bc_skipL [.bool false, .int .u64 0, .int .u64 0, .bool false, .int .u64 0, .int .u64 0, .int .u16 0, .int .u16 0, .int .u8 0] <| bc_skip (.int .u32 0) <| bc_skip (.bool false) <| bc_nil) (by kernel_rfl)) ?_
  refine wl_e rfl ?_; intro K hK
  refine ow_storeA hS 1 rfl ts_32 (tmP rfl rfl) (tmA rfl rfl) rfl rfl rfl ?_
  clear hS; intro w hS
  try replace hS := St.nm (M' := [.blk _ _ [_, _, _, _, _, _, _, _, _], .blk _ _ [_, _, _, _, _, _, _, _, _, _, _], .vw _ _]) hS rfl
  refine hK _ _ ?_; clear hK K
  refine wl_v (x_assign ev_c) ?_
  refine wl_nil ?_
  refine then_n (hK8 _ _ ?_); clear hK8 K8
  refine wp_ret ?_
  refine then_r ?_
  refine ret2 rfl (.cell rfl rfl (load_rowB (cs := [_, _, _, _, _, _, _, _, _, _, _]) hS.ok 1 rfl Try.underlying32 rfl ts_32 rfl)) (.tmp rfl (show _ = Value.bool _ from rfl)) ?_
  exact ⟨rfl, hS.kp⟩
set_option maxRecDepth 100000 in
set_option maxHeartbeats 8000000 in
theorem sread4_other (l : List Nat) (s d : Ad) (sz pr : Nat) (hH : HdS 12 l s d pr sz) (h6 : pr ≠ 6) (h17 : pr ≠ 17) : ReadS 6 false l (quV adZ adZ 0 0 0 0 false) false := fun w0 A c hv hc => by
  have hS := (St.sv w0).vcons rfl hv
  refine ent (n := 54) Try.func6 rfl rfl ?_
  refine wp_seq_k ?_; intro K1 hK1
  refine wlit ?_
  refine wl_e rfl ?_; intro K hK
  refine ow_alloc hS tz_32 rfl ?_
  clear hS; intro g0_0 w hg0_0 hS
  refine hK _ _ ?_; clear hK K
  refine wl_v (x_assign ev_c) ?_
  refine wl_nil ?_
  refine then_n (hK1 _ _ ?_); clear hK1 K1
  refine wp_seq_k ?_; intro K2 hK2
  refine wlit ?_
  refine wl_v (x_assign rfl) ?_
  refine wl_nil ?_
  refine then_n (hK2 _ _ ?_); clear hK2 K2
  refine wp_seq_k ?_; intro K3 hK3
  refine wp_seq_k ?_; intro K4 hK4
  refine wlit ?_
  refine wl_v (x_move (tmB rfl rfl)) ?_
  refine wl_nil ?_
  refine then_n (hK4 _ _ ?_); clear hK4 K4
  refine cnd (tm rfl) (fun hc0 => ?_) (fun hc0 => ?_)
  · exfalso
    simp at hc0
  try simp only [nrm] at hc0
  refine wp_skip ?_
  refine then_n (hK3 _ _ ?_); clear hK3 K3
  refine wp_seq_k ?_; intro K5 hK5
  refine wlit ?_
  refine wl_v (x_move (tm rfl)) ?_
  refine wl_v (x_move (tmS rfl rfl)) ?_
  refine wl_e rfl ?_; intro K hK
  refine ow_dyn (tm rfl) Try.func12 rfl rfl (evs_cons (tmS rfl rfl) <| evs_nil) (hH _ A c (viewV hS.ok 1 rfl) hc) ?_
  rintro e w ⟨rfl, hk⟩
  refine ⟨_, rfl, ?_⟩
  replace hS := hS.kept hk
  clear hk
  refine hK _ _ ?_; clear hK K
  refine wl_v (x_move (tmT rfl rfl)) ?_
  refine wl_v (x_ext (tmT rfl rfl) rfl) ?_
  refine wl_v (x_ext (tmT rfl rfl) rfl) ?_
  refine wl_v (x_ext (tmT rfl rfl) rfl) ?_
  refine wl_e rfl ?_; intro K hK
  refine ow_alloc hS tz_29 rfl ?_
  clear hS; intro g4_7 w hg4_7 hS
  refine hK _ _ ?_; clear hK K
  refine wl_e rfl ?_; intro K hK
  refine ow_storeA hS 0 rfl ts_29 (tmP rfl rfl) (tmA rfl rfl) rfl rfl rfl ?_
  clear hS; intro w hS
  try replace hS := St.nm (M' := [.blk _ _ [_, _, _, _, _, _, _, _, _], .blk _ _ [_, _, _, _, _, _, _, _, _, _, _], .vw _ _]) hS rfl
  refine hK _ _ ?_; clear hK K
  refine wl_v (x_assign (tmS rfl rfl)) ?_
  refine wl_v (x_assign (tmB rfl rfl)) ?_
  refine wl_nil ?_
  refine then_n (hK5 _ _ ?_); clear hK5 K5
  refine wp_seq_k ?_; intro K6 hK6
  refine wp_seq_k ?_; intro K7 hK7
  refine wlit ?_
  refine wl_v (x_move (tmB rfl rfl)) ?_
  refine wl_v (x_not (tmB rfl rfl)) ?_
  refine wl_v (x_move (tmB rfl rfl)) ?_
  refine gs_wl (tm (t := 22) rfl) (fun hg5_2 => ?_) (fun hg5_2 => ?_)
  · exfalso
    simp at hg5_2
  have hg5_2' := hg5_2; (try simp only [nrm] at hg5_2')
  refine wl_gv (want_y rfl rfl rfl rfl (by rw [hg5_2]; rfl)) (x_fa 8 Try.underlying29 rfl rfl ts_5 (tmP rfl rfl)) ?_
  refine wl_gv (want_y rfl rfl rfl rfl (by rw [hg5_2]; rfl)) (x_load Try.underlying5 rfl (tmP rfl rfl) (cellB hS.ok 0 rfl rfl)) ?_
  refine wl_gv (want_y rfl rfl rfl rfl (by rw [hg5_2]; rfl)) (x_neq (tmI rfl rfl) (ev_cN 6)) ?_
  refine wl_gv (want_y rfl rfl rfl rfl (by rw [hg5_2]; rfl)) (x_move (tmB rfl rfl)) ?_
  refine gs_wls (tm (t := 26) rfl) (fun hg5_6 => ?_) (fun hg5_6 => ?_)
  · exfalso
    first | omega | (simp at hg5_6; omega)
  have hg5_6' := hg5_6; (try simp only [nrm] at hg5_6')
  refine wl_gv (want_y rfl rfl rfl rfl (by rw [hg5_6]; rfl)) (x_fa 8 Try.underlying29 rfl rfl ts_5 (tmP rfl rfl)) ?_
  refine wl_gv (want_y rfl rfl rfl rfl (by rw [hg5_6]; rfl)) (x_load Try.underlying5 rfl (tmP rfl rfl) (cellB hS.ok 0 rfl rfl)) ?_
  refine wl_gv (want_y rfl rfl rfl rfl (by rw [hg5_6]; rfl)) (x_neq (tmI rfl rfl) (ev_cN 17)) ?_
  refine wl_gv (want_y rfl rfl rfl rfl (by rw [hg5_2]; rfl)) (x_pickT (tmB rfl rfl) hg5_6 (tmB rfl rfl)) ?_
  refine wl_v (x_pickF (tmB rfl rfl) hg5_2 (tmB rfl rfl)) ?_
  refine wl_nil ?_
  refine then_n (hK7 _ _ ?_); clear hK7 K7
  refine cnds (tm rfl) (fun hc1 => ?_) (fun hc1 => ?_)
  · exfalso
    first | omega | (simp at hc1; omega)
  try simp only [nrm] at hc1
  refine wp_seq_k ?_; intro K8 hK8
  refine wlit ?_
  refine wl_v (x_build (bc_skipL [.bool false, .int .u64 0, .int .u64 0, .bool false, .int .u64 0, .int .u64 0, .int .u16 0, .int .u16 0, .int .u8 0] <| bc_skip (.int .u32 0) <| bc_skip (.bool false) <| bc_nil) (by kernel_rfl)) ?_
  refine wl_e rfl ?_; intro K hK
  refine ow_storeA hS 1 rfl ts_32 (tmP rfl rfl) (tmA rfl rfl) rfl rfl rfl ?_
  clear hS; intro w hS
  try replace hS := St.nm (M' := [.blk _ _ [_, _, _, _, _, _, _, _, _], .blk _ _ [_, _, _, _, _, _, _, _, _, _, _], .vw _ _]) hS rfl
  refine hK _ _ ?_; clear hK K
  refine wl_v (x_assign ev_c) ?_
  refine wl_nil ?_
  refine then_n (hK8 _ _ ?_); clear hK8 K8
  refine wp_ret ?_
  refine then_r ?_
  refine ret2 rfl (.cell rfl rfl (load_rowB (cs := [_, _, _, _, _, _, _, _, _, _, _]) hS.ok 1 rfl Try.underlying32 rfl ts_32 rfl)) (.tmp rfl (show _ = Value.bool _ from rfl)) ?_
  exact ⟨rfl, hS.kp⟩
set_option maxRecDepth 100000 in
set_option maxHeartbeats 8000000 in
theorem sread6_tcp (l : List Nat) (hb : Bytes l) (hn : l.length ≤ 3000) (s d : Ad) (sz : Nat) (hH : HdS 13 l s d 6 sz) (h8 : sz + 8 ≤ l.length) (o : List Nat) (er : Nat) (hob : Bytes o) (ho : o.length ≤ 3000) (hP : PTo 33 (l.drop sz) o er) :
    ReadS 6 true l (quV s d (getN l sz 2) (getN l (sz + 2) 2) 6 (stVal o er) (stHas o er)) true := fun w0 A c hv hc => by
  have hS := (St.sv w0).vcons rfl hv
  have hlx : (l.drop sz).length = l.length - sz := List.length_drop
  have hbx : Bytes (l.drop sz) := hb.drop sz
  refine ent (n := 54) Try.func6 rfl rfl ?_
  refine wp_seq_k ?_; intro K1 hK1
  refine wlit ?_
  refine wl_e rfl ?_; intro K hK
  refine ow_alloc hS tz_32 rfl ?_
  clear hS; intro g0_0 w hg0_0 hS
  refine hK _ _ ?_; clear hK K
  refine wl_v (x_assign ev_c) ?_
  refine wl_nil ?_
  refine then_n (hK1 _ _ ?_); clear hK1 K1
  refine wp_seq_k ?_; intro K2 hK2
  refine wlit ?_
  refine wl_v (x_assign rfl) ?_
  refine wl_nil ?_
  refine then_n (hK2 _ _ ?_); clear hK2 K2
  refine wp_seq_k ?_; intro K3 hK3
  refine wp_seq_k ?_; intro K4 hK4
  refine wlit ?_
  refine wl_v (x_move (tmB rfl rfl)) ?_
  refine wl_nil ?_
  refine then_n (hK4 _ _ ?_); clear hK4 K4
  refine cnds (tm rfl) (fun hc0 => ?_) (fun hc0 => ?_)
  · exfalso
    simp at hc0
  try simp only [nrm] at hc0
  refine wlit ?_
  refine wl_v (x_assign rfl) ?_
  refine wl_nil ?_
  refine then_n (hK3 _ _ ?_); clear hK3 K3
  refine wp_seq_k ?_; intro K5 hK5
  refine wlit ?_
  refine wl_v (x_move (tm rfl)) ?_
  refine wl_v (x_move (tmS rfl rfl)) ?_
  refine wl_e rfl ?_; intro K hK
  refine ow_dyn (tm rfl) Try.func13 rfl rfl (evs_cons (tmS rfl rfl) <| evs_nil) (hH _ A c (viewV hS.ok 1 rfl) hc) ?_
  rintro e w ⟨rfl, hk⟩
  refine ⟨_, rfl, ?_⟩
  replace hS := hS.kept hk
  replace hS := hS.dropb 1 sz rfl hc -- +vx
  clear hk
  refine hK _ _ ?_; clear hK K
  refine wl_v (x_move (tmT rfl rfl)) ?_
  refine wl_v (x_ext (tmT rfl rfl) rfl) ?_
  refine wl_v (x_ext (tmT rfl rfl) rfl) ?_
  refine wl_v (x_ext (tmT rfl rfl) rfl) ?_
  refine wl_e rfl ?_; intro K hK
  refine ow_alloc hS tz_29 rfl ?_
  clear hS; intro g4_7 w hg4_7 hS
  refine hK _ _ ?_; clear hK K
  refine wl_e rfl ?_; intro K hK
  refine ow_storeA hS 0 rfl ts_29 (tmP rfl rfl) (tmA rfl rfl) rfl rfl rfl ?_
  clear hS; intro w hS
  try replace hS := St.nm (M' := [.blk _ _ [_, _, _, _, _, _, _, _, _], .vw _ _, .blk _ _ [_, _, _, _, _, _, _, _, _, _, _], .vw _ _]) hS rfl
  refine hK _ _ ?_; clear hK K
  refine wl_v (x_assign (tmS rfl rfl)) ?_
  refine wl_v (x_assign (tmB rfl rfl)) ?_
  refine wl_nil ?_
  refine then_n (hK5 _ _ ?_); clear hK5 K5
  refine wp_seq_k ?_; intro K6 hK6
  refine wp_seq_k ?_; intro K7 hK7
  refine wlit ?_
  refine wl_v (x_move (tmB rfl rfl)) ?_
  refine wl_v (x_not (tmB rfl rfl)) ?_
  refine wl_v (x_move (tmB rfl rfl)) ?_
  refine gs_wl (tm (t := 22) rfl) (fun hg5_2 => ?_) (fun hg5_2 => ?_)
  · exfalso
    simp at hg5_2
  have hg5_2' := hg5_2; (try simp only [nrm] at hg5_2')
  refine wl_gv (want_y rfl rfl rfl rfl (by rw [hg5_2]; rfl)) (x_fa 8 Try.underlying29 rfl rfl ts_5 (tmP rfl rfl)) ?_
  refine wl_gv (want_y rfl rfl rfl rfl (by rw [hg5_2]; rfl)) (x_load Try.underlying5 rfl (tmP rfl rfl) (cellB hS.ok 0 rfl rfl)) ?_
  refine wl_gv (want_y rfl rfl rfl rfl (by rw [hg5_2]; rfl)) (x_neq (tmI rfl rfl) (ev_cN 6)) ?_
  refine wl_gv (want_y rfl rfl rfl rfl (by rw [hg5_2]; rfl)) (x_move (tmB rfl rfl)) ?_
  refine gs_wl (tm (t := 26) rfl) (fun hg5_6 => ?_) (fun hg5_6 => ?_)
  · exfalso
    simp at hg5_6
  have hg5_6' := hg5_6; (try simp only [nrm] at hg5_6')
  refine wl_s rfl (want_n rfl rfl rfl rfl (by rw [hg5_6]; rfl)) ?_
  refine wl_s rfl (want_n rfl rfl rfl rfl (by rw [hg5_6]; rfl)) ?_
  refine wl_s rfl (want_n rfl rfl rfl rfl (by rw [hg5_6]; rfl)) ?_
  refine wl_gv (want_y rfl rfl rfl rfl (by rw [hg5_2]; rfl)) (x_pickF (tmB rfl rfl) hg5_6 ev_c) ?_
  refine wl_v (x_pickF (tmB rfl rfl) hg5_2 (tmB rfl rfl)) ?_
  refine wl_nil ?_
  refine then_n (hK7 _ _ ?_); clear hK7 K7
  refine cnd_f (tmB rfl rfl) rfl ?_
  refine wp_skip ?_
  refine then_n (hK6 _ _ ?_); clear hK6 K6
  refine wp_seq_k ?_; intro K8 hK8
  refine wlit ?_
  refine wl_v (x_move (tmS rfl rfl)) ?_
  refine wl_e rfl ?_; intro K hK
  refine ow_call Try.func14 rfl rfl (evs_cons (tmS rfl rfl) <| evs_nil) (read_c (l.length - sz) _ (c - sz) (l.drop sz) _ (viewV hS.ok 1 rfl) hlx (by omega)) ?_
  rintro e w ⟨gr, A0, rfl, hS2⟩
  refine ⟨_, rfl, ?_⟩
  replace hS := hS.adds hS2 rfl -- +gr,rowb
  clear hS2
  have hA : Off A0 0 (l.length - sz) A0 := off_zero
  have hcp : l.length - sz - 0 ≤ l.length - sz := by omega
  refine hK _ _ ?_; clear hK K
  refine wl_v (x_assign (tmP rfl rfl)) ?_
  refine wl_nil ?_
  refine then_n (hK8 _ _ ?_); clear hK8 K8
  refine wp_seq_k ?_; intro K9 hK9
  refine wlit ?_
  refine wl_v (x_move (tmP rfl rfl)) ?_
  refine wl_e rfl ?_; intro K hK
  refine ow_call Try.func15 rfl rfl (evs_cons (tmP rfl rfl) <| evs_nil) (word_c gr A0 _ _ (l.length - sz) _ (l.drop sz) false _ _ (hS.enter [0] [1] rfl rfl) hA (by omega) hcp hlx hbx) ?_
  rintro e w ⟨A1, c1, rfl, hS2, hA, hcp⟩
  refine ⟨_, rfl, ?_⟩
  replace hS := hS.turn 0 rfl rfl hS2 rfl
  clear hS2
  try replace hS := St.nm (M' := [_, .row _ _ _ _ _, .blk _ _ [_, _, _, _, _, _, _, _, _], .vw _ _, .blk _ _ [_, _, _, _, _, _, _, _, _, _, _], .vw _ _]) hS rfl
  refine hK _ _ ?_; clear hK K
  refine wl_v (x_move (tmP rfl rfl)) ?_
  refine wl_e rfl ?_; intro K hK
  refine ow_call Try.func15 rfl rfl (evs_cons (tmP rfl rfl) <| evs_nil) (word_c gr A0 _ _ (l.length - sz) _ (l.drop sz) false _ _ (hS.enter [0] [1] rfl rfl) hA (by omega) hcp hlx hbx) ?_
  rintro e w ⟨A1, c1, rfl, hS2, hA, hcp⟩
  refine ⟨_, rfl, ?_⟩
  replace hS := hS.turn 0 rfl rfl hS2 rfl
  clear hS2
  try replace hS := St.nm (M' := [_, .row _ _ _ _ _, .blk _ _ [_, _, _, _, _, _, _, _, _], .vw _ _, .blk _ _ [_, _, _, _, _, _, _, _, _, _, _], .vw _ _]) hS rfl
  refine hK _ _ ?_; clear hK K
  refine wl_v (x_fa 6 Try.underlying29 rfl rfl ts_27 (tmP rfl rfl)) ?_
  refine wl_e rfl ?_; intro K hK
  refine ow_store hS 2 rfl ts_27 (tmP rfl rfl) (tmI rfl rfl) rfl rfl ?_
  clear hS; intro w hS
  try replace hS := St.nm (M' := [_, .row _ _ _ _ _, .blk _ _ [_, _, _, _, _, _, _, _, _], .vw _ _, .blk _ _ [_, _, _, _, _, _, _, _, _, _, _], .vw _ _]) hS rfl
  refine hK _ _ ?_; clear hK K
  refine wl_v (x_fa 7 Try.underlying29 rfl rfl ts_27 (tmP rfl rfl)) ?_
  refine wl_e rfl ?_; intro K hK
  refine ow_store hS 2 rfl ts_27 (tmP rfl rfl) (tmI rfl rfl) rfl rfl ?_
  clear hS; intro w hS
  try replace hS := St.nm (M' := [_, .row _ _ _ _ _, .blk _ _ [_, _, _, _, _, _, _, _, _], .vw _ _, .blk _ _ [_, _, _, _, _, _, _, _, _, _, _], .vw _ _]) hS rfl
  refine hK _ _ ?_; clear hK K
  refine wl_nil ?_
  refine then_n (hK9 _ _ ?_); clear hK9 K9
  refine wp_seq_k ?_; intro K10 hK10
  refine wlit ?_
  refine wl_v (x_loadA (cs := [_, _, _, _, _, _, _, _, _]) Try.underlying29 rfl ts_29 (tmP rfl rfl) (rangeB hS.ok 2 rfl rfl)) ?_
  refine wl_v (x_build (bc_takeL (tmA rfl rfl) <| bc_skip (.int .u32 0) <| bc_skip (.bool false) <| bc_nil) (by kernel_rfl)) ?_
  refine wl_e rfl ?_; intro K hK
  refine ow_alloc hS tz_32 rfl ?_
  clear hS; intro g9_2 w hg9_2 hS
  refine hK _ _ ?_; clear hK K
  refine wl_e rfl ?_; intro K hK
  refine ow_storeA hS 0 rfl ts_32 (tmP rfl rfl) (tmA rfl rfl) rfl rfl rfl ?_
  clear hS; intro w hS
  try replace hS := St.nm (M' := [.blk _ _ [_, _, _, _, _, _, _, _, _, _, _], _, .row _ _ _ _ _, .blk _ _ [_, _, _, _, _, _, _, _, _], .vw _ _, .blk _ _ [_, _, _, _, _, _, _, _, _, _, _], .vw _ _]) hS rfl
  refine hK _ _ ?_; clear hK K
  refine wl_nil ?_
  refine then_n (hK10 _ _ ?_); clear hK10 K10
  refine wp_seq_k ?_; intro K11 hK11
  refine wp_seq_k ?_; intro K12 hK12
  refine wlit ?_
  refine wl_v (x_fa 8 Try.underlying29 rfl rfl ts_5 (tmP rfl rfl)) ?_
  refine wl_v (x_load Try.underlying5 rfl (tmP rfl rfl) (cellB hS.ok 3 rfl rfl)) ?_
  refine wl_v (x_eql (tmI rfl rfl) (ev_cN 6)) ?_
  refine wl_nil ?_
  refine then_n (hK12 _ _ ?_); clear hK12 K12
  refine cnds (tm rfl) (fun hc2 => ?_) (fun hc2 => ?_)
  · exfalso
    simp at hc2
  try simp only [nrm] at hc2
  refine wlit ?_
  refine wl_v (x_move (tmS rfl rfl)) ?_
  refine wl_e rfl ?_; intro K hK
  refine ow_call Try.func16 rfl rfl (evs_cons (tmS rfl rfl) <| evs_nil) (stamp_c (l.drop sz) o er hob ho hP (l.length - sz) _ (c - sz) _ (viewV hS.ok 4 rfl) hlx (by omega)) ?_
  rintro e w ⟨rfl, hk⟩
  refine ⟨_, rfl, ?_⟩
  replace hS := hS.kept hk
  clear hk
  refine hK _ _ ?_; clear hK K
  refine wl_v (x_move (tmT rfl rfl)) ?_
  refine wl_v (x_ext (tmT rfl rfl) rfl) ?_
  refine wl_v (x_ext (tmT rfl rfl) rfl) ?_
  refine wl_v (x_fa 9 Try.underlying32 rfl rfl ts_30 (tmP rfl rfl)) ?_
  refine wl_e rfl ?_; intro K hK
  refine ow_store hS 0 rfl ts_30 (tmP rfl rfl) (tmI rfl rfl) rfl rfl ?_
  clear hS; intro w hS
  try replace hS := St.nm (M' := [.blk _ _ [_, _, _, _, _, _, _, _, _, _, _], _, .row _ _ _ _ _, .blk _ _ [_, _, _, _, _, _, _, _, _], .vw _ _, .blk _ _ [_, _, _, _, _, _, _, _, _, _, _], .vw _ _]) hS rfl
  refine hK _ _ ?_; clear hK K
  refine wl_v (x_fa 10 Try.underlying32 rfl rfl ts_4 (tmP rfl rfl)) ?_
  refine wl_e rfl ?_; intro K hK
  refine ow_store hS 0 rfl ts_4 (tmP rfl rfl) (tmB rfl rfl) rfl rfl ?_
  clear hS; intro w hS
  try replace hS := St.nm (M' := [.blk _ _ [_, _, _, _, _, _, _, _, _, _, _], _, .row _ _ _ _ _, .blk _ _ [_, _, _, _, _, _, _, _, _], .vw _ _, .blk _ _ [_, _, _, _, _, _, _, _, _, _, _], .vw _ _]) hS rfl
  refine hK _ _ ?_; clear hK K
  refine wl_nil ?_
  refine then_n (hK11 _ _ ?_); clear hK11 K11
  refine wp_seq_k ?_; intro K13 hK13
  refine wlit ?_
  refine wl_v (x_loadA (cs := [_, _, _, _, _, _, _, _, _, _, _]) Try.underlying32 rfl ts_32 (tmP rfl rfl) (rangeB hS.ok 0 rfl rfl)) ?_
  refine wl_e rfl ?_; intro K hK
  refine ow_storeA hS 5 rfl ts_32 (tmP rfl rfl) (tmA rfl rfl) rfl rfl rfl ?_
  clear hS; intro w hS
  try replace hS := St.nm (M' := [.blk _ _ [_, _, _, _, _, _, _, _, _, _, _], _, .row _ _ _ _ _, .blk _ _ [_, _, _, _, _, _, _, _, _], .vw _ _, .blk _ _ [_, _, _, _, _, _, _, _, _, _, _], .vw _ _]) hS rfl
  refine hK _ _ ?_; clear hK K
  refine wl_v (x_assign ev_c) ?_
  refine wl_nil ?_
  refine then_n (hK13 _ _ ?_); clear hK13 K13
  refine wp_ret ?_
  refine ret2 rfl (.cell rfl rfl (load_rowB (cs := [_, _, _, _, _, _, _, _, _, _, _]) hS.ok 5 rfl Try.underlying32 rfl ts_32 rfl)) (.tmp rfl (show _ = Value.bool _ from rfl)) ?_
  refine ⟨?_, hS.kp⟩
  rw [getN_drop, getN_drop]
  rfl
set_option maxRecDepth 100000 in
set_option maxHeartbeats 8000000 in
theorem sread6_udp (l : List Nat) (hb : Bytes l) (hn : l.length ≤ 3000) (s d : Ad) (sz : Nat) (hH : HdS 13 l s d 17 sz) (h8 : sz + 8 ≤ l.length) :
    ReadS 6 true l (quV s d (getN l sz 2) (getN l (sz + 2) 2) 17 0 false) true := fun w0 A c hv hc => by
  have hS := (St.sv w0).vcons rfl hv
  have hlx : (l.drop sz).length = l.length - sz := List.length_drop
  have hbx : Bytes (l.drop sz) := hb.drop sz
  refine ent (n := 54) Try.func6 rfl rfl ?_
  refine wp_seq_k ?_; intro K1 hK1
  refine wlit ?_
  refine wl_e rfl ?_; intro K hK
  refine ow_alloc hS tz_32 rfl ?_
  clear hS; intro g0_0 w hg0_0 hS
  refine hK _ _ ?_; clear hK K
  refine wl_v (x_assign ev_c) ?_
  refine wl_nil ?_
  refine then_n (hK1 _ _ ?_); clear hK1 K1
  refine wp_seq_k ?_; intro K2 hK2
  refine wlit ?_
  refine wl_v (x_assign rfl) ?_
  refine wl_nil ?_
  refine then_n (hK2 _ _ ?_); clear hK2 K2
  refine wp_seq_k ?_; intro K3 hK3
  refine wp_seq_k ?_; intro K4 hK4
  refine wlit ?_
  refine wl_v (x_move (tmB rfl rfl)) ?_
  refine wl_nil ?_
  refine then_n (hK4 _ _ ?_); clear hK4 K4
  refine cnds (tm rfl) (fun hc0 => ?_) (fun hc0 => ?_)
  · exfalso
    simp at hc0
  try simp only [nrm] at hc0
  refine wlit ?_
  refine wl_v (x_assign rfl) ?_
  refine wl_nil ?_
  refine then_n (hK3 _ _ ?_); clear hK3 K3
  refine wp_seq_k ?_; intro K5 hK5
  refine wlit ?_
  refine wl_v (x_move (tm rfl)) ?_
  refine wl_v (x_move (tmS rfl rfl)) ?_
  refine wl_e rfl ?_; intro K hK
  refine ow_dyn (tm rfl) Try.func13 rfl rfl (evs_cons (tmS rfl rfl) <| evs_nil) (hH _ A c (viewV hS.ok 1 rfl) hc) ?_
  rintro e w ⟨rfl, hk⟩
  refine ⟨_, rfl, ?_⟩
  replace hS := hS.kept hk
  replace hS := hS.dropb 1 sz rfl hc -- +vx
  clear hk
  refine hK _ _ ?_; clear hK K
  refine wl_v (x_move (tmT rfl rfl)) ?_
  refine wl_v (x_ext (tmT rfl rfl) rfl) ?_
  refine wl_v (x_ext (tmT rfl rfl) rfl) ?_
  refine wl_v (x_ext (tmT rfl rfl) rfl) ?_
  refine wl_e rfl ?_; intro K hK
  refine ow_alloc hS tz_29 rfl ?_
  clear hS; intro g4_7 w hg4_7 hS
  refine hK _ _ ?_; clear hK K
  refine wl_e rfl ?_; intro K hK
  refine ow_storeA hS 0 rfl ts_29 (tmP rfl rfl) (tmA rfl rfl) rfl rfl rfl ?_
  clear hS; intro w hS
  try replace hS := St.nm (M' := [.blk _ _ [_, _, _, _, _, _, _, _, _], .vw _ _, .blk _ _ [_, _, _, _, _, _, _, _, _, _, _], .vw _ _]) hS rfl
  refine hK _ _ ?_; clear hK K
  refine wl_v (x_assign (tmS rfl rfl)) ?_
  refine wl_v (x_assign (tmB rfl rfl)) ?_
  refine wl_nil ?_
  refine then_n (hK5 _ _ ?_); clear hK5 K5
  refine wp_seq_k ?_; intro K6 hK6
  refine wp_seq_k ?_; intro K7 hK7
  refine wlit ?_
  refine wl_v (x_move (tmB rfl rfl)) ?_
  refine wl_v (x_not (tmB rfl rfl)) ?_
  refine wl_v (x_move (tmB rfl rfl)) ?_
  refine gs_wl (tm (t := 22) rfl) (fun hg5_2 => ?_) (fun hg5_2 => ?_)
  · exfalso
    simp at hg5_2
  have hg5_2' := hg5_2; (try simp only [nrm] at hg5_2')
  refine wl_gv (want_y rfl rfl rfl rfl (by rw [hg5_2]; rfl)) (x_fa 8 Try.underlying29 rfl rfl ts_5 (tmP rfl rfl)) ?_
  refine wl_gv (want_y rfl rfl rfl rfl (by rw [hg5_2]; rfl)) (x_load Try.underlying5 rfl (tmP rfl rfl) (cellB hS.ok 0 rfl rfl)) ?_
  refine wl_gv (want_y rfl rfl rfl rfl (by rw [hg5_2]; rfl)) (x_neq (tmI rfl rfl) (ev_cN 6)) ?_
  refine wl_gv (want_y rfl rfl rfl rfl (by rw [hg5_2]; rfl)) (x_move (tmB rfl rfl)) ?_
  refine gs_wls (tm (t := 26) rfl) (fun hg5_6 => ?_) (fun hg5_6 => ?_)
  · exfalso
    simp at hg5_6
  have hg5_6' := hg5_6; (try simp only [nrm] at hg5_6')
  refine wl_gv (want_y rfl rfl rfl rfl (by rw [hg5_6]; rfl)) (x_fa 8 Try.underlying29 rfl rfl ts_5 (tmP rfl rfl)) ?_
  refine wl_gv (want_y rfl rfl rfl rfl (by rw [hg5_6]; rfl)) (x_load Try.underlying5 rfl (tmP rfl rfl) (cellB hS.ok 0 rfl rfl)) ?_
  refine wl_gv (want_y rfl rfl rfl rfl (by rw [hg5_6]; rfl)) (x_neq (tmI rfl rfl) (ev_cN 17)) ?_
  refine wl_gv (want_y rfl rfl rfl rfl (by rw [hg5_2]; rfl)) (x_pickT (tmB rfl rfl) hg5_6 (tmB rfl rfl)) ?_
  refine wl_v (x_pickF (tmB rfl rfl) hg5_2 (tmB rfl rfl)) ?_
  refine wl_nil ?_
  refine then_n (hK7 _ _ ?_); clear hK7 K7
  refine cnd (tm rfl) (fun hc1 => ?_) (fun hc1 => ?_)
  · exfalso
    simp at hc1
  try simp only [nrm] at hc1
  refine wp_skip ?_
  refine then_n (hK6 _ _ ?_); clear hK6 K6
  refine wp_seq_k ?_; intro K8 hK8
  refine wlit ?_
  refine wl_v (x_move (tmS rfl rfl)) ?_
  refine wl_e rfl ?_; intro K hK
  refine ow_call Try.func14 rfl rfl (evs_cons (tmS rfl rfl) <| evs_nil) (read_c (l.length - sz) _ (c - sz) (l.drop sz) _ (viewV hS.ok 1 rfl) hlx (by omega)) ?_
  rintro e w ⟨gr, A0, rfl, hS2⟩
  refine ⟨_, rfl, ?_⟩
  replace hS := hS.adds hS2 rfl -- +gr,rowb
  clear hS2
  have hA : Off A0 0 (l.length - sz) A0 := off_zero
  have hcp : l.length - sz - 0 ≤ l.length - sz := by omega
  refine hK _ _ ?_; clear hK K
  refine wl_v (x_assign (tmP rfl rfl)) ?_
  refine wl_nil ?_
  refine then_n (hK8 _ _ ?_); clear hK8 K8
  refine wp_seq_k ?_; intro K9 hK9
  refine wlit ?_
  refine wl_v (x_move (tmP rfl rfl)) ?_
  refine wl_e rfl ?_; intro K hK
  refine ow_call Try.func15 rfl rfl (evs_cons (tmP rfl rfl) <| evs_nil) (word_c gr A0 _ _ (l.length - sz) _ (l.drop sz) false _ _ (hS.enter [0] [1] rfl rfl) hA (by omega) hcp hlx hbx) ?_
  rintro e w ⟨A1, c1, rfl, hS2, hA, hcp⟩
  refine ⟨_, rfl, ?_⟩
  replace hS := hS.turn 0 rfl rfl hS2 rfl
  clear hS2
  try replace hS := St.nm (M' := [_, .row _ _ _ _ _, .blk _ _ [_, _, _, _, _, _, _, _, _], .vw _ _, .blk _ _ [_, _, _, _, _, _, _, _, _, _, _], .vw _ _]) hS rfl
  refine hK _ _ ?_; clear hK K
  refine wl_v (x_move (tmP rfl rfl)) ?_
  refine wl_e rfl ?_; intro K hK
  refine ow_call Try.func15 rfl rfl (evs_cons (tmP rfl rfl) <| evs_nil) (word_c gr A0 _ _ (l.length - sz) _ (l.drop sz) false _ _ (hS.enter [0] [1] rfl rfl) hA (by omega) hcp hlx hbx) ?_
  rintro e w ⟨A1, c1, rfl, hS2, hA, hcp⟩
  refine ⟨_, rfl, ?_⟩
  replace hS := hS.turn 0 rfl rfl hS2 rfl
  clear hS2
  try replace hS := St.nm (M' := [_, .row _ _ _ _ _, .blk _ _ [_, _, _, _, _, _, _, _, _], .vw _ _, .blk _ _ [_, _, _, _, _, _, _, _, _, _, _], .vw _ _]) hS rfl
  refine hK _ _ ?_; clear hK K
  refine wl_v (x_fa 6 Try.underlying29 rfl rfl ts_27 (tmP rfl rfl)) ?_
  refine wl_e rfl ?_; intro K hK
  refine ow_store hS 2 rfl ts_27 (tmP rfl rfl) (tmI rfl rfl) rfl rfl ?_
  clear hS; intro w hS
  try replace hS := St.nm (M' := [_, .row _ _ _ _ _, .blk _ _ [_, _, _, _, _, _, _, _, _], .vw _ _, .blk _ _ [_, _, _, _, _, _, _, _, _, _, _], .vw _ _]) hS rfl
  refine hK _ _ ?_; clear hK K
  refine wl_v (x_fa 7 Try.underlying29 rfl rfl ts_27 (tmP rfl rfl)) ?_
  refine wl_e rfl ?_; intro K hK
  refine ow_store hS 2 rfl ts_27 (tmP rfl rfl) (tmI rfl rfl) rfl rfl ?_
  clear hS; intro w hS
  try replace hS := St.nm (M' := [_, .row _ _ _ _ _, .blk _ _ [_, _, _, _, _, _, _, _, _], .vw _ _, .blk _ _ [_, _, _, _, _, _, _, _, _, _, _], .vw _ _]) hS rfl
  refine hK _ _ ?_; clear hK K
  refine wl_nil ?_
  refine then_n (hK9 _ _ ?_); clear hK9 K9
  refine wp_seq_k ?_; intro K10 hK10
  refine wlit ?_
  refine wl_v (x_loadA (cs := [_, _, _, _, _, _, _, _, _]) Try.underlying29 rfl ts_29 (tmP rfl rfl) (rangeB hS.ok 2 rfl rfl)) ?_
  refine wl_v (x_build (bc_takeL (tmA rfl rfl) <| bc_skip (.int .u32 0) <| bc_skip (.bool false) <| bc_nil) (by kernel_rfl)) ?_
  refine wl_e rfl ?_; intro K hK
  refine ow_alloc hS tz_32 rfl ?_
  clear hS; intro g9_2 w hg9_2 hS
  refine hK _ _ ?_; clear hK K
  refine wl_e rfl ?_; intro K hK
  refine ow_storeA hS 0 rfl ts_32 (tmP rfl rfl) (tmA rfl rfl) rfl rfl rfl ?_
  clear hS; intro w hS
  try replace hS := St.nm (M' := [.blk _ _ [_, _, _, _, _, _, _, _, _, _, _], _, .row _ _ _ _ _, .blk _ _ [_, _, _, _, _, _, _, _, _], .vw _ _, .blk _ _ [_, _, _, _, _, _, _, _, _, _, _], .vw _ _]) hS rfl
  refine hK _ _ ?_; clear hK K
  refine wl_nil ?_
  refine then_n (hK10 _ _ ?_); clear hK10 K10
  refine wp_seq_k ?_; intro K11 hK11
  refine wp_seq_k ?_; intro K12 hK12
  refine wlit ?_
  refine wl_v (x_fa 8 Try.underlying29 rfl rfl ts_5 (tmP rfl rfl)) ?_
  refine wl_v (x_load Try.underlying5 rfl (tmP rfl rfl) (cellB hS.ok 3 rfl rfl)) ?_
  refine wl_v (x_eql (tmI rfl rfl) (ev_cN 6)) ?_
  refine wl_nil ?_
  refine then_n (hK12 _ _ ?_); clear hK12 K12
  refine cnd (tm rfl) (fun hc2 => ?_) (fun hc2 => ?_)
  · exfalso
    simp at hc2
  try simp only [nrm] at hc2
  refine wp_skip ?_
  refine then_n (hK11 _ _ ?_); clear hK11 K11
  refine wp_seq_k ?_; intro K13 hK13
  refine wlit ?_
  refine wl_v (x_loadA (cs := [_, _, _, _, _, _, _, _, _, _, _]) Try.underlying32 rfl ts_32 (tmP rfl rfl) (rangeB hS.ok 0 rfl rfl)) ?_
  refine wl_e rfl ?_; intro K hK
  refine ow_storeA hS 5 rfl ts_32 (tmP rfl rfl) (tmA rfl rfl) rfl rfl rfl ?_
  clear hS; intro w hS
  try replace hS := St.nm (M' := [.blk _ _ [_, _, _, _, _, _, _, _, _, _, _], _, .row _ _ _ _ _, .blk _ _ [_, _, _, _, _, _, _, _, _], .vw _ _, .blk _ _ [_, _, _, _, _, _, _, _, _, _, _], .vw _ _]) hS rfl
  refine hK _ _ ?_; clear hK K
  refine wl_v (x_assign ev_c) ?_
  refine wl_nil ?_
  refine then_n (hK13 _ _ ?_); clear hK13 K13
  refine wp_ret ?_
  refine ret2 rfl (.cell rfl rfl (load_rowB (cs := [_, _, _, _, _, _, _, _, _, _, _]) hS.ok 5 rfl Try.underlying32 rfl ts_32 rfl)) (.tmp rfl (show _ = Value.bool _ from rfl)) ?_
  refine ⟨?_, hS.kp⟩
  rw [getN_drop, getN_drop]
  rfl
set_option maxRecDepth 100000 in
set_option maxHeartbeats 8000000 in
theorem sread6_no (l : List Nat) (hH : HdN 13 l) : ReadS 6 true l (quV adZ adZ 0 0 0 0 false) false := fun w0 A c hv hc => by
  have hS := (St.sv w0).vcons rfl hv
  refine ent (n := 54) Try.func6 rfl rfl ?_
  refine wp_seq_k ?_; intro K1 hK1
  refine wlit ?_
  refine wl_e rfl ?_; intro K hK
  refine ow_alloc hS tz_32 rfl ?_
  clear hS; intro g0_0 w hg0_0 hS
  refine hK _ _ ?_; clear hK K
  refine wl_v (x_assign ev_c) ?_
  refine wl_nil ?_
  refine then_n (hK1 _ _ ?_); clear hK1 K1
  refine wp_seq_k ?_; intro K2 hK2
  refine wlit ?_
  refine wl_v (x_assign rfl) ?_
  refine wl_nil ?_
  refine then_n (hK2 _ _ ?_); clear hK2 K2
  refine wp_seq_k ?_; intro K3 hK3
  refine wp_seq_k ?_; intro K4 hK4
  refine wlit ?_
  refine wl_v (x_move (tmB rfl rfl)) ?_
  refine wl_nil ?_
  refine then_n (hK4 _ _ ?_); clear hK4 K4
  refine cnds (tm rfl) (fun hc0 => ?_) (fun hc0 => ?_)
  · exfalso
    simp at hc0
  try simp only [nrm] at hc0
  refine wlit ?_
  refine wl_v (x_assign rfl) ?_
  refine wl_nil ?_
  refine then_n (hK3 _ _ ?_); clear hK3 K3
  refine wp_seq_k ?_; intro K5 hK5
  refine wlit ?_
  refine wl_v (x_move (tm rfl)) ?_
  refine wl_v (x_move (tmS rfl rfl)) ?_
  refine wl_e rfl ?_; intro K hK
  refine ow_dyn (tm rfl) Try.func13 rfl rfl (evs_cons (tmS rfl rfl) <| evs_nil) (hH _ A c (viewV hS.ok 1 rfl) hc) ?_
  rintro e w ⟨rfl, hk⟩
  refine ⟨_, rfl, ?_⟩
  replace hS := hS.kept hk
  clear hk
  refine hK _ _ ?_; clear hK K
  refine wl_v (x_move (tmT rfl rfl)) ?_
  refine wl_v (x_ext (tmT rfl rfl) rfl) ?_
  refine wl_v (x_ext (tmT rfl rfl) rfl) ?_
  refine wl_v (x_ext (tmT rfl rfl) rfl) ?_
  refine wl_e rfl ?_; intro K hK
  refine ow_alloc hS tz_29 rfl ?_
  clear hS; intro g4_7 w hg4_7 hS
  refine hK _ _ ?_; clear hK K
  refine wl_e rfl ?_; intro K hK
  refine ow_storeA hS 0 rfl ts_29 (tmP rfl rfl) (tmA rfl rfl) rfl rfl rfl ?_
  clear hS; intro w hS
  try replace hS := St.nm (M' := [.blk _ _ [_, _, _, _, _, _, _, _, _], .blk _ _ [_, _, _, _, _, _, _, _, _, _, _], .vw _ _]) hS rfl
  refine hK _ _ ?_; clear hK K
  refine wl_v (x_assign (tmS rfl rfl)) ?_
  refine wl_v (x_assign (tmB rfl rfl)) ?_
  refine wl_nil ?_
  refine then_n (hK5 _ _ ?_); clear hK5 K5
  refine wp_seq_k ?_; intro K6 hK6
  refine wp_seq_k ?_; intro K7 hK7
  refine wlit ?_
  refine wl_v (x_move (tmB rfl rfl)) ?_
  refine wl_v (x_not (tmB rfl rfl)) ?_
  refine wl_v (x_move (tmB rfl rfl)) ?_
  refine gs_wls (tm (t := 22) rfl) (fun hg5_2 => ?_) (fun hg5_2 => ?_)
  · exfalso
    simp at hg5_2
  have hg5_2' := hg5_2; (try simp only [nrm] at hg5_2')
  refine wl_s rfl (want_n rfl rfl rfl rfl (by rw [hg5_2]; rfl)) ?_
  refine wl_s rfl (want_n rfl rfl rfl rfl (by rw [hg5_2]; rfl)) ?_
  refine wl_s rfl (want_n rfl rfl rfl rfl (by rw [hg5_2]; rfl)) ?_
  refine wl_s rfl (want_n rfl rfl rfl rfl (by rw [hg5_2]; rfl)) ?_
  refine wl_s rfl (want_u rfl rfl rfl rfl) ?_
  refine wl_s rfl (want_u rfl rfl rfl rfl) ?_
  refine wl_s rfl (want_u rfl rfl rfl rfl) ?_
  refine wl_s rfl (want_n rfl rfl rfl rfl (by rw [hg5_2]; rfl)) ?_
  refine wl_v (x_pickT (tmB rfl rfl) hg5_2 ev_c) ?_
  refine wl_nil ?_
  refine then_n (hK7 _ _ ?_); clear hK7 K7
  refine cnd_t (tmB rfl rfl) rfl ?_
  refine wp_seq_k ?_; intro K8 hK8
  refine wlit ?_
  refine wl_v (x_build (bc_skipL [.bool false, .int .u64 0, .int .u64 0, .bool false, .int .u64 0, .int .u64 0, .int .u16 0, .int .u16 0, .int .u8 0] <| bc_skip (.int .u32 0) <| bc_skip (.bool false) <| bc_nil) (by kernel_rfl)) ?_
  refine wl_e rfl ?_; intro K hK
  refine ow_storeA hS 1 rfl ts_32 (tmP rfl rfl) (tmA rfl rfl) rfl rfl rfl ?_
  clear hS; intro w hS
  try replace hS := St.nm (M' := [.blk _ _ [_, _, _, _, _, _, _, _, _], .blk _ _ [_, _, _, _, _, _, _, _, _, _, _], .vw _ _]) hS rfl
  refine hK _ _ ?_; clear hK K
  refine wl_v (x_assign ev_c) ?_
  refine wl_nil ?_
  refine then_n (hK8 _ _ ?_); clear hK8 K8
  refine wp_ret ?_
  refine then_r ?_
  refine ret2 rfl (.cell rfl rfl (load_rowB (cs := [_, _, _, _, _, _, _, _, _, _, _]) hS.ok 1 rfl Try.underlying32 rfl ts_32 rfl)) (.tmp rfl (show _ = Value.bool _ from rfl)) ?_
  exact ⟨rfl, hS.kp⟩
set_option maxRecDepth 100000 in
set_option maxHeartbeats 8000000 in
theorem sread6_other (l : List Nat) (s d : Ad) (sz pr : Nat) (hH : HdS 13 l s d pr sz) (h6 : pr ≠ 6) (h17 : pr ≠ 17) : ReadS 6 true l (quV adZ adZ 0 0 0 0 false) false := fun w0 A c hv hc => by
  have hS := (St.sv w0).vcons rfl hv
  refine ent (n := 54) Try.func6 rfl rfl ?_
  refine wp_seq_k ?_; intro K1 hK1
  refine wlit ?_
  refine wl_e rfl ?_; intro K hK
  refine ow_alloc hS tz_32 rfl ?_
  clear hS; intro g0_0 w hg0_0 hS
  refine hK _ _ ?_; clear hK K
  refine wl_v (x_assign ev_c) ?_
  refine wl_nil ?_
  refine then_n (hK1 _ _ ?_); clear hK1 K1
  refine wp_seq_k ?_; intro K2 hK2
  refine wlit ?_
  refine wl_v (x_assign rfl) ?_
  refine wl_nil ?_
  refine then_n (hK2 _ _ ?_); clear hK2 K2
  refine wp_seq_k ?_; intro K3 hK3
  refine wp_seq_k ?_; intro K4 hK4
  refine wlit ?_
  refine wl_v (x_move (tmB rfl rfl)) ?_
  refine wl_nil ?_
  refine then_n (hK4 _ _ ?_); clear hK4 K4
  refine cnds (tm rfl) (fun hc0 => ?_) (fun hc0 => ?_)
  · exfalso
    simp at hc0
  try simp only [nrm] at hc0
  refine wlit ?_
  refine wl_v (x_assign rfl) ?_
  refine wl_nil ?_
  refine then_n (hK3 _ _ ?_); clear hK3 K3
  refine wp_seq_k ?_; intro K5 hK5
  refine wlit ?_
  refine wl_v (x_move (tm rfl)) ?_
  refine wl_v (x_move (tmS rfl rfl)) ?_
  refine wl_e rfl ?_; intro K hK
  refine ow_dyn (tm rfl) Try.func13 rfl rfl (evs_cons (tmS rfl rfl) <| evs_nil) (hH _ A c (viewV hS.ok 1 rfl) hc) ?_
  rintro e w ⟨rfl, hk⟩
  refine ⟨_, rfl, ?_⟩
  replace hS := hS.kept hk
  clear hk
  refine hK _ _ ?_; clear hK K
  refine wl_v (x_move (tmT rfl rfl)) ?_
  refine wl_v (x_ext (tmT rfl rfl) rfl) ?_
  refine wl_v (x_ext (tmT rfl rfl) rfl) ?_
  refine wl_v (x_ext (tmT rfl rfl) rfl) ?_
  refine wl_e rfl ?_; intro K hK
  refine ow_alloc hS tz_29 rfl ?_
  clear hS; intro g4_7 w hg4_7 hS
  refine hK _ _ ?_; clear hK K
  refine wl_e rfl ?_; intro K hK
  refine ow_storeA hS 0 rfl ts_29 (tmP rfl rfl) (tmA rfl rfl) rfl rfl rfl ?_
  clear hS; intro w hS
  try replace hS := St.nm (M' := [.blk _ _ [_, _, _, _, _, _, _, _, _], .blk _ _ [_, _, _, _, _, _, _, _, _, _, _], .vw _ _]) hS rfl
  refine hK _ _ ?_; clear hK K
  refine wl_v (x_assign (tmS rfl rfl)) ?_
  refine wl_v (x_assign (tmB rfl rfl)) ?_
  refine wl_nil ?_
  refine then_n (hK5 _ _ ?_); clear hK5 K5
  refine wp_seq_k ?_; intro K6 hK6
  refine wp_seq_k ?_; intro K7 hK7
  refine wlit ?_
  refine wl_v (x_move (tmB rfl rfl)) ?_
  refine wl_v (x_not (tmB rfl rfl)) ?_
  refine wl_v (x_move (tmB rfl rfl)) ?_
  refine gs_wl (tm (t := 22) rfl) (fun hg5_2 => ?_) (fun hg5_2 => ?_)
  · exfalso
    simp at hg5_2
  have hg5_2' := hg5_2; (try simp only [nrm] at hg5_2')
  refine wl_gv (want_y rfl rfl rfl rfl (by rw [hg5_2]; rfl)) (x_fa 8 Try.underlying29 rfl rfl ts_5 (tmP rfl rfl)) ?_
  refine wl_gv (want_y rfl rfl rfl rfl (by rw [hg5_2]; rfl)) (x_load Try.underlying5 rfl (tmP rfl rfl) (cellB hS.ok 0 rfl rfl)) ?_
  refine wl_gv (want_y rfl rfl rfl rfl (by rw [hg5_2]; rfl)) (x_neq (tmI rfl rfl) (ev_cN 6)) ?_
  refine wl_gv (want_y rfl rfl rfl rfl (by rw [hg5_2]; rfl)) (x_move (tmB rfl rfl)) ?_
  refine gs_wls (tm (t := 26) rfl) (fun hg5_6 => ?_) (fun hg5_6 => ?_)
  · exfalso
    first | omega | (simp at hg5_6; omega)
  have hg5_6' := hg5_6; (try simp only [nrm] at hg5_6')
  refine wl_gv (want_y rfl rfl rfl rfl (by rw [hg5_6]; rfl)) (x_fa 8 Try.underlying29 rfl rfl ts_5 (tmP rfl rfl)) ?_
  refine wl_gv (want_y rfl rfl rfl rfl (by rw [hg5_6]; rfl)) (x_load Try.underlying5 rfl (tmP rfl rfl) (cellB hS.ok 0 rfl rfl)) ?_
  refine wl_gv (want_y rfl rfl rfl rfl (by rw [hg5_6]; rfl)) (x_neq (tmI rfl rfl) (ev_cN 17)) ?_
  refine wl_gv (want_y rfl rfl rfl rfl (by rw [hg5_2]; rfl)) (x_pickT (tmB rfl rfl) hg5_6 (tmB rfl rfl)) ?_
  refine wl_v (x_pickF (tmB rfl rfl) hg5_2 (tmB rfl rfl)) ?_
  refine wl_nil ?_
  refine then_n (hK7 _ _ ?_); clear hK7 K7
  refine cnds (tm rfl) (fun hc1 => ?_) (fun hc1 => ?_)
  · exfalso
    first | omega | (simp at hc1; omega)
  try simp only [nrm] at hc1
  refine wp_seq_k ?_; intro K8 hK8
  refine wlit ?_
  refine wl_v (x_build (bc_skipL [.bool false, .int .u64 0, .int .u64 0, .bool false, .int .u64 0, .int .u64 0, .int .u16 0, .int .u16 0, .int .u8 0] <| bc_skip (.int .u32 0) <| bc_skip (.bool false) <| bc_nil) (by kernel_rfl)) ?_
  refine wl_e rfl ?_; intro K hK
  refine ow_storeA hS 1 rfl ts_32 (tmP rfl rfl) (tmA rfl rfl) rfl rfl rfl ?_
  clear hS; intro w hS
  try replace hS := St.nm (M' := [.blk _ _ [_, _, _, _, _, _, _, _, _], .blk _ _ [_, _, _, _, _, _, _, _, _, _, _], .vw _ _]) hS rfl
  refine hK _ _ ?_; clear hK K
  refine wl_v (x_assign ev_c) ?_
  refine wl_nil ?_
  refine then_n (hK8 _ _ ?_); clear hK8 K8
  refine wp_ret ?_
  refine then_r ?_
  refine ret2 rfl (.cell rfl rfl (load_rowB (cs := [_, _, _, _, _, _, _, _, _, _, _]) hS.ok 1 rfl Try.underlying32 rfl ts_32 rfl)) (.tmp rfl (show _ = Value.bool _ from rfl)) ?_
  exact ⟨rfl, hS.kp⟩
end Go.Proofs.Ytcobjneobdihkaa
/- steer: Read, said of the bytes; prefixes of a packet that is fine. Conditions: none but bounds. -/
namespace Go.Proofs.Ytcobjneobdihkaa
open Go.ChangeShapes Go.WideShapes Go.ChangeAt Go.RowKit
theorem pto_t (x : List Nat) (hb : Bytes x) (hn : x.length ≤ 3000) : ∃ o er, Bytes o ∧ o.length ≤ 3000 ∧ PTo 33 x o er ∧ (er = 0 → topts x = some o) ∧ (er ≠ 0 → topts x = none) := by
  obtain ⟨t, er, ht, her, h1, h2, hP, _⟩ := pt_ex x hb hn
  refine ⟨t.o, er, ht.1, ht.2.2.1, fun w A c hv hc => ?_, fun h => (h1 h).1, h2⟩
  exact Calls.mono (hP w A c hv hc) fun e w' ⟨O, co, X, cx, e1, e2, e3, e4, e5⟩ => ⟨t.t1, t.t2, t.t3, t.t4, t.t5, t.t6, t.t7, t.t8, O, co, X, t.x.length, cx, e1, e2, e3, e5⟩
/-- The stamp of options. -/
def soH (o : List Nat) : Bool := (stampsL o 0).isSome
def soV (o : List Nat) : Nat := match stampsL o 0 with | some q => getN o q 4 | none => 0
theorem soV_none {o : List Nat} (h : soH o = false) : soV o = 0 := by
  unfold soH at h; unfold soV
  cases hs : stampsL o 0 with
  | none => rfl
  | some q => rw [hs] at h; cases h
def xoH (x : List Nat) : Bool := match topts x with | some o => soH o | none => false
def xoV (x : List Nat) : Nat := match topts x with | some o => soV o | none => 0
theorem xo_some {x o : List Nat} (h : topts x = some o) : xoH x = soH o ∧ xoV x = soV o := by unfold xoH xoV; rw [h]; exact ⟨rfl, rfl⟩
theorem xo_st {x o : List Nat} {er : Nat} (h1 : er = 0 → topts x = some o) (h2 : er ≠ 0 → topts x = none) : stHas o er = xoH x ∧ stVal o er = xoV x := by
  by_cases h0 : er = 0
  · rw [(xo_some (h1 h0)).1, (xo_some (h1 h0)).2]
    unfold stHas stVal soH soV
    rw [if_pos h0, decide_eq_true h0]
    exact ⟨rfl, rfl⟩
  · rw [(st_bad h0).1, (st_bad h0).2]
    unfold xoH xoV
    rw [h2 h0]
    exact ⟨rfl, rfl⟩
theorem xo_mono {x : List Nat} {k : Nat} (h : xoH (x.take k) = true) : xoH x = true ∧ xoV x = xoV (x.take k) := by
  cases ht : topts (x.take k) with
  | none => unfold xoH at h; rw [ht] at h; cases h
  | some o =>
    have h2 := topts_mono ht
    rw [(xo_some h2).1, (xo_some h2).2, (xo_some ht).2, ← (xo_some ht).1]
    exact ⟨h, rfl⟩
def Hdx (six : Bool) (l : List Nat) (sz : Nat) (s d : Ad) (pr : Nat) : Prop := (six = false ∧ Hd4 l sz ∧ s = src4 l ∧ d = dst4 l ∧ pr = nth l 9) ∨ (six = true ∧ Hd6 l ∧ sz = 40 ∧ s = src6 l ∧ d = dst6 l ∧ pr = nth l 6)
def xqV (l : List Nat) (sz : Nat) (s d : Ad) (pr : Nat) : List Value := quV s d (getN l sz 2) (getN l (sz + 2) 2) pr (if pr = 6 then xoV (l.drop sz) else 0) (decide (pr = 6) && xoH (l.drop sz))
theorem steer_ok (six : Bool) (l : List Nat) (hb : Bytes l) (hn : l.length ≤ 3000) (sz : Nat) (s d : Ad) (pr : Nat) (hH : Hdx six l sz s d pr) (hp : pr = 6 ∨ pr = 17) : ReadS 6 six l (xqV l sz s d pr) true := by
  obtain ⟨o, er, hob, ho, hP, h1, h2⟩ := pto_t (l.drop sz) (hb.drop sz) (by rw [List.length_drop]; omega)
  have hx := xo_st h1 h2
  unfold xqV
  rw [← hx.1, ← hx.2]
  rcases hH with ⟨rfl, h4, rfl, rfl, rfl⟩ | ⟨rfl, h6, rfl, rfl, rfl, rfl⟩
  · have hH := header4_c l hb hn sz h4
    have h8 : sz + 8 ≤ l.length := h4.2.2.2.2.1
    rcases hp with hp | hp
    · rw [hp] at hH ⊢
      exact sread4_tcp l hb hn _ _ sz hH h8 o er hob ho hP
    · rw [hp] at hH ⊢
      exact sread4_udp l hb hn _ _ sz hH h8
  · have hH := header6_c l hb hn h6
    have h8 : 40 + 8 ≤ l.length := h6.1
    rcases hp with hp | hp
    · rw [hp] at hH ⊢
      exact sread6_tcp l hb hn _ _ 40 hH h8 o er hob ho hP
    · rw [hp] at hH ⊢
      exact sread6_udp l hb hn _ _ 40 hH h8
theorem steer_no (six : Bool) (l : List Nat) (hb : Bytes l) (hn : l.length ≤ 3000) (h : ¬ ∃ sz s d pr, Hdx six l sz s d pr ∧ (pr = 6 ∨ pr = 17)) : ReadS 6 six l (quV adZ adZ 0 0 0 0 false) false := by
  cases six with
  | false =>
    by_cases h4 : ∃ sz, Hd4 l sz
    · obtain ⟨sz, h4⟩ := h4
      exact sread4_other l _ _ sz _ (header4_c l hb hn sz h4) (fun hp => h ⟨sz, _, _, _, .inl ⟨rfl, h4, rfl, rfl, rfl⟩, .inl hp⟩) (fun hp => h ⟨sz, _, _, _, .inl ⟨rfl, h4, rfl, rfl, rfl⟩, .inr hp⟩)
    · exact sread4_no l (header4_bad l hb hn h4)
  | true =>
    by_cases h6 : Hd6 l
    · exact sread6_other l _ _ 40 _ (header6_c l hb hn h6) (fun hp => h ⟨40, _, _, _, .inr ⟨rfl, h6, rfl, rfl, rfl, rfl⟩, .inl hp⟩) (fun hp => h ⟨40, _, _, _, .inr ⟨rfl, h6, rfl, rfl, rfl, rfl⟩, .inr hp⟩)
    · exact sread6_no l (header6_bad l hb hn h6)
theorem getN_take {l : List Nat} {m p k : Nat} (h : p + k ≤ m) : getN (l.take m) p k = getN l p k := by
  unfold getN
  rw [List.drop_take, List.take_take, Nat.min_eq_left (by omega)]
/-- A prefix that tells a flow tells the same. -/
theorem hdx_take {six : Bool} {l : List Nat} {m sz sz' : Nat} {s d s' d' : Ad} {pr pr' : Nat} (h : Hdx six l sz s d pr) (h' : Hdx six (l.take m) sz' s' d' pr') : sz' = sz ∧ s' = s ∧ d' = d ∧ pr' = pr ∧ sz + 8 ≤ m := by
  rcases h with ⟨rfl, ⟨a1, a2, a3, a4, a5, a6⟩, rfl, rfl, rfl⟩ | ⟨rfl, ⟨a1, a2⟩, rfl, rfl, rfl, rfl⟩
  · rcases h' with ⟨_, ⟨b1, b2, b3, b4, b5, b6⟩, rfl, rfl, rfl⟩ | ⟨h0, _⟩
    · rw [List.length_take] at b1 b5
      rw [nth_take (by omega)] at b3
      refine ⟨b3.trans a3.symm, ?_, ?_, nth_take (by omega), by omega⟩
      · unfold src4; rw [getN_take (by omega)]
      · unfold dst4; rw [getN_take (by omega)]
    · cases h0
  · rcases h' with ⟨h0, _⟩ | ⟨_, ⟨b1, b2⟩, rfl, rfl, rfl, rfl⟩
    · cases h0
    · rw [List.length_take] at b1
      refine ⟨rfl, ?_, ?_, nth_take (by omega), by omega⟩
      · unfold src6; rw [getN_take (by omega), getN_take (by omega)]
      · unfold dst6; rw [getN_take (by omega), getN_take (by omega)]
/-- What a packet that is fine says to steer. -/
theorem whole_hd {l x : List Nat} {i ri : Inf} (hX : Xpl i.six l i.s i.d i.pr x) (hC : CarX i x ri) : ∃ sz, Hdx ri.six l sz ri.s ri.d ri.pr ∧ getN l sz 2 = ri.sp ∧ getN l (sz + 2) 2 = ri.dp ∧ ((ri.pr = 6 ∧ xoH (l.drop sz) = soH ri.T.o ∧ xoV (l.drop sz) = soV ri.T.o) ∨ (ri.pr = 17 ∧ soH ri.T.o = false)) := by
  obtain ⟨c1, c2, c3, c4, c5⟩ := hC
  have hgo : ∀ sz m, x = (l.drop sz).take m → 8 ≤ x.length → Hdx ri.six l sz ri.s ri.d ri.pr → ∃ sz, Hdx ri.six l sz ri.s ri.d ri.pr ∧ getN l sz 2 = ri.sp ∧ getN l (sz + 2) 2 = ri.dp ∧ ((ri.pr = 6 ∧ xoH (l.drop sz) = soH ri.T.o ∧ xoV (l.drop sz) = soV ri.T.o) ∨ (ri.pr = 17 ∧ soH ri.T.o = false)) := fun sz m hx h8 hH => by
    have hm : 8 ≤ m := by rw [hx, List.length_take] at h8; omega
    have e1 : getN x 0 2 = getN l sz 2 := by rw [hx, getN_take (by omega), getN_drop0]
    have e2 : getN x 2 2 = getN l (sz + 2) 2 := by rw [hx, getN_take (by omega), getN_drop]
    refine ⟨sz, hH, ?_, ?_, ?_⟩
    · rcases c5 with ⟨_, _, h, _, _⟩ | ⟨_, _, h, _, _⟩ <;> rw [h, e1]
    · rcases c5 with ⟨_, _, _, h, _⟩ | ⟨_, _, _, h, _⟩ <;> rw [h, e2]
    · rcases c5 with ⟨h, ht, _, _, _⟩ | ⟨h, ht, _, _, _⟩
      · rw [hx] at ht
        exact .inl ⟨c4.trans h, (xo_some (topts_mono ht)).1, (xo_some (topts_mono ht)).2⟩
      · exact .inr ⟨c4.trans h, by rw [ht]; rfl⟩
  have h8 : 8 ≤ x.length := by rcases c5 with ⟨_, _, _, _, h⟩ | ⟨_, _, _, _, h⟩ <;> omega
  rcases hX with ⟨h1, sz, len, hf, hle, hfr, h2, h3, h4, hx⟩ | ⟨h1, hv, hl, h2, h3, h4, len, hx⟩
  · refine hgo sz (len - sz) hx h8 (.inl ⟨c1.trans h1, ⟨hf.n20, hf.four, hf.size.symm, hf.sz20, ?_, hfr⟩, c2.trans h2, c3.trans h3, c4.trans h4⟩)
    have := h8
    rw [hx, List.length_take, List.length_drop] at this
    omega
  · refine hgo 40 len hx h8 (.inr ⟨c1.trans h1, ⟨?_, hv⟩, rfl, c2.trans h2, c3.trans h3, c4.trans h4⟩)
    have := h8
    rw [hx, List.length_take, List.length_drop] at this
    omega
/-- Steer's Read of a packet that is fine, and of its prefixes. -/
theorem whole_steer (l : List Nat) (hb : Bytes l) (hn : l.length ≤ 3000) {x : List Nat} {i ri : Inf} (hX : Xpl i.six l i.s i.d i.pr x) (hC : CarX i x ri) : ri.pr = 6 ∨ ri.pr = 17 →
    (soH ri.T.o = true → ri.pr = 6) ∧ ReadS 6 ri.six l (quV ri.s ri.d ri.sp ri.dp ri.pr (soV ri.T.o) (soH ri.T.o)) true ∧
    ∀ m, ∃ (s d : Ad) (sp dp pr st : Nat) (has ok : Bool), ReadS 6 ri.six (l.take m) (quV s d sp dp pr st has) ok ∧ (ok = true → s = ri.s ∧ d = ri.d ∧ sp = ri.sp ∧ dp = ri.dp ∧ pr = ri.pr ∧ (has = true → soH ri.T.o = true ∧ st = soV ri.T.o)) := fun hp => by
  obtain ⟨sz, hH, e1, e2, e3⟩ := whole_hd hX hC
  have hqs : (if ri.pr = 6 then xoV (l.drop sz) else 0) = soV ri.T.o ∧ (decide (ri.pr = 6) && xoH (l.drop sz)) = soH ri.T.o := by
    rcases e3 with ⟨h6, h1, h2⟩ | ⟨h17, h1⟩
    · rw [if_pos h6, decide_eq_true h6, h1, h2]; exact ⟨rfl, rfl⟩
    · rw [if_neg (by omega), decide_eq_false (by omega), h1, soV_none h1]; exact ⟨rfl, rfl⟩
  refine ⟨fun h => ?_, ?_, fun m => ?_⟩
  · rcases e3 with ⟨h6, _⟩ | ⟨_, h1⟩
    · exact h6
    · rw [h1] at h; cases h
  · have h := steer_ok ri.six l hb hn sz _ _ _ hH hp
    unfold xqV at h
    rw [e1, e2, hqs.1, hqs.2] at h
    exact h
  · have hbt : Bytes (l.take m) := hb.take m
    have hnt : (l.take m).length ≤ 3000 := by rw [List.length_take]; omega
    by_cases h' : ∃ sz s d pr, Hdx ri.six (l.take m) sz s d pr ∧ (pr = 6 ∨ pr = 17)
    · obtain ⟨sz', s', d', pr', hH', hp'⟩ := h'
      have hr := steer_ok ri.six _ hbt hnt sz' s' d' pr' hH' hp'
      obtain ⟨rfl, rfl, rfl, rfl, hm⟩ := hdx_take hH hH'
      refine ⟨_, _, _, _, _, _, _, _, hr, fun _ => ⟨rfl, rfl, ?_, ?_, rfl, fun hh => ?_⟩⟩
      · rw [getN_take (by omega), e1]
      · rw [getN_take (by omega), e2]
      · have hpr : ri.pr = 6 := by
          by_cases h6 : ri.pr = 6
          · exact h6
          · rw [decide_eq_false h6] at hh; cases hh
        rw [decide_eq_true hpr, Bool.true_and, List.drop_take] at hh
        obtain ⟨g1, g2⟩ := xo_mono hh
        rw [if_pos hpr] at hqs ⊢
        rw [decide_eq_true hpr, Bool.true_and] at hqs
        rw [← hqs.1, ← hqs.2, List.drop_take]
        exact ⟨g1, g2.symm⟩
    · exact ⟨_, _, _, _, _, _, _, _, steer_no ri.six _ hbt hnt h', fun h => by cases h⟩
set_option maxRecDepth 100000 in
theorem stamp_j (a1 a2 a3 a4 a5 a6 a7 a8 : Nat) (O : Option Addr) (m c : Nat) (L : Option Addr) (k d : Nat) (o : List Nat) (w0 : World) (hv : View w0 w0.heap.size O (o.map u8v)) (hl : o.length = m) (hmc : m ≤ c) (hb : Bytes o) (hn4 : m ≤ 900000) :
    Calls Try.prog 10 #[.agg (segV a1 a2 a3 a4 a5 a6 a7 a8 O m c L k d).toArray] w0 fun e w' => ∃ v : Nat, e = .returned (.tuple #[.int .u32 ((soV o : Nat) : Int), .int .u32 (v : Int), .bool (soH o)]) ∧ Kp [] w0 w' := by
  unfold soV soH
  cases h : stampsL o 0 with
  | none => exact Calls.mono (stamp_none_c a1 a2 a3 a4 a5 a6 a7 a8 O m c L k d o w0 hv hl hb hn4 h) fun e w' ⟨e1, e2⟩ => ⟨0, e1, e2⟩
  | some q => exact Calls.mono (stamp_some_c a1 a2 a3 a4 a5 a6 a7 a8 O m c L k d o q w0 hv hl hmc hb hn4 h) fun e w' ⟨e1, e2⟩ => ⟨_, e1, e2⟩
end Go.Proofs.Ytcobjneobdihkaa
/- steer: the law's example, by contract. Conditions: none. -/
namespace Go.Proofs.Ytcobjneobdihkaa
open Go.ChangeShapes Go.WideShapes Go.ChangeAt Go.RowKit
def ex29 : List Nat := hd4B 0 28 0 (flN 0 false false) 9 17 (hd4C 0 28 0 (flN 0 false false) 9 17 0 0 []) 0 0 [] ++ [0, 7, 0, 9, 0, 8, 0, 0]
theorem ex29_len : ex29.length = 28 := by unfold ex29; rw [List.length_append, hd4B_len]; rfl
theorem ex29_bytes : Bytes ex29 := Bytes.append (hd4B_bytes _ _ _ _ _ _ _ _ _ Bytes.nil) (by intro b hb; simp at hb; omega)
theorem ex29_0 : nth ex29 0 = 69 := by rfl
theorem ex29_9 : nth ex29 9 = 17 := by rfl
theorem ex29_6 : getN ex29 6 2 = 0 := by rfl
theorem ex29_t : ex29.drop 20 = [0, 7, 0, 9, 0, 8, 0, 0] := by
  unfold ex29
  exact List.drop_left' (hd4B_len _ _ _ _ _ _ _ _ _ [])
theorem ex29_h : Hd4 ex29 20 := ⟨by rw [ex29_len]; decide, by rw [ex29_0], by rw [ex29_0], by decide, by rw [ex29_len]; decide, by rw [ex29_6]⟩
theorem ex29_read : ReadS 6 false ex29 (quV (src4 ex29) (dst4 ex29) 7 9 17 0 false) true := by
  have hH := header4_c ex29 ex29_bytes (by rw [ex29_len]; decide) 20 ex29_h
  rw [ex29_9] at hH
  have h := sread4_udp ex29 ex29_bytes (by rw [ex29_len]; decide) _ _ 20 hH (by rw [ex29_len]; decide)
  have e1 : getN ex29 20 2 = 7 := by rw [← getN_drop0, ex29_t]; rfl
  have e2 : getN ex29 (20 + 2) 2 = 9 := by rw [← getN_drop, ex29_t]; rfl
  rw [e1, e2] at h
  exact h
theorem ex29_cut : ReadS 6 false (ex29.take 27) (quV adZ adZ 0 0 0 0 false) false := by
  have hl : (ex29.take 27).length = 27 := by rw [List.length_take, ex29_len]; rfl
  refine sread4_no _ (header4_bad _ (ex29_bytes.take 27) (by rw [hl]; decide) fun ⟨sz, h1, h2, h3, h4, h5, h6⟩ => ?_)
  have e0 : nth (ex29.take 27) 0 = 69 := by rfl
  rw [e0] at h3
  rw [hl] at h5
  omega
set_option maxRecDepth 100000 in
set_option maxHeartbeats 4000000 in
theorem law29_awake_c (w0 : World) : Calls Try.prog 5 #[] w0 fun e w' => e = .returned (.bool true) ∧ Kp [] w0 w' := by
  have hS := St.sv w0
  have hpc : ∀ (w : World) (L : Option Addr), View w w.heap.size L (([0, 7, 0, 9, 0, 8, 0, 0] : List Nat).map u8v) → Calls Try.prog 11 #[.agg #[.int .u8 0, .int .i64 0, .int .u16 0, .bool false, .bool false, .int .i64 0, .int .u8 9, .int .u8 17, .int .u16 0, .bool false, .int .u64 0, .int .u64 0, .bool false, .int .u64 0, .int .u64 0, .slice none 0 0], .slice L 8 8] w fun e w' => ∃ A n c', n = 28 ∧ e = .returned (.tuple #[.slice A n c', .int .i64 0]) ∧ New w w' (.row (.slice A n c') 5 1 n (ex29.map u8v)) ∧ Kp [] w w' := fun w L h =>
    ip4_packet_c 0 0 0 false false 0 9 17 0 0 0 none 0 [] L 8 [0, 7, 0, 9, 0, 8, 0, 0] w View.nil_ Bytes.nil h (by decide) (by decide) (by decide) (by decide) (by decide)
  have hR : ∀ (w : World) (A : Option Addr) (c : Nat), View w w.heap.size A (ex29.map u8v) → 28 ≤ c → Calls Try.prog 6 #[.slice A 28 c, .bool false] w fun e w' => e = .returned (.tuple #[.agg (quV (src4 ex29) (dst4 ex29) 7 9 17 0 false).toArray, .bool true]) ∧ Kp [] w w' := fun w A c hv hc => by
    have h := ex29_read w A c hv (by rw [ex29_len]; exact hc)
    rw [ex29_len] at h
    exact h
  have hN : ∀ (w : World) (A : Option Addr) (c m : Nat), m = 27 → View w w.heap.size A ((ex29.take 27).map u8v) → 27 ≤ c → Calls Try.prog 6 #[.slice A m c, .bool false] w fun e w' => e = .returned (.tuple #[.agg (quV adZ adZ 0 0 0 0 false).toArray, .bool false]) ∧ Kp [] w w' := fun w A c m hm hv hc => by
    have hl : (ex29.take 27).length = 27 := by rw [List.length_take, ex29_len]; rfl
    have h := ex29_cut w A c hv (by rw [hl]; omega)
    rw [hl] at h
    rw [hm]
    exact h
  refine ent (n := 48) Try.func5 rfl rfl ?_
  refine wp_seq_k ?_; intro K1 hK1
  refine wlit ?_
  refine wl_v (x_assign ev_c) ?_
  refine wl_nil ?_
  refine then_n (hK1 _ _ ?_); clear hK1 K1
  refine wp_seq_k ?_; intro K2 hK2
  refine wlit ?_
  refine wl_v (x_build (bc_skip (.int .u8 0) <| bc_skip (.int .i64 0) <| bc_skip (.int .u16 0) <| bc_skip (.bool false) <| bc_skip (.bool false) <| bc_skip (.int .i64 0) <| bc_take (ev_cN 9) <| bc_take (ev_cN 17) <| bc_skip (.int .u16 0) <| bc_skipL [.bool false, .int .u64 0, .int .u64 0] <| bc_skipL [.bool false, .int .u64 0, .int .u64 0] <| bc_skip (.slice none 0 0) <| bc_nil) (by kernel_rfl)) ?_
  refine wl_e rfl ?_; intro K hK
  refine ow_build hS Try.underlying22 tz_5 (bc_take (ev_cN 0) <| bc_take (ev_cN 7) <| bc_take (ev_cN 0) <| bc_take (ev_cN 9) <| bc_take (ev_cN 0) <| bc_take (ev_cN 8) <| bc_take (ev_cN 0) <| bc_take (ev_cN 0) <| bc_nil) rfl rfl (by kernel_rfl) ?_
  clear hS; intro g1_1 w hg1_1 hS
  refine hK _ _ ?_; clear hK K
  refine wl_e rfl ?_; intro K hK
  refine ow_call Try.func11 rfl rfl (evs_cons (tmA rfl rfl) <| evs_cons (tmS rfl rfl) <| evs_nil) (hpc _ _ (viewB hS.ok 0 rfl)) ?_
  rintro e w ⟨A2, n2, c2, rfl, rfl, hn, hk⟩
  refine ⟨_, rfl, ?_⟩
  replace hS := (hS.add hk hn) -- +rowp
  clear hn hk
  have hcap : 28 ≤ c2 := row_cap (hS.rowOk 0 rfl) (by decide)
  replace hS := hS.freeze 0 rfl --ents vp,g1_1
  refine hK _ _ ?_; clear hK K
  refine wl_v (x_move (tmT rfl rfl)) ?_
  refine wl_v (x_ext (tmT rfl rfl) rfl) ?_
  refine wl_v (x_ext (tmT rfl rfl) rfl) ?_
  refine wl_v (x_assign (tmS rfl rfl)) ?_
  refine wl_v (x_assign (tmI rfl rfl)) ?_
  refine wl_nil ?_
  refine then_n (hK2 _ _ ?_); clear hK2 K2
  refine wp_seq_k ?_; intro K3 hK3
  refine wlit ?_
  refine wl_v (x_move (tmS rfl rfl)) ?_
  refine wl_e rfl ?_; intro K hK
  refine ow_call Try.func6 rfl rfl (evs_cons (tmS rfl rfl) <| evs_cons ev_c <| evs_nil) (hR _ _ _ (viewV hS.ok 0 rfl) hcap) ?_
  rintro e w ⟨rfl, hk⟩
  refine ⟨_, rfl, ?_⟩
  replace hS := hS.kept hk
  clear hk
  refine hK _ _ ?_; clear hK K
  refine wl_v (x_move (tmT rfl rfl)) ?_
  refine wl_v (x_ext (tmT rfl rfl) rfl) ?_
  refine wl_v (x_ext (tmT rfl rfl) rfl) ?_
  refine wl_e rfl ?_; intro K hK
  refine ow_alloc hS tz_32 rfl ?_
  clear hS; intro g2_5 w hg2_5 hS
  refine hK _ _ ?_; clear hK K
  refine wl_e rfl ?_; intro K hK
  refine ow_storeA hS 0 rfl ts_32 (tmP rfl rfl) (tmA rfl rfl) rfl rfl rfl ?_
  clear hS; intro w hS
  try replace hS := St.nm (M' := [.blk _ _ [_, _, _, _, _, _, _, _, _, _, _], .vw _ _, _]) hS rfl
  refine hK _ _ ?_; clear hK K
  refine wl_v (x_assign (tmB rfl rfl)) ?_
  refine wl_nil ?_
  refine then_n (hK3 _ _ ?_); clear hK3 K3
  refine wp_seq_k ?_; intro K4 hK4
  refine wlit ?_
  refine wl_v (x_move (tmS rfl rfl)) ?_
  refine wl_v (x_move (tmS rfl rfl)) ?_
  refine wl_v (x_len Try.underlying22 (tmS rfl rfl)) ?_
  refine wl_v (x_min (tmI rfl rfl) (ev_cN 27)) ?_
  refine wl_v (x_sliceH Try.underlying22 ts_5 (tmS rfl rfl) (tmI rfl rfl) (by omega)) ?_
  replace hS := hS.cutb 1 0 27 rfl (by rw [ex29_len]; exact hcap : ex29.length ≤ c2)
  refine wl_e rfl ?_; intro K hK
  refine ow_call Try.func6 rfl rfl (evs_cons (tmS rfl rfl) <| evs_cons ev_c <| evs_nil) (hN _ _ _ _ (by rfl) (viewV hS.ok 0 rfl) (by omega)) ?_
  rintro e w ⟨rfl, hk⟩
  refine ⟨_, rfl, ?_⟩
  replace hS := hS.kept hk
  clear hk
  refine hK _ _ ?_; clear hK K
  refine wl_v (x_move (tmT rfl rfl)) ?_
  refine wl_v (x_ext (tmT rfl rfl) rfl) ?_
  refine wl_v (x_ext (tmT rfl rfl) rfl) ?_
  refine wl_e rfl ?_; intro K hK
  refine ow_alloc hS tz_32 rfl ?_
  clear hS; intro g3_9 w hg3_9 hS
  refine hK _ _ ?_; clear hK K
  refine wl_e rfl ?_; intro K hK
  refine ow_storeA hS 0 rfl ts_32 (tmP rfl rfl) (tmA rfl rfl) rfl rfl rfl ?_
  clear hS; intro w hS
  try replace hS := St.nm (M' := [.blk _ _ [_, _, _, _, _, _, _, _, _, _, _], .vw _ _, .blk _ _ [_, _, _, _, _, _, _, _, _, _, _], .vw _ _, _]) hS rfl
  refine hK _ _ ?_; clear hK K
  refine wl_v (x_assign (tmB rfl rfl)) ?_
  refine wl_nil ?_
  refine then_n (hK4 _ _ ?_); clear hK4 K4
  refine wp_seq_k ?_; intro K5 hK5
  refine wlit ?_
  refine wl_v (x_move (tmI rfl rfl)) ?_
  refine wl_v (x_eql (tmI rfl rfl) (ev_cN 0)) ?_
  refine wl_v (x_move (tmB rfl rfl)) ?_
  refine gs_wl (tm (t := 29) rfl) (fun hg4_2 => ?_) (fun hg4_2 => ?_)
  · have hg4_2' := hg4_2; (try simp only [nrm] at hg4_2')
    refine wl_gv (want_y rfl rfl rfl rfl (by rw [hg4_2]; rfl)) (x_move (tmB rfl rfl)) ?_
    refine wl_v (x_pickT (tmB rfl rfl) hg4_2 (tmB rfl rfl)) ?_
    refine wl_v (x_move (tmB rfl rfl)) ?_
    refine gs_wl (tm (t := 32) rfl) (fun hg4_5 => ?_) (fun hg4_5 => ?_)
    · have hg4_5' := hg4_5; (try simp only [nrm] at hg4_5')
      refine wl_gv (want_y rfl rfl rfl rfl (by rw [hg4_5]; rfl)) (x_fa 0 Try.underlying32 rfl rfl ts_29 (tmP rfl rfl)) ?_
      refine wl_gv (want_y rfl rfl rfl rfl (by rw [hg4_5]; rfl)) (x_fa 6 Try.underlying29 rfl rfl ts_27 (tmP rfl rfl)) ?_
      refine wl_gv (want_y rfl rfl rfl rfl (by rw [hg4_5]; rfl)) (x_load Try.underlying27 rfl (tmP rfl rfl) (cellB hS.ok 2 rfl rfl)) ?_
      refine wl_gv (want_y rfl rfl rfl rfl (by rw [hg4_5]; rfl)) (x_eql (tmI rfl rfl) (ev_cN 7)) ?_
      refine wl_v (x_pickT (tmB rfl rfl) hg4_5 (tmB rfl rfl)) ?_
      refine wl_v (x_move (tmB rfl rfl)) ?_
      refine gs_wl (tm (t := 38) rfl) (fun hg4_11 => ?_) (fun hg4_11 => ?_)
      · have hg4_11' := hg4_11; (try simp only [nrm] at hg4_11')
        refine wl_gv (want_y rfl rfl rfl rfl (by rw [hg4_11]; rfl)) (x_fa 0 Try.underlying32 rfl rfl ts_29 (tmP rfl rfl)) ?_
        refine wl_gv (want_y rfl rfl rfl rfl (by rw [hg4_11]; rfl)) (x_fa 7 Try.underlying29 rfl rfl ts_27 (tmP rfl rfl)) ?_
        refine wl_gv (want_y rfl rfl rfl rfl (by rw [hg4_11]; rfl)) (x_load Try.underlying27 rfl (tmP rfl rfl) (cellB hS.ok 2 rfl rfl)) ?_
        refine wl_gv (want_y rfl rfl rfl rfl (by rw [hg4_11]; rfl)) (x_eql (tmI rfl rfl) (ev_cN 9)) ?_
        refine wl_v (x_pickT (tmB rfl rfl) hg4_11 (tmB rfl rfl)) ?_
        refine wl_v (x_move (tmB rfl rfl)) ?_
        refine gs_wl (tm (t := 44) rfl) (fun hg4_17 => ?_) (fun hg4_17 => ?_)
        · have hg4_17' := hg4_17; (try simp only [nrm] at hg4_17')
          refine wl_gv (want_y rfl rfl rfl rfl (by rw [hg4_17]; rfl)) (x_move (tmB rfl rfl)) ?_
          refine wl_gv (want_y rfl rfl rfl rfl (by rw [hg4_17]; rfl)) (x_not (tmB rfl rfl)) ?_
          refine wl_v (x_pickT (tmB rfl rfl) hg4_17 (tmB rfl rfl)) ?_
          refine wl_v (x_assign (tmB rfl rfl)) ?_
          refine wl_nil ?_
          refine then_n (hK5 _ _ ?_); clear hK5 K5
          refine wp_ret ?_
          refine ret1 rfl (.tmp rfl (show _ = Value.bool _ from rfl)) ?_
          exact ⟨by simp, hS.kp⟩
        have hg4_17' := hg4_17; (try simp only [nrm] at hg4_17'); try (exfalso; first | with_reducible exact absurd hg4_17 Bool.false_ne_true | with_reducible exact absurd hg4_17.symm Bool.false_ne_true | omega | (simp at hg4_17; done))
      have hg4_11' := hg4_11; (try simp only [nrm] at hg4_11'); try (exfalso; first | with_reducible exact absurd hg4_11 Bool.false_ne_true | with_reducible exact absurd hg4_11.symm Bool.false_ne_true | omega | (simp at hg4_11; done))
    have hg4_5' := hg4_5; (try simp only [nrm] at hg4_5'); try (exfalso; first | with_reducible exact absurd hg4_5 Bool.false_ne_true | with_reducible exact absurd hg4_5.symm Bool.false_ne_true | omega | (simp at hg4_5; done))
  have hg4_2' := hg4_2; (try simp only [nrm] at hg4_2'); try (exfalso; first | with_reducible exact absurd hg4_2 Bool.false_ne_true | with_reducible exact absurd hg4_2.symm Bool.false_ne_true | omega | (simp at hg4_2; done))
end Go.Proofs.Ytcobjneobdihkaa
