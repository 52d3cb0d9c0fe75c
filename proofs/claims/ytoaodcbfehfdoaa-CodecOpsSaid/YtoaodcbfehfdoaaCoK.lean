
/- codec: what Op writes is read as it was. Any program. -/
import Derived.Test.YtoaodcbfehfdoaaCoJ
namespace Go.Proofs.Ytoaodcbfehfdoaa
open Go.ChangeShapes Go.WideShapes Go.ChangeAt Go.RowKit
section
variable {l0 : List Nat} {N : Nat}
theorem rd1 {P Q : List Nat} {x p : Nat} (h : l0 = P ++ (x :: Q)) (hp : P.length = p) (hN : l0.length = N) : rdN l0 N 1 (some p) = x ∧ adv N 1 (some p) = some (p + 1) := by
  have hle : p + 1 ≤ N := by rw [← hN, h, List.length_append, List.length_cons]; omega
  refine ⟨?_, if_pos hle⟩
  rw [show rdN l0 N 1 (some p) = getN l0 p 1 from if_pos hle, getN_one (by omega)]
  unfold nth
  rw [h, List.getD_eq_getElem?_getD, List.getElem?_append_right (by omega), hp, Nat.sub_self]
  rfl
theorem adOf_adB (a : Ad) (hr : adRight a) (hl : adLim a) : adGood (adB a) ∧ adOf (adB a) = a := by
  obtain ⟨six, high, low⟩ := a
  have l1 : high ≤ 18446744073709551615 := hl.1
  have l2 : low ≤ 18446744073709551615 := hl.2
  cases six with
  | false =>
    have r1 : high = 0 ∧ low ≤ 4294967295 := by rcases hr with h | h; cases h; exact h
    obtain ⟨rfl, r2⟩ := r1
    have hx : adB ⟨false, 0, low⟩ = be low 4 := rfl
    rw [hx]
    refine ⟨.inl (be_length _ _), ?_⟩
    unfold adOf
    rw [if_pos (be_length _ _), numBE_be, Nat.mod_eq_of_lt (by omega)]
  | true =>
    have hx : adB ⟨true, high, low⟩ = be high 8 ++ be low 8 := rfl
    rw [hx]
    refine ⟨.inr (by simp [be_length]), ?_⟩
    unfold adOf
    have g1 : getN (be high 8 ++ be low 8) 0 8 = high % 256 ^ 8 := getN_at (l := be high 8 ++ be low 8) (P := []) (Q := be low 8) (k := 0) (s := 8) (v := high) rfl rfl
    have g2 : getN (be high 8 ++ be low 8) 8 8 = low % 256 ^ 8 := getN_at (l := be high 8 ++ be low 8) (P := be high 8) (Q := []) (k := 8) (s := 8) (v := low) (by rw [List.append_nil]) (be_length _ _)
    rw [if_neg (by simp [be_length]), g1, g2, Nat.mod_eq_of_lt (by omega), Nat.mod_eq_of_lt (by omega)]
theorem msE_split (l : List Mm) (i : Nat) (h : i < l.length) : msE l = msE (l.take i) ++ ((l.getD i default).1.toNat :: (l.getD i default).2.toNat :: msE (l.drop (i + 1))) := by
  have h1 : msE l = msE (l.take (i + 1)) ++ msE (l.drop (i + 1)) := by
    unfold msE
    rw [← List.flatten_append, ← List.map_append, List.take_append_drop]
  rw [h1, msE_snoc _ _ h]
  unfold tn
  simp only [List.map_cons, List.map_nil, List.append_assoc, List.cons_append, List.nil_append]
theorem ms_back {P : List Nat} {p : Nat} {l : List Mm} (h : l0 = P ++ msE l) (hp : P.length = p) (hN : l0.length = N) (hok : okMs l) (i : Nat) (hi : i ≤ l.length) : mq l0 N (some p) i = some (p + 2 * i) ∧ (∀ j, j < i → mmAt l0 N (some p) j = l.getD j default) := by
  induction i with
  | zero => exact ⟨rfl, fun j hj => absurd hj (Nat.not_lt_zero j)⟩
  | succ i ih =>
    obtain ⟨h1, h2⟩ := ih (by omega)
    have hs := msE_split l i (by omega)
    have hlen : (P ++ msE (l.take i)).length = p + 2 * i := by rw [List.length_append, msE_len, List.length_take]; omega
    have r1 := rd1 (l0 := l0) (N := N) (P := P ++ msE (l.take i)) (p := p + 2 * i) (by rw [h, hs, List.append_assoc]) hlen hN
    have r2 := rd1 (l0 := l0) (N := N) (P := P ++ (msE (l.take i) ++ [(l.getD i default).1.toNat])) (Q := msE (l.drop (i + 1))) (x := (l.getD i default).2.toNat) (p := p + 2 * i + 1) (by rw [h, hs]; simp only [List.append_assoc, List.cons_append, List.nil_append]) (by rw [← List.append_assoc, List.length_append, hlen]; rfl) hN
    have hk := hok _ (gmem (l := l) (k := i) (by omega))
    refine ⟨?_, fun j hj => ?_⟩
    · show adv N 1 (adv N 1 (mq l0 N (some p) i)) = _
      rw [h1, r1.2, r2.2]
      exact congrArg some (by omega)
    · rcases (by omega : j < i ∨ j = i) with hlt | rfl
      · exact h2 j hlt
      · unfold mmAt
        rw [h1, r1.1, r1.2, r2.1]
        have e1 := hk.1.1
        have e2 := hk.2.1
        exact Prod.ext (Int.toNat_of_nonneg e1) (Int.toNat_of_nonneg e2)
theorem op_back (h : Hp) (l : List Mm) (hl0 : l0 = opE h l) (hN : l0.length = N) (hok : okOp h l) (hlim : hpLim h) : pOk l0 N ∧ hpOf l0 N = h ∧ pms l0 N (k10 l0 N) (pcnt l0 N) = l := by
  obtain ⟨hms, ⟨o1, o2, o3, o4, o5⟩, o6, o7⟩ := hok
  obtain ⟨hla, hlp, hlq⟩ := hlim
  obtain ⟨hgood, hadOf⟩ := adOf_adB h.a o6 hla
  have hn16 := adN_le h.a
  have hNl : N = 10 + adN h.a + 2 * l.length := by rw [← hN, hl0, opE_len]
  have hw : l0 = h.kind.toNat :: h.vip.toNat :: h.be_.toNat :: h.ve.toNat :: adN h.a :: (adB h.a ++ (be h.port 2 ++ (h.proto :: h.way.toNat :: l.length :: msE l))) := by
    rw [hl0]
    unfold opE tn adE
    simp only [List.map_cons, List.map_nil, List.append_assoc, List.cons_append, List.nil_append, Int.toNat_natCast]
  have a1 := rd1 (l0 := l0) (N := N) (P := []) (p := 0) hw rfl hN
  have a2 := rd1 (l0 := l0) (N := N) (P := [h.kind.toNat]) (p := 1) hw rfl hN
  have a3 := rd1 (l0 := l0) (N := N) (P := [h.kind.toNat, h.vip.toNat]) (p := 2) hw rfl hN
  have a4 := rd1 (l0 := l0) (N := N) (P := [h.kind.toNat, h.vip.toNat, h.be_.toNat]) (p := 3) hw rfl hN
  have a5 := rd1 (l0 := l0) (N := N) (P := [h.kind.toNat, h.vip.toNat, h.be_.toNat, h.ve.toNat]) (p := 4) hw rfl hN
  have e1 : k1 N = some 1 := a1.2
  have e2 : k2 N = some 2 := by unfold k2; rw [e1]; exact a2.2
  have e3 : k3 N = some 3 := by unfold k3; rw [e2]; exact a3.2
  have e4 : k4 N = some 4 := by unfold k4; rw [e3]; exact a4.2
  have hx : qx l0 N (k4 N) = adB h.a := by
    unfold qx
    rw [e4, a5.1, a5.2, show rdB l0 N (adN h.a) (some 5) = (l0.drop 5).take (adN h.a) from if_pos (by omega)]
    exact part_at (P := [h.kind.toNat, h.vip.toNat, h.be_.toNat, h.ve.toNat, adN h.a]) hw rfl (adB_len _)
  have e6 : k6 l0 N = some (5 + adN h.a) := by
    unfold k6 qa
    rw [e4, a5.1, a5.2]
    exact if_pos (by omega)
  have e7 : k7 l0 N = some (7 + adN h.a) := by
    unfold k7
    rw [e6, show adv N 2 (some (5 + adN h.a)) = some (5 + adN h.a + 2) from if_pos (by omega)]
    exact congrArg some (by omega)
  have hw5 : l0 = [h.kind.toNat, h.vip.toNat, h.be_.toNat, h.ve.toNat, adN h.a] ++ adB h.a ++ (be h.port 2 ++ (h.proto :: h.way.toNat :: l.length :: msE l)) := by rw [hw]; simp only [List.append_assoc, List.cons_append, List.nil_append]
  have hl5 : ([h.kind.toNat, h.vip.toNat, h.be_.toNat, h.ve.toNat, adN h.a] ++ adB h.a).length = 5 + adN h.a := by rw [List.length_append, adB_len]; rfl
  have hport : rdN l0 N 2 (k6 l0 N) = h.port := by
    rw [e6, show rdN l0 N 2 (some (5 + adN h.a)) = getN l0 (5 + adN h.a) 2 from if_pos (by omega), getN_at hw5 hl5]
    exact Nat.mod_eq_of_lt (by omega)
  have a8 := rd1 (l0 := l0) (N := N) (P := ([h.kind.toNat, h.vip.toNat, h.be_.toNat, h.ve.toNat, adN h.a] ++ adB h.a) ++ be h.port 2) (Q := h.way.toNat :: l.length :: msE l) (x := h.proto) (p := 7 + adN h.a) (by rw [hw5]; simp only [List.append_assoc]) (by rw [List.length_append, hl5, be_length]; omega) hN
  have a9 := rd1 (l0 := l0) (N := N) (P := (([h.kind.toNat, h.vip.toNat, h.be_.toNat, h.ve.toNat, adN h.a] ++ adB h.a) ++ be h.port 2) ++ [h.proto]) (Q := l.length :: msE l) (x := h.way.toNat) (p := 8 + adN h.a) (by rw [hw5]; simp only [List.append_assoc, List.cons_append, List.nil_append]) (by rw [List.length_append, List.length_append, hl5, be_length]; show _ + 1 = _; omega) hN
  have a10 := rd1 (l0 := l0) (N := N) (P := ((([h.kind.toNat, h.vip.toNat, h.be_.toNat, h.ve.toNat, adN h.a] ++ adB h.a) ++ be h.port 2) ++ [h.proto]) ++ [h.way.toNat]) (Q := msE l) (x := l.length) (p := 9 + adN h.a) (by rw [hw5]; simp only [List.append_assoc, List.cons_append, List.nil_append]) (by rw [List.length_append, List.length_append, List.length_append, hl5, be_length]; show _ + 1 + 1 = _; omega) hN
  have e8 : k8 l0 N = some (8 + adN h.a) := by unfold k8; rw [e7, a8.2]; exact congrArg some (by omega)
  have e9 : k9 l0 N = some (9 + adN h.a) := by unfold k9; rw [e8, a9.2]; exact congrArg some (by omega)
  have e10 : k10 l0 N = some (10 + adN h.a) := by unfold k10; rw [e9, a10.2]; exact congrArg some (by omega)
  have ecnt : pcnt l0 N = l.length := by unfold pcnt; rw [e9, a10.1]
  have hm := ms_back (l0 := l0) (N := N) (P := (((([h.kind.toNat, h.vip.toNat, h.be_.toNat, h.ve.toNat, adN h.a] ++ adB h.a) ++ be h.port 2) ++ [h.proto]) ++ [h.way.toNat]) ++ [l.length]) (p := 10 + adN h.a) (l := l) (by rw [hw5]; simp only [List.append_assoc, List.cons_append, List.nil_append]) (by rw [List.length_append, List.length_append, List.length_append, List.length_append, hl5, be_length]; show _ + 1 + 1 + 1 = _; omega) hN hms l.length (Nat.le_refl _)
  refine ⟨⟨by rw [hx]; exact hgood, by rw [ecnt]; exact o7, ?_⟩, ?_, ?_⟩
  · unfold pend
    rw [e10, ecnt, hm.1]
    exact congrArg some (by omega)
  · obtain ⟨kind, vip, be_, ve, a, port, proto, way⟩ := h
    unfold hpOf
    rw [a1.1, e1, a2.1, e2, a3.1, e3, a4.1, hx, hadOf, hport, e7, a8.1, e8, a9.1]
    have t1 : ((kind.toNat : Nat) : Int) = kind := Int.toNat_of_nonneg o1.1
    have t2 : ((vip.toNat : Nat) : Int) = vip := Int.toNat_of_nonneg o2.1
    have t3 : ((be_.toNat : Nat) : Int) = be_ := Int.toNat_of_nonneg o3.1
    have t4 : ((ve.toNat : Nat) : Int) = ve := Int.toNat_of_nonneg o4.1
    have t5 : ((way.toNat : Nat) : Int) = way := Int.toNat_of_nonneg o5.1
    simp only [t1, t2, t3, t4, t5]
  · rw [e10, ecnt]
    unfold pms
    apply List.ext_getElem?
    intro i
    rw [List.getElem?_map]
    by_cases hi : i < l.length
    · rw [List.getElem?_range hi, List.getElem?_eq_getElem hi]
      have := hm.2 i hi
      rw [List.getD_eq_getElem?_getD, List.getElem?_eq_getElem hi] at this
      exact congrArg some this
    · rw [List.getElem?_eq_none (by rw [List.length_range]; omega), List.getElem?_eq_none (by omega)]
      rfl
end
end Go.Proofs.Ytoaodcbfehfdoaa
