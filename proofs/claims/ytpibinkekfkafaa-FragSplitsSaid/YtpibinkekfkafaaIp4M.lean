
/- ip4: what is written is read: mathematics. -/
import Derived.Test.YtpibinkekfkafaaIp4P
namespace Go.Proofs.Ytpibinkekfkafaa
open Go.RowKit

theorem nth_app_r {p q : List Nat} {i : Nat} : nth (p ++ q) (p.length + i) = nth q i := by
  unfold nth
  rw [List.getD_eq_getElem?_getD, List.getD_eq_getElem?_getD, List.getElem?_append_right (by omega), Nat.add_sub_cancel_left]
theorem nth_app_l {p q : List Nat} {i : Nat} (h : i < p.length) : nth (p ++ q) i = nth p i := by
  unfold nth
  rw [List.getD_eq_getElem?_getD, List.getD_eq_getElem?_getD, List.getElem?_append_left h]
theorem psum_app_l {p q : List Nat} {k : Nat} (h : k ≤ p.length) : psum (p ++ q) k = psum p k := by
  induction k with
  | zero => rfl
  | succ k ih => simp only [psum]; rw [ih (by omega), nth_app_l (by omega)]
theorem psum_append {p q : List Nat} (he : p.length % 2 = 0) (k : Nat) : psum (p ++ q) (p.length + k) = psum p p.length + psum q k := by
  induction k with
  | zero => simp only [Nat.add_zero, psum]; exact psum_app_l (Nat.le_refl _)
  | succ k ih =>
    rw [← Nat.add_assoc]
    simp only [psum]
    rw [ih, nth_app_r]
    have : (p.length + k) % 2 = k % 2 := by omega
    rw [this]
    split <;> omega
theorem psum_be2 {v : Nat} (h : v < 65536) : psum (be v 2) 2 = v := by
  simp only [psum]
  rw [be_nth v 2 0 (by omega), be_nth v 2 1 (by omega)]
  simp
  omega
theorem fold_comp (x : Nat) : foldN (x + (65535 - foldN x)) = 65535 := by
  unfold foldN; split <;> split <;> omega
theorem hd4B_psum (tos len id fl ttl proto ck sl dl : Nat) (o : List Nat) (h : ck < 65536) : psum (hd4B tos len id fl ttl proto ck sl dl o) (20 + o.length) = psum (hd4B tos len id fl ttl proto 0 sl dl o) (20 + o.length) + ck := by
  have key : ∀ v, v < 65536 → psum (hd4B tos len id fl ttl proto v sl dl o) (20 + o.length) = psum ([] ++ be (64 + (20 + o.length) / 4) 1 ++ be tos 1 ++ be len 2 ++ be id 2 ++ be fl 2 ++ be ttl 1 ++ be proto 1) 10 + (v + psum (be sl 4 ++ be dl 4 ++ o) (8 + o.length)) := by
    intro v hv
    have e : hd4B tos len id fl ttl proto v sl dl o = ([] ++ be (64 + (20 + o.length) / 4) 1 ++ be tos 1 ++ be len 2 ++ be id 2 ++ be fl 2 ++ be ttl 1 ++ be proto 1) ++ (be v 2 ++ (be sl 4 ++ be dl 4 ++ o)) := by
      simp only [hd4B, List.append_assoc]
    have l1 : ([] ++ be (64 + (20 + o.length) / 4) 1 ++ be tos 1 ++ be len 2 ++ be id 2 ++ be fl 2 ++ be ttl 1 ++ be proto 1).length = 10 := by simp [be_length]
    rw [e]
    generalize ([] ++ be (64 + (20 + o.length) / 4) 1 ++ be tos 1 ++ be len 2 ++ be id 2 ++ be fl 2 ++ be ttl 1 ++ be proto 1) = P at *
    have h1 := psum_append (p := P) (q := be v 2 ++ (be sl 4 ++ be dl 4 ++ o)) (by omega) (2 + (8 + o.length))
    have h2 := psum_append (p := be v 2) (q := be sl 4 ++ be dl 4 ++ o) (by rw [be_length]) (8 + o.length)
    rw [l1, show 10 + (2 + (8 + o.length)) = 20 + o.length by omega] at h1
    rw [be_length, psum_be2 hv] at h2
    rw [h1, h2]
  rw [key ck h, key 0 (by omega)]
  omega
theorem flN_off {off : Nat} {stay more : Bool} (h : off < 8192) : flN off stay more % 8192 = off := by unfold flN; cases stay <;> cases more <;> simp <;> omega
theorem flN_lt {off : Nat} {stay more : Bool} (h : off < 8192) : flN off stay more < 32768 := by unfold flN; cases stay <;> cases more <;> simp <;> omega
theorem flN_stay {off : Nat} {stay more : Bool} (h : off < 8192) : decide (flN off stay more / 2 ^ 14 % 2 = 1) = stay := by unfold flN; cases stay <;> cases more <;> simp <;> omega
theorem flN_more {off : Nat} {stay more : Bool} (h : off < 8192) : decide (flN off stay more / 2 ^ 13 % 2 = 1) = more := by unfold flN; cases stay <;> cases more <;> simp <;> omega

structure Ip4Got (l : List Nat) (tos id fl ttl proto ck sl dl sz len : Nat) (o x : List Nat) : Prop where
  form : Ip4Form l l.length sz len
  sum : SumOk l sz
  g1 : getN l 1 1 = tos
  g4 : getN l 4 2 = id
  g6 : getN l 6 2 = fl
  g8 : getN l 8 1 = ttl
  g9 : getN l 9 1 = proto
  g10 : getN l 10 2 = ck
  g12 : getN l 12 4 = sl
  g16 : getN l 16 4 = dl
  opt : (l.drop 20).take (sz - 20) = o
  load : (l.drop sz).take (len - sz) = x
theorem hd4B_read (tos id fl ttl proto sl dl : Nat) (o x : List Nat) (q1 : tos < 256) (q3 : id < 65536) (q5 : fl < 32768) (q7 : ttl < 256) (q8 : proto < 256) (q9 : sl < 4294967296) (q0 : dl < 4294967296) (hm : o.length ≤ 40) (hm4 : o.length % 4 = 0) (hle : 20 + o.length + x.length < 65536) (l : List Nat) (ck : Nat)
    (hck : ck = hd4C tos (20 + o.length + x.length) id fl ttl proto sl dl o) (hl : l = hd4B tos (20 + o.length + x.length) id fl ttl proto ck sl dl o ++ x) : Ip4Got l tos id fl ttl proto ck sl dl (20 + o.length) (20 + o.length + x.length) o x := by
  have hckb : ck < 65536 := by rw [hck]; unfold hd4C; omega
  have hln : l.length = 20 + o.length + x.length := by rw [hl, List.length_append, hd4B_len]
  generalize hL : 20 + o.length + x.length = L at *
  have b0 := getN_at (l := l) (v := 64 + (20 + o.length) / 4) (s := 1) (k := 0) (P := []) (Q := be tos 1 ++ be L 2 ++ be id 2 ++ be fl 2 ++ be ttl 1 ++ be proto 1 ++ be ck 2 ++ be sl 4 ++ be dl 4 ++ o ++ x) (by rw [hl]; simp only [hd4B, List.append_assoc]) (by simp [be_length])
  have b1 := getN_at (l := l) (v := tos) (s := 1) (k := 1) (P := [] ++ be (64 + (20 + o.length) / 4) 1) (Q := be L 2 ++ be id 2 ++ be fl 2 ++ be ttl 1 ++ be proto 1 ++ be ck 2 ++ be sl 4 ++ be dl 4 ++ o ++ x) (by rw [hl]; simp only [hd4B, List.append_assoc]) (by simp [be_length])
  have b2 := getN_at (l := l) (v := L) (s := 2) (k := 2) (P := [] ++ be (64 + (20 + o.length) / 4) 1 ++ be tos 1) (Q := be id 2 ++ be fl 2 ++ be ttl 1 ++ be proto 1 ++ be ck 2 ++ be sl 4 ++ be dl 4 ++ o ++ x) (by rw [hl]; simp only [hd4B, List.append_assoc]) (by simp [be_length])
  have b4 := getN_at (l := l) (v := id) (s := 2) (k := 4) (P := [] ++ be (64 + (20 + o.length) / 4) 1 ++ be tos 1 ++ be L 2) (Q := be fl 2 ++ be ttl 1 ++ be proto 1 ++ be ck 2 ++ be sl 4 ++ be dl 4 ++ o ++ x) (by rw [hl]; simp only [hd4B, List.append_assoc]) (by simp [be_length])
  have b6 := getN_at (l := l) (v := fl) (s := 2) (k := 6) (P := [] ++ be (64 + (20 + o.length) / 4) 1 ++ be tos 1 ++ be L 2 ++ be id 2) (Q := be ttl 1 ++ be proto 1 ++ be ck 2 ++ be sl 4 ++ be dl 4 ++ o ++ x) (by rw [hl]; simp only [hd4B, List.append_assoc]) (by simp [be_length])
  have b8 := getN_at (l := l) (v := ttl) (s := 1) (k := 8) (P := [] ++ be (64 + (20 + o.length) / 4) 1 ++ be tos 1 ++ be L 2 ++ be id 2 ++ be fl 2) (Q := be proto 1 ++ be ck 2 ++ be sl 4 ++ be dl 4 ++ o ++ x) (by rw [hl]; simp only [hd4B, List.append_assoc]) (by simp [be_length])
  have b9 := getN_at (l := l) (v := proto) (s := 1) (k := 9) (P := [] ++ be (64 + (20 + o.length) / 4) 1 ++ be tos 1 ++ be L 2 ++ be id 2 ++ be fl 2 ++ be ttl 1) (Q := be ck 2 ++ be sl 4 ++ be dl 4 ++ o ++ x) (by rw [hl]; simp only [hd4B, List.append_assoc]) (by simp [be_length])
  have b10 := getN_at (l := l) (v := ck) (s := 2) (k := 10) (P := [] ++ be (64 + (20 + o.length) / 4) 1 ++ be tos 1 ++ be L 2 ++ be id 2 ++ be fl 2 ++ be ttl 1 ++ be proto 1) (Q := be sl 4 ++ be dl 4 ++ o ++ x) (by rw [hl]; simp only [hd4B, List.append_assoc]) (by simp [be_length])
  have b12 := getN_at (l := l) (v := sl) (s := 4) (k := 12) (P := [] ++ be (64 + (20 + o.length) / 4) 1 ++ be tos 1 ++ be L 2 ++ be id 2 ++ be fl 2 ++ be ttl 1 ++ be proto 1 ++ be ck 2) (Q := be dl 4 ++ o ++ x) (by rw [hl]; simp only [hd4B, List.append_assoc]) (by simp [be_length])
  have b16 := getN_at (l := l) (v := dl) (s := 4) (k := 16) (P := [] ++ be (64 + (20 + o.length) / 4) 1 ++ be tos 1 ++ be L 2 ++ be id 2 ++ be fl 2 ++ be ttl 1 ++ be proto 1 ++ be ck 2 ++ be sl 4) (Q := o ++ x) (by rw [hl]; simp only [hd4B, List.append_assoc]) (by simp [be_length])
  have b20 := part_at (l := l) (k := 20) (m := 20 + o.length - 20) (o := o) (P := [] ++ be (64 + (20 + o.length) / 4) 1 ++ be tos 1 ++ be L 2 ++ be id 2 ++ be fl 2 ++ be ttl 1 ++ be proto 1 ++ be ck 2 ++ be sl 4 ++ be dl 4) (Q := x) (by rw [hl]; simp only [hd4B, List.append_assoc]) (by simp [be_length]) (by omega)
  have b99 := part_at (l := l) (k := 20 + o.length) (m := L - (20 + o.length)) (o := x) (P := hd4B tos L id fl ttl proto ck sl dl o) (Q := []) (by rw [hl, List.append_nil]) (hd4B_len _ _ _ _ _ _ _ _ _ _) (by omega)
  have n0 : nth l 0 = getN l 0 1 := (getN_one (by omega)).symm
  refine ⟨⟨by omega, by omega, by omega, by omega, by omega, by omega, by omega⟩, ?_, by omega, by omega, by omega, by omega, by omega, by omega, by omega, by omega, b20, b99⟩
  unfold SumOk
  have ht : l.take (20 + o.length) = hd4B tos L id fl ttl proto ck sl dl o := by
    rw [hl, List.take_append_of_le_length (by rw [hd4B_len]; omega), List.take_of_length_le (by rw [hd4B_len]; omega)]
  rw [ht, hd4B_psum _ _ _ _ _ _ _ _ _ _ hckb, hck]
  exact fold_comp _
end Go.Proofs.Ytpibinkekfkafaa
