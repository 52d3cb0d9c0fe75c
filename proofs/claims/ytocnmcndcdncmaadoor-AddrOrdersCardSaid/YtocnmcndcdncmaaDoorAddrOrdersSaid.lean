/- The statement AddrOrders out of its walk: for every input the law returns true and its arguments read as before. Conditions: none. -/
import Derived.Test.YtocnmcndcdncmaaDoorKit
import Derived.Test.YtocnmcndcdncmaaDoorArgs
import Derived.Test.YtocnmcndcdncmaaDoorKitS
import Derived.Test.YtocnmcndcdncmaaDoorInit
import Derived.Test.YtocnmcndcdncmaaDoorAddrOrders
namespace Go.Proofs.YtocnmcndcdncmaaDoor.AddrOrders
open Go.ChangeShapes Go.WideShapes Go.ChangeAt Go.RowKit
open Go.ChangeMaps (open_string)
set_option maxRecDepth 100000 in
theorem laid_met (os : Os) : laidMet Tryd.prog Rows.addrOrdersRow.laid ((laidW os laidL).forCall (fun _ _ => 0) ⟨#[], #[.agg #[.bool false, .int .u64 0, .int .u64 0], .agg #[.bool false, .int .u64 0, .int .u64 0]], []⟩).memory :=
  laidMet_of_run' 8 (by kernel_rfl) (by kernel_rfl)
theorem reads (os : Os) {H : Type} (enc : TypeId × Value → H) : ∃ ds places, DataW.whole enc Tryd.prog ((laidW os laidL).forCall (fun _ _ => 0) ⟨#[], #[.agg #[.bool false, .int .u64 0, .int .u64 0], .agg #[.bool false, .int .u64 0, .int .u64 0]], []⟩).memory Tryd.f3.params.toList Rows.addrOrdersSpec.vars false #[.agg #[.bool false, .int .u64 0, .int .u64 0], .agg #[.bool false, .int .u64 0, .int .u64 0]].toList 8 = some (ds, [], places) :=
  whole_ex (by kernel_rfl)
set_option maxRecDepth 100000 in
theorem said : Rows.AddrOrdersSaid :=
  OpenClaim.holds_of_cond 3 Tryd.f3 rfl rfl rfl rfl rfl rfl rfl ⟨rfl, rfl, rfl, rfl, rfl⟩ rfl rfl rfl rfl rfl (by kernel_rfl) Tryd.func3 (by kernel_rfl)
    (of_decide_eq_true (by kernel_rfl)) (by unfold Func.isWrapper; first | (rw [if_pos (by decide +kernel)]; kernel_rfl) | (rw [if_neg (by decide +kernel)]; exact ⟨rfl, rfl⟩))
    (fun os started H enc _ F => by
      rw [OpenClaim.pre_eq_preRow]
      obtain ⟨ds0, places, hx⟩ := reads os enc
      refine lift_card (C := Tryd.checked) own_ started (by kernel_rfl) Tryd.func3
        (witness_row_at (enc := enc) (C := Tryd.checked) false (laidW os laidL) #[.agg #[.bool false, .int .u64 0, .int .u64 0], .agg #[.bool false, .int .u64 0, .int .u64 0]] rfl (by kernel_rfl) (by kernel_rfl) (by kernel_rfl)
          (OpenSpec.preRow_of_cond 8 hx (by kernel_rfl) (fun k hk => by cases hk) (by kernel_rfl) (laid_met os))) laidOut_ (by kernel_rfl) (by kernel_rfl) Tryd.underlying4 rfl
        (fun ds h => by rw [Tryd.params3] at h; match ds, h with | [_, _], _ => rfl) ?_
      intro W base args ds ps hval hA hlt hfz hL
      rw [Tryd.params3] at hA hval
      obtain ⟨v0, vs0, d0, ds0, p0, q0, hargs, rfl, rfl, h0, r0_⟩ := trodAll_cons hA
      obtain ⟨v1, vs1, d1, ds1, p1, q1, rfl, rfl, rfl, h1, r1_⟩ := trodAll_cons r0_
      obtain ⟨rfl, rfl, rfl⟩ := trodAll_nil r1_
      obtain rfl : args = #[v0, v1] := by cases args; simp_all
      exact walk v0 v1 W (hval 0 _ v0 rfl rfl) h0 (fun x hx => hlt x (by simp [hx])) (hval 1 _ v1 rfl rfl) h1 (fun x hx => hlt x (by simp [hx])) (laidf hL))
set_option maxRecDepth 100000 in
theorem plain (f : FuncId) (fn : Func) (hf : Tryd.pinned.checked.prog.funcNamed "counterfoil/counterfoillaw03.AddrOrders" = some f) (hfn : Tryd.pinned.checked.prog.funcs[f]? = some fn) :
    false = Tryd.pinned.checked.prog.looks [] ∧ ∀ (j : Nat) t, fn.params[j]? = some t → Tryd.pinned.checked.prog.wantsStandIn t = false := by
  obtain rfl : f = 3 := Option.some.inj ((show Tryd.prog.funcNamed "counterfoil/counterfoillaw03.AddrOrders" = some 3 by kernel_rfl).symm.trans hf) |>.symm
  obtain rfl : fn = Tryd.f3 := (Option.some.inj (Tryd.func3.symm.trans hfn)).symm
  refine ⟨by kernel_rfl, fun j t ht => ?_⟩
  rw [Tryd.params3] at ht
  have hm := Array.mem_of_getElem? ht
  simp only [List.mem_toArray, List.mem_cons, List.not_mem_nil, or_false] at hm
  rcases hm with rfl | rfl
  · exact (show Tryd.prog.wantsStandIn 24 = false by kernel_rfl)
  · exact (show Tryd.prog.wantsStandIn 24 = false by kernel_rfl)
set_option maxRecDepth 100000 in
theorem card : Rows.AddrOrdersCardSaid :=
  Claim7.holds_tied_plain_at .later [] _ _ _ _ said (fun _ h => by cases h) (by kernel_rfl) (fun _ h => by cases h) addrOrders_row_tie rfl ⟨rfl, rfl⟩ (by kernel_rfl) rfl plain (by kernel_rfl)
#print axioms card
end Go.Proofs.YtocnmcndcdncmaaDoor.AddrOrders
