/- The law of rules that are ok: its walk. -/
import Derived.Test.YtkaekiodjjhjkaaDoorRLW
import Derived.Test.YtkaekiodjjhjkaaDoorRA2
namespace Go.Proofs.YtkaekiodjjhjkaaDoor
open Go.RowKit
set_option linter.unusedVariables false
set_option linter.unusedSimpArgs false
theorem c_spOk (f : Nat → Ru) (b p n c : Nat) (w : World) (hR : RowAt w b p n 5 fun i => (f i).arr) (hn : n ≤ 1048576) :
    Calls Tryd.prog 9 #[.slice (some ⟨b, p, none⟩) (n) (c)] w fun e w' => e = .returned (.bool (ruOks f n)) ∧ Below w.heap.size w w' := by
  refine calls_begin Tryd.func9 rfl 5 rfl (Nat.le_of_ble_eq_true rfl) [(0, .slice (some ⟨b, p, none⟩) (n) (c))] ⟨rfl, trivial⟩ (fun a0 he0 hm0 => ?_)
  refine wp_seqR ?_
  refine wl_val he0 rfl rfl (.bool false) (rn_move _ (Or.inr rfl) _ rfl) (fun a1 he1 => ?_)
  clear he0
  refine wl_end ?_
  refine wp_seqR ?_
  refine wl_val he1 rfl rfl (.slice (some ⟨b, p, none⟩) (n) (c)) (rn_move _ (Or.inl rfl) _ (he1.tmp 0 _ rfl)) (fun a2 he2 => ?_)
  clear he1
  cases hd1 : (ruOks f n)
  · refine wl_call he2 hm0 rfl rfl _ #[.slice (some ⟨b, p, none⟩) (n) (c)] (enter_call _ _ _ rfl 17 #[] #[] rfl #[.slice (some ⟨b, p, none⟩) (n) (c)] (map1 (he2.tmp 3 _ rfl)) #[.slice (some ⟨b, p, none⟩) (n) (c)] rfl (fun _ _ => by kernel_rfl)) (.bool false) (callsV (congrArg Value.bool (hd1)) (c_oks f b p n c _ (hR.kb hm0.keep (by simp)) hn)) (fun a3 w1 he3 hm1 => ?_)
    clear he2 hm0
    refine wl_val he3 rfl rfl (.bool false) (rn_move _ (Or.inr rfl) _ (he3.tmp 4 _ rfl)) (fun a4 he4 => ?_)
    clear he3
    refine wl_end ?_
    refine wp_ret ?_
    exact bodyPost_ret (results_tmp he4 _ Tryd.results9 _ rfl) he4.defers ⟨(by simp only [hd1]), hm1.below⟩
  · refine wl_call he2 hm0 rfl rfl _ #[.slice (some ⟨b, p, none⟩) (n) (c)] (enter_call _ _ _ rfl 17 #[] #[] rfl #[.slice (some ⟨b, p, none⟩) (n) (c)] (map1 (he2.tmp 3 _ rfl)) #[.slice (some ⟨b, p, none⟩) (n) (c)] rfl (fun _ _ => by kernel_rfl)) (.bool true) (callsV (congrArg Value.bool (hd1)) (c_oks f b p n c _ (hR.kb hm0.keep (by simp)) hn)) (fun a3 w1 he3 hm1 => ?_)
    clear he2 hm0
    refine wl_val he3 rfl rfl (.bool true) (rn_move _ (Or.inr rfl) _ (he3.tmp 4 _ rfl)) (fun a4 he4 => ?_)
    clear he3
    refine wl_end ?_
    refine wp_ret ?_
    exact bodyPost_ret (results_tmp he4 _ Tryd.results9 _ rfl) he4.defers ⟨(by simp only [hd1]), hm1.below⟩
end Go.Proofs.YtkaekiodjjhjkaaDoor
