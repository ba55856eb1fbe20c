/- The specification's TableDrop, all ways. -/
import Derived.Test.YtahbicegmioplaaDU
namespace Go.Proofs.Ytahbicegmioplaa
open Go.RowKit
set_option linter.unusedVariables false
set_option linter.unusedSimpArgs false

theorem f22s (k s r : Int) (ks : List Int) (vs : List ByteArray) (a b : Option Addr) (c d : Nat) (key : Int) (w : World) (hI : SlV w (.slice a ks.length c) ks.length (ks.map (.int .i64))) (hS : SlV w (.slice b vs.length d) vs.length (vs.map .string)) (hc : ks.length ≤ c) (hd : vs.length ≤ d) (hcm : c ≤ maxLen) (hdm : d ≤ maxLen) (hkm : ks.length ≤ 1048576) (hvm : vs.length ≤ 1048576) :
    Calls Try.prog 22 #[.agg #[.int .i64 k, .int .i64 s, .int .i64 r, .slice a ks.length c, .slice b vs.length d], .int .i64 key] w fun e w' => ∃ V, e = .returned (.tuple #[V, .bool (dropT k s r ks vs key).2]) ∧ Tab w.heap.size w' (dropT k s r ks vs key).1.k (dropT k s r ks vs key).1.s (dropT k s r ks vs key).1.r (dropT k s r ks vs key).1.ks (dropT k s r ks vs key).1.vs V ∧ Below w.heap.size w w' := by
  cases hok : okB k s r ks vs
  · exact drop_bad k s r ks vs a b c d key w hI hS hc hd hcm hdm hkm hvm hok (by show dropT k s r ks vs key = _; unfold dropT; rw [hok]; rfl)
  · have hP := okB_true.1 hok
    have hsh := hP.shape
    have hl := (shape2_len hsh).1
    rcases atI_cases ks key with ⟨hat, hno⟩ | ⟨i, hi, hat, hthere, hno⟩
    · exact drop_not k s r ks vs a b c d key w hI hS hc hd hcm hdm hkm hvm hok hat (drop_none hok hno)
    · by_cases hk : k = 1
      · have h8 : 1 ≤ s ∧ s ≤ 8 := by
          simp only [shape2B, shapeB, inB, Bool.and_eq_true, decide_eq_true_eq] at hsh
          omega
        have hD := drop_row hok hk hi hthere hno
        exact drop_in_row k s r ks vs a b c d key w hI hS hc hd hcm hdm hkm hvm s.toNat (by omega) (by omega) i hi hl hk hok hat hD
      · exact drop_in_hash k s r ks vs a b c d key w hI hS hc hd hcm hdm hkm hvm i hi hl hk _ _ rfl rfl hok hat (drop_hash hok hk hi hthere hno)

theorem f22x (k s r : Int) (ks : List Int) (vs : List ByteArray) (g1 g2 c d : Nat) (key : Int) (w : World) (hI : IntRow w g1 0 ks) (hS : StrRow w g2 0 vs) (l1 : g1 < w.heap.size) (l2 : g2 < w.heap.size) (hkm : ks.length ≤ 1048576) (hvm : vs.length ≤ 1048576) (hc : ks.length = c) (hd : vs.length = d) :
    Calls Try.prog 22 #[.agg #[.int .i64 k, .int .i64 s, .int .i64 r, .slice (some ⟨g1, 0, none⟩) ks.length c, .slice (some ⟨g2, 0, none⟩) vs.length d], .int .i64 key] w fun e w' => ∃ V, e = .returned (.tuple #[V, .bool (dropT k s r ks vs key).2]) ∧ Tab w.heap.size w' (dropT k s r ks vs key).1.k (dropT k s r ks vs key).1.s (dropT k s r ks vs key).1.r (dropT k s r ks vs key).1.ks (dropT k s r ks vs key).1.vs V ∧ Below w.heap.size w w' :=
  f22s k s r ks vs _ _ c d key w (SlV.ints hI l1) (SlV.strs hS l2) (by omega) (by omega) (by unfold maxLen; omega) (by unfold maxLen; omega) hkm hvm
end Go.Proofs.Ytahbicegmioplaa
