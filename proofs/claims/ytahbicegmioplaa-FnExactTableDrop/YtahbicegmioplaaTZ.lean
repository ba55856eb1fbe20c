/- Tables as answers; the code of a put. -/
import Derived.Test.YtahbicegmioplaaTX
import Derived.Test.YtahbicegmioplaaTY
import Derived.Test.YtahbicegmioplaaTV
namespace Go.Proofs.Ytahbicegmioplaa
open Go.RowKit
set_option linter.unusedSimpArgs false
set_option linter.unusedVariables false

/-- A table whose two lists are the call's own. -/
def Tab (n₀ : Nat) (w : World) (k s r : Int) (ks : List Int) (vs : List ByteArray) (V : Value) : Prop :=
  ∃ v u, V = .agg #[.int .i64 k, .int .i64 s, .int .i64 r, v, u] ∧ w.ownsRow n₀ 3 1 v ks.length (ks.map (.int .i64)) ∧ w.ownsRow n₀ 9 1 u vs.length (vs.map .string)
theorem Tab.nil (n₀ : Nat) (w : World) (k s r : Int) : Tab n₀ w k s r [] [] (.agg #[.int .i64 k, .int .i64 s, .int .i64 r, .slice none 0 0, .slice none 0 0]) := ⟨_, _, rfl, World.ownsRow_nil _ _ _ _, World.ownsRow_nil _ _ _ _⟩
theorem Tab.below {n₀ : Nat} {w w' : World} {k s r : Int} {ks : List Int} {vs : List ByteArray} {V : Value} (h : Tab n₀ w k s r ks vs V) (hb : Below w.heap.size w w') : Tab n₀ w' k s r ks vs V := by
  obtain ⟨v, u, rfl, h1, h2⟩ := h
  exact ⟨v, u, rfl, own_below h1 hb, own_below h2 hb⟩
theorem Tab.mono {n₀ n₁ : Nat} {w : World} {k s r : Int} {ks : List Int} {vs : List ByteArray} {V : Value} (h : Tab n₀ w k s r ks vs V) (hb : n₁ ≤ n₀) : Tab n₁ w k s r ks vs V := by
  obtain ⟨v, u, rfl, h1, h2⟩ := h
  exact ⟨v, u, rfl, own_mono h1 hb, own_mono h2 hb⟩
theorem own_ints {w : World} {n₀ : Nat} {v : Value} {xs : List Int} (h : w.ownsRow n₀ 3 1 v xs.length (xs.map (.int .i64))) : ∃ a c, v = .slice a xs.length c ∧ ArgI w a xs ∧ Wr w a xs.length ∧ (∀ q, isBlk a q → n₀ ≤ q ∧ q < w.heap.size ∧ v.ownBlock = some q) ∧ xs.length ≤ c := by
  have h' := h
  rcases h.2 with ⟨rfl, hn⟩ | ⟨g, cap, cur, rfl, hb, hg, hc, _⟩
  · rw [hn]; exact ⟨none, 0, rfl, .inl (List.length_eq_zero_iff.1 hn), .inl rfl, fun q ⟨o, e⟩ => (by cases e), Nat.le_refl _⟩
  · have hlt := (Array.getElem?_eq_some_iff.1 hg).1
    refine ⟨_, cap, rfl, .inr ⟨g, 0, rfl, hlt, fun k hk => ?_⟩, .inr ⟨g, rfl, hlt, room_own h'⟩, fun q ⟨o, e⟩ => ?_, hc⟩
    · rw [Nat.zero_add, h'.cellAt k (by omega)]; simp [List.getElem?_eq_getElem hk]
    · simp only [Option.some.injEq, Addr.mk.injEq, and_true] at e
      obtain ⟨rfl, rfl⟩ := e
      exact ⟨hb, hlt, rfl⟩
theorem own_strs {w : World} {n₀ : Nat} {v : Value} {xs : List ByteArray} (h : w.ownsRow n₀ 9 1 v xs.length (xs.map .string)) : ∃ a c, v = .slice a xs.length c ∧ ArgS w a xs ∧ Wr w a xs.length ∧ (∀ q, isBlk a q → n₀ ≤ q ∧ q < w.heap.size ∧ v.ownBlock = some q) := by
  have h' := h
  rcases h.2 with ⟨rfl, hn⟩ | ⟨g, cap, cur, rfl, hb, hg, _⟩
  · rw [hn]; exact ⟨none, 0, rfl, .inl (List.length_eq_zero_iff.1 hn), .inl rfl, fun q ⟨o, e⟩ => by cases e⟩
  · have hlt := (Array.getElem?_eq_some_iff.1 hg).1
    refine ⟨_, cap, rfl, .inr ⟨g, 0, rfl, hlt, fun k hk => ?_⟩, .inr ⟨g, rfl, hlt, room_own h'⟩, fun q ⟨o, e⟩ => ?_⟩
    · rw [Nat.zero_add, h'.cellAt k (by omega)]; simp [List.getElem?_eq_getElem hk]
    · simp only [Option.some.injEq, Addr.mk.injEq, and_true] at e
      obtain ⟨rfl, rfl⟩ := e
      exact ⟨hb, hlt, rfl⟩
/-- All that the law asks of a table of its own. -/
structure TabP (n₀ : Nat) (w : World) (ks : List Int) (vs : List ByteArray) (a b : Option Addr) : Prop where
  ints : ArgI w a ks
  strs : ArgS w b vs
  wi : Wr w a ks.length
  ws : Wr w b vs.length
  bi : ∀ q, isBlk a q → n₀ ≤ q ∧ q < w.heap.size
  bs : ∀ q, isBlk b q → n₀ ≤ q ∧ q < w.heap.size
  ap : ∀ q, isBlk a q → ¬ isBlk b q
theorem Tab.parts {n₀ : Nat} {w : World} {k s r : Int} {ks : List Int} {vs : List ByteArray} {V : Value} (h : Tab n₀ w k s r ks vs V) : ∃ a b c d, V = .agg #[.int .i64 k, .int .i64 s, .int .i64 r, .slice a ks.length c, .slice b vs.length d] ∧ TabP n₀ w ks vs a b := by
  obtain ⟨v, u, rfl, h1, h2⟩ := h
  have hap := rows_apart h1 h2 (by decide)
  obtain ⟨a, c, rfl, i1, i2, i3, _⟩ := own_ints h1
  obtain ⟨b, d, rfl, s1, s2, s3⟩ := own_strs h2
  refine ⟨a, b, c, d, rfl, i1, s1, i2, s2, fun q h => ⟨(i3 q h).1, (i3 q h).2.1⟩, fun q h => ⟨(s3 q h).1, (s3 q h).2.1⟩, fun q h1 h2 => ?_⟩
  have e1 := (i3 q h1).2.2
  have e2 := (s3 q h2).2.2
  rcases hap with h | h
  · rw [e1] at h; cases h
  · exact h (e1.trans e2.symm)

structure TR where
  k : Int
  s : Int
  r : Int
  ks : List Int
  vs : List ByteArray
  code : Int
open Classical in
/-- The code of a put. -/
noncomputable def codeI (k s r : Int) (ks : List Int) (key : Int) (val : ByteArray) : Int :=
  if inB key 0 4294967295 = false ∨ (val.size : Int) ≠ s then 1 else if key ∈ ks then 0 else if k = 1 then 2 else if (ks.length : Int) = r then 3 else 0
noncomputable def putT (k s r : Int) (ks : List Int) (vs : List ByteArray) (key : Int) (val : ByteArray) : TR :=
  if okB k s r ks vs = true then
    (if codeI k s r ks key val = 0 then ⟨k, s, r, (putP (ks.zip vs) key val).map Prod.fst, (putP (ks.zip vs) key val).map Prod.snd, 0⟩ else ⟨k, s, r, ks, vs, codeI k s r ks key val⟩)
  else ⟨0, 0, 0, [], [], 1⟩

set_option maxRecDepth 100000 in
set_option maxHeartbeats 4000000 in
theorem f51 (k s r : Int) (ks : List Int) (vs : List ByteArray) (a b : Option Addr) (c d : Nat) (key : Int) (val : ByteArray) (w : World) (hA : ArgI w a ks) (hkm : ks.length ≤ 1048576) (hval : val.size ≤ 1048576) :
    Calls Try.prog 51 #[.agg #[.int .i64 k, .int .i64 s, .int .i64 r, .slice a ks.length c, .slice b vs.length d], .int .i64 key, .string val] w fun e w' => e = .returned (.int .i64 (codeI k s r ks key val)) ∧ Below w.heap.size w w' := by
  have hcA : ∀ X, Below w.heap.size w (w.alloc X) := fun X => (Below.refl _ _).alloc (Nat.le_refl _) _
  have HA : Hid (ArgI w a ks) := hA
  clear hA
  have hv' : val.size ≤ maxLen := by unfold maxLen; omega
  cases hn : inB key 0 4294967295
  · have hcode : codeI k s r ks key val = 1 := by unfold codeI; rw [if_pos (.inl hn)]
    have HC : Hid _ := hcode
    clear hcode
    go_enter Try.func51, Try.ntmps51
    go_wp2_with fail
    refine (f56 _ _).mono ?_
    rintro e w1 ⟨rfl, rfl⟩
    go_wp2_with fail
    go_ret
    exact ⟨by rw [HC.out]; rfl, hcA _⟩
  cases hs : ((val.size : Int) != s)
  case true =>
    have hcode : codeI k s r ks key val = 1 := by unfold codeI; rw [if_pos (.inr (by simpa using hs))]
    have HC : Hid _ := hcode
    clear hcode
    go_enter Try.func51, Try.ntmps51
    go_wp2_with fail
    refine (f56 _ _).mono ?_
    rintro e w1 ⟨rfl, rfl⟩
    go_wp2_with fail
    go_ret
    exact ⟨by rw [HC.out]; rfl, hcA _⟩
  have hno : ¬ (inB key 0 4294967295 = false ∨ (val.size : Int) ≠ s) := by simp at hs; simp [hn, hs]
  by_cases hmem : key ∈ ks
  · have hcode : codeI k s r ks key val = 0 := by unfold codeI; rw [if_neg hno, if_pos hmem]
    have HC : Hid _ := hcode
    have hm' : decide (key ∈ ks) = true := by simpa using hmem
    have HM : Hid _ := hm'
    clear hm'
    clear hcode hno hmem
    go_enter Try.func51, Try.ntmps51
    go_wp2_with fail
    refine (f56 _ _).mono ?_
    rintro e w1 ⟨rfl, rfl⟩
    go_wp2_with fail
    refine (f57 ks key _ _ _ (ArgI.below HA.out (hcA _) (Nat.le_refl _)) hkm).mono ?_
    rw [HM.out]
    rintro e w1 ⟨rfl, rfl⟩
    go_wp2_with fail
    go_ret
    exact ⟨by rw [HC.out]; rfl, hcA _⟩
  have hm' : decide (key ∈ ks) = false := by simpa using hmem
  have HM : Hid _ := hm'
  clear hm'
  by_cases hk : k = 1
  · have hcode : codeI k s r ks key val = 2 := by unfold codeI; rw [if_neg hno, if_neg hmem, if_pos hk]
    have HC : Hid _ := hcode
    have hk' : (k == 1) = true := by simpa using hk
    clear hcode hno hmem hk
    go_enter Try.func51, Try.ntmps51
    go_wp2_with fail
    refine (f56 _ _).mono ?_
    rintro e w1 ⟨rfl, rfl⟩
    go_wp2_with fail
    refine (f57 ks key _ _ _ (ArgI.below HA.out (hcA _) (Nat.le_refl _)) hkm).mono ?_
    rw [HM.out]
    rintro e w1 ⟨rfl, rfl⟩
    go_wp2_with fail
    go_ret
    exact ⟨by rw [HC.out]; rfl, hcA _⟩
  have hk' : (k == 1) = false := by simpa using hk
  by_cases hr : (ks.length : Int) = r
  · have hcode : codeI k s r ks key val = 3 := by unfold codeI; rw [if_neg hno, if_neg hmem, if_neg hk, if_pos hr]
    have HC : Hid _ := hcode
    have hr' : ((ks.length : Int) == r) = true := by simpa using hr
    clear hcode hno hmem hk hr
    go_enter Try.func51, Try.ntmps51
    go_wp2_with fail
    refine (f56 _ _).mono ?_
    rintro e w1 ⟨rfl, rfl⟩
    go_wp2_with fail
    refine (f57 ks key _ _ _ (ArgI.below HA.out (hcA _) (Nat.le_refl _)) hkm).mono ?_
    rw [HM.out]
    rintro e w1 ⟨rfl, rfl⟩
    go_wp2_with fail
    go_ret
    exact ⟨by rw [HC.out]; rfl, hcA _⟩
  · have hcode : codeI k s r ks key val = 0 := by unfold codeI; rw [if_neg hno, if_neg hmem, if_neg hk, if_neg hr]
    have HC : Hid _ := hcode
    have hr' : ((ks.length : Int) == r) = false := by simpa using hr
    clear hcode hno hmem hk hr
    go_enter Try.func51, Try.ntmps51
    go_wp2_with fail
    refine (f56 _ _).mono ?_
    rintro e w1 ⟨rfl, rfl⟩
    go_wp2_with fail
    refine (f57 ks key _ _ _ (ArgI.below HA.out (hcA _) (Nat.le_refl _)) hkm).mono ?_
    rw [HM.out]
    rintro e w1 ⟨rfl, rfl⟩
    go_wp2_with fail
    go_ret
    exact ⟨by rw [HC.out]; rfl, hcA _⟩

end Go.Proofs.Ytahbicegmioplaa
