/- The mathematics of lines: words joined and split, numbers read back. -/
import Derived.Test.YtbbecofgmodfiaaGreatDoorNH
import Derived.Lib.SplitLaws
namespace Go.Proofs.YtbbecofgmodfiaaGreatDoor.G
open Go.RowKit
set_option linter.unusedVariables false
set_option linter.unusedSimpArgs false

theorem dig_range : ∀ n : Nat, ∀ b ∈ Lib.decDigits n, 48 ≤ b.toNat ∧ b.toNat ≤ 57 := by
  intro n
  induction n using Nat.strongRecOn with
  | ind n ih =>
    intro b hb
    rw [Lib.decDigits] at hb
    split at hb
    · rename_i h
      simp at hb
      subst hb
      simp [UInt8.toNat_ofNat']
      omega
    · rename_i h
      rcases List.mem_append.1 hb with hb | hb
      · exact ih _ (by omega) b hb
      · simp only [List.mem_singleton] at hb
        subst hb
        rw [UInt8.toNat_ofNat']
        omega
theorem dig_ne (n : Nat) : Lib.decDigits n ≠ [] := by
  rw [Lib.decDigits]
  split <;> simp
theorem par_dec : ∀ n : Nat, n ≤ 1000000000000000000 → ∀ r, Lib.parseUint10 0 (Lib.decDigits n ++ r) = Lib.parseUint10 n r := by
  intro n
  induction n using Nat.strongRecOn with
  | ind n ih =>
    intro hn r
    rw [Lib.decDigits]
    split
    · rename_i h
      have e : (UInt8.ofNat (48 + n)).toNat = 48 + n := by rw [UInt8.toNat_ofNat']; omega
      show Lib.parseUint10 0 (UInt8.ofNat (48 + n) :: r) = _
      rw [Lib.parseUint10, e, if_pos (by omega), if_neg (by omega), if_neg (by omega)]
      congr 1
      omega
    · rename_i h
      rw [List.append_assoc, ih (n / 10) (by omega) (by omega)]
      have e : (UInt8.ofNat (48 + n % 10)).toNat = 48 + n % 10 := by rw [UInt8.toNat_ofNat']; omega
      show Lib.parseUint10 (n / 10) (UInt8.ofNat (48 + n % 10) :: r) = _
      rw [Lib.parseUint10, e, if_pos (by omega), if_neg (by omega), if_neg (by omega)]
      congr 1
      omega
theorem decS_list (n : Nat) : (decS n).data.toList = Lib.decDigits n := by rw [decDigits_eq]
theorem mag_dec (n : Nat) (hn : n ≤ 1000000000000000000) : Lib.parseMag (Lib.decDigits n) = .ok n := by
  unfold Lib.parseMag
  rw [if_neg (dig_ne n)]
  have := par_dec n hn []
  rw [List.append_nil] at this
  rw [this]
  rfl
theorem decI_list (n : Int) : (decI n).data.toList = if n < 0 then 45 :: Lib.decDigits n.natAbs else Lib.decDigits n.toNat := by
  unfold decI
  split
  · rw [ByteArray.data_append, Array.toList_append, decS_list]; rfl
  · rw [decS_list]
theorem atoi_dec (n : Int) (h0 : -1000 ≤ n) (h1 : n ≤ 4294967295) : atoiP (decI n) = (n, true) := by
  unfold atoiP
  have e : Lib.atoiAll (decI n).data.toList = .ok n := by
    rw [decI_list]
    split
    · rename_i h
      unfold Lib.atoiAll
      simp only []
      rw [if_pos (by decide), mag_dec _ (by omega)]
      simp only []
      rw [if_neg (by omega), if_neg (by omega)]
      simp
      omega
    · rename_i h
      have hr := dig_range n.toNat
      have hm := mag_dec n.toNat (by omega)
      cases hl : Lib.decDigits n.toNat with
      | nil => exact absurd hl (dig_ne _)
      | cons c r =>
        rw [hl] at hr hm
        have hc := hr c (by simp)
        unfold Lib.atoiAll
        simp only []
        rw [if_neg (by omega), hm]
        simp only []
        rw [if_neg (by omega), if_neg (by omega), if_neg (by omega)]
        congr 1
        omega
  rw [e]
theorem reg_dec (n : Int) (h0 : -1000 ≤ n) (h1 : n ≤ 4294967295) : regP (⟨#[114]⟩ ++ decI n) = (n, true) := by
  have hl : ((⟨#[114]⟩ : ByteArray) ++ decI n).data.toList = 114 :: (decI n).data.toList := by
    rw [ByteArray.data_append, Array.toList_append]; rfl
  unfold regP
  rw [hl, if_pos (by simp [Lib.hasPrefix, List.isPrefixOf])]
  have e : Lib.trimPrefix (114 :: (decI n).data.toList) [114] = (decI n).data.toList := by
    unfold Lib.trimPrefix
    rw [if_pos (by simp [Lib.hasPrefix, List.isPrefixOf])]
    rfl
  rw [e]
  have e2 : (⟨(decI n).data.toList.toArray⟩ : ByteArray) = decI n := by cases decI n; simp
  rw [e2]
  exact atoi_dec n h0 h1
theorem reg_num (n : Int) : regP (decI n) = (0, false) := by
  unfold regP
  rw [if_neg]
  rw [decI_list]
  split
  · simp [Lib.hasPrefix, List.isPrefixOf]
  · have hr := dig_range n.toNat
    cases hl : Lib.decDigits n.toNat with
    | nil => exact absurd hl (dig_ne _)
    | cons c r =>
      rw [hl] at hr
      have hc := hr c (by simp)
      simp only [Lib.hasPrefix, List.isPrefixOf, Bool.and_true, beq_iff_eq]
      intro h
      rw [← h] at hc
      have : (114 : UInt8).toNat = 114 := rfl
      omega
/-- No blank in it. -/
def No32 (w : ByteArray) : Prop := (32 : UInt8) ∉ w.data.toList
theorem no_dec (n : Int) : No32 (decI n) := by
  unfold No32
  rw [decI_list]
  have key : ∀ m, (32 : UInt8) ∉ Lib.decDigits m := fun m h => by
    have := dig_range m _ h
    have e : (32 : UInt8).toNat = 32 := rfl
    omega
  split
  · intro h
    rcases List.mem_cons.1 h with h | h
    · exact absurd h (by decide)
    · exact key _ h
  · exact key _
theorem no_app {a b : ByteArray} (ha : No32 a) (hb : No32 b) : No32 (a ++ b) := by
  unfold No32 at *
  rw [ByteArray.data_append, Array.toList_append]
  intro h
  rcases List.mem_append.1 h with h | h
  · exact ha h
  · exact hb h
theorem no_word : ∀ k, No32 (wordsL.getD k ⟨#[]⟩) := by
  intro k
  have h : ∀ x ∈ wordsL, No32 x := by unfold No32; decide
  rcases Nat.lt_or_ge k wordsL.length with hi | hi
  · rw [List.getD, List.getElem?_eq_getElem hi]; exact h _ (List.getElem_mem hi)
  · rw [List.getD, List.getElem?_eq_none hi]; unfold No32; decide
theorem no_call : ∀ k, No32 (callsL.getD k ⟨#[]⟩) := by
  intro k
  have h : ∀ x ∈ callsL, No32 x := by unfold No32; decide
  rcases Nat.lt_or_ge k callsL.length with hi | hi
  · rw [List.getD, List.getElem?_eq_getElem hi]; exact h _ (List.getElem_mem hi)
  · rw [List.getD, List.getElem?_eq_none hi]; unfold No32; decide
theorem no_r : No32 ⟨#[114]⟩ := by unfold No32; decide
theorem no_reg (s i : Int) : No32 (regI s i) := by
  unfold regI
  split
  · exact no_app no_r (no_dec _)
  · exact no_dec _

def joinW : List ByteArray → ByteArray
  | [] => ⟨#[]⟩
  | [w] => w
  | w :: r => w ++ (SP_ ++ joinW r)
theorem idx_list : ∀ (a r : List UInt8), (32 : UInt8) ∉ a → Lib.indexByte (a ++ 32 :: r) 32 = a.length
  | [], r, _ => by simp [Lib.indexByte]
  | b :: a, r, h => by
    have hb : ¬ b = 32 := fun e => h (by simp [e])
    have := idx_list a r (fun e => h (by simp [e]))
    show Lib.indexByte (b :: (a ++ 32 :: r)) 32 = _
    rw [Lib.indexByte, this]
    simp [hb]
    try omega
theorem idx_none : ∀ (a : List UInt8), (32 : UInt8) ∉ a → Lib.indexByte a 32 = -1
  | [], _ => rfl
  | b :: a, h => by
    have hb : ¬ b = 32 := fun e => h (by simp [e])
    rw [Lib.indexByte, idx_none a (fun e => h (by simp [e]))]
    simp [hb]
theorem idxB_hit (w r : ByteArray) (h : No32 w) : Lib.indexB (w ++ (SP_ ++ r)) SP_ = (w.size : Int) := by
  show Lib.index (w ++ (SP_ ++ r)).data.toList [32] = _
  rw [Lib.index_one]
  have e : (w ++ (SP_ ++ r)).data.toList = w.data.toList ++ 32 :: r.data.toList := by
    rw [ByteArray.data_append, ByteArray.data_append, Array.toList_append, Array.toList_append]; rfl
  rw [e, idx_list _ _ h]
  exact congrArg _ Array.length_toList
theorem idxB_miss (w : ByteArray) (h : No32 w) : Lib.indexB w SP_ = -1 := by
  show Lib.index w.data.toList [32] = _
  rw [Lib.index_one]
  exact idx_none _ h
theorem ext_head (w r : ByteArray) : (w ++ (SP_ ++ r)).extract 0 w.size = w := by
  have e : (w ++ (SP_ ++ r)).data.toList = w.data.toList ++ 32 :: r.data.toList := by
    rw [ByteArray.data_append, ByteArray.data_append, Array.toList_append, Array.toList_append]; rfl
  have hl : w.data.toList.length = w.size := Array.length_toList
  apply ByteArray.ext
  apply Array.toList_inj.1
  rw [Lib.extract_data, e]
  simp [hl]
theorem ext_tail (w r : ByteArray) : (w ++ (SP_ ++ r)).extract (w.size + 1) (w ++ (SP_ ++ r)).size = r := by
  have h := Lib.extract_to_end (w ++ (SP_ ++ r)) (w.size + 1)
  have e : (w ++ (SP_ ++ r)).data.toList = w.data.toList ++ 32 :: r.data.toList := by
    rw [ByteArray.data_append, ByteArray.data_append, Array.toList_append, Array.toList_append]; rfl
  rw [e] at h
  have e2 : (w.data.toList ++ 32 :: r.data.toList).drop (w.size + 1) = r.data.toList := by
    have : w.size + 1 = w.data.toList.length + 1 := congrArg (· + 1) (Array.length_toList (xs := w.data)).symm
    rw [this, List.drop_append]
    simp
  rw [e2] at h
  apply ByteArray.ext
  exact Array.toList_inj.1 h
theorem split_join : ∀ (W : List ByteArray), W ≠ [] → (∀ w ∈ W, No32 w) → Lib.splitB SP_ 0 (W.length - 1) (joinW W) = W ∧ Lib.countB (joinW W) SP_ = W.length - 1
  | [], h, _ => absurd rfl h
  | [w], _, h => ⟨rfl, Lib.countB_miss _ _ (idxB_miss w (h w (by simp)))⟩
  | w :: v :: r, _, h => by
    have ih := split_join (v :: r) (by simp) (fun x hx => h x (List.mem_cons_of_mem _ hx))
    have hi := idxB_hit w (joinW (v :: r)) (h w (by simp))
    have hsz : SP_.size = 1 := rfl
    have hj : joinW (w :: v :: r) = w ++ (SP_ ++ joinW (v :: r)) := rfl
    rw [hj]
    constructor
    · show Lib.splitB SP_ 0 ((v :: r).length - 1 + 1) _ = _
      rw [Lib.splitB, hi, if_neg (by rw [beq_iff_eq]; omega), Int.toNat_natCast, Nat.add_zero, hsz, ext_head, ext_tail, ih.1]
    · rw [Lib.countB_hit _ _ _ (by rw [hsz]; exact Nat.le_refl _) hi, hsz, ext_tail, ih.2]
      show 1 + ((v :: r).length - 1) = (v :: r).length + 1 - 1
      simp only [List.length_cons]
      omega

def fitsN (k z : Nat) : Bool := if k = 17 ∨ k = 18 then z == 1 || z == 2 || z == 4 else z == 0
def firstQ (k z : Nat) : List UInt8 := (wordsL.getD k ⟨#[]⟩).data.toList ++ (if k = 17 ∨ k = 18 then [UInt8.ofNat (48 + z)] else [])
theorem fits_eq (k z : Nat) : sizeFitsB (k : Int) (z : Int) = fitsN k z := by
  rw [Bool.eq_iff_iff]
  by_cases h : k = 17 ∨ k = 18
  · have hr : reachesB (k : Int) = true := by simp [reachesB, isB]; omega
    unfold sizeFitsB fitsN
    rw [hr, if_pos rfl, if_pos h]
    simp [isB]
    omega
  · have hr : reachesB (k : Int) = false := by simp [reachesB, isB]; omega
    unfold sizeFitsB fitsN
    rw [hr, if_neg (by decide), if_neg h]
    simp [isB]
theorem first_eq (k z : Nat) (hz : z ≤ 9) : (firstS k z).data.toList = firstQ k z := by
  unfold firstS firstQ
  cases hr : reachesB (k : Int)
  · have h : ¬ (k = 17 ∨ k = 18) := by simp [reachesB, isB] at hr; omega
    rw [if_neg h]; simp
  · have h : k = 17 ∨ k = 18 := by simp [reachesB, isB] at hr; omega
    rw [if_pos h]
    simp only [if_true]
    rw [ByteArray.data_append, Array.toList_append, decI_list, if_neg (by omega), Int.toNat_natCast, Lib.decDigits, dif_pos (by omega)]
def injQ : Bool := (List.range 21).all fun k => (List.range 5).all fun z => !(fitsN k z && decide (1 ≤ k)) || (List.range 21).all fun k' => (List.range 5).all fun z' => !(fitsN k' z' && decide (1 ≤ k')) || (!(firstQ k z == firstQ k' z') || (k == k' && z == z'))
theorem injQ_true : injQ = true := by decide +kernel
theorem first_inj_q (k : Nat) (hk : k < 21) (z : Nat) (hz : z < 5) (h1 : fitsN k z = true) (h2 : 1 ≤ k) (k' : Nat) (hk' : k' < 21) (z' : Nat) (hz' : z' < 5) (h3 : fitsN k' z' = true) (h4 : 1 ≤ k') (h5 : firstQ k z = firstQ k' z') : k = k' ∧ z = z' := by
  have h := injQ_true
  unfold injQ at h
  have a := List.all_eq_true.1 h k (List.mem_range.2 hk)
  have b := List.all_eq_true.1 a z (List.mem_range.2 hz)
  rw [h1] at b
  simp only [h2, decide_true, Bool.and_self, Bool.not_true, Bool.false_or] at b
  have c := List.all_eq_true.1 b k' (List.mem_range.2 hk')
  have d := List.all_eq_true.1 c z' (List.mem_range.2 hz')
  rw [h3, h5] at d
  simp only [h4, decide_true, Bool.and_self, Bool.not_true, Bool.false_or, BEq.rfl, Bool.and_eq_true, beq_iff_eq] at d
  exact d
theorem first_inj {k z k' z' : Nat} (h1 : 1 ≤ k) (h2 : k ≤ 20) (h3 : z ≤ 4) (h4 : sizeFitsB (k : Int) (z : Int) = true) (g1 : 1 ≤ k') (g2 : k' ≤ 20) (g3 : z' ≤ 4) (g4 : sizeFitsB (k' : Int) (z' : Int) = true) (h : firstS k z = firstS k' z') : k = k' ∧ z = z' := by
  rw [fits_eq] at h4 g4
  exact first_inj_q k (by omega) z (by omega) h4 h1 k' (by omega) z' (by omega) g4 g1 (by rw [← first_eq k z (by omega), ← first_eq k' z' (by omega), h])
theorem first_is {k z : Nat} {y : Value} (h1 : 1 ≤ k) (h2 : k ≤ 20) (h3 : z ≤ 4) (h4 : sizeFitsB (k : Int) (z : Int) = true) (h : FirstIs (firstS k z) y) : y = .agg #[.int .i64 (k : Int), .int .i64 0, .int .i64 (-1), .int .i64 0, .int .i64 0, .int .i64 (z : Int)] := by
  rcases h with ⟨k', z', g1, g2, g3, g4, he, rfl⟩ | ⟨hno, _⟩
  · obtain ⟨rfl, rfl⟩ := first_inj g1 g2 g3 g4 h1 h2 h3 h4 he
    rfl
  · exact absurd rfl (hno k z h1 h2 h3 h4)
theorem call_inj : ∀ n, n < 7 → ∀ m, m < 7 → callsL.getD n ⟨#[]⟩ = callsL.getD m ⟨#[]⟩ → n = m := by decide +kernel
theorem call_is {n : Nat} {a : Int} {q : Bool} (h1 : 1 ≤ n) (h2 : n ≤ 6) (h : CallIs (callsL.getD n ⟨#[]⟩) (a, q)) : a = n ∧ q = true := by
  rcases h with ⟨m, g1, g2, he, hv⟩ | ⟨hno, _⟩
  · obtain rfl := call_inj m (by omega) n (by omega) he
    simp only [Prod.mk.injEq] at hv
    exact hv
  · exact absurd rfl (hno n h1 h2)
end Go.Proofs.YtbbecofgmodfiaaGreatDoor.G
