/- Numbers of the specification's lines, exactly: what decimals read as. -/
import Derived.Test.YtbbecofgmodfiaaGreatDoorNJ
namespace Go.Proofs.YtbbecofgmodfiaaGreatDoor.G
open Go.RowKit
set_option linter.unusedVariables false
set_option linter.unusedSimpArgs false

def valN (a : Nat) (l : List UInt8) : Nat := l.foldl (fun a b => a * 10 + (b.toNat - 48)) a
theorem valN_dec : ∀ n : Nat, valN 0 (Lib.decDigits n) = n := by
  intro n
  induction n using Nat.strongRecOn with
  | ind n ih =>
    rw [Lib.decDigits]
    split
    · rename_i h
      have e : (UInt8.ofNat (48 + n)).toNat = 48 + n := by rw [UInt8.toNat_ofNat']; omega
      show 0 * 10 + ((UInt8.ofNat (48 + n)).toNat - 48) = n
      rw [e]; omega
    · rename_i h
      have e : (UInt8.ofNat (48 + n % 10)).toNat = 48 + n % 10 := by rw [UInt8.toNat_ofNat']; omega
      have := ih (n / 10) (by omega)
      unfold valN at this ⊢
      rw [List.foldl_append, this]
      show n / 10 * 10 + ((UInt8.ofNat (48 + n % 10)).toNat - 48) = n
      rw [e]; omega
theorem valN_ge : ∀ (l : List UInt8) (a : Nat), a ≤ valN a l
  | [], a => Nat.le_refl _
  | b :: l, a => Nat.le_trans (by omega) (valN_ge l (a * 10 + (b.toNat - 48)))
theorem valN_take (l : List UInt8) (k : Nat) (h : k < l.length) : valN 0 (l.take (k + 1)) = valN 0 (l.take k) * 10 + (l[k].toNat - 48) := by
  rw [List.take_succ_eq_append_getElem h]
  unfold valN
  rw [List.foldl_append]
  rfl
theorem valN_le (l : List UInt8) (k : Nat) : valN 0 (l.take k) ≤ valN 0 l := by
  have h : valN 0 l = valN (valN 0 (l.take k)) (l.drop k) := by
    unfold valN
    rw [← List.foldl_append, List.take_append_drop]
  rw [h]
  exact valN_ge _ _
theorem dig_head (n : Nat) (h : 1 ≤ n) : ∀ b r, Lib.decDigits n = b :: r → b.toNat ≠ 48 := by
  induction n using Nat.strongRecOn with
  | ind n ih =>
    intro b r hb
    rw [Lib.decDigits] at hb
    split at hb
    · rename_i h9
      injection hb with h1 _
      rw [← h1, UInt8.toNat_ofNat']
      omega
    · rename_i h9
      cases hd : Lib.decDigits (n / 10) with
      | nil => exact absurd hd (dig_ne _)
      | cons b' r' =>
        rw [hd] at hb
        injection hb with h1 _
        rw [← h1]
        exact ih (n / 10) (by omega) (by omega) b' r' hd
theorem dig_head0 (n : Nat) (h1 : 1 ≤ n) (h : 0 < (Lib.decDigits n).length) : (Lib.decDigits n)[0].toNat ≠ 48 := by
  revert h
  cases hd : Lib.decDigits n with
  | nil => exact absurd hd (dig_ne _)
  | cons b r => intro h; exact dig_head n h1 b r hd
theorem decS_len (n : Nat) : (Lib.decDigits n).length = (decS n).size := by rw [← decS_list]; exact Array.length_toList
/-- What the walk wants of a decimal. -/
structure DecF (s : ByteArray) (n : Nat) (v : Nat → Nat) : Prop where
  pos : 0 < s.size
  le : s.size ≤ 10
  lo : ∀ k (h : k < s.size), 48 ≤ (s[k]'h).toNat
  hi : ∀ k (h : k < s.size), (s[k]'h).toNat ≤ 57
  v0 : v 0 = 0
  step : ∀ k (h : k < s.size), v (k + 1) = v k * 10 + ((s[k]'h).toNat - 48)
  all : v s.size = n
  big : ∀ k, v k ≤ n
  head : 1 < s.size → ∀ h : 0 < s.size, (s[0]'h).toNat ≠ 48
theorem decF (n : Nat) (hn : n ≤ 4294967295) : DecF (decS n) n (fun k => valN 0 ((decS n).data.toList.take k)) := by
  have hl := decS_len n
  have hL := decS_list n
  have hsz : (decS n).size ≤ 10 := decS_size 9 n (by omega)
  have hpos : 0 < (decS n).size := by
    rw [← hl]
    exact List.length_pos_iff.2 (dig_ne n)
  have hat : ∀ k (h : k < (decS n).size), (decS n)[k] = (Lib.decDigits n)[k]'(by omega) := fun k h => by
    have : (decS n)[k] = (decS n).data.toList[k]'(by rw [hL]; omega) := by rw [Array.getElem_toList]; rfl
    rw [this]
    simp only [hL]
  refine ⟨hpos, hsz, fun k h => ?_, fun k h => ?_, rfl, fun k h => ?_, ?_, fun k => ?_, fun h1 h => ?_⟩
  · rw [hat k h]; exact (dig_range n _ (List.getElem_mem _)).1
  · rw [hat k h]; exact (dig_range n _ (List.getElem_mem _)).2
  · show valN 0 ((decS n).data.toList.take (k + 1)) = _
    rw [hat k h, hL]
    exact valN_take _ _ (by omega)
  · show valN 0 ((decS n).data.toList.take (decS n).size) = n
    rw [hL, ← hl, List.take_length]
    exact valN_dec n
  · show valN 0 ((decS n).data.toList.take k) ≤ n
    rw [hL]
    have := valN_le (Lib.decDigits n) k
    rw [valN_dec] at this
    exact this
  · rw [hat 0 h]
    have h1n : 1 ≤ n := by
      by_cases h0 : n = 0
      · subst h0
        rw [decS_lt (by omega)] at h1
        simp [strOfNums_size'] at h1
      · omega
    exact dig_head0 n h1n _

def AnIv (v : Int) (e : Ending) : Prop := ∃ a : Int, Hid (a = v) ∧ e = .returned (.int .i64 a)
set_option maxRecDepth 100000 in
set_option maxHeartbeats 4000000 in
theorem numF (s : ByteArray) (n : Nat) (v : Nat → Nat) (hF : DecF s n v) (hn : n ≤ 4294967295) (w : World) : Calls Tryz.prog 68 #[.string s] w fun e w' => AnIv (n : Int) e ∧ Below w.heap.size w w' := by
  have HF := hid hF
  have hs := hF.le
  have hp := hF.pos
  clear hF
  go_enter Tryz.func68, Tryz.ntmps68
  go_wp2_with fail
  go_loopw [3, 4] (fun nn i wr => ∃ (k : Nat), nn = .int .i64 (v k : Int) ∧ k ≤ s.size ∧ i = .int .i64 k ∧ Below w.heap.size w wr) (fun _ i _ => s.size - (intOf i).toNat)
  case atStart => exact ⟨0, by rw [HF.out.v0]; rfl, Nat.zero_le _, rfl, Below.refl _ _⟩
  case round =>
    obtain ⟨k, rfl, hk, rfl, hbw⟩ := hrel
    by_cases hlt : k < s.size
    · have hlt' : (k : Int) < (s.size : Int) := by omega
      have hk0 : (0 : Int) ≤ (k : Int) := by omega
      have hk10 : (k : Int) < 10 := by omega
      have hlo := HF.out.lo k hlt
      have hhi := HF.out.hi k hlt
      have HS := hid (HF.out.step k hlt)
      have hvk := HF.out.big k
      have hvk' : (v k : Int) ≤ 4294967295 := by omega
      have hvk0 : (0 : Int) ≤ (v k : Int) := by omega
      have hlo' : (48 : Int) ≤ ((s[k]'hlt).toNat : Int) := by omega
      have hhi' : ((s[k]'hlt).toNat : Int) ≤ 57 := by omega
      clear hvk hlo hhi
      go_wp2_with fail
      go_roundw
      case rel => exact ⟨k + 1, by rw [HS.out]; go_num, by omega, by go_num, hbw⟩
      case measure => simp [intOf]; omega
    · obtain rfl : k = s.size := by omega
      have HA := hid HF.out.all
      have hp' : (0 : Int) < (s.size : Int) := by omega
      have hse : ¬ s = ByteArray.empty := fun e => by rw [e] at hp; exact absurd hp (by decide)
      have hs0 : ¬ s.size = 0 := by omega
      by_cases h1 : 1 < s.size
      · have h1' : (1 : Int) < (s.size : Int) := by omega
        have hh := HF.out.head h1 hp
        have hh' : ¬ ((s[0]'hp).toNat : Int) = 48 := by omega
        have hh2 : (((s[0]'hp).toNat : Int) == 48) = false := by simp; omega
        have hh3 : ¬ (s[0]'hp) = 48 := fun e => hh (by rw [e]; rfl)
        have hh4 : ¬ (s[0]'hp).toNat = 48 := hh
        clear hh
        go_wp2_with fail
        go_ret
        exact ⟨⟨(v s.size : Int), congrArg (fun k : Nat => (k : Int)) HA.out, rfl⟩, hbw⟩
      · have h1' : ¬ (1 : Int) < (s.size : Int) := by omega
        go_wp2_with fail
        go_ret
        exact ⟨⟨(v s.size : Int), congrArg (fun k : Nat => (k : Int)) HA.out, rfl⟩, hbw⟩
theorem num_d (n : Nat) (hn : n ≤ 4294967295) (s : ByteArray) (hs : s = decS n) (w : World) : Calls Tryz.prog 68 #[.string s] w fun e w' => AnIv (n : Int) e ∧ Below w.heap.size w w' := by
  subst hs
  exact numF _ n _ (decF n hn) hn w

set_option maxRecDepth 100000 in
set_option maxHeartbeats 4000000 in
theorem numA (s : ByteArray) (w : World) (hs : s.size ≤ 1048576) : Calls Tryz.prog 68 #[.string s] w fun e w' => (∃ v : Int, e = .returned (.int .i64 v)) ∧ Below w.heap.size w w' := by
  go_enter Tryz.func68, Tryz.ntmps68
  go_wp2_with fail
  go_loopw [3, 4] (fun nn i wr => ∃ (v : Int) (k : Nat), nn = .int .i64 v ∧ k ≤ s.size ∧ i = .int .i64 k ∧ Below w.heap.size w wr) (fun _ i _ => s.size - (intOf i).toNat)
  case atStart => exact ⟨0, 0, rfl, Nat.zero_le _, rfl, Below.refl _ _⟩
  case round =>
    obtain ⟨v, k, rfl, hk, rfl, hbw⟩ := hrel
    by_cases hlt : k < s.size
    · have hlt' : (k : Int) < (s.size : Int) := by omega
      have hk0 : (0 : Int) ≤ (k : Int) := by omega
      go_wp2_with fail
      all_goals first
        | (go_ret; exact ⟨⟨_, rfl⟩, hbw⟩)
        | (go_roundw
           case rel => exact ⟨_, k + 1, rfl, by omega, by go_num, hbw⟩
           case measure => simp [intOf]; omega)
    · obtain rfl : k = s.size := by omega
      go_wp2_with fail
      all_goals (go_ret; exact ⟨⟨_, rfl⟩, hbw⟩)
theorem decS_inj {n m : Nat} (h : decS n = decS m) : n = m := by
  have := congrArg (fun x : ByteArray => valN 0 x.data.toList) h
  simp only [decS_list, valN_dec] at this
  exact this
def NumIs (s : ByteArray) (v : Int) : Prop := ∀ n : Nat, n ≤ 4294967295 → s = decS n → v = n
theorem num_e (s : ByteArray) (w : World) (hs : s.size ≤ 1048576) : Calls Tryz.prog 68 #[.string s] w fun e w' => (∃ v : Int, Hid (NumIs s v) ∧ e = .returned (.int .i64 v)) ∧ Below w.heap.size w w' := by
  by_cases h : ∃ n, n ≤ 4294967295 ∧ s = decS n
  · obtain ⟨n, hn, h⟩ := h
    refine (num_d n hn s h w).mono ?_
    rintro e w' ⟨⟨a, ha, rfl⟩, hb⟩
    exact ⟨⟨a, fun m _ h2 => by rw [ha.out, decS_inj (h.symm.trans h2)], rfl⟩, hb⟩
  · refine (numA s w hs).mono ?_
    rintro e w' ⟨⟨a, rfl⟩, hb⟩
    exact ⟨⟨a, fun m h1 h2 => absurd ⟨m, h1, h2⟩ h, rfl⟩, hb⟩

theorem at0 (s : ByteArray) (h : 0 < s.size) (b : UInt8) (r : List UInt8) (e : s.data.toList = b :: r) : s[0] = b := by
  have : s[0] = s.data.toList[0]'(by rw [e]; simp) := by rw [Array.getElem_toList]; rfl
  rw [this]
  simp only [e, List.getElem_cons_zero]
theorem ext1 (s : ByteArray) (b : UInt8) (r : ByteArray) (e : s = ⟨#[b]⟩ ++ r) : s.extract 1 s.size = r := by
  have h := Lib.extract_to_end s 1
  have e2 : s.data.toList = b :: r.data.toList := by rw [e, ByteArray.data_append, Array.toList_append]; rfl
  rw [e2] at h
  apply ByteArray.ext
  exact Array.toList_inj.1 h
theorem size1 (s : ByteArray) (b : UInt8) (r : ByteArray) (e : s = ⟨#[b]⟩ ++ r) (h : 0 < r.size) : 1 < s.size := by
  rw [e, ByteArray.size_append]; show 1 < 1 + _; omega
theorem dec0 (n : Nat) : 0 < (decS n).size := by rw [← decS_len]; exact List.length_pos_iff.2 (dig_ne n)
theorem dec_at0 (n : Nat) (s : ByteArray) (h : s = decS n) (h0 : 0 < s.size) : 48 ≤ (s[0]'h0).toNat ∧ (s[0]'h0).toNat ≤ 57 := by
  cases hd : Lib.decDigits n with
  | nil => exact absurd hd (dig_ne _)
  | cons b r =>
    rw [at0 s h0 b r (by rw [h, decS_list, hd])]
    exact dig_range n b (by rw [hd]; simp)
/-- What a text is as a register or a number. -/
def RegIs (s : ByteArray) (a b : Int) : Prop := (∀ n : Nat, n ≤ 4294967295 → s = ⟨#[114]⟩ ++ decS n → a = n ∧ b = 0) ∧ (∀ n : Nat, n ≤ 4294967295 → s = decS n → a = -1 ∧ b = n)
def SigIs (s : ByteArray) (v : Int) : Prop := ∀ n : Int, -1000 ≤ n → n ≤ 4294967295 → s = decI n → v = n
def AnR2 (s : ByteArray) (e : Ending) : Prop := ∃ a b : Int, Hid (RegIs s a b) ∧ e = .returned (.tuple #[.int .i64 a, .int .i64 b])
def AnSg (s : ByteArray) (e : Ending) : Prop := ∃ v : Int, Hid (SigIs s v) ∧ e = .returned (.int .i64 v)

set_option maxRecDepth 100000 in
set_option maxHeartbeats 4000000 in
theorem regE (s : ByteArray) (w : World) (hs : s.size ≤ 1048576) : Calls Tryz.prog 51 #[.string s] w fun e w' => AnR2 s e ∧ Below w.heap.size w w' := by
  have no1 : (∀ h0 : 0 < s.size, ¬ ((s[0]'h0).toNat = 114 ∧ 1 < s.size)) → ∀ n : Nat, ¬ s = ⟨#[114]⟩ ++ decS n := fun h n e => by
    have h1 := size1 s 114 _ e (dec0 n)
    exact h (by omega) ⟨by rw [at0 s (by omega) 114 (decS n).data.toList (by rw [e, ByteArray.data_append, Array.toList_append]; rfl)]; rfl, h1⟩
  by_cases hc : 1 < s.size
  · by_cases h114 : (s[0]'(by omega)).toNat = 114
    · have hc' : (1 : Int) < (s.size : Int) := by omega
      have h' : ((s[0]'(by omega)).toNat : Int) = 114 := by omega
      have HD := hid (fun (n : Nat) (e : s = decS n) => (show False by have := dec_at0 n s e (by omega); omega))
      have HX := hid (fun (n : Nat) (e : s = ⟨#[114]⟩ ++ decS n) => ext1 s 114 _ e)
      obtain ⟨x, hx⟩ : ∃ x, x = s.extract 1 s.size := ⟨_, rfl⟩
      have hxs : x.size ≤ 1048576 := by rw [hx]; simp; omega
      rw [← hx] at HX
      have HXE := hid hx
      clear no1 h114
      go_enter Tryz.func51, Tryz.ntmps51
      go_wp2_with fail
      rw [← hx]
      clear hx
      refine (num_e x _ hxs).mono ?_
      rintro e w1 ⟨⟨v, hv, rfl⟩, b1⟩
      by_cases hv0 : v < 0
      · go_wp2_with fail
        go_ret2
        exact ⟨⟨_, _, ⟨fun n hn e => absurd (hv.out n hn (HX.out n e)) (by omega), fun n hn e => (HD.out n e).elim⟩, rfl⟩, b1⟩
      · go_wp2_with fail
        go_ret2
        exact ⟨⟨_, _, ⟨fun n hn e => ⟨hv.out n hn (HX.out n e), rfl⟩, fun n hn e => (HD.out n e).elim⟩, rfl⟩, b1⟩
    · have hc' : (1 : Int) < (s.size : Int) := by omega
      have h' : ¬ ((s[0]'(by omega)).toNat : Int) = 114 := by omega
      have HN := hid (no1 fun _ h => h114 h.1)
      clear no1 h114
      go_enter Tryz.func51, Tryz.ntmps51
      go_wp2_with fail
      refine (num_e s _ hs).mono ?_
      rintro e w1 ⟨⟨v, hv, rfl⟩, b1⟩
      go_wp2_with fail
      go_ret2
      exact ⟨⟨_, _, ⟨fun n hn e => absurd e (HN.out n), fun n hn e => ⟨rfl, hv.out n hn e⟩⟩, rfl⟩, b1⟩
  · have hc' : ¬ (1 : Int) < (s.size : Int) := by omega
    have HN := hid (no1 fun _ h => hc h.2)
    clear no1
    go_enter Tryz.func51, Tryz.ntmps51
    go_wp2_with fail
    refine (num_e s _ hs).mono ?_
    rintro e w1 ⟨⟨v, hv, rfl⟩, b1⟩
    go_wp2_with fail
    go_ret2
    exact ⟨⟨_, _, ⟨fun n hn e => absurd e (HN.out n), fun n hn e => ⟨rfl, hv.out n hn e⟩⟩, rfl⟩, b1⟩

set_option maxRecDepth 100000 in
set_option maxHeartbeats 4000000 in
theorem sigE (s : ByteArray) (w : World) (hs : s.size ≤ 1048576) : Calls Tryz.prog 52 #[.string s] w fun e w' => AnSg s e ∧ Below w.heap.size w w' := by
  have no1 : (∀ h0 : 0 < s.size, ¬ ((s[0]'h0).toNat = 45 ∧ 1 < s.size)) → ∀ n : Int, s = decI n → s = decS n.toNat ∧ 0 ≤ n := fun h n e => by
    unfold decI at e
    split at e
    · have h1 := size1 s 45 _ e (dec0 _)
      exact absurd ⟨by rw [at0 s (by omega) 45 (decS n.natAbs).data.toList (by rw [e, ByteArray.data_append, Array.toList_append]; rfl)]; rfl, h1⟩ (h (by omega))
    · exact ⟨e, by omega⟩
  by_cases hc : 1 < s.size
  · by_cases h45 : (s[0]'(by omega)).toNat = 45
    · have hc' : (1 : Int) < (s.size : Int) := by omega
      have h' : ((s[0]'(by omega)).toNat : Int) = 45 := by omega
      have HX := hid (fun (n : Int) (e : s = decI n) => (show n < 0 ∧ s.extract 1 s.size = decS n.natAbs by
        unfold decI at e
        split at e
        · rename_i hn; exact ⟨hn, ext1 s 45 _ e⟩
        · have := dec_at0 _ s e (by omega); omega))
      obtain ⟨x, hx⟩ : ∃ x, x = s.extract 1 s.size := ⟨_, rfl⟩
      have hxs : x.size ≤ 1048576 := by rw [hx]; simp; omega
      rw [← hx] at HX
      clear no1 h45
      go_enter Tryz.func52, Tryz.ntmps52
      go_wp2_with fail
      rw [← hx]
      clear hx
      refine (num_e x _ hxs).mono ?_
      rintro e w1 ⟨⟨v, hv, rfl⟩, b1⟩
      by_cases hv0 : v < 1
      · go_wp2_with fail
        go_ret
        exact ⟨⟨_, fun n h0 h1 e => absurd (hv.out n.natAbs (by have := (HX.out n e).1; omega) (HX.out n e).2) (by have := (HX.out n e).1; omega), rfl⟩, b1⟩
      · go_wp2_with fail
        go_ret
        refine ⟨⟨_, fun n h0 h1 e => ?_, rfl⟩, b1⟩
        have h2 := (HX.out n e).1
        have h3 := hv.out n.natAbs (by omega) (HX.out n e).2
        have h4 : v ≤ 1000 := by omega
        subst h3
        first | omega | (simp only [IntKind.wrap_i64]; omega) | (unfold wrap64; omega) | (go_num)
    · have hc' : (1 : Int) < (s.size : Int) := by omega
      have h' : ¬ ((s[0]'(by omega)).toNat : Int) = 45 := by omega
      have HN := hid (no1 fun _ h => h45 h.1)
      clear no1 h45
      go_enter Tryz.func52, Tryz.ntmps52
      go_wp2_with fail
      refine (num_e s _ hs).mono ?_
      rintro e w1 ⟨⟨v, hv, rfl⟩, b1⟩
      have hk := hid (fun (n : Int) (h1 : n ≤ 4294967295) (e : s = decI n) => (show v = n by have h2 := HN.out n e; have := hv.out n.toNat (by omega) h2.1; omega))
      by_cases hv0 : v < 0
      · go_wp2_with fail
        go_ret
        exact ⟨⟨_, fun n h0 h1 e => absurd (hk.out n h1 e) (by have := (HN.out n e).2; omega), rfl⟩, b1⟩
      · go_wp2_with fail
        go_ret
        exact ⟨⟨_, fun n h0 h1 e => hk.out n h1 e, rfl⟩, b1⟩
  · have hc' : ¬ (1 : Int) < (s.size : Int) := by omega
    have HN := hid (no1 fun _ h => hc h.2)
    clear no1
    go_enter Tryz.func52, Tryz.ntmps52
    go_wp2_with fail
    refine (num_e s _ hs).mono ?_
    rintro e w1 ⟨⟨v, hv, rfl⟩, b1⟩
    have hk := hid (fun (n : Int) (h1 : n ≤ 4294967295) (e : s = decI n) => (show v = n by have h2 := HN.out n e; have := hv.out n.toNat (by omega) h2.1; omega))
    by_cases hv0 : v < 0
    · go_wp2_with fail
      go_ret
      exact ⟨⟨_, fun n h0 h1 e => absurd (hk.out n h1 e) (by have := (HN.out n e).2; omega), rfl⟩, b1⟩
    · go_wp2_with fail
      go_ret
      exact ⟨⟨_, fun n h0 h1 e => hk.out n h1 e, rfl⟩, b1⟩

/-- What a find answers: the place of a text in a list. -/
def FindIs (l : List ByteArray) (s : ByteArray) (v : Int) : Prop := (v = -1 ∧ ∀ k, k < l.length → l.getD k ⟨#[]⟩ ≠ s) ∨ ∃ k : Nat, k < l.length ∧ v = k ∧ l.getD k ⟨#[]⟩ = s
set_option maxRecDepth 100000 in
set_option maxHeartbeats 4000000 in
theorem findE (l : List ByteArray) (L n : Nat) (hn : l.length = n) (hn2 : n ≤ 1000) (s : ByteArray) (w : World) (h : SL w L l) : Calls Tryz.prog 50 #[.slice (some ⟨L, 0, none⟩) n n, .string s] w fun e w' => (∃ v : Int, Hid (FindIs l s v) ∧ -1 ≤ v ∧ v < n ∧ e = .returned (.int .i64 v)) ∧ Below w.heap.size w w' := by
  have H := hid h
  have HN := hid hn
  clear h hn
  go_enter Tryz.func50, Tryz.ntmps50
  go_wp2_with fail
  go_loopw [5] (fun i wr => ∃ k : Nat, k ≤ n ∧ i = .int .i64 k ∧ (∀ j, j < k → l.getD j ⟨#[]⟩ ≠ s) ∧ Below w.heap.size w wr) (fun i _ => n - (intOf i).toNat)
  case atStart => exact ⟨0, Nat.zero_le _, rfl, fun j h => absurd h (by omega), Below.refl _ _⟩
  case round =>
    obtain ⟨k, hk, rfl, hno, hbw⟩ := hrel
    have HNO := hid hno
    clear hno
    by_cases hlt : k < n
    · have hlt' : (k : Int) < (n : Int) := by omega
      have hk0 : (0 : Int) ≤ (k : Int) := by omega
      have hc := (H.out.below hbw).2 k (by have := HN.out; omega)
      obtain ⟨x, hx⟩ : ∃ x, x = l.getD k ⟨#[]⟩ := ⟨_, rfl⟩
      rw [← hx] at hc
      have HX := hid hx
      clear hx
      cases hq : (x.toList == s.toList)
      · go_wp2_with fail
        go_roundw
        case rel => exact ⟨k + 1, by omega, by go_num, fun j hj => by
          by_cases h : j = k
          · rw [h, ← HX.out]; exact fun e => by rw [(str_eq _ _).2 e] at hq; cases hq
          · exact HNO.out j (by omega), hbw⟩
        case measure => simp [intOf]; omega
      · go_wp2_with fail
        go_ret
        exact ⟨⟨_, .inr ⟨k, by have := HN.out; omega, rfl, by rw [← HX.out]; exact (str_eq _ _).1 hq⟩, by omega, by omega, rfl⟩, hbw⟩
    · obtain rfl : k = n := by omega
      go_wp2_with fail
      go_ret
      exact ⟨⟨-1, .inl ⟨rfl, fun j hj => HNO.out j (by have := HN.out; omega)⟩, by omega, by omega, rfl⟩, hbw⟩
end Go.Proofs.YtbbecofgmodfiaaGreatDoor.G
