/- The specification's l1Cut: of words joined by blanks, those words. -/
import Derived.Test.YtbbecofgmodfiaaGreatDoorZN
import Derived.Laws.AppendOwnNone
import Derived.RangeFuncBox
import Derived.OwnWalk
namespace Go.Proofs.YtbbecofgmodfiaaGreatDoor.G
open Go.RowKit
set_option linter.unusedVariables false
set_option linter.unusedSimpArgs false

theorem join_inj {a b r t : ByteArray} (ha : No32 a) (hb : No32 b) (h : a ++ (SP_ ++ r) = b ++ (SP_ ++ t)) : a = b ∧ r = t := by
  have h1 := idxB_hit a r ha
  have h2 := idxB_hit b t hb
  rw [h, h2] at h1
  have hs : a.size = b.size := by omega
  refine ⟨?_, ?_⟩
  · rw [← ext_head a r, ← ext_head b t, h, hs]
  · rw [← ext_tail a r, ← ext_tail b t, h, hs]
theorem ext_list (s : ByteArray) (f k : Nat) : (s.extract f k).data.toList = (s.data.toList.take k).drop f := by
  rw [Lib.extract_data, List.take_drop]
  rcases Nat.le_total f k with h | h
  · rw [Nat.add_sub_cancel' h]
  · rw [List.drop_eq_nil_of_le (by simp; omega), List.drop_eq_nil_of_le (by simp; omega)]
theorem ext_cut (s : ByteArray) (f k : Nat) (hf : f ≤ k) (hk : k < s.size) (h32 : (s[k]'hk).toNat = 32) : s.extract f s.size = s.extract f k ++ (SP_ ++ s.extract (k + 1) s.size) := by
  apply ByteArray.ext
  apply Array.toList_inj.1
  have hl : s.data.toList.length = s.size := Array.length_toList
  have hb : s.data.toList[k]'(by omega) = 32 := by
    have : s[k] = s.data.toList[k]'(by omega) := by rw [Array.getElem_toList]; rfl
    rw [← this]
    exact UInt8.toNat_inj.1 h32
  rw [ByteArray.data_append, ByteArray.data_append, Array.toList_append, Array.toList_append, ext_list, ext_list, ext_list]
  have e1 : s.data.toList.take s.size = s.data.toList := by rw [← hl, List.take_length]
  rw [e1]
  show s.data.toList.drop f = (s.data.toList.take k).drop f ++ (32 :: s.data.toList.drop (k + 1))
  have e3 : (32 : UInt8) :: s.data.toList.drop (k + 1) = s.data.toList.drop k := by rw [← hb]; exact (List.drop_eq_getElem_cons (by omega)).symm
  have e2 : s.data.toList.drop f = (s.data.toList.take k ++ s.data.toList.drop k).drop f := by rw [List.take_append_drop]
  rw [e3, e2, List.drop_append_of_le_length (by simp; omega)]
theorem ext_no (s : ByteArray) (f k : Nat) (hf : f ≤ k) (hk : k < s.size) (h32 : ¬ (s[k]'hk).toNat = 32) (h : No32 (s.extract f k)) : No32 (s.extract f (k + 1)) := by
  have hl : s.data.toList.length = s.size := Array.length_toList
  have hb : s[k] = s.data.toList[k]'(by omega) := by rw [Array.getElem_toList]; rfl
  unfold No32 at h ⊢
  rw [ext_list] at h ⊢
  rw [List.take_succ_eq_append_getElem (by omega), List.drop_append_of_le_length (by simp; omega), List.mem_append]
  rintro (h1 | h1)
  · exact h h1
  · simp only [List.mem_singleton] at h1
    rw [← hb] at h1
    exact h32 (by rw [← h1]; rfl)
def CutOk (s : ByteArray) (W : List ByteArray) : Prop := W ≠ [] ∧ W.length ≤ 5 ∧ (∀ x ∈ W, No32 x) ∧ s = joinW W
def CutAt (s : ByteArray) (ws : List ByteArray) (f k : Nat) : Prop := ∀ W, CutOk s W → ∃ W', W = ws ++ W' ∧ W' ≠ [] ∧ s.extract f s.size = joinW W' ∧ No32 (s.extract f k)
theorem cut_start (s : ByteArray) : CutAt s [] 0 0 := by
  intro W h
  refine ⟨W, rfl, h.1, ?_, ?_⟩
  · rw [← h.2.2.2]
    apply ByteArray.ext
    apply Array.toList_inj.1
    have hl : s.data.toList.length = s.size := Array.length_toList
    rw [ext_list, ← hl, List.take_length, List.drop_zero]
  · unfold No32
    rw [ext_list]
    simp
theorem not_no (a r : ByteArray) : ¬ No32 (a ++ (SP_ ++ r)) := by
  unfold No32
  rw [ByteArray.data_append, ByteArray.data_append, Array.toList_append, Array.toList_append]
  exact fun h => h (List.mem_append.2 (.inr (List.mem_append.2 (.inl (by decide)))))
theorem cut_next {s : ByteArray} {ws : List ByteArray} {f k : Nat} (hf : f ≤ k) (hk : k < s.size) (h32 : ¬ (s[k]'hk).toNat = 32) (h : CutAt s ws f k) : CutAt s ws f (k + 1) := by
  intro W hW
  obtain ⟨W', h1, h2, h3, h4⟩ := h W hW
  exact ⟨W', h1, h2, h3, ext_no s f k hf hk h32 h4⟩
theorem cut_blank {s : ByteArray} {ws : List ByteArray} {f k : Nat} (hf : f ≤ k) (hk : k < s.size) (h32 : (s[k]'hk).toNat = 32) (h : CutAt s ws f k) : CutAt s (ws ++ [s.extract f k]) (k + 1) (k + 1) := by
  intro W hW
  obtain ⟨W', h1, h2, h3, h4⟩ := h W hW
  have hc := ext_cut s f k hf hk h32
  rw [hc] at h3
  have hno : ∀ x ∈ W', No32 x := fun x hx => hW.2.2.1 x (by rw [h1]; exact List.mem_append.2 (.inr hx))
  match W', h2 with
  | [x], _ =>
    have : joinW [x] = x := rfl
    rw [this] at h3
    have hx := hno x (by simp)
    rw [← h3] at hx
    exact absurd hx (not_no _ _)
  | x :: y :: r, _ =>
    have : joinW (x :: y :: r) = x ++ (SP_ ++ joinW (y :: r)) := rfl
    rw [this] at h3
    obtain ⟨e1, e2⟩ := join_inj h4 (hno x (by simp)) h3
    refine ⟨y :: r, ?_, by simp, e2, ?_⟩
    · rw [h1, e1]; simp
    · unfold No32
      rw [ext_list]
      simp
theorem cut_end {s : ByteArray} {ws : List ByteArray} {f k : Nat} (hk : k = s.size ∨ 5 ≤ ws.length) (h : CutAt s ws f k) : ∀ W, CutOk s W → ws ++ [s.extract f s.size] = W := by
  intro W hW
  obtain ⟨W', h1, h2, h3, h4⟩ := h W hW
  have hlen : ws.length < 5 := by
    have := hW.2.1
    rw [h1, List.length_append] at this
    have := List.length_pos_iff.2 h2
    omega
  have hk' : k = s.size := by omega
  rw [hk'] at h4
  have hno : ∀ x ∈ W', No32 x := fun x hx => hW.2.2.1 x (by rw [h1]; exact List.mem_append.2 (.inr hx))
  match W', h2 with
  | [x], _ =>
    have : joinW [x] = x := rfl
    rw [this] at h3
    rw [h1, h3]
  | x :: y :: r, _ =>
    have : joinW (x :: y :: r) = x ++ (SP_ ++ joinW (y :: r)) := rfl
    rw [this] at h3
    rw [h3] at h4
    exact absurd h4 (not_no _ _)

theorem own_base {w : World} {base e size : Nat} {v : Value} {n : Nat} {cs : List Value} (h : w.ownsRow base e size v n cs) : ∀ k, v.ownBlock = some k → base ≤ k := by
  intro k hk
  rcases h.2 with ⟨rfl, _⟩ | ⟨g, cap, cur, rfl, hb, _⟩
  · simp [Value.ownBlock] at hk
  · simp [Value.ownBlock] at hk; omega
theorem info9 : (Tryz.prog.info? 9).map (fun i => (i.zero, i.size, i.bytes)) = some (some (.string ⟨#[]⟩), 1, 16) := by kernel_rfl
theorem own_mono {w : World} {base base' e size : Nat} {v : Value} {n : Nat} {cs : List Value} (h : w.ownsRow base e size v n cs) (hb : base' ≤ base) : w.ownsRow base' e size v n cs := by
  refine ⟨h.1, h.2.imp id ?_⟩
  rintro ⟨g, cap, cur, h1, h2, h3⟩
  exact ⟨g, cap, cur, h1, by omega, h3⟩
theorem one_newE (W : World) (B : Nat) (t : TypeId) (x : Value) (hB : B = W.heap.size) : ∀ j u, [x][j]? = some u → (W.alloc (.cells #[x] t)).cell? ((⟨B, 0, none⟩ : Addr).add j) = some u := by
  subst hB
  intro j u hj
  have hl : j < 1 := (List.getElem?_eq_some_iff.1 hj).1
  obtain rfl : j = 0 := by omega
  simp at hj
  subst hj
  rw [Addr.add_lit, Nat.zero_add]
  exact (Boxed.new W t x).cell
theorem own_slice {W : World} {n₀ e s n : Nat} {v : Value} {xs : List Value} (h : W.ownsRow n₀ e s v n xs) : ∃ a cap, v = .slice a n cap := by
  rcases h.2 with ⟨rfl, rfl⟩ | ⟨g, cap, cur, rfl, _⟩
  · exact ⟨none, 0, rfl⟩
  · exact ⟨_, cap, rfl⟩
theorem made0 (w : World) (base B : Nat) (e : TypeId) (hB : B = w.heap.size) (hb : base ≤ w.heap.size) : (w.alloc (.cells #[] e)).ownsRow base e 1 (.slice (some ⟨B, 0, none⟩) 0 0) 0 [] := by
  subst hB
  exact World.ownsRow_made w #[] 0 hb (by unfold maxLen; omega) rfl

set_option maxRecDepth 100000 in
set_option maxHeartbeats 4000000 in
theorem cutE (s : ByteArray) (w : World) (hs : s.size ≤ 1048576) :
    Calls Tryz.prog 25 #[.string s, .int .u8 32, .int .i64 5] w fun e w' => (∃ (ws : List ByteArray) (a : Option Addr) (c : Nat), e = .returned (.slice a ws.length c) ∧ 1 ≤ ws.length ∧ ws.length ≤ 6 ∧ Hid (∀ W, CutOk s W → ws = W) ∧ (∀ x ∈ ws, x.size ≤ 1048576) ∧ w'.ownsRow w.heap.size 9 1 (.slice a ws.length c) ws.length (ws.map .string)) ∧ Below w.heap.size w w' := by
  obtain ⟨j0, hj, hy0, hy1, hy2⟩ := info_parts info9
  have c0 : Below w.heap.size w (w.alloc (.cells #[] 9)) := (Below.refl _ _).alloc (Nat.le_refl _) _
  have o0 : (w.alloc (.cells #[] 9)).ownsRow w.heap.size 9 1 (.slice (some ⟨w.heap.size, 0, none⟩) 0 0) 0 [] := made0 w _ _ 9 rfl (Nat.le_refl _)
  have HC0 := hid c0
  have HO0 := hid o0
  clear c0 o0
  go_enter Tryz.func25, Tryz.ntmps25
  go_wp2_with fail
  go_loopw [7, 8, 9] (fun out fr i wr => ∃ (ws : List ByteArray) (f k : Nat), fr = .int .i64 f ∧ i = .int .i64 k ∧ f ≤ k ∧ k ≤ s.size ∧ ws.length ≤ 5 ∧ (∀ x ∈ ws, x.size ≤ 1048576) ∧ CutAt s ws f k ∧ wr.ownsRow w.heap.size 9 1 out ws.length (ws.map .string) ∧ Below w.heap.size w wr) (fun _ _ i _ => s.size - (intOf i).toNat)
  case atStart => exact ⟨[], 0, 0, rfl, rfl, Nat.le_refl _, Nat.zero_le _, by simp, by simp, cut_start s, HO0.out, HC0.out⟩
  case round =>
    obtain ⟨ws, f, k, rfl, rfl, hf, hk, hw5, hall, hcut, hown, hbw⟩ := hrel
    have HCU := hid hcut
    clear hcut
    have hsz := hbw.size
    obtain ⟨a0, cap0, rfl⟩ := own_slice hown
    have HO := hid hown
    have HA := hid hall
    have hf0 : (0 : Int) ≤ (f : Int) := by omega
    have hk0 : (0 : Int) ≤ (k : Int) := by omega
    have hfk : (f : Int) ≤ (k : Int) := by omega
    have hks : (k : Int) ≤ (s.size : Int) := by omega
    have hfs : (f : Int) ≤ (s.size : Int) := by omega
    clear hown hall
    have fin : ∀ (x : ByteArray) (w1 : World) (v' : Value), x.size ≤ 1048576 → w1.ownsRow w.heap.size 9 1 v' (ws.length + 1) (ws.map Value.string ++ [.string x]) → w1.ownsRow w.heap.size 9 1 v' (ws ++ [x]).length ((ws ++ [x]).map .string) := by
      intro x w1 v' _ h
      simpa using h
    have HF := hid fin
    clear fin
    by_cases hgo : k < s.size ∧ ws.length < 5
    · obtain ⟨hlt, hl5⟩ := hgo
      have hlt' : (k : Int) < (s.size : Int) := by omega
      have hl5' : (ws.length : Int) < 5 := by omega
      by_cases h32 : (s[k]'hlt).toNat = 32
      · have h32' : ((s[k]'hlt).toNat : Int) = 32 := by omega
        have HCT := hid (cut_blank hf hlt h32 HCU.out)
        clear h32
        go_wp2_with (first | (at_builtin; go_must (refine wpList_append_own _ rfl _ _ 39 rfl w.heap.size 9 j0 (.string ⟨#[]⟩) 1 16 Tryz.underlying39 hj hy0 hy1 hy2 rfl (by decide) _ _ _ rfl (World.ownsRow.alloc HO.out _) ⟨wr.heap.size, 0, none⟩ 1 1 [.string (s.extract f k)] rfl (by simp) (one_newE _ _ _ _ rfl) (by simp [Value.oneCell']) (by unfold maxLen; omega) (by omega) (by simp; omega) ?_)))
        intro v' w3 hown3 hgrow _
        have hb3 : Below w.heap.size w w3 := (hbw.alloc (by omega) _).grown hgrow (by simp; omega) (own_base HO.out)
        have hx : (s.extract f k).size ≤ 1048576 := by simp; omega
        have H3 := hid (HF.out _ _ _ hx hown3)
        have HX := hid hx
        clear hown3 hgrow hx
        go_wp2_with fail
        go_roundw
        case rel => exact ⟨ws ++ [s.extract f k], k + 1, k + 1, by go_num, by go_num, by omega, by omega, by simp; omega, fun y hy => by rcases List.mem_append.1 hy with h | h; exact HA.out y h; simp at h; rw [h]; exact HX.out, HCT.out, H3.out, hb3⟩
        case measure => simp [intOf]; omega
      · have h32' : ¬ ((s[k]'hlt).toNat : Int) = 32 := by omega
        have HCT := hid (cut_next hf hlt h32 HCU.out)
        clear h32
        go_wp2_with fail
        go_roundw
        case rel => exact ⟨ws, f, k + 1, rfl, by go_num, by omega, by omega, by omega, HA.out, HCT.out, HO.out, hbw⟩
        case measure => simp [intOf]; omega
    · have hgo' : ((k : Int) < (s.size : Int)) = False ∨ ((ws.length : Int) < 5) = False := by
        by_cases h1 : k < s.size
        · right; simp; omega
        · left; simp; omega
      have HCT := hid (cut_end (by omega) HCU.out)
      rcases hgo' with h1 | h1
      all_goals (
        have hno : ¬ _ := of_eq_false h1
        clear h1
        go_wp2_with (first | (at_builtin; go_must (refine wpList_append_own _ rfl _ _ 39 rfl w.heap.size 9 j0 (.string ⟨#[]⟩) 1 16 Tryz.underlying39 hj hy0 hy1 hy2 rfl (by decide) _ _ _ rfl (World.ownsRow.alloc HO.out _) ⟨wr.heap.size, 0, none⟩ 1 1 [.string (s.extract f s.size)] rfl (by simp) (one_newE _ _ _ _ rfl) (by simp [Value.oneCell']) (by unfold maxLen; omega) (by omega) (by simp; omega) ?_)))
        all_goals (
          intro v' w3 hown3 hgrow _
          have hb3 : Below w.heap.size w w3 := (hbw.alloc (by omega) _).grown hgrow (by simp; omega) (own_base HO.out)
          have hx : (s.extract f s.size).size ≤ 1048576 := by simp; omega
          obtain ⟨WS, hWS⟩ : ∃ l, l = ws ++ [s.extract f s.size] := ⟨_, rfl⟩
          have H3 : Hid (w3.ownsRow w.heap.size 9 1 v' WS.length (WS.map .string)) := by rw [hWS]; exact HF.out _ _ _ hx hown3
          have HL : Hid (WS.length = ws.length + 1) := by rw [hWS]; show (ws ++ [_]).length = _; simp
          have HX : Hid (∀ y ∈ WS, y.size ≤ 1048576) := by
            rw [hWS]
            intro y hy
            rcases List.mem_append.1 hy with h | h
            · exact HA.out y h
            · simp at h; rw [h]; exact hx
          obtain ⟨a5, c5, rfl⟩ := own_slice H3.out
          have HE : Hid (∀ W, CutOk s W → WS = W) := by rw [hWS]; exact HCT.out
          clear hown3 hgrow hx hWS
          go_wp2_with fail
          go_ret
          exact ⟨⟨WS, a5, c5, rfl, by have := HL.out; omega, by have := HL.out; omega, HE, HX.out, H3.out⟩, hb3⟩))

end Go.Proofs.YtbbecofgmodfiaaGreatDoor.G
