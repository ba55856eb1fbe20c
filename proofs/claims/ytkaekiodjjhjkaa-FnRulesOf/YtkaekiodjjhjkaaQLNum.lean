/- Numbers, words and finds of the specification's lines: what they answer, loosely. -/
import Derived.Test.YtkaekiodjjhjkaaQLDec
import Derived.Test.YtkaekiodjjhjkaaQGrp1
namespace Go.Proofs.Ytkaekiodjjhjkaa
open Go.RowKit
set_option linter.unusedVariables false
set_option linter.unusedSimpArgs false


def wordsL : List ByteArray := [⟨#[]⟩, ⟨#[109, 111, 118]⟩, ⟨#[97, 100, 100]⟩, ⟨#[115, 117, 98]⟩, ⟨#[109, 117, 108]⟩, ⟨#[97, 110, 100]⟩, ⟨#[111, 114]⟩, ⟨#[120, 111, 114]⟩, ⟨#[115, 104, 108]⟩, ⟨#[115, 104, 114]⟩, ⟨#[100, 105, 118]⟩, ⟨#[109, 111, 100]⟩, ⟨#[115, 97, 109, 101]⟩, ⟨#[111, 116, 104, 101, 114]⟩, ⟨#[108, 101, 115, 115]⟩, ⟨#[109, 111, 114, 101]⟩, ⟨#[103, 111]⟩, ⟨#[108, 111, 97, 100]⟩, ⟨#[115, 116, 111, 114, 101]⟩, ⟨#[99, 97, 108, 108]⟩, ⟨#[101, 120, 105, 116]⟩]
def callsL : List ByteArray := [⟨#[]⟩, ⟨#[108, 111, 111, 107]⟩, ⟨#[112, 117, 116]⟩, ⟨#[102, 105, 110, 100]⟩, ⟨#[100, 114, 111, 112]⟩, ⟨#[114, 97, 110, 100]⟩, ⟨#[115, 101, 110, 100]⟩]
def AnI (e : Ending) : Prop := ∃ v : Int, e = .returned (.int .i64 v)
def An2 (e : Ending) : Prop := ∃ a b : Int, e = .returned (.tuple #[.int .i64 a, .int .i64 b])
def AnR (n : Int) (e : Ending) : Prop := ∃ v : Int, -1 ≤ v ∧ v < n ∧ e = .returned (.int .i64 v)
/-- A list of texts in a block of its own. -/
def SL (w : World) (L : Nat) (l : List ByteArray) : Prop := L < w.heap.size ∧ ∀ i, i < l.length → w.cell? ⟨L, i, none⟩ = some (.string (l.getD i ⟨#[]⟩))
theorem SL.below {w w' : World} {L : Nat} {l : List ByteArray} (h : SL w L l) (hb : Below w.heap.size w w') : SL w' L l := ⟨Nat.lt_of_lt_of_le h.1 hb.size, fun i hi => (hb.cell (p := ⟨L, i, none⟩) h.1).trans (h.2 i hi)⟩
theorem SL.new (w : World) (l : List ByteArray) (t : TypeId) : SL (w.alloc (.cells (l.map Value.string).toArray t (0, 0))) w.heap.size l := by
  refine ⟨by simp, fun i hi => ?_⟩
  have hb : (w.alloc (.cells (l.map Value.string).toArray t (0, 0))).heap[w.heap.size]? = some (.cells (l.map Value.string).toArray t (0, 0)) := by
    show (w.heap.push _)[w.heap.size]? = _
    simp
  simp only [World.cell?, hb]
  simp [hi]

set_option maxRecDepth 100000 in
set_option maxHeartbeats 4000000 in
theorem words_w (w : World) : Calls Try.prog 91 #[] w fun e w' => e = .returned (.slice (some ⟨w.heap.size, 0, none⟩) 21 21) ∧ SL w' w.heap.size wordsL ∧ Below w.heap.size w w' := by
  have h := hid (SL.new w wordsL 9)
  go_enter Try.func91, Try.ntmps91
  go_wp2_with fail
  go_ret
  exact ⟨rfl, h.out, (Below.refl _ _).alloc (Nat.le_refl _) _⟩

set_option maxRecDepth 100000 in
set_option maxHeartbeats 4000000 in
theorem calls_w (w : World) : Calls Try.prog 97 #[] w fun e w' => e = .returned (.slice (some ⟨w.heap.size, 0, none⟩) 7 7) ∧ SL w' w.heap.size callsL ∧ Below w.heap.size w w' := by
  have h := hid (SL.new w callsL 9)
  go_enter Try.func97, Try.ntmps97
  go_wp2_with fail
  go_ret
  exact ⟨rfl, h.out, (Below.refl _ _).alloc (Nat.le_refl _) _⟩

set_option maxRecDepth 100000 in
set_option maxHeartbeats 4000000 in
theorem num_w (s : ByteArray) (w : World) (hs : s.size ≤ 1000) : Calls Try.prog 104 #[.string s] w fun e w' => AnI e ∧ Below w.heap.size w w' := by
  go_enter Try.func104, Try.ntmps104
  go_wp2_with fail
  go_loopw [3, 4] (fun nn i wr => ∃ (v : Int) (k : Nat), nn = .int .i64 v ∧ k ≤ s.size ∧ i = .int .i64 k ∧ Below w.heap.size w wr) (fun _ i _ => s.size - (intOf i).toNat)
  case atStart => exact ⟨0, 0, rfl, Nat.zero_le _, rfl, Below.refl _ _⟩
  case round =>
    obtain ⟨v, k, rfl, hk, rfl, hbw⟩ := hrel
    by_cases hlt : k < s.size
    · have hlt' : (k : Int) < (s.size : Int) := by omega
      have hk0 : (0 : Int) ≤ (k : Int) := by omega
      go_wp2_with fail
      all_goals first
        | (go_ret; exact ⟨⟨_, rfl⟩, hbw⟩)
        | (go_roundw
           case rel => exact ⟨_, k + 1, rfl, by omega, by go_num, hbw⟩
           case measure => simp [intOf]; omega)
    · obtain rfl : k = s.size := by omega
      go_wp2_with fail
      all_goals (go_ret; exact ⟨⟨_, rfl⟩, hbw⟩)

set_option maxRecDepth 100000 in
set_option maxHeartbeats 4000000 in
theorem find_w (l : List ByteArray) (L n : Nat) (hn : l.length = n) (hn2 : n ≤ 1000) (s : ByteArray) (w : World) (h : SL w L l) : Calls Try.prog 90 #[.slice (some ⟨L, 0, none⟩) n n, .string s] w fun e w' => AnR n e ∧ Below w.heap.size w w' := by
  have H := hid h
  have HN := hid hn
  clear h hn
  go_enter Try.func90, Try.ntmps90
  go_wp2_with fail
  go_loopw [5] (fun i wr => ∃ k : Nat, k ≤ n ∧ i = .int .i64 k ∧ Below w.heap.size w wr) (fun i _ => n - (intOf i).toNat)
  case atStart => exact ⟨0, Nat.zero_le _, rfl, Below.refl _ _⟩
  case round =>
    obtain ⟨k, hk, rfl, hbw⟩ := hrel
    by_cases hlt : k < n
    · have hlt' : (k : Int) < (n : Int) := by omega
      have hk0 : (0 : Int) ≤ (k : Int) := by omega
      have hc := (H.out.below hbw).2 k (by have := HN.out; omega)
      generalize l.getD k ⟨#[]⟩ = x at *
      go_wp2_with fail
      all_goals first
        | (go_ret; exact ⟨⟨_, by omega, by omega, rfl⟩, hbw⟩)
        | (go_roundw
           case rel => exact ⟨k + 1, by omega, by go_num, hbw⟩
           case measure => simp [intOf]; omega)
    · obtain rfl : k = n := by omega
      go_wp2_with fail
      go_ret
      exact ⟨⟨-1, by omega, by omega, rfl⟩, hbw⟩

set_option maxRecDepth 100000 in
set_option maxHeartbeats 4000000 in
theorem readReg_w (s : ByteArray) (w : World) (hs : s.size ≤ 1000) : Calls Try.prog 95 #[.string s] w fun e w' => An2 e ∧ Below w.heap.size w w' := by
  go_enter Try.func95, Try.ntmps95
  go_wp2_with fail
  all_goals (
    refine (num_w _ _ (by first | exact hs | (simp; omega))).mono ?_
    rintro e w1 ⟨⟨v, rfl⟩, b1⟩
    go_wp2_with fail
    all_goals (go_ret2; exact ⟨⟨_, _, rfl⟩, b1⟩))

set_option maxRecDepth 100000 in
set_option maxHeartbeats 4000000 in
theorem signed_w (s : ByteArray) (w : World) (hs : s.size ≤ 1000) : Calls Try.prog 96 #[.string s] w fun e w' => AnI e ∧ Below w.heap.size w w' := by
  go_enter Try.func96, Try.ntmps96
  go_wp2_with fail
  all_goals (
    refine (num_w _ _ (by first | exact hs | (simp; omega))).mono ?_
    rintro e w1 ⟨⟨v, rfl⟩, b1⟩
    go_wp2_with fail
    all_goals (go_ret; exact ⟨⟨_, rfl⟩, b1⟩))

set_option maxRecDepth 100000 in
set_option maxHeartbeats 4000000 in
theorem cut_w (s : ByteArray) (b : Int) (w : World) (hs : s.size ≤ 1000) :
    Calls Try.prog 81 #[.string s, .int .u8 b, .int .i64 5] w fun e w' => (∃ (ws : List ByteArray) (a : Option Addr) (c : Nat), e = .returned (.slice a ws.length c) ∧ 1 ≤ ws.length ∧ ws.length ≤ 6 ∧ (∀ x ∈ ws, x.size ≤ 1000) ∧ w'.ownsRow w.heap.size 9 1 (.slice a ws.length c) ws.length (ws.map .string)) ∧ Below w.heap.size w w' := by
  obtain ⟨j0, hj, hy0, hy1, hy2⟩ := info_parts info9
  have c0 : Below w.heap.size w (w.alloc (.cells #[] 9)) := (Below.refl _ _).alloc (Nat.le_refl _) _
  have o0 : (w.alloc (.cells #[] 9)).ownsRow w.heap.size 9 1 (.slice (some ⟨w.heap.size, 0, none⟩) 0 0) 0 [] := made0 w _ _ 9 rfl (Nat.le_refl _)
  have HC0 := hid c0
  have HO0 := hid o0
  clear c0 o0
  go_enter Try.func81, Try.ntmps81
  go_wp2_with fail
  go_loopw [7, 8, 9] (fun out fr i wr => ∃ (ws : List ByteArray) (f k : Nat), fr = .int .i64 f ∧ i = .int .i64 k ∧ f ≤ k ∧ k ≤ s.size ∧ ws.length ≤ 5 ∧ (∀ x ∈ ws, x.size ≤ 1000) ∧ wr.ownsRow w.heap.size 9 1 out ws.length (ws.map .string) ∧ Below w.heap.size w wr) (fun _ _ i _ => s.size - (intOf i).toNat)
  case atStart => exact ⟨[], 0, 0, rfl, rfl, Nat.le_refl _, Nat.zero_le _, by simp, by simp, HO0.out, HC0.out⟩
  case round =>
    obtain ⟨ws, f, k, rfl, rfl, hf, hk, hw5, hall, hown, hbw⟩ := hrel
    have hsz := hbw.size
    obtain ⟨a0, cap0, rfl⟩ := own_slice hown
    have HO := hid hown
    have HA := hid hall
    have hf0 : (0 : Int) ≤ (f : Int) := by omega
    have hk0 : (0 : Int) ≤ (k : Int) := by omega
    have hfk : (f : Int) ≤ (k : Int) := by omega
    have hks : (k : Int) ≤ (s.size : Int) := by omega
    have hfs : (f : Int) ≤ (s.size : Int) := by omega
    clear hown hall
    have fin : ∀ (x : ByteArray) (w1 : World) (v' : Value), x.size ≤ 1000 → w1.ownsRow w.heap.size 9 1 v' (ws.length + 1) (ws.map Value.string ++ [.string x]) → w1.ownsRow w.heap.size 9 1 v' (ws ++ [x]).length ((ws ++ [x]).map .string) := by
      intro x w1 v' _ h
      simpa using h
    have HF := hid fin
    clear fin
    by_cases hgo : k < s.size ∧ ws.length < 5
    · obtain ⟨hlt, hl5⟩ := hgo
      have hlt' : (k : Int) < (s.size : Int) := by omega
      have hl5' : (ws.length : Int) < 5 := by omega
      go_wp2_with (first | (at_builtin; go_must (refine wpList_append_own _ rfl _ _ 84 rfl w.heap.size 9 j0 (.string ⟨#[]⟩) 1 16 Try.underlying84 hj hy0 hy1 hy2 rfl (by decide) _ _ _ rfl (World.ownsRow.alloc HO.out _) ⟨wr.heap.size, 0, none⟩ 1 1 [.string (s.extract f k)] rfl (by simp) (one_newE _ _ _ _ rfl) (by simp [Value.oneCell']) (by unfold maxLen; omega) (by omega) (by simp; omega) ?_)))
      · intro v' w3 hown3 hgrow _
        have hb3 : Below w.heap.size w w3 := (hbw.alloc (by omega) _).grown hgrow (by simp; omega) (own_base HO.out)
        have hx : (s.extract f k).size ≤ 1000 := by simp; omega
        have H3 := hid (HF.out _ _ _ hx hown3)
        have HX := hid hx
        clear hown3 hgrow hx
        go_wp2_with fail
        go_roundw
        case rel => exact ⟨ws ++ [s.extract f k], k + 1, k + 1, by go_num, by go_num, by omega, by omega, by simp; omega, fun y hy => by rcases List.mem_append.1 hy with h | h; exact HA.out y h; simp at h; rw [h]; exact HX.out, H3.out, hb3⟩
        case measure => simp [intOf]; omega
      · go_roundw
        case rel => exact ⟨ws, f, k + 1, rfl, by go_num, by omega, by omega, by omega, HA.out, HO.out, hbw⟩
        case measure => simp [intOf]; omega
    · have hgo' : ((k : Int) < (s.size : Int)) = False ∨ ((ws.length : Int) < 5) = False := by
        by_cases h1 : k < s.size
        · right; simp; omega
        · left; simp; omega
      rcases hgo' with h1 | h1
      all_goals (
        have hno : ¬ _ := of_eq_false h1
        clear h1
        go_wp2_with (first | (at_builtin; go_must (refine wpList_append_own _ rfl _ _ 84 rfl w.heap.size 9 j0 (.string ⟨#[]⟩) 1 16 Try.underlying84 hj hy0 hy1 hy2 rfl (by decide) _ _ _ rfl (World.ownsRow.alloc HO.out _) ⟨wr.heap.size, 0, none⟩ 1 1 [.string (s.extract f s.size)] rfl (by simp) (one_newE _ _ _ _ rfl) (by simp [Value.oneCell']) (by unfold maxLen; omega) (by omega) (by simp; omega) ?_)))
        all_goals (
          intro v' w3 hown3 hgrow _
          have hb3 : Below w.heap.size w w3 := (hbw.alloc (by omega) _).grown hgrow (by simp; omega) (own_base HO.out)
          have hx : (s.extract f s.size).size ≤ 1000 := by simp; omega
          obtain ⟨WS, hWS⟩ : ∃ l, l = ws ++ [s.extract f s.size] := ⟨_, rfl⟩
          have H3 : Hid (w3.ownsRow w.heap.size 9 1 v' WS.length (WS.map .string)) := by rw [hWS]; exact HF.out _ _ _ hx hown3
          have HL : Hid (WS.length = ws.length + 1) := by rw [hWS]; show (ws ++ [_]).length = _; simp
          have HX : Hid (∀ y ∈ WS, y.size ≤ 1000) := by
            rw [hWS]
            intro y hy
            rcases List.mem_append.1 hy with h | h
            · exact HA.out y h
            · simp at h; rw [h]; exact hx
          obtain ⟨a5, c5, rfl⟩ := own_slice H3.out
          clear hown3 hgrow hx hWS
          go_wp2_with fail
          go_ret
          exact ⟨⟨WS, a5, c5, rfl, by have := HL.out; omega, by have := HL.out; omega, HX.out, H3.out⟩, hb3⟩))

end Go.Proofs.Ytkaekiodjjhjkaa
