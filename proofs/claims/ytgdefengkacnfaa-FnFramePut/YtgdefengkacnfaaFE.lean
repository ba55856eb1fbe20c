/- The draws of frames. -/
import Derived.Test.YtgdefengkacnfaaFD6
import Derived.Test.YtgdefengkacnfaaKT
namespace Go.Proofs.Ytgdefengkacnfaa
open Go.RowKit
set_option linter.unusedVariables false
set_option linter.unusedSimpArgs false

theorem info5 : (Try.prog.info? 5).map (fun i => (i.zero, i.size, i.bytes)) = some (some (.int .u8 0), 1, 1) := by kernel_rfl
section
variable {w0 w w' w'' : World} {B : Nat} {a : Option Addr} {len cap p q : Nat}
theorem K3.grown (h : RS w0 w B a len cap p) (k : K3 w0 w w' B a len cap q) : w.grownBy w' (some B) :=
  ⟨k.rs.bel.os.trans h.bel.os.symm, k.rs.bel.tape.trans h.bel.tape.symm, k.rs.bel.output.trans h.bel.output.symm, k.kp.1, fun b hb hne => k.kp.2 b hb (fun e => hne (e ▸ rfl))⟩
theorem row_kept {e : TypeId} {base size n : Nat} {v : Value} {xs : List Value} (hne : (43 : TypeId) ≠ e) (h : RS w0 w B a len cap p) (k : K3 w0 w w' B a len cap q) (hr : w.ownsRow base e size v n xs) : w'.ownsRow base e size v n xs := by
  refine hr.kept (K3.grown h k) (.inr ?_)
  intro hb
  rcases hr.2 with ⟨rfl, _⟩ | ⟨g, cp, cur, rfl, _, hg, _⟩
  · simp [Value.ownBlock] at hb
  · simp only [Value.ownBlock, Option.some.injEq] at hb
    subst hb
    rw [h.box] at hg
    simp only [Option.some.injEq, Obj.cells.injEq] at hg
    exact hne hg.2.1
theorem K3.belowN (h : K3 w0 w w' B a len cap p) (hb : Below w.heap.size w' w'') : K3 w0 w w'' B a len cap p :=
  ⟨⟨(hb.block B h.lt).trans h.rs.box, h.rs.ge, h.rs.bel.trans (hb.mono h.le), h.rs.src, h.rs.le⟩, ⟨Nat.le_trans h.kp.1 hb.size, fun k hk hB => (hb.block k hk).trans (h.kp.2 k hk hB)⟩, h.lt, h.le⟩
theorem K3.cellO {L j : Nat} (k : K3 w0 w w' B a len cap q) (hL : L < w.heap.size) (hne : L ≠ B) : w'.cell? ⟨L, j, none⟩ = w.cell? ⟨L, j, none⟩ := World.cell?_of_block (k.kp.2 L hL hne)
end
def SL (w : World) (L : Nat) (l : List ByteArray) : Prop := L < w.heap.size ∧ ∀ i, i < l.length → w.cell? ⟨L, i, none⟩ = some (.string (l.getD i ⟨#[]⟩))
theorem SL.new (w : World) (l : List ByteArray) (t : TypeId) : SL (w.alloc (.cells (l.map Value.string).toArray t (0, 0))) w.heap.size l := by
  refine ⟨by simp, fun i hi => ?_⟩
  have hb : (w.alloc (.cells (l.map Value.string).toArray t (0, 0))).heap[w.heap.size]? = some (.cells (l.map Value.string).toArray t (0, 0)) := by
    show (w.heap.push _)[w.heap.size]? = _
    simp
  simp only [World.cell?, hb]
  simp [hi]
theorem snoc_u8 (ws : List Int) (x : Int) : (ws ++ [x]).map (Value.int .u8) = ws.map (Value.int .u8) ++ [.int .u8 x] := by simp
theorem conv_row {w : World} {n₀ k : Nat} {v : Value} {xs : List Int} (hl : xs.length = k) (h : w.ownsRow n₀ 5 1 v k (xs.map (.int .u8))) : ∃ val : ByteArray, val.size = k ∧ (convert 22 9 v).run Try.prog w = .ok (.string val) w := by
  have h' := h
  rcases h.2 with ⟨rfl, rfl⟩ | ⟨g, cap, cur, rfl, _⟩
  · exact ⟨ByteArray.empty, rfl, run_convert_bytes_nil (P := Try.prog) w 22 5 Try.underlying22 Try.underlying5 0 0 9 Try.underlying9⟩
  · refine ⟨strOfNums xs, by simp [strOfNums, ByteArray.size, hl], run_convert_bytes_arg (P := Try.prog) w 22 5 Try.underlying22 Try.underlying5 g 0 k cap xs hl (fun i hi => ?_) 9 Try.underlying9⟩
    rw [Nat.zero_add, h'.cellAt i (by omega), List.getElem?_map, List.getElem?_eq_getElem (by omega)]
    simp [List.getD, List.getElem?_eq_getElem (show i < xs.length by omega)]

set_option maxRecDepth 100000 in
set_option maxHeartbeats 4000000 in
theorem of_k {w0 w : World} {B : Nat} {a : Option Addr} {len cap p : Nat} (h : RS w0 w B a len cap p) (hp : p ≤ 1000000) (l : List ByteArray) (m0 : 0 < l.length) (m1 : l.length ≤ 1000) :
    Calls Try.prog 18 #[.pointer (some ⟨B, 0, none⟩), .slice (some ⟨w.heap.size, 0, none⟩) l.length l.length] (w.alloc (.cells (l.map Value.string).toArray 9 (0, 0)))
      fun e w' => ∃ v : ByteArray, v ∈ l ∧ e = .returned (.string v) ∧ K3 w0 w w' B a len cap (p + 1) := by
  have HS := hid (SL.new w l 9)
  have HD := hid ((K3.start h).alloc (.cells (l.map Value.string).toArray 9 (0, 0)))
  have lB := h.lt
  clear h
  generalize w.alloc (.cells (l.map Value.string).toArray 9 (0, 0)) = w1 at *
  have m0' : (1 : Int) ≤ (l.length : Int) := by omega
  have m1' : (l.length : Int) ≤ 1000 := by omega
  go_enter Try.func18, Try.ntmps18
  go_wp2_with fail
  refine (pick_k HD.out.rs (by omega) _ (by omega) (by omega)).mono ?_
  rintro e w2 ⟨m, rfl, hm, kk⟩
  have lS := HS.out.1
  have lS2 : w.heap.size < w2.heap.size := Nat.lt_of_lt_of_le lS kk.kp.1
  have hc := (K3.cellO (j := m) kk lS (by omega)).trans (HS.out.2 m (by omega))
  replace HD := hid (HD.out.draw kk)
  clear kk HS
  have hm0 : (0 : Int) ≤ (m : Int) := by omega
  have hmem : l.getD m ⟨#[]⟩ ∈ l := by rw [List.getD, List.getElem?_eq_getElem (by omega)]; exact List.getElem_mem _
  generalize l.getD m ⟨#[]⟩ = y at *
  go_wp2_with fail
  go_ret
  exact ⟨_, hmem, rfl, HD.out⟩

set_option maxRecDepth 100000 in
set_option maxHeartbeats 4000000 in
theorem frame_k {w0 w : World} {B : Nat} {a : Option Addr} {len cap p : Nat} (h : RS w0 w B a len cap p) (hp : p ≤ 900000) :
    Calls Try.prog 19 #[.pointer (some ⟨B, 0, none⟩)] w fun e w' => ∃ (v : ByteArray) (q : Nat), e = .returned (.string v) ∧ 1 ≤ v.size ∧ v.size ≤ 5 ∧ q ≤ p + 6 ∧ K3 w0 w w' B a len cap q := by
  obtain ⟨i0, hi, hz0, hz1, hz2⟩ := info_parts info5
  have k0 := (K3.start h).alloc (.cells #[] 5)
  have o0 : (w.alloc (.cells #[] 5)).ownsRow w.heap.size 5 1 (.slice (some ⟨w.heap.size, 0, none⟩) 0 0) 0 [] := made0 w _ _ 5 rfl (Nat.le_refl _)
  have HK0 := hid k0
  have HO0 := hid o0
  have lB := h.lt
  clear k0 o0 h
  go_enter Try.func19, Try.ntmps19
  go_wp2_with fail
  refine (pick_k HK0.out.rs (by omega) 5 (by omega) (by omega)).mono ?_
  rintro e w1 ⟨m, rfl, hm, kk⟩
  have HO1 := hid (row_kept (by decide) HK0.out.rs kk HO0.out)
  have HK1 := hid (HK0.out.draw kk)
  clear kk HO0 HK0
  have hm0 : (0 : Int) ≤ (m : Int) := by omega
  go_wp2_with fail
  go_loopw [3, 4] (fun out nn wr => ∃ (xs : List Int) (k q : Nat), nn = .int .i64 k ∧ xs.length + k = 1 + m ∧ q + k ≤ p + 1 + (1 + m) ∧ wr.ownsRow w.heap.size 5 1 out xs.length (xs.map (.int .u8)) ∧ K3 w0 w wr B a len cap q) (fun _ nn _ => (intOf nn).toNat)
  case atStart => exact ⟨[], 1 + m, p + 1, by go_num, by simp, by omega, HO1.out, HK1.out⟩
  case round =>
    clear HO1 HK1
    obtain ⟨xs, k, q, rfl, hk, hq, hown, hK⟩ := hrel
    have hsz := hK.kp.1
    obtain ⟨a0, cap0, rfl⟩ := own_slice hown
    have HO := hid hown
    have HD := hid hK
    clear hown hK
    by_cases hlt : 0 < k
    · obtain ⟨k, rfl⟩ : ∃ j, k = j + 1 := ⟨k - 1, by omega⟩
      have hlt' : (0 : Int) < ((k + 1 : Nat) : Int) := by omega
      have hk9 : (k : Int) ≤ 10 := by omega
      have HK := hid hk
      have HQ := hid hq
      clear hk hq
      go_wp2_with fail
      refine (one_k HD.out.rs (by have := HQ.out; omega) [0, 1, 2, 3, 7, 9, 200] 3 (by decide) (by decide)).mono ?_
      rintro e w2 ⟨x, hx, rfl, kk⟩
      have hxb : 0 ≤ x ∧ x ≤ 255 := by
        simp only [List.mem_cons, List.not_mem_nil, or_false] at hx
        omega
      obtain ⟨hx0, hx1⟩ := hxb
      replace HO := hid (row_kept (by decide) HD.out.rs kk HO.out)
      replace HD := hid (HD.out.draw kk)
      have hsz2 := kk.kp.1
      clear kk hx
      have hxl : xs.length ≤ 10 := by have := HK.out; omega
      go_wp2_with (first | (at_builtin; go_must (refine wpList_append_own _ rfl _ _ 22 rfl w.heap.size 5 i0 (.int .u8 0) 1 1 Try.underlying22 hi hz0 hz1 hz2 rfl (by decide) _ _ _ rfl (World.ownsRow.alloc HO.out _) ⟨w2.heap.size, 0, none⟩ 1 1 [_] rfl (by simp) (one_newE _ _ _ _ rfl) ?c2 ?c3 ?c4 ?c5 ?_)))
      case c2 => intro u hu; simp only [List.mem_cons, List.not_mem_nil, or_false] at hu; subst hu; rfl
      case c3 => unfold maxLen; omega
      case c4 => omega
      case c5 => simp; omega
      intro v' w3 hown3 hgrow _
      have hb3 : Below w.heap.size w2 w3 := (((Below.refl w.heap.size w2).alloc (by omega) _).grown hgrow (by simp; omega) (own_base HO.out))
      rw [← snoc_u8] at hown3
      have H3 := hid hown3
      have HD3 := hid (HD.out.belowN hb3)
      clear hown3 hgrow hb3
      go_wp2_with fail
      go_roundw
      case rel => exact ⟨xs ++ [x], k, q + 1, by simp, by have := HK.out; simp; omega, by have := HQ.out; omega, by simpa using H3.out, HD3.out⟩
      case measure => simp [intOf]
    · obtain rfl : k = 0 := by omega
      obtain ⟨val, hval, hconv⟩ := conv_row rfl HO.out
      have HV : Hid (1 ≤ val.size ∧ val.size ≤ 5) := by show _ ∧ _; omega
      have HQ := hid hq
      clear hk hval hq HO
      go_wp2_with fail
      go_ret
      exact ⟨val, q, rfl, HV.out.1, HV.out.2, by have := HQ.out; omega, HD.out⟩
end Go.Proofs.Ytgdefengkacnfaa
