/- strings.Lines: its iterator. -/
import Derived.RegionIn
import Derived.Test.YtkaekiodjjhjkaaDoorNY
namespace Go.Proofs.YtkaekiodjjhjkaaDoor
open Go.RowKit Go.Shelf
set_option linter.unusedVariables false
set_option linter.unusedSimpArgs false
attribute [local go_sem] Oper.semAt_some
theorem idx_lt : ∀ (l : List UInt8) (c : UInt8), Lib.indexByte l c = -1 ∨ ∃ k : Nat, Lib.indexByte l c = (k : Int) ∧ k < l.length
  | [], _ => .inl rfl
  | b :: l, c => by
    rw [Lib.indexByte]
    by_cases hb : b = c
    · exact .inr ⟨0, by simp [hb], by simp⟩
    · rcases idx_lt l c with h | ⟨k, h, hk⟩
      · exact .inl (by simp [hb, h])
      · exact .inr ⟨k + 1, by simp [hb, h]; try omega, by simp; try omega⟩
theorem ib_no (cur : ByteArray) (h : Lib.indexByte cur.data.toList 10 = -1) (w : World) : Calls Tryd.prog 38 #[.string cur, .int .u8 10] w fun e w' => e = .returned (.int .i64 (-1)) ∧ w' = w := by
  refine (Tryd.strings_IndexByte cur 10 w).mono ?_
  rintro e w' ⟨rfl, rfl⟩
  exact ⟨by rw [show ((10 : Int).toNat.toUInt8) = 10 from rfl, h], rfl⟩
theorem ib_at (cur : ByteArray) (k : Nat) (h : Lib.indexByte cur.data.toList 10 = (k : Int)) (w : World) : Calls Tryd.prog 38 #[.string cur, .int .u8 10] w fun e w' => e = .returned (.int .i64 (k : Int)) ∧ w' = w := by
  refine (Tryd.strings_IndexByte cur 10 w).mono ?_
  rintro e w' ⟨rfl, rfl⟩
  exact ⟨by rw [show ((10 : Int).toNat.toUInt8) = 10 from rfl, h], rfl⟩
theorem line_no {cur : ByteArray} (h : Lib.indexByte cur.data.toList 10 = -1) : lineHd cur = cur ∧ lineTl cur = ⟨#[]⟩ := by
  unfold lineHd lineTl
  rw [h, if_neg (by omega), if_neg (by omega)]; exact ⟨rfl, rfl⟩
theorem line_at {cur : ByteArray} {k : Nat} (h : Lib.indexByte cur.data.toList 10 = (k : Int)) : lineHd cur = cur.extract 0 (k + 1) ∧ lineTl cur = cur.extract (k + 1) cur.size := by
  unfold lineHd lineTl
  rw [h, if_pos (by omega), if_pos (by omega), Int.toNat_natCast]; exact ⟨rfl, rfl⟩
def lenAt (C : Nat) (w : World) : Nat := match w.cell? ⟨C, 0, none⟩ with
  | some (.string t) => t.size
  | _ => 0
theorem lenAt_is {C : Nat} {w : World} {t : ByteArray} (h : w.cell? ⟨C, 0, none⟩ = some (.string t)) : lenAt C w = t.size := by
  unfold lenAt; rw [h]

set_option maxRecDepth 100000 in
set_option maxHeartbeats 2000000 in
theorem lines1 (n : Nat) (hn : 1 ≤ n) (l C B0 : Nat) (s : ByteArray) (hs : s.size ≤ 1048576) (J Jx : List ByteArray → World → Prop) (hJ : AbidesFrom B0 J) (hJc : CellFree C J)
    (hY : ∀ pre x W, J pre W → pre ++ [x] <+: linesM s → YieldAt Fence.wide (n - 1) Tryd.prog l #[.string x] W fun e W' =>
      (e = .returned (.bool true) ∧ J (pre ++ [x]) W' ∧ SameAt C W W') ∨ (e = .returned (.bool false) ∧ Jx (pre ++ [x]) W'))
    (W : World) (hC : BX W C 9 #[.string s]) (h0 : J [] W) :
    CallsIn Fence.wide n Tryd.prog 37 #[.func (.yield l) #[] #[], .pointer (some ⟨C, 0, none⟩)] W fun e W' => (∃ v, e = .returned v) ∧
      ((∃ ys, ys = linesM s ∧ J ys W') ∨ (∃ pre, pre <+: linesM s ∧ Jx pre W')) := by
  refine callsIn_of_wp Tryd.func37 rfl trivial ?_ rfl
  simp only [Tryd.ntmps37, List.size_toArray, List.length_cons, List.length_nil, Nat.reduceAdd, Nat.reduceSub, Array.replicate_succ, Array.replicate_zero, List.push_toArray, List.append_toArray, List.nil_append, List.cons_append]
  gi_wp2
  gi_loopw [] (fun wr => ∃ pre cur, Hid (linesM s = pre ++ linesM cur) ∧ J pre wr ∧ Hid (BX wr C 9 #[.string cur]) ∧ cur.size ≤ s.size) (fun wr => lenAt C wr)
  case atStart => exact ⟨[], s, hid rfl, h0, hid hC, Nat.le_refl _⟩
  case round =>
    obtain ⟨pre, cur, HL, hJs, HC, hcs⟩ := hrel
    have c0 : wr.cell? ⟨C, 0, none⟩ = some (.string cur) := (HC.out.cell 0).trans rfl
    have f0 : wr.frozen? ⟨C, 0, none⟩ = false := HC.out.frozen 0
    rcases Nat.eq_zero_or_pos cur.size with hz | hz
    · have hz' : (cur.size : Int) = 0 := by omega
      have HE : Hid (linesM s = pre) := hid (by rw [HL.out, linesM_nil hz, List.append_nil])
      gi_wp2
      go_end0
      exact ⟨⟨_, rfl⟩, .inl ⟨_, HE.out.symm, hJs⟩⟩
    · have hz' : (0 : Int) < (cur.size : Int) := by omega
      have hlt := lineTl_lt hz
      have HL2 : Hid (linesM s = pre ++ lineHd cur :: linesM (lineTl cur)) := hid (by rw [HL.out, linesM_cons hz])
      have hpl : pre ++ [lineHd cur] <+: linesM s := ⟨linesM (lineTl cur), by rw [HL2.out, List.append_assoc]; rfl⟩
      rcases idx_lt cur.data.toList 10 with hi | ⟨k, hi, hk⟩
      · obtain ⟨h1, h2⟩ := line_no hi
        have hJ2 : J pre (wr.setCell ⟨C, 0, none⟩ (.string ⟨#[]⟩)) := hJc _ _ _ hJs
        have HB2 : Hid (BX (wr.setCell ⟨C, 0, none⟩ (.string ⟨#[]⟩)) C 9 #[.string ⟨#[]⟩]) := hid (HC.out.set 0 _)
        have HI := hid hi
        have HH := hid (And.intro h1 h2)
        obtain ⟨fn, tmps, assign, body, hy, hR⟩ := hY _ cur _ hJ2 (h1 ▸ hpl)
        clear hi h1 h2 hlt hpl
        gi_wp2_with (refine ⟨trivial, ?_⟩; gi_at_call 38; refine (callsIn_wide.2 (ib_no cur HI.out wr)).mono ?_; rintro e w1 ⟨rfl, hw⟩; rw [hw]; clear hw w1)
        refine hR.mono ?_
        rintro e W3 (⟨rfl, hJ3, hk3⟩ | ⟨rfl, hJx3⟩)
        · gi_wp2
          go_roundw
          case rel => exact ⟨pre ++ [cur], ⟨#[]⟩, hid (by rw [HL2.out, HH.out.1, HH.out.2, List.append_assoc]; rfl), hJ3, hid (Eq.trans hk3 HB2.out), Nat.zero_le _⟩
          case measure =>
            have c3 : W3.cell? ⟨C, 0, none⟩ = some (.string ⟨#[]⟩) := (BX.cell (Eq.trans hk3 HB2.out) 0).trans rfl
            rw [lenAt_is c3, lenAt_is c0]; exact hz
        · gi_wp2
          refine bodyPost_ret (results_none rfl) rfl ?_
          exact ⟨⟨_, rfl⟩, .inr ⟨pre ++ [cur], ⟨linesM (lineTl cur), by rw [HL2.out, HH.out.1, List.append_assoc]; rfl⟩, hJx3⟩⟩
      · have hkc : k < cur.size := by rw [← tl_len]; exact hk
        obtain ⟨h1, h2⟩ := line_at hi
        have hJ1 : J pre (wr.setCell ⟨C, 0, none⟩ (.string (cur.extract (k + 1) cur.size))) := hJc _ _ _ hJs
        have hJ2 : J pre (wr.setCell ⟨C, 0, none⟩ (.string (cur.extract (k + 1) cur.size))).drew := hJ _ _ _ none hJ1 ⟨rfl, rfl, rfl, Nat.le_refl _, fun _ _ _ => rfl⟩ (fun r e => by cases e)
        clear hJ1
        have HB2 : Hid (BX (wr.setCell ⟨C, 0, none⟩ (.string (cur.extract (k + 1) cur.size))).drew C 9 #[.string (cur.extract (k + 1) cur.size)]) := hid (HC.out.set 0 _)
        have HI := hid hi
        have HH := hid (And.intro h1 h2)
        have HT := hid hlt
        obtain ⟨fn, tmps, assign, body, hy, hR⟩ := hY _ (cur.extract 0 (k + 1)) _ hJ2 (h1 ▸ hpl)
        clear hi h1 h2 hlt hpl hk
        have hk0 : (0 : Int) ≤ (k : Int) := by omega
        have hk1 : (k : Int) + 1 ≤ (cur.size : Int) := by omega
        have hk2 : (k : Int) + 1 ≤ 9223372036854775807 := by omega
        gi_wp2_with (refine ⟨trivial, ?_⟩; gi_at_call 38; refine (callsIn_wide.2 (ib_at cur k HI.out wr)).mono ?_; rintro e w1 ⟨rfl, hw⟩; rw [hw]; clear hw w1)
        gi_region
        all_goals gi_wp2
        refine hR.mono ?_
        rintro e W3 (⟨rfl, hJ3, hk3⟩ | ⟨rfl, hJx3⟩)
        · gi_wp2
          go_roundw
          case rel => exact ⟨pre ++ [cur.extract 0 (k + 1)], cur.extract (k + 1) cur.size, hid (by rw [HL2.out, HH.out.1, HH.out.2, List.append_assoc]; rfl), hJ3, hid (Eq.trans hk3 HB2.out), by rw [ByteArray.size_extract]; omega⟩
          case measure =>
            have c3 : W3.cell? ⟨C, 0, none⟩ = some (.string (cur.extract (k + 1) cur.size)) := (BX.cell (Eq.trans hk3 HB2.out) 0).trans rfl
            rw [lenAt_is c3, lenAt_is c0, ByteArray.size_extract]; omega
        · gi_wp2
          refine bodyPost_ret (results_none rfl) rfl ?_
          exact ⟨⟨_, rfl⟩, .inr ⟨pre ++ [cur.extract 0 (k + 1)], ⟨linesM (lineTl cur), by rw [HL2.out, HH.out.1, List.append_assoc]; rfl⟩, hJx3⟩⟩
theorem lines_seq (n : Nat) (hn : 1 ≤ n) (C : Nat) (s : ByteArray) (hs : s.size ≤ 1048576) (w : World) (hC : BX w C 9 #[.string s]) :
    SeqC Fence.wide n Tryd.prog 37 #[.pointer (some ⟨C, 0, none⟩)] (fun x : ByteArray => #[Value.string x]) C (fun ys => ys = linesM s) (fun pre => pre <+: linesM s) (fun pre x => pre ++ [x] <+: linesM s) w := fun l J Jx W hW hJ hJc hY h0 =>
  lines1 n hn l C W.heap.size s hs J Jx hJ hJc hY W (Eq.trans (hW.block C hC.lt) hC) h0
end Go.Proofs.YtkaekiodjjhjkaaDoor
