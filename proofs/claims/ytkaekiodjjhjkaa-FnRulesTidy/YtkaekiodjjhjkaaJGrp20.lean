/- The draw of rules and bytes; the law of rules and bytes that are drawn: its walk. -/
import Derived.Test.YtkaekiodjjhjkaaJGrp3
import Derived.Test.YtkaekiodjjhjkaaJGrp19
import Derived.Test.YtkaekiodjjhjkaaJGrp8
import Derived.Test.YtkaekiodjjhjkaaJGrp4
set_option maxRecDepth 100000
set_option maxHeartbeats 8000000
set_option linter.unusedSimpArgs false
set_option linter.unusedVariables false
namespace Go.Proofs.Ytkaekiodjjhjkaa.W
open Go.RowKit
open Go.Proofs.Ytkaekiodjjhjkaa.H
theorem _root_.Go.Proofs.Ytkaekiodjjhjkaa.Src.kb {w w' : World} {a : Option Addr} {len : Nat} (h : Src w a len) (k : KB [] w w') : Src w' a len := by
 rcases h with h | ⟨g, off, e, hg, hc⟩
 ·exact .inl h
 ·refine .inr ⟨g, off, e, Nat.lt_of_lt_of_le hg k.size, fun j hj => ?_⟩
  obtain ⟨v, hv, hx⟩ := hc j hj
  exact ⟨v, hv, by rw [World.cell?_of_block (k.block g hg (by simp))]; exact hx⟩
theorem _root_.Go.Proofs.Ytkaekiodjjhjkaa.RS.of {w wk : World} {B : Nat} {a : Option Addr} {n cap p : Nat} (hx : BX wk B 67 (rdA a n cap p)) (hg : w.heap.size ≤ B) (k : KB [] w wk) (hs : Src w a n) (hl : n ≤ 2000) : RS w wk B a n cap p := ⟨hx, hg, k.below, hs, hl⟩
theorem c_open (a : Option Addr) (len cap : Nat) (w : World) (hc : len ≤ cap) (hs : Src w a len) (hl : cap < 2 ^ 63) : Calls Try.prog 14 #[.slice a len cap] w fun e w' => NewRow w (fun (x : Nat) b => .pointer (some ⟨b, 0, none⟩)) 67 (fun x => rdA a x cap 0) (fun x => Src w a x ∧ x ≤ 2000) e w' := by
 refine (open_s w a len cap hc hs hl).mono ?_
 rintro e w' ⟨n, rfl, h⟩
 exact ⟨n, w.heap.size, rfl, h.box, ⟨h.src, h.le⟩, Nat.le_refl _, h.bel⟩
theorem rn_fld {P : Program} {op : Oper} {a : Act} {w : World} (T : TypeId) (x : Operand) (f : Nat) (ho : op.op = .field T x f) (v u : Value) (hx : a.eval x = v) (hr : (Instr.field T v f).run P w = .ok u w) : (execOp a.eval op).run P w = .ok (.value u) w := by
 unfold execOp
 simp only [ho, hx, Sem.run_bind, hr]; rfl
structure DrX where
 L : List Ru
 cap : Nat
 cur : Array Value
 came : ByteArray
def ru0 : Ru := ⟨0, 0, 0, 0, 0⟩
abbrev DrPost (w : World) (e : Ending) (w' : World) : Prop :=
 NewRow w (fun (x : DrX) b => .tuple #[.slice (some ⟨b, 0, none⟩) x.L.length x.cap, .string x.came]) 30 (fun x => x.cur) (fun x => Rw x.cur x.L.length x.cap 5 (cellsOf Ru.arr x.L) ∧ x.L.length ≤ 6 ∧ x.came.size = 12) e w'
theorem c_drawOf (a : Option Addr) (len cap : Nat) (w : World) (hc : len ≤ cap) (hs : Src w a len) (hl : cap < 2 ^ 63) :
 Calls Try.prog 5 #[.slice (a) (len) (cap)] w fun e w' => DrPost w e w' := by
 refine calls_begin Try.func5 rfl 14 rfl (Nat.le_of_ble_eq_true rfl) [(0, .slice (a) (len) (cap))] ⟨rfl, trivial⟩ (fun a0 he0 m0 => ?_)
 refine wp_seqR ?_
 refine wb 2 he0 [(3, .string (⟨#[]⟩)), (2, .slice none 0 0)] fun a1 he1 => ?_
 refine wl_end (wp_seqR ?_)
 refine wb 1 he1 [(6, .slice (a) (len) (cap))] fun a2 he2 => ?_
 refine kn he2 m0 1 (c_open a len cap _ hc (hs.kb m0.keep) hl) fun x1 b1 a3 w1 hx1 he3 m1 => ?_
 refine wb 1 he3 [(4, zP b1 0)] fun a4 he4 => ?_
 refine wl_end (wp_seqR ?_)
 refine wb 1 he4 [(8, zP b1 0)] fun a5 he5 => ?_
 have hgb := (m1.own 1 _ rfl rfl).resolve_right (by simp)
 have hsb := hx1.1
 have hlb := hx1.2
 refine kdn he5 m1 1 2 (d_rules _ (RS.of (m1.bx 1 _ _ _ _ rfl) hgb m1.keep hsb hlb) (by omega)) fun d1 b2 a6 w2 hd1 he6 m2 => ?_
 obtain ⟨hrw, hl6, hq1⟩ := hd1
 refine wb 1 he6 [(5, zS b2 d1.L.length d1.cap)] fun a7 he7 => ?_
 refine wl_end (wp_seqR ?_)
 refine wb 2 he7 [(11, zP b1 0), (10, zS b2 d1.L.length d1.cap)] fun a8 he8 => ?_
 refine kd he8 m2 1 (d_start _ (RS.of (m2.bx 1 _ _ _ _ rfl) hgb m2.keep hsb hlb) (by omega)) fun d2 a9 w3 hd2 he9 m3 => ?_
 obtain ⟨hs12, hq2⟩ := hd2
 refine kv he9 (.string (d2.came)) (rn_fld _ _ _ rfl _ (.string (d2.came)) (he9.tmp 12 _ rfl) (by kernel_rfl)) fun a10 he10 => ?_
 refine wb 2 he10 [(3, .string (d2.came)), (2, zS b2 d1.L.length d1.cap)] fun a11 he11 => ?_
 refine wl_end (wp_ret ?_)
 exact bodyPost_ret (results_tmp2 he11 _ _ Try.results5 (.slice (some ⟨b2, 0, none⟩) (d1.L.length) (d1.cap)) (.string (d2.came)) rfl rfl) he11.defers ⟨⟨d1.L, d1.cap, d1.cur, d2.came⟩, _, rfl, m3.bx 2 _ _ _ _ rfl, ⟨hrw, hl6, hs12⟩, (m3.own 2 _ rfl rfl).resolve_right (by simp), m3.below⟩
end Go.Proofs.Ytkaekiodjjhjkaa.W
namespace Go.Proofs.Ytkaekiodjjhjkaa.W
open Go.RowKit
open Go.Proofs.Ytkaekiodjjhjkaa.H
def tidL : List Ru → List (Nat × Nat) → List Ru
 | [], _ => []
 | r :: l, S => match brR r S true with
   | none => tidL l S
   | some _ => match brR r S false with
     | none => [r]
     | some y => r :: tidL l (S.set r.at_.toNat y)
theorem tidR_L (f : Nat → Ru) : ∀ (k i : Nat) (S : List (Nat × Nat)), tidR f k i S = tidL ((List.range' i k).map f) S
 | 0, _, _ => rfl
 | k + 1, i, S => by
   rw [List.range'_succ, List.map_cons]
   cases h1 : brR (f i) S true with
   | none => simp only [tidR, tidL, h1]; exact tidR_L f k (i + 1) S
   | some x =>
     cases h2 : brR (f i) S false with
     | none => simp only [tidR, tidL, h1, h2]
     | some y => simp only [tidR, tidL, h1, h2]; rw [tidR_L f k (i + 1)]
theorem tidL_two : ∀ (l : List Ru) (S : List (Nat × Nat)), tidL (tidL l S) S = tidL l S
 | [], _ => rfl
 | r :: l, S => by
   cases h1 : brR r S true with
   | none => simp only [tidL, h1]; exact tidL_two l S
   | some x =>
     cases h2 : brR r S false with
     | none => simp only [tidL, h1, h2]
     | some y => simp only [tidL, h1, h2]; rw [tidL_two l]
theorem tidL_mem : ∀ (l : List Ru) (S : List (Nat × Nat)) (r : Ru), r ∈ tidL l S → r ∈ l
 | [], _, _, h => h
 | q :: l, S, r, h => by
   rw [tidL] at h
   split at h
   ·exact List.mem_cons_of_mem _ (tidL_mem l S r h)
   ·split at h
    ·simp at h; simp [h]
    ·rcases List.mem_cons.1 h with h | h
     ·simp [h]
     ·exact List.mem_cons_of_mem _ (tidL_mem l _ r h)
theorem tidL_le : ∀ (l : List Ru) (S : List (Nat × Nat)), (tidL l S).length ≤ l.length
 | [], _ => Nat.le_refl _
 | r :: l, S => by
   rw [tidL]
   split
   ·exact Nat.le_succ_of_le (tidL_le l S)
   ·split
    ·simp
    ·have := tidL_le l (S.set r.at_.toNat ‹Nat × Nat›)
     simp only [List.length_cons]; omega
def ofL (s : ByteArray) : List Ru → Int × Int
 | [] => (1, 0)
 | r :: l => if holdsR r s then (r.ver, r.key) else ofL s l
theorem ofR_L (f : Nat → Ru) (s : ByteArray) : ∀ (k i : Nat), ofR f s k i = ofL s ((List.range' i k).map f)
 | 0, _ => rfl
 | k + 1, i => by rw [List.range'_succ, List.map_cons, ofR, ofL, ofR_L f s k (i + 1)]
theorem range_getD (l : List Ru) : (List.range' 0 l.length).map (fun i => l.getD i ru0) = l := by
 apply List.ext_getElem
 ·simp
 ·intro i h1 h2
  simp [List.getD_eq_getElem?_getD, h2]
theorem tidM_L (l : List Ru) : tidM (fun i => l.getD i ru0) l.length = tidL l (List.replicate 12 full) := by rw [tidM, tidR_L, range_getD]
def InS (s : ByteArray) (S : List (Nat × Nat)) : Prop := ∀ i, i < 12 → (atS S i).1 ≤ byteAt s i ∧ byteAt s i ≤ (atS S i).2
theorem brN_has {op : Int} {lo hi n b : Nat} {hl : Bool} (h12 : 12 ≤ op) (h15 : op ≤ 15) (h1 : lo ≤ b) (h2 : b ≤ hi) (h : H.holdsB op (b : Int) (n : Int) = hl) : ∃ x, brN op lo hi n hl = some x ∧ x.1 ≤ b ∧ b ≤ x.2 := by
 unfold H.holdsB at h
 unfold brN
 rcases (by omega : op = 12 ∨ op = 13 ∨ op = 14 ∨ op = 15) with rfl | rfl | rfl | rfl <;> cases hl <;> simp at h <;> simp only [if_pos, reduceIte, Bool.false_eq_true, Int.reduceEq] <;> (repeat' split) <;> first | exact ⟨_, rfl, by show _ ≤ _; omega, by show _ ≤ _; omega⟩ | (exfalso; omega)
theorem ofL_tid (s : ByteArray) : ∀ (l : List Ru) (S : List (Nat × Nat)), (∀ r ∈ l, ruOk r = true) → OkS S → InS s S → ofL s (tidL l S) = ofL s l
 | [], _, _, _, _ => rfl
 | r :: l, S, ho, hS, hi => by
   have hr := ho r (by simp)
   have hI := ruOk_is hr
   have hat := at_lt12 hr
   obtain ⟨b1, b2⟩ := hi _ hat
   have hn : ((r.num.toNat : Nat) : Int) = r.num := Int.toNat_of_nonneg hI.num0
   have key : ∀ hl, holdsR r s = hl → ∃ x, brR r S hl = some x ∧ x.1 ≤ byteAt s r.at_.toNat ∧ byteAt s r.at_.toNat ≤ x.2 := fun hl h => brN_has hI.op0 hI.op1 b1 b2 (by rw [hn]; exact h)
   have ho' : ∀ x ∈ l, ruOk x = true := fun x hx => ho x (by simp [hx])
   cases hh : holdsR r s
   ·obtain ⟨y, hy, y1, y2⟩ := key false hh
    have e0 : ofL s (r :: l) = ofL s l := by rw [ofL, hh]; rfl
    cases h1 : brR r S true with
    | none => simp only [tidL, h1]; rw [ofL_tid s l S ho' hS hi, e0]
    | some x =>
      simp only [tidL, h1, hy]
      rw [ofL, hh, e0]
      refine ofL_tid s l _ ho' (hS.set hy) fun i hi12 => ?_
      unfold atS
      rw [List.getD_eq_getElem?_getD, List.getElem?_set]
      by_cases e : r.at_.toNat = i
      ·subst e
       rw [if_pos rfl, if_pos (by rw [hS.len]; exact hat)]
       exact ⟨y1, y2⟩
      ·rw [if_neg e, ← List.getD_eq_getElem?_getD]
       exact hi i hi12
   ·obtain ⟨x, hx, _⟩ := key true hh
    have e0 : ∀ q, ofL s (r :: q) = (r.ver, r.key) := fun q => by rw [ofL, hh]; rfl
    simp only [tidL, hx]
    split
    ·rw [e0, e0]
    ·rw [e0, e0]
theorem inS_full (s : ByteArray) : InS s (List.replicate 12 full) := fun i hi => by
 have : atS (List.replicate 12 full) i = full := by unfold atS; rw [List.getD_eq_getElem?_getD, List.getElem?_replicate]; simp [hi]
 rw [this]
 have := byteAt_lt s i
 exact ⟨Nat.zero_le _, by show byteAt s i ≤ 255; omega⟩
section
variable {l : List Ru} (ho : ruOks (fun i => l.getD i ru0) l.length = true)
include ho
theorem ok_mem : (∀ r ∈ l, ruOk r = true) ∧ l.length ≤ 6 := by
 obtain ⟨h1, h2⟩ := ruOks_all ho
 refine ⟨fun r hr => ?_, h2⟩
 obtain ⟨i, hi, rfl⟩ := List.getElem_of_mem hr
 have := h1 i hi
 simpa [List.getD_eq_getElem?_getD, hi] using this
end
theorem mem_ok {l : List Ru} (h : ∀ r ∈ l, ruOk r = true) (hl : l.length ≤ 6) : ruOks (fun i => l.getD i ru0) l.length = true := by
 rw [ruOks, ruAll_yes fun i hi => ?_]
 ·simp; omega
 ·have : l.getD i ru0 = l[i] := by simp [List.getD_eq_getElem?_getD, hi]
  show ruOk (l.getD i ru0) = true
  rw [this]; exact h _ (List.getElem_mem hi)
theorem T_le {l T : List Ru} (hT : T = tidM (fun i => l.getD i ru0) l.length) : T.length ≤ l.length := by rw [hT, tidM_L]; exact tidL_le _ _
theorem T_two {l T : List Ru} (hT : T = tidM (fun i => l.getD i ru0) l.length) : tidM (fun i => T.getD i ru0) T.length = T := by rw [tidM_L, hT, tidM_L, tidL_two]
section
variable {l T : List Ru} (ho : ruOks (fun i => l.getD i ru0) l.length = true) (hT : T = tidM (fun i => l.getD i ru0) l.length)
include ho hT
theorem T_ok : ruOks (fun i => T.getD i ru0) T.length = true := by
 obtain ⟨h1, h2⟩ := ok_mem ho
 have := T_le hT
 refine mem_ok (fun r hr => h1 r ?_) (by omega)
 rw [hT, tidM_L] at hr
 exact tidL_mem _ _ _ hr
theorem T_of (s : ByteArray) (hs : s.size = 12) : ofM (fun i => T.getD i ru0) T.length s = ofM (fun i => l.getD i ru0) l.length s := by
 rw [ofM_yes ho hs, ofM_yes (T_ok ho hT) hs, ofR_L, ofR_L, range_getD, range_getD, hT, tidM_L]
 exact ofL_tid s l _ (ok_mem ho).1 OkS.full (inS_full s)
end
end Go.Proofs.Ytkaekiodjjhjkaa.W
namespace Go.Proofs.Ytkaekiodjjhjkaa.W
open Go.RowKit
open Go.Proofs.Ytkaekiodjjhjkaa.H
theorem c_from255  (w : World)  :
 Calls Try.prog 22 #[.int .i64 (0), .int .i64 (255)] w fun e w' => e = .returned (.agg (ivArr full)) ∧ Below w.heap.size w w' := by
 refine calls_begin Try.func22 rfl 9 rfl (Nat.le_of_ble_eq_true rfl) [(0, .int .i64 (0)), (1, .int .i64 (255))] ⟨rfl, rfl, trivial⟩ (fun a0 he0 m0 => ?_)
 refine wp_seqR ?_
 refine ka he0 m0 1 56 (.agg #[.int .i64 0, .int .i64 0, .int .i64 0, .int .i64 0]) (#[zI 0, zI 0, zI 0, zI 0]) fun a1 w1 b1 he1 m1 => ?_
 refine wl_end (wp_seqR ?_)
 refine wb 2 he1 [(6, zI 255), (5, zI 0)] fun a2 he2 => ?_
 refine kv he2 (.agg (#[zI 0, zI 255, zI 0, zI 4294967295])) (rn_build _ _ rfl #[(0, .int .i64 (0)), (1, .int .i64 (255)), (3, .int .i64 (4294967295))] (pmap3 (he2.tmp 5 _ rfl) (he2.tmp 6 _ rfl) rfl) _ (by kernel_rfl)) fun a3 he3 => ?_
 refine kc he3 m1 (v := .agg (ivArr (full))) (c_tidy255 _) fun a4 w2 he4 m2 => ?_
 refine ks he4 m2 1 agg56.sz (0) (.agg (ivArr (full))) (ivArr (full)) (hc := (ivArr.one _)) (hA := (by kernel_rfl)) fun w3 m3 => ?_
 refine wl_end (wp_ret ?_)
 exact bodyPost_ret (results_cell he4 m3 _ _ Try.results22 _ rfl 1 rfl 4 agg56 (by first | rfl | assumption)) he4.defers ⟨rfl, m3.below⟩
theorem c_One (k : Nat) (w : World) (hk : k ≤ 255) :
 Calls Try.prog 23 #[.int .i64 (((k : Nat) : Int))] w fun e w' => e = .returned (.agg (ivArr (k, k))) ∧ Below w.heap.size w w' := by
 refine calls_begin Try.func23 rfl 11 rfl (Nat.le_of_ble_eq_true rfl) [(0, .int .i64 (((k : Nat) : Int)))] ⟨rfl, trivial⟩ (fun a0 he0 m0 => ?_)
 have hin : inR (((k : Nat) : Int)) 0 4294967295 = true := by simp [inR]; omega
 refine wp_seqR ?_
 refine ka he0 m0 1 56 (.agg #[.int .i64 0, .int .i64 0, .int .i64 0, .int .i64 0]) (#[zI 0, zI 0, zI 0, zI 0]) fun a1 w1 b1 he1 m1 => ?_
 refine wl_end (wp_seq (wp_seqR ?_))
 refine wb 1 he1 [(3, zN k)] fun a2 he2 => ?_
 refine kc he2 m1 (v := zT) (callsV (congrArg Value.bool (hin)) (c_isnum _ _)) fun a3 w2 he3 m2 => ?_
 refine wb 1 he3 [(5, zF)] fun a4 he4 => ?_
 refine wl_end (wp_condF (he := he4) rfl (wp_skip (then_normal (wp_seqR ?_))))
 refine wb 3 he4 [(9, zN k), (8, zN k), (7, zN k)] fun a5 he5 => ?_
 refine kv he5 (.agg (#[zN k, zN k, zN k, zI 0])) (rn_build _ _ rfl #[(0, .int .i64 (((k : Nat) : Int))), (1, .int .i64 (((k : Nat) : Int))), (2, .int .i64 (((k : Nat) : Int)))] (pmap3 (he5.tmp 7 _ rfl) (he5.tmp 8 _ rfl) (he5.tmp 9 _ rfl)) _ (by kernel_rfl)) fun a6 he6 => ?_
 refine wm [3] he6 m2 [] [(1, zE b1 56 (#[zN k, zN k, zN k, zI 0]))] [b1] vl0 fun a7 w3 he7 m3 => ?_
 refine wl_end (wp_ret ?_)
 exact bodyPost_ret (results_cell he7 m3 _ _ Try.results23 _ rfl 1 rfl 4 agg56 (by first | rfl | assumption)) he7.defers ⟨(by rw [ivArr_one (by omega)]), m3.below⟩
theorem c_RTidy0 (f : Nat → Ru) (b p n c : Nat) (w : World) (hR : RowAt w b p n 5 fun i => (f i).arr) (hn : n ≤ 1048576) (hok : ruOks f n = true) :
 Calls Try.prog 10 #[.slice (some ⟨b, p, none⟩) (n) (c)] w fun e w' => (tidM f n = [] ∧ e = .returned (.slice none 0 0) ∧ Below w.heap.size w w') ∨ (tidM f n ≠ [] ∧ NewRu w (tidM f n) e w') := by
 refine calls_begin Try.func10 rfl 72 rfl (Nat.le_of_ble_eq_true rfl) [(0, .slice (some ⟨b, p, none⟩) (n) (c))] ⟨rfl, trivial⟩ (fun a0 he0 m0 => ?_)
 obtain ⟨hall, hn6⟩ := ruOks_all hok
 refine wp_seqR ?_
 refine wb 1 he0 [(2, .slice none 0 0)] fun a1 he1 => ?_
 refine wl_end (wp_seq (wp_seqR ?_))
 refine wb 1 he1 [(15, .slice (some ⟨b, p, none⟩) (n) (c))] fun a2 he2 => ?_
 refine kc he2 m0 (v := zT) (callsV (congrArg Value.bool (hok)) (c_Oks f b p n c _ (hR.kb m0.keep (by simp)) hn)) fun a3 w1 he3 m1 => ?_
 refine wb 1 he3 [(17, zF)] fun a4 he4 => ?_
 refine wl_end (wp_condF (he := he4) rfl (wp_skip (then_normal (wp_seqR ?_))))
 refine ka he4 m1 1 57 (.agg zero12) (zero12) fun a5 w2 b1 he5 m2 => ?_
 refine wl_end (wp_seq (wp_seqR ?_))
 refine wb 1 he5 [(18, zI 0)] fun a6 he6 => ?_
 refine wl_end (wp_block ?_)
 refine wp_loopN (fun mz az wz => ∃ (i0 : Nat), ∃ (cur0 : Array Value), mz = 12 - (i0) ∧ (i0 ≤ 12 ∧ Rw (cur0) 12 12 4 (cellsOf ivArr (initS i0))) ∧ EV az 72 [] [(0, .slice (some ⟨b, p, none⟩) (n) (c)), (2, .slice none 0 0), (15, .slice (some ⟨b, p, none⟩) (n) (c)), (16, .bool true), (17, .bool false), (3, .pointer (some ⟨b1, 0, none⟩)), (18, .int .i64 (((i0 : Nat) : Int)))] ∧ MM [] w wz [(1, ⟨true, b1, 57, cur0⟩)]) ⟨_, 0, zero12, rfl, ⟨by omega, zero12_rw⟩, he6.sb, m2.sub _ ⟨rfl, trivial⟩⟩ ?_
 rintro mz1 a7 w3 ⟨i0, cur0, rfl, hrel1, he7, m3⟩
 obtain ⟨hra, hrw⟩ := hrel1
 refine wp_seqR ?_
 cases hd1 : (decide (((i0 : Nat) : Int) < 12))
 ·
  have hd1p := of_decide_eq_false hd1
  refine wr [1] he7 m3 [(19, zF)] [] (vb (hd1) vl0) fun a8 w4 he8 m4 => ?_
  refine wl_end (wp_seq (wp_condF (he := he8) rfl (wp_exit (exit_then (exit_then (exit_here (then_normal (wp_seqR ?_))))))))
  refine wb 1 he8 [(5, .slice none 0 0)] fun a9 he9 => ?_
  refine wl_end (wp_seq (wp_seqR ?_))
  refine wb 1 he9 [(25, .slice (some ⟨b, p, none⟩) (n) (c))] fun a10 he10 => ?_
  refine kv he10 (zN n) (rn_builtin _ _ _ rfl #[.slice (some ⟨b, p, none⟩) (n) (c)] (map1 (he10.tmp 25 _ rfl)) (.int .i64 (((n : Nat) : Int))) (by kernel_rfl)) fun a11 he11 => ?_
  refine wb 1 he11 [(27, zI 0)] fun a12 he12 => ?_
  refine wl_end (wp_block ?_)
  refine wp_loopN (fun mz az wz => (∃ (i : Nat), ∃ (S : List (Nat × Nat)), ∃ (cur : Array Value), mz = n - (i) ∧ (i ≤ n ∧ OkS (S) ∧ Rw (cur) 12 12 4 (cellsOf ivArr (S)) ∧ tidM f n = [] ++ tidR f (n - (i)) (i) (S)) ∧ EV az 72 [] [(0, .slice (some ⟨b, p, none⟩) (n) (c)), (2, .slice none 0 0), (15, .slice (some ⟨b, p, none⟩) (n) (c)), (16, .bool true), (17, .bool false), (3, .pointer (some ⟨b1, 0, none⟩)), (18, .int .i64 (((i0 : Nat) : Int))), (19, .bool false), (25, .slice (some ⟨b, p, none⟩) (n) (c)), (26, .int .i64 (((n : Nat) : Int))), (27, .int .i64 (((i : Nat) : Int))), (5, .slice none 0 0)] ∧ MM [] w wz [(1, ⟨true, b1, 57, cur⟩)]) ∨ (∃ (i : Nat), ∃ (S : List (Nat × Nat)), ∃ (cur : Array Value), ∃ (o : List Ru), ∃ (on : Nat), ∃ (ob : Nat), ∃ (oc : Nat), ∃ (oa : Array Value), mz = n - (i) ∧ (i ≤ n ∧ OkS (S) ∧ Rw (cur) 12 12 4 (cellsOf ivArr (S)) ∧ tidM f n = (o) ++ tidR f (n - (i)) (i) (S) ∧ on = (o).length ∧ 1 ≤ on ∧ on ≤ i ∧ Rw (oa) (on) (oc) 5 (cellsOf Ru.arr (o))) ∧ EV az 72 [] [(0, .slice (some ⟨b, p, none⟩) (n) (c)), (2, .slice none 0 0), (15, .slice (some ⟨b, p, none⟩) (n) (c)), (16, .bool true), (17, .bool false), (3, .pointer (some ⟨b1, 0, none⟩)), (18, .int .i64 (((i0 : Nat) : Int))), (19, .bool false), (25, .slice (some ⟨b, p, none⟩) (n) (c)), (26, .int .i64 (((n : Nat) : Int))), (27, .int .i64 (((i : Nat) : Int))), (5, .slice (some ⟨ob, 0, none⟩) (on) (oc))] ∧ MM [] w wz [(1, ⟨true, b1, 57, cur⟩), (90, ⟨true, ob, 30, oa⟩)])) ⟨_, Or.inl ⟨0, (List.replicate 12 full), cur0, rfl, ⟨by omega, OkS.full, by have := hrw; rw [show i0 = 12 by omega] at this; exact this, rfl⟩, he12.sb, m4.sub _ ⟨rfl, trivial⟩⟩⟩ ?_
  rintro mz2 a13 w5 (⟨i, S, cur, rfl, hrel2, he13, m5⟩ | ⟨i, S, cur, o, on, ob, oc, oa, rfl, hrel2, he13, m5⟩)
  ·
   obtain ⟨hra, hS, hrw, htd⟩ := hrel2
   refine wp_seqR ?_
   cases hd2 : (decide (((i : Nat) : Int) < ((n : Nat) : Int)))
   ·
    have hd2p := of_decide_eq_false hd2
    refine wr [1] he13 m5 [(28, zF)] [] (vb (hd2) vl0) fun a14 w6 he14 m6 => ?_
    refine wl_end (wp_seq (wp_condF (he := he14) rfl (wp_exit (exit_then (exit_then (exit_here (then_normal (wp_seqR ?_))))))))
    refine wb 2 he14 [(2, .slice none 0 0), (71, .slice none 0 0)] fun a15 he15 => ?_
    refine wl_end (wp_ret ?_)
    exact bodyPost_ret (results_tmp he15 _ Try.results10 (.slice none 0 0) rfl) he15.defers (Or.inl ⟨tid_end htd (by omega), rfl, m6.below⟩)
   ·
    have hd2p := of_decide_eq_true hd2
    have hri := hall i (by omega)
    have hat := at_lt12 hri
    obtain ⟨P1, hP1⟩ := c_Br hri hS true
    obtain ⟨P2, hP2⟩ := c_Br hri hS false
    refine wr [1] he13 m5 [(28, zT)] [] (vb (hd2) vl0) fun a14 w6 he14 m6 => ?_
    refine wl_end (wp_seq (wp_condT (he := he14) rfl (wp_skip (then_normal (wp_seq (wp_block (wp_seqR ?_)))))))
    refine kv he14 (.pointer (some ⟨b, p + i * 5, none⟩)) (rn_indexA _ _ _ rfl _ _ (.pointer (some ⟨b, p + i * 5, none⟩)) (he14.tmp 25 _ rfl) (he14.tmp 27 _ rfl) (ixS 30 5 (by kernel_rfl) (fun w => by kernel_rfl) (b) (p) (n) (c) (i) (by omega) _)) fun a15 he15 => ?_
    refine krA he15 m6 agg30 hR (i) fun a16 he16 => ?_
    refine ka he16 m6 2 30 (.agg #[.int .i64 0, .int .i64 0, .int .i64 0, .int .i64 0, .int .i64 0]) (#[zI 0, zI 0, zI 0, zI 0, zI 0]) fun a17 w7 b2 he17 m7 => ?_
    refine ks he17 m7 2 agg30.sz (0) (.agg (Ru.arr (f i))) (Ru.arr (f i)) (hc := (Ru.one _)) (hA := (by kernel_rfl)) fun w8 m8 => ?_
    refine wl_end (wp_seqR ?_)
    refine wr [0] he17 m8 [(31, zP b2 2)] [] vl0 fun a18 w9 he18 m9 => ?_
    refine kl he18 m9 2 one3 (2) (.int .i64 ((((f i).num.toNat : Nat) : Int))) (hv := (Ru.g_num' _ hri)) fun a19 he19 => ?_
    refine kc he19 m9 (v := .agg (ivArr (((f i).num.toNat, (f i).num.toNat)))) (c_One _ _ (num_le hri)) fun a20 w10 he20 m10 => ?_
    refine ka he20 m10 3 56 (.agg #[.int .i64 0, .int .i64 0, .int .i64 0, .int .i64 0]) (#[zI 0, zI 0, zI 0, zI 0]) fun a21 w11 b3 he21 m11 => ?_
    refine ks he21 m11 3 agg56.sz (0) (.agg (ivArr (((f i).num.toNat, (f i).num.toNat)))) (ivArr (((f i).num.toNat, (f i).num.toNat))) (hc := (ivArr.one _)) (hA := (by kernel_rfl)) fun w12 m12 => ?_
    refine wl_end (wp_seq (wp_seq ?_))
    refine rg_cut (fun az wz => ∃ (b4 : Nat), ∃ (b5 : Nat), EV az 72 [] [(0, .slice (some ⟨b, p, none⟩) (n) (c)), (2, .slice none 0 0), (15, .slice (some ⟨b, p, none⟩) (n) (c)), (16, .bool true), (17, .bool false), (3, .pointer (some ⟨b1, 0, none⟩)), (18, .int .i64 (((i0 : Nat) : Int))), (19, .bool false), (25, .slice (some ⟨b, p, none⟩) (n) (c)), (26, .int .i64 (((n : Nat) : Int))), (27, .int .i64 (((i : Nat) : Int))), (5, .slice none 0 0), (28, .bool true), (29, .pointer (some ⟨b, p + i * 5, none⟩)), (30, .agg (Ru.arr (f i))), (7, .pointer (some ⟨b2, 0, none⟩)), (31, .pointer (some ⟨b2, 2, none⟩)), (32, .int .i64 ((((f i).num.toNat : Nat) : Int))), (33, .agg (ivArr (((f i).num.toNat, (f i).num.toNat)))), (8, .pointer (some ⟨b3, 0, none⟩)), (35, .pointer (some ⟨b2, 1, none⟩)), (36, .int .i64 ((f i).op)), (37, .pointer (some ⟨b2, 0, none⟩)), (38, .int .i64 ((((f i).at_.toNat : Nat) : Int))), (39, .pointer (some ⟨b1, 0 + ((f i).at_.toNat) * 4, none⟩)), (40, .agg (ivArr (atS (S) (((f i).at_.toNat))))), (41, .agg (ivArr (((f i).num.toNat, (f i).num.toNat)))), (42, .tuple #[.agg (optA (brR (f i) S true)), .agg (#[zI P1.1, zI P1.2.1, zI P1.2.2.1, zI P1.2.2.2]), .bool ((brR (f i) S true).isSome)]), (34, .tuple #[.agg (optA (brR (f i) S true)), .agg (#[zI P1.1, zI P1.2.1, zI P1.2.2.1, zI P1.2.2.2]), .bool ((brR (f i) S true).isSome)]), (43, .agg (optA (brR (f i) S true))), (44, .agg (#[zI P1.1, zI P1.2.1, zI P1.2.2.1, zI P1.2.2.2])), (45, .bool ((brR (f i) S true).isSome)), (9, .pointer (some ⟨b4, 0, none⟩)), (10, .pointer (some ⟨b5, 0, none⟩)), (11, .bool ((brR (f i) S true).isSome))] ∧ MM [] w wz [(1, ⟨true, b1, 57, cur⟩), (2, ⟨true, b2, 30, Ru.arr (f i)⟩), (3, ⟨true, b3, 56, ivArr (((f i).num.toNat, (f i).num.toNat))⟩), (4, ⟨true, b4, 56, optA (brR (f i) S true)⟩), (5, ⟨true, b5, 56, #[zI P1.1, zI P1.2.1, zI P1.2.2.1, zI P1.2.2.2]⟩)]) ?tree1_001 ?cont1_001
    case tree1_001 =>
     refine wh_begin (by kernel_rfl) m12 [(1, ⟨true, b1, 57, cur⟩), (2, ⟨true, b2, 30, Ru.arr (f i)⟩), (3, ⟨true, b3, 56, ivArr (((f i).num.toNat, (f i).num.toNat))⟩)] ⟨rfl, rfl, rfl, trivial⟩ (fun w13 m13 => ?_)
     refine wtd (fuel := 14) [(0, 0), (1, 4), (2, 0)] he21 m13 [(37, zP b2 0), (36, zI ((f i).op)), (35, zP b2 1)] [b2] vl0 fun a22 he22 => ?_
     refine tl (fuel := 13) 3 rfl he22 m13 2 one3 (0) (zN ((f i).at_.toNat)) (hv := (Ru.g_at' _ hri)) fun a23 he23 => ?_
     refine tv (fuel := 12) 4 rfl he23 m13 (.pointer (some ⟨b1, 0 + ((f i).at_.toNat) * 4, none⟩)) (fun wS hmS => rn_indexA _ _ _ rfl _ _ (.pointer (some ⟨b1, 0 + ((f i).at_.toNat) * 4, none⟩)) (he23.tmp 3 _ rfl) (he23.tmp 38 _ rfl) (ixA 12 56 4 (by kernel_rfl) (fun w => by kernel_rfl) b1 0 ((f i).at_.toNat) (by omega) (by decide) _)) fun a24 he24 => ?_
     refine tlA (fuel := 11) 5 rfl he24 m13 1 agg56 (0 + ((f i).at_.toNat) * 4) (ivArr (atS (S) (((f i).at_.toNat)))) (hC := (hrw.ext ivArr.sz (hS.get hat) _ (by omega))) fun a25 he25 => ?_
     refine wtd (fuel := 10) [(6, 5)] he25 m13 [(41, .agg (ivArr (((f i).num.toNat, (f i).num.toNat))))] [b3] vl0 fun a26 he26 => ?_
     refine wpAnyH_ready (fuel := 9) (rs := [7, 12, 13]) ?hr1e001_8 (by simp) (AllReadyH.cons (o := ?o1e001_8_0) ?hi1e001_8_0 ?st1e001_8_0 (AllReadyH.cons (o := ?o1e001_8_1) ?hi1e001_8_1 ?st1e001_8_1 (AllReadyH.cons (o := ?o1e001_8_2) ?hi1e001_8_2 ?st1e001_8_2 AllReadyH.nil)))
     case hr1e001_8 => kernel_rfl
     case hi1e001_8_0 => rw [List.getElem?_toArray]; rfl
     case hi1e001_8_1 => rw [List.getElem?_toArray]; rfl
     case hi1e001_8_2 => rw [List.getElem?_toArray]; rfl
     case st1e001_8_0 =>
      refine sc he26 m13 (v := .tuple #[.agg (optA (brR (f i) S true)), .agg (#[zI P1.1, zI P1.2.1, zI P1.2.2.1, zI P1.2.2.2]), .bool ((brR (f i) S true).isSome)]) (hP1 _) fun a27 w14 he27 m14 => ?_
      refine wtb (fuel := 5) [8, 9, 10, 11] he27 m14 [(45, .bool ((brR (f i) S true).isSome)), (44, .agg (#[zI P1.1, zI P1.2.1, zI P1.2.2.1, zI P1.2.2.2])), (43, .agg (optA (brR (f i) S true))), (34, .tuple #[.agg (optA (brR (f i) S true)), .agg (#[zI P1.1, zI P1.2.1, zI P1.2.2.1, zI P1.2.2.2]), .bool ((brR (f i) S true).isSome)])] fun a28 he28 => ?_
      refine up2 (fuel := 4) 12 13 rfl rfl ?st1e001_13_0 ?st1e001_13_1
      case st1e001_13_0 =>
       refine sa he28 m14 ⟨rfl, rfl, rfl, trivial⟩ 4 56 (.agg #[.int .i64 0, .int .i64 0, .int .i64 0, .int .i64 0]) (#[zI 0, zI 0, zI 0, zI 0]) (fun _ => ⟨rfl, rfl, rfl, trivial⟩) fun a29 w15 b4 he29 m15 => ?_
       refine up1 (fuel := 3) 13 rfl ?st1e001_14_0
       case st1e001_14_0 =>
        refine sa he29 m15 ⟨rfl, rfl, rfl, trivial⟩ 5 56 (.agg #[.int .i64 0, .int .i64 0, .int .i64 0, .int .i64 0]) (#[zI 0, zI 0, zI 0, zI 0]) (fun _ => ⟨rfl, rfl, rfl, trivial⟩) fun a30 w16 b5 he30 m16 => ?_
        refine ts (fuel := 2) 14 rfl he30 m16 4 agg56.sz (0) (.agg (optA (brR (f i) S true))) (optA (brR (f i) S true)) ⟨rfl, rfl, rfl, trivial⟩ (hz := (optA.sz _)) (hc := (optA.one _)) (hA := (optA_ovw _ _ _ _ _)) fun w17 m17 => ?_
        refine ts (fuel := 1) 15 rfl he30 m17 5 agg56.sz (0) (.agg (#[zI P1.1, zI P1.2.1, zI P1.2.2.1, zI P1.2.2.2])) (#[zI P1.1, zI P1.2.1, zI P1.2.2.1, zI P1.2.2.2]) ⟨rfl, rfl, rfl, trivial⟩ (hin := (by simp)) (hA := (by kernel_rfl)) fun w18 m18 => ?_
        refine wtb (fuel := 0) [16] he30 m18 [(11, .bool ((brR (f i) S true).isSome))] fun a31 he31 => ?_
        refine wpAnyH_done (by kernel_rfl) ?_ _
        exact ⟨b4, b5, he31.sb, m18.sb⟩
      case st1e001_13_1 =>
       refine sa he28 m14 ⟨rfl, rfl, rfl, trivial⟩ 5 56 (.agg #[.int .i64 0, .int .i64 0, .int .i64 0, .int .i64 0]) (#[zI 0, zI 0, zI 0, zI 0]) (fun _ => ⟨rfl, rfl, rfl, trivial⟩) fun a29 w15 b5 he29 m15 => ?_
       refine up1 (fuel := 3) 12 rfl ?st1e001_18_0
       case st1e001_18_0 =>
        refine sa he29 m15 ⟨rfl, rfl, rfl, trivial⟩ 4 56 (.agg #[.int .i64 0, .int .i64 0, .int .i64 0, .int .i64 0]) (#[zI 0, zI 0, zI 0, zI 0]) (fun _ => ⟨rfl, rfl, rfl, trivial⟩) fun a30 w16 b4 he30 m16 => ?_
        refine ts (fuel := 2) 14 rfl he30 m16 4 agg56.sz (0) (.agg (optA (brR (f i) S true))) (optA (brR (f i) S true)) ⟨rfl, rfl, rfl, trivial⟩ (hz := (optA.sz _)) (hc := (optA.one _)) (hA := (optA_ovw _ _ _ _ _)) fun w17 m17 => ?_
        refine ts (fuel := 1) 15 rfl he30 m17 5 agg56.sz (0) (.agg (#[zI P1.1, zI P1.2.1, zI P1.2.2.1, zI P1.2.2.2])) (#[zI P1.1, zI P1.2.1, zI P1.2.2.1, zI P1.2.2.2]) ⟨rfl, rfl, rfl, trivial⟩ (hin := (by simp)) (hA := (by kernel_rfl)) fun w18 m18 => ?_
        refine wtb (fuel := 0) [16] he30 m18 [(11, .bool ((brR (f i) S true).isSome))] fun a31 he31 => ?_
        refine wpAnyH_done (by kernel_rfl) ?_ _
        exact ⟨b4, b5, he31.sb, m18.sb⟩
     case st1e001_8_1 =>
      refine sa he26 m13 ⟨rfl, rfl, rfl, trivial⟩ 4 56 (.agg #[.int .i64 0, .int .i64 0, .int .i64 0, .int .i64 0]) (#[zI 0, zI 0, zI 0, zI 0]) (fun _ => ⟨rfl, rfl, rfl, trivial⟩) fun a27 w14 b4 he27 m14 => ?_
      refine up2 (fuel := 8) 7 13 rfl rfl ?st1e001_22_0 ?st1e001_22_1
      case st1e001_22_0 =>
       refine sc he27 m14 (v := .tuple #[.agg (optA (brR (f i) S true)), .agg (#[zI P1.1, zI P1.2.1, zI P1.2.2.1, zI P1.2.2.2]), .bool ((brR (f i) S true).isSome)]) (hP1 _) fun a28 w15 he28 m15 => ?_
       refine wtb (fuel := 4) [8, 9, 10, 11] he28 m15 [(45, .bool ((brR (f i) S true).isSome)), (44, .agg (#[zI P1.1, zI P1.2.1, zI P1.2.2.1, zI P1.2.2.2])), (43, .agg (optA (brR (f i) S true))), (34, .tuple #[.agg (optA (brR (f i) S true)), .agg (#[zI P1.1, zI P1.2.1, zI P1.2.2.1, zI P1.2.2.2]), .bool ((brR (f i) S true).isSome)])] fun a29 he29 => ?_
       refine up1 (fuel := 3) 13 rfl ?st1e001_27_0
       case st1e001_27_0 =>
        refine sa he29 m15 ⟨rfl, rfl, rfl, trivial⟩ 5 56 (.agg #[.int .i64 0, .int .i64 0, .int .i64 0, .int .i64 0]) (#[zI 0, zI 0, zI 0, zI 0]) (fun _ => ⟨rfl, rfl, rfl, trivial⟩) fun a30 w16 b5 he30 m16 => ?_
        refine ts (fuel := 2) 14 rfl he30 m16 4 agg56.sz (0) (.agg (optA (brR (f i) S true))) (optA (brR (f i) S true)) ⟨rfl, rfl, rfl, trivial⟩ (hz := (optA.sz _)) (hc := (optA.one _)) (hA := (optA_ovw _ _ _ _ _)) fun w17 m17 => ?_
        refine ts (fuel := 1) 15 rfl he30 m17 5 agg56.sz (0) (.agg (#[zI P1.1, zI P1.2.1, zI P1.2.2.1, zI P1.2.2.2])) (#[zI P1.1, zI P1.2.1, zI P1.2.2.1, zI P1.2.2.2]) ⟨rfl, rfl, rfl, trivial⟩ (hin := (by simp)) (hA := (by kernel_rfl)) fun w18 m18 => ?_
        refine wtb (fuel := 0) [16] he30 m18 [(11, .bool ((brR (f i) S true).isSome))] fun a31 he31 => ?_
        refine wpAnyH_done (by kernel_rfl) ?_ _
        exact ⟨b4, b5, he31.sb, m18.sb⟩
      case st1e001_22_1 =>
       refine sa he27 m14 ⟨rfl, rfl, rfl, trivial⟩ 5 56 (.agg #[.int .i64 0, .int .i64 0, .int .i64 0, .int .i64 0]) (#[zI 0, zI 0, zI 0, zI 0]) (fun _ => ⟨rfl, rfl, rfl, trivial⟩) fun a28 w15 b5 he28 m15 => ?_
       refine up1 (fuel := 7) 7 rfl ?st1e001_31_0
       case st1e001_31_0 =>
        refine sc he28 m15 (v := .tuple #[.agg (optA (brR (f i) S true)), .agg (#[zI P1.1, zI P1.2.1, zI P1.2.2.1, zI P1.2.2.2]), .bool ((brR (f i) S true).isSome)]) (hP1 _) fun a29 w16 he29 m16 => ?_
        refine wtb (fuel := 3) [8, 9, 10, 11] he29 m16 [(45, .bool ((brR (f i) S true).isSome)), (44, .agg (#[zI P1.1, zI P1.2.1, zI P1.2.2.1, zI P1.2.2.2])), (43, .agg (optA (brR (f i) S true))), (34, .tuple #[.agg (optA (brR (f i) S true)), .agg (#[zI P1.1, zI P1.2.1, zI P1.2.2.1, zI P1.2.2.2]), .bool ((brR (f i) S true).isSome)])] fun a30 he30 => ?_
        refine ts (fuel := 2) 14 rfl he30 m16 4 agg56.sz (0) (.agg (optA (brR (f i) S true))) (optA (brR (f i) S true)) ⟨rfl, rfl, rfl, trivial⟩ (hz := (optA.sz _)) (hc := (optA.one _)) (hA := (optA_ovw _ _ _ _ _)) fun w17 m17 => ?_
        refine ts (fuel := 1) 15 rfl he30 m17 5 agg56.sz (0) (.agg (#[zI P1.1, zI P1.2.1, zI P1.2.2.1, zI P1.2.2.2])) (#[zI P1.1, zI P1.2.1, zI P1.2.2.1, zI P1.2.2.2]) ⟨rfl, rfl, rfl, trivial⟩ (hin := (by simp)) (hA := (by kernel_rfl)) fun w18 m18 => ?_
        refine wtb (fuel := 0) [16] he30 m18 [(11, .bool ((brR (f i) S true).isSome))] fun a31 he31 => ?_
        refine wpAnyH_done (by kernel_rfl) ?_ _
        exact ⟨b4, b5, he31.sb, m18.sb⟩
     case st1e001_8_2 =>
      refine sa he26 m13 ⟨rfl, rfl, rfl, trivial⟩ 5 56 (.agg #[.int .i64 0, .int .i64 0, .int .i64 0, .int .i64 0]) (#[zI 0, zI 0, zI 0, zI 0]) (fun _ => ⟨rfl, rfl, rfl, trivial⟩) fun a27 w14 b5 he27 m14 => ?_
      refine up2 (fuel := 8) 7 12 rfl rfl ?st1e001_39_0 ?st1e001_39_1
      case st1e001_39_0 =>
       refine sc he27 m14 (v := .tuple #[.agg (optA (brR (f i) S true)), .agg (#[zI P1.1, zI P1.2.1, zI P1.2.2.1, zI P1.2.2.2]), .bool ((brR (f i) S true).isSome)]) (hP1 _) fun a28 w15 he28 m15 => ?_
       refine wtb (fuel := 4) [8, 9, 10, 11] he28 m15 [(45, .bool ((brR (f i) S true).isSome)), (44, .agg (#[zI P1.1, zI P1.2.1, zI P1.2.2.1, zI P1.2.2.2])), (43, .agg (optA (brR (f i) S true))), (34, .tuple #[.agg (optA (brR (f i) S true)), .agg (#[zI P1.1, zI P1.2.1, zI P1.2.2.1, zI P1.2.2.2]), .bool ((brR (f i) S true).isSome)])] fun a29 he29 => ?_
       refine up1 (fuel := 3) 12 rfl ?st1e001_44_0
       case st1e001_44_0 =>
        refine sa he29 m15 ⟨rfl, rfl, rfl, trivial⟩ 4 56 (.agg #[.int .i64 0, .int .i64 0, .int .i64 0, .int .i64 0]) (#[zI 0, zI 0, zI 0, zI 0]) (fun _ => ⟨rfl, rfl, rfl, trivial⟩) fun a30 w16 b4 he30 m16 => ?_
        refine ts (fuel := 2) 14 rfl he30 m16 4 agg56.sz (0) (.agg (optA (brR (f i) S true))) (optA (brR (f i) S true)) ⟨rfl, rfl, rfl, trivial⟩ (hz := (optA.sz _)) (hc := (optA.one _)) (hA := (optA_ovw _ _ _ _ _)) fun w17 m17 => ?_
        refine ts (fuel := 1) 15 rfl he30 m17 5 agg56.sz (0) (.agg (#[zI P1.1, zI P1.2.1, zI P1.2.2.1, zI P1.2.2.2])) (#[zI P1.1, zI P1.2.1, zI P1.2.2.1, zI P1.2.2.2]) ⟨rfl, rfl, rfl, trivial⟩ (hin := (by simp)) (hA := (by kernel_rfl)) fun w18 m18 => ?_
        refine wtb (fuel := 0) [16] he30 m18 [(11, .bool ((brR (f i) S true).isSome))] fun a31 he31 => ?_
        refine wpAnyH_done (by kernel_rfl) ?_ _
        exact ⟨b4, b5, he31.sb, m18.sb⟩
      case st1e001_39_1 =>
       refine sa he27 m14 ⟨rfl, rfl, rfl, trivial⟩ 4 56 (.agg #[.int .i64 0, .int .i64 0, .int .i64 0, .int .i64 0]) (#[zI 0, zI 0, zI 0, zI 0]) (fun _ => ⟨rfl, rfl, rfl, trivial⟩) fun a28 w15 b4 he28 m15 => ?_
       refine up1 (fuel := 7) 7 rfl ?st1e001_48_0
       case st1e001_48_0 =>
        refine sc he28 m15 (v := .tuple #[.agg (optA (brR (f i) S true)), .agg (#[zI P1.1, zI P1.2.1, zI P1.2.2.1, zI P1.2.2.2]), .bool ((brR (f i) S true).isSome)]) (hP1 _) fun a29 w16 he29 m16 => ?_
        refine wtb (fuel := 3) [8, 9, 10, 11] he29 m16 [(45, .bool ((brR (f i) S true).isSome)), (44, .agg (#[zI P1.1, zI P1.2.1, zI P1.2.2.1, zI P1.2.2.2])), (43, .agg (optA (brR (f i) S true))), (34, .tuple #[.agg (optA (brR (f i) S true)), .agg (#[zI P1.1, zI P1.2.1, zI P1.2.2.1, zI P1.2.2.2]), .bool ((brR (f i) S true).isSome)])] fun a30 he30 => ?_
        refine ts (fuel := 2) 14 rfl he30 m16 4 agg56.sz (0) (.agg (optA (brR (f i) S true))) (optA (brR (f i) S true)) ⟨rfl, rfl, rfl, trivial⟩ (hz := (optA.sz _)) (hc := (optA.one _)) (hA := (optA_ovw _ _ _ _ _)) fun w17 m17 => ?_
        refine ts (fuel := 1) 15 rfl he30 m17 5 agg56.sz (0) (.agg (#[zI P1.1, zI P1.2.1, zI P1.2.2.1, zI P1.2.2.2])) (#[zI P1.1, zI P1.2.1, zI P1.2.2.1, zI P1.2.2.2]) ⟨rfl, rfl, rfl, trivial⟩ (hin := (by simp)) (hA := (by kernel_rfl)) fun w18 m18 => ?_
        refine wtb (fuel := 0) [16] he30 m18 [(11, .bool ((brR (f i) S true).isSome))] fun a31 he31 => ?_
        refine wpAnyH_done (by kernel_rfl) ?_ _
        exact ⟨b4, b5, he31.sb, m18.sb⟩
    rintro a32 w20 ⟨b4, b5, he32, m20⟩
    refine then_normal (wp_seqR ?_)
    refine wb 1 he32 [(46, .bool ((brR (f i) S true).isSome))] fun a33 he33 => ?_
    cases hd3 : ((brR (f i) S true).isSome)
    ·
     have hb1 : brR (f i) S true = none := by simpa using hd3
     refine kv he33 (zT) (rn_un _ _ _ rfl _ (.bool (!(brR (f i) S true).isSome)) _ (he33.tmp 46 _ rfl) rfl (congrArg (fun q => Value.bool (!q)) hd3)) fun a34 he34 => ?_
     refine wl_end (wp_condT (he := he34) rfl (wp_exit (exit_then (exit_here (then_normal (wp_region_lit ?_))))))
     refine wr [1, 0] he34 m20 [(27, zN (i + 1)), (70, zN (i + 1))] [] (vn i 1 vl0) fun a35 w21 he35 m21 => ?_
     refine wpList_nil ?_
     exact ⟨n - (i + 1), by omega, Or.inl ⟨i + 1, S, cur, rfl, ⟨by omega, hS, hrw, tid_skip htd (by omega) hb1⟩, he35.sb, m21.sub _ ⟨rfl, trivial⟩⟩⟩
    ·
     obtain ⟨y1, hb1⟩ := Option.isSome_iff_exists.1 hd3
     refine kv he33 (zF) (rn_un _ _ _ rfl _ (.bool (!(brR (f i) S true).isSome)) _ (he33.tmp 46 _ rfl) rfl (congrArg (fun q => Value.bool (!q)) hd3)) fun a34 he34 => ?_
     refine wl_end (wp_condF (he := he34) rfl (wp_skip (then_normal (wp_seqR ?_))))
     refine wr [0, 4] he34 m20 [(49, .agg (Ru.arr (f i))), (48, .slice none 0 0)] [b2] vl0 fun a35 w21 he35 m21 => ?_
     refine kb he35 m21 6 23 1 30 ((cellsOf Ru.arr [f i]).toArray) (vs := #[(0, .agg (Ru.arr (f i)))]) (by kernel_rfl) fun a36 w22 b6 he36 m22 => ?_
     have rw6_0 : Rw ((cellsOf Ru.arr [f i]).toArray) 1 1 5 (cellsOf Ru.arr ([f i])) := Rw.lits Ru.sz [f i] (by simp [maxLen])
     refine kp0R he36 m22 90 6 el30 rw6_0 fun a37 w23 b90_37 cap90_37 cur90_37 he37 m23 rw90_37 => ?_
     refine wb 1 he37 [(5, zS b90_37 1 cap90_37)] fun a38 he38 => ?_
     refine wl_end (wp_seq ?_)
     refine rg_cut (fun az wz => ∃ (b7 : Nat), ∃ (b8 : Nat), EV az 72 [] [(0, .slice (some ⟨b, p, none⟩) (n) (c)), (2, .slice none 0 0), (15, .slice (some ⟨b, p, none⟩) (n) (c)), (16, .bool true), (17, .bool false), (3, .pointer (some ⟨b1, 0, none⟩)), (18, .int .i64 (((i0 : Nat) : Int))), (19, .bool false), (25, .slice (some ⟨b, p, none⟩) (n) (c)), (26, .int .i64 (((n : Nat) : Int))), (27, .int .i64 (((i : Nat) : Int))), (5, .slice (some ⟨b90_37, 0, none⟩) (1) (cap90_37)), (28, .bool true), (29, .pointer (some ⟨b, p + i * 5, none⟩)), (30, .agg (Ru.arr (f i))), (7, .pointer (some ⟨b2, 0, none⟩)), (31, .pointer (some ⟨b2, 2, none⟩)), (32, .int .i64 ((((f i).num.toNat : Nat) : Int))), (33, .agg (ivArr (((f i).num.toNat, (f i).num.toNat)))), (8, .pointer (some ⟨b3, 0, none⟩)), (35, .pointer (some ⟨b2, 1, none⟩)), (36, .int .i64 ((f i).op)), (37, .pointer (some ⟨b2, 0, none⟩)), (38, .int .i64 ((((f i).at_.toNat : Nat) : Int))), (39, .pointer (some ⟨b1, 0 + ((f i).at_.toNat) * 4, none⟩)), (40, .agg (ivArr (atS (S) (((f i).at_.toNat))))), (41, .agg (ivArr (((f i).num.toNat, (f i).num.toNat)))), (42, .tuple #[.agg (optA (brR (f i) S true)), .agg (#[zI P1.1, zI P1.2.1, zI P1.2.2.1, zI P1.2.2.2]), .bool ((brR (f i) S true).isSome)]), (34, .tuple #[.agg (optA (brR (f i) S true)), .agg (#[zI P1.1, zI P1.2.1, zI P1.2.2.1, zI P1.2.2.2]), .bool ((brR (f i) S true).isSome)]), (43, .agg (optA (brR (f i) S true))), (44, .agg (#[zI P1.1, zI P1.2.1, zI P1.2.2.1, zI P1.2.2.2])), (45, .bool ((brR (f i) S true).isSome)), (9, .pointer (some ⟨b4, 0, none⟩)), (10, .pointer (some ⟨b5, 0, none⟩)), (11, .bool ((brR (f i) S true).isSome)), (46, .bool ((brR (f i) S true).isSome)), (47, .bool false), (48, .slice none 0 0), (49, .agg (Ru.arr (f i))), (50, .slice (some ⟨b6, 0, none⟩) (1) (1)), (51, .slice (some ⟨b90_37, 0, none⟩) (1) (cap90_37)), (53, .pointer (some ⟨b2, 1, none⟩)), (54, .int .i64 ((f i).op)), (55, .pointer (some ⟨b2, 0, none⟩)), (56, .int .i64 ((((f i).at_.toNat : Nat) : Int))), (57, .pointer (some ⟨b1, 0 + ((f i).at_.toNat) * 4, none⟩)), (58, .agg (ivArr (atS (S) (((f i).at_.toNat))))), (59, .agg (ivArr (((f i).num.toNat, (f i).num.toNat)))), (60, .tuple #[.agg (optA (brR (f i) S false)), .agg (#[zI P2.1, zI P2.2.1, zI P2.2.2.1, zI P2.2.2.2]), .bool ((brR (f i) S false).isSome)]), (52, .tuple #[.agg (optA (brR (f i) S false)), .agg (#[zI P2.1, zI P2.2.1, zI P2.2.2.1, zI P2.2.2.2]), .bool ((brR (f i) S false).isSome)]), (61, .agg (optA (brR (f i) S false))), (62, .agg (#[zI P2.1, zI P2.2.1, zI P2.2.2.1, zI P2.2.2.2])), (63, .bool ((brR (f i) S false).isSome)), (12, .pointer (some ⟨b7, 0, none⟩)), (13, .pointer (some ⟨b8, 0, none⟩)), (14, .bool ((brR (f i) S false).isSome))] ∧ MM [] w wz [(1, ⟨true, b1, 57, cur⟩), (2, ⟨true, b2, 30, Ru.arr (f i)⟩), (3, ⟨true, b3, 56, ivArr (((f i).num.toNat, (f i).num.toNat))⟩), (4, ⟨true, b4, 56, optA (brR (f i) S true)⟩), (5, ⟨true, b5, 56, #[zI P1.1, zI P1.2.1, zI P1.2.2.1, zI P1.2.2.2]⟩), (6, ⟨true, b6, 30, (cellsOf Ru.arr [f i]).toArray⟩), (90, ⟨true, b90_37, 30, cur90_37⟩), (7, ⟨true, b7, 56, optA (brR (f i) S false)⟩), (8, ⟨true, b8, 56, #[zI P2.1, zI P2.2.1, zI P2.2.2.1, zI P2.2.2.2]⟩)]) ?tree2_0011 ?cont2_0011
     case tree2_0011 =>
      refine wh_begin (by kernel_rfl) m23 [(1, ⟨true, b1, 57, cur⟩), (2, ⟨true, b2, 30, Ru.arr (f i)⟩), (3, ⟨true, b3, 56, ivArr (((f i).num.toNat, (f i).num.toNat))⟩), (4, ⟨true, b4, 56, optA (brR (f i) S true)⟩), (5, ⟨true, b5, 56, #[zI P1.1, zI P1.2.1, zI P1.2.2.1, zI P1.2.2.2]⟩), (6, ⟨true, b6, 30, (cellsOf Ru.arr [f i]).toArray⟩), (90, ⟨true, b90_37, 30, cur90_37⟩)] ⟨rfl, rfl, rfl, rfl, rfl, rfl, rfl, trivial⟩ (fun w24 m24 => ?_)
      refine wtd (fuel := 14) [(0, 0), (1, 4), (2, 0)] he38 m24 [(55, zP b2 0), (54, zI ((f i).op)), (53, zP b2 1)] [b2] vl0 fun a39 he39 => ?_
      refine tl (fuel := 13) 3 rfl he39 m24 2 one3 (0) (zN ((f i).at_.toNat)) (hv := (Ru.g_at' _ hri)) fun a40 he40 => ?_
      refine tv (fuel := 12) 4 rfl he40 m24 (.pointer (some ⟨b1, 0 + ((f i).at_.toNat) * 4, none⟩)) (fun wS hmS => rn_indexA _ _ _ rfl _ _ (.pointer (some ⟨b1, 0 + ((f i).at_.toNat) * 4, none⟩)) (he40.tmp 3 _ rfl) (he40.tmp 56 _ rfl) (ixA 12 56 4 (by kernel_rfl) (fun w => by kernel_rfl) b1 0 ((f i).at_.toNat) (by omega) (by decide) _)) fun a41 he41 => ?_
      refine tlA (fuel := 11) 5 rfl he41 m24 1 agg56 (0 + ((f i).at_.toNat) * 4) (ivArr (atS (S) (((f i).at_.toNat)))) (hC := (hrw.ext ivArr.sz (hS.get hat) _ (by omega))) fun a42 he42 => ?_
      refine wtd (fuel := 10) [(6, 5)] he42 m24 [(59, .agg (ivArr (((f i).num.toNat, (f i).num.toNat))))] [b3] vl0 fun a43 he43 => ?_
      refine wpAnyH_ready (fuel := 9) (rs := [7, 12, 13]) ?hr2e0011_8 (by simp) (AllReadyH.cons (o := ?o2e0011_8_0) ?hi2e0011_8_0 ?st2e0011_8_0 (AllReadyH.cons (o := ?o2e0011_8_1) ?hi2e0011_8_1 ?st2e0011_8_1 (AllReadyH.cons (o := ?o2e0011_8_2) ?hi2e0011_8_2 ?st2e0011_8_2 AllReadyH.nil)))
      case hr2e0011_8 => kernel_rfl
      case hi2e0011_8_0 => rw [List.getElem?_toArray]; rfl
      case hi2e0011_8_1 => rw [List.getElem?_toArray]; rfl
      case hi2e0011_8_2 => rw [List.getElem?_toArray]; rfl
      case st2e0011_8_0 =>
       refine sc he43 m24 (v := .tuple #[.agg (optA (brR (f i) S false)), .agg (#[zI P2.1, zI P2.2.1, zI P2.2.2.1, zI P2.2.2.2]), .bool ((brR (f i) S false).isSome)]) (hP2 _) fun a44 w25 he44 m25 => ?_
       refine wtb (fuel := 5) [8, 9, 10, 11] he44 m25 [(63, .bool ((brR (f i) S false).isSome)), (62, .agg (#[zI P2.1, zI P2.2.1, zI P2.2.2.1, zI P2.2.2.2])), (61, .agg (optA (brR (f i) S false))), (52, .tuple #[.agg (optA (brR (f i) S false)), .agg (#[zI P2.1, zI P2.2.1, zI P2.2.2.1, zI P2.2.2.2]), .bool ((brR (f i) S false).isSome)])] fun a45 he45 => ?_
       refine up2 (fuel := 4) 12 13 rfl rfl ?st2e0011_13_0 ?st2e0011_13_1
       case st2e0011_13_0 =>
        refine sa he45 m25 ⟨rfl, rfl, rfl, rfl, rfl, rfl, rfl, trivial⟩ 7 56 (.agg #[.int .i64 0, .int .i64 0, .int .i64 0, .int .i64 0]) (#[zI 0, zI 0, zI 0, zI 0]) (fun _ => ⟨rfl, rfl, rfl, rfl, rfl, rfl, rfl, trivial⟩) fun a46 w26 b7 he46 m26 => ?_
        refine up1 (fuel := 3) 13 rfl ?st2e0011_14_0
        case st2e0011_14_0 =>
         refine sa he46 m26 ⟨rfl, rfl, rfl, rfl, rfl, rfl, rfl, trivial⟩ 8 56 (.agg #[.int .i64 0, .int .i64 0, .int .i64 0, .int .i64 0]) (#[zI 0, zI 0, zI 0, zI 0]) (fun _ => ⟨rfl, rfl, rfl, rfl, rfl, rfl, rfl, trivial⟩) fun a47 w27 b8 he47 m27 => ?_
         refine ts (fuel := 2) 14 rfl he47 m27 7 agg56.sz (0) (.agg (optA (brR (f i) S false))) (optA (brR (f i) S false)) ⟨rfl, rfl, rfl, rfl, rfl, rfl, rfl, trivial⟩ (hz := (optA.sz _)) (hc := (optA.one _)) (hA := (optA_ovw _ _ _ _ _)) fun w28 m28 => ?_
         refine ts (fuel := 1) 15 rfl he47 m28 8 agg56.sz (0) (.agg (#[zI P2.1, zI P2.2.1, zI P2.2.2.1, zI P2.2.2.2])) (#[zI P2.1, zI P2.2.1, zI P2.2.2.1, zI P2.2.2.2]) ⟨rfl, rfl, rfl, rfl, rfl, rfl, rfl, trivial⟩ (hin := (by simp)) (hA := (by kernel_rfl)) fun w29 m29 => ?_
         refine wtb (fuel := 0) [16] he47 m29 [(14, .bool ((brR (f i) S false).isSome))] fun a48 he48 => ?_
         refine wpAnyH_done (by kernel_rfl) ?_ _
         exact ⟨b7, b8, he48.sb, m29.sb⟩
       case st2e0011_13_1 =>
        refine sa he45 m25 ⟨rfl, rfl, rfl, rfl, rfl, rfl, rfl, trivial⟩ 8 56 (.agg #[.int .i64 0, .int .i64 0, .int .i64 0, .int .i64 0]) (#[zI 0, zI 0, zI 0, zI 0]) (fun _ => ⟨rfl, rfl, rfl, rfl, rfl, rfl, rfl, trivial⟩) fun a46 w26 b8 he46 m26 => ?_
        refine up1 (fuel := 3) 12 rfl ?st2e0011_18_0
        case st2e0011_18_0 =>
         refine sa he46 m26 ⟨rfl, rfl, rfl, rfl, rfl, rfl, rfl, trivial⟩ 7 56 (.agg #[.int .i64 0, .int .i64 0, .int .i64 0, .int .i64 0]) (#[zI 0, zI 0, zI 0, zI 0]) (fun _ => ⟨rfl, rfl, rfl, rfl, rfl, rfl, rfl, trivial⟩) fun a47 w27 b7 he47 m27 => ?_
         refine ts (fuel := 2) 14 rfl he47 m27 7 agg56.sz (0) (.agg (optA (brR (f i) S false))) (optA (brR (f i) S false)) ⟨rfl, rfl, rfl, rfl, rfl, rfl, rfl, trivial⟩ (hz := (optA.sz _)) (hc := (optA.one _)) (hA := (optA_ovw _ _ _ _ _)) fun w28 m28 => ?_
         refine ts (fuel := 1) 15 rfl he47 m28 8 agg56.sz (0) (.agg (#[zI P2.1, zI P2.2.1, zI P2.2.2.1, zI P2.2.2.2])) (#[zI P2.1, zI P2.2.1, zI P2.2.2.1, zI P2.2.2.2]) ⟨rfl, rfl, rfl, rfl, rfl, rfl, rfl, trivial⟩ (hin := (by simp)) (hA := (by kernel_rfl)) fun w29 m29 => ?_
         refine wtb (fuel := 0) [16] he47 m29 [(14, .bool ((brR (f i) S false).isSome))] fun a48 he48 => ?_
         refine wpAnyH_done (by kernel_rfl) ?_ _
         exact ⟨b7, b8, he48.sb, m29.sb⟩
      case st2e0011_8_1 =>
       refine sa he43 m24 ⟨rfl, rfl, rfl, rfl, rfl, rfl, rfl, trivial⟩ 7 56 (.agg #[.int .i64 0, .int .i64 0, .int .i64 0, .int .i64 0]) (#[zI 0, zI 0, zI 0, zI 0]) (fun _ => ⟨rfl, rfl, rfl, rfl, rfl, rfl, rfl, trivial⟩) fun a44 w25 b7 he44 m25 => ?_
       refine up2 (fuel := 8) 7 13 rfl rfl ?st2e0011_22_0 ?st2e0011_22_1
       case st2e0011_22_0 =>
        refine sc he44 m25 (v := .tuple #[.agg (optA (brR (f i) S false)), .agg (#[zI P2.1, zI P2.2.1, zI P2.2.2.1, zI P2.2.2.2]), .bool ((brR (f i) S false).isSome)]) (hP2 _) fun a45 w26 he45 m26 => ?_
        refine wtb (fuel := 4) [8, 9, 10, 11] he45 m26 [(63, .bool ((brR (f i) S false).isSome)), (62, .agg (#[zI P2.1, zI P2.2.1, zI P2.2.2.1, zI P2.2.2.2])), (61, .agg (optA (brR (f i) S false))), (52, .tuple #[.agg (optA (brR (f i) S false)), .agg (#[zI P2.1, zI P2.2.1, zI P2.2.2.1, zI P2.2.2.2]), .bool ((brR (f i) S false).isSome)])] fun a46 he46 => ?_
        refine up1 (fuel := 3) 13 rfl ?st2e0011_27_0
        case st2e0011_27_0 =>
         refine sa he46 m26 ⟨rfl, rfl, rfl, rfl, rfl, rfl, rfl, trivial⟩ 8 56 (.agg #[.int .i64 0, .int .i64 0, .int .i64 0, .int .i64 0]) (#[zI 0, zI 0, zI 0, zI 0]) (fun _ => ⟨rfl, rfl, rfl, rfl, rfl, rfl, rfl, trivial⟩) fun a47 w27 b8 he47 m27 => ?_
         refine ts (fuel := 2) 14 rfl he47 m27 7 agg56.sz (0) (.agg (optA (brR (f i) S false))) (optA (brR (f i) S false)) ⟨rfl, rfl, rfl, rfl, rfl, rfl, rfl, trivial⟩ (hz := (optA.sz _)) (hc := (optA.one _)) (hA := (optA_ovw _ _ _ _ _)) fun w28 m28 => ?_
         refine ts (fuel := 1) 15 rfl he47 m28 8 agg56.sz (0) (.agg (#[zI P2.1, zI P2.2.1, zI P2.2.2.1, zI P2.2.2.2])) (#[zI P2.1, zI P2.2.1, zI P2.2.2.1, zI P2.2.2.2]) ⟨rfl, rfl, rfl, rfl, rfl, rfl, rfl, trivial⟩ (hin := (by simp)) (hA := (by kernel_rfl)) fun w29 m29 => ?_
         refine wtb (fuel := 0) [16] he47 m29 [(14, .bool ((brR (f i) S false).isSome))] fun a48 he48 => ?_
         refine wpAnyH_done (by kernel_rfl) ?_ _
         exact ⟨b7, b8, he48.sb, m29.sb⟩
       case st2e0011_22_1 =>
        refine sa he44 m25 ⟨rfl, rfl, rfl, rfl, rfl, rfl, rfl, trivial⟩ 8 56 (.agg #[.int .i64 0, .int .i64 0, .int .i64 0, .int .i64 0]) (#[zI 0, zI 0, zI 0, zI 0]) (fun _ => ⟨rfl, rfl, rfl, rfl, rfl, rfl, rfl, trivial⟩) fun a45 w26 b8 he45 m26 => ?_
        refine up1 (fuel := 7) 7 rfl ?st2e0011_31_0
        case st2e0011_31_0 =>
         refine sc he45 m26 (v := .tuple #[.agg (optA (brR (f i) S false)), .agg (#[zI P2.1, zI P2.2.1, zI P2.2.2.1, zI P2.2.2.2]), .bool ((brR (f i) S false).isSome)]) (hP2 _) fun a46 w27 he46 m27 => ?_
         refine wtb (fuel := 3) [8, 9, 10, 11] he46 m27 [(63, .bool ((brR (f i) S false).isSome)), (62, .agg (#[zI P2.1, zI P2.2.1, zI P2.2.2.1, zI P2.2.2.2])), (61, .agg (optA (brR (f i) S false))), (52, .tuple #[.agg (optA (brR (f i) S false)), .agg (#[zI P2.1, zI P2.2.1, zI P2.2.2.1, zI P2.2.2.2]), .bool ((brR (f i) S false).isSome)])] fun a47 he47 => ?_
         refine ts (fuel := 2) 14 rfl he47 m27 7 agg56.sz (0) (.agg (optA (brR (f i) S false))) (optA (brR (f i) S false)) ⟨rfl, rfl, rfl, rfl, rfl, rfl, rfl, trivial⟩ (hz := (optA.sz _)) (hc := (optA.one _)) (hA := (optA_ovw _ _ _ _ _)) fun w28 m28 => ?_
         refine ts (fuel := 1) 15 rfl he47 m28 8 agg56.sz (0) (.agg (#[zI P2.1, zI P2.2.1, zI P2.2.2.1, zI P2.2.2.2])) (#[zI P2.1, zI P2.2.1, zI P2.2.2.1, zI P2.2.2.2]) ⟨rfl, rfl, rfl, rfl, rfl, rfl, rfl, trivial⟩ (hin := (by simp)) (hA := (by kernel_rfl)) fun w29 m29 => ?_
         refine wtb (fuel := 0) [16] he47 m29 [(14, .bool ((brR (f i) S false).isSome))] fun a48 he48 => ?_
         refine wpAnyH_done (by kernel_rfl) ?_ _
         exact ⟨b7, b8, he48.sb, m29.sb⟩
      case st2e0011_8_2 =>
       refine sa he43 m24 ⟨rfl, rfl, rfl, rfl, rfl, rfl, rfl, trivial⟩ 8 56 (.agg #[.int .i64 0, .int .i64 0, .int .i64 0, .int .i64 0]) (#[zI 0, zI 0, zI 0, zI 0]) (fun _ => ⟨rfl, rfl, rfl, rfl, rfl, rfl, rfl, trivial⟩) fun a44 w25 b8 he44 m25 => ?_
       refine up2 (fuel := 8) 7 12 rfl rfl ?st2e0011_39_0 ?st2e0011_39_1
       case st2e0011_39_0 =>
        refine sc he44 m25 (v := .tuple #[.agg (optA (brR (f i) S false)), .agg (#[zI P2.1, zI P2.2.1, zI P2.2.2.1, zI P2.2.2.2]), .bool ((brR (f i) S false).isSome)]) (hP2 _) fun a45 w26 he45 m26 => ?_
        refine wtb (fuel := 4) [8, 9, 10, 11] he45 m26 [(63, .bool ((brR (f i) S false).isSome)), (62, .agg (#[zI P2.1, zI P2.2.1, zI P2.2.2.1, zI P2.2.2.2])), (61, .agg (optA (brR (f i) S false))), (52, .tuple #[.agg (optA (brR (f i) S false)), .agg (#[zI P2.1, zI P2.2.1, zI P2.2.2.1, zI P2.2.2.2]), .bool ((brR (f i) S false).isSome)])] fun a46 he46 => ?_
        refine up1 (fuel := 3) 12 rfl ?st2e0011_44_0
        case st2e0011_44_0 =>
         refine sa he46 m26 ⟨rfl, rfl, rfl, rfl, rfl, rfl, rfl, trivial⟩ 7 56 (.agg #[.int .i64 0, .int .i64 0, .int .i64 0, .int .i64 0]) (#[zI 0, zI 0, zI 0, zI 0]) (fun _ => ⟨rfl, rfl, rfl, rfl, rfl, rfl, rfl, trivial⟩) fun a47 w27 b7 he47 m27 => ?_
         refine ts (fuel := 2) 14 rfl he47 m27 7 agg56.sz (0) (.agg (optA (brR (f i) S false))) (optA (brR (f i) S false)) ⟨rfl, rfl, rfl, rfl, rfl, rfl, rfl, trivial⟩ (hz := (optA.sz _)) (hc := (optA.one _)) (hA := (optA_ovw _ _ _ _ _)) fun w28 m28 => ?_
         refine ts (fuel := 1) 15 rfl he47 m28 8 agg56.sz (0) (.agg (#[zI P2.1, zI P2.2.1, zI P2.2.2.1, zI P2.2.2.2])) (#[zI P2.1, zI P2.2.1, zI P2.2.2.1, zI P2.2.2.2]) ⟨rfl, rfl, rfl, rfl, rfl, rfl, rfl, trivial⟩ (hin := (by simp)) (hA := (by kernel_rfl)) fun w29 m29 => ?_
         refine wtb (fuel := 0) [16] he47 m29 [(14, .bool ((brR (f i) S false).isSome))] fun a48 he48 => ?_
         refine wpAnyH_done (by kernel_rfl) ?_ _
         exact ⟨b7, b8, he48.sb, m29.sb⟩
       case st2e0011_39_1 =>
        refine sa he44 m25 ⟨rfl, rfl, rfl, rfl, rfl, rfl, rfl, trivial⟩ 7 56 (.agg #[.int .i64 0, .int .i64 0, .int .i64 0, .int .i64 0]) (#[zI 0, zI 0, zI 0, zI 0]) (fun _ => ⟨rfl, rfl, rfl, rfl, rfl, rfl, rfl, trivial⟩) fun a45 w26 b7 he45 m26 => ?_
        refine up1 (fuel := 7) 7 rfl ?st2e0011_48_0
        case st2e0011_48_0 =>
         refine sc he45 m26 (v := .tuple #[.agg (optA (brR (f i) S false)), .agg (#[zI P2.1, zI P2.2.1, zI P2.2.2.1, zI P2.2.2.2]), .bool ((brR (f i) S false).isSome)]) (hP2 _) fun a46 w27 he46 m27 => ?_
         refine wtb (fuel := 3) [8, 9, 10, 11] he46 m27 [(63, .bool ((brR (f i) S false).isSome)), (62, .agg (#[zI P2.1, zI P2.2.1, zI P2.2.2.1, zI P2.2.2.2])), (61, .agg (optA (brR (f i) S false))), (52, .tuple #[.agg (optA (brR (f i) S false)), .agg (#[zI P2.1, zI P2.2.1, zI P2.2.2.1, zI P2.2.2.2]), .bool ((brR (f i) S false).isSome)])] fun a47 he47 => ?_
         refine ts (fuel := 2) 14 rfl he47 m27 7 agg56.sz (0) (.agg (optA (brR (f i) S false))) (optA (brR (f i) S false)) ⟨rfl, rfl, rfl, rfl, rfl, rfl, rfl, trivial⟩ (hz := (optA.sz _)) (hc := (optA.one _)) (hA := (optA_ovw _ _ _ _ _)) fun w28 m28 => ?_
         refine ts (fuel := 1) 15 rfl he47 m28 8 agg56.sz (0) (.agg (#[zI P2.1, zI P2.2.1, zI P2.2.2.1, zI P2.2.2.2])) (#[zI P2.1, zI P2.2.1, zI P2.2.2.1, zI P2.2.2.2]) ⟨rfl, rfl, rfl, rfl, rfl, rfl, rfl, trivial⟩ (hin := (by simp)) (hA := (by kernel_rfl)) fun w29 m29 => ?_
         refine wtb (fuel := 0) [16] he47 m29 [(14, .bool ((brR (f i) S false).isSome))] fun a48 he48 => ?_
         refine wpAnyH_done (by kernel_rfl) ?_ _
         exact ⟨b7, b8, he48.sb, m29.sb⟩
     rintro a49 w31 ⟨b7, b8, he49, m31⟩
     refine then_normal (wp_seq (wp_seqR ?_))
     refine wb 1 he49 [(64, .bool ((brR (f i) S false).isSome))] fun a50 he50 => ?_
     cases hd4 : ((brR (f i) S false).isSome)
     ·
      have hb2 : brR (f i) S false = none := by simpa using hd4
      refine kv he50 (zT) (rn_un _ _ _ rfl _ (.bool (!(brR (f i) S false).isSome)) _ (he50.tmp 64 _ rfl) rfl (congrArg (fun q => Value.bool (!q)) hd4)) fun a51 he51 => ?_
      refine wl_end (wp_condT (he := he51) rfl (wp_exit (exit_then (exit_out (by decide) (exit_then (exit_then (exit_here (then_normal (wp_seqR ?_)))))))))
      refine wb 2 he51 [(2, zS b90_37 1 cap90_37), (71, zS b90_37 1 cap90_37)] fun a52 he52 => ?_
      refine wl_end (wp_ret ?_)
      have htm : tidM f n = [f i] := tid_last htd (by omega) hb1 hb2
      have hN : 1 = (tidM f n).length := by rw [htm]; simp 
      have hL : cellsOf Ru.arr ([f i]) = cellsOf Ru.arr (tidM f n) := by rw [htm]
      exact bodyPost_ret (results_tmp he52 _ Try.results10 (.slice (some ⟨b90_37, 0, none⟩) (1) (cap90_37)) rfl) he52.defers (Or.inr ⟨by rw [htm]; intro h0; have := congrArg List.length h0; simp at this, ⟨(cap90_37, cur90_37), _, congrArg (fun k => Ending.returned (.slice (some ⟨b90_37, 0, none⟩) k (cap90_37))) hN, m31.bx 90 _ _ _ _ rfl, rw90_37.cast hN hL, by have := m31.own 90 _ rfl rfl; simpa using this, m31.below⟩⟩)
     ·
      obtain ⟨y2, hb2⟩ := Option.isSome_iff_exists.1 hd4
      refine kv he50 (zF) (rn_un _ _ _ rfl _ (.bool (!(brR (f i) S false).isSome)) _ (he50.tmp 64 _ rfl) rfl (congrArg (fun q => Value.bool (!q)) hd4)) fun a51 he51 => ?_
      refine wl_end (wp_condF (he := he51) rfl (wp_skip (then_normal (wp_region_lit ?_))))
      refine wr [0] he51 m31 [(66, zP b2 0)] [] vl0 fun a52 w32 he52 m32 => ?_
      refine kl he52 m32 2 one3 (0) (.int .i64 ((((f i).at_.toNat : Nat) : Int))) (hv := (Ru.g_at' _ hri)) fun a53 he53 => ?_
      refine klA he53 m32 7 agg56 (0) (optA (brR (f i) S false)) (hC := (optA_ext _)) (hz := (optA.sz _)) fun a54 he54 => ?_
      refine kv he54 (.pointer (some ⟨b1, 0 + ((f i).at_.toNat) * 4, none⟩)) (rn_indexA _ _ _ rfl _ _ (.pointer (some ⟨b1, 0 + ((f i).at_.toNat) * 4, none⟩)) (he54.tmp 3 _ rfl) (he54.tmp 67 _ rfl) (ixA 12 56 4 (by kernel_rfl) (fun w => by kernel_rfl) b1 0 ((f i).at_.toNat) (by omega) (by decide) _)) fun a55 he55 => ?_
      obtain ⟨q1, hq1⟩ : ∃ q1 : Array Value, q1 = ovw (cur) (0 + ((f i).at_.toNat) * 4) (optA (brR (f i) S false)).toList := ⟨_, rfl⟩
      have rq1 : Rw q1 12 12 4 (cellsOf ivArr ((S).set (((f i).at_.toNat)) (y2))) := by rw [hq1, hb2]; exact hrw.set ivArr.sz (by rw [hS.len]; omega) _ _ (by omega)
      have fq1 := hrw.fit'
      refine ks he55 m32 1 agg56.sz (0 + ((f i).at_.toNat) * 4) (.agg (optA (brR (f i) S false))) (q1) (hz := (optA.sz _)) (hc := (optA.one _)) (hA := hq1.symm) fun w33 m33 => ?_
      refine wpList_nil (in_normal (then_normal (wp_region_lit ?_)))
      refine wr [1, 0] he55 m33 [(27, zN (i + 1)), (70, zN (i + 1))] [] (vn i 1 vl0) fun a56 w34 he56 m34 => ?_
      refine wpList_nil ?_
      exact ⟨n - (i + 1), by omega, Or.inr ⟨i + 1, S.set (f i).at_.toNat y2, q1, [f i], 1, b90_37, cap90_37, cur90_37, rfl, ⟨by omega, (hS.set hb2), rq1, tid_keep htd (by omega) hb1 hb2, by simp [], by omega, by omega, rw90_37⟩, he56.sb, m34.sb⟩⟩
  ·
   obtain ⟨hra, hS, hrw, htd, hon, hon1, honi, horw⟩ := hrel2
   refine wp_seqR ?_
   cases hd2 : (decide (((i : Nat) : Int) < ((n : Nat) : Int)))
   ·
    have hd2p := of_decide_eq_false hd2
    refine wr [1] he13 m5 [(28, zF)] [] (vb (hd2) vl0) fun a14 w6 he14 m6 => ?_
    refine wl_end (wp_seq (wp_condF (he := he14) rfl (wp_exit (exit_then (exit_then (exit_here (then_normal (wp_seqR ?_))))))))
    refine wb 2 he14 [(2, zS ob on oc), (71, zS ob on oc)] fun a15 he15 => ?_
    refine wl_end (wp_ret ?_)
    have htm : tidM f n = o := tid_end htd (by omega)
    have hN : on = (tidM f n).length := by rw [htm]; simp [hon]
    have hL : cellsOf Ru.arr (o) = cellsOf Ru.arr (tidM f n) := by rw [htm]
    exact bodyPost_ret (results_tmp he15 _ Try.results10 (.slice (some ⟨ob, 0, none⟩) (on) (oc)) rfl) he15.defers (Or.inr ⟨by rw [htm]; intro h0; have := congrArg List.length h0; simp at this; subst this; simp at hon; omega, ⟨(oc, oa), _, congrArg (fun k => Ending.returned (.slice (some ⟨ob, 0, none⟩) k (oc))) hN, m6.bx 90 _ _ _ _ rfl, horw.cast hN hL, by have := m6.own 90 _ rfl rfl; simpa using this, m6.below⟩⟩)
   ·
    have hd2p := of_decide_eq_true hd2
    have hri := hall i (by omega)
    have hat := at_lt12 hri
    obtain ⟨P1, hP1⟩ := c_Br hri hS true
    obtain ⟨P2, hP2⟩ := c_Br hri hS false
    refine wr [1] he13 m5 [(28, zT)] [] (vb (hd2) vl0) fun a14 w6 he14 m6 => ?_
    refine wl_end (wp_seq (wp_condT (he := he14) rfl (wp_skip (then_normal (wp_seq (wp_block (wp_seqR ?_)))))))
    refine kv he14 (.pointer (some ⟨b, p + i * 5, none⟩)) (rn_indexA _ _ _ rfl _ _ (.pointer (some ⟨b, p + i * 5, none⟩)) (he14.tmp 25 _ rfl) (he14.tmp 27 _ rfl) (ixS 30 5 (by kernel_rfl) (fun w => by kernel_rfl) (b) (p) (n) (c) (i) (by omega) _)) fun a15 he15 => ?_
    refine krA he15 m6 agg30 hR (i) fun a16 he16 => ?_
    refine ka he16 m6 2 30 (.agg #[.int .i64 0, .int .i64 0, .int .i64 0, .int .i64 0, .int .i64 0]) (#[zI 0, zI 0, zI 0, zI 0, zI 0]) fun a17 w7 b2 he17 m7 => ?_
    refine ks he17 m7 2 agg30.sz (0) (.agg (Ru.arr (f i))) (Ru.arr (f i)) (hc := (Ru.one _)) (hA := (by kernel_rfl)) fun w8 m8 => ?_
    refine wl_end (wp_seqR ?_)
    refine wr [0] he17 m8 [(31, zP b2 2)] [] vl0 fun a18 w9 he18 m9 => ?_
    refine kl he18 m9 2 one3 (2) (.int .i64 ((((f i).num.toNat : Nat) : Int))) (hv := (Ru.g_num' _ hri)) fun a19 he19 => ?_
    refine kc he19 m9 (v := .agg (ivArr (((f i).num.toNat, (f i).num.toNat)))) (c_One _ _ (num_le hri)) fun a20 w10 he20 m10 => ?_
    refine ka he20 m10 3 56 (.agg #[.int .i64 0, .int .i64 0, .int .i64 0, .int .i64 0]) (#[zI 0, zI 0, zI 0, zI 0]) fun a21 w11 b3 he21 m11 => ?_
    refine ks he21 m11 3 agg56.sz (0) (.agg (ivArr (((f i).num.toNat, (f i).num.toNat)))) (ivArr (((f i).num.toNat, (f i).num.toNat))) (hc := (ivArr.one _)) (hA := (by kernel_rfl)) fun w12 m12 => ?_
    refine wl_end (wp_seq (wp_seq ?_))
    refine rg_cut (fun az wz => ∃ (b4 : Nat), ∃ (b5 : Nat), EV az 72 [] [(0, .slice (some ⟨b, p, none⟩) (n) (c)), (2, .slice none 0 0), (15, .slice (some ⟨b, p, none⟩) (n) (c)), (16, .bool true), (17, .bool false), (3, .pointer (some ⟨b1, 0, none⟩)), (18, .int .i64 (((i0 : Nat) : Int))), (19, .bool false), (25, .slice (some ⟨b, p, none⟩) (n) (c)), (26, .int .i64 (((n : Nat) : Int))), (27, .int .i64 (((i : Nat) : Int))), (5, .slice (some ⟨ob, 0, none⟩) (on) (oc)), (28, .bool true), (29, .pointer (some ⟨b, p + i * 5, none⟩)), (30, .agg (Ru.arr (f i))), (7, .pointer (some ⟨b2, 0, none⟩)), (31, .pointer (some ⟨b2, 2, none⟩)), (32, .int .i64 ((((f i).num.toNat : Nat) : Int))), (33, .agg (ivArr (((f i).num.toNat, (f i).num.toNat)))), (8, .pointer (some ⟨b3, 0, none⟩)), (35, .pointer (some ⟨b2, 1, none⟩)), (36, .int .i64 ((f i).op)), (37, .pointer (some ⟨b2, 0, none⟩)), (38, .int .i64 ((((f i).at_.toNat : Nat) : Int))), (39, .pointer (some ⟨b1, 0 + ((f i).at_.toNat) * 4, none⟩)), (40, .agg (ivArr (atS (S) (((f i).at_.toNat))))), (41, .agg (ivArr (((f i).num.toNat, (f i).num.toNat)))), (42, .tuple #[.agg (optA (brR (f i) S true)), .agg (#[zI P1.1, zI P1.2.1, zI P1.2.2.1, zI P1.2.2.2]), .bool ((brR (f i) S true).isSome)]), (34, .tuple #[.agg (optA (brR (f i) S true)), .agg (#[zI P1.1, zI P1.2.1, zI P1.2.2.1, zI P1.2.2.2]), .bool ((brR (f i) S true).isSome)]), (43, .agg (optA (brR (f i) S true))), (44, .agg (#[zI P1.1, zI P1.2.1, zI P1.2.2.1, zI P1.2.2.2])), (45, .bool ((brR (f i) S true).isSome)), (9, .pointer (some ⟨b4, 0, none⟩)), (10, .pointer (some ⟨b5, 0, none⟩)), (11, .bool ((brR (f i) S true).isSome))] ∧ MM [] w wz [(1, ⟨true, b1, 57, cur⟩), (90, ⟨true, ob, 30, oa⟩), (2, ⟨true, b2, 30, Ru.arr (f i)⟩), (3, ⟨true, b3, 56, ivArr (((f i).num.toNat, (f i).num.toNat))⟩), (4, ⟨true, b4, 56, optA (brR (f i) S true)⟩), (5, ⟨true, b5, 56, #[zI P1.1, zI P1.2.1, zI P1.2.2.1, zI P1.2.2.2]⟩)]) ?tree1_011 ?cont1_011
    case tree1_011 =>
     refine wh_begin (by kernel_rfl) m12 [(1, ⟨true, b1, 57, cur⟩), (90, ⟨true, ob, 30, oa⟩), (2, ⟨true, b2, 30, Ru.arr (f i)⟩), (3, ⟨true, b3, 56, ivArr (((f i).num.toNat, (f i).num.toNat))⟩)] ⟨rfl, rfl, rfl, rfl, trivial⟩ (fun w13 m13 => ?_)
     refine wtd (fuel := 14) [(0, 0), (1, 4), (2, 0)] he21 m13 [(37, zP b2 0), (36, zI ((f i).op)), (35, zP b2 1)] [b2] vl0 fun a22 he22 => ?_
     refine tl (fuel := 13) 3 rfl he22 m13 2 one3 (0) (zN ((f i).at_.toNat)) (hv := (Ru.g_at' _ hri)) fun a23 he23 => ?_
     refine tv (fuel := 12) 4 rfl he23 m13 (.pointer (some ⟨b1, 0 + ((f i).at_.toNat) * 4, none⟩)) (fun wS hmS => rn_indexA _ _ _ rfl _ _ (.pointer (some ⟨b1, 0 + ((f i).at_.toNat) * 4, none⟩)) (he23.tmp 3 _ rfl) (he23.tmp 38 _ rfl) (ixA 12 56 4 (by kernel_rfl) (fun w => by kernel_rfl) b1 0 ((f i).at_.toNat) (by omega) (by decide) _)) fun a24 he24 => ?_
     refine tlA (fuel := 11) 5 rfl he24 m13 1 agg56 (0 + ((f i).at_.toNat) * 4) (ivArr (atS (S) (((f i).at_.toNat)))) (hC := (hrw.ext ivArr.sz (hS.get hat) _ (by omega))) fun a25 he25 => ?_
     refine wtd (fuel := 10) [(6, 5)] he25 m13 [(41, .agg (ivArr (((f i).num.toNat, (f i).num.toNat))))] [b3] vl0 fun a26 he26 => ?_
     refine wpAnyH_ready (fuel := 9) (rs := [7, 12, 13]) ?hr1e011_8 (by simp) (AllReadyH.cons (o := ?o1e011_8_0) ?hi1e011_8_0 ?st1e011_8_0 (AllReadyH.cons (o := ?o1e011_8_1) ?hi1e011_8_1 ?st1e011_8_1 (AllReadyH.cons (o := ?o1e011_8_2) ?hi1e011_8_2 ?st1e011_8_2 AllReadyH.nil)))
     case hr1e011_8 => kernel_rfl
     case hi1e011_8_0 => rw [List.getElem?_toArray]; rfl
     case hi1e011_8_1 => rw [List.getElem?_toArray]; rfl
     case hi1e011_8_2 => rw [List.getElem?_toArray]; rfl
     case st1e011_8_0 =>
      refine sc he26 m13 (v := .tuple #[.agg (optA (brR (f i) S true)), .agg (#[zI P1.1, zI P1.2.1, zI P1.2.2.1, zI P1.2.2.2]), .bool ((brR (f i) S true).isSome)]) (hP1 _) fun a27 w14 he27 m14 => ?_
      refine wtb (fuel := 5) [8, 9, 10, 11] he27 m14 [(45, .bool ((brR (f i) S true).isSome)), (44, .agg (#[zI P1.1, zI P1.2.1, zI P1.2.2.1, zI P1.2.2.2])), (43, .agg (optA (brR (f i) S true))), (34, .tuple #[.agg (optA (brR (f i) S true)), .agg (#[zI P1.1, zI P1.2.1, zI P1.2.2.1, zI P1.2.2.2]), .bool ((brR (f i) S true).isSome)])] fun a28 he28 => ?_
      refine up2 (fuel := 4) 12 13 rfl rfl ?st1e011_13_0 ?st1e011_13_1
      case st1e011_13_0 =>
       refine sa he28 m14 ⟨rfl, rfl, rfl, rfl, trivial⟩ 4 56 (.agg #[.int .i64 0, .int .i64 0, .int .i64 0, .int .i64 0]) (#[zI 0, zI 0, zI 0, zI 0]) (fun _ => ⟨rfl, rfl, rfl, rfl, trivial⟩) fun a29 w15 b4 he29 m15 => ?_
       refine up1 (fuel := 3) 13 rfl ?st1e011_14_0
       case st1e011_14_0 =>
        refine sa he29 m15 ⟨rfl, rfl, rfl, rfl, trivial⟩ 5 56 (.agg #[.int .i64 0, .int .i64 0, .int .i64 0, .int .i64 0]) (#[zI 0, zI 0, zI 0, zI 0]) (fun _ => ⟨rfl, rfl, rfl, rfl, trivial⟩) fun a30 w16 b5 he30 m16 => ?_
        refine ts (fuel := 2) 14 rfl he30 m16 4 agg56.sz (0) (.agg (optA (brR (f i) S true))) (optA (brR (f i) S true)) ⟨rfl, rfl, rfl, rfl, trivial⟩ (hz := (optA.sz _)) (hc := (optA.one _)) (hA := (optA_ovw _ _ _ _ _)) fun w17 m17 => ?_
        refine ts (fuel := 1) 15 rfl he30 m17 5 agg56.sz (0) (.agg (#[zI P1.1, zI P1.2.1, zI P1.2.2.1, zI P1.2.2.2])) (#[zI P1.1, zI P1.2.1, zI P1.2.2.1, zI P1.2.2.2]) ⟨rfl, rfl, rfl, rfl, trivial⟩ (hin := (by simp)) (hA := (by kernel_rfl)) fun w18 m18 => ?_
        refine wtb (fuel := 0) [16] he30 m18 [(11, .bool ((brR (f i) S true).isSome))] fun a31 he31 => ?_
        refine wpAnyH_done (by kernel_rfl) ?_ _
        exact ⟨b4, b5, he31.sb, m18.sb⟩
      case st1e011_13_1 =>
       refine sa he28 m14 ⟨rfl, rfl, rfl, rfl, trivial⟩ 5 56 (.agg #[.int .i64 0, .int .i64 0, .int .i64 0, .int .i64 0]) (#[zI 0, zI 0, zI 0, zI 0]) (fun _ => ⟨rfl, rfl, rfl, rfl, trivial⟩) fun a29 w15 b5 he29 m15 => ?_
       refine up1 (fuel := 3) 12 rfl ?st1e011_18_0
       case st1e011_18_0 =>
        refine sa he29 m15 ⟨rfl, rfl, rfl, rfl, trivial⟩ 4 56 (.agg #[.int .i64 0, .int .i64 0, .int .i64 0, .int .i64 0]) (#[zI 0, zI 0, zI 0, zI 0]) (fun _ => ⟨rfl, rfl, rfl, rfl, trivial⟩) fun a30 w16 b4 he30 m16 => ?_
        refine ts (fuel := 2) 14 rfl he30 m16 4 agg56.sz (0) (.agg (optA (brR (f i) S true))) (optA (brR (f i) S true)) ⟨rfl, rfl, rfl, rfl, trivial⟩ (hz := (optA.sz _)) (hc := (optA.one _)) (hA := (optA_ovw _ _ _ _ _)) fun w17 m17 => ?_
        refine ts (fuel := 1) 15 rfl he30 m17 5 agg56.sz (0) (.agg (#[zI P1.1, zI P1.2.1, zI P1.2.2.1, zI P1.2.2.2])) (#[zI P1.1, zI P1.2.1, zI P1.2.2.1, zI P1.2.2.2]) ⟨rfl, rfl, rfl, rfl, trivial⟩ (hin := (by simp)) (hA := (by kernel_rfl)) fun w18 m18 => ?_
        refine wtb (fuel := 0) [16] he30 m18 [(11, .bool ((brR (f i) S true).isSome))] fun a31 he31 => ?_
        refine wpAnyH_done (by kernel_rfl) ?_ _
        exact ⟨b4, b5, he31.sb, m18.sb⟩
     case st1e011_8_1 =>
      refine sa he26 m13 ⟨rfl, rfl, rfl, rfl, trivial⟩ 4 56 (.agg #[.int .i64 0, .int .i64 0, .int .i64 0, .int .i64 0]) (#[zI 0, zI 0, zI 0, zI 0]) (fun _ => ⟨rfl, rfl, rfl, rfl, trivial⟩) fun a27 w14 b4 he27 m14 => ?_
      refine up2 (fuel := 8) 7 13 rfl rfl ?st1e011_22_0 ?st1e011_22_1
      case st1e011_22_0 =>
       refine sc he27 m14 (v := .tuple #[.agg (optA (brR (f i) S true)), .agg (#[zI P1.1, zI P1.2.1, zI P1.2.2.1, zI P1.2.2.2]), .bool ((brR (f i) S true).isSome)]) (hP1 _) fun a28 w15 he28 m15 => ?_
       refine wtb (fuel := 4) [8, 9, 10, 11] he28 m15 [(45, .bool ((brR (f i) S true).isSome)), (44, .agg (#[zI P1.1, zI P1.2.1, zI P1.2.2.1, zI P1.2.2.2])), (43, .agg (optA (brR (f i) S true))), (34, .tuple #[.agg (optA (brR (f i) S true)), .agg (#[zI P1.1, zI P1.2.1, zI P1.2.2.1, zI P1.2.2.2]), .bool ((brR (f i) S true).isSome)])] fun a29 he29 => ?_
       refine up1 (fuel := 3) 13 rfl ?st1e011_27_0
       case st1e011_27_0 =>
        refine sa he29 m15 ⟨rfl, rfl, rfl, rfl, trivial⟩ 5 56 (.agg #[.int .i64 0, .int .i64 0, .int .i64 0, .int .i64 0]) (#[zI 0, zI 0, zI 0, zI 0]) (fun _ => ⟨rfl, rfl, rfl, rfl, trivial⟩) fun a30 w16 b5 he30 m16 => ?_
        refine ts (fuel := 2) 14 rfl he30 m16 4 agg56.sz (0) (.agg (optA (brR (f i) S true))) (optA (brR (f i) S true)) ⟨rfl, rfl, rfl, rfl, trivial⟩ (hz := (optA.sz _)) (hc := (optA.one _)) (hA := (optA_ovw _ _ _ _ _)) fun w17 m17 => ?_
        refine ts (fuel := 1) 15 rfl he30 m17 5 agg56.sz (0) (.agg (#[zI P1.1, zI P1.2.1, zI P1.2.2.1, zI P1.2.2.2])) (#[zI P1.1, zI P1.2.1, zI P1.2.2.1, zI P1.2.2.2]) ⟨rfl, rfl, rfl, rfl, trivial⟩ (hin := (by simp)) (hA := (by kernel_rfl)) fun w18 m18 => ?_
        refine wtb (fuel := 0) [16] he30 m18 [(11, .bool ((brR (f i) S true).isSome))] fun a31 he31 => ?_
        refine wpAnyH_done (by kernel_rfl) ?_ _
        exact ⟨b4, b5, he31.sb, m18.sb⟩
      case st1e011_22_1 =>
       refine sa he27 m14 ⟨rfl, rfl, rfl, rfl, trivial⟩ 5 56 (.agg #[.int .i64 0, .int .i64 0, .int .i64 0, .int .i64 0]) (#[zI 0, zI 0, zI 0, zI 0]) (fun _ => ⟨rfl, rfl, rfl, rfl, trivial⟩) fun a28 w15 b5 he28 m15 => ?_
       refine up1 (fuel := 7) 7 rfl ?st1e011_31_0
       case st1e011_31_0 =>
        refine sc he28 m15 (v := .tuple #[.agg (optA (brR (f i) S true)), .agg (#[zI P1.1, zI P1.2.1, zI P1.2.2.1, zI P1.2.2.2]), .bool ((brR (f i) S true).isSome)]) (hP1 _) fun a29 w16 he29 m16 => ?_
        refine wtb (fuel := 3) [8, 9, 10, 11] he29 m16 [(45, .bool ((brR (f i) S true).isSome)), (44, .agg (#[zI P1.1, zI P1.2.1, zI P1.2.2.1, zI P1.2.2.2])), (43, .agg (optA (brR (f i) S true))), (34, .tuple #[.agg (optA (brR (f i) S true)), .agg (#[zI P1.1, zI P1.2.1, zI P1.2.2.1, zI P1.2.2.2]), .bool ((brR (f i) S true).isSome)])] fun a30 he30 => ?_
        refine ts (fuel := 2) 14 rfl he30 m16 4 agg56.sz (0) (.agg (optA (brR (f i) S true))) (optA (brR (f i) S true)) ⟨rfl, rfl, rfl, rfl, trivial⟩ (hz := (optA.sz _)) (hc := (optA.one _)) (hA := (optA_ovw _ _ _ _ _)) fun w17 m17 => ?_
        refine ts (fuel := 1) 15 rfl he30 m17 5 agg56.sz (0) (.agg (#[zI P1.1, zI P1.2.1, zI P1.2.2.1, zI P1.2.2.2])) (#[zI P1.1, zI P1.2.1, zI P1.2.2.1, zI P1.2.2.2]) ⟨rfl, rfl, rfl, rfl, trivial⟩ (hin := (by simp)) (hA := (by kernel_rfl)) fun w18 m18 => ?_
        refine wtb (fuel := 0) [16] he30 m18 [(11, .bool ((brR (f i) S true).isSome))] fun a31 he31 => ?_
        refine wpAnyH_done (by kernel_rfl) ?_ _
        exact ⟨b4, b5, he31.sb, m18.sb⟩
     case st1e011_8_2 =>
      refine sa he26 m13 ⟨rfl, rfl, rfl, rfl, trivial⟩ 5 56 (.agg #[.int .i64 0, .int .i64 0, .int .i64 0, .int .i64 0]) (#[zI 0, zI 0, zI 0, zI 0]) (fun _ => ⟨rfl, rfl, rfl, rfl, trivial⟩) fun a27 w14 b5 he27 m14 => ?_
      refine up2 (fuel := 8) 7 12 rfl rfl ?st1e011_39_0 ?st1e011_39_1
      case st1e011_39_0 =>
       refine sc he27 m14 (v := .tuple #[.agg (optA (brR (f i) S true)), .agg (#[zI P1.1, zI P1.2.1, zI P1.2.2.1, zI P1.2.2.2]), .bool ((brR (f i) S true).isSome)]) (hP1 _) fun a28 w15 he28 m15 => ?_
       refine wtb (fuel := 4) [8, 9, 10, 11] he28 m15 [(45, .bool ((brR (f i) S true).isSome)), (44, .agg (#[zI P1.1, zI P1.2.1, zI P1.2.2.1, zI P1.2.2.2])), (43, .agg (optA (brR (f i) S true))), (34, .tuple #[.agg (optA (brR (f i) S true)), .agg (#[zI P1.1, zI P1.2.1, zI P1.2.2.1, zI P1.2.2.2]), .bool ((brR (f i) S true).isSome)])] fun a29 he29 => ?_
       refine up1 (fuel := 3) 12 rfl ?st1e011_44_0
       case st1e011_44_0 =>
        refine sa he29 m15 ⟨rfl, rfl, rfl, rfl, trivial⟩ 4 56 (.agg #[.int .i64 0, .int .i64 0, .int .i64 0, .int .i64 0]) (#[zI 0, zI 0, zI 0, zI 0]) (fun _ => ⟨rfl, rfl, rfl, rfl, trivial⟩) fun a30 w16 b4 he30 m16 => ?_
        refine ts (fuel := 2) 14 rfl he30 m16 4 agg56.sz (0) (.agg (optA (brR (f i) S true))) (optA (brR (f i) S true)) ⟨rfl, rfl, rfl, rfl, trivial⟩ (hz := (optA.sz _)) (hc := (optA.one _)) (hA := (optA_ovw _ _ _ _ _)) fun w17 m17 => ?_
        refine ts (fuel := 1) 15 rfl he30 m17 5 agg56.sz (0) (.agg (#[zI P1.1, zI P1.2.1, zI P1.2.2.1, zI P1.2.2.2])) (#[zI P1.1, zI P1.2.1, zI P1.2.2.1, zI P1.2.2.2]) ⟨rfl, rfl, rfl, rfl, trivial⟩ (hin := (by simp)) (hA := (by kernel_rfl)) fun w18 m18 => ?_
        refine wtb (fuel := 0) [16] he30 m18 [(11, .bool ((brR (f i) S true).isSome))] fun a31 he31 => ?_
        refine wpAnyH_done (by kernel_rfl) ?_ _
        exact ⟨b4, b5, he31.sb, m18.sb⟩
      case st1e011_39_1 =>
       refine sa he27 m14 ⟨rfl, rfl, rfl, rfl, trivial⟩ 4 56 (.agg #[.int .i64 0, .int .i64 0, .int .i64 0, .int .i64 0]) (#[zI 0, zI 0, zI 0, zI 0]) (fun _ => ⟨rfl, rfl, rfl, rfl, trivial⟩) fun a28 w15 b4 he28 m15 => ?_
       refine up1 (fuel := 7) 7 rfl ?st1e011_48_0
       case st1e011_48_0 =>
        refine sc he28 m15 (v := .tuple #[.agg (optA (brR (f i) S true)), .agg (#[zI P1.1, zI P1.2.1, zI P1.2.2.1, zI P1.2.2.2]), .bool ((brR (f i) S true).isSome)]) (hP1 _) fun a29 w16 he29 m16 => ?_
        refine wtb (fuel := 3) [8, 9, 10, 11] he29 m16 [(45, .bool ((brR (f i) S true).isSome)), (44, .agg (#[zI P1.1, zI P1.2.1, zI P1.2.2.1, zI P1.2.2.2])), (43, .agg (optA (brR (f i) S true))), (34, .tuple #[.agg (optA (brR (f i) S true)), .agg (#[zI P1.1, zI P1.2.1, zI P1.2.2.1, zI P1.2.2.2]), .bool ((brR (f i) S true).isSome)])] fun a30 he30 => ?_
        refine ts (fuel := 2) 14 rfl he30 m16 4 agg56.sz (0) (.agg (optA (brR (f i) S true))) (optA (brR (f i) S true)) ⟨rfl, rfl, rfl, rfl, trivial⟩ (hz := (optA.sz _)) (hc := (optA.one _)) (hA := (optA_ovw _ _ _ _ _)) fun w17 m17 => ?_
        refine ts (fuel := 1) 15 rfl he30 m17 5 agg56.sz (0) (.agg (#[zI P1.1, zI P1.2.1, zI P1.2.2.1, zI P1.2.2.2])) (#[zI P1.1, zI P1.2.1, zI P1.2.2.1, zI P1.2.2.2]) ⟨rfl, rfl, rfl, rfl, trivial⟩ (hin := (by simp)) (hA := (by kernel_rfl)) fun w18 m18 => ?_
        refine wtb (fuel := 0) [16] he30 m18 [(11, .bool ((brR (f i) S true).isSome))] fun a31 he31 => ?_
        refine wpAnyH_done (by kernel_rfl) ?_ _
        exact ⟨b4, b5, he31.sb, m18.sb⟩
    rintro a32 w20 ⟨b4, b5, he32, m20⟩
    refine then_normal (wp_seqR ?_)
    refine wb 1 he32 [(46, .bool ((brR (f i) S true).isSome))] fun a33 he33 => ?_
    cases hd3 : ((brR (f i) S true).isSome)
    ·
     have hb1 : brR (f i) S true = none := by simpa using hd3
     refine kv he33 (zT) (rn_un _ _ _ rfl _ (.bool (!(brR (f i) S true).isSome)) _ (he33.tmp 46 _ rfl) rfl (congrArg (fun q => Value.bool (!q)) hd3)) fun a34 he34 => ?_
     refine wl_end (wp_condT (he := he34) rfl (wp_exit (exit_then (exit_here (then_normal (wp_region_lit ?_))))))
     refine wr [1, 0] he34 m20 [(27, zN (i + 1)), (70, zN (i + 1))] [] (vn i 1 vl0) fun a35 w21 he35 m21 => ?_
     refine wpList_nil ?_
     exact ⟨n - (i + 1), by omega, Or.inr ⟨i + 1, S, cur, o, on, ob, oc, oa, rfl, ⟨by omega, hS, hrw, tid_skip htd (by omega) hb1, by simp [hon], by omega, by omega, horw⟩, he35.sb, m21.sb⟩⟩
    ·
     obtain ⟨y1, hb1⟩ := Option.isSome_iff_exists.1 hd3
     refine kv he33 (zF) (rn_un _ _ _ rfl _ (.bool (!(brR (f i) S true).isSome)) _ (he33.tmp 46 _ rfl) rfl (congrArg (fun q => Value.bool (!q)) hd3)) fun a34 he34 => ?_
     refine wl_end (wp_condF (he := he34) rfl (wp_skip (then_normal (wp_seqR ?_))))
     refine wr [0, 4] he34 m20 [(49, .agg (Ru.arr (f i))), (48, zS ob on oc)] [b2] vl0 fun a35 w21 he35 m21 => ?_
     refine kb he35 m21 6 23 1 30 ((cellsOf Ru.arr [f i]).toArray) (vs := #[(0, .agg (Ru.arr (f i)))]) (by kernel_rfl) fun a36 w22 b6 he36 m22 => ?_
     have rw6_0 : Rw ((cellsOf Ru.arr [f i]).toArray) 1 1 5 (cellsOf Ru.arr ([f i])) := Rw.lits Ru.sz [f i] (by simp [maxLen])
     refine kpR he36 m22 90 6 el30 horw rw6_0 (cellsOf_one Ru.one _) fun a37 w23 b90_37 cap90_37 cur90_37 he37 m23 rw90_37 => ?_
     replace rw90_37 := rw90_37.app
     refine wb 1 he37 [(5, zS b90_37 (on + 1) cap90_37)] fun a38 he38 => ?_
     refine wl_end (wp_seq ?_)
     refine rg_cut (fun az wz => ∃ (b7 : Nat), ∃ (b8 : Nat), EV az 72 [] [(0, .slice (some ⟨b, p, none⟩) (n) (c)), (2, .slice none 0 0), (15, .slice (some ⟨b, p, none⟩) (n) (c)), (16, .bool true), (17, .bool false), (3, .pointer (some ⟨b1, 0, none⟩)), (18, .int .i64 (((i0 : Nat) : Int))), (19, .bool false), (25, .slice (some ⟨b, p, none⟩) (n) (c)), (26, .int .i64 (((n : Nat) : Int))), (27, .int .i64 (((i : Nat) : Int))), (5, .slice (some ⟨b90_37, 0, none⟩) (on + 1) (cap90_37)), (28, .bool true), (29, .pointer (some ⟨b, p + i * 5, none⟩)), (30, .agg (Ru.arr (f i))), (7, .pointer (some ⟨b2, 0, none⟩)), (31, .pointer (some ⟨b2, 2, none⟩)), (32, .int .i64 ((((f i).num.toNat : Nat) : Int))), (33, .agg (ivArr (((f i).num.toNat, (f i).num.toNat)))), (8, .pointer (some ⟨b3, 0, none⟩)), (35, .pointer (some ⟨b2, 1, none⟩)), (36, .int .i64 ((f i).op)), (37, .pointer (some ⟨b2, 0, none⟩)), (38, .int .i64 ((((f i).at_.toNat : Nat) : Int))), (39, .pointer (some ⟨b1, 0 + ((f i).at_.toNat) * 4, none⟩)), (40, .agg (ivArr (atS (S) (((f i).at_.toNat))))), (41, .agg (ivArr (((f i).num.toNat, (f i).num.toNat)))), (42, .tuple #[.agg (optA (brR (f i) S true)), .agg (#[zI P1.1, zI P1.2.1, zI P1.2.2.1, zI P1.2.2.2]), .bool ((brR (f i) S true).isSome)]), (34, .tuple #[.agg (optA (brR (f i) S true)), .agg (#[zI P1.1, zI P1.2.1, zI P1.2.2.1, zI P1.2.2.2]), .bool ((brR (f i) S true).isSome)]), (43, .agg (optA (brR (f i) S true))), (44, .agg (#[zI P1.1, zI P1.2.1, zI P1.2.2.1, zI P1.2.2.2])), (45, .bool ((brR (f i) S true).isSome)), (9, .pointer (some ⟨b4, 0, none⟩)), (10, .pointer (some ⟨b5, 0, none⟩)), (11, .bool ((brR (f i) S true).isSome)), (46, .bool ((brR (f i) S true).isSome)), (47, .bool false), (48, .slice (some ⟨ob, 0, none⟩) (on) (oc)), (49, .agg (Ru.arr (f i))), (50, .slice (some ⟨b6, 0, none⟩) (1) (1)), (51, .slice (some ⟨b90_37, 0, none⟩) (on + 1) (cap90_37)), (53, .pointer (some ⟨b2, 1, none⟩)), (54, .int .i64 ((f i).op)), (55, .pointer (some ⟨b2, 0, none⟩)), (56, .int .i64 ((((f i).at_.toNat : Nat) : Int))), (57, .pointer (some ⟨b1, 0 + ((f i).at_.toNat) * 4, none⟩)), (58, .agg (ivArr (atS (S) (((f i).at_.toNat))))), (59, .agg (ivArr (((f i).num.toNat, (f i).num.toNat)))), (60, .tuple #[.agg (optA (brR (f i) S false)), .agg (#[zI P2.1, zI P2.2.1, zI P2.2.2.1, zI P2.2.2.2]), .bool ((brR (f i) S false).isSome)]), (52, .tuple #[.agg (optA (brR (f i) S false)), .agg (#[zI P2.1, zI P2.2.1, zI P2.2.2.1, zI P2.2.2.2]), .bool ((brR (f i) S false).isSome)]), (61, .agg (optA (brR (f i) S false))), (62, .agg (#[zI P2.1, zI P2.2.1, zI P2.2.2.1, zI P2.2.2.2])), (63, .bool ((brR (f i) S false).isSome)), (12, .pointer (some ⟨b7, 0, none⟩)), (13, .pointer (some ⟨b8, 0, none⟩)), (14, .bool ((brR (f i) S false).isSome))] ∧ MM [] w wz [(1, ⟨true, b1, 57, cur⟩), (90, ⟨true, b90_37, 30, cur90_37⟩), (2, ⟨true, b2, 30, Ru.arr (f i)⟩), (3, ⟨true, b3, 56, ivArr (((f i).num.toNat, (f i).num.toNat))⟩), (4, ⟨true, b4, 56, optA (brR (f i) S true)⟩), (5, ⟨true, b5, 56, #[zI P1.1, zI P1.2.1, zI P1.2.2.1, zI P1.2.2.2]⟩), (6, ⟨true, b6, 30, (cellsOf Ru.arr [f i]).toArray⟩), (7, ⟨true, b7, 56, optA (brR (f i) S false)⟩), (8, ⟨true, b8, 56, #[zI P2.1, zI P2.2.1, zI P2.2.2.1, zI P2.2.2.2]⟩)]) ?tree2_0111 ?cont2_0111
     case tree2_0111 =>
      refine wh_begin (by kernel_rfl) m23 [(1, ⟨true, b1, 57, cur⟩), (90, ⟨true, b90_37, 30, cur90_37⟩), (2, ⟨true, b2, 30, Ru.arr (f i)⟩), (3, ⟨true, b3, 56, ivArr (((f i).num.toNat, (f i).num.toNat))⟩), (4, ⟨true, b4, 56, optA (brR (f i) S true)⟩), (5, ⟨true, b5, 56, #[zI P1.1, zI P1.2.1, zI P1.2.2.1, zI P1.2.2.2]⟩), (6, ⟨true, b6, 30, (cellsOf Ru.arr [f i]).toArray⟩)] ⟨rfl, rfl, rfl, rfl, rfl, rfl, rfl, trivial⟩ (fun w24 m24 => ?_)
      refine wtd (fuel := 14) [(0, 0), (1, 4), (2, 0)] he38 m24 [(55, zP b2 0), (54, zI ((f i).op)), (53, zP b2 1)] [b2] vl0 fun a39 he39 => ?_
      refine tl (fuel := 13) 3 rfl he39 m24 2 one3 (0) (zN ((f i).at_.toNat)) (hv := (Ru.g_at' _ hri)) fun a40 he40 => ?_
      refine tv (fuel := 12) 4 rfl he40 m24 (.pointer (some ⟨b1, 0 + ((f i).at_.toNat) * 4, none⟩)) (fun wS hmS => rn_indexA _ _ _ rfl _ _ (.pointer (some ⟨b1, 0 + ((f i).at_.toNat) * 4, none⟩)) (he40.tmp 3 _ rfl) (he40.tmp 56 _ rfl) (ixA 12 56 4 (by kernel_rfl) (fun w => by kernel_rfl) b1 0 ((f i).at_.toNat) (by omega) (by decide) _)) fun a41 he41 => ?_
      refine tlA (fuel := 11) 5 rfl he41 m24 1 agg56 (0 + ((f i).at_.toNat) * 4) (ivArr (atS (S) (((f i).at_.toNat)))) (hC := (hrw.ext ivArr.sz (hS.get hat) _ (by omega))) fun a42 he42 => ?_
      refine wtd (fuel := 10) [(6, 5)] he42 m24 [(59, .agg (ivArr (((f i).num.toNat, (f i).num.toNat))))] [b3] vl0 fun a43 he43 => ?_
      refine wpAnyH_ready (fuel := 9) (rs := [7, 12, 13]) ?hr2e0111_8 (by simp) (AllReadyH.cons (o := ?o2e0111_8_0) ?hi2e0111_8_0 ?st2e0111_8_0 (AllReadyH.cons (o := ?o2e0111_8_1) ?hi2e0111_8_1 ?st2e0111_8_1 (AllReadyH.cons (o := ?o2e0111_8_2) ?hi2e0111_8_2 ?st2e0111_8_2 AllReadyH.nil)))
      case hr2e0111_8 => kernel_rfl
      case hi2e0111_8_0 => rw [List.getElem?_toArray]; rfl
      case hi2e0111_8_1 => rw [List.getElem?_toArray]; rfl
      case hi2e0111_8_2 => rw [List.getElem?_toArray]; rfl
      case st2e0111_8_0 =>
       refine sc he43 m24 (v := .tuple #[.agg (optA (brR (f i) S false)), .agg (#[zI P2.1, zI P2.2.1, zI P2.2.2.1, zI P2.2.2.2]), .bool ((brR (f i) S false).isSome)]) (hP2 _) fun a44 w25 he44 m25 => ?_
       refine wtb (fuel := 5) [8, 9, 10, 11] he44 m25 [(63, .bool ((brR (f i) S false).isSome)), (62, .agg (#[zI P2.1, zI P2.2.1, zI P2.2.2.1, zI P2.2.2.2])), (61, .agg (optA (brR (f i) S false))), (52, .tuple #[.agg (optA (brR (f i) S false)), .agg (#[zI P2.1, zI P2.2.1, zI P2.2.2.1, zI P2.2.2.2]), .bool ((brR (f i) S false).isSome)])] fun a45 he45 => ?_
       refine up2 (fuel := 4) 12 13 rfl rfl ?st2e0111_13_0 ?st2e0111_13_1
       case st2e0111_13_0 =>
        refine sa he45 m25 ⟨rfl, rfl, rfl, rfl, rfl, rfl, rfl, trivial⟩ 7 56 (.agg #[.int .i64 0, .int .i64 0, .int .i64 0, .int .i64 0]) (#[zI 0, zI 0, zI 0, zI 0]) (fun _ => ⟨rfl, rfl, rfl, rfl, rfl, rfl, rfl, trivial⟩) fun a46 w26 b7 he46 m26 => ?_
        refine up1 (fuel := 3) 13 rfl ?st2e0111_14_0
        case st2e0111_14_0 =>
         refine sa he46 m26 ⟨rfl, rfl, rfl, rfl, rfl, rfl, rfl, trivial⟩ 8 56 (.agg #[.int .i64 0, .int .i64 0, .int .i64 0, .int .i64 0]) (#[zI 0, zI 0, zI 0, zI 0]) (fun _ => ⟨rfl, rfl, rfl, rfl, rfl, rfl, rfl, trivial⟩) fun a47 w27 b8 he47 m27 => ?_
         refine ts (fuel := 2) 14 rfl he47 m27 7 agg56.sz (0) (.agg (optA (brR (f i) S false))) (optA (brR (f i) S false)) ⟨rfl, rfl, rfl, rfl, rfl, rfl, rfl, trivial⟩ (hz := (optA.sz _)) (hc := (optA.one _)) (hA := (optA_ovw _ _ _ _ _)) fun w28 m28 => ?_
         refine ts (fuel := 1) 15 rfl he47 m28 8 agg56.sz (0) (.agg (#[zI P2.1, zI P2.2.1, zI P2.2.2.1, zI P2.2.2.2])) (#[zI P2.1, zI P2.2.1, zI P2.2.2.1, zI P2.2.2.2]) ⟨rfl, rfl, rfl, rfl, rfl, rfl, rfl, trivial⟩ (hin := (by simp)) (hA := (by kernel_rfl)) fun w29 m29 => ?_
         refine wtb (fuel := 0) [16] he47 m29 [(14, .bool ((brR (f i) S false).isSome))] fun a48 he48 => ?_
         refine wpAnyH_done (by kernel_rfl) ?_ _
         exact ⟨b7, b8, he48.sb, m29.sb⟩
       case st2e0111_13_1 =>
        refine sa he45 m25 ⟨rfl, rfl, rfl, rfl, rfl, rfl, rfl, trivial⟩ 8 56 (.agg #[.int .i64 0, .int .i64 0, .int .i64 0, .int .i64 0]) (#[zI 0, zI 0, zI 0, zI 0]) (fun _ => ⟨rfl, rfl, rfl, rfl, rfl, rfl, rfl, trivial⟩) fun a46 w26 b8 he46 m26 => ?_
        refine up1 (fuel := 3) 12 rfl ?st2e0111_18_0
        case st2e0111_18_0 =>
         refine sa he46 m26 ⟨rfl, rfl, rfl, rfl, rfl, rfl, rfl, trivial⟩ 7 56 (.agg #[.int .i64 0, .int .i64 0, .int .i64 0, .int .i64 0]) (#[zI 0, zI 0, zI 0, zI 0]) (fun _ => ⟨rfl, rfl, rfl, rfl, rfl, rfl, rfl, trivial⟩) fun a47 w27 b7 he47 m27 => ?_
         refine ts (fuel := 2) 14 rfl he47 m27 7 agg56.sz (0) (.agg (optA (brR (f i) S false))) (optA (brR (f i) S false)) ⟨rfl, rfl, rfl, rfl, rfl, rfl, rfl, trivial⟩ (hz := (optA.sz _)) (hc := (optA.one _)) (hA := (optA_ovw _ _ _ _ _)) fun w28 m28 => ?_
         refine ts (fuel := 1) 15 rfl he47 m28 8 agg56.sz (0) (.agg (#[zI P2.1, zI P2.2.1, zI P2.2.2.1, zI P2.2.2.2])) (#[zI P2.1, zI P2.2.1, zI P2.2.2.1, zI P2.2.2.2]) ⟨rfl, rfl, rfl, rfl, rfl, rfl, rfl, trivial⟩ (hin := (by simp)) (hA := (by kernel_rfl)) fun w29 m29 => ?_
         refine wtb (fuel := 0) [16] he47 m29 [(14, .bool ((brR (f i) S false).isSome))] fun a48 he48 => ?_
         refine wpAnyH_done (by kernel_rfl) ?_ _
         exact ⟨b7, b8, he48.sb, m29.sb⟩
      case st2e0111_8_1 =>
       refine sa he43 m24 ⟨rfl, rfl, rfl, rfl, rfl, rfl, rfl, trivial⟩ 7 56 (.agg #[.int .i64 0, .int .i64 0, .int .i64 0, .int .i64 0]) (#[zI 0, zI 0, zI 0, zI 0]) (fun _ => ⟨rfl, rfl, rfl, rfl, rfl, rfl, rfl, trivial⟩) fun a44 w25 b7 he44 m25 => ?_
       refine up2 (fuel := 8) 7 13 rfl rfl ?st2e0111_22_0 ?st2e0111_22_1
       case st2e0111_22_0 =>
        refine sc he44 m25 (v := .tuple #[.agg (optA (brR (f i) S false)), .agg (#[zI P2.1, zI P2.2.1, zI P2.2.2.1, zI P2.2.2.2]), .bool ((brR (f i) S false).isSome)]) (hP2 _) fun a45 w26 he45 m26 => ?_
        refine wtb (fuel := 4) [8, 9, 10, 11] he45 m26 [(63, .bool ((brR (f i) S false).isSome)), (62, .agg (#[zI P2.1, zI P2.2.1, zI P2.2.2.1, zI P2.2.2.2])), (61, .agg (optA (brR (f i) S false))), (52, .tuple #[.agg (optA (brR (f i) S false)), .agg (#[zI P2.1, zI P2.2.1, zI P2.2.2.1, zI P2.2.2.2]), .bool ((brR (f i) S false).isSome)])] fun a46 he46 => ?_
        refine up1 (fuel := 3) 13 rfl ?st2e0111_27_0
        case st2e0111_27_0 =>
         refine sa he46 m26 ⟨rfl, rfl, rfl, rfl, rfl, rfl, rfl, trivial⟩ 8 56 (.agg #[.int .i64 0, .int .i64 0, .int .i64 0, .int .i64 0]) (#[zI 0, zI 0, zI 0, zI 0]) (fun _ => ⟨rfl, rfl, rfl, rfl, rfl, rfl, rfl, trivial⟩) fun a47 w27 b8 he47 m27 => ?_
         refine ts (fuel := 2) 14 rfl he47 m27 7 agg56.sz (0) (.agg (optA (brR (f i) S false))) (optA (brR (f i) S false)) ⟨rfl, rfl, rfl, rfl, rfl, rfl, rfl, trivial⟩ (hz := (optA.sz _)) (hc := (optA.one _)) (hA := (optA_ovw _ _ _ _ _)) fun w28 m28 => ?_
         refine ts (fuel := 1) 15 rfl he47 m28 8 agg56.sz (0) (.agg (#[zI P2.1, zI P2.2.1, zI P2.2.2.1, zI P2.2.2.2])) (#[zI P2.1, zI P2.2.1, zI P2.2.2.1, zI P2.2.2.2]) ⟨rfl, rfl, rfl, rfl, rfl, rfl, rfl, trivial⟩ (hin := (by simp)) (hA := (by kernel_rfl)) fun w29 m29 => ?_
         refine wtb (fuel := 0) [16] he47 m29 [(14, .bool ((brR (f i) S false).isSome))] fun a48 he48 => ?_
         refine wpAnyH_done (by kernel_rfl) ?_ _
         exact ⟨b7, b8, he48.sb, m29.sb⟩
       case st2e0111_22_1 =>
        refine sa he44 m25 ⟨rfl, rfl, rfl, rfl, rfl, rfl, rfl, trivial⟩ 8 56 (.agg #[.int .i64 0, .int .i64 0, .int .i64 0, .int .i64 0]) (#[zI 0, zI 0, zI 0, zI 0]) (fun _ => ⟨rfl, rfl, rfl, rfl, rfl, rfl, rfl, trivial⟩) fun a45 w26 b8 he45 m26 => ?_
        refine up1 (fuel := 7) 7 rfl ?st2e0111_31_0
        case st2e0111_31_0 =>
         refine sc he45 m26 (v := .tuple #[.agg (optA (brR (f i) S false)), .agg (#[zI P2.1, zI P2.2.1, zI P2.2.2.1, zI P2.2.2.2]), .bool ((brR (f i) S false).isSome)]) (hP2 _) fun a46 w27 he46 m27 => ?_
         refine wtb (fuel := 3) [8, 9, 10, 11] he46 m27 [(63, .bool ((brR (f i) S false).isSome)), (62, .agg (#[zI P2.1, zI P2.2.1, zI P2.2.2.1, zI P2.2.2.2])), (61, .agg (optA (brR (f i) S false))), (52, .tuple #[.agg (optA (brR (f i) S false)), .agg (#[zI P2.1, zI P2.2.1, zI P2.2.2.1, zI P2.2.2.2]), .bool ((brR (f i) S false).isSome)])] fun a47 he47 => ?_
         refine ts (fuel := 2) 14 rfl he47 m27 7 agg56.sz (0) (.agg (optA (brR (f i) S false))) (optA (brR (f i) S false)) ⟨rfl, rfl, rfl, rfl, rfl, rfl, rfl, trivial⟩ (hz := (optA.sz _)) (hc := (optA.one _)) (hA := (optA_ovw _ _ _ _ _)) fun w28 m28 => ?_
         refine ts (fuel := 1) 15 rfl he47 m28 8 agg56.sz (0) (.agg (#[zI P2.1, zI P2.2.1, zI P2.2.2.1, zI P2.2.2.2])) (#[zI P2.1, zI P2.2.1, zI P2.2.2.1, zI P2.2.2.2]) ⟨rfl, rfl, rfl, rfl, rfl, rfl, rfl, trivial⟩ (hin := (by simp)) (hA := (by kernel_rfl)) fun w29 m29 => ?_
         refine wtb (fuel := 0) [16] he47 m29 [(14, .bool ((brR (f i) S false).isSome))] fun a48 he48 => ?_
         refine wpAnyH_done (by kernel_rfl) ?_ _
         exact ⟨b7, b8, he48.sb, m29.sb⟩
      case st2e0111_8_2 =>
       refine sa he43 m24 ⟨rfl, rfl, rfl, rfl, rfl, rfl, rfl, trivial⟩ 8 56 (.agg #[.int .i64 0, .int .i64 0, .int .i64 0, .int .i64 0]) (#[zI 0, zI 0, zI 0, zI 0]) (fun _ => ⟨rfl, rfl, rfl, rfl, rfl, rfl, rfl, trivial⟩) fun a44 w25 b8 he44 m25 => ?_
       refine up2 (fuel := 8) 7 12 rfl rfl ?st2e0111_39_0 ?st2e0111_39_1
       case st2e0111_39_0 =>
        refine sc he44 m25 (v := .tuple #[.agg (optA (brR (f i) S false)), .agg (#[zI P2.1, zI P2.2.1, zI P2.2.2.1, zI P2.2.2.2]), .bool ((brR (f i) S false).isSome)]) (hP2 _) fun a45 w26 he45 m26 => ?_
        refine wtb (fuel := 4) [8, 9, 10, 11] he45 m26 [(63, .bool ((brR (f i) S false).isSome)), (62, .agg (#[zI P2.1, zI P2.2.1, zI P2.2.2.1, zI P2.2.2.2])), (61, .agg (optA (brR (f i) S false))), (52, .tuple #[.agg (optA (brR (f i) S false)), .agg (#[zI P2.1, zI P2.2.1, zI P2.2.2.1, zI P2.2.2.2]), .bool ((brR (f i) S false).isSome)])] fun a46 he46 => ?_
        refine up1 (fuel := 3) 12 rfl ?st2e0111_44_0
        case st2e0111_44_0 =>
         refine sa he46 m26 ⟨rfl, rfl, rfl, rfl, rfl, rfl, rfl, trivial⟩ 7 56 (.agg #[.int .i64 0, .int .i64 0, .int .i64 0, .int .i64 0]) (#[zI 0, zI 0, zI 0, zI 0]) (fun _ => ⟨rfl, rfl, rfl, rfl, rfl, rfl, rfl, trivial⟩) fun a47 w27 b7 he47 m27 => ?_
         refine ts (fuel := 2) 14 rfl he47 m27 7 agg56.sz (0) (.agg (optA (brR (f i) S false))) (optA (brR (f i) S false)) ⟨rfl, rfl, rfl, rfl, rfl, rfl, rfl, trivial⟩ (hz := (optA.sz _)) (hc := (optA.one _)) (hA := (optA_ovw _ _ _ _ _)) fun w28 m28 => ?_
         refine ts (fuel := 1) 15 rfl he47 m28 8 agg56.sz (0) (.agg (#[zI P2.1, zI P2.2.1, zI P2.2.2.1, zI P2.2.2.2])) (#[zI P2.1, zI P2.2.1, zI P2.2.2.1, zI P2.2.2.2]) ⟨rfl, rfl, rfl, rfl, rfl, rfl, rfl, trivial⟩ (hin := (by simp)) (hA := (by kernel_rfl)) fun w29 m29 => ?_
         refine wtb (fuel := 0) [16] he47 m29 [(14, .bool ((brR (f i) S false).isSome))] fun a48 he48 => ?_
         refine wpAnyH_done (by kernel_rfl) ?_ _
         exact ⟨b7, b8, he48.sb, m29.sb⟩
       case st2e0111_39_1 =>
        refine sa he44 m25 ⟨rfl, rfl, rfl, rfl, rfl, rfl, rfl, trivial⟩ 7 56 (.agg #[.int .i64 0, .int .i64 0, .int .i64 0, .int .i64 0]) (#[zI 0, zI 0, zI 0, zI 0]) (fun _ => ⟨rfl, rfl, rfl, rfl, rfl, rfl, rfl, trivial⟩) fun a45 w26 b7 he45 m26 => ?_
        refine up1 (fuel := 7) 7 rfl ?st2e0111_48_0
        case st2e0111_48_0 =>
         refine sc he45 m26 (v := .tuple #[.agg (optA (brR (f i) S false)), .agg (#[zI P2.1, zI P2.2.1, zI P2.2.2.1, zI P2.2.2.2]), .bool ((brR (f i) S false).isSome)]) (hP2 _) fun a46 w27 he46 m27 => ?_
         refine wtb (fuel := 3) [8, 9, 10, 11] he46 m27 [(63, .bool ((brR (f i) S false).isSome)), (62, .agg (#[zI P2.1, zI P2.2.1, zI P2.2.2.1, zI P2.2.2.2])), (61, .agg (optA (brR (f i) S false))), (52, .tuple #[.agg (optA (brR (f i) S false)), .agg (#[zI P2.1, zI P2.2.1, zI P2.2.2.1, zI P2.2.2.2]), .bool ((brR (f i) S false).isSome)])] fun a47 he47 => ?_
         refine ts (fuel := 2) 14 rfl he47 m27 7 agg56.sz (0) (.agg (optA (brR (f i) S false))) (optA (brR (f i) S false)) ⟨rfl, rfl, rfl, rfl, rfl, rfl, rfl, trivial⟩ (hz := (optA.sz _)) (hc := (optA.one _)) (hA := (optA_ovw _ _ _ _ _)) fun w28 m28 => ?_
         refine ts (fuel := 1) 15 rfl he47 m28 8 agg56.sz (0) (.agg (#[zI P2.1, zI P2.2.1, zI P2.2.2.1, zI P2.2.2.2])) (#[zI P2.1, zI P2.2.1, zI P2.2.2.1, zI P2.2.2.2]) ⟨rfl, rfl, rfl, rfl, rfl, rfl, rfl, trivial⟩ (hin := (by simp)) (hA := (by kernel_rfl)) fun w29 m29 => ?_
         refine wtb (fuel := 0) [16] he47 m29 [(14, .bool ((brR (f i) S false).isSome))] fun a48 he48 => ?_
         refine wpAnyH_done (by kernel_rfl) ?_ _
         exact ⟨b7, b8, he48.sb, m29.sb⟩
     rintro a49 w31 ⟨b7, b8, he49, m31⟩
     refine then_normal (wp_seq (wp_seqR ?_))
     refine wb 1 he49 [(64, .bool ((brR (f i) S false).isSome))] fun a50 he50 => ?_
     cases hd4 : ((brR (f i) S false).isSome)
     ·
      have hb2 : brR (f i) S false = none := by simpa using hd4
      refine kv he50 (zT) (rn_un _ _ _ rfl _ (.bool (!(brR (f i) S false).isSome)) _ (he50.tmp 64 _ rfl) rfl (congrArg (fun q => Value.bool (!q)) hd4)) fun a51 he51 => ?_
      refine wl_end (wp_condT (he := he51) rfl (wp_exit (exit_then (exit_out (by decide) (exit_then (exit_then (exit_here (then_normal (wp_seqR ?_)))))))))
      refine wb 2 he51 [(2, zS b90_37 (on + 1) cap90_37), (71, zS b90_37 (on + 1) cap90_37)] fun a52 he52 => ?_
      refine wl_end (wp_ret ?_)
      have htm : tidM f n = (o) ++ ([f i]) := tid_last htd (by omega) hb1 hb2
      have hN : on + 1 = (tidM f n).length := by rw [htm]; simp [hon]
      have hL : cellsOf Ru.arr ((o) ++ ([f i])) = cellsOf Ru.arr (tidM f n) := by rw [htm]
      exact bodyPost_ret (results_tmp he52 _ Try.results10 (.slice (some ⟨b90_37, 0, none⟩) (on + 1) (cap90_37)) rfl) he52.defers (Or.inr ⟨by rw [htm]; intro h0; have := congrArg List.length h0; simp at this, ⟨(cap90_37, cur90_37), _, congrArg (fun k => Ending.returned (.slice (some ⟨b90_37, 0, none⟩) k (cap90_37))) hN, m31.bx 90 _ _ _ _ rfl, rw90_37.cast hN hL, by have := m31.own 90 _ rfl rfl; simpa using this, m31.below⟩⟩)
     ·
      obtain ⟨y2, hb2⟩ := Option.isSome_iff_exists.1 hd4
      refine kv he50 (zF) (rn_un _ _ _ rfl _ (.bool (!(brR (f i) S false).isSome)) _ (he50.tmp 64 _ rfl) rfl (congrArg (fun q => Value.bool (!q)) hd4)) fun a51 he51 => ?_
      refine wl_end (wp_condF (he := he51) rfl (wp_skip (then_normal (wp_region_lit ?_))))
      refine wr [0] he51 m31 [(66, zP b2 0)] [] vl0 fun a52 w32 he52 m32 => ?_
      refine kl he52 m32 2 one3 (0) (.int .i64 ((((f i).at_.toNat : Nat) : Int))) (hv := (Ru.g_at' _ hri)) fun a53 he53 => ?_
      refine klA he53 m32 7 agg56 (0) (optA (brR (f i) S false)) (hC := (optA_ext _)) (hz := (optA.sz _)) fun a54 he54 => ?_
      refine kv he54 (.pointer (some ⟨b1, 0 + ((f i).at_.toNat) * 4, none⟩)) (rn_indexA _ _ _ rfl _ _ (.pointer (some ⟨b1, 0 + ((f i).at_.toNat) * 4, none⟩)) (he54.tmp 3 _ rfl) (he54.tmp 67 _ rfl) (ixA 12 56 4 (by kernel_rfl) (fun w => by kernel_rfl) b1 0 ((f i).at_.toNat) (by omega) (by decide) _)) fun a55 he55 => ?_
      obtain ⟨q1, hq1⟩ : ∃ q1 : Array Value, q1 = ovw (cur) (0 + ((f i).at_.toNat) * 4) (optA (brR (f i) S false)).toList := ⟨_, rfl⟩
      have rq1 : Rw q1 12 12 4 (cellsOf ivArr ((S).set (((f i).at_.toNat)) (y2))) := by rw [hq1, hb2]; exact hrw.set ivArr.sz (by rw [hS.len]; omega) _ _ (by omega)
      have fq1 := hrw.fit'
      refine ks he55 m32 1 agg56.sz (0 + ((f i).at_.toNat) * 4) (.agg (optA (brR (f i) S false))) (q1) (hz := (optA.sz _)) (hc := (optA.one _)) (hA := hq1.symm) fun w33 m33 => ?_
      refine wpList_nil (in_normal (then_normal (wp_region_lit ?_)))
      refine wr [1, 0] he55 m33 [(27, zN (i + 1)), (70, zN (i + 1))] [] (vn i 1 vl0) fun a56 w34 he56 m34 => ?_
      refine wpList_nil ?_
      exact ⟨n - (i + 1), by omega, Or.inr ⟨i + 1, S.set (f i).at_.toNat y2, q1, (o) ++ ([f i]), on + 1, b90_37, cap90_37, cur90_37, rfl, ⟨by omega, (hS.set hb2), rq1, tid_keep htd (by omega) hb1 hb2, by simp [hon], by omega, by omega, rw90_37⟩, he56.sb, m34.sb⟩⟩
 ·
  have hd1p := of_decide_eq_true hd1
  refine wr [1] he7 m3 [(19, zT)] [] (vb (hd1) vl0) fun a8 w4 he8 m4 => ?_
  refine wl_end (wp_seq (wp_condT (he := he8) rfl (wp_skip (then_normal (wp_seq (wp_block (wp_seqR ?_)))))))
  refine wb 2 he8 [(4, zN i0), (20, zN i0)] fun a9 he9 => ?_
  refine wl_end (wp_region_lit ?_)
  refine wb 1 he9 [(21, zN i0)] fun a10 he10 => ?_
  refine kc he10 m4 (v := .agg (ivArr (full))) (c_from255 _) fun a11 w5 he11 m5 => ?_
  refine kv he11 (.pointer (some ⟨b1, 0 + i0 * 4, none⟩)) (rn_indexA _ _ _ rfl _ _ (.pointer (some ⟨b1, 0 + i0 * 4, none⟩)) (he11.tmp 3 _ rfl) (he11.tmp 21 _ rfl) (ixA 12 56 4 (by kernel_rfl) (fun w => by kernel_rfl) b1 0 (i0) (by omega) (by decide) _)) fun a12 he12 => ?_
  obtain ⟨q1, hq1⟩ : ∃ q1 : Array Value, q1 = ovw (cur0) (0 + i0 * 4) (ivArr (full)).toList := ⟨_, rfl⟩
  have rq1 : Rw q1 12 12 4 (cellsOf ivArr ((initS i0).set (i0) (full))) := by rw [hq1]; exact hrw.set ivArr.sz (by rw [initS_len (by omega)]; omega) _ _ (by omega)
  have fq1 := hrw.fit'
  refine ks he12 m5 1 agg56.sz (0 + i0 * 4) (.agg (ivArr (full))) (q1) (hc := (ivArr.one _)) (hA := hq1.symm) fun w6 m6 => ?_
  refine wpList_nil (in_normal (then_normal (wp_region_lit ?_)))
  refine wr [1, 0] he12 m6 [(18, zN (i0 + 1)), (24, zN (i0 + 1))] [] (vn i0 1 vl0) fun a13 w7 he13 m7 => ?_
  refine wpList_nil ?_
  exact ⟨12 - (i0 + 1), by omega, i0 + 1, q1, rfl, ⟨by omega, by have := rq1; rw [initS_set (by omega)] at this; exact this⟩, he13.sb, m7.sub _ ⟨rfl, trivial⟩⟩
end Go.Proofs.Ytkaekiodjjhjkaa.W
