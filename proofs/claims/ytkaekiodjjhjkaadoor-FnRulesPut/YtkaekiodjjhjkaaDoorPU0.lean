/- Rules written by the program: what is laid, decimals, joined texts. -/
import Derived.Test.YtkaekiodjjhjkaaDoorWH
import Derived.Test.YtkaekiodjjhjkaaDoorSh
import Derived.Test.YtkaekiodjjhjkaaDoorSM
import Derived.Test.YtkaekiodjjhjkaaDoorRA2
import Derived.Lib.Join
namespace Go.Proofs.YtkaekiodjjhjkaaDoor
open Go.RowKit
set_option linter.unusedVariables false
set_option linter.unusedSimpArgs false
theorem decDigits_eq : ∀ n : Nat, decS n = ⟨(Lib.decDigits n).toArray⟩ := by
  intro n
  induction n using Nat.strongRecOn with
  | ind n ih =>
    by_cases h : n < 10
    · rw [decS_lt h, Lib.decDigits, dif_pos h]
      have e : (48 + (n : Int)).toNat = 48 + n := by omega
      simp [strOfNums, e]
    · rw [decS_ge h, Lib.decDigits, dif_neg h, ih (n / 10) (by omega)]
      have e : (48 + ((n % 10 : Nat) : Int)).toNat = 48 + n % 10 := by omega
      have h2 : strOfNums [48 + ((n % 10 : Nat) : Int)] = ⟨#[UInt8.ofNat (48 + n % 10)]⟩ := by unfold strOfNums; rw [List.map_cons, List.map_nil, e]
      rw [h2]
      apply ByteArray.ext
      simp [ByteArray.data_append]
theorem itoa_nat (n : Nat) : (⟨(Lib.itoa (n : Int)).toArray⟩ : ByteArray) = decS n := by
  unfold Lib.itoa
  rw [if_neg (by omega), decDigits_eq]; rfl
theorem below_grow (w : World) (k : Nat) (os : Array Obj) : Below w.heap.size w (Sort.grow (w.drewN k) os) :=
  ⟨rfl, rfl, rfl, by simp [Sort.grow, World.drewN], fun j hj => by
    show (w.heap ++ os)[j]? = _
    rw [Array.getElem?_append_left hj]⟩
theorem gPow : Tryd.prog.globalNamed "internal/strconv.uint64pow10" = some 3 := by kernel_rfl
/-- What the package-level tables hold. -/
structure TabsR (w : World) : Prop where
  pow : Lib.TabIs Tryd.prog w "internal/strconv.uint64pow10" .u64 Lib.pow10Tab
  ops : RowAt w 0 0 21 1 fun k => #[.string (wordS k)]
  verbs : RowAt w 1 0 3 1 fun k => #[.string (verbS k)]
  lt : 3 < w.heap.size
theorem rowAt_str {w : World} {b n : Nat} {L : List ByteArray} (hb : b < w.heap.size) (h : ∀ k, k < n → w.cell? ⟨b, k, none⟩ = some (.string (L.getD k ⟨#[]⟩))) : RowAt w b 0 n 1 fun k => #[.string (L.getD k ⟨#[]⟩)] :=
  ⟨hb, fun i hi j hj => by
    obtain rfl : j = 0 := by omega
    rw [show 0 + i * 1 + 0 = i by omega, h i hi]
    exact ⟨rfl, by simp⟩⟩
theorem TabsR.kb {w w' : World} (h : TabsR w) {S : List Nat} (k : KB S w w') (hS : S = []) : TabsR w' := by
  subst hS
  refine ⟨?_, h.ops.kb k (by simp), h.verbs.kb k (by simp), Nat.lt_of_lt_of_le h.lt k.size⟩
  have h0 := h.pow
  unfold Lib.TabIs World.var? at *
  rw [gPow] at *
  simp only [Option.bind_some] at *
  rw [k.block _ h.lt (by simp)]
  exact h0
theorem c_itoa (n : Nat) (w : World) (hT : TabsR w) (hn : n ≤ 4294967295) : Calls Tryd.prog 28 #[.int .i64 ((n : Nat) : Int)] w fun e w' => e = .returned (.string (decS n)) ∧ Below w.heap.size w w' := by
  refine (Tryd.strconv_Itoa (n : Int) (by omega) (by omega) w hT.pow).mono ?_
  rintro e w' ⟨rfl, k, os, rfl⟩
  exact ⟨by rw [itoa_nat], below_grow _ _ _⟩
theorem join_eq (c : UInt8) : ∀ (xs : List ByteArray), (⟨(Lib.join (xs.map (·.data.toList)) [c]).toArray⟩ : ByteArray) = joinB c xs
  | [] => rfl
  | [x] => by rw [List.map_cons, List.map_nil, Lib.join_one]; rfl
  | x :: y :: r => by
    have ih := join_eq c (y :: r)
    have e : Lib.join ((x :: y :: r).map (·.data.toList)) [c] = x.data.toList ++ ([c] ++ Lib.join ((y :: r).map (·.data.toList)) [c]) := by
      rw [List.map_cons, Lib.join_cons, List.map_cons, Lib.join_cons]
      unfold Lib.joinTail
      simp
    rw [e, joinB, ← ih]
    · apply ByteArray.ext
      simp [ByteArray.data_append]
    · simp
def strA (x : ByteArray) : Array Value := #[.string x]
theorem strA.sz (x : ByteArray) : (strA x).size = 1 := rfl
theorem strA.one (x : ByteArray) : (strA x).all (·.oneCell') = true := by kernel_rfl
theorem c_join (xs : List ByteArray) (b n c : Nat) (cur : Array Value) (w : World) (hx : BX w b 9 cur) (rw_ : Rw cur n c 1 (cellsOf strA xs)) (hn : n = xs.length) (hq : xs.length ≤ 1000) (hlen : (joinB 32 xs).size ≤ 1000000) :
    Calls Tryd.prog 29 #[.slice (some ⟨b, 0, none⟩) n c, .string ⟨#[32]⟩] w fun e w' => e = .returned (.string (joinB 32 xs)) ∧ Below w.heap.size w w' := by
  subst hn
  have e := join_eq 32 xs
  have hl : (Lib.join (xs.map (·.data.toList)) [32]).length ≤ 140737488355328 := by
    have := congrArg ByteArray.size e
    have h2 : (⟨(Lib.join (xs.map (·.data.toList)) [32]).toArray⟩ : ByteArray).size = (Lib.join (xs.map (·.data.toList)) [32]).length := by simp [ByteArray.size]
    omega
  have hmx := rw_.max
  have hle := rw_.le
  have h := Tryd.strings_Join b 0 c xs ⟨#[32]⟩ w (fun j x hj => by
    have hg := cellsOf_get strA.sz xs j 0 x hj (by omega)
    rw [Nat.zero_add, hx.cell]
    refine rw_.get j _ ?_
    have : (cellsOf strA xs)[j * 1 + 0]? = some (.string x) := hg
    simpa using this) hx.lt (by omega) hle hl
  refine h.mono ?_
  rintro e' w' ⟨rfl, hb⟩
  exact ⟨congrArg (fun z => Ending.returned (.string z)) e, hb⟩
theorem c_joinZ (xs : List ByteArray) (z : ByteArray) (hz : joinB 32 xs = z) (b n c : Nat) (cur : Array Value) (w : World) (hx : BX w b 9 cur) (rw_ : Rw cur n c 1 (cellsOf strA xs)) (hn : n = xs.length) (hq : xs.length ≤ 1000) (hlen : z.size ≤ 1000000) :
    Calls Tryd.prog 29 #[.slice (some ⟨b, 0, none⟩) n c, .string ⟨#[32]⟩] w fun e w' => e = .returned (.string z) ∧ Below w.heap.size w w' := by
  subst hz
  exact c_join xs b n c cur w hx rw_ hn hq hlen
theorem Ru.g0 (r : Ru) (h : ruOk r = true) : r.arr[0]? = some (.int .i64 ((r.at_.toNat : Nat) : Int)) := by
  show some (Value.int .i64 r.at_) = _; rw [Int.toNat_of_nonneg (ruOk_is h).at0]
theorem Ru.g1 (r : Ru) (h : ruOk r = true) : r.arr[1]? = some (.int .i64 ((r.op.toNat : Nat) : Int)) := by
  show some (Value.int .i64 r.op) = _; rw [Int.toNat_of_nonneg (by have := (ruOk_is h).op0; omega)]
theorem Ru.g2 (r : Ru) (h : ruOk r = true) : r.arr[2]? = some (.int .i64 ((r.num.toNat : Nat) : Int)) := by
  show some (Value.int .i64 r.num) = _; rw [Int.toNat_of_nonneg (ruOk_is h).num0]
theorem Ru.g3 (r : Ru) (h : ruOk r = true) : r.arr[3]? = some (.int .i64 ((r.ver.toNat : Nat) : Int)) := by
  show some (Value.int .i64 r.ver) = _; rw [Int.toNat_of_nonneg (ruOk_is h).ver0]
theorem Ru.g4 (r : Ru) (h : ruOk r = true) : r.arr[4]? = some (.int .i64 ((r.key.toNat : Nat) : Int)) := by
  show some (Value.int .i64 r.key) = _; rw [Int.toNat_of_nonneg (ruOk_is h).key0]
theorem body_le {r : Ru} (h : ruOk r = true) : (bodyRu r).size ≤ 99 := by
  have h1 := lineRu_le h
  rw [line_body h, ByteArray.size_append] at h1
  have : NL.size = 1 := rfl
  omega
section
variable {P : Program} {ops : Array Oper} {Q : Exit → Act → World → Prop} {w w0 : World} {S : List Nat} {L Ls : List (Nat × Ent)} {a : Act}
  {n : Nat} {d : List Deferred} {env : List (Nat × Value)} {fuel : Nat} {listed : Array Bool}
/-- The one that comes up: a row built. -/
theorem wh_build {i : Nat} {op : Oper} (hr : Region.ready .any ops listed = [i]) (hi : ops[i]? = some op) (he : EV a n d env) (hm : MM S w0 w L) (key : Nat) (hk : L.lookup key = none) (hd : op.dst.all (· < n) = true) (hw : Region.wanted op (yielded ops a.tmps) = true)
    (T : TypeId) (len : Nat) (parts : Array (Nat × Operand)) (ho : op.op = .buildSlice T len parts) (vs : Array (Nat × Value)) (hx : parts.map (fun (i, x) => (i, a.eval x)) = vs) (e : TypeId) (A : Array Value)
    (hrun : ∀ w, (Instr.buildSlice T len vs).run P w = .ok (.slice (some ⟨w.heap.size, 0, none⟩) len len) (w.alloc (.cells A e))) (hS : ∀ b, SubL ((key, ⟨true, b, e, A⟩) :: L) Ls)
    (k : ∀ a' w' b, EV a' n d (putE env op.dst (.slice (some ⟨b, 0, none⟩) len len)) → MM S w0 w' ((key, ⟨true, b, e, A⟩) :: L) → wpAnyH P .any ops Q (fun w' => MM S w0 w' Ls) fuel (listed.setIfInBounds i true) a' w') : wpAnyH P .any ops Q (fun w' => MM S w0 w' Ls) (fuel + 1) listed a w := by
  refine wh_one hr hi hw fun K hK => ?_
  unfold Oper.wp
  have : (execOp a.eval op).run P w = .ok (.value (.slice (some ⟨w.heap.size, 0, none⟩) len len)) (w.alloc (.cells A e)) := by
    unfold execOp
    simp only [ho, hx, Sem.run_bind, hrun]; rfl
  rw [this]
  have hm' := hm.alloc key e A hk
  exact hK _ _ (hm'.sub Ls (hS _)) (k _ _ _ (he.putO _ _ hd) hm')
end
end Go.Proofs.YtkaekiodjjhjkaaDoor
