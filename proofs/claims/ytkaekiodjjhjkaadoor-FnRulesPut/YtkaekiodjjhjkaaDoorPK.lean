/- Contracts of the draws: a reader of bytes picks a number. -/
import Derived.Test.YtkaekiodjjhjkaaDoorRows
import Derived.WalkKit
import Derived.WalkSpells
import Derived.WalkLawsBesides
import Derived.Deep.QuietTactic
import Derived.BigQuiet
import Derived.Below
import Derived.Test.YtkaekiodjjhjkaaDoorMA
namespace Go.Proofs.YtkaekiodjjhjkaaDoor
open Go.RowKit
set_option linter.unusedVariables false
set_option linter.unusedSimpArgs false

theorem ret_int {k : IntKind} {a b : Int} (h : a = b) : Ending.returned (.int k a) = .returned (.int k b) := by rw [h]

/-- Block B holds a reader: its bytes, and how many were picked. -/
structure Rd (W : World) (B : Nat) (a : Option Addr) (len cap p : Nat) : Prop where
  c0 : W.cell? ⟨B, 0, none⟩ = some (.slice a len cap)
  c1 : W.cell? ⟨B, 1, none⟩ = some (.int .i64 p)
  fr : W.frozen? ⟨B, 1, none⟩ = false
/-- The bytes that it reads lie elsewhere. -/
def Bytes (W : World) (B : Nat) (a : Option Addr) (len : Nat) : Prop :=
  len = 0 ∨ ∃ g off, a = some ⟨g, off, none⟩ ∧ g ≠ B ∧ ∀ j, j < len → ∃ v : Nat, v < 256 ∧ W.cell? ⟨g, off + j, none⟩ = some (.int .u8 v)

/-- What a pick leaves. -/
def Picked (n : Int) (B p : Nat) (w : World) (e : Ending) (w' : World) : Prop :=
  ∃ (m k : Nat), e = .returned (.int .i64 m) ∧ ((m : Int) < n ∨ m = 0) ∧ w' = (w.setCell ⟨B, 1, none⟩ (.int .i64 ((p : Int) + 1))).drewN k

set_option maxRecDepth 100000 in
set_option maxHeartbeats 2000000 in
theorem pick_none (w : World) (B cap p : Nat) (a : Option Addr) (n : Int) (h : Rd w B a 0 cap p) (hp : p ≤ 1000000) (n0 : 1 ≤ n) (n1 : n ≤ 2147483647) :
    Calls Tryd.prog 23 #[.pointer (some ⟨B, 0, none⟩), .int .i64 n] w (Picked n B p w) := by
  obtain ⟨c0, c1, fr⟩ := h
  have p0 : (0 : Int) ≤ p := by omega
  have p1 : (p : Int) ≤ 1000000 := by omega
  go_enter Tryd.func23, Tryd.ntmps23
  go_wp2
  go_ret
  exact ⟨0, 0, rfl, .inr rfl, rfl⟩

set_option maxRecDepth 100000 in
set_option maxHeartbeats 2000000 in
theorem pick_in (w : World) (B cap p len : Nat) (g off : Nat) (v : Nat) (n : Int) (h : Rd w B (some ⟨g, off, none⟩) len cap p) (hp : p ≤ 1000000) (n0 : 1 ≤ n) (n1 : n ≤ 2147483647) (hg : g ≠ B) (hl : p < len) (hv : v < 256) (hl2 : len ≤ 2000) (hc : w.cell? ⟨g, off + p, none⟩ = some (.int .u8 v)) :
    Calls Tryd.prog 23 #[.pointer (some ⟨B, 0, none⟩), .int .i64 n] w (Picked n B p w) := by
  obtain ⟨c0, c1, fr⟩ := h
  have p0 : (0 : Int) ≤ p := by omega
  have p1 : (p : Int) ≤ 1000000 := by omega
  have l0 : (p : Int) < len := by omega
  have l1 : (len : Int) ≤ 2000 := by omega
  have lz : ((len : Int) == 0) = false := by simp; omega
  have hgb : B ≠ g := fun e => hg e.symm
  have v0 : (0 : Int) ≤ v := by omega
  have v1 : (v : Int) < 256 := by omega
  have Hfin : Hid ((v : Int) % n < n ∧ 0 ≤ (v : Int) % n) := ⟨Int.emod_lt_of_pos _ (by omega), Int.emod_nonneg _ (by omega)⟩
  go_enter Tryd.func23, Tryd.ntmps23
  go_wp2
  go_ret
  obtain ⟨h1, h2⟩ := Hfin.out
  exact ⟨((v : Int) % n).toNat, 0, ret_int (by omega), .inl (by omega), rfl⟩

theorem mod_emod (i j : Nat) : (i : Int) % (j : Int) = ((i % j : Nat) : Int) := by simp

theorem wrap64_id {x : Int} (h0 : 0 ≤ x) (h1 : x ≤ 9223372036854775807) : wrap64 x = x := by unfold wrap64; omega
theorem mixed (x : Int) (h0 : 0 ≤ x) (h1 : x ≤ 1000000000000) : 0 ≤ bits .xor .i64 x (wrap64 (x.tdiv 64)) := by
  obtain ⟨X, rfl⟩ := Int.eq_ofNat_of_zero_le h0
  rw [Int.tdiv_eq_ediv_of_nonneg h0, wrap64_id (by omega) (by omega), show (X : Int) / 64 = ((X / 64 : Nat) : Int) by simp, xor_i64 X (X / 64) (by omega) (by omega)]
  omega
theorem picked_num (v u p len : Nat) (n : Int) (hp : p ≤ 1000000) (hv : v < 256) (hu : u < 256) (n0 : 1 ≤ n) :
    ∃ m : Nat, (bits .xor .i64 (wrap64 ((v : Int) * 131 + u * 1117 + p * 29 + wrap64 (wrap64 ((p : Int) / len) * 53))) (wrap64 ((wrap64 ((v : Int) * 131 + u * 1117 + p * 29 + wrap64 (wrap64 ((p : Int) / len) * 53))).tdiv 64))).tmod n = m ∧ (m : Int) < n := by
  have h1 := Nat.div_le_self p len
  have e1 : (p : Int) / len = ((p / len : Nat) : Int) := by simp
  rw [e1]
  generalize p / len = D at *
  rw [wrap64_id (x := (D : Int)) (by omega) (by omega), wrap64_id (x := (D : Int) * 53) (by omega) (by omega), wrap64_id (x := (v : Int) * 131 + u * 1117 + p * 29 + (D : Int) * 53) (by omega) (by omega)]
  have h2 := mixed ((v : Int) * 131 + u * 1117 + p * 29 + (D : Int) * 53) (by omega) (by omega)
  generalize bits .xor .i64 ((v : Int) * 131 + u * 1117 + p * 29 + (D : Int) * 53) (wrap64 (((v : Int) * 131 + u * 1117 + p * 29 + (D : Int) * 53).tdiv 64)) = E at *
  rw [Int.tmod_eq_emod_of_nonneg h2]
  have h3 : E % n < n := Int.emod_lt_of_pos _ (by omega)
  have h4 : 0 ≤ E % n := Int.emod_nonneg _ (by omega)
  exact ⟨(E % n).toNat, by omega, by omega⟩

set_option maxRecDepth 100000 in
set_option maxHeartbeats 4000000 in
theorem pick_out (w : World) (B cap p len : Nat) (g off : Nat) (v u : Nat) (n : Int) (h : Rd w B (some ⟨g, off, none⟩) len cap p) (hp : p ≤ 1000000) (n0 : 1 ≤ n) (n1 : n ≤ 2147483647) (hg : g ≠ B) (hl0 : 0 < len) (hl : len ≤ p) (hv : v < 256) (hu : u < 256) (hl2 : len ≤ 2000)
    (hc : w.cell? ⟨g, off + p % len, none⟩ = some (.int .u8 v)) (hd : w.cell? ⟨g, off + (p * 7 + 3) % len, none⟩ = some (.int .u8 u)) :
    Calls Tryd.prog 23 #[.pointer (some ⟨B, 0, none⟩), .int .i64 n] w (Picked n B p w) := by
  obtain ⟨c0, c1, fr⟩ := h
  have p0 : (0 : Int) ≤ p := by omega
  have p1 : (p : Int) ≤ 1000000 := by omega
  have l0 : (len : Int) ≤ p := by omega
  have l1 : (len : Int) ≤ 2000 := by omega
  have l2 : (0 : Int) < len := by omega
  have lz : ((len : Int) == 0) = false := by simp; omega
  have hgb : B ≠ g := fun e => hg e.symm
  have v0 : (0 : Int) ≤ v := by omega
  have v1 : (v : Int) < 256 := by omega
  have u0 : (0 : Int) ≤ u := by omega
  have u1 : (u : Int) < 256 := by omega
  have Hfin := hid (picked_num v u p len n hp hv hu n0)
  have i1 : p % len < len := Nat.mod_lt _ hl0
  have i2 : (p * 7 + 3) % len < len := Nat.mod_lt _ hl0
  have i1' : (p : Int) % len < len := by rw [mod_emod]; omega
  have i1z : (0 : Int) ≤ (p : Int) % len := by rw [mod_emod]; omega
  have i2' : ((p : Int) * 7 + 3) % len < len := Int.emod_lt_of_pos _ l2
  have i2z : (0 : Int) ≤ ((p : Int) * 7 + 3) % len := Int.emod_nonneg _ (by omega)
  go_enter Tryd.func23, Tryd.ntmps23
  go_wp2_with fail
  go_quiet (fail)
  go_wp2
  go_ret
  obtain ⟨m, h1, h2⟩ := Hfin.out
  exact ⟨m, nq, ret_int h1, .inl h2, rfl⟩

theorem pick_c (w : World) (B cap p len : Nat) (a : Option Addr) (n : Int) (h : Rd w B a len cap p) (hb : Bytes w B a len) (hp : p ≤ 1000000) (n0 : 1 ≤ n) (n1 : n ≤ 2147483647) (hl : len ≤ 2000) :
    Calls Tryd.prog 23 #[.pointer (some ⟨B, 0, none⟩), .int .i64 n] w (Picked n B p w) := by
  rcases hb with rfl | ⟨g, off, rfl, hg, hc⟩
  · exact pick_none w B cap p a n h hp n0 n1
  · by_cases hz : len = 0
    · subst hz; exact pick_none w B cap p _ n h hp n0 n1
    · by_cases hlt : p < len
      · obtain ⟨v, hv, hcv⟩ := hc p hlt
        exact pick_in w B cap p len g off v n h hp n0 n1 hg hlt hv hl hcv
      · obtain ⟨v, hv, hcv⟩ := hc (p % len) (Nat.mod_lt _ (by omega))
        obtain ⟨u, hu, hcu⟩ := hc ((p * 7 + 3) % len) (Nat.mod_lt _ (by omega))
        exact pick_out w B cap p len g off v u n h hp n0 n1 hg (by omega) (by omega) hv hu hl hcv hcu
end Go.Proofs.YtkaekiodjjhjkaaDoor
