/- ProgPut of the specification and of the program; the walk of the law. -/
import Derived.Test.YthholhabgdpndaaToS2
namespace Go.Proofs.Ythholhabgdpndaa
open Go.RowKit
set_option linter.unusedSimpArgs false

def I6.put (x : I6) : ByteArray := putS x.o x.d x.s x.f x.i x.z
def catS (xs : List I6) : ByteArray := xs.foldl (fun s x => s ++ x.put) ⟨#[]⟩
def progS (xs : List I6) : ByteArray := if formN xs = 0 then catS xs else ⟨#[]⟩

theorem put_size (x : I6) : x.put.size = 8 := by simp [I6.put, putS, strOfNums_size, headN, fourN]
theorem cat_snoc (xs : List I6) (k : Nat) (h : k < xs.length) : catS (xs.take (k + 1)) = catS (xs.take k) ++ xs[k].put := by
  rw [List.take_succ_eq_append_getElem h, catS, List.foldl_append]; rfl
theorem cat_size (xs : List I6) : (catS xs).size = 8 * xs.length := by
  have : ∀ (xs : List I6) (s : ByteArray), (xs.foldl (fun s x => s ++ x.put) s).size = s.size + 8 * xs.length := by
    intro xs
    induction xs with
    | nil => intro s; simp
    | cons x xs ih => intro s; rw [List.foldl_cons, ih, ByteArray.size_append, put_size]; simp; omega
  have h := this xs ⟨#[]⟩
  unfold catS
  rw [h]
  show 0 + _ = _
  omega
theorem form_small {xs : List I6} (h : formN xs = 0) : xs.length ≤ 48 := by
  unfold formN at h
  split at h
  · split at h
    · cases h
    · omega
  · contradiction
theorem form_ok {xs : List I6} (h : formN xs = 0) : ∀ k (hk : k < xs.length), xs[k].ok = true := by
  have h0 : firstBad xs.length 0 xs = 0 := by
    unfold formN at h
    split at h
    · assumption
    · contradiction
  have gen : ∀ (ys : List I6) (n : Int) (j : Nat), firstBad n j ys = 0 → ∀ k (hk : k < ys.length), ys[k].ok = true := by
    intro ys
    induction ys with
    | nil => intro n j _ k hk; simp at hk
    | cons y ys ih =>
      intro n j hb k hk
      rw [firstBad] at hb
      by_cases hy : badN n j y = 0
      · rw [if_pos hy] at hb
        match k with
        | 0 =>
          cases hok : y.ok
          · rw [bad_ok hok] at hy; cases hy
          · simpa using hok
        | k + 1 => simpa using ih n (j + 1) hb k (by simpa using hk)
      · rw [if_neg hy] at hb; exact absurd hb hy
  exact gen xs _ 0 h0

set_option maxRecDepth 100000 in
set_option maxHeartbeats 2000000 in
theorem f22 (xs : List I6) (b p cap : Nat) (w : World) (hr : InsRow w b p xs) (hn : xs.length ≤ 1048576) (hb : b < w.heap.size) :
    Calls Try.prog 18 #[.slice (some ⟨b, p, none⟩) xs.length cap] w fun e w' => e = .returned (.string (progS xs)) ∧ Below w.heap.size w w' := by
  by_cases hf : formN xs = 0
  · have hsm := form_small hf
    have HF : Hid _ := hf
    have hf' : (formN xs != 0) = false := by simp [hf]
    clear hf
    go_enter Try.func18, Try.ntmps18
    go_wp2_with fail
    refine (f36 xs _ _ _ _ hr hn hb).mono ?_
    rintro e w1 ⟨rfl, hb1⟩
    go_wp2_with fail
    go_loopw [3, 4] (fun s i wr => ∃ k : Nat, k ≤ xs.length ∧ i = .int .i64 k ∧ s = .string (catS (xs.take k)) ∧ Below w.heap.size w wr) (fun _ i _ => xs.length - (intOf i).toNat)
    case atStart => exact ⟨0, Nat.zero_le _, rfl, rfl, hb1⟩
    case round =>
      obtain ⟨k, hk, rfl, rfl, hbw⟩ := hrel
      by_cases hlt : k < xs.length
      · have hlt' : (k : Int) < (xs.length : Int) := by omega
        obtain ⟨x, hx⟩ : ∃ x, x = xs[k] := ⟨_, rfl⟩
        obtain ⟨h0, h1, h2, h3, h4, h5⟩ := (hr k hlt).below hbw hb
        rw [← hx] at h0 h1 h2 h3 h4 h5
        have hs := cat_snoc xs k hlt
        rw [← hx] at hs
        have HS : Hid _ := hs
        have hz := cat_size (xs.take k)
        rw [List.length_take, Nat.min_eq_left hk] at hz
        have hq : (putS x.o x.d x.s x.f x.i x.z).size = 8 := put_size x
        obtain ⟨S, hS⟩ : ∃ S, S = catS (xs.take k) := ⟨_, rfl⟩
        rw [← hS] at hz
        have HSS : Hid _ := hS
        rw [← hS]
        clear hx hs hS
        go_wp2_with fail
        refine (f34 _ _ _ _ _ _ _).mono ?_
        rintro e w2 ⟨rfl, hb2⟩
        have hbig : ¬ (9223372036854775807 : Int) < (S.size : Int) + ((putS x.o x.d x.s x.f x.i x.z).size : Int) := by omega
        have hbig' : ¬ (9223372036854775807 : Nat) < S.size + (putS x.o x.d x.s x.f x.i x.z).size := by omega
        go_wp2_with fail
        exact ⟨⟨k + 1, by omega, by go_num, congrArg Value.string (by rw [HS.out, ← HSS.out]; rfl), hbw.trans (hb2.mono hbw.size)⟩, by simp [intOf]; omega⟩
      · obtain rfl : k = xs.length := by omega
        go_wp2_with fail
        go_ret
        exact ⟨ret_string (by rw [List.take_length, progS, if_pos HF.out]), hbw⟩
  · have hf' : (formN xs != 0) = true := by simp [hf]
    have HF : Hid _ := hf
    clear hf
    go_enter Try.func18, Try.ntmps18
    go_wp2_with fail
    refine (f36 xs _ _ _ _ hr hn hb).mono ?_
    rintro e w1 ⟨rfl, hb1⟩
    go_wp2_with fail
    go_ret
    exact ⟨ret_string (by rw [progS, if_neg HF.out]), hb1⟩

set_option maxRecDepth 100000 in
set_option maxHeartbeats 2000000 in
theorem f23 (xs : List I6) (b p cap : Nat) (w : World) (hr : InsRow w b p xs) (hn : xs.length ≤ 1048576) (hb : b < w.heap.size) :
    Calls Try.prog 17 #[.slice (some ⟨b, p, none⟩) xs.length cap] w fun e w' => e = .returned (.string (progS xs)) ∧ Below w.heap.size w w' := by
  by_cases hf : formN xs = 0
  · have hsm := form_small hf
    have HF : Hid _ := hf
    have hf' : (formN xs != 0) = false := by simp [hf]
    clear hf
    go_enter Try.func17, Try.ntmps17
    go_wp2_with fail
    refine (f20 xs _ _ _ _ hr hn hb).mono ?_
    rintro e w1 ⟨rfl, hb1⟩
    go_wp2_with fail
    go_loopw [3, 11] (fun s i wr => ∃ k : Nat, k ≤ xs.length ∧ i = .int .i64 k ∧ s = .string (catS (xs.take k)) ∧ Below w.heap.size w wr) (fun _ i _ => xs.length - (intOf i).toNat)
    case atStart => exact ⟨0, Nat.zero_le _, rfl, rfl, hb1⟩
    case round =>
      obtain ⟨k, hk, rfl, rfl, hbw⟩ := hrel
      by_cases hlt : k < xs.length
      · have hlt' : (k : Int) < (xs.length : Int) := by omega
        obtain ⟨x, hx⟩ : ∃ x, x = xs[k] := ⟨_, rfl⟩
        obtain ⟨h0, h1, h2, h3, h4, h5⟩ := (hr k hlt).below hbw hb
        rw [← hx] at h0 h1 h2 h3 h4 h5
        have hs := cat_snoc xs k hlt
        rw [← hx] at hs
        have HS : Hid _ := hs
        have hok := form_ok HF.out k hlt
        rw [← hx] at hok
        have hins : insS x.o x.d x.s x.f x.i x.z = putS x.o x.d x.s x.f x.i x.z := by unfold insS; exact if_pos hok
        have HIN : Hid _ := hins
        have hz := cat_size (xs.take k)
        rw [List.length_take, Nat.min_eq_left hk] at hz
        have hq : (putS x.o x.d x.s x.f x.i x.z).size = 8 := put_size x
        obtain ⟨S, hS⟩ : ∃ S, S = catS (xs.take k) := ⟨_, rfl⟩
        rw [← hS] at hz
        have HSS : Hid _ := hS
        rw [← hS]
        clear hx hs hS hok hins
        go_wp2_with fail
        refine (f13 _ _ _ _ _ _ _).mono ?_
        rintro e w2 ⟨rfl, hb2⟩
        rw [HIN.out]
        have hbig : ¬ (9223372036854775807 : Int) < (S.size : Int) + ((putS x.o x.d x.s x.f x.i x.z).size : Int) := by omega
        have hbig' : ¬ (9223372036854775807 : Nat) < S.size + (putS x.o x.d x.s x.f x.i x.z).size := by omega
        go_wp2_with fail
        exact ⟨⟨k + 1, by omega, by go_num, congrArg Value.string (by rw [HS.out, ← HSS.out]; rfl), (hbw.alloc hbw.size _).trans (hb2.mono (by simp; have := hbw.size; omega))⟩, by simp [intOf]; omega⟩
      · obtain rfl : k = xs.length := by omega
        go_wp2_with fail
        go_ret
        exact ⟨ret_string (by rw [List.take_length, progS, if_pos HF.out]), hbw⟩
  · have hf' : (formN xs != 0) = true := by simp [hf]
    have HF : Hid _ := hf
    clear hf
    go_enter Try.func17, Try.ntmps17
    go_wp2_with fail
    refine (f20 xs _ _ _ _ hr hn hb).mono ?_
    rintro e w1 ⟨rfl, hb1⟩
    go_wp2_with fail
    go_ret
    exact ⟨ret_string (by rw [progS, if_neg HF.out]), hb1⟩

end Go.Proofs.Ythholhabgdpndaa
