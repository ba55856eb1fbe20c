/- The law of TableNext, drawn. -/
import Derived.Test.YtahbicegmioplaaDL
namespace Go.Proofs.Ytahbicegmioplaa
open Go.RowKit
set_option linter.unusedVariables false
set_option linter.unusedSimpArgs false


theorem fold_best (key : Int) : ∀ (ks : List Int) (m : Int), (∀ x ∈ ks, 0 ≤ x) → (m < 0 ∨ key < m) →
    (ks.foldl (stepN key) m < 0 → m < 0 ∧ ∀ x ∈ ks, x ≤ key) ∧ (0 ≤ ks.foldl (stepN key) m → (ks.foldl (stepN key) m = m ∨ ks.foldl (stepN key) m ∈ ks) ∧ key < ks.foldl (stepN key) m ∧ (0 ≤ m → ks.foldl (stepN key) m ≤ m) ∧ ∀ x ∈ ks, key < x → ks.foldl (stepN key) m ≤ x)
  | [], m, _, hm => by
    refine ⟨fun h => ⟨h, fun x hx => by simp at hx⟩, fun h => ⟨.inl rfl, ?_, fun _ => Int.le_refl _, fun x hx => by simp at hx⟩⟩
    simp only [List.foldl_nil] at *
    omega
  | x :: ks, m, h0, hm => by
    have hx := h0 x (by simp)
    have ih := fold_best key ks (stepN key m x) (fun y hy => h0 y (by simp [hy])) (by unfold stepN; split <;> omega)
    rw [List.foldl_cons]
    generalize ks.foldl (stepN key) (stepN key m x) = b at *
    have hs : (key < x ∧ (m < 0 ∨ x < m) ∧ stepN key m x = x) ∨ (¬ (key < x ∧ (m < 0 ∨ x < m)) ∧ stepN key m x = m) := by
      unfold stepN
      split
      · rename_i h; exact .inl ⟨h.1, h.2, rfl⟩
      · rename_i h; exact .inr ⟨h, rfl⟩
    generalize stepN key m x = m2 at *
    refine ⟨fun hb => ?_, fun hb => ?_⟩
    · obtain ⟨h1, h2⟩ := ih.1 hb
      refine ⟨by omega, fun y hy => ?_⟩
      rcases List.mem_cons.1 hy with rfl | hy
      · omega
      · exact h2 y hy
    · obtain ⟨h1, h2, h3, h4⟩ := ih.2 hb
      refine ⟨?_, h2, by omega, fun y hy hk => ?_⟩
      · rcases h1 with h1 | h1
        · rcases hs with ⟨_, _, e⟩ | ⟨_, e⟩
          · exact .inr (by rw [h1, e]; simp)
          · exact .inl (by omega)
        · exact .inr (by simp [h1])
      · rcases List.mem_cons.1 hy with rfl | hy
        · omega
        · exact h4 y hy hk
theorem best_cases (ks : List Int) (key : Int) (h0 : ∀ x ∈ ks, 0 ≤ x) : (bestN ks key < 0 ∧ ∀ x ∈ ks, x ≤ key) ∨ (0 ≤ bestN ks key ∧ bestN ks key ∈ ks ∧ key < bestN ks key ∧ ∀ x ∈ ks, key < x → bestN ks key ≤ x) := by
  have h := fold_best key ks (-1) h0 (.inl (by omega))
  unfold bestN
  generalize ks.foldl (stepN key) (-1) = b at *
  by_cases hb : b < 0
  · exact .inl ⟨hb, (h.1 hb).2⟩
  · obtain ⟨h1, h2, _, h4⟩ := h.2 (by omega)
    refine .inr ⟨by omega, ?_, h2, h4⟩
    rcases h1 with h1 | h1
    · omega
    · exact h1
/-- How many keys are not more. -/
def cnt (ks : List Int) (a : Int) : Nat := ks.countP fun x => decide (x ≤ a)
theorem cnt_next {a b : Int} : ∀ {ks : List Int}, a < b → (∀ x ∈ ks, a < x → b ≤ x) → ks.Pairwise (· ≠ ·) → (b ∈ ks → cnt ks b = cnt ks a + 1) ∧ (b ∉ ks → cnt ks b = cnt ks a)
  | [], _, _, _ => by simp [cnt]
  | x :: ks, hab, hm, hp => by
    have ih := cnt_next hab (fun y hy => hm y (by simp [hy])) (List.pairwise_cons.1 hp).2
    have hx := hm x (by simp)
    have hn := (List.pairwise_cons.1 hp).1
    simp only [cnt, List.countP_cons] at *
    by_cases e : x = b
    · subst e
      have hni : x ∉ ks := fun h => hn x h rfl
      have := ih.2 hni
      refine ⟨fun _ => ?_, fun h => absurd (by simp) h⟩
      have e1 : decide (x ≤ x) = true := by simp
      have e2 : decide (x ≤ a) = false := by simp; omega
      rw [e1, e2]
      simp only [if_true, if_false, Bool.false_eq_true]
      omega
    · have e3 : decide (x ≤ b) = decide (x ≤ a) := by
        by_cases h : x ≤ a
        · simp [h]; omega
        · simp [h]; have := hx (by omega); omega
      rw [e3]
      refine ⟨fun h => ?_, fun h => ?_⟩
      · have := ih.1 (by rcases List.mem_cons.1 h with h | h; exact absurd h.symm e; exact h)
        omega
      · have := ih.2 (fun h' => h (by simp [h']))
        omega
theorem cnt_none {ks : List Int} {a : Int} (h : ∀ x ∈ ks, a < x) : cnt ks a = 0 := by
  unfold cnt
  rw [List.countP_eq_zero]
  intro x hx
  have := h x hx
  simp
  omega
theorem cnt_all {ks : List Int} {a : Int} (h : ∀ x ∈ ks, x ≤ a) : cnt ks a = ks.length := by
  unfold cnt
  rw [List.countP_eq_length]
  intro x hx
  have := h x hx
  simpa using this
theorem cnt_le (ks : List Int) (a : Int) : cnt ks a ≤ ks.length := List.countP_le_length
theorem ok_keys {k s r : Int} {ks : List Int} {vs : List ByteArray} (h : OkP k s r ks vs) : (∀ x ∈ ks, 0 ≤ x) ∧ ks.Pairwise (· ≠ ·) := by
  have hg := h.good
  constructor
  · intro x hx
    obtain ⟨i, hi, rfl⟩ := List.getElem_of_mem hx
    have := hg.num i hi hi
    simp [inB] at this
    omega
  · rw [List.pairwise_iff_getElem]
    intro i j hi hj hij
    exact hg.once j hj hj i hij
theorem look_mem {k s r : Int} {ks : List Int} {vs : List ByteArray} {b : Int} (hok : okB k s r ks vs = true) (hb : b ∈ ks) : ∃ x, lookT k s r ks vs b = (x, true) := by
  have hl := (shape2_len (okB_true.1 hok).shape).1
  unfold lookT
  rw [if_pos hok]
  rcases atI_cases ks b with ⟨_, hno⟩ | ⟨i, hi, _, hthere, hno⟩
  · obtain ⟨i, hi, rfl⟩ := List.getElem_of_mem hb
    have := hno i hi
    simp at this
  · exact ⟨_, look_there hl hi hthere hno⟩

set_option maxRecDepth 100000 in
set_option maxHeartbeats 4000000 in
theorem law_fnTableNext (w : World) (a : Option Addr) (len cap : Nat) (hc : len ≤ cap) (hs : Src w a len) (hl : cap < 2 ^ 63) :
    Calls Try.prog 6 #[.slice a len cap] w fun e w' => e = .returned (.bool true) ∧ Below w.heap.size w w' := by
  have HS := hid hs
  clear hs
  go_enter Try.func6, Try.ntmps6
  go_wp2_with fail
  · go_ret
    exact ⟨rfl, Below.refl _ _⟩
  refine (drawNext_s w a len cap hc HS.out hl).mono ?_
  rintro e w1 ⟨k, s, r, ks, vs, a1, b1, c1, d1, key, rfl, hr, hk0, hv0, hb1⟩
  have bel1 := hid hb1
  have rT1 := hid hr
  have hk : ks.length ≤ 1048576 := by omega
  have hv : vs.length ≤ 1048576 := by omega
  clear hb1 hr
  cases hok : okB k s r ks vs
  · have HOK := hid hok
    have HL : Hid (nextT k s r ks vs key = (-1, false)) := by show nextT k s r ks vs key = _; unfold nextT; rw [hok]; rfl
    clear hok
    go_wp2_with fail
    have bm2 := hid (TB.new rT1.out k s r)
    have bel2 := hid (bel1.out.alloc bel1.out.size (.cells #[.int .i64 k, .int .i64 s, .int .i64 r, .slice a1 ks.length c1, .slice b1 vs.length d1] 28))
    have lem := bel1.out.size
    clear rT1 bel1
    generalize w1.alloc (.cells #[.int .i64 k, .int .i64 s, .int .i64 r, .slice a1 ks.length c1, .slice b1 vs.length d1] 28) = w2 at *
    generalize w1.heap.size = m at *
    refine (next_o k s r ks vs a1 b1 c1 d1 key _ bm2.out.rw hk hv).mono ?_
    rw [HL.out]
    dsimp only
    rintro e w3 ⟨rfl, hb3⟩
    have bm3 := hid (bm2.out.below hb3)
    have bel3 := hid (bel2.out.to hb3)
    clear bm2 bel2 hb3
    obtain ⟨cm0, cm1, cm2, cm3, cm4⟩ := bm3.out.cl
    have cml := bm3.out.lt
    go_wp2_with fail
    clear cm0 cm1 cm2 cm3 cm4 cml
    refine (snext_o k s r ks vs a1 b1 c1 d1 key _ bm3.out.rw hk hv).mono ?_
    rw [HL.out]
    dsimp only
    rintro e w4 ⟨rfl, hb4⟩
    have bm4 := hid (bm3.out.below hb4)
    have bel4 := hid (bel3.out.to hb4)
    clear bm3 bel3 hb4
    obtain ⟨cm0, cm1, cm2, cm3, cm4⟩ := bm4.out.cl
    have cml := bm4.out.lt
    go_wp2_with fail
    clear cm0 cm1 cm2 cm3 cm4 cml
    refine (ok_o k s r ks vs a1 b1 c1 d1 _ bm4.out.rw hk hv).mono ?_
    rw [HOK.out]
    rintro e w5 ⟨rfl, hb5⟩
    have bm5 := hid (bm4.out.below hb5)
    have bel5 := hid (bel4.out.to hb5)
    clear bm4 bel4 hb5
    go_wp2_with fail
    go_ret
    exact ⟨rfl, bel5.out⟩
  · have HLN := hid (shape2_len (okB_true.1 hok).shape).1
    obtain ⟨hpos, hpw⟩ := ok_keys (okB_true.1 hok)
    have HZ : Hid (cnt ks (-1) = 0) := cnt_none (fun x hx => by have := hpos x hx; omega)
    obtain ⟨n, q, hnq, hkn⟩ : ∃ n q, nextT k s r ks vs key = (n, q) ∧ (q = true → key < n) := by
      refine ⟨bestN ks key, decide (0 ≤ bestN ks key), by unfold nextT; rw [hok]; rfl, fun h => ?_⟩
      rcases best_cases ks key hpos with ⟨h0, _⟩ | ⟨_, _, h1, _⟩
      · simp at h; omega
      · exact h1
    have HKN := hid hkn
    have HL := hid hnq
    have HOK := hid hok
    have HPOS := hid hpos
    have HPW := hid hpw
    clear hok hnq hkn hpos hpw
    go_wp2_with fail
    have bm2 := hid (TB.new rT1.out k s r)
    have bel2 := hid (bel1.out.alloc bel1.out.size (.cells #[.int .i64 k, .int .i64 s, .int .i64 r, .slice a1 ks.length c1, .slice b1 vs.length d1] 28))
    have lem := bel1.out.size
    clear rT1 bel1
    generalize w1.alloc (.cells #[.int .i64 k, .int .i64 s, .int .i64 r, .slice a1 ks.length c1, .slice b1 vs.length d1] 28) = w2 at *
    generalize w1.heap.size = m at *
    refine (next_o k s r ks vs a1 b1 c1 d1 key _ bm2.out.rw hk hv).mono ?_
    rw [HL.out]
    dsimp only
    rintro e w3 ⟨rfl, hb3⟩
    have bm3 := hid (bm2.out.below hb3)
    have bel3 := hid (bel2.out.to hb3)
    clear bm2 bel2 hb3
    obtain ⟨cm0, cm1, cm2, cm3, cm4⟩ := bm3.out.cl
    have cml := bm3.out.lt
    go_wp2_with fail
    clear cm0 cm1 cm2 cm3 cm4 cml
    refine (snext_o k s r ks vs a1 b1 c1 d1 key _ bm3.out.rw hk hv).mono ?_
    rw [HL.out]
    dsimp only
    rintro e w4 ⟨rfl, hb4⟩
    have bm4 := hid (bm3.out.below hb4)
    have bel4 := hid (bel3.out.to hb4)
    clear bm3 bel3 hb4
    obtain ⟨cm0, cm1, cm2, cm3, cm4⟩ := bm4.out.cl
    have cml := bm4.out.lt
    go_wp2_with fail
    clear cm0 cm1 cm2 cm3 cm4 cml
    refine (ok_o k s r ks vs a1 b1 c1 d1 _ bm4.out.rw hk hv).mono ?_
    rw [HOK.out]
    rintro e w5 ⟨rfl, hb5⟩
    have bm5 := hid (bm4.out.below hb5)
    have bel5 := hid (bel4.out.to hb5)
    clear bm4 bel4 hb5
    obtain ⟨cm0, cm1, cm2, cm3, cm4⟩ := bm5.out.cl
    have cml := bm5.out.lt
    go_wp2_with fail
    clear cm0 cm1 cm2 cm3 cm4 cml
    go_loopw [9, 10] (fun mm aa wr => ∃ at' : Int, mm = .int .i64 (cnt ks at') ∧ aa = .int .i64 at' ∧ TB wr m k s r ks vs a1 b1 c1 d1 ∧ Below w.heap.size w wr) (fun mm _ _ => ks.length - (intOf mm).toNat)
    case atStart => exact ⟨-1, by rw [HZ.out]; rfl, rfl, bm5.out, bel5.out⟩
    case round =>
      clear bm5 bel5
      obtain ⟨at', rfl, rfl, hbm, hbel⟩ := hrel
      have hcl := cnt_le ks at'
      have HN : Hid (nextT k s r ks vs at' = (bestN ks at', decide (0 ≤ bestN ks at'))) := by show nextT k s r ks vs at' = _; unfold nextT; rw [HOK.out]; rfl
      rcases best_cases ks at' HPOS.out with ⟨hb0, hall⟩ | ⟨hb0, hmem, hblt, hmin⟩
      · have hd : decide (0 ≤ bestN ks at') = false := by simp; omega
        rw [hd] at HN
        have hce := cnt_all hall
        have HCE := hid hce
        clear hce hall hd
        generalize bestN ks at' = b at *
        obtain ⟨c0, c1', c2, c3, c4⟩ := hbm.cl
        have cl := hbm.lt
        have HBM := hid hbm
        have HBE := hid hbel
        clear hbm hbel
        rw [HCE.out]
        go_wp2_with fail
        clear c0 c1' c2 c3 c4 cl
        refine (next_o k s r ks vs a1 b1 c1 d1 at' _ HBM.out.rw hk hv).mono ?_
        rw [HN.out]
        dsimp only
        rintro e wx ⟨rfl, hbx⟩
        replace HBM := hid (HBM.out.below hbx)
        replace HBE := hid (HBE.out.to hbx)
        clear hbx
        obtain ⟨c0, c1', c2, c3, c4⟩ := HBM.out.cl
        have cl := HBM.out.lt
        cases q <;> (try have hkn := HKN.out rfl) <;> (go_wp2_with fail; go_ret; exact ⟨rfl, HBE.out⟩)
      · have hd : decide (0 ≤ bestN ks at') = true := by simp; omega
        rw [hd] at HN
        have hcs := (cnt_next hblt hmin HPW.out).1 hmem
        obtain ⟨x, hlx⟩ := look_mem HOK.out hmem
        have hcl2 := cnt_le ks (bestN ks at')
        generalize bestN ks at' = b at *
        have HLX := hid hlx
        have HCS := hid hcs
        have hbl : ¬ (b ≤ at') := by omega
        have hci : (cnt ks at' : Int) ≤ 1048576 := by omega
        have hci0 : (0 : Int) ≤ (cnt ks at' : Int) := by omega
        have hlc : cnt ks at' < ks.length := by omega
        clear hlx hcs hmin hmem hd hcl2
        obtain ⟨c0, c1', c2, c3, c4⟩ := hbm.cl
        have cl := hbm.lt
        have HBM := hid hbm
        have HBE := hid hbel
        clear hbm hbel
        go_wp2_with fail
        clear c0 c1' c2 c3 c4 cl
        refine (next_o k s r ks vs a1 b1 c1 d1 at' _ HBM.out.rw hk hv).mono ?_
        rw [HN.out]
        dsimp only
        rintro e wx ⟨rfl, hbx⟩
        replace HBM := hid (HBM.out.below hbx)
        replace HBE := hid (HBE.out.to hbx)
        clear hbx
        obtain ⟨c0, c1', c2, c3, c4⟩ := HBM.out.cl
        have cl := HBM.out.lt
        go_wp2_with fail
        clear c0 c1' c2 c3 c4 cl
        refine (look_o k s r ks vs a1 b1 c1 d1 b _ HBM.out.rw hk hv).mono ?_
        rw [HLX.out]
        dsimp only
        rintro e wy ⟨rfl, hby⟩
        replace HBM := hid (HBM.out.below hby)
        replace HBE := hid (HBE.out.to hby)
        clear hby
        go_wp2_with fail
        go_roundw
        case rel => exact ⟨b, by rw [HCS.out]; rfl, rfl, HBM.out, HBE.out⟩
        case measure => simp [intOf]; omega
end Go.Proofs.Ytahbicegmioplaa
