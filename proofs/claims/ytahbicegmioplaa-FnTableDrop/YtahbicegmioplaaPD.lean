/- Plain mathematics of drops. -/
import Derived.Test.YtahbicegmioplaaDV
import Derived.Test.YtahbicegmioplaaPF
namespace Go.Proofs.Ytahbicegmioplaa
open Go.RowKit
set_option linter.unusedVariables false
set_option linter.unusedSimpArgs false

theorem sdrop_o (k s r : Int) (ks : List Int) (vs : List ByteArray) (a b : Option Addr) (c d : Nat) (key : Int) (w : World) (h : RW w ks vs a b c d) (hk : ks.length ≤ 1048576) (hv : vs.length ≤ 1048576) :
    Calls Try.prog 22 #[.agg #[.int .i64 k, .int .i64 s, .int .i64 r, .slice a ks.length c, .slice b vs.length d], .int .i64 key] w fun e w' => ∃ a' b' c' d', e = .returned (.tuple #[.agg #[.int .i64 (dropT k s r ks vs key).1.k, .int .i64 (dropT k s r ks vs key).1.s, .int .i64 (dropT k s r ks vs key).1.r, .slice a' (dropT k s r ks vs key).1.ks.length c', .slice b' (dropT k s r ks vs key).1.vs.length d'], .bool (dropT k s r ks vs key).2]) ∧ RW w' (dropT k s r ks vs key).1.ks (dropT k s r ks vs key).1.vs a' b' c' d' ∧ Below w.heap.size w w' := by
  have caps : ∀ {e n cc : Nat} {x : Option Addr} {xs : List Value}, w.ownsRow 0 e 1 (.slice x n cc) n xs → n ≤ cc ∧ cc ≤ maxLen := by
    intro e n cc x xs h
    rcases h.2 with ⟨h1, rfl⟩ | ⟨g, cp, cur, h1, _, _, h2, h3, _⟩
    · simp only [Value.slice.injEq] at h1
      exact ⟨Nat.zero_le _, by rw [h1.2.2]; exact Nat.zero_le _⟩
    · simp only [Value.slice.injEq] at h1
      rw [h1.2.2]
      exact ⟨h2, h3⟩
  refine (f22s k s r ks vs a b c d key w (SlV.own h.1) (SlV.own h.2) (caps h.1).1 (caps h.2).1 (caps h.1).2 (caps h.2).2 hk hv).mono ?_
  rintro e w' ⟨V, rfl, ht, hb⟩
  obtain ⟨a', b', c', d', rfl, hr⟩ := Tab.rw ht
  exact ⟨a', b', c', d', rfl, hr, hb⟩

theorem put_len (ps : List Pr) (key : Int) (val : ByteArray) : (putP ps key val).length = if anyK ps key = true then ps.length else ps.length + 1 := by
  unfold putP
  split
  · rw [putO_length]
  · rw [List.length_append, putO_length]; rfl
/-- A put that can be: what it makes. -/
theorem put_yes {k s r : Int} {ks : List Int} {vs : List ByteArray} {key : Int} {val : ByteArray} (hok : okB k s r ks vs = true) (hc : codeI k s r ks key val = 0) :
    ∃ KS VS, PutF k s r ks vs key val KS VS ∧ KS.length = if key ∈ ks then ks.length else ks.length + 1 := by
  have hl := (shape2_len (okB_true.1 hok).shape).1
  rcases put_cases k s r ks vs key val hok with ⟨KS, VS, h⟩ | ⟨C, hC, h⟩
  · refine ⟨KS, VS, h, ?_⟩
    have e := h.eq
    unfold putT at e
    rw [if_pos hok, if_pos hc] at e
    simp only [TR.mk.injEq] at e
    rw [← e.2.2.2.1, List.length_map, put_len]
    simp only [anyK_mem hl, List.length_zip]
    split <;> omega
  · unfold putT at h
    rw [if_pos hok, if_pos hc] at h
    simp only [TR.mk.injEq] at h
    have := h.2.2.2.2.2
    subst this
    simp at hC
theorem code_in {k s r : Int} {ks : List Int} {key : Int} {val : ByteArray} (h1 : inB key 0 4294967295 = true) (h2 : (val.size : Int) = s) (h3 : key ∈ ks ∨ (k ≠ 1 ∧ (ks.length : Int) ≠ r)) : codeI k s r ks key val = 0 := by
  unfold codeI
  rw [if_neg (by simp [h1, h2])]
  split
  · rfl
  · rename_i h
    rcases h3 with h3 | ⟨h3, h4⟩
    · exact absurd h3 h
    · rw [if_neg h3, if_neg h4]
theorem ok_filter {k s r : Int} {ks : List Int} {vs : List ByteArray} (key : Int) (h : OkP k s r ks vs) (hk : k ≠ 1) : OkP k s r ((dropP (ks.zip vs) key).map Prod.fst) ((dropP (ks.zip vs) key).map Prod.snd) := by
  have hl := (shape2_len h.shape).1
  have hsh := h.shape
  have hsub : ((dropP (ks.zip vs) key).map Prod.fst).Sublist ks := by
    have := (List.filter_sublist (l := ks.zip vs) (p := fun x => x.1 != key)).map Prod.fst
    rwa [map_fst_zip hl] at this
  have hsubv : ((dropP (ks.zip vs) key).map Prod.snd).Sublist vs := by
    have := (List.filter_sublist (l := ks.zip vs) (p := fun x => x.1 != key)).map Prod.snd
    rwa [map_snd_zip hl] at this
  have hlen := hsub.length_le
  have hle : ((dropP (ks.zip vs) key).map Prod.fst).length = ((dropP (ks.zip vs) key).map Prod.snd).length := by rw [List.length_map, List.length_map]
  have hpw : ks.Pairwise (· ≠ ·) := by
    rw [List.pairwise_iff_getElem]
    intro i j hi hj hij
    exact h.good.once j hj hj i hij
  have hpw2 := List.Pairwise.sublist hsub hpw
  rw [List.pairwise_iff_getElem] at hpw2
  refine ⟨?_, fun e => absurd e hk, ⟨fun i hi hn => ?_, fun i hi hn => ?_, fun e => absurd e hk, fun i hi hn j hj => hpw2 j i (by omega) hi hj⟩⟩
  · simp only [shape2B, Bool.and_eq_true, decide_eq_true_eq, beq_iff_eq] at hsh ⊢
    exact ⟨⟨hsh.1.1, by omega⟩, by omega⟩
  · have hm := hsubv.subset (List.getElem_mem hi)
    obtain ⟨j, hj, e⟩ := List.getElem_of_mem hm
    rw [← e]
    exact h.good.size j hj (by omega)
  · have hm := hsub.subset (List.getElem_mem hi)
    obtain ⟨j, hj, e⟩ := List.getElem_of_mem hm
    rw [← e]
    exact h.good.num j hj hj

/-- All that is asked of a drop of a key that is there. -/
structure DropF (k s r : Int) (ks : List Int) (vs : List ByteArray) (key : Int) (KS : List Int) (VS : List ByteArray) (val z : ByteArray) (KS2 : List Int) (VS2 : List ByteArray) : Prop where
  eq : dropT k s r ks vs key = (⟨k, s, r, KS, VS, 0⟩, true)
  ok : okB k s r KS VS = true
  at' : lookT k s r ks vs key = (val, true)
  still : lookT k s r KS VS key = (z, k == 1)
  put : putT k s r KS VS key val = ⟨k, s, r, KS2, VS2, 0⟩
  back : lookT k s r KS2 VS2 key = (val, true)
  len : KS2.length = ks.length
  lenK : KS.length ≤ 8
  lenV : VS.length ≤ 8
  lenV2 : VS2.length ≤ 9
  size : val.size ≤ 8
theorem drop_cases (k s r : Int) (ks : List Int) (vs : List ByteArray) (key : Int) (hok : okB k s r ks vs = true) :
    (∃ KS VS val z KS2 VS2, DropF k s r ks vs key KS VS val z KS2 VS2) ∨ (dropT k s r ks vs key = (⟨k, s, r, ks, vs, 0⟩, false) ∧ lookT k s r ks vs key = (⟨#[]⟩, false)) := by
  have hP := okB_true.1 hok
  have hsh := hP.shape
  have hln := shape2_len hsh
  have hl := hln.1
  rcases atI_cases ks key with ⟨hat, hno⟩ | ⟨i, hi, hat, hthere, hno⟩
  · exact .inr ⟨drop_none hok hno, by rw [lookT_ok _ hok, look_not hno]⟩
  · refine .inl ?_
    have hkey : key ∈ ks := by
      have : ks[i] = key := by simpa using hthere
      exact this ▸ List.getElem_mem hi
    have hnum : inB key 0 4294967295 = true := by
      have : ks[i] = key := by simpa using hthere
      exact this ▸ hP.good.num i hi hi
    have hsz : (vs[i].size : Int) = s := hP.good.size i (by omega) hi
    have hlook : lookT k s r ks vs key = (vs[i], true) := by rw [lookT_ok _ hok, look_there hl hi hthere hno]
    have h8 : 1 ≤ s ∧ s ≤ 8 := by
      simp only [shape2B, shapeB, inB, Bool.and_eq_true, decide_eq_true_eq] at hsh
      omega
    by_cases hk : k = 1
    · obtain ⟨KS, VS, hF, hlen⟩ := put_yes (val := zerosB s.toNat) hok (code_in hnum (by rw [zerosB_size]; omega) (.inl hkey))
      rw [if_pos hkey] at hlen
      have hD := drop_row hok hk hi hthere hno
      have e := hF.eq
      have hD2 : dropT k s r ks vs key = (⟨k, s, r, KS, VS, 0⟩, true) := by
        unfold dropT
        unfold putT at e
        rw [if_pos hok, if_pos (code_in hnum (by rw [zerosB_size]; omega) (.inl hkey))] at e
        simp only [TR.mk.injEq] at e
        rw [if_pos hok, look_there hl hi hthere hno, if_pos rfl, if_pos hk, e.2.2.2.1, e.2.2.2.2.1]
      have hKS : KS = ks := by
        rw [hD] at hD2
        simp only [Prod.mk.injEq, TR.mk.injEq] at hD2
        exact hD2.1.2.2.2.1.symm
      have hkey2 : key ∈ KS := hKS ▸ hkey
      obtain ⟨KS2, VS2, hG, hlen2⟩ := put_yes (val := vs[i]) hF.ok (code_in hnum hsz (.inl hkey2))
      rw [if_pos hkey2] at hlen2
      have hl2 := shape2_len (okB_true.1 hF.ok).shape
      have hl3 := shape2_len (okB_true.1 hG.ok).shape
      exact ⟨KS, VS, vs[i], _, KS2, VS2, hD2, hF.ok, hlook, by rw [hF.at', hk]; rfl, hG.eq, hG.at', by omega, by omega, by omega, by omega, by omega⟩
    · have hO := okB_true.2 (ok_filter key hP hk)
      have hD2 : dropT k s r ks vs key = (⟨k, s, r, (dropP (ks.zip vs) key).map Prod.fst, (dropP (ks.zip vs) key).map Prod.snd, 0⟩, true) := by
        unfold dropT
        rw [if_pos hok, look_there hl hi hthere hno, if_pos rfl, if_neg hk]
      have hD := drop_hash hok hk hi hthere hno
      have hlenK : ((dropP (ks.zip vs) key).map Prod.fst).length = ks.length - 1 := by
        rw [hD] at hD2
        simp only [Prod.mk.injEq, TR.mk.injEq] at hD2
        rw [← hD2.1.2.2.2.1, List.length_append, List.length_take, List.length_drop]
        omega
      have hnk : key ∉ (dropP (ks.zip vs) key).map Prod.fst := by
        intro h
        obtain ⟨x, hx, e⟩ := List.mem_map.1 h
        have := (List.mem_filter.1 hx).2
        simp [e] at this
      have hl2 := shape2_len (okB_true.1 hO).shape
      obtain ⟨KS2, VS2, hG, hlen2⟩ := put_yes (val := vs[i]) hO (code_in hnum hsz (.inr ⟨hk, by omega⟩))
      rw [if_neg hnk] at hlen2
      have hl3 := shape2_len (okB_true.1 hG.ok).shape
      refine ⟨_, _, vs[i], ⟨#[]⟩, KS2, VS2, hD2, hO, hlook, ?_, hG.eq, hG.at', by omega, by omega, by omega, by omega, by omega⟩
      rw [lookT_ok _ hO, look_not (fun j hj => by
        have := List.getElem_mem hj
        simp only [beq_eq_false_iff_ne, ne_eq]
        exact fun e => hnk (by rw [e] at this; exact this))]
      simp [hk]
end Go.Proofs.Ytahbicegmioplaa
