import PyProof.Rows.All
import Wide.All
import OpenK.AllK
import Wide.FinOn
import PyLf06
import KE.KStateDown
import Lean
import Open.SpecLaws
import KE.OsHead
import KE.OsGo
import KE.HD4
import HandS.ForSpec
import HandS.ForMost
import HandS.Walk
import HandS.Zip
import HandS.Defaults
import HandS.HeadHook1
import HandS.HeadHook2
import PySem.Challenge.RW_twostrands_s01_answers
import KE.DatumOrd
import PyProof.ListRange
import HandS.Head2
set_option Elab.async false
set_option linter.all false
set_option maxRecDepth 100000
section
namespace Ts
open Lf06
/-! ### sums -/
theorem foldl_sum : ∀ (l : List Nat) (a : Nat), l.foldl (fun a b => a + b) a = a + l.sum
  | [], a => rfl
  | x :: l, a => by
    rw [List.foldl_cons, foldl_sum l (a + x), List.sum_cons]
    omega
theorem sum_eq (l : List Nat) : Lf06.sum l = l.sum := by
  unfold Lf06.sum
  rw [foldl_sum]
  omega
/-! ### strands -/
theorem strands_mem : ∀ (n : Nat) (s : List Nat), s ∈ strands n → s.length = n ∧ ∀ k ∈ s, k ≤ 1
  | 0, s, h => by
    have e : s = [] := by simpa [strands] using h
    subst e
    exact ⟨rfl, fun k hk => by simp at hk⟩
  | n + 1, s, h => by
    unfold strands at h
    obtain ⟨t, ht, hs⟩ := List.mem_flatMap.mp h
    obtain ⟨h1, h2⟩ := strands_mem n t ht
    have hs' : s = t ++ [0] ∨ s = t ++ [1] := by simpa using hs
    rcases hs' with rfl | rfl
    · refine ⟨by simp [h1], fun k hk => ?_⟩
      rcases List.mem_append.mp hk with h | h
      · exact h2 k h
      · have : k = 0 := by simpa using h
        omega
    · refine ⟨by simp [h1], fun k hk => ?_⟩
      rcases List.mem_append.mp hk with h | h
      · exact h2 k h
      · have : k = 1 := by simpa using h
        omega
theorem flat2_len (l : List (List Nat)) : (l.flatMap fun s => [s ++ [0], s ++ [1]]).length = 2 * l.length := by
  induction l with
  | nil => rfl
  | cons a l ih =>
    rw [List.flatMap_cons, List.length_append, ih, List.length_cons]
    show 2 + 2 * l.length = 2 * (l.length + 1)
    omega
theorem strands_len : ∀ n : Nat, (strands n).length = 2 ^ n
  | 0 => rfl
  | n + 1 => by
    unfold strands
    rw [flat2_len, strands_len n, Nat.pow_succ]
    omega
theorem mem_strands : ∀ (n : Nat) (s : List Nat), s.length = n → (∀ k ∈ s, k ≤ 1) → s ∈ strands n
  | 0, s, h, _ => by
    have e : s = [] := List.eq_nil_of_length_eq_zero h
    subst e
    simp [strands]
  | n + 1, s, h, hb => by
    unfold strands
    have hne : s ≠ [] := fun e => by rw [e] at h; simp at h
    have e := List.dropLast_concat_getLast hne
    have hl : s.dropLast.length = n := by rw [List.length_dropLast, h]; rfl
    have hm : s.dropLast ∈ strands n := mem_strands n _ hl fun k hk => hb k (List.dropLast_subset s hk)
    refine List.mem_flatMap.mpr ⟨_, hm, ?_⟩
    have hlast := hb _ (List.getLast_mem hne)
    have h01 : s.getLast hne = 0 ∨ s.getLast hne = 1 := by omega
    rcases h01 with h0 | h0
    · rw [h0] at e
      simp [e]
    · rw [h0] at e
      simp [e]
/-! ### their order -/
theorem less_irrefl : ∀ a : List Nat, less a a = false
  | [] => rfl
  | x :: a => by
    unfold less
    rw [less_irrefl a]
    simp
theorem less_snoc : ∀ (a b : List Nat) (x y : Nat), a.length = b.length → less (a ++ [x]) (b ++ [y]) = (less a b || (a == b && decide (x < y)))
  | [], [], x, y, _ => by simp [less]
  | a :: l, b :: r, x, y, h => by
    have ih := less_snoc l r x y (Nat.succ.inj h)
    show (decide (a < b) || (a == b && less (l ++ [x]) (r ++ [y]))) = ((decide (a < b) || (a == b && less l r)) || ((a :: l) == (b :: r) && decide (x < y)))
    rw [ih]
    have e : ((a :: l) == (b :: r)) = (a == b && l == r) := rfl
    rw [e]
    cases decide (a < b) <;> cases (a == b) <;> cases less l r <;> cases (l == r) <;> rfl
  | [], _ :: _, _, _, h => by simp at h
  | _ :: _, [], _, _, h => by simp at h
theorem less_asymm : ∀ a b : List Nat, less a b = true → less b a = false
  | [], _, h => by cases h
  | _ :: _, [], h => by cases h
  | a :: l, b :: r, h => by
    unfold less at h ⊢
    by_cases c : a < b
    · have c2 : ¬ b < a := by omega
      have c3 : ¬ b = a := by omega
      simp [c2, c3]
    · have h2 : (a == b && less l r) = true := by simpa [c] using h
      obtain ⟨h3, h4⟩ := Bool.and_eq_true_iff.mp h2
      have e : a = b := eq_of_beq h3
      subst e
      simp [less_asymm l r h4]
theorem flat2_sorted {n : Nat} : ∀ (l : List (List Nat)), (l.Pairwise fun a b => less a b = true) → (∀ s ∈ l, s.length = n) → (l.flatMap fun s => [s ++ [0], s ++ [1]]).Pairwise fun a b => less a b = true
  | [], _, _ => by simp
  | s :: l, ih, hm => by
    rw [List.flatMap_cons]
    obtain ⟨h1, h2⟩ := List.pairwise_cons.mp ih
    refine List.pairwise_append.mpr ⟨?_, flat2_sorted l h2 (fun s hs => hm s (by simp [hs])), fun a ha b hb => ?_⟩
    · refine List.pairwise_cons.mpr ⟨fun b hb => ?_, by simp⟩
      have e : b = s ++ [1] := by simpa using hb
      subst e
      rw [less_snoc _ _ _ _ rfl]
      simp
    · obtain ⟨t, ht, hb⟩ := List.mem_flatMap.mp hb
      have hst := h1 t ht
      have hl : s.length = t.length := by rw [hm s (by simp), hm t (by simp [ht])]
      have ha' : ∃ x, a = s ++ [x] := by
        have : a = s ++ [0] ∨ a = s ++ [1] := by simpa using ha
        rcases this with h | h
        · exact ⟨0, h⟩
        · exact ⟨1, h⟩
      have hb' : ∃ x, b = t ++ [x] := by
        have : b = t ++ [0] ∨ b = t ++ [1] := by simpa using hb
        rcases this with h | h
        · exact ⟨0, h⟩
        · exact ⟨1, h⟩
      obtain ⟨x, rfl⟩ := ha'
      obtain ⟨y, rfl⟩ := hb'
      rw [less_snoc _ _ _ _ hl, hst]
      rfl
theorem strands_sorted : ∀ n : Nat, (strands n).Pairwise fun a b => less a b = true
  | 0 => by simp [strands]
  | n + 1 => flat2_sorted _ (strands_sorted n) fun s hs => (strands_mem n s hs).1
/-- in a list in order: those that are not less than its i-th are those from i on -/
theorem filter_from {l : List (List Nat)} (hp : l.Pairwise fun a b => less a b = true) {i : Nat} {a : List Nat} (ha : l[i]? = some a) (f : List Nat → Bool) : l.filter (fun b => !less b a && f b) = (l.drop i).filter f := by
  obtain ⟨hi, hia⟩ := List.getElem?_eq_some_iff.mp ha
  have e : l = l.take i ++ l.drop i := (List.take_append_drop i l).symm
  have hd : l.drop i = a :: l.drop (i + 1) := by rw [List.drop_eq_getElem_cons hi, hia]
  rw [e] at hp
  obtain ⟨_, p2, p3⟩ := List.pairwise_append.mp hp
  have h1 : (l.take i).filter (fun b => !less b a && f b) = [] := by
    refine List.filter_eq_nil_iff.mpr fun b hb => ?_
    rw [p3 b hb a (by rw [hd]; simp)]
    simp
  have h2 : (l.drop i).filter (fun b => !less b a && f b) = (l.drop i).filter f := by
    refine List.filter_congr fun b hb => ?_
    have hf : less b a = false := by
      rw [hd] at hb p2
      rcases List.mem_cons.mp hb with rfl | hb
      · exact less_irrefl b
      · exact less_asymm _ _ ((List.pairwise_cons.mp p2).1 b hb)
    rw [hf]
    rfl
  calc l.filter (fun b => !less b a && f b) = (l.take i ++ l.drop i).filter (fun b => !less b a && f b) := by rw [← e]
    _ = (l.drop i).filter f := by rw [List.filter_append, h1, h2, List.nil_append]
/-! ### pairs -/
def fitsB (ks : List Nat) (a b : List Nat) : Bool := (ks.zip (a.zip b)).all fun x => allowed x.1 x.2.1 x.2.2
def rowOf (ks : List Nat) (a : List Nat) : List Pair := ((strands ks.length).filter fun b => !less b a && fitsB ks a b).map fun b => (a, b)
theorem pairs_eq (ks : List Nat) : pairs ks = (strands ks.length).flatMap (rowOf ks) := rfl
theorem row_from {ks : List Nat} {i : Nat} {a : List Nat} (ha : (strands ks.length)[i]? = some a) : rowOf ks a = (((strands ks.length).drop i).filter fun b => fitsB ks a b).map fun b => (a, b) := by
  unfold rowOf
  rw [filter_from (strands_sorted _) ha]
theorem pairs_mem {ks : List Nat} {p : Pair} (h : p ∈ pairs ks) : p.1 ∈ strands ks.length ∧ p.2 ∈ strands ks.length := by
  rw [pairs_eq] at h
  obtain ⟨a, ha, hp⟩ := List.mem_flatMap.mp h
  unfold rowOf at hp
  obtain ⟨b, hb, rfl⟩ := List.mem_map.mp hp
  exact ⟨ha, (List.mem_filter.mp hb).1⟩
/-- a pair that may be -/
def lowS (ks : List Nat) : List Nat := ks.map fun k => if k = 1 then 1 else 0
def highS (ks : List Nat) : List Nat := ks.map fun k => if k = 1 ∨ k = 2 then 1 else 0
theorem low_high : ∀ ks : List Nat, less (highS ks) (lowS ks) = false
  | [] => rfl
  | k :: ks => by
    have ih := low_high ks
    show (decide ((if k = 1 ∨ k = 2 then 1 else 0) < (if k = 1 then 1 else 0)) || ((if k = 1 ∨ k = 2 then 1 else 0) == (if k = 1 then 1 else 0) && less (highS ks) (lowS ks))) = false
    rw [ih]
    by_cases h1 : k = 1
    · simp [h1]
    · by_cases h2 : k = 2 <;> simp [h1, h2]
theorem low_high_fit : ∀ ks : List Nat, fitsB ks (lowS ks) (highS ks) = true
  | [] => rfl
  | k :: ks => by
    have ih := low_high_fit ks
    show (allowed k (if k = 1 then 1 else 0) (if k = 1 ∨ k = 2 then 1 else 0) && fitsB ks (lowS ks) (highS ks)) = true
    rw [ih, Bool.and_true]
    unfold allowed
    by_cases h0 : k = 0
    · simp [h0]
    · by_cases h1 : k = 1
      · simp [h1]
      · by_cases h2 : k = 2 <;> simp [h0, h1, h2]
theorem pairs_ne (ks : List Nat) : (lowS ks, highS ks) ∈ pairs ks := by
  rw [pairs_eq]
  have hl : lowS ks ∈ strands ks.length := mem_strands _ _ (by simp [lowS]) fun k hk => by
    obtain ⟨x, _, rfl⟩ := List.mem_map.mp hk
    split <;> omega
  have hh : highS ks ∈ strands ks.length := mem_strands _ _ (by simp [highS]) fun k hk => by
    obtain ⟨x, _, rfl⟩ := List.mem_map.mp hk
    split <;> omega
  refine List.mem_flatMap.mpr ⟨_, hl, ?_⟩
  unfold rowOf
  refine List.mem_map.mpr ⟨_, List.mem_filter.mpr ⟨hh, ?_⟩, rfl⟩
  rw [low_high, low_high_fit]
  rfl
/-! ### the least -/
theorem foldl_min : ∀ (l : List Nat) (a : Nat), l.foldl min a ≤ a ∧ (∀ y ∈ l, l.foldl min a ≤ y) ∧ (l.foldl min a = a ∨ l.foldl min a ∈ l)
  | [], a => ⟨Nat.le_refl _, fun y hy => by simp at hy, .inl rfl⟩
  | x :: l, a => by
    obtain ⟨h1, h2, h3⟩ := foldl_min l (min a x)
    rw [List.foldl_cons]
    refine ⟨by omega, fun y hy => ?_, ?_⟩
    · rcases List.mem_cons.mp hy with rfl | hy
      · omega
      · exact h2 y hy
    · rcases h3 with h3 | h3
      · rw [h3]
        by_cases c : a ≤ x
        · left; omega
        · right
          have : min a x = x := by omega
          rw [this]
          simp
      · right
        simp [h3]
theorem least_is {l : List Nat} {m : Nat} (hm : m ∈ l) (hle : ∀ y ∈ l, m ≤ y) : least l = some m := by
  cases l with
  | nil => simp at hm
  | cons a l =>
    obtain ⟨h1, h2, h3⟩ := foldl_min l a
    show some (l.foldl min a) = some m
    congr 1
    have e1 : l.foldl min a ≤ m := by
      rcases List.mem_cons.mp hm with rfl | hm
      · exact h1
      · exact h2 m hm
    have e2 : m ≤ l.foldl min a := by
      rcases h3 with h3 | h3
      · rw [h3]; exact hle a (by simp)
      · exact hle _ (by simp [h3])
    omega
def pairsC (ks : List Nat) (rs : List Reading) : List (Pair × Nat) := (pairs ks).map fun p => (p, cost p rs)
theorem best_is {ks : List Nat} {rs : List Reading} {m : Nat} (hm : m ∈ (pairsC ks rs).map fun x => x.2) (hle : ∀ y ∈ (pairsC ks rs).map (fun x => x.2), m ≤ y) :
    best ks rs = ((pairsC ks rs).filter fun x => x.2 == m).map fun x => x.1 := by
  unfold best
  have e := least_is hm hle
  unfold pairsC at e ⊢
  simp only [e]
/-! ### costs -/
theorem mins_map {α : Type} (f g : α → Nat) : ∀ l : List α, ((l.map f).zip (l.map g)).map (fun x => min x.1 x.2) = l.map fun x => min (f x) (g x)
  | [] => rfl
  | a :: l => by
    rw [List.map_cons, List.map_cons, List.zip_cons_cons, List.map_cons, mins_map f g l, List.map_cons]
theorem cost_is (a b : List Nat) (xs : List (Nat × Reading)) : cost (a, b) (xs.map fun x => x.2) = (((xs.map fun x => off a x.2).zip (xs.map fun x => off b x.2)).map fun x => min x.1 x.2).sum := by
  unfold cost
  rw [sum_eq, mins_map, List.map_map]
  rfl
theorem row_len (ks a : List Nat) : (rowOf ks a).length ≤ 2 ^ ks.length := by
  unfold rowOf
  rw [List.length_map, ← strands_len]
  exact List.length_filter_le _ _
theorem rows_len (ks : List Nat) : ∀ l : List (List Nat), (l.flatMap (rowOf ks)).length ≤ l.length * 2 ^ ks.length
  | [] => by simp
  | a :: l => by
    rw [List.flatMap_cons, List.length_append, List.length_cons, Nat.succ_mul]
    have := rows_len ks l
    have := row_len ks a
    omega
theorem pow6 {n : Nat} (h : n ≤ 6) : 2 ^ n ≤ 64 := Nat.pow_le_pow_right (by decide) h
theorem pairs_len {ks : List Nat} (h : ks.length ≤ 6) : (pairs ks).length ≤ 4096 := by
  rw [pairs_eq]
  have h1 := rows_len ks (strands ks.length)
  rw [strands_len] at h1
  have h2 := pow6 h
  have h3 : 2 ^ ks.length * 2 ^ ks.length ≤ 64 * 64 := Nat.mul_le_mul h2 h2
  omega
/-- the best pairs, with what they cost -/
def bestC (ks : List Nat) (rs : List Reading) : List (Pair × Nat) := (best ks rs).map fun p => (p, cost p rs)
theorem bestC_is {ks : List Nat} {rs : List Reading} {m : Nat} (hm : m ∈ (pairsC ks rs).map fun x => x.2) (hle : ∀ y ∈ (pairsC ks rs).map (fun x => x.2), m ≤ y) :
    (pairsC ks rs).filter (fun x => x.2 == m) = bestC ks rs := by
  unfold bestC
  rw [best_is hm hle, List.map_map]
  have e : ∀ x ∈ (pairsC ks rs).filter (fun x => x.2 == m), ((fun p => (p, cost p rs)) ∘ fun x : Pair × Nat => x.1) x = id x := by
    intro x hx
    obtain ⟨p, _, rfl⟩ := List.mem_map.mp (show x ∈ (pairs ks).map fun p => (p, cost p rs) from (List.mem_filter.mp hx).1)
    rfl
  rw [List.map_congr_left e, List.map_id]
theorem pairsC_ne (ks : List Nat) (rs : List Reading) : 0 < (pairsC ks rs).length := by
  unfold pairsC
  rw [List.length_map]
  exact List.length_pos_of_mem (pairs_ne ks)
theorem exists_least : ∀ l : List Nat, 0 < l.length → ∃ m, m ∈ l ∧ ∀ y ∈ l, m ≤ y
  | [], h => by simp at h
  | a :: l, _ => by
    obtain ⟨h1, h2, h3⟩ := foldl_min l a
    refine ⟨l.foldl min a, ?_, fun y hy => ?_⟩
    · rcases h3 with h3 | h3
      · rw [h3]; simp
      · simp [h3]
    · rcases List.mem_cons.mp hy with rfl | hy
      · exact h1
      · exact h2 y hy
theorem bestC_ne (ks : List Nat) (rs : List Reading) : 0 < (bestC ks rs).length := by
  obtain ⟨m, hm, hle⟩ := exists_least ((pairsC ks rs).map fun x => x.2) (by rw [List.length_map]; exact pairsC_ne ks rs)
  rw [← bestC_is hm hle]
  obtain ⟨x, hx, rfl⟩ := List.mem_map.mp hm
  exact List.length_pos_of_mem (List.mem_filter.mpr ⟨hx, by simp⟩)
theorem bestC_mem {ks : List Nat} {rs : List Reading} {x : Pair × Nat} (h : x ∈ bestC ks rs) : x.1 ∈ pairs ks ∧ x.2 = cost x.1 rs := by
  obtain ⟨m, hm, hle⟩ := exists_least ((pairsC ks rs).map fun x => x.2) (by rw [List.length_map]; exact pairsC_ne ks rs)
  rw [← bestC_is hm hle] at h
  obtain ⟨p, hp, rfl⟩ := List.mem_map.mp (show x ∈ (pairs ks).map fun p => (p, cost p rs) from (List.mem_filter.mp h).1)
  exact ⟨hp, rfl⟩
theorem fits_all (ks a b : List Nat) : ((ks.zip (a.zip b)).map fun x => allowed x.1 x.2.1 x.2.2).all id = fitsB ks a b := by
  unfold fitsB
  rw [List.all_map]
  rfl
end Ts
end
section
namespace Ts
open Lf06
/-! ### tied places -/
inductive Tied (rs : List Reading) : Nat → Nat → Prop
  | refl (i : Nat) : Tied rs i i
  | step {i j k : Nat} (r : Reading) (h : Tied rs i j) (hr : r ∈ rs) (hj : j ∈ marked r) (hk : k ∈ marked r) : Tied rs i k
section
variable {rs rs' : List Reading} {n i j k : Nat} {l : List Nat}
theorem Tied.trans (a : Tied rs i j) (b : Tied rs j k) : Tied rs i k := by
  induction b with
  | refl => exact a
  | step r h hr hj hk ih => exact .step r ih hr hj hk
theorem Tied.symm (a : Tied rs i j) : Tied rs j i := by
  induction a with
  | refl => exact .refl _
  | step r h hr hj hk ih => exact (Tied.step r (.refl _) hr hk hj).trans ih
theorem Tied.mono (s : ∀ r ∈ rs, r ∈ rs') (a : Tied rs i j) : Tied rs' i j := by
  induction a with
  | refl => exact .refl _
  | step r h hr hj hk ih => exact .step r ih (s r hr) hj hk
/-- all marks are at places -/
def Within (n : Nat) (rs : List Reading) : Prop := ∀ r ∈ rs, ∀ p ∈ marked r, p < n
theorem Tied.lt (w : Within n rs) (a : Tied rs i j) (hi : i < n) : j < n := by
  induction a with
  | refl => exact hi
  | step r h hr hj hk ih => exact w r hr _ hk
/-! ### what grows -/
def adds (m ps : List Nat) : List Nat := ps.foldl (fun m p => if m.contains p = true then m else m ++ [p]) m
theorem adds_mem : ∀ (ps m : List Nat) (x : Nat), x ∈ adds m ps ↔ x ∈ m ∨ x ∈ ps
  | [], m, x => by simp [adds]
  | p :: ps, m, x => by
    have ih := adds_mem ps (if m.contains p = true then m else m ++ [p]) x
    show x ∈ adds (if m.contains p = true then m else m ++ [p]) ps ↔ _
    rw [ih]
    by_cases c : m.contains p = true
    · rw [if_pos c]
      have c2 : p ∈ m := by simpa using c
      constructor
      · rintro (h | h)
        · exact .inl h
        · exact .inr (by simp [h])
      · rintro (h | h)
        · exact .inl h
        · rcases List.mem_cons.mp h with rfl | h
          · exact .inl c2
          · exact .inr h
    · rw [if_neg c]
      simp only [List.mem_append, List.mem_cons, List.not_mem_nil, or_false]
      constructor
      · rintro ((h | h) | h)
        · exact .inl h
        · exact .inr (.inl h)
        · exact .inr (.inr h)
      · rintro (h | h | h)
        · exact .inl (.inl h)
        · exact .inl (.inr h)
        · exact .inr h
theorem adds_nd : ∀ (ps m : List Nat), m.Nodup → (adds m ps).Nodup
  | [], m, h => h
  | p :: ps, m, h => by
    show (adds (if m.contains p = true then m else m ++ [p]) ps).Nodup
    refine adds_nd ps _ ?_
    by_cases c : m.contains p = true
    · rw [if_pos c]
      exact h
    · rw [if_neg c]
      refine List.nodup_append.mpr ⟨h, by simp, fun a ha b hb => ?_⟩
      have e : b = p := by simpa using hb
      subst e
      intro q
      subst q
      exact c (by simpa using ha)
def addsR (m : List Nat) (L : List Reading) : List Nat := L.foldl (fun m r => adds m (marked r)) m
theorem addsR_mem : ∀ (L : List Reading) (m : List Nat) (x : Nat), x ∈ addsR m L ↔ x ∈ m ∨ ∃ r ∈ L, x ∈ marked r
  | [], m, x => by simp [addsR]
  | r :: L, m, x => by
    show x ∈ addsR (adds m (marked r)) L ↔ _
    rw [addsR_mem L, adds_mem]
    constructor
    · rintro ((h | h) | ⟨q, hq, h⟩)
      · exact .inl h
      · exact .inr ⟨r, by simp, h⟩
      · exact .inr ⟨q, by simp [hq], h⟩
    · rintro (h | ⟨q, hq, h⟩)
      · exact .inl (.inl h)
      · rcases List.mem_cons.mp hq with rfl | hq
        · exact .inl (.inr h)
        · exact .inr ⟨q, hq, h⟩
theorem addsR_nd : ∀ (L : List Reading) (m : List Nat), m.Nodup → (addsR m L).Nodup
  | [], m, h => h
  | r :: L, m, h => addsR_nd L _ (adds_nd _ _ h)
def turn (rs : List Reading) (l : List Nat) : List Nat := addsR l (rs.filter fun r => (marked r).any l.contains)
theorem grown_succ (rs : List Reading) (f : Nat) (l : List Nat) : grown rs (f + 1) l = grown rs f (turn rs l) := rfl
theorem turn_mem {x : Nat} : x ∈ turn rs l ↔ x ∈ l ∨ ∃ r ∈ rs, (∃ p ∈ marked r, p ∈ l) ∧ x ∈ marked r := by
  unfold turn
  rw [addsR_mem]
  constructor
  · rintro (h | ⟨r, hr, h⟩)
    · exact .inl h
    · obtain ⟨h1, h2⟩ := List.mem_filter.mp hr
      obtain ⟨p, hp, h3⟩ := List.any_eq_true.mp h2
      exact .inr ⟨r, h1, ⟨p, hp, by simpa using h3⟩, h⟩
  · rintro (h | ⟨r, hr, ⟨p, hp, h1⟩, h⟩)
    · exact .inl h
    · exact .inr ⟨r, List.mem_filter.mpr ⟨hr, List.any_eq_true.mpr ⟨p, hp, by simpa using h1⟩⟩, h⟩
theorem nodup_sub : ∀ (a b : List Nat), a.Nodup → (∀ x ∈ a, x ∈ b) → a.length ≤ b.length
  | [], b, _, _ => Nat.zero_le _
  | x :: a, b, h, s => by
    obtain ⟨h1, h2⟩ := List.nodup_cons.mp h
    have hx := s x (by simp)
    have ih := nodup_sub a (b.erase x) h2 fun y hy => (List.mem_erase_of_ne (fun e => h1 (by rw [← e]; exact hy))).mpr (s y (by simp [hy]))
    rw [List.length_erase_of_mem hx] at ih
    have := List.length_pos_of_mem hx
    rw [List.length_cons]
    omega
def Closed (rs : List Reading) (l : List Nat) : Prop := ∀ r ∈ rs, ∀ p ∈ marked r, p ∈ l → ∀ q ∈ marked r, q ∈ l
theorem closed_turn (c : Closed rs l) : Closed rs (turn rs l) := by
  have e : ∀ x, x ∈ turn rs l ↔ x ∈ l := fun x => by
    rw [turn_mem]
    constructor
    · rintro (h | ⟨r, hr, ⟨p, hp, h1⟩, h⟩)
      · exact h
      · exact c r hr p hp h1 x h
    · exact .inl
  intro r hr p hp h q hq
  rw [e] at h ⊢
  exact c r hr p hp h q hq
theorem turn_more (nd : l.Nodup) (c : ¬ Closed rs l) : l.length + 1 ≤ (turn rs l).length := by
  have h : ∃ x, x ∈ turn rs l ∧ x ∉ l := Classical.byContradiction fun z => c fun r hr p hp h q hq => Classical.byContradiction fun z2 => z ⟨q, turn_mem.mpr (.inr ⟨r, hr, ⟨p, hp, h⟩, hq⟩), z2⟩
  obtain ⟨x, h1, h2⟩ := h
  refine nodup_sub (x :: l) (turn rs l) (List.nodup_cons.mpr ⟨h2, nd⟩) fun y hy => ?_
  rcases List.mem_cons.mp hy with rfl | hy
  · exact h1
  · exact turn_mem.mpr (.inl hy)
theorem grown_closed (w : Within n rs) : ∀ (f : Nat) (l : List Nat), l.Nodup → (∀ x ∈ l, x < n) → (Closed rs l ∨ n ≤ f + l.length) → Closed rs (grown rs f l)
  | 0, l, nd, hl, c => by
    show Closed rs l
    rcases c with c | c
    · exact c
    · intro r hr p hp h q hq
      refine Classical.byContradiction fun z => ?_
      have h1 := nodup_sub (q :: l) (List.range n) (List.nodup_cons.mpr ⟨z, nd⟩) fun y hy => by
        rcases List.mem_cons.mp hy with rfl | hy
        · exact List.mem_range.mpr (w r hr _ hq)
        · exact List.mem_range.mpr (hl y hy)
      rw [List.length_cons, List.length_range] at h1
      omega
  | f + 1, l, nd, hl, c => by
    rw [grown_succ]
    have hl2 : ∀ x ∈ turn rs l, x < n := fun x hx => by
      rcases turn_mem.mp hx with h | ⟨r, hr, _, h⟩
      · exact hl x h
      · exact w r hr x h
    refine grown_closed w f _ (addsR_nd _ _ nd) hl2 ?_
    by_cases c2 : Closed rs l
    · exact .inl (closed_turn c2)
    · rcases c with c | c
      · exact absurd c c2
      · have := turn_more nd c2
        exact .inr (by omega)
theorem grown_sub : ∀ (f : Nat) (l : List Nat) (x : Nat), x ∈ l → x ∈ grown rs f l
  | 0, l, x, h => h
  | f + 1, l, x, h => by
    rw [grown_succ]
    exact grown_sub f _ x (turn_mem.mpr (.inl h))
theorem grown_tied : ∀ (f : Nat) (l : List Nat) (x : Nat), x ∈ grown rs f l → ∃ y ∈ l, Tied rs y x
  | 0, l, x, h => ⟨x, h, .refl x⟩
  | f + 1, l, x, h => by
    rw [grown_succ] at h
    obtain ⟨y, hy, t⟩ := grown_tied f _ x h
    rcases turn_mem.mp hy with h1 | ⟨r, hr, ⟨p, hp, h1⟩, h2⟩
    · exact ⟨y, h1, t⟩
    · exact ⟨p, h1, (Tied.step r (.refl p) hr hp h2).trans t⟩
theorem grown_iff (w : Within n rs) (hi : i < n) (x : Nat) : x ∈ grown rs n [i] ↔ Tied rs i x := by
  constructor
  · intro h
    obtain ⟨y, hy, t⟩ := grown_tied n [i] x h
    have e : y = i := by simpa using hy
    subst e
    exact t
  · intro t
    have c := grown_closed w n [i] (by simp) (fun y hy => by have e : y = i := by simpa using hy
                                                             omega) (.inr (by simp))
    induction t with
    | refl => exact grown_sub n [i] i (by simp)
    | step r h hr hj hk ih => exact c r hr _ hj ih _ hk
end
/-! ### the least place of each block -/
structure Lead (n : Nat) (rs : List Reading) (f : List Nat) : Prop where
  len : f.length = n
  t1 : ∀ j, j < n → Tied rs j (f.getD j 0)
  t2 : ∀ j k, j < n → Tied rs j k → f.getD j 0 = f.getD k 0
  t3 : ∀ j, j < n → f.getD j 0 ≤ j
theorem Tied.nil {i j : Nat} (t : Tied [] i j) : i = j := by
  cases t with
  | refl => rfl
  | step r h hr _ _ => cases hr
theorem getD_range {n j : Nat} (h : j < n) : (List.range n).getD j 0 = j := by
  simp [List.getD, h]
theorem Lead.start (n : Nat) : Lead n [] (List.range n) := by
  refine ⟨List.length_range, fun j hj => ?_, fun j k hj t => ?_, fun j hj => ?_⟩
  · rw [getD_range hj]
    exact .refl j
  · rw [t.nil]
  · rw [getD_range hj]
    exact Nat.le_refl _
def metOf (f : List Nat) (r : Reading) : List Nat := (marked r).map fun p => f.getD p 0
def merged (f met : List Nat) (m : Nat) : List Nat := f.map fun x => if met.contains x = true then m else x
theorem getD_merged {f met : List Nat} {m j : Nat} (h : j < f.length) : (merged f met m).getD j 0 = if met.contains (f.getD j 0) = true then m else f.getD j 0 := by
  unfold merged
  simp [List.getD, h]
theorem Lead.step {n : Nat} {rs : List Reading} {f : List Nat} {r : Reading} {m : Nat} (L : Lead n rs f) (w : Within n (rs ++ [r])) (hm : m ∈ metOf f r) (hle : ∀ y ∈ metOf f r, m ≤ y) : Lead n (rs ++ [r]) (merged f (metOf f r) m) := by
  have wr : ∀ p ∈ marked r, p < n := w r (by simp)
  have up : ∀ {i j : Nat}, Tied rs i j → Tied (rs ++ [r]) i j := fun t => t.mono fun q hq => by simp [hq]
  have g' : ∀ j, j < n → (merged f (metOf f r) m).getD j 0 = if (metOf f r).contains (f.getD j 0) = true then m else f.getD j 0 := fun j hj => getD_merged (by rw [L.len]; exact hj)
  have t2' : ∀ j k, j < n → Tied (rs ++ [r]) j k → (merged f (metOf f r) m).getD j 0 = (merged f (metOf f r) m).getD k 0 := by
    intro j k hj t
    induction t with
    | refl => rfl
    | step q h hq hj2 hk ih =>
      refine ih.trans ?_
      rename_i a b
      have la : a < n := h.lt w hj
      have lb : b < n := w q hq b hk
      rw [g' a la, g' b lb]
      rcases List.mem_append.mp hq with hq | hq
      · rw [L.t2 a b la (.step q (.refl a) hq hj2 hk)]
      · have e : q = r := by simpa using hq
        subst e
        have ca : (metOf f q).contains (f.getD a 0) = true := by
          rw [List.contains_iff_mem]
          exact List.mem_map.mpr ⟨a, hj2, rfl⟩
        have cb : (metOf f q).contains (f.getD b 0) = true := by
          rw [List.contains_iff_mem]
          exact List.mem_map.mpr ⟨b, hk, rfl⟩
        rw [if_pos ca, if_pos cb]
  refine ⟨by unfold merged; rw [List.length_map, L.len], fun j hj => ?_, t2', fun j hj => ?_⟩
  · rw [g' j hj]
    by_cases c : (metOf f r).contains (f.getD j 0) = true
    · rw [if_pos c]
      rw [List.contains_iff_mem] at c
      obtain ⟨p, hp, ep⟩ := List.mem_map.mp c
      obtain ⟨q, hq, eq⟩ := List.mem_map.mp hm
      have t1 : Tied rs j p := (L.t1 j hj).trans (by rw [← ep]; exact (L.t1 p (wr p hp)).symm)
      refine (up t1).trans ((Tied.step r (.refl p) (by simp) hp hq).trans (up ?_))
      rw [← eq]
      exact L.t1 q (wr q hq)
    · rw [if_neg c]
      exact up (L.t1 j hj)
  · rw [g' j hj]
    by_cases c : (metOf f r).contains (f.getD j 0) = true
    · rw [if_pos c]
      rw [List.contains_iff_mem] at c
      exact Nat.le_trans (hle _ c) (L.t3 j hj)
    · rw [if_neg c]
      exact L.t3 j hj
theorem head_filter (n : Nat) (P : Nat → Bool) {i : Nat} (hi : i < n) : (((List.range n).filter P).headD n == i) = (P i && (List.range i).all fun k => !P k) := by
  have e : ((List.range n).filter P).headD n = ((List.range n).find? P).getD n := by
    rw [← List.head?_filter, List.headD_eq_head?_getD]
  rw [e]
  cases h : (P i && (List.range i).all fun k => !P k) with
  | true =>
    obtain ⟨h1, h2⟩ := Bool.and_eq_true_iff.mp h
    have h3 : (List.range n).find? P = some i := List.find?_range_eq_some.mpr ⟨h1, List.mem_range.mpr hi, fun j hj => List.all_eq_true.mp h2 j (List.mem_range.mpr hj)⟩
    rw [h3]
    simp
  | false =>
    cases h3 : (List.range n).find? P with
    | none =>
      have : n ≠ i := by omega
      simpa using this
    | some j =>
      obtain ⟨a, b, c⟩ := List.find?_range_eq_some.mp h3
      have : j ≠ i := fun z => by
        subst z
        rw [a, Bool.true_and] at h
        have : (List.range j).all (fun k => !P k) = true := List.all_eq_true.mpr fun k hk => c k (List.mem_range.mp hk)
        rw [this] at h
        cases h
      simpa using this
theorem blocks_is {n : Nat} {rs : List Reading} {f : List Nat} (L : Lead n rs f) (w : Within n rs) :
    blocks n rs = ((List.range n).filter fun i => f.getD i 0 == i).map fun i => (List.range n).filter fun j => f.getD j 0 == i := by
  have inG : ∀ i j, i < n → ((grown rs n [i]).contains j = true ↔ Tied rs i j) := fun i j hi => by
    rw [List.contains_iff_mem]
    exact grown_iff w hi j
  have h1 : (List.range n).filter (fun i => (blockOf n rs i).headD n == i) = (List.range n).filter fun i => f.getD i 0 == i := by
    refine List.filter_congr fun i hi => ?_
    have hi' := List.mem_range.mp hi
    show (((List.range n).filter (grown rs n [i]).contains).headD n == i) = _
    rw [head_filter n _ hi']
    rw [Bool.eq_iff_iff, Bool.and_eq_true, beq_iff_eq]
    constructor
    · rintro ⟨_, h2⟩
      have h3 := L.t3 i hi'
      have h4 := L.t1 i hi'
      by_cases c : f.getD i 0 = i
      · exact c
      · have h5 := List.all_eq_true.mp h2 (f.getD i 0) (List.mem_range.mpr (by omega))
        rw [(inG i _ hi').mpr h4] at h5
        cases h5
    · intro e
      refine ⟨(inG i i hi').mpr (.refl i), List.all_eq_true.mpr fun k hk => ?_⟩
      have hk' := List.mem_range.mp hk
      cases c : (grown rs n [i]).contains k with
      | false => rfl
      | true =>
        have t := (inG i k hi').mp c
        have h2 := L.t2 i k hi' t
        have h3 := L.t3 k (by omega)
        omega
  unfold blocks
  rw [h1]
  refine List.map_congr_left fun i hi => ?_
  obtain ⟨hi1, hi2⟩ := List.mem_filter.mp hi
  have hi' := List.mem_range.mp hi1
  have e : f.getD i 0 = i := eq_of_beq hi2
  show (List.range n).filter (grown rs n [i]).contains = _
  refine List.filter_congr fun j hj => ?_
  have hj' := List.mem_range.mp hj
  rw [Bool.eq_iff_iff, beq_iff_eq, inG i j hi']
  constructor
  · intro t
    rw [← L.t2 i j hi' t, e]
  · intro c
    have t := (L.t1 j hj').symm
    rw [c] at t
    exact t
/-! ### the fewest readings -/
theorem less_trans : ∀ a b c : List Nat, less a b = true → less b c = true → less a c = true
  | [], _, _, h, _ => by cases h
  | _ :: _, [], _, h, _ => by cases h
  | _ :: _, _ :: _, [], _, h => by cases h
  | x :: a, y :: b, z :: c, h, g => by
    unfold less at h g ⊢
    have ih := less_trans a b c
    simp only [Bool.or_eq_true, Bool.and_eq_true, decide_eq_true_eq, beq_iff_eq] at h g ⊢
    rcases h with h | ⟨h, h'⟩
    · rcases g with g | ⟨g, g'⟩
      · exact .inl (by omega)
      · exact .inl (by omega)
    · rcases g with g | ⟨g, g'⟩
      · exact .inl (by omega)
      · exact .inr ⟨by omega, ih h' g'⟩
theorem less_total : ∀ a b : List Nat, a.length = b.length → less a b = false → less b a = false → a = b
  | [], [], _, _, _ => rfl
  | [], _ :: _, h, _, _ => by simp at h
  | _ :: _, [], h, _, _ => by simp at h
  | x :: a, y :: b, h, g1, g2 => by
    unfold less at g1 g2
    simp only [Bool.or_eq_false_iff, Bool.and_eq_false_iff, decide_eq_false_iff_not, beq_eq_false_iff_ne] at g1 g2
    have e : x = y := by omega
    subst e
    have h1 : less a b = false := by
      rcases g1.2 with z | z
      · exact absurd rfl z
      · exact z
    have h2 : less b a = false := by
      rcases g2.2 with z | z
      · exact absurd rfl z
      · exact z
    rw [less_total a b (Nat.succ.inj h) h1 h2]
def better (b m : List Nat) : Bool := decide (b.length < m.length) || decide ((b.length == m.length && less b m) = true)
theorem better_iff (b m : List Nat) : better b m = true ↔ b.length < m.length ∨ (b.length = m.length ∧ less b m = true) := by
  unfold better
  simp only [Bool.or_eq_true, Bool.and_eq_true, decide_eq_true_eq, beq_iff_eq]
theorem better_trans {a b c : List Nat} (h : better a b = true) (g : better b c = true) : better a c = true := by
  rw [better_iff] at *
  rcases h with h | ⟨h, h'⟩
  · rcases g with g | ⟨g, _⟩ <;> exact .inl (by omega)
  · rcases g with g | ⟨g, g'⟩
    · exact .inl (by omega)
    · exact .inr ⟨by omega, less_trans _ _ _ h' g'⟩
/-- the least of a list by an order, fold by fold -/
theorem fold_least {α : Type} (lt : α → α → Bool) (irr : ∀ a, lt a a = false) (tr : ∀ a b c, lt a b = true → lt b c = true → lt a c = true) : ∀ (l : List α) (a : α),
    (l.foldl (fun m b => if lt b m = true then b else m) a ∈ a :: l) ∧ (∀ c ∈ a :: l, lt c (l.foldl (fun m b => if lt b m = true then b else m) a) = false) ∧
    (l.foldl (fun m b => if lt b m = true then b else m) a = a ∨ lt (l.foldl (fun m b => if lt b m = true then b else m) a) a = true)
  | [], a => ⟨by simp, fun c hc => by have e : c = a := by simpa using hc
                                      subst e
                                      exact irr c, .inl rfl⟩
  | b :: l, a => by
    obtain ⟨h1, h2, h3⟩ := fold_least lt irr tr l (if lt b a = true then b else a)
    rw [List.foldl_cons]
    generalize hr : l.foldl (fun m b => if lt b m = true then b else m) (if lt b a = true then b else a) = r at h1 h2 h3
    have hh := h2 _ (List.mem_cons_self ..)
    have h4 : r = a ∨ lt r a = true := by
      by_cases q : lt b a = true
      · rw [if_pos q] at h3
        rcases h3 with h | h
        · exact .inr (by rw [h]; exact q)
        · exact .inr (tr _ _ _ h q)
      · rw [if_neg q] at h3
        exact h3
    have not_lt : ∀ c, lt c a = false → lt c r = false := fun c hc => by
      rcases h4 with h | h
      · rw [h]
        exact hc
      · cases z : lt c r with
        | false => rfl
        | true => rw [tr _ _ _ z h] at hc; cases hc
    refine ⟨?_, fun c hc => ?_, h4⟩
    · rcases List.mem_cons.mp h1 with h | h
      · rw [h]
        by_cases q : lt b a = true
        · rw [if_pos q]; simp
        · rw [if_neg q]; simp
      · simp [h]
    · rcases List.mem_cons.mp hc with rfl | hc
      · exact not_lt c (irr c)
      · rcases List.mem_cons.mp hc with rfl | hc
        · by_cases q : lt c a = true
          · rw [if_pos q] at hh
            exact hh
          · exact not_lt c (by simpa using q)
        · exact h2 c (by simp [hc])
/-- the first of the fewest, told by what it is -/
theorem firstRow_is {l : List (List Nat)} {r : List Nat} (hr : r ∈ l) (h1 : ∀ b ∈ l, r.length ≤ b.length) (h2 : ∀ b ∈ l, b.length = r.length → less b r = false) : firstRow l = some r := by
  cases l with
  | nil => cases hr
  | cons a l =>
    have irr : ∀ a, better a a = false := fun a => by
      unfold better
      rw [less_irrefl]
      simp
    obtain ⟨m1, m2, _⟩ := fold_least better irr (fun _ _ _ => better_trans) l a
    show some (l.foldl (fun m b => if better b m = true then b else m) a) = some r
    congr 1
    generalize l.foldl (fun m b => if better b m = true then b else m) a = x at m1 m2
    have b1 := m2 r hr
    have e1 : x.length = r.length := by
      have q1 := h1 x m1
      have q2 : ¬ r.length < x.length := fun z => by rw [(better_iff r x).mpr (.inl z)] at b1; cases b1
      omega
    have e2 := h2 x m1 e1
    have e3 : less r x = false := by
      cases z : less r x with
      | false => rfl
      | true => rw [(better_iff r x).mpr (.inr ⟨e1.symm, z⟩)] at b1; cases b1
    exact less_total x r e1 e2 e3
theorem thrown_is {ks : List Nat} {xs : List (Nat × Reading)} {r : List Nat} (hr : r ∈ (pairs ks).map (misfits xs)) (h1 : ∀ b ∈ (pairs ks).map (misfits xs), r.length ≤ b.length) (h2 : ∀ b ∈ (pairs ks).map (misfits xs), b.length = r.length → less b r = false) : thrown ks xs = some r := firstRow_is hr h1 h2
/-- the first least of rows as Python finds it -/
def minL (x : List Nat) (xs : List (List Nat)) : List Nat := xs.foldl (fun m b => if less b m = true then b else m) x
theorem minL_is (x : List Nat) (xs : List (List Nat)) : minL x xs ∈ x :: xs ∧ ∀ c ∈ x :: xs, less c (minL x xs) = false := by
  obtain ⟨h1, h2, _⟩ := fold_least less less_irrefl less_trans xs x
  exact ⟨h1, h2⟩
/-! ### least costs -/
theorem least_map {α : Type} (f : α → Nat) (l : List α) (h : l = []) : least (l.map f) = none := by
  subst h
  rfl
theorem tie_is (ks : List Nat) (rs : List Reading) (i j : Nat) (al : Bool) :
    tie ks rs i j al = least (((((pairsC ks rs).filter fun x => allowed 2 (x.1.1.getD i 0) (x.1.2.getD i 0)).filter fun x => allowed 2 (x.1.1.getD j 0) (x.1.2.getD j 0)).filter fun x => (x.1.1.getD i 0 == x.1.1.getD j 0) == al).map fun x => x.2) := by
  unfold tie pairsC
  rw [List.filter_filter, List.filter_filter, List.filter_map, List.map_map]
  have e : ((pairs ks).filter fun p => p.1.getD i 0 != p.2.getD i 0 && (p.1.getD j 0 != p.2.getD j 0 && ((p.1.getD i 0 == p.1.getD j 0) == al))) =
      (pairs ks).filter ((fun x : Pair × Nat => ((x.1.1.getD i 0 == x.1.1.getD j 0) == al && allowed 2 (x.1.1.getD j 0) (x.1.2.getD j 0)) && allowed 2 (x.1.1.getD i 0) (x.1.2.getD i 0)) ∘ fun p => (p, cost p rs)) := by
    refine List.filter_congr fun p _ => ?_
    show _ = (((p.1.getD i 0 == p.1.getD j 0) == al && p.1.getD j 0 != p.2.getD j 0) && p.1.getD i 0 != p.2.getD i 0)
    cases (p.1.getD i 0 != p.2.getD i 0) <;> cases (p.1.getD j 0 != p.2.getD j 0) <;> cases ((p.1.getD i 0 == p.1.getD j 0) == al) <;> rfl
  rw [e]
  rfl
theorem placed_is (ks : List Nat) (rs : List Reading) (i k : Nat) :
    placed ks rs i k = least (((pairsC ks rs).filter fun x => allowed k (x.1.1.getD i 0) (x.1.2.getD i 0)).map fun x => x.2) := by
  unfold placed pairsC
  rw [List.filter_map, List.map_map]
  rfl
end Ts
end
section
set_option maxRecDepth 100000
set_option maxHeartbeats 2000000
namespace Ts
open PySem PySem.Spec PyProof.Rows L2
def topS (i : Nat) : Stmt := PySem.Challenge.pw_twostrands_s01_answers.main.body.getD i (.Pass ⟨0, 0, 0, 0⟩)
abbrev s_Tape_init : Stmt := inClass (topS 27) 0
abbrev s_Tape_ended : Stmt := inClass (topS 27) 1
abbrev s_Tape_take : Stmt := inClass (topS 27) 2
abbrev s_Tape_take_row : Stmt := inClass (topS 27) 3
abbrev s_Mark_init : Stmt := inClass (topS 28) 0
abbrev s_Reading_init : Stmt := inClass (topS 29) 0
abbrev s_Pair_init : Stmt := inClass (topS 30) 0
abbrev s_Session_init : Stmt := inClass (topS 31) 0
abbrev s_Session_begin : Stmt := inClass (topS 31) 1
abbrev s_Session_has_place : Stmt := inClass (topS 31) 2
abbrev s_answers : Stmt := topS 32
abbrev s_answer_call : Stmt := topS 33
abbrev s_answer_question : Stmt := topS 34
abbrev s_answer_start : Stmt := topS 35
abbrev s_answer_known : Stmt := topS 36
abbrev s_answer_read : Stmt := topS 37
abbrev s_marks_of : Stmt := topS 38
abbrev s_marks_are_as_told : Stmt := topS 39
abbrev s_mark_is_as_told : Stmt := topS 40
abbrev s_answer_drop : Stmt := topS 41
abbrev s_answer_best : Stmt := topS 42
abbrev s_answer_nth : Stmt := topS 43
abbrev s_answer_sides : Stmt := topS 44
abbrev s_answer_tie : Stmt := topS 45
abbrev s_answer_placed : Stmt := topS 46
abbrev s_answer_blocks : Stmt := topS 47
abbrev s_answer_thrown : Stmt := topS 48
abbrev s_answer_cost : Stmt := topS 49
abbrev s_answer_shows : Stmt := topS 50
abbrev s_letters_of : Stmt := topS 51
abbrev s_strand_is_as_told : Stmt := topS 52
abbrev s_least_tied_places : Stmt := topS 53
abbrev s_numbers_that_cost : Stmt := topS 54
abbrev s_least_cost_if_any : Stmt := topS 55
abbrev s_least_cost : Stmt := topS 56
abbrev s_pairs_with : Stmt := topS 57
abbrev s_best_pairs : Stmt := topS 58
abbrev s_pairs_that_may_be : Stmt := topS 59
abbrev s_strands_in_order : Stmt := topS 60
abbrev s_may_be : Stmt := topS 61
abbrev s_letters_fit : Stmt := topS 62
abbrev s_costs_with : Stmt := topS 63
abbrev s_reading_cost : Stmt := topS 64
abbrev s_lesser_costs : Stmt := topS 65
abbrev nm_Tape_init : List Str := ["self", "calls"]
theorem sc_Tape_init : FnScope nm_Tape_init ["self", "calls"] (defScope s_Tape_init) := ⟨rfl, rfl, rfl, by decide +kernel, rfl, by decide +kernel, by decide +kernel⟩
abbrev nm_Tape_ended : List Str := ["self"]
theorem sc_Tape_ended : FnScope nm_Tape_ended ["self"] (defScope s_Tape_ended) := ⟨rfl, rfl, rfl, by decide +kernel, rfl, by decide +kernel, by decide +kernel⟩
abbrev nm_Tape_take : List Str := ["self", "number"]
theorem sc_Tape_take : FnScope nm_Tape_take ["self"] (defScope s_Tape_take) := ⟨rfl, rfl, rfl, by decide +kernel, rfl, by decide +kernel, by decide +kernel⟩
abbrev nm_Tape_take_row : List Str := ["self", "length", "row"]
theorem sc_Tape_take_row : FnScope nm_Tape_take_row ["self"] (defScope s_Tape_take_row) := ⟨rfl, rfl, rfl, by decide +kernel, rfl, by decide +kernel, by decide +kernel⟩
abbrev nm_Mark_init : List Str := ["self", "place", "letter", "price"]
theorem sc_Mark_init : FnScope nm_Mark_init ["self", "place", "letter", "price"] (defScope s_Mark_init) := ⟨rfl, rfl, rfl, by decide +kernel, rfl, by decide +kernel, by decide +kernel⟩
abbrev nm_Reading_init : List Str := ["self", "number", "marks"]
theorem sc_Reading_init : FnScope nm_Reading_init ["self", "number", "marks"] (defScope s_Reading_init) := ⟨rfl, rfl, rfl, by decide +kernel, rfl, by decide +kernel, by decide +kernel⟩
abbrev nm_Pair_init : List Str := ["self", "first", "second", "costs"]
theorem sc_Pair_init : FnScope nm_Pair_init ["self", "first", "second", "costs"] (defScope s_Pair_init) := ⟨rfl, rfl, rfl, by decide +kernel, rfl, by decide +kernel, by decide +kernel⟩
abbrev nm_Session_init : List Str := ["self"]
theorem sc_Session_init : FnScope nm_Session_init ["self"] (defScope s_Session_init) := ⟨rfl, rfl, rfl, by decide +kernel, rfl, by decide +kernel, by decide +kernel⟩
abbrev nm_Session_begin : List Str := ["self", "places"]
theorem sc_Session_begin : FnScope nm_Session_begin ["self", "places"] (defScope s_Session_begin) := ⟨rfl, rfl, rfl, by decide +kernel, rfl, by decide +kernel, by decide +kernel⟩
abbrev nm_Session_has_place : List Str := ["self", "place"]
theorem sc_Session_has_place : FnScope nm_Session_has_place ["self", "place"] (defScope s_Session_has_place) := ⟨rfl, rfl, rfl, by decide +kernel, rfl, by decide +kernel, by decide +kernel⟩
abbrev nm_answers : List Str := ["calls", "tape", "session", "given", "numbers"]
theorem sc_answers : FnScope nm_answers ["calls"] (defScope s_answers) := ⟨rfl, rfl, rfl, by decide +kernel, rfl, by decide +kernel, by decide +kernel⟩
abbrev nm_answer_call : List Str := ["session", "tape", "call", "place", "fact"]
theorem sc_answer_call : FnScope nm_answer_call ["session", "tape"] (defScope s_answer_call) := ⟨rfl, rfl, rfl, by decide +kernel, rfl, by decide +kernel, by decide +kernel⟩
abbrev nm_answer_question : List Str := ["session", "call", "tape", "place", "other", "strand"]
theorem sc_answer_question : FnScope nm_answer_question ["session", "call", "tape"] (defScope s_answer_question) := ⟨rfl, rfl, rfl, by decide +kernel, rfl, by decide +kernel, by decide +kernel⟩
abbrev nm_answer_start : List Str := ["session", "places"]
theorem sc_answer_start : FnScope nm_answer_start ["session", "places"] (defScope s_answer_start) := ⟨rfl, rfl, rfl, by decide +kernel, rfl, by decide +kernel, by decide +kernel⟩
abbrev nm_answer_known : List Str := ["session", "place", "fact"]
theorem sc_answer_known : FnScope nm_answer_known ["session", "place", "fact"] (defScope s_answer_known) := ⟨rfl, rfl, rfl, by decide +kernel, rfl, by decide +kernel, by decide +kernel⟩
abbrev nm_answer_read : List Str := ["session", "numbers", "marks", "reading"]
theorem sc_answer_read : FnScope nm_answer_read ["session", "numbers"] (defScope s_answer_read) := ⟨rfl, rfl, rfl, by decide +kernel, rfl, by decide +kernel, by decide +kernel⟩
abbrev nm_marks_of : List Str := ["numbers", "k"]
theorem sc_marks_of : FnScope nm_marks_of ["numbers"] (defScope s_marks_of) := ⟨rfl, rfl, rfl, by decide +kernel, rfl, by decide +kernel, by decide +kernel⟩
abbrev nm_marks_are_as_told : List Str := ["session", "marks", "mark"]
theorem sc_marks_are_as_told : FnScope nm_marks_are_as_told ["session", "marks"] (defScope s_marks_are_as_told) := ⟨rfl, rfl, rfl, by decide +kernel, rfl, by decide +kernel, by decide +kernel⟩
abbrev nm_mark_is_as_told : List Str := ["session", "mark"]
theorem sc_mark_is_as_told : FnScope nm_mark_is_as_told ["session", "mark"] (defScope s_mark_is_as_told) := ⟨rfl, rfl, rfl, by decide +kernel, rfl, by decide +kernel, by decide +kernel⟩
abbrev nm_answer_drop : List Str := ["session", "number", "left", "reading"]
theorem sc_answer_drop : FnScope nm_answer_drop ["session", "number"] (defScope s_answer_drop) := ⟨rfl, rfl, rfl, by decide +kernel, rfl, by decide +kernel, by decide +kernel⟩
abbrev nm_answer_best : List Str := ["session", "pairs"]
theorem sc_answer_best : FnScope nm_answer_best ["session"] (defScope s_answer_best) := ⟨rfl, rfl, rfl, by decide +kernel, rfl, by decide +kernel, by decide +kernel⟩
abbrev nm_answer_nth : List Str := ["session", "which", "pairs"]
theorem sc_answer_nth : FnScope nm_answer_nth ["session", "which"] (defScope s_answer_nth) := ⟨rfl, rfl, rfl, by decide +kernel, rfl, by decide +kernel, by decide +kernel⟩
abbrev nm_answer_sides : List Str := ["session", "pair", "given", "reading", "with_first", "with_second", "side"]
theorem sc_answer_sides : FnScope nm_answer_sides ["session"] (defScope s_answer_sides) := ⟨rfl, rfl, rfl, by decide +kernel, rfl, by decide +kernel, by decide +kernel⟩
abbrev nm_answer_tie : List Str := ["session", "place", "other", "pairs", "same", "crossed", "pair"]
theorem sc_answer_tie : FnScope nm_answer_tie ["session", "place", "other"] (defScope s_answer_tie) := ⟨rfl, rfl, rfl, by decide +kernel, rfl, by decide +kernel, by decide +kernel⟩
abbrev nm_answer_placed : List Str := ["session", "place", "pairs", "given", "fact"]
theorem sc_answer_placed : FnScope nm_answer_placed ["session", "place"] (defScope s_answer_placed) := ⟨rfl, rfl, rfl, by decide +kernel, rfl, by decide +kernel, by decide +kernel⟩
abbrev nm_answer_blocks : List Str := ["session", "least_tied", "leaders", "given", "leader", "block", "place"]
theorem sc_answer_blocks : FnScope nm_answer_blocks ["session"] (defScope s_answer_blocks) := ⟨rfl, rfl, rfl, by decide +kernel, rfl, by decide +kernel, by decide +kernel⟩
abbrev nm_answer_thrown : List Str := ["session", "choices", "fewest", "pair", "numbers"]
theorem sc_answer_thrown : FnScope nm_answer_thrown ["session"] (defScope s_answer_thrown) := ⟨rfl, rfl, rfl, by decide +kernel, rfl, by decide +kernel, by decide +kernel⟩
abbrev nm_answer_cost : List Str := ["session", "strand", "other"]
theorem sc_answer_cost : FnScope nm_answer_cost ["session", "strand", "other"] (defScope s_answer_cost) := ⟨rfl, rfl, rfl, by decide +kernel, rfl, by decide +kernel, by decide +kernel⟩
abbrev nm_answer_shows : List Str := ["session", "given", "reading", "mark"]
theorem sc_answer_shows : FnScope nm_answer_shows ["session"] (defScope s_answer_shows) := ⟨rfl, rfl, rfl, by decide +kernel, rfl, by decide +kernel, by decide +kernel⟩
abbrev nm_letters_of : List Str := ["pair"]
theorem sc_letters_of : FnScope nm_letters_of ["pair"] (defScope s_letters_of) := ⟨rfl, rfl, rfl, by decide +kernel, rfl, by decide +kernel, by decide +kernel⟩
abbrev nm_strand_is_as_told : List Str := ["session", "strand", "letter"]
theorem sc_strand_is_as_told : FnScope nm_strand_is_as_told ["session", "strand"] (defScope s_strand_is_as_told) := ⟨rfl, rfl, rfl, by decide +kernel, rfl, by decide +kernel, by decide +kernel⟩
abbrev nm_least_tied_places : List Str := ["session", "least_tied", "reading", "met", "least", "mark", "leader"]
theorem sc_least_tied_places : FnScope nm_least_tied_places ["session"] (defScope s_least_tied_places) := ⟨rfl, rfl, rfl, by decide +kernel, rfl, by decide +kernel, by decide +kernel⟩
abbrev nm_numbers_that_cost : List Str := ["readings", "pair", "reading", "cost"]
theorem sc_numbers_that_cost : FnScope nm_numbers_that_cost ["readings", "pair"] (defScope s_numbers_that_cost) := ⟨rfl, rfl, rfl, by decide +kernel, rfl, by decide +kernel, by decide +kernel⟩
abbrev nm_least_cost_if_any : List Str := ["pairs"]
theorem sc_least_cost_if_any : FnScope nm_least_cost_if_any ["pairs"] (defScope s_least_cost_if_any) := ⟨rfl, rfl, rfl, by decide +kernel, rfl, by decide +kernel, by decide +kernel⟩
abbrev nm_least_cost : List Str := ["pairs", "pair"]
theorem sc_least_cost : FnScope nm_least_cost ["pairs"] (defScope s_least_cost) := ⟨rfl, rfl, rfl, by decide +kernel, rfl, by decide +kernel, by decide +kernel⟩
abbrev nm_pairs_with : List Str := ["pairs", "place", "fact", "pair"]
theorem sc_pairs_with : FnScope nm_pairs_with ["pairs", "place", "fact"] (defScope s_pairs_with) := ⟨rfl, rfl, rfl, by decide +kernel, rfl, by decide +kernel, by decide +kernel⟩
abbrev nm_best_pairs : List Str := ["session", "pairs", "least", "pair"]
theorem sc_best_pairs : FnScope nm_best_pairs ["session"] (defScope s_best_pairs) := ⟨rfl, rfl, rfl, by decide +kernel, rfl, by decide +kernel, by decide +kernel⟩
abbrev nm_pairs_that_may_be : List Str := ["session", "strands", "costs", "pairs", "i", "j", "strand"]
theorem sc_pairs_that_may_be : FnScope nm_pairs_that_may_be ["session"] (defScope s_pairs_that_may_be) := ⟨rfl, rfl, rfl, by decide +kernel, rfl, by decide +kernel, by decide +kernel⟩
abbrev nm_strands_in_order : List Str := ["places", "strands", "longer", "strand"]
theorem sc_strands_in_order : FnScope nm_strands_in_order ["places"] (defScope s_strands_in_order) := ⟨rfl, rfl, rfl, by decide +kernel, rfl, by decide +kernel, by decide +kernel⟩
abbrev nm_may_be : List Str := ["facts", "first", "second", "k"]
theorem sc_may_be : FnScope nm_may_be ["facts", "first", "second"] (defScope s_may_be) := ⟨rfl, rfl, rfl, by decide +kernel, rfl, by decide +kernel, by decide +kernel⟩
abbrev nm_letters_fit : List Str := ["fact", "first", "second"]
theorem sc_letters_fit : FnScope nm_letters_fit ["fact", "first", "second"] (defScope s_letters_fit) := ⟨rfl, rfl, rfl, by decide +kernel, rfl, by decide +kernel, by decide +kernel⟩
abbrev nm_costs_with : List Str := ["readings", "strand", "reading"]
theorem sc_costs_with : FnScope nm_costs_with ["readings", "strand"] (defScope s_costs_with) := ⟨rfl, rfl, rfl, by decide +kernel, rfl, by decide +kernel, by decide +kernel⟩
abbrev nm_reading_cost : List Str := ["reading", "strand", "mark"]
theorem sc_reading_cost : FnScope nm_reading_cost ["reading", "strand"] (defScope s_reading_cost) := ⟨rfl, rfl, rfl, by decide +kernel, rfl, by decide +kernel, by decide +kernel⟩
abbrev nm_lesser_costs : List Str := ["first_costs", "second_costs", "first", "second"]
theorem sc_lesser_costs : FnScope nm_lesser_costs ["first_costs", "second_costs"] (defScope s_lesser_costs) := ⟨rfl, rfl, rfl, by decide +kernel, rfl, by decide +kernel, by decide +kernel⟩
def d_Tape_init : He.DefD := ⟨("Tape", some "__init__"), "__init__", "Tape.__init__", defArgs s_Tape_init, defBody s_Tape_init, defScope s_Tape_init, [], []⟩
def d_Tape_ended : He.DefD := ⟨("Tape", some "ended"), "ended", "Tape.ended", defArgs s_Tape_ended, defBody s_Tape_ended, defScope s_Tape_ended, [], []⟩
def d_Tape_take : He.DefD := ⟨("Tape", some "take"), "take", "Tape.take", defArgs s_Tape_take, defBody s_Tape_take, defScope s_Tape_take, [], []⟩
def d_Tape_take_row : He.DefD := ⟨("Tape", some "take_row"), "take_row", "Tape.take_row", defArgs s_Tape_take_row, defBody s_Tape_take_row, defScope s_Tape_take_row, [], []⟩
def d_Mark_init : He.DefD := ⟨("Mark", some "__init__"), "__init__", "Mark.__init__", defArgs s_Mark_init, defBody s_Mark_init, defScope s_Mark_init, [], []⟩
def d_Reading_init : He.DefD := ⟨("Reading", some "__init__"), "__init__", "Reading.__init__", defArgs s_Reading_init, defBody s_Reading_init, defScope s_Reading_init, [], []⟩
def d_Pair_init : He.DefD := ⟨("Pair", some "__init__"), "__init__", "Pair.__init__", defArgs s_Pair_init, defBody s_Pair_init, defScope s_Pair_init, [], []⟩
def d_Session_init : He.DefD := ⟨("Session", some "__init__"), "__init__", "Session.__init__", defArgs s_Session_init, defBody s_Session_init, defScope s_Session_init, [], []⟩
def d_Session_begin : He.DefD := ⟨("Session", some "begin"), "begin", "Session.begin", defArgs s_Session_begin, defBody s_Session_begin, defScope s_Session_begin, [], []⟩
def d_Session_has_place : He.DefD := ⟨("Session", some "has_place"), "has_place", "Session.has_place", defArgs s_Session_has_place, defBody s_Session_has_place, defScope s_Session_has_place, [], []⟩
def d_answers : He.DefD := ⟨("answers", none), "answers", "answers", defArgs s_answers, defBody s_answers, defScope s_answers, [], []⟩
def d_answer_call : He.DefD := ⟨("answer_call", none), "answer_call", "answer_call", defArgs s_answer_call, defBody s_answer_call, defScope s_answer_call, [], []⟩
def d_answer_question : He.DefD := ⟨("answer_question", none), "answer_question", "answer_question", defArgs s_answer_question, defBody s_answer_question, defScope s_answer_question, [], []⟩
def d_answer_start : He.DefD := ⟨("answer_start", none), "answer_start", "answer_start", defArgs s_answer_start, defBody s_answer_start, defScope s_answer_start, [], []⟩
def d_answer_known : He.DefD := ⟨("answer_known", none), "answer_known", "answer_known", defArgs s_answer_known, defBody s_answer_known, defScope s_answer_known, [], []⟩
def d_answer_read : He.DefD := ⟨("answer_read", none), "answer_read", "answer_read", defArgs s_answer_read, defBody s_answer_read, defScope s_answer_read, [], []⟩
def d_marks_of : He.DefD := ⟨("marks_of", none), "marks_of", "marks_of", defArgs s_marks_of, defBody s_marks_of, defScope s_marks_of, [], []⟩
def d_marks_are_as_told : He.DefD := ⟨("marks_are_as_told", none), "marks_are_as_told", "marks_are_as_told", defArgs s_marks_are_as_told, defBody s_marks_are_as_told, defScope s_marks_are_as_told, [], []⟩
def d_mark_is_as_told : He.DefD := ⟨("mark_is_as_told", none), "mark_is_as_told", "mark_is_as_told", defArgs s_mark_is_as_told, defBody s_mark_is_as_told, defScope s_mark_is_as_told, [], []⟩
def d_answer_drop : He.DefD := ⟨("answer_drop", none), "answer_drop", "answer_drop", defArgs s_answer_drop, defBody s_answer_drop, defScope s_answer_drop, [], []⟩
def d_answer_best : He.DefD := ⟨("answer_best", none), "answer_best", "answer_best", defArgs s_answer_best, defBody s_answer_best, defScope s_answer_best, [], []⟩
def d_answer_nth : He.DefD := ⟨("answer_nth", none), "answer_nth", "answer_nth", defArgs s_answer_nth, defBody s_answer_nth, defScope s_answer_nth, [], []⟩
def d_answer_sides : He.DefD := ⟨("answer_sides", none), "answer_sides", "answer_sides", defArgs s_answer_sides, defBody s_answer_sides, defScope s_answer_sides, [], []⟩
def d_answer_tie : He.DefD := ⟨("answer_tie", none), "answer_tie", "answer_tie", defArgs s_answer_tie, defBody s_answer_tie, defScope s_answer_tie, [], []⟩
def d_answer_placed : He.DefD := ⟨("answer_placed", none), "answer_placed", "answer_placed", defArgs s_answer_placed, defBody s_answer_placed, defScope s_answer_placed, [], []⟩
def d_answer_blocks : He.DefD := ⟨("answer_blocks", none), "answer_blocks", "answer_blocks", defArgs s_answer_blocks, defBody s_answer_blocks, defScope s_answer_blocks, [], []⟩
def d_answer_thrown : He.DefD := ⟨("answer_thrown", none), "answer_thrown", "answer_thrown", defArgs s_answer_thrown, defBody s_answer_thrown, defScope s_answer_thrown, [], []⟩
def d_answer_cost : He.DefD := ⟨("answer_cost", none), "answer_cost", "answer_cost", defArgs s_answer_cost, defBody s_answer_cost, defScope s_answer_cost, [], []⟩
def d_answer_shows : He.DefD := ⟨("answer_shows", none), "answer_shows", "answer_shows", defArgs s_answer_shows, defBody s_answer_shows, defScope s_answer_shows, [], []⟩
def d_letters_of : He.DefD := ⟨("letters_of", none), "letters_of", "letters_of", defArgs s_letters_of, defBody s_letters_of, defScope s_letters_of, [], []⟩
def d_strand_is_as_told : He.DefD := ⟨("strand_is_as_told", none), "strand_is_as_told", "strand_is_as_told", defArgs s_strand_is_as_told, defBody s_strand_is_as_told, defScope s_strand_is_as_told, [], []⟩
def d_least_tied_places : He.DefD := ⟨("least_tied_places", none), "least_tied_places", "least_tied_places", defArgs s_least_tied_places, defBody s_least_tied_places, defScope s_least_tied_places, [], []⟩
def d_numbers_that_cost : He.DefD := ⟨("numbers_that_cost", none), "numbers_that_cost", "numbers_that_cost", defArgs s_numbers_that_cost, defBody s_numbers_that_cost, defScope s_numbers_that_cost, [], []⟩
def d_least_cost_if_any : He.DefD := ⟨("least_cost_if_any", none), "least_cost_if_any", "least_cost_if_any", defArgs s_least_cost_if_any, defBody s_least_cost_if_any, defScope s_least_cost_if_any, [], []⟩
def d_least_cost : He.DefD := ⟨("least_cost", none), "least_cost", "least_cost", defArgs s_least_cost, defBody s_least_cost, defScope s_least_cost, [], []⟩
def d_pairs_with : He.DefD := ⟨("pairs_with", none), "pairs_with", "pairs_with", defArgs s_pairs_with, defBody s_pairs_with, defScope s_pairs_with, [], []⟩
def d_best_pairs : He.DefD := ⟨("best_pairs", none), "best_pairs", "best_pairs", defArgs s_best_pairs, defBody s_best_pairs, defScope s_best_pairs, [], []⟩
def d_pairs_that_may_be : He.DefD := ⟨("pairs_that_may_be", none), "pairs_that_may_be", "pairs_that_may_be", defArgs s_pairs_that_may_be, defBody s_pairs_that_may_be, defScope s_pairs_that_may_be, [], []⟩
def d_strands_in_order : He.DefD := ⟨("strands_in_order", none), "strands_in_order", "strands_in_order", defArgs s_strands_in_order, defBody s_strands_in_order, defScope s_strands_in_order, [], []⟩
def d_may_be : He.DefD := ⟨("may_be", none), "may_be", "may_be", defArgs s_may_be, defBody s_may_be, defScope s_may_be, [], []⟩
def d_letters_fit : He.DefD := ⟨("letters_fit", none), "letters_fit", "letters_fit", defArgs s_letters_fit, defBody s_letters_fit, defScope s_letters_fit, [], []⟩
def d_costs_with : He.DefD := ⟨("costs_with", none), "costs_with", "costs_with", defArgs s_costs_with, defBody s_costs_with, defScope s_costs_with, [], []⟩
def d_reading_cost : He.DefD := ⟨("reading_cost", none), "reading_cost", "reading_cost", defArgs s_reading_cost, defBody s_reading_cost, defScope s_reading_cost, [], []⟩
def d_lesser_costs : He.DefD := ⟨("lesser_costs", none), "lesser_costs", "lesser_costs", defArgs s_lesser_costs, defBody s_lesser_costs, defScope s_lesser_costs, [], []⟩
def fn : List He.DefD := [d_Tape_init, d_Tape_ended, d_Tape_take, d_Tape_take_row, d_Mark_init, d_Reading_init, d_Pair_init, d_Session_init, d_Session_begin, d_Session_has_place, d_answers, d_answer_call, d_answer_question, d_answer_start, d_answer_known, d_answer_read, d_marks_of, d_marks_are_as_told, d_mark_is_as_told, d_answer_drop, d_answer_best, d_answer_nth, d_answer_sides, d_answer_tie, d_answer_placed, d_answer_blocks, d_answer_thrown, d_answer_cost, d_answer_shows, d_letters_of, d_strand_is_as_told, d_least_tied_places, d_numbers_that_cost, d_least_cost_if_any, d_least_cost, d_pairs_with, d_best_pairs, d_pairs_that_may_be, d_strands_in_order, d_may_be, d_letters_fit, d_costs_with, d_reading_cost, d_lesser_costs]
def fa0 : List He.Fa := [.int "START" (0), .int "KNOWN" (1), .int "READ" (2), .int "DROP" (3), .int "BEST" (4), .int "NTH" (5), .int "SIDES" (6), .int "TIE" (7), .int "PLACED" (8), .int "BLOCKS" (9), .int "THROWN" (10), .int "COST" (11), .int "SHOWS" (12), .int "PLACES_AT_FIRST" (2), .int "MOST_PLACES" (6), .int "MOST_READINGS" (10), .int "HIGHEST_LETTER" (1), .int "HIGHEST_PRICE" (99), .int "NUMBERS_IN_A_MARK" (3), .int "BOTH_0" (0), .int "BOTH_1" (1), .int "ONE_OF_EACH" (2), .int "NOTHING" (3), .int "NOT_AS_TOLD" (-1), .int "NOT_THERE" (-3), .int "FULL" (-5), .glo "Tape", .cls "Tape", .meth "Tape" "ended", .meth "Tape" "take"]
def fa1 : List He.Fa := [.meth "Tape" "take_row", .mkr "Tape", .noat "Tape" "numbers", .noat "Tape" "at", .glo "Mark", .cls "Mark", .mkr "Mark", .noat "Mark" "place", .noat "Mark" "letter", .noat "Mark" "price", .glo "Reading", .cls "Reading", .mkr "Reading", .noat "Reading" "number", .noat "Reading" "marks", .glo "Pair", .cls "Pair", .mkr "Pair", .noat "Pair" "first", .noat "Pair" "second", .noat "Pair" "costs", .noat "Pair" "cost", .glo "Session", .cls "Session", .meth "Session" "begin", .meth "Session" "has_place", .mkr "Session", .noat "Session" "facts", .noat "Session" "readings", .noat "Session" "next_number"]
def fa2 : List He.Fa := [.glo "answers", .glo "answer_call", .glo "answer_question", .glo "answer_start", .glo "answer_known", .glo "answer_read", .glo "marks_of", .glo "marks_are_as_told", .glo "mark_is_as_told", .glo "answer_drop", .glo "answer_best", .glo "answer_nth", .glo "answer_sides", .glo "answer_tie", .glo "answer_placed", .glo "answer_blocks", .glo "answer_thrown", .glo "answer_cost", .glo "answer_shows", .glo "letters_of", .glo "strand_is_as_told", .glo "least_tied_places", .glo "numbers_that_cost", .glo "least_cost_if_any", .glo "least_cost", .glo "pairs_with", .glo "best_pairs", .glo "pairs_that_may_be", .glo "strands_in_order", .glo "may_be"]
def fa3 : List He.Fa := [.glo "letters_fit", .glo "costs_with", .glo "reading_cost", .glo "lesser_costs", .free "len", .free "range", .free "min", .free "sum", .free "all", .free "set", .free "zip", .free "list", .free "KeyError"]
def fa : List He.Fa := fa0 ++ (fa1 ++ (fa2 ++ (fa3)))
/-- what the top has written -/
structure Tx (K : PySem.W.Frag) (mg : Str → Option Value) : Prop where
  c : He.SaysD fa fn K
  h : ∃ h : Heap, K.In h ∧ h.Ns mainGlobals mg
section
variable {K : PySem.W.Frag} {mg : Str → Option Value}
theorem fa_at {i j : Nat} {l r : List He.Fa} {f : He.Fa} (h : r[j]? = some f) (e : i = l.length + j) : (l ++ r)[i]? = some f := by
  subst e
  rw [List.getElem?_append_right (Nat.le_add_right _ _), Nat.add_sub_cancel_left]
  exact h
theorem Tx.i_START (T : Tx K mg) : ∃ t, mg "START" = some (.int (0) t) := let ⟨_, X, G⟩ := T.h; He.int_ok X G (T.c.fact 0 (f := .int "START" (0)) rfl)
theorem Tx.i_KNOWN (T : Tx K mg) : ∃ t, mg "KNOWN" = some (.int (1) t) := let ⟨_, X, G⟩ := T.h; He.int_ok X G (T.c.fact 1 (f := .int "KNOWN" (1)) rfl)
theorem Tx.i_READ (T : Tx K mg) : ∃ t, mg "READ" = some (.int (2) t) := let ⟨_, X, G⟩ := T.h; He.int_ok X G (T.c.fact 2 (f := .int "READ" (2)) rfl)
theorem Tx.i_DROP (T : Tx K mg) : ∃ t, mg "DROP" = some (.int (3) t) := let ⟨_, X, G⟩ := T.h; He.int_ok X G (T.c.fact 3 (f := .int "DROP" (3)) rfl)
theorem Tx.i_BEST (T : Tx K mg) : ∃ t, mg "BEST" = some (.int (4) t) := let ⟨_, X, G⟩ := T.h; He.int_ok X G (T.c.fact 4 (f := .int "BEST" (4)) rfl)
theorem Tx.i_NTH (T : Tx K mg) : ∃ t, mg "NTH" = some (.int (5) t) := let ⟨_, X, G⟩ := T.h; He.int_ok X G (T.c.fact 5 (f := .int "NTH" (5)) rfl)
theorem Tx.i_SIDES (T : Tx K mg) : ∃ t, mg "SIDES" = some (.int (6) t) := let ⟨_, X, G⟩ := T.h; He.int_ok X G (T.c.fact 6 (f := .int "SIDES" (6)) rfl)
theorem Tx.i_TIE (T : Tx K mg) : ∃ t, mg "TIE" = some (.int (7) t) := let ⟨_, X, G⟩ := T.h; He.int_ok X G (T.c.fact 7 (f := .int "TIE" (7)) rfl)
theorem Tx.i_PLACED (T : Tx K mg) : ∃ t, mg "PLACED" = some (.int (8) t) := let ⟨_, X, G⟩ := T.h; He.int_ok X G (T.c.fact 8 (f := .int "PLACED" (8)) rfl)
theorem Tx.i_BLOCKS (T : Tx K mg) : ∃ t, mg "BLOCKS" = some (.int (9) t) := let ⟨_, X, G⟩ := T.h; He.int_ok X G (T.c.fact 9 (f := .int "BLOCKS" (9)) rfl)
theorem Tx.i_THROWN (T : Tx K mg) : ∃ t, mg "THROWN" = some (.int (10) t) := let ⟨_, X, G⟩ := T.h; He.int_ok X G (T.c.fact 10 (f := .int "THROWN" (10)) rfl)
theorem Tx.i_COST (T : Tx K mg) : ∃ t, mg "COST" = some (.int (11) t) := let ⟨_, X, G⟩ := T.h; He.int_ok X G (T.c.fact 11 (f := .int "COST" (11)) rfl)
theorem Tx.i_SHOWS (T : Tx K mg) : ∃ t, mg "SHOWS" = some (.int (12) t) := let ⟨_, X, G⟩ := T.h; He.int_ok X G (T.c.fact 12 (f := .int "SHOWS" (12)) rfl)
theorem Tx.i_PLACES_AT_FIRST (T : Tx K mg) : ∃ t, mg "PLACES_AT_FIRST" = some (.int (2) t) := let ⟨_, X, G⟩ := T.h; He.int_ok X G (T.c.fact 13 (f := .int "PLACES_AT_FIRST" (2)) rfl)
theorem Tx.i_MOST_PLACES (T : Tx K mg) : ∃ t, mg "MOST_PLACES" = some (.int (6) t) := let ⟨_, X, G⟩ := T.h; He.int_ok X G (T.c.fact 14 (f := .int "MOST_PLACES" (6)) rfl)
theorem Tx.i_MOST_READINGS (T : Tx K mg) : ∃ t, mg "MOST_READINGS" = some (.int (10) t) := let ⟨_, X, G⟩ := T.h; He.int_ok X G (T.c.fact 15 (f := .int "MOST_READINGS" (10)) rfl)
theorem Tx.i_HIGHEST_LETTER (T : Tx K mg) : ∃ t, mg "HIGHEST_LETTER" = some (.int (1) t) := let ⟨_, X, G⟩ := T.h; He.int_ok X G (T.c.fact 16 (f := .int "HIGHEST_LETTER" (1)) rfl)
theorem Tx.i_HIGHEST_PRICE (T : Tx K mg) : ∃ t, mg "HIGHEST_PRICE" = some (.int (99) t) := let ⟨_, X, G⟩ := T.h; He.int_ok X G (T.c.fact 17 (f := .int "HIGHEST_PRICE" (99)) rfl)
theorem Tx.i_NUMBERS_IN_A_MARK (T : Tx K mg) : ∃ t, mg "NUMBERS_IN_A_MARK" = some (.int (3) t) := let ⟨_, X, G⟩ := T.h; He.int_ok X G (T.c.fact 18 (f := .int "NUMBERS_IN_A_MARK" (3)) rfl)
theorem Tx.i_BOTH_0 (T : Tx K mg) : ∃ t, mg "BOTH_0" = some (.int (0) t) := let ⟨_, X, G⟩ := T.h; He.int_ok X G (T.c.fact 19 (f := .int "BOTH_0" (0)) rfl)
theorem Tx.i_BOTH_1 (T : Tx K mg) : ∃ t, mg "BOTH_1" = some (.int (1) t) := let ⟨_, X, G⟩ := T.h; He.int_ok X G (T.c.fact 20 (f := .int "BOTH_1" (1)) rfl)
theorem Tx.i_ONE_OF_EACH (T : Tx K mg) : ∃ t, mg "ONE_OF_EACH" = some (.int (2) t) := let ⟨_, X, G⟩ := T.h; He.int_ok X G (T.c.fact 21 (f := .int "ONE_OF_EACH" (2)) rfl)
theorem Tx.i_NOTHING (T : Tx K mg) : ∃ t, mg "NOTHING" = some (.int (3) t) := let ⟨_, X, G⟩ := T.h; He.int_ok X G (T.c.fact 22 (f := .int "NOTHING" (3)) rfl)
theorem Tx.i_NOT_AS_TOLD (T : Tx K mg) : ∃ t, mg "NOT_AS_TOLD" = some (.int (-1) t) := let ⟨_, X, G⟩ := T.h; He.int_ok X G (T.c.fact 23 (f := .int "NOT_AS_TOLD" (-1)) rfl)
theorem Tx.i_NOT_THERE (T : Tx K mg) : ∃ t, mg "NOT_THERE" = some (.int (-3) t) := let ⟨_, X, G⟩ := T.h; He.int_ok X G (T.c.fact 24 (f := .int "NOT_THERE" (-3)) rfl)
theorem Tx.i_FULL (T : Tx K mg) : ∃ t, mg "FULL" = some (.int (-5) t) := let ⟨_, X, G⟩ := T.h; He.int_ok X G (T.c.fact 25 (f := .int "FULL" (-5)) rfl)
theorem Tx.g_Tape (T : Tx K mg) : mg "Tape" = some (.ref (He.ga K "Tape")) := let ⟨_, X, G⟩ := T.h; He.glo_ok X G (T.c.fact 26 (f := .glo "Tape") rfl)
theorem Tx.cl_Tape (T : Tx K mg) : Cls K (He.ga K "Tape") := He.cls_ok (T.c.fact 27 (f := .cls "Tape") rfl)
theorem Tx.m_Tape_ended (T : Tx K mg) : Meth K (He.ga K "Tape") "ended" (He.ma K (He.ga K "Tape") "ended") := He.meth_ok (T.c.fact 28 (f := .meth "Tape" "ended") rfl)
theorem Tx.m_Tape_take (T : Tx K mg) : Meth K (He.ga K "Tape") "take" (He.ma K (He.ga K "Tape") "take") := He.meth_ok (T.c.fact 29 (f := .meth "Tape" "take") rfl)
theorem Tx.m_Tape_take_row (T : Tx K mg) : Meth K (He.ga K "Tape") "take_row" (He.ma K (He.ga K "Tape") "take_row") := He.meth_ok (T.c.fact 30 (f := .meth "Tape" "take_row") rfl)
theorem Tx.mk_Tape (T : Tx K mg) : Mk K (He.ga K "Tape") (He.ma K (He.ga K "Tape") "__init__") := He.mkr_ok (T.c.fact 31 (f := .mkr "Tape") rfl)
theorem Tx.n_Tape_numbers (T : Tx K mg) : NoAttr K (He.ga K "Tape") "numbers" := He.noat_ok (T.c.fact 32 (f := .noat "Tape" "numbers") rfl)
theorem Tx.n_Tape_at (T : Tx K mg) : NoAttr K (He.ga K "Tape") "at" := He.noat_ok (T.c.fact 33 (f := .noat "Tape" "at") rfl)
theorem Tx.g_Mark (T : Tx K mg) : mg "Mark" = some (.ref (He.ga K "Mark")) := let ⟨_, X, G⟩ := T.h; He.glo_ok X G (T.c.fact 34 (f := .glo "Mark") rfl)
theorem Tx.cl_Mark (T : Tx K mg) : Cls K (He.ga K "Mark") := He.cls_ok (T.c.fact 35 (f := .cls "Mark") rfl)
theorem Tx.mk_Mark (T : Tx K mg) : Mk K (He.ga K "Mark") (He.ma K (He.ga K "Mark") "__init__") := He.mkr_ok (T.c.fact 36 (f := .mkr "Mark") rfl)
theorem Tx.n_Mark_place (T : Tx K mg) : NoAttr K (He.ga K "Mark") "place" := He.noat_ok (T.c.fact 37 (f := .noat "Mark" "place") rfl)
theorem Tx.n_Mark_letter (T : Tx K mg) : NoAttr K (He.ga K "Mark") "letter" := He.noat_ok (T.c.fact 38 (f := .noat "Mark" "letter") rfl)
theorem Tx.n_Mark_price (T : Tx K mg) : NoAttr K (He.ga K "Mark") "price" := He.noat_ok (T.c.fact 39 (f := .noat "Mark" "price") rfl)
theorem Tx.g_Reading (T : Tx K mg) : mg "Reading" = some (.ref (He.ga K "Reading")) := let ⟨_, X, G⟩ := T.h; He.glo_ok X G (T.c.fact 40 (f := .glo "Reading") rfl)
theorem Tx.cl_Reading (T : Tx K mg) : Cls K (He.ga K "Reading") := He.cls_ok (T.c.fact 41 (f := .cls "Reading") rfl)
theorem Tx.mk_Reading (T : Tx K mg) : Mk K (He.ga K "Reading") (He.ma K (He.ga K "Reading") "__init__") := He.mkr_ok (T.c.fact 42 (f := .mkr "Reading") rfl)
theorem Tx.n_Reading_number (T : Tx K mg) : NoAttr K (He.ga K "Reading") "number" := He.noat_ok (T.c.fact 43 (f := .noat "Reading" "number") rfl)
theorem Tx.n_Reading_marks (T : Tx K mg) : NoAttr K (He.ga K "Reading") "marks" := He.noat_ok (T.c.fact 44 (f := .noat "Reading" "marks") rfl)
theorem Tx.g_Pair (T : Tx K mg) : mg "Pair" = some (.ref (He.ga K "Pair")) := let ⟨_, X, G⟩ := T.h; He.glo_ok X G (T.c.fact 45 (f := .glo "Pair") rfl)
theorem Tx.cl_Pair (T : Tx K mg) : Cls K (He.ga K "Pair") := He.cls_ok (T.c.fact 46 (f := .cls "Pair") rfl)
theorem Tx.mk_Pair (T : Tx K mg) : Mk K (He.ga K "Pair") (He.ma K (He.ga K "Pair") "__init__") := He.mkr_ok (T.c.fact 47 (f := .mkr "Pair") rfl)
theorem Tx.n_Pair_first (T : Tx K mg) : NoAttr K (He.ga K "Pair") "first" := He.noat_ok (T.c.fact 48 (f := .noat "Pair" "first") rfl)
theorem Tx.n_Pair_second (T : Tx K mg) : NoAttr K (He.ga K "Pair") "second" := He.noat_ok (T.c.fact 49 (f := .noat "Pair" "second") rfl)
theorem Tx.n_Pair_costs (T : Tx K mg) : NoAttr K (He.ga K "Pair") "costs" := He.noat_ok (T.c.fact 50 (f := .noat "Pair" "costs") rfl)
theorem Tx.n_Pair_cost (T : Tx K mg) : NoAttr K (He.ga K "Pair") "cost" := He.noat_ok (T.c.fact 51 (f := .noat "Pair" "cost") rfl)
theorem Tx.g_Session (T : Tx K mg) : mg "Session" = some (.ref (He.ga K "Session")) := let ⟨_, X, G⟩ := T.h; He.glo_ok X G (T.c.fact 52 (f := .glo "Session") rfl)
theorem Tx.cl_Session (T : Tx K mg) : Cls K (He.ga K "Session") := He.cls_ok (T.c.fact 53 (f := .cls "Session") rfl)
theorem Tx.m_Session_begin (T : Tx K mg) : Meth K (He.ga K "Session") "begin" (He.ma K (He.ga K "Session") "begin") := He.meth_ok (T.c.fact 54 (f := .meth "Session" "begin") rfl)
theorem Tx.m_Session_has_place (T : Tx K mg) : Meth K (He.ga K "Session") "has_place" (He.ma K (He.ga K "Session") "has_place") := He.meth_ok (T.c.fact 55 (f := .meth "Session" "has_place") rfl)
theorem Tx.mk_Session (T : Tx K mg) : Mk K (He.ga K "Session") (He.ma K (He.ga K "Session") "__init__") := He.mkr_ok (T.c.fact 56 (f := .mkr "Session") rfl)
theorem Tx.n_Session_facts (T : Tx K mg) : NoAttr K (He.ga K "Session") "facts" := He.noat_ok (T.c.fact 57 (f := .noat "Session" "facts") rfl)
theorem Tx.n_Session_readings (T : Tx K mg) : NoAttr K (He.ga K "Session") "readings" := He.noat_ok (T.c.fact 58 (f := .noat "Session" "readings") rfl)
theorem Tx.n_Session_next_number (T : Tx K mg) : NoAttr K (He.ga K "Session") "next_number" := He.noat_ok (T.c.fact 59 (f := .noat "Session" "next_number") rfl)
theorem Tx.g_answers (T : Tx K mg) : mg "answers" = some (.ref (He.ga K "answers")) := let ⟨_, X, G⟩ := T.h; He.glo_ok X G (T.c.fact 60 (f := .glo "answers") rfl)
theorem Tx.g_answer_call (T : Tx K mg) : mg "answer_call" = some (.ref (He.ga K "answer_call")) := let ⟨_, X, G⟩ := T.h; He.glo_ok X G (T.c.fact 61 (f := .glo "answer_call") rfl)
theorem Tx.g_answer_question (T : Tx K mg) : mg "answer_question" = some (.ref (He.ga K "answer_question")) := let ⟨_, X, G⟩ := T.h; He.glo_ok X G (T.c.fact 62 (f := .glo "answer_question") rfl)
theorem Tx.g_answer_start (T : Tx K mg) : mg "answer_start" = some (.ref (He.ga K "answer_start")) := let ⟨_, X, G⟩ := T.h; He.glo_ok X G (T.c.fact 63 (f := .glo "answer_start") rfl)
theorem Tx.g_answer_known (T : Tx K mg) : mg "answer_known" = some (.ref (He.ga K "answer_known")) := let ⟨_, X, G⟩ := T.h; He.glo_ok X G (T.c.fact 64 (f := .glo "answer_known") rfl)
theorem Tx.g_answer_read (T : Tx K mg) : mg "answer_read" = some (.ref (He.ga K "answer_read")) := let ⟨_, X, G⟩ := T.h; He.glo_ok X G (T.c.fact 65 (f := .glo "answer_read") rfl)
theorem Tx.g_marks_of (T : Tx K mg) : mg "marks_of" = some (.ref (He.ga K "marks_of")) := let ⟨_, X, G⟩ := T.h; He.glo_ok X G (T.c.fact 66 (f := .glo "marks_of") rfl)
theorem Tx.g_marks_are_as_told (T : Tx K mg) : mg "marks_are_as_told" = some (.ref (He.ga K "marks_are_as_told")) := let ⟨_, X, G⟩ := T.h; He.glo_ok X G (T.c.fact 67 (f := .glo "marks_are_as_told") rfl)
theorem Tx.g_mark_is_as_told (T : Tx K mg) : mg "mark_is_as_told" = some (.ref (He.ga K "mark_is_as_told")) := let ⟨_, X, G⟩ := T.h; He.glo_ok X G (T.c.fact 68 (f := .glo "mark_is_as_told") rfl)
theorem Tx.g_answer_drop (T : Tx K mg) : mg "answer_drop" = some (.ref (He.ga K "answer_drop")) := let ⟨_, X, G⟩ := T.h; He.glo_ok X G (T.c.fact 69 (f := .glo "answer_drop") rfl)
theorem Tx.g_answer_best (T : Tx K mg) : mg "answer_best" = some (.ref (He.ga K "answer_best")) := let ⟨_, X, G⟩ := T.h; He.glo_ok X G (T.c.fact 70 (f := .glo "answer_best") rfl)
theorem Tx.g_answer_nth (T : Tx K mg) : mg "answer_nth" = some (.ref (He.ga K "answer_nth")) := let ⟨_, X, G⟩ := T.h; He.glo_ok X G (T.c.fact 71 (f := .glo "answer_nth") rfl)
theorem Tx.g_answer_sides (T : Tx K mg) : mg "answer_sides" = some (.ref (He.ga K "answer_sides")) := let ⟨_, X, G⟩ := T.h; He.glo_ok X G (T.c.fact 72 (f := .glo "answer_sides") rfl)
theorem Tx.g_answer_tie (T : Tx K mg) : mg "answer_tie" = some (.ref (He.ga K "answer_tie")) := let ⟨_, X, G⟩ := T.h; He.glo_ok X G (T.c.fact 73 (f := .glo "answer_tie") rfl)
theorem Tx.g_answer_placed (T : Tx K mg) : mg "answer_placed" = some (.ref (He.ga K "answer_placed")) := let ⟨_, X, G⟩ := T.h; He.glo_ok X G (T.c.fact 74 (f := .glo "answer_placed") rfl)
theorem Tx.g_answer_blocks (T : Tx K mg) : mg "answer_blocks" = some (.ref (He.ga K "answer_blocks")) := let ⟨_, X, G⟩ := T.h; He.glo_ok X G (T.c.fact 75 (f := .glo "answer_blocks") rfl)
theorem Tx.g_answer_thrown (T : Tx K mg) : mg "answer_thrown" = some (.ref (He.ga K "answer_thrown")) := let ⟨_, X, G⟩ := T.h; He.glo_ok X G (T.c.fact 76 (f := .glo "answer_thrown") rfl)
theorem Tx.g_answer_cost (T : Tx K mg) : mg "answer_cost" = some (.ref (He.ga K "answer_cost")) := let ⟨_, X, G⟩ := T.h; He.glo_ok X G (T.c.fact 77 (f := .glo "answer_cost") rfl)
theorem Tx.g_answer_shows (T : Tx K mg) : mg "answer_shows" = some (.ref (He.ga K "answer_shows")) := let ⟨_, X, G⟩ := T.h; He.glo_ok X G (T.c.fact 78 (f := .glo "answer_shows") rfl)
theorem Tx.g_letters_of (T : Tx K mg) : mg "letters_of" = some (.ref (He.ga K "letters_of")) := let ⟨_, X, G⟩ := T.h; He.glo_ok X G (T.c.fact 79 (f := .glo "letters_of") rfl)
theorem Tx.g_strand_is_as_told (T : Tx K mg) : mg "strand_is_as_told" = some (.ref (He.ga K "strand_is_as_told")) := let ⟨_, X, G⟩ := T.h; He.glo_ok X G (T.c.fact 80 (f := .glo "strand_is_as_told") rfl)
theorem Tx.g_least_tied_places (T : Tx K mg) : mg "least_tied_places" = some (.ref (He.ga K "least_tied_places")) := let ⟨_, X, G⟩ := T.h; He.glo_ok X G (T.c.fact 81 (f := .glo "least_tied_places") rfl)
theorem Tx.g_numbers_that_cost (T : Tx K mg) : mg "numbers_that_cost" = some (.ref (He.ga K "numbers_that_cost")) := let ⟨_, X, G⟩ := T.h; He.glo_ok X G (T.c.fact 82 (f := .glo "numbers_that_cost") rfl)
theorem Tx.g_least_cost_if_any (T : Tx K mg) : mg "least_cost_if_any" = some (.ref (He.ga K "least_cost_if_any")) := let ⟨_, X, G⟩ := T.h; He.glo_ok X G (T.c.fact 83 (f := .glo "least_cost_if_any") rfl)
theorem Tx.g_least_cost (T : Tx K mg) : mg "least_cost" = some (.ref (He.ga K "least_cost")) := let ⟨_, X, G⟩ := T.h; He.glo_ok X G (T.c.fact 84 (f := .glo "least_cost") rfl)
theorem Tx.g_pairs_with (T : Tx K mg) : mg "pairs_with" = some (.ref (He.ga K "pairs_with")) := let ⟨_, X, G⟩ := T.h; He.glo_ok X G (T.c.fact 85 (f := .glo "pairs_with") rfl)
theorem Tx.g_best_pairs (T : Tx K mg) : mg "best_pairs" = some (.ref (He.ga K "best_pairs")) := let ⟨_, X, G⟩ := T.h; He.glo_ok X G (T.c.fact 86 (f := .glo "best_pairs") rfl)
theorem Tx.g_pairs_that_may_be (T : Tx K mg) : mg "pairs_that_may_be" = some (.ref (He.ga K "pairs_that_may_be")) := let ⟨_, X, G⟩ := T.h; He.glo_ok X G (T.c.fact 87 (f := .glo "pairs_that_may_be") rfl)
theorem Tx.g_strands_in_order (T : Tx K mg) : mg "strands_in_order" = some (.ref (He.ga K "strands_in_order")) := let ⟨_, X, G⟩ := T.h; He.glo_ok X G (T.c.fact 88 (f := .glo "strands_in_order") rfl)
theorem Tx.g_may_be (T : Tx K mg) : mg "may_be" = some (.ref (He.ga K "may_be")) := let ⟨_, X, G⟩ := T.h; He.glo_ok X G (T.c.fact 89 (f := .glo "may_be") rfl)
theorem Tx.g_letters_fit (T : Tx K mg) : mg "letters_fit" = some (.ref (He.ga K "letters_fit")) := let ⟨_, X, G⟩ := T.h; He.glo_ok X G (T.c.fact 90 (f := .glo "letters_fit") rfl)
theorem Tx.g_costs_with (T : Tx K mg) : mg "costs_with" = some (.ref (He.ga K "costs_with")) := let ⟨_, X, G⟩ := T.h; He.glo_ok X G (T.c.fact 91 (f := .glo "costs_with") rfl)
theorem Tx.g_reading_cost (T : Tx K mg) : mg "reading_cost" = some (.ref (He.ga K "reading_cost")) := let ⟨_, X, G⟩ := T.h; He.glo_ok X G (T.c.fact 92 (f := .glo "reading_cost") rfl)
theorem Tx.g_lesser_costs (T : Tx K mg) : mg "lesser_costs" = some (.ref (He.ga K "lesser_costs")) := let ⟨_, X, G⟩ := T.h; He.glo_ok X G (T.c.fact 93 (f := .glo "lesser_costs") rfl)
theorem Tx.z_len (T : Tx K mg) : mg "len" = none := let ⟨_, X, G⟩ := T.h; He.free_ok X G (T.c.fact 94 (f := .free "len") rfl)
theorem Tx.z_range (T : Tx K mg) : mg "range" = none := let ⟨_, X, G⟩ := T.h; He.free_ok X G (T.c.fact 95 (f := .free "range") rfl)
theorem Tx.z_min (T : Tx K mg) : mg "min" = none := let ⟨_, X, G⟩ := T.h; He.free_ok X G (T.c.fact 96 (f := .free "min") rfl)
theorem Tx.z_sum (T : Tx K mg) : mg "sum" = none := let ⟨_, X, G⟩ := T.h; He.free_ok X G (T.c.fact 97 (f := .free "sum") rfl)
theorem Tx.z_all (T : Tx K mg) : mg "all" = none := let ⟨_, X, G⟩ := T.h; He.free_ok X G (T.c.fact 98 (f := .free "all") rfl)
theorem Tx.z_set (T : Tx K mg) : mg "set" = none := let ⟨_, X, G⟩ := T.h; He.free_ok X G (T.c.fact 99 (f := .free "set") rfl)
theorem Tx.z_zip (T : Tx K mg) : mg "zip" = none := let ⟨_, X, G⟩ := T.h; He.free_ok X G (T.c.fact 100 (f := .free "zip") rfl)
theorem Tx.z_list (T : Tx K mg) : mg "list" = none := let ⟨_, X, G⟩ := T.h; He.free_ok X G (T.c.fact 101 (f := .free "list") rfl)
theorem Tx.z_KeyError (T : Tx K mg) : mg "KeyError" = none := let ⟨_, X, G⟩ := T.h; He.free_ok X G (T.c.fact 102 (f := .free "KeyError") rfl)
/-- a def of the text as it stands behind the top -/
abbrev FnP (K : PySem.W.Frag) (x q : Str) (st : Stmt) (f : Addr) (fd : FuncData) : Prop := FunD K x q (defArgs st) (defBody st) (defScope st) [] [] f fd
theorem Tx.f_Tape_init (T : Tx K mg) : ∃ fd, FnP K "__init__" "Tape.__init__" s_Tape_init (He.ma K (He.ga K "Tape") "__init__") fd := T.c.def_ 0 (d := d_Tape_init) rfl
theorem Tx.f_Tape_ended (T : Tx K mg) : ∃ fd, FnP K "ended" "Tape.ended" s_Tape_ended (He.ma K (He.ga K "Tape") "ended") fd := T.c.def_ 1 (d := d_Tape_ended) rfl
theorem Tx.f_Tape_take (T : Tx K mg) : ∃ fd, FnP K "take" "Tape.take" s_Tape_take (He.ma K (He.ga K "Tape") "take") fd := T.c.def_ 2 (d := d_Tape_take) rfl
theorem Tx.f_Tape_take_row (T : Tx K mg) : ∃ fd, FnP K "take_row" "Tape.take_row" s_Tape_take_row (He.ma K (He.ga K "Tape") "take_row") fd := T.c.def_ 3 (d := d_Tape_take_row) rfl
theorem Tx.f_Mark_init (T : Tx K mg) : ∃ fd, FnP K "__init__" "Mark.__init__" s_Mark_init (He.ma K (He.ga K "Mark") "__init__") fd := T.c.def_ 4 (d := d_Mark_init) rfl
theorem Tx.f_Reading_init (T : Tx K mg) : ∃ fd, FnP K "__init__" "Reading.__init__" s_Reading_init (He.ma K (He.ga K "Reading") "__init__") fd := T.c.def_ 5 (d := d_Reading_init) rfl
theorem Tx.f_Pair_init (T : Tx K mg) : ∃ fd, FnP K "__init__" "Pair.__init__" s_Pair_init (He.ma K (He.ga K "Pair") "__init__") fd := T.c.def_ 6 (d := d_Pair_init) rfl
theorem Tx.f_Session_init (T : Tx K mg) : ∃ fd, FnP K "__init__" "Session.__init__" s_Session_init (He.ma K (He.ga K "Session") "__init__") fd := T.c.def_ 7 (d := d_Session_init) rfl
theorem Tx.f_Session_begin (T : Tx K mg) : ∃ fd, FnP K "begin" "Session.begin" s_Session_begin (He.ma K (He.ga K "Session") "begin") fd := T.c.def_ 8 (d := d_Session_begin) rfl
theorem Tx.f_Session_has_place (T : Tx K mg) : ∃ fd, FnP K "has_place" "Session.has_place" s_Session_has_place (He.ma K (He.ga K "Session") "has_place") fd := T.c.def_ 9 (d := d_Session_has_place) rfl
theorem Tx.f_answers (T : Tx K mg) : ∃ fd, FnP K "answers" "answers" s_answers (He.ga K "answers") fd := T.c.def_ 10 (d := d_answers) rfl
theorem Tx.f_answer_call (T : Tx K mg) : ∃ fd, FnP K "answer_call" "answer_call" s_answer_call (He.ga K "answer_call") fd := T.c.def_ 11 (d := d_answer_call) rfl
theorem Tx.f_answer_question (T : Tx K mg) : ∃ fd, FnP K "answer_question" "answer_question" s_answer_question (He.ga K "answer_question") fd := T.c.def_ 12 (d := d_answer_question) rfl
theorem Tx.f_answer_start (T : Tx K mg) : ∃ fd, FnP K "answer_start" "answer_start" s_answer_start (He.ga K "answer_start") fd := T.c.def_ 13 (d := d_answer_start) rfl
theorem Tx.f_answer_known (T : Tx K mg) : ∃ fd, FnP K "answer_known" "answer_known" s_answer_known (He.ga K "answer_known") fd := T.c.def_ 14 (d := d_answer_known) rfl
theorem Tx.f_answer_read (T : Tx K mg) : ∃ fd, FnP K "answer_read" "answer_read" s_answer_read (He.ga K "answer_read") fd := T.c.def_ 15 (d := d_answer_read) rfl
theorem Tx.f_marks_of (T : Tx K mg) : ∃ fd, FnP K "marks_of" "marks_of" s_marks_of (He.ga K "marks_of") fd := T.c.def_ 16 (d := d_marks_of) rfl
theorem Tx.f_marks_are_as_told (T : Tx K mg) : ∃ fd, FnP K "marks_are_as_told" "marks_are_as_told" s_marks_are_as_told (He.ga K "marks_are_as_told") fd := T.c.def_ 17 (d := d_marks_are_as_told) rfl
theorem Tx.f_mark_is_as_told (T : Tx K mg) : ∃ fd, FnP K "mark_is_as_told" "mark_is_as_told" s_mark_is_as_told (He.ga K "mark_is_as_told") fd := T.c.def_ 18 (d := d_mark_is_as_told) rfl
theorem Tx.f_answer_drop (T : Tx K mg) : ∃ fd, FnP K "answer_drop" "answer_drop" s_answer_drop (He.ga K "answer_drop") fd := T.c.def_ 19 (d := d_answer_drop) rfl
theorem Tx.f_answer_best (T : Tx K mg) : ∃ fd, FnP K "answer_best" "answer_best" s_answer_best (He.ga K "answer_best") fd := T.c.def_ 20 (d := d_answer_best) rfl
theorem Tx.f_answer_nth (T : Tx K mg) : ∃ fd, FnP K "answer_nth" "answer_nth" s_answer_nth (He.ga K "answer_nth") fd := T.c.def_ 21 (d := d_answer_nth) rfl
theorem Tx.f_answer_sides (T : Tx K mg) : ∃ fd, FnP K "answer_sides" "answer_sides" s_answer_sides (He.ga K "answer_sides") fd := T.c.def_ 22 (d := d_answer_sides) rfl
theorem Tx.f_answer_tie (T : Tx K mg) : ∃ fd, FnP K "answer_tie" "answer_tie" s_answer_tie (He.ga K "answer_tie") fd := T.c.def_ 23 (d := d_answer_tie) rfl
theorem Tx.f_answer_placed (T : Tx K mg) : ∃ fd, FnP K "answer_placed" "answer_placed" s_answer_placed (He.ga K "answer_placed") fd := T.c.def_ 24 (d := d_answer_placed) rfl
theorem Tx.f_answer_blocks (T : Tx K mg) : ∃ fd, FnP K "answer_blocks" "answer_blocks" s_answer_blocks (He.ga K "answer_blocks") fd := T.c.def_ 25 (d := d_answer_blocks) rfl
theorem Tx.f_answer_thrown (T : Tx K mg) : ∃ fd, FnP K "answer_thrown" "answer_thrown" s_answer_thrown (He.ga K "answer_thrown") fd := T.c.def_ 26 (d := d_answer_thrown) rfl
theorem Tx.f_answer_cost (T : Tx K mg) : ∃ fd, FnP K "answer_cost" "answer_cost" s_answer_cost (He.ga K "answer_cost") fd := T.c.def_ 27 (d := d_answer_cost) rfl
theorem Tx.f_answer_shows (T : Tx K mg) : ∃ fd, FnP K "answer_shows" "answer_shows" s_answer_shows (He.ga K "answer_shows") fd := T.c.def_ 28 (d := d_answer_shows) rfl
theorem Tx.f_letters_of (T : Tx K mg) : ∃ fd, FnP K "letters_of" "letters_of" s_letters_of (He.ga K "letters_of") fd := T.c.def_ 29 (d := d_letters_of) rfl
theorem Tx.f_strand_is_as_told (T : Tx K mg) : ∃ fd, FnP K "strand_is_as_told" "strand_is_as_told" s_strand_is_as_told (He.ga K "strand_is_as_told") fd := T.c.def_ 30 (d := d_strand_is_as_told) rfl
theorem Tx.f_least_tied_places (T : Tx K mg) : ∃ fd, FnP K "least_tied_places" "least_tied_places" s_least_tied_places (He.ga K "least_tied_places") fd := T.c.def_ 31 (d := d_least_tied_places) rfl
theorem Tx.f_numbers_that_cost (T : Tx K mg) : ∃ fd, FnP K "numbers_that_cost" "numbers_that_cost" s_numbers_that_cost (He.ga K "numbers_that_cost") fd := T.c.def_ 32 (d := d_numbers_that_cost) rfl
theorem Tx.f_least_cost_if_any (T : Tx K mg) : ∃ fd, FnP K "least_cost_if_any" "least_cost_if_any" s_least_cost_if_any (He.ga K "least_cost_if_any") fd := T.c.def_ 33 (d := d_least_cost_if_any) rfl
theorem Tx.f_least_cost (T : Tx K mg) : ∃ fd, FnP K "least_cost" "least_cost" s_least_cost (He.ga K "least_cost") fd := T.c.def_ 34 (d := d_least_cost) rfl
theorem Tx.f_pairs_with (T : Tx K mg) : ∃ fd, FnP K "pairs_with" "pairs_with" s_pairs_with (He.ga K "pairs_with") fd := T.c.def_ 35 (d := d_pairs_with) rfl
theorem Tx.f_best_pairs (T : Tx K mg) : ∃ fd, FnP K "best_pairs" "best_pairs" s_best_pairs (He.ga K "best_pairs") fd := T.c.def_ 36 (d := d_best_pairs) rfl
theorem Tx.f_pairs_that_may_be (T : Tx K mg) : ∃ fd, FnP K "pairs_that_may_be" "pairs_that_may_be" s_pairs_that_may_be (He.ga K "pairs_that_may_be") fd := T.c.def_ 37 (d := d_pairs_that_may_be) rfl
theorem Tx.f_strands_in_order (T : Tx K mg) : ∃ fd, FnP K "strands_in_order" "strands_in_order" s_strands_in_order (He.ga K "strands_in_order") fd := T.c.def_ 38 (d := d_strands_in_order) rfl
theorem Tx.f_may_be (T : Tx K mg) : ∃ fd, FnP K "may_be" "may_be" s_may_be (He.ga K "may_be") fd := T.c.def_ 39 (d := d_may_be) rfl
theorem Tx.f_letters_fit (T : Tx K mg) : ∃ fd, FnP K "letters_fit" "letters_fit" s_letters_fit (He.ga K "letters_fit") fd := T.c.def_ 40 (d := d_letters_fit) rfl
theorem Tx.f_costs_with (T : Tx K mg) : ∃ fd, FnP K "costs_with" "costs_with" s_costs_with (He.ga K "costs_with") fd := T.c.def_ 41 (d := d_costs_with) rfl
theorem Tx.f_reading_cost (T : Tx K mg) : ∃ fd, FnP K "reading_cost" "reading_cost" s_reading_cost (He.ga K "reading_cost") fd := T.c.def_ 42 (d := d_reading_cost) rfl
theorem Tx.f_lesser_costs (T : Tx K mg) : ∃ fd, FnP K "lesser_costs" "lesser_costs" s_lesser_costs (He.ga K "lesser_costs") fd := T.c.def_ 43 (d := d_lesser_costs) rfl
end
def loose0 : List Str := ["START", "KNOWN", "READ", "DROP", "BEST", "NTH", "SIDES", "TIE", "PLACED", "BLOCKS", "THROWN", "COST", "SHOWS", "PLACES_AT_FIRST", "MOST_PLACES", "MOST_READINGS", "HIGHEST_LETTER", "HIGHEST_PRICE", "NUMBERS_IN_A_MARK", "BOTH_0"]
def loose1 : List Str := ["BOTH_1", "ONE_OF_EACH", "NOTHING", "NOT_AS_TOLD", "NOT_THERE", "FULL", "Tape", "Mark", "Reading", "Pair", "Session", "answer_call", "answer_question", "answer_start", "answer_known", "answer_read", "marks_of", "marks_are_as_told", "mark_is_as_told", "answer_drop"]
def loose2 : List Str := ["answer_best", "answer_nth", "answer_sides", "answer_tie", "answer_placed", "answer_blocks", "answer_thrown", "answer_cost", "answer_shows", "letters_of", "strand_is_as_told", "least_tied_places", "numbers_that_cost", "least_cost_if_any", "least_cost", "pairs_with", "best_pairs", "pairs_that_may_be", "strands_in_order", "may_be"]
def loose3 : List Str := ["letters_fit", "costs_with", "reading_cost", "lesser_costs"]
/-- the names of the top that the view does not hold -/
def loose : List Str := loose0 ++ (loose1 ++ (loose2 ++ (loose3)))
/-- where answers stands -/
abbrev iAns : Nat := 32
end Ts
end
section
set_option maxRecDepth 100000
set_option maxHeartbeats 2000000
namespace Ts
open PySem PySem.Spec PyProof.Rows L2
/-! ### fields of the program's objects -/
def fTape (l : Addr) (i : Int) : List (Str × V) := [("numbers", .ref l), ("at", .int i)]
def fMark (p l c : Int) : List (Str × V) := [("place", .int p), ("letter", .int l), ("price", .int c)]
def fReading (n : Int) (m : Addr) : List (Str × V) := [("number", .int n), ("marks", .ref m)]
def fPair (a b l : Addr) (c : Int) : List (Str × V) := [("first", .ref a), ("second", .ref b), ("costs", .ref l), ("cost", .int c)]
def fSession (f r : Addr) (n : Int) : List (Str × V) := [("facts", .ref f), ("readings", .ref r), ("next_number", .int n)]
/-! ### two lists, item by item -/
def All2 {α β : Type} (R : α → β → Prop) : List α → List β → Prop
  | [], [] => True
  | a :: as, b :: bs => R a b ∧ All2 R as bs
  | _, _ => False
section
variable {α β : Type} {R R' : α → β → Prop}
theorem All2.len : ∀ {as : List α} {bs : List β}, All2 R as bs → as.length = bs.length
  | [], [], _ => rfl
  | a :: as, b :: bs, h => congrArg (· + 1) (All2.len h.2)
  | [], _ :: _, h => h.elim
  | _ :: _, [], h => h.elim
theorem All2.mono (k : ∀ a b, R a b → R' a b) : ∀ {as : List α} {bs : List β}, All2 R as bs → All2 R' as bs
  | [], [], _ => trivial
  | a :: as, b :: bs, h => ⟨k a b h.1, All2.mono k h.2⟩
  | [], _ :: _, h => h.elim
  | _ :: _, [], h => h.elim
theorem All2.get : ∀ {as : List α} {bs : List β} {i : Nat} {a : α}, All2 R as bs → as[i]? = some a → ∃ b, bs[i]? = some b ∧ R a b
  | [], [], i, a, _, e => by simp at e
  | a :: as, b :: bs, 0, x, h, e => by
    have e' : a = x := Option.some.inj e
    subst e'
    exact ⟨b, rfl, h.1⟩
  | a :: as, b :: bs, i + 1, x, h, e => All2.get (i := i) h.2 e
  | [], _ :: _, _, _, h, _ => h.elim
  | _ :: _, [], _, _, h, _ => h.elim
theorem All2.get2 : ∀ {as : List α} {bs : List β} {i : Nat} {b : β}, All2 R as bs → bs[i]? = some b → ∃ a, as[i]? = some a ∧ R a b
  | [], [], i, a, _, e => by simp at e
  | a :: as, b :: bs, 0, x, h, e => by
    have e' : b = x := Option.some.inj e
    subst e'
    exact ⟨a, rfl, h.1⟩
  | a :: as, b :: bs, i + 1, x, h, e => All2.get2 (i := i) h.2 e
  | [], _ :: _, _, _, h, _ => h.elim
  | _ :: _, [], _, _, h, _ => h.elim
theorem All2.app : ∀ {as as' : List α} {bs bs' : List β}, All2 R as bs → All2 R as' bs' → All2 R (as ++ as') (bs ++ bs')
  | [], _, [], _, _, h' => h'
  | a :: as, _, b :: bs, _, h, h' => ⟨h.1, All2.app h.2 h'⟩
  | [], _, _ :: _, _, h, _ => h.elim
  | _ :: _, _, [], _, h, _ => h.elim
theorem All2.snoc {as : List α} {bs : List β} {a : α} {b : β} (h : All2 R as bs) (r : R a b) : All2 R (as ++ [a]) (bs ++ [b]) := h.app ⟨r, trivial⟩
/-- with what is known of the items -/
theorem All2.mem : ∀ {as : List α} {bs : List β}, All2 R as bs → All2 (fun a b => R a b ∧ a ∈ as ∧ b ∈ bs) as bs := by
  intro as bs h
  have k : ∀ {as as0 : List α} {bs bs0 : List β}, All2 R as bs → (∀ a ∈ as, a ∈ as0) → (∀ b ∈ bs, b ∈ bs0) → All2 (fun a b => R a b ∧ a ∈ as0 ∧ b ∈ bs0) as bs := by
    intro as
    induction as with
    | nil =>
      intro as0 bs bs0 h _ _
      cases bs with
      | nil => trivial
      | cons _ _ => exact h.elim
    | cons a as ih =>
      intro as0 bs bs0 h h1 h2
      cases bs with
      | nil => exact h.elim
      | cons b bs => exact ⟨⟨h.1, h1 a (by simp), h2 b (by simp)⟩, ih h.2 (fun x hx => h1 x (by simp [hx])) fun x hx => h2 x (by simp [hx])⟩
  exact k h (fun _ h => h) fun _ h => h
end
theorem take_snoc {α : Type} : ∀ {l : List α} {i : Nat} {x : α}, l[i]? = some x → l.take (i + 1) = l.take i ++ [x]
  | [], i, x, h => by simp at h
  | a :: l, 0, x, h => by
    have e : a = x := Option.some.inj h
    subst e
    rfl
  | a :: l, i + 1, x, h => by
    have ih := take_snoc (l := l) (i := i) (x := x) h
    show a :: l.take (i + 1) = a :: l.take i ++ [x]
    rw [ih]
    rfl
theorem get_map {α β : Type} {f : α → β} {l : List α} {i : Nat} {y : β} (h : (l.map f)[i]? = some y) : ∃ x, l[i]? = some x ∧ y = f x := by
  rw [List.getElem?_map] at h
  cases e : l[i]? with
  | none =>
    rw [e] at h
    cases h
  | some x =>
    rw [e] at h
    exact ⟨x, rfl, (Option.some.inj h).symm⟩
theorem lt_of_get {α : Type} {l : List α} {i : Nat} {y : α} (h : l[i]? = some y) : i < l.length := (List.getElem?_eq_some_iff.mp h).1
/-! ### data in the heap -/
/-- whole numbers, as values -/
def vi (l : List Nat) : List V := l.map fun (n : Nat) => V.int (n : Int)
theorem vi_eq (l : List Nat) : vi l = (l.map fun (n : Nat) => (n : Int)).map V.int := by
  unfold vi
  rw [List.map_map]
  rfl
theorem vi_len (l : List Nat) : (vi l).length = l.length := List.length_map _
theorem vi_app (l r : List Nat) : vi (l ++ r) = vi l ++ vi r := List.map_append
theorem vi_get {l : List Nat} {i : Nat} {n : Nat} (h : l[i]? = some n) : (vi l)[i]? = some (.int (n : Int)) := by
  unfold vi
  rw [List.getElem?_map, h]
  rfl
theorem dec_vint (a b : Nat) : decide (V.int (a : Int) = V.int (b : Int)) = decide (a = b) := decide_eq_decide.mpr ⟨fun z => by have := V.int.inj z; omega, fun z => by rw [z]⟩
theorem ndec_vint (a b : Nat) : (!decide (V.int (a : Int) = V.int (b : Int))) = (a != b) := by
  rw [dec_vint]
  by_cases q : a = b <;> simp [q]
theorem dec_vintI (a b : Int) : decide (V.int a = V.int b) = decide (a = b) := decide_eq_decide.mpr ⟨fun z => V.int.inj z, fun z => by rw [z]⟩
section
variable (K : PySem.W.Frag)
def MarkAt (H : Hp) (a : Addr) (m : Lf06.Mark) : Prop := ∃ dx, H a = some (.ins (He.ga K "Mark") dx (fMark m.place m.letter m.price))
/-- a list of objects -/
def ListAt {β : Type} (R : Hp → Addr → β → Prop) (H : Hp) (l : Addr) (bs : List β) : Prop := ∃ as : List Addr, H l = some (.lst (as.map V.ref)) ∧ All2 (R H) as bs
def ReadAt (H : Hp) (a : Addr) (x : Nat × Lf06.Reading) : Prop := ∃ dx lm, H a = some (.ins (He.ga K "Reading") dx (fReading x.1 lm)) ∧ ListAt (MarkAt K) H lm x.2
def IntsAt (H : Hp) (a : Addr) (l : List Nat) : Prop := H a = some (.lst (vi l))
/-- a pair: its strands, what each reading costs with it, what it costs -/
def PairAt (rs : List Lf06.Reading) (H : Hp) (a : Addr) (x : Lf06.Pair × Nat) : Prop := ∃ dx f s l, H a = some (.ins (He.ga K "Pair") dx (fPair f s l x.2)) ∧ IntsAt H f x.1.1 ∧ IntsAt H s x.1.2 ∧ IntsAt H l (rs.map (Lf06.costOf x.1))
def SessAt (H : Hp) (s : Addr) (st : Lf06.St) : Prop := ∃ dx lf lr, H s = some (.ins (He.ga K "Session") dx (fSession lf lr st.next)) ∧ IntsAt H lf st.known ∧ ListAt (ReadAt K) H lr st.readings
end
/-! ### what stays -/
section
variable {K : PySem.W.Frag} {H H' : Hp}
theorem IntsAt.same {a : Addr} {l : List Nat} (h : IntsAt H a l) (s : Same H H') : IntsAt H' a l := s _ _ h
theorem MarkAt.same {a : Addr} {m : Lf06.Mark} (h : MarkAt K H a m) (s : Same H H') : MarkAt K H' a m := let ⟨dx, h1⟩ := h; ⟨dx, s _ _ h1⟩
theorem ListAt.same {β : Type} {R : Hp → Addr → β → Prop} {l : Addr} {bs : List β} (h : ListAt R H l bs) (s : Same H H') (k : ∀ a b, R H a b → R H' a b) : ListAt R H' l bs := let ⟨as, h1, h2⟩ := h; ⟨as, s _ _ h1, h2.mono k⟩
theorem ReadAt.same {a : Addr} {x : Nat × Lf06.Reading} (h : ReadAt K H a x) (s : Same H H') : ReadAt K H' a x := let ⟨dx, lm, h1, h2⟩ := h; ⟨dx, lm, s _ _ h1, h2.same s fun _ _ q => q.same s⟩
theorem PairAt.same {rs : List Lf06.Reading} {a : Addr} {x : Lf06.Pair × Nat} (h : PairAt K rs H a x) (s : Same H H') : PairAt K rs H' a x := let ⟨dx, f, g, l, h1, h2, h3, h4⟩ := h; ⟨dx, f, g, l, s _ _ h1, h2.same s, h3.same s, h4.same s⟩
theorem SessAt.same {a : Addr} {st : Lf06.St} (h : SessAt K H a st) (s : Same H H') : SessAt K H' a st := let ⟨dx, lf, lr, h1, h2, h3⟩ := h; ⟨dx, lf, lr, s _ _ h1, h2.same s, h3.same s fun _ _ q => q.same s⟩
theorem same_new {p : Addr} {o : HO} (h : H p = none) : Same H (upd H p o) := fun b u e => by
  rw [upd_ne (ne_of_none e h)]
  exact e
theorem same_upd {G : Hp} {p : Addr} {o : HO} (s : Same G H) (h : G p = none) : Same G (upd H p o) := fun b u e => by
  rw [upd_ne (ne_of_none e h)]
  exact s _ _ e
theorem same_make {x dx : Addr} {o u : HO} (hx : H x = none) (hd : H dx = none) : Same H (upd (upd H dx o) x u) := same_upd (same_new hd) hx
end
/-! ### a list that grows -/
def del (H : Hp) (g : Addr) : Hp := fun b => if b = g then none else H b
theorem del_same {H : Hp} {g : Addr} : del H g g = none := by
  unfold del
  rw [if_pos rfl]
theorem del_ne {H : Hp} {g b : Addr} (h : b ≠ g) : del H g b = H b := by
  unfold del
  rw [if_neg h]
theorem del_sub {H : Hp} {g : Addr} : Same (del H g) H := fun b o e => by
  by_cases h : b = g
  · subst h
    rw [del_same] at e
    cases e
  · rw [del_ne h] at e
    exact e
theorem same_del {G H : Hp} {g : Addr} (s : Same G H) (h : G g = none) : Same G (del H g) := fun b o e => by
  rw [del_ne (ne_of_none e h)]
  exact s _ _ e
theorem del_upd {H : Hp} {g : Addr} {o : HO} : del (upd H g o) g = del H g := by
  funext b
  by_cases h : b = g
  · subst h
    rw [del_same, del_same]
  · rw [del_ne h, del_ne h, upd_ne h]
/-- at g stands a new list of objects, which do not hang on it -/
def Grow {β : Type} (R : Hp → Addr → β → Prop) (H H' : Hp) (g : Addr) (bs : List β) : Prop := H g = none ∧ Same H H' ∧ ListAtB R H' g bs
where ListAtB {β : Type} (R : Hp → Addr → β → Prop) (H' : Hp) (g : Addr) (bs : List β) : Prop := ∃ as : List Addr, H' g = some (.lst (as.map V.ref)) ∧ All2 (R (del H' g)) as bs
section
variable {β : Type} {R : Hp → Addr → β → Prop} {H H' H2 : Hp} {g p : Addr} {bs : List β} {b : β}
def Mono {β : Type} (R : Hp → Addr → β → Prop) : Prop := ∀ (H H' : Hp) (a : Addr) (b : β), R H a b → Same H H' → R H' a b
theorem Grow.start (h : H g = none) : Grow R H (upd H g (.lst [])) g [] := ⟨h, same_new h, [], upd_same, trivial⟩
theorem Grow.step (m : Mono R) (G : Grow R H H' g bs) (s : Same H' H2) (hR : R (del H2 g) p b) :
    ∃ xs, H2 g = some (.lst xs) ∧ xs.length = bs.length ∧ Grow R H (upd H2 g (.lst (xs ++ [.ref p]))) g (bs ++ [b]) := by
  obtain ⟨h0, s0, as, h1, h2⟩ := G
  refine ⟨_, s _ _ h1, by rw [List.length_map]; exact h2.len, h0, same_upd (s0.trans s) h0, as ++ [p], ?_, ?_⟩
  · rw [upd_same, List.map_append]
    rfl
  · rw [del_upd]
    exact (h2.mono fun a b r => m _ _ _ _ r (same_del (del_sub.trans s) del_same)).snoc hR
theorem Grow.keep (m : Mono R) (G : Grow R H H' g bs) (s : Same H' H2) : Grow R H H2 g bs := by
  obtain ⟨h0, s0, as, h1, h2⟩ := G
  exact ⟨h0, s0.trans s, as, s _ _ h1, h2.mono fun a b r => m _ _ _ _ r (same_del (del_sub.trans s) del_same)⟩
theorem Grow.done (m : Mono R) (G : Grow R H H' g bs) : ListAt R H' g bs := by
  obtain ⟨h0, s0, as, h1, h2⟩ := G
  exact ⟨as, h1, h2.mono fun a b r => m _ _ _ _ r del_sub⟩
theorem Grow.ne_new (G : Grow R H H' g bs) (s : Same H' H2) (hp : H2 p = none) : p ≠ g := by
  obtain ⟨h0, s0, as, h1, h2⟩ := G
  exact (ne_of_none (s _ _ h1) hp).symm
theorem Grow.sq {K : PySem.W.Frag} (G : Grow R H H' g bs) : ∃ xs, SqL K H' g xs := by
  obtain ⟨h0, s0, as, h1, h2⟩ := G
  exact ⟨_, SqL.of h1⟩
end
theorem mono_ints : Mono IntsAt := fun _ _ _ _ h s => h.same s
theorem mono_mark {K : PySem.W.Frag} : Mono (MarkAt K) := fun _ _ _ _ h s => h.same s
theorem mono_read {K : PySem.W.Frag} : Mono (ReadAt K) := fun _ _ _ _ h s => h.same s
theorem mono_pair {K : PySem.W.Frag} {rs : List Lf06.Reading} : Mono (PairAt K rs) := fun _ _ _ _ h s => h.same s
/-- a comprehension without a test -/
theorem tyes {σ : L2.St} {H : Hp} {X Y : Hp → Prop} (h : X H) : tYes σ H (fun b H3 => if b = true then X H3 else Y H3) := by
  show (if true = true then X H else Y H)
  rw [if_pos rfl]
  exact h
/-- a constant of the module that is a whole number -/
theorem pe_gi {X : Cx} {x : Str} {i : Int} {t : Nat} {pos : Pos} (hm : X.mg x = some (.int i t)) (hg : Gl X x := by rfl) (hd : (x == ("__debug__" : Str)) = false := by decide) : PE X (.Name x pos) (tC (.int i)) := pe_glob hg hm ⟨t, rfl⟩ hd
/-! ### a def that keeps its promise -/
section
variable {P : Program} {w : World} {K : PySem.W.Frag} {mg : Str → Option Value} {base : Heap}
def DefOk (P : Program) (w : World) (K : PySem.W.Frag) (mg : Str → Option Value) (base : Heap) (k : Nat) (f : Addr) (ps : List Str) (sp : Sp) : Prop :=
  ∃ fd, FnOk P w K mg base CX0 k f fd ps sp ∧ Binds K fd ps [] ∧ PySem.W.keepIn K (.ref f) = true
theorem mkFn {x q : Str} {st : Stmt} {f : Addr} {fd : FuncData} {N ps : List Str} {k : Nat} {sp : Sp} (F : FnP K x q st f fd) (S : FnScope N ps (defScope st))
    (len : ∀ vs H Q E, sp vs H Q E → vs.length = ps.length)
    (hbody : ∀ (cdv : Value) (A : Around) (outer : List Env) (s : Shared) (H : Hp) (vs : List V) (Q : VK) (E : XK), Room k (A.deeper (envOfC q (defScope st) s.heap.objs.size f cdv)) → sp vs H Q E →
      ∃ t, PSs (cxOf CX0 P w K mg base N q (defScope st) f cdv A outer s H E).nox (defBody st) t ∧ t { nx := fun _ H' => Q .non H', rt := Q } (start N vs) H) : FnOk P w K mg base CX0 (k + 1) f fd ps sp := by
  refine F.ok S len fun cdv A outer s H vs Q E hr h => ?_
  obtain ⟨t, a, b⟩ := hbody cdv A outer s H vs Q E hr h
  exact ⟨t, PSs.nox a, b⟩
theorem mkDef {x q : Str} {st : Stmt} {f : Addr} {N ps : List Str} {k : Nat} {sp : Sp} (F : ∃ fd, FnP K x q st f fd) (S : FnScope N ps (defScope st))
    (hb : ∀ (kV doc pm : Value) (an : Option Addr) (cdv ct : Value) (us : List Value), us.length = ps.length → bindArgs (PySem.W.fnOf x q (defArgs st) (defBody st) (defScope st) .none kV doc pm an cdv ct) ⟨us, []⟩ = pure (ps.zip us))
    (len : ∀ vs H Q E, sp vs H Q E → vs.length = ps.length)
    (hbody : ∀ (cdv : Value) (A : Around) (outer : List Env) (s : Shared) (H : Hp) (vs : List V) (Q : VK) (E : XK), Room k (A.deeper (envOfC q (defScope st) s.heap.objs.size f cdv)) → sp vs H Q E →
      ∃ t, PSs (cxOf CX0 P w K mg base N q (defScope st) f cdv A outer s H E).nox (defBody st) t ∧ t { nx := fun _ H' => Q .non H', rt := Q } (start N vs) H) : DefOk P w K mg base (k + 1) f ps sp := by
  obtain ⟨fd, F⟩ := F
  refine ⟨fd, F.ok S len fun cdv A outer s H vs Q E hr h => ?_, F.bindsN hb, F.kp⟩
  obtain ⟨t, a, b⟩ := hbody cdv A outer s H vs Q E hr h
  exact ⟨t, PSs.nox a, b⟩
end
end Ts
end
section
set_option maxRecDepth 100000
set_option maxHeartbeats 2000000
namespace Ts
open PySem PySem.Spec PyProof.Rows L2
section
variable {P : Program} {w : World} {K : PySem.W.Frag} {mg : Str → Option Value} {base : Heap}
/-! ### the makers -/
def spTapeInit (K : PySem.W.Frag) : Sp := fun vs H Q _ => ∃ p dx a, vs = [.ref p, .ref a] ∧ H p = some (.ins (He.ga K "Tape") dx []) ∧ Q .non (upd H p (.ins (He.ga K "Tape") dx (fTape a 0)))
theorem ok_Tape_init (T : Tx K mg) : DefOk P w K mg base 1 (He.ma K (He.ga K "Tape") "__init__") ["self", "calls"] (spTapeInit K) := by
  refine mkDef T.f_Tape_init sc_Tape_init (fun _ _ _ _ _ _ us hl => match us, hl with | [_, _], _ => rfl) (fun vs H Q E h => ?_) (fun cdv A outer s H vs Q E hr h => ?_)
  · obtain ⟨p, dx, a, rfl, _⟩ := h
    rfl
  · obtain ⟨p, dx, a, rfl, hp, k⟩ := h
    refine ⟨_, pss_cons (ps_fld (pv 0) (pv 1) rfl) (pss_one (ps_fld (pv 0) pe_int rfl)), ?_⟩
    refine ⟨_, rfl, _, rfl, p, _, dx, [], rfl, hp, T.cl_Tape, T.n_Tape_numbers, (by show 0 < 1000; decide), _, rfl, p, _, dx, _, rfl, upd_same, T.cl_Tape, T.n_Tape_at, (by show 1 < 1000; decide), ?_⟩
    rw [upd_upd]
    exact k
def spMarkInit (K : PySem.W.Frag) : Sp := fun vs H Q _ => ∃ (p dx : Addr) (a b c : Int), vs = [.ref p, .int a, .int b, .int c] ∧ H p = some (.ins (He.ga K "Mark") dx []) ∧ Q .non (upd H p (.ins (He.ga K "Mark") dx (fMark a b c)))
theorem ok_Mark_init (T : Tx K mg) : DefOk P w K mg base 1 (He.ma K (He.ga K "Mark") "__init__") ["self", "place", "letter", "price"] (spMarkInit K) := by
  refine mkDef T.f_Mark_init sc_Mark_init (fun _ _ _ _ _ _ us hl => match us, hl with | [_, _, _, _], _ => rfl) (fun vs H Q E h => ?_) (fun cdv A outer s H vs Q E hr h => ?_)
  · obtain ⟨p, dx, a, b, c, rfl, _⟩ := h
    rfl
  · obtain ⟨p, dx, a, b, c, rfl, hp, k⟩ := h
    refine ⟨_, pss_cons (ps_fld (pv 0) (pv 1) rfl) (pss_cons (ps_fld (pv 0) (pv 2) rfl) (pss_one (ps_fld (pv 0) (pv 3) rfl))), ?_⟩
    refine ⟨_, rfl, _, rfl, p, _, dx, [], rfl, hp, T.cl_Mark, T.n_Mark_place, (by show 0 < 1000; decide), _, rfl, _, rfl, p, _, dx, _, rfl, upd_same, T.cl_Mark, T.n_Mark_letter, (by show 1 < 1000; decide),
      _, rfl, _, rfl, p, _, dx, _, rfl, upd_same, T.cl_Mark, T.n_Mark_price, (by show 2 < 1000; decide), ?_⟩
    rw [upd_upd, upd_upd]
    exact k
def spReadingInit (K : PySem.W.Frag) : Sp := fun vs H Q _ => ∃ (p dx : Addr) (n : Int) (m : Addr), vs = [.ref p, .int n, .ref m] ∧ H p = some (.ins (He.ga K "Reading") dx []) ∧ Q .non (upd H p (.ins (He.ga K "Reading") dx (fReading n m)))
theorem ok_Reading_init (T : Tx K mg) : DefOk P w K mg base 1 (He.ma K (He.ga K "Reading") "__init__") ["self", "number", "marks"] (spReadingInit K) := by
  refine mkDef T.f_Reading_init sc_Reading_init (fun _ _ _ _ _ _ us hl => match us, hl with | [_, _, _], _ => rfl) (fun vs H Q E h => ?_) (fun cdv A outer s H vs Q E hr h => ?_)
  · obtain ⟨p, dx, a, b, rfl, _⟩ := h
    rfl
  · obtain ⟨p, dx, a, b, rfl, hp, k⟩ := h
    refine ⟨_, pss_cons (ps_fld (pv 0) (pv 1) rfl) (pss_one (ps_fld (pv 0) (pv 2) rfl)), ?_⟩
    refine ⟨_, rfl, _, rfl, p, _, dx, [], rfl, hp, T.cl_Reading, T.n_Reading_number, (by show 0 < 1000; decide), _, rfl, _, rfl, p, _, dx, _, rfl, upd_same, T.cl_Reading, T.n_Reading_marks, (by show 1 < 1000; decide), ?_⟩
    rw [upd_upd]
    exact k
/-! ### the tape -/
def spEnded (K : PySem.W.Frag) : Sp := fun vs H Q _ => ∃ (p dx a : Addr) (i : Nat) (ns : List Int), vs = [.ref p] ∧ H p = some (.ins (He.ga K "Tape") dx (fTape a i)) ∧ SqL K H a (ns.map V.int) ∧ Q (.bl (decide (ns.length ≤ i))) H
theorem ok_Tape_ended (T : Tx K mg) : DefOk P w K mg base 1 (He.ma K (He.ga K "Tape") "ended") ["self"] (spEnded K) := by
  refine mkDef T.f_Tape_ended sc_Tape_ended (fun _ _ _ _ _ _ us hl => match us, hl with | [_], _ => rfl) (fun vs H Q E h => ?_) (fun cdv A outer s H vs Q E hr h => ?_)
  · obtain ⟨p, dx, a, i, ns, rfl, _⟩ := h
    rfl
  · obtain ⟨p, dx, a, i, ns, rfl, hp, hS, k⟩ := h
    refine ⟨_, pss_one (ps_ret (pe_cmpR op_ge (pe_fld (pv 0) rfl) (pe_callB call_len_seq (by rfl) T.z_len PySem.boot_len (pa_cons (pe_fld (pv 0) rfl) pa_nil)) (nomark _))), ?_⟩
    refine ⟨_, rfl, p, _, dx, _, _, rfl, hp, T.cl_Tape, T.n_Tape_at, rfl, _, rfl, p, _, dx, _, _, rfl, hp, T.cl_Tape, T.n_Tape_numbers, rfl, a, _, rfl, .inl hS, _, _, rfl, rfl, ?_⟩
    have e : (decide (((ns.map V.int).length : Int) ≤ (i : Int))) = decide (ns.length ≤ i) := by
      rw [List.length_map]
      exact decide_eq_decide.mpr (by omega)
    show Q (.bl (decide (((ns.map V.int).length : Int) ≤ (i : Int)))) H
    rw [e]
    exact k
def spTake (K : PySem.W.Frag) : Sp := fun vs H Q _ => ∃ (p dx a : Addr) (i : Nat) (ns : List Int) (x : Int), vs = [.ref p] ∧ H p = some (.ins (He.ga K "Tape") dx (fTape a i)) ∧ SqL K H a (ns.map V.int) ∧ ns[i]? = some x ∧
  Q (.int x) (upd H p (.ins (He.ga K "Tape") dx (fTape a ((i + 1 : Nat) : Int))))
theorem ok_Tape_take (T : Tx K mg) : DefOk P w K mg base 1 (He.ma K (He.ga K "Tape") "take") ["self"] (spTake K) := by
  refine mkDef T.f_Tape_take sc_Tape_take (fun _ _ _ _ _ _ us hl => match us, hl with | [_], _ => rfl) (fun vs H Q E h => ?_) (fun cdv A outer s H vs Q E hr h => ?_)
  · obtain ⟨p, dx, a, i, ns, x, rfl, _⟩ := h
    rfl
  · obtain ⟨p, dx, a, i, ns, x, rfl, hp, hS, hx, k⟩ := h
    refine ⟨_, pss_cons (ps_set (i := 1) sc_Tape_take.nd rfl (Or.inl rfl) (pe_ix ix_list (pe_fld (pv 0) rfl) (pe_fld (pv 0) rfl) (fun _ _ => rfl)))
      (pss_cons (ps_fld (pv 0) (pe_op op_add (pe_fld (pv 0) rfl) pe_int) rfl) (pss_one (ps_ret (pv 1)))), ?_⟩
    refine ⟨_, rfl, p, _, dx, _, _, rfl, hp, T.cl_Tape, T.n_Tape_numbers, rfl, _, rfl, p, _, dx, _, _, rfl, hp, T.cl_Tape, T.n_Tape_at, rfl, a, _, _, _, rfl, rfl, hS, at_of (j := i) (v := V.int x) rfl (by rw [List.getElem?_map, hx]; rfl), ?_⟩
    refine ⟨_, rfl, p, _, dx, _, _, rfl, hp, T.cl_Tape, T.n_Tape_at, rfl, _, _, rfl, rfl, _, rfl, p, _, dx, _, rfl, hp, T.cl_Tape, T.n_Tape_at, (by show 2 < 1000; decide), _, rfl, ?_⟩
    exact k
/-- all but p as it was -/
def KeepsBut (H H' : Hp) (p : Addr) : Prop := ∀ b o, H b = some o → b ≠ p → H' b = some o
theorem seq_but {H H' : Hp} {p a C dx : Addr} {fs : List (Str × V)} {xs : List V} (h : SqL K H a xs) (hp : H p = some (.ins C dx fs)) (k : KeepsBut H H' p) : SqL K H' a xs := by
  rcases h with (h | ⟨o, h⟩) | h
  · exact .inl (.inl (k _ _ h (ne_of h hp (by intro q; cases q))))
  · exact .inl (.inr ⟨o, k _ _ h (ne_of h hp (by intro q; cases q))⟩)
  · exact .inr h
def spTakeRow (K : PySem.W.Frag) : Sp := fun vs H Q _ => ∃ (p dx a : Addr) (i : Nat) (ns : List Int) (n : Nat), vs = [.ref p] ∧ H p = some (.ins (He.ga K "Tape") dx (fTape a i)) ∧ SqL K H a (ns.map V.int) ∧ ns[i]? = some (n : Int) ∧ i + 1 + n ≤ ns.length ∧
  ∀ (H' : Hp) (r : Addr), H r = none → H' r = some (.lst (((ns.drop (i + 1)).take n).map V.int)) → H' p = some (.ins (He.ga K "Tape") dx (fTape a ((i + 1 + n : Nat) : Int))) → KeepsBut H H' p → Q (.ref r) H'
theorem ok_Tape_take_row (T : Tx K mg) : DefOk P w K mg base 2 (He.ma K (He.ga K "Tape") "take_row") ["self"] (spTakeRow K) := by
  obtain ⟨fd1, G1, b1, kp1⟩ := ok_Tape_take (P := P) (w := w) (base := base) T
  refine mkDef T.f_Tape_take_row sc_Tape_take_row (fun _ _ _ _ _ _ us hl => match us, hl with | [_], _ => rfl) (fun vs H Q E h => ?_) (fun cdv A outer s H vs Q E hr h => ?_)
  · obtain ⟨p, dx, a, i, ns, n, rfl, _⟩ := h
    rfl
  · obtain ⟨p, dx, a, i, ns, n, rfl, hp, hS, hx, hn, k⟩ := h
    refine ⟨_, pss_cons (ps_set (i := 1) sc_Tape_take_row.nd rfl (Or.inl rfl) (pe_meth0 (pv 0) T.cl_Tape T.m_Tape_take G1 hr b1 .nil pass0))
      (pss_cons (ps_set (i := 2) sc_Tape_take_row.nd rfl (Or.inl rfl) (pe_slice sl_list (pe_fld (pv 0) rfl) (po_some (pe_fld (pv 0) rfl)) (po_some (pe_op op_add (pe_fld (pv 0) rfl) (pv 1)))))
      (pss_cons (ps_fld (pv 0) (pe_op op_add (pe_fld (pv 0) rfl) (pv 1)) rfl) (pss_one (ps_ret (pv 2))))), ?_⟩
    refine ⟨_, rfl, p, dx, _, rfl, hp, rfl, p, dx, a, i, ns, n, rfl, hp, hS, hx, ?_⟩
    have k1 : KeepsBut H (upd H p (.ins (He.ga K "Tape") dx (fTape a ((i + 1 : Nat) : Int)))) p := fun b o e hb => by rw [upd_ne hb]; exact e
    have S1 := seq_but hS hp k1
    refine ⟨_, rfl, p, _, dx, _, _, rfl, upd_same, T.cl_Tape, T.n_Tape_numbers, rfl, ?_⟩
    refine ⟨_, rfl, p, _, dx, _, _, rfl, upd_same, T.cl_Tape, T.n_Tape_at, rfl, _, rfl, ?_⟩
    refine ⟨_, rfl, p, _, dx, _, _, rfl, upd_same, T.cl_Tape, T.n_Tape_at, rfl, _, rfl, _, _, rfl, rfl, _, rfl, a, _, rfl, S1, fun r hr0 => ?_⟩
    have npr : p ≠ r := ne_of_none upd_same hr0
    refine ⟨_, rfl, p, _, dx, _, _, rfl, (by rw [upd_ne npr]; exact upd_same), T.cl_Tape, T.n_Tape_at, rfl, _, rfl, _, _, rfl, rfl, _, rfl, p, _, dx, _, rfl, (by rw [upd_ne npr]; exact upd_same), T.cl_Tape, T.n_Tape_at, (by show 2 < 1000; decide), _, rfl, ?_⟩
    refine k _ r (by rw [upd_ne npr.symm] at hr0; exact hr0) ?_ ?_ (fun b o e hb => ?_)
    · rw [upd_ne npr.symm, upd_same]
      have e : cutV (ns.map V.int) (some ((i + 1 : Nat) : Int)) (some (((i + 1 : Nat) : Int) + (n : Int))) = ((ns.drop (i + 1)).take n).map V.int := by
        have e2 : (((i + 1 : Nat) : Int) + (n : Int)) = ((i + 1 + n : Nat) : Int) := by omega
        unfold cutV
        rw [e2, HT.sIx_nat, HT.sIx_nat, List.length_map, Nat.min_eq_left hn, Nat.min_eq_left (by omega), Nat.add_sub_cancel_left, ← List.map_drop, ← List.map_take]
      exact congrArg (fun z => some (HO.lst z)) e
    · rw [upd_same]
      rfl
    · rw [upd_ne hb, upd_ne (fun q => ?_), upd_ne hb]
      · exact e
      · rw [q] at e
        rw [upd_ne npr.symm] at hr0
        rw [hr0] at e
        cases e
end
end Ts
end
section
set_option maxRecDepth 100000
set_option maxHeartbeats 2000000
namespace Ts
open PySem PySem.Spec PyProof.Rows L2
section
variable {P : Program} {w : World} {K : PySem.W.Frag} {mg : Str → Option Value} {base : Heap}
/-! ### what a reading costs with a strand -/
theorem sum_int (l : List Nat) : (l.map fun (n : Nat) => (n : Int)).sum = ((l.sum : Nat) : Int) := by
  induction l with
  | nil => rfl
  | cons a l ih =>
    rw [List.map_cons, List.sum_cons, List.sum_cons, ih]
    omega
/-! ### a pair's maker -/
def spPairInit (K : PySem.W.Frag) : Sp := fun vs H Q _ => ∃ (p dx a b l : Addr) (cs : List Nat), vs = [.ref p, .ref a, .ref b, .ref l] ∧ H p = some (.ins (He.ga K "Pair") dx []) ∧ IntsAt H l cs ∧ Q .non (upd H p (.ins (He.ga K "Pair") dx (fPair a b l (cs.sum : Nat))))
theorem ok_Pair_init (T : Tx K mg) : DefOk P w K mg base 1 (He.ma K (He.ga K "Pair") "__init__") ["self", "first", "second", "costs"] (spPairInit K) := by
  refine mkDef T.f_Pair_init sc_Pair_init (fun _ _ _ _ _ _ us hl => match us, hl with | [_, _, _, _], _ => rfl) (fun vs H Q E h => ?_) (fun cdv A outer s H vs Q E hr h => ?_)
  · obtain ⟨p, dx, a, b, l, cs, rfl, _⟩ := h
    rfl
  · obtain ⟨p, dx, a, b, l, cs, rfl, hp, hl, k⟩ := h
    refine ⟨_, pss_cons (ps_fld (pv 0) (pv 1) rfl) (pss_cons (ps_fld (pv 0) (pv 2) rfl) (pss_cons (ps_fld (pv 0) (pv 3) rfl) (pss_one (ps_fld (pv 0) (pe_callB (cr_sum rfl) (by rfl) T.z_sum (by decide +kernel) (pa_cons (pv 3) pa_nil)) rfl)))), ?_⟩
    have nlp : l ≠ p := ne_of hl hp (by intro q; cases q)
    refine ⟨_, rfl, _, rfl, p, _, dx, [], rfl, hp, T.cl_Pair, T.n_Pair_first, (by show 0 < 1000; decide), _, rfl, _, rfl, p, _, dx, _, rfl, upd_same, T.cl_Pair, T.n_Pair_second, (by show 1 < 1000; decide),
      _, rfl, _, rfl, p, _, dx, _, rfl, upd_same, T.cl_Pair, T.n_Pair_costs, (by show 2 < 1000; decide), ?_⟩
    refine ⟨_, rfl, l, cs.map fun (n : Nat) => (n : Int), rfl, SqL.of (by rw [upd_ne nlp, upd_ne nlp, upd_ne nlp, ← vi_eq]; exact hl), _, rfl, p, _, dx, _, rfl, upd_same, T.cl_Pair, T.n_Pair_cost, (by show 3 < 1000; decide), ?_⟩
    rw [upd_upd, upd_upd, upd_upd, sum_int]
    exact k
def pricesOff (s : List Nat) (r : Lf06.Reading) : List Nat := (r.filter fun m => s.getD m.place 0 != m.letter).map fun m => m.price
theorem off_eq (s : List Nat) (r : Lf06.Reading) : Lf06.off s r = (pricesOff s r).sum := sum_eq _
theorem pricesOff_snoc (s : List Nat) (r : Lf06.Reading) (m : Lf06.Mark) : pricesOff s (r ++ [m]) = pricesOff s r ++ if (s.getD m.place 0 != m.letter) = true then [m.price] else [] := by
  unfold pricesOff
  rw [List.filter_append, List.map_append, List.filter_cons, List.filter_nil]
  by_cases h : (s.getD m.place 0 != m.letter) = true
  · rw [if_pos h, if_pos h]
    rfl
  · rw [if_neg h, if_neg h]
    rfl
theorem pricesOff_len (s : List Nat) (r : Lf06.Reading) (i : Nat) {n : Nat} (h : r.length ≤ n) : (pricesOff s (r.take i)).length ≤ n := by
  unfold pricesOff
  rw [List.length_map]
  have h1 := List.length_filter_le (fun m : Lf06.Mark => s.getD m.place 0 != m.letter) (r.take i)
  have h2 : (r.take i).length ≤ r.length := by
    rw [List.length_take]
    exact Nat.min_le_right _ _
  exact Nat.le_trans h1 (Nat.le_trans h2 h)
def spReadingCost (K : PySem.W.Frag) : Sp := fun vs H Q _ => ∃ (a b : Addr) (x : Nat × Lf06.Reading) (s : List Nat), vs = [.ref a, .ref b] ∧ ReadAt K H a x ∧ IntsAt H b s ∧ (∀ m ∈ x.2, m.place < s.length) ∧ x.2.length ≤ 1000 ∧
  ∀ H', Same H H' → Q (.int (Lf06.off s x.2 : Nat)) H'
theorem ok_reading_cost (T : Tx K mg) : DefOk P w K mg base 1 (He.ga K "reading_cost") ["reading", "strand"] (spReadingCost K) := by
  refine mkDef T.f_reading_cost sc_reading_cost (fun _ _ _ _ _ _ us hl => match us, hl with | [_, _], _ => rfl) (fun vs H Q E h => ?_) (fun cdv A outer s H vs Q E hr h => ?_)
  · obtain ⟨a, b, x, s, rfl, _⟩ := h
    rfl
  · obtain ⟨a, b, x, s, rfl, ⟨dx, lm, ha, as, hl, hA⟩, hb, hpl, hlen, k⟩ := h
    refine ⟨_, pss_one (ps_ret (pe_callB (cr_sum rfl) (by rfl) T.z_sum (by decide +kernel) (pa_cons (pe_lc (own := [("mark", 2)]) (g := gName 2) (tt := tTest (tOp rNe (tOp (rIxL K) (tVar 1) (tFld K (tVar 2) "place")) (tFld K (tVar 2) "letter"))) (te := tFld K (tVar 2) "price") rfl sc_reading_cost.nd (pi_list (pe_fld (pv 0) rfl)) (blkOk_by (own := [("mark", 2)]) (N := nm_reading_cost) (sc := defScope s_reading_cost) (by decide +kernel)) (fun _ _ _ _ _ => pg_name (i := 2) sc_reading_cost.nd rfl (Or.inl rfl)) (fun _ _ _ _ _ => by exact pts_one (pt_cmpR op_ne (pe_ix ix_list (pv 1) (pe_fld (pv 2) rfl) (fun _ _ => rfl)) (pe_fld (pv 2) rfl) (nomark _))) (fun _ _ _ _ _ => by exact pe_fld (pv 2) rfl)) pa_nil))), ?_⟩
    refine ⟨_, rfl, a, _, dx, _, _, rfl, ha, T.cl_Reading, T.n_Reading_marks, rfl, lm, rfl, ⟨_, SqL.of hl⟩, fun D hD => lc_list (K := K) (a := lm) (xs := as.map V.ref) (fun i H' => Same H H' ∧ H' D = some (.lst (vi (pricesOff s (x.2.take i))))) ⟨same_new hD, upd_same⟩ (fun i H' _ ⟨s1, _⟩ => SqL.of (s1 _ _ hl)) ?_ ?_⟩
    · rintro i y H' hi ⟨s1, h1⟩
      obtain ⟨c, hc, rfl⟩ := get_map hi
      obtain ⟨m, hm, dm, hcm⟩ := hA.get hc
      have hpm := hpl m (List.mem_of_getElem? hm)
      refine ⟨rfl, _, rfl, _, rfl, c, _, dm, _, _, rfl, s1 _ _ hcm, T.cl_Mark, T.n_Mark_place, rfl, b, _, _, _, rfl, rfl, SqL.of (s1 _ _ hb), at_of (j := m.place) (v := V.int ((s.getD m.place 0 : Nat) : Int)) rfl (vi_get (by simp [List.getD, hpm])), ?_⟩
      refine ⟨_, rfl, c, _, dm, _, _, rfl, s1 _ _ hcm, T.cl_Mark, T.n_Mark_letter, rfl, rfl, _, rfl, ?_⟩
      have et : pricesOff s (x.2.take (i + 1)) = pricesOff s (x.2.take i) ++ if (s.getD m.place 0 != m.letter) = true then [m.price] else [] := by rw [take_snoc hm, pricesOff_snoc]
      have eb : (!decide (V.int ((s.getD m.place 0 : Nat) : Int) = V.int (m.letter : Int))) = (s.getD m.place 0 != m.letter) := by
        exact ndec_vint _ _
      refine ite2 (fun hc => ?_) (fun hc => ?_)
      · rw [eb] at hc
        rw [if_pos hc] at et
        refine ⟨_, rfl, c, _, dm, _, _, rfl, s1 _ _ hcm, T.cl_Mark, T.n_Mark_price, rfl, _, h1, ?_, same_upd s1 hD, ?_⟩
        · rw [vi_len]
          exact Nat.lt_of_le_of_lt (pricesOff_len _ _ _ hlen) (by decide)
        · rw [upd_same, et, vi_app]
          rfl
      · rw [eb] at hc
        rw [if_neg hc, List.append_nil] at et
        exact ⟨s1, by rw [et]; exact h1⟩
    · rintro H' ⟨s1, h1⟩
      rw [List.length_map, hA.len, List.take_length] at h1
      refine ⟨D, (pricesOff s x.2).map fun (n : Nat) => (n : Int), rfl, SqL.of (by rw [← vi_eq]; exact h1), ?_⟩
      have e := sum_int (pricesOff s x.2)
      rw [← off_eq] at e
      show Q (.int ((pricesOff s x.2).map fun (n : Nat) => (n : Int)).sum) H'
      rw [e]
      exact k H' s1
/-! ### all readings with a strand -/
/-- readings as they may be at n places -/
def Good (n : Nat) (xs : List (Nat × Lf06.Reading)) : Prop := xs.length ≤ 1000 ∧ ∀ x ∈ xs, x.2.length ≤ 1000 ∧ ∀ m ∈ x.2, m.place < n
def spCostsWith (K : PySem.W.Frag) : Sp := fun vs H Q _ => ∃ (l b : Addr) (xs : List (Nat × Lf06.Reading)) (s : List Nat), vs = [.ref l, .ref b] ∧ ListAt (ReadAt K) H l xs ∧ IntsAt H b s ∧ Good s.length xs ∧
  ∀ (H' : Hp) (p : Addr), Same H H' → H p = none → IntsAt H' p (xs.map fun x => Lf06.off s x.2) → Q (.ref p) H'
theorem ok_costs_with (T : Tx K mg) : DefOk P w K mg base 2 (He.ga K "costs_with") ["readings", "strand"] (spCostsWith K) := by
  obtain ⟨fd1, G1, b1, kp1⟩ := ok_reading_cost (P := P) (w := w) (base := base) T
  refine mkDef T.f_costs_with sc_costs_with (fun _ _ _ _ _ _ us hl => match us, hl with | [_, _], _ => rfl) (fun vs H Q E h => ?_) (fun cdv A outer s H vs Q E hr h => ?_)
  · obtain ⟨a, b, x, s, rfl, _⟩ := h
    rfl
  · obtain ⟨l, b, xs, s, rfl, ⟨as, hl, hA⟩, hb, hg, k⟩ := h
    refine ⟨_, pss_one (ps_ret (pe_lc (own := [("reading", 2)]) (g := gName 2) (tt := tYes) (te := tCall (spReadingCost K) [] E0 (tCons (tVar 2) (tCons (tVar 1) tNil))) rfl sc_costs_with.nd (pi_list (pv 0)) (blkOk_by (own := [("reading", 2)]) (N := nm_costs_with) (sc := defScope s_costs_with) (by decide +kernel)) (fun _ _ _ _ _ => pg_name (i := 2) sc_costs_with.nd rfl (Or.inl rfl)) (fun _ _ _ _ _ => pts_nil) (fun _ _ _ _ _ => by exact pe_call G1 hr rfl T.g_reading_cost kp1 b1 .nil pass0 (pa_cons (pv 2) (pa_cons (pv 1) pa_nil))))), ?_⟩
    refine ⟨_, rfl, l, rfl, ⟨_, SqL.of hl⟩, fun D hD => lc_list (K := K) (a := l) (xs := as.map V.ref) (fun i H' => Same H H' ∧ H' D = some (.lst (vi ((xs.take i).map fun x => Lf06.off s x.2)))) ⟨same_new hD, upd_same⟩ (fun i H' _ ⟨s1, _⟩ => SqL.of (s1 _ _ hl)) ?_ ?_⟩
    · rintro i y H' hi ⟨s1, h1⟩
      obtain ⟨c, hc, rfl⟩ := get_map hi
      obtain ⟨x, hx, hR⟩ := hA.get hc
      have hxm := hg.2 x (List.mem_of_getElem? hx)
      refine ⟨rfl, tyes ?_⟩
      refine ⟨_, rfl, _, rfl, c, b, x, s, rfl, hR.same s1, hb.same s1, hxm.2, hxm.1, fun H2 s2 => ?_⟩
      have h2 := s2 _ _ h1
      refine ⟨_, h2, ?_, same_upd (s1.trans s2) hD, ?_⟩
      · rw [vi_len, List.length_map, List.length_take]
        exact Nat.lt_of_le_of_lt (Nat.le_trans (Nat.min_le_right _ _) hg.1) (by decide)
      · rw [upd_same, take_snoc hx, List.map_append, vi_app]
        rfl
    · rintro H' ⟨s1, h1⟩
      rw [List.length_map, hA.len, List.take_length] at h1
      exact k H' D s1 hD h1
/-! ### with both strands -/
def mins (f g : List Nat) : List Nat := (f.zip g).map fun x => min x.1 x.2
def rMin2 : List V → Hp → VK → Prop := fun xs H Q => ∃ i j, xs = [.int i, .int j] ∧ Q (.int (if j < i then j else i)) H
def spLesser (K : PySem.W.Frag) : Sp := fun vs H Q _ => ∃ (a b : Addr) (f g : List Nat), vs = [.ref a, .ref b] ∧ IntsAt H a f ∧ IntsAt H b g ∧ f.length = g.length ∧ f.length ≤ 1000 ∧ ∀ (H' : Hp) (p : Addr), Same H H' → H p = none → IntsAt H' p (mins f g) → Q (.ref p) H'
theorem ok_lesser_costs (T : Tx K mg) : DefOk P w K mg base 1 (He.ga K "lesser_costs") ["first_costs", "second_costs"] (spLesser K) := by
  refine mkDef T.f_lesser_costs sc_lesser_costs (fun _ _ _ _ _ _ us hl => match us, hl with | [_, _], _ => rfl) (fun vs H Q E h => ?_) (fun cdv A outer s H vs Q E hr h => ?_)
  · obtain ⟨a, b, x, s, rfl, _⟩ := h
    rfl
  · obtain ⟨a, b, f, g, rfl, ha, hb, hfg, hlen, k⟩ := h
    refine ⟨_, pss_one (ps_ret (pe_lc (own := [("first", 2), ("second", 3)]) (g := gTup K 2 (gCons (gName 2) (gCons (gName 3) gNil))) (tt := tYes) (te := tCB rMin2 (tCons (tVar 2) (tCons (tVar 3) tNil))) rfl sc_lesser_costs.nd (pi_zip (by rfl) T.z_zip (pa_cons (pv 0) (pa_cons (pv 1) pa_nil))) (blkOk_by (own := [("first", 2), ("second", 3)]) (N := nm_lesser_costs) (sc := defScope s_lesser_costs) (by decide +kernel)) (fun _ _ _ _ _ => by exact pg_tup rfl (pgs_cons (pg_name (i := 2) sc_lesser_costs.nd rfl (Or.inl rfl)) (pgs_cons (pg_name (i := 3) sc_lesser_costs.nd rfl (Or.inl rfl)) pgs_nil))) (fun _ _ _ _ _ => pts_nil) (fun _ _ _ _ _ => by exact pe_callB (call_min2 rfl) (by rfl) T.z_min (by decide +kernel) (pa_cons (pv 2) (pa_cons (pv 3) pa_nil))))), ?_⟩
    refine ⟨_, rfl, _, rfl, a, b, _, _, rfl, SqL.of ha, SqL.of hb, fun D hD => lc_it (walk_zip (K := K) (a := a) (b := b) (xs := vi f) (ys := vi g) (n := f.length) (by rw [vi_len, vi_len, ← hfg, Nat.min_self])) (fun i H' => Same H H' ∧ H' D = some (.lst (vi ((mins f g).take i)))) ⟨same_new hD, upd_same⟩ (fun i H' _ ⟨s1, _⟩ => ⟨SqL.of (s1 _ _ ha), SqL.of (s1 _ _ hb)⟩) ?_ ?_⟩
    · rintro i y H' H2 hi ⟨s1, h1⟩ ⟨T0, x0, y0, rfl, hT0, rfl, hx0, hy0⟩
      have s2 : Same H' (upd H' T0 (.tup [x0, y0])) := same_new hT0
      obtain ⟨u, hu, rfl⟩ := get_map hx0
      obtain ⟨v, hv, rfl⟩ := get_map hy0
      refine ⟨T0, _, rfl, SqT.of upd_same, rfl, _, _, rfl, _, _, rfl, ?_⟩
      refine ⟨rfl, rfl, tyes ?_⟩
      refine ⟨_, rfl, _, rfl, _, _, rfl, _, s2 _ _ h1, ?_, same_upd (s1.trans s2) hD, ?_⟩
      · rw [vi_len, List.length_take]
        refine Nat.lt_of_le_of_lt (Nat.min_le_left _ _) (Nat.lt_of_lt_of_le hi (Nat.le_trans hlen (by decide)))
      · have e : (mins f g)[i]? = some (min u v) := by
          unfold mins
          rw [List.getElem?_map, List.getElem?_zip_eq_some (z := (u, v)) |>.mpr ⟨hu, hv⟩]
          rfl
        rw [upd_same, take_snoc e, vi_app]
        have e3 : (if (v : Int) < (u : Int) then (v : Int) else (u : Int)) = ((min u v : Nat) : Int) := by
          by_cases c : (v : Int) < (u : Int)
          · rw [if_pos c]; omega
          · rw [if_neg c]; omega
        rw [e3]
        rfl
    · rintro H' ⟨s1, h1⟩
      have e0 : (mins f g).take f.length = mins f g := List.take_of_length_le (by unfold mins; rw [List.length_map, List.length_zip]; exact Nat.min_le_left _ _)
      rw [e0] at h1
      exact k H' D s1 hD h1
/-- as the specification tells them -/
theorem mins_are (a b : List Nat) (xs : List (Nat × Lf06.Reading)) : mins (xs.map fun x => Lf06.off a x.2) (xs.map fun x => Lf06.off b x.2) = (xs.map fun x => x.2).map (Lf06.costOf (a, b)) := by
  unfold mins
  rw [mins_map, List.map_map]
  rfl
end
end Ts
end
section
set_option maxRecDepth 100000
set_option maxHeartbeats 2000000
namespace Ts
open PySem PySem.Spec PyProof.Rows L2
section
variable {P : Program} {w : World} {K : PySem.W.Frag} {mg : Str → Option Value} {base : Heap}
/-! ### letters as they may be -/
def spLettersFit : Sp := fun vs H Q _ => ∃ (k a b : Nat), vs = [.int k, .int a, .int b] ∧ k ≤ 3 ∧ a ≤ 1 ∧ b ≤ 1 ∧ Q (.bl (Lf06.allowed k a b)) H
theorem ok_letters_fit (T : Tx K mg) : DefOk P w K mg base 1 (He.ga K "letters_fit") ["fact", "first", "second"] spLettersFit := by
  obtain ⟨t1, i1⟩ := T.i_NOTHING
  obtain ⟨t2, i2⟩ := T.i_ONE_OF_EACH
  refine mkDef T.f_letters_fit sc_letters_fit (fun _ _ _ _ _ _ us hl => match us, hl with | [_, _, _], _ => rfl) (fun vs H Q E h => ?_) (fun cdv A outer s H vs Q E hr h => ?_)
  · obtain ⟨k, a, b, rfl, _⟩ := h
    rfl
  · obtain ⟨k, a, b, rfl, hk, ha, hb, q⟩ := h
    refine ⟨_, pss_cons (ps_if (pt_cmpR op_eq (pv 0) (pe_gi i1) (nomark _)) (pss_one (ps_ret pe_bl)) pss_nil)
      (pss_cons (ps_if (pt_cmpR op_eq (pv 0) (pe_gi i2) (nomark _)) (pss_one (ps_ret (pe_cmpR op_ne (pv 1) (pv 2) (nomark _)))) pss_nil)
      (pss_one (ps_ret (pe_and (pe_cmpR op_eq (pv 1) (pv 0) (nomark _)) (pe_one (pe_cmpR op_eq (pv 2) (pv 0) (nomark _))))))), ?_⟩
    refine ⟨_, rfl, rfl, _, rfl, ite2 (fun c => ?_) (fun c => ?_)⟩
    · have e : k = 3 := by have := V.int.inj (of_decide_eq_true c); omega
      subst e
      exact q
    · have n3 : k ≠ 3 := fun e => by rw [e] at c; exact c (decide_eq_true rfl)
      refine ⟨_, rfl, rfl, _, rfl, ite2 (fun c => ?_) (fun c => ?_)⟩
      · have e : k = 2 := by have := V.int.inj (of_decide_eq_true c); omega
        subst e
        refine ⟨_, rfl, _, rfl, rfl, ?_⟩
        show Q (.bl (!decide (V.int (a : Int) = V.int (b : Int)))) H
        rw [ndec_vint]
        exact q
      · have n2 : k ≠ 2 := fun e => by rw [e] at c; exact c (decide_eq_true rfl)
        have al : Lf06.allowed k a b = (decide (a = k) && decide (b = k)) := by
          have hk2 : k = 0 ∨ k = 1 := by omega
          rcases hk2 with rfl | rfl <;> rfl
        refine ⟨_, rfl, _, rfl, rfl, _, rfl, ?_⟩
        rw [al] at q
        rw [dec_vint]
        by_cases c1 : a = k
        · rw [decide_eq_true c1] at q ⊢
          refine iteT ?_
          refine ⟨_, rfl, _, rfl, rfl, ?_⟩
          rw [dec_vint]
          exact q
        · rw [decide_eq_false c1] at q ⊢
          exact iteF q
def fits (ks a b : List Nat) : List Bool := (ks.zip (a.zip b)).map fun x => Lf06.allowed x.1 x.2.1 x.2.2
def spMayBe (K : PySem.W.Frag) : Sp := fun vs H Q _ => ∃ (p q r : Addr) (ks a b : List Nat), vs = [.ref p, .ref q, .ref r] ∧ IntsAt H p ks ∧ IntsAt H q a ∧ IntsAt H r b ∧ a.length = ks.length ∧ b.length = ks.length ∧ ks.length ≤ 1000 ∧
  (∀ k ∈ ks, k ≤ 3) ∧ (∀ k ∈ a, k ≤ 1) ∧ (∀ k ∈ b, k ≤ 1) ∧ ∀ H', Same H H' → Q (.bl ((fits ks a b).all id)) H'
theorem ok_may_be (T : Tx K mg) : DefOk P w K mg base 2 (He.ga K "may_be") ["facts", "first", "second"] (spMayBe K) := by
  obtain ⟨fd1, G1, b1, kp1⟩ := ok_letters_fit (P := P) (w := w) (base := base) T
  refine mkDef T.f_may_be sc_may_be (fun _ _ _ _ _ _ us hl => match us, hl with | [_, _, _], _ => rfl) (fun vs H Q E h => ?_) (fun cdv A outer s H vs Q E hr h => ?_)
  · obtain ⟨p, q, r, ks, a, b, rfl, _⟩ := h
    rfl
  · obtain ⟨p, q, r, ks, a, b, rfl, hp, hq, hr1, la, lb, lk, bk, ba, bb, k⟩ := h
    refine ⟨_, pss_one (ps_ret (pe_callB (cr_all rfl) (by rfl) T.z_all (by decide +kernel) (pa_cons (pe_lc (own := [("k", 3)]) (g := gName 3) (tt := tYes)
      (te := tCall spLettersFit [] E0 (tCons (tOp (rIxL K) (tVar 0) (tVar 3)) (tCons (tOp (rIxL K) (tVar 1) (tVar 3)) (tCons (tOp (rIxL K) (tVar 2) (tVar 3)) tNil))))
      rfl sc_may_be.nd (pi_range1 rfl T.z_range (pa_cons (pe_callB call_len_seq (by rfl) T.z_len PySem.boot_len (pa_cons (pv 0) pa_nil)) pa_nil))
      (blkOk_by (own := [("k", 3)]) (N := nm_may_be) (sc := defScope s_may_be) (by decide +kernel)) (fun _ _ _ _ _ => pg_name (i := 3) sc_may_be.nd rfl (Or.inl rfl)) (fun _ _ _ _ _ => pts_nil)
      (fun _ _ _ _ _ => by exact pe_call G1 hr rfl T.g_letters_fit kp1 b1 .nil pass0 (pa_cons (pe_ix ix_list (pv 0) (pv 3) (fun _ _ => rfl)) (pa_cons (pe_ix ix_list (pv 1) (pv 3) (fun _ _ => rfl)) (pa_cons (pe_ix ix_list (pv 2) (pv 3) (fun _ _ => rfl)) pa_nil))))) pa_nil))), ?_⟩
    refine ⟨_, rfl, p, _, rfl, .inl (SqL.of hp), _, rfl, (by rw [vi_len]; omega), (by rw [vi_len]; omega), fun D hD => lc_range (lo := 0) (n := ((vi ks).length : Int).toNat) (fun i H' => Same H H' ∧ H' D = some (.lst (((fits ks a b).take i).map V.bl))) ⟨same_new hD, upd_same⟩ ?_ ?_⟩
    · rintro i H' hi ⟨s1, h1⟩
      have hi' : i < ks.length := by rw [vi_len] at hi; omega
      obtain ⟨x, hx⟩ : ∃ x, ks[i]? = some x := ⟨_, List.getElem?_eq_getElem hi'⟩
      obtain ⟨y, hy⟩ : ∃ y, a[i]? = some y := ⟨_, List.getElem?_eq_getElem (by omega)⟩
      obtain ⟨z, hz⟩ : ∃ z, b[i]? = some z := ⟨_, List.getElem?_eq_getElem (by omega)⟩
      have e0 : (0 : Int) + (i : Int) = (i : Int) := by omega
      refine ⟨rfl, tyes ?_⟩
      refine ⟨_, rfl, _, rfl, p, _, _, _, rfl, rfl, SqL.of (hp.same s1), at_of (j := i) e0 (vi_get hx), _, rfl, _, rfl, q, _, _, _, rfl, rfl, SqL.of (hq.same s1), at_of (j := i) e0 (vi_get hy), _, rfl, _, rfl, r, _, _, _, rfl, rfl, SqL.of (hr1.same s1), at_of (j := i) e0 (vi_get hz), ?_⟩
      refine ⟨x, y, z, rfl, bk x (List.mem_of_getElem? hx), ba y (List.mem_of_getElem? hy), bb z (List.mem_of_getElem? hz), ?_⟩
      have e : (fits ks a b)[i]? = some (Lf06.allowed x y z) := by
        unfold fits
        rw [List.getElem?_map, (List.getElem?_zip_eq_some (z := (x, (y, z)))).mpr ⟨hx, (List.getElem?_zip_eq_some (z := (y, z))).mpr ⟨hy, hz⟩⟩]
        rfl
      refine ⟨_, h1, ?_, same_upd s1 hD, ?_⟩
      · rw [List.length_map, List.length_take]
        exact Nat.lt_of_le_of_lt (Nat.min_le_left _ _) (Nat.lt_of_lt_of_le hi' (Nat.le_trans lk (by decide)))
      · rw [upd_same, take_snoc e, List.map_append]
        rfl
    · rintro H' ⟨s1, h1⟩
      have e0 : (fits ks a b).take ((vi ks).length : Int).toNat = fits ks a b := List.take_of_length_le (by
        unfold fits
        rw [List.length_map, List.length_zip, vi_len]
        have := Nat.min_le_left ks.length (a.zip b).length
        omega)
      rw [e0] at h1
      exact ⟨D, _, rfl, SqL.of h1, k H' s1⟩
/-! ### the letters of a pair -/
def spLettersOf (K : PySem.W.Frag) : Sp := fun vs H Q _ => ∃ (p : Addr) (x : Lf06.Pair × Nat) (rs : List Lf06.Reading), vs = [.ref p] ∧ PairAt K rs H p x ∧ x.1.1.length + x.1.2.length ≤ 1000 ∧ ∀ (H' : Hp) (r : Addr), Same H H' → H r = none → IntsAt H' r (x.1.1 ++ x.1.2) → Q (.ref r) H'
theorem ok_letters_of (T : Tx K mg) : DefOk P w K mg base 1 (He.ga K "letters_of") ["pair"] (spLettersOf K) := by
  refine mkDef T.f_letters_of sc_letters_of (fun _ _ _ _ _ _ us hl => match us, hl with | [_], _ => rfl) (fun vs H Q E h => ?_) (fun cdv A outer s H vs Q E hr h => ?_)
  · obtain ⟨p, x, rs, rfl, _⟩ := h
    rfl
  · obtain ⟨p, x, rs, rfl, ⟨dx, f, g, lc, hp, hf, hg, _⟩, hl, k⟩ := h
    refine ⟨_, pss_one (ps_ret (pe_op op_cat (pe_fld (pv 0) rfl) (pe_fld (pv 0) rfl))), ?_⟩
    refine ⟨_, rfl, p, _, dx, _, _, rfl, hp, T.cl_Pair, T.n_Pair_first, rfl, _, rfl, p, _, dx, _, _, rfl, hp, T.cl_Pair, T.n_Pair_second, rfl, f, g, _, _, rfl, rfl, hf, hg, (by rw [vi_len, vi_len]; exact Nat.le_trans hl (by decide)), fun r hr0 => ?_⟩
    exact k _ r (same_new hr0) hr0 (by unfold IntsAt; rw [upd_same, vi_app])
end
end Ts
end
section
set_option maxRecDepth 100000
set_option maxHeartbeats 2000000
namespace Ts
open PySem PySem.Spec PyProof.Rows L2
section
variable {P : Program} {w : World} {K : PySem.W.Frag} {mg : Str → Option Value} {base : Heap}
/-! ### all strands -/
def longer (l : List (List Nat)) : List (List Nat) := l.flatMap fun s => [s ++ [0], s ++ [1]]
theorem longer_snoc (l : List (List Nat)) (s : List Nat) : longer (l ++ [s]) = longer l ++ [s ++ [0]] ++ [s ++ [1]] := by
  unfold longer
  rw [List.flatMap_append]
  simp
theorem longer_len (l : List (List Nat)) : (longer l).length = 2 * l.length := flat2_len l
def spStrands : Sp := fun vs H Q _ => ∃ (n : Nat), vs = [.int n] ∧ n ≤ 6 ∧ ∀ (H' : Hp) (p : Addr), Same H H' → H p = none → ListAt IntsAt H' p (Lf06.strands n) → Q (.ref p) H'
theorem ok_strands_in_order (T : Tx K mg) : DefOk P w K mg base 1 (He.ga K "strands_in_order") ["places"] spStrands := by
  refine mkDef T.f_strands_in_order sc_strands_in_order (fun _ _ _ _ _ _ us hl => match us, hl with | [_], _ => rfl) (fun vs H Q E h => ?_) (fun cdv A outer s H vs Q E hr h => ?_)
  · obtain ⟨n, rfl, _⟩ := h
    rfl
  · obtain ⟨n, rfl, hn, k⟩ := h
    refine ⟨_, pss_cons (ps_set (i := 1) sc_strands_in_order.nd rfl (Or.inl rfl) (pe_lst (pa_cons (pe_lst pa_nil) pa_nil)))
      (pss_cons (ps_while PassesOwn.never (pt_cmpR op_lt (pe_callB call_len_seq (by rfl) T.z_len PySem.boot_len (pa_cons (pe_ix ix_list (pv 1) pe_int (fun _ _ => rfl)) pa_nil)) (pv 0) (nomark _))
        (pss_cons (ps_set (i := 2) sc_strands_in_order.nd rfl (Or.inl rfl) (pe_lst pa_nil))
        (pss_cons (ps_for PassesOwn.never rfl (pi_list (pv 1)) (pg_name (i := 3) sc_strands_in_order.nd rfl (Or.inl rfl))
          (pss_cons (ps_expr (pe_bm PySem.F.plainAttrs_list PySem.F.slot_list_append PySem.F.type_list_append mt_append (pv 2) (pa_cons (pe_op op_cat (pv 3) (pe_lst (pa_cons pe_int pa_nil))) pa_nil)))
          (pss_one (ps_expr (pe_bm PySem.F.plainAttrs_list PySem.F.slot_list_append PySem.F.type_list_append mt_append (pv 2) (pa_cons (pe_op op_cat (pv 3) (pe_lst (pa_cons pe_int pa_nil))) pa_nil))))))
        (pss_one (ps_set (i := 1) sc_strands_in_order.nd rfl (Or.inl rfl) (pv 2))))))
      (pss_one (ps_ret (pv 1)))), ?_⟩
    refine ⟨Nat.zero_le _, fun q hq => ⟨(by show 1 ≤ sizeLine; decide), fun l hl => ?_⟩⟩
    have hql : q ≠ l := ne_of_none upd_same hl
    have hl0 : H l = none := by rw [upd_ne hql.symm] at hl; exact hl
    refine ⟨fun m σ H' => ∃ (j : Nat) (l' : Addr) (v2 v3 : Option V), j + m = n ∧ σ = [some (.int n), some (.ref l'), v2, v3] ∧ Same H H' ∧ H l' = none ∧ ListAt IntsAt H' l' (Lf06.strands j), ⟨n, 0, l, none, none, by omega, rfl, (same_new hq).trans (same_new hl), hl0, [q], upd_same, ?_, trivial⟩, ?_⟩
    · unfold IntsAt
      rw [upd_ne hql, upd_same]
      rfl
    · rintro m σ H1 ⟨j, l', v2, v3, hj, rfl, s1, hl0', as, hl', hA⟩
      have hlen : (Lf06.strands j).length = 2 ^ j := strands_len j
      have hpos : 0 < 2 ^ j := Nat.two_pow_pos j
      obtain ⟨s0, hs0⟩ : ∃ s0, (Lf06.strands j)[0]? = some s0 := ⟨_, List.getElem?_eq_getElem (by omega)⟩
      obtain ⟨a0, ha0, hI0⟩ := hA.get2 hs0
      have l0 : s0.length = j := (strands_mem j s0 (List.mem_of_getElem? hs0)).1
      refine ⟨_, rfl, l', _, _, _, rfl, rfl, SqL.of hl', at_of (j := 0) (v := V.ref a0) rfl (by rw [List.getElem?_map, ha0]; rfl), a0, _, rfl, .inl (SqL.of hI0), _, rfl, _, _, rfl, rfl, _, rfl, ?_⟩
      refine ite2 (fun c => ?_) (fun c => ?_)
      · have c1 : j < n := by
          have := of_decide_eq_true c
          rw [vi_len, l0] at this
          omega
        refine ⟨fun σ' H' => ∃ (l2 : Addr) (v2 v3 : Option V), σ' = [some (.int n), some (.ref l2), v2, v3] ∧ Same H H' ∧ H l2 = none ∧ ListAt IntsAt H' l2 (Lf06.strands (j + 1)), ?_, ?_⟩
        · rintro σ' H' ⟨l2, v2, v3, rfl, sa, sb, sc⟩
          exact ⟨m - 1, by omega, j + 1, l2, v2, v3, by omega, rfl, sa, sb, sc⟩
        · refine ⟨Nat.zero_le _, fun g hg => ?_⟩
          have s2 : Same H1 (upd H1 g (.lst [])) := same_new hg
          refine ⟨_, rfl, l', rfl, ⟨_, SqL.of (s2 _ _ hl')⟩, for_list (K := K) (a := l') (xs := as.map V.ref) (fun i σ H' => ∃ v3, σ = [some (.int n), some (.ref l'), some (.ref g), v3] ∧ Grow IntsAt H1 H' g (longer ((Lf06.strands j).take i))) ⟨v3, rfl, Grow.start hg⟩ (fun i σ H' _ ⟨_, _, G⟩ => SqL.of (G.2.1 _ _ hl')) ?_ ?_⟩
          · rintro i y σ H' hi ⟨v3, rfl, G⟩
            obtain ⟨c, hc, rfl⟩ := get_map hi
            obtain ⟨t, ht, hI⟩ := hA.get hc
            have lt_ : t.length = j := (strands_mem j t (List.mem_of_getElem? ht)).1
            have hcg : c ≠ g := ne_of_none hI hg
            have small : (longer ((Lf06.strands j).take i)).length < 1000 := by
              rw [longer_len, List.length_take, hlen]
              have h6 : 2 ^ j ≤ 2 ^ 6 := Nat.pow_le_pow_right (by decide) (by omega)
              omega
            -- longer.append(strand + [0])
            obtain ⟨zs, hz⟩ := G.sq (K := K)
            refine ⟨_, rfl, .inl ⟨rfl, _, hz⟩, _, rfl, (by show 1 ≤ sizeLine; decide), fun q1 hq1 => ?_⟩
            have sa : Same H' (upd H' q1 (.lst [.int 0])) := same_new hq1
            have hI1 := (hI.same G.2.1).same sa
            refine ⟨c, q1, _, _, rfl, rfl, hI1, upd_same, (by rw [vi_len, lt_]; show j + 1 ≤ sizeLine; exact Nat.le_trans (by omega : j + 1 ≤ 1000) (by decide)), fun p1 hp1 => ?_⟩
            have sb := sa.trans (same_new (o := .lst (vi t ++ [.int 0])) hp1)
            have hR1 : IntsAt (del (upd (upd H' q1 (.lst [.int 0])) p1 (.lst (vi t ++ [.int 0]))) g) p1 (t ++ [0]) := by
              unfold IntsAt
              rw [del_ne (G.ne_new sa hp1), upd_same, vi_app]
              rfl
            obtain ⟨xs, hx, hxl, G2⟩ := G.step mono_ints sb hR1
            refine ⟨g, _, _, rfl, rfl, hx, (by rw [hxl]; exact Nat.lt_trans small (by decide)), ?_⟩
            -- longer.append(strand + [1])
            obtain ⟨zs, hz⟩ := G2.sq (K := K)
            refine ⟨_, rfl, .inl ⟨rfl, _, hz⟩, _, rfl, (by show 1 ≤ sizeLine; decide), fun q2 hq2 => ?_⟩
            have sa2 := same_new (o := .lst [.int 1]) hq2
            have hI2 := (hI.same G2.2.1).same sa2
            refine ⟨c, q2, _, _, rfl, rfl, hI2, upd_same, (by rw [vi_len, lt_]; show j + 1 ≤ sizeLine; exact Nat.le_trans (by omega : j + 1 ≤ 1000) (by decide)), fun p2 hp2 => ?_⟩
            have sb2 := sa2.trans (same_new (o := .lst (vi t ++ [.int 1])) hp2)
            have hR2 : IntsAt (del (upd (upd (upd (upd (upd H' q1 (.lst [.int 0])) p1 (.lst (vi t ++ [.int 0]))) g (.lst (xs ++ [.ref p1]))) q2 (.lst [.int 1])) p2 (.lst (vi t ++ [.int 1]))) g) p2 (t ++ [1]) := by
              unfold IntsAt
              rw [del_ne (G2.ne_new sa2 hp2), upd_same, vi_app]
              rfl
            obtain ⟨xs2, hx2, hxl2, G3⟩ := G2.step mono_ints sb2 hR2
            refine ⟨g, _, _, rfl, rfl, hx2, (by rw [hxl2, List.length_append]; show _ + 1 < _; exact Nat.lt_of_le_of_lt (by omega : _ + 1 ≤ 1000) (by decide)), ?_⟩
            exact ⟨_, rfl, by rw [take_snoc ht, longer_snoc]; exact G3⟩
          · rintro σ H' ⟨v3, rfl, G⟩
            rw [List.length_map, hA.len, List.take_length] at G
            refine ⟨_, rfl, ?_⟩
            exact ⟨g, _, _, rfl, s1.trans G.2.1, s1.free hg, G.done mono_ints⟩
      · have c1 : j = n := by
          have c2 : ¬ (((vi s0).length : Int) < (n : Int)) := fun z => c (decide_eq_true z)
          rw [vi_len, l0] at c2
          omega
        subst c1
        refine ⟨_, rfl, ?_⟩
        exact k H1 l' s1 hl0' ⟨as, hl', hA⟩
end
end Ts
end
section
set_option maxRecDepth 100000
set_option maxHeartbeats 4000000
namespace Ts
open PySem PySem.Spec PyProof.Rows L2
section
variable {P : Program} {w : World} {K : PySem.W.Frag} {mg : Str → Option Value} {base : Heap}
/-- a state as it may be -/
structure Wf (st : Lf06.St) : Prop where
  n1 : 1 ≤ st.known.length
  n6 : st.known.length ≤ 6
  k3 : ∀ k ∈ st.known, k ≤ 3
  good : Good st.known.length st.readings
/-! ### the pairs that may be -/
def spPairs (K : PySem.W.Frag) : Sp := fun vs H Q _ => ∃ (s : Addr) (st : Lf06.St), vs = [.ref s] ∧ SessAt K H s st ∧ Wf st ∧ ∀ (H' : Hp) (p : Addr), Same H H' → H p = none → ListAt (PairAt K (Lf06.readings st)) H' p (pairsC st.known (Lf06.readings st)) → Q (.ref p) H'
abbrev costRow (st : Lf06.St) (s : List Nat) : List Nat := st.readings.map fun x => Lf06.off s x.2
def partC (st : Lf06.St) (i : Nat) : List (Lf06.Pair × Nat) := (((Lf06.strands st.known.length).take i).flatMap (rowOf st.known)).map fun p => (p, Lf06.cost p (Lf06.readings st))
def rowC (st : Lf06.St) (a : List Nat) (l : List (List Nat)) : List (Lf06.Pair × Nat) := ((l.filter fun b => fitsB st.known a b).map fun b => (a, b)).map fun p => (p, Lf06.cost p (Lf06.readings st))
theorem rowC_snoc (st : Lf06.St) (a b : List Nat) (l : List (List Nat)) : rowC st a (l ++ [b]) = rowC st a l ++ if fitsB st.known a b = true then [((a, b), Lf06.cost (a, b) (Lf06.readings st))] else [] := by
  unfold rowC
  rw [List.filter_append, List.map_append, List.map_append, List.filter_cons, List.filter_nil]
  by_cases h : fitsB st.known a b = true
  · rw [if_pos h, if_pos h]
    rfl
  · rw [if_neg h, if_neg h]
    rfl
theorem partC_snoc {st : Lf06.St} {i : Nat} {a : List Nat} (h : (Lf06.strands st.known.length)[i]? = some a) : partC st (i + 1) = partC st i ++ rowC st a ((Lf06.strands st.known.length).drop i) := by
  unfold partC rowC
  rw [take_snoc h, List.flatMap_append, List.map_append, List.flatMap_cons, List.flatMap_nil, List.append_nil, row_from h]
theorem part_len {st : Lf06.St} (h : st.known.length ≤ 6) {i : Nat} (hi : i ≤ 64) : (partC st i).length ≤ 4096 := by
  unfold partC
  rw [List.length_map]
  have h1 := rows_len st.known ((Lf06.strands st.known.length).take i)
  have h2 : ((Lf06.strands st.known.length).take i).length ≤ i := List.length_take_le _ _
  have h3 := pow6 h
  have h4 : ((Lf06.strands st.known.length).take i).length * 2 ^ st.known.length ≤ 64 * 64 := Nat.mul_le_mul (Nat.le_trans h2 hi) h3
  omega
theorem rowC_len (st : Lf06.St) (a : List Nat) (l : List (List Nat)) : (rowC st a l).length ≤ l.length := by
  unfold rowC
  rw [List.length_map, List.length_map]
  exact List.length_filter_le _ _
theorem ok_pairs_that_may_be (T : Tx K mg) : DefOk P w K mg base 3 (He.ga K "pairs_that_may_be") ["session"] (spPairs K) := by
  obtain ⟨fd1, G1, b1, kp1⟩ := ok_strands_in_order (P := P) (w := w) (base := base) T
  obtain ⟨fd2, G2, b2, kp2⟩ := ok_costs_with (P := P) (w := w) (base := base) T
  obtain ⟨fd3, G3, b3, kp3⟩ := ok_may_be (P := P) (w := w) (base := base) T
  obtain ⟨fd4, G4, b4, kp4⟩ := ok_lesser_costs (P := P) (w := w) (base := base) T
  obtain ⟨fd5, G5, b5, kp5⟩ := ok_Pair_init (P := P) (w := w) (base := base) T
  refine mkDef T.f_pairs_that_may_be sc_pairs_that_may_be (fun _ _ _ _ _ _ us hl => match us, hl with | [_], _ => rfl) (fun vs H Q E h => ?_) (fun cdv A outer s H vs Q E hr h => ?_)
  · obtain ⟨s, st, rfl, _⟩ := h
    rfl
  · obtain ⟨s, st, rfl, hS, W, k⟩ := h
    have hr1 : Room 1 _ := hr.mono (by decide)
    refine ⟨_, pss_cons (ps_set (i := 1) sc_pairs_that_may_be.nd rfl (Or.inl rfl) (pe_call G1 hr1 rfl T.g_strands_in_order kp1 b1 .nil pass0 (pa_cons (pe_callB call_len_seq (by rfl) T.z_len PySem.boot_len (pa_cons (pe_fld (pv 0) rfl) pa_nil)) pa_nil)))
      (pss_cons (ps_setLc (i := 2) (own := [("strand", 6)]) (g := gName 6) (tt := tYes) (te := tCall (spCostsWith K) [] E0 (tCons (tFld K (tVar 0) "readings") (tCons (tVar 6) tNil))) rfl sc_pairs_that_may_be.nd rfl rfl (sw_true rfl rfl rfl (by decide +kernel)) (pi_list (pv 1))
          (blkOk_by (own := [("strand", 6)]) (N := nm_pairs_that_may_be) (sc := defScope s_pairs_that_may_be) (by decide +kernel)) (fun _ _ _ _ _ => pg_name (i := 6) sc_pairs_that_may_be.nd rfl (Or.inl rfl)) (fun _ _ _ _ _ => pts_nil)
          (fun _ _ _ _ _ => by exact pe_call G2 hr rfl T.g_costs_with kp2 b2 .nil pass0 (pa_cons (pe_fld (pv 0) rfl) (pa_cons (pv 6) pa_nil))))
      (pss_cons (ps_set (i := 3) sc_pairs_that_may_be.nd rfl (Or.inl rfl) (pe_lst pa_nil))
      (pss_cons (ps_for PassesOwn.never rfl (pi_range1 rfl T.z_range (pa_cons (pe_callB call_len_seq (by rfl) T.z_len PySem.boot_len (pa_cons (pv 1) pa_nil)) pa_nil)) (pg_name (i := 4) sc_pairs_that_may_be.nd rfl (Or.inl rfl))
        (pss_one (ps_for PassesOwn.never rfl (pi_range2 rfl T.z_range (pa_cons (pv 4) (pa_cons (pe_callB call_len_seq (by rfl) T.z_len PySem.boot_len (pa_cons (pv 1) pa_nil)) pa_nil))) (pg_name (i := 5) sc_pairs_that_may_be.nd rfl (Or.inl rfl))
          (pss_one (ps_if (pt_val (pe_call G3 hr rfl T.g_may_be kp3 b3 .nil pass0 (pa_cons (pe_fld (pv 0) rfl) (pa_cons (pe_ix ix_list (pv 1) (pv 4) (fun _ _ => rfl)) (pa_cons (pe_ix ix_list (pv 1) (pv 5) (fun _ _ => rfl)) pa_nil)))))
            (pss_one (ps_expr (pe_bm PySem.F.plainAttrs_list PySem.F.slot_list_append PySem.F.type_list_append mt_append (pv 3) (pa_cons (pe_make T.mk_Pair G5 hr rfl T.g_Pair b5 .nil pass0 (pa_cons (pe_ix ix_list (pv 1) (pv 4) (fun _ _ => rfl)) (pa_cons (pe_ix ix_list (pv 1) (pv 5) (fun _ _ => rfl)) (pa_cons (pe_call G4 hr1 rfl T.g_lesser_costs kp4 b4 .nil pass0 (pa_cons (pe_ix ix_list (pv 2) (pv 4) (fun _ _ => rfl)) (pa_cons (pe_ix ix_list (pv 2) (pv 5) (fun _ _ => rfl)) pa_nil))) pa_nil)))) pa_nil)))) pss_nil)))))
      (pss_one (ps_ret (pv 3)))))), ?_⟩
    obtain ⟨dx, lf, lr, hs, hf, hR⟩ := id hS
    -- strands = strands_in_order(len(session.facts))
    refine ⟨_, rfl, s, _, dx, _, _, rfl, hs, T.cl_Session, T.n_Session_facts, rfl, lf, _, rfl, .inl (SqL.of hf), ?_⟩
    refine ⟨st.known.length, by rw [vi_len]; rfl, W.n6, fun H1 l s1 hl0 hL => ?_⟩
    obtain ⟨as, hl, hA⟩ := id hL
    have hlen := strands_len st.known.length
    have h64 := pow6 W.n6
    -- costs = [costs_with(session.readings, strand) for strand in strands]
    refine ⟨_, rfl, l, rfl, ⟨_, SqL.of hl⟩, fun D hD => lc_list (K := K) (a := l) (xs := as.map V.ref) (fun i H' => Grow IntsAt H1 H' D (((Lf06.strands st.known.length).take i).map (costRow st))) (Grow.start hD) (fun i H' _ G => SqL.of (G.2.1 _ _ hl)) ?_ ?_⟩
    · rintro i y H' hi G
      obtain ⟨c, hc, rfl⟩ := get_map hi
      obtain ⟨t, ht, hI⟩ := hA.get hc
      have lt_ : t.length = st.known.length := (strands_mem _ t (List.mem_of_getElem? ht)).1
      have sH := s1.trans G.2.1
      refine ⟨rfl, tyes ?_⟩
      refine ⟨_, rfl, s, _, dx, _, _, rfl, sH _ _ hs, T.cl_Session, T.n_Session_readings, rfl, _, rfl, ?_⟩
      refine ⟨lr, c, st.readings, t, rfl, hR.same sH (fun _ _ q => q.same sH), hI.same G.2.1, by rw [lt_]; exact W.good, fun H2 p s2 hp hQ => ?_⟩
      have hRp : IntsAt (del H2 D) p (costRow st t) := by
        unfold IntsAt
        rw [del_ne (G.ne_new (Same.refl _) hp)]
        exact hQ
      obtain ⟨xs, hx, hxl, G2⟩ := G.step mono_ints s2 hRp
      refine ⟨_, hx, ?_, by rw [take_snoc ht, List.map_append]; exact G2⟩
      rw [hxl, List.length_map, List.length_take]
      have := lt_of_get ht
      exact Nat.lt_of_le_of_lt (by omega : _ ≤ 1000) (by decide)
    · rintro H2 G
      rw [List.length_map, hA.len, List.take_length] at G
      have s12 := G.2.1
      obtain ⟨cs, hcs, hC⟩ := G.done mono_ints
      refine ⟨Nat.zero_le _, fun g hg => ?_⟩
      have s3 : Same H2 (upd H2 g (.lst [])) := same_new hg
      have nlen : ((as.map V.ref).length : Int).toNat = (Lf06.strands st.known.length).length := by rw [List.length_map, hA.len, Int.toNat_natCast]
      have sH2 : Same H H2 := s1.trans s12
      refine ⟨_, rfl, l, _, rfl, .inl (SqL.of (s3 _ _ (s12 _ _ hl))), _, rfl, (by rw [List.length_map, hA.len]; omega), (by rw [List.length_map, hA.len]; omega),
        for_range (lo := 0) (fun i σ H' => ∃ v4 v5, σ = [some (.ref s), some (.ref l), some (.ref D), some (.ref g), v4, v5, none] ∧ Grow (PairAt K (Lf06.readings st)) H2 H' g (partC st i)) ⟨none, none, rfl, Grow.start hg⟩ ?_ ?_⟩
      · rintro i σ H' hi ⟨v4, v5, rfl, G⟩
        rw [nlen] at hi
        obtain ⟨a, ha⟩ : ∃ a, (Lf06.strands st.known.length)[i]? = some a := ⟨_, List.getElem?_eq_getElem hi⟩
        obtain ⟨ca, hca, hIa⟩ := hA.get2 ha
        obtain ⟨ea, hea, hEa⟩ := hC.get2 (i := i) (b := costRow st a) (by rw [List.getElem?_map, ha]; rfl)
        have wa := strands_mem _ a (List.mem_of_getElem? ha)
        have e0 : (0 : Int) + (i : Int) = (i : Int) := by omega
        have sG := s12.trans G.2.1
        refine ⟨_, rfl, _, rfl, l, _, rfl, .inl (SqL.of (sG _ _ hl)), _, _, rfl, ⟨by omega, by omega, by rw [List.length_map, hA.len]; omega, by rw [List.length_map, hA.len]; omega⟩,
          for_range (lo := 0 + (i : Int)) (fun j σ H' => ∃ v5, σ = [some (.ref s), some (.ref l), some (.ref D), some (.ref g), some (.int (0 + (i : Int))), v5, none] ∧ Grow (PairAt K (Lf06.readings st)) H2 H' g (partC st i ++ rowC st a (((Lf06.strands st.known.length).drop i).take j))) ⟨v5, rfl, by rw [List.take_zero]; exact (List.append_nil (partC st i)).symm ▸ G⟩ ?_ ?_⟩
        · rintro j σ H3 hj ⟨v5, rfl, G⟩
          have hij : i + j < (Lf06.strands st.known.length).length := by rw [List.length_map, hA.len] at hj; omega
          obtain ⟨b, hb⟩ : ∃ b, (Lf06.strands st.known.length)[i + j]? = some b := ⟨_, List.getElem?_eq_getElem hij⟩
          obtain ⟨cb, hcb, hIb⟩ := hA.get2 hb
          obtain ⟨eb, heb, hEb⟩ := hC.get2 (i := i + j) (b := costRow st b) (by rw [List.getElem?_map, hb]; rfl)
          have wb := strands_mem _ b (List.mem_of_getElem? hb)
          have e1 : (0 : Int) + (i : Int) + (j : Int) = ((i + j : Nat) : Int) := by omega
          have hbd : ((Lf06.strands st.known.length).drop i)[j]? = some b := by rw [List.getElem?_drop]; exact hb
          have s23 := G.2.1
          have s13 := s12.trans s23
          have s03 := s1.trans s13
          have gL := SqL.of (K := K) (s13 _ _ hl)
          have gA : atI (as.map V.ref) (0 + (i : Int)) = some (V.ref ca) := at_of (j := i) e0 (by rw [List.getElem?_map, hca]; rfl)
          have gB : atI (as.map V.ref) (0 + (i : Int) + (j : Int)) = some (V.ref cb) := at_of (j := i + j) e1 (by rw [List.getElem?_map, hcb]; rfl)
          have eA : atI (cs.map V.ref) (0 + (i : Int)) = some (V.ref ea) := at_of (j := i) e0 (by rw [List.getElem?_map, hea]; rfl)
          have eB : atI (cs.map V.ref) (0 + (i : Int) + (j : Int)) = some (V.ref eb) := at_of (j := i + j) e1 (by rw [List.getElem?_map, heb]; rfl)
          have esn : rowC st a (((Lf06.strands st.known.length).drop i).take (j + 1)) = rowC st a (((Lf06.strands st.known.length).drop i).take j) ++ if fitsB st.known a b = true then [((a, b), Lf06.cost (a, b) (Lf06.readings st))] else [] := by rw [take_snoc hbd, rowC_snoc]
          refine ⟨_, rfl, s, _, dx, _, _, rfl, s03 _ _ hs, T.cl_Session, T.n_Session_facts, rfl, _, rfl, _, rfl, l, _, _, _, rfl, rfl, gL, gA, _, rfl, _, rfl, l, _, _, _, rfl, rfl, gL, gB, ?_⟩
          refine ⟨lf, ca, cb, st.known, a, b, rfl, hf.same s03, hIa.same s13, hIb.same s13, wa.1, wb.1, by have := W.n6; omega, W.k3, wa.2, wb.2, fun H4 s4 => ⟨_, rfl, ?_⟩⟩
          have G4 := G.keep mono_pair s4
          have s14 := s13.trans s4
          have s24 := s23.trans s4
          rw [show (fits st.known a b).all id = fitsB st.known a b from fits_all _ _ _]
          refine ite2 (fun c => ?_) (fun c => ?_)
          · rw [if_pos c] at esn
            obtain ⟨zs, hz⟩ := G4.sq (K := K)
            refine ⟨_, rfl, .inl ⟨rfl, _, hz⟩, _, rfl, _, rfl, l, _, _, _, rfl, rfl, SqL.of (s14 _ _ hl), gA, _, rfl, _, rfl, l, _, _, _, rfl, rfl, SqL.of (s14 _ _ hl), gB,
              _, rfl, _, rfl, D, _, _, _, rfl, rfl, SqL.of (s24 _ _ hcs), eA, _, rfl, _, rfl, D, _, _, _, rfl, rfl, SqL.of (s24 _ _ hcs), eB, ?_⟩
            refine ⟨ea, eb, costRow st a, costRow st b, rfl, hEa.same s24, hEb.same s24, by simp [costRow], by rw [List.length_map]; exact W.good.1, fun H5 pc s5 hpc hI5 => ?_⟩
            intro x dx' nx ndx nex
            refine ⟨x, dx', ca, cb, pc, _, rfl, upd_same, hI5.same (same_make nx ndx), rfl, ?_⟩
            rw [upd_upd]
            have s6 : Same H5 (upd (upd H5 dx' (.own x)) x (.ins (He.ga K "Pair") dx' (fPair ca cb pc ((mins (costRow st a) (costRow st b)).sum : Nat)))) := same_make nx ndx
            have hg4 : ∀ {o : HO} {y : Addr}, H1 y = some o → y ≠ g := fun {o y} e => ne_of_none (s12 _ _ e) hg
            have hRp : PairAt K (Lf06.readings st) (del (upd (upd H5 dx' (.own x)) x (.ins (He.ga K "Pair") dx' (fPair ca cb pc ((mins (costRow st a) (costRow st b)).sum : Nat)))) g) x ((a, b), Lf06.cost (a, b) (Lf06.readings st)) := by
              refine ⟨dx', ca, cb, pc, ?_, ?_, ?_, ?_⟩
              · rw [del_ne (G4.ne_new s5 nx), upd_same, show Lf06.cost (a, b) (Lf06.readings st) = (mins (costRow st a) (costRow st b)).sum from cost_is a b st.readings]
              · unfold IntsAt
                rw [del_ne (hg4 hIa)]
                exact s6 _ _ (s5 _ _ (s14 _ _ hIa))
              · unfold IntsAt
                rw [del_ne (hg4 hIb)]
                exact s6 _ _ (s5 _ _ (s14 _ _ hIb))
              · have em : (Lf06.readings st).map (Lf06.costOf ((a, b), Lf06.cost (a, b) (Lf06.readings st)).1) = mins (costRow st a) (costRow st b) := (mins_are a b st.readings).symm
                rw [em]
                unfold IntsAt
                rw [del_ne (G4.ne_new (Same.refl _) hpc)]
                exact s6 _ _ hI5
            obtain ⟨xs, hx, hxl, G6⟩ := G4.step mono_pair (s5.trans s6) hRp
            refine ⟨g, _, _, rfl, rfl, hx, ?_, ?_⟩
            · rw [hxl, List.length_append]
              have h1 := part_len W.n6 (i := i) (by omega)
              have h2 := rowC_len st a (((Lf06.strands st.known.length).drop i).take j)
              have h3 : (((Lf06.strands st.known.length).drop i).take j).length ≤ j := List.length_take_le _ _
              exact Nat.lt_of_le_of_lt (by omega : _ ≤ 10000) (by decide)
            · refine ⟨_, rfl, ?_⟩
              rw [esn, ← List.append_assoc]
              exact G6
          · rw [if_neg c, List.append_nil] at esn
            refine ⟨_, rfl, ?_⟩
            rw [esn]
            exact G4
        · rintro σ H3 ⟨v5, rfl, G⟩
          refine ⟨_, _, rfl, ?_⟩
          rw [partC_snoc ha]
          have et : ((Lf06.strands st.known.length).drop i).take ((((as.map V.ref).length : Int) - (0 + (i : Int))).toNat) = (Lf06.strands st.known.length).drop i := List.take_of_length_le (by
            rw [List.length_drop, List.length_map, hA.len]
            omega)
          rw [et] at G
          exact G
      · rintro σ H3 ⟨v4, v5, rfl, G⟩
        rw [nlen] at G
        refine ⟨_, rfl, ?_⟩
        have ep : partC st (Lf06.strands st.known.length).length = pairsC st.known (Lf06.readings st) := by
          unfold partC pairsC
          rw [List.take_length, pairs_eq]
        rw [ep] at G
        exact k H3 g (sH2.trans G.2.1) (sH2.free hg) (G.done mono_pair)
end
end Ts
end
section
set_option maxRecDepth 100000
set_option maxHeartbeats 4000000
namespace Ts
open PySem PySem.Spec PyProof.Rows L2
section
variable {P : Program} {w : World} {K : PySem.W.Frag} {mg : Str → Option Value} {base : Heap}
/-! ### the least cost -/
def spLeastCost (K : PySem.W.Frag) : Sp := fun vs H Q _ => ∃ (l : Addr) (rs : List Lf06.Reading) (xs : List (Lf06.Pair × Nat)), vs = [.ref l] ∧ ListAt (PairAt K rs) H l xs ∧ 0 < xs.length ∧ xs.length ≤ 4096 ∧
  ∀ (H' : Hp) (m : Nat), Same H H' → m ∈ xs.map (fun x => x.2) → (∀ y ∈ xs.map (fun x => x.2), m ≤ y) → Q (.int (m : Nat)) H'
theorem ok_least_cost (T : Tx K mg) : DefOk P w K mg base 1 (He.ga K "least_cost") ["pairs"] (spLeastCost K) := by
  refine mkDef T.f_least_cost sc_least_cost (fun _ _ _ _ _ _ us hl => match us, hl with | [_], _ => rfl) (fun vs H Q E h => ?_) (fun cdv A outer s H vs Q E hr h => ?_)
  · obtain ⟨l, rs, xs, rfl, _⟩ := h
    rfl
  · obtain ⟨l, rs, PC, rfl, ⟨as, hl, hA⟩, hne, hlen, k⟩ := h
    refine ⟨_, pss_one (ps_ret (pe_callB (cr_min rfl) (by rfl) T.z_min (by decide +kernel) (pa_cons (pe_lc (own := [("pair", 1)]) (g := gName 1) (tt := tYes) (te := tFld K (tVar 1) "cost") rfl sc_least_cost.nd (pi_list (pv 0))
          (blkOk_by (own := [("pair", 1)]) (N := nm_least_cost) (sc := defScope s_least_cost) (by decide +kernel)) (fun _ _ _ _ _ => pg_name (i := 1) sc_least_cost.nd rfl (Or.inl rfl)) (fun _ _ _ _ _ => pts_nil) (fun _ _ _ _ _ => by exact pe_fld (pv 1) rfl)) pa_nil))), ?_⟩
    refine ⟨_, rfl, l, rfl, ⟨_, SqL.of hl⟩, fun D hD => lc_list (K := K) (a := l) (xs := as.map V.ref) (fun i H' => Same H H' ∧ H' D = some (.lst (vi ((PC.take i).map fun x => x.2)))) ⟨same_new hD, upd_same⟩ (fun i H' _ G => SqL.of (G.1 _ _ hl)) ?_ ?_⟩
    · rintro i y H' hi ⟨s2, h2⟩
      obtain ⟨c, hc, rfl⟩ := get_map hi
      obtain ⟨x, hx, dx, f, g, lc, hp, _⟩ := hA.get hc
      refine ⟨rfl, tyes ?_⟩
      refine ⟨_, rfl, c, _, dx, _, _, rfl, s2 _ _ hp, T.cl_Pair, T.n_Pair_cost, rfl, _, h2, ?_, same_upd s2 hD, ?_⟩
      · rw [vi_len, List.length_map]
        exact Nat.lt_of_le_of_lt (Nat.le_trans (List.length_take_le' _ _) hlen) (by decide)
      · rw [upd_same, take_snoc hx, List.map_append, vi_app]
        rfl
    · rintro H2 ⟨s2, h2⟩
      rw [List.length_map, hA.len, List.take_length] at h2
      refine ⟨D, (PC.map fun x => x.2).map fun (n : Nat) => (n : Int), rfl, SqL.of (by rw [← vi_eq]; exact h2), by rw [List.length_map, List.length_map]; exact hne, fun m0 hm0 hle0 => ?_⟩
      obtain ⟨m, hm, rfl⟩ := List.mem_map.mp hm0
      exact k H2 m s2 hm fun y hy => by
        have := hle0 (y : Int) (List.mem_map.mpr ⟨y, hy, rfl⟩)
        omega
/-- as the specification tells it: 1 and the least, or 0 alone -/
def spLeastAny (K : PySem.W.Frag) : Sp := fun vs H Q _ => ∃ (l : Addr) (rs : List Lf06.Reading) (xs : List (Lf06.Pair × Nat)), vs = [.ref l] ∧ ListAt (PairAt K rs) H l xs ∧ xs.length ≤ 4096 ∧
  ∀ (H' : Hp) (p : Addr), Same H H' → H p = none → H' p = some (.lst ((Lf06.toldCost (Lf06.least (xs.map fun x => x.2))).map V.int)) → Q (.ref p) H'
theorem ok_least_cost_if_any (T : Tx K mg) : DefOk P w K mg base 2 (He.ga K "least_cost_if_any") ["pairs"] (spLeastAny K) := by
  obtain ⟨fd1, G1, b1, kp1⟩ := ok_least_cost (P := P) (w := w) (base := base) T
  refine mkDef T.f_least_cost_if_any sc_least_cost_if_any (fun _ _ _ _ _ _ us hl => match us, hl with | [_], _ => rfl) (fun vs H Q E h => ?_) (fun cdv A outer s H vs Q E hr h => ?_)
  · obtain ⟨l, rs, xs, rfl, _⟩ := h
    rfl
  · obtain ⟨l, rs, xs, rfl, hL, hlen, k⟩ := h
    refine ⟨_, pss_cons (ps_if (pt_cmpR op_eq (pe_callB call_len_seq (by rfl) T.z_len PySem.boot_len (pa_cons (pv 0) pa_nil)) pe_int (nomark _)) (pss_one (ps_ret (pe_lst (pa_cons pe_int pa_nil)))) pss_nil)
      (pss_one (ps_ret (pe_lst (pa_cons pe_int (pa_cons (pe_call G1 hr rfl T.g_least_cost kp1 b1 .nil pass0 (pa_cons (pv 0) pa_nil)) pa_nil))))), ?_⟩
    obtain ⟨as, hl, hA⟩ := id hL
    refine ⟨_, rfl, l, _, rfl, .inl (SqL.of hl), rfl, _, rfl, ?_⟩
    rw [List.length_map, hA.len]
    refine ite2 (fun c => ?_) (fun c => ?_)
    · have e0 : xs.length = 0 := by have := V.int.inj (of_decide_eq_true c); omega
      have e1 : xs = [] := List.eq_nil_of_length_eq_zero e0
      refine ⟨(by show 1 ≤ sizeLine; decide), fun p hp => ?_⟩
      refine k _ p (same_new hp) hp ?_
      rw [upd_same, e1]
      rfl
    · have hne : 0 < xs.length := by
        cases xs with
        | nil => exact absurd (decide_eq_true rfl) c
        | cons _ _ => exact Nat.succ_pos _
      refine ⟨_, rfl, l, rs, xs, rfl, hL, hne, hlen, fun H1 m s1 hm hle => ?_⟩
      refine ⟨(by show 2 ≤ sizeLine; decide), fun p hp => ?_⟩
      refine k _ p (s1.trans (same_new hp)) (s1.free hp) ?_
      rw [upd_same, least_is hm hle]
      rfl
/-! ### those that have letters at a place -/
def Lets (i : Nat) (x : Lf06.Pair × Nat) : Prop := i < x.1.1.length ∧ i < x.1.2.length ∧ (∀ c ∈ x.1.1, c ≤ 1) ∧ ∀ c ∈ x.1.2, c ≤ 1
theorem getD_le {l : List Nat} {i : Nat} (h : ∀ c ∈ l, c ≤ 1) : l.getD i 0 ≤ 1 := by
  by_cases c : i < l.length
  · have e : l.getD i 0 = l[i] := by simp [List.getD, c]
    rw [e]
    exact h _ (List.getElem_mem c)
  · have e : l.getD i 0 = 0 := by simp [List.getD, c]
    omega
theorem vi_getD {l : List Nat} {i : Nat} (h : i < l.length) : (vi l)[i]? = some (V.int ((l.getD i 0 : Nat) : Int)) := vi_get (by simp [List.getD, h])
def spPairsWith (K : PySem.W.Frag) : Sp := fun vs H Q _ => ∃ (l : Addr) (i k : Nat) (rs : List Lf06.Reading) (xs : List (Lf06.Pair × Nat)), vs = [.ref l, .int i, .int k] ∧ ListAt (PairAt K rs) H l xs ∧ xs.length ≤ 4096 ∧ k ≤ 3 ∧ (∀ x ∈ xs, Lets i x) ∧
  ∀ (H' : Hp) (p : Addr), Same H H' → H p = none → ListAt (PairAt K rs) H' p (xs.filter fun x => Lf06.allowed k (x.1.1.getD i 0) (x.1.2.getD i 0)) → Q (.ref p) H'
theorem ok_pairs_with (T : Tx K mg) : DefOk P w K mg base 2 (He.ga K "pairs_with") ["pairs", "place", "fact"] (spPairsWith K) := by
  obtain ⟨fd1, G1, b1, kp1⟩ := ok_letters_fit (P := P) (w := w) (base := base) T
  refine mkDef T.f_pairs_with sc_pairs_with (fun _ _ _ _ _ _ us hl => match us, hl with | [_, _, _], _ => rfl) (fun vs H Q E h => ?_) (fun cdv A outer s H vs Q E hr h => ?_)
  · obtain ⟨l, i, k, rs, xs, rfl, _⟩ := h
    rfl
  · obtain ⟨l, j, f, rs, PC, rfl, ⟨as, hl, hA⟩, hlen, hf, hw, k⟩ := h
    refine ⟨_, pss_one (ps_ret (pe_lc (own := [("pair", 3)]) (g := gName 3) (tt := tB (tCall spLettersFit [] E0 (tCons (tVar 2) (tCons (tOp (rIxL K) (tFld K (tVar 3) "first") (tVar 1)) (tCons (tOp (rIxL K) (tFld K (tVar 3) "second") (tVar 1)) tNil))))) (te := tVar 3) rfl sc_pairs_with.nd (pi_list (pv 0))
          (blkOk_by (own := [("pair", 3)]) (N := nm_pairs_with) (sc := defScope s_pairs_with) (by decide +kernel)) (fun _ _ _ _ _ => pg_name (i := 3) sc_pairs_with.nd rfl (Or.inl rfl))
          (fun _ _ _ _ _ => by exact pts_one (pt_val (pe_call G1 hr rfl T.g_letters_fit kp1 b1 .nil pass0 (pa_cons (pv 2) (pa_cons (pe_ix ix_list (pe_fld (pv 3) rfl) (pv 1) (fun _ _ => rfl)) (pa_cons (pe_ix ix_list (pe_fld (pv 3) rfl) (pv 1) (fun _ _ => rfl)) pa_nil)))))) (fun _ _ _ _ _ => by exact pv 3))), ?_⟩
    refine ⟨_, rfl, l, rfl, ⟨_, SqL.of hl⟩, fun B hB => lc_list (K := K) (a := l) (xs := as.map V.ref) (fun i H' => Grow (PairAt K rs) H H' B ((PC.take i).filter fun x => Lf06.allowed f (x.1.1.getD j 0) (x.1.2.getD j 0))) (Grow.start hB) (fun i H' _ G => SqL.of (G.2.1 _ _ hl)) ?_ ?_⟩
    · rintro i y H' hi G
      obtain ⟨c, hc, rfl⟩ := get_map hi
      obtain ⟨x, hx, hP⟩ := hA.get hc
      obtain ⟨dx, a, b, lc, hp, ha, hb, _⟩ := id hP
      have s3 := G.2.1
      obtain ⟨w1, w2, w3, w4⟩ := hw x (List.mem_of_getElem? hx)
      refine ⟨rfl, _, rfl, _, rfl, c, _, dx, _, _, rfl, s3 _ _ hp, T.cl_Pair, T.n_Pair_first, rfl, _, rfl, a, _, _, _, rfl, rfl, SqL.of (s3 _ _ ha), at_of (j := j) rfl (vi_getD w1), ?_⟩
      refine ⟨_, rfl, c, _, dx, _, _, rfl, s3 _ _ hp, T.cl_Pair, T.n_Pair_second, rfl, _, rfl, b, _, _, _, rfl, rfl, SqL.of (s3 _ _ hb), at_of (j := j) rfl (vi_getD w2), ?_⟩
      refine ⟨f, x.1.1.getD j 0, x.1.2.getD j 0, rfl, hf, getD_le w3, getD_le w4, _, rfl, ?_⟩
      have et : (PC.take (i + 1)).filter (fun x => Lf06.allowed f (x.1.1.getD j 0) (x.1.2.getD j 0)) = (PC.take i).filter (fun x => Lf06.allowed f (x.1.1.getD j 0) (x.1.2.getD j 0)) ++ if Lf06.allowed f (x.1.1.getD j 0) (x.1.2.getD j 0) = true then [x] else [] := by
        rw [take_snoc hx, List.filter_append, List.filter_cons, List.filter_nil]
      refine ite2 (fun q => ?_) (fun q => ?_)
      · rw [if_pos q] at et
        obtain ⟨xs, hx1, hxl, G2⟩ := G.step mono_pair (Same.refl _) (p := c) (b := x) (hP.same (same_del s3 hB))
        refine ⟨_, rfl, _, hx1, ?_, by rw [et]; exact G2⟩
        rw [hxl]
        exact Nat.lt_of_le_of_lt (Nat.le_trans (List.length_filter_le _ _) (Nat.le_trans (List.length_take_le' _ _) hlen)) (by decide)
      · rw [if_neg q, List.append_nil] at et
        rw [et]
        exact G
    · rintro H3 G
      rw [List.length_map, hA.len, List.take_length] at G
      exact k H3 B G.2.1 hB (G.done mono_pair)
/-! ### the best pairs -/
def spBest (K : PySem.W.Frag) : Sp := fun vs H Q _ => ∃ (s : Addr) (st : Lf06.St), vs = [.ref s] ∧ SessAt K H s st ∧ Wf st ∧ ∀ (H' : Hp) (p : Addr), Same H H' → H p = none → ListAt (PairAt K (Lf06.readings st)) H' p (bestC st.known (Lf06.readings st)) → Q (.ref p) H'
theorem pairsC_len {ks : List Nat} {rs : List Lf06.Reading} (h : ks.length ≤ 6) : (pairsC ks rs).length ≤ 4096 := by
  unfold pairsC
  rw [List.length_map]
  exact pairs_len h
theorem ok_best_pairs (T : Tx K mg) : DefOk P w K mg base 4 (He.ga K "best_pairs") ["session"] (spBest K) := by
  obtain ⟨fd1, G1, b1, kp1⟩ := ok_pairs_that_may_be (P := P) (w := w) (base := base) T
  obtain ⟨fd2, G2, b2, kp2⟩ := ok_least_cost (P := P) (w := w) (base := base) T
  refine mkDef T.f_best_pairs sc_best_pairs (fun _ _ _ _ _ _ us hl => match us, hl with | [_], _ => rfl) (fun vs H Q E h => ?_) (fun cdv A outer s H vs Q E hr h => ?_)
  · obtain ⟨s, st, rfl, _⟩ := h
    rfl
  · obtain ⟨s, st, rfl, hS, W, k⟩ := h
    refine ⟨_, pss_cons (ps_set (i := 1) sc_best_pairs.nd rfl (Or.inl rfl) (pe_call G1 hr rfl T.g_pairs_that_may_be kp1 b1 .nil pass0 (pa_cons (pv 0) pa_nil)))
      (pss_cons (ps_set (i := 2) sc_best_pairs.nd rfl (Or.inr rfl) (pe_call G2 (hr.mono (by decide)) rfl T.g_least_cost kp2 b2 .nil pass0 (pa_cons (pv 1) pa_nil)))
      (pss_one (ps_ret (pe_lc (own := [("pair", 3)]) (g := gName 3) (tt := tTest (tOp rEq (tFld K (tVar 3) "cost") (tVar 2))) (te := tVar 3) rfl sc_best_pairs.nd (pi_list (pv 1))
          (blkOk_by (own := [("pair", 3)]) (N := nm_best_pairs) (sc := defScope s_best_pairs) (by decide +kernel)) (fun _ _ _ _ _ => pg_name (i := 3) sc_best_pairs.nd rfl (Or.inl rfl)) (fun _ _ _ _ _ => by exact pts_one (pt_cmpR op_eq (pe_fld (pv 3) rfl) (pv 2) (nomark _))) (fun _ _ _ _ _ => by exact pv 3))))), ?_⟩
    refine ⟨_, rfl, s, st, rfl, hS, W, fun H1 l s1 hl0 hL => ?_⟩
    have hlen := pairsC_len (rs := Lf06.readings st) W.n6
    have hne := pairsC_ne st.known (Lf06.readings st)
    refine ⟨_, rfl, l, Lf06.readings st, pairsC st.known (Lf06.readings st), rfl, hL, hne, hlen, fun H2 m s2 hm hle => ?_⟩
    obtain ⟨as, hl, hA⟩ := hL
    generalize hPC : pairsC st.known (Lf06.readings st) = PC at hA hlen hm hle
    -- return [pair for pair in pairs if pair.cost == least]
    refine ⟨_, rfl, l, rfl, ⟨_, SqL.of (s2 _ _ hl)⟩, fun B hB => lc_list (K := K) (a := l) (xs := as.map V.ref) (fun i H' => Grow (PairAt K (Lf06.readings st)) H2 H' B ((PC.take i).filter fun x => x.2 == m)) (Grow.start hB) (fun i H' _ G => SqL.of (G.2.1 _ _ (s2 _ _ hl))) ?_ ?_⟩
    · rintro i y H' hi G
      obtain ⟨c, hc, rfl⟩ := get_map hi
      obtain ⟨x, hx, hP⟩ := hA.get hc
      obtain ⟨dx, f, g, lc, hp, _⟩ := id hP
      have s3 := s2.trans G.2.1
      refine ⟨rfl, _, rfl, c, _, dx, _, _, rfl, s3 _ _ hp, T.cl_Pair, T.n_Pair_cost, rfl, _, rfl, rfl, _, rfl, ?_⟩
      have et : (PC.take (i + 1)).filter (fun x => x.2 == m) = (PC.take i).filter (fun x => x.2 == m) ++ if x.2 = m then [x] else [] := by
        rw [take_snoc hx, List.filter_append, List.filter_cons, List.filter_nil]
        by_cases q : x.2 = m <;> simp [q]
      refine ite2 (fun q => ?_) (fun q => ?_)
      · have q1 : x.2 = m := by
          rw [dec_vint] at q
          exact of_decide_eq_true q
        rw [if_pos q1] at et
        obtain ⟨xs, hx1, hxl, G2⟩ := G.step mono_pair (Same.refl _) (p := c) (b := x) (hP.same (same_del s3 (s2.free hB)))
        refine ⟨_, rfl, _, hx1, ?_, by rw [et]; exact G2⟩
        rw [hxl]
        exact Nat.lt_of_le_of_lt (Nat.le_trans (List.length_filter_le _ _) (Nat.le_trans (List.length_take_le' _ _) hlen)) (by decide)
      · have q1 : ¬ x.2 = m := fun z => by
          rw [dec_vint] at q
          exact q (decide_eq_true z)
        rw [if_neg q1, List.append_nil] at et
        rw [et]
        exact G
    · rintro H3 G
      rw [List.length_map, hA.len, List.take_length, ← hPC, bestC_is (by rw [hPC]; exact hm) (by rw [hPC]; exact hle)] at G
      have s02 := s1.trans s2
      exact k H3 B (s02.trans G.2.1) (s02.free hB) (G.done mono_pair)
end
end Ts
end
section
set_option maxRecDepth 100000
set_option maxHeartbeats 4000000
namespace Ts
open PySem PySem.Spec PyProof.Rows L2
section
variable {P : Program} {w : World} {K : PySem.W.Frag} {mg : Str → Option Value} {base : Heap}
/-! ### answers that change nothing -/
/-- a list of whole numbers, as the specification tells it -/
def OutAt (H : Hp) (p : Addr) (l : List Int) : Prop := H p = some (.lst (l.map V.int))
theorem ints_vi (l : List Nat) : (Lf06.ints l).map V.int = vi l := (vi_eq l).symm
/-- what an answer may be: a new list, all else as it was -/
def Told (H : Hp) (Q : VK) (l : List Int) : Prop := ∀ (H' : Hp) (p : Addr), Same H H' → H p = none → OutAt H' p l → Q (.ref p) H'
def spBestA (K : PySem.W.Frag) : Sp := fun vs H Q _ => ∃ (s : Addr) (st : Lf06.St), vs = [.ref s] ∧ SessAt K H s st ∧ Wf st ∧ Told H Q (Lf06.step st .best).2
theorem best_told {st : Lf06.St} {x : Lf06.Pair × Nat} (h : (bestC st.known (Lf06.readings st))[0]? = some x) :
    (Lf06.step st .best).2 = Lf06.ints (x.2 :: (bestC st.known (Lf06.readings st)).length :: x.1.1 ++ x.1.2) := by
  unfold bestC at h ⊢
  show (match Lf06.best st.known (Lf06.readings st) with
    | [] => [0]
    | p :: _ => Lf06.ints (Lf06.cost p (Lf06.readings st) :: (Lf06.best st.known (Lf06.readings st)).length :: p.1 ++ p.2)) = _
  generalize Lf06.best st.known (Lf06.readings st) = l at h ⊢
  cases l with
  | nil => simp at h
  | cons p l =>
    have e : (p, Lf06.cost p (Lf06.readings st)) = x := Option.some.inj h
    subst e
    simp
theorem bestC_w {st : Lf06.St} {x : Lf06.Pair × Nat} {i : Nat} (h : (bestC st.known (Lf06.readings st))[i]? = some x) : x.1.1.length = st.known.length ∧ x.1.2.length = st.known.length := by
  have h1 := pairs_mem (bestC_mem (List.mem_of_getElem? h)).1
  exact ⟨(strands_mem _ _ h1.1).1, (strands_mem _ _ h1.2).1⟩
theorem ok_answer_best (T : Tx K mg) : DefOk P w K mg base 5 (He.ga K "answer_best") ["session"] (spBestA K) := by
  obtain ⟨fd1, G1, b1, kp1⟩ := ok_best_pairs (P := P) (w := w) (base := base) T
  obtain ⟨fd2, G2, b2, kp2⟩ := ok_letters_of (P := P) (w := w) (base := base) T
  refine mkDef T.f_answer_best sc_answer_best (fun _ _ _ _ _ _ us hl => match us, hl with | [_], _ => rfl) (fun vs H Q E h => ?_) (fun cdv A outer s H vs Q E hr h => ?_)
  · obtain ⟨s, st, rfl, _⟩ := h
    rfl
  · obtain ⟨s, st, rfl, hS, W, k⟩ := h
    refine ⟨_, pss_cons (ps_set (i := 1) sc_answer_best.nd rfl (Or.inl rfl) (pe_call G1 hr rfl T.g_best_pairs kp1 b1 .nil pass0 (pa_cons (pv 0) pa_nil)))
      (pss_one (ps_ret (pe_op op_cat (pe_lst (pa_cons (pe_fld (pe_ix ix_list (pv 1) pe_int (fun _ _ => rfl)) rfl) (pa_cons (pe_callB call_len_seq (by rfl) T.z_len PySem.boot_len (pa_cons (pv 1) pa_nil)) pa_nil))) (pe_call G2 (hr.mono (by decide)) rfl T.g_letters_of kp2 b2 .nil pass0 (pa_cons (pe_ix ix_list (pv 1) pe_int (fun _ _ => rfl)) pa_nil))))), ?_⟩
    refine ⟨_, rfl, s, st, rfl, hS, W, fun H1 l s1 hl0 hL => ?_⟩
    obtain ⟨as, hl, hA⟩ := hL
    obtain ⟨x, hx⟩ : ∃ x, (bestC st.known (Lf06.readings st))[0]? = some x := ⟨_, List.getElem?_eq_getElem (bestC_ne _ _)⟩
    obtain ⟨c, hc, hP⟩ := hA.get2 hx
    obtain ⟨dx, f, g, lc, hp, _⟩ := id hP
    have gC : atI (as.map V.ref) 0 = some (V.ref c) := at_of (j := 0) rfl (by rw [List.getElem?_map, hc]; rfl)
    have hw := bestC_w hx
    have n6 := W.n6
    refine ⟨_, rfl, l, _, _, _, rfl, rfl, SqL.of hl, gC, c, _, dx, _, _, rfl, hp, T.cl_Pair, T.n_Pair_cost, rfl, _, rfl, l, _, rfl, .inl (SqL.of hl), (by show 2 ≤ sizeLine; decide), fun q hq => ?_⟩
    have s2 := same_new (o := .lst [V.int (x.2 : Int), V.int ((as.map V.ref).length : Int)]) hq
    refine ⟨_, rfl, l, _, _, _, rfl, rfl, SqL.of (s2 _ _ hl), gC, c, x, _, rfl, hP.same s2, by rw [hw.1, hw.2]; omega, fun H2 r s3 hr0 hI => ?_⟩
    refine ⟨q, r, _, _, rfl, rfl, s3 _ _ upd_same, hI, (by rw [vi_len, List.length_append, hw.1, hw.2]; show 2 + _ ≤ sizeLine; exact Nat.le_trans (by omega : _ ≤ 1000) (by decide)), fun p hp0 => ?_⟩
    have s12 := (s1.trans s2).trans s3
    refine k _ p (s12.trans (same_new hp0)) (s12.free hp0) ?_
    unfold OutAt
    rw [upd_same, best_told hx, ints_vi, List.length_map, hA.len]
    rfl
def spNthA (K : PySem.W.Frag) : Sp := fun vs H Q _ => ∃ (s : Addr) (i : Nat) (st : Lf06.St), vs = [.ref s, .int i] ∧ SessAt K H s st ∧ Wf st ∧ Told H Q (Lf06.step st (.nth i)).2
theorem nth_told {st : Lf06.St} {i : Nat} : (Lf06.step st (.nth i)).2 = match (bestC st.known (Lf06.readings st))[i]? with
    | none => [-3]
    | some x => Lf06.ints (x.1.1 ++ x.1.2) := by
  show (match (Lf06.best st.known (Lf06.readings st))[i]? with
    | none => [-3]
    | some p => Lf06.ints (p.1 ++ p.2)) = _
  unfold bestC
  rw [List.getElem?_map]
  cases (Lf06.best st.known (Lf06.readings st))[i]? <;> rfl
theorem ok_answer_nth (T : Tx K mg) : DefOk P w K mg base 5 (He.ga K "answer_nth") ["session", "which"] (spNthA K) := by
  obtain ⟨fd1, G1, b1, kp1⟩ := ok_best_pairs (P := P) (w := w) (base := base) T
  obtain ⟨fd2, G2, b2, kp2⟩ := ok_letters_of (P := P) (w := w) (base := base) T
  obtain ⟨t1, i1⟩ := T.i_NOT_THERE
  refine mkDef T.f_answer_nth sc_answer_nth (fun _ _ _ _ _ _ us hl => match us, hl with | [_, _], _ => rfl) (fun vs H Q E h => ?_) (fun cdv A outer s H vs Q E hr h => ?_)
  · obtain ⟨s, i, st, rfl, _⟩ := h
    rfl
  · obtain ⟨s, i, st, rfl, hS, W, k⟩ := h
    refine ⟨_, pss_cons (ps_set (i := 2) sc_answer_nth.nd rfl (Or.inl rfl) (pe_call G1 hr rfl T.g_best_pairs kp1 b1 .nil pass0 (pa_cons (pv 0) pa_nil)))
      (pss_cons (ps_if (pt_cmpR op_ge (pv 1) (pe_callB call_len_seq (by rfl) T.z_len PySem.boot_len (pa_cons (pv 2) pa_nil)) (nomark _)) (pss_one (ps_ret (pe_lst (pa_cons (pe_gi i1) pa_nil)))) pss_nil)
      (pss_one (ps_ret (pe_call G2 (hr.mono (by decide)) rfl T.g_letters_of kp2 b2 .nil pass0 (pa_cons (pe_ix ix_list (pv 2) (pv 1) (fun _ _ => rfl)) pa_nil))))), ?_⟩
    refine ⟨_, rfl, s, st, rfl, hS, W, fun H1 l s1 hl0 hL => ?_⟩
    obtain ⟨as, hl, hA⟩ := hL
    refine ⟨_, rfl, _, rfl, l, _, rfl, .inl (SqL.of hl), _, _, rfl, rfl, _, rfl, ite2 (fun c => ?_) (fun c => ?_)⟩
    · have c1 : (bestC st.known (Lf06.readings st)).length ≤ i := by
        have := of_decide_eq_true c
        rw [List.length_map, hA.len] at this
        omega
      refine ⟨(by show 1 ≤ sizeLine; decide), fun p hp => ?_⟩
      refine k _ p (s1.trans (same_new hp)) (s1.free hp) ?_
      unfold OutAt
      rw [upd_same, nth_told, List.getElem?_eq_none c1]
      rfl
    · have c1 : i < (bestC st.known (Lf06.readings st)).length := by
        have c2 : ¬ (((as.map V.ref).length : Int) ≤ (i : Int)) := fun z => c (decide_eq_true z)
        rw [List.length_map, hA.len] at c2
        omega
      obtain ⟨x, hx⟩ : ∃ x, (bestC st.known (Lf06.readings st))[i]? = some x := ⟨_, List.getElem?_eq_getElem c1⟩
      obtain ⟨c, hc, hP⟩ := hA.get2 hx
      have hw := bestC_w hx
      have n6 := W.n6
      refine ⟨_, rfl, _, rfl, l, _, _, _, rfl, rfl, SqL.of hl, at_of (j := i) (v := V.ref c) rfl (by rw [List.getElem?_map, hc]; rfl), c, x, _, rfl, hP, by rw [hw.1, hw.2]; omega, fun H2 r s3 hr0 hI => ?_⟩
      refine k _ r (s1.trans s3) (s1.free hr0) ?_
      unfold OutAt
      rw [nth_told, hx, ints_vi]
      exact hI
def spSidesA (K : PySem.W.Frag) : Sp := fun vs H Q _ => ∃ (s : Addr) (st : Lf06.St), vs = [.ref s] ∧ SessAt K H s st ∧ Wf st ∧ Told H Q (Lf06.step st .sides).2
def sideRow (p : Lf06.Pair) (x : Nat × Lf06.Reading) : List Nat := [x.1, if Lf06.off p.2 x.2 < Lf06.off p.1 x.2 then 1 else 0, Lf06.costOf p x.2]
theorem sides_told {st : Lf06.St} {x : Lf06.Pair × Nat} (h : (bestC st.known (Lf06.readings st))[0]? = some x) :
    (Lf06.step st .sides).2 = Lf06.ints (st.readings.length :: st.readings.flatMap (sideRow x.1)) := by
  unfold bestC at h
  show (match Lf06.best st.known (Lf06.readings st) with
    | [] => [0]
    | p :: _ => (st.readings.length : Int) :: Lf06.ints (st.readings.flatMap fun (x : Nat × Lf06.Reading) => [x.1, if Lf06.off p.2 x.2 < Lf06.off p.1 x.2 then 1 else 0, Lf06.costOf p x.2])) = _
  generalize Lf06.best st.known (Lf06.readings st) = l at h ⊢
  cases l with
  | nil => simp at h
  | cons p l =>
    have e : (p, Lf06.cost p (Lf06.readings st)) = x := Option.some.inj h
    subst e
    rfl
theorem side_len (p : Lf06.Pair) : ∀ l : List (Nat × Lf06.Reading), (l.flatMap (sideRow p)).length = 3 * l.length
  | [] => rfl
  | a :: l => by
    rw [List.flatMap_cons, List.length_append, side_len p l, List.length_cons]
    show 3 + _ = _
    omega
theorem ok_answer_sides (T : Tx K mg) : DefOk P w K mg base 5 (He.ga K "answer_sides") ["session"] (spSidesA K) := by
  obtain ⟨fd1, G1, b1, kp1⟩ := ok_best_pairs (P := P) (w := w) (base := base) T
  obtain ⟨fd2, G2, b2, kp2⟩ := ok_reading_cost (P := P) (w := w) (base := base) T
  refine mkDef T.f_answer_sides sc_answer_sides (fun _ _ _ _ _ _ us hl => match us, hl with | [_], _ => rfl) (fun vs H Q E h => ?_) (fun cdv A outer s H vs Q E hr h => ?_)
  · obtain ⟨s, st, rfl, _⟩ := h
    rfl
  · obtain ⟨s, st, rfl, hS, W, k⟩ := h
    have hr1 : Room 1 _ := hr.mono (by decide)
    refine ⟨_, pss_cons (ps_set (i := 1) sc_answer_sides.nd rfl (Or.inl rfl) (pe_ix ix_list (pe_call G1 hr rfl T.g_best_pairs kp1 b1 .nil pass0 (pa_cons (pv 0) pa_nil)) pe_int (fun _ _ => rfl)))
      (pss_cons (ps_set (i := 2) sc_answer_sides.nd rfl (Or.inl rfl) (pe_lst (pa_cons (pe_callB call_len_seq (by rfl) T.z_len PySem.boot_len (pa_cons (pe_fld (pv 0) rfl) pa_nil)) pa_nil)))
      (pss_cons (ps_for PassesOwn.never rfl (pi_list (pe_fld (pv 0) rfl)) (pg_name (i := 3) sc_answer_sides.nd rfl (Or.inl rfl))
        (pss_cons (ps_set (i := 4) sc_answer_sides.nd rfl (Or.inl rfl) (pe_call G2 hr1 rfl T.g_reading_cost kp2 b2 .nil pass0 (pa_cons (pv 3) (pa_cons (pe_fld (pv 1) rfl) pa_nil))))
        (pss_cons (ps_set (i := 5) sc_answer_sides.nd rfl (Or.inl rfl) (pe_call G2 hr1 rfl T.g_reading_cost kp2 b2 .nil pass0 (pa_cons (pv 3) (pa_cons (pe_fld (pv 1) rfl) pa_nil))))
        (pss_cons (ps_set (i := 6) sc_answer_sides.nd rfl (Or.inl rfl) (pe_ifExp (pt_cmpR op_lt (pv 5) (pv 4) (nomark _)) pe_int pe_int))
        (pss_one (ps_expr (pe_bm PySem.F.plainAttrs_list PySem.F.slot_list_extend PySem.F.type_list_extend mt_extend (pv 2) (pa_cons (pe_lst (pa_cons (pe_fld (pv 3) rfl) (pa_cons (pv 6) (pa_cons (pe_callB (call_min2 rfl) (by rfl) T.z_min (by decide +kernel) (pa_cons (pv 4) (pa_cons (pv 5) pa_nil))) pa_nil)))) pa_nil))))))))
      (pss_one (ps_ret (pv 2))))), ?_⟩
    obtain ⟨ds, lf, lr, hs, hf, rs, hlr, hRs⟩ := id hS
    refine ⟨_, rfl, s, st, rfl, hS, W, fun H1 l s1 hl0 hL => ?_⟩
    obtain ⟨as, hl, hA⟩ := hL
    obtain ⟨x, hx⟩ : ∃ x, (bestC st.known (Lf06.readings st))[0]? = some x := ⟨_, List.getElem?_eq_getElem (bestC_ne _ _)⟩
    obtain ⟨c, hc, dx, f, g, lc, hp, hf1, hg1, _⟩ := hA.get2 hx
    have gC : atI (as.map V.ref) 0 = some (V.ref c) := at_of (j := 0) rfl (by rw [List.getElem?_map, hc]; rfl)
    have hw := bestC_w hx
    refine ⟨l, _, _, _, rfl, rfl, SqL.of hl, gC, ?_⟩
    refine ⟨_, rfl, s, _, ds, _, _, rfl, s1 _ _ hs, T.cl_Session, T.n_Session_readings, rfl, lr, _, rfl, .inl (SqL.of (s1 _ _ hlr)), (by show 1 ≤ sizeLine; decide), fun o ho => ?_⟩
    have s2 := same_new (o := .lst [V.int ((rs.map V.ref).length : Int)]) ho
    refine ⟨_, rfl, s, _, ds, _, _, rfl, s2 _ _ (s1 _ _ hs), T.cl_Session, T.n_Session_readings, rfl, lr, rfl, ⟨_, SqL.of (s2 _ _ (s1 _ _ hlr))⟩,
      for_list (K := K) (a := lr) (xs := rs.map V.ref) (fun i σ H' => ∃ v3 v4 v5 v6, σ = [some (.ref s), some (.ref c), some (.ref o), v3, v4, v5, v6] ∧ Same H1 H' ∧ H' o = some (.lst (vi (st.readings.length :: (st.readings.take i).flatMap (sideRow x.1)))))
        ⟨none, none, none, none, rfl, s2, by rw [upd_same, List.length_map, hRs.len]; rfl⟩ (fun i σ H' _ ⟨_, _, _, _, _, sx, _⟩ => SqL.of (sx _ _ (s1 _ _ hlr))) ?_ ?_⟩
    · rintro i y σ H' hi ⟨v3, v4, v5, v6, rfl, s3, h3⟩
      obtain ⟨a, ha, rfl⟩ := get_map hi
      obtain ⟨r, hr0, hR⟩ := hRs.get ha
      have gd := W.good.2 r (List.mem_of_getElem? hr0)
      have h3R := hR.same (s1.trans s3)
      refine ⟨_, rfl, _, rfl, c, _, dx, _, _, rfl, s3 _ _ hp, T.cl_Pair, T.n_Pair_first, rfl, a, f, r, x.1.1, rfl, h3R, hf1.same s3, by rw [hw.1]; exact gd.2, gd.1, fun H4 s4 => ?_⟩
      refine ⟨_, rfl, _, rfl, c, _, dx, _, _, rfl, s4 _ _ (s3 _ _ hp), T.cl_Pair, T.n_Pair_second, rfl, a, g, r, x.1.2, rfl, h3R.same s4, hg1.same (s3.trans s4), by rw [hw.2]; exact gd.2, gd.1, fun H5 s5 => ?_⟩
      have s35 := s4.trans s5
      obtain ⟨dr, lm, har, _⟩ := h3R.same s35
      have h5 := s35 _ _ h3
      have fin : ∀ (v : Int), v = ((if Lf06.off x.1.2 r.2 < Lf06.off x.1.1 r.2 then 1 else 0 : Nat) : Int) →
          ((∃ v3 v4 v5 v6, ([some (V.ref s), some (V.ref c), some (V.ref o), some (V.ref a), some (V.int (Lf06.off x.1.1 r.2 : Nat)), some (V.int (Lf06.off x.1.2 r.2 : Nat)), some (V.int v)] : L2.St) = [some (.ref s), some (.ref c), some (.ref o), v3, v4, v5, v6]) ∧
          ∀ q, H5 q = none → Same H1 (upd (upd H5 q (.lst [V.int (r.1 : Int), V.int v, V.int (if ((Lf06.off x.1.2 r.2 : Nat) : Int) < ((Lf06.off x.1.1 r.2 : Nat) : Int) then ((Lf06.off x.1.2 r.2 : Nat) : Int) else ((Lf06.off x.1.1 r.2 : Nat) : Int))])) o (.lst (vi (st.readings.length :: (st.readings.take i).flatMap (sideRow x.1)) ++ [V.int (r.1 : Int), V.int v, V.int (if ((Lf06.off x.1.2 r.2 : Nat) : Int) < ((Lf06.off x.1.1 r.2 : Nat) : Int) then ((Lf06.off x.1.2 r.2 : Nat) : Int) else ((Lf06.off x.1.1 r.2 : Nat) : Int))]))) ∧
            vi (st.readings.length :: (st.readings.take i).flatMap (sideRow x.1)) ++ [V.int (r.1 : Int), V.int v, V.int (if ((Lf06.off x.1.2 r.2 : Nat) : Int) < ((Lf06.off x.1.1 r.2 : Nat) : Int) then ((Lf06.off x.1.2 r.2 : Nat) : Int) else ((Lf06.off x.1.1 r.2 : Nat) : Int))] = vi (st.readings.length :: (st.readings.take (i + 1)).flatMap (sideRow x.1))) := by
        intro v hv
        refine ⟨⟨_, _, _, _, rfl⟩, fun q hq => ⟨same_upd ((s3.trans s35).trans (same_new hq)) ho, ?_⟩⟩
        have e3 : (if ((Lf06.off x.1.2 r.2 : Nat) : Int) < ((Lf06.off x.1.1 r.2 : Nat) : Int) then ((Lf06.off x.1.2 r.2 : Nat) : Int) else ((Lf06.off x.1.1 r.2 : Nat) : Int)) = ((Lf06.costOf x.1 r.2 : Nat) : Int) := by
          unfold Lf06.costOf
          by_cases cc : ((Lf06.off x.1.2 r.2 : Nat) : Int) < ((Lf06.off x.1.1 r.2 : Nat) : Int)
          · rw [if_pos cc]; omega
          · rw [if_neg cc]; omega
        rw [hv, e3, take_snoc hr0, List.flatMap_append, ← List.cons_append, vi_app]
        rfl
      have hsm : (vi (st.readings.length :: (st.readings.take i).flatMap (sideRow x.1))).length ≤ 4000 := by
        rw [vi_len, List.length_cons, side_len, List.length_take]
        have := W.good.1
        omega
      refine ⟨_, rfl, _, rfl, _, _, rfl, rfl, _, rfl, ite2 (fun cc => ?_) (fun cc => ?_)⟩
      · have cN : Lf06.off x.1.2 r.2 < Lf06.off x.1.1 r.2 := by have := of_decide_eq_true cc; omega
        obtain ⟨f1, f2⟩ := fin 1 (by rw [if_pos cN]; rfl)
        refine ⟨_, rfl, .inl ⟨rfl, _, SqL.of h5⟩, _, rfl, a, _, dr, _, _, rfl, har, T.cl_Reading, T.n_Reading_number, rfl, _, rfl, _, rfl, _, rfl, _, _, rfl, (by show 3 ≤ sizeLine; decide), fun q hq => ?_⟩
        obtain ⟨g1, g2⟩ := f2 q hq
        refine ⟨o, q, _, _, rfl, rfl, (same_new hq) _ _ h5, upd_same, Nat.le_trans (Nat.add_le_add_right hsm 3) (by decide), ?_⟩
        obtain ⟨u3, u4, u5, u6, f1⟩ := f1
        exact ⟨u3, u4, u5, u6, f1, g1, by rw [upd_same, ← g2]⟩
      · have cN : ¬ Lf06.off x.1.2 r.2 < Lf06.off x.1.1 r.2 := fun z => cc (decide_eq_true (by omega))
        obtain ⟨f1, f2⟩ := fin 0 (by rw [if_neg cN]; rfl)
        refine ⟨_, rfl, .inl ⟨rfl, _, SqL.of h5⟩, _, rfl, a, _, dr, _, _, rfl, har, T.cl_Reading, T.n_Reading_number, rfl, _, rfl, _, rfl, _, rfl, _, _, rfl, (by show 3 ≤ sizeLine; decide), fun q hq => ?_⟩
        obtain ⟨g1, g2⟩ := f2 q hq
        refine ⟨o, q, _, _, rfl, rfl, (same_new hq) _ _ h5, upd_same, Nat.le_trans (Nat.add_le_add_right hsm 3) (by decide), ?_⟩
        obtain ⟨u3, u4, u5, u6, f1⟩ := f1
        exact ⟨u3, u4, u5, u6, f1, g1, by rw [upd_same, ← g2]⟩
    · rintro σ H' ⟨v3, v4, v5, v6, rfl, s3, h3⟩
      rw [List.length_map, hRs.len, List.take_length] at h3
      refine ⟨_, rfl, ?_⟩
      refine k H' o (s1.trans s3) (s1.free ho) ?_
      unfold OutAt
      rw [sides_told hx, ints_vi]
      exact h3
end
end Ts
end
section
set_option maxRecDepth 100000
set_option maxHeartbeats 2000000
namespace Ts
open PySem PySem.Spec PyProof.Rows L2
/-! ### how many numbers set(..) has -/
def met (ns : List Int) (i : Nat) : List Int := PyProof.Rows.firstMet (fun i => ns.getD i 0) i
def setLen (ns : List Int) : Nat := (met ns ns.length).length
theorem met_step (ns : List Int) (i : Nat) : met ns (i + 1) = if (met ns i).any (· == ns.getD i 0) = true then met ns i else met ns i ++ [ns.getD i 0] := by
  unfold met
  rw [PyProof.Rows.firstMet_succ]
  rfl
theorem met_len (ns : List Int) (i : Nat) : (met ns i).length ≤ i := PyProof.Rows.firstMet_length_le _ i
theorem range_take (ns : List Int) : ∀ i, i ≤ ns.length → (List.range i).map (fun i => ns.getD i 0) = ns.take i
  | 0, _ => rfl
  | i + 1, h => by
    have hi : i < ns.length := h
    rw [List.range_succ, List.map_append, range_take ns i (Nat.le_of_lt hi), take_snoc (x := ns[i]) (List.getElem?_eq_getElem hi)]
    simp [List.getD, hi]
theorem met_any (ns : List Int) (i : Nat) (h : i ≤ ns.length) (k : Int) : (met ns i).any (· == k) = (ns.take i).any (· == k) := by
  have e := PyProof.Rows.firstMet_any (fun i => ns.getD i 0) i k
  rw [range_take ns i h] at e
  exact e
theorem met_full (ns : List Int) : ∀ i, i ≤ ns.length → (met ns i).length = i → (ns.take i).Nodup
  | 0, _, _ => by simp
  | i + 1, h, e => by
    have hi : i < ns.length := h
    have e1 : ns.getD i 0 = ns[i] := by simp [List.getD, hi]
    have l0 := met_len ns i
    rw [met_step] at e
    by_cases c : (met ns i).any (· == ns.getD i 0) = true
    · rw [if_pos c] at e
      omega
    · rw [if_neg c, List.length_append] at e
      have l1 : (met ns i).length = i := by simp at e; exact e
      have ih := met_full ns i (Nat.le_of_lt hi) l1
      rw [met_any ns i (Nat.le_of_lt hi), e1] at c
      rw [take_snoc (x := ns[i]) (List.getElem?_eq_getElem hi)]
      refine List.nodup_append.mpr ⟨ih, by simp, fun a ha b hb => ?_⟩
      have hb' : b = ns[i] := by simpa using hb
      subst hb'
      intro q
      subst q
      exact c (List.any_eq_true.mpr ⟨_, ha, by simp⟩)
theorem met_nd (ns : List Int) (nd : ns.Nodup) : ∀ i, i ≤ ns.length → (met ns i).length = i
  | 0, _ => rfl
  | i + 1, h => by
    have hi : i < ns.length := h
    have e1 : ns.getD i 0 = ns[i] := by simp [List.getD, hi]
    rw [met_step, met_any ns i (Nat.le_of_lt hi), e1]
    have c : ¬ (ns.take i).any (· == ns[i]) = true := fun c => by
      obtain ⟨y, hy, ey⟩ := List.any_eq_true.mp c
      have ey2 : y = ns[i] := eq_of_beq ey
      rw [ey2] at hy
      obtain ⟨j, hj, ej⟩ := List.getElem_of_mem hy
      rw [List.getElem_take] at ej
      rw [List.length_take] at hj
      exact List.pairwise_iff_getElem.mp nd j i (by omega) hi (by omega) ej
    rw [if_neg c, List.length_append, met_nd ns nd i (Nat.le_of_lt hi)]
    rfl
theorem setLen_lt (ns : List Int) : setLen ns < ns.length ↔ ¬ ns.Nodup := by
  unfold setLen
  constructor
  · intro h nd
    rw [met_nd ns nd _ (Nat.le_refl _)] at h
    omega
  · intro nd
    have l0 := met_len ns ns.length
    by_cases c : (met ns ns.length).length = ns.length
    · have := met_full ns ns.length (Nat.le_refl _) c
      rw [List.take_length] at this
      exact absurd this nd
    · omega
/-- len(set(a)), a a list of whole numbers -/
def tSetLen (K : PySem.W.Frag) (ta : TE) : TE := fun σ H Q => ta σ H fun x H1 => ∃ (l : Addr) (ns : List Int), x = .ref l ∧ SqL K H1 l (ns.map V.int) ∧ ns.length ≤ 1000 ∧ Q (.int (setLen ns : Nat)) H1
theorem pe_setLen {X : Cx} {a : Expr} {ta : TE} {p1 p2 p3 p4 : Pos} (g1 : Gl X "len") (m1 : X.mg "len" = none) (g2 : Gl X "set") (m2 : X.mg "set" = none) (ha : PE X a ta) (hc : X.calm = true := by rfl)
    (na : starEach [a] X.env = (false, eval a X.env) :: starEach [] X.env := by rfl) : PE X (.Call (.Name "len" p1) [.Call (.Name "set" p2) [a] [] p3] [] p4) (tSetLen X.K ta) := by
  constructor
  intro pins s σ H Q I h
  refine Call_ (ld_blt I g1 m1 PySem.boot_len (PyProof.Rows.callWith_builtin1 (PyProof.Rows.args_cons (Call_ (ld_blt I g2 m2 boot_set ?_)) rfl) rfl rfl))
  refine PyProof.Rows.callWith_type1 (PyProof.Rows.args_cons (thn (ha.run pins s σ H _ I h) ?_) na) na rfl
  rintro v s1 ⟨x, H1, I1, r1, l, ns, rfl, hq, hl, q1⟩
  refine PyProof.Rows.args_nil ?_
  cases r1
  obtain ⟨us, r, pl, hz⟩ := I1.list hq
  have en : us.toArray.size = ns.length := by rw [List.size_toArray, ← r.length, List.length_map]
  refine PySem.call_set_list (I1.ok.hd hc) pl.isList (by simpa using RZ.intsAre_vals r) (by rw [en]; unfold scanBound; omega) ?_
  intro h' tk hS hk
  refine PyProof.Rows.args_nil ?_
  rw [en] at hS
  obtain ⟨o, es, ep, t, ho, hex, hd, _, _, _, hf, hn⟩ := hS
  have I2 : Inv X pins σ H1 { s1 with heap := h', toks := tk } := I1.kept fun b o e => hk b o (Heap.lt_size e) e
  have hm : es.size = setLen ns := hn
  have hm2 : setLen ns ≤ ns.length := met_len ns ns.length
  exact call_len_set ho hex hd hf (by rw [hm]; omega) ⟨.int (setLen ns : Nat), H1, I2.tok _, ⟨_, by rw [hm]⟩, q1⟩
end Ts
end
section
namespace Ts
open Lf06
def flatM (ms : List Lf06.Mark) : List Nat := ms.flatMap fun m => [m.place, m.letter, m.price]
abbrev zs (l : List Nat) : List Int := l.map fun (n : Nat) => (n : Int)
/-- at i stands the call x; it ends ahead of j -/
def CallAt (ns : List Int) (i : Nat) (x : Lf06.Call) (j : Nat) : Prop := match x with
  | .start n => ns[i]? = some 0 ∧ ns[i + 1]? = some (n : Int) ∧ j = i + 2
  | .known p k => ns[i]? = some 1 ∧ ns[i + 1]? = some (p : Int) ∧ ns[i + 2]? = some (k : Int) ∧ j = i + 3
  | .read ms => ns[i]? = some 2 ∧ ∃ m : Nat, ns[i + 1]? = some (m : Int) ∧ i + 2 + m ≤ ns.length ∧ (ns.drop (i + 2)).take m = zs (flatM ms) ∧ ms.length ≤ 12 ∧ j = i + 2 + m
  | .drop r => ns[i]? = some 3 ∧ ns[i + 1]? = some (r : Int) ∧ j = i + 2
  | .best => ns[i]? = some 4 ∧ j = i + 1
  | .nth k => ns[i]? = some 5 ∧ ns[i + 1]? = some (k : Int) ∧ j = i + 2
  | .sides => ns[i]? = some 6 ∧ j = i + 1
  | .tie p q => ns[i]? = some 7 ∧ ns[i + 1]? = some (p : Int) ∧ ns[i + 2]? = some (q : Int) ∧ j = i + 3
  | .placed p => ns[i]? = some 8 ∧ ns[i + 1]? = some (p : Int) ∧ j = i + 2
  | .blocks => ns[i]? = some 9 ∧ j = i + 1
  | .thrown => ns[i]? = some 10 ∧ j = i + 1
  | .cost a b => ns[i]? = some 11 ∧ ns[i + 1]? = some (a.length : Int) ∧ i + 2 + a.length ≤ ns.length ∧ (ns.drop (i + 2)).take a.length = zs a ∧ a.length ≤ 10 ∧
      ns[i + 2 + a.length]? = some (b.length : Int) ∧ i + 3 + a.length + b.length ≤ ns.length ∧ (ns.drop (i + 3 + a.length)).take b.length = zs b ∧ b.length ≤ 10 ∧ j = i + 3 + a.length + b.length
  | .shows => ns[i]? = some 12 ∧ j = i + 1
theorem marksOf_flat : ∀ (l : List Nat) (ms : List Mark), Lf06Neutral.marksOf l = some ms → l = flatM ms
  | [], ms, h => by
    have e : ms = [] := by simpa [Lf06Neutral.marksOf] using h.symm
    subst e
    rfl
  | [_], ms, h => by simp [Lf06Neutral.marksOf] at h
  | [_, _], ms, h => by simp [Lf06Neutral.marksOf] at h
  | p :: a :: c :: l, ms, h => by
    rw [Lf06Neutral.marksOf] at h
    obtain ⟨r, hr, e⟩ := Option.map_eq_some_iff.mp h
    have ih := marksOf_flat l r hr
    subst e
    rw [ih]
    rfl
theorem flatM_len : ∀ ms : List Lf06.Mark, (flatM ms).length = 3 * ms.length
  | [] => rfl
  | m :: ms => by
    have ih := flatM_len ms
    show (flatM ms).length + 1 + 1 + 1 = 3 * (ms.length + 1)
    omega
theorem toNat_zs {l : List Int} (h : ∀ x ∈ l, 0 ≤ x) : zs (l.map Int.toNat) = l := by
  show (l.map Int.toNat).map (fun (n : Nat) => (n : Int)) = l
  rw [List.map_map]
  have e : ∀ x ∈ l, ((fun (n : Nat) => (n : Int)) ∘ Int.toNat) x = id x := fun x hx => by
    have := h x hx
    show ((x.toNat : Nat) : Int) = x
    omega
  rw [List.map_congr_left e, List.map_id]
theorem at_drop {ns : List Int} {i : Nat} {p : Int} {r : List Int} (h : ns.drop i = p :: r) (k : Nat) : ns[i + k]? = (p :: r)[k]? := by rw [← List.getElem?_drop, h]
theorem drop_more {ns : List Int} {i : Nat} {p : Int} {r : List Int} (h : ns.drop i = p :: r) (k : Nat) : ns.drop (i + (k + 1)) = r.drop k := by rw [← List.drop_drop, h]; rfl
theorem len_drop {ns : List Int} {i : Nat} {p : Int} {r : List Int} (h : ns.drop i = p :: r) : ns.length = i + 1 + r.length := by
  have e := congrArg List.length h
  rw [List.length_drop, List.length_cons] at e
  omega
theorem nat_of {x : Int} (h : PyInside.within 0 4294967295 x = true) : Lf06Neutral.nat x = true ∧ 0 ≤ x := by
  unfold PyInside.within at h
  obtain ⟨h1, h2⟩ := Bool.and_eq_true_iff.mp h
  have h1 := of_decide_eq_true h1
  have h2 := of_decide_eq_true h2
  refine ⟨?_, h1⟩
  unfold Lf06Neutral.nat
  rw [decide_eq_true h1, decide_eq_true (by omega : x < 2 ^ 32)]
  rfl
theorem nats_of {l : List Int} (h : l.all (PyInside.within 0 4294967295) = true) : Lf06Neutral.nats l = true ∧ ∀ x ∈ l, 0 ≤ x := by
  have h2 := List.all_eq_true.mp h
  exact ⟨List.all_eq_true.mpr fun x hx => (nat_of (h2 x hx)).1, fun x hx => (nat_of (h2 x hx)).2⟩
theorem row_of {r x s : List Int} (h : PyFlat.row r = some (x, s)) : ∃ (n : Nat) (r' : List Int), r = (n : Int) :: r' ∧ n ≤ r'.length ∧ x = r'.take n ∧ s = r'.drop n := by
  cases r with
  | nil => cases h
  | cons n r' =>
    have e0 : PyFlat.row (n :: r') = if 0 ≤ n ∧ n.toNat ≤ r'.length then some (r'.take n.toNat, r'.drop n.toNat) else none := rfl
    rw [e0] at h
    by_cases c : 0 ≤ n ∧ n.toNat ≤ r'.length
    · rw [if_pos c] at h
      have e := Option.some.inj h
      refine ⟨n.toNat, r', by rw [Int.toNat_of_nonneg c.1], c.2, (Prod.mk.inj e).1.symm, (Prod.mk.inj e).2.symm⟩
    · rw [if_neg c] at h
      cases h
theorem call_shape {p : Int} {r : List Int} {n k : Nat} (hs : PyLf06.shape p = some (n, k)) : PyFlat.call PyLf06.shape (p :: r) = if r.length < n then none else match PyFlat.rows k (r.drop n) with
    | none => none
    | some (xs, t) => some ((p :: r.take n) :: xs, t) := by
  show (match PyLf06.shape p with
    | none => none
    | some (n, k) => if r.length < n then none else match PyFlat.rows k (r.drop n) with
      | none => none
      | some (xs, t) => some ((p :: r.take n) :: xs, t)) = _
  rw [hs]
def Parsed (ns : List Int) (i : Nat) (c : List (List Int)) (t : List Int) : Prop :=
  ∃ x j, Lf06Neutral.callOf ((PyLf06.whole c).headD []) = some x ∧ CallAt ns i x j ∧ ns.drop j = t ∧ i < j ∧ j ≤ ns.length
section
variable {ns r : List Int} {i : Nat} {c : List (List Int)} {t : List Int}
/-- a call of a number and one more -/
theorem one_of {p : Int} (e : ns.drop i = p :: r) (hs : PyLf06.shape p = some (1, 0)) (h : PyFlat.call PyLf06.shape (p :: r) = some (c, t)) :
    ∃ x r', r = x :: r' ∧ c = [[p, x]] ∧ t = r' := by
  rw [call_shape hs] at h
  cases r with
  | nil => cases h
  | cons x r' =>
    have h2 : some ([[p, x]], r') = some (c, t) := h
    have e2 := Option.some.inj h2
    exact ⟨x, r', rfl, (Prod.mk.inj e2).1.symm, (Prod.mk.inj e2).2.symm⟩
theorem none_of {p : Int} (hs : PyLf06.shape p = some (0, 0)) (h : PyFlat.call PyLf06.shape (p :: r) = some (c, t)) : c = [[p]] ∧ t = r := by
  rw [call_shape hs] at h
  have h2 : some ([[p]], r) = some (c, t) := h
  have e2 := Option.some.inj h2
  exact ⟨(Prod.mk.inj e2).1.symm, (Prod.mk.inj e2).2.symm⟩
theorem two_of {p : Int} (hs : PyLf06.shape p = some (2, 0)) (h : PyFlat.call PyLf06.shape (p :: r) = some (c, t)) :
    ∃ x y r', r = x :: y :: r' ∧ c = [[p, x, y]] ∧ t = r' := by
  rw [call_shape hs] at h
  match r, h with
  | [], h => cases h
  | [_], h => cases h
  | x :: y :: r', h =>
    have h2 : some ([[p, x, y]], r') = some (c, t) := h
    have e2 := Option.some.inj h2
    exact ⟨x, y, r', rfl, (Prod.mk.inj e2).1.symm, (Prod.mk.inj e2).2.symm⟩
theorem row1_of {p : Int} (hs : PyLf06.shape p = some (0, 1)) (h : PyFlat.call PyLf06.shape (p :: r) = some (c, t)) :
    ∃ (n : Nat) (r' : List Int), r = (n : Int) :: r' ∧ n ≤ r'.length ∧ c = [[p], r'.take n] ∧ t = r'.drop n := by
  rw [call_shape hs] at h
  have h1 : (match PyFlat.rows 1 r with
    | none => none
    | some (xs, t) => some ([p] :: xs, t)) = some (c, t) := h
  have h2 : PyFlat.rows 1 r = match PyFlat.row r with
    | none => none
    | some (x, s) => some ([x], s) := rfl
  rw [h2] at h1
  cases q : PyFlat.row r with
  | none =>
    rw [q] at h1
    cases h1
  | some xs =>
    obtain ⟨x, s⟩ := xs
    rw [q] at h1
    obtain ⟨n, r', e1, e2, e3, e4⟩ := row_of q
    have h3 : some ([[p], x], s) = some (c, t) := h1
    have e := Option.some.inj h3
    exact ⟨n, r', e1, e2, by rw [← e3]; exact (Prod.mk.inj e).1.symm, by rw [← e4]; exact (Prod.mk.inj e).2.symm⟩
theorem row2_of {p : Int} (hs : PyLf06.shape p = some (0, 2)) (h : PyFlat.call PyLf06.shape (p :: r) = some (c, t)) :
    ∃ (n m : Nat) (r' r2 : List Int), r = (n : Int) :: r' ∧ n ≤ r'.length ∧ r'.drop n = (m : Int) :: r2 ∧ m ≤ r2.length ∧ c = [[p], r'.take n, r2.take m] ∧ t = r2.drop m := by
  rw [call_shape hs] at h
  have h1 : (match PyFlat.rows 2 r with
    | none => none
    | some (xs, t) => some ([p] :: xs, t)) = some (c, t) := h
  have h2 : PyFlat.rows 2 r = match PyFlat.row r with
    | none => none
    | some (x, s) => match PyFlat.row s with
      | none => none
      | some (y, u) => some ([x, y], u) := by
    show (match PyFlat.row r with
      | none => none
      | some (x, s) => match PyFlat.rows 1 s with
        | none => none
        | some (xs, t) => some (x :: xs, t)) = _
    cases PyFlat.row r with
    | none => rfl
    | some xs =>
      obtain ⟨x, s⟩ := xs
      show (match (match PyFlat.row s with
        | none => none
        | some (y, u) => some ([y], u)) with
        | none => none
        | some (xs, t) => some (x :: xs, t)) = match PyFlat.row s with
        | none => none
        | some (y, u) => some ([x, y], u)
      cases PyFlat.row s with
      | none => rfl
      | some ys => rfl
  rw [h2] at h1
  cases q : PyFlat.row r with
  | none =>
    rw [q] at h1
    cases h1
  | some xs =>
    obtain ⟨x, s⟩ := xs
    rw [q] at h1
    obtain ⟨n, r', e1, e2, e3, e4⟩ := row_of q
    have h1' : (match (match PyFlat.row s with
      | none => none
      | some (y, u) => some ([x, y], u)) with
      | none => none
      | some (xs, t) => some ([p] :: xs, t)) = some (c, t) := h1
    cases q2 : PyFlat.row s with
    | none =>
      rw [q2] at h1'
      cases h1'
    | some ys =>
      obtain ⟨y, u⟩ := ys
      rw [q2] at h1'
      obtain ⟨m, r2, f1, f2, f3, f4⟩ := row_of q2
      have h3 : some ([[p], x, y], u) = some (c, t) := h1'
      have e := Option.some.inj h3
      exact ⟨n, m, r', r2, e1, e2, by rw [← e4]; exact f1, f2, by rw [← e3, ← f3]; exact (Prod.mk.inj e).1.symm, by rw [← f4]; exact (Prod.mk.inj e).2.symm⟩
theorem w1 {p x : Int} {b : Int × Int} (hb : PyInside.call PyLf06.bound [[p, x]] = true) (hp : PyLf06.bound p = ([b], [])) : PyInside.within b.1 b.2 x = true := by
  have h0 : (PyInside.each (PyLf06.bound p).1 [x] && PyInside.lists (PyLf06.bound p).2 []) = true := hb
  rw [hp] at h0
  have h : (PyInside.within b.1 b.2 x && true && true) = true := h0
  simpa using h
theorem w2 {p x y : Int} {b d : Int × Int} (hb : PyInside.call PyLf06.bound [[p, x, y]] = true) (hp : PyLf06.bound p = ([b, d], [])) : PyInside.within b.1 b.2 x = true ∧ PyInside.within d.1 d.2 y = true := by
  have h0 : (PyInside.each (PyLf06.bound p).1 [x, y] && PyInside.lists (PyLf06.bound p).2 []) = true := hb
  rw [hp] at h0
  have h : ((PyInside.within b.1 b.2 x && (PyInside.within d.1 d.2 y && true)) && true) = true := h0
  simpa using h
theorem parsed (h : PyFlat.call PyLf06.shape (ns.drop i) = some (c, t)) (hb : PyInside.call PyLf06.bound c = true) (ha : Lf06Neutral.asked1 ((PyLf06.whole c).headD []) = true) : Parsed ns i c t := by
  cases e : ns.drop i with
  | nil =>
    rw [e] at h
    cases h
  | cons p r =>
    rw [e] at h
    have L := len_drop e
    have a0 : ns[i]? = some p := at_drop e 0
    by_cases p0 : p = 0
    · subst p0
      obtain ⟨x, r', rfl, rfl, rfl⟩ := one_of e rfl h
      obtain ⟨n1, n2⟩ := nat_of (w1 hb rfl)
      refine ⟨.start x.toNat, i + 2, if_pos n1, ⟨a0, ?_, rfl⟩, drop_more e 1, by omega, by rw [List.length_cons] at L; omega⟩
      rw [at_drop e 1, Int.toNat_of_nonneg n2]; rfl
    by_cases p1 : p = 1
    · subst p1
      obtain ⟨x, y, r', rfl, rfl, rfl⟩ := two_of rfl h
      obtain ⟨h1, h2⟩ := w2 hb rfl
      obtain ⟨n1, n2⟩ := nat_of h1
      obtain ⟨m1, m2⟩ := nat_of h2
      refine ⟨.known x.toNat y.toNat, i + 3, if_pos (by show (Lf06Neutral.nat x && (Lf06Neutral.nat y && true)) = true; rw [n1, m1]; rfl), ⟨a0, ?_, ?_, rfl⟩, drop_more e 2, by omega, by rw [List.length_cons, List.length_cons] at L; omega⟩
      · rw [at_drop e 1, Int.toNat_of_nonneg n2]; rfl
      · rw [at_drop e 2, Int.toNat_of_nonneg m2]; rfl
    by_cases p2 : p = 2
    · subst p2
      obtain ⟨n, r', rfl, hn, rfl, rfl⟩ := row1_of rfl h
      have hb2 : (true && ((decide (0 ≤ (r'.take n).length) && decide ((r'.take n).length ≤ 36)) && (r'.take n).all (PyInside.within 0 4294967295) && true)) = true := hb
      have hb3 : (r'.take n).length ≤ 36 ∧ (r'.take n).all (PyInside.within 0 4294967295) = true := by
        simp only [Bool.and_eq_true, decide_eq_true_eq, Bool.and_true, Bool.true_and] at hb2
        exact ⟨hb2.1.2, hb2.2⟩
      obtain ⟨n1, n2⟩ := nats_of hb3.2
      have ec : Lf06Neutral.callOf ((PyLf06.whole [[2], r'.take n]).headD []) = (Lf06Neutral.marksOf ((r'.take n).map Int.toNat)).map .read := by
        show Lf06Neutral.callOf (2 :: r'.take n) = _
        simp only [Lf06Neutral.callOf]
        rw [if_pos n1]
      unfold Lf06Neutral.asked1 at ha
      rw [ec] at ha
      cases em : Lf06Neutral.marksOf ((r'.take n).map Int.toNat) with
      | none =>
        rw [em] at ha
        cases ha
      | some ms =>
        have ef := marksOf_flat _ _ em
        have el : (r'.take n).length = n := by rw [List.length_take]; omega
        have e3 := congrArg List.length ef
        rw [List.length_map, el, flatM_len] at e3
        rw [List.length_cons] at L
        refine ⟨.read ms, i + 2 + n, by rw [ec, em]; rfl, ⟨a0, n, at_drop e 1, by omega, ?_, by omega, rfl⟩, ?_, by omega, by omega⟩
        · rw [drop_more e 1]
          show r'.take n = zs (flatM ms)
          rw [← ef, toNat_zs n2]
        · have := drop_more e (1 + n)
          rw [show i + 2 + n = i + (1 + n + 1) by omega, this, show 1 + n = n + 1 by omega]
          rfl
    by_cases p3 : p = 3
    · subst p3
      obtain ⟨x, r', rfl, rfl, rfl⟩ := one_of e rfl h
      obtain ⟨n1, n2⟩ := nat_of (w1 hb rfl)
      refine ⟨.drop x.toNat, i + 2, if_pos n1, ⟨a0, ?_, rfl⟩, drop_more e 1, by omega, by rw [List.length_cons] at L; omega⟩
      rw [at_drop e 1, Int.toNat_of_nonneg n2]; rfl
    by_cases p4 : p = 4
    · subst p4
      obtain ⟨rfl, rfl⟩ := none_of rfl h
      exact ⟨.best, i + 1, rfl, ⟨a0, rfl⟩, drop_more e 0, by omega, by omega⟩
    by_cases p5 : p = 5
    · subst p5
      obtain ⟨x, r', rfl, rfl, rfl⟩ := one_of e rfl h
      obtain ⟨n1, n2⟩ := nat_of (w1 hb rfl)
      refine ⟨.nth x.toNat, i + 2, if_pos n1, ⟨a0, ?_, rfl⟩, drop_more e 1, by omega, by rw [List.length_cons] at L; omega⟩
      rw [at_drop e 1, Int.toNat_of_nonneg n2]; rfl
    by_cases p6 : p = 6
    · subst p6
      obtain ⟨rfl, rfl⟩ := none_of rfl h
      exact ⟨.sides, i + 1, rfl, ⟨a0, rfl⟩, drop_more e 0, by omega, by omega⟩
    by_cases p7 : p = 7
    · subst p7
      obtain ⟨x, y, r', rfl, rfl, rfl⟩ := two_of rfl h
      obtain ⟨h1, h2⟩ := w2 hb rfl
      obtain ⟨n1, n2⟩ := nat_of h1
      obtain ⟨m1, m2⟩ := nat_of h2
      refine ⟨.tie x.toNat y.toNat, i + 3, if_pos (by show (Lf06Neutral.nat x && (Lf06Neutral.nat y && true)) = true; rw [n1, m1]; rfl), ⟨a0, ?_, ?_, rfl⟩, drop_more e 2, by omega, by rw [List.length_cons, List.length_cons] at L; omega⟩
      · rw [at_drop e 1, Int.toNat_of_nonneg n2]; rfl
      · rw [at_drop e 2, Int.toNat_of_nonneg m2]; rfl
    by_cases p8 : p = 8
    · subst p8
      obtain ⟨x, r', rfl, rfl, rfl⟩ := one_of e rfl h
      obtain ⟨n1, n2⟩ := nat_of (w1 hb rfl)
      refine ⟨.placed x.toNat, i + 2, if_pos n1, ⟨a0, ?_, rfl⟩, drop_more e 1, by omega, by rw [List.length_cons] at L; omega⟩
      rw [at_drop e 1, Int.toNat_of_nonneg n2]; rfl
    by_cases p9 : p = 9
    · subst p9
      obtain ⟨rfl, rfl⟩ := none_of rfl h
      exact ⟨.blocks, i + 1, rfl, ⟨a0, rfl⟩, drop_more e 0, by omega, by omega⟩
    by_cases p10 : p = 10
    · subst p10
      obtain ⟨rfl, rfl⟩ := none_of rfl h
      exact ⟨.thrown, i + 1, rfl, ⟨a0, rfl⟩, drop_more e 0, by omega, by omega⟩
    by_cases p11 : p = 11
    · subst p11
      obtain ⟨n, m, r', r2, rfl, hn, e2, hm, rfl, rfl⟩ := row2_of rfl h
      have hb2 : (true && ((decide (0 ≤ (r'.take n).length) && decide ((r'.take n).length ≤ 10)) && (r'.take n).all (PyInside.within 0 4294967295) && ((decide (0 ≤ (r2.take m).length) && decide ((r2.take m).length ≤ 10)) && (r2.take m).all (PyInside.within 0 4294967295) && true))) = true := hb
      simp only [Bool.and_eq_true, decide_eq_true_eq, Bool.and_true, Bool.true_and] at hb2
      obtain ⟨⟨⟨_, b1⟩, b2⟩, ⟨_, b3⟩, b4⟩ := hb2
      obtain ⟨n1, n2⟩ := nats_of b2
      obtain ⟨m1, m2⟩ := nats_of b4
      have la : (r'.take n).length = n := by rw [List.length_take]; omega
      have lb : (r2.take m).length = m := by rw [List.length_take]; omega
      have lr : r'.length = n + 1 + r2.length := by
        have := congrArg List.length e2
        rw [List.length_drop, List.length_cons] at this
        omega
      have ec : Lf06Neutral.callOf ((PyLf06.whole [[11], r'.take n, r2.take m]).headD []) = some (.cost ((r'.take n).map Int.toNat) ((r2.take m).map Int.toNat)) := by
        show Lf06Neutral.callOf (([11] ++ [((r'.take n).length : Int)]) ++ r'.take n ++ r2.take m) = _
        have e3 : ([11] ++ [((r'.take n).length : Int)]) ++ r'.take n ++ r2.take m = 11 :: ((r'.take n).length : Int) :: (r'.take n ++ r2.take m) := by simp
        rw [e3]
        simp only [Lf06Neutral.callOf]
        have q1 : Lf06Neutral.nat ((r'.take n).length : Int) = true := by
          unfold Lf06Neutral.nat
          rw [decide_eq_true (by omega : (0 : Int) ≤ ((r'.take n).length : Int)), decide_eq_true (by omega : ((r'.take n).length : Int) < 2 ^ 32)]
          rfl
        have q2 : Lf06Neutral.nats (r'.take n ++ r2.take m) = true := by
          unfold Lf06Neutral.nats at n1 m1 ⊢
          rw [List.all_append, n1, m1]
          rfl
        rw [if_pos ⟨q1, q2, by rw [Int.toNat_natCast, List.length_append]; omega⟩, Int.toNat_natCast, List.take_left, List.drop_left]
      rw [List.length_cons] at L
      have za : ((r'.take n).map Int.toNat).length = n := by rw [List.length_map, la]
      have zb : ((r2.take m).map Int.toNat).length = m := by rw [List.length_map, lb]
      have dd : ns.drop (i + 2 + n) = (m : Int) :: r2 := by
        have := drop_more e (1 + n)
        rw [show i + 2 + n = i + (1 + n + 1) by omega, this, show 1 + n = n + 1 by omega]
        exact e2
      refine ⟨_, i + 3 + n + m, ec, ?_, ?_, by omega, by omega⟩
      · simp only [CallAt]
        rw [za, zb]
        refine ⟨a0, at_drop e 1, by omega, ?_, by omega, ?_, by omega, ?_, by omega, rfl⟩
        · rw [drop_more e 1, toNat_zs n2]
          rfl
        · have := at_drop dd 0
          exact this
        · have := drop_more dd 0
          rw [show i + 3 + n = i + 2 + n + (0 + 1) by omega, this, toNat_zs m2]
          rfl
      · have := drop_more dd m
        rw [show i + 3 + n + m = i + 2 + n + (m + 1) by omega, this]
    by_cases p12 : p = 12
    · subst p12
      obtain ⟨rfl, rfl⟩ := none_of rfl h
      exact ⟨.shows, i + 1, rfl, ⟨a0, rfl⟩, drop_more e 0, by omega, by omega⟩
    · exfalso
      have hs : PyLf06.shape p = none := by
        unfold PyLf06.shape
        rw [if_neg p0, if_neg p1, if_neg p2, if_neg p3, if_neg p4, if_neg p5, if_neg p6, if_neg p7, if_neg p8, if_neg p9, if_neg p10, if_neg p11, if_neg p12]
      have h2 : (match PyLf06.shape p with
        | none => none
        | some (n, k) => if r.length < n then none else match PyFlat.rows k (r.drop n) with
          | none => none
          | some (xs, t) => some ((p :: r.take n) :: xs, t)) = some (c, t) := h
      rw [hs] at h2
      cases h2
end
end Ts
end
section
set_option maxRecDepth 100000
set_option maxHeartbeats 4000000
namespace Ts
open PySem PySem.Spec PyProof.Rows L2
section
variable {P : Program} {w : World} {K : PySem.W.Frag} {mg : Str → Option Value} {base : Heap}
/-! ### what is new -/
def fresh (H H' : Hp) : Hp := fun b => match H b with
  | none => H' b
  | some _ => none
theorem fresh_new {H H' : Hp} {b : Addr} (h : H b = none) : fresh H H' b = H' b := by
  unfold fresh
  rw [h]
theorem fresh_old {H H' : Hp} {b : Addr} {o : HO} (h : H b = some o) : fresh H H' b = none := by
  unfold fresh
  rw [h]
theorem fresh_some {H H' : Hp} {b : Addr} {o : HO} (h : fresh H H' b = some o) : H b = none ∧ H' b = some o := by
  cases e : H b with
  | none =>
    rw [fresh_new e] at h
    exact ⟨rfl, h⟩
  | some u =>
    rw [fresh_old e] at h
    cases h
theorem fresh_same {H H' H2 : Hp} (s : Same H' H2) : Same (fresh H H') (fresh H H2) := fun b o e => by
  obtain ⟨e1, e2⟩ := fresh_some e
  rw [fresh_new e1]
  exact s _ _ e2
theorem fresh_sub {H H' : Hp} : Same (fresh H H') H' := fun b o e => (fresh_some e).2
/-! ### marks from numbers -/
theorem flat_len (ms : List Lf06.Mark) : (flatM ms).length = 3 * ms.length := flatM_len ms
theorem flat_at : ∀ {ms : List Lf06.Mark} {i : Nat} {m : Lf06.Mark}, ms[i]? = some m → (flatM ms)[3 * i]? = some m.place ∧ (flatM ms)[3 * i + 1]? = some m.letter ∧ (flatM ms)[3 * i + 2]? = some m.price
  | [], i, m, h => by simp at h
  | x :: ms, 0, m, h => by
    have e : x = m := Option.some.inj h
    subst e
    exact ⟨rfl, rfl, rfl⟩
  | x :: ms, i + 1, m, h => by
    obtain ⟨h1, h2, h3⟩ := flat_at (ms := ms) (i := i) (m := m) h
    have e1 : 3 * (i + 1) = 3 * i + 1 + 1 + 1 := by omega
    rw [e1]
    exact ⟨h1, h2, h3⟩
theorem rg3 (m : Nat) (h : m ≤ 1000) : RgC 0 ((3 * m : Nat) : Int) 3 m := by
  have e : Builtin.Range.rangeSize 0 ((3 * m : Nat) : Int) 3 = (m : Int) := by
    unfold Builtin.Range.rangeSize
    rw [if_pos (by decide : (3 : Int) > 0)]
    split <;> omega
  refine ⟨by decide, by decide, ?_, e⟩
  unfold Builtin.Range.small
  rw [e]
  have fit : ∀ z : Int, 0 ≤ z → z ≤ 100000 → Builtin.Range.rangeFitsLong z = true := fun z h1 h2 => by
    unfold Builtin.Range.rangeFitsLong
    rw [decide_eq_true (by omega : -(2 ^ 63) ≤ z), decide_eq_true (by omega : z < 2 ^ 63)]
    rfl
  rw [if_pos (by decide : (3 : Int) > 0), fit 0 (by omega) (by omega), fit ((3 * m : Nat) : Int) (by omega) (by omega), fit 3 (by omega) (by omega), fit (m : Int) (by omega) (by omega), fit (((3 * m : Nat) : Int) + (3 - 1)) (by omega) (by omega)]
  rw [Bool.or_true]
  rfl
def spMarksOf (K : PySem.W.Frag) : Sp := fun vs H Q _ => ∃ (a : Addr) (ms : List Lf06.Mark), vs = [.ref a] ∧ IntsAt H a (flatM ms) ∧ ms.length ≤ 1000 ∧ ∀ (H' : Hp) (p : Addr), Same H H' → ListAt (MarkAt K) (fresh H H') p ms → Q (.ref p) H'
theorem ok_marks_of (T : Tx K mg) : DefOk P w K mg base 3 (He.ga K "marks_of") ["numbers"] (spMarksOf K) := by
  obtain ⟨fd1, G1, b1, kp1⟩ := ok_Mark_init (P := P) (w := w) (base := base) T
  obtain ⟨t1, i1⟩ := T.i_NUMBERS_IN_A_MARK
  refine mkDef T.f_marks_of sc_marks_of (fun _ _ _ _ _ _ us hl => match us, hl with | [_], _ => rfl) (fun vs H Q E h => ?_) (fun cdv A outer s H vs Q E hr h => ?_)
  · obtain ⟨a, ms, rfl, _⟩ := h
    rfl
  · obtain ⟨a, ms, rfl, ha, hl, k⟩ := h
    refine ⟨_, pss_one (ps_ret (pe_lc (own := [("k", 1)]) (g := gName 1) (tt := tYes)
      (te := tMake (He.ga K "Mark") (spMarkInit K) [] E0 (tCons (tOp (rIxL K) (tVar 0) (tVar 1)) (tCons (tOp (rIxL K) (tVar 0) (tOp (rI0 fun i j => .int (i + j)) (tVar 1) (tC (.int 1)))) (tCons (tOp (rIxL K) (tVar 0) (tOp (rI0 fun i j => .int (i + j)) (tVar 1) (tC (.int 2)))) tNil))))
      rfl sc_marks_of.nd (pi_range3 rfl T.z_range (pa_cons pe_int (pa_cons (pe_callB call_len_seq (by rfl) T.z_len PySem.boot_len (pa_cons (pv 0) pa_nil)) (pa_cons (pe_gi i1) pa_nil))))
      (blkOk_by (own := [("k", 1)]) (N := nm_marks_of) (sc := defScope s_marks_of) (by decide +kernel)) (fun _ _ _ _ _ => pg_name (i := 1) sc_marks_of.nd rfl (Or.inl rfl)) (fun _ _ _ _ _ => pts_nil)
      (fun _ _ _ _ _ => by exact pe_make T.mk_Mark G1 hr rfl T.g_Mark b1 .nil pass0 (pa_cons (pe_ix ix_list (pv 0) (pv 1) (fun _ _ => rfl)) (pa_cons (pe_ix ix_list (pv 0) (pe_op op_add (pv 1) pe_int) (fun _ _ => rfl)) (pa_cons (pe_ix ix_list (pv 0) (pe_op op_add (pv 1) pe_int) (fun _ _ => rfl)) pa_nil)))))), ?_⟩
    refine ⟨_, rfl, a, _, rfl, .inl (SqL.of ha), _, _, _, ms.length, rfl, (by rw [vi_len, flat_len]; exact rg3 _ hl), fun D hD => lc_it walk_rangeC (fun i H' => Same H H' ∧ ∃ as : List Addr, H' D = some (.lst (as.map V.ref)) ∧ All2 (MarkAt K (fresh H H')) as (ms.take i)) ⟨same_new hD, [], upd_same, trivial⟩ (fun _ _ _ _ => trivial) ?_ ?_⟩
    · rintro i y H' H2 hi ⟨s1, as, h1, hA⟩ ⟨rfl, rfl⟩
      obtain ⟨m, hm⟩ : ∃ m, ms[i]? = some m := ⟨_, List.getElem?_eq_getElem hi⟩
      obtain ⟨f1, f2, f3⟩ := flat_at hm
      have e0 : (0 : Int) + (i : Nat) * 3 = ((3 * i : Nat) : Int) := by omega
      have ha1 := SqL.of (K := K) (s1 _ _ ha)
      refine ⟨rfl, tyes ?_⟩
      refine ⟨_, rfl, _, rfl, a, _, _, _, rfl, rfl, ha1, at_of (j := 3 * i) e0 (vi_get f1), _, rfl, _, rfl, _, _, rfl, rfl, a, _, _, _, rfl, rfl, ha1, at_of (j := 3 * i + 1) (by rw [e0]; omega) (vi_get f2), _, rfl, _, rfl, _, _, rfl, rfl, a, _, _, _, rfl, rfl, ha1, at_of (j := 3 * i + 2) (by rw [e0]; omega) (vi_get f3), ?_⟩
      intro x dx nx ndx nex
      refine ⟨x, dx, _, _, _, rfl, upd_same, rfl, ?_⟩
      rw [upd_upd]
      have s2 : Same H2 (upd (upd H2 dx (.own x)) x (.ins (He.ga K "Mark") dx (fMark m.place m.letter m.price))) := same_make nx ndx
      have nxD : x ≠ D := (ne_of_none h1 nx).symm
      refine ⟨_, s2 _ _ h1, ?_, same_upd (s1.trans s2) hD, as ++ [x], ?_, ?_⟩
      · rw [List.length_map, hA.len, List.length_take]
        exact Nat.lt_of_le_of_lt (by omega : _ ≤ 1000) (by decide)
      · rw [upd_same, List.map_append]
        rfl
      · rw [take_snoc hm]
        refine All2.snoc (hA.mono fun c b r => ?_) ?_
        · obtain ⟨d, r⟩ := r
          refine ⟨d, ?_⟩
          obtain ⟨r1, r2⟩ := fresh_some r
          rw [fresh_new r1, upd_ne (ne_of r2 h1 (by intro q; cases q))]
          exact s2 _ _ r2
        · refine ⟨dx, ?_⟩
          rw [fresh_new (s1.free nx), upd_ne nxD, upd_same]
    · rintro H' ⟨s1, as, h1, hA⟩
      rw [List.take_length] at hA
      exact k H' D s1 ⟨as, by rw [fresh_new hD]; exact h1, hA⟩
/-! ### are they as told -/
def spHasPlace (K : PySem.W.Frag) : Sp := fun vs H Q _ => ∃ (s : Addr) (i : Nat) (st : Lf06.St), vs = [.ref s, .int i] ∧ SessAt K H s st ∧ Q (.bl (decide (i < st.known.length))) H
theorem ok_has_place (T : Tx K mg) : DefOk P w K mg base 1 (He.ma K (He.ga K "Session") "has_place") ["self", "place"] (spHasPlace K) := by
  refine mkDef T.f_Session_has_place sc_Session_has_place (fun _ _ _ _ _ _ us hl => match us, hl with | [_, _], _ => rfl) (fun vs H Q E h => ?_) (fun cdv A outer s H vs Q E hr h => ?_)
  · obtain ⟨s, i, st, rfl, _⟩ := h
    rfl
  · obtain ⟨s, i, st, rfl, ⟨dx, lf, lr, hs, hf, _⟩, k⟩ := h
    refine ⟨_, pss_one (ps_ret (pe_cmpR op_lt (pv 1) (pe_callB call_len_seq (by rfl) T.z_len PySem.boot_len (pa_cons (pe_fld (pv 0) rfl) pa_nil)) (nomark _))), ?_⟩
    refine ⟨_, rfl, _, rfl, s, _, dx, _, _, rfl, hs, T.cl_Session, T.n_Session_facts, rfl, lf, _, rfl, .inl (SqL.of hf), _, _, rfl, rfl, ?_⟩
    have e : decide ((i : Int) < ((vi st.known).length : Int)) = decide (i < st.known.length) := by
      rw [vi_len]
      exact decide_eq_decide.mpr (by omega)
    show Q (.bl (decide ((i : Int) < ((vi st.known).length : Int)))) H
    rw [e]
    exact k
def markOk (n : Nat) (m : Lf06.Mark) : Bool := decide (m.place < n) && (decide (m.letter ≤ 1) && (decide (1 ≤ m.price) && decide (m.price ≤ 99)))
def spMarkOk (K : PySem.W.Frag) : Sp := fun vs H Q _ => ∃ (s a : Addr) (st : Lf06.St) (m : Lf06.Mark), vs = [.ref s, .ref a] ∧ SessAt K H s st ∧ MarkAt K H a m ∧ Q (.bl (markOk st.known.length m)) H
theorem ok_mark_is_as_told (T : Tx K mg) : DefOk P w K mg base 2 (He.ga K "mark_is_as_told") ["session", "mark"] (spMarkOk K) := by
  obtain ⟨fd1, G1, b1, kp1⟩ := ok_has_place (P := P) (w := w) (base := base) T
  obtain ⟨t1, i1⟩ := T.i_HIGHEST_LETTER
  obtain ⟨t2, i2⟩ := T.i_HIGHEST_PRICE
  refine mkDef T.f_mark_is_as_told sc_mark_is_as_told (fun _ _ _ _ _ _ us hl => match us, hl with | [_, _], _ => rfl) (fun vs H Q E h => ?_) (fun cdv A outer s H vs Q E hr h => ?_)
  · obtain ⟨s, a, st, m, rfl, _⟩ := h
    rfl
  · obtain ⟨s, a, st, m, rfl, hS, ⟨dm, ha⟩, k⟩ := h
    refine ⟨_, pss_cons (ps_if (pt_not (pt_val (pe_meth (pv 0) T.cl_Session T.m_Session_has_place G1 hr b1 .nil pass0 (pa_cons (pe_fld (pv 1) rfl) pa_nil)))) (pss_one (ps_ret pe_bl)) pss_nil)
      (pss_cons (ps_if (pt_cmpR op_gt (pe_fld (pv 1) rfl) (pe_gi i1) (nomark _)) (pss_one (ps_ret pe_bl)) pss_nil)
      (pss_one (ps_ret (pe_and (pe_cmpR op_ge (pe_fld (pv 1) rfl) pe_int (nomark _)) (pe_one (pe_cmpR op_le (pe_fld (pv 1) rfl) (pe_gi i2) (nomark _))))))), ?_⟩
    obtain ⟨ds, lf, lr, hs, _⟩ := id hS
    refine ⟨_, rfl, s, ds, _, rfl, hs, rfl, _, rfl, a, _, dm, _, _, rfl, ha, T.cl_Mark, T.n_Mark_place, rfl, s, m.place, st, rfl, hS, _, rfl, ?_⟩
    unfold markOk at k
    refine ite2 (fun c => ?_) (fun c => ?_)
    · have c1 : decide (m.place < st.known.length) = false := by simpa using c
      rw [c1] at k
      exact k
    · have c1 : decide (m.place < st.known.length) = true := by simpa using c
      rw [c1, Bool.true_and] at k
      refine ⟨_, rfl, a, _, dm, _, _, rfl, ha, T.cl_Mark, T.n_Mark_letter, rfl, _, _, rfl, rfl, _, rfl, ite2 (fun c => ?_) (fun c => ?_)⟩
      · have c2 : decide (m.letter ≤ 1) = false := decide_eq_false (by have := of_decide_eq_true c; omega)
        rw [c2] at k
        exact k
      · have c2 : decide (m.letter ≤ 1) = true := decide_eq_true (by have : ¬ ((1 : Int) < (m.letter : Int)) := fun z => c (decide_eq_true z); omega)
        rw [c2, Bool.true_and] at k
        refine ⟨_, rfl, a, _, dm, _, _, rfl, ha, T.cl_Mark, T.n_Mark_price, rfl, _, _, rfl, rfl, _, rfl, ?_⟩
        have e1 : decide ((1 : Int) ≤ (m.price : Int)) = decide (1 ≤ m.price) := decide_eq_decide.mpr (by omega)
        have e2 : decide ((m.price : Int) ≤ 99) = decide (m.price ≤ 99) := decide_eq_decide.mpr (by omega)
        rw [e1]
        refine ite2 (fun c => ?_) (fun c => ?_)
        · rw [c, Bool.true_and, ← e2] at k
          exact ⟨_, rfl, a, _, dm, _, _, rfl, ha, T.cl_Mark, T.n_Mark_price, rfl, _, _, rfl, rfl, k⟩
        · have c3 : decide (1 ≤ m.price) = false := by simpa using c
          rw [c3] at k
          exact k
end
end Ts
end
section
set_option maxRecDepth 100000
set_option maxHeartbeats 4000000
namespace Ts
open PySem PySem.Spec PyProof.Rows L2
section
variable {P : Program} {w : World} {K : PySem.W.Frag} {mg : Str → Option Value} {base : Heap}
/-! ### no place twice -/
theorem nodup_count : ∀ l : List Nat, l.Nodup ↔ ∀ p ∈ l, (l.filter fun q => q == p).length = 1
  | [] => by simp
  | a :: l => by
    have ih := nodup_count l
    constructor
    · intro h p hp
      obtain ⟨h1, h2⟩ := List.nodup_cons.mp h
      rw [List.filter_cons]
      by_cases c : a = p
      · subst c
        rw [if_pos (by simp)]
        have e : l.filter (fun q => q == a) = [] := List.filter_eq_nil_iff.mpr fun q hq e => by
          have : q = a := eq_of_beq e
          subst this
          exact h1 hq
        rw [e]
        rfl
      · rw [if_neg (by simpa using c)]
        rcases List.mem_cons.mp hp with e | hp
        · exact absurd e.symm c
        · exact ih.mp h2 p hp
    · intro h
      have h1 : a ∉ l := fun ha => by
        have h2 := h a (by simp)
        rw [List.filter_cons, if_pos (by simp)] at h2
        have h3 : 0 < (l.filter fun q => q == a).length := List.length_pos_of_mem (List.mem_filter.mpr ⟨ha, by simp⟩)
        rw [List.length_cons] at h2
        omega
      refine List.nodup_cons.mpr ⟨h1, ih.mpr fun p hp => ?_⟩
      have h2 := h p (by simp [hp])
      rw [List.filter_cons, if_neg (by
        intro e
        have : a = p := eq_of_beq e
        subst this
        exact h1 hp)] at h2
      exact h2
theorem nodup_ints (l : List Nat) : (l.map fun (n : Nat) => (n : Int)).Nodup ↔ l.Nodup := by
  unfold List.Nodup
  rw [List.pairwise_map]
  constructor
  · exact fun h => h.imp fun q e => q (by rw [e])
  · exact fun h => h.imp fun q e => q (by omega)
theorem isReading_eq (n : Nat) (r : Lf06.Reading) : Lf06.isReading n r = (!r.isEmpty && (r.all (markOk n) && decide (Lf06.marked r).Nodup)) := by
  have e : ((Lf06.marked r).all fun p => ((Lf06.marked r).filter fun q => q == p).length == 1) = decide (Lf06.marked r).Nodup := by
    by_cases c : (Lf06.marked r).Nodup
    · rw [decide_eq_true c]
      exact List.all_eq_true.mpr fun p hp => by rw [(nodup_count _).mp c p hp]; rfl
    · rw [decide_eq_false c]
      cases e : ((Lf06.marked r).all fun p => ((Lf06.marked r).filter fun q => q == p).length == 1) with
      | false => rfl
      | true => exact absurd ((nodup_count _).mpr fun p hp => eq_of_beq (List.all_eq_true.mp e p hp)) c
  unfold Lf06.isReading
  rw [e]
  rfl
def spMarksOk (K : PySem.W.Frag) : Sp := fun vs H Q _ => ∃ (s l : Addr) (st : Lf06.St) (ms : List Lf06.Mark), vs = [.ref s, .ref l] ∧ SessAt K H s st ∧ ListAt (MarkAt K) H l ms ∧ ms.length ≤ 1000 ∧ ∀ H', Same H H' → Q (.bl (Lf06.isReading st.known.length ms)) H'
theorem ok_marks_are_as_told (T : Tx K mg) : DefOk P w K mg base 3 (He.ga K "marks_are_as_told") ["session", "marks"] (spMarksOk K) := by
  obtain ⟨fd1, G1, b1, kp1⟩ := ok_mark_is_as_told (P := P) (w := w) (base := base) T
  refine mkDef T.f_marks_are_as_told sc_marks_are_as_told (fun _ _ _ _ _ _ us hl => match us, hl with | [_, _], _ => rfl) (fun vs H Q E h => ?_) (fun cdv A outer s H vs Q E hr h => ?_)
  · obtain ⟨s, a, st, m, rfl, _⟩ := h
    rfl
  · obtain ⟨s, l, st, ms, rfl, hS, ⟨as, hl, hA⟩, hn, k⟩ := h
    refine ⟨_, pss_cons (ps_if (pt_cmpR op_eq (pe_callB call_len_seq (by rfl) T.z_len PySem.boot_len (pa_cons (pv 1) pa_nil)) pe_int (nomark _)) (pss_one (ps_ret pe_bl)) pss_nil)
      (pss_cons (ps_if (pt_cmpR op_lt (pe_setLen (by rfl) T.z_len (by rfl) T.z_set (pe_lc (own := [("mark", 2)]) (g := gName 2) (tt := tYes) (te := tFld K (tVar 2) "place") rfl sc_marks_are_as_told.nd (pi_list (pv 1))
          (blkOk_by (own := [("mark", 2)]) (N := nm_marks_are_as_told) (sc := defScope s_marks_are_as_told) (by decide +kernel)) (fun _ _ _ _ _ => pg_name (i := 2) sc_marks_are_as_told.nd rfl (Or.inl rfl)) (fun _ _ _ _ _ => pts_nil) (fun _ _ _ _ _ => by exact pe_fld (pv 2) rfl)))
          (pe_callB call_len_seq (by rfl) T.z_len PySem.boot_len (pa_cons (pv 1) pa_nil)) (nomark _)) (pss_one (ps_ret pe_bl)) pss_nil)
      (pss_one (ps_ret (pe_callB (cr_all rfl) (by rfl) T.z_all (by decide +kernel) (pa_cons (pe_lc (own := [("mark", 2)]) (g := gName 2) (tt := tYes) (te := tCall (spMarkOk K) [] E0 (tCons (tVar 0) (tCons (tVar 2) tNil))) rfl sc_marks_are_as_told.nd (pi_list (pv 1))
          (blkOk_by (own := [("mark", 2)]) (N := nm_marks_are_as_told) (sc := defScope s_marks_are_as_told) (by decide +kernel)) (fun _ _ _ _ _ => pg_name (i := 2) sc_marks_are_as_told.nd rfl (Or.inl rfl)) (fun _ _ _ _ _ => pts_nil) (fun _ _ _ _ _ => by exact pe_call G1 hr rfl T.g_mark_is_as_told kp1 b1 .nil pass0 (pa_cons (pv 0) (pa_cons (pv 2) pa_nil)))) pa_nil))))), ?_⟩
    have hlen : (as.map V.ref).length = ms.length := by rw [List.length_map, hA.len]
    rw [isReading_eq] at k
    refine ⟨_, rfl, l, _, rfl, .inl (SqL.of hl), rfl, _, rfl, ?_⟩
    rw [hlen]
    refine ite2 (fun c => ?_) (fun c => ?_)
    · have e0 : ms.length = 0 := by have := V.int.inj (of_decide_eq_true c); omega
      have e1 : ms = [] := List.eq_nil_of_length_eq_zero e0
      rw [e1] at k
      exact k H (Same.refl _)
    · have e1 : ms.isEmpty = false := by
        cases ms with
        | nil => exact absurd (decide_eq_true rfl) c
        | cons _ _ => rfl
      rw [e1] at k
      -- len(set([mark.place for mark in marks])) < len(marks)
      refine ⟨_, rfl, l, rfl, ⟨_, SqL.of hl⟩, fun D hD => lc_list (K := K) (a := l) (xs := as.map V.ref) (fun i H' => Same H H' ∧ H' D = some (.lst (vi (Lf06.marked (ms.take i))))) ⟨same_new hD, upd_same⟩ (fun i H' _ G => SqL.of (G.1 _ _ hl)) ?_ ?_⟩
      · rintro i y H' hi ⟨s2, h2⟩
        obtain ⟨c, hc, rfl⟩ := get_map hi
        obtain ⟨m, hm, dm, hp⟩ := hA.get hc
        refine ⟨rfl, tyes ?_⟩
        refine ⟨_, rfl, c, _, dm, _, _, rfl, s2 _ _ hp, T.cl_Mark, T.n_Mark_place, rfl, _, h2, ?_, same_upd s2 hD, ?_⟩
        · rw [vi_len]
          unfold Lf06.marked
          rw [List.length_map]
          exact Nat.lt_of_le_of_lt (Nat.le_trans (List.length_take_le' _ _) hn) (by decide)
        · rw [upd_same, take_snoc hm]
          unfold Lf06.marked
          rw [List.map_append, vi_app]
          rfl
      · rintro H2 ⟨s2, h2⟩
        rw [hlen, List.take_length] at h2
        have hml : (Lf06.marked ms).length = ms.length := List.length_map _
        refine ⟨D, (Lf06.marked ms).map fun (n : Nat) => (n : Int), rfl, SqL.of (by rw [← vi_eq]; exact h2), by rw [List.length_map, hml]; exact hn, ?_⟩
        refine ⟨_, rfl, l, _, rfl, .inl (SqL.of (s2 _ _ hl)), _, _, rfl, rfl, _, rfl, ?_⟩
        have sl := setLen_lt ((Lf06.marked ms).map fun (n : Nat) => (n : Int))
        rw [nodup_ints, List.length_map, hml] at sl
        refine ite2 (fun c => ?_) (fun c => ?_)
        · have nd : ¬ (Lf06.marked ms).Nodup := sl.mp (by have := of_decide_eq_true c; rw [hlen] at this; omega)
          rw [decide_eq_false nd, Bool.and_false, Bool.and_false] at k
          exact k H2 s2
        · have nd : (Lf06.marked ms).Nodup := Decidable.byContradiction fun z => by
            have h3 := sl.mpr z
            exact c (decide_eq_true (by rw [hlen]; omega))
          rw [decide_eq_true nd, Bool.and_true] at k
          -- all([mark_is_as_told(session, mark) for mark in marks])
          refine ⟨_, rfl, l, rfl, ⟨_, SqL.of (s2 _ _ hl)⟩, fun B hB => lc_list (K := K) (a := l) (xs := as.map V.ref) (fun i H' => Same H2 H' ∧ H' B = some (.lst (((ms.take i).map (markOk st.known.length)).map V.bl))) ⟨same_new hB, upd_same⟩ (fun i H' _ G => SqL.of (G.1 _ _ (s2 _ _ hl))) ?_ ?_⟩
          · rintro i y H' hi ⟨s3, h3⟩
            obtain ⟨c, hc, rfl⟩ := get_map hi
            obtain ⟨m, hm, hM⟩ := hA.get hc
            refine ⟨rfl, tyes ?_⟩
            refine ⟨_, rfl, _, rfl, s, c, st, m, rfl, hS.same (s2.trans s3), hM.same (s2.trans s3), _, h3, ?_, same_upd s3 hB, ?_⟩
            · rw [List.length_map, List.length_map]
              exact Nat.lt_of_le_of_lt (Nat.le_trans (List.length_take_le' _ _) hn) (by decide)
            · rw [upd_same, take_snoc hm, List.map_append, List.map_append]
              rfl
          · rintro H3 ⟨s3, h3⟩
            rw [hlen, List.take_length] at h3
            refine ⟨B, _, rfl, SqL.of h3, ?_⟩
            have e2 : (ms.map (markOk st.known.length)).all id = (!false && ms.all (markOk st.known.length)) := by
              rw [List.all_map]
              rfl
            rw [e2]
            exact k H3 (s2.trans s3)
end
end Ts
end
section
set_option maxRecDepth 100000
set_option maxHeartbeats 4000000
namespace Ts
open PySem PySem.Spec PyProof.Rows L2
/-! ### a session that changes: its own part of the heap -/
structure Sess0 (K : PySem.W.Frag) (F H : Hp) (s lf lr : Addr) (st : Lf06.St) : Prop where
  sub : Same F H
  fs : F s = none
  ff : F lf = none
  fr : F lr = none
  nfr : lf ≠ lr
  obj : ∃ dx, H s = some (.ins (He.ga K "Session") dx (fSession lf lr st.next))
  facts : IntsAt H lf st.known
  reads : ∃ as : List Addr, H lr = some (.lst (as.map V.ref)) ∧ All2 (ReadAt K F) as st.readings
/-- R: the addresses that are the session's own -/
def Sess (K : PySem.W.Frag) (R : Addr → Prop) (H : Hp) (s : Addr) (st : Lf06.St) : Prop := ∃ F lf lr, Sess0 K F H s lf lr st ∧ (∀ b o, F b = some o → R b) ∧ R s ∧ R lf ∧ R lr
/-- behind a call: the session as told, its part grown by new objects alone, all else as it was -/
def Nxt (K : PySem.W.Frag) (R : Addr → Prop) (H H' : Hp) (s : Addr) (st' : Lf06.St) : Prop :=
  ∃ R', Sess K R' H' s st' ∧ (∀ b, R' b → R b ∨ H b = none) ∧ ∀ b o, H b = some o → ¬ R b → H' b = some o
section
variable {K : PySem.W.Frag} {R : Addr → Prop} {H H' H2 F : Hp} {s lf lr : Addr} {st st' : Lf06.St}
theorem Sess0.at (S : Sess0 K F H s lf lr st) : SessAt K H s st := by
  obtain ⟨dx, h1⟩ := S.obj
  obtain ⟨as, h2, h3⟩ := S.reads
  exact ⟨dx, lf, lr, h1, S.facts, as, h2, h3.mono fun _ _ r => r.same S.sub⟩
theorem Sess.at (S : Sess K R H s st) : SessAt K H s st := let ⟨_, _, _, S0, _⟩ := S; S0.at
theorem Sess0.same (S : Sess0 K F H s lf lr st) (e : Same H H') : Sess0 K F H' s lf lr st := by
  obtain ⟨dx, h1⟩ := S.obj
  obtain ⟨as, h2, h3⟩ := S.reads
  exact ⟨S.sub.trans e, S.fs, S.ff, S.fr, S.nfr, ⟨dx, e _ _ h1⟩, S.facts.same e, as, e _ _ h2, h3⟩
theorem Sess.same (S : Sess K R H s st) (e : Same H H') : Sess K R H' s st := let ⟨F, lf, lr, S0, q⟩ := S; ⟨F, lf, lr, S0.same e, q⟩
theorem Nxt.pure (S : Sess K R H s st) (e : Same H H') : Nxt K R H H' s st := ⟨R, S.same e, fun _ h => .inl h, fun b o h _ => e b o h⟩
theorem Nxt.then (N : Nxt K R H H' s st) (e : Same H' H2) : Nxt K R H H2 s st := by
  obtain ⟨R', S, h1, h2⟩ := N
  exact ⟨R', S.same e, h1, fun b o h q => e _ _ (h2 b o h q)⟩
theorem Sess0.ns (S : Sess0 K F H s lf lr st) : s ≠ lf ∧ s ≠ lr := by
  obtain ⟨dx, h1⟩ := S.obj
  obtain ⟨as, h2, _⟩ := S.reads
  exact ⟨ne_of h1 S.facts (by intro q; cases q), ne_of h1 h2 (by intro q; cases q)⟩
end
/-- numbers of readings: none twice, all used; each reading has marks -/
structure WfN (st : Lf06.St) : Prop extends Wf st where
  nd : (st.readings.map fun x => x.1).Nodup
  lt : ∀ x ∈ st.readings, x.1 < st.next
  ne : ∀ x ∈ st.readings, 0 < x.2.length
section
variable {P : Program} {w : World} {K : PySem.W.Frag} {mg : Str → Option Value} {base : Heap}
theorem rep_vi (n : Nat) : (List.replicate n [V.int 3]).flatten = vi (List.replicate n 3) := by
  induction n with
  | zero => rfl
  | succ n ih =>
    rw [List.replicate_succ, List.replicate_succ, List.flatten_cons, ih]
    rfl
/-! ### begin -/
def spBegin (K : PySem.W.Frag) : Sp := fun vs H Q _ => ∃ (s dx : Addr) (fs : List (Str × V)) (n : Nat), vs = [.ref s, .int n] ∧ H s = some (.ins (He.ga K "Session") dx fs) ∧ (fs = [] ∨ ∃ lf lr m, fs = fSession lf lr m) ∧ n ≤ 6 ∧
  ∀ (H' : Hp) (lf lr : Addr), H lf = none → H lr = none → lf ≠ lr → H' s = some (.ins (He.ga K "Session") dx (fSession lf lr 1)) → IntsAt H' lf (List.replicate n 3) → H' lr = some (.lst []) → (∀ b o, H b = some o → b ≠ s → H' b = some o) → Q .non H'
theorem ok_begin (T : Tx K mg) : DefOk P w K mg base 1 (He.ma K (He.ga K "Session") "begin") ["self", "places"] (spBegin K) := by
  obtain ⟨t1, i1⟩ := T.i_NOTHING
  refine mkDef T.f_Session_begin sc_Session_begin (fun _ _ _ _ _ _ us hl => match us, hl with | [_, _], _ => rfl) (fun vs H Q E h => ?_) (fun cdv A outer s H vs Q E hr h => ?_)
  · obtain ⟨s, dx, fs, n, rfl, _⟩ := h
    rfl
  · obtain ⟨s, dx, fs, n, rfl, hs, hfs, hn, k⟩ := h
    refine ⟨_, pss_cons (ps_fld (pv 0) (pe_op op_rep (pe_lst (pa_cons (pe_gi i1) pa_nil)) (pv 1)) rfl) (pss_cons (ps_fld (pv 0) (pe_lst pa_nil) rfl) (pss_one (ps_fld (pv 0) pe_int rfl))), ?_⟩
    refine ⟨(by show 1 ≤ sizeLine; decide), fun q hq => ⟨_, rfl, q, _, _, rfl, rfl, upd_same, by omega, by omega, (by rw [Int.toNat_natCast]; show 1 * n ≤ sizeLine; exact Nat.le_trans (by omega : 1 * n ≤ 6) (by decide)), fun f hf => ?_⟩⟩
    have s1 : Same H (upd (upd H q (.lst [V.int 3])) f (.lst (List.replicate (n : Int).toNat [V.int 3]).flatten)) := (same_new hq).trans (same_new hf)
    have sf : f ≠ s := (ne_of_none ((same_new hq) _ _ hs) hf).symm
    have hf0 : H f = none := (same_new hq).free hf
    have l1 : fs.length < 1000 := by
      rcases hfs with rfl | ⟨a, b, m, rfl⟩
      · show 0 < 1000; decide
      · show 3 < 1000; decide
    have l2 : (putF "facts" (.ref f) fs).length < 1000 := by
      rcases hfs with rfl | ⟨a, b, m, rfl⟩
      · show 1 < 1000; decide
      · show 3 < 1000; decide
    refine ⟨_, rfl, s, _, dx, _, rfl, s1 _ _ hs, T.cl_Session, T.n_Session_facts, l1, Nat.zero_le _, fun r hr0 => ?_⟩
    have sr : r ≠ s := fun e => by rw [e, upd_same] at hr0; cases hr0
    have hr1 : upd (upd H q (.lst [V.int 3])) f (.lst (List.replicate (n : Int).toNat [V.int 3]).flatten) r = none := by rw [upd_ne sr] at hr0; exact hr0
    have hr2 : H r = none := s1.free hr1
    have rf : f ≠ r := ne_of_none upd_same hr1
    have l3 : (putF "readings" (.ref r) (putF "facts" (.ref f) fs)).length < 1000 := by
      rcases hfs with rfl | ⟨a, b, m, rfl⟩
      · show 2 < 1000; decide
      · show 3 < 1000; decide
    refine ⟨_, rfl, s, _, dx, _, rfl, (by rw [upd_ne sr.symm]; exact upd_same), T.cl_Session, T.n_Session_readings, l2, _, rfl, s, _, dx, _, rfl, upd_same, T.cl_Session, T.n_Session_next_number, l3, ?_⟩
    have fin : putF "next_number" (.int 1) (putF "readings" (.ref r) (putF "facts" (.ref f) fs)) = fSession f r 1 := by
      rcases hfs with rfl | ⟨a, b, m, rfl⟩ <;> rfl
    refine k _ f r hf0 hr2 rf ?_ ?_ ?_ ?_
    · rw [upd_same]
      exact congrArg (fun z => some (HO.ins (He.ga K "Session") dx z)) fin
    · unfold IntsAt
      rw [upd_ne sf, upd_ne sf, upd_ne rf, upd_ne sf, upd_same, Int.toNat_natCast, rep_vi]
    · rw [upd_ne sr, upd_ne sr, upd_same]
    · intro b o e hb
      rw [upd_ne hb, upd_ne hb, upd_ne (ne_of_none e hr2), upd_ne hb]
      exact s1 _ _ e
def spSessInit (K : PySem.W.Frag) : Sp := fun vs H Q _ => ∃ (s dx : Addr), vs = [.ref s] ∧ H s = some (.ins (He.ga K "Session") dx []) ∧
  ∀ (H' : Hp) (lf lr : Addr), H lf = none → H lr = none → lf ≠ lr → H' s = some (.ins (He.ga K "Session") dx (fSession lf lr 1)) → IntsAt H' lf [3, 3] → H' lr = some (.lst []) → (∀ b o, H b = some o → b ≠ s → H' b = some o) → Q .non H'
theorem ok_Session_init (T : Tx K mg) : DefOk P w K mg base 2 (He.ma K (He.ga K "Session") "__init__") ["self"] (spSessInit K) := by
  obtain ⟨fd1, G1, b1, kp1⟩ := ok_begin (P := P) (w := w) (base := base) T
  obtain ⟨t1, i1⟩ := T.i_PLACES_AT_FIRST
  refine mkDef T.f_Session_init sc_Session_init (fun _ _ _ _ _ _ us hl => match us, hl with | [_], _ => rfl) (fun vs H Q E h => ?_) (fun cdv A outer s H vs Q E hr h => ?_)
  · obtain ⟨s, dx, rfl, _⟩ := h
    rfl
  · obtain ⟨s, dx, rfl, hs, k⟩ := h
    refine ⟨_, pss_one (ps_expr (pe_meth (pv 0) T.cl_Session T.m_Session_begin G1 hr b1 .nil pass0 (pa_cons (pe_gi i1) pa_nil))), ?_⟩
    exact ⟨_, rfl, s, dx, _, rfl, hs, rfl, s, dx, [], 2, rfl, hs, .inl rfl, by decide, fun H' lf lr h1 h2 h3 h4 h5 h6 h7 => k H' lf lr h1 h2 h3 h4 h5 h6 h7⟩
/-! ### start -/
/-- what is handed back by a call that may change the session -/
def Turn (K : PySem.W.Frag) (R : Addr → Prop) (H : Hp) (s : Addr) (Q : VK) (r : Lf06.St × List Int) : Prop := ∀ (H' : Hp) (p : Addr), Nxt K R H H' s r.1 → H p = none → OutAt H' p r.2 → Q (.ref p) H'
def spStart (K : PySem.W.Frag) : Sp := fun vs H Q _ => ∃ (s : Addr) (n : Nat) (R : Addr → Prop) (st : Lf06.St), vs = [.ref s, .int n] ∧ Sess K R H s st ∧ Turn K R H s Q (Lf06.step st (.start n))
theorem ok_answer_start (T : Tx K mg) : DefOk P w K mg base 2 (He.ga K "answer_start") ["session", "places"] (spStart K) := by
  obtain ⟨fd1, G1, b1, kp1⟩ := ok_begin (P := P) (w := w) (base := base) T
  obtain ⟨t1, i1⟩ := T.i_MOST_PLACES
  obtain ⟨t2, i2⟩ := T.i_NOT_AS_TOLD
  refine mkDef T.f_answer_start sc_answer_start (fun _ _ _ _ _ _ us hl => match us, hl with | [_, _], _ => rfl) (fun vs H Q E h => ?_) (fun cdv A outer s H vs Q E hr h => ?_)
  · obtain ⟨s, n, R, st, rfl, _⟩ := h
    rfl
  · obtain ⟨s, n, R, st, rfl, hS, k⟩ := h
    refine ⟨_, pss_cons (ps_if (PW.pt (pw_or (pt_cmpR op_lt (pv 1) pe_int (nomark _)) (pw_or1 (pt_cmpR op_gt (pv 1) (pe_gi i1) (nomark _))))) (pss_one (ps_ret (pe_lst (pa_cons (pe_gi i2) pa_nil)))) pss_nil)
      (pss_cons (ps_expr (pe_meth (pv 0) T.cl_Session T.m_Session_begin G1 hr b1 .nil pass0 (pa_cons (pv 1) pa_nil)))
      (pss_one (ps_ret (pe_lst (pa_cons (pv 1) pa_nil))))), ?_⟩
    have bad : n = 0 ∨ 6 < n → ∀ p, H p = none → Q (.ref p) (upd H p (.lst [V.int (-1)])) := fun hb p hp => by
      have e : Lf06.step st (.start n) = (st, [-1]) := if_pos hb
      rw [e] at k
      exact k _ p (Nxt.pure hS (same_new hp)) hp upd_same
    refine ⟨_, rfl, _, _, rfl, rfl, _, rfl, ite2 (fun c => ?_) (fun c => ?_)⟩
    · refine iteT ⟨(by show 1 ≤ sizeLine; decide), fun p hp => ?_⟩
      exact bad (.inl (by have := of_decide_eq_true c; omega)) p hp
    · have c1 : ¬ ((n : Int) < 1) := fun z => c (decide_eq_true z)
      refine ⟨_, rfl, _, _, rfl, rfl, _, rfl, ite2 (fun c => ?_) (fun c => ?_)⟩
      · refine ⟨(by show 1 ≤ sizeLine; decide), fun p hp => ?_⟩
        exact bad (.inr (by have := of_decide_eq_true c; omega)) p hp
      · have c2 : ¬ ((6 : Int) < (n : Int)) := fun z => c (decide_eq_true z)
        have e : Lf06.step st (.start n) = (⟨List.replicate n 3, [], 1⟩, [(n : Int)]) := if_neg (by omega)
        rw [e] at k
        obtain ⟨F, lf, lr, S, hF, Rs, Rf, Rr⟩ := hS
        obtain ⟨dx, hs⟩ := S.obj
        refine ⟨_, rfl, s, dx, _, rfl, hs, rfl, _, rfl, s, dx, _, n, rfl, hs, .inr ⟨_, _, _, rfl⟩, by omega, fun H' lf' lr' h1 h2 h3 h4 h5 h6 h7 => ?_⟩
        refine ⟨_, rfl, (by show 1 ≤ sizeLine; decide), fun p hp => ?_⟩
        have hp0 : H p = none := by
          cases e : H p with
          | none => rfl
          | some o =>
            by_cases q : p = s
            · rw [q, h4] at hp
              cases hp
            · rw [h7 _ _ e q] at hp
              cases hp
        refine k _ p (Nxt.then (H' := H') ⟨fun b => R b ∨ H b = none, ⟨fun _ => none, lf', lr', ⟨(fun b o e => by cases e), rfl, rfl, rfl, h3, ⟨dx, h4⟩, h5, [], h6, trivial⟩, (fun b o e => by cases e), .inl Rs, .inr h1, .inr h2⟩, fun b h => h, fun b o e q => h7 _ _ e fun z => q (by rw [z]; exact Rs)⟩ (same_new hp)) hp0 upd_same
/-! ### known -/
def spKnown (K : PySem.W.Frag) : Sp := fun vs H Q _ => ∃ (s : Addr) (i f : Nat) (R : Addr → Prop) (st : Lf06.St), vs = [.ref s, .int i, .int f] ∧ Sess K R H s st ∧ Turn K R H s Q (Lf06.step st (.known i f))
theorem ok_answer_known (T : Tx K mg) : DefOk P w K mg base 2 (He.ga K "answer_known") ["session", "place", "fact"] (spKnown K) := by
  obtain ⟨fd1, G1, b1, kp1⟩ := ok_has_place (P := P) (w := w) (base := base) T
  obtain ⟨t1, i1⟩ := T.i_NOTHING
  obtain ⟨t2, i2⟩ := T.i_NOT_AS_TOLD
  refine mkDef T.f_answer_known sc_answer_known (fun _ _ _ _ _ _ us hl => match us, hl with | [_, _, _], _ => rfl) (fun vs H Q E h => ?_) (fun cdv A outer s H vs Q E hr h => ?_)
  · obtain ⟨s, i, f, R, st, rfl, _⟩ := h
    rfl
  · obtain ⟨s, i, f, R, st, rfl, hS, k⟩ := h
    refine ⟨_, pss_cons (ps_if (PW.pt (pw_or (pt_not (pt_val (pe_meth (pv 0) T.cl_Session T.m_Session_has_place G1 hr b1 .nil pass0 (pa_cons (pv 1) pa_nil)))) (pw_or1 (pt_cmpR op_gt (pv 2) (pe_gi i1) (nomark _))))) (pss_one (ps_ret (pe_lst (pa_cons (pe_gi i2) pa_nil)))) pss_nil)
      (pss_cons (ps_asg (pv 2) (pg_sub (pe_fld (pv 0) rfl) (pv 1) set_list))
      (pss_one (ps_ret (pe_lst (pa_cons (pv 2) pa_nil))))), ?_⟩
    have bad : st.known.length ≤ i ∨ 3 < f → ∀ p, H p = none → Q (.ref p) (upd H p (.lst [V.int (-1)])) := fun hb p hp => by
      have e : Lf06.step st (.known i f) = (st, [-1]) := if_pos hb
      rw [e] at k
      exact k _ p (Nxt.pure hS (same_new hp)) hp upd_same
    obtain ⟨F, lf, lr, S, hF, Rs, Rf, Rr⟩ := id hS
    obtain ⟨dx, hs⟩ := S.obj
    refine ⟨_, rfl, s, dx, _, rfl, hs, rfl, _, rfl, s, i, st, rfl, S.at, _, rfl, ite2 (fun c => ?_) (fun c => ?_)⟩
    · refine iteT ⟨(by show 1 ≤ sizeLine; decide), fun p hp => ?_⟩
      exact bad (.inl (by simp at c; omega)) p hp
    · have c1 : i < st.known.length := by simpa using c
      refine ⟨_, rfl, _, _, rfl, rfl, _, rfl, ite2 (fun c => ?_) (fun c => ?_)⟩
      · refine ⟨(by show 1 ≤ sizeLine; decide), fun p hp => ?_⟩
        exact bad (.inr (by have := of_decide_eq_true c; omega)) p hp
      · have c2 : ¬ ((3 : Int) < (f : Int)) := fun z => c (decide_eq_true z)
        have e : Lf06.step st (.known i f) = (⟨st.known.set i f, st.readings, st.next⟩, [(f : Int)]) := if_neg (by omega)
        rw [e] at k
        obtain ⟨as, hlr, hA⟩ := S.reads
        refine ⟨_, rfl, _, rfl, s, _, dx, _, _, rfl, hs, T.cl_Session, T.n_Session_facts, rfl, _, rfl, lf, _, _, i, rfl, rfl, S.facts, ?_, ?_⟩
        · unfold ixN
          rw [if_pos (by omega), vi_len, if_pos (by omega)]
          rfl
        · refine ⟨_, rfl, (by show 1 ≤ sizeLine; decide), fun p hp => ?_⟩
          have hpl : lf ≠ p := ne_of_none upd_same hp
          have hp0 : H p = none := by rw [upd_ne hpl.symm] at hp; exact hp
          have ev : (vi st.known).set i (V.int (f : Int)) = vi (st.known.set i f) := by
            unfold vi
            rw [List.map_set]
          refine k _ p (Nxt.then (H' := upd H lf (.lst ((vi st.known).set i (V.int (f : Int))))) ⟨R, ⟨F, lf, lr, ⟨same_upd S.sub S.ff, S.fs, S.ff, S.fr, S.nfr, ⟨dx, by rw [upd_ne S.ns.1]; exact hs⟩, ?_, as, by rw [upd_ne S.nfr.symm]; exact hlr, hA⟩, hF, Rs, Rf, Rr⟩, fun b h => .inl h, fun b o e q => ?_⟩ (same_new hp)) hp0 upd_same
          · show upd H lf _ lf = some (.lst (vi (st.known.set i f)))
            rw [upd_same, ev]
          · rw [upd_ne (fun z => q (by rw [z]; exact Rf))]
            exact e
end
end Ts
end
section
set_option maxRecDepth 100000
set_option maxHeartbeats 4000000
namespace Ts
open PySem PySem.Spec PyProof.Rows L2
section
variable {P : Program} {w : World} {K : PySem.W.Frag} {mg : Str → Option Value} {base : Heap}
/-! ### drop -/
theorem left_all {xs : List (Nat × Lf06.Reading)} {r : Nat} (h : xs.any (fun x => x.1 == r) = false) : xs.filter (fun x => x.1 != r) = xs := by
  refine List.filter_eq_self.mpr fun x hx => ?_
  have h2 := List.any_eq_false.mp h x hx
  simpa using h2
theorem left_len : ∀ {xs : List (Nat × Lf06.Reading)} {r : Nat}, (xs.map fun x => x.1).Nodup → xs.any (fun x => x.1 == r) = true → (xs.filter fun x => x.1 != r).length + 1 = xs.length
  | [], r, _, h => by cases h
  | x :: xs, r, nd, h => by
    obtain ⟨n1, n2⟩ := List.nodup_cons.mp (show (x.1 :: xs.map fun x => x.1).Nodup from nd)
    rw [List.filter_cons]
    by_cases c : x.1 = r
    · rw [if_neg (by simp [c])]
      have e : xs.any (fun x => x.1 == r) = false := List.any_eq_false.mpr fun y hy q => by
        have : y.1 = r := eq_of_beq q
        exact n1 (List.mem_map.mpr ⟨y, hy, by rw [this, c]⟩)
      rw [left_all e]
      rfl
    · rw [if_pos (by simp [c])]
      have h2 : xs.any (fun x => x.1 == r) = true := by
        have : ((x.1 == r) || xs.any (fun x => x.1 == r)) = true := h
        simpa [c] using this
      have ih := left_len n2 h2
      show (xs.filter fun x => x.1 != r).length + 1 + 1 = xs.length + 1
      omega
def spDrop (K : PySem.W.Frag) : Sp := fun vs H Q _ => ∃ (s : Addr) (r : Nat) (R : Addr → Prop) (st : Lf06.St), vs = [.ref s, .int r] ∧ Sess K R H s st ∧ WfN st ∧ Turn K R H s Q (Lf06.step st (.drop r))
theorem ok_answer_drop (T : Tx K mg) : DefOk P w K mg base 1 (He.ga K "answer_drop") ["session", "number"] (spDrop K) := by
  obtain ⟨t2, i2⟩ := T.i_NOT_THERE
  refine mkDef T.f_answer_drop sc_answer_drop (fun _ _ _ _ _ _ us hl => match us, hl with | [_, _], _ => rfl) (fun vs H Q E h => ?_) (fun cdv A outer s H vs Q E hr h => ?_)
  · obtain ⟨s, r, R, st, rfl, _⟩ := h
    rfl
  · obtain ⟨s, r, R, st, rfl, hS, W, k⟩ := h
    refine ⟨_, pss_cons (ps_setLc (i := 2) (own := [("reading", 3)]) (g := gName 3) (tt := tTest (tOp rNe (tFld K (tVar 3) "number") (tVar 1))) (te := tVar 3) rfl sc_answer_drop.nd rfl rfl (sw_true rfl rfl rfl (by decide +kernel)) (pi_list (pe_fld (pv 0) rfl))
          (blkOk_by (own := [("reading", 3)]) (N := nm_answer_drop) (sc := defScope s_answer_drop) (by decide +kernel)) (fun _ _ _ _ _ => pg_name (i := 3) sc_answer_drop.nd rfl (Or.inl rfl)) (fun _ _ _ _ _ => by exact pts_one (pt_cmpR op_ne (pe_fld (pv 3) rfl) (pv 1) (nomark _))) (fun _ _ _ _ _ => by exact pv 3))
      (pss_cons (ps_if (pt_cmpR op_eq (pe_callB call_len_seq (by rfl) T.z_len PySem.boot_len (pa_cons (pv 2) pa_nil)) (pe_callB call_len_seq (by rfl) T.z_len PySem.boot_len (pa_cons (pe_fld (pv 0) rfl) pa_nil)) (nomark _)) (pss_one (ps_ret (pe_lst (pa_cons (pe_gi i2) pa_nil)))) pss_nil)
      (pss_cons (ps_fld (pv 0) (pv 2) rfl)
      (pss_one (ps_ret (pe_lst (pa_cons (pe_callB call_len_seq (by rfl) T.z_len PySem.boot_len (pa_cons (pv 2) pa_nil)) pa_nil)))))), ?_⟩
    obtain ⟨F, lf, lr, S, hF, Rs, Rf, Rr⟩ := id hS
    obtain ⟨dx, hs⟩ := S.obj
    obtain ⟨as, hlr, hA⟩ := S.reads
    refine ⟨_, rfl, s, _, dx, _, _, rfl, hs, T.cl_Session, T.n_Session_readings, rfl, lr, rfl, ⟨_, SqL.of hlr⟩, fun D hD => lc_list (K := K) (a := lr) (xs := as.map V.ref) (fun i H' => Same H H' ∧ ∃ bs : List Addr, H' D = some (.lst (bs.map V.ref)) ∧ All2 (ReadAt K F) bs ((st.readings.take i).filter fun x => x.1 != r)) ⟨same_new hD, [], upd_same, trivial⟩ (fun i H' _ G => SqL.of (G.1 _ _ hlr)) ?_ ?_⟩
    · rintro i y H' hi ⟨s1, bs, h1, hB⟩
      obtain ⟨c, hc, rfl⟩ := get_map hi
      obtain ⟨x, hx, hR⟩ := hA.get hc
      obtain ⟨dr, lm, hcr, _⟩ := id hR
      refine ⟨rfl, _, rfl, c, _, dr, _, _, rfl, s1 _ _ (S.sub _ _ hcr), T.cl_Reading, T.n_Reading_number, rfl, _, rfl, rfl, _, rfl, ?_⟩
      have et : (st.readings.take (i + 1)).filter (fun x => x.1 != r) = (st.readings.take i).filter (fun x => x.1 != r) ++ if (x.1 != r) = true then [x] else [] := by
        rw [take_snoc hx, List.filter_append, List.filter_cons, List.filter_nil]
      have eb : (!decide (V.int (x.1 : Int) = V.int (r : Int))) = (x.1 != r) := ndec_vint _ _
      refine ite2 (fun q => ?_) (fun q => ?_)
      · rw [eb] at q
        rw [if_pos q] at et
        refine ⟨_, rfl, _, h1, ?_, same_upd s1 hD, bs ++ [c], ?_, by rw [et]; exact hB.snoc hR⟩
        · rw [List.length_map, hB.len]
          exact Nat.lt_of_le_of_lt (Nat.le_trans (List.length_filter_le _ _) (Nat.le_trans (List.length_take_le' _ _) W.good.1)) (by decide)
        · rw [upd_same, List.map_append]
          rfl
      · rw [eb] at q
        rw [if_neg q, List.append_nil] at et
        exact ⟨s1, bs, h1, by rw [et]; exact hB⟩
    · rintro H1 ⟨s1, bs, h1, hB⟩
      rw [List.length_map, hA.len, List.take_length] at hB
      refine ⟨_, rfl, D, _, rfl, .inl (SqL.of h1), _, rfl, s, _, dx, _, _, rfl, s1 _ _ hs, T.cl_Session, T.n_Session_readings, rfl, lr, _, rfl, .inl (SqL.of (s1 _ _ hlr)), rfl, _, rfl, ?_⟩
      rw [List.length_map, List.length_map, hB.len, hA.len]
      cases ha : st.readings.any (fun x => x.1 == r) with
      | false =>
        have e : Lf06.step st (.drop r) = (st, [-3]) := if_pos ha
        rw [e] at k
        rw [left_all ha]
        refine ite2 (fun q => ?_) (fun q => absurd (decide_eq_true rfl) q)
        refine ⟨(by show 1 ≤ sizeLine; decide), fun p hp => ?_⟩
        exact k _ p (Nxt.pure hS (s1.trans (same_new hp))) (s1.free hp) upd_same
      | true =>
        have e : Lf06.step st (.drop r) = (⟨st.known, st.readings.filter fun x => x.1 != r, st.next⟩, [((st.readings.length - 1 : Nat) : Int)]) := if_neg (by rw [ha]; decide)
        rw [e] at k
        have ll := left_len W.nd ha
        refine ite2 (fun q => ?_) (fun q => ?_)
        · have := V.int.inj (of_decide_eq_true q)
          omega
        · refine ⟨_, rfl, _, rfl, s, _, dx, _, rfl, s1 _ _ hs, T.cl_Session, T.n_Session_readings, (by show 3 < 1000; decide), ?_⟩
          have nDs : D ≠ s := (ne_of_none hs hD).symm
          refine ⟨_, rfl, D, _, rfl, .inl (SqL.of (by rw [upd_ne nDs]; exact h1)), (by show 1 ≤ sizeLine; decide), fun p hp => ?_⟩
          have hps : s ≠ p := ne_of_none upd_same hp
          have hp0 : H p = none := by rw [upd_ne hps.symm] at hp; exact s1.free hp
          have keep : ∀ b o, H b = some o → b ≠ s → upd H1 s (.ins (He.ga K "Session") dx (putF "readings" (.ref D) (fSession lf lr st.next))) b = some o := fun b o e q => by rw [upd_ne q]; exact s1 _ _ e
          have FD : F D = none := S.sub.free hD
          refine k _ p (Nxt.then (H' := upd H1 s (.ins (He.ga K "Session") dx (putF "readings" (.ref D) (fSession lf lr st.next)))) ⟨fun b => R b ∨ H b = none, ⟨F, lf, D, ⟨same_upd (S.sub.trans s1) S.fs, S.fs, S.ff, FD, ne_of_none S.facts hD, ⟨dx, upd_same⟩, keep _ _ S.facts S.ns.1.symm, bs, by rw [upd_ne nDs]; exact h1, hB⟩, fun b o e => .inl (hF b o e), .inl Rs, .inl Rf, .inr hD⟩, fun b h => h, fun b o e q => keep b o e fun z => q (by rw [z]; exact Rs)⟩ (same_new hp)) hp0 ?_
          unfold OutAt
          rw [upd_same, List.length_map, hB.len]
          have e3 : (st.readings.filter fun x => x.1 != r).length = st.readings.length - 1 := by omega
          rw [e3]
          rfl
/-! ### read -/
/-- one heap beside another -/
def join (F G : Hp) : Hp := fun b => match F b with
  | some o => some o
  | none => G b
theorem join_l {F G : Hp} : Same F (join F G) := fun b o e => by
  unfold join
  rw [e]
theorem join_r {F G : Hp} (h : ∀ b o, F b = some o → G b = none) : Same G (join F G) := fun b o e => by
  unfold join
  cases q : F b with
  | none => exact e
  | some u =>
    rw [h b u q] at e
    cases e
theorem join_some {F G : Hp} {b : Addr} {o : HO} (h : join F G b = some o) : F b = some o ∨ G b = some o := by
  unfold join at h
  cases q : F b with
  | none =>
    rw [q] at h
    exact .inr h
  | some u =>
    rw [q] at h
    exact .inl h
theorem join_none {F G : Hp} {b : Addr} (h : F b = none) (g : G b = none) : join F G b = none := by
  unfold join
  rw [h]
  exact g
def spRead (K : PySem.W.Frag) : Sp := fun vs H Q _ => ∃ (s a : Addr) (ms : List Lf06.Mark) (R : Addr → Prop) (st : Lf06.St), vs = [.ref s, .ref a] ∧ Sess K R H s st ∧ st.readings.length ≤ 1000 ∧ IntsAt H a (flatM ms) ∧ ms.length ≤ 1000 ∧ Turn K R H s Q (Lf06.step st (.read ms))
theorem ok_answer_read (T : Tx K mg) : DefOk P w K mg base 4 (He.ga K "answer_read") ["session", "numbers"] (spRead K) := by
  obtain ⟨fd1, G1, b1, kp1⟩ := ok_marks_of (P := P) (w := w) (base := base) T
  obtain ⟨fd2, G2, b2, kp2⟩ := ok_marks_are_as_told (P := P) (w := w) (base := base) T
  obtain ⟨fd3, G3, b3, kp3⟩ := ok_Reading_init (P := P) (w := w) (base := base) T
  obtain ⟨t1, i1⟩ := T.i_NOT_AS_TOLD
  obtain ⟨t2, i2⟩ := T.i_MOST_READINGS
  obtain ⟨t3, i3⟩ := T.i_FULL
  refine mkDef T.f_answer_read sc_answer_read (fun _ _ _ _ _ _ us hl => match us, hl with | [_, _], _ => rfl) (fun vs H Q E h => ?_) (fun cdv A outer s H vs Q E hr h => ?_)
  · obtain ⟨s, a, ms, R, st, rfl, _⟩ := h
    rfl
  · obtain ⟨s, a, ms, R, st, rfl, hS, hrl, ha, hml, k⟩ := h
    refine ⟨_, pss_cons (ps_set (i := 2) sc_answer_read.nd rfl (Or.inl rfl) (pe_call G1 hr rfl T.g_marks_of kp1 b1 .nil pass0 (pa_cons (pv 1) pa_nil)))
      (pss_cons (ps_if (pt_not (pt_val (pe_call G2 hr rfl T.g_marks_are_as_told kp2 b2 .nil pass0 (pa_cons (pv 0) (pa_cons (pv 2) pa_nil))))) (pss_one (ps_ret (pe_lst (pa_cons (pe_gi i1) pa_nil)))) pss_nil)
      (pss_cons (ps_if (pt_cmpR op_ge (pe_callB call_len_seq (by rfl) T.z_len PySem.boot_len (pa_cons (pe_fld (pv 0) rfl) pa_nil)) (pe_gi i2) (nomark _)) (pss_one (ps_ret (pe_lst (pa_cons (pe_gi i3) pa_nil)))) pss_nil)
      (pss_cons (ps_set (i := 3) sc_answer_read.nd rfl (Or.inl rfl) (pe_make T.mk_Reading G3 (hr.mono (by decide)) rfl T.g_Reading b3 .nil pass0 (pa_cons (pe_fld (pv 0) rfl) (pa_cons (pv 2) pa_nil))))
      (pss_cons (ps_expr (pe_bm PySem.F.plainAttrs_list PySem.F.slot_list_append PySem.F.type_list_append mt_append (pe_fld (pv 0) rfl) (pa_cons (pv 3) pa_nil)))
      (pss_cons (ps_fld (pv 0) (pe_op op_add (pe_fld (pv 0) rfl) pe_int) rfl)
      (pss_one (ps_ret (pe_lst (pa_cons (pe_fld (pv 3) rfl) pa_nil))))))))), ?_⟩
    obtain ⟨F, lf, lr, S, hF, Rs, Rf, Rr⟩ := id hS
    obtain ⟨dx, hs⟩ := S.obj
    obtain ⟨as, hlr, hA⟩ := S.reads
    refine ⟨_, rfl, a, ms, rfl, ha, hml, fun H1 lm s1 hM => ?_⟩
    have hM1 : ListAt (MarkAt K) H1 lm ms := hM.same fresh_sub fun _ _ q => q.same fresh_sub
    refine ⟨_, rfl, _, rfl, s, lm, st, ms, rfl, S.at.same s1, hM1, hml, fun H2 s2 => ⟨_, rfl, ?_⟩⟩
    have s02 := s1.trans s2
    cases hr0 : Lf06.isReading st.known.length ms with
    | false =>
      have e : Lf06.step st (.read ms) = (st, [-1]) := if_pos hr0
      rw [e] at k
      refine iteT ⟨(by show 1 ≤ sizeLine; decide), fun p hp => ?_⟩
      exact k _ p (Nxt.pure hS (s02.trans (same_new hp))) (s02.free hp) upd_same
    | true =>
      refine iteF ?_
      refine ⟨_, rfl, s, _, dx, _, _, rfl, s02 _ _ hs, T.cl_Session, T.n_Session_readings, rfl, lr, _, rfl, .inl (SqL.of (s02 _ _ hlr)), _, _, rfl, rfl, _, rfl, ?_⟩
      rw [List.length_map, hA.len]
      refine ite2 (fun q => ?_) (fun q => ?_)
      · have q1 : 10 ≤ st.readings.length := by have := of_decide_eq_true q; omega
        have e : Lf06.step st (.read ms) = (st, [-5]) := (if_neg (by rw [hr0]; decide)).trans (if_pos q1)
        rw [e] at k
        refine ⟨(by show 1 ≤ sizeLine; decide), fun p hp => ?_⟩
        exact k _ p (Nxt.pure hS (s02.trans (same_new hp))) (s02.free hp) upd_same
      · have q1 : ¬ 10 ≤ st.readings.length := fun z => q (decide_eq_true (by omega))
        have e : Lf06.step st (.read ms) = (⟨st.known, st.readings ++ [(st.next, ms)], st.next + 1⟩, [(st.next : Int)]) := (if_neg (by rw [hr0]; decide)).trans (if_neg q1)
        rw [e] at k
        -- reading = Reading(session.next_number, marks)
        refine ⟨_, rfl, s, _, dx, _, _, rfl, s02 _ _ hs, T.cl_Session, T.n_Session_next_number, rfl, _, rfl, ?_⟩
        intro x dr nx ndr ner
        refine ⟨x, dr, (st.next : Int), lm, rfl, upd_same, rfl, ?_⟩
        rw [upd_upd]
        generalize hH3 : upd (upd H2 dr (.own x)) x (.ins (He.ga K "Reading") dr (fReading (st.next : Int) lm)) = H3
        have s23 : Same H2 H3 := by rw [← hH3]; exact same_make nx ndr
        have s03 := s02.trans s23
        have hx3 : H3 x = some (.ins (He.ga K "Reading") dr (fReading (st.next : Int) lm)) := by rw [← hH3, upd_same]
        have hx0 : H x = none := s02.free nx
        have nxs : x ≠ s := (ne_of_none hs hx0).symm
        have nxlr : x ≠ lr := (ne_of_none hlr hx0).symm
        -- session.readings.append(reading)
        refine ⟨_, rfl, s, _, dx, _, _, rfl, s03 _ _ hs, T.cl_Session, T.n_Session_readings, rfl, .inl ⟨rfl, _, SqL.of (s03 _ _ hlr)⟩, _, rfl, lr, _, _, rfl, rfl, s03 _ _ hlr, (by rw [List.length_map, hA.len]; exact Nat.lt_of_le_of_lt hrl (by decide)), ?_⟩
        have nslr := S.ns.2
        -- session.next_number = session.next_number + 1
        refine ⟨_, rfl, s, _, dx, _, _, rfl, (by rw [upd_ne nslr]; exact s03 _ _ hs), T.cl_Session, T.n_Session_next_number, rfl, _, _, rfl, rfl, _, rfl, s, _, dx, _, rfl, (by rw [upd_ne nslr]; exact s03 _ _ hs), T.cl_Session, T.n_Session_next_number, (by show 3 < 1000; decide), ?_⟩
        refine ⟨_, rfl, x, _, dr, _, _, rfl, (by rw [upd_ne nxs, upd_ne nxlr]; exact hx3), T.cl_Reading, T.n_Reading_number, rfl, (by show 1 ≤ sizeLine; decide), fun p hp => ?_⟩
        generalize hH4 : upd (upd H3 lr (.lst (as.map V.ref ++ [V.ref x]))) s (.ins (He.ga K "Session") dx (putF "next_number" (.int ((st.next : Int) + 1)) (fSession lf lr st.next))) = H4 at hp
        have hs4 : H4 s = some (.ins (He.ga K "Session") dx (fSession lf lr ((st.next + 1 : Nat) : Int))) := by rw [← hH4, upd_same]; rfl
        have hlr4 : H4 lr = some (.lst ((as ++ [x]).map V.ref)) := by
          rw [← hH4, upd_ne nslr.symm, upd_same, List.map_append]
          rfl
        have keep3 : ∀ b o, H3 b = some o → b ≠ s → b ≠ lr → H4 b = some o := fun b o e z1 z2 => by
          rw [← hH4, upd_ne z1, upd_ne z2]
          exact e
        have keep : ∀ b o, H b = some o → b ≠ s → b ≠ lr → H4 b = some o := fun b o e z1 z2 => keep3 b o (s03 _ _ e) z1 z2
        have hp0 : H p = none := by
          cases e : H p with
          | none => rfl
          | some o =>
            by_cases z1 : p = s
            · rw [z1, hs4] at hp
              cases hp
            · by_cases z2 : p = lr
              · rw [z2, hlr4] at hp
                cases hp
              · rw [keep _ _ e z1 z2] at hp
                cases hp
        -- what is the session's own now
        have dj : ∀ b o, F b = some o → fresh H H3 b = none := fun b o e => fresh_old (S.sub _ _ e)
        have jr : Same (fresh H H3) (join F (fresh H H3)) := join_r dj
        have sub4 : Same (join F (fresh H H3)) H4 := fun b o e => by
          rcases join_some e with e | e
          · exact keep _ _ (S.sub _ _ e) (ne_of_none e S.fs) (ne_of_none e S.fr)
          · obtain ⟨e1, e2⟩ := fresh_some e
            exact keep3 _ _ e2 (ne_of_none hs e1).symm (ne_of_none hlr e1).symm
        have rd : ReadAt K (join F (fresh H H3)) x (st.next, ms) := by
          refine ⟨dr, lm, jr _ _ (by rw [fresh_new hx0]; exact hx3), ?_⟩
          have z : Same (fresh H H1) (join F (fresh H H3)) := (fresh_same (s2.trans s23)).trans jr
          exact hM.same z fun _ _ r => r.same z
        refine k _ p (Nxt.then (H' := H4) ⟨fun b => R b ∨ H b = none, ⟨join F (fresh H H3), lf, lr, ⟨sub4, join_none S.fs (fresh_old hs), join_none S.ff (fresh_old S.facts), join_none S.fr (fresh_old hlr), S.nfr, ⟨dx, hs4⟩, keep _ _ S.facts S.ns.1.symm S.nfr, as ++ [x], hlr4, (hA.mono fun _ _ r => r.same join_l).snoc rd⟩, fun b o e => ?_, .inl Rs, .inl Rf, .inl Rr⟩, fun b h => h, fun b o e q => keep b o e (fun z => q (by rw [z]; exact Rs)) (fun z => q (by rw [z]; exact Rr))⟩ (same_new hp)) hp0 upd_same
        rcases join_some e with e | e
        · exact .inl (hF b o e)
        · exact .inr (fresh_some e).1
end
end Ts
end
section
set_option maxRecDepth 100000
set_option maxHeartbeats 4000000
namespace Ts
open PySem PySem.Spec PyProof.Rows L2
/-! ### a state stays as it may be -/
theorem step_wf {st : Lf06.St} {x : Lf06.Call} (W : WfN st) (hx : ∀ ms, x = .read ms → ms.length ≤ 1000) : WfN (Lf06.step st x).1 := by
  cases x with
  | start n =>
    show WfN (if n = 0 ∨ 6 < n then (st, [-1]) else ((⟨List.replicate n 3, [], 1⟩ : Lf06.St), [(n : Int)])).1
    by_cases c : n = 0 ∨ 6 < n
    · rw [if_pos c]
      exact W
    · rw [if_neg c]
      exact { n1 := by show 1 ≤ (List.replicate n 3).length; rw [List.length_replicate]; omega, n6 := by show (List.replicate n 3).length ≤ 6; rw [List.length_replicate]; omega, k3 := fun k hk => by have := (List.mem_replicate.mp hk).2; omega,
              good := ⟨Nat.zero_le _, fun x hx => by cases hx⟩, nd := List.nodup_nil, lt := (fun x hx => by cases hx), ne := fun x hx => by cases hx }
  | known i k =>
    show WfN (if st.known.length ≤ i ∨ 3 < k then (st, [-1]) else ((⟨st.known.set i k, st.readings, st.next⟩ : Lf06.St), [(k : Int)])).1
    by_cases c : st.known.length ≤ i ∨ 3 < k
    · rw [if_pos c]
      exact W
    · rw [if_neg c]
      refine { n1 := by show 1 ≤ (st.known.set i k).length; rw [List.length_set]; exact W.n1, n6 := by show (st.known.set i k).length ≤ 6; rw [List.length_set]; exact W.n6, k3 := fun y hy => ?_, good := ?_, nd := W.nd, lt := W.lt, ne := W.ne }
      · rcases List.mem_or_eq_of_mem_set hy with h | h
        · exact W.k3 y h
        · omega
      · show Good (st.known.set i k).length st.readings
        rw [List.length_set]
        exact W.good
  | read ms =>
    show WfN (if Lf06.isReading st.known.length ms = false then (st, [-1]) else if 10 ≤ st.readings.length then (st, [-5]) else ((⟨st.known, st.readings ++ [(st.next, ms)], st.next + 1⟩ : Lf06.St), [(st.next : Int)])).1
    by_cases c : Lf06.isReading st.known.length ms = false
    · rw [if_pos c]
      exact W
    · rw [if_neg c]
      by_cases c2 : 10 ≤ st.readings.length
      · rw [if_pos c2]
        exact W
      · rw [if_neg c2]
        have c3 : Lf06.isReading st.known.length ms = true := by simpa using c
        rw [isReading_eq] at c3
        obtain ⟨c0, c4⟩ := Bool.and_eq_true_iff.mp c3
        obtain ⟨c5, _⟩ := Bool.and_eq_true_iff.mp c4
        refine { n1 := W.n1, n6 := W.n6, k3 := W.k3, good := ⟨?_, fun y hy => ?_⟩, nd := ?_, lt := fun y hy => ?_, ne := fun y hy => ?_ }
        · show (st.readings ++ [(st.next, ms)]).length ≤ 1000
          rw [List.length_append, List.length_singleton]
          omega
        · rcases List.mem_append.mp hy with h | h
          · exact W.good.2 y h
          · have e : y = (st.next, ms) := by simpa using h
            subst e
            refine ⟨hx ms rfl, fun m hm => ?_⟩
            have q := List.all_eq_true.mp c5 m hm
            exact of_decide_eq_true (Bool.and_eq_true_iff.mp q).1
        · show ((st.readings ++ [(st.next, ms)]).map fun x => x.1).Nodup
          rw [List.map_append]
          refine List.nodup_append.mpr ⟨W.nd, by simp, fun a ha b hb => ?_⟩
          obtain ⟨y, hy, rfl⟩ := List.mem_map.mp ha
          have hb' : b = st.next := by simpa using hb
          have := W.lt y hy
          omega
        · show y.1 < st.next + 1
          rcases List.mem_append.mp hy with h | h
          · have := W.lt y h
            omega
          · have e : y = (st.next, ms) := by simpa using h
            subst e
            show st.next < st.next + 1
            omega
        · rcases List.mem_append.mp hy with h | h
          · exact W.ne y h
          · have e : y = (st.next, ms) := by simpa using h
            subst e
            show 0 < ms.length
            cases ms with
            | nil => cases c0
            | cons _ _ => exact Nat.succ_pos _
  | drop k =>
    show WfN (if st.readings.any (fun x => x.1 == k) = false then (st, [-3]) else ((⟨st.known, st.readings.filter fun x => x.1 != k, st.next⟩ : Lf06.St), [((st.readings.length - 1 : Nat) : Int)])).1
    by_cases c : st.readings.any (fun x => x.1 == k) = false
    · rw [if_pos c]
      exact W
    · rw [if_neg c]
      exact { n1 := W.n1, n6 := W.n6, k3 := W.k3, good := ⟨Nat.le_trans (List.length_filter_le _ _) W.good.1, fun y hy => W.good.2 y (List.mem_filter.mp hy).1⟩,
              nd := List.Pairwise.sublist (List.Sublist.map _ List.filter_sublist) W.nd, lt := (fun y hy => W.lt y (List.mem_filter.mp hy).1), ne := fun y hy => W.ne y (List.mem_filter.mp hy).1 }
  | best => exact W
  | nth i => exact W
  | sides => exact W
  | tie i j => exact W
  | placed i => exact W
  | blocks => exact W
  | thrown => exact W
  | cost a b => exact W
  | shows => exact W
/-! ### the calls one behind another -/
def stepW (s : Lf06.St) (c : List (List Int)) : Lf06.St × List Int := Lf06Neutral.step s (c.headD [])
/-- from i on stand the calls rest; what was told so far and what they tell are all that is due -/
def LoopAt (ns : List Int) (i : Nat) (st : Lf06.St) (gv : List Int) : Prop := ∃ f rest, PyFlat.calls PyLf06.shape f (ns.drop i) = some rest ∧
  (∀ c ∈ rest, PyInside.call PyLf06.bound c = true ∧ Lf06Neutral.asked1 ((PyLf06.whole c).headD []) = true) ∧ PyLf06.answers ns = gv ++ PyFlat.told (PyFlat.played stepW st (rest.map PyLf06.whole))
theorem loop_start {ns : List Int} (h : PyLf06.answers_asked ns = true) : LoopAt ns 0 Lf06.init [] ∧ (PyLf06.answers ns).length ≤ 10000000 := by
  unfold PyLf06.answers_asked at h
  cases e : PyFlat.calls PyLf06.shape ns.length ns with
  | none =>
    rw [e] at h
    cases h
  | some raw =>
    rw [e] at h
    have h0 : (!raw.isEmpty && PyFlat.atMost 40 raw && PyInside.calls PyLf06.bound raw && Lf06Neutral.asked ((raw.map PyLf06.whole).map fun c => c.headD []) && PyFlat.short 10000000 (PyLf06.answers ns)) = true := h
    simp only [Bool.and_eq_true] at h0
    obtain ⟨⟨⟨_, h3⟩, h4⟩, h5⟩ := h0
    refine ⟨⟨ns.length, raw, e, fun c hc => ⟨List.all_eq_true.mp h3 c hc, ?_⟩, ?_⟩, of_decide_eq_true h5⟩
    · unfold Lf06Neutral.asked at h4
      have h6 := (Bool.and_eq_true_iff.mp h4).1
      exact List.all_eq_true.mp h6 _ (List.mem_map.mpr ⟨PyLf06.whole c, List.mem_map.mpr ⟨c, hc, rfl⟩, rfl⟩)
    · rw [List.nil_append]
      unfold PyLf06.answers PyLf06.calls
      rw [e]
      rfl
theorem loop_end {ns : List Int} {i : Nat} {st : Lf06.St} {gv : List Int} (L : LoopAt ns i st gv) (h : ns.length ≤ i) : gv = PyLf06.answers ns := by
  obtain ⟨f, rest, h1, _, h3⟩ := L
  rw [List.drop_eq_nil_of_le h] at h1
  have e : rest = [] := by
    cases f <;> exact (Option.some.inj h1).symm
  subst e
  rw [h3]
  exact (List.append_nil gv).symm
theorem loop_turn {ns : List Int} {i : Nat} {st : Lf06.St} {gv : List Int} (L : LoopAt ns i st gv) (h : i < ns.length) :
    ∃ x j, CallAt ns i x j ∧ i < j ∧ j ≤ ns.length ∧ LoopAt ns j (Lf06.step st x).1 (gv ++ ((Lf06.step st x).2.length : Int) :: (Lf06.step st x).2) := by
  obtain ⟨f, rest, h1, h2, h3⟩ := L
  cases e : ns.drop i with
  | nil =>
    have := congrArg List.length e
    rw [List.length_drop, List.length_nil] at this
    omega
  | cons p r =>
    rw [e] at h1
    cases f with
    | zero => cases h1
    | succ f =>
      have h4 : (match PyFlat.call PyLf06.shape (p :: r) with
        | none => none
        | some (c, t) => match PyFlat.calls PyLf06.shape f t with
          | none => none
          | some cs => some (c :: cs)) = some rest := h1
      cases ec : PyFlat.call PyLf06.shape (p :: r) with
      | none =>
        rw [ec] at h4
        cases h4
      | some ct =>
        obtain ⟨c, t⟩ := ct
        rw [ec] at h4
        have h5 : (match PyFlat.calls PyLf06.shape f t with
          | none => none
          | some cs => some (c :: cs)) = some rest := h4
        cases es : PyFlat.calls PyLf06.shape f t with
        | none =>
          rw [es] at h5
          cases h5
        | some cs =>
          rw [es] at h5
          have e5 : c :: cs = rest := Option.some.inj h5
          subst e5
          obtain ⟨b1, b2⟩ := h2 c (by simp)
          obtain ⟨x, j, q1, q2, q3, q4, q5⟩ := parsed (ns := ns) (i := i) (by rw [e]; exact ec) b1 b2
          refine ⟨x, j, q2, q4, q5, f, cs, by rw [q3]; exact es, fun d hd => h2 d (by simp [hd]), ?_⟩
          have e6 : stepW st (PyLf06.whole c) = ((Lf06.step st x).1, (Lf06.step st x).2) := by
            unfold stepW Lf06Neutral.step
            rw [q1]
          rw [h3, List.append_assoc]
          show gv ++ PyFlat.told ((stepW st (PyLf06.whole c)).2 :: PyFlat.played stepW (stepW st (PyLf06.whole c)).1 (cs.map PyLf06.whole)) = _
          rw [e6]
          rfl
section
variable {P : Program} {w : World} {K : PySem.W.Frag} {mg : Str → Option Value} {base : Heap}
/-! ### one call -/
def spCall (K : PySem.W.Frag) : Sp := fun vs H Q _ => ∃ (s tp dt a : Addr) (i j : Nat) (ns : List Int) (R : Addr → Prop) (st : Lf06.St) (x : Lf06.Call),
  vs = [.ref s, .ref tp] ∧ Sess K R H s st ∧ WfN st ∧ ¬ R tp ∧ H tp = some (.ins (He.ga K "Tape") dt (fTape a i)) ∧ SqL K H a (ns.map V.int) ∧ CallAt ns i x j ∧
  ∀ (H' : Hp) (p : Addr) (R' : Addr → Prop), Sess K R' H' s (Lf06.step st x).1 → (∀ b, R' b → R b ∨ H b = none) → (∀ b o, H b = some o → ¬ R b → b ≠ tp → H' b = some o) →
    H' tp = some (.ins (He.ga K "Tape") dt (fTape a j)) → H p = none → OutAt H' p (Lf06.step st x).2 → Q (.ref p) H'
/-! ### all calls -/
def spAnswers (K : PySem.W.Frag) : Sp := fun vs H Q _ => ∃ (a : Addr) (ns : List Int), vs = [.ref a] ∧ SqL K H a (ns.map V.int) ∧ PyLf06.answers_asked ns = true ∧ ∀ (H' : Hp) (p : Addr), H' p = some (.lst ((PyLf06.answers ns).map V.int)) → Q (.ref p) H'
theorem ok_answers {k : Nat} (hk : 3 ≤ k) (T : Tx K mg) (hc : DefOk P w K mg base k (He.ga K "answer_call") ["session", "tape"] (spCall K)) {fd : FuncData} (F : FnP K "answers" "answers" s_answers (He.ga K "answers") fd) : FnOk P w K mg base CX0 (k + 1) (He.ga K "answers") fd ["calls"] (spAnswers K) := by
  obtain ⟨fd1, G1, b1, kp1⟩ := ok_Tape_init (P := P) (w := w) (base := base) T
  obtain ⟨fd2, G2, b2, kp2⟩ := ok_Session_init (P := P) (w := w) (base := base) T
  obtain ⟨fd3, G3, b3, kp3⟩ := ok_Tape_ended (P := P) (w := w) (base := base) T
  obtain ⟨fd4, G4, b4, kp4⟩ := hc
  refine mkFn F sc_answers (fun vs H Q E h => ?_) (fun cdv A outer s H vs Q E hr h => ?_)
  · obtain ⟨a, ns, rfl, _⟩ := h
    rfl
  · obtain ⟨a, ns, rfl, hS, hask, k0⟩ := h
    refine ⟨_, pss_cons (ps_set (i := 1) sc_answers.nd rfl (Or.inl rfl) (pe_make T.mk_Tape G1 (hr.mono (by omega)) rfl T.g_Tape b1 .nil pass0 (pa_cons (pv 0) pa_nil)))
      (pss_cons (ps_set (i := 2) sc_answers.nd rfl (Or.inl rfl) (pe_make0 T.mk_Session G2 (hr.mono (by omega)) rfl T.g_Session b2 .nil pass0))
      (pss_cons (ps_set (i := 3) sc_answers.nd rfl (Or.inl rfl) (pe_lst pa_nil))
      (pss_cons (ps_while PassesOwn.never (pt_not (pt_val (pe_meth0 (pv 1) T.cl_Tape T.m_Tape_ended G3 (hr.mono (by omega)) b3 .nil pass0)))
        (pss_cons (ps_set (i := 4) sc_answers.nd rfl (Or.inl rfl) (pe_call G4 hr rfl T.g_answer_call kp4 b4 .nil pass0 (pa_cons (pv 2) (pa_cons (pv 1) pa_nil))))
        (pss_cons (ps_expr (pe_bm PySem.F.plainAttrs_list PySem.F.slot_list_append PySem.F.type_list_append mt_append (pv 3) (pa_cons (pe_callB call_len_seq (by rfl) T.z_len PySem.boot_len (pa_cons (pv 4) pa_nil)) pa_nil)))
        (pss_one (ps_expr (pe_bm PySem.F.plainAttrs_list PySem.F.slot_list_extend PySem.F.type_list_extend mt_extend (pv 3) (pa_cons (pv 4) pa_nil)))))))
      (pss_one (ps_ret (pv 3)))))), ?_⟩
    obtain ⟨L0, hmax⟩ := loop_start hask
    -- tape = Tape(calls)
    refine ⟨_, rfl, ?_⟩
    intro tp dt ntp ndt net
    refine ⟨tp, dt, a, rfl, upd_same, rfl, ?_⟩
    rw [upd_upd]
    generalize hH1 : upd (upd H dt (.own tp)) tp (.ins (He.ga K "Tape") dt (fTape a 0)) = H1
    have s1 : Same H H1 := by rw [← hH1]; exact same_make ntp ndt
    have htp1 : H1 tp = some (.ins (He.ga K "Tape") dt (fTape a (0 : Nat))) := by rw [← hH1, upd_same]; rfl
    -- session = Session()
    intro s ds ns0 nds nes
    refine ⟨s, ds, rfl, upd_same, fun H2 lf lr f1 f2 f3 f4 f5 f6 f7 => ⟨rfl, ?_⟩⟩
    have e12 : Same H1 (upd (upd H1 ds (.own s)) s (.ins (He.ga K "Session") ds [])) := same_make ns0 nds
    have s12 : Same H1 H2 := fun b o e => f7 b o (e12 _ _ e) (ne_of_none e ns0)
    have lf1 : H1 lf = none := e12.free f1
    have lr1 : H1 lr = none := e12.free f2
    -- given = []
    refine ⟨Nat.zero_le _, fun g hg => ?_⟩
    have ng : H2 g = none := hg
    have s23 := same_new (o := .lst []) hg
    have htg : tp ≠ g := ne_of_none (s12 _ _ htp1) hg
    have inv0 : Sess K (fun b => b = s ∨ b = lf ∨ b = lr) (upd H2 g (.lst [])) s Lf06.init := by
      refine Sess.same ⟨fun _ => none, lf, lr, ⟨(fun b o e => by cases e), rfl, rfl, rfl, f3, ⟨ds, f4⟩, f5, [], f6, trivial⟩, (fun b o e => by cases e), .inl rfl, .inr (.inl rfl), .inr (.inr rfl)⟩ s23
    refine ⟨fun m σ H' => ∃ (i : Nat) (st : Lf06.St) (gv : List Int) (R : Addr → Prop) (v4 : Option V), i + m = ns.length ∧ σ = [some (.ref a), some (.ref tp), some (.ref s), some (.ref g), v4] ∧ Sess K R H' s st ∧ WfN st ∧ ¬ R tp ∧ ¬ R g ∧ (∀ b o, H b = some o → ¬ R b) ∧ Same H H' ∧
      H' tp = some (.ins (He.ga K "Tape") dt (fTape a i)) ∧ H' g = some (.lst (gv.map V.int)) ∧ LoopAt ns i st gv, ⟨ns.length, 0, Lf06.init, [], _, none, by omega, rfl, inv0, ?_, ?_, ?_, ?_, (s1.trans s12).trans s23, s23 _ _ (s12 _ _ htp1), upd_same, L0⟩, ?_⟩
    · exact { n1 := by decide, n6 := by decide, k3 := by decide, good := ⟨Nat.zero_le _, fun x hx => by cases hx⟩, nd := List.nodup_nil, lt := (fun x hx => by cases hx), ne := fun x hx => by cases hx }
    · rintro (z | z | z)
      · exact ne_of_none htp1 ns0 z
      · exact ne_of_none htp1 lf1 z
      · exact ne_of_none htp1 lr1 z
    · rintro (z | z | z)
      · rw [z, f4] at ng
        cases ng
      · rw [z] at ng
        rw [show H2 lf = _ from f5] at ng
        cases ng
      · rw [z, f6] at ng
        cases ng
    · rintro b o e (z | z | z)
      · exact ne_of_none (s1 _ _ e) ns0 z
      · exact ne_of_none (s1 _ _ e) lf1 z
      · exact ne_of_none (s1 _ _ e) lr1 z
    · rintro m σ H3 ⟨i, st, gv, R, v4, him, rfl, hSe, W, nRt, nRg, nRH, s03, htp, hgv, L⟩
      refine ⟨_, rfl, tp, dt, _, rfl, htp, rfl, tp, dt, a, i, ns, rfl, htp, s03.seq hS, _, rfl, ?_⟩
      refine ite2 (fun c => ?_) (fun c => ?_)
      · have c1 : i < ns.length := by simpa using c
        obtain ⟨x, j, hx, hij, hj, L2⟩ := loop_turn L c1
        have hxr : ∀ ms, x = .read ms → ms.length ≤ 1000 := fun ms e => by
          subst e
          obtain ⟨_, m, _, _, _, h12, _⟩ := hx
          omega
        refine ⟨fun σ' H' => ∃ (st : Lf06.St) (gv : List Int) (R : Addr → Prop) (v4 : Option V), σ' = [some (.ref a), some (.ref tp), some (.ref s), some (.ref g), v4] ∧ Sess K R H' s st ∧ WfN st ∧ ¬ R tp ∧ ¬ R g ∧ (∀ b o, H b = some o → ¬ R b) ∧ Same H H' ∧
          H' tp = some (.ins (He.ga K "Tape") dt (fTape a j)) ∧ H' g = some (.lst (gv.map V.int)) ∧ LoopAt ns j st gv, ?_, ?_⟩
        · rintro σ' H' ⟨st, gv, R, v4, rfl, q⟩
          exact ⟨ns.length - j, by omega, j, st, gv, R, v4, by omega, rfl, q⟩
        · refine ⟨_, rfl, _, rfl, s, tp, dt, a, i, j, ns, R, st, x, rfl, hSe, W, nRt, htp, s03.seq hS, hx, fun H4 p R' q1 q2 q3 q4 q5 q6 => ?_⟩
          have g4 : H4 g = some (.lst (gv.map V.int)) := q3 _ _ hgv nRg htg.symm
          have s04 : Same H H4 := fun b o e => q3 b o (s03 _ _ e) (nRH b o e) (ne_of_none e ntp)
          have npg : p ≠ g := (ne_of_none hgv q5).symm
          have hlen : (gv ++ ((Lf06.step st x).2.length : Int) :: (Lf06.step st x).2).length ≤ 10000000 := by
            obtain ⟨_, _, _, _, e⟩ := L2
            have := congrArg List.length e
            rw [List.length_append] at this
            omega
          rw [List.length_append, List.length_cons] at hlen
          refine ⟨_, rfl, .inl ⟨rfl, _, SqL.of g4⟩, _, rfl, p, _, rfl, .inl (SqL.of q6), g, _, _, rfl, rfl, g4, (by rw [List.length_map]; exact Nat.lt_of_le_of_lt (by omega : gv.length ≤ 10000000) (by decide)), ?_⟩
          refine ⟨_, rfl, .inl ⟨rfl, _, SqL.of upd_same⟩, _, rfl, g, p, _, _, rfl, rfl, upd_same, (by rw [upd_ne npg]; exact q6), (by rw [List.length_append, List.length_map, List.length_map]; show gv.length + 1 + _ ≤ sizeLine; exact Nat.le_trans (by omega : _ ≤ 10000001) (by decide)), ?_⟩
          rw [upd_upd]
          have nR'g : ¬ R' g := fun z => by
            rcases q2 _ z with z | z
            · exact nRg z
            · rw [hgv] at z
              cases z
          have nR't : ¬ R' tp := fun z => by
            rcases q2 _ z with z | z
            · exact nRt z
            · rw [htp] at z
              cases z
          have nR'H : ∀ b o, H b = some o → ¬ R' b := fun b o e z => by
            rcases q2 _ z with z | z
            · exact nRH b o e z
            · rw [s03 _ _ e] at z
              cases z
          refine ⟨(Lf06.step st x).1, gv ++ ((Lf06.step st x).2.length : Int) :: (Lf06.step st x).2, R', _, rfl, ?_, step_wf W hxr, nR't, nR'g, nR'H, fun b o e => ?_, ?_, ?_, L2⟩
          · obtain ⟨F, lf, lr, S, hF, Rs, Rf, Rr⟩ := q1
            have nsg : s ≠ g := fun z => nR'g (by rw [← z]; exact Rs)
            have nfg : lf ≠ g := fun z => nR'g (by rw [← z]; exact Rf)
            have nrg : lr ≠ g := fun z => nR'g (by rw [← z]; exact Rr)
            obtain ⟨dx, o1⟩ := S.obj
            obtain ⟨as, o2, o3⟩ := S.reads
            have Fg : F g = none := by
              cases z : F g with
              | none => rfl
              | some o => exact absurd (hF g o z) nR'g
            refine ⟨F, lf, lr, ⟨same_upd S.sub Fg, S.fs, S.ff, S.fr, S.nfr, ⟨dx, by rw [upd_ne nsg]; exact o1⟩, ?_, as, by rw [upd_ne nrg]; exact o2, o3⟩, hF, Rs, Rf, Rr⟩
            unfold IntsAt
            rw [upd_ne nfg]
            exact S.facts
          · rw [upd_ne (fun z => by rw [z] at e; rw [((s1.trans s12).free ng)] at e; cases e)]
            exact s04 _ _ e
          · rw [upd_ne htg]
            exact q4
          · rw [upd_same, List.length_map, List.map_append, List.append_assoc]
            rfl
      · have c1 : ns.length ≤ i := by simpa using c
        refine ⟨_, rfl, ?_⟩
        refine k0 H3 g ?_
        rw [← loop_end L c1]
        exact hgv
end
end Ts
end
section
set_option maxRecDepth 100000
set_option maxHeartbeats 4000000
namespace Ts
open PySem PySem.Spec PyProof.Rows L2
section
variable {P : Program} {w : World} {K : PySem.W.Frag} {mg : Str → Option Value} {base : Heap}
theorem pairsC_lets {ks : List Nat} {rs : List Lf06.Reading} {i : Nat} (hi : i < ks.length) : ∀ x ∈ pairsC ks rs, Lets i x := by
  intro x hx
  obtain ⟨p, hp, rfl⟩ := List.mem_map.mp (show x ∈ (Lf06.pairs ks).map fun p => (p, Lf06.cost p rs) from hx)
  obtain ⟨h1, h2⟩ := pairs_mem hp
  obtain ⟨a1, a2⟩ := strands_mem _ _ h1
  obtain ⟨b1, b2⟩ := strands_mem _ _ h2
  exact ⟨by show i < p.1.length; omega, by show i < p.2.length; omega, a2, b2⟩
theorem toldCost_len (o : Option Nat) : (Lf06.toldCost o).length ≤ 2 := by
  cases o with
  | none => show 1 ≤ 2; decide
  | some c => show 2 ≤ 2; decide
theorem eqB (a b : Nat) : decide (V.int (a : Int) = V.int (b : Int)) = ((a == b) == true) := by
  rw [dec_vint]
  by_cases q : a = b <;> simp [q]
theorem neB (a b : Nat) : (!decide (V.int (a : Int) = V.int (b : Int))) = ((a == b) == false) := by
  rw [dec_vint]
  by_cases q : a = b <;> simp [q]
/-! ### tie -/
def spTieA (K : PySem.W.Frag) : Sp := fun vs H Q _ => ∃ (s : Addr) (i j : Nat) (st : Lf06.St), vs = [.ref s, .int i, .int j] ∧ SessAt K H s st ∧ Wf st ∧ Told H Q (Lf06.step st (.tie i j)).2
theorem ok_answer_tie (T : Tx K mg) : DefOk P w K mg base 4 (He.ga K "answer_tie") ["session", "place", "other"] (spTieA K) := by
  obtain ⟨fd1, G1, b1, kp1⟩ := ok_has_place (P := P) (w := w) (base := base) T
  obtain ⟨fd2, G2, b2, kp2⟩ := ok_pairs_that_may_be (P := P) (w := w) (base := base) T
  obtain ⟨fd3, G3, b3, kp3⟩ := ok_pairs_with (P := P) (w := w) (base := base) T
  obtain ⟨fd4, G4, b4, kp4⟩ := ok_least_cost_if_any (P := P) (w := w) (base := base) T
  obtain ⟨t1, i1⟩ := T.i_ONE_OF_EACH
  obtain ⟨t2, i2⟩ := T.i_NOT_AS_TOLD
  refine mkDef T.f_answer_tie sc_answer_tie (fun _ _ _ _ _ _ us hl => match us, hl with | [_, _, _], _ => rfl) (fun vs H Q E h => ?_) (fun cdv A outer s H vs Q E hr h => ?_)
  · obtain ⟨s, i, j, st, rfl, _⟩ := h
    rfl
  · obtain ⟨s, i, j, st, rfl, hS, W, k⟩ := h
    have hr1 : Room 1 _ := hr.mono (by decide)
    have hr2 : Room 2 _ := hr.mono (by decide)
    refine ⟨_, pss_cons (ps_if (PW.pt (pw_or (pt_not (pt_val (pe_meth (pv 0) T.cl_Session T.m_Session_has_place G1 hr1 b1 .nil pass0 (pa_cons (pv 1) pa_nil))))
          (pw_or (pt_not (pt_val (pe_meth (pv 0) T.cl_Session T.m_Session_has_place G1 hr1 b1 .nil pass0 (pa_cons (pv 2) pa_nil)))) (pw_or1 (pt_cmpR op_eq (pv 1) (pv 2) (nomark _)))))) (pss_one (ps_ret (pe_lst (pa_cons (pe_gi i2) pa_nil)))) pss_nil)
      (pss_cons (ps_set (i := 3) sc_answer_tie.nd rfl (Or.inl rfl) (pe_call G3 hr2 rfl T.g_pairs_with kp3 b3 .nil pass0 (pa_cons (pe_call G3 hr2 rfl T.g_pairs_with kp3 b3 .nil pass0 (pa_cons (pe_call G2 hr rfl T.g_pairs_that_may_be kp2 b2 .nil pass0 (pa_cons (pv 0) pa_nil)) (pa_cons (pv 1) (pa_cons (pe_gi i1) pa_nil)))) (pa_cons (pv 2) (pa_cons (pe_gi i1) pa_nil)))))
      (pss_cons (ps_setLc (i := 4) (own := [("pair", 6)]) (g := gName 6) (tt := tTest (tOp rEq (tOp (rIxL K) (tFld K (tVar 6) "first") (tVar 1)) (tOp (rIxL K) (tFld K (tVar 6) "first") (tVar 2)))) (te := tVar 6) rfl sc_answer_tie.nd rfl rfl (sw_true rfl rfl rfl (by decide +kernel)) (pi_list (pv 3))
          (blkOk_by (own := [("pair", 6)]) (N := nm_answer_tie) (sc := defScope s_answer_tie) (by decide +kernel)) (fun _ _ _ _ _ => pg_name (i := 6) sc_answer_tie.nd rfl (Or.inl rfl)) (fun _ _ _ _ _ => by exact pts_one (pt_cmpR op_eq (pe_ix ix_list (pe_fld (pv 6) rfl) (pv 1) (fun _ _ => rfl)) (pe_ix ix_list (pe_fld (pv 6) rfl) (pv 2) (fun _ _ => rfl)) (nomark _))) (fun _ _ _ _ _ => by exact pv 6))
      (pss_cons (ps_setLc (i := 5) (own := [("pair", 6)]) (g := gName 6) (tt := tTest (tOp rNe (tOp (rIxL K) (tFld K (tVar 6) "first") (tVar 1)) (tOp (rIxL K) (tFld K (tVar 6) "first") (tVar 2)))) (te := tVar 6) rfl sc_answer_tie.nd rfl rfl (sw_true rfl rfl rfl (by decide +kernel)) (pi_list (pv 3))
          (blkOk_by (own := [("pair", 6)]) (N := nm_answer_tie) (sc := defScope s_answer_tie) (by decide +kernel)) (fun _ _ _ _ _ => pg_name (i := 6) sc_answer_tie.nd rfl (Or.inl rfl)) (fun _ _ _ _ _ => by exact pts_one (pt_cmpR op_ne (pe_ix ix_list (pe_fld (pv 6) rfl) (pv 1) (fun _ _ => rfl)) (pe_ix ix_list (pe_fld (pv 6) rfl) (pv 2) (fun _ _ => rfl)) (nomark _))) (fun _ _ _ _ _ => by exact pv 6))
      (pss_one (ps_ret (pe_op op_cat (pe_call G4 hr2 rfl T.g_least_cost_if_any kp4 b4 .nil pass0 (pa_cons (pv 4) pa_nil)) (pe_call G4 hr2 rfl T.g_least_cost_if_any kp4 b4 .nil pass0 (pa_cons (pv 5) pa_nil)))))))), ?_⟩
    obtain ⟨ds, lf, lr, hs, _⟩ := id hS
    have bad : st.known.length ≤ i ∨ st.known.length ≤ j ∨ i = j → ∀ p, H p = none → Q (.ref p) (upd H p (.lst [V.int (-1)])) := fun hb p hp => by
      have e : (Lf06.step st (.tie i j)).2 = [-1] := if_pos hb
      rw [e] at k
      exact k _ p (same_new hp) hp upd_same
    refine ⟨_, rfl, s, ds, _, rfl, hs, rfl, _, rfl, s, i, st, rfl, hS, _, rfl, ite2 (fun c => ?_) (fun c => ?_)⟩
    · refine iteT ⟨(by show 1 ≤ sizeLine; decide), fun p hp => ?_⟩
      exact bad (.inl (by simp at c; omega)) p hp
    · have c1 : i < st.known.length := by simpa using c
      refine ⟨_, rfl, s, ds, _, rfl, hs, rfl, _, rfl, s, j, st, rfl, hS, _, rfl, ite2 (fun c => ?_) (fun c => ?_)⟩
      · refine iteT ⟨(by show 1 ≤ sizeLine; decide), fun p hp => ?_⟩
        exact bad (.inr (.inl (by simp at c; omega))) p hp
      · have c2 : j < st.known.length := by simpa using c
        refine ⟨_, rfl, _, rfl, rfl, _, rfl, ite2 (fun c => ?_) (fun c => ?_)⟩
        · refine ⟨(by show 1 ≤ sizeLine; decide), fun p hp => ?_⟩
          exact bad (.inr (.inr (by have := V.int.inj (of_decide_eq_true c); omega))) p hp
        · have c3 : i ≠ j := fun z => c (decide_eq_true (by rw [z]))
          have e : (Lf06.step st (.tie i j)).2 = Lf06.toldCost (Lf06.tie st.known (Lf06.readings st) i j true) ++ Lf06.toldCost (Lf06.tie st.known (Lf06.readings st) i j false) := if_neg (by omega)
          rw [e, tie_is, tie_is] at k
          have hlen := pairsC_len (rs := Lf06.readings st) W.n6
          have hle1 := pairsC_lets (rs := Lf06.readings st) c1
          have hle2 := pairsC_lets (rs := Lf06.readings st) c2
          generalize hPC : pairsC st.known (Lf06.readings st) = PC at hlen hle1 hle2 k
          refine ⟨_, rfl, s, st, rfl, hS, W, fun H1 l1 s1 hl1 hL1 => ?_⟩
          rw [hPC] at hL1
          refine ⟨_, rfl, l1, i, 2, _, PC, rfl, hL1, hlen, by decide, hle1, fun H2 l2 s2 hl2 hL2 => ?_⟩
          have hlen2 := Nat.le_trans (List.length_filter_le (fun x : Lf06.Pair × Nat => Lf06.allowed 2 (x.1.1.getD i 0) (x.1.2.getD i 0)) PC) hlen
          refine ⟨_, rfl, l2, j, 2, _, _, rfl, hL2, hlen2, by decide, fun x hx => hle2 x (List.mem_filter.mp hx).1, fun H3 l3 s3 hl3 hL3 => ?_⟩
          have hlen3 := Nat.le_trans (List.length_filter_le (fun x : Lf06.Pair × Nat => Lf06.allowed 2 (x.1.1.getD j 0) (x.1.2.getD j 0)) _) hlen2
          have hleA : ∀ x ∈ (PC.filter fun x => Lf06.allowed 2 (x.1.1.getD i 0) (x.1.2.getD i 0)).filter (fun x => Lf06.allowed 2 (x.1.1.getD j 0) (x.1.2.getD j 0)), i < x.1.1.length ∧ j < x.1.1.length := fun x hx => by
            have hx1 := (List.mem_filter.mp (List.mem_filter.mp hx).1).1
            exact ⟨(hle1 x hx1).1, (hle2 x hx1).1⟩
          generalize hPD : (PC.filter fun x => Lf06.allowed 2 (x.1.1.getD i 0) (x.1.2.getD i 0)).filter (fun x => Lf06.allowed 2 (x.1.1.getD j 0) (x.1.2.getD j 0)) = PD at hlen3 hL3 hleA k
          obtain ⟨as, hl, hA⟩ := id hL3
          -- same = [..]
          refine ⟨_, rfl, l3, rfl, ⟨_, SqL.of hl⟩, fun B hB => lc_list (K := K) (a := l3) (xs := as.map V.ref) (fun n H' => Grow (PairAt K (Lf06.readings st)) H3 H' B ((PD.take n).filter fun x => (x.1.1.getD i 0 == x.1.1.getD j 0) == true)) (Grow.start hB) (fun i H' _ G => SqL.of (G.2.1 _ _ hl)) ?_ ?_⟩
          · rintro n y H' hi G
            obtain ⟨c, hc, rfl⟩ := get_map hi
            obtain ⟨x, hx, hP⟩ := hA.get hc
            obtain ⟨dx, a, b, lc, hp, ha, hb, _⟩ := id hP
            have s4 := G.2.1
            obtain ⟨w1, w2⟩ := hleA x (List.mem_of_getElem? hx)
            refine ⟨rfl, _, rfl, c, _, dx, _, _, rfl, s4 _ _ hp, T.cl_Pair, T.n_Pair_first, rfl, _, rfl, a, _, _, _, rfl, rfl, SqL.of (s4 _ _ ha), at_of (j := i) rfl (vi_getD w1), ?_⟩
            refine ⟨_, rfl, c, _, dx, _, _, rfl, s4 _ _ hp, T.cl_Pair, T.n_Pair_first, rfl, _, rfl, a, _, _, _, rfl, rfl, SqL.of (s4 _ _ ha), at_of (j := j) rfl (vi_getD w2), rfl, _, rfl, ?_⟩
            have et : (PD.take (n + 1)).filter (fun x => (x.1.1.getD i 0 == x.1.1.getD j 0) == true) = (PD.take n).filter (fun x => (x.1.1.getD i 0 == x.1.1.getD j 0) == true) ++ if ((x.1.1.getD i 0 == x.1.1.getD j 0) == true) = true then [x] else [] := by
              rw [take_snoc hx, List.filter_append, List.filter_cons, List.filter_nil]
            refine ite2 (fun q => ?_) (fun q => ?_)
            · rw [eqB] at q
              rw [if_pos q] at et
              obtain ⟨xs, hx1, hxl, G5⟩ := G.step mono_pair (Same.refl _) (p := c) (b := x) (hP.same (same_del s4 hB))
              refine ⟨_, rfl, _, hx1, ?_, by rw [et]; exact G5⟩
              rw [hxl]
              exact Nat.lt_of_le_of_lt (Nat.le_trans (List.length_filter_le _ _) (Nat.le_trans (List.length_take_le' _ _) hlen3)) (by decide)
            · rw [eqB] at q
              rw [if_neg q, List.append_nil] at et
              rw [et]
              exact G
          · rintro H4 G
            rw [List.length_map, hA.len, List.take_length] at G
            have s4 := G.2.1
            have hSame := G.done mono_pair
            -- crossed = [..]
            refine ⟨_, rfl, l3, rfl, ⟨_, SqL.of (s4 _ _ hl)⟩, fun B2 hB2 => lc_list (K := K) (a := l3) (xs := as.map V.ref) (fun n H' => Grow (PairAt K (Lf06.readings st)) H4 H' B2 ((PD.take n).filter fun x => (x.1.1.getD i 0 == x.1.1.getD j 0) == false)) (Grow.start hB2) (fun i H' _ G => SqL.of (G.2.1 _ _ (s4 _ _ hl))) ?_ ?_⟩
            · rintro n y H' hi G
              obtain ⟨c, hc, rfl⟩ := get_map hi
              obtain ⟨x, hx, hP⟩ := hA.get hc
              obtain ⟨dx, a, b, lc, hp, ha, hb, _⟩ := id hP
              have s5 := s4.trans G.2.1
              obtain ⟨w1, w2⟩ := hleA x (List.mem_of_getElem? hx)
              refine ⟨rfl, _, rfl, c, _, dx, _, _, rfl, s5 _ _ hp, T.cl_Pair, T.n_Pair_first, rfl, _, rfl, a, _, _, _, rfl, rfl, SqL.of (s5 _ _ ha), at_of (j := i) rfl (vi_getD w1), ?_⟩
              refine ⟨_, rfl, c, _, dx, _, _, rfl, s5 _ _ hp, T.cl_Pair, T.n_Pair_first, rfl, _, rfl, a, _, _, _, rfl, rfl, SqL.of (s5 _ _ ha), at_of (j := j) rfl (vi_getD w2), rfl, _, rfl, ?_⟩
              have et : (PD.take (n + 1)).filter (fun x => (x.1.1.getD i 0 == x.1.1.getD j 0) == false) = (PD.take n).filter (fun x => (x.1.1.getD i 0 == x.1.1.getD j 0) == false) ++ if ((x.1.1.getD i 0 == x.1.1.getD j 0) == false) = true then [x] else [] := by
                rw [take_snoc hx, List.filter_append, List.filter_cons, List.filter_nil]
              refine ite2 (fun q => ?_) (fun q => ?_)
              · rw [neB] at q
                rw [if_pos q] at et
                obtain ⟨xs, hx1, hxl, G5⟩ := G.step mono_pair (Same.refl _) (p := c) (b := x) (hP.same (same_del s5 (s4.free hB2)))
                refine ⟨_, rfl, _, hx1, ?_, by rw [et]; exact G5⟩
                rw [hxl]
                exact Nat.lt_of_le_of_lt (Nat.le_trans (List.length_filter_le _ _) (Nat.le_trans (List.length_take_le' _ _) hlen3)) (by decide)
              · rw [neB] at q
                rw [if_neg q, List.append_nil] at et
                rw [et]
                exact G
            · rintro H5 G
              rw [List.length_map, hA.len, List.take_length] at G
              have s5 := G.2.1
              have hCross := G.done mono_pair
              refine ⟨_, rfl, B, Lf06.readings st, _, rfl, hSame.same s5 (fun _ _ q => q.same s5), Nat.le_trans (List.length_filter_le _ _) hlen3, fun H6 p6 s6 hp6 hO6 => ?_⟩
              refine ⟨_, rfl, B2, Lf06.readings st, _, rfl, hCross.same s6 (fun _ _ q => q.same s6), Nat.le_trans (List.length_filter_le _ _) hlen3, fun H7 p7 s7 hp7 hO7 => ?_⟩
              refine ⟨p6, p7, _, _, rfl, rfl, s7 _ _ hO6, hO7, ?_, fun p hp => ?_⟩
              · rw [List.length_map, List.length_map]
                have z1 := toldCost_len (Lf06.least ((PD.filter fun x => (x.1.1.getD i 0 == x.1.1.getD j 0) == true).map fun x => x.2))
                have z2 := toldCost_len (Lf06.least ((PD.filter fun x => (x.1.1.getD i 0 == x.1.1.getD j 0) == false).map fun x => x.2))
                exact Nat.le_trans (by omega : _ ≤ 1000) (by decide)
              · have sA := (((((s1.trans s2).trans s3).trans s4).trans s5).trans s6).trans s7
                refine k _ p (sA.trans (same_new hp)) (sA.free hp) ?_
                unfold OutAt
                rw [upd_same, List.map_append]
/-! ### placed -/
def spPlacedA (K : PySem.W.Frag) : Sp := fun vs H Q _ => ∃ (s : Addr) (i : Nat) (st : Lf06.St), vs = [.ref s, .int i] ∧ SessAt K H s st ∧ Wf st ∧ Told H Q (Lf06.step st (.placed i)).2
theorem flat_told_len (f : Nat → Option Nat) : ∀ l : List Nat, (l.flatMap fun k => Lf06.toldCost (f k)).length ≤ 2 * l.length
  | [] => by simp
  | a :: l => by
    rw [List.flatMap_cons, List.length_append, List.length_cons]
    have := flat_told_len f l
    have := toldCost_len (f a)
    omega
theorem ok_answer_placed (T : Tx K mg) : DefOk P w K mg base 4 (He.ga K "answer_placed") ["session", "place"] (spPlacedA K) := by
  obtain ⟨fd1, G1, b1, kp1⟩ := ok_has_place (P := P) (w := w) (base := base) T
  obtain ⟨fd2, G2, b2, kp2⟩ := ok_pairs_that_may_be (P := P) (w := w) (base := base) T
  obtain ⟨fd3, G3, b3, kp3⟩ := ok_pairs_with (P := P) (w := w) (base := base) T
  obtain ⟨fd4, G4, b4, kp4⟩ := ok_least_cost_if_any (P := P) (w := w) (base := base) T
  obtain ⟨t0, i0⟩ := T.i_BOTH_0
  obtain ⟨t1, i1⟩ := T.i_BOTH_1
  obtain ⟨t2, i2⟩ := T.i_ONE_OF_EACH
  obtain ⟨t3, i3⟩ := T.i_NOT_AS_TOLD
  refine mkDef T.f_answer_placed sc_answer_placed (fun _ _ _ _ _ _ us hl => match us, hl with | [_, _], _ => rfl) (fun vs H Q E h => ?_) (fun cdv A outer s H vs Q E hr h => ?_)
  · obtain ⟨s, i, st, rfl, _⟩ := h
    rfl
  · obtain ⟨s, i, st, rfl, hS, W, k⟩ := h
    have hr1 : Room 1 _ := hr.mono (by decide)
    have hr2 : Room 2 _ := hr.mono (by decide)
    refine ⟨_, pss_cons (ps_if (pt_not (pt_val (pe_meth (pv 0) T.cl_Session T.m_Session_has_place G1 hr1 b1 .nil pass0 (pa_cons (pv 1) pa_nil)))) (pss_one (ps_ret (pe_lst (pa_cons (pe_gi i3) pa_nil)))) pss_nil)
      (pss_cons (ps_set (i := 2) sc_answer_placed.nd rfl (Or.inl rfl) (pe_call G2 hr rfl T.g_pairs_that_may_be kp2 b2 .nil pass0 (pa_cons (pv 0) pa_nil)))
      (pss_cons (ps_set (i := 3) sc_answer_placed.nd rfl (Or.inl rfl) (pe_lst pa_nil))
      (pss_cons (ps_for PassesOwn.never rfl (pi_tup (pe_tup (pa_cons (pe_gi i0) (pa_cons (pe_gi i1) (pa_cons (pe_gi i2) pa_nil))))) (pg_name (i := 4) sc_answer_placed.nd rfl (Or.inl rfl))
        (pss_one (ps_expr (pe_bm PySem.F.plainAttrs_list PySem.F.slot_list_extend PySem.F.type_list_extend mt_extend (pv 3) (pa_cons (pe_call G4 hr2 rfl T.g_least_cost_if_any kp4 b4 .nil pass0 (pa_cons (pe_call G3 hr2 rfl T.g_pairs_with kp3 b3 .nil pass0 (pa_cons (pv 2) (pa_cons (pv 1) (pa_cons (pv 4) pa_nil)))) pa_nil)) pa_nil)))))
      (pss_one (ps_ret (pv 3)))))), ?_⟩
    obtain ⟨ds, lf, lr, hs, _⟩ := id hS
    refine ⟨_, rfl, s, ds, _, rfl, hs, rfl, _, rfl, s, i, st, rfl, hS, _, rfl, ite2 (fun c => ?_) (fun c => ?_)⟩
    · have e : (Lf06.step st (.placed i)).2 = [-1] := if_pos (by simp at c; omega)
      rw [e] at k
      refine ⟨(by show 1 ≤ sizeLine; decide), fun p hp => ?_⟩
      exact k _ p (same_new hp) hp upd_same
    · have c1 : i < st.known.length := by simpa using c
      have e : (Lf06.step st (.placed i)).2 = [0, 1, 2].flatMap fun k => Lf06.toldCost (Lf06.placed st.known (Lf06.readings st) i k) := if_neg (by omega)
      rw [e] at k
      have hlen := pairsC_len (rs := Lf06.readings st) W.n6
      have hle1 := pairsC_lets (rs := Lf06.readings st) c1
      refine ⟨_, rfl, s, st, rfl, hS, W, fun H1 l1 s1 hl1 hL1 => ?_⟩
      refine ⟨Nat.zero_le _, fun g hg => ?_⟩
      have s2 := same_new (o := .lst []) hg
      refine ⟨(by show 3 ≤ sizeLine; decide), fun t ht => ?_⟩
      have ngt : g ≠ t := ne_of_none upd_same ht
      refine ⟨t, rfl, ⟨_, SqT.of upd_same⟩, for_tup (K := K) (a := t) (xs := vi [0, 1, 2]) (fun n σ H' => ∃ v4, σ = [some (.ref s), some (.int i), some (.ref l1), some (.ref g), v4] ∧ Same H1 H' ∧ H' t = some (.tup (vi [0, 1, 2])) ∧
          H' g = some (.lst (((([0, 1, 2] : List Nat).take n).flatMap fun k => Lf06.toldCost (Lf06.placed st.known (Lf06.readings st) i k)).map V.int))) ⟨none, rfl, s2.trans (same_new ht), upd_same, ?_⟩ (fun n σ H' _ ⟨_, _, _, q, _⟩ => SqT.of q) ?_ ?_⟩
      · rw [upd_ne ngt, upd_same]
        rfl
      · rintro n x σ H' hn ⟨v4, rfl, s3, h3, h4⟩
        obtain ⟨f, hf, rfl⟩ := get_map hn
        have hf3 : f ≤ 3 := by
          have := List.mem_of_getElem? hf
          simp at this
          omega
        refine ⟨_, rfl, .inl ⟨rfl, _, SqL.of h4⟩, _, rfl, _, rfl, _, rfl, l1, i, f, _, _, rfl, hL1.same s3 (fun _ _ q => q.same s3), hlen, hf3, hle1, fun H5 p5 s5 hp5 hL5 => ?_⟩
        refine ⟨p5, _, _, rfl, hL5, Nat.le_trans (List.length_filter_le _ _) hlen, fun H6 p6 s6 hp6 hO6 => ?_⟩
        have s56 := s5.trans s6
        rw [← placed_is] at hO6
        refine ⟨g, p6, _, _, rfl, rfl, s56 _ _ h4, hO6, ?_, ?_⟩
        · rw [List.length_map, List.length_map]
          have z1 := flat_told_len (fun k => Lf06.placed st.known (Lf06.readings st) i k) (([0, 1, 2] : List Nat).take n)
          have z2 := toldCost_len (Lf06.placed st.known (Lf06.readings st) i f)
          have z3 : (([0, 1, 2] : List Nat).take n).length ≤ 3 := List.length_take_le' _ _
          exact Nat.le_trans (by omega : _ ≤ 1000) (by decide)
        · refine ⟨_, rfl, same_upd (s3.trans s56) hg, ?_, ?_⟩
          · rw [upd_ne ngt.symm]
            exact s56 _ _ h3
          · rw [upd_same, take_snoc hf, List.flatMap_append, List.map_append, List.flatMap_cons, List.flatMap_nil, List.append_nil]
      · rintro σ H' ⟨v4, rfl, s3, h3, h4⟩
        refine ⟨_, rfl, ?_⟩
        exact k H' g (s1.trans s3) (s1.free hg) h4
end
end Ts
end
section
set_option maxRecDepth 100000
set_option maxHeartbeats 4000000
namespace Ts
open PySem PySem.Spec PyProof.Rows L2
section
variable {P : Program} {w : World} {K : PySem.W.Frag} {mg : Str → Option Value} {base : Heap}
/-! ### is it a strand -/
def strandB (n : Nat) (l : List Nat) : Bool := decide (l.length = n) && l.all fun x => decide (x ≤ 1)
def spStrandOk (K : PySem.W.Frag) : Sp := fun vs H Q _ => ∃ (s b : Addr) (st : Lf06.St) (l : List Nat), vs = [.ref s, .ref b] ∧ SessAt K H s st ∧ IntsAt H b l ∧ l.length ≤ 1000 ∧ ∀ H', Same H H' → Q (.bl (strandB st.known.length l)) H'
theorem ok_strand_is_as_told (T : Tx K mg) : DefOk P w K mg base 1 (He.ga K "strand_is_as_told") ["session", "strand"] (spStrandOk K) := by
  obtain ⟨t1, i1⟩ := T.i_HIGHEST_LETTER
  refine mkDef T.f_strand_is_as_told sc_strand_is_as_told (fun _ _ _ _ _ _ us hl => match us, hl with | [_, _], _ => rfl) (fun vs H Q E h => ?_) (fun cdv A outer s H vs Q E hr h => ?_)
  · obtain ⟨s, b, st, l, rfl, _⟩ := h
    rfl
  · obtain ⟨s, b, st, l, rfl, hS, hb, hl, k⟩ := h
    refine ⟨_, pss_one (ps_ret (pe_and (pe_cmpR op_eq (pe_callB call_len_seq (by rfl) T.z_len PySem.boot_len (pa_cons (pv 1) pa_nil)) (pe_callB call_len_seq (by rfl) T.z_len PySem.boot_len (pa_cons (pe_fld (pv 0) rfl) pa_nil)) (nomark _))
      (pe_one (pe_callB (cr_all rfl) (by rfl) T.z_all (by decide +kernel) (pa_cons (pe_lc (own := [("letter", 2)]) (g := gName 2) (tt := tYes) (te := tOp (rI0 fun i j => .bl (decide (i ≤ j))) (tVar 2) (tC (.int 1))) rfl sc_strand_is_as_told.nd (pi_list (pv 1))
          (blkOk_by (own := [("letter", 2)]) (N := nm_strand_is_as_told) (sc := defScope s_strand_is_as_told) (by decide +kernel)) (fun _ _ _ _ _ => pg_name (i := 2) sc_strand_is_as_told.nd rfl (Or.inl rfl)) (fun _ _ _ _ _ => pts_nil) (fun _ _ _ _ _ => by exact pe_cmpR op_le (pv 2) (pe_gi i1) (nomark _))) pa_nil))))), ?_⟩
    obtain ⟨ds, lf, lr, hs, hf, _⟩ := id hS
    refine ⟨_, rfl, b, _, rfl, .inl (SqL.of hb), _, rfl, s, _, ds, _, _, rfl, hs, T.cl_Session, T.n_Session_facts, rfl, lf, _, rfl, .inl (SqL.of hf), rfl, _, rfl, ?_⟩
    rw [vi_len, vi_len, dec_vint]
    unfold strandB at k
    refine ite2 (fun c => ?_) (fun c => ?_)
    · rw [c, Bool.true_and] at k
      refine ⟨_, rfl, b, rfl, ⟨_, SqL.of hb⟩, fun D hD => lc_list (K := K) (a := b) (xs := vi l) (fun i H' => Same H H' ∧ H' D = some (.lst (((l.take i).map fun x => decide (x ≤ 1)).map V.bl))) ⟨same_new hD, upd_same⟩ (fun i H' _ G => SqL.of (G.1 _ _ hb)) ?_ ?_⟩
      · rintro i y H' hi ⟨s1, h1⟩
        obtain ⟨x, hx, rfl⟩ := get_map hi
        refine ⟨rfl, tyes ?_⟩
        refine ⟨_, rfl, _, _, rfl, rfl, _, h1, ?_, same_upd s1 hD, ?_⟩
        · rw [List.length_map, List.length_map]
          exact Nat.lt_of_le_of_lt (Nat.le_trans (List.length_take_le' _ _) hl) (by decide)
        · have e1 : decide ((x : Int) ≤ 1) = decide (x ≤ 1) := decide_eq_decide.mpr (by omega)
          rw [upd_same, take_snoc hx, List.map_append, List.map_append]
          show some (HO.lst (_ ++ [V.bl (decide ((x : Int) ≤ 1))])) = _
          rw [e1]
          rfl
      · rintro H' ⟨s1, h1⟩
        rw [vi_len, List.take_length] at h1
        refine ⟨D, _, rfl, SqL.of h1, ?_⟩
        rw [List.all_map]
        exact k H' s1
    · have c1 : decide (l.length = st.known.length) = false := by simpa using c
      rw [c1] at k
      exact k H (Same.refl _)
/-! ### cost -/
theorem cost_told (st : Lf06.St) (a b : List Nat) : (Lf06.step st (.cost a b)).2 = if (strandB st.known.length a && strandB st.known.length b) = true then [(Lf06.cost (a, b) (Lf06.readings st) : Int)] else [-1] := by
  show (if a.length ≠ st.known.length ∨ b.length ≠ st.known.length ∨ (a ++ b).all (fun x => decide (x ≤ 1)) = false then [-1] else [(Lf06.cost (a, b) (Lf06.readings st) : Int)]) = _
  unfold strandB
  rw [List.all_append]
  by_cases h1 : a.length = st.known.length
  · by_cases h2 : b.length = st.known.length
    · cases h3 : a.all (fun x => decide (x ≤ 1)) <;> cases h4 : b.all (fun x => decide (x ≤ 1)) <;> simp [h1, h2]
    · simp [h1, h2]
  · simp [h1]
def spCostA (K : PySem.W.Frag) : Sp := fun vs H Q _ => ∃ (s a b : Addr) (st : Lf06.St) (la lb : List Nat), vs = [.ref s, .ref a, .ref b] ∧ SessAt K H s st ∧ Wf st ∧ IntsAt H a la ∧ IntsAt H b lb ∧ la.length ≤ 1000 ∧ lb.length ≤ 1000 ∧ Told H Q (Lf06.step st (.cost la lb)).2
theorem ok_answer_cost (T : Tx K mg) : DefOk P w K mg base 3 (He.ga K "answer_cost") ["session", "strand", "other"] (spCostA K) := by
  obtain ⟨fd1, G1, b1, kp1⟩ := ok_strand_is_as_told (P := P) (w := w) (base := base) T
  obtain ⟨fd2, G2, b2, kp2⟩ := ok_costs_with (P := P) (w := w) (base := base) T
  obtain ⟨fd3, G3, b3, kp3⟩ := ok_lesser_costs (P := P) (w := w) (base := base) T
  obtain ⟨t1, i1⟩ := T.i_NOT_AS_TOLD
  refine mkDef T.f_answer_cost sc_answer_cost (fun _ _ _ _ _ _ us hl => match us, hl with | [_, _, _], _ => rfl) (fun vs H Q E h => ?_) (fun cdv A outer s H vs Q E hr h => ?_)
  · obtain ⟨s, a, b, st, la, lb, rfl, _⟩ := h
    rfl
  · obtain ⟨s, a, b, st, la, lb, rfl, hS, W, ha, hb, hla, hlb, k⟩ := h
    have hr1 : Room 1 _ := hr.mono (by decide)
    refine ⟨_, pss_cons (ps_if (PW.pt (pw_or (pt_not (pt_val (pe_call G1 hr1 rfl T.g_strand_is_as_told kp1 b1 .nil pass0 (pa_cons (pv 0) (pa_cons (pv 1) pa_nil))))) (pw_or1 (pt_not (pt_val (pe_call G1 hr1 rfl T.g_strand_is_as_told kp1 b1 .nil pass0 (pa_cons (pv 0) (pa_cons (pv 2) pa_nil)))))))) (pss_one (ps_ret (pe_lst (pa_cons (pe_gi i1) pa_nil)))) pss_nil)
      (pss_one (ps_ret (pe_lst (pa_cons (pe_callB (cr_sum rfl) (by rfl) T.z_sum (by decide +kernel) (pa_cons (pe_call G3 hr1 rfl T.g_lesser_costs kp3 b3 .nil pass0 (pa_cons (pe_call G2 hr rfl T.g_costs_with kp2 b2 .nil pass0 (pa_cons (pe_fld (pv 0) rfl) (pa_cons (pv 1) pa_nil))) (pa_cons (pe_call G2 hr rfl T.g_costs_with kp2 b2 .nil pass0 (pa_cons (pe_fld (pv 0) rfl) (pa_cons (pv 2) pa_nil))) pa_nil))) pa_nil)) pa_nil)))), ?_⟩
    obtain ⟨ds, lf, lr, hs, hf, hR⟩ := id hS
    rw [cost_told] at k
    refine ⟨_, rfl, _, rfl, s, a, st, la, rfl, hS, ha, hla, fun H1 s1 => ⟨_, rfl, ite2 (fun c => ?_) (fun c => ?_)⟩⟩
    · have c1 : strandB st.known.length la = false := by simpa using c
      rw [c1] at k
      refine iteT ⟨(by show 1 ≤ sizeLine; decide), fun p hp => ?_⟩
      exact k _ p (s1.trans (same_new hp)) (s1.free hp) upd_same
    · have c1 : strandB st.known.length la = true := by simpa using c
      refine ⟨_, rfl, _, rfl, s, b, st, lb, rfl, hS.same s1, hb.same s1, hlb, fun H2 s2 => ⟨_, rfl, ite2 (fun c => ?_) (fun c => ?_)⟩⟩
      · have c2 : strandB st.known.length lb = false := by simpa using c
        rw [c1, c2] at k
        have s12 := s1.trans s2
        refine ⟨(by show 1 ≤ sizeLine; decide), fun p hp => ?_⟩
        exact k _ p (s12.trans (same_new hp)) (s12.free hp) upd_same
      · have c2 : strandB st.known.length lb = true := by simpa using c
        rw [c1, c2] at k
        have s12 := s1.trans s2
        have l1 : la.length = st.known.length := of_decide_eq_true (Bool.and_eq_true_iff.mp c1).1
        have l2 : lb.length = st.known.length := of_decide_eq_true (Bool.and_eq_true_iff.mp c2).1
        refine ⟨_, rfl, s, _, ds, _, _, rfl, s12 _ _ hs, T.cl_Session, T.n_Session_readings, rfl, _, rfl, lr, a, st.readings, la, rfl, hR.same s12 (fun _ _ q => q.same s12), ha.same s12, by rw [l1]; exact W.good, fun H3 p3 s3 hp3 h3 => ?_⟩
        have s13 := s12.trans s3
        refine ⟨_, rfl, s, _, ds, _, _, rfl, s13 _ _ hs, T.cl_Session, T.n_Session_readings, rfl, _, rfl, lr, b, st.readings, lb, rfl, hR.same s13 (fun _ _ q => q.same s13), hb.same s13, by rw [l2]; exact W.good, fun H4 p4 s4 hp4 h4 => ?_⟩
        refine ⟨p3, p4, _, _, rfl, h3.same s4, h4, by rw [List.length_map, List.length_map], by rw [List.length_map]; exact W.good.1, fun H5 p5 s5 hp5 h5 => ?_⟩
        refine ⟨p5, _, rfl, SqL.of (by rw [← vi_eq]; exact h5), ?_⟩
        refine ⟨(by show 1 ≤ sizeLine; decide), fun p hp => ?_⟩
        have s15 := (s13.trans s4).trans s5
        refine k _ p (s15.trans (same_new hp)) (s15.free hp) ?_
        unfold OutAt
        have em : ((mins (st.readings.map fun x => Lf06.off la x.2) (st.readings.map fun x => Lf06.off lb x.2)).map fun (n : Nat) => (n : Int)).sum = ((Lf06.cost (la, lb) (Lf06.readings st) : Nat) : Int) := by
          rw [sum_int, show Lf06.cost (la, lb) (Lf06.readings st) = _ from cost_is la lb st.readings]
          rfl
        rw [upd_same, em]
        rfl
/-! ### shows -/
def markRow (m : Lf06.Mark) : List Nat := [m.place, m.letter, m.price]
def showRow (x : Nat × Lf06.Reading) : List Nat := [x.1, x.2.length] ++ x.2.flatMap markRow
def showHead (st : Lf06.St) : List Nat := st.known ++ [st.readings.length]
theorem ints_app (a b : List Nat) : Lf06.ints (a ++ b) = Lf06.ints a ++ Lf06.ints b := List.map_append
theorem shows_told (st : Lf06.St) : (Lf06.step st .shows).2 = Lf06.ints (showHead st ++ st.readings.flatMap showRow) := by
  show Lf06.ints st.known ++ (st.readings.length : Int) :: st.readings.flatMap (fun x => Lf06.ints (x.1 :: x.2.length :: x.2.flatMap fun m => [m.place, m.letter, m.price])) = _
  unfold showHead
  rw [ints_app, ints_app, List.append_assoc]
  congr 1
  show _ = (st.readings.length : Int) :: Lf06.ints (st.readings.flatMap showRow)
  congr 1
  unfold Lf06.ints
  rw [List.map_flatMap]
  rfl
theorem marks_len : ∀ l : Lf06.Reading, (l.flatMap markRow).length = 3 * l.length
  | [] => rfl
  | a :: l => by
    rw [List.flatMap_cons, List.length_append, marks_len l, List.length_cons]
    show 3 + _ = _
    omega
theorem shows_len : ∀ l : List (Nat × Lf06.Reading), (∀ x ∈ l, x.2.length ≤ 1000) → (l.flatMap showRow).length ≤ 3002 * l.length
  | [], _ => by simp
  | a :: l, h => by
    rw [List.flatMap_cons, List.length_append, List.length_cons]
    have h1 := shows_len l fun x hx => h x (by simp [hx])
    have h2 := h a (by simp)
    have h3 : (showRow a).length = 2 + 3 * a.2.length := by
      unfold showRow
      rw [List.length_append, marks_len]
      rfl
    omega
def spShowsA (K : PySem.W.Frag) : Sp := fun vs H Q _ => ∃ (s : Addr) (st : Lf06.St), vs = [.ref s] ∧ SessAt K H s st ∧ Wf st ∧ Told H Q (Lf06.step st .shows).2
theorem ok_answer_shows (T : Tx K mg) : DefOk P w K mg base 1 (He.ga K "answer_shows") ["session"] (spShowsA K) := by
  refine mkDef T.f_answer_shows sc_answer_shows (fun _ _ _ _ _ _ us hl => match us, hl with | [_], _ => rfl) (fun vs H Q E h => ?_) (fun cdv A outer s H vs Q E hr h => ?_)
  · obtain ⟨s, st, rfl, _⟩ := h
    rfl
  · obtain ⟨s, st, rfl, hS, W, k⟩ := h
    refine ⟨_, pss_cons (ps_set (i := 1) sc_answer_shows.nd rfl (Or.inl rfl) (pe_op op_cat (pe_fld (pv 0) rfl) (pe_lst (pa_cons (pe_callB call_len_seq (by rfl) T.z_len PySem.boot_len (pa_cons (pe_fld (pv 0) rfl) pa_nil)) pa_nil))))
      (pss_cons (ps_for PassesOwn.never rfl (pi_list (pe_fld (pv 0) rfl)) (pg_name (i := 2) sc_answer_shows.nd rfl (Or.inl rfl))
        (pss_cons (ps_expr (pe_bm PySem.F.plainAttrs_list PySem.F.slot_list_extend PySem.F.type_list_extend mt_extend (pv 1) (pa_cons (pe_lst (pa_cons (pe_fld (pv 2) rfl) (pa_cons (pe_callB call_len_seq (by rfl) T.z_len PySem.boot_len (pa_cons (pe_fld (pv 2) rfl) pa_nil)) pa_nil))) pa_nil)))
        (pss_one (ps_for PassesOwn.never rfl (pi_list (pe_fld (pv 2) rfl)) (pg_name (i := 3) sc_answer_shows.nd rfl (Or.inl rfl))
          (pss_one (ps_expr (pe_bm PySem.F.plainAttrs_list PySem.F.slot_list_extend PySem.F.type_list_extend mt_extend (pv 1) (pa_cons (pe_lst (pa_cons (pe_fld (pv 3) rfl) (pa_cons (pe_fld (pv 3) rfl) (pa_cons (pe_fld (pv 3) rfl) pa_nil)))) pa_nil))))))))
      (pss_one (ps_ret (pv 1)))), ?_⟩
    obtain ⟨ds, lf, lr, hs, hf, rs, hlr, hRs⟩ := id hS
    have n6 := W.n6
    have g1 := W.good.1
    have g2 := W.good.2
    have tot := shows_len st.readings fun x hx => (g2 x hx).1
    have hh : (showHead st).length ≤ 7 := by
      unfold showHead
      rw [List.length_append, List.length_singleton]
      omega
    refine ⟨_, rfl, s, _, ds, _, _, rfl, hs, T.cl_Session, T.n_Session_facts, rfl, _, rfl, s, _, ds, _, _, rfl, hs, T.cl_Session, T.n_Session_readings, rfl, lr, _, rfl, .inl (SqL.of hlr), (by show 1 ≤ sizeLine; decide), fun q hq => ?_⟩
    have s1 := same_new (o := .lst [V.int ((rs.map V.ref).length : Int)]) hq
    refine ⟨lf, q, _, _, rfl, rfl, s1 _ _ hf, upd_same, (by rw [vi_len]; show _ + 1 ≤ sizeLine; exact Nat.le_trans (by omega : _ ≤ 1000) (by decide)), fun o ho => ?_⟩
    have ho0 : H o = none := s1.free ho
    have s2 : Same H (upd (upd H q (.lst [V.int ((rs.map V.ref).length : Int)])) o (.lst (vi st.known ++ [V.int ((rs.map V.ref).length : Int)]))) := s1.trans (same_new ho)
    refine ⟨_, rfl, s, _, ds, _, _, rfl, s2 _ _ hs, T.cl_Session, T.n_Session_readings, rfl, lr, rfl, ⟨_, SqL.of (s2 _ _ hlr)⟩,
      for_list (K := K) (a := lr) (xs := rs.map V.ref) (fun i σ H' => ∃ v2 v3, σ = [some (.ref s), some (.ref o), v2, v3] ∧ Same H H' ∧ H' o = some (.lst (vi (showHead st ++ (st.readings.take i).flatMap showRow))))
        ⟨none, none, rfl, s2, ?_⟩ (fun i σ H' _ ⟨_, _, _, sx, _⟩ => SqL.of (sx _ _ hlr)) ?_ ?_⟩
    · rw [upd_same, List.length_map, hRs.len, List.take_zero, List.flatMap_nil, List.append_nil]
      unfold showHead
      rw [vi_app]
      rfl
    · rintro i y σ H' hi ⟨v2, v3, rfl, s3, h3⟩
      obtain ⟨a, ha, rfl⟩ := get_map hi
      obtain ⟨r, hr0, hR⟩ := hRs.get ha
      obtain ⟨dr, lm, har, ms, hlm, hMs⟩ := id hR
      have gd := g2 r (List.mem_of_getElem? hr0)
      have b1 : ((st.readings.take i).flatMap showRow).length ≤ 3002 * 1000 := by
        have z1 := shows_len (st.readings.take i) fun x hx => (g2 x (List.mem_of_mem_take hx)).1
        have z2 : (st.readings.take i).length ≤ st.readings.length := List.length_take_le' _ _
        omega
      refine ⟨_, rfl, .inl ⟨rfl, _, SqL.of h3⟩, _, rfl, a, _, dr, _, _, rfl, s3 _ _ har, T.cl_Reading, T.n_Reading_number, rfl, _, rfl, a, _, dr, _, _, rfl, s3 _ _ har, T.cl_Reading, T.n_Reading_marks, rfl, lm, _, rfl, .inl (SqL.of (s3 _ _ hlm)), (by show 2 ≤ sizeLine; decide), fun q1 hq1 => ?_⟩
      have s4 := same_new (o := .lst [V.int (r.1 : Int), V.int ((ms.map V.ref).length : Int)]) hq1
      refine ⟨o, q1, _, _, rfl, rfl, s4 _ _ h3, upd_same, (by rw [vi_len, List.length_append]; show _ + 2 ≤ sizeLine; exact Nat.le_trans (by omega : _ ≤ 10000000) (by decide)), ?_⟩
      have s5 : Same H (upd (upd H' q1 (.lst [V.int (r.1 : Int), V.int ((ms.map V.ref).length : Int)])) o (.lst (vi (showHead st ++ (st.readings.take i).flatMap showRow) ++ [V.int (r.1 : Int), V.int ((ms.map V.ref).length : Int)]))) := same_upd (s3.trans s4) ho0
      refine ⟨_, rfl, a, _, dr, _, _, rfl, s5 _ _ har, T.cl_Reading, T.n_Reading_marks, rfl, lm, rfl, ⟨_, SqL.of (s5 _ _ hlm)⟩,
        for_list (K := K) (a := lm) (xs := ms.map V.ref) (fun j σ H' => ∃ v3, σ = [some (.ref s), some (.ref o), some (.ref a), v3] ∧ Same H H' ∧ H' o = some (.lst (vi ((showHead st ++ (st.readings.take i).flatMap showRow) ++ ([r.1, r.2.length] ++ (r.2.take j).flatMap markRow)))))
          ⟨v3, rfl, s5, ?_⟩ (fun i σ H' _ ⟨_, _, sx, _⟩ => SqL.of (sx _ _ hlm)) ?_ ?_⟩
      · rw [upd_same, List.length_map, hMs.len, List.take_zero, List.flatMap_nil, List.append_nil, vi_app _ [r.1, r.2.length]]
        rfl
      · rintro j y σ H6 hj ⟨v3, rfl, s6, h6⟩
        obtain ⟨c, hc, rfl⟩ := get_map hj
        obtain ⟨m, hm, dm, hcm⟩ := hMs.get hc
        have b2 : ((r.2.take j).flatMap markRow).length ≤ 3000 := by
          rw [marks_len]
          have z2 : (r.2.take j).length ≤ r.2.length := List.length_take_le' _ _
          have z3 := gd.1
          omega
        refine ⟨_, rfl, .inl ⟨rfl, _, SqL.of h6⟩, _, rfl, c, _, dm, _, _, rfl, s6 _ _ hcm, T.cl_Mark, T.n_Mark_place, rfl, _, rfl, c, _, dm, _, _, rfl, s6 _ _ hcm, T.cl_Mark, T.n_Mark_letter, rfl, _, rfl, c, _, dm, _, _, rfl, s6 _ _ hcm, T.cl_Mark, T.n_Mark_price, rfl, (by show 3 ≤ sizeLine; decide), fun q2 hq2 => ?_⟩
        have s7 := same_new (o := .lst [V.int (m.place : Int), V.int (m.letter : Int), V.int (m.price : Int)]) hq2
        refine ⟨o, q2, _, _, rfl, rfl, s7 _ _ h6, upd_same, (by rw [vi_len, List.length_append, List.length_append, List.length_append]; show _ + (2 + _) + 3 ≤ sizeLine; exact Nat.le_trans (by omega : _ ≤ 10000000) (by decide)), ?_⟩
        refine ⟨_, rfl, same_upd (s6.trans s7) ho0, ?_⟩
        have ej : (showHead st ++ (st.readings.take i).flatMap showRow) ++ ([r.1, r.2.length] ++ (r.2.take (j + 1)).flatMap markRow) = ((showHead st ++ (st.readings.take i).flatMap showRow) ++ ([r.1, r.2.length] ++ (r.2.take j).flatMap markRow)) ++ markRow m := by
          rw [take_snoc hm, List.flatMap_append, List.flatMap_cons, List.flatMap_nil, List.append_nil]
          simp only [List.append_assoc]
        rw [upd_same, ej, vi_app _ (markRow m)]
        rfl
      · rintro σ H6 ⟨v3, rfl, s6, h6⟩
        rw [List.length_map, hMs.len, List.take_length] at h6
        refine ⟨_, _, rfl, s6, ?_⟩
        rw [take_snoc hr0, List.flatMap_append, List.flatMap_cons, List.flatMap_nil, List.append_nil, ← List.append_assoc]
        exact h6
    · rintro σ H' ⟨v2, v3, rfl, s3, h3⟩
      rw [List.length_map, hRs.len, List.take_length] at h3
      refine ⟨_, rfl, ?_⟩
      refine k H' o s3 ho0 ?_
      unfold OutAt
      rw [shows_told, ints_vi]
      exact h3
end
end Ts
end
section
set_option maxRecDepth 100000
set_option maxHeartbeats 2000000
namespace Ts
open PySem PySem.Spec PyProof.Rows L2
theorem vals_at : ∀ (xs : List V) (us : List Value), xs.length = us.length → (∀ (j : Nat) x u, xs[j]? = some x → us[j]? = some u → RelV x u) → Vals xs us
  | [], [], _, _ => .nil
  | x :: xs, u :: us, e, h => .cons (h 0 x u rfl rfl) (vals_at xs us (Nat.succ.inj e) fun j y v h1 h2 => h (j + 1) y v h1 h2)
  | [], _ :: _, e, _ => by cases e
  | _ :: _, [], e, _ => by cases e
/-! ### list(range(a)) -/
def tListRange (ta : TE) : TE := fun σ H Q => ta σ H fun x H1 => ∃ n : Nat, x = .int n ∧ n ≤ 1000 ∧ ∀ l, H1 l = none → Q (.ref l) (upd H1 l (.lst (vi (List.range n))))
theorem pe_listRange {X : Cx} {a : Expr} {ta : TE} {p1 p2 p3 p4 : Pos} (g1 : Gl X "list") (m1 : X.mg "list" = none) (g2 : Gl X "range") (m2 : X.mg "range" = none) (ha : PE X a ta) (hc : X.calm = true := by rfl)
    (na : starEach [a] X.env = (false, eval a X.env) :: starEach [] X.env := by rfl) : PE X (.Call (.Name "list" p1) [.Call (.Name "range" p2) [a] [] p3] [] p4) (tListRange ta) := by
  constructor
  intro pins s σ H Q I h
  refine Call_ (ld_blt I g1 m1 (by decide +kernel : bootBuiltins "list" = some (.type "list")) (PyProof.Rows.callWith_type1 (PyProof.Rows.args_cons (Call_ (ld_blt I g2 m2 boot_range ?_)) rfl) rfl rfl))
  refine PyProof.Rows.callWith_type1 (PyProof.Rows.args_cons (thn (ha.run pins s σ H _ I h) ?_) na) na rfl
  rintro v s1 ⟨x, H1, I1, r1, n, rfl, hn, q1⟩
  refine PyProof.Rows.args_nil ?_
  obtain ⟨t, rfl⟩ := r1
  refine call_range_1 ?_
  refine PyProof.Rows.args_nil ?_
  refine call_list_range (n := n) (I1.ok.hd hc) (IsRange.new ..) (small_one (by omega) (by omega) (by omega) (by omega)) (by rw [rangeSize_one]; split <;> omega) (by omega) fun h' tk acc c hk hD hI => ?_
  have I2 := I1.kept (h' := s1.heap.push { cls := .type "range", data := .fields #[.int 0 s1.toks, .int (n : Int) t, .int 1 (s1.toks + 1)] }) (t' := s1.toks + 1 + 1) fun b o e => Heap.get?_push_of_some _ e
  have hv : Vals (vi (List.range n)) acc.toList := by
    refine vals_at _ _ (by rw [vi_len, List.length_range, Array.length_toList, hI.1]) fun j x u h1 h2 => ?_
    obtain ⟨m, hm, rfl⟩ := get_map h1
    obtain ⟨t, ht⟩ := hI.2 j u (by rw [← Array.getElem?_toList]; exact h2)
    have hj : j < n := by
      have := lt_of_get hm
      rw [List.length_range] at this
      exact this
    rw [List.getElem?_range hj] at hm
    have e : j = m := Option.some.inj hm
    subst e
    refine ⟨t, ht.trans ?_⟩
    congr 1
    omega
  refine ⟨.ref _, _, I2.laid (t' := tk) hk (Nat.le_refl _) (o := .lst (vi (List.range n))) ⟨?_, acc.toList, c, hv, ?_⟩, rfl, q1 _ (I2.hok.fresh (Nat.le_refl _))⟩
  · rw [vi_len, List.length_range]
    exact Nat.le_trans hn (by decide)
  · rw [Array.toArray_toList]
    exact hD
/-! ### x in a list of whole numbers -/
theorem flat_vi (l : List Nat) : (vi l).all flatV = true := List.all_eq_true.mpr fun x hx => by
  obtain ⟨n, _, rfl⟩ := List.mem_map.mp hx
  rfl
theorem in_vi (x : Nat) (l : List Nat) : inV (V.int (x : Int)) (vi l) = l.contains x := by
  unfold inV vi
  rw [List.any_map, Bool.eq_iff_iff, List.any_eq_true, List.contains_iff_mem]
  constructor
  · rintro ⟨y, hy, e⟩
    have e2 : ((y : Int) == (x : Int)) = true := e
    have e3 : (y : Int) = (x : Int) := eq_of_beq e2
    have : y = x := by omega
    rw [← this]
    exact hy
  · intro h
    refine ⟨x, h, ?_⟩
    show ((x : Int) == (x : Int)) = true
    simp
end Ts
end
section
set_option maxRecDepth 100000
set_option maxHeartbeats 4000000
namespace Ts
open PySem PySem.Spec PyProof.Rows L2
section
variable {P : Program} {w : World} {K : PySem.W.Frag} {mg : Str → Option Value} {base : Heap}
/-! ### the least place of each block -/
theorem wf_within {st : Lf06.St} (W : Wf st) : Within st.known.length (Lf06.readings st) := fun r hr p hp => by
  obtain ⟨x, hx, rfl⟩ := List.mem_map.mp (show r ∈ st.readings.map fun x => x.2 from hr)
  obtain ⟨m, hm, rfl⟩ := List.mem_map.mp (show p ∈ x.2.map fun m => m.place from hp)
  exact (W.good.2 x hx).2 m hm
theorem met_is (f : List Nat) (r : Lf06.Reading) : metOf f r = r.map fun m => f.getD m.place 0 := by
  unfold metOf Lf06.marked
  rw [List.map_map]
  rfl
def spTied (K : PySem.W.Frag) : Sp := fun vs H Q _ => ∃ (s : Addr) (st : Lf06.St), vs = [.ref s] ∧ SessAt K H s st ∧ WfN st ∧ ∀ (H' : Hp) (p : Addr) (f : List Nat), Same H H' → H p = none → IntsAt H' p f → Lead st.known.length (Lf06.readings st) f → Q (.ref p) H'
theorem ok_least_tied_places (T : Tx K mg) : DefOk P w K mg base 1 (He.ga K "least_tied_places") ["session"] (spTied K) := by
  refine mkDef T.f_least_tied_places sc_least_tied_places (fun _ _ _ _ _ _ us hl => match us, hl with | [_], _ => rfl) (fun vs H Q E h => ?_) (fun cdv A outer s H vs Q E hr h => ?_)
  · obtain ⟨s, st, rfl, _⟩ := h
    rfl
  · obtain ⟨s, st, rfl, hS, W, k⟩ := h
    refine ⟨_, pss_cons (ps_set (i := 1) sc_least_tied_places.nd rfl (Or.inr rfl) (pe_listRange (by rfl) T.z_list (by rfl) T.z_range (pe_callB call_len_seq (by rfl) T.z_len PySem.boot_len (pa_cons (pe_fld (pv 0) rfl) pa_nil))))
      (pss_cons (ps_for PassesOwn.never rfl (pi_list (pe_fld (pv 0) rfl)) (pg_name (i := 2) sc_least_tied_places.nd rfl (Or.inl rfl))
        (pss_cons (ps_set (i := 3) sc_least_tied_places.nd rfl (Or.inr rfl) (pe_lc (own := [("mark", 5)]) (g := gName 5) (tt := tYes) (te := tOp (rIxL K) (tVar 1) (tFld K (tVar 5) "place")) rfl sc_least_tied_places.nd (pi_list (pe_fld (pv 2) rfl))
          (blkOk_by (own := [("mark", 5)]) (N := nm_least_tied_places) (sc := defScope s_least_tied_places) (by decide +kernel)) (fun _ _ _ _ _ => pg_name (i := 5) sc_least_tied_places.nd rfl (Or.inl rfl)) (fun _ _ _ _ _ => pts_nil) (fun _ _ _ _ _ => by exact pe_ix ix_list (pv 1) (pe_fld (pv 5) rfl) (fun _ _ => rfl))))
        (pss_cons (ps_set (i := 4) sc_least_tied_places.nd rfl (Or.inr rfl) (pe_callB (cr_min rfl) (by rfl) T.z_min (by decide +kernel) (pa_cons (pv 3) pa_nil)))
        (pss_one (ps_set (i := 1) sc_least_tied_places.nd rfl (Or.inr rfl) (pe_lc (own := [("leader", 6)]) (g := gName 6) (tt := tYes) (te := tIf (tTest (tOp (rIn K false) (tVar 6) (tVar 3))) (tVar 4) (tVar 6)) rfl sc_least_tied_places.nd (pi_list (pv 1))
          (blkOk_by (own := [("leader", 6)]) (N := nm_least_tied_places) (sc := defScope s_least_tied_places) (by decide +kernel)) (fun _ _ _ _ _ => pg_name (i := 6) sc_least_tied_places.nd rfl (Or.inl rfl)) (fun _ _ _ _ _ => pts_nil) (fun _ _ _ _ _ => by exact pe_ifExp (pt_cmpR op_in_seq (pv 6) (pv 3) (by rfl)) (pv 4) (pv 6))))))))
      (pss_one (ps_ret (pv 1)))), ?_⟩
    obtain ⟨ds, lf, lr, hs, hf, rs, hlr, hRs⟩ := id hS
    have wi := wf_within W.toWf
    have n6 := W.n6
    refine ⟨_, rfl, s, _, ds, _, _, rfl, hs, T.cl_Session, T.n_Session_facts, rfl, lf, _, rfl, .inl (SqL.of hf), st.known.length, by rw [vi_len], by omega, fun p0 hp0 => ?_⟩
    have s1 := same_new (o := .lst (vi (List.range st.known.length))) hp0
    refine ⟨_, rfl, s, _, ds, _, _, rfl, s1 _ _ hs, T.cl_Session, T.n_Session_readings, rfl, lr, rfl, ⟨_, SqL.of (s1 _ _ hlr)⟩,
      for_list (K := K) (a := lr) (xs := rs.map V.ref) (fun i σ H' => ∃ p f v2 v3 v4, σ = [some (.ref s), some (.ref p), v2, v3, v4, none, none] ∧ Same H H' ∧ H p = none ∧ IntsAt H' p f ∧ Lead st.known.length ((Lf06.readings st).take i) f)
        ⟨p0, _, none, none, none, rfl, s1, hp0, upd_same, Lead.start _⟩ (fun i σ H' _ ⟨_, _, _, _, _, _, sx, _⟩ => SqL.of (sx _ _ hlr)) ?_ ?_⟩
    · rintro i y σ H1 hi ⟨p, f, v2, v3, v4, rfl, sH, hp, hI, L⟩
      obtain ⟨a, ha, rfl⟩ := get_map hi
      obtain ⟨r, hr0, dr, lm, har, ms, hlm, hMs⟩ := hRs.get ha
      have gd := W.good.2 r (List.mem_of_getElem? hr0)
      have gne := W.ne r (List.mem_of_getElem? hr0)
      have hfl := L.len
      -- met = [least_tied[mark.place] for mark in reading.marks]
      refine ⟨_, rfl, a, _, dr, _, _, rfl, sH _ _ har, T.cl_Reading, T.n_Reading_marks, rfl, lm, rfl, ⟨_, SqL.of (sH _ _ hlm)⟩, fun D hD => lc_list (K := K) (a := lm) (xs := ms.map V.ref) (fun j H' => Same H1 H' ∧ H' D = some (.lst (vi ((r.2.take j).map fun m => f.getD m.place 0)))) ⟨same_new hD, upd_same⟩ (fun j H' _ G => SqL.of (G.1 _ _ (sH _ _ hlm))) ?_ ?_⟩
      · rintro j y H2 hj ⟨s2, h2⟩
        obtain ⟨c, hc, rfl⟩ := get_map hj
        obtain ⟨m, hm, dm, hcm⟩ := hMs.get hc
        have hmp := gd.2 m (List.mem_of_getElem? hm)
        refine ⟨rfl, tyes ?_⟩
        refine ⟨_, rfl, _, rfl, c, _, dm, _, _, rfl, s2 _ _ (sH _ _ hcm), T.cl_Mark, T.n_Mark_place, rfl, p, _, _, _, rfl, rfl, SqL.of (s2 _ _ hI), at_of (j := m.place) rfl (vi_getD (by omega)), _, h2, ?_, same_upd s2 hD, ?_⟩
        · rw [vi_len, List.length_map]
          exact Nat.lt_of_le_of_lt (Nat.le_trans (List.length_take_le' _ _) gd.1) (by decide)
        · rw [upd_same, take_snoc hm, List.map_append, vi_app]
          rfl
      · rintro H2 ⟨s2, h2⟩
        rw [List.length_map, hMs.len, List.take_length, ← met_is] at h2
        have ml : (metOf f r.2).length = r.2.length := by rw [met_is, List.length_map]
        -- least = min(met)
        refine ⟨_, rfl, D, (metOf f r.2).map fun (n : Nat) => (n : Int), rfl, SqL.of (by rw [← vi_eq]; exact h2), by rw [List.length_map, ml]; exact gne, fun m0 hm0 hle0 => ?_⟩
        obtain ⟨m, hm, rfl⟩ := List.mem_map.mp hm0
        have hle : ∀ y ∈ metOf f r.2, m ≤ y := fun y hy => by
          have := hle0 (y : Int) (List.mem_map.mpr ⟨y, hy, rfl⟩)
          omega
        -- least_tied = [least if leader in met else leader for leader in least_tied]
        refine ⟨_, rfl, p, rfl, ⟨_, SqL.of (s2 _ _ hI)⟩, fun D2 hD2 => lc_list (K := K) (a := p) (xs := vi f) (fun j H' => Same H2 H' ∧ H' D2 = some (.lst (vi ((merged f (metOf f r.2) m).take j)))) ⟨same_new hD2, upd_same⟩ (fun j H' _ G => SqL.of (G.1 _ _ (s2 _ _ hI))) ?_ ?_⟩
        · rintro j y H3 hj ⟨s3, h3⟩
          obtain ⟨c, hc, rfl⟩ := get_map hj
          have em : (merged f (metOf f r.2) m)[j]? = some (if (metOf f r.2).contains c = true then m else c) := by
            unfold merged
            rw [List.getElem?_map, hc]
            rfl
          have hsz : (vi ((merged f (metOf f r.2) m).take j)).length < sizeLine := by
            rw [vi_len]
            have z1 : ((merged f (metOf f r.2) m).take j).length ≤ (merged f (metOf f r.2) m).length := List.length_take_le' _ _
            have z2 : (merged f (metOf f r.2) m).length = f.length := List.length_map _
            exact Nat.lt_of_le_of_lt (by omega : _ ≤ 1000) (by decide)
          refine ⟨rfl, tyes ?_⟩
          refine ⟨_, rfl, _, rfl, D, _, rfl, .inl (SqL.of (s3 _ _ h2)), rfl, flat_vi _, _, rfl, ?_⟩
          show if inV (V.int (c : Int)) (vi (metOf f r.2)) = true then _ else _
          rw [in_vi]
          refine ite2 (fun q => ?_) (fun q => ?_)
          · rw [if_pos q] at em
            refine ⟨_, rfl, _, h3, hsz, same_upd s3 hD2, ?_⟩
            rw [upd_same, take_snoc em, vi_app]
            rfl
          · rw [if_neg q] at em
            refine ⟨_, rfl, _, h3, hsz, same_upd s3 hD2, ?_⟩
            rw [upd_same, take_snoc em, vi_app]
            rfl
        · rintro H3 ⟨s3, h3⟩
          have ml2 : (merged f (metOf f r.2) m).take (vi f).length = merged f (metOf f r.2) m := List.take_of_length_le (by unfold merged; rw [List.length_map, vi_len]; exact Nat.le_refl _)
          rw [ml2] at h3
          have s12 := sH.trans s2
          have hrr : (Lf06.readings st)[i]? = some r.2 := by
            unfold Lf06.readings
            rw [List.getElem?_map, hr0]
            rfl
          refine ⟨D2, _, _, _, _, rfl, s12.trans s3, s12.free hD2, h3, ?_⟩
          rw [take_snoc hrr]
          refine L.step ?_ hm hle
          intro q hq
          rw [← take_snoc hrr] at hq
          exact wi q (List.mem_of_mem_take hq)
    · rintro σ H1 ⟨p, f, v2, v3, v4, rfl, sH, hp, hI, L⟩
      have hl : (Lf06.readings st).take (rs.map V.ref).length = Lf06.readings st := List.take_of_length_le (by
        unfold Lf06.readings
        rw [List.length_map, List.length_map, hRs.len]
        exact Nat.le_refl _)
      rw [hl] at L
      exact ⟨_, rfl, k H1 p f sH hp hI L⟩
/-! ### blocks -/
def leads (n : Nat) (f : List Nat) : List Nat := (List.range n).filter fun i => f.getD i 0 == i
def blk (n : Nat) (f : List Nat) (i : Nat) : List Nat := (List.range n).filter fun j => f.getD j 0 == i
def blkRow (n : Nat) (f : List Nat) (i : Nat) : List Nat := (blk n f i).length :: blk n f i
theorem blocks_told {st : Lf06.St} {f : List Nat} (W : Wf st) (L : Lead st.known.length (Lf06.readings st) f) :
    (Lf06.step st .blocks).2 = Lf06.ints ((leads st.known.length f).length :: (leads st.known.length f).flatMap (blkRow st.known.length f)) := by
  show ((Lf06.blocks st.known.length (Lf06.readings st)).length : Int) :: (Lf06.blocks st.known.length (Lf06.readings st)).flatMap (fun b => Lf06.ints (b.length :: b)) = _
  have e : Lf06.blocks st.known.length (Lf06.readings st) = (leads st.known.length f).map (blk st.known.length f) := blocks_is L (wf_within W)
  rw [e, List.length_map]
  show _ = ((leads st.known.length f).length : Int) :: Lf06.ints ((leads st.known.length f).flatMap (blkRow st.known.length f))
  congr 1
  unfold Lf06.ints
  rw [List.map_flatMap, List.flatMap_map]
  rfl
theorem blk_len (n : Nat) (f : List Nat) (i : Nat) : (blk n f i).length ≤ n := by
  have h := List.length_filter_le (fun j => f.getD j 0 == i) (List.range n)
  rw [List.length_range] at h
  exact h
theorem leads_len (n : Nat) (f : List Nat) : (leads n f).length ≤ n := by
  have h := List.length_filter_le (fun i => f.getD i 0 == i) (List.range n)
  rw [List.length_range] at h
  exact h
theorem rows_len6 {n : Nat} (hn : n ≤ 6) (f : List Nat) : ∀ l : List Nat, (l.flatMap (blkRow n f)).length ≤ 7 * l.length
  | [] => by simp
  | a :: l => by
    rw [List.flatMap_cons, List.length_append, List.length_cons]
    have h1 := rows_len6 hn f l
    have h2 := blk_len n f a
    have h3 : (blkRow n f a).length = (blk n f a).length + 1 := rfl
    omega
def spBlocksA (K : PySem.W.Frag) : Sp := fun vs H Q _ => ∃ (s : Addr) (st : Lf06.St), vs = [.ref s] ∧ SessAt K H s st ∧ WfN st ∧ Told H Q (Lf06.step st .blocks).2
theorem ok_answer_blocks (T : Tx K mg) : DefOk P w K mg base 2 (He.ga K "answer_blocks") ["session"] (spBlocksA K) := by
  obtain ⟨fd1, G1, b1, kp1⟩ := ok_least_tied_places (P := P) (w := w) (base := base) T
  refine mkDef T.f_answer_blocks sc_answer_blocks (fun _ _ _ _ _ _ us hl => match us, hl with | [_], _ => rfl) (fun vs H Q E h => ?_) (fun cdv A outer s H vs Q E hr h => ?_)
  · obtain ⟨s, st, rfl, _⟩ := h
    rfl
  · obtain ⟨s, st, rfl, hS, W, k⟩ := h
    refine ⟨_, pss_cons (ps_set (i := 1) sc_answer_blocks.nd rfl (Or.inr rfl) (pe_call G1 hr rfl T.g_least_tied_places kp1 b1 .nil pass0 (pa_cons (pv 0) pa_nil)))
      (pss_cons (ps_setLc (i := 2) (own := [("place", 6)]) (g := gName 6) (tt := tTest (tOp rEq (tOp (rIxL K) (tVar 1) (tVar 6)) (tVar 6))) (te := tVar 6) rfl sc_answer_blocks.nd rfl rfl (sw_true rfl rfl rfl (by decide +kernel)) (pi_range1 rfl T.z_range (pa_cons (pe_callB call_len_seq (by rfl) T.z_len PySem.boot_len (pa_cons (pv 1) pa_nil)) pa_nil))
          (blkOk_by (own := [("place", 6)]) (N := nm_answer_blocks) (sc := defScope s_answer_blocks) (by decide +kernel)) (fun _ _ _ _ _ => pg_name (i := 6) sc_answer_blocks.nd rfl (Or.inl rfl)) (fun _ _ _ _ _ => by exact pts_one (pt_cmpR op_eq (pe_ix ix_list (pv 1) (pv 6) (fun _ _ => rfl)) (pv 6) (nomark _))) (fun _ _ _ _ _ => by exact pv 6))
      (pss_cons (ps_set (i := 3) sc_answer_blocks.nd rfl (Or.inl rfl) (pe_lst (pa_cons (pe_callB call_len_seq (by rfl) T.z_len PySem.boot_len (pa_cons (pv 2) pa_nil)) pa_nil)))
      (pss_cons (ps_for PassesOwn.never rfl (pi_list (pv 2)) (pg_name (i := 4) sc_answer_blocks.nd rfl (Or.inr rfl))
        (pss_cons (ps_setLc (i := 5) (own := [("place", 6)]) (g := gName 6) (tt := tTest (tOp rEq (tOp (rIxL K) (tVar 1) (tVar 6)) (tVar 4))) (te := tVar 6) rfl sc_answer_blocks.nd rfl rfl (sw_true rfl rfl rfl (by decide +kernel)) (pi_range1 rfl T.z_range (pa_cons (pe_callB call_len_seq (by rfl) T.z_len PySem.boot_len (pa_cons (pv 1) pa_nil)) pa_nil))
          (blkOk_by (own := [("place", 6)]) (N := nm_answer_blocks) (sc := defScope s_answer_blocks) (by decide +kernel)) (fun _ _ _ _ _ => pg_name (i := 6) sc_answer_blocks.nd rfl (Or.inl rfl)) (fun _ _ _ _ _ => by exact pts_one (pt_cmpR op_eq (pe_ix ix_list (pv 1) (pv 6) (fun _ _ => rfl)) (pv 4) (nomark _))) (fun _ _ _ _ _ => by exact pv 6))
        (pss_cons (ps_expr (pe_bm PySem.F.plainAttrs_list PySem.F.slot_list_append PySem.F.type_list_append mt_append (pv 3) (pa_cons (pe_callB call_len_seq (by rfl) T.z_len PySem.boot_len (pa_cons (pv 5) pa_nil)) pa_nil)))
        (pss_one (ps_expr (pe_bm PySem.F.plainAttrs_list PySem.F.slot_list_extend PySem.F.type_list_extend mt_extend (pv 3) (pa_cons (pv 5) pa_nil)))))))
      (pss_one (ps_ret (pv 3)))))), ?_⟩
    have n6 := W.n6
    refine ⟨_, rfl, s, st, rfl, hS, W, fun H1 p f s1 hp0 hI L => ?_⟩
    rw [blocks_told W.toWf L] at k
    have hfl := L.len
    have hN : ((vi f).length : Int).toNat = st.known.length := by rw [vi_len, hfl, Int.toNat_natCast]
    -- leaders = [..]
    refine ⟨_, rfl, p, _, rfl, .inl (SqL.of hI), _, rfl, (by rw [vi_len]; omega), (by rw [vi_len]; omega), fun D hD => lc_range (lo := 0) (n := ((vi f).length : Int).toNat) (fun i H' => Same H1 H' ∧ H' D = some (.lst (vi ((List.range i).filter fun i => f.getD i 0 == i)))) ⟨same_new hD, upd_same⟩ ?_ ?_⟩
    · rintro i H2 hi ⟨s2, h2⟩
      have hi' : i < f.length := by rw [vi_len] at hi; omega
      have e0 : (0 : Int) + (i : Int) = (i : Int) := by omega
      have et : (List.range (i + 1)).filter (fun i => f.getD i 0 == i) = (List.range i).filter (fun i => f.getD i 0 == i) ++ if (f.getD i 0 == i) = true then [i] else [] := by
        rw [List.range_succ, List.filter_append, List.filter_cons, List.filter_nil]
      refine ⟨rfl, _, rfl, _, rfl, p, _, _, _, rfl, rfl, SqL.of (s2 _ _ hI), at_of (j := i) e0 (vi_getD hi'), _, rfl, rfl, _, rfl, ite2 (fun q => ?_) (fun q => ?_)⟩
      · have q1 : (f.getD i 0 == i) = true := by
          have := V.int.inj (of_decide_eq_true q)
          rw [beq_iff_eq]
          omega
        rw [if_pos q1] at et
        refine ⟨_, rfl, _, h2, ?_, same_upd s2 hD, ?_⟩
        · rw [vi_len]
          have z := List.length_filter_le (fun i => f.getD i 0 == i) (List.range i)
          rw [List.length_range] at z
          exact Nat.lt_of_le_of_lt (by omega : _ ≤ 1000) (by decide)
        · rw [upd_same, et, vi_app, e0]
          rfl
      · have q1 : ¬ (f.getD i 0 == i) = true := fun z => q (decide_eq_true (by rw [e0, beq_iff_eq.mp z]))
        rw [if_neg q1, List.append_nil] at et
        rw [et]
        exact ⟨s2, h2⟩
    · rintro H2 ⟨s2, h2⟩
      rw [hN] at h2
      have h2' : H2 D = some (.lst (vi (leads st.known.length f))) := h2
      have ll := leads_len st.known.length f
      -- given = [len(leaders)]
      refine ⟨_, rfl, D, _, rfl, .inl (SqL.of h2'), (by show 1 ≤ sizeLine; decide), fun g hg => ?_⟩
      have s3 := same_new (o := .lst [V.int ((vi (leads st.known.length f)).length : Int)]) hg
      have s02 := s1.trans s2
      refine ⟨_, rfl, D, rfl, ⟨_, SqL.of (s3 _ _ h2')⟩,
        for_list (K := K) (a := D) (xs := vi (leads st.known.length f)) (fun i σ H' => ∃ v4 v5, σ = [some (.ref s), some (.ref p), some (.ref D), some (.ref g), v4, v5, none] ∧ Same H2 H' ∧ H' g = some (.lst (vi ((leads st.known.length f).length :: ((leads st.known.length f).take i).flatMap (blkRow st.known.length f)))))
          ⟨none, none, rfl, s3, by rw [upd_same, vi_len]; rfl⟩ (fun i σ H' _ ⟨_, _, _, sx, _⟩ => SqL.of (sx _ _ h2')) ?_ ?_⟩
      · rintro i y σ H3 hi ⟨v4, v5, rfl, s4, h4⟩
        obtain ⟨b, hb, rfl⟩ := get_map hi
        have s24 := s2.trans s4
        refine ⟨_, rfl, p, _, rfl, .inl (SqL.of (s24 _ _ hI)), _, rfl, (by rw [vi_len]; omega), (by rw [vi_len]; omega), fun B hB => lc_range (lo := 0) (n := ((vi f).length : Int).toNat) (fun i H' => Same H3 H' ∧ H' B = some (.lst (vi ((List.range i).filter fun j => f.getD j 0 == b)))) ⟨same_new hB, upd_same⟩ ?_ ?_⟩
        · rintro j H4 hj ⟨s5, h5⟩
          have hj' : j < f.length := by rw [vi_len] at hj; omega
          have e0 : (0 : Int) + (j : Int) = (j : Int) := by omega
          have et : (List.range (j + 1)).filter (fun j => f.getD j 0 == b) = (List.range j).filter (fun j => f.getD j 0 == b) ++ if (f.getD j 0 == b) = true then [j] else [] := by
            rw [List.range_succ, List.filter_append, List.filter_cons, List.filter_nil]
          refine ⟨rfl, _, rfl, _, rfl, p, _, _, _, rfl, rfl, SqL.of (s5 _ _ (s24 _ _ hI)), at_of (j := j) e0 (vi_getD hj'), _, rfl, rfl, _, rfl, ite2 (fun q => ?_) (fun q => ?_)⟩
          · have q1 : (f.getD j 0 == b) = true := by
              have := V.int.inj (of_decide_eq_true q)
              rw [beq_iff_eq]
              omega
            rw [if_pos q1] at et
            refine ⟨_, rfl, _, h5, ?_, same_upd s5 hB, ?_⟩
            · rw [vi_len]
              have z := List.length_filter_le (fun j => f.getD j 0 == b) (List.range j)
              rw [List.length_range] at z
              exact Nat.lt_of_le_of_lt (by omega : _ ≤ 1000) (by decide)
            · rw [upd_same, et, vi_app, e0]
              rfl
          · have q1 : ¬ (f.getD j 0 == b) = true := fun z => q (decide_eq_true (by rw [beq_iff_eq.mp z]))
            rw [if_neg q1, List.append_nil] at et
            rw [et]
            exact ⟨s5, h5⟩
        · rintro H4 ⟨s5, h5⟩
          rw [hN] at h5
          have h5' : H4 B = some (.lst (vi (blk st.known.length f b))) := h5
          have bl := blk_len st.known.length f b
          have g4 := s5 _ _ h4
          have nBg : B ≠ g := (ne_of_none h4 hB).symm
          have z1 := rows_len6 n6 f ((leads st.known.length f).take i)
          have z2 : ((leads st.known.length f).take i).length ≤ (leads st.known.length f).length := List.length_take_le' _ _
          refine ⟨_, rfl, .inl ⟨rfl, _, SqL.of g4⟩, _, rfl, B, _, rfl, .inl (SqL.of h5'), g, _, _, rfl, rfl, g4, (by rw [vi_len, List.length_cons]; exact Nat.lt_of_le_of_lt (by omega : _ ≤ 1000) (by decide)), ?_⟩
          refine ⟨_, rfl, .inl ⟨rfl, _, SqL.of upd_same⟩, _, rfl, g, B, _, _, rfl, rfl, upd_same, (by rw [upd_ne nBg]; exact h5'), (by rw [List.length_append, vi_len, vi_len, List.length_cons]; show _ + 1 + _ ≤ sizeLine; exact Nat.le_trans (by omega : _ ≤ 1000) (by decide)), ?_⟩
          refine ⟨_, _, rfl, ?_, ?_⟩
          · rw [upd_upd]
            exact same_upd (s4.trans s5) hg
          · rw [upd_same, vi_len, take_snoc hb, List.flatMap_append, List.flatMap_cons, List.flatMap_nil, List.append_nil, ← List.cons_append, vi_app, List.append_assoc]
            rfl
      · rintro σ H3 ⟨v4, v5, rfl, s4, h4⟩
        have e : (leads st.known.length f).take (vi (leads st.known.length f)).length = leads st.known.length f := List.take_of_length_le (by rw [vi_len]; exact Nat.le_refl _)
        rw [e] at h4
        refine ⟨_, rfl, ?_⟩
        refine k H3 g (s02.trans s4) (s02.free hg) ?_
        unfold OutAt
        rw [ints_vi]
        exact h4
end
end Ts
end
section
set_option maxRecDepth 100000
set_option maxHeartbeats 2000000
namespace Ts
open PySem PySem.Spec PyProof.Rows L2
/-! ### min of a list of lists of whole numbers -/
def zl (l : List Nat) : List Int := l.map fun (n : Nat) => (n : Int)
theorem zl_inj : ∀ {a b : List Nat}, zl a = zl b → a = b
  | [], [], _ => rfl
  | [], _ :: _, h => by cases h
  | _ :: _, [], h => by cases h
  | x :: a, y :: b, h => by
    have h1 : (x : Int) = (y : Int) := (List.cons.inj h).1
    have h2 : zl a = zl b := (List.cons.inj h).2
    have e : x = y := by omega
    rw [e, zl_inj h2]
theorem listLt_zl : ∀ a b : List Nat, a.length = b.length → PySem.W.listLt (zl a) (zl b) = Lf06.less a b
  | [], [], _ => rfl
  | [], _ :: _, h => by cases h
  | _ :: _, [], h => by cases h
  | x :: a, y :: b, h => by
    have ih := listLt_zl a b (Nat.succ.inj h)
    show (if (x : Int) = (y : Int) then PySem.W.listLt (zl a) (zl b) else decide ((x : Int) < (y : Int))) = (decide (x < y) || (x == y && Lf06.less a b))
    rw [ih]
    by_cases c : x = y
    · subst c
      rw [if_pos rfl]
      simp
    · have e : decide ((x : Int) < (y : Int)) = decide (x < y) := decide_eq_decide.mpr (by omega)
      rw [if_neg (fun z => c (by omega)), e]
      simp [c]
theorem minOf_zl {n : Nat} : ∀ (xs : List (List Nat)) (x : List Nat), x.length = n → (∀ y ∈ xs, y.length = n) → PySem.W.minOf (zl x) (xs.map zl) = zl (minL x xs)
  | [], x, _, _ => rfl
  | y :: xs, x, hx, h => by
    have hy := h y (by simp)
    have hl : PySem.W.DatumOrd.lt (zl y) (zl x) = Lf06.less y x := listLt_zl y x (by rw [hy, hx])
    have ih := minOf_zl xs (if Lf06.less y x = true then y else x) (by by_cases c : Lf06.less y x = true <;> simp [c, hx, hy]) fun z hz => h z (by simp [hz])
    have e : (if PySem.W.DatumOrd.lt (zl y) (zl x) = true then zl y else zl x) = zl (if Lf06.less y x = true then y else x) := by
      rw [hl]
      by_cases c : Lf06.less y x = true
      · rw [if_pos c, if_pos c]
      · rw [if_neg c, if_neg c]
    show PySem.W.minOf (if PySem.W.DatumOrd.lt (zl y) (zl x) = true then zl y else zl x) (xs.map zl) = _
    rw [e, ih]
    rfl
theorem dp_ints {K : PySem.W.Frag} {H : Hp} : ∀ l : List Nat, DpAll K H (vi l) ((zl l).map PySem.W.Datum.toD)
  | [] => .nil
  | n :: l => .cons (.int _) (dp_ints l)
theorem dp_row {K : PySem.W.Frag} {H : Hp} {p : Addr} {l : List Nat} (h : IntsAt H p l) : Dp K H (.ref p) (PySem.W.Datum.toD (zl l)) := .lst (SqL.of h) (dp_ints l)
theorem dp_rows {K : PySem.W.Frag} {H : Hp} : ∀ {as : List Addr} {xs : List (List Nat)}, All2 (IntsAt H) as xs → DpAll K H (as.map V.ref) ((xs.map zl).map PySem.W.Datum.toD)
  | [], [], _ => .nil
  | a :: as, x :: xs, h => .cons (dp_row h.1) (dp_rows h.2)
  | [], _ :: _, h => h.elim
  | _ :: _, [], h => h.elim
theorem toD_inj {α : Type} [DecidableEq α] [PySem.W.Datum α] {a b : α} (h : PySem.W.Datum.toD a = PySem.W.Datum.toD b) : a = b := by
  have e := PySem.W.Datum.eqv a b
  rw [← h, PySem.W.Datum.eqv a a, decide_eq_true rfl] at e
  exact of_decide_eq_true e.symm
def rMinLL (K : PySem.W.Frag) : List V → Hp → VK → Prop := fun vs H Q => ∃ (l : Addr) (as : List Addr) (x : List Nat) (xs : List (List Nat)) (n : Nat), vs = [.ref l] ∧ SqL K H l (as.map V.ref) ∧ All2 (IntsAt H) as (x :: xs) ∧ (∀ y ∈ x :: xs, y.length = n) ∧
  ∀ p, IntsAt H p (minL x xs) → Q (.ref p) H
theorem cr_minLL {X : Cx} (hc : X.calm = true) (hu : X.A.units + 64 < cLine) : CallR X (.builtin "min") (rMinLL X.K) := by
  intro pins s σ H vs us Q I r h
  obtain ⟨l, as, x, xs, n, rfl, hs, hA, hn, q⟩ := h
  obtain ⟨its, rv, pl, hz⟩ := I.list hs
  rw [Vals.ref1 r]
  obtain ⟨bs, hr⟩ := Dp.readsAll I _ _ its (dp_rows hA) rv
  refine PySem.W.min_list_datum (α := List Int) (x := zl x) (xs := xs.map zl) (I.ok.hd hc) pl.isList ⟨bs, by simpa using hr⟩ (by show X.A.units + 1 + 1 < cLine; omega) fun i v h' tk hi hv hk => ?_
  have hi2 : its[i]? = some v := by simpa using hi
  have hl : its.length = as.length := by rw [← rv.length, List.length_map]
  have hia : i < as.length := by rw [← hl]; exact lt_of_get hi2
  obtain ⟨p, hp⟩ : ∃ p, as[i]? = some p := ⟨_, List.getElem?_eq_getElem hia⟩
  obtain ⟨u, hu2, ru⟩ := rv.get (i := i) (x := V.ref p) (by rw [List.getElem?_map, hp]; rfl)
  rw [hi2] at hu2
  have eu : v = u := Option.some.inj hu2
  subst eu
  obtain ⟨y, hy, hI⟩ := hA.get hp
  obtain ⟨cs, r1⟩ := Dp.reads I _ (.ref p) v (dp_row hI) ru
  obtain ⟨ds, r2⟩ := hv
  have e1 := (PySem.Reads.unique (PySem.W.reads_keeps hk r1) _ _ r2).1
  have e2 := toD_inj e1
  rw [minOf_zl xs x (hn x (by simp)) fun z hz => hn z (by simp [hz])] at e2
  have e3 := zl_inj e2
  rw [e3] at hI
  exact ⟨.ref p, H, I.kept hk, ru, q p hI⟩
end Ts
end
section
set_option maxRecDepth 100000
set_option maxHeartbeats 4000000
namespace Ts
open PySem PySem.Spec PyProof.Rows L2
section
variable {P : Program} {w : World} {K : PySem.W.Frag} {mg : Str → Option Value} {base : Heap}
/-! ### the readings that cost something with a pair -/
theorem misfits_snoc (l : List (Nat × Lf06.Reading)) (x : Nat × Lf06.Reading) (p : Lf06.Pair) : Lf06.misfits (l ++ [x]) p = Lf06.misfits l p ++ if (Lf06.costOf p x.2 != 0) = true then [x.1] else [] := by
  unfold Lf06.misfits
  rw [List.filter_append, List.map_append, List.filter_cons, List.filter_nil]
  by_cases h : (Lf06.costOf p x.2 != 0) = true
  · rw [if_pos h, if_pos h]
    rfl
  · rw [if_neg h, if_neg h]
    rfl
theorem misfits_len (l : List (Nat × Lf06.Reading)) (p : Lf06.Pair) : (Lf06.misfits l p).length ≤ l.length := by
  unfold Lf06.misfits
  rw [List.length_map]
  exact List.length_filter_le _ _
def spNumbers (K : PySem.W.Frag) : Sp := fun vs H Q _ => ∃ (l a : Addr) (xs : List (Nat × Lf06.Reading)) (x : Lf06.Pair × Nat), vs = [.ref l, .ref a] ∧ ListAt (ReadAt K) H l xs ∧ PairAt K (xs.map fun x => x.2) H a x ∧ xs.length ≤ 1000 ∧
  ∀ (H' : Hp) (p : Addr), Same H H' → H p = none → IntsAt H' p (Lf06.misfits xs x.1) → Q (.ref p) H'
theorem ok_numbers_that_cost (T : Tx K mg) : DefOk P w K mg base 1 (He.ga K "numbers_that_cost") ["readings", "pair"] (spNumbers K) := by
  refine mkDef T.f_numbers_that_cost sc_numbers_that_cost (fun _ _ _ _ _ _ us hl => match us, hl with | [_, _], _ => rfl) (fun vs H Q E h => ?_) (fun cdv A outer s H vs Q E hr h => ?_)
  · obtain ⟨l, a, xs, x, rfl, _⟩ := h
    rfl
  · obtain ⟨l, a, xs, x, rfl, ⟨as, hl, hA⟩, ⟨dx, f, g, lc, hp, _, _, hc⟩, hlen, k⟩ := h
    refine ⟨_, pss_one (ps_ret (pe_lc (own := [("reading", 2), ("cost", 3)]) (g := gTup K 2 (gCons (gName 2) (gCons (gName 3) gNil))) (tt := tTest (tOp (rI0 fun i j => .bl (decide (j < i))) (tVar 3) (tC (.int 0)))) (te := tFld K (tVar 2) "number") rfl sc_numbers_that_cost.nd (pi_zip (by rfl) T.z_zip (pa_cons (pv 0) (pa_cons (pe_fld (pv 1) rfl) pa_nil)))
      (blkOk_by (own := [("reading", 2), ("cost", 3)]) (N := nm_numbers_that_cost) (sc := defScope s_numbers_that_cost) (by decide +kernel)) (fun _ _ _ _ _ => by exact pg_tup rfl (pgs_cons (pg_name (i := 2) sc_numbers_that_cost.nd rfl (Or.inl rfl)) (pgs_cons (pg_name (i := 3) sc_numbers_that_cost.nd rfl (Or.inl rfl)) pgs_nil)))
      (fun _ _ _ _ _ => by exact pts_one (pt_cmpR op_gt (pv 3) pe_int (nomark _))) (fun _ _ _ _ _ => by exact pe_fld (pv 2) rfl))), ?_⟩
    generalize hcl : (xs.map fun x => x.2).map (Lf06.costOf x.1) = cl at hc
    have ln : xs.length = min (as.map V.ref).length (vi cl).length := by rw [vi_len, ← hcl, List.length_map, List.length_map, List.length_map, hA.len, Nat.min_self]
    refine ⟨_, rfl, _, rfl, a, _, dx, _, _, rfl, hp, T.cl_Pair, T.n_Pair_costs, rfl, l, lc, _, _, rfl, SqL.of hl, SqL.of hc, fun D hD => lc_it (walk_zip (K := K) (a := l) (b := lc) (xs := as.map V.ref) (ys := vi cl) (n := xs.length) ln) (fun i H' => Same H H' ∧ H' D = some (.lst (vi (Lf06.misfits (xs.take i) x.1)))) ⟨same_new hD, upd_same⟩ (fun i H' _ ⟨s1, _⟩ => ⟨SqL.of (s1 _ _ hl), SqL.of (s1 _ _ hc)⟩) ?_ ?_⟩
    · rintro i y H' H2 hi ⟨s1, h1⟩ ⟨T0, x0, y0, rfl, hT0, rfl, hx0, hy0⟩
      have s2 : Same H' (upd H' T0 (.tup [x0, y0])) := same_new hT0
      obtain ⟨u, hu, rfl⟩ := get_map hx0
      obtain ⟨v, hv, rfl⟩ := get_map hy0
      obtain ⟨r, hr0, dr, lm, hur, _⟩ := hA.get hu
      have ev : v = Lf06.costOf x.1 r.2 := by
        rw [← hcl, List.getElem?_map, List.getElem?_map, hr0] at hv
        exact (Option.some.inj hv).symm
      have s12 := s1.trans s2
      refine ⟨T0, _, rfl, SqT.of upd_same, rfl, _, _, rfl, _, _, rfl, ?_⟩
      have et : Lf06.misfits (xs.take (i + 1)) x.1 = Lf06.misfits (xs.take i) x.1 ++ if (Lf06.costOf x.1 r.2 != 0) = true then [r.1] else [] := by rw [take_snoc hr0, misfits_snoc]
      refine ⟨rfl, rfl, _, rfl, _, _, rfl, rfl, _, rfl, ite2 (fun q => ?_) (fun q => ?_)⟩
      · have q1 : (Lf06.costOf x.1 r.2 != 0) = true := by
          have := of_decide_eq_true q
          rw [bne_iff_ne]
          omega
        rw [if_pos q1] at et
        refine ⟨_, rfl, u, _, dr, _, _, rfl, s12 _ _ hur, T.cl_Reading, T.n_Reading_number, rfl, _, s2 _ _ h1, ?_, same_upd s12 hD, ?_⟩
        · rw [vi_len]
          have z1 := misfits_len (xs.take i) x.1
          have z2 : (xs.take i).length ≤ xs.length := List.length_take_le' _ _
          exact Nat.lt_of_le_of_lt (by omega : _ ≤ 1000) (by decide)
        · rw [upd_same, et, vi_app]
          rfl
      · have q1 : ¬ (Lf06.costOf x.1 r.2 != 0) = true := fun z => q (decide_eq_true (by
          rw [bne_iff_ne] at z
          omega))
        rw [if_neg q1, List.append_nil] at et
        rw [et]
        exact ⟨s12, s2 _ _ h1⟩
    · rintro H' ⟨s1, h1⟩
      rw [List.take_length] at h1
      exact k H' D s1 hD h1
/-! ### thrown -/
theorem thrown_told {st : Lf06.St} {r : List Nat} (h : Lf06.thrown st.known st.readings = some r) : (Lf06.step st .thrown).2 = Lf06.ints (r.length :: r) := by
  show (match Lf06.thrown st.known st.readings with
    | none => [0]
    | some l => Lf06.ints (l.length :: l)) = _
  rw [h]
def rLenQ (K : PySem.W.Frag) : List V → Hp → VK → Prop := fun xs H Q => ∃ p ys, xs = [.ref p] ∧ (SqL K H p ys ∨ SqT K H p ys) ∧ Q (.int ys.length) H
def spThrownA (K : PySem.W.Frag) : Sp := fun vs H Q _ => ∃ (s : Addr) (st : Lf06.St), vs = [.ref s] ∧ SessAt K H s st ∧ Wf st ∧ Told H Q (Lf06.step st .thrown).2
theorem ok_answer_thrown (T : Tx K mg) : DefOk P w K mg base 4 (He.ga K "answer_thrown") ["session"] (spThrownA K) := by
  obtain ⟨fd1, G1, b1, kp1⟩ := ok_pairs_that_may_be (P := P) (w := w) (base := base) T
  obtain ⟨fd2, G2, b2, kp2⟩ := ok_numbers_that_cost (P := P) (w := w) (base := base) T
  refine mkDef T.f_answer_thrown sc_answer_thrown (fun _ _ _ _ _ _ us hl => match us, hl with | [_], _ => rfl) (fun vs H Q E h => ?_) (fun cdv A outer s H vs Q E hr h => ?_)
  · obtain ⟨s, st, rfl, _⟩ := h
    rfl
  · obtain ⟨s, st, rfl, hS, W, k⟩ := h
    have hr1 : Room 1 _ := hr.mono (by decide)
    refine ⟨_, pss_cons (ps_setLc (i := 1) (own := [("pair", 3)]) (g := gName 3) (tt := tYes) (te := tCall (spNumbers K) [] E0 (tCons (tFld K (tVar 0) "readings") (tCons (tVar 3) tNil))) rfl sc_answer_thrown.nd rfl rfl (sw_true rfl rfl rfl (by decide +kernel)) (pi_list (pe_call G1 hr rfl T.g_pairs_that_may_be kp1 b1 .nil pass0 (pa_cons (pv 0) pa_nil)))
          (blkOk_by (own := [("pair", 3)]) (N := nm_answer_thrown) (sc := defScope s_answer_thrown) (by decide +kernel)) (fun _ _ _ _ _ => pg_name (i := 3) sc_answer_thrown.nd rfl (Or.inl rfl)) (fun _ _ _ _ _ => pts_nil)
          (fun _ _ _ _ _ => by exact pe_call G2 hr1 rfl T.g_numbers_that_cost kp2 b2 .nil pass0 (pa_cons (pe_fld (pv 0) rfl) (pa_cons (pv 3) pa_nil))))
      (pss_cons (ps_set (i := 2) sc_answer_thrown.nd rfl (Or.inr rfl) (pe_callB (cr_min rfl) (by rfl) T.z_min (by decide +kernel) (pa_cons (pe_lc (own := [("numbers", 4)]) (g := gName 4) (tt := tYes) (te := tCB (rLenQ K) (tCons (tVar 4) tNil)) rfl sc_answer_thrown.nd (pi_list (pv 1))
          (blkOk_by (own := [("numbers", 4)]) (N := nm_answer_thrown) (sc := defScope s_answer_thrown) (by decide +kernel)) (fun _ _ _ _ _ => pg_name (i := 4) sc_answer_thrown.nd rfl (Or.inl rfl)) (fun _ _ _ _ _ => pts_nil)
          (fun _ _ _ _ _ => by exact pe_callB call_len_seq (by rfl) T.z_len PySem.boot_len (pa_cons (pv 4) pa_nil))) pa_nil)))
      (pss_one (ps_ret (pe_op op_cat (pe_lst (pa_cons (pv 2) pa_nil)) (pe_callB (cr_minLL rfl hr.units) (by rfl) T.z_min (by decide +kernel) (pa_cons (pe_lc (own := [("numbers", 4)]) (g := gName 4) (tt := tTest (tOp rEq (tCB (rLenQ K) (tCons (tVar 4) tNil)) (tVar 2))) (te := tVar 4) rfl sc_answer_thrown.nd (pi_list (pv 1))
          (blkOk_by (own := [("numbers", 4)]) (N := nm_answer_thrown) (sc := defScope s_answer_thrown) (by decide +kernel)) (fun _ _ _ _ _ => pg_name (i := 4) sc_answer_thrown.nd rfl (Or.inl rfl))
          (fun _ _ _ _ _ => by exact pts_one (pt_cmpR op_eq (pe_callB call_len_seq (by rfl) T.z_len PySem.boot_len (pa_cons (pv 4) pa_nil)) (pv 2) (nomark _))) (fun _ _ _ _ _ => by exact pv 4)) pa_nil)))))), ?_⟩
    obtain ⟨ds, lf, lr, hs, hf, hR⟩ := id hS
    have hlen := pairsC_len (rs := Lf06.readings st) W.n6
    have hne := pairsC_ne st.known (Lf06.readings st)
    have eRw : (pairsC st.known (Lf06.readings st)).map (fun x => Lf06.misfits st.readings x.1) = (Lf06.pairs st.known).map (Lf06.misfits st.readings) := by
      unfold pairsC
      rw [List.map_map]
      rfl
    -- choices = [..]
    refine ⟨_, rfl, s, st, rfl, hS, W, fun H1 l1 s1 hl1 hL1 => ?_⟩
    generalize hPC : pairsC st.known (Lf06.readings st) = PC at hlen hne eRw hL1
    obtain ⟨as, hl, hA⟩ := hL1
    refine ⟨l1, rfl, ⟨_, SqL.of hl⟩, fun D hD => lc_list (K := K) (a := l1) (xs := as.map V.ref) (fun i H' => Grow IntsAt H1 H' D ((PC.take i).map fun x => Lf06.misfits st.readings x.1)) (Grow.start hD) (fun i H' _ G => SqL.of (G.2.1 _ _ hl)) ?_ ?_⟩
    · rintro i y H' hi G
      obtain ⟨c, hc, rfl⟩ := get_map hi
      obtain ⟨x, hx, hP⟩ := hA.get hc
      have sH := s1.trans G.2.1
      refine ⟨rfl, tyes ?_⟩
      refine ⟨_, rfl, s, _, ds, _, _, rfl, sH _ _ hs, T.cl_Session, T.n_Session_readings, rfl, _, rfl, ?_⟩
      refine ⟨lr, c, st.readings, x, rfl, hR.same sH (fun _ _ q => q.same sH), hP.same G.2.1, W.good.1, fun H2 p s2 hp hQ => ?_⟩
      have hRp : IntsAt (del H2 D) p (Lf06.misfits st.readings x.1) := by
        unfold IntsAt
        rw [del_ne (G.ne_new (Same.refl _) hp)]
        exact hQ
      obtain ⟨xs, hx1, hxl, G2⟩ := G.step mono_ints s2 hRp
      refine ⟨_, hx1, ?_, by rw [take_snoc hx, List.map_append]; exact G2⟩
      rw [hxl, List.length_map]
      exact Nat.lt_of_le_of_lt (Nat.le_trans (List.length_take_le' _ _) hlen) (by decide)
    · rintro H2 G
      rw [List.length_map, hA.len, List.take_length, eRw] at G
      have lRw : ((Lf06.pairs st.known).map (Lf06.misfits st.readings)).length = PC.length := by rw [← eRw, List.length_map]
      have bRw : ∀ r ∈ (Lf06.pairs st.known).map (Lf06.misfits st.readings), r.length ≤ 1000 := fun r hr => by
        obtain ⟨p, _, rfl⟩ := List.mem_map.mp hr
        exact Nat.le_trans (misfits_len _ _) W.good.1
      have tis := @thrown_is st.known st.readings
      generalize hRw : (Lf06.pairs st.known).map (Lf06.misfits st.readings) = Rw at G lRw bRw tis
      have s12 := G.2.1
      obtain ⟨cs, hcs, hC⟩ := G.done mono_ints
      -- fewest = min([len(numbers) for numbers in choices])
      refine ⟨_, rfl, D, rfl, ⟨_, SqL.of hcs⟩, fun D2 hD2 => lc_list (K := K) (a := D) (xs := cs.map V.ref) (fun i H' => Same H2 H' ∧ H' D2 = some (.lst (vi ((Rw.take i).map List.length)))) ⟨same_new hD2, upd_same⟩ (fun i H' _ G => SqL.of (G.1 _ _ hcs)) ?_ ?_⟩
      · rintro i y H' hi ⟨s3, h3⟩
        obtain ⟨c, hc, rfl⟩ := get_map hi
        obtain ⟨x, hx, hI⟩ := hC.get hc
        refine ⟨rfl, tyes ?_⟩
        refine ⟨_, rfl, c, _, rfl, .inl (SqL.of (s3 _ _ hI)), _, h3, ?_, same_upd s3 hD2, ?_⟩
        · rw [vi_len, List.length_map]
          exact Nat.lt_of_le_of_lt (Nat.le_trans (List.length_take_le' _ _) (by omega : Rw.length ≤ 4096)) (by decide)
        · rw [upd_same, take_snoc hx, List.map_append, vi_app, vi_len]
          rfl
      · rintro H3 ⟨s3, h3⟩
        rw [List.length_map, hC.len, List.take_length] at h3
        refine ⟨D2, (Rw.map List.length).map fun (n : Nat) => (n : Int), rfl, SqL.of (by rw [← vi_eq]; exact h3), by rw [List.length_map, List.length_map, lRw]; exact hne, fun m0 hm0 hle0 => ?_⟩
        obtain ⟨m, hm, rfl⟩ := List.mem_map.mp hm0
        have hle : ∀ r ∈ Rw, m ≤ r.length := fun r hr => by
          have := hle0 ((r.length : Nat) : Int) (List.mem_map.mpr ⟨r.length, List.mem_map.mpr ⟨r, hr, rfl⟩, rfl⟩)
          omega
        -- [fewest] + min([..])
        refine ⟨_, rfl, (by show 1 ≤ sizeLine; decide), fun q hq => ?_⟩
        have s4 := same_new (o := .lst [V.int (m : Int)]) hq
        have s24 := s3.trans s4
        refine ⟨_, rfl, D, rfl, ⟨_, SqL.of (s24 _ _ hcs)⟩, fun B hB => lc_list (K := K) (a := D) (xs := cs.map V.ref) (fun i H' => Grow IntsAt (upd H3 q (.lst [V.int (m : Int)])) H' B ((Rw.take i).filter fun r => r.length == m)) (Grow.start hB) (fun i H' _ G => SqL.of (G.2.1 _ _ (s24 _ _ hcs))) ?_ ?_⟩
        · rintro i y H' hi G
          obtain ⟨c, hc, rfl⟩ := get_map hi
          obtain ⟨x, hx, hI⟩ := hC.get hc
          have s5 := s24.trans G.2.1
          refine ⟨rfl, _, rfl, c, _, rfl, .inl (SqL.of (s5 _ _ hI)), _, rfl, rfl, _, rfl, ?_⟩
          have et : (Rw.take (i + 1)).filter (fun r => r.length == m) = (Rw.take i).filter (fun r => r.length == m) ++ if x.length = m then [x] else [] := by
            rw [take_snoc hx, List.filter_append, List.filter_cons, List.filter_nil]
            by_cases q : x.length = m <;> simp [q]
          rw [vi_len, dec_vint]
          refine ite2 (fun z => ?_) (fun z => ?_)
          · have q1 := of_decide_eq_true z
            rw [if_pos q1] at et
            obtain ⟨xs, hx1, hxl, G2⟩ := G.step mono_ints (Same.refl _) (p := c) (b := x) (hI.same (same_del s5 (s24.free hB)))
            refine ⟨_, rfl, _, hx1, ?_, by rw [et]; exact G2⟩
            rw [hxl]
            exact Nat.lt_of_le_of_lt (Nat.le_trans (List.length_filter_le _ _) (Nat.le_trans (List.length_take_le' _ _) (by omega : Rw.length ≤ 4096))) (by decide)
          · have q1 : ¬ x.length = m := fun z2 => z (decide_eq_true z2)
            rw [if_neg q1, List.append_nil] at et
            rw [et]
            exact G
        · rintro H5 G
          rw [List.length_map, hC.len, List.take_length] at G
          have s5 := G.2.1
          obtain ⟨bs, hB5, hF⟩ := G.done mono_ints
          obtain ⟨r0, hr0, er0⟩ := List.mem_map.mp hm
          have inF : r0 ∈ Rw.filter fun r => r.length == m := List.mem_filter.mpr ⟨hr0, by rw [beq_iff_eq]; exact er0⟩
          generalize hFl : (Rw.filter fun r => r.length == m) = Fl at hF inF
          cases Fl with
          | nil => cases inF
          | cons x xs =>
            have memF : ∀ y, y ∈ x :: xs ↔ y ∈ Rw ∧ y.length = m := fun y => by
              rw [← hFl, List.mem_filter, beq_iff_eq]
            refine ⟨B, bs, x, xs, m, rfl, SqL.of hB5, hF, fun y hy => ((memF y).mp hy).2, fun p hI => ?_⟩
            obtain ⟨z1, z2⟩ := minL_is x xs
            obtain ⟨z3, z4⟩ := (memF _).mp z1
            have th := tis (r := minL x xs) z3 (fun b hb => by rw [z4]; exact hle b hb) (fun b hb e => z2 b ((memF b).mpr ⟨hb, by rw [e, z4]⟩))
            rw [thrown_told th] at k
            have bl := bRw _ z3
            refine ⟨q, p, _, _, rfl, rfl, s5 _ _ upd_same, hI, (by rw [vi_len]; show 1 + _ ≤ sizeLine; exact Nat.le_trans (by omega : _ ≤ 2000) (by decide)), fun o ho => ?_⟩
            have sA := (s1.trans s12).trans (s24.trans s5)
            refine k _ o (sA.trans (same_new ho)) (sA.free ho) ?_
            unfold OutAt
            rw [upd_same, ints_vi, ← z4]
            rfl
end
end Ts
end
section
set_option maxRecDepth 100000
set_option maxHeartbeats 4000000
namespace Ts
open PySem PySem.Spec PyProof.Rows L2
/-! ### behind what was taken off the tape -/
structure Took (K : PySem.W.Frag) (H H1 : Hp) (tp dt a : Addr) (j : Nat) : Prop where
  at_ : H1 tp = some (.ins (He.ga K "Tape") dt (fTape a j))
  keep : KeepsBut H H1 tp
  back : ∀ b, H1 b = none → H b = none
section
variable {K : PySem.W.Frag} {R : Addr → Prop} {H H1 H2 : Hp} {s tp dt a : Addr} {i j : Nat} {st : Lf06.St} {x : Lf06.Call} {Q : VK} {xs : List V}
theorem Took.step (t : Took K H H1 tp dt a i) : Took K H (upd H1 tp (.ins (He.ga K "Tape") dt (fTape a j))) tp dt a j :=
  ⟨upd_same, fun b o e hb => by rw [upd_ne hb]; exact t.keep b o e hb, fun b e => t.back b (by
    by_cases h : b = tp
    · rw [h, upd_same] at e
      cases e
    · rw [upd_ne h] at e
      exact e)⟩
theorem Took.first (h : H tp = some (.ins (He.ga K "Tape") dt (fTape a i))) : Took K H (upd H tp (.ins (He.ga K "Tape") dt (fTape a j))) tp dt a j :=
  Took.step (H1 := H) ⟨h, fun b o e _ => e, fun b e => e⟩
theorem Took.row (t : Took K H H1 tp dt a i) (k : KeepsBut H1 H2 tp) (e : H2 tp = some (.ins (He.ga K "Tape") dt (fTape a j))) : Took K H H2 tp dt a j :=
  ⟨e, fun b o e hb => k b o (t.keep b o e hb) hb, fun b e2 => t.back b (by
    cases q : H1 b with
    | none => rfl
    | some o =>
      by_cases h : b = tp
      · rw [h, e] at e2
        cases e2
      · rw [k b o q h] at e2
        cases e2)⟩
theorem Took.seq (t : Took K H H1 tp dt a j) (h0 : H tp = some (.ins (He.ga K "Tape") dt (fTape a i))) (h : SqL K H a xs) : SqL K H1 a xs := seq_but h h0 t.keep
theorem Took.sess (t : Took K H H1 tp dt a j) (nR : ¬ R tp) (S : Sess K R H s st) : Sess K R H1 s st := by
  obtain ⟨F, lf, lr, S, hF, Rs, Rf, Rr⟩ := S
  obtain ⟨dx, o1⟩ := S.obj
  obtain ⟨as, o2, o3⟩ := S.reads
  have ne : ∀ {b : Addr}, R b → b ≠ tp := fun hb e => nR (by rw [← e]; exact hb)
  exact ⟨F, lf, lr, ⟨fun b o e => t.keep b o (S.sub b o e) (ne (hF b o e)), S.fs, S.ff, S.fr, S.nfr, ⟨dx, t.keep _ _ o1 (ne Rs)⟩, t.keep _ _ S.facts (ne Rf), as, t.keep _ _ o2 (ne Rr), o3⟩, hF, Rs, Rf, Rr⟩
theorem Took.refl (h : H tp = some (.ins (He.ga K "Tape") dt (fTape a i))) : Took K H H tp dt a i := ⟨h, fun _ _ e _ => e, fun _ e => e⟩
/-- what a call is handed over to -/
def Done (K : PySem.W.Frag) (R : Addr → Prop) (H : Hp) (s tp dt a : Addr) (j : Nat) (Q : VK) (r : Lf06.St × List Int) : Prop :=
  ∀ (H' : Hp) (p : Addr) (R' : Addr → Prop), Sess K R' H' s r.1 → (∀ b, R' b → R b ∨ H b = none) → (∀ b o, H b = some o → ¬ R b → b ≠ tp → H' b = some o) →
    H' tp = some (.ins (He.ga K "Tape") dt (fTape a j)) → H p = none → OutAt H' p r.2 → Q (.ref p) H'
theorem Done.turn {r : Lf06.St × List Int} (k : Done K R H s tp dt a j Q r) (t : Took K H H1 tp dt a j) (nR : ¬ R tp) : Turn K R H1 s Q r := by
  intro H' p N hp ho
  obtain ⟨R', S, h1, h2⟩ := N
  exact k H' p R' S (fun b hb => (h1 b hb).imp id (t.back b)) (fun b o e q1 q2 => h2 b o (t.keep b o e q2) q1) (h2 _ _ t.at_ nR) (t.back p hp) ho
theorem Done.told {l : List Int} (k : Done K R H s tp dt a j Q (st, l)) (t : Took K H H1 tp dt a j) (nR : ¬ R tp) (S : Sess K R H s st) : Told H1 Q l := by
  intro H' p sm hp ho
  exact Done.turn k t nR H' p (Nxt.pure (t.sess nR S) sm) hp ho
theorem Done.shift {r : Lf06.St × List Int} (k : Done K R H s tp dt a j Q r) (t : Took K H H1 tp dt a i) : Done K R H1 s tp dt a j Q r := fun H' p R' S h1 h2 h3 hp ho =>
  k H' p R' S (fun b hb => (h1 b hb).imp id (t.back b)) (fun b o e q1 q2 => h2 b o (t.keep b o e q2) q1 q2) h3 (t.back p hp) ho
end
theorem iteNo {a b : Int} {A B : Prop} (h : B) (n : a ≠ b := by decide) : if decide (V.int a = V.int b) = true then A else B := by
  rw [dec_vintI, decide_eq_false n]
  exact iteF h
theorem iteYes {a : Int} {A B : Prop} (h : A) : if decide (V.int a = V.int a) = true then A else B := by
  rw [decide_eq_true rfl]
  exact iteT h
section
variable {P : Program} {w : World} {K : PySem.W.Frag} {mg : Str → Option Value} {base : Heap}
/-- calls that change nothing -/
def Asks (x : Lf06.Call) : Prop := match x with
  | .start _ | .known _ _ | .read _ | .drop _ => False
  | _ => True
theorem asks_code {ns : List Int} {i j : Nat} {x : Lf06.Call} (h : CallAt ns i x j) (q : Asks x) : ∃ c : Int, ns[i]? = some c ∧ 4 ≤ c := by
  cases x with
  | start _ => exact q.elim
  | known _ _ => exact q.elim
  | read _ => exact q.elim
  | drop _ => exact q.elim
  | best => exact ⟨_, h.1, by decide⟩
  | nth _ => exact ⟨_, h.1, by decide⟩
  | sides => exact ⟨_, h.1, by decide⟩
  | tie _ _ => exact ⟨_, h.1, by decide⟩
  | placed _ => exact ⟨_, h.1, by decide⟩
  | blocks => exact ⟨_, h.1, by decide⟩
  | thrown => exact ⟨_, h.1, by decide⟩
  | cost _ _ => exact ⟨_, h.1, by decide⟩
  | shows => exact ⟨_, h.1, by decide⟩
def spQuestion (K : PySem.W.Frag) : Sp := fun vs H Q _ => ∃ (s tp dt a : Addr) (c : Int) (i j : Nat) (ns : List Int) (R : Addr → Prop) (st : Lf06.St) (x : Lf06.Call),
  vs = [.ref s, .int c, .ref tp] ∧ Sess K R H s st ∧ WfN st ∧ ¬ R tp ∧ H tp = some (.ins (He.ga K "Tape") dt (fTape a ((i + 1 : Nat) : Int))) ∧ SqL K H a (ns.map V.int) ∧ ns[i]? = some c ∧ CallAt ns i x j ∧ Asks x ∧ Done K R H s tp dt a j Q (Lf06.step st x)
theorem ok_answer_question (T : Tx K mg) : DefOk P w K mg base 6 (He.ga K "answer_question") ["session", "call", "tape"] (spQuestion K) := by
  obtain ⟨fdT, GT, bT, kpT⟩ := ok_Tape_take (P := P) (w := w) (base := base) T
  obtain ⟨fdR, GR, bR, kpR⟩ := ok_Tape_take_row (P := P) (w := w) (base := base) T
  obtain ⟨fd4, G4, b4, kp4⟩ := ok_answer_best (P := P) (w := w) (base := base) T
  obtain ⟨fd5, G5, b5, kp5⟩ := ok_answer_nth (P := P) (w := w) (base := base) T
  obtain ⟨fd6, G6, b6, kp6⟩ := ok_answer_sides (P := P) (w := w) (base := base) T
  obtain ⟨fd7, G7, b7, kp7⟩ := ok_answer_tie (P := P) (w := w) (base := base) T
  obtain ⟨fd8, G8, b8, kp8⟩ := ok_answer_placed (P := P) (w := w) (base := base) T
  obtain ⟨fd9, G9, b9, kp9⟩ := ok_answer_blocks (P := P) (w := w) (base := base) T
  obtain ⟨fdA, GA, bA, kpA⟩ := ok_answer_thrown (P := P) (w := w) (base := base) T
  obtain ⟨fdB, GB, bB, kpB⟩ := ok_answer_cost (P := P) (w := w) (base := base) T
  obtain ⟨fdC, GC, bC, kpC⟩ := ok_answer_shows (P := P) (w := w) (base := base) T
  obtain ⟨t4, i4⟩ := T.i_BEST
  obtain ⟨t5, i5⟩ := T.i_NTH
  obtain ⟨t6, i6⟩ := T.i_SIDES
  obtain ⟨t7, i7⟩ := T.i_TIE
  obtain ⟨t8, i8⟩ := T.i_PLACED
  obtain ⟨t9, i9⟩ := T.i_BLOCKS
  obtain ⟨tA, iA⟩ := T.i_THROWN
  obtain ⟨tB, iB⟩ := T.i_COST
  obtain ⟨tC, iC⟩ := T.i_SHOWS
  refine mkDef T.f_answer_question sc_answer_question (fun _ _ _ _ _ _ us hl => match us, hl with | [_, _, _], _ => rfl) (fun vs H Q E h => ?_) (fun cdv A outer s H vs Q E hr h => ?_)
  · obtain ⟨s, tp, dt, a, c, i, j, ns, R, st, x, rfl, _⟩ := h
    rfl
  · obtain ⟨s, tp, dt, a, c, i, j, ns, R, st, x, rfl, hS, W, nR, htp, hL, hc, hx, ask, k⟩ := h
    have hr1 : Room 1 _ := hr.mono (by decide)
    have hr2 : Room 2 _ := hr.mono (by decide)
    have hr3 : Room 3 _ := hr.mono (by decide)
    have hr4 : Room 4 _ := hr.mono (by decide)
    refine ⟨_, pss_cons (ps_if (pt_cmpR op_eq (pv 1) (pe_gi i4) (nomark _)) (pss_one (ps_ret (pe_call G4 hr rfl T.g_answer_best kp4 b4 .nil pass0 (pa_cons (pv 0) pa_nil)))) pss_nil)
      (pss_cons (ps_if (pt_cmpR op_eq (pv 1) (pe_gi i5) (nomark _)) (pss_one (ps_ret (pe_call G5 hr rfl T.g_answer_nth kp5 b5 .nil pass0 (pa_cons (pv 0) (pa_cons (pe_meth0 (pv 2) T.cl_Tape T.m_Tape_take GT hr1 bT .nil pass0) pa_nil))))) pss_nil)
      (pss_cons (ps_if (pt_cmpR op_eq (pv 1) (pe_gi i6) (nomark _)) (pss_one (ps_ret (pe_call G6 hr rfl T.g_answer_sides kp6 b6 .nil pass0 (pa_cons (pv 0) pa_nil)))) pss_nil)
      (pss_cons (ps_if (pt_cmpR op_eq (pv 1) (pe_gi i7) (nomark _)) (pss_cons (ps_set (i := 3) sc_answer_question.nd rfl (Or.inl rfl) (pe_meth0 (pv 2) T.cl_Tape T.m_Tape_take GT hr1 bT .nil pass0)) (pss_cons (ps_set (i := 4) sc_answer_question.nd rfl (Or.inl rfl) (pe_meth0 (pv 2) T.cl_Tape T.m_Tape_take GT hr1 bT .nil pass0)) (pss_one (ps_ret (pe_call G7 hr4 rfl T.g_answer_tie kp7 b7 .nil pass0 (pa_cons (pv 0) (pa_cons (pv 3) (pa_cons (pv 4) pa_nil)))))))) pss_nil)
      (pss_cons (ps_if (pt_cmpR op_eq (pv 1) (pe_gi i8) (nomark _)) (pss_one (ps_ret (pe_call G8 hr4 rfl T.g_answer_placed kp8 b8 .nil pass0 (pa_cons (pv 0) (pa_cons (pe_meth0 (pv 2) T.cl_Tape T.m_Tape_take GT hr1 bT .nil pass0) pa_nil))))) pss_nil)
      (pss_cons (ps_if (pt_cmpR op_eq (pv 1) (pe_gi i9) (nomark _)) (pss_one (ps_ret (pe_call G9 hr2 rfl T.g_answer_blocks kp9 b9 .nil pass0 (pa_cons (pv 0) pa_nil)))) pss_nil)
      (pss_cons (ps_if (pt_cmpR op_eq (pv 1) (pe_gi iA) (nomark _)) (pss_one (ps_ret (pe_call GA hr4 rfl T.g_answer_thrown kpA bA .nil pass0 (pa_cons (pv 0) pa_nil)))) pss_nil)
      (pss_cons (ps_if (pt_cmpR op_eq (pv 1) (pe_gi iB) (nomark _)) (pss_cons (ps_set (i := 5) sc_answer_question.nd rfl (Or.inl rfl) (pe_meth0 (pv 2) T.cl_Tape T.m_Tape_take_row GR hr2 bR .nil pass0)) (pss_cons (ps_set (i := 4) sc_answer_question.nd rfl (Or.inl rfl) (pe_meth0 (pv 2) T.cl_Tape T.m_Tape_take_row GR hr2 bR .nil pass0)) (pss_one (ps_ret (pe_call GB hr3 rfl T.g_answer_cost kpB bB .nil pass0 (pa_cons (pv 0) (pa_cons (pv 5) (pa_cons (pv 4) pa_nil)))))))) pss_nil)
      (pss_cons (ps_if (pt_cmpR op_eq (pv 1) (pe_gi iC) (nomark _)) (pss_one (ps_ret (pe_call GC hr1 rfl T.g_answer_shows kpC bC .nil pass0 (pa_cons (pv 0) pa_nil)))) pss_nil)
      (pss_one ps_never))))))))), ?_⟩
    have t0 : Took K H H tp dt a (i + 1) := Took.refl htp
    have same : ∀ {d : Int}, ns[i]? = some d → c = d := fun e => by
      rw [hc] at e
      exact Option.some.inj e
    cases x with
    | start _ => exact ask.elim
    | known _ _ => exact ask.elim
    | read _ => exact ask.elim
    | drop _ => exact ask.elim
    | best =>
      obtain ⟨x0, rfl⟩ := hx
      obtain rfl := same x0
      refine ⟨_, rfl, rfl, _, rfl, iteYes ?_⟩
      exact ⟨_, rfl, s, st, rfl, hS.at, W.toWf, Done.told (st := st) k t0 nR hS⟩
    | nth n =>
      obtain ⟨x0, x1, rfl⟩ := hx
      obtain rfl := same x0
      refine ⟨_, rfl, rfl, _, rfl, iteNo ⟨_, rfl, rfl, _, rfl, iteYes ?_⟩⟩
      refine ⟨_, rfl, _, rfl, tp, dt, _, rfl, htp, rfl, tp, dt, a, i + 1, ns, _, rfl, htp, hL, x1, ?_⟩
      exact ⟨s, n, st, rfl, (t0.step.sess nR hS).at, W.toWf, Done.told (st := st) k t0.step nR hS⟩
    | sides =>
      obtain ⟨x0, rfl⟩ := hx
      obtain rfl := same x0
      refine ⟨_, rfl, rfl, _, rfl, iteNo ⟨_, rfl, rfl, _, rfl, iteNo ⟨_, rfl, rfl, _, rfl, iteYes ?_⟩⟩⟩
      exact ⟨_, rfl, s, st, rfl, hS.at, W.toWf, Done.told (st := st) k t0 nR hS⟩
    | tie p q =>
      obtain ⟨x0, x1, x2, rfl⟩ := hx
      obtain rfl := same x0
      refine ⟨_, rfl, rfl, _, rfl, iteNo ⟨_, rfl, rfl, _, rfl, iteNo ⟨_, rfl, rfl, _, rfl, iteNo ⟨_, rfl, rfl, _, rfl, iteYes ?_⟩⟩⟩⟩
      have t2 := t0.step (j := i + 1 + 1)
      refine ⟨_, rfl, tp, dt, _, rfl, htp, rfl, tp, dt, a, i + 1, ns, _, rfl, htp, hL, x1, ?_⟩
      refine ⟨_, rfl, tp, dt, _, rfl, t2.at_, rfl, tp, dt, a, i + 2, ns, _, rfl, t2.at_, t2.seq htp hL, x2, ?_⟩
      exact ⟨_, rfl, _, rfl, _, rfl, s, p, q, st, rfl, (t2.step.sess nR hS).at, W.toWf, Done.told (st := st) k t2.step nR hS⟩
    | placed n =>
      obtain ⟨x0, x1, rfl⟩ := hx
      obtain rfl := same x0
      refine ⟨_, rfl, rfl, _, rfl, iteNo ⟨_, rfl, rfl, _, rfl, iteNo ⟨_, rfl, rfl, _, rfl, iteNo ⟨_, rfl, rfl, _, rfl, iteNo ⟨_, rfl, rfl, _, rfl, iteYes ?_⟩⟩⟩⟩⟩
      refine ⟨_, rfl, _, rfl, tp, dt, _, rfl, htp, rfl, tp, dt, a, i + 1, ns, _, rfl, htp, hL, x1, ?_⟩
      exact ⟨s, n, st, rfl, (t0.step.sess nR hS).at, W.toWf, Done.told (st := st) k t0.step nR hS⟩
    | blocks =>
      obtain ⟨x0, rfl⟩ := hx
      obtain rfl := same x0
      refine ⟨_, rfl, rfl, _, rfl, iteNo ⟨_, rfl, rfl, _, rfl, iteNo ⟨_, rfl, rfl, _, rfl, iteNo ⟨_, rfl, rfl, _, rfl, iteNo ⟨_, rfl, rfl, _, rfl, iteNo ⟨_, rfl, rfl, _, rfl, iteYes ?_⟩⟩⟩⟩⟩⟩
      exact ⟨_, rfl, s, st, rfl, hS.at, W, Done.told (st := st) k t0 nR hS⟩
    | thrown =>
      obtain ⟨x0, rfl⟩ := hx
      obtain rfl := same x0
      refine ⟨_, rfl, rfl, _, rfl, iteNo ⟨_, rfl, rfl, _, rfl, iteNo ⟨_, rfl, rfl, _, rfl, iteNo ⟨_, rfl, rfl, _, rfl, iteNo ⟨_, rfl, rfl, _, rfl, iteNo ⟨_, rfl, rfl, _, rfl, iteNo ⟨_, rfl, rfl, _, rfl, iteYes ?_⟩⟩⟩⟩⟩⟩⟩
      exact ⟨_, rfl, s, st, rfl, hS.at, W.toWf, Done.told (st := st) k t0 nR hS⟩
    | cost la lb =>
      obtain ⟨x0, x1, x2, x3, x4, x5, x6, x7, x8, rfl⟩ := hx
      obtain rfl := same x0
      refine ⟨_, rfl, rfl, _, rfl, iteNo ⟨_, rfl, rfl, _, rfl, iteNo ⟨_, rfl, rfl, _, rfl, iteNo ⟨_, rfl, rfl, _, rfl, iteNo ⟨_, rfl, rfl, _, rfl, iteNo ⟨_, rfl, rfl, _, rfl, iteNo ⟨_, rfl, rfl, _, rfl, iteNo ⟨_, rfl, rfl, _, rfl, iteYes ?_⟩⟩⟩⟩⟩⟩⟩⟩
      refine ⟨_, rfl, tp, dt, _, rfl, htp, rfl, tp, dt, a, i + 1, ns, la.length, rfl, htp, hL, x1, by omega, fun H1 r1 hr1' h1 h2 h3 => ?_⟩
      have t1 := t0.row h3 h2
      have e1 : i + 1 + 1 + la.length = i + 2 + la.length := by omega
      refine ⟨_, rfl, tp, dt, _, rfl, t1.at_, rfl, tp, dt, a, i + 1 + 1 + la.length, ns, lb.length, rfl, t1.at_, t1.seq htp hL, by rw [e1]; exact x5, by omega, fun H2 r2 hr2' g1 g2 g3 => ?_⟩
      have t2 := t1.row g3 g2
      have e2 : i + 1 + 1 + la.length + 1 + lb.length = i + 3 + la.length + lb.length := by omega
      rw [e2] at t2
      refine ⟨_, rfl, _, rfl, _, rfl, s, r1, r2, st, la, lb, rfl, (t2.sess nR hS).at, W.toWf, ?_, ?_, by omega, by omega, Done.told (st := st) k t2 nR hS⟩
      · refine g3 _ _ ?_ (ne_of h1 t1.at_ (by intro q; cases q))
        rw [h1, x3, vi_eq]
      · unfold IntsAt
        have e3 : i + 1 + 1 + la.length + 1 = i + 3 + la.length := by omega
        rw [g1, e3, x7, vi_eq]
    | shows =>
      obtain ⟨x0, rfl⟩ := hx
      obtain rfl := same x0
      refine ⟨_, rfl, rfl, _, rfl, iteNo ⟨_, rfl, rfl, _, rfl, iteNo ⟨_, rfl, rfl, _, rfl, iteNo ⟨_, rfl, rfl, _, rfl, iteNo ⟨_, rfl, rfl, _, rfl, iteNo ⟨_, rfl, rfl, _, rfl, iteNo ⟨_, rfl, rfl, _, rfl, iteNo ⟨_, rfl, rfl, _, rfl, iteNo ⟨_, rfl, rfl, _, rfl, iteYes ?_⟩⟩⟩⟩⟩⟩⟩⟩⟩
      exact ⟨_, rfl, s, st, rfl, hS.at, W.toWf, Done.told (st := st) k t0 nR hS⟩
theorem ok_answer_call (T : Tx K mg) : DefOk P w K mg base 7 (He.ga K "answer_call") ["session", "tape"] (spCall K) := by
  obtain ⟨fdT, GT, bT, kpT⟩ := ok_Tape_take (P := P) (w := w) (base := base) T
  obtain ⟨fdR, GR, bR, kpR⟩ := ok_Tape_take_row (P := P) (w := w) (base := base) T
  obtain ⟨fd0, G0, b0, kp0⟩ := ok_answer_start (P := P) (w := w) (base := base) T
  obtain ⟨fd1, G1, b1, kp1⟩ := ok_answer_known (P := P) (w := w) (base := base) T
  obtain ⟨fd2, G2, b2, kp2⟩ := ok_answer_read (P := P) (w := w) (base := base) T
  obtain ⟨fd3, G3, b3, kp3⟩ := ok_answer_drop (P := P) (w := w) (base := base) T
  obtain ⟨fd4, G4, b4, kp4⟩ := ok_answer_question (P := P) (w := w) (base := base) T
  obtain ⟨t0, i0⟩ := T.i_START
  obtain ⟨t1, i1⟩ := T.i_KNOWN
  obtain ⟨t2, i2⟩ := T.i_READ
  obtain ⟨t3, i3⟩ := T.i_DROP
  refine mkDef T.f_answer_call sc_answer_call (fun _ _ _ _ _ _ us hl => match us, hl with | [_, _], _ => rfl) (fun vs H Q E h => ?_) (fun cdv A outer s H vs Q E hr h => ?_)
  · obtain ⟨s, tp, dt, a, i, j, ns, R, st, x, rfl, _⟩ := h
    rfl
  · obtain ⟨s, tp, dt, a, i, j, ns, R, st, x, rfl, hS, W, nR, htp, hL, hx, k0⟩ := h
    have k : Done K R H s tp dt a j Q (Lf06.step st x) := k0
    have hr1 : Room 1 _ := hr.mono (by decide)
    have hr2 : Room 2 _ := hr.mono (by decide)
    refine ⟨_, pss_cons (ps_set (i := 2) sc_answer_call.nd rfl (Or.inl rfl) (pe_meth0 (pv 1) T.cl_Tape T.m_Tape_take GT hr1 bT .nil pass0))
      (pss_cons (ps_if (pt_cmpR op_eq (pv 2) (pe_gi i0) (nomark _)) (pss_one (ps_ret (pe_call G0 hr2 rfl T.g_answer_start kp0 b0 .nil pass0 (pa_cons (pv 0) (pa_cons (pe_meth0 (pv 1) T.cl_Tape T.m_Tape_take GT hr1 bT .nil pass0) pa_nil))))) pss_nil)
      (pss_cons (ps_if (pt_cmpR op_eq (pv 2) (pe_gi i1) (nomark _)) (pss_cons (ps_set (i := 3) sc_answer_call.nd rfl (Or.inl rfl) (pe_meth0 (pv 1) T.cl_Tape T.m_Tape_take GT hr1 bT .nil pass0)) (pss_cons (ps_set (i := 4) sc_answer_call.nd rfl (Or.inl rfl) (pe_meth0 (pv 1) T.cl_Tape T.m_Tape_take GT hr1 bT .nil pass0)) (pss_one (ps_ret (pe_call G1 hr2 rfl T.g_answer_known kp1 b1 .nil pass0 (pa_cons (pv 0) (pa_cons (pv 3) (pa_cons (pv 4) pa_nil)))))))) pss_nil)
      (pss_cons (ps_if (pt_cmpR op_eq (pv 2) (pe_gi i2) (nomark _)) (pss_one (ps_ret (pe_call G2 (hr.mono (by decide)) rfl T.g_answer_read kp2 b2 .nil pass0 (pa_cons (pv 0) (pa_cons (pe_meth0 (pv 1) T.cl_Tape T.m_Tape_take_row GR hr2 bR .nil pass0) pa_nil))))) pss_nil)
      (pss_cons (ps_if (pt_cmpR op_eq (pv 2) (pe_gi i3) (nomark _)) (pss_one (ps_ret (pe_call G3 hr1 rfl T.g_answer_drop kp3 b3 .nil pass0 (pa_cons (pv 0) (pa_cons (pe_meth0 (pv 1) T.cl_Tape T.m_Tape_take GT hr1 bT .nil pass0) pa_nil))))) pss_nil)
      (pss_one (ps_ret (pe_call G4 hr rfl T.g_answer_question kp4 b4 .nil pass0 (pa_cons (pv 0) (pa_cons (pv 2) (pa_cons (pv 1) pa_nil)))))))))), ?_⟩
    have tk : ∀ {c : Int}, ns[i]? = some c → Took K H (upd H tp (.ins (He.ga K "Tape") dt (fTape a ((i + 1 : Nat) : Int)))) tp dt a (i + 1) := fun _ => Took.first htp
    rcases Classical.em (Asks x) with ask | nask
    · obtain ⟨c, x0, c4⟩ := asks_code hx ask
      have t := tk x0
      refine ⟨_, rfl, tp, dt, _, rfl, htp, rfl, tp, dt, a, i, ns, _, rfl, htp, hL, x0, ?_⟩
      refine ⟨_, rfl, rfl, _, rfl, iteNo ⟨_, rfl, rfl, _, rfl, iteNo ⟨_, rfl, rfl, _, rfl, iteNo ⟨_, rfl, rfl, _, rfl, iteNo ?_ (by omega)⟩ (by omega)⟩ (by omega)⟩ (by omega)⟩
      exact ⟨_, rfl, _, rfl, _, rfl, s, tp, dt, a, c, i, j, ns, R, st, x, rfl, t.sess nR hS, W, nR, t.at_, t.seq htp hL, x0, hx, ask, k.shift t⟩
    · cases x with
      | start n =>
        obtain ⟨x0, x1, rfl⟩ := hx
        have t := tk x0
        refine ⟨_, rfl, tp, dt, _, rfl, htp, rfl, tp, dt, a, i, ns, _, rfl, htp, hL, x0, ?_⟩
        refine ⟨_, rfl, rfl, _, rfl, iteYes ?_⟩
        refine ⟨_, rfl, _, rfl, tp, dt, _, rfl, t.at_, rfl, tp, dt, a, i + 1, ns, _, rfl, t.at_, t.seq htp hL, x1, ?_⟩
        exact ⟨s, n, R, st, rfl, t.step.sess nR hS, k.turn t.step nR⟩
      | known q f =>
        obtain ⟨x0, x1, x2, rfl⟩ := hx
        have t := tk x0
        refine ⟨_, rfl, tp, dt, _, rfl, htp, rfl, tp, dt, a, i, ns, _, rfl, htp, hL, x0, ?_⟩
        refine ⟨_, rfl, rfl, _, rfl, iteNo ⟨_, rfl, rfl, _, rfl, iteYes ?_⟩⟩
        have t2 := t.step (j := i + 1 + 1)
        refine ⟨_, rfl, tp, dt, _, rfl, t.at_, rfl, tp, dt, a, i + 1, ns, _, rfl, t.at_, t.seq htp hL, x1, ?_⟩
        refine ⟨_, rfl, tp, dt, _, rfl, t2.at_, rfl, tp, dt, a, i + 2, ns, _, rfl, t2.at_, t2.seq htp hL, x2, ?_⟩
        exact ⟨_, rfl, _, rfl, _, rfl, s, q, f, R, st, rfl, t2.step.sess nR hS, k.turn t2.step nR⟩
      | read ms =>
        obtain ⟨x0, m, x1, x2, x3, x4, rfl⟩ := hx
        have t := tk x0
        refine ⟨_, rfl, tp, dt, _, rfl, htp, rfl, tp, dt, a, i, ns, _, rfl, htp, hL, x0, ?_⟩
        refine ⟨_, rfl, rfl, _, rfl, iteNo ⟨_, rfl, rfl, _, rfl, iteNo ⟨_, rfl, rfl, _, rfl, iteYes ?_⟩⟩⟩
        refine ⟨_, rfl, _, rfl, tp, dt, _, rfl, t.at_, rfl, tp, dt, a, i + 1, ns, m, rfl, t.at_, t.seq htp hL, x1, by omega, fun H2 r hr0 h1 h2 h3 => ?_⟩
        have t2 := t.row h3 h2
        refine ⟨s, r, ms, R, st, rfl, t2.sess nR hS, W.good.1, ?_, by omega, k.turn t2 nR⟩
        unfold IntsAt
        rw [h1, x3, vi_eq]
      | drop n =>
        obtain ⟨x0, x1, rfl⟩ := hx
        have t := tk x0
        refine ⟨_, rfl, tp, dt, _, rfl, htp, rfl, tp, dt, a, i, ns, _, rfl, htp, hL, x0, ?_⟩
        refine ⟨_, rfl, rfl, _, rfl, iteNo ⟨_, rfl, rfl, _, rfl, iteNo ⟨_, rfl, rfl, _, rfl, iteNo ⟨_, rfl, rfl, _, rfl, iteYes ?_⟩⟩⟩⟩
        refine ⟨_, rfl, _, rfl, tp, dt, _, rfl, t.at_, rfl, tp, dt, a, i + 1, ns, _, rfl, t.at_, t.seq htp hL, x1, ?_⟩
        exact ⟨s, n, R, st, rfl, t.step.sess nR hS, W, k.turn t.step nR⟩
      | best => exact absurd trivial nask
      | nth _ => exact absurd trivial nask
      | sides => exact absurd trivial nask
      | tie _ _ => exact absurd trivial nask
      | placed _ => exact absurd trivial nask
      | blocks => exact absurd trivial nask
      | thrown => exact absurd trivial nask
      | cost _ _ => exact absurd trivial nask
      | shows => exact absurd trivial nask
end
end Ts
end
section
set_option maxRecDepth 100000
set_option maxHeartbeats 4000000
namespace Ts
open PySem PySem.Spec PyProof.Rows L2
open PySem.W (Codec WData OpenSpec)
/-- the end of a Spec row over a head by facts: the written part is what the facts speak of -/
theorem walkE {r : OpenSpec} {n : Nat} {q : Program} {loose : List Str} {XP : (Str → Option Value) → Heap → Prop} {YP : World → Heap → Prop} {d : DefRec} {ps : List Str} {sp : PySem.W.Frag → Sp}
    (ws : r.wellSaid = true) (nodf : d.params.defaults = []) (el : r.args.length = ps.length) (room : Room n callerA)
    (FF : ∀ (w : World) (mg : Str → Option Value) (fa : Addr) (h : Heap), YP w h → h.Ns mainGlobals mg → mg d.name = some (.ref fa) →
      ∃ (K : PySem.W.Frag) (fd : FuncData), K.In h ∧ (∀ (s : Shared) (us : List Value), us.length = ps.length → BindsTo s fd ⟨us, []⟩ (ps.zip us)) ∧ ∀ base : Heap, K.In base → base.Ns mainGlobals mg → FnOk r.prog w K mg base CX0 n fa fd ps (sp K))
    (SS : ∀ (K : PySem.W.Frag) (H : Hp) (xs : List V) (a : Codec.denoteAll r.args), OnlyF H → Codec.withinAll r.args a = true → Codec.app r.args r.asked a = true → DwAll K H xs (Codec.encAll r.args a) →
      sp K xs H (fun v H' => Dw K H' v (r.ret.enc (Codec.app r.args r.f a))) fun _ _ _ => False) :
    PySem.W.WalkOS q loose XP YP r d [] (fun f vs => PySem.call f vs) := by
  intro w t0 t1 mg mb G Y fa o pm cd doc dV kV u1 u2 u3 u4 u5 u6 args vals as pre lay u7 wl u8
  obtain ⟨a, d1, d2⟩ := PySem.W.os_pre_some pre
  obtain ⟨d3, wi⟩ := Codec.encAll_of_decAll r.args args a d1
  subst d3
  obtain ⟨K, fd, KX, bnd, ok⟩ := FF w mg fa _ Y G.T.g u5
  have run := spec_call (R := []) (cl := classAt t0.heap) (d0 := r.ret.enc (Codec.app r.args r.f a)) KX G.T.g G.T.b G.T.builtins G.T.nolimit u6 wl (pl_encAll _ _) (layable_weight lay) room ok bnd (by rw [encAll_len]; exact el)
    (fun H xs hO hS => SS K H xs a hO wi d2 hS) fun _ _ _ z => z
  refine PySem.W.enter_call (codeAny_mono run ?_)
  rintro r' s' ⟨u, as', rfl, x1, x2, x3, x4⟩
  exact ⟨.inl ⟨u, _, as', rfl, fun _ => rfl, x1, (OpenSpec.post_iff ws wi _ _).mpr rfl, fun z => nomatch (show false = true from z)⟩, x2, x3, x4⟩
end Ts
end
section
set_option maxRecDepth 100000
set_option maxHeartbeats 0
namespace Ts
open PySem PySem.Spec PyProof.Rows L2
abbrev R : PySem.W.OpenSpec := PySem.Challenge.rw_twostrands_s01_answers
abbrev hk : PySem.W.Hook := He.hookD 5 fa fn
def ob (s : PySem.W.SharedT) : He.AlD := He.obsDG 5 fa fn (HeadRun.getT s)
theorem ob_eq (s : PySem.W.SharedT) : ob s = hk.obs s.abs := He.obsDG_eq (HeadRun.getT_eq s)
theorem run (w : World) : HeadRun.RunEqS R (PySem.W.view R.prog [Ts.iAns]) hk ob 12000 loose w := by
  intro os
  kernel_rfl
theorem facts {k : Nat} (hk3 : 3 ≤ k) (hcall : ∀ (P : Program) (w : World) (K : PySem.W.Frag) (mg : Str → Option Value) (base : Heap), Tx K mg → DefOk P w K mg base k (He.ga K "answer_call") ["session", "tape"] (spCall K))
    {P : Program} {w : World} {K : PySem.W.Frag} {h : Heap} {mg : Str → Option Value} {f : Addr} (X : K.In h) (G : h.Ns mainGlobals mg) (hfa : mg ("answers" : Str) = some (.ref f)) (c : He.SaysD fa fn K) :
    ∃ fd : FuncData, (∀ (s : Shared) (us : List Value), us.length = (["calls"] : List Str).length → BindsTo s fd ⟨us, []⟩ ((["calls"] : List Str).zip us)) ∧ ∀ base : Heap, K.In base → base.Ns mainGlobals mg → FnOk P w K mg base CX0 (k + 1) f fd ["calls"] (spAnswers K) := by
  have T : Tx K mg := ⟨c, h, X, G⟩
  have e := hfa.symm.trans T.g_answers
  cases e
  obtain ⟨fd, F⟩ := T.f_answers
  have b := FunD.bindsA (ps := ["calls"]) F fun _ _ _ _ _ _ us hl => match us, hl with | [_], _ => rfl
  exact ⟨fd, b, fun base _ _ => ok_answers hk3 T (hcall P w K mg base T) F⟩
end Ts
open PySem PySem.W PySem.Calls PyProof.Rows
theorem Ts.holds_if (hcall : ∀ (P : Program) (w : World) (K : PySem.W.Frag) (mg : PySem.Str → Option Value) (base : Heap), Ts.Tx K mg → Ts.DefOk P w K mg base 7 (He.ga K "answer_call") ["session", "tape"] (Ts.spCall K)) : PySem.Challenge.rw_twostrands_s01_answers.Holds := by
  w_on
  refine HeadRun.head_spec (r := PySem.Challenge.rw_twostrands_s01_answers) (q := view PySem.Challenge.rw_twostrands_s01_answers.prog [Ts.iAns]) (H := Ts.hk) (ob := Ts.ob) (M := 12000) (loose := Ts.loose) (d := HandSHeadRun.topDef PySem.Challenge.rw_twostrands_s01_answers.prog Ts.iAns) (kwd := []) Ts.ob_eq
    (by kernel_rfl) (fun s => by kernel_rfl) Ts.run (by kernel_rfl) (by kernel_rfl) (by kernel_rfl) os_shapes (by decide +kernel) (by decide +kernel) ⟨rfl, rfl, rfl, rfl, rfl, by decide +kernel⟩ ?hw ?hc
  case hw => exact ⟨[.list [.int 4]], by decide +kernel, by decide +kernel⟩
  case hc =>
    refine Ts.walkE (r := PySem.Challenge.rw_twostrands_s01_answers) (n := 8) (ps := ["calls"]) (sp := Ts.spAnswers) (by decide +kernel) (by kernel_rfl) rfl ⟨rfl, by decide, by decide⟩ ?FF ?SS
    case FF =>
      intro w mg fa h Y G hm0
      obtain ⟨K, KX, c⟩ := Y
      have hm : mg ("answers" : PySem.Str) = some (.ref fa) := by
        have e : (HandSHeadRun.topDef PySem.Challenge.rw_twostrands_s01_answers.prog Ts.iAns).name = ("answers" : PySem.Str) := by kernel_rfl
        rw [← e]
        exact hm0
      obtain ⟨fd, b, ok⟩ := Ts.facts (k := 7) (by decide) hcall (P := PySem.Challenge.rw_twostrands_s01_answers.prog) (w := w) KX G hm c
      exact ⟨K, fd, KX, b, ok⟩
    case SS =>
      intro K H xs a hO hwi hask hx
      cases hx with
      | cons h1 h2 =>
        cases h2
        cases h1 with
        | lst hs ha =>
          have e := L2.ints_dw a.1 _ ha
          subst e
          exact ⟨_, a.1, rfl, hs, hask, fun H' p hp => .lst (L2.SqL.of hp) (L2.dw_ints _)⟩
theorem PySem.Challenge.cw_twostrands_s01_answers_holds : PySem.Challenge.rw_twostrands_s01_answers.Holds :=
  Ts.holds_if fun _ _ _ _ _ T => Ts.ok_answer_call T
#print axioms PySem.Challenge.cw_twostrands_s01_answers_holds
end
