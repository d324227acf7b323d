import PyProof.Rows.All
import Wide.All
import OpenK.AllK
import Wide.FinOn
import Open.SpecLaws
import KE.OsGo
import KE.DataMinMax
import HandS.ForSpec
import HandS.Comp
import HandS.More
import PySem.Challenge.RW_slidingscale_s01_answers
set_option Elab.async false
set_option linter.all false
set_option maxRecDepth 100000
set_option maxHeartbeats 4000000
namespace Vn
/-! ### the request -/
/-- a list of calls, one behind another -/
inductive Runs : List Int → List (List Int) → Prop where
  | nil : Runs [] []
  | cons {p : Int} {xs r : List Int} {cs : List (List Int)} (h : PyMu54.shape p = some (xs.length, 0)) (t : Runs r cs) : Runs (p :: (xs ++ r)) ((p :: xs) :: cs)
theorem whole_id (c : List (List Int)) : PyMu54.whole c = c := by
  unfold PyMu54.whole
  split <;> rfl
theorem map_whole (cs : List (List (List Int))) : cs.map PyMu54.whole = cs := by
  induction cs with
  | nil => rfl
  | cons c cs ih => rw [List.map_cons, ih, whole_id]
/-- the calls' numbers, and how many numbers each is handed -/
theorem shape_cases {p : Int} {n k : Nat} (h : PyMu54.shape p = some (n, k)) : k = 0 ∧ ((p = 0 ∧ n = 4) ∨ (p = 1 ∧ n = 0) ∨ (p = 2 ∧ n = 1) ∨ (p = 3 ∧ n = 2) ∨ (p = 4 ∧ n = 1) ∨ (p = 5 ∧ n = 1) ∨ (p = 6 ∧ n = 0) ∨ (p = 7 ∧ n = 1) ∨ (p = 8 ∧ n = 1) ∨ (p = 9 ∧ n = 1) ∨ (p = 10 ∧ n = 1) ∨ (p = 11 ∧ n = 0) ∨ (p = 12 ∧ n = 0)) := by
  by_cases h0 : p = 0
  · subst h0
    have q : some (4, 0) = some (n, k) := h
    cases q
    exact ⟨rfl, by decide⟩
  by_cases h1 : p = 1
  · subst h1
    have q : some (0, 0) = some (n, k) := h
    cases q
    exact ⟨rfl, by decide⟩
  by_cases h2 : p = 2
  · subst h2
    have q : some (1, 0) = some (n, k) := h
    cases q
    exact ⟨rfl, by decide⟩
  by_cases h3 : p = 3
  · subst h3
    have q : some (2, 0) = some (n, k) := h
    cases q
    exact ⟨rfl, by decide⟩
  by_cases h4 : p = 4
  · subst h4
    have q : some (1, 0) = some (n, k) := h
    cases q
    exact ⟨rfl, by decide⟩
  by_cases h5 : p = 5
  · subst h5
    have q : some (1, 0) = some (n, k) := h
    cases q
    exact ⟨rfl, by decide⟩
  by_cases h6 : p = 6
  · subst h6
    have q : some (0, 0) = some (n, k) := h
    cases q
    exact ⟨rfl, by decide⟩
  by_cases h7 : p = 7
  · subst h7
    have q : some (1, 0) = some (n, k) := h
    cases q
    exact ⟨rfl, by decide⟩
  by_cases h8 : p = 8
  · subst h8
    have q : some (1, 0) = some (n, k) := h
    cases q
    exact ⟨rfl, by decide⟩
  by_cases h9 : p = 9
  · subst h9
    have q : some (1, 0) = some (n, k) := h
    cases q
    exact ⟨rfl, by decide⟩
  by_cases h10 : p = 10
  · subst h10
    have q : some (1, 0) = some (n, k) := h
    cases q
    exact ⟨rfl, by decide⟩
  by_cases h11 : p = 11
  · subst h11
    have q : some (0, 0) = some (n, k) := h
    cases q
    exact ⟨rfl, by decide⟩
  by_cases h12 : p = 12
  · subst h12
    have q : some (0, 0) = some (n, k) := h
    cases q
    exact ⟨rfl, by decide⟩
  unfold PyMu54.shape at h
  rw [if_neg h0, if_neg h1, if_neg h2, if_neg h3, if_neg h4, if_neg h5, if_neg h6, if_neg h7, if_neg h8, if_neg h9, if_neg h10, if_neg h11, if_neg h12] at h
  cases h
theorem shape_zero {p : Int} {n k : Nat} (h : PyMu54.shape p = some (n, k)) : k = 0 := (shape_cases h).1
theorem calls_runs : ∀ (f : Nat) (l : List Int) (raw : List (List (List Int))), PyFlat.calls PyMu54.shape f l = some raw → ∃ cs, raw = cs.map (fun c => [c]) ∧ Runs l cs
  | f, [], raw, h => by
    have h' : some [] = some raw := by
      cases f <;> exact h
    cases h'
    exact ⟨[], rfl, .nil⟩
  | 0, _ :: _, raw, h => by cases h
  | f + 1, p :: r, raw, h => by
    unfold PyFlat.calls at h
    split at h
    · cases h
    · rename_i c t hc
      split at h
      · cases h
      · rename_i cs hcs
        cases h
        simp only [PyFlat.call] at hc
        split at hc
        · cases hc
        · rename_i n k hs
          have hk := shape_zero hs
          subst hk
          split at hc
          · cases hc
          · rename_i hn
            have hc : some ((p :: r.take n) :: [], r.drop n) = some (c, t) := hc
            cases hc
            obtain ⟨cs', rfl, hr⟩ := calls_runs f _ _ hcs
            refine ⟨(p :: r.take n) :: cs', rfl, ?_⟩
            have e : p :: r = p :: (r.take n ++ r.drop n) := by rw [List.take_append_drop]
            rw [e]
            exact .cons (by rw [hs, List.length_take, Nat.min_eq_left (by omega)]) hr
/-- what is told of calls, from a state -/
def tellAll : Mu54Neutral.S → List (List Int) → List Int
  | _, [] => []
  | s, c :: r => (((Mu54Neutral.step s c).2.length : Nat) : Int) :: ((Mu54Neutral.step s c).2 ++ tellAll (Mu54Neutral.step s c).1 r)
theorem told_played (cs : List (List Int)) : ∀ s, PyFlat.told (PyFlat.played (fun s c => Mu54Neutral.step s (c.headD [])) s (cs.map (fun c => [c]))) = tellAll s cs := by
  induction cs with
  | nil => intro s; rfl
  | cons c cs ih =>
    intro s
    have e := ih (Mu54Neutral.step s c).1
    unfold PyFlat.told at e ⊢
    rw [List.map_cons]
    unfold PyFlat.played
    rw [List.flatMap_cons]
    show _ ++ List.flatMap _ (PyFlat.played _ (Mu54Neutral.step s c).1 _) = _
    rw [e]
    rfl
theorem asked_runs {l : List Int} (h : PyMu54.answers_asked l = true) : ∃ cs, Runs l cs ∧ cs ≠ [] ∧ cs.length ≤ 60 ∧ (∀ c ∈ cs, Mu54Neutral.asked1 c = true) ∧ PyMu54.answers l = tellAll none cs ∧ (PyMu54.answers l).length ≤ 10000000 := by
  unfold PyMu54.answers_asked at h
  split at h
  · cases h
  · rename_i raw hraw
    obtain ⟨cs, rfl, hr⟩ := calls_runs _ _ _ hraw
    simp only [Bool.and_eq_true] at h
    obtain ⟨⟨⟨⟨h1, h2⟩, h3⟩, h4⟩, h5⟩ := h
    rw [map_whole] at h4
    have e1 : List.map (fun c : List (List Int) => c.headD []) (cs.map fun c => [c]) = cs := by
      rw [List.map_map]
      have : ((fun c : List (List Int) => c.headD []) ∘ fun c => [c]) = id := rfl
      rw [this, List.map_id]
    rw [e1] at h4
    unfold Mu54Neutral.asked at h4
    simp only [Bool.and_eq_true, decide_eq_true_eq] at h4
    obtain ⟨q1, q2, q3⟩ := h4
    refine ⟨cs, hr, ?_, q2, ?_, ?_, ?_⟩
    · intro e; subst e; simp at q1
    · intro c hc; exact List.all_eq_true.mp q3 c hc
    · unfold PyMu54.answers PyMu54.calls
      rw [hraw]
      show PyFlat.told (PyFlat.played _ Mu54Neutral.start ((cs.map fun c => [c]).map PyMu54.whole)) = _
      rw [map_whole, told_played]
      rfl
    · exact of_decide_eq_true h5
end Vn
namespace Vn
open Mu54 (Vernier)
/-! ### numbers -/
theorem gcd_turn (a b : Nat) : Nat.gcd b (a % b) = Nat.gcd a b := by
  rw [Nat.gcd_comm a b, Nat.gcd_rec b a, Nat.gcd_comm]
theorem gcd_end (a : Nat) : Nat.gcd a 0 = a := Nat.gcd_zero_right a
theorem gcd_pos {a b : Nat} (h : 0 < a) : 0 < Nat.gcd a b := Nat.gcd_pos_of_pos_left b h
theorem gcd_le {a b : Nat} (h : 0 < a) : Nat.gcd a b ≤ a := Nat.gcd_le_left b h
/-- among the turns one mark meets next -/
theorem all_steps : ((List.range 60).all fun a => (List.range 60).all fun b => ((List.range ((a + 1) / Nat.gcd (a + 1) (b + 1))).find? fun k => (Nat.gcd (a + 1) (b + 1) + k * (b + 1)) % (a + 1) == 0).isSome) = true := by decide +kernel
theorem step_some {v : Vernier} (ha : 1 ≤ v.wide) (ha' : v.wide ≤ 60) (hb : 1 ≤ v.close) (hb' : v.close ≤ 60) : ∃ k, Mu54.stepOf v = some k := by
  have h := List.all_eq_true.mp (List.all_eq_true.mp all_steps (v.wide - 1) (List.mem_range.mpr (by omega))) (v.close - 1) (List.mem_range.mpr (by omega))
  rw [show v.wide - 1 + 1 = v.wide by omega, show v.close - 1 + 1 = v.close by omega] at h
  exact Option.isSome_iff_exists.mp h
theorem find_range {p : Nat → Bool} : ∀ {n k : Nat}, (List.range n).find? p = some k → k < n ∧ p k = true ∧ ∀ m, m < k → p m = false := by
  intro n k h
  refine ⟨List.mem_range.mp (List.mem_of_find?_eq_some h), List.find?_some h, fun m hm => ?_⟩
  obtain ⟨_, i, hi, e, q⟩ := List.find?_eq_some_iff_getElem.mp h
  rw [List.getElem_range] at e
  subst e
  have z := q m hm
  rw [List.getElem_range] at z
  simpa using z
theorem step_is {v : Vernier} {k : Nat} (h : Mu54.stepOf v = some k) : (Mu54.fine v + k * v.close) % v.wide = 0 ∧ ∀ m, m < k → (Mu54.fine v + m * v.close) % v.wide ≠ 0 := by
  obtain ⟨_, h2, h3⟩ := find_range h
  exact ⟨by simpa using h2, fun m hm => by simpa using h3 m hm⟩
/-! ### the slide's marks -/
def unworn (v : Vernier) : List Nat := (List.range (v.marks + 1)).filter fun j => !(v.worn.contains j)
def along (v : Vernier) (x : Nat) : List Nat := (unworn v).filter fun j => decide (x + j * v.close ≤ v.wide * v.long)
def meeting (v : Vernier) (x : Nat) : List Nat := (along v x).filter fun j => Mu54.off v x j == 0
theorem mem_unworn {v : Vernier} {j : Nat} (h : j ∈ unworn v) : j ≤ v.marks := by
  have := List.mem_range.mp (List.mem_filter.mp h).1
  omega
theorem mem_along {v : Vernier} {x j : Nat} (h : j ∈ along v x) : j ≤ v.marks ∧ x + j * v.close ≤ v.wide * v.long :=
  ⟨mem_unworn (List.mem_filter.mp h).1, of_decide_eq_true (List.mem_filter.mp h).2⟩
theorem mem_meeting {v : Vernier} {x j : Nat} (h : j ∈ meeting v x) : j ≤ v.marks ∧ x + j * v.close ≤ v.wide * v.long ∧ Mu54.off v x j = 0 :=
  ⟨(mem_along (List.mem_filter.mp h).1).1, (mem_along (List.mem_filter.mp h).1).2, by simpa using (List.mem_filter.mp h).2⟩
theorem len_unworn (v : Vernier) : (unworn v).length ≤ v.marks + 1 := by
  have := List.length_filter_le (fun j => !(v.worn.contains j)) (List.range (v.marks + 1))
  rw [List.length_range] at this
  exact this
theorem len_along (v : Vernier) (x : Nat) : (along v x).length ≤ v.marks + 1 := Nat.le_trans (List.length_filter_le _ _) (len_unworn v)
theorem len_meeting (v : Vernier) (x : Nat) : (meeting v x).length ≤ v.marks + 1 := Nat.le_trans (List.length_filter_le _ _) (len_along v x)
theorem off_zero {v : Vernier} {x j : Nat} (hw : 0 < v.wide) : (Mu54.off v x j == 0) = ((x + j * v.close) % v.wide == 0) := by
  have hlt := Nat.mod_lt (x + j * v.close) hw
  unfold Mu54.off
  by_cases h : (x + j * v.close) % v.wide = 0
  · rw [h]; simp
  · have : min ((x + j * v.close) % v.wide) (v.wide - (x + j * v.close) % v.wide) ≠ 0 := by omega
    rw [beq_eq_false_iff_ne.mpr this, beq_eq_false_iff_ne.mpr h]
theorem along_eq (v : Vernier) (x : Nat) : along v x = (List.range (v.marks + 1)).filter fun j => Mu54.seen v j && decide (x + j * v.close ≤ v.long * v.wide) := by
  unfold along unworn
  rw [List.filter_filter]
  refine List.filter_congr fun j hj => ?_
  have hj := List.mem_range.mp hj
  unfold Mu54.seen
  rw [decide_eq_true (show j ≤ v.marks by omega), Nat.mul_comm v.long v.wide, Bool.true_and, Bool.and_comm]
theorem meeting_eq {v : Vernier} (hw : 0 < v.wide) (x : Nat) : meeting v x = (List.range (v.marks + 1)).filter fun j => Mu54.seen v j && ((x + j * v.close) % v.wide == 0 && decide (x + j * v.close ≤ v.long * v.wide)) := by
  unfold meeting
  rw [along_eq, List.filter_filter]
  refine List.filter_congr fun j hj => ?_
  rw [off_zero hw]
  cases Mu54.seen v j <;> cases (x + j * v.close) % v.wide == 0 <;> cases decide (x + j * v.close ≤ v.long * v.wide) <;> rfl
theorem meets_eq {v : Vernier} (hw : 0 < v.wide) (x : Nat) : Mu54.meets v x = (meeting v x).map fun j => ((x + j * v.close) / v.wide, j) := by
  unfold Mu54.meets
  rw [meeting_eq hw]
/-! ### the nearest -/
def better (v : Vernier) (x : Nat) (m : Option (Nat × Nat)) (j : Nat) : Option (Nat × Nat) := match m with
  | none => some (Mu54.off v x j, j)
  | some y => if Mu54.off v x j < y.1 then some (Mu54.off v x j, j) else some y
theorem nearest_eq (v : Vernier) (x : Nat) : Mu54.nearest v x = (along v x).foldl (better v x) none := by
  unfold Mu54.nearest
  rw [← along_eq]
  rfl
theorem best_of {v : Vernier} {x : Nat} : ∀ (l : List Nat) (a : Nat), l.Pairwise (· < ·) → (∀ j ∈ l, a < j) →
    ∃ j, l.foldl (better v x) (some (Mu54.off v x a, a)) = some (Mu54.off v x j, j) ∧ (j = a ∨ j ∈ l) ∧ (∀ m, m = a ∨ m ∈ l → Mu54.off v x j < Mu54.off v x m ∨ (Mu54.off v x j = Mu54.off v x m ∧ j ≤ m))
  | [], a, _, _ => ⟨a, rfl, .inl rfl, fun m hm => by
      rcases hm with rfl | hm
      · exact .inr ⟨rfl, Nat.le_refl _⟩
      · cases hm⟩
  | b :: l, a, hp, ha => by
    rw [List.foldl_cons]
    have hab := ha b List.mem_cons_self
    have hp' := List.pairwise_cons.mp hp
    by_cases c : Mu54.off v x b < Mu54.off v x a
    · have e : better v x (some (Mu54.off v x a, a)) b = some (Mu54.off v x b, b) := if_pos c
      rw [e]
      obtain ⟨j, e1, e2, e3⟩ := best_of l b hp'.2 hp'.1
      refine ⟨j, e1, .inr ?_, fun m hm => ?_⟩
      · rcases e2 with rfl | e2
        · exact List.mem_cons_self
        · exact List.mem_cons_of_mem _ e2
      · rcases hm with rfl | hm
        · have := e3 b (.inl rfl); omega
        · rcases List.mem_cons.mp hm with rfl | hm
          · exact e3 _ (.inl rfl)
          · exact e3 m (.inr hm)
    · have e : better v x (some (Mu54.off v x a, a)) b = some (Mu54.off v x a, a) := if_neg c
      rw [e]
      obtain ⟨j, e1, e2, e3⟩ := best_of l a hp'.2 fun j hj => ha j (List.mem_cons_of_mem _ hj)
      refine ⟨j, e1, ?_, fun m hm => ?_⟩
      · rcases e2 with rfl | e2
        · exact .inl rfl
        · exact .inr (List.mem_cons_of_mem _ e2)
      · rcases hm with rfl | hm
        · exact e3 _ (.inl rfl)
        · rcases List.mem_cons.mp hm with rfl | hm
          · have h1 := e3 a (.inl rfl)
            rcases e2 with rfl | e2
            · omega
            · have := hp'.1 j e2
              have h2 := e3 j (.inr e2)
              omega
          · exact e3 m (.inr hm)
theorem along_rising (v : Vernier) (x : Nat) : (along v x).Pairwise (· < ·) := (List.pairwise_lt_range.filter _).filter _
theorem nearest_none {v : Vernier} {x : Nat} (h : along v x = []) : Mu54.nearest v x = none := by
  rw [nearest_eq, h]; rfl
theorem nearest_least {v : Vernier} {x j : Nat} (hj : j ∈ along v x) (hm : ∀ m ∈ along v x, Mu54.off v x j < Mu54.off v x m ∨ (Mu54.off v x j = Mu54.off v x m ∧ j ≤ m)) : Mu54.nearest v x = some (Mu54.off v x j, j) := by
  rw [nearest_eq]
  have hr := along_rising v x
  cases h : along v x with
  | nil => rw [h] at hj; cases hj
  | cons a l =>
    rw [h] at hj hm hr
    have hr' := List.pairwise_cons.mp hr
    rw [List.foldl_cons]
    obtain ⟨k, e1, e2, e3⟩ := best_of (v := v) (x := x) l a hr'.2 hr'.1
    have hk : k ∈ a :: l := by
      rcases e2 with rfl | e2
      · exact List.mem_cons_self
      · exact List.mem_cons_of_mem _ e2
    have h1 := hm k hk
    have h2 := e3 j (List.mem_cons.mp hj)
    have e : j = k := by omega
    subst e
    exact e1
/-! ### slides -/
def fitsB (v : Vernier) (g b : Nat) : Bool := Nat.gcd v.wide b == g && decide (v.wide / Nat.gcd v.wide b ≤ v.marks + 1)
theorem slides_eq {v : Vernier} {g : Nat} (hw : 0 < v.wide) : Mu54.slides v g = ((List.range (2 * v.wide - 1)).map fun i => 1 + i).filter (fitsB v g) := by
  have e : List.range (2 * v.wide) = 0 :: (List.range (2 * v.wide - 1)).map fun i => 1 + i := by
    have q : 2 * v.wide = (2 * v.wide - 1) + 1 := by omega
    rw [q, List.range_succ_eq_map]
    show 0 :: List.map Nat.succ _ = 0 :: List.map _ _
    congr 1
    rw [← q]
    refine List.map_congr_left fun i _ => ?_
    omega
  unfold Mu54.slides
  rw [e, List.filter_cons]
  have z : ¬ ((0 : Nat) != 0 && (Nat.gcd v.wide 0 == g && decide (v.wide / g ≤ v.marks + 1))) = true := by simp
  rw [if_neg z]
  refine List.filter_congr fun c hc => ?_
  obtain ⟨i, _, rfl⟩ := List.mem_map.mp hc
  have hne : (1 + i != 0) = true := by simp
  rw [hne, Bool.true_and]
  unfold fitsB
  by_cases q : Nat.gcd v.wide (1 + i) = g
  · rw [q]
  · rw [beq_eq_false_iff_ne.mpr q]; rfl
end Vn
namespace Vn
open Mu54 (Vernier State)
/-! ### what a call is handed -/
theorem within_nat {z lo hi : Int} (h : NeutralIO.within z lo hi = true) : lo ≤ z ∧ z ≤ hi := by
  unfold NeutralIO.within at h
  simp only [Bool.and_eq_true, decide_eq_true_eq] at h
  exact h
theorem small_nat {z : Int} (h : Mu54Neutral.small z = true) : ∃ n : Nat, z = n ∧ n ≤ 99 := ⟨z.toNat, by have := within_nat h; omega, by have := within_nat h; omega⟩
theorem far_nat {z : Int} (h : Mu54Neutral.far z = true) : ∃ n : Nat, z = n ∧ n ≤ 5000 := ⟨z.toNat, by have := within_nat h; omega, by have := within_nat h; omega⟩
theorem step0 (o : Mu54Neutral.S) (a b m n : Nat) : Mu54Neutral.step o [0, a, b, m, n] = Mu54.step o (.begin_ a b m n) := rfl
theorem step1 (o : Mu54Neutral.S) : Mu54Neutral.step o [1] = Mu54.step o .fine := rfl
theorem step2 (o : Mu54Neutral.S) (x : Nat) : Mu54Neutral.step o [2, x] = Mu54.step o (.meets x) := rfl
theorem step3 (o : Mu54Neutral.S) (i j : Nat) : Mu54Neutral.step o [3, i, j] = Mu54.step o (.out i j) := rfl
theorem step4 (o : Mu54Neutral.S) (x : Nat) : Mu54Neutral.step o [4, x] = Mu54.step o (.nearest x) := rfl
theorem step5 (o : Mu54Neutral.S) (x : Nat) : Mu54Neutral.step o [5, x] = Mu54.step o (.slides x) := rfl
theorem step6 (o : Mu54Neutral.S) : Mu54Neutral.step o [6] = Mu54.step o .step_ := rfl
theorem step7 (o : Mu54Neutral.S) (x : Nat) : Mu54Neutral.step o [7, x] = Mu54.step o (.wear x) := rfl
theorem step8 (o : Mu54Neutral.S) (x : Nat) : Mu54Neutral.step o [8, x] = Mu54.step o (.readable x) := rfl
theorem step9 (o : Mu54Neutral.S) (z : Int) : Mu54Neutral.step o [9, z] = Mu54.step o (.zero z) := rfl
theorem step10 (o : Mu54Neutral.S) (x : Nat) : Mu54Neutral.step o [10, x] = Mu54.step o (.slide x) := rfl
theorem step11 (o : Mu54Neutral.S) : Mu54Neutral.step o [11] = Mu54.step o .read := rfl
theorem step12 (o : Mu54Neutral.S) : Mu54Neutral.step o [12] = Mu54.step o .look := rfl
theorem asked_0 {hs : List Int} (h : Mu54Neutral.asked1 (0 :: hs) = true) : ∃ a b m n : Nat, hs = [(a : Int), (b : Int), (m : Int), (n : Int)] ∧ a ≤ 99 ∧ b ≤ 99 ∧ m ≤ 99 ∧ n ≤ 99 := by
  match hs, h with
  | [a, b, m, n], h =>
    have h : (Mu54Neutral.small a && (Mu54Neutral.small b && (Mu54Neutral.small m && Mu54Neutral.small n))) = true := h
    simp only [Bool.and_eq_true] at h
    obtain ⟨h1, h2, h3, h4⟩ := h
    obtain ⟨a, rfl, ha⟩ := small_nat h1
    obtain ⟨b, rfl, hb⟩ := small_nat h2
    obtain ⟨m, rfl, hm⟩ := small_nat h3
    obtain ⟨n, rfl, hn⟩ := small_nat h4
    exact ⟨a, b, m, n, rfl, ha, hb, hm, hn⟩
theorem asked_1 {hs : List Int} (h : Mu54Neutral.asked1 (1 :: hs) = true) : hs = [] := by
  match hs, h with
  | [], _ => rfl
theorem asked_2 {hs : List Int} (h : Mu54Neutral.asked1 (2 :: hs) = true) : ∃ x : Nat, hs = [(x : Int)] ∧ x ≤ 5000 := by
  match hs, h with
  | [x], h =>
    obtain ⟨x, rfl, hx⟩ := far_nat (z := x) h
    exact ⟨x, rfl, hx⟩
theorem asked_4 {hs : List Int} (h : Mu54Neutral.asked1 (4 :: hs) = true) : ∃ x : Nat, hs = [(x : Int)] ∧ x ≤ 5000 := by
  match hs, h with
  | [x], h =>
    obtain ⟨x, rfl, hx⟩ := far_nat (z := x) h
    exact ⟨x, rfl, hx⟩
theorem asked_5 {hs : List Int} (h : Mu54Neutral.asked1 (5 :: hs) = true) : ∃ x : Nat, hs = [(x : Int)] ∧ x ≤ 99 := by
  match hs, h with
  | [x], h =>
    obtain ⟨x, rfl, hx⟩ := small_nat (z := x) h
    exact ⟨x, rfl, hx⟩
theorem asked_7 {hs : List Int} (h : Mu54Neutral.asked1 (7 :: hs) = true) : ∃ x : Nat, hs = [(x : Int)] ∧ x ≤ 99 := by
  match hs, h with
  | [x], h =>
    obtain ⟨x, rfl, hx⟩ := small_nat (z := x) h
    exact ⟨x, rfl, hx⟩
theorem asked_8 {hs : List Int} (h : Mu54Neutral.asked1 (8 :: hs) = true) : ∃ x : Nat, hs = [(x : Int)] ∧ x ≤ 99 := by
  match hs, h with
  | [x], h =>
    obtain ⟨x, rfl, hx⟩ := small_nat (z := x) h
    exact ⟨x, rfl, hx⟩
theorem asked_10 {hs : List Int} (h : Mu54Neutral.asked1 (10 :: hs) = true) : ∃ x : Nat, hs = [(x : Int)] ∧ x ≤ 5000 := by
  match hs, h with
  | [x], h =>
    obtain ⟨x, rfl, hx⟩ := far_nat (z := x) h
    exact ⟨x, rfl, hx⟩
theorem asked_6 {hs : List Int} (h : Mu54Neutral.asked1 (6 :: hs) = true) : hs = [] := by
  match hs, h with
  | [], _ => rfl
theorem asked_11 {hs : List Int} (h : Mu54Neutral.asked1 (11 :: hs) = true) : hs = [] := by
  match hs, h with
  | [], _ => rfl
theorem asked_12 {hs : List Int} (h : Mu54Neutral.asked1 (12 :: hs) = true) : hs = [] := by
  match hs, h with
  | [], _ => rfl
theorem asked_3 {hs : List Int} (h : Mu54Neutral.asked1 (3 :: hs) = true) : ∃ i j : Nat, hs = [(i : Int), (j : Int)] ∧ i ≤ 99 ∧ j ≤ 99 := by
  match hs, h with
  | [i, j], h =>
    have h : (Mu54Neutral.small i && Mu54Neutral.small j) = true := h
    rw [Bool.and_eq_true] at h
    obtain ⟨i, rfl, hi⟩ := small_nat h.1
    obtain ⟨j, rfl, hj⟩ := small_nat h.2
    exact ⟨i, j, rfl, hi, hj⟩
theorem asked_9 {hs : List Int} (h : Mu54Neutral.asked1 (9 :: hs) = true) : ∃ z : Int, hs = [z] ∧ -99 ≤ z ∧ z ≤ 99 := by
  match hs, h with
  | [z], h => exact ⟨z, rfl, within_nat h⟩
/-! ### the state keeps its bounds -/
structure Ok (v : Vernier) : Prop where
  a1 : 1 ≤ v.wide
  a2 : v.wide ≤ 60
  b1 : 1 ≤ v.close
  b2 : v.close ≤ 60
  m1 : 1 ≤ v.long
  m2 : v.long ≤ 60
  n1 : 1 ≤ v.marks
  n2 : v.marks ≤ 60
/-- behind so many calls -/
structure Good (n : Nat) (s : State) : Prop where
  ok : Ok s.vernier
  wn : s.vernier.worn.length ≤ n
theorem Good.mono {n m : Nat} {s : State} (h : Good n s) (l : n ≤ m) : Good m s := ⟨h.ok, Nat.le_trans h.wn l⟩
theorem far_iff {x : Nat} : Mu54.isFar x = true ↔ 1 ≤ x ∧ x ≤ 60 := by
  unfold Mu54.isFar Mu54.FAR
  rw [Bool.and_eq_true, decide_eq_true_eq, decide_eq_true_eq]
theorem good_step {n : Nat} {o : Mu54.Abs} {c : Mu54.Call} (h : ∀ s, o = some s → Good n s) : ∀ s, (Mu54.step o c).1 = some s → Good (n + 1) s := by
  intro s hs
  have up : ∀ s, o = some s → Good (n + 1) s := fun s e => (h s e).mono (Nat.le_succ _)
  cases c with
  | begin_ a b m k =>
    have e : Mu54.step o (.begin_ a b m k) = if (Mu54.isFar a && (Mu54.isFar b && (Mu54.isFar m && Mu54.isFar k))) = false then (o, [-1]) else (some ⟨⟨a, b, m, k, [], 0⟩, 0⟩, [0]) := by cases o <;> rfl
    rw [e] at hs
    split at hs
    · exact up s hs
    · rename_i q
      have q : (Mu54.isFar a && (Mu54.isFar b && (Mu54.isFar m && Mu54.isFar k))) = true := by simpa using q
      simp only [Bool.and_eq_true, far_iff] at q
      have e : (⟨⟨a, b, m, k, [], 0⟩, 0⟩ : State) = s := Option.some.inj hs
      subst e
      exact ⟨⟨q.1.1, q.1.2, q.2.1.1, q.2.1.2, q.2.2.1.1, q.2.2.1.2, q.2.2.2.1, q.2.2.2.2⟩, Nat.zero_le _⟩
  | wear j =>
    cases o with
    | none => cases hs
    | some s0 =>
      have e : Mu54.step (some s0) (.wear j) = if s0.vernier.marks < j then (some s0, [-1]) else if s0.vernier.worn.contains j = true then (some s0, [-3]) else (some { s0 with vernier := { s0.vernier with worn := s0.vernier.worn ++ [j] } }, [((s0.vernier.worn.length + 1 : Nat) : Int)]) := rfl
      rw [e] at hs
      have g := h s0 rfl
      split at hs
      · exact up s hs
      · split at hs
        · exact up s hs
        · have e : ({ s0 with vernier := { s0.vernier with worn := s0.vernier.worn ++ [j] } } : State) = s := Option.some.inj hs
          subst e
          refine ⟨⟨g.ok.a1, g.ok.a2, g.ok.b1, g.ok.b2, g.ok.m1, g.ok.m2, g.ok.n1, g.ok.n2⟩, ?_⟩
          have := g.wn
          simp
          omega
  | zero z =>
    cases o with
    | none => cases hs
    | some s0 =>
      have e : Mu54.step (some s0) (.zero z) = if z < -60 ∨ 60 < z then (some s0, [-1]) else (some { s0 with vernier := { s0.vernier with zero := z } }, [0]) := rfl
      rw [e] at hs
      have g := up s0 rfl
      split at hs
      · exact up s hs
      · have e : ({ s0 with vernier := { s0.vernier with zero := z } } : State) = s := Option.some.inj hs
        subst e
        exact ⟨⟨g.ok.a1, g.ok.a2, g.ok.b1, g.ok.b2, g.ok.m1, g.ok.m2, g.ok.n1, g.ok.n2⟩, g.wn⟩
  | slide x =>
    cases o with
    | none => cases hs
    | some s0 =>
      have e : Mu54.step (some s0) (.slide x) = if Mu54.length_ s0.vernier < x then (some s0, [-1]) else (some { s0 with at_ := x }, [((Mu54.meets s0.vernier x).length : Int)]) := rfl
      rw [e] at hs
      have g := up s0 rfl
      split at hs
      · exact up s hs
      · have e : ({ s0 with at_ := x } : State) = s := Option.some.inj hs
        subst e
        exact ⟨g.ok, g.wn⟩
  | _ =>
    cases o with
    | none => cases hs
    | some s0 => exact up s hs
theorem good_next {n : Nat} {o : Mu54Neutral.S} {c : List Int} (h : ∀ s, o = some s → Good n s) : ∀ s, (Mu54Neutral.step o c).1 = some s → Good (n + 1) s := by
  unfold Mu54Neutral.step
  split
  · exact good_step h
  · exact fun s e => (h s e).mono (Nat.le_succ _)
end Vn
namespace Vn
open PySem PySem.Spec PyProof.Rows L2
/-! ### tests that are known -/
theorem if_true_of {c : Bool} {A B : Prop} (hc : c = true) (h : A) : if c = true then A else B := by
  rw [if_pos hc]
  exact h
theorem if_false_of {c : Bool} {A B : Prop} (hc : c = false) (h : B) : if c = true then A else B := by
  rw [hc, if_neg Bool.false_ne_true]
  exact h
theorem upd_upd {H : Hp} {p : Addr} {o o' : HO} : upd (upd H p o) p o' = upd H p o' := by
  funext b
  by_cases h : b = p
  · subst h; rw [upd_same, upd_same]
  · rw [upd_ne h, upd_ne h, upd_ne h]
/-! ### comprehensions whose tests leave the heap as it is -/
theorem range_more (n : Nat) (p : Nat → Bool) (f : Nat → V) : ((List.range (n + 1)).filter p).map f = ((List.range n).filter p).map f ++ (if p n = true then [f n] else []) := by
  rw [List.range_succ, List.filter_append, List.map_append]
  congr 1
  by_cases h : p n = true
  · rw [if_pos h, List.filter_cons_of_pos h]; rfl
  · rw [if_neg h, List.filter_cons_of_neg h]; rfl
theorem lcr {lo : Int} {n : Nat} {g : TG} {tt : TT} {te : TE} {vs : List Nat} {σ : L2.St} {H1 : Hp} {D : Addr} {Qd : Hp → Prop} (p : Nat → Bool) (f : Nat → V) (hn : n < sizeLine)
    (hs : ∀ (i : Nat) (H : Hp) (N : Hp → Prop), i < n → (∃ acc, H = upd H1 D (.lst acc) ∧ acc.length < sizeLine ∧ (p i = true → N (upd H1 D (.lst (acc ++ [f i])))) ∧ (p i = false → N H)) →
      g (.int (lo + i)) (wipe σ vs) H fun σ2 H2 => wipe σ2 vs = wipe σ vs ∧ tt σ2 H2 fun b H3 =>
        if b = true then te σ2 H3 fun y H4 => ∃ acc, H4 D = some (.lst acc) ∧ acc.length < sizeLine ∧ N (upd H4 D (.lst (acc ++ [y]))) else N H3)
    (hd : Qd (upd H1 D (.lst (((List.range n).filter p).map f)))) :
    ∃ W : Nat → Nat → Hp → Prop, (∃ m, W 0 m (upd H1 D (.lst []))) ∧ ∀ i m H, W i m H →
      ((Itr lo n).stop i H ∧ Qd H) ∨ ((Itr lo n).go i H ∧ ∃ Nx : Hp → Prop, (∀ H', Nx H' → ∃ m', m' < m ∧ W (i + 1) m' H') ∧ ∀ x H', (Itr lo n).yld i H x H' → g x (wipe σ vs) H' fun σ2 H2 => wipe σ2 vs = wipe σ vs ∧ tt σ2 H2 fun b H3 =>
        if b = true then te σ2 H3 fun y H4 => ∃ acc, H4 D = some (.lst acc) ∧ acc.length < sizeLine ∧ Nx (upd H4 D (.lst (acc ++ [y]))) else Nx H3) := by
  refine lc_range (fun i H => H = upd H1 D (.lst (((List.range i).filter p).map f))) rfl (fun i H hi e => ?_) (fun H e => ?_)
  · refine hs i H _ hi ⟨((List.range i).filter p).map f, e, ?_, fun hp => ?_, fun hp => ?_⟩
    · have := List.length_filter_le p (List.range i)
      rw [List.length_map]
      rw [List.length_range] at this
      omega
    · show upd H1 D _ = upd H1 D _
      rw [range_more, if_pos hp]
    · show H = upd H1 D _
      rw [range_more, if_neg (by rw [hp]; decide), List.append_nil]
      exact e
  · subst e
    exact hd
theorem take_filter {α : Type} {ks : List α} {i : Nat} {k : α} (h : ks[i]? = some k) (p : α → Bool) (f : α → V) : ((ks.take (i + 1)).filter p).map f = ((ks.take i).filter p).map f ++ (if p k = true then [f k] else []) := by
  rw [List.take_add_one, h, List.filter_append, List.map_append]
  congr 1
  by_cases hp : p k = true
  · rw [if_pos hp]
    show ([k].filter p).map f = _
    rw [List.filter_cons_of_pos hp]; rfl
  · rw [if_neg hp]
    show ([k].filter p).map f = _
    rw [List.filter_cons_of_neg hp]; rfl
theorem lcl {α : Type} {K : PySem.W.Frag} {a : Addr} {ks : List α} {c : α → V} {g : TG} {tt : TT} {te : TE} {vs : List Nat} {σ : L2.St} {H1 : Hp} {D : Addr} {Qd : Hp → Prop} (p : α → Bool) (f : α → V) (hn : ks.length < sizeLine)
    (hl : ∀ acc, SqL K (upd H1 D (.lst acc)) a (ks.map c))
    (hs : ∀ (k : α) (H : Hp) (N : Hp → Prop), k ∈ ks → (∃ acc, H = upd H1 D (.lst acc) ∧ acc.length < sizeLine ∧ (p k = true → N (upd H1 D (.lst (acc ++ [f k])))) ∧ (p k = false → N H)) →
      g (c k) (wipe σ vs) H fun σ2 H2 => wipe σ2 vs = wipe σ vs ∧ tt σ2 H2 fun b H3 =>
        if b = true then te σ2 H3 fun y H4 => ∃ acc, H4 D = some (.lst acc) ∧ acc.length < sizeLine ∧ N (upd H4 D (.lst (acc ++ [y]))) else N H3)
    (hd : Qd (upd H1 D (.lst ((ks.filter p).map f)))) :
    ∃ W : Nat → Nat → Hp → Prop, (∃ m, W 0 m (upd H1 D (.lst []))) ∧ ∀ i m H, W i m H →
      ((Itl K a).stop i H ∧ Qd H) ∨ ((Itl K a).go i H ∧ ∃ Nx : Hp → Prop, (∀ H', Nx H' → ∃ m', m' < m ∧ W (i + 1) m' H') ∧ ∀ x H', (Itl K a).yld i H x H' → g x (wipe σ vs) H' fun σ2 H2 => wipe σ2 vs = wipe σ vs ∧ tt σ2 H2 fun b H3 =>
        if b = true then te σ2 H3 fun y H4 => ∃ acc, H4 D = some (.lst acc) ∧ acc.length < sizeLine ∧ Nx (upd H4 D (.lst (acc ++ [y]))) else Nx H3) := by
  refine lc_list (xs := ks.map c) (fun i H => H = upd H1 D (.lst (((ks.take i).filter p).map f))) rfl (fun i H _ e => by subst e; exact hl _) (fun i x H hx e => ?_) (fun H e => ?_)
  · rw [List.getElem?_map] at hx
    obtain ⟨k, hk, rfl⟩ := Option.map_eq_some_iff.mp hx
    refine hs k H _ (List.mem_of_getElem? hk) ⟨((ks.take i).filter p).map f, e, ?_, fun hp => ?_, fun hp => ?_⟩
    · have := List.length_filter_le p (ks.take i)
      rw [List.length_map]
      rw [List.length_take] at this
      omega
    · show upd H1 D _ = upd H1 D _
      rw [take_filter hk, if_pos hp]
    · show H = upd H1 D _
      rw [take_filter hk, if_neg (by rw [hp]; decide), List.append_nil]
      exact e
  · rw [List.length_map, List.take_length] at e
    subst e
    exact hd
/-! ### defs that are called by their names, or by their addresses -/
structure Cal (P : Program) (w : World) (K : PySem.W.Frag) (mg : Str → Option Value) (base : Heap) (k : Nat) (x : Str) (sp : Sp) : Prop where
  ex : ∃ (f : Addr) (fd : FuncData) (ps : List Str), FnOk P w K mg base CX0 k f fd ps sp ∧ mg x = some (.ref f) ∧ PySem.W.keepIn K (.ref f) = true ∧ Binds K fd ps []
structure CalAt (P : Program) (w : World) (K : PySem.W.Frag) (mg : Str → Option Value) (base : Heap) (k : Nat) (f : Addr) (sp : Sp) : Prop where
  ex : ∃ (fd : FuncData) (ps : List Str), FnOk P w K mg base CX0 k f fd ps sp ∧ PySem.W.keepIn K (.ref f) = true ∧ Binds K fd ps []
theorem pe_c {X : Cx} {k j : Nat} {x : Str} {sp : Sp} {p pos : Pos} {e : Expr} {es : List Expr} {t : TA} (c : Cal X.prog X.w X.K X.mg X.base k x sp) (hr : Room j X.A) (hk : k ≤ j) (hg : Gl X x) (ha : PA X (e :: es) t)
    (hdb : (x == ("__debug__" : Str)) = false := by decide) (he : starEach (e :: es) X.env = (false, eval e X.env) :: starEach es X.env := by rfl) (hpl : (backTo pos (starEach es X.env)).any (·.1) = false := by rfl) :
    PE X (.Call (.Name x p) (e :: es) [] pos) (tCall sp [] E0 t) := by
  obtain ⟨f, fd, ps, F, hm, kp, b⟩ := c.ex
  exact pe_call F (hr.mono hk) hg hm kp b .nil pass0 ha hdb he hpl
/-! ### a call of what an index gives -/
def tCallE (P : Program) (w : World) (K : PySem.W.Frag) (mg : Str → Option Value) (base : Heap) (k : Nat) (tf : TE) (t : TA) : TE := fun σ H Q => tf σ H fun x H1 => ∃ (f : Addr) (sp : Sp), x = .ref f ∧ ∃ k', k' ≤ k ∧ CalAt P w K mg base k' f sp ∧ t σ H1 fun vs H2 => sp vs H2 Q E0
theorem pe_callE {X : Cx} {k : Nat} {o i : Expr} {p pos : Pos} {e : Expr} {es : List Expr} {tf : TE} {t : TA} (hf : PE X (.Subscript o i p) tf) (hr : Room k X.A) (ha : PA X (e :: es) t)
    (he : starEach (e :: es) X.env = (false, eval e X.env) :: starEach es X.env := by rfl) (hpl : (backTo pos (starEach es X.env)).any (·.1) = false := by rfl) :
    PE X (.Call (.Subscript o i p) (e :: es) [] pos) (tCallE X.prog X.w X.K X.mg X.base k tf t) := by
  refine ⟨fun pins s σ H Q I h => ?_⟩
  have arm : eval (.Call (.Subscript o i p) (e :: es) [] pos) X.env = (do
    callWith pos (← eval (.Subscript o i p) X.env) [] (backTo pos (starEach (e :: es) X.env)) (backToKw pos (keywordEach [] X.env))) := rfl
  rw [arm]
  refine wpAny_bind (thn (hf.run pins s σ H _ I h) fun u s1 ⟨x, H1, I1, rx, f, sp, ex, k', hk', c, ht⟩ => ?_)
  subst ex
  cases rx
  obtain ⟨fd, ps, F, hk, hb⟩ := c.ex
  refine PySem.W.callWith_K (h₀ := X.base) I.ok.mod.kin hk (thn (ha.run pos pins s1 σ _ _ I1 ht) fun us s2 ⟨vs, H2, I2, r, q⟩ => ⟨I2.kIn, ?_⟩) he hpl
  have q' : sp (vs ++ []) H2 Q E0 := by rw [List.append_nil]; exact q
  exact run_fn (dvs := []) F (hr.mono hk') hb .nil pass0 I2 r q'
/-! ### a written dict with whole numbers for keys -/
structure KInt (K : PySem.W.Frag) (a : Addr) (es : Array DictEntry) : Prop where
  at_ : ∃ n, K.lookup a = some ⟨.type "dict", none, .dict es n, #[]⟩
  ks : ∀ e ∈ es, ∃ k t, e.key = .int k t ∧ e.hash = hashInt k
theorem mapOf_KI {prog : Program} {w : World} {h : Heap} {K : PySem.W.Frag} {a : Addr} {es : Array DictEntry} (X : K.In h) (D : KInt K a es) : h.MapOf (intKind prog w) a (fun k => findBy Value.isInt es k) := by
  obtain ⟨n, hl⟩ := D.at_
  refine ⟨_, es, n, X _ _ hl, ⟨rfl, rfl, rfl⟩, rfl, fun e he => ?_, fun _ => rfl⟩
  obtain ⟨k, t, e1, e2⟩ := D.ks e he
  exact ⟨k, by rw [e1]; simp [intKind, Value.isInt], e2⟩
def rIxI (K : PySem.W.Frag) : R2 := fun x y H Q => ∃ p i es f, x = .ref p ∧ y = .int i ∧ KInt K p es ∧ findBy Value.isInt es i = some (.ref f) ∧ Q (.ref f) H
theorem ix_kint {X : Cx} : IxR X (rIxI X.K) := by
  intro value slice pins s σ H x y v u Q I rx ry h hs
  obtain ⟨p, i, es, f, rfl, rfl, D, e, q⟩ := h
  obtain rfl : v = Value.ref p := rx
  obtain ⟨t, rfl⟩ := ry
  have hm := mapOf_KI (prog := X.prog) (w := X.w) I.kIn D
  exact tail_any hm.typeIs slot_dict_getitem.lookup (wpAny_getItem_of (by simp [intKind, Value.isInt]) hm e ⟨.ref f, H, I.tok _, rfl, q⟩) hs
/-! ### min of a list of pairs -/
def toD (p : Nat × Nat) : PyData := .tuple [.int p.1, .int p.2]
def ltP (p q : Nat × Nat) : Bool := decide (p.1 < q.1 ∨ (p.1 = q.1 ∧ p.2 < q.2))
theorem lt_toD (p q : Nat × Nat) : PySem.W.dataLt (toD p) (toD q) = ltP p q := by
  obtain ⟨a, b⟩ := p
  obtain ⟨c, d⟩ := q
  unfold toD ltP
  rw [PySem.W.dataLt_tuple]
  by_cases h : a = c
  · subst h
    rw [PySem.W.dataLt_all_yes (by simp [PySem.W.alike]) (by simp [PyData.eqv])]
    by_cases h2 : b = d
    · subst h2
      rw [PySem.W.dataLt_all_yes (by simp [PySem.W.alike]) (by simp [PyData.eqv])]
      have : lexLt itemOrd (PySem.W.keyToksAll []) (PySem.W.keyToksAll []) = false := lex_irrefl _
      rw [this]
      simp
    · rw [PySem.W.dataLt_all_no (by simp [PySem.W.alike]) (by simp [PyData.eqv]; omega), PySem.W.dataLt_int]
      simp
  · rw [PySem.W.dataLt_all_no (by simp [PySem.W.alike]) (by simp [PyData.eqv]; omega), PySem.W.dataLt_int]
    simp [h]
def lessP (a y : Nat × Nat) : Nat × Nat := if ltP y a = true then y else a
theorem minD_pairs : ∀ (xs : List (Nat × Nat)) (x : Nat × Nat), PySem.W.minD (toD x) (xs.map toD) = toD (xs.foldl lessP x)
  | [], _ => rfl
  | y :: xs, x => by
    have ih := minD_pairs xs (lessP x y)
    unfold PySem.W.minD at ih ⊢
    rw [List.map_cons, List.foldl_cons, List.foldl_cons, ← ih, lt_toD]
    congr 1
    unfold lessP
    split <;> rfl
def leP (p q : Nat × Nat) : Prop := p.1 < q.1 ∨ (p.1 = q.1 ∧ p.2 ≤ q.2)
theorem least_pairs : ∀ (xs : List (Nat × Nat)) (x : Nat × Nat), leP (xs.foldl lessP x) x ∧ ∀ q ∈ xs, leP (xs.foldl lessP x) q
  | [], x => ⟨.inr ⟨rfl, Nat.le_refl _⟩, fun q h => nomatch h⟩
  | y :: xs, x => by
    obtain ⟨i1, i2⟩ := least_pairs xs (lessP x y)
    rw [List.foldl_cons]
    have h1 : leP (lessP x y) x ∧ leP (lessP x y) y := by
      unfold lessP
      by_cases h : ltP y x = true
      · rw [if_pos h]
        have h := of_decide_eq_true h
        unfold leP
        omega
      · rw [if_neg h]
        have h : ¬ (y.1 < x.1 ∨ (y.1 = x.1 ∧ y.2 < x.2)) := fun z => h (decide_eq_true z)
        unfold leP
        omega
    have tr : ∀ a b c : Nat × Nat, leP a b → leP b c → leP a c := by
      intro a b c
      unfold leP
      omega
    refine ⟨tr _ _ _ i1 h1.1, fun q hq => ?_⟩
    rcases List.mem_cons.mp hq with rfl | hq
    · exact tr _ _ _ i1 h1.2
    · exact i2 q hq
theorem toD_inj {p q : Nat × Nat} (h : toD p = toD q) : p = q := by
  obtain ⟨a, b⟩ := p
  obtain ⟨c, d⟩ := q
  unfold toD at h
  simp at h
  have h1 : a = c := by omega
  have h2 : b = d := by omega
  rw [h1, h2]
theorem depth_toD : ∀ xs : List (Nat × Nat), PyData.depthAll (xs.map toD) ≤ 8
  | [] => by simp [PyData.depthAll]
  | x :: xs => by
    have := depth_toD xs
    simp only [List.map_cons, PyData.depthAll, toD, PyData.depth]
    omega
def rMinP : List V → Hp → VK → Prop := fun vs H Q => ∃ (a : Addr) (ps : List (Addr × Nat × Nat)), vs = [V.ref a] ∧ H a = some (.lst (ps.map fun p => .ref p.1)) ∧ ps ≠ [] ∧ (∀ p ∈ ps, H p.1 = some (.tup [.int p.2.1, .int p.2.2])) ∧
  ∀ p ∈ ps, (∀ q ∈ ps, leP p.2 q.2) → Q (.ref p.1) H
theorem dp_pairs {K : PySem.W.Frag} {H : Hp} : ∀ (ps : List (Addr × Nat × Nat)), (∀ p ∈ ps, H p.1 = some (.tup [.int p.2.1, .int p.2.2])) → DpAll K H (ps.map fun p => .ref p.1) (ps.map fun p => toD p.2)
  | [], _ => .nil
  | p :: ps, h => .cons (.tup (SqT.of (h p List.mem_cons_self)) (.cons (.int _) (.cons (.int _) .nil))) (dp_pairs ps fun q hq => h q (List.mem_cons_of_mem _ hq))
theorem alike_toD (p q : Nat × Nat) : PySem.W.alike (toD p) (toD q) = true := by
  simp [toD, PySem.W.alike, PySem.W.alikeAll]
theorem vals_ref : ∀ (ps : List (Addr × Nat × Nat)) (its : List Value), Vals (ps.map fun p => V.ref p.1) its → ∀ (i : Nat) (v : Value), its[i]? = some v → ∃ p ∈ ps, v = .ref p.1
  | [], _, r, i, v, h => by
    cases r
    simp at h
  | p :: ps, _, r, i, v, h => by
    cases r with
    | cons r1 r2 =>
      cases i with
      | zero =>
        have e : _ = v := Option.some.inj h
        subst e
        exact ⟨p, List.mem_cons_self, r1⟩
      | succ i =>
        obtain ⟨q, hq, e⟩ := vals_ref ps _ r2 i v (by simpa using h)
        exact ⟨q, List.mem_cons_of_mem _ hq, e⟩
theorem cr_minP {X : Cx} (hc : X.calm = true) (hu : X.A.units + 20 < cLine) : CallR X (.builtin "min") rMinP := by
  intro pins s σ H vs us Q I r h
  obtain ⟨a, ps, rfl, hs, hne, ht, q⟩ := h
  obtain ⟨its, rv, hl, _⟩ := I.list (SqL.of hs)
  rw [Vals.ref1 r]
  obtain ⟨as, hr⟩ := Dp.readsAll I _ _ its (dp_pairs ps ht) rv
  obtain ⟨x, xs, e⟩ : ∃ x xs, ps = x :: xs := by
    cases ps with
    | nil => exact absurd rfl hne
    | cons x xs => exact ⟨x, xs, rfl⟩
  subst e
  have ed : ((x :: xs).map fun p => toD p.2) = toD x.2 :: (xs.map (·.2)).map toD := by
    rw [List.map_cons, List.map_map]
    rfl
  rw [ed] at hr
  have dep : PyData.depthAll (toD x.2 :: (xs.map (·.2)).map toD) ≤ 8 := by
    have := depth_toD (x.2 :: xs.map fun y : Addr × Nat × Nat => y.2)
    exact this
  have al : PySem.W.AlikeAll (toD x.2 :: (xs.map (·.2)).map toD) := by
    have mem : ∀ d ∈ toD x.2 :: (xs.map (·.2)).map toD, ∃ p, d = toD p := by
      intro d hd
      rcases List.mem_cons.mp hd with rfl | hd
      · exact ⟨_, rfl⟩
      · obtain ⟨p, _, rfl⟩ := List.mem_map.mp hd
        exact ⟨p, rfl⟩
    refine ⟨fun d hd e he => ?_, fun d hd => ?_⟩
    · obtain ⟨p, rfl⟩ := mem d hd
      obtain ⟨q, rfl⟩ := mem e he
      exact alike_toD p q
    · obtain ⟨p, rfl⟩ := mem d hd
      intro z
      unfold toD at z
      cases z
  refine PySem.W.min_list_data (I.ok.hd hc) hl.isList hr al (by omega) fun i v h' tk bs hv hrd hk => ?_
  rw [minD_pairs] at hrd
  have hv : its[i]? = some v := by simpa using hv
  obtain ⟨p, hp, rfl⟩ := vals_ref (x :: xs) its rv i v hv
  obtain ⟨as', r1⟩ := Dp.reads I (toD p.2) (.ref p.1) (.ref p.1) (.tup (SqT.of (ht p hp)) (.cons (.int _) (.cons (.int _) .nil))) rfl
  have e := toD_inj (PySem.W.alike_unique _ _ _ _ _ (alike_toD _ _) (PySem.W.reads_keeps hk r1) hrd)
  obtain ⟨l1, l2⟩ := least_pairs (xs.map fun y => y.2) x.2
  rw [← e] at l1 l2
  refine ⟨.ref p.1, H, I.kept hk, rfl, q p hp fun z hz => ?_⟩
  rcases List.mem_cons.mp hz with rfl | hz
  · exact l1
  · exact l2 _ (List.mem_map.mpr ⟨z, hz, rfl⟩)
end Vn
namespace Vn
open PySem PySem.Spec PyProof.Rows L2
open Mu54 (Vernier State)
/-- the i-th statement of the program -/
def top (i : Nat) : Stmt := PySem.Challenge.pw_slidingscale_s01_answers.main.body.getD i (.Pass ⟨0, 0, 0, 0⟩)
abbrev sVInit : Stmt := inClass (top 1) 0
abbrev sFineness : Stmt := top 2
abbrev sTurns : Stmt := top 3
abbrev sHas : Stmt := top 4
abbrev sLength : Stmt := top 5
abbrev sPlace : Stmt := top 6
abbrev sFar : Stmt := top 7
abbrev sAlong : Stmt := top 8
abbrev sMeeting : Stmt := top 9
abbrev sPlaces : Stmt := top 10
abbrev sFits : Stmt := top 11
abbrev sFurther : Stmt := top 12
/-! ### how a vernier lies in the heap -/
def nV (j : Nat) : V := .int (j : Int)
def vF (v : Vernier) (x : Nat) (w : Addr) : List (Str × V) := [("a", nV v.wide), ("b", nV v.close), ("m", nV v.long), ("n", nV v.marks), ("zero", .int v.zero), ("out_by", nV x), ("worn", .ref w)]
structure VAt (C : Addr) (H : Hp) (a w : Addr) (s : State) : Prop where
  ins : ∃ dx, H a = some (.ins C dx (vF s.vernier s.at_ w))
  lst : H w = some (.lst (s.vernier.worn.map nV))
theorem VAt.keep {C : Addr} {H H' : Hp} {a w : Addr} {s : State} (h : VAt C H a w s) (e : Same H H') : VAt C H' a w s := by
  obtain ⟨dx, h1⟩ := h.ins
  exact ⟨⟨dx, e _ _ h1⟩, e _ _ h.lst⟩
theorem lk_here {k : Str} {v : V} {r : List (Str × V)} : List.lookup k ((k, v) :: r) = some v := by
  have e : (k == k) = true := beq_self_eq_true k
  simp only [List.lookup, e]
theorem lk_past {k g : Str} {v : V} {r : List (Str × V)} (h : (k == g) = false) : List.lookup k ((g, v) :: r) = List.lookup k r := by
  simp only [List.lookup, h]
theorem put_here {f : Str} {v x : V} {r : List (Str × V)} : putF f v ((f, x) :: r) = (f, v) :: r := if_pos rfl
theorem put_past {f g : Str} {v x : V} {r : List (Str × V)} (h : ¬ g = f) : putF f v ((g, x) :: r) = (g, x) :: putF f v r := if_neg h
section
variable {v : Vernier} {x : Nat} {w : Addr}
theorem vF_a : (vF v x w).lookup ("a" : Str) = some (nV v.wide) := lk_here
theorem vF_b : (vF v x w).lookup ("b" : Str) = some (nV v.close) := (lk_past (by decide +kernel)).trans lk_here
theorem vF_m : (vF v x w).lookup ("m" : Str) = some (nV v.long) := (lk_past (by decide +kernel)).trans ((lk_past (by decide +kernel)).trans lk_here)
theorem vF_n : (vF v x w).lookup ("n" : Str) = some (nV v.marks) := (lk_past (by decide +kernel)).trans ((lk_past (by decide +kernel)).trans ((lk_past (by decide +kernel)).trans lk_here))
theorem vF_zero : (vF v x w).lookup ("zero" : Str) = some (.int v.zero) := (lk_past (by decide +kernel)).trans ((lk_past (by decide +kernel)).trans ((lk_past (by decide +kernel)).trans ((lk_past (by decide +kernel)).trans lk_here)))
theorem vF_out : (vF v x w).lookup ("out_by" : Str) = some (nV x) := (lk_past (by decide +kernel)).trans ((lk_past (by decide +kernel)).trans ((lk_past (by decide +kernel)).trans ((lk_past (by decide +kernel)).trans ((lk_past (by decide +kernel)).trans lk_here))))
theorem vF_worn : (vF v x w).lookup ("worn" : Str) = some (.ref w) := (lk_past (by decide +kernel)).trans ((lk_past (by decide +kernel)).trans ((lk_past (by decide +kernel)).trans ((lk_past (by decide +kernel)).trans ((lk_past (by decide +kernel)).trans ((lk_past (by decide +kernel)).trans lk_here)))))
end
/-- what the top has written of the class Vernier -/
structure TV (K : PySem.W.Frag) (C : Addr) : Prop where
  cl : Cls K C
  na : NoAttr K C "a"
  nb : NoAttr K C "b"
  nm : NoAttr K C "m"
  nn : NoAttr K C "n"
  nz : NoAttr K C "zero"
  no : NoAttr K C "out_by"
  nw : NoAttr K C "worn"
section
variable {P : Program} {w : World} {K : PySem.W.Frag} {mg : Str → Option Value} {base : Heap} {C : Addr}
/-! ### fineness -/
def spFin : Sp := fun vs H Q _ => ∃ (a b : Nat), vs = [nV a, nV b] ∧ Q (nV (Nat.gcd a b)) H
theorem scFin : FnScope ["a", "b", "rest"] ["a", "b"] (defScope sFineness) := ⟨rfl, rfl, rfl, by decide +kernel, rfl, by decide +kernel, by decide +kernel⟩
theorem ok_fin {f : Addr} {fd : FuncData} (F : Fun K "fineness" "fineness" sFineness f fd) : FnOk P w K mg base CX0 1 f fd ["a", "b"] spFin := by
  refine F.ok scFin (fun vs H Q E h => ?_) (fun cdv A outer s H vs Q E hr h => ?_)
  · obtain ⟨a, b, rfl, _⟩ := h
    rfl
  · obtain ⟨a, b, rfl, k⟩ := h
    refine ⟨_, pss_cons (ps_while PassesOwn.never (pt_cmpR op_gt (pv 1) pe_int (nomark _))
        (pss_cons (ps_set (i := 2) scFin.nd rfl (Or.inl rfl) (pe_op op_mod (pv 0) (pv 1)))
        (pss_cons (ps_set (i := 0) scFin.nd rfl (Or.inl rfl) (pv 1))
        (pss_one (ps_set (i := 1) scFin.nd rfl (Or.inl rfl) (pv 2))))))
      (pss_one (ps_ret (pv 0))), ?_⟩
    refine while_by (fun σ H' => H' = H ∧ ∃ (a' b' : Nat) (r : Option V), σ = [some (nV a'), some (nV b'), r] ∧ Nat.gcd a' b' = Nat.gcd a b) (fun σ _ => match σ with | [_, some (.int i), _] => i.toNat | _ => 0) ⟨rfl, a, b, none, rfl, rfl⟩ ?_ ?_
    · rintro σ H' ⟨rfl, a', b', r, rfl, e⟩
      refine ⟨_, rfl, _, _, rfl, rfl, _, rfl, ?_⟩
      by_cases c : (0 : Int) < (b' : Int)
      · refine if_true_of (decide_eq_true c) ?_
        refine ⟨_, rfl, _, rfl, _, _, rfl, rfl, c, _, rfl, _, rfl, ?_⟩
        refine ⟨⟨rfl, b', a' % b', some (nV (a' % b')), rfl, (gcd_turn a' b').trans e⟩, ?_⟩
        show (((a' : Int) % (b' : Int))).toNat < ((b' : Int)).toNat
        have := Nat.mod_lt a' (show b' > 0 by omega)
        rw [← Int.natCast_emod]
        omega
      · refine if_false_of (decide_eq_false c) ?_
        refine ⟨_, rfl, ?_⟩
        have hb : b' = 0 := by omega
        subst hb
        rw [gcd_end] at e
        rw [e]
        exact k
    · rintro σ H' Q1 Q2 m ⟨v, e1, i, j, e2, e3, z, e4, q⟩
      exact ⟨v, e1, i, j, e2, e3, z, e4, m _ _ q⟩
/-! ### turns_needed -/
def spTurns : Sp := fun vs H Q _ => ∃ (a b : Nat), vs = [nV a, nV b] ∧ 1 ≤ a ∧ a ≤ 200 ∧ Q (nV (a / Nat.gcd a b)) H
theorem scTurns : FnScope ["a", "b"] ["a", "b"] (defScope sTurns) := ⟨rfl, rfl, rfl, by decide +kernel, rfl, by decide +kernel, by decide +kernel⟩
theorem ok_turns {f : Addr} {fd : FuncData} (F : Fun K "turns_needed" "turns_needed" sTurns f fd) (cF : Cal P w K mg base 1 "fineness" spFin) : FnOk P w K mg base CX0 2 f fd ["a", "b"] spTurns := by
  refine F.ok scTurns (fun vs H Q E h => ?_) (fun cdv A outer s H vs Q E hr h => ?_)
  · obtain ⟨a, b, rfl, _⟩ := h
    rfl
  · obtain ⟨a, b, rfl, h1, h2, k⟩ := h
    refine ⟨_, pss_one (ps_ret (pe_op op_fdiv (pv 0) (pe_c cF hr (by decide) rfl (pa_cons (pv 0) (pa_cons (pv 1) pa_nil))))), ?_⟩
    have g1 := gcd_pos (b := b) (show 0 < a by omega)
    have g2 := gcd_le (b := b) (show 0 < a by omega)
    refine ⟨_, rfl, _, rfl, _, rfl, a, b, rfl, _, _, rfl, rfl, ⟨by omega, by omega⟩, ?_⟩
    exact k
/-! ### has_marks_for, scale_length, place_of, far_off -/
def spHas (C : Addr) : Sp := fun vs H Q _ => ∃ (a w : Addr) (s : State) (t : Nat), vs = [.ref a, nV t] ∧ VAt C H a w s ∧ Q (.bl (decide (t ≤ s.vernier.marks + 1))) H
theorem scHas : FnScope ["vernier", "turns"] ["vernier", "turns"] (defScope sHas) := ⟨rfl, rfl, rfl, by decide +kernel, rfl, by decide +kernel, by decide +kernel⟩
theorem ok_has {f : Addr} {fd : FuncData} (F : Fun K "has_marks_for" "has_marks_for" sHas f fd) (T : TV K C) : FnOk P w K mg base CX0 1 f fd ["vernier", "turns"] (spHas C) := by
  refine F.ok scHas (fun vs H Q E h => ?_) (fun cdv A outer s H vs Q E hr h => ?_)
  · obtain ⟨a, w, s, t, rfl, _⟩ := h
    rfl
  · obtain ⟨a, w, s, t, rfl, V, k⟩ := h
    obtain ⟨dx, hi⟩ := V.ins
    refine ⟨_, pss_one (ps_ret (pe_cmpR op_le (pv 1) (pe_op op_add (pe_fld (pv 0) rfl) pe_int) (nomark _))), ?_⟩
    refine ⟨_, rfl, _, rfl, a, C, dx, _, _, rfl, hi, T.cl, T.nn, vF_n, _, _, rfl, rfl, _, _, rfl, rfl, ?_⟩
    have e : decide ((t : Int) ≤ (s.vernier.marks : Int) + 1) = decide (t ≤ s.vernier.marks + 1) := by
      rw [decide_eq_decide]
      omega
    show Q (.bl (decide ((t : Int) ≤ (s.vernier.marks : Int) + 1))) H
    rw [e]
    exact k
def spLength (C : Addr) : Sp := fun vs H Q _ => ∃ (a w : Addr) (s : State), vs = [.ref a] ∧ VAt C H a w s ∧ Ok s.vernier ∧ Q (nV (s.vernier.wide * s.vernier.long)) H
theorem scLength : FnScope ["vernier"] ["vernier"] (defScope sLength) := ⟨rfl, rfl, rfl, by decide +kernel, rfl, by decide +kernel, by decide +kernel⟩
theorem ok_length {f : Addr} {fd : FuncData} (F : Fun K "scale_length" "scale_length" sLength f fd) (T : TV K C) : FnOk P w K mg base CX0 1 f fd ["vernier"] (spLength C) := by
  refine F.ok scLength (fun vs H Q E h => ?_) (fun cdv A outer s H vs Q E hr h => ?_)
  · obtain ⟨a, w, s, rfl, _⟩ := h
    rfl
  · obtain ⟨a, w, s, rfl, V, O, k⟩ := h
    obtain ⟨dx, hi⟩ := V.ins
    refine ⟨_, pss_one (ps_ret (pe_op op_mul (pe_fld (pv 0) rfl) (pe_fld (pv 0) rfl))), ?_⟩
    have := O.a2
    refine ⟨_, rfl, a, C, dx, _, _, rfl, hi, T.cl, T.na, vF_a, _, rfl, a, C, dx, _, _, rfl, hi, T.cl, T.nm, vF_m, _, _, rfl, rfl, .inl ⟨by omega, by omega⟩, ?_⟩
    exact k
def spPlace (C : Addr) : Sp := fun vs H Q _ => ∃ (a w : Addr) (s : State) (x j : Nat), vs = [.ref a, nV x, nV j] ∧ VAt C H a w s ∧ Ok s.vernier ∧ Q (nV (x + j * s.vernier.close)) H
theorem scPlace : FnScope ["vernier", "x", "j"] ["vernier", "x", "j"] (defScope sPlace) := ⟨rfl, rfl, rfl, by decide +kernel, rfl, by decide +kernel, by decide +kernel⟩
theorem ok_place {f : Addr} {fd : FuncData} (F : Fun K "place_of" "place_of" sPlace f fd) (T : TV K C) : FnOk P w K mg base CX0 1 f fd ["vernier", "x", "j"] (spPlace C) := by
  refine F.ok scPlace (fun vs H Q E h => ?_) (fun cdv A outer s H vs Q E hr h => ?_)
  · obtain ⟨a, w, s, x, j, rfl, _⟩ := h
    rfl
  · obtain ⟨a, w, s, x, j, rfl, V, O, k⟩ := h
    obtain ⟨dx, hi⟩ := V.ins
    refine ⟨_, pss_one (ps_ret (pe_op op_add (pv 1) (pe_op op_mul (pv 2) (pe_fld (pv 0) rfl)))), ?_⟩
    have := O.b2
    refine ⟨_, rfl, _, rfl, _, rfl, a, C, dx, _, _, rfl, hi, T.cl, T.nb, vF_b, _, _, rfl, rfl, .inr ⟨by omega, by omega⟩, _, _, rfl, rfl, ?_⟩
    exact k
def spFar (C : Addr) : Sp := fun vs H Q _ => ∃ (a w : Addr) (s : State) (x j : Nat), vs = [.ref a, nV x, nV j] ∧ VAt C H a w s ∧ Ok s.vernier ∧ Q (nV (Mu54.off s.vernier x j)) H
theorem scFar : FnScope ["vernier", "x", "j", "behind"] ["vernier", "x", "j"] (defScope sFar) := ⟨rfl, rfl, rfl, by decide +kernel, rfl, by decide +kernel, by decide +kernel⟩
theorem ok_far {f : Addr} {fd : FuncData} (F : Fun K "far_off" "far_off" sFar f fd) (T : TV K C) (hmin : mg "min" = none) (cP : Cal P w K mg base 1 "place_of" (spPlace C)) : FnOk P w K mg base CX0 2 f fd ["vernier", "x", "j"] (spFar C) := by
  refine F.ok scFar (fun vs H Q E h => ?_) (fun cdv A outer s H vs Q E hr h => ?_)
  · obtain ⟨a, w, s, x, j, rfl, _⟩ := h
    rfl
  · obtain ⟨a, w, s, x, j, rfl, V, O, k⟩ := h
    obtain ⟨dx, hi⟩ := V.ins
    refine ⟨_, pss_cons (ps_set (i := 3) scFar.nd rfl (Or.inl rfl) (pe_op op_mod (pe_c cP hr (by decide) rfl (pa_cons (pv 0) (pa_cons (pv 1) (pa_cons (pv 2) pa_nil)))) (pe_fld (pv 0) rfl)))
      (pss_one (ps_ret (pe_callB (call_min2 rfl) (by rfl) hmin (by decide +kernel) (pa_cons (pv 3) (pa_cons (pe_op op_sub (pe_fld (pv 0) rfl) (pv 3)) pa_nil))))), ?_⟩
    have h1 := O.a1
    refine ⟨_, rfl, _, rfl, _, rfl, a, w, s, x, j, rfl, V, O, ?_⟩
    refine ⟨_, rfl, a, C, dx, _, _, rfl, hi, T.cl, T.na, vF_a, _, _, rfl, rfl, by omega, ?_⟩
    refine ⟨_, rfl, _, rfl, a, C, dx, _, _, rfl, hi, T.cl, T.na, vF_a, _, rfl, _, _, rfl, rfl, _, _, rfl, ?_⟩
    have e : (L2.V.int (if ((s.vernier.wide : Int) - ((x + j * s.vernier.close : Nat) : Int) % (s.vernier.wide : Int)) < ((x + j * s.vernier.close : Nat) : Int) % (s.vernier.wide : Int) then ((s.vernier.wide : Int) - ((x + j * s.vernier.close : Nat) : Int) % (s.vernier.wide : Int)) else ((x + j * s.vernier.close : Nat) : Int) % (s.vernier.wide : Int))) = nV (Mu54.off s.vernier x j) := by
      unfold nV Mu54.off
      rw [← Int.natCast_emod]
      have := Nat.mod_lt (x + j * s.vernier.close) (show s.vernier.wide > 0 by omega)
      congr 1
      split <;> omega
    exact e ▸ k
end
end Vn
namespace Vn
open PySem PySem.Spec PyProof.Rows L2
open Mu54 (Vernier State)
theorem same_upd {H : Hp} {p : Addr} {o : HO} (h : H p = none) : Same H (upd H p o) := fun b x e => by
  rw [upd_ne (ne_of_none e h)]
  exact e
theorem inV_nats (j : Nat) : ∀ l : List Nat, inV (nV j) (l.map nV) = l.contains j
  | [] => rfl
  | k :: l => by
    have ih := inV_nats j l
    unfold inV at ih ⊢
    rw [List.map_cons, List.any_cons, ih, List.contains_cons]
    congr 1
    show ((k : Int) == (j : Int)) = (j == k)
    by_cases h : j = k
    · subst h; simp
    · rw [beq_eq_false_iff_ne.mpr h, beq_eq_false_iff_ne.mpr (by omega)]
theorem flat_nats : ∀ l : List Nat, (l.map nV).all flatV = true
  | [] => rfl
  | k :: l => by
    rw [List.map_cons, List.all_cons, flat_nats l]
    rfl
theorem small_line {n : Nat} (h : n ≤ 1000) : n < sizeLine := small1000 h
section
variable {P : Program} {w : World} {K : PySem.W.Frag} {mg : Str → Option Value} {base : Heap} {C : Addr}
/-! ### marks_along_scale -/
def spAlong (C : Addr) : Sp := fun vs H Q _ => ∃ (a w : Addr) (s : State) (x : Nat), vs = [.ref a, nV x] ∧ VAt C H a w s ∧ Ok s.vernier ∧
  ∀ (H' : Hp) (p : Addr), Same H H' → H p = none → H' p = some (.lst ((along s.vernier x).map nV)) → Q (.ref p) H'
theorem scAlong : FnScope ["vernier", "x", "seen", "j"] ["vernier", "x"] (defScope sAlong) := ⟨rfl, rfl, rfl, by decide +kernel, rfl, by decide +kernel, by decide +kernel⟩
theorem ok_along {f : Addr} {fd : FuncData} (F : Fun K "marks_along_scale" "marks_along_scale" sAlong f fd) (T : TV K C) (hrange : mg "range" = none) (cP : Cal P w K mg base 1 "place_of" (spPlace C)) (cL : Cal P w K mg base 1 "scale_length" (spLength C)) : FnOk P w K mg base CX0 2 f fd ["vernier", "x"] (spAlong C) := by
  refine F.ok scAlong (fun vs H Q E h => ?_) (fun cdv A outer s H vs Q E hr h => ?_)
  · obtain ⟨a, w, s, x, rfl, _⟩ := h
    rfl
  · obtain ⟨a, w, s, x, rfl, V, O, k⟩ := h
    obtain ⟨dx, hi⟩ := V.ins
    refine ⟨_, pss_cons (ps_setLc (i := 2) (own := [("j", 3)]) (g := gName 3) (tt := tTest (tOp (rIn K true) (tVar 3) (tFld K (tVar 0) "worn"))) rfl scAlong.nd rfl rfl (sw_true rfl rfl rfl (by decide +kernel))
        (pi_range1 rfl hrange (pa_cons (pe_op op_add (pe_fld (pv 0) rfl) pe_int) pa_nil))
        (blkOk_by (N := ["vernier", "x", "seen", "j"]) (sc := defScope sAlong) (by decide +kernel))
        (fun _ _ _ _ _ => by exact pg_name (i := 3) scAlong.nd rfl (Or.inl rfl))
        (fun _ _ _ _ _ => by exact pts_one (pt_cmpR op_notIn_seq (pv 3) (pe_fld (pv 0) rfl) rfl))
        (fun _ _ _ _ _ => by exact pv 3))
      (pss_one (ps_ret (pe_lc (own := [("j", 3)]) (g := gName 3) rfl scAlong.nd (pi_list (pv 2))
        (blkOk_by (N := ["vernier", "x", "seen", "j"]) (sc := defScope sAlong) (by decide +kernel))
        (fun _ _ _ _ _ => by exact pg_name (i := 3) scAlong.nd rfl (Or.inl rfl))
        (fun _ _ _ _ _ => by exact pts_one (pt_cmpR op_le (pe_c cP hr (by decide) rfl (pa_cons (pv 0) (pa_cons (pv 1) (pa_cons (pv 3) pa_nil)))) (pe_c cL hr (by decide) rfl (pa_cons (pv 0) pa_nil)) (nomark _)))
        (fun _ _ _ _ _ => by exact pv 3)))), ?_⟩
    have b2 := O.n2
    refine ⟨_, rfl, a, C, dx, _, _, rfl, hi, T.cl, T.nn, vF_n, _, _, rfl, rfl, _, rfl, by omega, by omega, fun D hD => ?_⟩
    have en : ((s.vernier.marks : Int) + 1).toNat = s.vernier.marks + 1 := by omega
    rw [en]
    refine lcr (fun j => !(s.vernier.worn.contains j)) nV (small_line (by omega)) ?_ ?_
    · rintro i H2 N hi2 ⟨acc, rfl, hacc, ht, hf⟩
      rw [Int.zero_add]
      have V2 := V.keep (same_upd (o := .lst acc) hD)
      obtain ⟨dx2, hi'⟩ := V2.ins
      refine ⟨rfl, _, rfl, _, rfl, a, C, dx2, _, _, rfl, hi', T.cl, T.nw, vF_worn, w, _, rfl, .inl (SqL.of V2.lst), rfl, flat_nats _, _, rfl, ?_⟩
      show if (!inV (nV i) (s.vernier.worn.map nV)) = true then _ else _
      rw [inV_nats]
      by_cases c : (!(s.vernier.worn.contains i)) = true
      · refine if_true_of c ⟨_, rfl, acc, upd_same, hacc, ?_⟩
        rw [upd_upd]
        exact ht c
      · refine if_false_of (by simpa using c) (hf (by simpa using c))
    · have V2 := V.keep (same_upd (o := .lst ((unworn s.vernier).map nV)) hD)
      have hlen := len_unworn s.vernier
      refine ⟨_, rfl, D, rfl, ⟨_, SqL.of upd_same⟩, fun D2 hD2 => ?_⟩
      have ne : D ≠ D2 := ne_of_none upd_same hD2
      refine lcl (c := nV) (ks := unworn s.vernier) (fun j => decide (x + j * s.vernier.close ≤ s.vernier.wide * s.vernier.long)) nV (small_line (by omega)) (fun acc => SqL.of (by rw [upd_ne ne]; exact upd_same)) ?_ ?_
      · rintro j H3 N hj ⟨acc, rfl, hacc, ht, hf⟩
        have V3 := V2.keep (same_upd (o := .lst acc) hD2)
        refine ⟨rfl, _, rfl, _, rfl, _, rfl, a, w, s, x, j, rfl, V3, O, _, rfl, a, w, s, rfl, V3, O, _, _, rfl, rfl, _, rfl, ?_⟩
        have e : decide (((x + j * s.vernier.close : Nat) : Int) ≤ ((s.vernier.wide * s.vernier.long : Nat) : Int)) = decide (x + j * s.vernier.close ≤ s.vernier.wide * s.vernier.long) := by
          rw [decide_eq_decide]
          omega
        show if decide (((x + j * s.vernier.close : Nat) : Int) ≤ ((s.vernier.wide * s.vernier.long : Nat) : Int)) = true then _ else _
        rw [e]
        by_cases c : x + j * s.vernier.close ≤ s.vernier.wide * s.vernier.long
        · refine if_true_of (decide_eq_true c) ⟨_, rfl, acc, upd_same, hacc, ?_⟩
          rw [upd_upd]
          exact ht (decide_eq_true c)
        · exact if_false_of (decide_eq_false c) (hf (decide_eq_false c))
      · have hD0 : H D2 = none := (same_upd hD).free hD2
        exact k _ D2 ((same_upd hD).trans (same_upd hD2)) hD0 upd_same
end
end Vn
namespace Vn
open PySem PySem.Spec PyProof.Rows L2
open Mu54 (Vernier State)
theorem dec_nV (i j : Nat) : decide (nV i = nV j) = (i == j) := by
  by_cases h : i = j
  · subst h
    rw [decide_eq_true rfl, beq_self_eq_true]
  · rw [beq_eq_false_iff_ne.mpr h]
    refine decide_eq_false fun e => h ?_
    unfold nV at e
    injection e with e
    omega
section
variable {P : Program} {w : World} {K : PySem.W.Frag} {mg : Str → Option Value} {base : Heap} {C : Addr}
/-! ### meeting_marks -/
def spMeeting (C : Addr) : Sp := fun vs H Q _ => ∃ (a w : Addr) (s : State) (x : Nat), vs = [.ref a, nV x] ∧ VAt C H a w s ∧ Ok s.vernier ∧
  ∀ (H' : Hp) (p : Addr), Same H H' → H p = none → H' p = some (.lst ((meeting s.vernier x).map nV)) → Q (.ref p) H'
theorem scMeeting : FnScope ["vernier", "x", "j"] ["vernier", "x"] (defScope sMeeting) := ⟨rfl, rfl, rfl, by decide +kernel, rfl, by decide +kernel, by decide +kernel⟩
theorem ok_meeting {f : Addr} {fd : FuncData} (F : Fun K "meeting_marks" "meeting_marks" sMeeting f fd) (cA : Cal P w K mg base 2 "marks_along_scale" (spAlong C)) (cF : Cal P w K mg base 2 "far_off" (spFar C)) : FnOk P w K mg base CX0 3 f fd ["vernier", "x"] (spMeeting C) := by
  refine F.ok scMeeting (fun vs H Q E h => ?_) (fun cdv A outer s H vs Q E hr h => ?_)
  · obtain ⟨a, w, s, x, rfl, _⟩ := h
    rfl
  · obtain ⟨a, w, s, x, rfl, V, O, k⟩ := h
    refine ⟨_, pss_one (ps_ret (pe_lc (own := [("j", 2)]) (g := gName 2) rfl scMeeting.nd (pi_list (pe_c cA hr (by decide) rfl (pa_cons (pv 0) (pa_cons (pv 1) pa_nil))))
        (blkOk_by (N := ["vernier", "x", "j"]) (sc := defScope sMeeting) (by decide +kernel))
        (fun _ _ _ _ _ => by exact pg_name (i := 2) scMeeting.nd rfl (Or.inl rfl))
        (fun _ _ _ _ _ => by exact pts_one (pt_cmpR op_eq (pe_c cF hr (by decide) rfl (pa_cons (pv 0) (pa_cons (pv 1) (pa_cons (pv 2) pa_nil)))) pe_int (nomark _)))
        (fun _ _ _ _ _ => by exact pv 2))), ?_⟩
    refine ⟨_, rfl, _, rfl, a, w, s, x, rfl, V, O, fun H1 p s1 hp h1 => ⟨p, rfl, ⟨_, SqL.of h1⟩, fun D hD => ?_⟩⟩
    have ne : p ≠ D := ne_of_none h1 hD
    have V1 := V.keep s1
    have b2 := O.n2
    have hlen := len_along s.vernier x
    refine lcl (c := nV) (ks := along s.vernier x) (fun j => Mu54.off s.vernier x j == 0) nV (small_line (by omega)) (fun acc => SqL.of (by rw [upd_ne ne]; exact h1)) ?_ ?_
    · rintro j H3 N hj ⟨acc, rfl, hacc, ht, hf⟩
      have V3 := V1.keep (same_upd (o := .lst acc) hD)
      refine ⟨rfl, _, rfl, _, rfl, _, rfl, a, w, s, x, j, rfl, V3, O, rfl, _, rfl, ?_⟩
      show if decide (nV (Mu54.off s.vernier x j) = nV 0) = true then _ else _
      rw [dec_nV]
      by_cases c : (Mu54.off s.vernier x j == 0) = true
      · refine if_true_of c ⟨_, rfl, acc, upd_same, hacc, ?_⟩
        rw [upd_upd]
        exact ht c
      · exact if_false_of (by simpa using c) (hf (by simpa using c))
    · exact k _ D (s1.trans (same_upd hD)) (s1.free hD) upd_same
/-! ### fits -/
def spFits (C : Addr) : Sp := fun vs H Q _ => ∃ (a w : Addr) (s : State) (b g : Nat), vs = [.ref a, nV b, nV g] ∧ VAt C H a w s ∧ Ok s.vernier ∧ Q (.bl (fitsB s.vernier g b)) H
theorem scFits : FnScope ["vernier", "b", "wanted"] ["vernier", "b", "wanted"] (defScope sFits) := ⟨rfl, rfl, rfl, by decide +kernel, rfl, by decide +kernel, by decide +kernel⟩
theorem ok_fits {f : Addr} {fd : FuncData} (F : Fun K "fits" "fits" sFits f fd) (T : TV K C) (cF : Cal P w K mg base 1 "fineness" spFin) (cT : Cal P w K mg base 2 "turns_needed" spTurns) (cH : Cal P w K mg base 1 "has_marks_for" (spHas C)) : FnOk P w K mg base CX0 3 f fd ["vernier", "b", "wanted"] (spFits C) := by
  refine F.ok scFits (fun vs H Q E h => ?_) (fun cdv A outer s H vs Q E hr h => ?_)
  · obtain ⟨a, w, s, b, g, rfl, _⟩ := h
    rfl
  · obtain ⟨a, w, s, b, g, rfl, V, O, k⟩ := h
    obtain ⟨dx, hi⟩ := V.ins
    refine ⟨_, pss_one (ps_ret (pe_and (pe_cmpR op_eq (pe_c cF hr (by decide) rfl (pa_cons (pe_fld (pv 0) rfl) (pa_cons (pv 1) pa_nil))) (pv 2) (nomark _))
      (pe_one (pe_c cH hr (by decide) rfl (pa_cons (pv 0) (pa_cons (pe_c cT hr (by decide) rfl (pa_cons (pe_fld (pv 0) rfl) (pa_cons (pv 1) pa_nil))) pa_nil)))))), ?_⟩
    have a1 := O.a1
    have a2 := O.a2
    refine ⟨_, rfl, a, C, dx, _, _, rfl, hi, T.cl, T.na, vF_a, _, rfl, s.vernier.wide, b, rfl, _, rfl, rfl, _, rfl, ?_⟩
    show if decide (nV (Nat.gcd s.vernier.wide b) = nV g) = true then _ else _
    rw [dec_nV]
    unfold fitsB at k
    by_cases c : (Nat.gcd s.vernier.wide b == g) = true
    · refine if_true_of c ?_
      rw [c, Bool.true_and] at k
      exact ⟨_, rfl, _, rfl, a, C, dx, _, _, rfl, hi, T.cl, T.na, vF_a, _, rfl, s.vernier.wide, b, rfl, by omega, by omega, a, w, s, _, rfl, V, k⟩
    · have c : (Nat.gcd s.vernier.wide b == g) = false := by simpa using c
      rw [c, Bool.false_and] at k
      exact if_false_of c k
/-! ### marks_further -/
def spFurther : Sp := fun vs H Q _ => ∃ (v : Vernier) (k : Nat), vs = [nV v.wide, nV v.close] ∧ Ok v ∧ Mu54.stepOf v = some k ∧ Q (nV k) H
theorem scFurther : FnScope ["a", "b", "moved", "further"] ["a", "b"] (defScope sFurther) := ⟨rfl, rfl, rfl, by decide +kernel, rfl, by decide +kernel, by decide +kernel⟩
theorem ok_further {f : Addr} {fd : FuncData} (F : Fun K "marks_further" "marks_further" sFurther f fd) (cF : Cal P w K mg base 1 "fineness" spFin) : FnOk P w K mg base CX0 2 f fd ["a", "b"] spFurther := by
  refine F.ok scFurther (fun vs H Q E h => ?_) (fun cdv A outer s H vs Q E hr h => ?_)
  · obtain ⟨v, n, rfl, _⟩ := h
    rfl
  · obtain ⟨v, n, rfl, O, e, k⟩ := h
    refine ⟨_, pss_cons (ps_set (i := 2) scFurther.nd rfl (Or.inl rfl) (pe_c cF hr (by decide) rfl (pa_cons (pv 0) (pa_cons (pv 1) pa_nil))))
      (pss_cons (ps_set (i := 3) scFurther.nd rfl (Or.inl rfl) pe_int)
      (pss_cons (ps_while PassesOwn.never (pt_cmpR op_ne (pe_op op_mod (pe_op op_add (pv 2) (pe_op op_mul (pv 3) (pv 1))) (pv 0)) pe_int (nomark _))
        (pss_one (ps_aug (i := 3) scFurther.nd rfl (Or.inl rfl) pe_int ip_add)))
      (pss_one (ps_ret (pv 3))))), ?_⟩
    have a1 := O.a1
    have b2 := O.b2
    obtain ⟨s1, s2⟩ := step_is e
    refine ⟨_, rfl, _, rfl, v.wide, v.close, rfl, ?_⟩
    refine while_by (fun σ H' => H' = H ∧ ∃ i : Nat, i ≤ n ∧ σ = [some (nV v.wide), some (nV v.close), some (nV (Nat.gcd v.wide v.close)), some (nV i)]) (fun σ _ => match σ with | [_, _, _, some (.int i)] => n - i.toNat | _ => 0) ⟨rfl, 0, by omega, rfl⟩ ?_ ?_
    · rintro σ H' ⟨rfl, i, hi, rfl⟩
      refine ⟨_, rfl, _, rfl, _, rfl, _, _, rfl, rfl, .inr ⟨by omega, by omega⟩, _, _, rfl, rfl, _, rfl, _, _, rfl, rfl, by omega, rfl, _, rfl, ?_⟩
      have em : (V.int (((Nat.gcd v.wide v.close : Nat) : Int) + (i : Int) * (v.close : Int)) = nV (Nat.gcd v.wide v.close + i * v.close)) := rfl
      show if (!decide (V.int ((((Nat.gcd v.wide v.close : Nat) : Int) + (i : Int) * (v.close : Int)) % (v.wide : Int)) = nV 0)) = true then _ else _
      have e2 : V.int ((((Nat.gcd v.wide v.close : Nat) : Int) + (i : Int) * (v.close : Int)) % (v.wide : Int)) = nV ((Nat.gcd v.wide v.close + i * v.close) % v.wide) := rfl
      rw [e2, dec_nV]
      by_cases c : i = n
      · subst c
        have z : (Nat.gcd v.wide v.close + i * v.close) % v.wide = 0 := s1
        rw [z]
        refine if_false_of (by decide) ⟨_, rfl, k⟩
      · have z : (Nat.gcd v.wide v.close + i * v.close) % v.wide ≠ 0 := s2 i (by omega)
        rw [beq_eq_false_iff_ne.mpr z]
        refine if_true_of (by decide) ⟨_, rfl, _, _, rfl, rfl, ⟨rfl, i + 1, by omega, rfl⟩, ?_⟩
        show n - ((i : Int) + 1).toNat < n - (i : Int).toNat
        omega
    · rintro σ H' Q1 Q2 m h
      obtain ⟨v1, e1, v2, e2, v3, e3, i1, j1, e4, e5, c1, i2, j2, e6, e7, v4, e8, i3, j3, e9, e10, c2, c3, z, e11, q⟩ := h
      exact ⟨v1, e1, v2, e2, v3, e3, i1, j1, e4, e5, c1, i2, j2, e6, e7, v4, e8, i3, j3, e9, e10, c2, c3, z, e11, m _ _ q⟩
end
end Vn
namespace Vn
open PySem PySem.Spec PyProof.Rows L2
open Mu54 (Vernier State)
abbrev sLInit : Stmt := inClass (top 21) 0
abbrev sBegin : Stmt := top 22
abbrev sCounted : Stmt := top 23
/-- a module's own whole number -/
theorem pe_gi {X : Cx} {x : Str} {i : Int} {pos : Pos} (hm : ∃ t, X.mg x = some (.int i t)) (hg : Gl X x) (hd : (x == ("__debug__" : Str)) = false := by decide) : PE X (.Name x pos) (tC (.int i)) := by
  obtain ⟨t, h⟩ := hm
  exact pe_glob hg h ⟨t, rfl⟩ hd
theorem put_len {f : Str} {v : V} : ∀ {fs : List (Str × V)} {n : Nat}, fs.length < n → (putF f v fs).length < n + 1
  | [], n, h => by
    show 1 < n + 1
    have h : 0 < n := h
    omega
  | (g, x) :: fs, n, h => by
    unfold putF
    split
    · show fs.length + 1 < n + 1
      have h : fs.length + 1 < n := h
      omega
    · have h : fs.length + 1 < n := h
      have := put_len (f := f) (v := v) (fs := fs) (n := n - 1) (by omega)
      show (putF f v fs).length + 1 < n + 1
      omega
theorem vF_new (a b m n : Nat) (w : Addr) : putF "worn" (.ref w) (putF "out_by" (.int 0) (putF "zero" (.int 0) (putF "n" (nV n) (putF "m" (nV m) (putF "b" (nV b) (putF "a" (nV a) [])))))) = vF ⟨a, b, m, n, [], 0⟩ 0 w := by kernel_rfl
/-! ### how a line lies in the heap -/
def lF (o : Option V) : List (Str × V) := [("vernier", o.getD .non)]
theorem lF_ver (o : Option V) : (lF o).lookup ("vernier" : Str) = some (o.getD .non) := lk_here
theorem lF_put (o : Option V) (v : Addr) : putF "vernier" (.ref v) (lF o) = lF (some (.ref v)) := put_here
structure LAt (CL CV : Addr) (H : Hp) (l v w : Addr) (o : Option State) : Prop where
  lin : ∃ dl, H l = some (.ins CL dl (lF (o.map fun _ => V.ref v)))
  ver : ∀ s, o = some s → VAt CV H v w s
/-- what the top has written of the class Line -/
structure TL (K : PySem.W.Frag) (C : Addr) : Prop where
  cl : Cls K C
  nv : NoAttr K C "vernier"
section
variable {P : Program} {w : World} {K : PySem.W.Frag} {mg : Str → Option Value} {base : Heap} {C CL : Addr}
/-! ### Vernier.__init__, Line.__init__ -/
def spVInit (C : Addr) : Sp := fun vs H Q _ => ∃ (p dx : Addr) (a b m n : Nat), vs = [.ref p, nV a, nV b, nV m, nV n] ∧ H p = some (.ins C dx []) ∧
  ∀ (H' : Hp) (w : Addr), VAt C H' p w ⟨⟨a, b, m, n, [], 0⟩, 0⟩ → H w = none → (∀ b o, H b = some o → b ≠ p → H' b = some o) → Q .non H'
theorem scVInit : FnScope ["self", "a", "b", "m", "n"] ["self", "a", "b", "m", "n"] (defScope sVInit) := ⟨rfl, rfl, rfl, by decide +kernel, rfl, by decide +kernel, by decide +kernel⟩
theorem ok_vinit {f : Addr} {fd : FuncData} (F : Fun K "__init__" "Vernier.__init__" sVInit f fd) (T : TV K C) : FnOk P w K mg base CX0 1 f fd ["self", "a", "b", "m", "n"] (spVInit C) := by
  refine F.ok scVInit (fun vs H Q E h => ?_) (fun cdv A outer s H vs Q E hr h => ?_)
  · obtain ⟨p, dx, a, b, m, n, rfl, _⟩ := h
    rfl
  · obtain ⟨p, dx, a, b, m, n, rfl, hp, k⟩ := h
    refine ⟨_, pss_cons (ps_fld (pv 0) (pv 1) rfl) (pss_cons (ps_fld (pv 0) (pv 2) rfl) (pss_cons (ps_fld (pv 0) (pv 3) rfl) (pss_cons (ps_fld (pv 0) (pv 4) rfl)
      (pss_cons (ps_fld (pv 0) pe_int rfl) (pss_cons (ps_fld (pv 0) pe_int rfl) (pss_one (ps_fld (pv 0) (pe_lst pa_nil) rfl))))))), ?_⟩
    refine ⟨_, rfl, _, rfl, p, C, dx, [], rfl, hp, T.cl, T.na, by decide, ?_⟩
    refine ⟨_, rfl, _, rfl, p, C, dx, _, rfl, upd_same, T.cl, T.nb, Nat.lt_of_lt_of_le (put_len (n := 1) (by decide)) (by decide), ?_⟩
    refine ⟨_, rfl, _, rfl, p, C, dx, _, rfl, upd_same, T.cl, T.nm, Nat.lt_of_lt_of_le (put_len (n := 2) (put_len (n := 1) (by decide))) (by decide), ?_⟩
    refine ⟨_, rfl, _, rfl, p, C, dx, _, rfl, upd_same, T.cl, T.nn, Nat.lt_of_lt_of_le (put_len (n := 3) (put_len (n := 2) (put_len (n := 1) (by decide)))) (by decide), ?_⟩
    refine ⟨_, rfl, p, C, dx, _, rfl, upd_same, T.cl, T.nz, Nat.lt_of_lt_of_le (put_len (n := 4) (put_len (n := 3) (put_len (n := 2) (put_len (n := 1) (by decide))))) (by decide), ?_⟩
    refine ⟨_, rfl, p, C, dx, _, rfl, upd_same, T.cl, T.no, Nat.lt_of_lt_of_le (put_len (n := 5) (put_len (n := 4) (put_len (n := 3) (put_len (n := 2) (put_len (n := 1) (by decide)))))) (by decide), ?_⟩
    refine ⟨by decide, fun w hw => ?_⟩
    have hwp : p ≠ w := ne_of_none upd_same hw
    refine ⟨_, rfl, p, C, dx, _, rfl, (upd_ne hwp).trans upd_same, T.cl, T.nw, Nat.lt_of_lt_of_le (put_len (n := 6) (put_len (n := 5) (put_len (n := 4) (put_len (n := 3) (put_len (n := 2) (put_len (n := 1) (by decide))))))) (by decide), ?_⟩
    have hw0 : H w = none := by
      rw [upd_ne hwp.symm, upd_ne hwp.symm, upd_ne hwp.symm, upd_ne hwp.symm, upd_ne hwp.symm, upd_ne hwp.symm] at hw
      exact hw
    refine k _ w ⟨⟨dx, upd_same.trans (congrArg (fun q => some (HO.ins C dx q)) (vF_new a b m n w))⟩, ?_⟩ hw0 fun c o e hc => ?_
    · rw [upd_ne hwp.symm]
      exact upd_same
    · have hcw : c ≠ w := ne_of_none e hw0
      rw [upd_ne hc, upd_ne hcw, upd_ne hc, upd_ne hc, upd_ne hc, upd_ne hc, upd_ne hc, upd_ne hc]
      exact e
def spLInit (CL : Addr) : Sp := fun vs H Q _ => ∃ (p dx : Addr), vs = [.ref p] ∧ H p = some (.ins CL dx []) ∧
  ∀ (H' : Hp), H' p = some (.ins CL dx (lF none)) → (∀ b o, H b = some o → b ≠ p → H' b = some o) → Q .non H'
theorem scLInit : FnScope ["self"] ["self"] (defScope sLInit) := ⟨rfl, rfl, rfl, by decide +kernel, rfl, by decide +kernel, by decide +kernel⟩
theorem ok_linit {f : Addr} {fd : FuncData} (F : Fun K "__init__" "Line.__init__" sLInit f fd) (T : TL K CL) : FnOk P w K mg base CX0 1 f fd ["self"] (spLInit CL) := by
  refine F.ok scLInit (fun vs H Q E h => ?_) (fun cdv A outer s H vs Q E hr h => ?_)
  · obtain ⟨p, dx, rfl, _⟩ := h
    rfl
  · obtain ⟨p, dx, rfl, hp, k⟩ := h
    refine ⟨_, pss_one (ps_fld (pv 0) pe_non rfl), ?_⟩
    refine ⟨_, rfl, p, CL, dx, [], rfl, hp, T.cl, T.nv, by decide, ?_⟩
    exact k _ upd_same fun c o e hc => by
      rw [upd_ne hc]
      exact e
/-! ### begin -/
/-- the frame: all but the line and its vernier stands -/
def Rest (H H' : Hp) (l v w : Addr) : Prop := ∀ b o, H b = some o → b ≠ l → b ≠ v → b ≠ w → H' b = some o
def isB (x : Nat) : Bool := decide (1 ≤ x) && decide (x ≤ 60)
def spBegin (K : PySem.W.Frag) (CL C : Addr) : Sp := fun vs H Q _ => ∃ (l v w h : Addr) (o : Option State) (a b m n : Nat), vs = [.ref l, .ref h] ∧ LAt CL C H l v w o ∧ SqL K H h [nV a, nV b, nV m, nV n] ∧
  ∀ (H' : Hp) (p v' w' : Addr), LAt CL C H' l v' w' (Mu54.step o (.begin_ a b m n)).1 → (v' = v ∧ w' = w ∨ H v' = none ∧ H w' = none) → Rest H H' l v w → H p = none → H' p = some (.lst ((Mu54.step o (.begin_ a b m n)).2.map V.int)) → Q (.ref p) H'
theorem scBegin : FnScope ["line", "handed", "number"] ["line", "handed"] (defScope sBegin) := ⟨rfl, rfl, rfl, by decide +kernel, rfl, by decide +kernel, by decide +kernel⟩
theorem begin_step (o : Mu54.Abs) (a b m n : Nat) : Mu54.step o (.begin_ a b m n) = if (Mu54.isFar a && (Mu54.isFar b && (Mu54.isFar m && Mu54.isFar n))) = false then (o, [-1]) else (some ⟨⟨a, b, m, n, [], 0⟩, 0⟩, [0]) := by cases o <;> rfl
theorem ok_begin {f fI : Addr} {fd fdI : FuncData} (F : Fun K "begin" "begin" sBegin f fd) (T : TL K CL) (TV_ : TV K C) (hna : ∃ t, mg "NOT_ALLOWED" = some (.int (-1) t)) (hmo : ∃ t, mg "MOST" = some (.int 60 t))
    (M : Mk K C fI) (gC : mg "Vernier" = some (.ref C)) (GI : FnOk P w K mg base CX0 1 fI fdI ["self", "a", "b", "m", "n"] (spVInit C)) (bI : Binds K fdI ["self", "a", "b", "m", "n"] []) : FnOk P w K mg base CX0 3 f fd ["line", "handed"] (spBegin K CL C) := by
  refine F.ok scBegin (fun vs H Q E h => ?_) (fun cdv A outer s H vs Q E hr h => ?_)
  · obtain ⟨l, v, w, h, o, a, b, m, n, rfl, _⟩ := h
    rfl
  · obtain ⟨l, v, w, h, o, a, b, m, n, rfl, L, S, k⟩ := h
    refine ⟨_, pss_cons (ps_for PassesOwn.never rfl (pi_list (pv 1)) (pg_name (i := 2) scBegin.nd rfl (Or.inl rfl))
        (pss_one (ps_if (PW.pt (pw_or (pt_cmpR op_lt (pv 2) pe_int (nomark _)) (pw_or1 (pt_cmpR op_gt (pv 2) (pe_gi hmo rfl) (nomark _))))) (pss_one (ps_ret (pe_lst (pa_cons (pe_gi hna rfl) pa_nil)))) pss_nil)))
      (pss_cons (ps_fld (pv 0) (pe_make M GI hr rfl gC bI .nil pass0 (pa_cons (pe_ix ix_list (pv 1) pe_int (fun _ _ => rfl)) (pa_cons (pe_ix ix_list (pv 1) pe_int (fun _ _ => rfl)) (pa_cons (pe_ix ix_list (pv 1) pe_int (fun _ _ => rfl)) (pa_cons (pe_ix ix_list (pv 1) pe_int (fun _ _ => rfl)) pa_nil))))) rfl)
      (pss_one (ps_ret (pe_lst (pa_cons pe_int pa_nil))))), ?_⟩
    obtain ⟨dl, hl⟩ := L.lin
    have done : ∀ p (H0 : Hp), H0 p = none → H0 = H → Mu54.step o (.begin_ a b m n) = (o, [-1]) → Q (.ref p) (upd H0 p (.lst [.int (-1)])) := fun p H0 hp e0 e => by
      subst e0
      have s1 := same_upd (o := HO.lst [.int (-1)]) hp
      refine k _ p v w ?_ (.inl ⟨rfl, rfl⟩) (fun c ob hc _ _ _ => s1 c ob hc) hp ?_
      · rw [e]
        exact ⟨⟨dl, s1 _ _ hl⟩, fun s hs => (L.ver s hs).keep s1⟩
      · rw [e]
        exact upd_same
    have refuse : ∀ y ∈ [a, b, m, n], Mu54.isFar y = false → Mu54.step o (.begin_ a b m n) = (o, [-1]) := fun y hy hf => by
      rw [begin_step, if_pos]
      simp only [List.mem_cons, List.not_mem_nil, or_false] at hy
      rcases hy with rfl | rfl | rfl | rfl <;> simp [hf]
    refine ⟨_, rfl, h, rfl, ⟨_, S⟩, for_list (K := K) (a := h) (xs := [nV a, nV b, nV m, nV n]) (fun i σ H' => H' = H ∧ (∃ z : Option V, σ = [some (.ref l), some (.ref h), z]) ∧ ∀ j x, j < i → ([a, b, m, n] : List Nat)[j]? = some x → Mu54.isFar x = true)
      ⟨rfl, ⟨none, rfl⟩, fun j x hj => by omega⟩ (fun i σ H' _ e => by rw [e.1]; exact S) ?_ ?_⟩
    · rintro i y σ H' hi ⟨rfl, ⟨z, rfl⟩, all⟩
      obtain ⟨y, hy, rfl⟩ : ∃ x, ([a, b, m, n] : List Nat)[i]? = some x ∧ y = nV x := by
        have e : ([nV a, nV b, nV m, nV n] : List V) = [a, b, m, n].map nV := rfl
        rw [e, List.getElem?_map] at hi
        obtain ⟨x, hx, rfl⟩ := Option.map_eq_some_iff.mp hi
        exact ⟨x, hx, rfl⟩
      have mem : y ∈ [a, b, m, n] := List.mem_of_getElem? hy
      refine ⟨_, rfl, _, _, rfl, rfl, _, rfl, ?_⟩
      by_cases c1 : (y : Int) < 1
      · refine if_true_of (decide_eq_true c1) ?_
        refine if_true_of rfl ⟨by decide, fun p hp => done p _ hp rfl (refuse y mem ?_)⟩
        have : ¬ Mu54.isFar y = true := fun q => by
          have := far_iff.mp q
          omega
        simpa using this
      · refine if_false_of (decide_eq_false c1) ?_
        refine ⟨_, rfl, _, _, rfl, rfl, _, rfl, ?_⟩
        by_cases c2 : (60 : Int) < (y : Int)
        · refine if_true_of (decide_eq_true c2) ⟨by decide, fun p hp => done p _ hp rfl (refuse y mem ?_)⟩
          have : ¬ Mu54.isFar y = true := fun q => by
            have := far_iff.mp q
            omega
          simpa using this
        · refine if_false_of (decide_eq_false c2) ⟨rfl, ⟨_, rfl⟩, fun j x hj hx => ?_⟩
          by_cases e : j = i
          · subst e
            rw [hx] at hy
            cases hy
            exact far_iff.mpr ⟨by omega, by omega⟩
          · exact all j x (by omega) hx
    · rintro σ H' ⟨rfl, ⟨z, rfl⟩, all⟩
      have fa := all 0 a (show 0 < 4 by decide) rfl
      have fb := all 1 b (show 1 < 4 by decide) rfl
      have fm := all 2 m (show 2 < 4 by decide) rfl
      have fn := all 3 n (show 3 < 4 by decide) rfl
      have e : Mu54.step o (.begin_ a b m n) = (some ⟨⟨a, b, m, n, [], 0⟩, 0⟩, [0]) := by
        rw [begin_step, if_neg]
        simp [fa, fb, fm, fn]
      refine ⟨_, rfl, h, _, _, _, rfl, rfl, S, atI_nat (j := 0) rfl, _, rfl, h, _, _, _, rfl, rfl, S, atI_nat (j := 1) rfl, _, rfl, h, _, _, _, rfl, rfl, S, atI_nat (j := 2) rfl, _, rfl, h, _, _, _, rfl, rfl, S, atI_nat (j := 3) rfl, ?_⟩
      intro x dx nx nd ne
      refine ⟨x, dx, a, b, m, n, rfl, upd_same, fun H1 w1 V1 hw1 kp => ⟨rfl, ?_⟩⟩
      have s1 : Same H' H1 := Same.made nx nd kp
      have hw0 : H' w1 = none := by
        have z1 : w1 ≠ x := (ne_of_none upd_same hw1).symm
        have z2 : w1 ≠ dx := by
          intro q
          subst q
          rw [upd_ne z1, upd_same] at hw1
          cases hw1
        rw [upd_ne z1, upd_ne z2] at hw1
        exact hw1
      have hl1 := s1 _ _ hl
      have nlx : x ≠ l := (ne_of_none hl nx).symm
      have nlw : w1 ≠ l := (ne_of_none hl hw0).symm
      refine ⟨_, rfl, l, CL, dl, _, rfl, hl1, T.cl, T.nv, (show 1 < 1000 by decide), ?_⟩
      refine ⟨by decide, fun p hp => ?_⟩
      have hpl : p ≠ l := (ne_of_none upd_same hp).symm
      have hp1 : H1 p = none := by
        rw [upd_ne hpl] at hp
        exact hp
      obtain ⟨dv, hv1⟩ := V1.ins
      have nxp : x ≠ p := ne_of_none hv1 hp1
      have nwp : w1 ≠ p := ne_of_none V1.lst hp1
      refine k _ p x w1 ?_ (.inr ⟨nx, hw0⟩) ?_ (s1.free hp1) ?_
      · rw [e]
        refine ⟨⟨dl, ?_⟩, fun s hs => ?_⟩
        · rw [upd_ne hpl.symm, upd_same, lF_put]
          rfl
        · have hs : (⟨⟨a, b, m, n, [], 0⟩, 0⟩ : State) = s := Option.some.inj hs
          subst hs
          exact ⟨⟨dv, by rw [upd_ne nxp, upd_ne nlx]; exact hv1⟩, by rw [upd_ne nwp, upd_ne nlw]; exact V1.lst⟩
      · intro c ob hc hcl _ _
        have := s1 c ob hc
        rw [upd_ne (ne_of_none this hp1), upd_ne hcl]
        exact this
      · rw [e]
        exact upd_same
end
end Vn
namespace Vn
open PySem PySem.Spec PyProof.Rows L2
open Mu54 (Vernier State)
abbrev sFine : Stmt := top 24
abbrev sMeets : Stmt := top 25
abbrev sOut : Stmt := top 26
abbrev sNearest : Stmt := top 27
abbrev sSlides : Stmt := top 28
abbrev sStep : Stmt := top 29
/-- the promise of what answers the call k, where there is a vernier -/
def spK (K : PySem.W.Frag) (C : Addr) (c : Int) : Sp := fun vs H Q _ => ∃ (a w h : Addr) (s : State) (hs : List Int), vs = [.ref a, .ref h] ∧ VAt C H a w s ∧ Good 100 s ∧ SqL K H h (hs.map V.int) ∧ Mu54Neutral.asked1 (c :: hs) = true ∧
  ∀ (H' : Hp) (p : Addr) (s' : State), (Mu54Neutral.step (some s) (c :: hs)).1 = some s' → VAt C H' a w s' → (∀ b ob, H b = some ob → b ≠ a → b ≠ w → H' b = some ob) → H p = none → H' p = some (.lst ((Mu54Neutral.step (some s) (c :: hs)).2.map V.int)) → Q (.ref p) H'
/-- where nothing changes -/
theorem query {C a w : Addr} {H : Hp} {Q : VK} {s : State} {r : Mu54Neutral.S × List Int} {ans : List Int} (hv : VAt C H a w s)
    (k : ∀ (H' : Hp) (p : Addr) (s' : State), r.1 = some s' → VAt C H' a w s' → (∀ b ob, H b = some ob → b ≠ a → b ≠ w → H' b = some ob) → H p = none → H' p = some (.lst (r.2.map V.int)) → Q (.ref p) H')
    (e : r = (some s, ans)) (xs : List V) (ex : xs = ans.map V.int) (H' : Hp) (p : Addr) (s1 : Same H H') (hp : H p = none) (h : H' p = some (.lst xs)) : Q (.ref p) H' := by
  subst e ex
  exact k H' p s rfl (hv.keep s1) (fun b ob hb _ _ => s1 b ob hb) hp h
theorem line1 : 1 ≤ sizeLine := by decide
theorem line3 : 3 ≤ sizeLine := by decide
section
variable {P : Program} {w : World} {K : PySem.W.Frag} {mg : Str → Option Value} {base : Heap} {C : Addr}
theorem len_vs {c : Int} (vs : List V) (H : Hp) (Q : VK) (E : XK) (h : spK K C c vs H Q E) : vs.length = (["vernier", "handed"] : List Str).length := by
  obtain ⟨a, w, h, s, hs, rfl, _⟩ := h
  rfl
/-! ### counted -/
def spCounted : Sp := fun vs H Q _ => ∃ (a : Addr) (xs : List V), vs = [.ref a] ∧ H a = some (.lst xs) ∧ xs.length ≤ 999 ∧
  ∀ (H' : Hp) (p : Addr), Same H H' → H p = none → H' p = some (.lst (nV xs.length :: xs)) → Q (.ref p) H'
theorem scCounted : FnScope ["found"] ["found"] (defScope sCounted) := ⟨rfl, rfl, rfl, by decide +kernel, rfl, by decide +kernel, by decide +kernel⟩
theorem ok_counted {f : Addr} {fd : FuncData} (F : Fun K "counted" "counted" sCounted f fd) (hlen : mg "len" = none) : FnOk P w K mg base CX0 1 f fd ["found"] spCounted := by
  refine F.ok scCounted (fun vs H Q E h => ?_) (fun cdv A outer s H vs Q E hr h => ?_)
  · obtain ⟨a, xs, rfl, _⟩ := h
    rfl
  · obtain ⟨a, xs, rfl, h1, hl, k⟩ := h
    refine ⟨_, pss_one (ps_ret (pe_op op_cat (pe_lst (pa_cons (pe_callB call_len_seq (by rfl) hlen PySem.boot_len (pa_cons (pv 0) pa_nil)) pa_nil)) (pv 0))), ?_⟩
    refine ⟨_, rfl, a, _, rfl, .inl (SqL.of h1), line1, fun p1 hp1 => ?_⟩
    have nap : a ≠ p1 := ne_of_none h1 hp1
    refine ⟨_, rfl, p1, a, _, _, rfl, rfl, upd_same, (upd_ne nap).trans h1, Nat.le_of_lt (small_line (by simp only [List.length_cons, List.length_nil]; omega)), fun p hp => ?_⟩
    have s1 := same_upd (o := .lst [.int xs.length]) hp1
    exact k _ p (s1.trans (same_upd hp)) (s1.free hp) upd_same
/-! ### fine -/
theorem scFine : FnScope ["vernier", "handed", "turns", "enough"] ["vernier", "handed"] (defScope sFine) := ⟨rfl, rfl, rfl, by decide +kernel, rfl, by decide +kernel, by decide +kernel⟩
theorem ok_fine {f : Addr} {fd : FuncData} (F : Fun K "fine" "fine" sFine f fd) (T : TV K C) (cF : Cal P w K mg base 1 "fineness" spFin) (cT : Cal P w K mg base 2 "turns_needed" spTurns) (cH : Cal P w K mg base 1 "has_marks_for" (spHas C)) : FnOk P w K mg base CX0 3 f fd ["vernier", "handed"] (spK K C 1) := by
  refine F.ok scFine len_vs (fun cdv A outer s H vs Q E hr h => ?_)
  obtain ⟨a, w, h, s, hs, rfl, V, G, S, q, k⟩ := h
  have e0 := asked_1 q
  subst e0
  obtain ⟨dx, hi⟩ := V.ins
  refine ⟨_, pss_cons (ps_set (i := 2) scFine.nd rfl (Or.inl rfl) (pe_c cT hr (by decide) rfl (pa_cons (pe_fld (pv 0) rfl) (pa_cons (pe_fld (pv 0) rfl) pa_nil))))
    (pss_cons (ps_set (i := 3) scFine.nd rfl (Or.inl rfl) (pe_ifExp (pt_val (pe_c cH hr (by decide) rfl (pa_cons (pv 0) (pa_cons (pv 2) pa_nil)))) pe_int pe_int))
    (pss_one (ps_ret (pe_lst (pa_cons (pe_c cF hr (by decide) rfl (pa_cons (pe_fld (pv 0) rfl) (pa_cons (pe_fld (pv 0) rfl) pa_nil))) (pa_cons (pv 2) (pa_cons (pv 3) pa_nil))))))), ?_⟩
  have a1 := G.ok.a1
  have a2 := G.ok.a2
  refine ⟨_, rfl, a, C, dx, _, _, rfl, hi, T.cl, T.na, vF_a, _, rfl, a, C, dx, _, _, rfl, hi, T.cl, T.nb, vF_b, s.vernier.wide, s.vernier.close, rfl, a1, by omega, ?_⟩
  refine ⟨_, rfl, _, rfl, a, w, s, _, rfl, V, _, rfl, ?_⟩
  have last : ∀ z : Nat, (z = if Mu54.turns s.vernier ≤ s.vernier.marks + 1 then 1 else 0) → ∀ p, H p = none → Q (.ref p) (upd H p (.lst [nV (Nat.gcd s.vernier.wide s.vernier.close), nV (s.vernier.wide / Nat.gcd s.vernier.wide s.vernier.close), nV z])) := fun z hz p hp =>
    query (ans := [((Mu54.fine s.vernier : Nat) : Int), ((Mu54.turns s.vernier : Nat) : Int), (((if Mu54.turns s.vernier ≤ s.vernier.marks + 1 then 1 else 0) : Nat) : Int)]) V k rfl _ (by rw [hz]; rfl) _ p (same_upd hp) hp upd_same
  by_cases c : s.vernier.wide / Nat.gcd s.vernier.wide s.vernier.close ≤ s.vernier.marks + 1
  · refine if_true_of (decide_eq_true c) ?_
    exact ⟨_, rfl, a, C, dx, _, _, rfl, hi, T.cl, T.na, vF_a, _, rfl, a, C, dx, _, _, rfl, hi, T.cl, T.nb, vF_b, s.vernier.wide, s.vernier.close, rfl, _, rfl, _, rfl, line3, fun p hp => last 1 (if_pos (show Mu54.turns s.vernier ≤ s.vernier.marks + 1 from c)).symm p hp⟩
  · refine if_false_of (decide_eq_false c) ?_
    exact ⟨_, rfl, a, C, dx, _, _, rfl, hi, T.cl, T.na, vF_a, _, rfl, a, C, dx, _, _, rfl, hi, T.cl, T.nb, vF_b, s.vernier.wide, s.vernier.close, rfl, _, rfl, _, rfl, line3, fun p hp => last 0 (if_neg (show ¬ Mu54.turns s.vernier ≤ s.vernier.marks + 1 from c)).symm p hp⟩
/-! ### step -/
theorem scStep : FnScope ["vernier", "handed"] ["vernier", "handed"] (defScope sStep) := ⟨rfl, rfl, rfl, by decide +kernel, rfl, by decide +kernel, by decide +kernel⟩
theorem ok_step {f : Addr} {fd : FuncData} (F : Fun K "step" "step" sStep f fd) (T : TV K C) (cM : Cal P w K mg base 2 "marks_further" spFurther) : FnOk P w K mg base CX0 3 f fd ["vernier", "handed"] (spK K C 6) := by
  refine F.ok scStep len_vs (fun cdv A outer s H vs Q E hr h => ?_)
  obtain ⟨a, w, h, s, hs, rfl, V, G, S, q, k⟩ := h
  have e0 := asked_6 q
  subst e0
  obtain ⟨dx, hi⟩ := V.ins
  refine ⟨_, pss_one (ps_ret (pe_lst (pa_cons (pe_c cM hr (by decide) rfl (pa_cons (pe_fld (pv 0) rfl) (pa_cons (pe_fld (pv 0) rfl) pa_nil))) pa_nil))), ?_⟩
  obtain ⟨n, hn⟩ := step_some G.ok.a1 G.ok.a2 G.ok.b1 G.ok.b2
  refine ⟨_, rfl, a, C, dx, _, _, rfl, hi, T.cl, T.na, vF_a, _, rfl, a, C, dx, _, _, rfl, hi, T.cl, T.nb, vF_b, s.vernier, n, rfl, G.ok, hn, line1, fun p hp => ?_⟩
  refine query (ans := [((n : Nat) : Int)]) V k ?_ _ rfl _ p (same_upd hp) hp upd_same
  rw [step6]
  show (some s, (match Mu54.stepOf s.vernier with | none => [-6] | some k => [(k : Int)])) = _
  rw [hn]
/-! ### out -/
theorem scOut : FnScope ["vernier", "handed", "i", "j", "x"] ["vernier", "handed"] (defScope sOut) := ⟨rfl, rfl, rfl, by decide +kernel, rfl, by decide +kernel, by decide +kernel⟩
theorem ok_out {f : Addr} {fd : FuncData} (F : Fun K "out" "out" sOut f fd) (T : TV K C) (hna : ∃ t, mg "NOT_ALLOWED" = some (.int (-1) t)) (hwo : ∃ t, mg "WORN_OFF" = some (.int (-3) t)) (hnt : ∃ t, mg "NOT_THERE" = some (.int (-6) t)) : FnOk P w K mg base CX0 1 f fd ["vernier", "handed"] (spK K C 3) := by
  refine F.ok scOut len_vs (fun cdv A outer s H vs Q E hr h => ?_)
  obtain ⟨a, w, h, s, hs, rfl, V, G, S, q, k⟩ := h
  obtain ⟨i, j, e0, hi9, hj9⟩ := asked_3 q
  subst e0
  obtain ⟨dx, hi⟩ := V.ins
  refine ⟨_, pss_cons (ps_set (i := 2) scOut.nd rfl (Or.inl rfl) (pe_ix ix_list (pv 1) pe_int (fun _ _ => rfl)))
    (pss_cons (ps_set (i := 3) scOut.nd rfl (Or.inl rfl) (pe_ix ix_list (pv 1) pe_int (fun _ _ => rfl)))
    (pss_cons (ps_if (PW.pt (pw_or (pt_cmpR op_gt (pv 2) (pe_fld (pv 0) rfl) (nomark _)) (pw_or1 (pt_cmpR op_gt (pv 3) (pe_fld (pv 0) rfl) (nomark _))))) (pss_one (ps_ret (pe_lst (pa_cons (pe_gi hna rfl) pa_nil)))) pss_nil)
    (pss_cons (ps_if (pt_cmpR op_in_seq (pv 3) (pe_fld (pv 0) rfl) rfl) (pss_one (ps_ret (pe_lst (pa_cons (pe_gi hwo rfl) pa_nil)))) pss_nil)
    (pss_cons (ps_set (i := 4) scOut.nd rfl (Or.inl rfl) (pe_op op_sub (pe_op op_mul (pv 2) (pe_fld (pv 0) rfl)) (pe_op op_mul (pv 3) (pe_fld (pv 0) rfl))))
    (pss_cons (ps_if (pt_cmpR op_lt (pv 4) pe_int (nomark _)) (pss_one (ps_ret (pe_lst (pa_cons (pe_gi hnt rfl) pa_nil)))) pss_nil)
    (pss_one (ps_ret (pe_lst (pa_cons (pv 4) pa_nil))))))))), ?_⟩
  have st : Mu54Neutral.step (some s) [3, (i : Int), (j : Int)] = (some s, if s.vernier.long < i ∨ s.vernier.marks < j then [-1] else if s.vernier.worn.contains j = true then [-3] else if Mu54.out s.vernier i j < 0 then [-6] else [Mu54.out s.vernier i j]) := rfl
  refine ⟨_, rfl, h, _, _, _, rfl, rfl, S, atI_nat (j := 0) rfl, _, rfl, h, _, _, _, rfl, rfl, S, atI_nat (j := 1) rfl, ?_⟩
  refine ⟨_, rfl, _, rfl, a, C, dx, _, _, rfl, hi, T.cl, T.nm, vF_m, _, _, rfl, rfl, _, rfl, ?_⟩
  have refuse : (s.vernier.long < i ∨ s.vernier.marks < j) → ∀ p, H p = none → Q (.ref p) (upd H p (.lst [.int (-1)])) := fun c p hp =>
    query (ans := [-1]) V k (st.trans (by rw [if_pos c])) _ rfl _ p (same_upd hp) hp upd_same
  by_cases c1 : (s.vernier.long : Int) < (i : Int)
  · exact if_true_of (decide_eq_true c1) (if_true_of rfl ⟨by decide, fun p hp => refuse (.inl (by omega)) p hp⟩)
  · refine if_false_of (decide_eq_false c1) ?_
    refine ⟨_, rfl, _, rfl, a, C, dx, _, _, rfl, hi, T.cl, T.nn, vF_n, _, _, rfl, rfl, _, rfl, ?_⟩
    by_cases c2 : (s.vernier.marks : Int) < (j : Int)
    · exact if_true_of (decide_eq_true c2) ⟨by decide, fun p hp => refuse (.inr (by omega)) p hp⟩
    · refine if_false_of (decide_eq_false c2) ?_
      have c0 : ¬ (s.vernier.long < i ∨ s.vernier.marks < j) := by omega
      rw [if_neg c0] at st
      refine ⟨_, rfl, _, rfl, a, C, dx, _, _, rfl, hi, T.cl, T.nw, vF_worn, w, _, rfl, .inl (SqL.of V.lst), rfl, flat_nats _, _, rfl, ?_⟩
      show if inV (nV j) (s.vernier.worn.map nV) = true then _ else _
      rw [inV_nats]
      by_cases c3 : s.vernier.worn.contains j = true
      · rw [if_pos c3] at st
        exact if_true_of c3 ⟨by decide, fun p hp => query (ans := [-3]) V k st _ rfl _ p (same_upd hp) hp upd_same⟩
      · rw [if_neg c3] at st
        refine if_false_of (by simpa using c3) ?_
        have a2 := G.ok.a2
        have b2 := G.ok.b2
        refine ⟨_, rfl, _, rfl, a, C, dx, _, _, rfl, hi, T.cl, T.na, vF_a, _, _, rfl, rfl, .inr ⟨by omega, by omega⟩, _, rfl, _, rfl, a, C, dx, _, _, rfl, hi, T.cl, T.nb, vF_b, _, _, rfl, rfl, .inr ⟨by omega, by omega⟩, _, _, rfl, rfl, ?_⟩
        refine ⟨_, rfl, _, _, rfl, rfl, _, rfl, ?_⟩
        show if decide (Mu54.out s.vernier i j < 0) = true then _ else _
        by_cases c4 : Mu54.out s.vernier i j < 0
        · rw [if_pos c4] at st
          exact if_true_of (decide_eq_true c4) ⟨by decide, fun p hp => query (ans := [-6]) V k st _ rfl _ p (same_upd hp) hp upd_same⟩
        · rw [if_neg c4] at st
          refine if_false_of (decide_eq_false c4) ?_
          exact ⟨_, rfl, line1, fun p hp => query (ans := [Mu54.out s.vernier i j]) V k st _ rfl _ p (same_upd hp) hp upd_same⟩
end
end Vn
namespace Vn
open PySem PySem.Spec PyProof.Rows L2
open Mu54 (Vernier State)
theorem flat_more {α : Type} {ks : List α} {i : Nat} {k : α} (h : ks[i]? = some k) (f : α → List V) : (ks.take (i + 1)).flatMap f = (ks.take i).flatMap f ++ f k := by
  rw [List.take_add_one, h, List.flatMap_append]
  show _ ++ ([k].flatMap f) = _
  rw [List.flatMap_cons, List.flatMap_nil, List.append_nil]
theorem nums_map (l : List Nat) : (Mu54.nums l).map V.int = l.map nV := by
  unfold Mu54.nums
  rw [List.map_map]
  rfl
theorem flat_len {α β : Type} (f : α → List β) (n : Nat) : ∀ l : List α, (∀ x ∈ l, (f x).length ≤ n) → (l.flatMap f).length ≤ n * l.length
  | [], _ => by simp
  | x :: l, h => by
    have h1 := h x List.mem_cons_self
    have h2 := flat_len f n l fun y hy => h y (List.mem_cons_of_mem _ hy)
    rw [List.flatMap_cons, List.length_append, List.length_cons]
    have : n * (l.length + 1) = n * l.length + n := by rw [Nat.mul_succ]
    omega
def pairV (v : Vernier) (x j : Nat) : List V := [nV ((x + j * v.close) / v.wide), nV j]
theorem meets_answer {v : Vernier} (hw : 0 < v.wide) (x : Nat) : (Mu54.nums ((Mu54.meets v x).length :: (Mu54.meets v x).flatMap fun p => [p.1, p.2])).map V.int = nV (meeting v x).length :: (meeting v x).flatMap (pairV v x) := by
  rw [nums_map, meets_eq hw, List.length_map, List.map_cons, List.map_flatMap, List.flatMap_map]
  rfl
section
variable {P : Program} {w : World} {K : PySem.W.Frag} {mg : Str → Option Value} {base : Heap} {C : Addr}
/-! ### meets -/
theorem scMeets : FnScope ["vernier", "handed", "x", "marks", "answer", "j"] ["vernier", "handed"] (defScope sMeets) := ⟨rfl, rfl, rfl, by decide +kernel, rfl, by decide +kernel, by decide +kernel⟩
theorem ok_meets {f : Addr} {fd : FuncData} (F : Fun K "meets" "meets" sMeets f fd) (T : TV K C) (hlen : mg "len" = none) (hna : ∃ t, mg "NOT_ALLOWED" = some (.int (-1) t)) (cL : Cal P w K mg base 1 "scale_length" (spLength C)) (cM : Cal P w K mg base 3 "meeting_marks" (spMeeting C)) (cP : Cal P w K mg base 1 "place_of" (spPlace C)) : FnOk P w K mg base CX0 4 f fd ["vernier", "handed"] (spK K C 2) := by
  refine F.ok scMeets len_vs (fun cdv A outer s H vs Q E hr h => ?_)
  obtain ⟨a, w, h, s, hs, rfl, V, G, S, q, k⟩ := h
  obtain ⟨x, e0, hx⟩ := asked_2 q
  subst e0
  refine ⟨_, pss_cons (ps_set (i := 2) scMeets.nd rfl (Or.inl rfl) (pe_ix ix_list (pv 1) pe_int (fun _ _ => rfl)))
    (pss_cons (ps_if (pt_cmpR op_gt (pv 2) (pe_c cL hr (by decide) rfl (pa_cons (pv 0) pa_nil)) (nomark _)) (pss_one (ps_ret (pe_lst (pa_cons (pe_gi hna rfl) pa_nil)))) pss_nil)
    (pss_cons (ps_set (i := 3) scMeets.nd rfl (Or.inl rfl) (pe_c cM hr (by decide) rfl (pa_cons (pv 0) (pa_cons (pv 2) pa_nil))))
    (pss_cons (ps_set (i := 4) scMeets.nd rfl (Or.inl rfl) (pe_lst (pa_cons (pe_callB call_len_seq (by rfl) hlen PySem.boot_len (pa_cons (pv 3) pa_nil)) pa_nil)))
    (pss_cons (ps_for PassesOwn.never rfl (pi_list (pv 3)) (pg_name (i := 5) scMeets.nd rfl (Or.inl rfl))
      (pss_cons (ps_expr (pe_bm PySem.F.plainAttrs_list PySem.F.slot_list_append PySem.F.type_list_append mt_append (pv 4) (pa_cons (pe_op op_fdiv (pe_c cP hr (by decide) rfl (pa_cons (pv 0) (pa_cons (pv 2) (pa_cons (pv 5) pa_nil)))) (pe_fld (pv 0) rfl)) pa_nil)))
      (pss_one (ps_expr (pe_bm PySem.F.plainAttrs_list PySem.F.slot_list_append PySem.F.type_list_append mt_append (pv 4) (pa_cons (pv 5) pa_nil))))))
    (pss_one (ps_ret (pv 4))))))), ?_⟩
  have a1 := G.ok.a1
  have a2 := G.ok.a2
  have n2 := G.ok.n2
  have st : Mu54Neutral.step (some s) [2, (x : Int)] = (some s, if Mu54.length_ s.vernier < x then [-1] else Mu54.nums ((Mu54.meets s.vernier x).length :: (Mu54.meets s.vernier x).flatMap fun p => [p.1, p.2])) := rfl
  refine ⟨_, rfl, h, _, _, _, rfl, rfl, S, atI_nat (j := 0) rfl, ?_⟩
  refine ⟨_, rfl, _, rfl, a, w, s, rfl, V, G.ok, _, _, rfl, rfl, _, rfl, ?_⟩
  have el : Mu54.length_ s.vernier = s.vernier.wide * s.vernier.long := Nat.mul_comm _ _
  by_cases c : ((s.vernier.wide * s.vernier.long : Nat) : Int) < (x : Int)
  · refine if_true_of (decide_eq_true c) ⟨line1, fun p hp => query (ans := [-1]) V k (st.trans (by rw [if_pos (by rw [el]; omega)])) _ rfl _ p (same_upd hp) hp upd_same⟩
  · refine if_false_of (decide_eq_false c) ?_
    rw [if_neg (by rw [el]; omega)] at st
    refine ⟨_, rfl, _, rfl, a, w, s, x, rfl, V, G.ok, fun H1 m s1 hm h1 => ?_⟩
    have lm := len_meeting s.vernier x
    refine ⟨_, rfl, m, _, rfl, .inl (SqL.of h1), line1, fun p hp => ?_⟩
    have nmp : m ≠ p := ne_of_none h1 hp
    have hp0 : H p = none := s1.free hp
    refine ⟨_, rfl, m, rfl, ⟨_, SqL.of ((upd_ne nmp).trans h1)⟩, ?_⟩
    refine for_list (K := K) (a := m) (xs := (meeting s.vernier x).map nV) (fun i σ H' => (∃ z : Option L2.V, σ = [some (.ref a), some (.ref h), some (nV x), some (.ref m), some (.ref p), z]) ∧ Same H H' ∧ H' m = some (.lst ((meeting s.vernier x).map nV)) ∧ H' p = some (.lst (nV (meeting s.vernier x).length :: ((meeting s.vernier x).take i).flatMap (pairV s.vernier x))))
      ⟨⟨none, rfl⟩, s1.trans (same_upd hp), (upd_ne nmp).trans h1, ?_⟩ (fun i σ H' _ e => SqL.of e.2.2.1) ?_ ?_
    · rw [upd_same, List.length_map]
      rfl
    · rintro i y σ H' hy ⟨⟨z, rfl⟩, s2, hm2, hp2⟩
      rw [List.getElem?_map] at hy
      obtain ⟨j, hj, rfl⟩ := Option.map_eq_some_iff.mp hy
      have V2 := V.keep s2
      obtain ⟨dx, hi⟩ := V2.ins
      have fl : (((meeting s.vernier x).take i).flatMap (pairV s.vernier x)).length ≤ 2 * ((meeting s.vernier x).take i).length := flat_len _ 2 _ fun _ _ => Nat.le_refl 2
      have tl := List.length_take_le i (meeting s.vernier x)
      rw [List.length_take] at fl
      refine ⟨_, rfl, .inl ⟨rfl, _, SqL.of hp2⟩, _, rfl, _, rfl, _, rfl, a, w, s, x, j, rfl, V2, G.ok, _, rfl, a, C, dx, _, _, rfl, hi, T.cl, T.na, vF_a, _, _, rfl, rfl, ⟨by omega, by omega⟩, ?_⟩
      refine ⟨p, _, _, rfl, rfl, hp2, small_line (by rw [List.length_cons]; omega), ?_⟩
      refine ⟨_, rfl, .inl ⟨rfl, _, SqL.of upd_same⟩, _, rfl, p, _, _, rfl, rfl, upd_same, small_line (by rw [List.length_append, List.length_cons]; simp only [List.length_cons, List.length_nil]; omega), ?_⟩
      refine ⟨⟨_, rfl⟩, ?_, ?_, ?_⟩
      · intro b o hb
        have hbp : b ≠ p := ne_of_none hb hp0
        rw [upd_ne hbp, upd_ne hbp]
        exact s2 b o hb
      · rw [upd_ne nmp, upd_ne nmp]
        exact hm2
      · rw [upd_same, flat_more hj, List.append_assoc]
        rfl
    · rintro σ H' ⟨⟨z, rfl⟩, s2, hm2, hp2⟩
      rw [List.length_map, List.take_length] at hp2
      exact ⟨_, rfl, query V k st _ (meets_answer (by omega) x).symm H' p s2 hp0 hp2⟩
/-! ### slides -/
theorem scSlides : FnScope ["vernier", "handed", "wanted", "b"] ["vernier", "handed"] (defScope sSlides) := ⟨rfl, rfl, rfl, by decide +kernel, rfl, by decide +kernel, by decide +kernel⟩
theorem ok_slides {f : Addr} {fd : FuncData} (F : Fun K "slides" "slides" sSlides f fd) (T : TV K C) (hrange : mg "range" = none) (hna : ∃ t, mg "NOT_ALLOWED" = some (.int (-1) t)) (cF : Cal P w K mg base 3 "fits" (spFits C)) (cC : Cal P w K mg base 1 "counted" spCounted) : FnOk P w K mg base CX0 4 f fd ["vernier", "handed"] (spK K C 5) := by
  refine F.ok scSlides len_vs (fun cdv A outer s H vs Q E hr h => ?_)
  obtain ⟨a, w, h, s, hs, rfl, V, G, S, q, k⟩ := h
  obtain ⟨g, e0, hg⟩ := asked_5 q
  subst e0
  obtain ⟨dx, hi⟩ := V.ins
  refine ⟨_, pss_cons (ps_set (i := 2) scSlides.nd rfl (Or.inr rfl) (pe_ix ix_list (pv 1) pe_int (fun _ _ => rfl)))
    (pss_cons (ps_if (pt_cmpR op_eq (pv 2) pe_int (nomark _)) (pss_one (ps_ret (pe_lst (pa_cons (pe_gi hna rfl) pa_nil)))) pss_nil)
    (pss_one (ps_ret (pe_c cC hr (by decide) rfl (pa_cons (pe_lc (own := [("b", 3)]) (g := gName 3) rfl scSlides.nd
        (pi_range2 rfl hrange (pa_cons pe_int (pa_cons (pe_op op_mul pe_int (pe_fld (pv 0) rfl)) pa_nil)))
        (blkOk_by (N := ["vernier", "handed", "wanted", "b"]) (sc := defScope sSlides) (by decide +kernel))
        (fun _ _ _ _ _ => by exact pg_name (i := 3) scSlides.nd rfl (Or.inl rfl))
        (fun _ _ _ _ _ => by exact pts_one (pt_val (pe_c cF hr (by decide) rfl (pa_cons (pv 0) (pa_cons (pv 3) (pa_cons (pv 2) pa_nil))))))
        (fun _ _ _ _ _ => by exact pv 3)) pa_nil))))), ?_⟩
  have a1 := G.ok.a1
  have a2 := G.ok.a2
  have st : Mu54Neutral.step (some s) [5, (g : Int)] = (some s, if g = 0 then [-1] else Mu54.nums ((Mu54.slides s.vernier g).length :: Mu54.slides s.vernier g)) := rfl
  refine ⟨_, rfl, h, _, _, _, rfl, rfl, S, atI_nat (j := 0) rfl, ?_⟩
  refine ⟨_, rfl, rfl, _, rfl, ?_⟩
  show if decide (nV g = nV 0) = true then _ else _
  rw [dec_nV]
  by_cases c : g = 0
  · rw [if_pos c] at st
    refine if_true_of (by simpa using c) ⟨line1, fun p hp => query (ans := [-1]) V k st _ rfl _ p (same_upd hp) hp upd_same⟩
  · rw [if_neg c] at st
    refine if_false_of (by simpa using c) ?_
    refine ⟨_, rfl, a, C, dx, _, _, rfl, hi, T.cl, T.na, vF_a, _, _, rfl, rfl, .inl ⟨by decide, by decide⟩, _, _, rfl, ⟨by decide, by decide, by omega, by omega⟩, fun D hD => ?_⟩
    have en : (2 * (s.vernier.wide : Int) - 1).toNat = 2 * s.vernier.wide - 1 := by omega
    rw [en]
    have el : ((List.range (2 * s.vernier.wide - 1)).filter fun i => fitsB s.vernier g (1 + i)).map (fun i => nV (1 + i)) = (Mu54.slides s.vernier g).map nV := by
      rw [slides_eq (by omega), List.filter_map, List.map_map]
      rfl
    refine lcr (fun i => fitsB s.vernier g (1 + i)) (fun i => nV (1 + i)) (small_line (by omega)) ?_ ?_
    · rintro i H2 N hi2 ⟨acc, rfl, hacc, ht, hf⟩
      have V2 := V.keep (same_upd (o := .lst acc) hD)
      refine ⟨rfl, _, rfl, _, rfl, _, rfl, a, w, s, 1 + i, g, rfl, V2, G.ok, _, rfl, ?_⟩
      by_cases c2 : fitsB s.vernier g (1 + i) = true
      · refine if_true_of c2 ⟨_, rfl, acc, upd_same, hacc, ?_⟩
        rw [upd_upd]
        exact ht c2
      · have c2 : fitsB s.vernier g (1 + i) = false := by simpa using c2
        exact if_false_of c2 (hf c2)
    · rw [el]
      have ls : (Mu54.slides s.vernier g).length ≤ 2 * s.vernier.wide := by
        have := List.length_filter_le (fun (c : Nat) => c != 0 && (Nat.gcd s.vernier.wide c == g && decide (s.vernier.wide / g ≤ s.vernier.marks + 1))) (List.range (2 * s.vernier.wide))
        rw [List.length_range] at this
        exact this
      have s1 := same_upd (o := .lst ((Mu54.slides s.vernier g).map nV)) hD
      refine ⟨D, _, rfl, upd_same, by rw [List.length_map]; omega, fun H' p s2 hp h2 => query V k st _ ?_ H' p (s1.trans s2) (s1.free hp) h2⟩
      rw [nums_map, List.length_map]
      rfl
end
end Vn
namespace Vn
open PySem PySem.Spec PyProof.Rows L2
open Mu54 (Vernier State)
section
variable {P : Program} {w : World} {K : PySem.W.Frag} {mg : Str → Option Value} {base : Heap} {C : Addr}
/-! ### nearest -/
theorem scNearest : FnScope ["vernier", "handed", "x", "marks", "j"] ["vernier", "handed"] (defScope sNearest) := ⟨rfl, rfl, rfl, by decide +kernel, rfl, by decide +kernel, by decide +kernel⟩
theorem ok_nearest {f : Addr} {fd : FuncData} (F : Fun K "nearest" "nearest" sNearest f fd) (hlen : mg "len" = none) (hmin : mg "min" = none) (hlist : mg "list" = none) (hna : ∃ t, mg "NOT_ALLOWED" = some (.int (-1) t)) (hnt : ∃ t, mg "NOT_THERE" = some (.int (-6) t))
    (cL : Cal P w K mg base 1 "scale_length" (spLength C)) (cA : Cal P w K mg base 2 "marks_along_scale" (spAlong C)) (cF : Cal P w K mg base 2 "far_off" (spFar C)) : FnOk P w K mg base CX0 3 f fd ["vernier", "handed"] (spK K C 4) := by
  refine F.ok scNearest len_vs (fun cdv A outer s H vs Q E hr h => ?_)
  obtain ⟨a, w, h, s, hs, rfl, V, G, S, q, k⟩ := h
  obtain ⟨x, e0, hx⟩ := asked_4 q
  subst e0
  have hu := hr.units
  refine ⟨_, pss_cons (ps_set (i := 2) scNearest.nd rfl (Or.inr rfl) (pe_ix ix_list (pv 1) pe_int (fun _ _ => rfl)))
    (pss_cons (ps_if (pt_cmpR op_gt (pv 2) (pe_c cL hr (by decide) rfl (pa_cons (pv 0) pa_nil)) (nomark _)) (pss_one (ps_ret (pe_lst (pa_cons (pe_gi hna rfl) pa_nil)))) pss_nil)
    (pss_cons (ps_set (i := 3) scNearest.nd rfl (Or.inl rfl) (pe_c cA hr (by decide) rfl (pa_cons (pv 0) (pa_cons (pv 2) pa_nil))))
    (pss_cons (ps_if (pt_cmpR op_eq (pe_callB call_len_seq (by rfl) hlen PySem.boot_len (pa_cons (pv 3) pa_nil)) pe_int (nomark _)) (pss_one (ps_ret (pe_lst (pa_cons (pe_gi hnt rfl) pa_nil)))) pss_nil)
    (pss_one (ps_ret (pe_callTy call_list_of (by rfl) hlist (by decide +kernel) (pa_cons (pe_callB (cr_minP rfl (by exact Nat.lt_of_le_of_lt (Nat.add_le_add_left (by decide) _) hu)) (by rfl) hmin (by decide +kernel) (pa_cons
      (pe_lc (own := [("j", 4)]) (g := gName 4) rfl scNearest.nd (pi_list (pv 3))
        (blkOk_by (N := ["vernier", "handed", "x", "marks", "j"]) (sc := defScope sNearest) (by decide +kernel))
        (fun _ _ _ _ _ => by exact pg_name (i := 4) scNearest.nd rfl (Or.inl rfl))
        (fun _ _ _ _ _ => by exact pts_nil)
        (fun _ _ _ _ _ => by exact pe_tup (pa_cons (pe_c cF hr (by decide) rfl (pa_cons (pv 0) (pa_cons (pv 2) (pa_cons (pv 4) pa_nil)))) (pa_cons (pv 4) pa_nil)))) pa_nil)) pa_nil))))))), ?_⟩
  have n2 := G.ok.n2
  have st : Mu54Neutral.step (some s) [4, (x : Int)] = (some s, if Mu54.length_ s.vernier < x then [-1] else match Mu54.nearest s.vernier x with | none => [-6] | some p => Mu54.nums [p.1, p.2]) := rfl
  refine ⟨_, rfl, h, _, _, _, rfl, rfl, S, atI_nat (j := 0) rfl, ?_⟩
  refine ⟨_, rfl, _, rfl, a, w, s, rfl, V, G.ok, _, _, rfl, rfl, _, rfl, ?_⟩
  have el : Mu54.length_ s.vernier = s.vernier.wide * s.vernier.long := Nat.mul_comm _ _
  by_cases c : ((s.vernier.wide * s.vernier.long : Nat) : Int) < (x : Int)
  · refine if_true_of (decide_eq_true c) ⟨line1, fun p hp => query (ans := [-1]) V k (st.trans (by rw [if_pos (by rw [el]; omega)])) _ rfl _ p (same_upd hp) hp upd_same⟩
  · refine if_false_of (decide_eq_false c) ?_
    rw [if_neg (by rw [el]; omega)] at st
    refine ⟨_, rfl, _, rfl, a, w, s, x, rfl, V, G.ok, fun H1 m s1 hm h1 => ?_⟩
    have lm := len_along s.vernier x
    refine ⟨_, rfl, m, _, rfl, .inl (SqL.of h1), rfl, _, rfl, ?_⟩
    show if decide (nV ((along s.vernier x).map nV).length = nV 0) = true then _ else _
    rw [dec_nV, List.length_map]
    by_cases c0 : along s.vernier x = []
    · rw [nearest_none c0] at st
      refine if_true_of (by rw [c0]; rfl) ⟨line1, fun p hp => query (ans := [-6]) V k st _ rfl _ p (s1.trans (same_upd hp)) (s1.free hp) upd_same⟩
    · refine if_false_of (by simpa using c0) ?_
      refine ⟨_, rfl, m, rfl, ⟨_, SqL.of h1⟩, fun D hD => ?_⟩
      refine lc_list (K := K) (a := m) (xs := (along s.vernier x).map nV) (fun i H' => Same H1 H' ∧ ∃ ps : List (Addr × Nat × Nat), H' D = some (.lst (ps.map fun p => .ref p.1)) ∧ (∀ p ∈ ps, H' p.1 = some (.tup [.int p.2.1, .int p.2.2])) ∧ ps.map (·.2) = ((along s.vernier x).take i).map fun j => (Mu54.off s.vernier x j, j))
        ⟨same_upd hD, [], upd_same, (fun p hp => nomatch hp), rfl⟩ (fun i H' _ e => SqL.of (e.1 _ _ h1)) ?_ ?_
      · rintro i y H' hy ⟨s2, ps, hD2, ht, ep⟩
        rw [List.getElem?_map] at hy
        obtain ⟨j, hj, rfl⟩ := Option.map_eq_some_iff.mp hy
        have V2 := V.keep (s1.trans s2)
        have hlen : ps.length ≤ (along s.vernier x).length := by
          have e := congrArg List.length ep
          rw [List.length_map, List.length_map, List.length_take] at e
          omega
        refine ⟨rfl, _, rfl, _, rfl, _, rfl, a, w, s, x, j, rfl, V2, G.ok, _, rfl, (show 2 ≤ sizeLine by decide), fun t ht0 => ?_⟩
        have nDt : D ≠ t := ne_of_none hD2 ht0
        refine ⟨_, (upd_ne nDt).trans hD2, small_line (by rw [List.length_map]; omega), ?_⟩
        refine ⟨fun b o hb => ?_, ps ++ [(t, Mu54.off s.vernier x j, j)], ?_, fun p hp => ?_, ?_⟩
        · have h2 := s2 b o hb
          rw [upd_ne (ne_of_none hb hD), upd_ne (ne_of_none h2 ht0)]
          exact h2
        · rw [upd_same, List.map_append]
          rfl
        · rcases List.mem_append.mp hp with hp | hp
          · have h2 := ht p hp
            rw [upd_ne (ne_of h2 hD2 (by intro z; cases z)), upd_ne (ne_of_none h2 ht0)]
            exact h2
          · have e : p = (t, Mu54.off s.vernier x j, j) := List.mem_singleton.mp hp
            subst e
            rw [upd_ne nDt.symm, upd_same]
            rfl
        · rw [List.map_append, ep, List.take_add_one, hj, List.map_append]
          rfl
      · rintro H' ⟨s2, ps, hD2, ht, ep⟩
        rw [List.length_map, List.take_length] at ep
        have hne : ps ≠ [] := by
          intro z
          rw [z] at ep
          exact c0 (List.map_eq_nil_iff.mp ep.symm)
        refine ⟨D, ps, rfl, hD2, hne, ht, fun p hp least => ?_⟩
        have hmem : ∀ p ∈ ps, p.2.2 ∈ along s.vernier x ∧ p.2.1 = Mu54.off s.vernier x p.2.2 := fun p hp => by
          have : p.2 ∈ ps.map (·.2) := List.mem_map.mpr ⟨p, hp, rfl⟩
          rw [ep] at this
          obtain ⟨j, hj, e⟩ := List.mem_map.mp this
          rw [← e]
          exact ⟨hj, rfl⟩
        have hall : ∀ j ∈ along s.vernier x, ∃ p ∈ ps, p.2 = (Mu54.off s.vernier x j, j) := fun j hj => by
          have : (Mu54.off s.vernier x j, j) ∈ ps.map (·.2) := by
            rw [ep]
            exact List.mem_map.mpr ⟨j, hj, rfl⟩
          obtain ⟨p, hp, e⟩ := List.mem_map.mp this
          exact ⟨p, hp, e⟩
        obtain ⟨m1, m2⟩ := hmem p hp
        have en := nearest_least m1 fun j hj => by
          obtain ⟨p', hp', e'⟩ := hall j hj
          have := least p' hp'
          unfold leP at this
          rw [e', m2] at this
          exact this
        rw [en] at st
        refine ⟨p.1, _, rfl, .inr (SqT.of (ht p hp)), fun l hl => ?_⟩
        refine query V k st _ ?_ _ l ((s1.trans s2).trans (same_upd hl)) ((s1.trans s2).free hl) upd_same
        rw [m2]
        rfl
end
end Vn
namespace Vn
open PySem PySem.Spec PyProof.Rows L2
open Mu54 (Vernier State)
abbrev sWear : Stmt := top 30
abbrev sReadable : Stmt := top 31
abbrev sZero : Stmt := top 32
abbrev sSlide : Stmt := top 33
abbrev sRead : Stmt := top 34
abbrev sLook : Stmt := top 35
theorem vF_putZ (v : Vernier) (x : Nat) (w : Addr) (z : Int) : putF "zero" (.int z) (vF v x w) = vF { v with zero := z } x w := by kernel_rfl
theorem vF_putO (v : Vernier) (x y : Nat) (w : Addr) : putF "out_by" (nV y) (vF v x w) = vF v y w := by kernel_rfl
theorem lcrS {lo : Int} {n : Nat} {g : TG} {tt : TT} {te : TE} {vs : List Nat} {σ : L2.St} {H1 : Hp} {D : Addr} {Qd : Hp → Prop} (p : Nat → Bool) (f : Nat → V) (hn : n < sizeLine) (hD : H1 D = none)
    (hs : ∀ (i : Nat) (H : Hp) (N : Hp → Prop), i < n → (∃ acc, Same H1 H ∧ H D = some (.lst acc) ∧ acc.length < sizeLine ∧ (p i = true → ∀ H2, Same H H2 → N (upd H2 D (.lst (acc ++ [f i])))) ∧ (p i = false → ∀ H2, Same H H2 → N H2)) →
      g (.int (lo + i)) (wipe σ vs) H fun σ2 H2 => wipe σ2 vs = wipe σ vs ∧ tt σ2 H2 fun b H3 =>
        if b = true then te σ2 H3 fun y H4 => ∃ acc, H4 D = some (.lst acc) ∧ acc.length < sizeLine ∧ N (upd H4 D (.lst (acc ++ [y]))) else N H3)
    (hd : ∀ H', Same H1 H' → H' D = some (.lst (((List.range n).filter p).map f)) → Qd H') :
    ∃ W : Nat → Nat → Hp → Prop, (∃ m, W 0 m (upd H1 D (.lst []))) ∧ ∀ i m H, W i m H →
      ((Itr lo n).stop i H ∧ Qd H) ∨ ((Itr lo n).go i H ∧ ∃ Nx : Hp → Prop, (∀ H', Nx H' → ∃ m', m' < m ∧ W (i + 1) m' H') ∧ ∀ x H', (Itr lo n).yld i H x H' → g x (wipe σ vs) H' fun σ2 H2 => wipe σ2 vs = wipe σ vs ∧ tt σ2 H2 fun b H3 =>
        if b = true then te σ2 H3 fun y H4 => ∃ acc, H4 D = some (.lst acc) ∧ acc.length < sizeLine ∧ Nx (upd H4 D (.lst (acc ++ [y]))) else Nx H3) := by
  refine lc_range (fun i H => Same H1 H ∧ H D = some (.lst (((List.range i).filter p).map f))) ⟨same_upd hD, upd_same⟩ (fun i H hi e => ?_) (fun H e => hd H e.1 e.2)
  obtain ⟨s1, h1⟩ := e
  refine hs i H _ hi ⟨((List.range i).filter p).map f, s1, h1, ?_, fun hp H2 s2 => ?_, fun hp H2 s2 => ?_⟩
  · have := List.length_filter_le p (List.range i)
    rw [List.length_map]
    rw [List.length_range] at this
    omega
  · refine ⟨fun b o hb => ?_, ?_⟩
    · rw [upd_ne (ne_of_none hb hD)]
      exact s2 b o (s1 b o hb)
    · rw [upd_same, range_more, if_pos hp]
  · refine ⟨s1.trans s2, ?_⟩
    rw [range_more, if_neg (by rw [hp]; decide), List.append_nil]
    exact s2 _ _ h1
theorem isEmpty_meets {v : Vernier} (hw : 0 < v.wide) (x : Nat) : (!(Mu54.meets v x).isEmpty) = decide (0 < (meeting v x).length) := by
  rw [meets_eq hw]
  cases meeting v x <;> simp
theorem readable_eq {v : Vernier} (hw : 0 < v.wide) (i : Nat) : Mu54.readable v i = ((List.range v.wide).filter fun d => decide (0 < (meeting v (i * v.wide + d)).length)).map fun d => i * v.wide + d := by
  unfold Mu54.readable
  rw [List.filter_map]
  congr 1
  refine List.filter_congr fun d _ => ?_
  exact isEmpty_meets hw _
section
variable {P : Program} {w : World} {K : PySem.W.Frag} {mg : Str → Option Value} {base : Heap} {C : Addr}
/-! ### wear -/
theorem scWear : FnScope ["vernier", "handed", "j"] ["vernier", "handed"] (defScope sWear) := ⟨rfl, rfl, rfl, by decide +kernel, rfl, by decide +kernel, by decide +kernel⟩
theorem ok_wear {f : Addr} {fd : FuncData} (F : Fun K "wear" "wear" sWear f fd) (T : TV K C) (hlen : mg "len" = none) (hna : ∃ t, mg "NOT_ALLOWED" = some (.int (-1) t)) (hwo : ∃ t, mg "WORN_OFF" = some (.int (-3) t)) : FnOk P w K mg base CX0 1 f fd ["vernier", "handed"] (spK K C 7) := by
  refine F.ok scWear len_vs (fun cdv A outer s H vs Q E hr h => ?_)
  obtain ⟨a, w, h, s, hs, rfl, V, G, S, q, k⟩ := h
  obtain ⟨j, e0, hj⟩ := asked_7 q
  subst e0
  obtain ⟨dx, hi⟩ := V.ins
  refine ⟨_, pss_cons (ps_set (i := 2) scWear.nd rfl (Or.inl rfl) (pe_ix ix_list (pv 1) pe_int (fun _ _ => rfl)))
    (pss_cons (ps_if (pt_cmpR op_gt (pv 2) (pe_fld (pv 0) rfl) (nomark _)) (pss_one (ps_ret (pe_lst (pa_cons (pe_gi hna rfl) pa_nil)))) pss_nil)
    (pss_cons (ps_if (pt_cmpR op_in_seq (pv 2) (pe_fld (pv 0) rfl) rfl) (pss_one (ps_ret (pe_lst (pa_cons (pe_gi hwo rfl) pa_nil)))) pss_nil)
    (pss_cons (ps_expr (pe_bm PySem.F.plainAttrs_list PySem.F.slot_list_append PySem.F.type_list_append mt_append (pe_fld (pv 0) rfl) (pa_cons (pv 2) pa_nil)))
    (pss_one (ps_ret (pe_lst (pa_cons (pe_callB call_len_seq (by rfl) hlen PySem.boot_len (pa_cons (pe_fld (pv 0) rfl) pa_nil)) pa_nil))))))), ?_⟩
  have st : Mu54Neutral.step (some s) [7, (j : Int)] = if s.vernier.marks < j then (some s, [-1]) else if s.vernier.worn.contains j = true then (some s, [-3]) else (some { s with vernier := { s.vernier with worn := s.vernier.worn ++ [j] } }, [((s.vernier.worn.length + 1 : Nat) : Int)]) := rfl
  refine ⟨_, rfl, h, _, _, _, rfl, rfl, S, atI_nat (j := 0) rfl, ?_⟩
  refine ⟨_, rfl, _, rfl, a, C, dx, _, _, rfl, hi, T.cl, T.nn, vF_n, _, _, rfl, rfl, _, rfl, ?_⟩
  by_cases c1 : (s.vernier.marks : Int) < (j : Int)
  · rw [if_pos (by omega)] at st
    exact if_true_of (decide_eq_true c1) ⟨line1, fun p hp => query V k st _ rfl _ p (same_upd hp) hp upd_same⟩
  · rw [if_neg (by omega)] at st
    refine if_false_of (decide_eq_false c1) ?_
    refine ⟨_, rfl, _, rfl, a, C, dx, _, _, rfl, hi, T.cl, T.nw, vF_worn, w, _, rfl, .inl (SqL.of V.lst), rfl, flat_nats _, _, rfl, ?_⟩
    show if inV (nV j) (s.vernier.worn.map nV) = true then _ else _
    rw [inV_nats]
    by_cases c3 : s.vernier.worn.contains j = true
    · rw [if_pos c3] at st
      exact if_true_of c3 ⟨line1, fun p hp => query V k st _ rfl _ p (same_upd hp) hp upd_same⟩
    · rw [if_neg c3] at st
      refine if_false_of (by simpa using c3) ?_
      have wn := G.wn
      have naw : a ≠ w := ne_of hi V.lst (by intro z; cases z)
      refine ⟨_, rfl, a, C, dx, _, _, rfl, hi, T.cl, T.nw, vF_worn, .inl ⟨rfl, _, SqL.of V.lst⟩, _, rfl, w, _, _, rfl, rfl, V.lst, small_line (by rw [List.length_map]; omega), ?_⟩
      refine ⟨_, rfl, a, C, dx, _, _, rfl, (upd_ne naw).trans hi, T.cl, T.nw, vF_worn, w, _, rfl, .inl (SqL.of upd_same), line1, fun p hp => ?_⟩
      have nwp : w ≠ p := ne_of_none upd_same hp
      have nap : a ≠ p := ne_of_none ((upd_ne naw).trans hi) hp
      refine k _ p { s with vernier := { s.vernier with worn := s.vernier.worn ++ [j] } } (by rw [st]) ⟨⟨dx, ?_⟩, ?_⟩ (fun b ob hb hba hbw => ?_) ?_ ?_
      · rw [upd_ne nap, upd_ne naw]
        exact hi
      · rw [upd_ne nwp, upd_same, List.map_append]
        rfl
      · have : b ≠ p := ne_of_none ((upd_ne hbw).trans hb) hp
        rw [upd_ne this, upd_ne hbw]
        exact hb
      · rw [upd_ne nwp.symm] at hp
        exact hp
      · rw [upd_same, st, List.length_append, List.length_map]
        rfl
/-! ### zero -/
theorem scZero : FnScope ["vernier", "handed", "z"] ["vernier", "handed"] (defScope sZero) := ⟨rfl, rfl, rfl, by decide +kernel, rfl, by decide +kernel, by decide +kernel⟩
theorem ok_zero {f : Addr} {fd : FuncData} (F : Fun K "zero" "zero" sZero f fd) (T : TV K C) (hna : ∃ t, mg "NOT_ALLOWED" = some (.int (-1) t)) (hmo : ∃ t, mg "MOST" = some (.int 60 t)) : FnOk P w K mg base CX0 1 f fd ["vernier", "handed"] (spK K C 9) := by
  refine F.ok scZero len_vs (fun cdv A outer s H vs Q E hr h => ?_)
  obtain ⟨a, w, h, s, hs, rfl, V, G, S, q, k⟩ := h
  obtain ⟨z, e0, hz1, hz2⟩ := asked_9 q
  subst e0
  obtain ⟨dx, hi⟩ := V.ins
  refine ⟨_, pss_cons (ps_set (i := 2) scZero.nd rfl (Or.inl rfl) (pe_ix ix_list (pv 1) pe_int (fun _ _ => rfl)))
    (pss_cons (ps_if (PW.pt (pw_or (pt_cmpR op_lt (pv 2) (pe_un un_neg (pe_gi hmo rfl)) (nomark _)) (pw_or1 (pt_cmpR op_gt (pv 2) (pe_gi hmo rfl) (nomark _))))) (pss_one (ps_ret (pe_lst (pa_cons (pe_gi hna rfl) pa_nil)))) pss_nil)
    (pss_cons (ps_fld (pv 0) (pv 2) rfl)
    (pss_one (ps_ret (pe_lst (pa_cons pe_int pa_nil)))))), ?_⟩
  have st : Mu54Neutral.step (some s) [9, z] = if z < -60 ∨ 60 < z then (some s, [-1]) else (some { s with vernier := { s.vernier with zero := z } }, [0]) := rfl
  refine ⟨_, rfl, h, _, _, _, rfl, rfl, S, atI_nat (j := 0) rfl, ?_⟩
  refine ⟨_, rfl, _, rfl, _, _, rfl, rfl, _, rfl, ?_⟩
  by_cases c1 : z < -60
  · rw [if_pos (.inl c1)] at st
    exact if_true_of (decide_eq_true c1) (if_true_of rfl ⟨line1, fun p hp => query V k st _ rfl _ p (same_upd hp) hp upd_same⟩)
  · refine if_false_of (decide_eq_false c1) ?_
    refine ⟨_, rfl, _, _, rfl, rfl, _, rfl, ?_⟩
    by_cases c2 : 60 < z
    · rw [if_pos (.inr c2)] at st
      exact if_true_of (decide_eq_true c2) ⟨line1, fun p hp => query V k st _ rfl _ p (same_upd hp) hp upd_same⟩
    · rw [if_neg (by omega)] at st
      refine if_false_of (decide_eq_false c2) ?_
      refine ⟨_, rfl, _, rfl, a, C, dx, _, rfl, hi, T.cl, T.nz, (show 7 < 1000 by decide), line1, fun p hp => ?_⟩
      have naw : a ≠ w := ne_of hi V.lst (by intro z; cases z)
      have nap : a ≠ p := ne_of_none upd_same hp
      rw [upd_ne nap.symm] at hp
      have nwp : w ≠ p := ne_of_none V.lst hp
      refine k _ p { s with vernier := { s.vernier with zero := z } } (by rw [st]) ⟨⟨dx, ?_⟩, ?_⟩ (fun b ob hb hba hbw => ?_) hp ?_
      · rw [upd_ne nap, upd_same, vF_putZ]
      · rw [upd_ne nwp, upd_ne naw.symm]
        exact V.lst
      · rw [upd_ne (ne_of_none hb hp), upd_ne hba]
        exact hb
      · rw [upd_same, st]
        rfl
/-! ### slide -/
theorem scSlide : FnScope ["vernier", "handed", "x"] ["vernier", "handed"] (defScope sSlide) := ⟨rfl, rfl, rfl, by decide +kernel, rfl, by decide +kernel, by decide +kernel⟩
theorem ok_slide {f : Addr} {fd : FuncData} (F : Fun K "slide" "slide" sSlide f fd) (T : TV K C) (hlen : mg "len" = none) (hna : ∃ t, mg "NOT_ALLOWED" = some (.int (-1) t)) (cL : Cal P w K mg base 1 "scale_length" (spLength C)) (cM : Cal P w K mg base 3 "meeting_marks" (spMeeting C)) : FnOk P w K mg base CX0 4 f fd ["vernier", "handed"] (spK K C 10) := by
  refine F.ok scSlide len_vs (fun cdv A outer s H vs Q E hr h => ?_)
  obtain ⟨a, w, h, s, hs, rfl, V, G, S, q, k⟩ := h
  obtain ⟨x, e0, hx⟩ := asked_10 q
  subst e0
  obtain ⟨dx, hi⟩ := V.ins
  refine ⟨_, pss_cons (ps_set (i := 2) scSlide.nd rfl (Or.inl rfl) (pe_ix ix_list (pv 1) pe_int (fun _ _ => rfl)))
    (pss_cons (ps_if (pt_cmpR op_gt (pv 2) (pe_c cL hr (by decide) rfl (pa_cons (pv 0) pa_nil)) (nomark _)) (pss_one (ps_ret (pe_lst (pa_cons (pe_gi hna rfl) pa_nil)))) pss_nil)
    (pss_cons (ps_fld (pv 0) (pv 2) rfl)
    (pss_one (ps_ret (pe_lst (pa_cons (pe_callB call_len_seq (by rfl) hlen PySem.boot_len (pa_cons (pe_c cM hr (by decide) rfl (pa_cons (pv 0) (pa_cons (pv 2) pa_nil))) pa_nil)) pa_nil)))))), ?_⟩
  have a1 := G.ok.a1
  have st : Mu54Neutral.step (some s) [10, (x : Int)] = if Mu54.length_ s.vernier < x then (some s, [-1]) else (some { s with at_ := x }, [((Mu54.meets s.vernier x).length : Int)]) := rfl
  refine ⟨_, rfl, h, _, _, _, rfl, rfl, S, atI_nat (j := 0) rfl, ?_⟩
  refine ⟨_, rfl, _, rfl, a, w, s, rfl, V, G.ok, _, _, rfl, rfl, _, rfl, ?_⟩
  have el : Mu54.length_ s.vernier = s.vernier.wide * s.vernier.long := Nat.mul_comm _ _
  by_cases c : ((s.vernier.wide * s.vernier.long : Nat) : Int) < (x : Int)
  · rw [if_pos (by rw [el]; omega)] at st
    exact if_true_of (decide_eq_true c) ⟨line1, fun p hp => query V k st _ rfl _ p (same_upd hp) hp upd_same⟩
  · refine if_false_of (decide_eq_false c) ?_
    rw [if_neg (by rw [el]; omega)] at st
    have naw : a ≠ w := ne_of hi V.lst (by intro z; cases z)
    refine ⟨_, rfl, _, rfl, a, C, dx, _, rfl, hi, T.cl, T.no, (show 7 < 1000 by decide), ?_⟩
    have V1 : VAt C (upd H a (.ins C dx (putF "out_by" (nV x) (vF s.vernier s.at_ w)))) a w { s with at_ := x } := ⟨⟨dx, by rw [upd_same, vF_putO]⟩, by rw [upd_ne naw.symm]; exact V.lst⟩
    refine ⟨_, rfl, _, rfl, a, w, { s with at_ := x }, x, rfl, V1, G.ok, fun H1 m s1 hm h1 => ?_⟩
    refine ⟨m, _, rfl, .inl (SqL.of h1), line1, fun p hp => ?_⟩
    have s2 := s1.trans (same_upd (o := .lst [.int ((meeting s.vernier x).map nV).length]) hp)
    have hp1 := s1.free hp
    have nap : a ≠ p := ne_of_none upd_same hp1
    rw [upd_ne nap.symm] at hp1
    refine k _ p { s with at_ := x } (by rw [st]) (V1.keep s2) (fun b ob hb hba hbw => s2 b ob ((upd_ne hba).trans hb)) hp1 ?_
    rw [upd_same, st, meets_eq (by omega), List.length_map, List.length_map]
    rfl
/-! ### read -/
theorem scRead : FnScope ["vernier", "handed"] ["vernier", "handed"] (defScope sRead) := ⟨rfl, rfl, rfl, by decide +kernel, rfl, by decide +kernel, by decide +kernel⟩
theorem read_out {v : Vernier} (hw : 0 < v.wide) (x : Nat) {p : Nat × Nat} {r : List (Nat × Nat)} (h : Mu54.meets v x = p :: r) : Mu54.out v p.1 p.2 = (x : Int) := by
  rw [meets_eq hw] at h
  cases hm : meeting v x with
  | nil => rw [hm] at h; cases h
  | cons j l =>
    rw [hm] at h
    have e : ((x + j * v.close) / v.wide, j) = p := (List.cons.inj h).1
    have hj : j ∈ meeting v x := by rw [hm]; exact List.mem_cons_self
    have hz := (List.mem_filter.mp hj).2
    rw [off_zero hw] at hz
    have hz : (x + j * v.close) % v.wide = 0 := by simpa using hz
    have hd : (x + j * v.close) / v.wide * v.wide = x + j * v.close := Nat.div_mul_cancel (Nat.dvd_of_mod_eq_zero hz)
    subst e
    unfold Mu54.out
    show (((x + j * v.close) / v.wide : Nat) : Int) * (v.wide : Int) - (j : Int) * (v.close : Int) = (x : Int)
    rw [← Int.natCast_mul, hd, Int.natCast_add, Int.natCast_mul]
    omega
theorem ok_read {f : Addr} {fd : FuncData} (F : Fun K "read" "read" sRead f fd) (T : TV K C) (hlen : mg "len" = none) (hnt : ∃ t, mg "NOT_THERE" = some (.int (-6) t)) (cM : Cal P w K mg base 3 "meeting_marks" (spMeeting C)) : FnOk P w K mg base CX0 4 f fd ["vernier", "handed"] (spK K C 11) := by
  refine F.ok scRead len_vs (fun cdv A outer s H vs Q E hr h => ?_)
  obtain ⟨a, w, h, s, hs, rfl, V, G, S, q, k⟩ := h
  have e0 := asked_11 q
  subst e0
  obtain ⟨dx, hi⟩ := V.ins
  refine ⟨_, pss_cons (ps_if (pt_cmpR op_eq (pe_callB call_len_seq (by rfl) hlen PySem.boot_len (pa_cons (pe_c cM hr (by decide) rfl (pa_cons (pv 0) (pa_cons (pe_fld (pv 0) rfl) pa_nil))) pa_nil)) pe_int (nomark _)) (pss_one (ps_ret (pe_lst (pa_cons (pe_gi hnt rfl) pa_nil)))) pss_nil)
    (pss_one (ps_ret (pe_lst (pa_cons pe_int (pa_cons (pe_op op_sub (pe_fld (pv 0) rfl) (pe_fld (pv 0) rfl)) pa_nil))))), ?_⟩
  have a1 := G.ok.a1
  have st : Mu54Neutral.step (some s) [11] = (some s, match Mu54.meets s.vernier s.at_ with | [] => [-6] | p :: _ => [0, Mu54.out s.vernier p.1 p.2 - s.vernier.zero]) := rfl
  refine ⟨_, rfl, _, rfl, a, C, dx, _, _, rfl, hi, T.cl, T.no, vF_out, a, w, s, s.at_, rfl, V, G.ok, fun H1 m s1 hm h1 => ?_⟩
  refine ⟨m, _, rfl, .inl (SqL.of h1), rfl, _, rfl, ?_⟩
  show if decide (nV ((meeting s.vernier s.at_).map nV).length = nV 0) = true then _ else _
  rw [dec_nV, List.length_map]
  by_cases c : meeting s.vernier s.at_ = []
  · have em : Mu54.meets s.vernier s.at_ = [] := by rw [meets_eq (by omega), c]; rfl
    rw [em] at st
    exact if_true_of (by rw [c]; rfl) ⟨line1, fun p hp => query V k st _ rfl _ p (s1.trans (same_upd hp)) (s1.free hp) upd_same⟩
  · refine if_false_of (by simpa using c) ?_
    cases em : Mu54.meets s.vernier s.at_ with
    | nil =>
      rw [meets_eq (by omega)] at em
      exact absurd (List.map_eq_nil_iff.mp em) c
    | cons p r =>
      rw [em] at st
      have eo := read_out (by omega) _ em
      have st : Mu54Neutral.step (some s) [11] = (some s, [0, Mu54.out s.vernier p.1 p.2 - s.vernier.zero]) := st
      rw [eo] at st
      have hi1 := s1 _ _ hi
      refine ⟨_, rfl, a, C, dx, _, _, rfl, hi1, T.cl, T.no, vF_out, _, rfl, a, C, dx, _, _, rfl, hi1, T.cl, T.nz, vF_zero, _, _, rfl, rfl, (show 2 ≤ sizeLine by decide), fun p hp => ?_⟩
      exact query V k st _ rfl _ p (s1.trans (same_upd hp)) (s1.free hp) upd_same
/-! ### places_read -/
def spPlaces (C : Addr) : Sp := fun vs H Q _ => ∃ (a w : Addr) (s : State) (i : Nat), vs = [.ref a, nV i] ∧ VAt C H a w s ∧ Ok s.vernier ∧ i ≤ 99 ∧
  ∀ (H' : Hp) (p : Addr), Same H H' → H p = none → H' p = some (.lst ((Mu54.readable s.vernier i).map nV)) → Q (.ref p) H'
theorem len_readable {v : Vernier} (hw : 0 < v.wide) (i : Nat) : (Mu54.readable v i).length ≤ v.wide := by
  rw [readable_eq hw, List.length_map]
  have := List.length_filter_le (fun d => decide (0 < (meeting v (i * v.wide + d)).length)) (List.range v.wide)
  rw [List.length_range] at this
  exact this
theorem scPlaces : FnScope ["vernier", "i", "start", "x"] ["vernier", "i"] (defScope sPlaces) := ⟨rfl, rfl, rfl, by decide +kernel, rfl, by decide +kernel, by decide +kernel⟩
theorem ok_places {f : Addr} {fd : FuncData} (F : Fun K "places_read" "places_read" sPlaces f fd) (T : TV K C) (hlen : mg "len" = none) (hrange : mg "range" = none) (cM : Cal P w K mg base 3 "meeting_marks" (spMeeting C)) : FnOk P w K mg base CX0 4 f fd ["vernier", "i"] (spPlaces C) := by
  refine F.ok scPlaces (fun vs H Q E h => ?_) (fun cdv A outer s H vs Q E hr h => ?_)
  · obtain ⟨a, w, s, i, rfl, _⟩ := h
    rfl
  · obtain ⟨a, w, s, i, rfl, V, O, hi9, k⟩ := h
    obtain ⟨dx, hi⟩ := V.ins
    refine ⟨_, pss_cons (ps_set (i := 2) scPlaces.nd rfl (Or.inl rfl) (pe_op op_mul (pv 1) (pe_fld (pv 0) rfl)))
      (pss_one (ps_ret (pe_lc (own := [("x", 3)]) (g := gName 3) (tt := tTest (tOp (rI0 fun i j => .bl (decide (j < i))) (tCB (fun xs H Q => ∃ p ys, xs = [.ref p] ∧ (SqL K H p ys ∨ SqT K H p ys) ∧ Q (.int ys.length) H) (tCons (tCall (spMeeting C) [] E0 (tCons (tVar 0) (tCons (tVar 3) tNil))) tNil)) (tC (.int 0)))) rfl scPlaces.nd
        (pi_range2 rfl hrange (pa_cons (pv 2) (pa_cons (pe_op op_add (pv 2) (pe_fld (pv 0) rfl)) pa_nil)))
        (blkOk_by (N := ["vernier", "i", "start", "x"]) (sc := defScope sPlaces) (by decide +kernel))
        (fun _ _ _ _ _ => by exact pg_name (i := 3) scPlaces.nd rfl (Or.inl rfl))
        (fun _ _ _ _ _ => by exact pts_one (pt_cmpR op_gt (pe_callB call_len_seq (by rfl) hlen PySem.boot_len (pa_cons (pe_c cM hr (by decide) rfl (pa_cons (pv 0) (pa_cons (pv 3) pa_nil))) pa_nil)) pe_int (nomark _)))
        (fun _ _ _ _ _ => by exact pv 3)))), ?_⟩
    have a1 := O.a1
    have a2 := O.a2
    have ml : i * s.vernier.wide ≤ 99 * 60 := Nat.mul_le_mul hi9 a2
    refine ⟨_, rfl, _, rfl, a, C, dx, _, _, rfl, hi, T.cl, T.na, vF_a, _, _, rfl, rfl, .inr ⟨by omega, by omega⟩, ?_⟩
    refine ⟨nV (i * s.vernier.wide), rfl, nV (i * s.vernier.wide), rfl, _, rfl, a, C, dx, _, _, rfl, hi, T.cl, T.na, vF_a, ((i * s.vernier.wide : Nat) : Int), _, rfl, rfl, ((i * s.vernier.wide : Nat) : Int), _, rfl, ⟨by omega, by omega, by omega, by omega⟩, fun D hD => ?_⟩
    have en : (((i * s.vernier.wide : Nat) : Int) + (s.vernier.wide : Int) - ((i * s.vernier.wide : Nat) : Int)).toNat = s.vernier.wide := by omega
    rw [en]
    refine lcrS (fun d => decide (0 < (meeting s.vernier (i * s.vernier.wide + d)).length)) (fun d => nV (i * s.vernier.wide + d)) (small_line (by omega)) hD ?_ ?_
    · rintro d H2 N hd ⟨acc, s2, hD2, hacc, ht, hf⟩
      have V2 := V.keep s2
      refine ⟨rfl, _, rfl, _, rfl, a, w, s, i * s.vernier.wide + d, rfl, V2, O, fun H3 m s3 hm h3 => ?_⟩
      refine ⟨m, _, rfl, .inl (SqL.of h3), _, _, rfl, rfl, _, rfl, ?_⟩
      have ed : decide ((0 : Int) < (((meeting s.vernier (i * s.vernier.wide + d)).map nV).length : Int)) = decide (0 < (meeting s.vernier (i * s.vernier.wide + d)).length) := by
        rw [List.length_map, decide_eq_decide]
        omega
      show if decide ((0 : Int) < (((meeting s.vernier (i * s.vernier.wide + d)).map nV).length : Int)) = true then _ else _
      rw [ed]
      by_cases c2 : 0 < (meeting s.vernier (i * s.vernier.wide + d)).length
      · exact if_true_of (decide_eq_true c2) ⟨_, rfl, acc, s3 _ _ hD2, hacc, ht (decide_eq_true c2) _ s3⟩
      · exact if_false_of (decide_eq_false c2) (hf (decide_eq_false c2) _ s3)
    · intro H' s2 h2
      have er : ((List.range s.vernier.wide).filter fun d => decide (0 < (meeting s.vernier (i * s.vernier.wide + d)).length)).map (fun d => nV (i * s.vernier.wide + d)) = (Mu54.readable s.vernier i).map nV := by
        rw [readable_eq (by omega), List.map_map]
        rfl
      rw [er] at h2
      exact k H' D s2 hD h2
/-! ### readable -/
theorem scReadable : FnScope ["vernier", "handed", "i"] ["vernier", "handed"] (defScope sReadable) := ⟨rfl, rfl, rfl, by decide +kernel, rfl, by decide +kernel, by decide +kernel⟩
theorem ok_readable {f : Addr} {fd : FuncData} (F : Fun K "readable" "readable" sReadable f fd) (T : TV K C) (hna : ∃ t, mg "NOT_ALLOWED" = some (.int (-1) t)) (cP : Cal P w K mg base 4 "places_read" (spPlaces C)) (cC : Cal P w K mg base 1 "counted" spCounted) : FnOk P w K mg base CX0 5 f fd ["vernier", "handed"] (spK K C 8) := by
  refine F.ok scReadable len_vs (fun cdv A outer s H vs Q E hr h => ?_)
  obtain ⟨a, w, h, s, hs, rfl, V, G, S, q, k⟩ := h
  obtain ⟨i, e0, hi9⟩ := asked_8 q
  subst e0
  obtain ⟨dx, hi⟩ := V.ins
  refine ⟨_, pss_cons (ps_set (i := 2) scReadable.nd rfl (Or.inl rfl) (pe_ix ix_list (pv 1) pe_int (fun _ _ => rfl)))
    (pss_cons (ps_if (pt_cmpR op_ge (pv 2) (pe_fld (pv 0) rfl) (nomark _)) (pss_one (ps_ret (pe_lst (pa_cons (pe_gi hna rfl) pa_nil)))) pss_nil)
    (pss_one (ps_ret (pe_c cC hr (by decide) rfl (pa_cons (pe_c cP hr (by decide) rfl (pa_cons (pv 0) (pa_cons (pv 2) pa_nil))) pa_nil))))), ?_⟩
  have a1 := G.ok.a1
  have a2 := G.ok.a2
  have st : Mu54Neutral.step (some s) [8, (i : Int)] = (some s, if s.vernier.long ≤ i then [-1] else Mu54.nums ((Mu54.readable s.vernier i).length :: Mu54.readable s.vernier i)) := rfl
  refine ⟨_, rfl, h, _, _, _, rfl, rfl, S, atI_nat (j := 0) rfl, ?_⟩
  refine ⟨_, rfl, _, rfl, a, C, dx, _, _, rfl, hi, T.cl, T.nm, vF_m, _, _, rfl, rfl, _, rfl, ?_⟩
  by_cases c : (s.vernier.long : Int) ≤ (i : Int)
  · rw [if_pos (by omega)] at st
    exact if_true_of (decide_eq_true c) ⟨line1, fun p hp => query (ans := [-1]) V k st _ rfl _ p (same_upd hp) hp upd_same⟩
  · rw [if_neg (by omega)] at st
    refine if_false_of (decide_eq_false c) ?_
    have ls := len_readable (show 0 < s.vernier.wide by omega) i
    refine ⟨_, rfl, _, rfl, a, w, s, i, rfl, V, G.ok, hi9, fun H1 m s1 hm h1 => ?_⟩
    refine ⟨m, _, rfl, h1, by rw [List.length_map]; omega, fun H' p s2 hp h2 => query V k st _ ?_ H' p (s1.trans s2) (s1.free hp) h2⟩
    rw [nums_map, List.length_map]
    rfl
end
end Vn
namespace Vn
open PySem PySem.Spec PyProof.Rows L2
open Mu54 (Vernier State)
section
variable {P : Program} {w : World} {K : PySem.W.Frag} {mg : Str → Option Value} {base : Heap} {C : Addr}
/-! ### look -/
theorem scLook : FnScope ["vernier", "handed", "sizes"] ["vernier", "handed"] (defScope sLook) := ⟨rfl, rfl, rfl, by decide +kernel, rfl, by decide +kernel, by decide +kernel⟩
theorem ok_look {f : Addr} {fd : FuncData} (F : Fun K "look" "look" sLook f fd) (T : TV K C) (cC : Cal P w K mg base 1 "counted" spCounted) : FnOk P w K mg base CX0 2 f fd ["vernier", "handed"] (spK K C 12) := by
  refine F.ok scLook len_vs (fun cdv A outer s H vs Q E hr h => ?_)
  obtain ⟨a, w, h, s, hs, rfl, V, G, S, q, k⟩ := h
  have e0 := asked_12 q
  subst e0
  obtain ⟨dx, hi⟩ := V.ins
  refine ⟨_, pss_cons (ps_set (i := 2) scLook.nd rfl (Or.inl rfl) (pe_lst (pa_cons (pe_fld (pv 0) rfl) (pa_cons (pe_fld (pv 0) rfl) (pa_cons (pe_fld (pv 0) rfl) (pa_cons (pe_fld (pv 0) rfl) pa_nil))))))
    (pss_one (ps_ret (pe_op op_cat (pe_op op_cat (pv 2) (pe_lst (pa_cons (pe_fld (pv 0) rfl) (pa_cons (pe_fld (pv 0) rfl) pa_nil)))) (pe_c cC hr (by decide) rfl (pa_cons (pe_fld (pv 0) rfl) pa_nil))))), ?_⟩
  have wn := G.wn
  have st : Mu54Neutral.step (some s) [12] = (some s, Mu54.nums [s.vernier.wide, s.vernier.close, s.vernier.long, s.vernier.marks] ++ [s.vernier.zero, (s.at_ : Int)] ++ Mu54.nums (s.vernier.worn.length :: s.vernier.worn)) := rfl
  refine ⟨_, rfl, a, C, dx, _, _, rfl, hi, T.cl, T.na, vF_a, _, rfl, a, C, dx, _, _, rfl, hi, T.cl, T.nb, vF_b, _, rfl, a, C, dx, _, _, rfl, hi, T.cl, T.nm, vF_m, _, rfl, a, C, dx, _, _, rfl, hi, T.cl, T.nn, vF_n, (show 4 ≤ sizeLine by decide), fun p1 hp1 => ?_⟩
  have s1 := same_upd (o := .lst [nV s.vernier.wide, nV s.vernier.close, nV s.vernier.long, nV s.vernier.marks]) hp1
  have hi1 := s1 _ _ hi
  refine ⟨_, rfl, _, rfl, a, C, dx, _, _, rfl, hi1, T.cl, T.nz, vF_zero, _, rfl, a, C, dx, _, _, rfl, hi1, T.cl, T.no, vF_out, (show 2 ≤ sizeLine by decide), fun p2 hp2 => ?_⟩
  have n12 : p1 ≠ p2 := ne_of_none upd_same hp2
  have s2 := s1.trans (same_upd (o := .lst [.int s.vernier.zero, nV s.at_]) hp2)
  refine ⟨p1, p2, _, _, rfl, rfl, (upd_ne n12).trans upd_same, upd_same, (show 6 ≤ sizeLine by decide), fun p3 hp3 => ?_⟩
  have s3 := s2.trans (same_upd (o := .lst ([nV s.vernier.wide, nV s.vernier.close, nV s.vernier.long, nV s.vernier.marks] ++ [.int s.vernier.zero, nV s.at_])) hp3)
  have V3 := V.keep s3
  refine ⟨_, rfl, a, C, dx, _, _, rfl, s3 _ _ hi, T.cl, T.nw, vF_worn, w, _, rfl, V3.lst, by rw [List.length_map]; omega, fun H4 p4 s4 hp4 h4 => ?_⟩
  refine ⟨p3, p4, _, _, rfl, rfl, s4 _ _ upd_same, h4, Nat.le_of_lt (small_line (by rw [List.length_cons, List.length_map]; simp only [List.length_append, List.length_cons, List.length_nil]; omega)), fun p hp => ?_⟩
  have s5 := s3.trans s4
  refine query V k st _ ?_ _ p (s5.trans (same_upd hp)) (s5.free hp) upd_same
  rw [List.map_append, List.map_append, nums_map, nums_map, List.length_map]
  rfl
end
end Vn
namespace Vn
open PySem PySem.Spec PyProof.Rows L2
open Mu54 (Vernier State)
abbrev sTo : Stmt := top 37
abbrev sAns : Stmt := top 38
theorem asked_shape {c : Int} {hs : List Int} (h : Mu54Neutral.asked1 (c :: hs) = true) : 0 ≤ c ∧ c ≤ 12 := by
  unfold Mu54Neutral.asked1 at h
  split at h
  all_goals first
    | (rename_i e; obtain ⟨e, _⟩ := List.cons.inj e; subst e; decide)
    | cases h
theorem no_vernier {c : Int} {hs : List Int} (h : Mu54Neutral.asked1 (c :: hs) = true) (h0 : c ≠ 0) : Mu54Neutral.step none (c :: hs) = (none, [-9]) := by
  obtain ⟨r1, r2⟩ := asked_shape h
  have hc : c = 1 ∨ c = 2 ∨ c = 3 ∨ c = 4 ∨ c = 5 ∨ c = 6 ∨ c = 7 ∨ c = 8 ∨ c = 9 ∨ c = 10 ∨ c = 11 ∨ c = 12 := by omega
  rcases hc with rfl | rfl | rfl | rfl | rfl | rfl | rfl | rfl | rfl | rfl | rfl | rfl
  · have := asked_1 h; subst this; rfl
  · obtain ⟨x, rfl, _⟩ := asked_2 h; rfl
  · obtain ⟨x, y, rfl, _⟩ := asked_3 h; rfl
  · obtain ⟨x, rfl, _⟩ := asked_4 h; rfl
  · obtain ⟨x, rfl, _⟩ := asked_5 h; rfl
  · have := asked_6 h; subst this; rfl
  · obtain ⟨x, rfl, _⟩ := asked_7 h; rfl
  · obtain ⟨x, rfl, _⟩ := asked_8 h; rfl
  · obtain ⟨x, rfl, _⟩ := asked_9 h; rfl
  · obtain ⟨x, rfl, _⟩ := asked_10 h; rfl
  · have := asked_11 h; subst this; rfl
  · have := asked_12 h; subst this; rfl
section
variable {P : Program} {w : World} {K : PySem.W.Frag} {mg : Str → Option Value} {base : Heap} {C CL : Addr}
/-! ### answer_to -/
def spTo (K : PySem.W.Frag) (CL C : Addr) : Sp := fun vs H Q _ => ∃ (l v w h : Addr) (o : Option State) (c : Int) (hs : List Int), vs = [.ref l, .int c, .ref h] ∧ LAt CL C H l v w o ∧ (∀ s, o = some s → Good 100 s) ∧ SqL K H h (hs.map V.int) ∧ Mu54Neutral.asked1 (c :: hs) = true ∧
  ∀ (H' : Hp) (p v' w' : Addr), LAt CL C H' l v' w' (Mu54Neutral.step o (c :: hs)).1 → (v' = v ∧ w' = w ∨ H v' = none ∧ H w' = none) → Rest H H' l v w → H p = none → H' p = some (.lst ((Mu54Neutral.step o (c :: hs)).2.map V.int)) → Q (.ref p) H'
/-- the table of what answers -/
structure Table (P : Program) (w : World) (K : PySem.W.Frag) (mg : Str → Option Value) (base : Heap) (C : Addr) : Prop where
  ex : ∃ (d : Addr) (es : Array DictEntry), mg "ANSWERED_BY" = some (.ref d) ∧ KInt K d es ∧ ∀ c : Int, 1 ≤ c → c ≤ 12 → ∃ f, findBy Value.isInt es c = some (.ref f) ∧ ∃ k', k' ≤ 5 ∧ CalAt P w K mg base k' f (spK K C c)
theorem scTo : FnScope ["line", "number", "handed"] ["line", "number", "handed"] (defScope sTo) := ⟨rfl, rfl, rfl, by decide +kernel, rfl, by decide +kernel, by decide +kernel⟩
theorem ok_to {f : Addr} {fd : FuncData} (F : Fun K "answer_to" "answer_to" sTo f fd) (T : TL K CL) (hbe : ∃ t, mg "BEGIN" = some (.int 0 t)) (hnv : ∃ t, mg "NO_VERNIER" = some (.int (-9) t)) (cB : Cal P w K mg base 3 "begin" (spBegin K CL C)) (tab : Table P w K mg base C) : FnOk P w K mg base CX0 6 f fd ["line", "number", "handed"] (spTo K CL C) := by
  refine F.ok scTo (fun vs H Q E h => ?_) (fun cdv A outer s H vs Q E hr h => ?_)
  · obtain ⟨l, v, w, h, o, c, hs, rfl, _⟩ := h
    rfl
  · obtain ⟨l, v, w, h, o, c, hs, rfl, L, G, S, q, k⟩ := h
    obtain ⟨d, es, hd, KI, tb⟩ := tab.ex
    refine ⟨_, pss_cons (ps_if (pt_cmpR op_eq (pv 1) (pe_gi hbe rfl) (nomark _)) (pss_one (ps_ret (pe_c cB hr (by decide) rfl (pa_cons (pv 0) (pa_cons (pv 2) pa_nil))))) pss_nil)
      (pss_cons (ps_if (pt_cmpR op_isN (pe_fld (pv 0) rfl) pe_non (nomark _)) (pss_one (ps_ret (pe_lst (pa_cons (pe_gi hnv rfl) pa_nil)))) pss_nil)
      (pss_one (ps_ret (pe_callE (k := 5) (pe_ix ix_kint (pe_glob (v := .ref d) rfl hd rfl) (pv 1) (fun _ _ => rfl)) hr (pa_cons (pe_fld (pv 0) rfl) (pa_cons (pv 2) pa_nil)))))), ?_⟩
    obtain ⟨dl, hl⟩ := L.lin
    refine ⟨_, rfl, rfl, _, rfl, ?_⟩
    by_cases c0 : c = 0
    · subst c0
      obtain ⟨a, b, m, n, rfl, _⟩ := asked_0 q
      refine if_true_of (decide_eq_true rfl) ?_
      exact ⟨_, rfl, _, rfl, l, v, w, h, o, a, b, m, n, rfl, L, S, k⟩
    · refine if_false_of (decide_eq_false fun z => c0 (by injection z)) ?_
      refine ⟨_, rfl, l, CL, dl, _, _, rfl, hl, T.cl, T.nv, lF_ver _, rfl, _, rfl, ?_⟩
      cases o with
      | none =>
        have st := no_vernier q c0
        refine if_true_of (decide_eq_true rfl) ⟨line1, fun p hp => ?_⟩
        have s1 := same_upd (o := HO.lst [.int (-9)]) hp
        refine k _ p v w ?_ (.inl ⟨rfl, rfl⟩) (fun b ob hb _ _ _ => s1 b ob hb) hp ?_
        · rw [st]
          exact ⟨⟨dl, s1 _ _ hl⟩, fun s hs => nomatch hs⟩
        · rw [st]
          exact upd_same
      | some s =>
        have V := L.ver s rfl
        refine if_false_of (decide_eq_false fun z => nomatch z) ?_
        obtain ⟨r1, r2⟩ := asked_shape q
        obtain ⟨g, hg, k', hk', cg⟩ := tb c (by omega) r2
        obtain ⟨dx, hi⟩ := V.ins
        have nlv : l ≠ v := ne_of hl hi (by
          intro z
          injection z with _ _ z
          unfold lF vF at z
          cases z)
        have nlw : l ≠ w := ne_of hl V.lst (by intro z; cases z)
        refine ⟨_, rfl, d, c, es, g, rfl, rfl, KI, hg, g, _, rfl, k', hk', cg, _, rfl, l, CL, dl, _, _, rfl, hl, T.cl, T.nv, lF_ver _, _, rfl, ?_⟩
        refine ⟨v, w, h, s, hs, rfl, V, G s rfl, S, q, fun H' p s' e1 V' fr hp hp' => ?_⟩
        refine k H' p v w ?_ (.inl ⟨rfl, rfl⟩) (fun b ob hb _ hbv hbw => fr b ob hb hbv hbw) hp hp'
        rw [e1]
        refine ⟨⟨dl, fr l _ hl nlv nlw⟩, fun s2 hs2 => ?_⟩
        cases hs2
        exact V'
end
end Vn
namespace Vn
open PySem PySem.Spec PyProof.Rows L2
open Mu54 (Vernier State)
theorem cut_mid (pre hs r : List Int) (c : Int) : cutV ((pre ++ c :: (hs ++ r)).map V.int) (some ((pre.length + 1 : Nat) : Int)) (some ((pre.length + 1 + hs.length : Nat) : Int)) = hs.map V.int := by
  unfold cutV
  rw [HT.sIx_nat, HT.sIx_nat, List.length_map, List.length_append, List.length_cons, List.length_append]
  rw [Nat.min_eq_left (by omega), Nat.min_eq_left (by omega), ← List.map_drop, ← List.map_take]
  congr 1
  have e : pre ++ c :: (hs ++ r) = (pre ++ [c]) ++ (hs ++ r) := by simp
  rw [e, List.drop_left' (by simp), show pre.length + 1 + hs.length - (pre.length + 1) = hs.length by omega, List.take_left' rfl]
def handedL : List Nat := [4, 0, 1, 2, 1, 1, 0, 1, 1, 1, 1, 0, 0]
theorem handed_at {c : Int} {n k : Nat} (h : PyMu54.shape c = some (n, k)) : atI (handedL.map nV) c = some (nV n) := by
  obtain ⟨_, h⟩ := shape_cases h
  rcases h with ⟨rfl, rfl⟩ | ⟨rfl, rfl⟩ | ⟨rfl, rfl⟩ | ⟨rfl, rfl⟩ | ⟨rfl, rfl⟩ | ⟨rfl, rfl⟩ | ⟨rfl, rfl⟩ | ⟨rfl, rfl⟩ | ⟨rfl, rfl⟩ | ⟨rfl, rfl⟩ | ⟨rfl, rfl⟩ | ⟨rfl, rfl⟩ | ⟨rfl, rfl⟩ <;> rfl
/-- a list that is read and stays, apart from some objects -/
def Stays (K : PySem.W.Frag) (H : Hp) (a : Addr) (xs : List V) (bad : List Addr) : Prop := (∃ o, H a = some o ∧ (o = .lst xs ∨ ∃ fo, o = .frz fo (.lst xs)) ∧ a ∉ bad) ∨ ∀ H0, SqL K H0 a xs
theorem Stays.seq {K : PySem.W.Frag} {H : Hp} {a : Addr} {xs : List V} {bad : List Addr} (h : Stays K H a xs bad) : SqL K H a xs := by
  rcases h with ⟨o, ho, ho2, _⟩ | h
  · rcases ho2 with rfl | ⟨fo, rfl⟩
    · exact .inl (.inl ho)
    · exact .inl (.inr ⟨fo, ho⟩)
  · exact h H
theorem Stays.of {K : PySem.W.Frag} {H H' : Hp} {a : Addr} {xs : List V} {bad : List Addr} (h : SqL K H a xs) (s : Same H H') (hb : ∀ o, H a = some o → a ∉ bad) : Stays K H' a xs bad := by
  rcases h with (h | ⟨fo, h⟩) | h
  · exact .inl ⟨_, s _ _ h, .inl rfl, hb _ h⟩
  · exact .inl ⟨_, s _ _ h, .inr ⟨fo, rfl⟩, hb _ h⟩
  · exact .inr fun H0 => .inr h
theorem Stays.go {K : PySem.W.Frag} {H H' : Hp} {a : Addr} {xs : List V} {bad bad' : List Addr} (h : Stays K H a xs bad) (s : ∀ o, H a = some o → a ∉ bad → H' a = some o ∧ a ∉ bad') : Stays K H' a xs bad' := by
  rcases h with ⟨o, ho, ho2, hb⟩ | h
  · obtain ⟨h1, h2⟩ := s o ho hb
    exact .inl ⟨o, h1, ho2, h2⟩
  · exact .inr h
section
variable {P : Program} {w : World} {K : PySem.W.Frag} {mg : Str → Option Value} {base : Heap} {C CL : Addr}
/-! ### answers -/
def spAns (K : PySem.W.Frag) : Sp := fun vs H Q _ => ∃ (a : Addr) (ns : List Int), vs = [.ref a] ∧ SqL K H a (ns.map V.int) ∧ PyMu54.answers_asked ns = true ∧
  ∀ (H' : Hp) (p : Addr), H' p = some (.lst ((PyMu54.answers ns).map V.int)) → Q (.ref p) H'
theorem scAns : FnScope ["calls", "line", "given", "place", "number", "behind", "answer"] ["calls"] (defScope sAns) := ⟨rfl, rfl, rfl, by decide +kernel, rfl, by decide +kernel, by decide +kernel⟩
theorem ok_ans {f fI : Addr} {fd fdI : FuncData} (F : Fun K "answers" "answers" sAns f fd) (hlen : mg "len" = none) (hho : ∃ ht, mg "HANDED_OVER" = some (.ref ht) ∧ ∀ H, SqT K H ht (handedL.map nV))
    (M : Mk K CL fI) (gC : mg "Line" = some (.ref CL)) (GI : FnOk P w K mg base CX0 1 fI fdI ["self"] (spLInit CL)) (bI : Binds K fdI ["self"] []) (cT : Cal P w K mg base 6 "answer_to" (spTo K CL C)) : FnOk P w K mg base CX0 7 f fd ["calls"] (spAns K) := by
  refine F.ok scAns (fun vs H Q E h => ?_) (fun cdv A outer s H vs Q E hr h => ?_)
  · obtain ⟨a, ns, rfl, _⟩ := h
    rfl
  · obtain ⟨a, ns, rfl, S, q, k⟩ := h
    obtain ⟨ht, hht, ST⟩ := hho
    refine ⟨_, pss_cons (ps_set (i := 1) scAns.nd rfl (Or.inl rfl) (pe_make0 M GI (hr.mono (by decide)) rfl gC bI .nil pass0))
      (pss_cons (ps_set (i := 2) scAns.nd rfl (Or.inl rfl) (pe_lst pa_nil))
      (pss_cons (ps_set (i := 3) scAns.nd rfl (Or.inl rfl) pe_int)
      (pss_cons (ps_while PassesOwn.never (pt_cmpR op_lt (pv 3) (pe_callB call_len_seq (by rfl) hlen PySem.boot_len (pa_cons (pv 0) pa_nil)) (nomark _))
        (pss_cons (ps_set (i := 4) scAns.nd rfl (Or.inl rfl) (pe_ix ix_list (pv 0) (pv 3) (fun _ _ => rfl)))
        (pss_cons (ps_set (i := 5) scAns.nd rfl (Or.inl rfl) (pe_op op_add (pe_op op_add (pv 3) pe_int) (pe_ix ix_tup (pe_glob (v := .ref ht) rfl hht rfl) (pv 4) (fun _ _ => rfl))))
        (pss_cons (ps_set (i := 6) scAns.nd rfl (Or.inl rfl) (pe_c cT hr (by decide) rfl (pa_cons (pv 1) (pa_cons (pv 4) (pa_cons (pe_slice sl_list (pv 0) (po_some (pe_op op_add (pv 3) pe_int)) (po_some (pv 5))) pa_nil)))))
        (pss_cons (ps_expr (pe_bm PySem.F.plainAttrs_list PySem.F.slot_list_append PySem.F.type_list_append mt_append (pv 2) (pa_cons (pe_callB call_len_seq (by rfl) hlen PySem.boot_len (pa_cons (pv 6) pa_nil)) pa_nil)))
        (pss_cons (ps_expr (pe_bm PySem.F.plainAttrs_list PySem.F.slot_list_extend PySem.F.type_list_extend mt_extend (pv 2) (pa_cons (pv 6) pa_nil)))
        (pss_one (ps_set (i := 3) scAns.nd rfl (Or.inl rfl) (pv 5)))))))))
      (pss_one (ps_ret (pv 2)))))), ?_⟩
    obtain ⟨cs0, runs0, _, hcs60, hask, eans, hlen7⟩ := asked_runs q
    -- line = Line()
    intro l dl nl ndl nel
    refine ⟨l, dl, rfl, upd_same, fun H1 hl1 kp => ⟨rfl, ?_⟩⟩
    have s1 : Same H H1 := Same.made nl ndl kp
    -- given = []
    refine ⟨by decide, fun g hg => ?_⟩
    have ngl : g ≠ l := (ne_of_none hl1 hg).symm
    have hg0 : H g = none := s1.free hg
    have s2 := s1.trans (same_upd (o := HO.lst []) hg)
    refine while_by (fun σ H' => ∃ (pre rest : List Int) (cs : List (List Int)) (o : Option State) (v w : Addr) (acc : List Int) (cnt : Nat) (z4 z5 z6 : Option V),
        σ = [some (.ref a), some (.ref l), some (.ref g), some (nV pre.length), z4, z5, z6] ∧ ns = pre ++ rest ∧ Runs rest cs ∧ (∀ c ∈ cs, Mu54Neutral.asked1 c = true) ∧ cnt + cs.length ≤ 60 ∧ (∀ s, o = some s → Good cnt s) ∧
        PyMu54.answers ns = acc ++ tellAll o cs ∧ LAt CL C H' l v w o ∧ H' g = some (.lst (acc.map V.int)) ∧ g ≠ v ∧ g ≠ w ∧ Stays K H' a (ns.map V.int) [l, g, v, w])
      (fun σ _ => match σ with | [_, _, _, some (.int i), _, _, _] => ns.length - i.toNat | _ => 0) ?_ ?_ ?_
    · refine ⟨[], ns, cs0, none, l, l, [], 0, none, none, none, rfl, rfl, runs0, hask, by omega, (fun s hs => nomatch hs), by rw [eans]; rfl, ⟨⟨dl, ?_⟩, fun s hs => nomatch hs⟩, upd_same, ngl, ngl, ?_⟩
      · rw [upd_ne ngl.symm]
        exact hl1
      · refine Stays.of S s2 fun o ho hm => ?_
        simp only [List.mem_cons, List.not_mem_nil, or_false] at hm
        have e1 : a ≠ l := ne_of_none ho nl
        have e2 : a ≠ g := ne_of_none ho hg0
        rcases hm with rfl | rfl | rfl | rfl
        · exact e1 rfl
        · exact e2 rfl
        · exact e1 rfl
        · exact e1 rfl
    · rintro σ H' ⟨pre, rest, cs, o, v, w, acc, cnt, z4, z5, z6, rfl, ens, runs, ask, hcnt, G, ea, L, hg', ngv, ngw, ST'⟩
      refine ⟨_, rfl, _, rfl, a, _, rfl, .inl ST'.seq, _, _, rfl, rfl, _, rfl, ?_⟩
      have ln : ns.length = pre.length + rest.length := by rw [ens, List.length_append]
      have ln2 : (ns.map V.int).length = pre.length + rest.length := by rw [List.length_map, ln]
      by_cases c : ((pre.length : Nat) : Int) < (((ns.map V.int).length : Nat) : Int)
      · refine if_true_of (decide_eq_true c) ?_
        cases runs with
        | nil =>
          rw [ln2] at c
          simp at c
        | @cons c hs r cs hsh runs =>
          have hitem : (ns.map V.int)[pre.length]? = some (.int c) := by
            rw [ens, List.getElem?_map, List.getElem?_append_right (Nat.le_refl _), Nat.sub_self]
            rfl
          have hcut : cutV (ns.map V.int) (some ((pre.length + 1 : Nat) : Int)) (some ((pre.length + 1 + hs.length : Nat) : Int)) = hs.map V.int := by
            rw [ens]
            exact cut_mid pre hs r c
          refine ⟨_, rfl, _, rfl, a, _, _, _, rfl, rfl, ST'.seq, atI_nat hitem, ?_⟩
          refine ⟨_, rfl, _, _, rfl, rfl, _, rfl, ht, _, _, _, rfl, rfl, ST _, handed_at hsh, _, _, rfl, rfl, ?_⟩
          refine ⟨_, rfl, _, rfl, _, rfl, _, rfl, _, _, rfl, rfl, ((pre.length + 1 : Nat) : Int), rfl, _, rfl, ((pre.length + 1 + hs.length : Nat) : Int), rfl, a, _, rfl, ST'.seq, fun d hd => ?_⟩
          rw [hcut]
          have sd := same_upd (o := HO.lst (hs.map V.int)) hd
          have L1 : LAt CL C (upd H' d (.lst (hs.map V.int))) l v w o := by
            obtain ⟨dl', hl'⟩ := L.lin
            exact ⟨⟨dl', sd _ _ hl'⟩, fun s hs => (L.ver s hs).keep sd⟩
          have hask1 := ask (c :: hs) List.mem_cons_self
          refine ⟨l, v, w, d, o, c, hs, rfl, L1, fun s hs => (G s hs).mono (by rw [List.length_cons] at hcnt; omega), SqL.of upd_same, hask1, fun H2 p v' w' L2' hvw fr hp hp2 => ?_⟩
          have ndg : g ≠ d := ne_of_none hg' hd
          have hg2 : H2 g = some (.lst (acc.map V.int)) := fr g _ (sd _ _ hg') ngl ngv ngw
          have ngp : g ≠ p := ne_of_none (sd _ _ hg') hp
          have tell : tellAll o ((c :: hs) :: cs) = (((Mu54Neutral.step o (c :: hs)).2.length : Nat) : Int) :: ((Mu54Neutral.step o (c :: hs)).2 ++ tellAll (Mu54Neutral.step o (c :: hs)).1 cs) := rfl
          have size : acc.length + 1 + (Mu54Neutral.step o (c :: hs)).2.length ≤ 10000000 := by
            rw [ea, tell, List.length_append, List.length_cons, List.length_append] at hlen7
            omega
          have szl : 10000000 < sizeLine := by decide
          -- given.append(len(answer))
          refine ⟨_, rfl, .inl ⟨rfl, _, SqL.of hg2⟩, _, rfl, p, _, rfl, .inl (SqL.of hp2), ?_⟩
          refine ⟨g, _, _, rfl, rfl, hg2, by rw [List.length_map]; omega, ?_⟩
          -- given.extend(answer)
          refine ⟨_, rfl, .inl ⟨rfl, _, SqL.of upd_same⟩, _, rfl, g, p, _, _, rfl, rfl, upd_same, (upd_ne ngp.symm).trans hp2, ?_, ?_⟩
          · rw [List.length_append, List.length_map, List.length_map]
            simp only [List.length_cons, List.length_nil]
            omega
          · rw [upd_upd]
            have el : (pre ++ c :: hs).length = pre.length + 1 + hs.length := by
              rw [List.length_append, List.length_cons]
              omega
            have ngv' : g ≠ v' := by
              rcases hvw with ⟨rfl, _⟩ | ⟨h1, _⟩
              · exact ngv
              · exact ne_of_none (sd _ _ hg') h1
            have ngw' : g ≠ w' := by
              rcases hvw with ⟨_, rfl⟩ | ⟨_, h1⟩
              · exact ngw
              · exact ne_of_none (sd _ _ hg') h1
            refine ⟨_, rfl, ⟨pre ++ c :: hs, r, cs, (Mu54Neutral.step o (c :: hs)).1, v', w', acc ++ ((((Mu54Neutral.step o (c :: hs)).2.length : Nat) : Int) :: (Mu54Neutral.step o (c :: hs)).2), cnt + 1, some (.int c), some (nV (pre.length + 1 + hs.length)), some (.ref p), ?_, ?_, runs, fun x hx => ask x (List.mem_cons_of_mem _ hx), ?_, good_next G, ?_, ?_, ?_, ngv', ngw', ?_⟩, ?_⟩
            · rw [el]
              rfl
            · rw [ens]
              simp
            · rw [List.length_cons] at hcnt
              omega
            · rw [ea, tell]
              simp
            · obtain ⟨dl', hl'⟩ := L2'.lin
              refine ⟨⟨dl', by rw [upd_ne ngl.symm]; exact hl'⟩, fun s hs => ?_⟩
              have V := L2'.ver s hs
              obtain ⟨dx, hi⟩ := V.ins
              exact ⟨⟨dx, by rw [upd_ne ngv'.symm]; exact hi⟩, by rw [upd_ne ngw'.symm]; exact V.lst⟩
            · rw [upd_same, List.map_append, List.map_cons, List.append_assoc, List.length_map]
              rfl
            · refine ST'.go fun o1 ho hb => ?_
              simp only [List.mem_cons, List.not_mem_nil, or_false, not_or] at hb ⊢
              obtain ⟨b1, b2, b3, b4⟩ := hb
              have ho2 := sd _ _ ho
              refine ⟨?_, b1, b2, ?_, ?_⟩
              · rw [upd_ne b2]
                exact fr a _ ho2 b1 b3 b4
              · rcases hvw with ⟨rfl, _⟩ | ⟨h1, _⟩
                · exact b3
                · exact ne_of_none ho2 h1
              · rcases hvw with ⟨_, rfl⟩ | ⟨_, h1⟩
                · exact b4
                · exact ne_of_none ho2 h1
            · show ns.length - (((pre.length : Int) + 1) + (hs.length : Int)).toNat < ns.length - ((pre.length : Nat) : Int).toNat
              rw [ln, List.length_cons, List.length_append]
              omega
      · refine if_false_of (decide_eq_false c) ?_
        rw [ln2] at c
        have er : rest = [] := List.eq_nil_of_length_eq_zero (by omega)
        subst er
        cases runs
        have ea : PyMu54.answers ns = acc := by rw [ea]; exact List.append_nil _
        refine ⟨_, rfl, k H' g ?_⟩
        rw [ea]
        exact hg'
    · rintro σ H' Q1 Q2 m ⟨v1, e1, v2, e2, p, ys, e3, e4, i, j, e5, e6, z, e7, q⟩
      exact ⟨v1, e1, v2, e2, p, ys, e3, e4, i, j, e5, e6, z, e7, m _ _ q⟩
end
end Vn
namespace Vn
open PySem PySem.Spec PyProof.Rows L2
open PySem.W (Codec)
open Mu54 (Vernier State)
theorem all_mk {P : Program} {w : World} {K : PySem.W.Frag} {h : Heap} {mg : Str → Option Value} {fa C CL ht d : Addr} {fFin fTur fHas fLen fPla fFar fAlo fMee fPlr fFit fFur fBeg fCou fFine fMeets fOut fNear fSlides fStep fWear fReadable fZero fSlide fRead fLook fTo fAns fVI fLI : Addr} (X : K.In h) (G : h.Ns mainGlobals mg) (hfa : mg "answers" = some (.ref fa))
    {odFin anFin odTur anTur odHas anHas odLen anLen odPla anPla odFar anFar odAlo anAlo odMee anMee odPlr anPlr odFit anFit odFur anFur odBeg anBeg odCou anCou odFine anFine odMeets anMeets odOut anOut odNear anNear odSlides anSlides odStep anStep odWear anWear odReadable anReadable odZero anZero odSlide anSlide odRead anRead odLook anLook odTo anTo odAns anAns odVI anVI odLI anLI ddH : Option Addr} {slFin slTur slHas slLen slPla slFar slAlo slMee slPlr slFit slFur slBeg slCou slFine slMeets slOut slNear slSlides slStep slWear slReadable slZero slSlide slRead slLook slTo slAns slVI slLI slH : Array (Option Value)} {ocFin kVFin dcFin pmFin cdFin ctFin ocTur kVTur dcTur pmTur cdTur ctTur ocHas kVHas dcHas pmHas cdHas ctHas ocLen kVLen dcLen pmLen cdLen ctLen ocPla kVPla dcPla pmPla cdPla ctPla ocFar kVFar dcFar pmFar cdFar ctFar ocAlo kVAlo dcAlo pmAlo cdAlo ctAlo ocMee kVMee dcMee pmMee cdMee ctMee ocPlr kVPlr dcPlr pmPlr cdPlr ctPlr ocFit kVFit dcFit pmFit cdFit ctFit ocFur kVFur dcFur pmFur cdFur ctFur ocBeg kVBeg dcBeg pmBeg cdBeg ctBeg ocCou kVCou dcCou pmCou cdCou ctCou ocFine kVFine dcFine pmFine cdFine ctFine ocMeets kVMeets dcMeets pmMeets cdMeets ctMeets ocOut kVOut dcOut pmOut cdOut ctOut ocNear kVNear dcNear pmNear cdNear ctNear ocSlides kVSlides dcSlides pmSlides cdSlides ctSlides ocStep kVStep dcStep pmStep cdStep ctStep ocWear kVWear dcWear pmWear cdWear ctWear ocReadable kVReadable dcReadable pmReadable cdReadable ctReadable ocZero kVZero dcZero pmZero cdZero ctZero ocSlide kVSlide dcSlide pmSlide cdSlide ctSlide ocRead kVRead dcRead pmRead cdRead ctRead ocLook kVLook dcLook pmLook cdLook ctLook ocTo kVTo dcTo pmTo cdTo ctTo ocAns kVAns dcAns pmAns cdAns ctAns ocVI kVVI dcVI pmVI cdVI ctVI ocLI kVLI dcLI pmLI cdLI ctLI : Value}
    {itsH : Array Value} {esD : Array DictEntry} {nH nD : Nat} {tna two tnt tnv tmo tbe : Tok}
    (aC : PySem.W.nsIn K mainGlobals "Vernier" = some (some (.ref C)))
    (aL : PySem.W.nsIn K mainGlobals "Line" = some (some (.ref CL)))
    (aVI : PySem.W.findIn K (.ref C) "__init__" = some (some (.ref fVI)))
    (iVI : PySem.W.isFn K (.ref fVI) = true)
    (lVI : K.lookup fVI = some ⟨ocVI, odVI, .func (PySem.W.fnOf "__init__" "Vernier.__init__" (defArgs sVInit) (defBody sVInit) (defScope sVInit) .none kVVI dcVI pmVI anVI cdVI ctVI), slVI⟩)
    (cVI : PySem.W.codeIn K cdVI "Vernier.__init__" = true)
    (kVI : PySem.W.keepIn K (.ref fVI) = true)
    (aLI : PySem.W.findIn K (.ref CL) "__init__" = some (some (.ref fLI)))
    (iLI : PySem.W.isFn K (.ref fLI) = true)
    (lLI : K.lookup fLI = some ⟨ocLI, odLI, .func (PySem.W.fnOf "__init__" "Line.__init__" (defArgs sLInit) (defBody sLInit) (defScope sLInit) .none kVLI dcLI pmLI anLI cdLI ctLI), slLI⟩)
    (cLI : PySem.W.codeIn K cdLI "Line.__init__" = true)
    (kLI : PySem.W.keepIn K (.ref fLI) = true)
    (aFin : PySem.W.nsIn K mainGlobals "fineness" = some (some (.ref fFin)))
    (lFin : K.lookup fFin = some ⟨ocFin, odFin, .func (PySem.W.fnOf "fineness" "fineness" (defArgs sFineness) (defBody sFineness) (defScope sFineness) .none kVFin dcFin pmFin anFin cdFin ctFin), slFin⟩)
    (cFin : PySem.W.codeIn K cdFin "fineness" = true)
    (kFin : PySem.W.keepIn K (.ref fFin) = true)
    (aTur : PySem.W.nsIn K mainGlobals "turns_needed" = some (some (.ref fTur)))
    (lTur : K.lookup fTur = some ⟨ocTur, odTur, .func (PySem.W.fnOf "turns_needed" "turns_needed" (defArgs sTurns) (defBody sTurns) (defScope sTurns) .none kVTur dcTur pmTur anTur cdTur ctTur), slTur⟩)
    (cTur : PySem.W.codeIn K cdTur "turns_needed" = true)
    (kTur : PySem.W.keepIn K (.ref fTur) = true)
    (aHas : PySem.W.nsIn K mainGlobals "has_marks_for" = some (some (.ref fHas)))
    (lHas : K.lookup fHas = some ⟨ocHas, odHas, .func (PySem.W.fnOf "has_marks_for" "has_marks_for" (defArgs sHas) (defBody sHas) (defScope sHas) .none kVHas dcHas pmHas anHas cdHas ctHas), slHas⟩)
    (cHas : PySem.W.codeIn K cdHas "has_marks_for" = true)
    (kHas : PySem.W.keepIn K (.ref fHas) = true)
    (aLen : PySem.W.nsIn K mainGlobals "scale_length" = some (some (.ref fLen)))
    (lLen : K.lookup fLen = some ⟨ocLen, odLen, .func (PySem.W.fnOf "scale_length" "scale_length" (defArgs sLength) (defBody sLength) (defScope sLength) .none kVLen dcLen pmLen anLen cdLen ctLen), slLen⟩)
    (cLen : PySem.W.codeIn K cdLen "scale_length" = true)
    (kLen : PySem.W.keepIn K (.ref fLen) = true)
    (aPla : PySem.W.nsIn K mainGlobals "place_of" = some (some (.ref fPla)))
    (lPla : K.lookup fPla = some ⟨ocPla, odPla, .func (PySem.W.fnOf "place_of" "place_of" (defArgs sPlace) (defBody sPlace) (defScope sPlace) .none kVPla dcPla pmPla anPla cdPla ctPla), slPla⟩)
    (cPla : PySem.W.codeIn K cdPla "place_of" = true)
    (kPla : PySem.W.keepIn K (.ref fPla) = true)
    (aFar : PySem.W.nsIn K mainGlobals "far_off" = some (some (.ref fFar)))
    (lFar : K.lookup fFar = some ⟨ocFar, odFar, .func (PySem.W.fnOf "far_off" "far_off" (defArgs sFar) (defBody sFar) (defScope sFar) .none kVFar dcFar pmFar anFar cdFar ctFar), slFar⟩)
    (cFar : PySem.W.codeIn K cdFar "far_off" = true)
    (kFar : PySem.W.keepIn K (.ref fFar) = true)
    (aAlo : PySem.W.nsIn K mainGlobals "marks_along_scale" = some (some (.ref fAlo)))
    (lAlo : K.lookup fAlo = some ⟨ocAlo, odAlo, .func (PySem.W.fnOf "marks_along_scale" "marks_along_scale" (defArgs sAlong) (defBody sAlong) (defScope sAlong) .none kVAlo dcAlo pmAlo anAlo cdAlo ctAlo), slAlo⟩)
    (cAlo : PySem.W.codeIn K cdAlo "marks_along_scale" = true)
    (kAlo : PySem.W.keepIn K (.ref fAlo) = true)
    (aMee : PySem.W.nsIn K mainGlobals "meeting_marks" = some (some (.ref fMee)))
    (lMee : K.lookup fMee = some ⟨ocMee, odMee, .func (PySem.W.fnOf "meeting_marks" "meeting_marks" (defArgs sMeeting) (defBody sMeeting) (defScope sMeeting) .none kVMee dcMee pmMee anMee cdMee ctMee), slMee⟩)
    (cMee : PySem.W.codeIn K cdMee "meeting_marks" = true)
    (kMee : PySem.W.keepIn K (.ref fMee) = true)
    (aPlr : PySem.W.nsIn K mainGlobals "places_read" = some (some (.ref fPlr)))
    (lPlr : K.lookup fPlr = some ⟨ocPlr, odPlr, .func (PySem.W.fnOf "places_read" "places_read" (defArgs sPlaces) (defBody sPlaces) (defScope sPlaces) .none kVPlr dcPlr pmPlr anPlr cdPlr ctPlr), slPlr⟩)
    (cPlr : PySem.W.codeIn K cdPlr "places_read" = true)
    (kPlr : PySem.W.keepIn K (.ref fPlr) = true)
    (aFit : PySem.W.nsIn K mainGlobals "fits" = some (some (.ref fFit)))
    (lFit : K.lookup fFit = some ⟨ocFit, odFit, .func (PySem.W.fnOf "fits" "fits" (defArgs sFits) (defBody sFits) (defScope sFits) .none kVFit dcFit pmFit anFit cdFit ctFit), slFit⟩)
    (cFit : PySem.W.codeIn K cdFit "fits" = true)
    (kFit : PySem.W.keepIn K (.ref fFit) = true)
    (aFur : PySem.W.nsIn K mainGlobals "marks_further" = some (some (.ref fFur)))
    (lFur : K.lookup fFur = some ⟨ocFur, odFur, .func (PySem.W.fnOf "marks_further" "marks_further" (defArgs sFurther) (defBody sFurther) (defScope sFurther) .none kVFur dcFur pmFur anFur cdFur ctFur), slFur⟩)
    (cFur : PySem.W.codeIn K cdFur "marks_further" = true)
    (kFur : PySem.W.keepIn K (.ref fFur) = true)
    (aBeg : PySem.W.nsIn K mainGlobals "begin" = some (some (.ref fBeg)))
    (lBeg : K.lookup fBeg = some ⟨ocBeg, odBeg, .func (PySem.W.fnOf "begin" "begin" (defArgs sBegin) (defBody sBegin) (defScope sBegin) .none kVBeg dcBeg pmBeg anBeg cdBeg ctBeg), slBeg⟩)
    (cBeg : PySem.W.codeIn K cdBeg "begin" = true)
    (kBeg : PySem.W.keepIn K (.ref fBeg) = true)
    (aCou : PySem.W.nsIn K mainGlobals "counted" = some (some (.ref fCou)))
    (lCou : K.lookup fCou = some ⟨ocCou, odCou, .func (PySem.W.fnOf "counted" "counted" (defArgs sCounted) (defBody sCounted) (defScope sCounted) .none kVCou dcCou pmCou anCou cdCou ctCou), slCou⟩)
    (cCou : PySem.W.codeIn K cdCou "counted" = true)
    (kCou : PySem.W.keepIn K (.ref fCou) = true)
    (aFine : PySem.W.nsIn K mainGlobals "fine" = some (some (.ref fFine)))
    (lFine : K.lookup fFine = some ⟨ocFine, odFine, .func (PySem.W.fnOf "fine" "fine" (defArgs sFine) (defBody sFine) (defScope sFine) .none kVFine dcFine pmFine anFine cdFine ctFine), slFine⟩)
    (cFine : PySem.W.codeIn K cdFine "fine" = true)
    (kFine : PySem.W.keepIn K (.ref fFine) = true)
    (aMeets : PySem.W.nsIn K mainGlobals "meets" = some (some (.ref fMeets)))
    (lMeets : K.lookup fMeets = some ⟨ocMeets, odMeets, .func (PySem.W.fnOf "meets" "meets" (defArgs sMeets) (defBody sMeets) (defScope sMeets) .none kVMeets dcMeets pmMeets anMeets cdMeets ctMeets), slMeets⟩)
    (cMeets : PySem.W.codeIn K cdMeets "meets" = true)
    (kMeets : PySem.W.keepIn K (.ref fMeets) = true)
    (aOut : PySem.W.nsIn K mainGlobals "out" = some (some (.ref fOut)))
    (lOut : K.lookup fOut = some ⟨ocOut, odOut, .func (PySem.W.fnOf "out" "out" (defArgs sOut) (defBody sOut) (defScope sOut) .none kVOut dcOut pmOut anOut cdOut ctOut), slOut⟩)
    (cOut : PySem.W.codeIn K cdOut "out" = true)
    (kOut : PySem.W.keepIn K (.ref fOut) = true)
    (aNear : PySem.W.nsIn K mainGlobals "nearest" = some (some (.ref fNear)))
    (lNear : K.lookup fNear = some ⟨ocNear, odNear, .func (PySem.W.fnOf "nearest" "nearest" (defArgs sNearest) (defBody sNearest) (defScope sNearest) .none kVNear dcNear pmNear anNear cdNear ctNear), slNear⟩)
    (cNear : PySem.W.codeIn K cdNear "nearest" = true)
    (kNear : PySem.W.keepIn K (.ref fNear) = true)
    (aSlides : PySem.W.nsIn K mainGlobals "slides" = some (some (.ref fSlides)))
    (lSlides : K.lookup fSlides = some ⟨ocSlides, odSlides, .func (PySem.W.fnOf "slides" "slides" (defArgs sSlides) (defBody sSlides) (defScope sSlides) .none kVSlides dcSlides pmSlides anSlides cdSlides ctSlides), slSlides⟩)
    (cSlides : PySem.W.codeIn K cdSlides "slides" = true)
    (kSlides : PySem.W.keepIn K (.ref fSlides) = true)
    (aStep : PySem.W.nsIn K mainGlobals "step" = some (some (.ref fStep)))
    (lStep : K.lookup fStep = some ⟨ocStep, odStep, .func (PySem.W.fnOf "step" "step" (defArgs sStep) (defBody sStep) (defScope sStep) .none kVStep dcStep pmStep anStep cdStep ctStep), slStep⟩)
    (cStep : PySem.W.codeIn K cdStep "step" = true)
    (kStep : PySem.W.keepIn K (.ref fStep) = true)
    (aWear : PySem.W.nsIn K mainGlobals "wear" = some (some (.ref fWear)))
    (lWear : K.lookup fWear = some ⟨ocWear, odWear, .func (PySem.W.fnOf "wear" "wear" (defArgs sWear) (defBody sWear) (defScope sWear) .none kVWear dcWear pmWear anWear cdWear ctWear), slWear⟩)
    (cWear : PySem.W.codeIn K cdWear "wear" = true)
    (kWear : PySem.W.keepIn K (.ref fWear) = true)
    (aReadable : PySem.W.nsIn K mainGlobals "readable" = some (some (.ref fReadable)))
    (lReadable : K.lookup fReadable = some ⟨ocReadable, odReadable, .func (PySem.W.fnOf "readable" "readable" (defArgs sReadable) (defBody sReadable) (defScope sReadable) .none kVReadable dcReadable pmReadable anReadable cdReadable ctReadable), slReadable⟩)
    (cReadable : PySem.W.codeIn K cdReadable "readable" = true)
    (kReadable : PySem.W.keepIn K (.ref fReadable) = true)
    (aZero : PySem.W.nsIn K mainGlobals "zero" = some (some (.ref fZero)))
    (lZero : K.lookup fZero = some ⟨ocZero, odZero, .func (PySem.W.fnOf "zero" "zero" (defArgs sZero) (defBody sZero) (defScope sZero) .none kVZero dcZero pmZero anZero cdZero ctZero), slZero⟩)
    (cZero : PySem.W.codeIn K cdZero "zero" = true)
    (kZero : PySem.W.keepIn K (.ref fZero) = true)
    (aSlide : PySem.W.nsIn K mainGlobals "slide" = some (some (.ref fSlide)))
    (lSlide : K.lookup fSlide = some ⟨ocSlide, odSlide, .func (PySem.W.fnOf "slide" "slide" (defArgs sSlide) (defBody sSlide) (defScope sSlide) .none kVSlide dcSlide pmSlide anSlide cdSlide ctSlide), slSlide⟩)
    (cSlide : PySem.W.codeIn K cdSlide "slide" = true)
    (kSlide : PySem.W.keepIn K (.ref fSlide) = true)
    (aRead : PySem.W.nsIn K mainGlobals "read" = some (some (.ref fRead)))
    (lRead : K.lookup fRead = some ⟨ocRead, odRead, .func (PySem.W.fnOf "read" "read" (defArgs sRead) (defBody sRead) (defScope sRead) .none kVRead dcRead pmRead anRead cdRead ctRead), slRead⟩)
    (cRead : PySem.W.codeIn K cdRead "read" = true)
    (kRead : PySem.W.keepIn K (.ref fRead) = true)
    (aLook : PySem.W.nsIn K mainGlobals "look" = some (some (.ref fLook)))
    (lLook : K.lookup fLook = some ⟨ocLook, odLook, .func (PySem.W.fnOf "look" "look" (defArgs sLook) (defBody sLook) (defScope sLook) .none kVLook dcLook pmLook anLook cdLook ctLook), slLook⟩)
    (cLook : PySem.W.codeIn K cdLook "look" = true)
    (kLook : PySem.W.keepIn K (.ref fLook) = true)
    (aTo : PySem.W.nsIn K mainGlobals "answer_to" = some (some (.ref fTo)))
    (lTo : K.lookup fTo = some ⟨ocTo, odTo, .func (PySem.W.fnOf "answer_to" "answer_to" (defArgs sTo) (defBody sTo) (defScope sTo) .none kVTo dcTo pmTo anTo cdTo ctTo), slTo⟩)
    (cTo : PySem.W.codeIn K cdTo "answer_to" = true)
    (kTo : PySem.W.keepIn K (.ref fTo) = true)
    (aAns : PySem.W.nsIn K mainGlobals "answers" = some (some (.ref fAns)))
    (lAns : K.lookup fAns = some ⟨ocAns, odAns, .func (PySem.W.fnOf "answers" "answers" (defArgs sAns) (defBody sAns) (defScope sAns) .none kVAns dcAns pmAns anAns cdAns ctAns), slAns⟩)
    (cAns : PySem.W.codeIn K cdAns "answers" = true)
    (kAns : PySem.W.keepIn K (.ref fAns) = true)
    (pgC : PySem.W.plainGet K C Str.empty = true)
    (hdC : PySem.W.hasDictIn K C = true)
    (poC : PySem.W.plainOver K C = true)
    (saC : PySem.W.findIn K (.ref C) "__setattr__" = some (some (.builtin "object.__setattr__")))
    (mkC : PySem.W.makesIn K C = true)
    (kcC : PySem.W.keepIn K (.ref C) = true)
    (nC_a : PySem.W.findIn K (.ref C) "a" = some none)
    (nC_b : PySem.W.findIn K (.ref C) "b" = some none)
    (nC_m : PySem.W.findIn K (.ref C) "m" = some none)
    (nC_n : PySem.W.findIn K (.ref C) "n" = some none)
    (nC_zero : PySem.W.findIn K (.ref C) "zero" = some none)
    (nC_out_by : PySem.W.findIn K (.ref C) "out_by" = some none)
    (nC_worn : PySem.W.findIn K (.ref C) "worn" = some none)
    (pgL : PySem.W.plainGet K CL Str.empty = true)
    (hdL : PySem.W.hasDictIn K CL = true)
    (poL : PySem.W.plainOver K CL = true)
    (saL : PySem.W.findIn K (.ref CL) "__setattr__" = some (some (.builtin "object.__setattr__")))
    (mkL : PySem.W.makesIn K CL = true)
    (kcL : PySem.W.keepIn K (.ref CL) = true)
    (nL_vernier : PySem.W.findIn K (.ref CL) "vernier" = some none)
    (gna : PySem.W.nsIn K mainGlobals "NOT_ALLOWED" = some (some (.int (-1) tna)))
    (gwo : PySem.W.nsIn K mainGlobals "WORN_OFF" = some (some (.int (-3) two)))
    (gnt : PySem.W.nsIn K mainGlobals "NOT_THERE" = some (some (.int (-6) tnt)))
    (gnv : PySem.W.nsIn K mainGlobals "NO_VERNIER" = some (some (.int (-9) tnv)))
    (gmo : PySem.W.nsIn K mainGlobals "MOST" = some (some (.int (60) tmo)))
    (gbe : PySem.W.nsIn K mainGlobals "BEGIN" = some (some (.int (0) tbe)))
    (zlen : PySem.W.nsIn K mainGlobals "len" = some none)
    (zrange : PySem.W.nsIn K mainGlobals "range" = some none)
    (zmin : PySem.W.nsIn K mainGlobals "min" = some none)
    (zlist : PySem.W.nsIn K mainGlobals "list" = some none)
    (aH : PySem.W.nsIn K mainGlobals "HANDED_OVER" = some (some (.ref ht)))
    (lH : K.lookup ht = some ⟨.type "tuple", ddH, .seq itsH nH, slH⟩)
    (vH : Vals (handedL.map nV) itsH.toList)
    (sH : itsH.size ≤ sizeLine)
    (aD : PySem.W.nsIn K mainGlobals "ANSWERED_BY" = some (some (.ref d)))
    (lD : K.lookup d = some ⟨.type "dict", none, .dict esD nD, #[]⟩)
    (kD : ∀ e ∈ esD.toList, ∃ k t, e.key = .int k t ∧ e.hash = hashInt k)
    (tD1 : findBy Value.isInt esD 1 = some (.ref fFine))
    (tD2 : findBy Value.isInt esD 2 = some (.ref fMeets))
    (tD3 : findBy Value.isInt esD 3 = some (.ref fOut))
    (tD4 : findBy Value.isInt esD 4 = some (.ref fNear))
    (tD5 : findBy Value.isInt esD 5 = some (.ref fSlides))
    (tD6 : findBy Value.isInt esD 6 = some (.ref fStep))
    (tD7 : findBy Value.isInt esD 7 = some (.ref fWear))
    (tD8 : findBy Value.isInt esD 8 = some (.ref fReadable))
    (tD9 : findBy Value.isInt esD 9 = some (.ref fZero))
    (tD10 : findBy Value.isInt esD 10 = some (.ref fSlide))
    (tD11 : findBy Value.isInt esD 11 = some (.ref fRead))
    (tD12 : findBy Value.isInt esD 12 = some (.ref fLook)) :
    ∃ fd : FuncData, (∀ (s : Shared) (us : List Value), us.length = (["calls"] : List Str).length → BindsTo s fd ⟨us, []⟩ ((["calls"] : List Str).zip us)) ∧ ∀ base : Heap, K.In base → base.Ns mainGlobals mg → FnOk P w K mg base CX0 7 fa fd ["calls"] (spAns K) := by
  have e := hfa.symm.trans (PySem.W.mg_of X G aAns)
  cases e
  have T : TV K C := ⟨⟨pgC, hdC, poC, saC⟩, nC_a, nC_b, nC_m, nC_n, nC_zero, nC_out_by, nC_worn⟩
  have TLl : TL K CL := ⟨⟨pgL, hdL, poL, saL⟩, nL_vernier⟩
  have hlen := PySem.W.mg_none_of X G zlen
  have hrange := PySem.W.mg_none_of X G zrange
  have hmin := PySem.W.mg_none_of X G zmin
  have hlist := PySem.W.mg_none_of X G zlist
  have hna : ∃ t, mg "NOT_ALLOWED" = some (.int (-1) t) := ⟨_, PySem.W.mg_of X G gna⟩
  have hwo : ∃ t, mg "WORN_OFF" = some (.int (-3) t) := ⟨_, PySem.W.mg_of X G gwo⟩
  have hnt : ∃ t, mg "NOT_THERE" = some (.int (-6) t) := ⟨_, PySem.W.mg_of X G gnt⟩
  have hnv : ∃ t, mg "NO_VERNIER" = some (.int (-9) t) := ⟨_, PySem.W.mg_of X G gnv⟩
  have hmo : ∃ t, mg "MOST" = some (.int (60) t) := ⟨_, PySem.W.mg_of X G gmo⟩
  have hbe : ∃ t, mg "BEGIN" = some (.int (0) t) := ⟨_, PySem.W.mg_of X G gbe⟩
  have gVer := PySem.W.mg_of X G aC
  have gLin := PySem.W.mg_of X G aL
  have FVI := fun_mk (st := sVInit) lVI cVI kVI
  have bVI := FVI.binds (ps := ["self", "a", "b", "m", "n"]) fun _ _ _ _ _ _ us hl => match us, hl with | [_, _, _, _, _], _ => rfl
  have FLI := fun_mk (st := sLInit) lLI cLI kLI
  have bLI := FLI.binds (ps := ["self"]) fun _ _ _ _ _ _ us hl => match us, hl with | [_], _ => rfl
  have FFin := fun_mk (st := sFineness) lFin cFin kFin
  have bFin := FFin.binds (ps := ["a", "b"]) fun _ _ _ _ _ _ us hl => match us, hl with | [_, _], _ => rfl
  have FTur := fun_mk (st := sTurns) lTur cTur kTur
  have bTur := FTur.binds (ps := ["a", "b"]) fun _ _ _ _ _ _ us hl => match us, hl with | [_, _], _ => rfl
  have FHas := fun_mk (st := sHas) lHas cHas kHas
  have bHas := FHas.binds (ps := ["vernier", "turns"]) fun _ _ _ _ _ _ us hl => match us, hl with | [_, _], _ => rfl
  have FLen := fun_mk (st := sLength) lLen cLen kLen
  have bLen := FLen.binds (ps := ["vernier"]) fun _ _ _ _ _ _ us hl => match us, hl with | [_], _ => rfl
  have FPla := fun_mk (st := sPlace) lPla cPla kPla
  have bPla := FPla.binds (ps := ["vernier", "x", "j"]) fun _ _ _ _ _ _ us hl => match us, hl with | [_, _, _], _ => rfl
  have FFar := fun_mk (st := sFar) lFar cFar kFar
  have bFar := FFar.binds (ps := ["vernier", "x", "j"]) fun _ _ _ _ _ _ us hl => match us, hl with | [_, _, _], _ => rfl
  have FAlo := fun_mk (st := sAlong) lAlo cAlo kAlo
  have bAlo := FAlo.binds (ps := ["vernier", "x"]) fun _ _ _ _ _ _ us hl => match us, hl with | [_, _], _ => rfl
  have FMee := fun_mk (st := sMeeting) lMee cMee kMee
  have bMee := FMee.binds (ps := ["vernier", "x"]) fun _ _ _ _ _ _ us hl => match us, hl with | [_, _], _ => rfl
  have FPlr := fun_mk (st := sPlaces) lPlr cPlr kPlr
  have bPlr := FPlr.binds (ps := ["vernier", "i"]) fun _ _ _ _ _ _ us hl => match us, hl with | [_, _], _ => rfl
  have FFit := fun_mk (st := sFits) lFit cFit kFit
  have bFit := FFit.binds (ps := ["vernier", "b", "wanted"]) fun _ _ _ _ _ _ us hl => match us, hl with | [_, _, _], _ => rfl
  have FFur := fun_mk (st := sFurther) lFur cFur kFur
  have bFur := FFur.binds (ps := ["a", "b"]) fun _ _ _ _ _ _ us hl => match us, hl with | [_, _], _ => rfl
  have FBeg := fun_mk (st := sBegin) lBeg cBeg kBeg
  have bBeg := FBeg.binds (ps := ["line", "handed"]) fun _ _ _ _ _ _ us hl => match us, hl with | [_, _], _ => rfl
  have FCou := fun_mk (st := sCounted) lCou cCou kCou
  have bCou := FCou.binds (ps := ["found"]) fun _ _ _ _ _ _ us hl => match us, hl with | [_], _ => rfl
  have FFine := fun_mk (st := sFine) lFine cFine kFine
  have bFine := FFine.binds (ps := ["vernier", "handed"]) fun _ _ _ _ _ _ us hl => match us, hl with | [_, _], _ => rfl
  have FMeets := fun_mk (st := sMeets) lMeets cMeets kMeets
  have bMeets := FMeets.binds (ps := ["vernier", "handed"]) fun _ _ _ _ _ _ us hl => match us, hl with | [_, _], _ => rfl
  have FOut := fun_mk (st := sOut) lOut cOut kOut
  have bOut := FOut.binds (ps := ["vernier", "handed"]) fun _ _ _ _ _ _ us hl => match us, hl with | [_, _], _ => rfl
  have FNear := fun_mk (st := sNearest) lNear cNear kNear
  have bNear := FNear.binds (ps := ["vernier", "handed"]) fun _ _ _ _ _ _ us hl => match us, hl with | [_, _], _ => rfl
  have FSlides := fun_mk (st := sSlides) lSlides cSlides kSlides
  have bSlides := FSlides.binds (ps := ["vernier", "handed"]) fun _ _ _ _ _ _ us hl => match us, hl with | [_, _], _ => rfl
  have FStep := fun_mk (st := sStep) lStep cStep kStep
  have bStep := FStep.binds (ps := ["vernier", "handed"]) fun _ _ _ _ _ _ us hl => match us, hl with | [_, _], _ => rfl
  have FWear := fun_mk (st := sWear) lWear cWear kWear
  have bWear := FWear.binds (ps := ["vernier", "handed"]) fun _ _ _ _ _ _ us hl => match us, hl with | [_, _], _ => rfl
  have FReadable := fun_mk (st := sReadable) lReadable cReadable kReadable
  have bReadable := FReadable.binds (ps := ["vernier", "handed"]) fun _ _ _ _ _ _ us hl => match us, hl with | [_, _], _ => rfl
  have FZero := fun_mk (st := sZero) lZero cZero kZero
  have bZero := FZero.binds (ps := ["vernier", "handed"]) fun _ _ _ _ _ _ us hl => match us, hl with | [_, _], _ => rfl
  have FSlide := fun_mk (st := sSlide) lSlide cSlide kSlide
  have bSlide := FSlide.binds (ps := ["vernier", "handed"]) fun _ _ _ _ _ _ us hl => match us, hl with | [_, _], _ => rfl
  have FRead := fun_mk (st := sRead) lRead cRead kRead
  have bRead := FRead.binds (ps := ["vernier", "handed"]) fun _ _ _ _ _ _ us hl => match us, hl with | [_, _], _ => rfl
  have FLook := fun_mk (st := sLook) lLook cLook kLook
  have bLook := FLook.binds (ps := ["vernier", "handed"]) fun _ _ _ _ _ _ us hl => match us, hl with | [_, _], _ => rfl
  have FTo := fun_mk (st := sTo) lTo cTo kTo
  have bTo := FTo.binds (ps := ["line", "number", "handed"]) fun _ _ _ _ _ _ us hl => match us, hl with | [_, _, _], _ => rfl
  have FAns := fun_mk (st := sAns) lAns cAns kAns
  refine ⟨PySem.W.fnOf "answers" "answers" (defArgs sAns) (defBody sAns) (defScope sAns) .none kVAns dcAns pmAns anAns cdAns ctAns, fun s us hu => match us, hu with | [_], _ => .of_eq rfl, fun base _ _ => ?_⟩
  have cFin0 : Cal P w K mg base 1 "fineness" spFin := ⟨fFin, _, ["a", "b"], ok_fin FFin, PySem.W.mg_of X G aFin, kFin, bFin⟩
  have cTur0 : Cal P w K mg base 2 "turns_needed" spTurns := ⟨fTur, _, ["a", "b"], ok_turns FTur cFin0, PySem.W.mg_of X G aTur, kTur, bTur⟩
  have cHas0 : Cal P w K mg base 1 "has_marks_for" (spHas C) := ⟨fHas, _, ["vernier", "turns"], ok_has FHas T, PySem.W.mg_of X G aHas, kHas, bHas⟩
  have cLen0 : Cal P w K mg base 1 "scale_length" (spLength C) := ⟨fLen, _, ["vernier"], ok_length FLen T, PySem.W.mg_of X G aLen, kLen, bLen⟩
  have cPla0 : Cal P w K mg base 1 "place_of" (spPlace C) := ⟨fPla, _, ["vernier", "x", "j"], ok_place FPla T, PySem.W.mg_of X G aPla, kPla, bPla⟩
  have cFar0 : Cal P w K mg base 2 "far_off" (spFar C) := ⟨fFar, _, ["vernier", "x", "j"], ok_far FFar T hmin cPla0, PySem.W.mg_of X G aFar, kFar, bFar⟩
  have cAlo0 : Cal P w K mg base 2 "marks_along_scale" (spAlong C) := ⟨fAlo, _, ["vernier", "x"], ok_along FAlo T hrange cPla0 cLen0, PySem.W.mg_of X G aAlo, kAlo, bAlo⟩
  have cMee0 : Cal P w K mg base 3 "meeting_marks" (spMeeting C) := ⟨fMee, _, ["vernier", "x"], ok_meeting FMee cAlo0 cFar0, PySem.W.mg_of X G aMee, kMee, bMee⟩
  have cPlr0 : Cal P w K mg base 4 "places_read" (spPlaces C) := ⟨fPlr, _, ["vernier", "i"], ok_places FPlr T hlen hrange cMee0, PySem.W.mg_of X G aPlr, kPlr, bPlr⟩
  have cFit0 : Cal P w K mg base 3 "fits" (spFits C) := ⟨fFit, _, ["vernier", "b", "wanted"], ok_fits FFit T cFin0 cTur0 cHas0, PySem.W.mg_of X G aFit, kFit, bFit⟩
  have cFur0 : Cal P w K mg base 2 "marks_further" spFurther := ⟨fFur, _, ["a", "b"], ok_further FFur cFin0, PySem.W.mg_of X G aFur, kFur, bFur⟩
  have cBeg0 : Cal P w K mg base 3 "begin" (spBegin K CL C) := ⟨fBeg, _, ["line", "handed"], ok_begin FBeg TLl T hna hmo ⟨mkC, aVI, iVI, kcC⟩ gVer (ok_vinit FVI T) bVI, PySem.W.mg_of X G aBeg, kBeg, bBeg⟩
  have cCou0 : Cal P w K mg base 1 "counted" spCounted := ⟨fCou, _, ["found"], ok_counted FCou hlen, PySem.W.mg_of X G aCou, kCou, bCou⟩
  have cFine0 : Cal P w K mg base 3 "fine" (spK K C 1) := ⟨fFine, _, ["vernier", "handed"], ok_fine FFine T cFin0 cTur0 cHas0, PySem.W.mg_of X G aFine, kFine, bFine⟩
  have cMeets0 : Cal P w K mg base 4 "meets" (spK K C 2) := ⟨fMeets, _, ["vernier", "handed"], ok_meets FMeets T hlen hna cLen0 cMee0 cPla0, PySem.W.mg_of X G aMeets, kMeets, bMeets⟩
  have cOut0 : Cal P w K mg base 1 "out" (spK K C 3) := ⟨fOut, _, ["vernier", "handed"], ok_out FOut T hna hwo hnt, PySem.W.mg_of X G aOut, kOut, bOut⟩
  have cNear0 : Cal P w K mg base 3 "nearest" (spK K C 4) := ⟨fNear, _, ["vernier", "handed"], ok_nearest FNear hlen hmin hlist hna hnt cLen0 cAlo0 cFar0, PySem.W.mg_of X G aNear, kNear, bNear⟩
  have cSlides0 : Cal P w K mg base 4 "slides" (spK K C 5) := ⟨fSlides, _, ["vernier", "handed"], ok_slides FSlides T hrange hna cFit0 cCou0, PySem.W.mg_of X G aSlides, kSlides, bSlides⟩
  have cStep0 : Cal P w K mg base 3 "step" (spK K C 6) := ⟨fStep, _, ["vernier", "handed"], ok_step FStep T cFur0, PySem.W.mg_of X G aStep, kStep, bStep⟩
  have cWear0 : Cal P w K mg base 1 "wear" (spK K C 7) := ⟨fWear, _, ["vernier", "handed"], ok_wear FWear T hlen hna hwo, PySem.W.mg_of X G aWear, kWear, bWear⟩
  have cReadable0 : Cal P w K mg base 5 "readable" (spK K C 8) := ⟨fReadable, _, ["vernier", "handed"], ok_readable FReadable T hna cPlr0 cCou0, PySem.W.mg_of X G aReadable, kReadable, bReadable⟩
  have cZero0 : Cal P w K mg base 1 "zero" (spK K C 9) := ⟨fZero, _, ["vernier", "handed"], ok_zero FZero T hna hmo, PySem.W.mg_of X G aZero, kZero, bZero⟩
  have cSlide0 : Cal P w K mg base 4 "slide" (spK K C 10) := ⟨fSlide, _, ["vernier", "handed"], ok_slide FSlide T hlen hna cLen0 cMee0, PySem.W.mg_of X G aSlide, kSlide, bSlide⟩
  have cRead0 : Cal P w K mg base 4 "read" (spK K C 11) := ⟨fRead, _, ["vernier", "handed"], ok_read FRead T hlen hnt cMee0, PySem.W.mg_of X G aRead, kRead, bRead⟩
  have cLook0 : Cal P w K mg base 2 "look" (spK K C 12) := ⟨fLook, _, ["vernier", "handed"], ok_look FLook T cCou0, PySem.W.mg_of X G aLook, kLook, bLook⟩
  have w1 : CalAt P w K mg base 3 fFine (spK K C 1) := ⟨_, ["vernier", "handed"], ok_fine FFine T cFin0 cTur0 cHas0, kFine, bFine⟩
  have w2 : CalAt P w K mg base 4 fMeets (spK K C 2) := ⟨_, ["vernier", "handed"], ok_meets FMeets T hlen hna cLen0 cMee0 cPla0, kMeets, bMeets⟩
  have w3 : CalAt P w K mg base 1 fOut (spK K C 3) := ⟨_, ["vernier", "handed"], ok_out FOut T hna hwo hnt, kOut, bOut⟩
  have w4 : CalAt P w K mg base 3 fNear (spK K C 4) := ⟨_, ["vernier", "handed"], ok_nearest FNear hlen hmin hlist hna hnt cLen0 cAlo0 cFar0, kNear, bNear⟩
  have w5 : CalAt P w K mg base 4 fSlides (spK K C 5) := ⟨_, ["vernier", "handed"], ok_slides FSlides T hrange hna cFit0 cCou0, kSlides, bSlides⟩
  have w6 : CalAt P w K mg base 3 fStep (spK K C 6) := ⟨_, ["vernier", "handed"], ok_step FStep T cFur0, kStep, bStep⟩
  have w7 : CalAt P w K mg base 1 fWear (spK K C 7) := ⟨_, ["vernier", "handed"], ok_wear FWear T hlen hna hwo, kWear, bWear⟩
  have w8 : CalAt P w K mg base 5 fReadable (spK K C 8) := ⟨_, ["vernier", "handed"], ok_readable FReadable T hna cPlr0 cCou0, kReadable, bReadable⟩
  have w9 : CalAt P w K mg base 1 fZero (spK K C 9) := ⟨_, ["vernier", "handed"], ok_zero FZero T hna hmo, kZero, bZero⟩
  have w10 : CalAt P w K mg base 4 fSlide (spK K C 10) := ⟨_, ["vernier", "handed"], ok_slide FSlide T hlen hna cLen0 cMee0, kSlide, bSlide⟩
  have w11 : CalAt P w K mg base 4 fRead (spK K C 11) := ⟨_, ["vernier", "handed"], ok_read FRead T hlen hnt cMee0, kRead, bRead⟩
  have w12 : CalAt P w K mg base 2 fLook (spK K C 12) := ⟨_, ["vernier", "handed"], ok_look FLook T cCou0, kLook, bLook⟩
  have tab : Table P w K mg base C := by
    refine ⟨d, esD, PySem.W.mg_of X G aD, ⟨⟨_, lD⟩, fun e he => kD e (Array.mem_toList_iff.mpr he)⟩, fun c h1 h2 => ?_⟩
    have hc : c = 1 ∨ c = 2 ∨ c = 3 ∨ c = 4 ∨ c = 5 ∨ c = 6 ∨ c = 7 ∨ c = 8 ∨ c = 9 ∨ c = 10 ∨ c = 11 ∨ c = 12 := by omega
    rcases hc with rfl | rfl | rfl | rfl | rfl | rfl | rfl | rfl | rfl | rfl | rfl | rfl
    · exact ⟨_, tD1, 3, by decide, w1⟩
    · exact ⟨_, tD2, 4, by decide, w2⟩
    · exact ⟨_, tD3, 1, by decide, w3⟩
    · exact ⟨_, tD4, 3, by decide, w4⟩
    · exact ⟨_, tD5, 4, by decide, w5⟩
    · exact ⟨_, tD6, 3, by decide, w6⟩
    · exact ⟨_, tD7, 1, by decide, w7⟩
    · exact ⟨_, tD8, 5, by decide, w8⟩
    · exact ⟨_, tD9, 1, by decide, w9⟩
    · exact ⟨_, tD10, 4, by decide, w10⟩
    · exact ⟨_, tD11, 4, by decide, w11⟩
    · exact ⟨_, tD12, 2, by decide, w12⟩
  have cTo0 : Cal P w K mg base 6 "answer_to" (spTo K CL C) := ⟨fTo, _, ["line", "number", "handed"], ok_to FTo TLl hbe hnv cBeg0 tab, PySem.W.mg_of X G aTo, kTo, bTo⟩
  exact ok_ans FAns hlen ⟨ht, PySem.W.mg_of X G aH, fun H => .inr ⟨_, itsH, nH, lH, rfl, rfl, sH, vH⟩⟩ ⟨mkL, aLI, iLI, kcL⟩ gLin (ok_linit FLI TLl) bLI cTo0
end Vn
namespace Vn
open PySem PySem.Spec PyProof.Rows L2
theorem keys_all {es : List DictEntry} (h : es.all (fun e => match e.key with | .int k _ => e.hash == hashInt k | _ => false) = true) : ∀ e ∈ es, ∃ k t, e.key = .int k t ∧ e.hash = hashInt k := by
  intro e he
  have q := List.all_eq_true.mp h e he
  split at q
  · rename_i k t ek
    exact ⟨k, t, ek, by simpa using q⟩
  · cases q
end Vn
open PySem PySem.W PyProof.Rows
set_option maxRecDepth 100000 in
set_option maxHeartbeats 8000000 in
theorem PySem.Challenge.cw_slidingscale_s01_answers_holds : PySem.Challenge.rw_slidingscale_s01_answers.Holds := by
  w_on; k_headS; (case hw => exact ⟨[.list [.int 1]], by decide +kernel, by decide +kernel⟩)
  k_fillS
  refine L2.walk_specK (r := PySem.Challenge.rw_slidingscale_s01_answers) (k := 7) (CX := L2.CX0) (ps := ["calls"]) (sp := Vn.spAns) (by decide +kernel) rfl rfl ⟨rfl, by decide, by decide⟩ (fun w h Y => PySem.W.kIn_of Y) ?F ?S (fun _ _ _ _ z => z)
  case F =>
    intro w mg fa h Y KX G hmg
    refine' Vn.all_mk KX G hmg ?aC ?aL ?aVI ?iVI ?lVI ?cVI ?kVI ?aLI ?iLI ?lLI ?cLI ?kLI ?aFin ?lFin ?cFin ?kFin ?aTur ?lTur ?cTur ?kTur ?aHas ?lHas ?cHas ?kHas ?aLen ?lLen ?cLen ?kLen ?aPla ?lPla ?cPla ?kPla ?aFar ?lFar ?cFar ?kFar ?aAlo ?lAlo ?cAlo ?kAlo ?aMee ?lMee ?cMee ?kMee ?aPlr ?lPlr ?cPlr ?kPlr ?aFit ?lFit ?cFit ?kFit ?aFur ?lFur ?cFur ?kFur ?aBeg ?lBeg ?cBeg ?kBeg ?aCou ?lCou ?cCou ?kCou ?aFine ?lFine ?cFine ?kFine ?aMeets ?lMeets ?cMeets ?kMeets ?aOut ?lOut ?cOut ?kOut ?aNear ?lNear ?cNear ?kNear ?aSlides ?lSlides ?cSlides ?kSlides ?aStep ?lStep ?cStep ?kStep ?aWear ?lWear ?cWear ?kWear ?aReadable ?lReadable ?cReadable ?kReadable ?aZero ?lZero ?cZero ?kZero ?aSlide ?lSlide ?cSlide ?kSlide ?aRead ?lRead ?cRead ?kRead ?aLook ?lLook ?cLook ?kLook ?aTo ?lTo ?cTo ?kTo ?aAns ?lAns ?cAns ?kAns ?pgC ?hdC ?poC ?saC ?mkC ?kcC ?nC_a ?nC_b ?nC_m ?nC_n ?nC_zero ?nC_out_by ?nC_worn ?pgL ?hdL ?poL ?saL ?mkL ?kcL ?nL_vernier ?gna ?gwo ?gnt ?gnv ?gmo ?gbe ?zlen ?zrange ?zmin ?zlist ?aH ?lH ?vH ?sH ?aD ?lD ?kD ?tD1 ?tD2 ?tD3 ?tD4 ?tD5 ?tD6 ?tD7 ?tD8 ?tD9 ?tD10 ?tD11 ?tD12
    (case aC => k_is)
    (case aL => k_is)
    (case aVI => k_is)
    (case iVI => k_is)
    (case lVI => k_is)
    (case cVI => k_is)
    (case kVI => k_is)
    (case aLI => k_is)
    (case iLI => k_is)
    (case lLI => k_is)
    (case cLI => k_is)
    (case kLI => k_is)
    (case aFin => k_is)
    (case lFin => k_is)
    (case cFin => k_is)
    (case kFin => k_is)
    (case aTur => k_is)
    (case lTur => k_is)
    (case cTur => k_is)
    (case kTur => k_is)
    (case aHas => k_is)
    (case lHas => k_is)
    (case cHas => k_is)
    (case kHas => k_is)
    (case aLen => k_is)
    (case lLen => k_is)
    (case cLen => k_is)
    (case kLen => k_is)
    (case aPla => k_is)
    (case lPla => k_is)
    (case cPla => k_is)
    (case kPla => k_is)
    (case aFar => k_is)
    (case lFar => k_is)
    (case cFar => k_is)
    (case kFar => k_is)
    (case aAlo => k_is)
    (case lAlo => k_is)
    (case cAlo => k_is)
    (case kAlo => k_is)
    (case aMee => k_is)
    (case lMee => k_is)
    (case cMee => k_is)
    (case kMee => k_is)
    (case aPlr => k_is)
    (case lPlr => k_is)
    (case cPlr => k_is)
    (case kPlr => k_is)
    (case aFit => k_is)
    (case lFit => k_is)
    (case cFit => k_is)
    (case kFit => k_is)
    (case aFur => k_is)
    (case lFur => k_is)
    (case cFur => k_is)
    (case kFur => k_is)
    (case aBeg => k_is)
    (case lBeg => k_is)
    (case cBeg => k_is)
    (case kBeg => k_is)
    (case aCou => k_is)
    (case lCou => k_is)
    (case cCou => k_is)
    (case kCou => k_is)
    (case aFine => k_is)
    (case lFine => k_is)
    (case cFine => k_is)
    (case kFine => k_is)
    (case aMeets => k_is)
    (case lMeets => k_is)
    (case cMeets => k_is)
    (case kMeets => k_is)
    (case aOut => k_is)
    (case lOut => k_is)
    (case cOut => k_is)
    (case kOut => k_is)
    (case aNear => k_is)
    (case lNear => k_is)
    (case cNear => k_is)
    (case kNear => k_is)
    (case aSlides => k_is)
    (case lSlides => k_is)
    (case cSlides => k_is)
    (case kSlides => k_is)
    (case aStep => k_is)
    (case lStep => k_is)
    (case cStep => k_is)
    (case kStep => k_is)
    (case aWear => k_is)
    (case lWear => k_is)
    (case cWear => k_is)
    (case kWear => k_is)
    (case aReadable => k_is)
    (case lReadable => k_is)
    (case cReadable => k_is)
    (case kReadable => k_is)
    (case aZero => k_is)
    (case lZero => k_is)
    (case cZero => k_is)
    (case kZero => k_is)
    (case aSlide => k_is)
    (case lSlide => k_is)
    (case cSlide => k_is)
    (case kSlide => k_is)
    (case aRead => k_is)
    (case lRead => k_is)
    (case cRead => k_is)
    (case kRead => k_is)
    (case aLook => k_is)
    (case lLook => k_is)
    (case cLook => k_is)
    (case kLook => k_is)
    (case aTo => k_is)
    (case lTo => k_is)
    (case cTo => k_is)
    (case kTo => k_is)
    (case aAns => k_is)
    (case lAns => k_is)
    (case cAns => k_is)
    (case kAns => k_is)
    (case pgC => k_is)
    (case hdC => k_is)
    (case poC => k_is)
    (case saC => k_is)
    (case mkC => k_is)
    (case kcC => k_is)
    (case nC_a => k_is)
    (case nC_b => k_is)
    (case nC_m => k_is)
    (case nC_n => k_is)
    (case nC_zero => k_is)
    (case nC_out_by => k_is)
    (case nC_worn => k_is)
    (case pgL => k_is)
    (case hdL => k_is)
    (case poL => k_is)
    (case saL => k_is)
    (case mkL => k_is)
    (case kcL => k_is)
    (case nL_vernier => k_is)
    (case gna => k_is)
    (case gwo => k_is)
    (case gnt => k_is)
    (case gnv => k_is)
    (case gmo => k_is)
    (case gbe => k_is)
    (case zlen => k_is)
    (case zrange => k_is)
    (case zmin => k_is)
    (case zlist => k_is)
    (case aH => k_is)
    (case lH => k_is)
    (case vH => exact .cons ⟨_, rfl⟩ (.cons ⟨_, rfl⟩ (.cons ⟨_, rfl⟩ (.cons ⟨_, rfl⟩ (.cons ⟨_, rfl⟩ (.cons ⟨_, rfl⟩ (.cons ⟨_, rfl⟩ (.cons ⟨_, rfl⟩ (.cons ⟨_, rfl⟩ (.cons ⟨_, rfl⟩ (.cons ⟨_, rfl⟩ (.cons ⟨_, rfl⟩ (.cons ⟨_, rfl⟩ (.nil))))))))))))))
    (case sH => decide +kernel)
    (case aD => k_is)
    (case lD => k_is)
    (case kD => exact Vn.keys_all (by decide +kernel))
    (case tD1 => rfl)
    (case tD2 => rfl)
    (case tD3 => rfl)
    (case tD4 => rfl)
    (case tD5 => rfl)
    (case tD6 => rfl)
    (case tD7 => rfl)
    (case tD8 => rfl)
    (case tD9 => rfl)
    (case tD10 => rfl)
    (case tD11 => rfl)
    (case tD12 => rfl)
  case S =>
    intro K H xs a hO hwi hask hx
    cases hx with
    | cons h1 h2 =>
      cases h2
      cases h1 with
      | lst hs ha =>
        have e := L2.ints_dw a.1 _ ha
        subst e
        exact ⟨_, a.1, rfl, hs, hask, fun H' p hp => .lst (L2.SqL.of hp) (L2.dw_ints _)⟩
#print axioms PySem.Challenge.cw_slidingscale_s01_answers_holds
