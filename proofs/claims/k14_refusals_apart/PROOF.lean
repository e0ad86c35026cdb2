import PyProof.Rows.All
import Wide.All
import OpenK.AllK
import Wide.FinOn
import PyProof.EqAt
import PyProof.EqKinds
import PyProof.TupleCall
import HandS.ForExc
import HandS.Comp
import HandS.TryOnly
import HandS.TryMany
import HandS.IsInst
import HandS.ExcIs
import HandS.Wide
import HandS.Style
import HandS.SortInts
import HandS.Evl
import KE.GoesZip
import KE.GoesMore
import KE.KRevSl
import HandS.Walk
import HandS.FStr
import HandS.Defaults
import HandS.CallSlots
import HandS.HeadHook2
import HandS.HotCalls
import HandS.SuiteRaise
import PySem.Challenge.RW_restrow_k14_refusals_apart
set_option Elab.async false
set_option linter.all false
set_option maxRecDepth 100000
set_option maxHeartbeats 4000000
/-! The bases that the laws draw: what they are, and that they are good. Plain Lean. -/
namespace RM
def sel : List Int → Int → List Int
  | [], _ => []
  | p :: r, one => (if 0 < one % 4 then [p * [1, 1, p, p * p].getD (one % 4).toNat 0] else []) ++ sel r (one / 4)
def rest4 : List Int → Int → Int
  | [], one => one
  | _ :: r, one => rest4 r (one / 4)
def merged (l : List Int) (b : Int) : List Int :=
  if b % 2 = 1 ∧ 1 < l.length ∧ l.getD 0 0 * l.getD 1 0 < 900000 then (l.getD 0 0 * l.getD 1 0) :: l.drop 2 else l
/-- behind k ends: what is held -/
def endsTo (far : Int) (es : List Int) (some : List Int) (picks : Int) : Nat → List Int × Int
  | 0 => (some, picks)
  | k + 1 =>
    let s := endsTo far es some picks k
    (if s.2 % 2 = 1 ∨ (s.1.length : Int) + (es.length : Int) - (k : Int) ≤ 3 then s.1 ++ [far + es.getD k 0] else s.1, s.2 / 2)
def psOf (one : Int) : List Int := if one % 7 = 6 then [3, 5, 7, 11] else [3, 5, 7, 11, 13]
def esOf (one : Int) : List Int := if one % 7 = 6 then [13, 17, 19, 23, 29, 31] else [17, 19, 23, 29, 31, 37, 41, 43, 47]
def farOf (one other : Int) : Int := if one % 7 = 6 then 2310 * (other % 429) else 30030 * (other % 34)
def picksOf (one other : Int) : Int := if one % 7 = 6 then other / 429 else other / 34
def firstOf (one : Int) : List Int := merged (sel (psOf one) one) (rest4 (psOf one) one)
def rawOf (one other : Int) : List Int := (endsTo (farOf one other) (esOf one) (firstOf one) (picksOf one other) (esOf one).length).1
def basesOf (one other : Int) : List Int := (rawOf one other).mergeSort (fun a b => decide (a ≤ b))

/-- no common divisor above 1 -/
def Co (a b : Int) : Prop := Int.gcd a b = 1
theorem Co.symm {a b : Int} (h : Co a b) : Co b a := by unfold Co at *; rw [Int.gcd_comm]; exact h
theorem co_nat {a b : Int} : Co a b ↔ Nat.Coprime a.natAbs b.natAbs := Iff.rfl
theorem Co.dvd {a b x y : Int} (h : Co a b) (hx : x ∣ a) (hy : y ∣ b) : Co x y := by
  have h1 : Nat.Coprime x.natAbs b.natAbs := Nat.Coprime.coprime_dvd_left (Int.natAbs_dvd_natAbs.mpr hx) h
  exact Nat.Coprime.coprime_dvd_right (Int.natAbs_dvd_natAbs.mpr hy) h1
theorem Co.mul_left {a b c : Int} (h : Co a c) (k : Co b c) : Co (a * b) c := by
  have e : (a * b).natAbs = a.natAbs * b.natAbs := Int.natAbs_mul a b
  unfold Co Int.gcd
  rw [e]
  exact Nat.Coprime.mul_left h k
theorem Co.cube {a c : Int} (h : Co a c) : Co (a * a * a) c := (h.mul_left h).mul_left h
theorem Co.cubes {a c : Int} (h : Co a c) : Co (a * a * a) (c * c * c) := (h.cube.symm).cube.symm
theorem Co.four {a c : Int} (h : Co a c) : Co (a * a * (a * a)) c := (h.mul_left h).mul_left (h.mul_left h)
theorem co_shift {m f e : Int} (k : Int) (hf : f = m * k) (h : Co m e) : Co m (f + e) := by
  unfold Co at *
  have := Int.gcd_add_mul_left_right m e k
  rw [hf, Int.add_comm, this]
  exact h
/-- two numbers behind the same far: what divides both divides their difference -/
theorem co_pair {x y d m : Int} (hd : y - x = d) (hm : d ∣ m) (hx : Co m x) : Co x y := by
  have h1 : ((Int.gcd x y : Nat) : Int) ∣ x := Int.gcd_dvd_left x y
  have h2 : ((Int.gcd x y : Nat) : Int) ∣ y := Int.gcd_dvd_right x y
  have h3 : ((Int.gcd x y : Nat) : Int) ∣ d := by rw [← hd]; exact Int.dvd_sub h2 h1
  have c := Co.dvd hx (Int.dvd_trans h3 hm) h1
  unfold Co at c ⊢
  rw [Int.gcd_self] at c
  simpa using c

/-- what the first loop gives -/
theorem sel_mem : ∀ (ps : List Int) (one x : Int), (∀ p ∈ ps, 3 ≤ p ∧ p ≤ 13 ∧ p % 2 = 1) → x ∈ sel ps one → ∃ p ∈ ps, x ∣ p * p * p ∧ 3 ≤ x ∧ x ≤ 2197 ∧ x % 2 = 1
  | [], one, x, _, h => by cases h
  | p :: r, one, x, hp, h => by
    unfold sel at h
    rcases List.mem_append.mp h with h | h
    · by_cases c : 0 < one % 4
      · rw [if_pos c] at h
        have e := List.mem_singleton.mp h
        have hp0 := hp p List.mem_cons_self
        refine ⟨p, List.mem_cons_self, ?_⟩
        have hm : one % 4 = 1 ∨ one % 4 = 2 ∨ one % 4 = 3 := by omega
        have hps : p = 3 ∨ p = 5 ∨ p = 7 ∨ p = 9 ∨ p = 11 ∨ p = 13 := by omega
        rcases hm with m | m | m <;> rw [m] at e <;> rcases hps with q | q | q | q | q | q <;> subst q <;> subst e <;> decide
      · rw [if_neg c] at h
        cases h
    · obtain ⟨q, hq, k⟩ := sel_mem r (one / 4) x (fun q hq => hp q (List.mem_cons_of_mem _ hq)) h
      exact ⟨q, List.mem_cons_of_mem _ hq, k⟩
theorem sel_co : ∀ (ps : List Int) (one : Int), (∀ p ∈ ps, 3 ≤ p ∧ p ≤ 13 ∧ p % 2 = 1) → ps.Pairwise Co → (sel ps one).Pairwise Co
  | [], _, _, _ => List.Pairwise.nil
  | p :: r, one, hp, hc => by
    have hr : ∀ q ∈ r, 3 ≤ q ∧ q ≤ 13 ∧ q % 2 = 1 := fun q hq => hp q (List.mem_cons_of_mem _ hq)
    obtain ⟨h1, h2⟩ := List.pairwise_cons.mp hc
    unfold sel
    refine List.pairwise_append.mpr ⟨?_, sel_co r _ hr h2, fun x hx y hy => ?_⟩
    · split
      · exact List.pairwise_singleton _ _
      · exact List.Pairwise.nil
    · have hx' : x ∈ sel [p] one := by
        unfold sel
        exact List.mem_append_left _ hx
      obtain ⟨q, hq, dx, _⟩ := sel_mem [p] one x (fun q hq => hp q (by rw [List.mem_singleton.mp hq]; exact List.mem_cons_self)) hx'
      obtain ⟨t, ht, dy, _⟩ := sel_mem r (one / 4) y hr hy
      have e := List.mem_singleton.mp hq
      subst e
      exact Co.dvd (h1 t ht).cubes dx dy
theorem sel_len : ∀ (ps : List Int) (one : Int), (sel ps one).length ≤ ps.length
  | [], _ => Nat.le_refl _
  | p :: r, one => by
    unfold sel
    rw [List.length_append]
    have h := sel_len r (one / 4)
    have h2 : (if 0 < one % 4 then [p * [1, 1, p, p * p].getD (one % 4).toNat 0] else []).length ≤ 1 := by split <;> simp
    rw [List.length_cons]
    omega
/-- each is a good base, they have no common divisors, all divide m * m * m -/
structure Ok (m : Int) (l : List Int) : Prop where
  each : ∀ x ∈ l, 3 ≤ x ∧ x ≤ 999999 ∧ x % 2 = 1
  co : l.Pairwise Co
theorem cube_dvd {p m : Int} (h : p ∣ m) : p * p * p ∣ m * m * m := by
  obtain ⟨k, hk⟩ := h
  refine ⟨k * k * k, ?_⟩
  rw [hk]
  simp only [Int.mul_left_comm, Int.mul_comm]
theorem first_ok (one m : Int) (hm : ∀ p ∈ psOf one, p ∣ m) : (∀ x ∈ firstOf one, (3 ≤ x ∧ x ≤ 999999 ∧ x % 2 = 1) ∧ ∀ e, Co m e → Co x e) ∧ (firstOf one).Pairwise Co ∧ (firstOf one).length ≤ (psOf one).length := by
  have hp : ∀ p ∈ psOf one, 3 ≤ p ∧ p ≤ 13 ∧ p % 2 = 1 := by
    unfold psOf
    split <;> decide
  have hc : (psOf one).Pairwise Co := by
    unfold psOf Co
    split <;> decide
  have hs := sel_co _ one hp hc
  have hl := sel_len (psOf one) one
  have each : ∀ x ∈ sel (psOf one) one, (3 ≤ x ∧ x ≤ 2197 ∧ x % 2 = 1) ∧ ∀ e, Co m e → Co x e := fun x hx => by
    obtain ⟨p, pm, d, k⟩ := sel_mem _ _ _ hp hx
    exact ⟨k, fun e he => Co.dvd he.cube (Int.dvd_trans d (cube_dvd (hm p pm))) (Int.dvd_refl e)⟩
  unfold firstOf merged
  split
  case isFalse h =>
    exact ⟨fun x hx => ⟨by have := (each x hx).1; omega, (each x hx).2⟩, hs, hl⟩
  case isTrue h =>
    obtain ⟨_, h1, h2⟩ := h
    match sel (psOf one) one, hs, hl, each, h1, h2 with
    | a :: b :: r, hs, hl, each, h1, h2 =>
      have ea := each a List.mem_cons_self
      have eb := each b (List.mem_cons_of_mem _ List.mem_cons_self)
      have h2' : a * b < 900000 := h2
      obtain ⟨ha, hs'⟩ := List.pairwise_cons.mp hs
      obtain ⟨hb, hr⟩ := List.pairwise_cons.mp hs'
      show (∀ x ∈ (a * b) :: r, _) ∧ ((a * b) :: r).Pairwise Co ∧ ((a * b) :: r).length ≤ _
      refine ⟨fun x hx => ?_, List.pairwise_cons.mpr ⟨fun y hy => (ha y (List.mem_cons_of_mem _ hy)).mul_left (hb y hy), hr⟩, ?_⟩
      · rcases List.mem_cons.mp hx with e | hx
        · subst e
          refine ⟨⟨?_, by omega, ?_⟩, fun e he => (ea.2 e he).mul_left (eb.2 e he)⟩
          · have := Int.mul_le_mul (show 3 ≤ a by omega) (show 1 ≤ b by omega) (by omega) (show 0 ≤ a by omega)
            omega
          · rw [Int.mul_emod, ea.1.2.2, eb.1.2.2]
            decide
        · have q := each x (List.mem_cons_of_mem _ (List.mem_cons_of_mem _ hx))
          exact ⟨by have := q.1; omega, q.2⟩
      · rw [List.length_cons] at *
        rw [List.length_cons] at hl
        omega
theorem ends_in (far : Int) (es some : List Int) (picks : Int) : ∀ (k : Nat), k ≤ es.length → (∀ x ∈ (endsTo far es some picks k).1, x ∈ some ∨ ∃ j, j < k ∧ x = far + es.getD j 0)
  | 0, _ => fun x hx => .inl hx
  | k + 1, h => fun x hx => by
    have ih := ends_in far es some picks k (by omega)
    have go : x ∈ (endsTo far es some picks k).1 → x ∈ some ∨ ∃ j, j < k + 1 ∧ x = far + es.getD j 0 := fun hx => by
      rcases ih x hx with h1 | ⟨j, hj, e⟩
      · exact .inl h1
      · exact .inr ⟨j, by omega, e⟩
    unfold endsTo at hx
    simp only at hx
    split at hx
    · rcases List.mem_append.mp hx with hx | hx
      · exact go hx
      · exact .inr ⟨k, by omega, List.mem_singleton.mp hx⟩
    · exact go hx
theorem ends_co (far : Int) (es some : List Int) (picks : Int) (hs : some.Pairwise Co) (h1 : ∀ x ∈ some, ∀ j, j < es.length → Co x (far + es.getD j 0)) (h2 : ∀ i j, i < j → j < es.length → Co (far + es.getD i 0) (far + es.getD j 0)) :
    ∀ (k : Nat), k ≤ es.length → (endsTo far es some picks k).1.Pairwise Co
  | 0, _ => hs
  | k + 1, h => by
    have ih := ends_co far es some picks hs h1 h2 k (by omega)
    have mem := ends_in far es some picks k (by omega)
    unfold endsTo
    simp only
    split
    · refine List.pairwise_append.mpr ⟨ih, List.pairwise_singleton _ _, fun x hx y hy => ?_⟩
      rw [List.mem_singleton.mp hy]
      rcases mem x hx with m | ⟨j, hj, e⟩
      · exact h1 x m k (by omega)
      · rw [e]
        exact h2 j k hj (by omega)
    · exact ih
theorem ends_len (far : Int) (es some : List Int) (picks : Int) (h3 : 3 ≤ some.length + es.length) : ∀ (k : Nat), k ≤ es.length →
    3 + k ≤ (endsTo far es some picks k).1.length + es.length ∧ (endsTo far es some picks k).1.length ≤ some.length + k
  | 0, _ => ⟨by show 3 + 0 ≤ some.length + es.length; omega, by show some.length ≤ some.length + 0; omega⟩
  | k + 1, h => by
    have ih := ends_len far es some picks h3 k (by omega)
    unfold endsTo
    simp only
    split
    · rw [List.length_append, List.length_singleton]
      omega
    · rename_i c
      have c2 : ¬ ((endsTo far es some picks k).1.length : Int) + (es.length : Int) - (k : Int) ≤ 3 := fun q => c (.inr q)
      omega
/-- a list of bases as the document tells it -/
structure Good (bs : List Int) : Prop where
  len3 : 3 ≤ bs.length
  len14 : bs.length ≤ 14
  each : ∀ x ∈ bs, 3 ≤ x ∧ x ≤ 999999 ∧ x % 2 = 1
  rise : bs.Pairwise (· < ·)
  co : bs.Pairwise Co
theorem raw_ok (one other : Int) : (∀ x ∈ rawOf one other, 3 ≤ x ∧ x ≤ 999999 ∧ x % 2 = 1) ∧ (rawOf one other).Pairwise Co ∧ 3 ≤ (rawOf one other).length ∧ (rawOf one other).length ≤ 14 := by
  have key : ∀ m : Int, (∀ p ∈ psOf one, p ∣ m) → (∃ q, farOf one other = m * q) → 0 ≤ farOf one other → farOf one other ≤ 990990 → farOf one other % 2 = 0 →
      (∀ e ∈ esOf one, Co m e ∧ 13 ≤ e ∧ e ≤ 47 ∧ e % 2 = 1) → (∀ i j, i < j → j < (esOf one).length → ((esOf one).getD j 0 - (esOf one).getD i 0) ∣ m * m * (m * m)) → (psOf one).length + (esOf one).length ≤ 14 → 3 ≤ (esOf one).length →
      (∀ x ∈ rawOf one other, 3 ≤ x ∧ x ≤ 999999 ∧ x % 2 = 1) ∧ (rawOf one other).Pairwise Co ∧ 3 ≤ (rawOf one other).length ∧ (rawOf one other).length ≤ 14 := by
    intro m hp ⟨q, hq⟩ f0 f1 f2 he hd hl h3
    obtain ⟨e1, e2, e3⟩ := first_ok one m hp
    have hmem : ∀ j, j < (esOf one).length → (esOf one).getD j 0 ∈ esOf one := fun j hj => by
      rw [List.getD_eq_getElem?_getD, List.getElem?_eq_getElem hj]
      exact List.getElem_mem hj
    have cm : ∀ j, j < (esOf one).length → Co m (farOf one other + (esOf one).getD j 0) := fun j hj => co_shift q hq (he _ (hmem j hj)).1
    have L := ends_len (farOf one other) (esOf one) (firstOf one) (picksOf one other) (by omega) (esOf one).length (Nat.le_refl _)
    refine ⟨fun x hx => ?_, ends_co _ _ _ _ e2 (fun x hx j hj => (e1 x hx).2 _ (cm j hj)) (fun i j hij hj => ?_) _ (Nat.le_refl _), ?_, ?_⟩
    · rcases ends_in _ _ _ _ _ (Nat.le_refl _) x hx with k | ⟨j, hj, e⟩
      · exact (e1 x k).1
      · have := (he _ (hmem j hj)).2
        omega
    · refine co_pair (d := (esOf one).getD j 0 - (esOf one).getD i 0) (by omega) (hd i j hij hj) ?_
      exact (cm i (by omega)).four
    · show 3 ≤ (endsTo _ _ _ _ _).1.length
      omega
    · show (endsTo _ _ _ _ _).1.length ≤ 14
      omega
  by_cases c : one % 7 = 6
  · have e1 : psOf one = [3, 5, 7, 11] := if_pos c
    have e2 : esOf one = [13, 17, 19, 23, 29, 31] := if_pos c
    have e3 : farOf one other = 2310 * (other % 429) := if_pos c
    refine key 2310 (by rw [e1]; decide) ⟨_, e3⟩ (by omega) (by omega) (by omega) (by rw [e2]; unfold Co; decide) ?_ (by rw [e1, e2]; decide) (by rw [e2]; decide)
    rw [e2]
    intro i j hij hj
    have hj' : j < 6 := hj
    have all : ∀ j : Fin 6, ∀ i : Fin 6, i.val < j.val → ([13, 17, 19, 23, 29, 31] : List Int).getD j.val 0 - ([13, 17, 19, 23, 29, 31] : List Int).getD i.val 0 ∣ (2310 : Int) * 2310 * (2310 * 2310) := by decide +kernel
    exact all ⟨j, hj'⟩ ⟨i, by omega⟩ hij
  · have e1 : psOf one = [3, 5, 7, 11, 13] := if_neg c
    have e2 : esOf one = [17, 19, 23, 29, 31, 37, 41, 43, 47] := if_neg c
    have e3 : farOf one other = 30030 * (other % 34) := if_neg c
    refine key 30030 (by rw [e1]; decide) ⟨_, e3⟩ (by omega) (by omega) (by omega) (by rw [e2]; unfold Co; decide) ?_ (by rw [e1, e2]; decide) (by rw [e2]; decide)
    rw [e2]
    intro i j hij hj
    have hj' : j < 9 := hj
    have all : ∀ j : Fin 9, ∀ i : Fin 9, i.val < j.val → ([17, 19, 23, 29, 31, 37, 41, 43, 47] : List Int).getD j.val 0 - ([17, 19, 23, 29, 31, 37, 41, 43, 47] : List Int).getD i.val 0 ∣ (30030 : Int) * 30030 * (30030 * 30030) := by decide +kernel
    exact all ⟨j, hj'⟩ ⟨i, by omega⟩ hij
theorem bases_good (one other : Int) : Good (basesOf one other) := by
  obtain ⟨r1, r2, r3, r4⟩ := raw_ok one other
  have P : (basesOf one other).Perm (rawOf one other) := List.mergeSort_perm _ _
  have co : (basesOf one other).Pairwise Co := (P.pairwise_iff (fun h => h.symm)).mpr r2
  have each : ∀ x ∈ basesOf one other, 3 ≤ x ∧ x ≤ 999999 ∧ x % 2 = 1 := fun x hx => r1 x (P.mem_iff.mp hx)
  have le : (basesOf one other).Pairwise (· ≤ ·) := by
    have := List.pairwise_mergeSort (le := fun a b : Int => decide (a ≤ b)) (fun a b c h1 h2 => by simp at *; omega) (fun a b => by simp; omega) (rawOf one other)
    refine List.Pairwise.imp ?_ this
    intro a b h
    simpa using h
  refine ⟨by rw [P.length_eq]; exact r3, by rw [P.length_eq]; exact r4, each, ?_, co⟩
  have both := List.pairwise_and_iff.mpr ⟨le, co⟩
  refine List.Pairwise.imp_of_mem ?_ both
  intro a b ha hb ⟨h1, h2⟩
  rcases Int.lt_or_eq_of_le h1 with h | h
  · exact h
  · subst h
    unfold Co at h2
    rw [Int.gcd_self] at h2
    have := each a ha
    omega
end RM

/-! Numbers told by rests: plain Lean. -/
namespace RM
def prod : List Int → Int
  | [] => 1
  | b :: r => b * prod r
def restsOf (bs : List Int) (n : Int) : List Int := bs.map (fun b => n % b)
theorem prod_append : ∀ (a b : List Int), prod (a ++ b) = prod a * prod b
  | [], b => (Int.one_mul _).symm
  | x :: r, b => by
    show x * prod (r ++ b) = x * prod r * prod b
    rw [prod_append r b, Int.mul_assoc]
theorem prod_pos : ∀ (bs : List Int), (∀ b ∈ bs, 0 < b) → 0 < prod bs
  | [], _ => by decide
  | b :: r, h => Int.mul_pos (h b List.mem_cons_self) (prod_pos r fun x hx => h x (List.mem_cons_of_mem _ hx))
theorem dvd_prod : ∀ {bs : List Int} {c : Int}, c ∈ bs → c ∣ prod bs
  | d :: r, c, hc => by
    rcases List.mem_cons.mp hc with e | hc'
    · rw [e]; exact Int.dvd_mul_right _ _
    · exact Int.dvd_trans (dvd_prod hc') (Int.dvd_mul_left _ _)
theorem Co.prod_right : ∀ {a : Int} {bs : List Int}, (∀ b ∈ bs, Co a b) → Co a (prod bs)
  | a, [], _ => by
    show Int.gcd a 1 = 1
    exact Int.gcd_one
  | a, b :: r, h => ((h b List.mem_cons_self).symm.mul_left (Co.prod_right fun x hx => h x (List.mem_cons_of_mem _ hx)).symm).symm
theorem co_mul_dvd {a b n : Int} (h : Co a b) (ha : a ∣ n) (hb : b ∣ n) : a * b ∣ n := by
  have h1 : a.natAbs * b.natAbs ∣ n.natAbs := Nat.Coprime.mul_dvd_of_dvd_of_dvd h (Int.natAbs_dvd_natAbs.mpr ha) (Int.natAbs_dvd_natAbs.mpr hb)
  rw [← Int.natAbs_mul] at h1
  exact Int.natAbs_dvd_natAbs.mp h1
theorem mod_eq_dvd {n m b : Int} (h : n % b = m % b) : b ∣ n - m := Int.dvd_of_emod_eq_zero (Int.emod_eq_emod_iff_emod_sub_eq_zero.mp h)
/-- two numbers of one row differ by a multiple of all bases -/
theorem same_rests : ∀ {bs : List Int} {n m : Int}, bs.Pairwise Co → (∀ b ∈ bs, n % b = m % b) → prod bs ∣ n - m
  | [], n, m, _, _ => Int.one_dvd _
  | b :: r, n, m, hc, h => by
    obtain ⟨h1, h2⟩ := List.pairwise_cons.mp hc
    exact co_mul_dvd (Co.prod_right h1) (mod_eq_dvd (h b List.mem_cons_self)) (same_rests h2 fun x hx => h x (List.mem_cons_of_mem _ hx))
theorem small_dvd {w d : Int} (h : w ∣ d) (lo : -w < d) (hi : d < w) : d = 0 := by
  obtain ⟨k, hk⟩ := h
  rcases (by omega : k = 0 ∨ 1 ≤ k ∨ k ≤ -1) with e | e | e
  · rw [hk, e, Int.mul_zero]
  · have := Int.mul_le_mul_of_nonneg_left e (show 0 ≤ w by omega)
    omega
  · have := Int.mul_le_mul_of_nonneg_left e (show 0 ≤ w by omega)
    omega
theorem rests_inj {bs : List Int} {n m r : Int} (hc : bs.Pairwise Co) (hr : r ≤ prod bs) (n0 : 0 ≤ n) (n1 : n < r) (m0 : 0 ≤ m) (m1 : m < r) (h : ∀ b ∈ bs, n % b = m % b) : n = m := by
  have := small_dvd (same_rests hc h) (by omega) (by omega)
  omega
theorem rests_eq {bs : List Int} {n m : Int} (h : restsOf bs n = restsOf bs m) : ∀ b ∈ bs, n % b = m % b := by
  intro b hb
  unfold restsOf at h
  induction bs with
  | nil => cases hb
  | cons c r ih =>
    rw [List.map_cons, List.map_cons] at h
    obtain ⟨h1, h2⟩ := List.cons.inj h
    rcases List.mem_cons.mp hb with e | hb
    · rw [e]; exact h1
    · exact ih h2 hb
/-! a row is the rests of just one number -/
def IsRow : List Int → List Int → Prop
  | [], [] => True
  | b :: bs, x :: xs => (0 ≤ x ∧ x < b) ∧ IsRow bs xs
  | _, _ => False
theorem IsRow.len : ∀ {bs xs : List Int}, IsRow bs xs → xs.length = bs.length
  | [], [], _ => rfl
  | _ :: bs, _ :: xs, h => congrArg (· + 1) (IsRow.len h.2)
  | [], _ :: _, h => h.elim
  | _ :: _, [], h => h.elim
theorem isRow_iff : ∀ {bs xs : List Int}, IsRow bs xs ↔ xs.length = bs.length ∧ ∀ i, i < bs.length → 0 ≤ xs.getD i 0 ∧ xs.getD i 0 < bs.getD i 0
  | [], [] => ⟨fun _ => ⟨rfl, fun i h => absurd h (Nat.not_lt_zero i)⟩, fun _ => trivial⟩
  | b :: bs, x :: xs => by
    have ih := isRow_iff (bs := bs) (xs := xs)
    constructor
    · intro h
      obtain ⟨l, k⟩ := ih.mp h.2
      refine ⟨congrArg (· + 1) l, fun i hi => ?_⟩
      cases i with
      | zero => exact h.1
      | succ i => exact k i (Nat.lt_of_succ_lt_succ hi)
    · intro ⟨l, k⟩
      exact ⟨k 0 (Nat.zero_lt_succ _), ih.mpr ⟨Nat.succ.inj l, fun i hi => k (i + 1) (Nat.succ_lt_succ hi)⟩⟩
  | [], _ :: _ => ⟨fun h => h.elim, fun h => absurd h.1 (by simp)⟩
  | _ :: _, [] => ⟨fun h => h.elim, fun h => absurd h.1 (by simp)⟩
theorem rests_isRow : ∀ {bs : List Int} {n : Int}, (∀ b ∈ bs, 0 < b) → IsRow bs (restsOf bs n)
  | [], _, _ => trivial
  | b :: r, n, h => ⟨⟨Int.emod_nonneg _ (Int.ne_of_gt (h b List.mem_cons_self)), Int.emod_lt_of_pos _ (h b List.mem_cons_self)⟩, rests_isRow fun x hx => h x (List.mem_cons_of_mem _ hx)⟩
theorem rests_len (bs : List Int) (n : Int) : (restsOf bs n).length = bs.length := List.length_map _
/-- Euclid's way, with its multipliers -/
theorem bez : ∀ (k : Nat) (a b : Int), 0 ≤ b → b ≤ (k : Int) → ∃ x y : Int, a * x + b * y = (Int.gcd a b : Int)
  | 0, a, b, h0, h1 => by
    have e : b = 0 := by omega
    subst e
    rw [Int.gcd_zero]
    rcases Int.lt_or_le a 0 with h | h
    · exact ⟨-1, 0, by omega⟩
    · exact ⟨1, 0, by omega⟩
  | k + 1, a, b, h0, h1 => by
    by_cases z : b = 0
    · exact bez 0 a b h0 (by omega)
    · have hb : 0 < b := by omega
      have r0 := Int.emod_nonneg a z
      have r1 := Int.emod_lt_of_pos a hb
      obtain ⟨x, y, e⟩ := bez k b (a % b) r0 (by omega)
      have em := Int.emod_add_mul_ediv a b
      have g : Int.gcd a b = Int.gcd b (a % b) := by
        have := Int.gcd_add_mul_left_right b (a % b) (a / b)
        rw [em] at this
        rw [Int.gcd_comm a b]
        exact this
      refine ⟨y, x - a / b * y, ?_⟩
      rw [g, ← e, Int.mul_sub]
      have h2 : a * y = a % b * y + b * (a / b) * y := by
        rw [← Int.add_mul, em]
      have h3 : b * (a / b * y) = b * (a / b) * y := (Int.mul_assoc _ _ _).symm
      omega
/-- an inverse -/
theorem co_inv {a b : Int} (hb : 0 < b) (h : Co a b) : ∃ k y, a * k = 1 + b * y := by
  obtain ⟨x, y, e⟩ := bez b.toNat a b (by omega) (by omega)
  unfold Co at h
  rw [h] at e
  exact ⟨x, -y, by rw [Int.mul_neg]; omega⟩
/-- each row is the rests of a number below the product -/
theorem crt : ∀ {bs xs : List Int}, (∀ b ∈ bs, 0 < b) → bs.Pairwise Co → IsRow bs xs → ∃ n, 0 ≤ n ∧ n < prod bs ∧ restsOf bs n = xs
  | [], [], _, _, _ => ⟨0, by decide, by decide, rfl⟩
  | b :: bs, x :: xs, hp, hc, h => by
    obtain ⟨h1, h2⟩ := List.pairwise_cons.mp hc
    have hb := hp b List.mem_cons_self
    have hp' : ∀ c ∈ bs, 0 < c := fun c hc => hp c (List.mem_cons_of_mem _ hc)
    have P := prod_pos bs hp'
    obtain ⟨m, m0, m1, e⟩ := crt hp' h2 h.2
    obtain ⟨k, y, ek⟩ := co_inv hb (Co.prod_right h1).symm
    -- m + prod bs * t, t = (x - m) * k % b
    have t0 := Int.emod_nonneg ((x - m) * k) (Int.ne_of_gt hb)
    have t1 := Int.emod_lt_of_pos ((x - m) * k) hb
    have et := Int.emod_add_mul_ediv ((x - m) * k) b
    refine ⟨m + prod bs * ((x - m) * k % b), ?_, ?_, ?_⟩
    · have := Int.mul_nonneg (Int.le_of_lt P) t0
      omega
    · have h3 : prod bs * ((x - m) * k % b) ≤ prod bs * (b - 1) := Int.mul_le_mul_of_nonneg_left (by omega) (Int.le_of_lt P)
      rw [Int.mul_sub, Int.mul_one, Int.mul_comm (prod bs) b] at h3
      show m + prod bs * ((x - m) * k % b) < b * prod bs
      omega
    · show (m + prod bs * ((x - m) * k % b)) % b :: restsOf bs _ = x :: xs
      have hx : (m + prod bs * ((x - m) * k % b)) % b = x := by
        have q : m + prod bs * ((x - m) * k % b) = x + b * ((x - m) * y - prod bs * ((x - m) * k / b)) := by
          have q1 : prod bs * ((x - m) * k % b) = prod bs * ((x - m) * k) - prod bs * (b * ((x - m) * k / b)) := by
            rw [← Int.mul_sub]
            congr 1
            omega
          have q2 : prod bs * ((x - m) * k) = (x - m) + b * ((x - m) * y) := by
            rw [Int.mul_left_comm, ek, Int.mul_add, Int.mul_one, Int.mul_left_comm]
          have q3 : prod bs * (b * ((x - m) * k / b)) = b * (prod bs * ((x - m) * k / b)) := Int.mul_left_comm _ _ _
          rw [q1, q2, q3, Int.mul_sub]
          omega
        rw [q, Int.add_mul_emod_self_left]
        exact Int.emod_eq_of_lt h.1.1 h.1.2
      rw [hx, ← e]
      congr 1
      refine List.map_congr_left fun c hc => ?_
      obtain ⟨z, hz⟩ := dvd_prod hc
      rw [hz, Int.mul_assoc, Int.add_mul_emod_self_left]
/-! figures -/
def figsOf : List Int → Int → List Int
  | [], _ => []
  | b :: r, n => n % b :: figsOf r (n / b)
def valOf : List Int → List Int → Int
  | b :: r, f :: fs => f + b * valOf r fs
  | _, _ => 0
theorem figs_len : ∀ (bs : List Int) (n : Int), (figsOf bs n).length = bs.length
  | [], _ => rfl
  | _ :: r, n => congrArg (· + 1) (figs_len r _)
theorem figs_isRow : ∀ {bs : List Int} (n : Int), (∀ b ∈ bs, 0 < b) → IsRow bs (figsOf bs n)
  | [], _, _ => trivial
  | b :: r, n, h => ⟨⟨Int.emod_nonneg _ (Int.ne_of_gt (h b List.mem_cons_self)), Int.emod_lt_of_pos _ (h b List.mem_cons_self)⟩, figs_isRow (bs := r) _ fun x hx => h x (List.mem_cons_of_mem _ hx)⟩
theorem div_lt_prod {b n w : Int} (hb : 0 < b) (h0 : 0 ≤ n) (h : n < b * w) : 0 ≤ n / b ∧ n / b < w := by
  refine ⟨Int.ediv_nonneg h0 (Int.le_of_lt hb), Int.ediv_lt_of_lt_mul hb ?_⟩
  rw [Int.mul_comm]
  exact h
theorem val_figs : ∀ {bs : List Int} {n : Int}, (∀ b ∈ bs, 0 < b) → 0 ≤ n → n < prod bs → valOf bs (figsOf bs n) = n
  | [], n, _, h0, h1 => by
    have : n < 1 := h1
    show (0 : Int) = n
    omega
  | b :: r, n, hp, h0, h1 => by
    have hb := hp b List.mem_cons_self
    obtain ⟨d0, d1⟩ := div_lt_prod hb h0 h1
    show n % b + b * valOf r (figsOf r (n / b)) = n
    rw [val_figs (fun x hx => hp x (List.mem_cons_of_mem _ hx)) d0 d1]
    exact Int.emod_add_mul_ediv n b
theorem val_range : ∀ {bs fs : List Int}, (∀ b ∈ bs, 0 < b) → IsRow bs fs → 0 ≤ valOf bs fs ∧ valOf bs fs < prod bs ∧ figsOf bs (valOf bs fs) = fs
  | [], [], _, _ => ⟨by decide, by decide, rfl⟩
  | b :: r, f :: fs, hp, h => by
    have hb := hp b List.mem_cons_self
    obtain ⟨v0, v1, e⟩ := val_range (fun x hx => hp x (List.mem_cons_of_mem _ hx)) h.2
    have m0 := Int.mul_nonneg (Int.le_of_lt hb) v0
    have m1 : b * valOf r fs ≤ b * (prod r - 1) := Int.mul_le_mul_of_nonneg_left (by omega) (Int.le_of_lt hb)
    rw [Int.mul_sub, Int.mul_one] at m1
    obtain ⟨⟨f0, f1⟩, _⟩ := h
    refine ⟨by show 0 ≤ f + b * valOf r fs; omega, by show f + b * valOf r fs < b * prod r; omega, ?_⟩
    show (f + b * valOf r fs) % b :: figsOf r ((f + b * valOf r fs) / b) = f :: fs
    rw [Int.add_mul_emod_self_left, Int.emod_eq_of_lt f0 f1, Int.add_mul_ediv_left _ _ (Int.ne_of_gt hb), Int.ediv_eq_zero_of_lt f0 f1, Int.zero_add, e]
theorem figs_append : ∀ (a b : List Int) (n : Int), (∀ x ∈ a, 0 < x) → figsOf (a ++ b) n = figsOf a n ++ figsOf b (n / prod a)
  | [], b, n, _ => by
    show figsOf b n = figsOf b (n / 1)
    rw [Int.ediv_one]
  | x :: a, b, n, h => by
    have hx := h x List.mem_cons_self
    show n % x :: figsOf (a ++ b) (n / x) = n % x :: (figsOf a (n / x) ++ figsOf b (n / (x * prod a)))
    rw [figs_append a b _ fun y hy => h y (List.mem_cons_of_mem _ hy), Int.ediv_ediv_of_nonneg (Int.le_of_lt hx)]
theorem figs_zero : ∀ {bs : List Int} {n : Int}, (∀ b ∈ bs, 0 < b) → 0 ≤ n → n < prod bs → (figsOf bs n = bs.map (fun _ => 0) ↔ n = 0)
  | [], n, _, h0, h1 => by
    have : n < 1 := h1
    exact ⟨fun _ => by omega, fun _ => rfl⟩
  | b :: r, n, hp, h0, h1 => by
    have hb := hp b List.mem_cons_self
    obtain ⟨d0, d1⟩ := div_lt_prod hb h0 h1
    have ih := figs_zero (fun x hx => hp x (List.mem_cons_of_mem _ hx)) d0 d1
    have e := Int.emod_add_mul_ediv n b
    show n % b :: figsOf r (n / b) = 0 :: r.map (fun _ => 0) ↔ n = 0
    constructor
    · intro h
      obtain ⟨h2, h3⟩ := List.cons.inj h
      rw [h2, ih.mp h3, Int.mul_zero] at e
      omega
    · intro h
      subst h
      rw [Int.zero_emod, ih.mpr (Int.zero_ediv b)]
end RM

/-! Boards: the room, what is told, what was lost, what was spoiled. Plain Lean. -/
namespace RM
def own (bs : List Int) : List Int := bs.take (bs.length - 2)
def roomOf (bs : List Int) : Int := prod (own bs)
theorem Good.pos {bs : List Int} (G : Good bs) : ∀ b ∈ bs, 0 < b := fun b hb => by have := G.each b hb; omega
theorem own_split (bs : List Int) : own bs ++ bs.drop (bs.length - 2) = bs := List.take_append_drop _ _
theorem Good.split {bs : List Int} (G : Good bs) : ∃ (o : List Int) (g h : Int), bs = o ++ [g, h] ∧ own bs = o ∧ o ≠ [] := by
  have l : (bs.drop (bs.length - 2)).length = 2 := by
    rw [List.length_drop]
    have := G.len3
    omega
  match e : bs.drop (bs.length - 2), l with
  | [g, h], _ =>
    refine ⟨own bs, g, h, ?_, rfl, ?_⟩
    · rw [← e]; exact (own_split bs).symm
    · intro z
      have q := congrArg List.length (own_split bs)
      rw [z, e] at q
      have := G.len3
      simp at q
      omega
theorem own_mem {bs : List Int} {b : Int} (h : b ∈ own bs) : b ∈ bs := List.mem_of_mem_take h
theorem Good.own_pos {bs : List Int} (G : Good bs) : ∀ b ∈ own bs, 0 < b := fun b hb => G.pos b (own_mem hb)
theorem Good.room_pos {bs : List Int} (G : Good bs) : 3 ≤ roomOf bs := by
  obtain ⟨o, g, h, e, eo, ne⟩ := G.split
  unfold roomOf
  have each : ∀ b ∈ own bs, 3 ≤ b := fun b hb => (G.each b (own_mem hb)).1
  rw [eo] at each ⊢
  match o, ne, each with
  | x :: r, _, each =>
    have := prod_pos r fun y hy => by have := each y (List.mem_cons_of_mem _ hy); omega
    have h3 := each x List.mem_cons_self
    show 3 ≤ x * prod r
    have := Int.mul_le_mul h3 (show 1 ≤ prod r by omega) (by omega) (by omega)
    omega
theorem Good.room_le {bs : List Int} (G : Good bs) : roomOf bs ≤ prod bs := by
  have e : prod bs = roomOf bs * prod (bs.drop (bs.length - 2)) := by
    unfold roomOf
    rw [← prod_append, own_split]
  have p := prod_pos (bs.drop (bs.length - 2)) fun b hb => G.pos b (List.mem_of_mem_drop hb)
  have r := G.room_pos
  have := Int.mul_le_mul_of_nonneg_left (show 1 ≤ prod (bs.drop (bs.length - 2)) by omega) (show 0 ≤ roomOf bs by omega)
  omega
/-! leaving one out: no less than leaving the last out -/
theorem Rise.cons_lt {x : Int} {r : List Int} (h : (x :: r).Pairwise (· < ·)) : ∀ y ∈ r, x < y := (List.pairwise_cons.mp h).1
theorem drop_ge : ∀ {l : List Int} (i : Nat), (∀ x ∈ l, 0 < x) → l.Pairwise (· < ·) → i < l.length → prod l.dropLast ≤ prod (l.eraseIdx i)
  | [x], 0, _, _, _ => Int.le_refl _
  | x :: y :: r, 0, hp, hr, _ => by
    -- x * prod (dropLast (y :: r)) ≤ y * prod r
    have hy : ∀ z ∈ y :: r, 0 < z := fun z hz => hp z (List.mem_cons_of_mem _ hz)
    have ih := drop_ge (l := y :: r) 0 hy (List.pairwise_cons.mp hr).2 (Nat.zero_lt_succ _)
    have hxy : x < y := (List.pairwise_cons.mp hr).1 y List.mem_cons_self
    have hx := hp x List.mem_cons_self
    show x * prod (y :: r).dropLast ≤ y * prod r
    have ih' : prod (y :: r).dropLast ≤ prod r := ih
    have p := prod_pos r fun z hz => hy z (List.mem_cons_of_mem _ hz)
    have h1 := Int.mul_le_mul_of_nonneg_left ih' (Int.le_of_lt hx)
    have h2 := Int.mul_le_mul_of_nonneg_right (Int.le_of_lt hxy) (Int.le_of_lt p)
    exact Int.le_trans h1 h2
  | [x], i + 1, _, _, h => absurd h (by simp)
  | x :: y :: r, i + 1, hp, hr, h => by
    have hy : ∀ z ∈ y :: r, 0 < z := fun z hz => hp z (List.mem_cons_of_mem _ hz)
    have ih := drop_ge (l := y :: r) i hy (List.pairwise_cons.mp hr).2 (Nat.lt_of_succ_lt_succ h)
    exact Int.mul_le_mul_of_nonneg_left ih (Int.le_of_lt (hp x List.mem_cons_self))
theorem own_dropLast (bs : List Int) : own bs = bs.dropLast.dropLast := by
  unfold own
  rw [List.dropLast_eq_take, List.dropLast_eq_take, List.take_take, List.length_take]
  congr 1
  omega
theorem mem_erase {l : List Int} {i : Nat} {x : Int} (h : x ∈ l.eraseIdx i) : x ∈ l := List.mem_of_mem_eraseIdx h
theorem erase_len {l : List Int} {i : Nat} (h : i < l.length) : (l.eraseIdx i).length = l.length - 1 := List.length_eraseIdx_of_lt h
theorem dropLast_erase : ∀ {l : List Int} {i : Nat}, i + 1 < l.length → (l.eraseIdx i).dropLast = l.dropLast.eraseIdx i
  | x :: y :: r, 0, _ => rfl
  | x :: y :: r, i + 1, h => by
    have h' : i + 1 < (y :: r).length := Nat.lt_of_succ_lt_succ h
    have ih := dropLast_erase h'
    have ne : (y :: r).eraseIdx i ≠ [] := fun z => by
      have := erase_len (l := y :: r) (i := i) (by omega)
      rw [z] at this
      simp at this
      simp at h'
      omega
    show (x :: (y :: r).eraseIdx i).dropLast = (x :: (y :: r).dropLast).eraseIdx (i + 1)
    rw [List.dropLast_cons_of_ne_nil ne, ih]
    rfl
/-- all but one -/
theorem Good.but_one {bs : List Int} (G : Good bs) {i : Nat} (hi : i < bs.length) : roomOf bs ≤ prod (bs.eraseIdx i) := by
  have h1 := drop_ge i G.pos G.rise hi
  have p : ∀ x ∈ bs.dropLast, 0 < x := fun x hx => G.pos x (List.dropLast_subset _ hx)
  have e : prod bs.dropLast = roomOf bs * prod (bs.dropLast.drop (bs.dropLast.length - 1)) := by
    unfold roomOf
    rw [own_dropLast, List.dropLast_eq_take (l := bs.dropLast), ← prod_append, List.take_append_drop]
  have q := prod_pos (bs.dropLast.drop (bs.dropLast.length - 1)) fun b hb => p b (List.mem_of_mem_drop hb)
  have r := G.room_pos
  have := Int.mul_le_mul_of_nonneg_left (show 1 ≤ prod (bs.dropLast.drop (bs.dropLast.length - 1)) by omega) (show 0 ≤ roomOf bs by omega)
  omega
/-- all but two -/
theorem Good.but_two {bs : List Int} (G : Good bs) {i j : Nat} (hi : i < bs.length) (hj : j + 1 < bs.length) : roomOf bs ≤ prod ((bs.eraseIdx i).eraseIdx j) := by
  have hl := erase_len hi
  have pe : ∀ x ∈ bs.eraseIdx i, 0 < x := fun x hx => G.pos x (mem_erase hx)
  have re : (bs.eraseIdx i).Pairwise (· < ·) := List.Pairwise.sublist (List.eraseIdx_sublist _ _) G.rise
  have h1 := drop_ge j pe re (by omega)
  refine Int.le_trans ?_ h1
  by_cases c : i + 1 < bs.length
  · rw [dropLast_erase c]
    have pd : ∀ x ∈ bs.dropLast, 0 < x := fun x hx => G.pos x (List.dropLast_subset _ hx)
    have rd : bs.dropLast.Pairwise (· < ·) := List.Pairwise.sublist (List.dropLast_sublist _) G.rise
    have := drop_ge i pd rd (by rw [List.length_dropLast]; omega)
    unfold roomOf
    rw [own_dropLast]
    exact this
  · have e : bs.eraseIdx i = bs.dropLast := by
      have ei : i = bs.length - 1 := by omega
      rw [ei, List.dropLast_eq_take, List.eraseIdx_eq_take_drop_succ, List.drop_of_length_le (by omega), List.append_nil]
    rw [e]
    unfold roomOf
    rw [own_dropLast]
    exact Int.le_refl _
theorem mem_but : ∀ {bs : List Int} {i : Nat} {b : Int}, b ∈ bs.eraseIdx i → ∃ k, k ≠ i ∧ k < bs.length ∧ bs.getD k 0 = b
  | _ :: r, 0, b, h => by
    have h' : b ∈ r := h
    obtain ⟨k, hk, e⟩ := List.getElem_of_mem h'
    exact ⟨k + 1, by omega, Nat.succ_lt_succ hk, by
      show r.getD k 0 = b
      rw [List.getD_eq_getElem?_getD, List.getElem?_eq_getElem hk]
      exact e⟩
  | x :: r, i + 1, b, h => by
    have h' : b ∈ x :: r.eraseIdx i := h
    rcases List.mem_cons.mp h' with e | h2
    · exact ⟨0, by omega, Nat.zero_lt_succ _, e.symm⟩
    · obtain ⟨k, k1, k2, k3⟩ := mem_but h2
      exact ⟨k + 1, by omega, Nat.succ_lt_succ k2, k3⟩
theorem mem_but2 : ∀ {bs : List Int} {i j : Nat} {b : Int}, b ∈ (bs.eraseIdx i).eraseIdx j → ∃ k, k ≠ i ∧ k ≠ (if j < i then j else j + 1) ∧ k < bs.length ∧ bs.getD k 0 = b
  | _ :: r, 0, j, b, h => by
    have h' : b ∈ r.eraseIdx j := h
    obtain ⟨k, k1, k2, k3⟩ := mem_but h'
    refine ⟨k + 1, by omega, ?_, Nat.succ_lt_succ k2, k3⟩
    rw [if_neg (Nat.not_lt_zero j)]
    omega
  | _ :: r, i + 1, 0, b, h => by
    have h' : b ∈ r.eraseIdx i := h
    obtain ⟨k, k1, k2, k3⟩ := mem_but h'
    refine ⟨k + 1, by omega, ?_, Nat.succ_lt_succ k2, k3⟩
    rw [if_pos (Nat.zero_lt_succ i)]
    omega
  | x :: r, i + 1, j + 1, b, h => by
    have h' : b ∈ x :: (r.eraseIdx i).eraseIdx j := h
    rcases List.mem_cons.mp h' with e | h2
    · refine ⟨0, by omega, ?_, Nat.zero_lt_succ _, e.symm⟩
      split <;> omega
    · obtain ⟨k, k1, k2, k3, k4⟩ := mem_but2 h2
      refine ⟨k + 1, by omega, ?_, Nat.succ_lt_succ k3, k4⟩
      by_cases c : j < i
      · rw [if_pos c] at k2
        rw [if_pos (Nat.succ_lt_succ c)]
        omega
      · rw [if_neg c] at k2
        rw [if_neg (by omega)]
        omega
/-- two numbers of the room that agree but at one place, or at two, are one -/
theorem Good.one_lost {bs : List Int} (G : Good bs) {n m : Int} {i : Nat} (hi : i < bs.length) (n0 : 0 ≤ n) (n1 : n < roomOf bs) (m0 : 0 ≤ m) (m1 : m < roomOf bs) (h : ∀ k, k < bs.length → k ≠ i → n % bs.getD k 0 = m % bs.getD k 0) : n = m := by
  refine rests_inj (bs := bs.eraseIdx i) (List.Pairwise.sublist (List.eraseIdx_sublist _ _) G.co) (G.but_one hi) n0 n1 m0 m1 fun b hb => ?_
  obtain ⟨k, k1, k2, k3⟩ := mem_but hb
  rw [← k3]
  exact h k k2 k1
theorem Good.two_lost {bs : List Int} (G : Good bs) {n m : Int} {i j : Nat} (hi : i < bs.length) (hj : j < bs.length) (n0 : 0 ≤ n) (n1 : n < roomOf bs) (m0 : 0 ≤ m) (m1 : m < roomOf bs) (h : ∀ k, k < bs.length → k ≠ i → k ≠ j → n % bs.getD k 0 = m % bs.getD k 0) : n = m := by
  by_cases e : i = j
  · subst e
    exact G.one_lost hi n0 n1 m0 m1 fun k hk h1 => h k hk h1 h1
  · have l3 := G.len3
    refine rests_inj (bs := (bs.eraseIdx i).eraseIdx (if j < i then j else j - 1)) (List.Pairwise.sublist (List.eraseIdx_sublist _ _) (List.Pairwise.sublist (List.eraseIdx_sublist _ _) G.co)) (G.but_two hi (by split <;> omega)) n0 n1 m0 m1 fun b hb => ?_
    obtain ⟨k, k1, k2, k3, k4⟩ := mem_but2 hb
    rw [← k4]
    refine h k k3 k1 fun q => k2 ?_
    subst q
    by_cases c : k < i
    · rw [if_pos c, if_pos c]
    · rw [if_neg c, if_neg (by omega)]
      omega
/-- a number of the room: the last two figures are noughts -/
theorem Good.figs_room {bs : List Int} (G : Good bs) {n : Int} (n0 : 0 ≤ n) (n1 : n < prod bs) : (figsOf bs n).drop (bs.length - 2) = [0, 0] ↔ n < roomOf bs := by
  have e : figsOf bs n = figsOf (own bs) n ++ figsOf (bs.drop (bs.length - 2)) (n / roomOf bs) := by
    have q := figs_append (own bs) (bs.drop (bs.length - 2)) n G.own_pos
    rw [own_split] at q
    exact q
  have R := G.room_pos
  have ep : prod bs = roomOf bs * prod (bs.drop (bs.length - 2)) := by
    unfold roomOf
    rw [← prod_append, own_split]
  have l : (figsOf (own bs) n).length = bs.length - 2 := by
    rw [figs_len]
    unfold own
    rw [List.length_take]
    omega
  have d := div_lt_prod (b := roomOf bs) (n := n) (w := prod (bs.drop (bs.length - 2))) (by omega) n0 (by rw [← ep]; exact n1)
  have hz := figs_zero (bs := bs.drop (bs.length - 2)) (n := n / roomOf bs) (fun b hb => G.pos b (List.mem_of_mem_drop hb)) d.1 d.2
  have l2 : (bs.drop (bs.length - 2)).map (fun _ => (0 : Int)) = [0, 0] := by
    obtain ⟨o, g, h, eb, _, _⟩ := G.split
    have : bs.drop (bs.length - 2) = [g, h] := by
      rw [eb]
      have : (o ++ [g, h]).length - 2 = o.length := by simp
      rw [this, List.drop_left]
    rw [this]
    rfl
  rw [l2] at hz
  have e2 : (figsOf bs n).drop (bs.length - 2) = figsOf (bs.drop (bs.length - 2)) (n / roomOf bs) := by
    have q : (figsOf (own bs) n ++ figsOf (bs.drop (bs.length - 2)) (n / roomOf bs)).drop (figsOf (own bs) n).length = figsOf (bs.drop (bs.length - 2)) (n / roomOf bs) := List.drop_left
    rw [l] at q
    rw [e]
    exact q
  rw [e2, hz]
  constructor
  · intro q
    have := Int.emod_add_mul_ediv n (roomOf bs)
    rw [q, Int.mul_zero] at this
    have := Int.emod_lt_of_pos n (show 0 < roomOf bs by omega)
    omega
  · intro q
    exact Int.ediv_eq_zero_of_lt n0 q
end RM

/-! The first loop of the drawn bases, turn by turn; the room; the numbers drawn. Plain Lean. -/
namespace RM
def one1 (p one : Int) : List Int := if 0 < one % 4 then [p * [1, 1, p, p * p].getD (one % 4).toNat 0] else []
theorem sel_snoc : ∀ (a : List Int) (p one : Int), sel (a ++ [p]) one = sel a one ++ one1 p (rest4 a one)
  | [], p, one => by
    show one1 p one ++ [] = [] ++ one1 p one
    rw [List.append_nil, List.nil_append]
  | x :: r, p, one => by
    show one1 x one ++ sel (r ++ [p]) (one / 4) = (one1 x one ++ sel r (one / 4)) ++ one1 p (rest4 r (one / 4))
    rw [sel_snoc r p (one / 4), List.append_assoc]
theorem rest4_snoc : ∀ (a : List Int) (p one : Int), rest4 (a ++ [p]) one = rest4 a one / 4
  | [], _, _ => rfl
  | _ :: r, p, one => rest4_snoc r p (one / 4)
theorem ps_size (one : Int) : ∀ p ∈ psOf one, 3 ≤ p ∧ p ≤ 13 := by
  unfold psOf
  split <;> decide
theorem es_len (one : Int) : (esOf one).length ≤ 9 := by
  unfold esOf
  split <;> decide
theorem ps_len (one : Int) : (psOf one).length ≤ 5 := by
  unfold psOf
  split <;> decide
theorem sel_le (ps : List Int) (one : Int) (h : ∀ p ∈ ps, 3 ≤ p ∧ p ≤ 13) : ∀ x ∈ sel ps one, 0 ≤ x ∧ x ≤ 2197 := by
  induction ps generalizing one with
  | nil => intro x hx; cases hx
  | cons p r ih =>
    intro x hx
    have hx' : x ∈ one1 p one ++ sel r (one / 4) := hx
    rcases List.mem_append.mp hx' with q | q
    · unfold one1 at q
      split at q
      case isTrue c =>
        have e := List.mem_singleton.mp q
        have hp := h p List.mem_cons_self
        have hm : one % 4 = 1 ∨ one % 4 = 2 ∨ one % 4 = 3 := by omega
        have hps : p = 3 ∨ p = 4 ∨ p = 5 ∨ p = 6 ∨ p = 7 ∨ p = 8 ∨ p = 9 ∨ p = 10 ∨ p = 11 ∨ p = 12 ∨ p = 13 := by omega
        rcases hm with m | m | m <;> rw [m] at e <;> rcases hps with q | q | q | q | q | q | q | q | q | q | q <;> subst q <;> subst e <;> decide
      case isFalse => cases q
    · exact ih (one / 4) (fun p hp => h p (List.mem_cons_of_mem _ hp)) x q
theorem ends_len2 (far : Int) (es some : List Int) (picks : Int) : ∀ (k : Nat), (endsTo far es some picks k).1.length ≤ some.length + k
  | 0 => Nat.le_refl _
  | k + 1 => by
    have ih := ends_len2 far es some picks k
    unfold endsTo
    simp only
    split
    · rw [List.length_append, List.length_singleton]
      omega
    · omega
theorem merged_len (l : List Int) (b : Int) : (merged l b).length ≤ l.length := by
  unfold merged
  split
  · rename_i h
    rw [List.length_cons, List.length_drop]
    omega
  · exact Nat.le_refl _
theorem first_len (one : Int) : (firstOf one).length ≤ 5 := by
  unfold firstOf
  have := merged_len (sel (psOf one) one) (rest4 (psOf one) one)
  have := sel_len (psOf one) one
  have := ps_len one
  omega
/-- the size of a product -/
theorem prod_small : ∀ (bs : List Int), (∀ b ∈ bs, 0 < b ∧ b ≤ 999999) → 0 < prod bs ∧ prod bs < 2 ^ (20 * bs.length) + 1
  | [], _ => by decide
  | b :: r, h => by
    obtain ⟨h1, h2⟩ := prod_small r fun x hx => h x (List.mem_cons_of_mem _ hx)
    obtain ⟨b0, b1⟩ := h b List.mem_cons_self
    have e : (2 : Int) ^ (20 * (b :: r).length) = 1048576 * 2 ^ (20 * r.length) := by
      rw [List.length_cons, Nat.mul_add, Nat.add_comm, Int.pow_add]
      rfl
    refine ⟨Int.mul_pos b0 h1, ?_⟩
    show b * prod r < _
    rw [e]
    have h3 : b * prod r ≤ 999999 * prod r := Int.mul_le_mul_of_nonneg_right b1 (Int.le_of_lt h1)
    omega
theorem pow_up {a b : Nat} (h : a ≤ b) : (2 : Int) ^ a ≤ 2 ^ b := by
  have := Nat.pow_le_pow_right (show 0 < 2 by decide) h
  have e : ∀ n : Nat, ((2 ^ n : Nat) : Int) = (2 : Int) ^ n := fun n => by simp
  rw [← e, ← e]
  exact Int.ofNat_le.mpr this
theorem Good.small {bs : List Int} (G : Good bs) {l : List Int} (h : ∀ b ∈ l, b ∈ bs) (hl : l.length ≤ 14) : 0 < prod l ∧ prod l ≤ 2 ^ 280 := by
  have q := prod_small l fun b hb => by have := G.each b (h b hb); omega
  have := pow_up (show 20 * l.length ≤ 280 by omega)
  exact ⟨q.1, by omega⟩
theorem prod_snoc (a : List Int) (b : Int) : prod (a ++ [b]) = prod a * b := by
  rw [prod_append]
  show prod a * (b * 1) = _
  rw [Int.mul_one]
end RM

/-! Rows made wrong. Plain Lean. -/
namespace RM
def spoil (xs : List Int) (i : Nat) (r : Int) : List Int := xs.take i ++ [r] ++ xs.drop (i + 1)
def cutOut (xs : List Int) (i : Nat) : List Int := xs.take i ++ xs.drop (i + 1)
theorem spoil_len {xs : List Int} {i : Nat} (h : i < xs.length) (r : Int) : (spoil xs i r).length = xs.length := by
  unfold spoil
  simp only [List.length_append, List.length_take, List.length_drop, List.length_singleton]
  omega
theorem cut_len {xs : List Int} {i : Nat} (h : i < xs.length) : (cutOut xs i).length = xs.length - 1 := by
  unfold cutOut
  simp only [List.length_append, List.length_take, List.length_drop]
  omega
theorem spoil_at {xs : List Int} {i : Nat} (h : i < xs.length) (r : Int) : (spoil xs i r).getD i 0 = r := by
  unfold spoil
  have l : (xs.take i).length = i := by rw [List.length_take]; omega
  rw [List.getD_eq_getElem?_getD, List.append_assoc, List.getElem?_append_right (by omega), l, Nat.sub_self]
  rfl
theorem spoil_ne {xs : List Int} {i k : Nat} (h : i < xs.length) (r : Int) (hk : k ≠ i) : (spoil xs i r).getD k 0 = xs.getD k 0 := by
  unfold spoil
  have l : (xs.take i).length = i := by rw [List.length_take]; omega
  rw [List.getD_eq_getElem?_getD, List.getD_eq_getElem?_getD, List.append_assoc]
  rcases Nat.lt_or_gt_of_ne hk with c | c
  · rw [List.getElem?_append_left (by omega), List.getElem?_take_of_lt c]
  · rw [List.getElem?_append_right (by omega), l, List.getElem?_append_right (by show 1 ≤ k - i; omega), List.getElem?_drop]
    congr 2
    show i + 1 + (k - i - 1) = k
    omega
theorem spoil_no {bs xs : List Int} {i : Nat} {r : Int} (h : i < xs.length) (hl : xs.length = bs.length) (hr : ¬ (0 ≤ r ∧ r < bs.getD i 0)) : ¬ IsRow bs (spoil xs i r) := fun z => by
  obtain ⟨_, k⟩ := isRow_iff.mp z
  have := k i (by omega)
  rw [spoil_at h] at this
  exact hr this
theorem cut_no {bs xs : List Int} {i : Nat} (h : i < xs.length) (hl : xs.length = bs.length) : ¬ IsRow bs (cutOut xs i) := fun z => by
  have := z.len
  rw [cut_len h] at this
  omega
theorem more_no {bs xs : List Int} {r : Int} (hl : xs.length = bs.length) : ¬ IsRow bs (xs ++ [r]) := fun z => by
  have := z.len
  rw [List.length_append, List.length_singleton] at this
  omega
theorem spoil_row {bs xs : List Int} {i : Nat} {r : Int} (hx : IsRow bs xs) (h : i < bs.length) (r0 : 0 ≤ r) (r1 : r < bs.getD i 0) : IsRow bs (spoil xs i r) := by
  obtain ⟨hl, k⟩ := isRow_iff.mp hx
  refine isRow_iff.mpr ⟨by rw [spoil_len (by omega)]; exact hl, fun j hj => ?_⟩
  by_cases c : j = i
  · subst c
    rw [spoil_at (by omega)]
    exact ⟨r0, r1⟩
  · rw [spoil_ne (by omega) r c]
    exact k j hj
theorem rests_get {bs : List Int} {n : Int} {i : Nat} (h : i < bs.length) : (restsOf bs n).getD i 0 = n % bs.getD i 0 := by
  unfold restsOf
  rw [List.getD_eq_getElem?_getD, List.getElem?_map, List.getElem?_eq_getElem h, List.getD_eq_getElem?_getD, List.getElem?_eq_getElem h]
  rfl
theorem Good.at_ {bs : List Int} (G : Good bs) {i : Nat} (h : i < bs.length) : 3 ≤ bs.getD i 0 ∧ bs.getD i 0 ≤ 999999 := by
  have q := G.each (bs.getD i 0) (by
    rw [List.getD_eq_getElem?_getD, List.getElem?_eq_getElem h]
    exact List.getElem_mem h)
  omega
/-- one wrong rest: the row tells no number -/
theorem Good.wrong {bs : List Int} (G : Good bs) {n r : Int} {i : Nat} (n0 : 0 ≤ n) (n1 : n < roomOf bs) (h : i < bs.length) (r0 : 0 ≤ r) (r1 : r < bs.getD i 0) (ne : r ≠ n % bs.getD i 0) :
    ∃ m, roomOf bs ≤ m ∧ m < prod bs ∧ restsOf bs m = spoil (restsOf bs n) i r := by
  have row := spoil_row (r := r) (rests_isRow (n := n) G.pos) h r0 r1
  obtain ⟨m, m0, m1, e⟩ := crt G.pos G.co row
  refine ⟨m, ?_, m1, e⟩
  rcases Int.lt_or_le m (roomOf bs) with c | c
  · exfalso
    have hl : (restsOf bs n).length = bs.length := rests_len bs n
    have same := G.one_lost (n := m) (m := n) h m0 c n0 n1 fun k hk hki => by
      rw [← rests_get hk, ← rests_get (n := n) hk, e, spoil_ne (by omega) r hki]
    have at_ : (restsOf bs m).getD i 0 = (spoil (restsOf bs n) i r).getD i 0 := by rw [e]
    rw [rests_get h, spoil_at (by omega)] at at_
    rw [same] at at_
    exact ne at_.symm
  · exact c
/-- the room more -/
theorem Good.room_more {bs : List Int} (G : Good bs) {n : Int} (n1 : n < roomOf bs) : n + roomOf bs < prod bs := by
  obtain ⟨o, g, h, e, eo, _⟩ := G.split
  have hg : g ∈ bs := by rw [e]; simp
  have hh : h ∈ bs := by rw [e]; simp
  have g3 := (G.each g hg).1
  have h3 := (G.each h hh).1
  have R := G.room_pos
  have ep : prod bs = roomOf bs * (g * h) := by
    have q : prod bs = prod o * (g * (h * 1)) := by rw [e, prod_append]; rfl
    rw [q, Int.mul_one]
    unfold roomOf
    rw [eo]
  have gh : 9 ≤ g * h := by
    have := Int.mul_le_mul g3 h3 (by omega) (by omega)
    omega
  have := Int.mul_le_mul_of_nonneg_left gh (show 0 ≤ roomOf bs by omega)
  omega
end RM

/-! The program's sums: plain Lean. -/
namespace RM
theorem val_snoc : ∀ (a f : List Int) (b x : Int), f.length = a.length → valOf (a ++ [b]) (f ++ [x]) = valOf a f + x * prod a
  | [], [], b, x, _ => by
    show x + b * 0 = 0 + x * 1
    rw [Int.mul_zero, Int.mul_one]
    omega
  | c :: a, y :: f, b, x, h => by
    show y + c * valOf (a ++ [b]) (f ++ [x]) = y + c * valOf a f + x * (c * prod a)
    rw [val_snoc a f b x (Nat.succ.inj h), Int.mul_add, Int.mul_left_comm c x]
    omega
  | _ :: _, [], _, _, h => absurd h (by simp)
  | [], _ :: _, _, _, h => absurd h (by simp)
theorem val_append : ∀ (a f c g : List Int), f.length = a.length → valOf (a ++ c) (f ++ g) = valOf a f + prod a * valOf c g
  | [], [], c, g, _ => by
    show valOf c g = 0 + 1 * valOf c g
    rw [Int.one_mul]
    omega
  | b :: a, y :: f, c, g, h => by
    show y + b * valOf (a ++ c) (f ++ g) = y + b * valOf a f + b * prod a * valOf c g
    rw [val_append a f c g (Nat.succ.inj h), Int.mul_add, Int.mul_assoc]
    omega
  | _ :: _, [], _, _, h => absurd h (by simp)
  | [], _ :: _, _, _, h => absurd h (by simp)
theorem row_snoc : ∀ {a f : List Int} {b x : Int}, IsRow a f → 0 ≤ x → x < b → IsRow (a ++ [b]) (f ++ [x])
  | [], [], _, _, _, h0, h1 => ⟨⟨h0, h1⟩, trivial⟩
  | _ :: _, _ :: _, _, _, h, h0, h1 => ⟨h.1, row_snoc h.2 h0 h1⟩
  | [], _ :: _, _, _, h, _, _ => h.elim
  | _ :: _, [], _, _, h, _, _ => h.elim
theorem take_snoc {l : List Int} {i : Nat} (h : i < l.length) : l.take (i + 1) = l.take i ++ [l.getD i 0] := by
  rw [List.take_add_one, List.getElem?_eq_getElem h, List.getD_eq_getElem?_getD, List.getElem?_eq_getElem h]
  rfl
theorem getD_map0 {f : Int → Int} {l : List Int} {i : Nat} (h : i < l.length) : (l.map f).getD i 0 = f (l.getD i 0) := by
  rw [List.getD_eq_getElem?_getD, List.getElem?_map, List.getElem?_eq_getElem h, List.getD_eq_getElem?_getD, List.getElem?_eq_getElem h]
  rfl
theorem ext0 {a b : List Int} (l : a.length = b.length) (h : ∀ i, i < a.length → a.getD i 0 = b.getD i 0) : a = b := by
  apply List.ext_getElem l
  intro i h1 h2
  have q := h i h1
  rw [List.getD_eq_getElem?_getD, List.getElem?_eq_getElem h1, List.getD_eq_getElem?_getD, List.getElem?_eq_getElem h2] at q
  exact q
theorem getD_in {l : List Int} {i : Nat} (h : i < l.length) : l.getD i 0 ∈ l := by
  rw [List.getD_eq_getElem?_getD, List.getElem?_eq_getElem h]
  exact List.getElem_mem h
/-- for each base the number that times all bases ahead leaves 1 -/
def TurnsOf (bs ts : List Int) : Prop := ts.length = bs.length ∧ ∀ i, i < bs.length → (0 < ts.getD i 0 ∧ ts.getD i 0 < bs.getD i 0) ∧ (ts.getD i 0 * prod (bs.take i)) % bs.getD i 0 = 1
/-- the figures so far -/
structure Figs (bs xs : List Int) (i : Nat) (fs : List Int) (n : Int) : Prop where
  row : IsRow (bs.take i) fs
  val : valOf (bs.take i) fs = n
  rest : ∀ k, k < i → n % bs.getD k 0 = xs.getD k 0
theorem figs_turn {bs xs fs ts : List Int} {i : Nat} {n : Int} (G : Good bs) (T : TurnsOf bs ts) (hx : IsRow bs xs) (F : Figs bs xs i fs n) (hi : i < bs.length) :
    Figs bs xs (i + 1) (fs ++ [((xs.getD i 0 - n) * ts.getD i 0) % bs.getD i 0]) (n + ((xs.getD i 0 - n) * ts.getD i 0) % bs.getD i 0 * prod (bs.take i)) := by
  have g := G.at_ hi
  have t := T.2 i hi
  have r := (isRow_iff.mp hx).2 i hi
  generalize hf : ((xs.getD i 0 - n) * ts.getD i 0) % bs.getD i 0 = f
  have f0 : 0 ≤ f := by rw [← hf]; exact Int.emod_nonneg _ (by omega)
  have f1 : f < bs.getD i 0 := by rw [← hf]; exact Int.emod_lt_of_pos _ (by omega)
  have fl : fs.length = (bs.take i).length := F.row.len
  refine ⟨?_, ?_, fun k hk => ?_⟩
  · rw [take_snoc hi]
    exact row_snoc F.row f0 f1
  · rw [take_snoc hi, val_snoc _ _ _ _ fl, F.val]
  · by_cases c : k = i
    · subst c
      generalize prod (bs.take k) = p at t ⊢
      generalize bs.getD k 0 = b at *
      generalize ts.getD k 0 = u at *
      generalize xs.getD k 0 = x at *
      have e : (n + f * p) % b = x % b := by
        rw [← hf, Int.add_emod, Int.mul_emod, Int.emod_emod, ← Int.mul_emod, Int.mul_assoc, Int.mul_emod, t.2, Int.mul_one, Int.emod_emod, ← Int.add_emod]
        congr 1
        omega
      rw [e, Int.emod_eq_of_lt r.1 r.2]
    · have lt : k < i := by omega
      have d : bs.getD k 0 ∣ prod (bs.take i) := by
        refine dvd_prod ?_
        have e : (bs.take i).getD k 0 = bs.getD k 0 := by
          rw [List.getD_eq_getElem?_getD, List.getElem?_take, if_pos lt, List.getD_eq_getElem?_getD]
        rw [← e]
        exact getD_in (by rw [List.length_take]; omega)
      obtain ⟨z, hz⟩ := d
      have e : n + f * prod (bs.take i) = n + bs.getD k 0 * (f * z) := by
        rw [hz, Int.mul_left_comm]
      rw [e, Int.add_mul_emod_self_left]
      exact F.rest k lt
theorem figs_done {bs xs fs : List Int} {n : Int} (G : Good bs) (hx : IsRow bs xs) (F : Figs bs xs bs.length fs n) : 0 ≤ n ∧ n < prod bs ∧ restsOf bs n = xs ∧ fs = figsOf bs n := by
  have R := F.row
  have V := F.val
  rw [List.take_length] at R V
  obtain ⟨v0, v1, v2⟩ := val_range G.pos R
  rw [V] at v0 v1 v2
  refine ⟨v0, v1, ?_, v2.symm⟩
  refine ext0 (by rw [rests_len, hx.len]) fun i h => ?_
  rw [rests_len] at h
  rw [rests_get h]
  exact F.rest i h
/-- a base's turn is there -/
theorem turn_is {a b : Int} (hb : 3 ≤ b) (h : Co b a) : ∃ r : Int, 0 < r ∧ r < b ∧ (r * a) % b = 1 := by
  obtain ⟨k, y, e⟩ := co_inv (a := a) (b := b) (by omega) h.symm
  have m : (k % b * a) % b = 1 := by
    rw [Int.mul_emod, Int.emod_emod, ← Int.mul_emod, Int.mul_comm, e, Int.add_mul_emod_self_left]
    exact Int.emod_eq_of_lt (by decide) (by omega)
  have k0 := Int.emod_nonneg k (show b ≠ 0 by omega)
  have k1 := Int.emod_lt_of_pos k (show 0 < b by omega)
  refine ⟨k % b, ?_, k1, m⟩
  by_cases z : k % b = 0
  · rw [z, Int.zero_mul, Int.zero_emod] at m
    omega
  · omega
theorem Good.ahead {bs : List Int} (G : Good bs) {i : Nat} (hi : i < bs.length) : Co (bs.getD i 0) (prod (bs.take i)) := by
  refine Co.prod_right fun b hb => ?_
  obtain ⟨j, hj, e⟩ := List.getElem_of_mem hb
  rw [List.length_take] at hj
  have P := List.pairwise_iff_getElem.mp G.co j i (by omega) hi (by omega)
  rw [List.getElem_take] at e
  rw [List.getD_eq_getElem?_getD, List.getElem?_eq_getElem hi, ← e]
  exact P.symm
/-- lists compared from the last figure on -/
theorem val_less {bs f g h : List Int} {a c : List Int} {b x y : Int} (hp : ∀ z ∈ a, 0 < z) (hf : IsRow a f) (hg : IsRow a g) (e : bs = a ++ b :: c) (_hb : 0 < b) (lt : x < y) : valOf bs (f ++ x :: h) < valOf bs (g ++ y :: h) := by
  have p := prod_pos a hp
  obtain ⟨f0, f1, _⟩ := val_range hp hf
  obtain ⟨g0, g1, _⟩ := val_range hp hg
  rw [e, val_append a f _ _ hf.len, val_append a g _ _ hg.len]
  show valOf a f + prod a * (x + b * valOf c h) < valOf a g + prod a * (y + b * valOf c h)
  rw [Int.mul_add, Int.mul_add]
  have q : prod a * (x + 1) ≤ prod a * y := Int.mul_le_mul_of_nonneg_left (by omega) (by omega)
  rw [Int.mul_add, Int.mul_one] at q
  omega
theorem figs_less {bs : List Int} (G : Good bs) {n m : Int} (n0 : 0 ≤ n) (n1 : n < prod bs) (m0 : 0 ≤ m) (m1 : m < prod bs) {k : Nat} (hk : k < bs.length) (same : ∀ j, k < j → j < bs.length → (figsOf bs n).getD j 0 = (figsOf bs m).getD j 0) (lt : (figsOf bs n).getD k 0 < (figsOf bs m).getD k 0) : n < m := by
  have ln := figs_len bs n
  have lm := figs_len bs m
  have split : ∀ {l : List Int}, l.length = bs.length → l = l.take k ++ l.getD k 0 :: l.drop (k + 1) := fun {l} hl => by
    have q := List.take_append_drop k l
    rw [List.drop_eq_getElem_cons (by omega)] at q
    rw [List.getD_eq_getElem?_getD, List.getElem?_eq_getElem (by omega)]
    exact q.symm
  have tail : (figsOf bs n).drop (k + 1) = (figsOf bs m).drop (k + 1) := by
    refine ext0 (by rw [List.length_drop, List.length_drop]; omega) fun i h => ?_
    rw [List.length_drop] at h
    have q := same (k + 1 + i) (by omega) (by omega)
    rw [List.getD_eq_getElem?_getD, List.getD_eq_getElem?_getD] at q ⊢
    rw [List.getElem?_drop, List.getElem?_drop]
    exact q
  have rows : ∀ {v : Int}, IsRow (bs.take k) ((figsOf bs v).take k) := fun {v} => by
    have r := isRow_iff.mp (figs_isRow v G.pos)
    have lv := figs_len bs v
    refine isRow_iff.mpr ⟨by rw [List.length_take, List.length_take]; omega, fun i h => ?_⟩
    rw [List.length_take] at h
    have q := r.2 i (by omega)
    rw [List.getD_eq_getElem?_getD, List.getD_eq_getElem?_getD] at q ⊢
    rw [List.getElem?_take, List.getElem?_take, if_pos (by omega), if_pos (by omega)]
    exact q
  have v := val_less (bs := bs) (h := (figsOf bs n).drop (k + 1)) (c := bs.drop (k + 1)) (fun z hz => G.pos z (List.mem_of_mem_take hz)) (rows (v := n)) (rows (v := m)) (split rfl) (G.pos _ (getD_in hk)) lt
  rw [← split ln, tail, ← split lm, val_figs G.pos n0 n1, val_figs G.pos m0 m1] at v
  exact v
theorem figs_same {bs : List Int} (G : Good bs) {n m : Int} (n0 : 0 ≤ n) (n1 : n < prod bs) (m0 : 0 ≤ m) (m1 : m < prod bs) (same : ∀ j, j < bs.length → (figsOf bs n).getD j 0 = (figsOf bs m).getD j 0) : n = m := by
  have e : figsOf bs n = figsOf bs m := ext0 (by rw [figs_len, figs_len]) fun i h => same i (by rw [figs_len] at h; exact h)
  have v := val_figs G.pos n0 n1
  rw [e, val_figs G.pos m0 m1] at v
  exact v.symm
theorem getD_rev {l : List Int} {i : Nat} (h : i < l.length) : l.reverse.getD i 0 = l.getD (l.length - 1 - i) 0 := by
  rw [List.getD_eq_getElem?_getD, List.getElem?_reverse h, List.getD_eq_getElem?_getD]
/-- all bases odd: a number is odd where the sum of its figures is -/
theorem val_odd : ∀ {bs fs : List Int}, (∀ b ∈ bs, b % 2 = 1) → fs.length = bs.length → valOf bs fs % 2 = fs.sum % 2
  | [], [], _, _ => rfl
  | b :: r, f :: fs, h, l => by
    have ih := val_odd (bs := r) (fs := fs) (fun x hx => h x (List.mem_cons_of_mem _ hx)) (Nat.succ.inj l)
    have hb := h b List.mem_cons_self
    show (f + b * valOf r fs) % 2 = (f :: fs).sum % 2
    rw [List.sum_cons, Int.add_emod, Int.mul_emod, hb, Int.one_mul, Int.emod_emod, ih, ← Int.add_emod]
  | _ :: _, [], _, h => absurd h (by simp)
  | [], _ :: _, _, h => absurd h (by simp)
theorem half_at {n b : Int} (_h3 : 3 ≤ b) (odd : b % 2 = 1) : ((n % b - n % 2) * ((b + 1) / 2)) % b = n / 2 % b := by
  have e1 : (n % b - n % 2) % b = (2 * (n / 2)) % b := by
    have e2 := Int.emod_add_mul_ediv n 2
    have e3 : 2 * (n / 2) = n - n % 2 := by omega
    rw [e3, Int.sub_emod, Int.emod_emod, ← Int.sub_emod]
  have h2 : 2 * ((b + 1) / 2) = b + 1 := by omega
  rw [Int.mul_emod, e1, ← Int.mul_emod, Int.mul_comm 2, Int.mul_assoc, h2, Int.mul_add, Int.mul_one, Int.add_comm, Int.mul_comm, Int.add_mul_emod_self_left]
theorem half_turn {b : Int} (h3 : 3 ≤ b) (odd : b % 2 = 1) : 0 < (b + 1) / 2 ∧ (b + 1) / 2 < b ∧ ((b + 1) / 2 * 2) % b = 1 := by
  have e : (b + 1) / 2 * 2 = 1 + b * 1 := by omega
  refine ⟨by omega, by omega, ?_⟩
  rw [e, Int.add_mul_emod_self_left]
  exact Int.emod_eq_of_lt (by decide) (by omega)
theorem two_co {b : Int} (odd : b % 2 = 1) : Int.gcd 2 b = 1 := by
  have d1 := Int.gcd_dvd_left (a := 2) (b := b)
  have d2 := Int.gcd_dvd_right (a := 2) (b := b)
  have le : Int.gcd 2 b ≤ 2 := Nat.le_of_dvd (by decide) (Int.natCast_dvd_natCast.mp d1)
  have pos : Int.gcd 2 b ≠ 0 := fun z => by
    rw [Int.gcd_eq_zero_iff] at z
    omega
  by_cases c : Int.gcd 2 b = 2
  · rw [c] at d2
    obtain ⟨k, hk⟩ := d2
    omega
  · omega
/-- the row of one rest left out: the least number -/
theorem least {bs : List Int} (G : Good bs) {i : Nat} (hi : i < bs.length) (n : Int) : 0 ≤ n % prod (bs.eraseIdx i) ∧ (∀ k, k < bs.length → k ≠ i → (n % prod (bs.eraseIdx i)) % bs.getD k 0 = n % bs.getD k 0) ∧
    ∀ m, 0 ≤ m → m < roomOf bs → (∀ k, k < bs.length → k ≠ i → m % bs.getD k 0 = n % bs.getD k 0) → n % prod (bs.eraseIdx i) = m := by
  have pos : 0 < prod (bs.eraseIdx i) := prod_pos _ fun b hb => G.pos b (mem_erase hb)
  have cop : (bs.eraseIdx i).Pairwise Co := G.co.sublist (List.eraseIdx_sublist bs i)
  refine ⟨Int.emod_nonneg _ (Int.ne_of_gt pos), fun k hk ne => ?_, fun m m0 m1 h => ?_⟩
  · have d : bs.getD k 0 ∣ prod (bs.eraseIdx i) := by
      refine dvd_prod ?_
      rw [List.getD_eq_getElem?_getD, List.getElem?_eq_getElem hk]
      exact List.mem_eraseIdx_iff_getElem.mpr ⟨k, hk, ne, rfl⟩
    exact Int.emod_emod_of_dvd n d
  · have q : prod (bs.eraseIdx i) ∣ n - m := same_rests cop fun b hb => by
      obtain ⟨k, ne, lt, e⟩ := mem_but hb
      rw [← e]
      exact (h k lt ne).symm
    have le := G.but_one hi
    have e : n % prod (bs.eraseIdx i) = m % prod (bs.eraseIdx i) := Int.emod_eq_emod_iff_emod_sub_eq_zero.mpr (Int.emod_eq_zero_of_dvd q)
    rw [e]
    exact Int.emod_eq_of_lt m0 (by omega)
theorem sum_rest {n m b : Int} : (n % b + m % b) % b = (n + m) % b := (Int.add_emod n m b).symm
theorem less_rest {n m b : Int} : (n % b - m % b) % b = (n - m) % b := (Int.sub_emod n m b).symm
theorem mul_rest {n m b : Int} : (n % b * (m % b)) % b = (n * m) % b := (Int.mul_emod n m b).symm
theorem more_rest {bs : List Int} {n b : Int} (h : b ∈ bs) : (n + prod bs) % b = n % b := by
  obtain ⟨z, hz⟩ := dvd_prod h
  rw [hz, Int.add_mul_emod_self_left]
/-- the first i are bases -/
structure Upto (bs : List Int) (i : Nat) : Prop where
  each : ∀ j, j < i → 3 ≤ bs.getD j 0 ∧ bs.getD j 0 ≤ 999999 ∧ bs.getD j 0 % 2 = 1
  pair : ∀ j k, j < k → k < i → bs.getD j 0 < bs.getD k 0 ∧ Int.gcd (bs.getD j 0) (bs.getD k 0) ≤ 1
theorem pair_get {R : Int → Int → Prop} {l : List Int} : l.Pairwise R ↔ ∀ j k, j < k → k < l.length → R (l.getD j 0) (l.getD k 0) := by
  rw [List.pairwise_iff_getElem]
  constructor
  · intro h j k jk hk
    have q := h j k (by omega) hk jk
    rw [List.getD_eq_getElem?_getD, List.getElem?_eq_getElem (by omega : j < l.length), List.getD_eq_getElem?_getD, List.getElem?_eq_getElem hk]
    exact q
  · intro h j k hj hk jk
    have q := h j k jk hk
    rw [List.getD_eq_getElem?_getD, List.getElem?_eq_getElem hj, List.getD_eq_getElem?_getD, List.getElem?_eq_getElem hk] at q
    exact q
theorem gcd_one {a b : Int} (ha : 0 < a) (h : Int.gcd a b ≤ 1) : Int.gcd a b = 1 := by
  have : Int.gcd a b ≠ 0 := fun z => by
    rw [Int.gcd_eq_zero_iff] at z
    omega
  omega
theorem upto_good {bs : List Int} (l3 : 3 ≤ bs.length) (l14 : bs.length ≤ 14) (U : Upto bs bs.length) : Good bs := by
  refine ⟨l3, l14, fun x hx => ?_, pair_get.mpr fun j k jk hk => (U.pair j k jk hk).1, pair_get.mpr fun j k jk hk => ?_⟩
  · obtain ⟨j, hj, e⟩ := List.getElem_of_mem hx
    have q := U.each j hj
    rw [List.getD_eq_getElem?_getD, List.getElem?_eq_getElem hj] at q
    rw [← e]
    exact q
  · have z := (U.each j (by omega)).1
    exact gcd_one (by omega) (U.pair j k jk hk).2
theorem good_upto {bs : List Int} (G : Good bs) : Upto bs bs.length :=
  ⟨fun j hj => G.each _ (getD_in hj), fun j k jk hk => ⟨pair_get.mp G.rise j k jk hk, Nat.le_of_eq (pair_get.mp G.co j k jk hk)⟩⟩
end RM

namespace RX
open PySem PySem.Spec PyProof.Rows L2
section
variable {X : Cx} {k : Nat} {f C : Addr} {fd : FuncData} {ps : List Str} {sp : Sp} {W : WX} {x m : Str} {p pos apos : Pos} {e o : Expr} {es : List Expr} {ta : TE} {t : TA}
/-- a call of an own def, what it raises wished for at the caller's slots -/
theorem pe_callX (F : FnOk X.prog X.w X.K X.mg X.base (L2.CX X.prog X.w) k f fd ps sp) (hr : Room k X.A) (hg : Gl X x) (hm : X.mg x = some (.ref f)) (hk : PySem.W.keepIn X.K (.ref f) = true) (hb : Binds X.K fd ps []) (tk : Takes X W)
    (ha : PA X (e :: es) t) (hdb : (x == ("__debug__" : Str)) = false := by decide) (he : starEach (e :: es) X.env = (false, eval e X.env) :: starEach es X.env := by rfl) (hpl : (backTo pos (starEach es X.env)).any (·.1) = false := by rfl) :
    PE X (.Call (.Name x p) (e :: es) [] pos) (tCallS sp (WE W) t) := pe_callS F hr hg hm hk hb (fun σ => passAt tk σ) ha hdb he hpl
/-- a method that may raise, called with what stands in brackets; what is raised is wished for at the caller's slots -/
def tMethX (C : Addr) (m : Str) (sp : Sp) (E : L2.St → XK) (ta : TE) (t : TA) : TE :=
  fun σ H Q => ta σ H fun x H1 => ∃ a dx fs, x = .ref a ∧ H1 a = some (.ins C dx fs) ∧ fs.lookup m = none ∧ t σ H1 fun vs H2 => sp (.ref a :: vs) H2 Q (E σ)
/-- how a method's call is taken apart: the object, the method, then the arguments -/
abbrev Asks (X : Cx) (o : Expr) (m : Str) (apos : Pos) (es : List Expr) (pos : Pos) (pl : Sem Bool) : Prop :=
  eval (.Call (.Attribute o m apos) es [] pos) X.env = (do
    let held ← eval o X.env
    standAt apos.atName
    let (got, ahead) ← holding [held] (getMethod held m pl)
    callWith pos got ahead (backTo pos (starEach es X.env)) (backToKw pos (keywordEach [] X.env)))
theorem pe_methX {pl : Sem Bool} (ho : PE X o ta) (cl : Cls X.K C) (mt : Meth X.K C m f) (ok : FnOk X.prog X.w X.K X.mg X.base (L2.CX X.prog X.w) k f fd ps sp) (room : Room k X.A) (bd : Binds X.K fd ps []) (tk : Takes X W) (hes : PA X (e :: es) t)
    (first : starEach (e :: es) X.env = (false, eval e X.env) :: starEach es X.env := by rfl) (plain : (backTo pos (starEach es X.env)).any (·.1) = false := by rfl) (asks : Asks X o m apos (e :: es) pos pl := by rfl) :
    PE X (.Call (.Attribute o m apos) (e :: es) [] pos) (tMethX C m sp (WE W) ta t) where
  run := by
    intro pn st σ0 H0 Q0 inv wish
    apply PySem.W.methodCall_KW (pl := pl) ?_ asks
    apply thn (ho.run pn st σ0 H0 _ inv wish)
    rintro u st1 ⟨_, H1, inv1, rx, a, dx, fs, rfl, at1, none1, wish1⟩
    obtain rfl : u = Value.ref a := rx
    apply getmeth_ok inv1 at1 cl mt none1
    apply PySem.W.callWith_K (first := [.ref a]) (h₀ := X.base) inv.ok.mod.kin mt.kp ?_ first plain
    apply thn (hes.run pos pn st1 σ0 H1 _ inv1 wish1)
    rintro us st2 ⟨vs, H2, inv2, rel2, wish2⟩
    exact ⟨inv2.kIn, run_fnS (us := .ref a :: us) (vs := .ref a :: vs) ok room bd (passAt tk σ0) inv2 (.cons rfl rel2) wish2⟩
theorem pe_meth0X {pl : Sem Bool} (ho : PE X o ta) (cl : Cls X.K C) (mt : Meth X.K C m f) (ok : FnOk X.prog X.w X.K X.mg X.base (L2.CX X.prog X.w) k f fd ps sp) (room : Room k X.A) (bd : Binds X.K fd ps []) (tk : Takes X W) (asks : Asks X o m apos [] pos pl := by rfl) :
    PE X (.Call (.Attribute o m apos) [] [] pos) (tMethX C m sp (WE W) ta tNil) where
  run := by
    intro pn st σ0 H0 Q0 inv wish
    apply PySem.W.methodCall_KW (pl := pl) ?_ asks
    apply thn (ho.run pn st σ0 H0 _ inv wish)
    rintro u st1 ⟨_, H1, inv1, rx, a, dx, fs, rfl, at1, none1, wish1⟩
    obtain rfl : u = Value.ref a := rx
    apply getmeth_ok inv1 at1 cl mt none1
    exact PySem.W.callWith_K0 (first := [.ref a]) inv1.kIn mt.kp (run_fnS (us := [.ref a]) (vs := [.ref a]) ok room bd (passAt tk σ0) inv1 (.cons rfl .nil) wish1)
/-- a new instance, its __init__ may raise -/
def tMakeX (C : Addr) (sp : Sp) (E : L2.St → XK) (t : TA) : TE :=
  fun σ H Q => t σ H fun vs H1 => ∀ x dx, H1 x = none → H1 dx = none → dx ≠ x → sp (.ref x :: vs) (upd (upd H1 dx (.own x)) x (.ins C dx [])) (fun v H2 => v = .non ∧ Q (.ref x) H2) (E σ)
theorem pe_makeX (mk : Mk X.K C f) (ok : FnOk X.prog X.w X.K X.mg X.base (L2.CX X.prog X.w) k f fd ps sp) (room : Room (k + 1) X.A) (gl : Gl X x) (at0 : X.mg x = some (.ref C)) (bd : Binds X.K fd ps []) (tk : Takes X W) (hes : PA X (e :: es) t)
    (nd : (x == ("__debug__" : Str)) = false := by decide) (first : starEach (e :: es) X.env = (false, eval e X.env) :: starEach es X.env := by rfl) (plain : (backTo pos (starEach es X.env)).any (·.1) = false := by rfl) :
    PE X (.Call (.Name x p) (e :: es) [] pos) (tMakeX C sp (WE W) t) where
  run := by
    intro pn st σ0 H0 Q0 inv wish
    apply wpAny_Call_Name_kw
    apply ld_glob inv gl at0 ?_ nd
    apply PySem.W.callWith_K (h₀ := X.base) inv.ok.mod.kin mk.kp ?_ first plain
    apply thn (hes.run pos pn st σ0 H0 _ inv wish)
    rintro us st1 ⟨vs, H1, inv1, rel1, wish1⟩
    refine ⟨inv1.kIn, ?_⟩
    -- the instance and its dict are the next two places
    let n := st1.heap.objs.size
    have made := Inv.made (C := C) inv1
    have here := wish1 (n + 1) n (inv1.hok.fresh (Nat.le_succ _)) (inv1.hok.fresh (Nat.le_refl _)) (Nat.ne_of_lt (Nat.lt_succ_self n))
    have rel2 : Vals (V.ref (n + 1) :: vs) (Value.ref (n + 1) :: us) := .cons rfl rel1
    have count : (Value.ref (n + 1) :: us).length = ps.length := rel2.length.symm.trans (ok.len _ _ _ _ here)
    have bound := bd _ (Value.ref (n + 1) :: us) made.kIn (by simpa using count)
    rw [List.append_nil] at bound
    apply wpAny_call
    apply make_map (f := f) inv1.kIn mk.makes mk.init (beq_iff_eq.mp mk.fn)
    apply codeAny_mono (ok.run _ X.stack _ _ ⟨Value.ref (n + 1) :: us, []⟩ (Value.ref (n + 1) :: us) _ _ (WE W σ0) (room.make C us []) (made.env0.make C us []) bound rel2 here)
    intro res st2 after
    match res, after with
    | .error err, after => exact passAt tk σ0 pn _ _ err st2 made after
    | .ok (.ret u), after =>
      obtain ⟨_, H3, inv3, rv, rfl, wish3⟩ := made.after after
      exact ⟨rv, V.ref (n + 1), H3, inv3, rfl, wish3⟩
    | .ok .next, after => exact after.elim
    | .ok .brk, after => exact after.elim
    | .ok .cont, after => exact after.elim
/-- in a comprehension nothing may be raised -/
theorem tk0 {X : Cx} : Takes X (fun _ _ _ _ => False) := takes0
end
end RX
namespace RX
open PySem PySem.Spec PyProof.Rows L2
/-- a, b = x, y with plain local names: the pair itself is not tracked -/
def tPar2 (i j : Nat) (ta : TA) : TS := fun D σ H => ta σ H fun vs H1 => ∃ u v, vs = [u, v] ∧ D.nx ((σ.set i (some u)).set j (some v)) H1
theorem ps_par2 {X : Cx} {i j : Nat} {x y : Str} {a b : Expr} {ta : TA} {px py pt pos : Pos} {kt k2 pt2} (calm : X.calm = true) (nd : X.N.Nodup) (ix : X.N[i]? = some x) (iy : X.N[j]? = some y) (apart : i ≠ j)
    (lx : X.env.scope.names.lookup x = some .local) (ly : X.env.scope.names.lookup y = some .local) (hab : PA X [a, b] ta)
    (sw : swappedStores [.Tuple [.Name x px, .Name y py] kt pt] (.Tuple [a, b] k2 pt2) X.env = pure (some [x, y]))
    (sole : swapsWithSole [.Tuple [.Name x px, .Name y py] kt pt] (.Tuple [a, b] k2 pt2) pos.line X.env = pure false := by rfl) :
    PS X (.Assign [.Tuple [.Name x px, .Name y py] kt pt] (.Tuple [a, b] k2 pt2) pos) (tPar2 i j ta) where
  run := by
    intro pn st σ0 H0 D inv wish
    rw [exec_Assign_arm]
    apply wpAny_bind (wpAny_standAt _)
    rw [sole]
    apply wpAny_bind (wpAny_pure _)
    rw [if_neg (by decide)]
    apply wpAny_bind (Tuple_ _)
    apply thn (hab.run _ pn st σ0 H0 _ inv wish)
    rintro us st1 ⟨_, H1, inv1, rel, u, v, rfl, wish1⟩
    match us, rel with
    | [u', v'], .cons ru (.cons rv .nil) =>
      refine wpAny_newObj_type ?_ (by show 2 ≤ sizeLine; decide)
      have inv2 : Inv X pn σ0 H1 { st1 with heap := st1.heap.push { cls := .type "tuple", data := .seq [u', v'].toArray } } :=
        inv1.kept (t' := st1.toks) fun b o at0 => Heap.get?_push_of_some _ at0
      rw [sw]
      apply wpAny_bind (wpAny_pure _)
      show wpAny (model X.prog X.w) X.A (do
        rule "assign.swapped-stores"
        let both ← unpackItems (.ref st1.heap.objs.size) 2 none
        assignInOrder [fun z => bindName X.env y z, fun z => bindName X.env x z] both.reverse
        pure Flow.next) _ _ _
      refine wpAny_bind (wpAny_rule (wpAny_bind (unpackItems_tuple (items := #[u', v']) (inv.ok.hd calm) (IsTup.new st1.heap _) ?_)))
      intro hp more
      have inv3 := inv2.kept (h' := hp) (t' := st1.toks) fun b o at0 => more b o (Nat.ne_of_lt (Heap.lt_size at0)) at0
      show wpAny _ _ (assignInOrder [fun z => bindName X.env y z, fun z => bindName X.env x z] [v', u'] >>= fun _ => pure Flow.next) _ _ _
      apply wpAny_bind
      apply assignInOrder_cons
      apply wpAny_bindName
      apply store_ok inv3 nd iy (.inl ly) rv ?_ (.inr ly)
      intro st4 inv4
      apply assignInOrder_cons
      apply wpAny_bindName
      apply store_ok inv4 nd ix (.inl lx) ru ?_ (.inr lx)
      intro st5 inv5
      apply assignInOrder_nil
      apply wpAny_pure
      rw [List.set_comm _ _ (Ne.symm apart)] at inv5
      exact ⟨_, H1, inv5, wish1⟩
theorem Room.eq {k : Nat} {A : Around} (hr : Room k A) : A.units + 64 < cLine := by have := hr.un; omega
/-- isinstance(e, T), e the exception of the suite -/
def rIsEx (K : PySem.W.Frag) (cls : Value) (d : Option Addr) (a : Addr) : List V → Hp → VK → Prop := fun xs H Q => ∃ D, cls = .ref D ∧ d = none ∧ ExcC K D ∧ rIsE K D a xs H Q
theorem call_isEx {X : Cx} {a : Addr} {oe : Obj} {cls : Value} {d : Option Addr} {pn : List (Addr × Obj)} (hz : Zc cls d oe) (hf : ∃ vs, oe.data = .fields vs) : CallR (X.suite a ((a, oe) :: pn)) (.builtin "isinstance") (rIsEx X.K cls d a) := by
  intro pins s σ H xs us Q I r h
  obtain ⟨D, rfl, rfl, C, h⟩ := h
  exact call_isE C hz hf pins s σ H xs us Q I r h
end RX
theorem L2.Room.eq {k : Nat} {A : PySem.Around} (hr : L2.Room k A) : A.units + 64 < PySem.cLine := RX.Room.eq hr

/-! What the own rules of calls evaluate to (over HandS.Evl). -/
namespace RX
open PySem PySem.Spec PyProof.Rows L2 Evl
/-- a * b, whatever keeps it below the line -/
theorem op_mulA {X : Cx} : OpR X (binaryOp .Mult) (rI IntMulOk fun i j => .int (i * j)) := opI fun _ _ _ _ _ _ _ hc q => mul_int q hc
theorem mul_l {i j : Int} (h : -(2 ^ 64) < i ∧ i < 2 ^ 64) : IntMulOk i j := IntMulOk.of_left (intBits_le_64 h.1 h.2)
theorem mul_r {i j : Int} (h : -(2 ^ 64) < j ∧ j < 2 ^ 64) : IntMulOk i j := IntMulOk.of_right (intBits_le_64 h.1 h.2)
theorem bits_of {z : Int} (n : Nat) (h0 : 0 < n) (h : z.natAbs < 2 ^ n) : Builtin.Int.intBits z ≤ n := by
  unfold Builtin.Int.intBits
  split
  · exact Nat.zero_le _
  · have := PySem.Flt.log2_lt_of h0 h
    omega
theorem mul_w {i j : Int} (n : Nat) (h0 : 0 < n) (h1 : n ≤ 2 ^ 20) (hi : i.natAbs < 2 ^ n) (hj : j.natAbs < 2 ^ n) : IntMulOk i j :=
  IntMulOk.of_bits (Nat.le_trans (bits_of n h0 hi) h1) (Nat.le_trans (bits_of n h0 hj) h1)
/-- a call that comes back with z, one that raises cls -/
def SpR (sp : Sp) (vs : List V) (H : Hp) (cls : Value) : Prop := ∀ H1, Ex H H1 → ∀ (Q : VK) (E : XK), (∀ H2, Ex H1 H2 → E cls none H2) → sp vs H1 Q E
/-- raises, as wished -/
def EvX (te : TE) (σ : L2.St) (H : Hp) : Prop := ∀ H1, Ex H H1 → ∀ Q : VK, te σ H1 Q
def EvAX (ta : TA) (σ : L2.St) (H : Hp) : Prop := ∀ H1, Ex H H1 → ∀ Q : List V → Hp → Prop, ta σ H1 Q
section
variable {K : PySem.W.Frag} {σ : L2.St} {H H' : Hp} {ta tb te : TE} {x y z v : V} {r : R2} {sp : Sp} {vs xs : List V} {E : L2.St → XK} {t tr : TA} {C dx b : Addr} {m : Str} {fs : List (Str × V)} {cls : Value} {tt : TT}
theorem SpV.mono (e : Ex H H') (h : SpV sp vs H z) : SpV sp vs H' z := fun H1 a Q q => h H1 (e.trans a) Q q
theorem ev_callS (h : EvA t σ H vs) (hs : SpV sp vs H z) : Ev (tCallS sp E t) σ H z := fun H1 e Q q =>
  h H1 e _ fun H2 e2 => hs H2 (e.trans e2) Q (fun H3 e3 => q H3 (e2.trans e3)) (E σ)
theorem el_callS (h : EvA t σ H vs) (hs : SpL sp vs H xs) : EvL (tCallS sp E t) σ H xs := fun H1 e Q q =>
  h H1 e _ fun H2 e2 => hs H2 (e.trans e2) Q (fun p H3 hp e3 h3 => q p H3 (fresh_back e2 hp) (e2.trans e3) h3) (E σ)
theorem evx_callS (h : EvA t σ H vs) (hs : SpR sp vs H cls) (w : ∀ H2, Ex H H2 → E σ cls none H2) : EvX (tCallS sp E t) σ H := fun H1 e Q =>
  h H1 e _ fun H2 e2 => hs H2 (e.trans e2) Q (E σ) fun H3 e3 => w H3 ((e.trans e2).trans e3)
theorem evx_callA (h : EvAX t σ H) : EvX (tCallS sp E t) σ H := fun H1 e Q => h H1 e _
theorem ev_methX (ha : Ev ta σ H (.ref b)) (hb : H b = some (.ins C dx fs)) (hm : fs.lookup m = none) (h : EvA t σ H vs) (hs : SpV sp (.ref b :: vs) H z) : Ev (tMethX C m sp E ta t) σ H z := fun H1 e Q q =>
  ha H1 e _ fun H2 e2 => ⟨b, dx, fs, rfl, (e.trans e2) b _ hb, hm, h H2 (e.trans e2) _ fun H3 e3 => hs H3 ((e.trans e2).trans e3) Q (fun H4 e4 => q H4 ((e2.trans e3).trans e4)) (E σ)⟩
theorem el_methX (ha : Ev ta σ H (.ref b)) (hb : H b = some (.ins C dx fs)) (hm : fs.lookup m = none) (h : EvA t σ H vs) (hs : SpL sp (.ref b :: vs) H xs) : EvL (tMethX C m sp E ta t) σ H xs := fun H1 e Q q =>
  ha H1 e _ fun H2 e2 => ⟨b, dx, fs, rfl, (e.trans e2) b _ hb, hm, h H2 (e.trans e2) _ fun H3 e3 => hs H3 ((e.trans e2).trans e3) Q (fun p H4 hp e4 h4 => q p H4 (fresh_back (e2.trans e3) hp) ((e2.trans e3).trans e4) h4) (E σ)⟩
theorem evx_methX (ha : Ev ta σ H (.ref b)) (hb : H b = some (.ins C dx fs)) (hm : fs.lookup m = none) (h : EvA t σ H vs) (hs : SpR sp (.ref b :: vs) H cls) (w : ∀ H2, Ex H H2 → E σ cls none H2) : EvX (tMethX C m sp E ta t) σ H := fun H1 e Q =>
  ha H1 e _ fun H2 e2 => ⟨b, dx, fs, rfl, (e.trans e2) b _ hb, hm, h H2 (e.trans e2) _ fun H3 e3 => hs H3 ((e.trans e2).trans e3) Q (E σ) fun H4 e4 => w H4 (((e.trans e2).trans e3).trans e4)⟩
theorem evx_methA (ha : Ev ta σ H (.ref b)) (hb : H b = some (.ins C dx fs)) (hm : fs.lookup m = none) (h : EvAX t σ H) : EvX (tMethX C m sp E ta t) σ H := fun H1 e Q =>
  ha H1 e _ fun H2 e2 => ⟨b, dx, fs, rfl, (e.trans e2) b _ hb, hm, h H2 (e.trans e2) _⟩
theorem evx_op1 (ha : EvX ta σ H) : EvX (tOp r ta tb) σ H := fun H1 e Q => ha H1 e _
theorem evx_op2 (ha : Ev ta σ H x) (hb : EvX tb σ H) : EvX (tOp r ta tb) σ H := fun H1 e Q => ha H1 e _ fun H2 e2 => hb H2 (e.trans e2) _
theorem eax_1 (ha : EvX ta σ H) : EvAX (tCons ta tr) σ H := fun H1 e Q => ha H1 e _
theorem eax_2 (ha : Ev ta σ H x) (hr : EvAX tr σ H) : EvAX (tCons ta tr) σ H := fun H1 e Q => ha H1 e _ fun H2 e2 => hr H2 (e.trans e2) _
/- statements whose expression raises -/
variable {D : Ends} {tu tw tz : TS} {g : TG}
theorem sx_asg (h : EvX te σ H) : tAsg te g D σ H := h H (Ex.refl H) _
theorem sx_drop (h : EvX te σ H) : tDrop te D σ H := h H (Ex.refl H) _
theorem sx_ret (h : EvX te σ H) : tRet te D σ H := h H (Ex.refl H) _
theorem s_seq (h : tu { D with nx := tw D } σ H) : tSeq tu tw D σ H := h
/-- a, b = x, y -/
theorem s_par2 {i j : Nat} {u w : V} (h : EvA t σ H [u, w]) (k : ∀ H1, Ex H H1 → D.nx ((σ.set i (some u)).set j (some w)) H1) : tPar2 i j t D σ H := h H (Ex.refl H) _ fun H1 e => ⟨u, w, rfl, k H1 e⟩
theorem q_par2 {i j : Nat} {u w : V} (h : EvA t σ H [u, w]) (k : ∀ H1, Ex H H1 → tz D ((σ.set i (some u)).set j (some w)) H1) : tSeq (tPar2 i j t) tz D σ H := s_par2 (D := { D with nx := tz D }) h k
end
section
variable {K : PySem.W.Frag} {σ : L2.St} {H : Hp} {t : TA} {sp : Sp} {E : L2.St → XK} {vs : List V} {D : Ends} {i : Nat}
theorem s_asgCall (h : EvA t σ H vs) (k : ∀ H1, Ex H H1 → sp vs H1 (fun v H2 => D.nx (σ.set i (some v)) H2) (E σ)) : tAsg (tCallS sp E t) (gName i) D σ H := h H (Ex.refl H) _ fun H1 e => k H1 e
theorem rc_abs {i : Int} : RC (fun xs H Q => ∃ i, xs = [.int i] ∧ Q (.int (if i < 0 then -i else i)) H) [.int i] H (.int (if i < 0 then -i else i)) := fun H1 _ Q q => ⟨i, rfl, q H1 (Ex.refl H1)⟩
end
/-- the slots written out -/
theorem nrm {t : TS} {D : Ends} {σ σ' : L2.St} {H : Hp} (h : t D σ' H) (e : σ = σ') : t D σ H := by
  rw [e]
  exact h
/- comparisons -/
section
variable {σ : L2.St} {H : Hp} {ta tb tc : TE} {K : PySem.W.Frag}
theorem rv_eqD {K : PySem.W.Frag} {H : Hp} {x y : V} {d e : PyData} (h : ∀ H1, Ex H H1 → Dp K H1 x d ∧ Dp K H1 y e) (sd : SeqAt.shaped d = true) (se : SeqAt.shaped e = true) : RV (rEqD K) x y H (.bl (PyData.eqv d e)) := fun H1 a _ q =>
  ⟨d, e, (h H1 a).1, (h H1 a).2, sd, se, q H1 (Ex.refl H1)⟩
theorem rv_neD {K : PySem.W.Frag} {H : Hp} {x y : V} {d e : PyData} (h : ∀ H1, Ex H H1 → Dp K H1 x d ∧ Dp K H1 y e) (sd : SeqAt.shaped d = true) (se : SeqAt.shaped e = true) : RV (rNeD K) x y H (.bl (!PyData.eqv d e)) := fun H1 a _ q =>
  ⟨d, e, (h H1 a).1, (h H1 a).2, sd, se, q H1 (Ex.refl H1)⟩
theorem eqv_int (i j : Int) : PyData.eqv (.int i) (.int j) = decide (i = j) := by
  by_cases h : i = j
  · subst h; simp [PyData.eqv]
  · simp [PyData.eqv, h]
theorem rv_eqI {i j : Int} : RV (rEqD K) (.int i) (.int j) H (.bl (decide (i = j))) := by
  rw [← eqv_int]
  exact rv_eqD (fun _ _ => ⟨.int i, .int j⟩) (by first | rfl | decide | simp [SeqAt.shaped]) (by first | rfl | decide | simp [SeqAt.shaped])
theorem rv_neI {i j : Int} : RV (rNeD K) (.int i) (.int j) H (.bl (!decide (i = j))) := by
  rw [← eqv_int]
  exact rv_neD (fun _ _ => ⟨.int i, .int j⟩) (by first | rfl | decide | simp [SeqAt.shaped]) (by first | rfl | decide | simp [SeqAt.shaped])
/-- a < b < c -/
theorem ev_chainI {i j l : Int} (ha : Ev ta σ H (.int i)) (hb : Ev tb σ H (.int j)) (hc : Ev tc σ H (.int l)) {f g : Int → Int → Bool} : Ev (tChain (rI0 fun i j => .bl (f i j)) (rI0 fun i j => .bl (g i j)) ta tb tc) σ H (.bl (f i j && g j l)) := fun H1 e Q q =>
  ha H1 e _ fun H2 e2 => hb H2 (e.trans e2) _ fun H3 e3 => ⟨i, j, rfl, rfl, f i j, rfl, by
    cases h : f i j with
    | true =>
      show tc σ H3 _
      exact hc H3 ((e.trans e2).trans e3) _ fun H4 e4 => ⟨j, l, rfl, rfl, by
        have := q H4 ((e2.trans e3).trans e4)
        rw [h, Bool.true_and] at this
        exact this⟩
    | false =>
      show Q (.bl false) H3
      have := q H3 (e2.trans e3)
      rw [h, Bool.false_and] at this
      exact this⟩
end
end RX

/-! Lists: what gives a list that is tracked, and what is done with it. -/
namespace RX
open PySem PySem.Spec PyProof.Rows L2 Evl
/-- gives a tracked list xs, a new one or one that stands already -/
def EvR (te : TE) (σ : L2.St) (H : Hp) (xs : List V) : Prop := ∀ H1, Ex H H1 → ∀ Q : VK, (∀ p H2, Ex H1 H2 → H2 p = some (.lst xs) → Q (.ref p) H2) → te σ H1 Q
theorem intsAt {ns : List Int} {i : Nat} (h : i < ns.length) : (ns.map V.int)[i]? = some (.int (ns.getD i 0)) := by
  rw [List.getElem?_map, List.getElem?_eq_getElem h, List.getD_eq_getElem?_getD, List.getElem?_eq_getElem h]
  rfl
theorem ints_len (ns : List Int) : (ns.map V.int).length = ns.length := List.length_map _
theorem cut_from (xs : List V) (k : Nat) : cutV xs (some (k : Int)) none = xs.drop k := by
  unfold cutV
  rw [HT.sIx_nat, HT.sIx_none]
  by_cases h : k ≤ xs.length
  · rw [Nat.min_eq_left h]
    exact List.take_of_length_le (by rw [List.length_drop]; omega)
  · rw [Nat.min_eq_right (by omega), List.drop_of_length_le (Nat.le_refl _), List.drop_of_length_le (by omega)]
    exact List.take_nil
theorem cut_to (xs : List V) (k : Nat) : cutV xs none (some (k : Int)) = xs.take k := by
  unfold cutV
  rw [HT.sIx_nat, HT.sIx_none, Nat.sub_zero, List.drop_zero]
  by_cases h : k ≤ xs.length
  · rw [Nat.min_eq_left h]
  · rw [Nat.min_eq_right (by omega), List.take_of_length_le (Nat.le_refl _), List.take_of_length_le (by omega)]
section
variable {K : PySem.W.Frag} {σ : L2.St} {H H' : Hp} {ta tb te : TE} {xs ys : List V} {v : V} {p : Addr} {D : Ends} {i : Nat}
theorem lr (h : EvL te σ H xs) : EvR te σ H xs := fun H1 e Q q => h H1 e Q fun p H2 _ e2 h2 => q p H2 e2 h2
theorem er_var {j : Nat} (h : σ[j]? = some (some (.ref p))) (hp : H p = some (.lst xs)) : EvR (tVar j) σ H xs := fun H1 e Q q => ⟨.ref p, h, q p H1 (Ex.refl H1) (e p _ hp)⟩
theorem er_of (h : Ev te σ H (.ref p)) (hp : H p = some (.lst xs)) : EvR te σ H xs := fun H1 e Q q => h H1 e Q fun H2 e2 => q p H2 e2 (e2 p _ (e p _ hp))
theorem el_cat (ha : EvR ta σ H xs) (hb : EvR tb σ H ys) (hz : xs.length + ys.length ≤ 100000) : EvL (tOp rCat ta tb) σ H (xs ++ ys) := fun H1 e Q q =>
  ha H1 e _ fun a H2 e2 h2 => hb H2 (e.trans e2) _ fun b H3 e3 h3 => ⟨a, b, xs, ys, rfl, rfl, e3 a _ h2, h3, sz_of hz, fun l hl => q l _ (fresh_back (e2.trans e3) hl) ((e2.trans e3).trans (Ex.new hl)) upd_same⟩
theorem el_cut {tl th : TO} {lo hi : Option Int} (h : EvR te σ H xs) (h1 : EvO tl σ H lo) (h2 : EvO th σ H hi) : EvL (tSl (rSlL K) te tl th) σ H (cutV xs lo hi) := fun H1 e Q q =>
  h H1 e _ fun a H2 e2 g2 => h1 H2 (e.trans e2) _ fun H3 e3 => h2 H3 ((e.trans e2).trans e3) _ fun H4 e4 =>
    ⟨a, xs, rfl, sq_of ((e3.trans e4) a _ g2), fun l hl => q l _ (fresh_back ((e2.trans e3).trans e4) hl) (((e2.trans e3).trans e4).trans (Ex.new hl)) upd_same⟩
theorem ev_ixR {i : Int} (ha : EvR ta σ H xs) (hb : Ev tb σ H (.int i)) (hx : atI xs i = some v) : Ev (tOp (rIxL K) ta tb) σ H v := fun H1 e Q q =>
  ha H1 e _ fun a H2 e2 h2 => hb H2 (e.trans e2) _ fun H3 e3 => ⟨a, xs, i, v, rfl, rfl, sq_of (e3 a _ h2), hx, q H3 (e2.trans e3)⟩
theorem ev_lenR (ha : EvR ta σ H xs) : Ev (tCB (rLenS K) (tCons ta tNil)) σ H (.int (xs.length : Int)) := fun H1 e Q q =>
  ha H1 e _ fun a H2 e2 h2 => ⟨a, xs, rfl, .inl (sq_of h2), q H2 e2⟩
theorem el_listR (ha : EvR ta σ H xs) : EvL (tCB (rListS K) (tCons ta tNil)) σ H xs := fun H1 e Q q =>
  ha H1 e _ fun a H2 e2 h2 => ⟨a, xs, rfl, .inl (sq_of h2), fun l hl => q l _ (fresh_back e2 hl) (e2.trans (Ex.new hl)) upd_same⟩
theorem sorted_is {a b : List Int} (hp : a.Perm b) (hs : a.Pairwise (· ≤ ·)) : a = b.mergeSort (fun x y => decide (x ≤ y)) := by
  have P := List.mergeSort_perm b (fun x y : Int => decide (x ≤ y))
  have S := List.pairwise_mergeSort (le := fun x y : Int => decide (x ≤ y)) (fun a b c h1 h2 => by simp at *; omega) (fun a b => by simp; omega) b
  exact PySem.W.ksm_same (hp.trans P.symm) hs (S.imp fun h => by simpa using h)
theorem el_sortedR {ns : List Int} (ha : EvR ta σ H (ns.map V.int)) : EvL (tCB (rSortedI K) (tCons ta tNil)) σ H ((ns.mergeSort (fun x y => decide (x ≤ y))).map V.int) := fun H1 e Q q =>
  ha H1 e _ fun a H2 e2 h2 => ⟨a, ns, rfl, sq_of h2, fun ns' l hp hs hl => by
    rw [sorted_is hp hs]
    exact q l _ (fresh_back e2 hl) (e2.trans (Ex.new hl)) upd_same⟩
theorem ea_ints : ∀ (ns : List Int), EvA (ns.foldr (fun i t => tCons (tC (.int i)) t) tNil) σ H (ns.map V.int)
  | [] => ea_nil
  | _ :: r => ea_cons ev_c (ea_ints r)
end
end RX

/-! Comprehensions over ints, fields, boards as they are tracked. -/
namespace RX
open PySem PySem.Spec PyProof.Rows L2 Evl
theorem et_yes {σ : L2.St} {H : Hp} : EvT tYes σ H true := fun H1 _ _ q => q H1 (Ex.refl H1)
theorem given_all (n : Nat) (v : Nat → V) : given n (fun _ => true) v = (List.range n).map v := by
  unfold given
  rw [List.filter_eq_self.mpr (fun _ _ => rfl)]
theorem map_range {ms : List Int} {n : Nat} (h : ms.length = n) : (List.range n).map (fun i => V.int (ms.getD i 0)) = ms.map V.int := by
  apply List.ext_getElem?
  intro i
  rw [List.getElem?_map, List.getElem?_map]
  by_cases c : i < n
  · rw [List.getElem?_range c, List.getElem?_eq_getElem (by omega : i < ms.length)]
    show some (V.int (ms.getD i 0)) = some (V.int ms[i])
    rw [List.getD_eq_getElem?_getD, List.getElem?_eq_getElem (by omega : i < ms.length)]
    rfl
  · rw [List.getElem?_eq_none (by rw [List.length_range]; omega), List.getElem?_eq_none (by omega : ms.length ≤ i)]
    rfl
section
variable {K : PySem.W.Frag} {σ : L2.St} {H H' : Hp} {ta tb te tl : TE} {j : Nat} {vs : List Nat} {a : Addr}
/-- [e for x in ns], its values the ints ms -/
theorem el_compI {ns ms : List Int} (h : Ev tl σ H (.ref a)) (hx : SqL K H a (ns.map V.int)) (hz : ns.length ≤ 40000) (hw : ∀ x, wipe ((wipe σ vs).set j (some x)) vs = wipe σ vs) (hl : ms.length = ns.length)
    (he : ∀ (i : Nat) H1, Ex H H1 → i < ns.length → Ev te ((wipe σ vs).set j (some (.int (ns.getD i 0)))) H1 (.int (ms.getD i 0))) : EvL (tLc (iList K tl) (gName j) tYes te vs) σ H (ms.map V.int) := by
  have q := el_lcL (K := K) (te := te) (t := tYes) (fun _ => true) (fun i => V.int (ms.getD i 0)) h hx (by rw [ints_len]; exact hz) hw (fun i x H1 _ _ => et_yes) (fun i x H1 e hi _ => by
    have hi' : i < ns.length := by
      have := (List.getElem?_eq_some_iff.mp hi).1
      rw [ints_len] at this
      exact this
    rw [intsAt hi'] at hi
    cases hi
    exact he i H1 e hi')
  rw [given_all, map_range (by rw [hl, ints_len])] at q
  exact q
/-- [e for k in range(n)] -/
theorem el_compR {ta : TA} {n : Nat} {ms : List Int} (h : EvA ta σ H [.int (n : Int)]) (hn : n ≤ 40000) (hw : ∀ x, wipe ((wipe σ vs).set j (some x)) vs = wipe σ vs) (hl : ms.length = n)
    (he : ∀ (i : Nat) H1, Ex H H1 → i < n → Ev te ((wipe σ vs).set j (some (.int (i : Int)))) H1 (.int (ms.getD i 0))) : EvL (tLc (iRng1 ta) (gName j) tYes te vs) σ H (ms.map V.int) := by
  have q := el_lcR1 (te := te) (t := tYes) (fun _ => true) (fun i => V.int (ms.getD i 0)) h ⟨by omega, by omega⟩ hw (fun i H1 _ _ => et_yes) (fun i H1 e hi _ => he i H1 e (by omega))
  have en : ((n : Int)).toNat = n := by omega
  rw [en, given_all, map_range hl] at q
  exact q
theorem ev_fld {C dx b : Addr} {fs : List (Str × V)} {f : Str} {v : V} (ha : Ev ta σ H (.ref b)) (hb : H b = some (.ins C dx fs)) (hc : Cls K C) (hn : NoAttr K C f) (hf : fs.lookup f = some v) : Ev (tFld K ta f) σ H v := fun H1 e Q q =>
  ha H1 e _ fun H2 e2 => ⟨b, C, dx, fs, v, rfl, (e.trans e2) b _ hb, hc, hn, hf, q H2 e2⟩
theorem rv_notB {x y : Bool} : RV rNotB (.bl x) (.bl y) H (.bl (!decide (x = y))) := fun H1 _ _ q => ⟨x, y, rfl, rfl, q H1 (Ex.refl H1)⟩
theorem rv_isB {x y : Bool} : RV rIsB (.bl x) (.bl y) H (.bl (decide (x = y))) := fun H1 _ _ q => ⟨x, y, rfl, rfl, q H1 (Ex.refl H1)⟩
end
section
variable {K : PySem.W.Frag} {σ : L2.St} {H : Hp} {te tb : TE} {p : Addr} {ns : List Int}
theorem spoil_map (xs : List Int) (i : Nat) (r : Int) : ((xs.map V.int).take i ++ [V.int r]) ++ (xs.map V.int).drop (i + 1) = (RM.spoil xs i r).map V.int := by
  unfold RM.spoil
  simp only [List.map_append, List.map_take, List.map_drop, List.map_cons, List.map_nil]
theorem cutOut_map (xs : List Int) (i : Nat) : (xs.map V.int).take i ++ (xs.map V.int).drop (i + 1) = (RM.cutOut xs i).map V.int := by
  unfold RM.cutOut
  simp only [List.map_append, List.map_take, List.map_drop]
/-- xs[:i], xs[i + 1:] -/
theorem el_to {i : Nat} (h : Ev te σ H (.ref p)) (hp : SqL K H p (ns.map V.int)) (hi : Ev tb σ H (.int (i : Int))) : EvL (tSl (rSlL K) te tNoPart (tPart tb)) σ H ((ns.map V.int).take i) := by
  rw [← cut_to]
  exact el_sl h eo_none (eo_some hi) hp
theorem el_from {i : Nat} (h : Ev te σ H (.ref p)) (hp : SqL K H p (ns.map V.int)) (hi : Ev tb σ H (.int (i : Int))) : EvL (tSl (rSlL K) te (tPart tb) tNoPart) σ H ((ns.map V.int).drop i) := by
  rw [← cut_from]
  exact el_sl h (eo_some hi) eo_none hp
theorem EvL.is {xs ys : List V} (h : EvL te σ H xs) (e : xs = ys) : EvL te σ H ys := e ▸ h
theorem el_is {xs ys : List V} (h : EvL te σ H xs) (e : xs = ys) : EvL te σ H ys := e ▸ h
/-- a list that stands, read where it stands (tracked or not: the script's too) -/
theorem er_sq {xs : List V} (h : Ev te σ H (.ref p)) (hp : H p = some (.lst xs)) : EvR te σ H xs := er_of h hp
end
/-- the methods' names -/
def meths : List Str := ["room", "rests", "figures", "tells", "number", "compared"]
/-- at b stands a board of the bases bs; os: its own objects -/
structure IsB (C : Addr) (H : Hp) (b : Addr) (os : List Addr) (bs : List Int) : Prop where
  at_ : ∃ dx fs l, H b = some (.ins C dx fs) ∧ fs.lookup ("bases" : Str) = some (.ref l) ∧ l ∈ os ∧ H l = some (.lst (bs.map V.int)) ∧ ∀ m ∈ meths, fs.lookup m = none
  own : ∀ o ∈ os, ∃ u, H o = some u
  trn : ∃ dx fs t ts, H b = some (.ins C dx fs) ∧ fs.lookup ("_turns" : Str) = some (.ref t) ∧ t ∈ os ∧ H t = some (.lst (ts.map V.int)) ∧ RM.TurnsOf bs ts
theorem IsB.mono {C : Addr} {H H' : Hp} {b : Addr} {os : List Addr} {bs : List Int} (h : IsB C H b os bs) (e : Ex H H') : IsB C H' b os bs := by
  obtain ⟨dx, fs, l, h1, h2, h3, h4, h5⟩ := h.at_
  obtain ⟨dx', fs', t, ts, k1, k2, k3, k4, k5⟩ := h.trn
  exact ⟨⟨dx, fs, l, e b _ h1, h2, h3, e l _ h4, h5⟩, fun o ho => (h.own o ho).imp fun u hu => e o u hu, ⟨dx', fs', t, ts, e b _ k1, k2, k3, e t _ k4, k5⟩⟩
theorem IsB.mut {C : Addr} {H : Hp} {b p : Addr} {os : List Addr} {bs : List Int} {xs : List V} {o : HO} (h : IsB C H b os bs) (hp : H p = some (.lst xs)) (no : p ∉ os) : IsB C (upd H p o) b os bs := by
  obtain ⟨dx, fs, l, h1, h2, h3, h4, h5⟩ := h.at_
  obtain ⟨dx', fs', t, ts, k1, k2, k3, k4, k5⟩ := h.trn
  have np : ∀ c ∈ os, c ≠ p := fun c hc z => no (by rw [← z]; exact hc)
  have nb : b ≠ p := ne_of h1 hp (by intro z; cases z)
  refine ⟨⟨dx, fs, l, ?_, h2, h3, ?_, h5⟩, fun c hc => ?_, ⟨dx', fs', t, ts, ?_, k2, k3, ?_, k5⟩⟩
  · rw [upd_ne nb]
    exact h1
  · rw [upd_ne (np l h3)]
    exact h4
  · rw [upd_ne (np c hc)]
    exact h.own c hc
  · rw [upd_ne nb]
    exact k1
  · rw [upd_ne (np t k3)]
    exact k4
theorem IsB.free {C : Addr} {H : Hp} {b p : Addr} {os : List Addr} {bs : List Int} (h : IsB C H b os bs) (hp : H p = none) : p ∉ os := fun z => by
  obtain ⟨u, hu⟩ := h.own p z
  rw [hp] at hu
  cases hu
/-- a refusal -/
abbrev RetE (C : Addr) (H : Hp) (E : XK) : Prop := ∀ H2, Ex H H2 → E (.ref C) none H2
/-- gives a new board -/
def EvB (C : Addr) (te : TE) (σ : L2.St) (H : Hp) (bs : List Int) : Prop := ∀ H1, Ex H H1 → ∀ Q : VK, (∀ b os H2, H1 b = none → (∀ o ∈ os, H1 o = none) → Ex H1 H2 → IsB C H2 b os bs → Q (.ref b) H2) → te σ H1 Q
theorem q_asgB {C : Addr} {te : TE} {σ : L2.St} {H : Hp} {bs : List Int} {i : Nat} {D : Ends} {tz : TS} (h : EvB C te σ H bs) (k : ∀ b os H1, H b = none → (∀ o ∈ os, H o = none) → Ex H H1 → IsB C H1 b os bs → tz D (σ.set i (some (.ref b))) H1) : tSeq (tAsg te (gName i)) tz D σ H :=
  h H (Ex.refl H) _ fun b os H1 h1 h2 h3 h4 => k b os H1 h1 h2 h3 h4
end RX

/-! Two rows, words, pairs of lists. -/
namespace RX
open PySem PySem.Spec PyProof.Rows L2 Evl
section
variable {K : PySem.W.Frag} {σ : L2.St} {H H' : Hp} {ta tb te : TE} {xs ys : List V} {D : Ends} {i : Nat} {tz : TS}
/-- x = [a, b], both new lists -/
theorem q_asgPair (h1 : EvL ta σ H xs) (h2 : ∀ H1, Ex H H1 → EvL tb σ H1 ys) (k : ∀ p a b H1, H p = none → H a = none → H b = none → Ex H H1 → H1 p = some (.lst [.ref a, .ref b]) → H1 a = some (.lst xs) → H1 b = some (.lst ys) → tz D (σ.set i (some (.ref p))) H1) :
    tSeq (tAsg (tLst (tCons ta (tCons tb tNil))) (gName i)) tz D σ H :=
  h1 H (Ex.refl H) _ fun a H1 ha e1 g1 => h2 H1 e1 H1 (Ex.refl H1) _ fun b H2 hb e2 g2 => ⟨by show 2 ≤ sizeLine; decide, fun p hp => by
    have e3 : Ex H2 (upd H2 p (.lst [.ref a, .ref b])) := Ex.new hp
    exact k p a b _ (fresh_back (e1.trans e2) hp) ha (fresh_back e1 hb) ((e1.trans e2).trans e3) upd_same ((e2.trans e3) a _ g1) (e3 b _ g2)⟩
theorem rc_int1 {c : Bool} : RC (fun xs H Q => (∃ i, xs = [.int i] ∧ Q (.int i) H) ∨ ∃ k, xs = [.bl k] ∧ Q (.int (if k then 1 else 0)) H) [.bl c] H (.int (if c then 1 else 0)) := fun H1 _ Q q => .inr ⟨c, rfl, q H1 (Ex.refl H1)⟩
theorem eqv_str (a b : Str) : PyData.eqv (.str a) (.str b) = decide (a = b) := by
  by_cases h : a = b
  · subst h; simp [PyData.eqv]
  · simp [PyData.eqv, h]
theorem rv_neS {a b : Str} (ha : SeqAt.shaped (.str a) = true := by decide +kernel) (hb : SeqAt.shaped (.str b) = true := by decide +kernel) : RV (rNeD K) (.str a) (.str b) H (.bl (!decide (a = b))) := by
  rw [← eqv_str]
  exact rv_neD (fun _ _ => ⟨.str a, .str b⟩) ha hb
theorem rv_eqS {a b : Str} (ha : SeqAt.shaped (.str a) = true := by decide +kernel) (hb : SeqAt.shaped (.str b) = true := by decide +kernel) : RV (rEqD K) (.str a) (.str b) H (.bl (decide (a = b))) := by
  rw [← eqv_str]
  exact rv_eqD (fun _ _ => ⟨.str a, .str b⟩) ha hb
/-- a text beside an int: other -/
theorem rv_neIS {i : Int} {b : Str} (hb : SeqAt.shaped (.str b) = true := by decide +kernel) : RV (rNeD K) (.int i) (.str b) H (.bl true) :=
  rv_neD (d := .int i) (e := .str b) (fun _ _ => ⟨.int i, .str b⟩) rfl hb
/-- lists of texts -/
theorem dp_strs : ∀ (ns : List Str), DpAll K H (ns.map V.str) (ns.map PyData.str)
  | [] => .nil
  | i :: r => .cons (.str i) (dp_strs r)
theorem dp_ints' : ∀ (ns : List Int), DpAll K H (ns.map V.int) (ns.map PyData.int)
  | [] => .nil
  | i :: r => .cons (.int i) (dp_ints' r)
theorem can_ints : ∀ (ns : List Int), PyData.canLayAll0 (ns.map PyData.int) = true
  | [] => rfl
  | _ :: r => can_ints r
theorem deep_ints : ∀ (ns : List Int), PyData.depthAll (ns.map PyData.int) = 0
  | [] => rfl
  | i :: r => by
    show max (PyData.depth (.int i)) (PyData.depthAll (r.map PyData.int)) = 0
    rw [deep_ints r]
    rfl
theorem eqvAll_is : ∀ (ns ms : List Int), PyData.eqvAll (ns.map PyData.int) (ms.map PyData.int) = decide (ns = ms)
  | [], [] => rfl
  | [], _ :: _ => rfl
  | _ :: _, [] => rfl
  | i :: r, j :: q => by
    show (PyData.eqv (.int i) (.int j) && PyData.eqvAll (r.map PyData.int) (q.map PyData.int)) = _
    rw [eqv_int, eqvAll_is r q]
    by_cases h : i = j
    · subst h
      simp
    · simp [h]
def two (xs ys : List Int) : PyData := .list [.list (xs.map PyData.int), .list (ys.map PyData.int)]
theorem two_shaped (xs ys : List Int) : SeqAt.shaped (two xs ys) = true := by
  unfold SeqAt.shaped
  have h1 : PyData.canLay0 (two xs ys) = true := by
    show (PyData.canLayAll0 (xs.map PyData.int) && (PyData.canLayAll0 (ys.map PyData.int) && true)) = true
    rw [can_ints, can_ints]
    rfl
  have h2 : PyData.depth (two xs ys) = 2 := by
    show max (PyData.depthAll (xs.map PyData.int) + 1) (max (PyData.depthAll (ys.map PyData.int) + 1) 0) + 1 = 2
    rw [deep_ints, deep_ints]
    rfl
  rw [h1, h2]
  rfl
theorem two_eqv (xs ys xs' ys' : List Int) : PyData.eqv (two xs ys) (two xs' ys') = (decide (xs = xs') && decide (ys = ys')) := by
  show (PyData.eqvAll (xs.map PyData.int) (xs'.map PyData.int) && (PyData.eqvAll (ys.map PyData.int) (ys'.map PyData.int) && true)) = _
  rw [eqvAll_is, eqvAll_is, Bool.and_true]
/-- at p stands a list of two lists of ints -/
structure Two (K : PySem.W.Frag) (H : Hp) (p : Addr) (xs ys : List Int) : Prop where
  ex : ∃ a b, SqL K H p [.ref a, .ref b] ∧ SqL K H a (xs.map V.int) ∧ SqL K H b (ys.map V.int)
theorem Two.mono {p : Addr} {xs ys : List Int} (h : Two K H p xs ys) (e : Ex H H') : Two K H' p xs ys := by
  obtain ⟨a, b, h1, h2, h3⟩ := h.ex
  exact ⟨a, b, ex_l e h1, ex_l e h2, ex_l e h3⟩
theorem Two.dp {p : Addr} {xs ys : List Int} (h : Two K H p xs ys) : Dp K H (.ref p) (two xs ys) := by
  obtain ⟨a, b, h1, h2, h3⟩ := h.ex
  exact .lst h1 (.cons (.lst h2 (dp_ints' xs)) (.cons (.lst h3 (dp_ints' ys)) .nil))
theorem rv_neTwo {p q : Addr} {xs ys xs' ys' : List Int} (hp : Two K H p xs ys) (hq : Two K H q xs' ys') : RV (rNeD K) (.ref p) (.ref q) H (.bl (!(decide (xs = xs') && decide (ys = ys')))) := by
  rw [← two_eqv]
  exact rv_neD (fun H1 e => ⟨(hp.mono e).dp, (hq.mono e).dp⟩) (two_shaped _ _) (two_shaped _ _)
/-- x != [y, z], lists that stand -/
theorem ev_neTwo {p c d : Addr} {tc td : TE} {xs ys xs' ys' : List Int} (ha : Ev ta σ H (.ref p)) (hp : Two K H p xs ys) (hc : Ev tc σ H (.ref c)) (hd : Ev td σ H (.ref d)) (gc : SqL K H c (xs'.map V.int)) (gd : SqL K H d (ys'.map V.int)) :
    Ev (tOp (rNeD K) ta (tLst (tCons tc (tCons td tNil)))) σ H (.bl (!(decide (xs = xs') && decide (ys = ys')))) :=
  ev_opL ha (el_lst (ea_cons hc (ea_cons hd ea_nil)) (by show 2 ≤ 100000; decide)) fun q H1 hq e => rv_neTwo (hp.mono e) ⟨c, d, sq_of hq, ex_l e gc, ex_l e gd⟩
end
end RX

/-! Pairs that come out, tuples, the caught error asked. -/
namespace RX
open PySem PySem.Spec PyProof.Rows L2 Evl
/-- a promise's pair: a new list and a value -/
abbrev RetP (xs : List V) (z : V) (H : Hp) (Q : VK) : Prop := ∀ a t H2, H a = none → H t = none → Ex H H2 → H2 a = some (.lst xs) → H2 t = some (.tup [.ref a, z]) → Q (.ref t) H2
def EvP (te : TE) (σ : L2.St) (H : Hp) (xs : List V) (z : V) : Prop := ∀ H1, Ex H H1 → ∀ Q : VK, RetP xs z H1 Q → te σ H1 Q
def SpP (sp : Sp) (vs : List V) (H : Hp) (xs : List V) (z : V) : Prop := ∀ H1, Ex H H1 → ∀ Q : VK, RetP xs z H1 Q → ∀ E : XK, sp vs H1 Q E
theorem RetP.mono {xs : List V} {z : V} {H H1 : Hp} {Q : VK} (e : Ex H H1) (h : RetP xs z H Q) : RetP xs z H1 Q := fun a t H2 ha ht e2 ga gt => h a t H2 (fresh_back e ha) (fresh_back e ht) (e.trans e2) ga gt
section
variable {K : PySem.W.Frag} {σ : L2.St} {H H' : Hp} {ta tb te : TE} {xs ys : List V} {z : V} {D : Ends} {i : Nat} {tz : TS} {sp : Sp} {E : L2.St → XK} {t : TA} {vs : List V} {p : Addr}
theorem ep_callS (h : EvA t σ H vs) (hs : SpP sp vs H xs z) : EvP (tCallS sp E t) σ H xs z := fun H1 e Q q =>
  h H1 e _ fun H2 e2 => hs H2 (e.trans e2) Q (RetP.mono e2 q) (E σ)
theorem q_asgP (h : EvP te σ H xs z) (k : ∀ a t H1, H a = none → H t = none → Ex H H1 → H1 a = some (.lst xs) → H1 t = some (.tup [.ref a, z]) → tz D (σ.set i (some (.ref t))) H1) : tSeq (tAsg te (gName i)) tz D σ H := h H (Ex.refl H) _ k
theorem ev_lenT (ha : Ev ta σ H (.ref p)) (h : SqT K H p xs) : Ev (tCB (rLenS K) (tCons ta tNil)) σ H (.int (xs.length : Int)) := fun H1 e Q q =>
  ha H1 e _ fun H2 e2 => ⟨p, xs, rfl, Or.inr (ex_t (e.trans e2) h), q H2 e2⟩
theorem rc_isiT {n : String} {b : Bool} (hp : H p = some (.tup xs)) (h : kitB "tuple" n = some b) : RC (rIsi K) [.ref p, .ty n] H (.bl b) := fun H1 e Q q =>
  ⟨.ref p, .ty n, .type "tuple", .type n, b, rfl, .ty n, .base (.tup (e p _ hp)), kit_ty h, q H1 (Ex.refl H1)⟩
theorem rc_isEV {D a : Addr} (ec : ExcC K D) (iv : PySem.W.kitOne K (.ref D) (.type "ValueError") = some true) : RC (rIsEx K (.ref D) none a) [.ref a, .ty "ValueError"] H (.bl true) := fun H1 _ Q q =>
  ⟨D, rfl, rfl, ec, .ty "ValueError", .type "ValueError", true, rfl, fun u ru => ru, iv, q H1 (Ex.refl H1)⟩
/-- xs[i], xs a tuple made of two -/
theorem ev_fst {a t : Addr} (ha : Ev ta σ H (.ref t)) (h : H t = some (.tup [.ref a, z])) : Ev (tOp (rIxT K) ta (tC (.int 0))) σ H (.ref a) := ev_op ha ev_c (rv_ixT (st_of h) (atI_nat (j := 0) rfl))
theorem ev_snd {a t : Addr} (ha : Ev ta σ H (.ref t)) (h : H t = some (.tup [.ref a, z])) : Ev (tOp (rIxT K) ta (tC (.int 1))) σ H z := ev_op ha ev_c (rv_ixT (st_of h) (atI_nat (j := 1) rfl))
end
end RX

/-! Rows with one place that is no number; a loop over three new lists. -/
namespace RX
open PySem PySem.Spec PyProof.Rows L2 Evl
def Flat (ws : List V) : Prop := ∀ v ∈ ws, v = .non ∨ ∃ i, v = .int i
def dOf : V → PyData
  | .int i => .int i
  | _ => .none
theorem flat_ints (xs : List Int) : Flat (xs.map V.int) := fun v hv => by
  obtain ⟨i, _, rfl⟩ := List.mem_map.mp hv
  exact .inr ⟨i, rfl⟩
theorem flat_set {ws : List V} (h : Flat ws) {z : V} (hz : z = .non ∨ ∃ i, z = .int i) (i : Nat) : Flat (ws.set i z) := fun v hv => by
  rcases List.mem_or_eq_of_mem_set hv with q | q
  · exact h v q
  · rw [q]
    exact hz
theorem dp_flat {K : PySem.W.Frag} {H : Hp} : ∀ {ws : List V}, Flat ws → DpAll K H ws (ws.map dOf)
  | [], _ => .nil
  | v :: r, h => by
    refine .cons ?_ (dp_flat fun x hx => h x (List.mem_cons_of_mem _ hx))
    rcases h v (List.mem_cons_self ..) with rfl | ⟨i, rfl⟩
    · exact .non
    · exact .int i
theorem can_flat : ∀ (ws : List V), PyData.canLayAll0 (ws.map dOf) = true
  | [] => rfl
  | v :: r => by
    show (PyData.canLay0 (dOf v) && PyData.canLayAll0 (r.map dOf)) = true
    rw [can_flat r]
    cases v <;> rfl
theorem deep_flat : ∀ (ws : List V), PyData.depthAll (ws.map dOf) = 0
  | [] => rfl
  | v :: r => by
    show max (PyData.depth (dOf v)) (PyData.depthAll (r.map dOf)) = 0
    rw [deep_flat r]
    cases v <;> rfl
theorem eqv_flat : ∀ (ws : List V), PyData.eqvAll (ws.map dOf) (ws.map dOf) = true
  | [] => rfl
  | v :: r => by
    show (PyData.eqv (dOf v) (dOf v) && PyData.eqvAll (r.map dOf) (r.map dOf)) = true
    rw [eqv_flat r, Bool.and_true]
    have e : ∀ d : PyData, (d = .none ∨ ∃ i, d = .int i) → PyData.eqv d d = true := fun d hd => by
      rcases hd with rfl | ⟨i, rfl⟩
      · simp [PyData.eqv]
      · simp [PyData.eqv]
    apply e
    cases v with
    | int i => exact .inr ⟨i, rfl⟩
    | _ => exact .inl rfl
theorem shaped_flat (ws : List V) : SeqAt.shaped (.list (ws.map dOf)) = true := by
  unfold SeqAt.shaped
  have h1 : PyData.canLay0 (.list (ws.map dOf)) = true := can_flat ws
  have h2 : PyData.depth (.list (ws.map dOf)) = 1 := by
    show PyData.depthAll (ws.map dOf) + 1 = 1
    rw [deep_flat]
  rw [h1, h2]
  rfl
theorem rv_neSelf {K : PySem.W.Frag} {H : Hp} {p q : Addr} {ws : List V} (hf : Flat ws) (hp : SqL K H p ws) (hq : SqL K H q ws) : RV (rNeD K) (.ref p) (.ref q) H (.bl false) := by
  have r := rv_neD (K := K) (H := H) (x := .ref p) (y := .ref q) (d := .list (ws.map dOf)) (e := .list (ws.map dOf)) (fun H1 e => ⟨.lst (ex_l e hp) (dp_flat hf), .lst (ex_l e hq) (dp_flat hf)⟩) (shaped_flat ws) (shaped_flat ws)
  have z : PyData.eqv (.list (ws.map dOf)) (.list (ws.map dOf)) = true := by
    show PyData.eqvAll (ws.map dOf) (ws.map dOf) = true
    exact eqv_flat ws
  rw [z] at r
  exact r
theorem q_for3 {K : PySem.W.Frag} {σ : L2.St} {H : Hp} {ta tb tc : TE} {x1 x2 x3 : List V} {j : Nat} {tu tz : TS} {D : Ends} (h1 : EvL ta σ H x1) (h2 : EvL tb σ H x2) (h3 : EvL tc σ H x3) (hj : ∃ o, σ = σ.set j o)
    (hs : ∀ (N : L2.St → Hp → Prop) (q : Addr) (xs : List V) H', (xs = x1 ∨ xs = x2 ∨ xs = x3) → Ex H H' → H' q = some (.lst xs) → (∀ H2, Ex H' H2 → N (σ.set j (some (.ref q))) H2) → tu { D with nx := N, ct := N, bk := tz D } (σ.set j (some (.ref q))) H')
    (hd : ∀ o H', Ex H H' → tz D (σ.set j o) H') : tSeq (tFor (iList K (tLst (tCons ta (tCons tb (tCons tc tNil))))) (gName j) tu) tz D σ H :=
  h1 H (Ex.refl H) _ fun a H1 ha e1 g1 => h2 H1 e1 _ fun b H2 hb e2 g2 => h3 H2 (e1.trans e2) _ fun c H3 hc e3 g3 => ⟨by show 3 ≤ sizeLine; decide, fun p hp => by
    have e4 : Ex H3 (upd H3 p (.lst [.ref a, .ref b, .ref c])) := Ex.new hp
    have at_ : (upd H3 p (.lst [.ref a, .ref b, .ref c])) p = some (.lst [.ref a, .ref b, .ref c]) := upd_same
    have ga := ((e2.trans e3).trans e4) a _ g1
    have gb := (e3.trans e4) b _ g2
    have gc := e4 c _ g3
    have E4 := (e1.trans e2).trans (e3.trans e4)
    generalize upd H3 p (.lst [.ref a, .ref b, .ref c]) = H4 at at_ ga gb gc E4
    refine ⟨p, rfl, ⟨_, sq_of at_⟩, for_list (K := K) (a := p) (xs := [.ref a, .ref b, .ref c]) (fun _ σ' H' => (∃ o, σ' = σ.set j o) ∧ Ex H4 H') ⟨hj, Ex.refl _⟩ (fun i σ' H' _ h => sq_of (h.2 p _ at_)) (fun i x σ' H' hx h => ?_) (fun σ' H' h => ?_)⟩
    · obtain ⟨⟨o, rfl⟩, e⟩ := h
      show tu _ ((σ.set j o).set j (some x)) H'
      rw [List.set_set]
      have go : ∀ q xs, x = .ref q → (xs = x1 ∨ xs = x2 ∨ xs = x3) → H' q = some (.lst xs) → tu { D with nx := fun σ' H' => (∃ o, σ' = σ.set j o) ∧ Ex H4 H', ct := fun σ' H' => (∃ o, σ' = σ.set j o) ∧ Ex H4 H', bk := tz D } (σ.set j (some x)) H' := fun q xs hq hx h => by
        rw [hq]
        exact hs _ q xs H' hx (E4.trans e) h fun H2 e2 => ⟨⟨_, rfl⟩, e.trans e2⟩
      match i, hx with
      | 0, hx => exact go a x1 (by cases hx; rfl) (.inl rfl) (e a _ ga)
      | 1, hx => exact go b x2 (by cases hx; rfl) (.inr (.inl rfl)) (e b _ gb)
      | 2, hx => exact go c x3 (by cases hx; rfl) (.inr (.inr rfl)) (e c _ gc)
    · obtain ⟨⟨o, rfl⟩, e⟩ := h
      exact hd o H' (E4.trans e)⟩
end RX

/-! A loop over two pairs; words compared. -/
namespace RX
open PySem PySem.Spec PyProof.Rows L2 Evl
theorem q_for2t {K : PySem.W.Frag} {σ : L2.St} {H : Hp} {ta tb : TA} {u1 w1 u2 w2 : V} {j l : Nat} {tu tz : TS} {D : Ends} (h1 : EvA ta σ H [u1, w1]) (h2 : EvA tb σ H [u2, w2]) (S : L2.St → Prop) (hS : S σ)
    (hs : ∀ (N : L2.St → Hp → Prop) (c : Bool) σ' H', S σ' → Ex H H' → (∀ σ2 H2, S σ2 → Ex H' H2 → N σ2 H2) → tu { D with nx := N, ct := N, bk := tz D } ((σ'.set j (some (if c then u1 else u2))).set l (some (if c then w1 else w2))) H')
    (hd : ∀ σ' H', S σ' → Ex H H' → tz D σ' H') : tSeq (tFor (iList K (tLst (tCons (tTup ta) (tCons (tTup tb) tNil)))) (gTup K 2 (gCons (gName j) (gCons (gName l) gNil))) tu) tz D σ H :=
  h1 H (Ex.refl H) _ fun H1 e1 => ⟨by show 2 ≤ sizeLine; decide, fun a ha => by
    have e2 : Ex H1 (upd H1 a (.tup [u1, w1])) := Ex.new ha
    have ga : (upd H1 a (.tup [u1, w1])) a = some (.tup [u1, w1]) := upd_same
    generalize upd H1 a (.tup [u1, w1]) = H2 at e2 ga
    refine h2 H2 (e1.trans e2) _ fun H3 e3 => ⟨by show 2 ≤ sizeLine; decide, fun b hb => ?_⟩
    have e4 : Ex H3 (upd H3 b (.tup [u2, w2])) := Ex.new hb
    have gb : (upd H3 b (.tup [u2, w2])) b = some (.tup [u2, w2]) := upd_same
    generalize upd H3 b (.tup [u2, w2]) = H4 at e4 gb
    refine ⟨by show 2 ≤ sizeLine; decide, fun p hp => ?_⟩
    have e5 : Ex H4 (upd H4 p (.lst [.ref a, .ref b])) := Ex.new hp
    have at_ : (upd H4 p (.lst [.ref a, .ref b])) p = some (.lst [.ref a, .ref b]) := upd_same
    have ga := ((e3.trans e4).trans e5) a _ ga
    have gb := e5 b _ gb
    have E5 := ((e1.trans e2).trans (e3.trans e4)).trans e5
    generalize upd H4 p (.lst [.ref a, .ref b]) = H5 at at_ ga gb E5
    refine ⟨p, rfl, ⟨_, sq_of at_⟩, for_list (K := K) (a := p) (xs := [.ref a, .ref b]) (fun _ σ' H' => S σ' ∧ Ex H5 H') ⟨hS, Ex.refl _⟩ (fun i σ' H' _ h => sq_of (h.2 p _ at_)) (fun i x σ' H' hx h => ?_) (fun σ' H' h => hd σ' H' h.1 (E5.trans h.2))⟩
    obtain ⟨s, e⟩ := h
    have N : ∀ σ2 H2, S σ2 → Ex H' H2 → S σ2 ∧ Ex H5 H2 := fun σ2 H2 s2 e2 => ⟨s2, e.trans e2⟩
    match i, hx with
    | 0, hx =>
      cases hx
      exact ⟨a, _, rfl, st_of (e a _ ga), rfl, _, _, rfl, _, _, rfl, rfl, hs _ true σ' H' s (E5.trans e) N⟩
    | 1, hx =>
      cases hx
      exact ⟨b, _, rfl, st_of (e b _ gb), rfl, _, _, rfl, _, _, rfl, rfl, hs _ false σ' H' s (E5.trans e) N⟩⟩
theorem rv_neW {K : PySem.W.Frag} {H : Hp} {ss : List Str} {p q : Addr} (hp : SqL K H p (ss.map V.str)) (hq : SqL K H q (ss.map V.str)) (sh : SeqAt.shaped (.list (ss.map PyData.str)) = true := by decide +kernel) (ev : PyData.eqv (.list (ss.map PyData.str)) (.list (ss.map PyData.str)) = true := by decide +kernel) : RV (rNeD K) (.ref p) (.ref q) H (.bl false) := by
  have r := rv_neD (K := K) (H := H) (x := .ref p) (y := .ref q) (d := .list (ss.map PyData.str)) (e := .list (ss.map PyData.str)) (fun H1 e => ⟨.lst (ex_l e hp) (dp_strs ss), .lst (ex_l e hq) (dp_strs ss)⟩) sh sh
  rw [ev] at r
  exact r
theorem op_eqDK {X : Cx} {K : PySem.W.Frag} (hK : X.K = K) (hu : X.A.units + 64 < cLine) : OpR X (compareOp .Eq) (rEqD K) := by
  rw [← hK]
  exact op_eqD hu
theorem op_neDK {X : Cx} {K : PySem.W.Frag} (hK : X.K = K) (hu : X.A.units + 64 < cLine) : OpR X (compareOp .NotEq) (rNeD K) := by
  rw [← hK]
  exact op_neD hu
theorem ix_listK {X : Cx} {K : PySem.W.Frag} (hK : X.K = K) : IxR X (rIxL K) := by
  rw [← hK]
  exact ix_list
theorem ix_tupK {X : Cx} {K : PySem.W.Frag} (hK : X.K = K) : IxR X (rIxT K) := by
  rw [← hK]
  exact ix_tup
theorem call_len_seqK {X : Cx} {K : PySem.W.Frag} (hK : X.K = K) : CallR X (.builtin "len") (rLenS K) := by
  rw [← hK]
  exact call_len_seq
end RX

/-! zip of three lists; a list told backwards; loops and comprehensions over enumerate and zip. -/
namespace RX
open PySem PySem.Spec PyProof.Rows L2 Evl
/-- three lists side by side, each time a new triple -/
def Itz3 (K : PySem.W.Frag) (a b c : Addr) : It where
  go := fun i H => ∃ xs ys zs : List V, (SqL K H a xs ∧ SqL K H b ys ∧ SqL K H c zs) ∧ i < xs.length ∧ i < ys.length ∧ i < zs.length
  yld := fun i H v H' => ∃ (T : Addr) (x y z : V), v = .ref T ∧ H T = none ∧ H' = upd H T (.tup [x, y, z]) ∧ (∀ l, SqL K H a l → l[i]? = some x) ∧ (∀ l, SqL K H b l → l[i]? = some y) ∧ (∀ l, SqL K H c l → l[i]? = some z)
  stop := fun i H => ∃ xs ys zs : List V, (SqL K H a xs ∧ SqL K H b ys ∧ SqL K H c zs) ∧ (i ≤ xs.length ∧ i ≤ ys.length ∧ i ≤ zs.length) ∧ (i = xs.length ∨ i = ys.length ∨ i = zs.length)
/-- the six objects of the zip, n the first -/
structure Z3 (n a b c : Addr) (i : Nat) (h : Heap) : Prop where
  z : IsZip h (n + 5) (n + 3) (n + 4) .none
  I : IsTupOf3 h (n + 3) (.ref n) (.ref (n + 1)) (.ref (n + 2))
  O : ∃ x y z, IsTupOf3 h (n + 4) x y z
  i1 : h.IsListIter n a i
  i2 : h.IsListIter (n + 1) b i
  i3 : h.IsListIter (n + 2) c i
theorem out2 {x y z : Nat} (h : x < y ∨ y < x) (k : x < z ∨ z < x) : ¬ x ∈ [y, z] := fun q => by
  rcases List.mem_cons.mp q with e | q
  · omega
  · rcases List.mem_cons.mp q with e | q
    · omega
    · cases q
theorem nat_ne {x y : Nat} (h : x < y ∨ y < x) : x ≠ y := by omega
theorem sep3 {n a b c : Nat} (la : a < n) (lb : b < n) (lc : c < n) : ZipSep3 (n + 5) (n + 3) (n + 4) n (n + 1) (n + 2) [n, a] [n + 1, b] [n + 2, c] where
  TIz := nat_ne (by omega)
  TOz := nat_ne (by omega)
  TITO := nat_ne (by omega)
  TIi1 := nat_ne (by omega)
  mem1 := List.mem_cons_self ..
  zf1 := out2 (by omega) (by omega)
  Tf1 := out2 (by omega) (by omega)
  TIi2 := nat_ne (by omega)
  mem2 := List.mem_cons_self ..
  zf2 := out2 (by omega) (by omega)
  Tf2 := out2 (by omega) (by omega)
  TIi3 := nat_ne (by omega)
  mem3 := List.mem_cons_self ..
  zf3 := out2 (by omega) (by omega)
  Tf3 := out2 (by omega) (by omega)
  sep1_2 := out2 (by omega) (by omega)
  sep1_3 := out2 (by omega) (by omega)
  sep2_1 := out2 (by omega) (by omega)
  sep2_3 := out2 (by omega) (by omega)
  sep3_1 := out2 (by omega) (by omega)
  sep3_2 := out2 (by omega) (by omega)
theorem six {n c : Nat} (h : c ∈ [n + 5, n + 3, n + 4, n, n + 1, n + 2]) : c = n + 5 ∨ c = n + 3 ∨ c = n + 4 ∨ c = n ∨ c = n + 1 ∨ c = n + 2 := by simpa using h
theorem six_in {n d : Nat} (h : d ∈ [n + 5, n + 3, n + 4, n, n + 1, n + 2]) : n ≤ d ∧ d ≤ n + 5 := by
  rcases six h with q | q | q | q | q | q <;> omega
theorem turn_zip3 {P : Program} {w : World} {K : PySem.W.Frag} {elts : List Expr} {kk : Nat} {tpos : Pos} {n a b c : Addr} (la : a < n) (lb : b < n) (lc : c < n) : Turn P w K (.Tuple elts kk tpos) (Itz3 K a b c) [n + 5, n + 3, n + 4, n, n + 1, n + 2] (n + 5) (Z3 n a b c) where
  mem := List.mem_cons_self ..
  obj := fun i h st d hd => by
    obtain ⟨x, y, z, eO⟩ := st.O
    obtain ⟨o1, e1, _, d1⟩ := st.i1
    obtain ⟨o2, e2, _, d2⟩ := st.i2
    obtain ⟨o3, e3, _, d3⟩ := st.i3
    rcases six hd with q | q | q | q | q | q <;> subst q
    · exact ⟨_, st.z, fun v q => nomatch q⟩
    · exact ⟨_, st.I, fun v q => nomatch q⟩
    · exact ⟨_, eO, fun v q => nomatch q⟩
    · exact ⟨o1, e1, fun v q => by rw [d1] at q; cases q⟩
    · exact ⟨o2, e2, fun v q => by rw [d2] at q; cases q⟩
    · exact ⟨o3, e3, fun v q => by rw [d3] at q; cases q⟩
  keep := fun i h h' st k => by
    obtain ⟨x, y, z, eO⟩ := st.O
    exact ⟨k _ (by simp) _ st.z, k _ (by simp) _ st.I, ⟨x, y, z, k _ (by simp) _ eO⟩, st.i1.at fun o q => k _ (by simp) o q, st.i2.at fun o q => k _ (by simp) o q, st.i3.at fun o q => k _ (by simp) o q⟩
  item := by
    intro X eP ew eK calm i pins s σ H E inv fp st go
    subst eP ew eK
    obtain ⟨xs, ys, zs, ⟨sx, sy, sz⟩, l1, l2, l3⟩ := go
    obtain ⟨us, r1, p1, _⟩ := inv.list sx
    obtain ⟨vs, r2, p2, _⟩ := inv.list sy
    obtain ⟨ws, r3, p3, _⟩ := inv.list sz
    obtain ⟨u, hu, ru⟩ := r1.get (List.getElem?_eq_getElem l1)
    obtain ⟨v, hv, rv⟩ := r2.get (List.getElem?_eq_getElem l2)
    obtain ⟨t, ht, rt⟩ := r3.get (List.getElem?_eq_getElem l3)
    obtain ⟨x0, y0, z0, eO⟩ := st.O
    have S := sep3 la lb lc
    have nh : X.A.in1.handled = none := inv.ok.hd calm
    have D1 := Draws.list (prog := X.prog) (w := X.w) nh n a (Nat.ne_of_lt la) us.toArray
    have D2 := Draws.list (prog := X.prog) (w := X.w) nh (n + 1) b (Nat.ne_of_lt (Nat.lt_succ_of_lt lb)) vs.toArray
    have D3 := Draws.list (prog := X.prog) (w := X.w) nh (n + 2) c (Nat.ne_of_lt (Nat.lt_succ_of_lt (Nat.lt_succ_of_lt lc))) ws.toArray
    have q1 := r1.length
    have q2 := r2.length
    have q3 := r3.length
    have big : n + 5 < s.heap.objs.size := Heap.lt_size st.z
    refine wpAny_pyNext_zipD3_item S D1 D2 D3 st.z st.I eO ⟨st.i1, p1.isList⟩ ⟨st.i2, p2.isList⟩ ⟨st.i3, p3.isList⟩ (by rw [List.size_toArray]; omega) (by rw [List.size_toArray]; omega) (by rw [List.size_toArray]; omega) fun a1 a2 a3 g tk f1 f2 f3 gz gO s1 s2 s3 gT gs gk => ?_
    have e1 : a1 = u := Option.some.inj (f1.symm.trans (by simpa using hu))
    have e2 : a2 = v := Option.some.inj (f2.symm.trans (by simpa using hv))
    have e3 : a3 = t := Option.some.inj (f3.symm.trans (by simpa using ht))
    subst e1 e2 e3
    refine ⟨_, rfl, wpAny_letOwnedTupleGo_zip (s := { s with heap := g, toks := tk }) gz fun g' gz' same => ?_⟩
    have far : s.heap.objs.size ≠ n + 5 := Nat.ne_of_gt big
    have made : g'.get? s.heap.objs.size = some { cls := .type "tuple", data := .seq #[a1, a2, a3] } := (same.2 _ far).trans gT
    have obj : ObjOk X.prog X.w (upd H s.heap.objs.size (.tup [xs[i], ys[i], zs[i]])) g' s.heap.objs.size (.tup [xs[i], ys[i], zs[i]]) :=
      ⟨by show 3 ≤ sizeLine; decide, [a1, a2, a3], .cons ru (.cons rv (.cons rt .nil)), ⟨_, made, rfl, _, rfl⟩⟩
    have inv1 : Inv X pins σ (upd H s.heap.objs.size (.tup [xs[i], ys[i], zs[i]])) { s with heap := g', toks := tk } :=
      inv.turnedNew (ch := [n + 5, n + 3, n + 4, n, n + 1, n + 2]) (fun d o nd q => (same.2 d fun z => nd (by simp [z])).trans (gk d o (fun z => nd (by simp [z])) (fun z => nd (by simp [z])) (fun z => nd (by simp [z])) (fun z => nd (by simp [z])) (fun z => nd (by simp [z])) q)) fp (Nat.le_refl _) obj
    refine ⟨.ref s.heap.objs.size, _, inv1, rfl, ⟨_, xs[i], ys[i], zs[i], rfl, inv.hok.fresh (Nat.le_refl _), rfl, fun l hl => ?_, fun l hl => ?_, fun l hl => ?_⟩, ⟨gz', ?_, ⟨a1, a2, a3, ?_⟩, ?_, ?_, ?_⟩, fun d hd => ?_⟩
    · rw [inv.list_inj hl sx, List.getElem?_eq_getElem l1]
    · rw [inv.list_inj hl sy, List.getElem?_eq_getElem l2]
    · rw [inv.list_inj hl sz, List.getElem?_eq_getElem l3]
    · exact (same.2 _ S.TIz).trans (gk _ _ S.TIz S.TITO S.TIi1 S.TIi2 S.TIi3 st.I)
    · exact (same.2 _ S.TOz).trans gO
    · exact s1.1.at fun o q => (same.2 _ S.zi1.symm).trans q
    · exact s2.1.at fun o q => (same.2 _ S.zi2.symm).trans q
    · exact s3.1.at fun o q => (same.2 _ S.zi3.symm).trans q
    · have lt : d ≠ s.heap.objs.size := Nat.ne_of_lt (Nat.lt_of_le_of_lt (six_in hd).2 big)
      rw [upd_ne lt]
      exact (fp d hd).1
  done := by
    intro X eP ew eK calm i pins s σ H E inv fp st halt
    subst eP ew eK
    obtain ⟨xs, ys, zs, ⟨sx, sy, sz⟩, ⟨l1, l2, l3⟩, any⟩ := halt
    obtain ⟨us, r1, p1, _⟩ := inv.list sx
    obtain ⟨vs, r2, p2, _⟩ := inv.list sy
    obtain ⟨ws, r3, p3, _⟩ := inv.list sz
    obtain ⟨x0, y0, z0, eO⟩ := st.O
    have S := sep3 la lb lc
    have nh : X.A.in1.handled = none := inv.ok.hd calm
    have q1 := r1.length
    have q2 := r2.length
    have q3 := r3.length
    refine wpAny_pyNext_zipD3_end S (Draws.list (prog := X.prog) (w := X.w) nh n a (Nat.ne_of_lt la) us.toArray) (Draws.list nh (n + 1) b (Nat.ne_of_lt (Nat.lt_succ_of_lt lb)) vs.toArray) (Draws.list nh (n + 2) c (Nat.ne_of_lt (Nat.lt_succ_of_lt (Nat.lt_succ_of_lt lc))) ws.toArray) st.z st.I eO ⟨st.i1, p1.isList⟩ ⟨st.i2, p2.isList⟩ ⟨st.i3, p3.isList⟩ (by rw [List.size_toArray]; omega) (by rw [List.size_toArray]; omega) (by rw [List.size_toArray]; omega) (by simp only [List.size_toArray]; omega) fun g tk gk => ⟨rfl, ?_⟩
    exact inv.turnedL (ch := [n + 5, n + 3, n + 4, n, n + 1, n + 2]) (fun d o nd q => gk d o (fun z => nd (by simp [z])) (fun z => nd (by simp [z])) (fun z => nd (by simp [z])) (fun z => nd (by simp [z])) (fun z => nd (by simp [z])) q) fp
  self := fun A i s Q E st q => wpAny_pyIter_zip st.z q
def iZip3 (K : PySem.W.Frag) (ta : TA) : TI := fun σ H R => ta σ H fun vs H1 => ∃ (a b c : Addr) (xs ys zs : List V), vs = [.ref a, .ref b, .ref c] ∧ (SqL K H1 a xs ∧ SqL K H1 b ys ∧ SqL K H1 c zs) ∧ R (Itz3 K a b c) H1
theorem pi_zip3 {X : Cx} {e1 e2 e3 : Expr} {ta : TA} {p pos tpos : Pos} {elts : List Expr} {kk : Nat} (gl : Gl X "zip") (no : X.mg "zip" = none) (args : PA X [e1, e2, e3] ta)
    (first : starEach [e1, e2, e3] X.env = (false, eval e1 X.env) :: starEach [e2, e3] X.env := by rfl) (plain : (backTo pos (starEach [e2, e3] X.env)).any (·.1) = false := by rfl) : PI X (.Tuple elts kk tpos) (.Call (.Name "zip" p) [e1, e2, e3] [] pos) (iZip3 X.K ta) where
  run := by
    intro pins s σ H R inv wish
    refine Call_ ?_
    apply ld_blt inv gl no PyProof.Rows.boot_zip
    refine PyProof.Rows.callWith_type1 ?_ first plain
    apply thn (args.run pos pins s σ H _ inv wish)
    rintro us s1 ⟨vs, H1, inv1, rel, a, b, c, xs, ys, zs, rfl, ⟨sx, sy, sz⟩, wish1⟩
    match us, rel with
    | [_, _, _], .cons rfl (.cons rfl (.cons rfl .nil)) =>
      obtain ⟨us, r1, p1, _⟩ := inv1.list sx
      obtain ⟨vs, r2, p2, _⟩ := inv1.list sy
      obtain ⟨ws, r3, p3, _⟩ := inv1.list sz
      refine zip_begins3 (begins_list a us.toArray) (begins_list b vs.toArray) (begins_list c ws.toArray) p1.isList p2.isList p3.isList fun g gz gI gO g1 g2 g3 _ gk => wpAny_pyIter_zip gz ?_
      refine ⟨s1.heap.objs.size + 5, [s1.heap.objs.size + 5, s1.heap.objs.size + 3, s1.heap.objs.size + 4, s1.heap.objs.size, s1.heap.objs.size + 1, s1.heap.objs.size + 2], _, _, H1, rfl, inv1.kept (t' := s1.toks) gk, turn_zip3 p1.lt p2.lt p3.lt, ⟨gz, gI, ⟨_, _, _, gO⟩, ⟨_, g1, rfl, rfl⟩, ⟨_, g2, rfl, rfl⟩, ⟨_, g3, rfl, rfl⟩⟩, fun d hd => ?_, wish1⟩
      have le : s1.heap.objs.size ≤ d := (six_in hd).1
      exact inv1.fpOk le (inv1.hok.fresh le)
/-- new triples -/
def YThree (xs ys zs : List V) : Nat → Hp → V → Hp → Prop := fun i H v H' => ∃ (T : Addr) (x y z : V), v = .ref T ∧ H T = none ∧ H' = upd H T (.tup [x, y, z]) ∧ xs[i]? = some x ∧ ys[i]? = some y ∧ zs[i]? = some z
theorem walk_zip3 {K : PySem.W.Frag} {a b c : Addr} {xs ys zs : List V} {n : Nat} (e1 : n = xs.length) (e2 : n = ys.length) (e3 : n = zs.length) : Walk (Itz3 K a b c) n (fun H => SqL K H a xs ∧ SqL K H b ys ∧ SqL K H c zs) (YThree xs ys zs) :=
  ⟨fun i H lt g => ⟨xs, ys, zs, g, by omega, by omega, by omega⟩, fun H g => ⟨xs, ys, zs, g, by omega, by omega⟩, fun i H v H' _ g y => by
    obtain ⟨T, x, y, z, h1, h2, h3, h4, h5, h6⟩ := y
    exact ⟨T, x, y, z, h1, h2, h3, h4 xs g.1, h5 ys g.2.1, h6 zs g.2.2⟩⟩
/-- xs[::-1] -/
def tRev (K : PySem.W.Frag) (te : TE) (tk : TO) : TE := fun σ H Q => te σ H fun x H1 => tk σ H1 fun k H2 => k = some (-1) ∧ ∃ (a : Addr) (xs : List V), x = .ref a ∧ SqL K H2 a xs ∧ ∀ p, H2 p = none → Q (.ref p) (upd H2 p (.lst xs.reverse))
theorem pe_rev {X : Cx} {e st : Expr} {te : TE} {tk : TO} {p2 pos : Pos} (he : PE X e te) (hk : PO X (some st) tk) : PE X (.Subscript e (.Slice none none (some st) p2) pos) (tRev X.K te tk) where
  run := by
    intro pins s σ H Q inv wish
    apply Subscript_
    apply thn (he.run pins s σ H _ inv wish)
    rintro v s1 ⟨x, H1, inv1, rx, wish1⟩
    apply wpAny_Slice
    rw [evalPart_none]
    apply wpAny_pure
    apply wpAny_pure
    apply thn (hk.run pins s1 σ H1 _ inv1 wish1)
    rintro vk s2 ⟨k, H2, inv2, pk, rfl, a, xs, rfl, sx, wish2⟩
    obtain rfl : v = Value.ref a := rx
    obtain ⟨us, r, pl, size⟩ := inv2.list sx
    have len := r.length
    have inv3 : Inv X pins σ H2 { s2 with heap := s2.heap.push { cls := .type "slice", data := .fields #[.none, .none, vk] } } := inv2.kept (t' := s2.toks) fun b ob q => Heap.get?_push_of_some _ q
    obtain ⟨us', r', pl', _⟩ := inv3.list sx
    have len' := r'.length
    show wpAny (model X.prog X.w) X.A (subscriptTail e (.Slice none none (some st) p2) (.ref a) (.ref s2.heap.objs.size)) (EP X pins σ Q) X.xe { s2 with heap := s2.heap.push { cls := .type "slice", data := .fields #[.none, .none, vk] } }
    refine tail_any (ops := [.ref a, .ref s2.heap.objs.size]) pl'.isList.typeIs slot_list_getitem.lookup ?_ (by with_unfolding_all rfl)
    refine wpAny_getItem_list_slice pl'.isList (Heap.IsSliceOf.new ..) .none .none pk (by decide) ?_ (by rw [List.size_toArray]; omega)
    rw [PySem.W.krv_pick]
    refine ⟨.ref _, _, inv3.laid (t' := s2.toks) (o := .lst xs.reverse) (fun b ob q => Heap.get?_push_of_some _ q) (Nat.le_refl _) ?_, rfl, wish2 _ (inv3.hok.fresh (Nat.le_refl _))⟩
    exact ⟨by rw [List.length_reverse]; exact size, us'.reverse, 0, r'.reverse, Heap.get?_push_size _ rfl⟩
end RX

/-! What the loops, comprehensions, fields and refusals of the program evaluate to. -/
namespace RX
open PySem PySem.Spec PyProof.Rows L2 Evl
section
variable {K : PySem.W.Frag} {σ : L2.St} {H H' : Hp} {D : Ends} {tu tz : TS} {j l m : Nat} {a b c : Addr} {xs ys zs : List V} {ta : TA} {te : TE} {vs : List Nat}
abbrev g2 (K : PySem.W.Frag) (j l : Nat) : TG := gTup K 2 (gCons (gName j) (gCons (gName l) gNil))
abbrev g3 (K : PySem.W.Frag) (j l m : Nat) : TG := gTup K 3 (gCons (gName j) (gCons (gName l) (gCons (gName m) gNil)))
theorem g2_go {T : Addr} {x y : V} {Q : L2.St → Hp → Prop} (h : H T = some (.tup [x, y])) (q : Q ((σ.set j (some x)).set l (some y)) H) : g2 K j l (.ref T) σ H Q := ⟨T, _, rfl, st_of h, rfl, _, _, rfl, _, _, rfl, rfl, q⟩
theorem g3_go {T : Addr} {x y z : V} {Q : L2.St → Hp → Prop} (h : H T = some (.tup [x, y, z])) (q : Q (((σ.set j (some x)).set l (some y)).set m (some z)) H) : g3 K j l m (.ref T) σ H Q := ⟨T, _, rfl, st_of h, rfl, _, _, rfl, _, _, rfl, _, _, rfl, rfl, q⟩
/-- for i, x in enumerate(xs) -/
theorem s_forE (h : EvA ta σ H [.ref a]) (hx : SqL K H a xs) (Pv : Nat → L2.St → Hp → Prop) (h0 : ∀ H1, Ex H H1 → Pv 0 σ H1) (hl : ∀ i σ' H', Pv i σ' H' → SqL K H' a xs)
    (hs : ∀ i x σ' H' H2, xs[i]? = some x → Pv i σ' H' → Ex H' H2 → tu { D with nx := Pv (i + 1), ct := Pv (i + 1), bk := D.nx } ((σ'.set j (some (.int (i : Int)))).set l (some x)) H2) (hd : ∀ σ' H', Pv xs.length σ' H' → D.nx σ' H') :
    tFor (iEnum K ta) (g2 K j l) tu D σ H := h H (Ex.refl H) _ fun H1 e1 => ⟨a, xs, rfl, ex_l e1 hx, for_it walk_enum Pv (h0 H1 e1) (fun i σ' H' _ p => hl i σ' H' p) (fun i x σ' H' H2 _ p y => by
      obtain ⟨T, u, w, rfl, nT, rfl, eu, ew⟩ := y
      cases eu
      exact g2_go upd_same (hs i w σ' H' _ ew p (Ex.new nT))) hd⟩
theorem q_forE (h : EvA ta σ H [.ref a]) (hx : SqL K H a xs) (Pv : Nat → L2.St → Hp → Prop) (h0 : ∀ H1, Ex H H1 → Pv 0 σ H1) (hl : ∀ i σ' H', Pv i σ' H' → SqL K H' a xs)
    (hs : ∀ i x σ' H' H2, xs[i]? = some x → Pv i σ' H' → Ex H' H2 → tu { D with nx := Pv (i + 1), ct := Pv (i + 1), bk := tz D } ((σ'.set j (some (.int (i : Int)))).set l (some x)) H2) (hd : ∀ σ' H', Pv xs.length σ' H' → tz D σ' H') :
    tSeq (tFor (iEnum K ta) (g2 K j l) tu) tz D σ H := s_forE (D := { D with nx := tz D }) h hx Pv h0 hl hs hd
/-- for x, y in zip(xs, ys) -/
theorem q_forZ (h : EvA ta σ H [.ref a, .ref b]) (hx : SqL K H a xs) (hy : SqL K H b ys) (e : ys.length = xs.length) (Pv : Nat → L2.St → Hp → Prop) (h0 : ∀ H1, Ex H H1 → Pv 0 σ H1) (hl : ∀ i σ' H', Pv i σ' H' → Ex H H')
    (hs : ∀ i x y σ' H' H2, xs[i]? = some x → ys[i]? = some y → Pv i σ' H' → Ex H' H2 → tu { D with nx := Pv (i + 1), ct := Pv (i + 1), bk := tz D } ((σ'.set j (some x)).set l (some y)) H2) (hd : ∀ σ' H', Pv xs.length σ' H' → tz D σ' H') :
    tSeq (tFor (iZip K ta) (g2 K j l) tu) tz D σ H := h H (Ex.refl H) _ fun H1 e1 => ⟨a, b, xs, ys, rfl, ex_l e1 hx, ex_l e1 hy, for_it (D := { D with nx := tz D }) (walk_zip (xs := xs) (ys := ys) (n := xs.length) (by omega)) Pv (h0 H1 e1) (fun i σ' H' _ p => ⟨ex_l (hl i σ' H' p) hx, ex_l (hl i σ' H' p) hy⟩) (fun i x σ' H' H2 _ p y => by
      obtain ⟨T, u, w, rfl, nT, rfl, eu, ew⟩ := y
      exact g2_go upd_same (hs i u w σ' H' _ eu ew p (Ex.new nT))) hd⟩
theorem q_forZ3 (h : EvA ta σ H [.ref a, .ref b, .ref c]) (hx : SqL K H a xs) (hy : SqL K H b ys) (hz : SqL K H c zs) (e : ys.length = xs.length) (e2 : zs.length = xs.length) (Pv : Nat → L2.St → Hp → Prop) (h0 : ∀ H1, Ex H H1 → Pv 0 σ H1) (hl : ∀ i σ' H', Pv i σ' H' → SqL K H' a xs ∧ SqL K H' b ys ∧ SqL K H' c zs)
    (hs : ∀ i x y z σ' H' H2, xs[i]? = some x → ys[i]? = some y → zs[i]? = some z → Pv i σ' H' → Ex H' H2 → tu { D with nx := Pv (i + 1), ct := Pv (i + 1), bk := tz D } (((σ'.set j (some x)).set l (some y)).set m (some z)) H2) (hd : ∀ σ' H', Pv xs.length σ' H' → tz D σ' H') :
    tSeq (tFor (iZip3 K ta) (g3 K j l m) tu) tz D σ H := h H (Ex.refl H) _ fun H1 e1 => ⟨a, b, c, xs, ys, zs, rfl, ⟨ex_l e1 hx, ex_l e1 hy, ex_l e1 hz⟩, for_it (D := { D with nx := tz D }) (walk_zip3 (xs := xs) (ys := ys) (zs := zs) rfl e.symm e2.symm) Pv (h0 H1 e1) (fun i σ' H' _ p => hl i σ' H' p) (fun i x σ' H' H2 _ p y => by
      obtain ⟨T, u, w, v, rfl, nT, rfl, eu, ew, ev⟩ := y
      exact g3_go upd_same (hs i u w v σ' H' _ eu ew ev p (Ex.new nT))) hd⟩
/-- over two new lists -/
theorem q_forZN {t1 t2 : TE} (h1 : EvL t1 σ H xs) (h2 : EvL t2 σ H ys) (e : ys.length = xs.length) (Pv : Nat → L2.St → Hp → Prop) (h0 : ∀ H1, Ex H H1 → Pv 0 σ H1)
    (hm : ∀ i σ' H' H2, Pv i σ' H' → Ex H' H2 → Pv i σ' H2)
    (hs : ∀ (N : L2.St → Hp → Prop) i x y σ' H', xs[i]? = some x → ys[i]? = some y → Pv i σ' H' → (∀ σ2 H2, Pv (i + 1) σ2 H2 → Ex H' H2 → N σ2 H2) → tu { D with nx := N, ct := N, bk := tz D } ((σ'.set j (some x)).set l (some y)) H') (hd : ∀ σ' H', Pv xs.length σ' H' → tz D σ' H') :
    tSeq (tFor (iZip K (tCons t1 (tCons t2 tNil))) (g2 K j l) tu) tz D σ H := h1 H (Ex.refl H) _ fun a H1 _ e1 ga => h2 H1 e1 _ fun b H2 _ e2 gb => ⟨a, b, xs, ys, rfl, sq_of (e2 a _ ga), sq_of gb, for_it (D := { D with nx := tz D }) (walk_zip (xs := xs) (ys := ys) (n := xs.length) (by omega)) (fun i σ' H' => Pv i σ' H' ∧ Ex H2 H') ⟨h0 H2 (e1.trans e2), Ex.refl _⟩ (fun i σ' H' _ p => ⟨sq_of (p.2 a _ (e2 a _ ga)), sq_of (p.2 b _ gb)⟩) (fun i x σ' H' H3 _ p y => by
      obtain ⟨T, u, w, rfl, nT, rfl, eu, ew⟩ := y
      exact g2_go upd_same (hs _ i u w σ' _ eu ew (hm i σ' H' _ p.1 (Ex.new nT)) fun σ2 H4 p4 e4 => ⟨p4, (p.2.trans (Ex.new nT)).trans e4⟩)) (fun σ' H' p => hd σ' H' p.1)⟩
/-- a comprehension over any walk; what comes out are the ints ms -/
theorem el_lcW {wi : TI} {J : It} {n : Nat} {G : Hp → Prop} {Y : Nat → Hp → V → Hp → Prop} {g : TG} {ms : List Int} (w : Walk J n G Y) (hi : ∀ H1, Ex H H1 → ∀ R : It → Hp → Prop, (∀ H2, Ex H1 H2 → R J H2) → wi σ H1 R) (hG : ∀ H1, Ex H H1 → G H1) (hn : n ≤ 40000) (hl : ms.length = n)
    (hs : ∀ i x H1 H2 (Q : L2.St → Hp → Prop), i < n → Ex H H1 → Y i H1 x H2 → (∀ σ2, Ex H1 H2 → wipe σ2 vs = wipe σ vs → Ev te σ2 H (.int (ms.getD i 0)) → Q σ2 H2) → g x (wipe σ vs) H2 Q) : EvL (tLc wi g tYes te vs) σ H (ms.map V.int) := fun H0 e0 Q q =>
  hi H0 e0 _ fun H1 e1 Dl hD => by
    refine lc_it w (Cw H1 (fun _ => true) (fun i => V.int (ms.getD i 0)) Dl) ⟨hD, Ex.new hD, upd_same⟩ (fun i H' _ p => hG H' ((e0.trans e1).trans p.2.1)) (fun i x H' H2 lt p y => ?_) (fun H' p => ?_)
    · refine hs i x H' H2 _ lt ((e0.trans e1).trans p.2.1) y fun σ2 ex2 wi2 ev => ⟨wi2, ?_⟩
      have p2 : Cw H1 (fun _ => true) (fun i => V.int (ms.getD i 0)) Dl i H2 := ⟨p.1, p.2.1.trans ex2, ex2 Dl _ p.2.2⟩
      exact cw_turn p2 (by omega) et_yes fun _ => ev.mono (e0.trans e1)
    · have z := p.2.2
      rw [given_all, map_range hl] at z
      exact q Dl H' (fresh_back e1 p.1) (e1.trans p.2.1) z
theorem ia_enum (h : EvA ta σ H [.ref a]) (hx : SqL K H a xs) : ∀ H1, Ex H H1 → ∀ R : It → Hp → Prop, (∀ H2, Ex H1 H2 → R (Ite K a) H2) → iEnum K ta σ H1 R := fun H1 e R q => h H1 e _ fun H2 e2 => ⟨a, xs, rfl, ex_l (e.trans e2) hx, q H2 e2⟩
theorem ia_zip (h : EvA ta σ H [.ref a, .ref b]) (hx : SqL K H a xs) (hy : SqL K H b ys) : ∀ H1, Ex H H1 → ∀ R : It → Hp → Prop, (∀ H2, Ex H1 H2 → R (Itz K a b) H2) → iZip K ta σ H1 R := fun H1 e R q => h H1 e _ fun H2 e2 => ⟨a, b, xs, ys, rfl, ex_l (e.trans e2) hx, ex_l (e.trans e2) hy, q H2 e2⟩
theorem ia_zip3 (h : EvA ta σ H [.ref a, .ref b, .ref c]) (hx : SqL K H a xs) (hy : SqL K H b ys) (hz : SqL K H c zs) : ∀ H1, Ex H H1 → ∀ R : It → Hp → Prop, (∀ H2, Ex H1 H2 → R (Itz3 K a b c) H2) → iZip3 K ta σ H1 R := fun H1 e R q => h H1 e _ fun H2 e2 => ⟨a, b, c, xs, ys, zs, rfl, ⟨ex_l (e.trans e2) hx, ex_l (e.trans e2) hy, ex_l (e.trans e2) hz⟩, q H2 e2⟩
theorem el_lcE {ns ms : List Int} (h : EvA ta σ H [.ref a]) (hx : SqL K H a (ns.map V.int)) (hn : ns.length ≤ 40000) (hw : ∀ x y, wipe (((wipe σ vs).set j (some x)).set l (some y)) vs = wipe σ vs) (hl : ms.length = ns.length)
    (he : ∀ i, i < ns.length → Ev te (((wipe σ vs).set j (some (.int (i : Int)))).set l (some (.int (ns.getD i 0)))) H (.int (ms.getD i 0))) : EvL (tLc (iEnum K ta) (g2 K j l) tYes te vs) σ H (ms.map V.int) :=
  el_lcW (n := ns.length) (ints_len ns ▸ (walk_enum (xs := ns.map V.int))) (ia_enum h hx) (fun H1 e => ex_l e hx) hn hl fun i x H1 H2 Q lt e y q => by
    obtain ⟨T, u, w, rfl, nT, rfl, eu, ew⟩ := y
    cases eu
    have ew : (ns.map V.int)[i]? = some w := ew
    rw [intsAt lt] at ew
    cases ew
    exact g2_go upd_same (q _ (Ex.new nT) (hw _ _) (he i lt))
theorem el_lcZ {ns ks ms : List Int} (h : EvA ta σ H [.ref a, .ref b]) (hx : SqL K H a (ns.map V.int)) (hy : SqL K H b (ks.map V.int)) (hk : ks.length = ns.length) (hn : ns.length ≤ 40000) (hw : ∀ x y, wipe (((wipe σ vs).set j (some x)).set l (some y)) vs = wipe σ vs) (hl : ms.length = ns.length)
    (he : ∀ i, i < ns.length → Ev te (((wipe σ vs).set j (some (.int (ns.getD i 0)))).set l (some (.int (ks.getD i 0)))) H (.int (ms.getD i 0))) : EvL (tLc (iZip K ta) (g2 K j l) tYes te vs) σ H (ms.map V.int) :=
  el_lcW (n := ns.length) (walk_zip (xs := ns.map V.int) (ys := ks.map V.int) (by rw [ints_len, ints_len]; omega)) (ia_zip h hx hy) (fun H1 e => ⟨ex_l e hx, ex_l e hy⟩) hn hl fun i x H1 H2 Q lt e y q => by
    obtain ⟨T, u, w, rfl, nT, rfl, eu, ew⟩ := y
    have eu : (ns.map V.int)[i]? = some u := eu
    have ew : (ks.map V.int)[i]? = some w := ew
    rw [intsAt lt] at eu
    rw [intsAt (by omega)] at ew
    cases eu
    cases ew
    exact g2_go upd_same (q _ (Ex.new nT) (hw _ _) (he i lt))
theorem el_lcZ3 {ns ks ls ms : List Int} (h : EvA ta σ H [.ref a, .ref b, .ref c]) (hx : SqL K H a (ns.map V.int)) (hy : SqL K H b (ks.map V.int)) (hz : SqL K H c (ls.map V.int)) (hk : ks.length = ns.length) (hk2 : ls.length = ns.length) (hn : ns.length ≤ 40000)
    (hw : ∀ x y z, wipe ((((wipe σ vs).set j (some x)).set l (some y)).set m (some z)) vs = wipe σ vs) (hl : ms.length = ns.length)
    (he : ∀ i, i < ns.length → Ev te ((((wipe σ vs).set j (some (.int (ns.getD i 0)))).set l (some (.int (ks.getD i 0)))).set m (some (.int (ls.getD i 0)))) H (.int (ms.getD i 0))) : EvL (tLc (iZip3 K ta) (g3 K j l m) tYes te vs) σ H (ms.map V.int) :=
  el_lcW (n := ns.length) (walk_zip3 (xs := ns.map V.int) (ys := ks.map V.int) (zs := ls.map V.int) (by rw [ints_len]) (by rw [ints_len]; omega) (by rw [ints_len]; omega)) (ia_zip3 h hx hy hz) (fun H1 e => ⟨ex_l e hx, ex_l e hy, ex_l e hz⟩) hn hl fun i x H1 H2 Q lt e y q => by
    obtain ⟨T, u, w, v, rfl, nT, rfl, eu, ew, ev⟩ := y
    rw [intsAt lt] at eu
    rw [intsAt (by omega)] at ew
    rw [intsAt (by omega)] at ev
    cases eu
    cases ew
    cases ev
    exact g3_go upd_same (q _ (Ex.new nT) (hw _ _ _) (he i lt))
/-- xs[::-1] -/
theorem el_rev (h : Ev te σ H (.ref a)) (hx : SqL K H a xs) : EvL (tRev K te (tPart (tUn (rU fun i => .int (-i)) (tC (.int 1))))) σ H xs.reverse := fun H1 e Q q =>
  h H1 e _ fun H2 e2 => ⟨1, rfl, -1, rfl, rfl, a, xs, rfl, ex_l (e.trans e2) hx, fun p hp => q p _ (fresh_back e2 hp) (e2.trans (Ex.new hp)) upd_same⟩
/-- a call that fills up from the defaults -/
theorem ev_callSD {sp : Sp} {dvs ws : List V} {E : L2.St → XK} {z : V} (h : EvA ta σ H ws) (hs : SpV sp (ws ++ dvs) H z) : Ev (tCallSD sp dvs E ta) σ H z := fun H1 e Q q =>
  h H1 e _ fun H2 e2 => hs H2 (e.trans e2) Q (fun H3 e3 => q H3 (e2.trans e3)) (E σ)
theorem evx_callSD {sp : Sp} {dvs ws : List V} {E : L2.St → XK} {cls : Value} (h : EvA ta σ H ws) (hs : SpR sp (ws ++ dvs) H cls) (w : ∀ H2, Ex H H2 → E σ cls none H2) : EvX (tCallSD sp dvs E ta) σ H := fun H1 e Q =>
  h H1 e _ fun H2 e2 => hs H2 (e.trans e2) Q (E σ) fun H3 e3 => w H3 ((e.trans e2).trans e3)
theorem rc_isiN {n : String} {b : Bool} (h : kitB "NoneType" n = some b) : RC (rIsi K) [.non, .ty n] H (.bl b) := fun H1 _ Q q =>
  ⟨.non, .ty n, .type "NoneType", .type n, b, rfl, .ty n, .base .non, kit_ty h, q H1 (Ex.refl H1)⟩
theorem ty_sq {p : Addr} {ws : List V} (h : SqL K H p ws) : TyX K H (.ref p) (.type "list") := by
  rcases h with (h | ⟨o, h⟩) | ⟨o, its, n, h, c, _⟩
  · exact .base (.lst h)
  · exact .base (.frz h)
  · exact .kList h c
theorem rc_isiSq {p : Addr} {ws : List V} {n : String} {b : Bool} (hp : SqL K H p ws) (h : kitB "list" n = some b) : RC (rIsi K) [.ref p, .ty n] H (.bl b) := fun H1 e Q q =>
  ⟨.ref p, .ty n, .type "list", .type n, b, rfl, .ty n, ty_sq (ex_l e hp), kit_ty h, q H1 (Ex.refl H1)⟩
theorem rc_sum {ns : List Int} (hx : SqL K H a (ns.map V.int)) : RC (rSum K) [.ref a] H (.int ns.sum) := fun H1 e Q q => ⟨a, ns, rfl, ex_l e hx, q H1 (Ex.refl H1)⟩
theorem rv_neIN {i : Int} : RV (rNeD K) (.int i) .non H (.bl true) := rv_neD (d := .int i) (e := .none) (fun _ _ => ⟨.int i, .non⟩) rfl rfl
end
theorem cut_last2 (xs : List V) : cutV xs (some (-2)) none = xs.drop (xs.length - 2) := by
  have e : HT.sIx xs.length 0 (some (-2)) = xs.length - 2 := by
    show (if (-2 : Int) < 0 then ((-2 : Int) + (xs.length : Int)).toNat else min (-2 : Int).toNat xs.length) = _
    rw [if_pos (by decide)]
    omega
  unfold cutV
  rw [e, HT.sIx_none]
  exact List.take_of_length_le (by rw [List.length_drop]; omega)
theorem cut_but2 (xs : List V) : cutV xs none (some (-2)) = xs.take (xs.length - 2) := by
  have e : HT.sIx xs.length xs.length (some (-2)) = xs.length - 2 := by
    show (if (-2 : Int) < 0 then ((-2 : Int) + (xs.length : Int)).toNat else min (-2 : Int).toNat xs.length) = _
    rw [if_pos (by decide)]
    omega
  unfold cutV
  rw [e, HT.sIx_none, Nat.sub_zero, List.drop_zero]
theorem sl_listK {X : Cx} {K : PySem.W.Frag} (hK : X.K = K) : SlR X (rSlL K) := by
  rw [← hK]
  exact sl_list
theorem pe_fldK {X : Cx} {K : PySem.W.Frag} {e : Expr} {ta : TE} {f : Str} {pos : Pos} (hK : X.K = K) (he : PE X e ta) (hb : attributeBase e f X.env (eval e X.env) = eval e X.env) : PE X (.Attribute e f pos) (tFld K ta f) := by
  rw [← hK]
  exact pe_fld he hb
theorem pi_listK {X : Cx} {K : PySem.W.Frag} {tg e : Expr} {te : TE} (hK : X.K = K) (he : PE X e te) : PI X tg e (iList K te) := by
  rw [← hK]
  exact pi_list he
theorem evx_sl {r : V → Option Int → Option Int → Hp → VK → Prop} {σ : L2.St} {H : Hp} {u : TE} {lo hi : TO} (h : EvX u σ H) : EvX (tSl r u lo hi) σ H := fun H1 e Q => h H1 e _
/-- a test that raises -/
def EvTX (u : TT) (σ : L2.St) (H : Hp) : Prop := ∀ H1, Ex H H1 → ∀ Q : Bool → Hp → Prop, u σ H1 Q
theorem etx_test {u : TE} {σ : L2.St} {H : Hp} (h : EvX u σ H) : EvTX (tTest u) σ H := fun H1 e Q => h H1 e _
theorem etx_B {u : TE} {σ : L2.St} {H : Hp} (h : EvX u σ H) : EvTX (tB u) σ H := fun H1 e Q => h H1 e _
theorem etx_not {u : TT} {σ : L2.St} {H : Hp} (h : EvTX u σ H) : EvTX (tNot u) σ H := fun H1 e Q => h H1 e _
theorem sx_if {u : TT} {tu tw : TS} {σ : L2.St} {H : Hp} {D : Ends} (h : EvTX u σ H) : tIfS u tu tw D σ H := h H (Ex.refl H) _
/-- sum of a new list -/
theorem ev_sumL {K : PySem.W.Frag} {u : TE} {σ : L2.St} {H : Hp} {ns : List Int} (h : EvL u σ H (ns.map V.int)) : Ev (tCB (rSum K) (tCons u tNil)) σ H (.int ns.sum) := fun H1 e Q q => h H1 e _ fun p H2 _ e2 g => ⟨p, ns, rfl, sq_of g, q H2 e2⟩
/-- return [..], z -/
theorem s_retP {u w : TE} {σ : L2.St} {H : Hp} {D : Ends} {xs : List V} {z : V} (h1 : EvL u σ H xs) (h2 : ∀ H1, Ex H H1 → Ev w σ H1 z) (k : RetP xs z H D.rt) : tRet (tTup (tCons u (tCons w tNil))) D σ H :=
  h1 H (Ex.refl H) _ fun a H1 ha e1 g => h2 H1 e1 H1 (Ex.refl H1) _ fun H2 e2 => ⟨by show 2 ≤ sizeLine; decide, fun t ht => k a t _ ha (fresh_back (e1.trans e2) ht) ((e1.trans e2).trans (Ex.new ht)) ((Ex.new ht) a _ (e2 a _ g)) upd_same⟩
/-- o.f = a new list -/
theorem s_fldL {K : PySem.W.Frag} {σ : L2.St} {H : Hp} {u w : TE} {D : Ends} {x C dx : Addr} {fs : List (Str × V)} {ys : List V} {f : Str} (hv : EvL w σ H ys) (ho : Ev u σ H (.ref x)) (hx : H x = some (.ins C dx fs)) (c : Cls K C) (no : NoAttr K C f) (few : fs.length < 1000)
    (k : ∀ l H1, H l = none → Ex H H1 → H1 l = some (.lst ys) → D.nx σ (upd H1 x (.ins C dx (putF f (.ref l) fs)))) : sFld K u w f D σ H :=
  hv H (Ex.refl H) _ fun l H1 hl e1 g => ho H1 e1 _ fun H2 e2 => ⟨x, C, dx, fs, rfl, (e1.trans e2) x _ hx, c, no, few, k l H2 hl (e1.trans e2) (e2 l _ g)⟩
theorem q_fldL {K : PySem.W.Frag} {σ : L2.St} {H : Hp} {u w : TE} {D : Ends} {tz : TS} {x C dx : Addr} {fs : List (Str × V)} {ys : List V} {f : Str} (hv : EvL w σ H ys) (ho : Ev u σ H (.ref x)) (hx : H x = some (.ins C dx fs)) (c : Cls K C) (no : NoAttr K C f) (few : fs.length < 1000)
    (k : ∀ l H1, H l = none → Ex H H1 → H1 l = some (.lst ys) → tz D σ (upd H1 x (.ins C dx (putF f (.ref l) fs)))) : tSeq (sFld K u w f) tz D σ H := s_fldL (D := { D with nx := tz D }) hv ho hx c no few k
/-- texts one behind another -/
def EvJ (ts : List TE) (acc : Str) (σ : L2.St) (H : Hp) : Prop := ∀ H1, Ex H H1 → ∀ Q : Str → Hp → Prop, (∀ out H2, Ex H1 H2 → Q out H2) → tJs ts acc σ H1 Q
theorem ej_nil {acc : Str} {σ : L2.St} {H : Hp} : EvJ [] acc σ H := fun H1 _ Q q => q acc H1 (Ex.refl H1)
theorem ej_cons {acc y : Str} {σ : L2.St} {H : Hp} {u : TE} {ts : List TE} (h : Ev u σ H (.str y)) (hy : y.length ≤ 1921) (ha : acc.length ≤ 90000) (r : ∀ acc', acc'.length ≤ acc.length + 1921 → EvJ ts acc' σ H) : EvJ (u :: ts) acc σ H := fun H1 e Q q =>
  h H1 e _ fun H2 e2 => by
    have l : (acc ++ y).length = acc.length + y.length := Str.length_append ..
    exact ⟨y, rfl, sz_of (by omega), r (acc ++ y) (by omega) H2 (e.trans e2) Q fun out H3 e3 => q out H3 (e2.trans e3)⟩
theorem ev_fmtI {i : Int} {u : TE} {σ : L2.St} {H : Hp} (h : Ev u σ H (.int i)) (l : i.natAbs.log2 < 1920) : Ev (tFmt u) σ H (.str (toString i)) := fun H1 e Q q => h H1 e _ fun H2 e2 => .inr ⟨i, rfl, l, q H2 e2⟩
/-- a call of an own def with its last parameters left to their defaults -/
theorem pe_callXD {X : Cx} {k : Nat} {f : Addr} {fd : FuncData} {ps : List Str} {sp : Sp} {W : WX} {x : Str} {p pos : Pos} {e : Expr} {es : List Expr} {t : TA} {dvs : List V} {ds : List Value} (F : FnOk X.prog X.w X.K X.mg X.base (L2.CX X.prog X.w) k f fd ps sp) (hr : Room k X.A) (hg : Gl X x) (hm : X.mg x = some (.ref f)) (hk : PySem.W.keepIn X.K (.ref f) = true)
    (hb : Binds X.K fd ps ds) (hd : Vals dvs ds) (tk : Takes X W) (ha : PA X (e :: es) t) (nd : (x == ("__debug__" : Str)) = false := by decide) (first : starEach (e :: es) X.env = (false, eval e X.env) :: starEach es X.env := by rfl) (plain : (backTo pos (starEach es X.env)).any (·.1) = false := by rfl) :
    PE X (.Call (.Name x p) (e :: es) [] pos) (tCallSD sp dvs (WE W) t) := pe_callSD F hr hg hm hk hb hd (fun σ => passAt tk σ) ha nd first plain
/-- raise X(f'..') : own class, any one argument -/
theorem pmk_ownE {X : Cx} {C : Addr} {bmB : List Value} {B newId initId : String} {x : Str} {e : Expr} {te : TE} {p pos : Pos} (F : ExcBaseFacts B newId initId bmB) (q : PySem.W.excIn X.K C bmB newId = true) (gC : X.mg x = some (.ref C)) (kC : PySem.W.keepIn X.K (.ref C) = true) (r : Raises X (.ref C)) (hg : Gl X x) (he : PE X e te)
    (nd : (x == ("__debug__" : Str)) = false := by decide) (first : starEach [e] X.env = (false, eval e X.env) :: starEach [] X.env := by rfl) (plain : (backTo pos (starEach [] X.env)).any (·.1) = false := by rfl) :
    PMk X (.Call (.Name x p) [e] [] pos) (fun σ H Q => tCons te tNil σ H fun vs H1 => (∃ v, vs = [v]) ∧ Q (.ref C) none H1) := by
  intro pins s σ H Q inv wish
  apply wpAny_Call_Name_kw
  apply ld_glob inv hg gC ?_ nd
  refine PySem.W.callWith_K (h₀ := X.base) inv.ok.mod.kin kC ?_ first plain
  have one : PA X [e] (tCons te tNil) := pa_cons he pa_nil (hs := first)
  apply thn (one.run pos pins s σ H _ inv wish)
  rintro us s1 ⟨vs, H1, inv1, rel, ⟨v, rfl⟩, wish1⟩
  refine ⟨inv1.kIn, ?_⟩
  match us, rel with
  | [u], .cons _ .nil =>
    obtain ⟨bm, N, nm, qn, bs, hdct, sn, sub, ab, col, dd, k0, k1, k2, k3, k5, mN, hC, hN, hni, T⟩ := exc_obj inv1.kIn q
    exact wpAny_call_exc_subT F T hC hN hni (fun h' e hm => mk_of inv1 hm r wish1 (inv1.hok.gone hm.new)) (by show 1 ≤ sizeLine; decide)
end RX

/-! Own rules where exceptions are told with an empty context; a comprehension over range within an except suite. -/
namespace RXN
open PySem PySem.Spec PyProof.Rows L2 RX
section
variable {X : Cx} {k : Nat} {f C : Addr} {fd : FuncData} {ps : List Str} {sp : Sp} {W : WX} {x m : Str} {p pos apos : Pos} {e o : Expr} {es : List Expr} {ta : TE} {t : TA}
theorem takes0 : L2N.Takes X (fun _ _ _ _ => False) := fun u s' z => by
  obtain ⟨_, _, _, _, _, _, _, _, _, _, _, _, _, _, _, _, no⟩ := z
  exact no.elim
theorem pe_callX (F : FnOk X.prog X.w X.K X.mg X.base (L2N.CX X.prog X.w) k f fd ps sp) (hr : Room k X.A) (hg : Gl X x) (hm : X.mg x = some (.ref f)) (hk : PySem.W.keepIn X.K (.ref f) = true) (hb : Binds X.K fd ps []) (tk : L2N.Takes X W)
    (ha : PA X (e :: es) t) (nd : (x == ("__debug__" : Str)) = false := by decide) (first : starEach (e :: es) X.env = (false, eval e X.env) :: starEach es X.env := by rfl) (plain : (backTo pos (starEach es X.env)).any (·.1) = false := by rfl) :
    PE X (.Call (.Name x p) (e :: es) [] pos) (tCallS sp (WE W) t) := pe_callS F hr hg hm hk hb (fun σ => L2N.passAt tk σ) ha nd first plain
theorem pe_callXD {dvs : List V} {ds : List Value} (F : FnOk X.prog X.w X.K X.mg X.base (L2N.CX X.prog X.w) k f fd ps sp) (hr : Room k X.A) (hg : Gl X x) (hm : X.mg x = some (.ref f)) (hk : PySem.W.keepIn X.K (.ref f) = true)
    (hb : Binds X.K fd ps ds) (hd : Vals dvs ds) (tk : L2N.Takes X W) (ha : PA X (e :: es) t) (nd : (x == ("__debug__" : Str)) = false := by decide) (first : starEach (e :: es) X.env = (false, eval e X.env) :: starEach es X.env := by rfl) (plain : (backTo pos (starEach es X.env)).any (·.1) = false := by rfl) :
    PE X (.Call (.Name x p) (e :: es) [] pos) (tCallSD sp dvs (WE W) t) := pe_callSD F hr hg hm hk hb hd (fun σ => L2N.passAt tk σ) ha nd first plain
theorem pe_methX {pl : Sem Bool} (ho : PE X o ta) (cl : Cls X.K C) (mt : Meth X.K C m f) (ok : FnOk X.prog X.w X.K X.mg X.base (L2N.CX X.prog X.w) k f fd ps sp) (room : Room k X.A) (bd : Binds X.K fd ps []) (tk : L2N.Takes X W) (hes : PA X (e :: es) t)
    (first : starEach (e :: es) X.env = (false, eval e X.env) :: starEach es X.env := by rfl) (plain : (backTo pos (starEach es X.env)).any (·.1) = false := by rfl) (asks : Asks X o m apos (e :: es) pos pl := by rfl) :
    PE X (.Call (.Attribute o m apos) (e :: es) [] pos) (tMethX C m sp (WE W) ta t) where
  run := by
    intro pn st σ0 H0 Q0 inv wish
    apply PySem.W.methodCall_KW (pl := pl) ?_ asks
    apply thn (ho.run pn st σ0 H0 _ inv wish)
    rintro u st1 ⟨_, H1, inv1, rx, a, dx, fs, rfl, at1, none1, wish1⟩
    obtain rfl : u = Value.ref a := rx
    apply getmeth_ok inv1 at1 cl mt none1
    apply PySem.W.callWith_K (first := [.ref a]) (h₀ := X.base) inv.ok.mod.kin mt.kp ?_ first plain
    apply thn (hes.run pos pn st1 σ0 H1 _ inv1 wish1)
    rintro us st2 ⟨vs, H2, inv2, rel2, wish2⟩
    exact ⟨inv2.kIn, run_fnS (us := .ref a :: us) (vs := .ref a :: vs) ok room bd (L2N.passAt tk σ0) inv2 (.cons rfl rel2) wish2⟩
theorem pe_meth0X {pl : Sem Bool} (ho : PE X o ta) (cl : Cls X.K C) (mt : Meth X.K C m f) (ok : FnOk X.prog X.w X.K X.mg X.base (L2N.CX X.prog X.w) k f fd ps sp) (room : Room k X.A) (bd : Binds X.K fd ps []) (tk : L2N.Takes X W) (asks : Asks X o m apos [] pos pl := by rfl) :
    PE X (.Call (.Attribute o m apos) [] [] pos) (tMethX C m sp (WE W) ta tNil) where
  run := by
    intro pn st σ0 H0 Q0 inv wish
    apply PySem.W.methodCall_KW (pl := pl) ?_ asks
    apply thn (ho.run pn st σ0 H0 _ inv wish)
    rintro u st1 ⟨_, H1, inv1, rx, a, dx, fs, rfl, at1, none1, wish1⟩
    obtain rfl : u = Value.ref a := rx
    apply getmeth_ok inv1 at1 cl mt none1
    exact PySem.W.callWith_K0 (first := [.ref a]) inv1.kIn mt.kp (run_fnS (us := [.ref a]) (vs := [.ref a]) ok room bd (L2N.passAt tk σ0) inv1 (.cons rfl .nil) wish1)
theorem pe_makeX (mk : Mk X.K C f) (ok : FnOk X.prog X.w X.K X.mg X.base (L2N.CX X.prog X.w) k f fd ps sp) (room : Room (k + 1) X.A) (gl : Gl X x) (at0 : X.mg x = some (.ref C)) (bd : Binds X.K fd ps []) (tk : L2N.Takes X W) (hes : PA X (e :: es) t)
    (nd : (x == ("__debug__" : Str)) = false := by decide) (first : starEach (e :: es) X.env = (false, eval e X.env) :: starEach es X.env := by rfl) (plain : (backTo pos (starEach es X.env)).any (·.1) = false := by rfl) :
    PE X (.Call (.Name x p) (e :: es) [] pos) (tMakeX C sp (WE W) t) where
  run := by
    intro pn st σ0 H0 Q0 inv wish
    apply wpAny_Call_Name_kw
    apply ld_glob inv gl at0 ?_ nd
    apply PySem.W.callWith_K (h₀ := X.base) inv.ok.mod.kin mk.kp ?_ first plain
    apply thn (hes.run pos pn st σ0 H0 _ inv wish)
    rintro us st1 ⟨vs, H1, inv1, rel1, wish1⟩
    refine ⟨inv1.kIn, ?_⟩
    let n := st1.heap.objs.size
    have made := Inv.made (C := C) inv1
    have here := wish1 (n + 1) n (inv1.hok.fresh (Nat.le_succ _)) (inv1.hok.fresh (Nat.le_refl _)) (Nat.ne_of_lt (Nat.lt_succ_self n))
    have rel2 : Vals (V.ref (n + 1) :: vs) (Value.ref (n + 1) :: us) := .cons rfl rel1
    have count : (Value.ref (n + 1) :: us).length = ps.length := rel2.length.symm.trans (ok.len _ _ _ _ here)
    have bound := bd _ (Value.ref (n + 1) :: us) made.kIn (by simpa using count)
    rw [List.append_nil] at bound
    apply wpAny_call
    apply make_map (f := f) inv1.kIn mk.makes mk.init (beq_iff_eq.mp mk.fn)
    apply codeAny_mono (ok.run _ X.stack _ _ ⟨Value.ref (n + 1) :: us, []⟩ (Value.ref (n + 1) :: us) _ _ (WE W σ0) (room.make C us []) (made.env0.make C us []) bound rel2 here)
    intro res st2 after
    match res, after with
    | .error err, after => exact L2N.passAt tk σ0 pn _ _ err st2 made after
    | .ok (.ret u), after =>
      obtain ⟨_, H3, inv3, rv, rfl, wish3⟩ := made.after after
      exact ⟨rv, V.ref (n + 1), H3, inv3, rfl, wish3⟩
    | .ok .next, after => exact after.elim
    | .ok .brk, after => exact after.elim
    | .ok .cont, after => exact after.elim
theorem pmk_ownE {bmB : List Value} {B newId initId : String} {te : TE} (F : ExcBaseFacts B newId initId bmB) (q : PySem.W.excIn X.K C bmB newId = true) (gC : X.mg x = some (.ref C)) (kC : PySem.W.keepIn X.K (.ref C) = true) (r : Raises X (.ref C)) (hg : Gl X x) (he : PE X e te)
    (nd : (x == ("__debug__" : Str)) = false := by decide) (first : starEach [e] X.env = (false, eval e X.env) :: starEach [] X.env := by rfl) (plain : (backTo pos (starEach [] X.env)).any (·.1) = false := by rfl) :
    L2N.PMk X (.Call (.Name x p) [e] [] pos) (fun σ H Q => tCons te tNil σ H fun vs H1 => (∃ v, vs = [v]) ∧ Q (.ref C) none H1) := by
  intro pins s σ H Q inv wish
  apply wpAny_Call_Name_kw
  apply ld_glob inv hg gC ?_ nd
  refine PySem.W.callWith_K (h₀ := X.base) inv.ok.mod.kin kC ?_ first plain
  have one : PA X [e] (tCons te tNil) := pa_cons he pa_nil (hs := first)
  apply thn (one.run pos pins s σ H _ inv wish)
  rintro us s1 ⟨vs, H1, inv1, rel, ⟨v, rfl⟩, wish1⟩
  refine ⟨inv1.kIn, ?_⟩
  match us, rel with
  | [u], .cons _ .nil =>
    obtain ⟨bm, N, nm, qn, bs, hdct, sn, sub, ab, col, dd, k0, k1, k2, k3, k5, mN, hC, hN, hni, T⟩ := exc_obj inv1.kIn q
    exact wpAny_call_exc_subT F T hC hN hni (fun h' e hm => L2N.mk_of inv1 hm r wish1 (inv1.hok.gone hm.new)) (by show 1 ≤ sizeLine; decide)
end
/-- the context forgotten -/
theorem weak {P : Program} {w : World} {K : PySem.W.Frag} {mg : Str → Option Value} {base : Heap} {k : Nat} {f : Addr} {fd : FuncData} {ps : List Str} {sp : Sp} (F : FnOk P w K mg base (L2N.CX P w) k f fd ps sp) : FnOk P w K mg base (L2.CX P w) k f fd ps sp where
  len := F.len
  run := fun A outer s H args us vs Q E room env binds rel wish => codeAny_mono (F.run A outer s H args us vs Q E room env binds rel wish) fun r s' got => by
    cases r with
    | ok fl => cases fl <;> exact got
    | error u =>
      obtain ⟨a, B, H', cls, d, eu, fly, rest⟩ := got
      exact ⟨a, B, H', cls, d, eu, L2H.flyingZ_imp (fun o z => z.zc) fly, rest⟩
/-- in the suite the caught exception is the one that is handled -/
theorem hot_suite {X : Cx} {a : Addr} {oe : Obj} {cls : Value} {d : Option Addr} {pn : List (Addr × Obj)} (hz : L2N.Zn cls d oe) (hf : ∃ vs, oe.data = .fields vs) : L2H.HotC (X.suite a ((a, oe) :: pn)) := by
  obtain ⟨vs, ev⟩ := hf
  exact ⟨(a, oe), ⟨rfl, vs, ev, hz.2.2 vs ev⟩, List.mem_cons_self ..⟩
section
variable {X : Cx} {tg : Expr}
/-- an iterator over lo, lo + 1, .. has come -/
def Got (X : Cx) (pins : List (Addr × Obj)) (σ : L2.St) (R : It → Hp → Prop) (v : Value) (s : Shared) : Prop :=
  ∃ (it : Addr) (lo : Int) (n : Nat) (H : Hp), v = .ref it ∧ Inv X pins σ H s ∧ IsRangeIter s.heap it lo n 1 ∧ FpOk X pins H it ∧ R (Itr lo n) H
structure PR (X : Cx) (iter : Expr) (wi : TI) : Prop where
  run : ∀ (pins : List (Addr × Obj)) (s : Shared) (σ : L2.St) (H : Hp) (R : It → Hp → Prop), Inv X pins σ H s → wi σ H R →
    wpAny (model X.prog X.w) X.A (eval iter X.env) (fun v s1 => wpAny (model X.prog X.w) X.A (pyIter v) (Got X pins σ R) X.xe s1) X.xe s
theorem range_got {pins : List (Addr × Obj)} {σ : L2.St} {H : Hp} {s : Shared} {R : It → Hp → Prop} {E : Value → Shared → Prop} {lo hi : Int} {t u v : Tok} {tk : Nat} (inv : Inv X pins σ H s) (h1 : -(2 ^ 62) ≤ lo) (h2 : lo < 2 ^ 62) (h3 : -(2 ^ 62) ≤ hi) (h4 : hi < 2 ^ 62)
    (wish : R (Itr lo (hi - lo).toNat) H) (o : Obj) (eo : o = { cls := .type "range", data := .fields #[.int lo t, .int hi u, .int 1 v] }) : wpAny (model X.prog X.w) X.A (pyIter (.ref s.heap.objs.size)) (Got X pins σ R) E { s with heap := s.heap.push o, toks := tk } := by
  have inv1 : Inv X pins σ H { s with heap := s.heap.push o, toks := tk } := inv.kept fun b u' e => Heap.get?_push_of_some _ e
  subst eo
  apply wpAny_pyIter_range (IsRange.new ..) (small_one h1 h2 h3 h4)
  have sz : (((hi - lo).toNat : Nat) : Int) = Builtin.Range.rangeSize lo hi 1 := by rw [rangeSize_one]; split <;> omega
  refine ⟨(s.heap.push { cls := .type "range", data := .fields #[.int lo t, .int hi u, .int 1 v] }).objs.size, lo, (hi - lo).toNat, H, rfl, inv1.kept (t' := tk) fun b o e => Heap.get?_push_of_some _ e, ?_, ?_, wish⟩
  · show IsRangeIter _ _ lo (((hi - lo).toNat : Nat) : Int) 1
    rw [sz]
    exact Heap.get?_push_size _ rfl
  · exact inv1.fpOk (Nat.le_refl _) (inv1.hok.fresh (Nat.le_refl _))
theorem pr_range {a : Expr} {ta : TA} {p pos : Pos} (hg : Gl X "range") (hm : X.mg "range" = none) (ha : PA X [a] ta) (hs : starEach [a] X.env = [(false, eval a X.env)] := by rfl) : PR X (.Call (.Name "range" p) [a] [] pos) (iRng1 ta) := by
  refine ⟨fun pins s σ H R inv wish => ?_⟩
  refine Call_ (ld_blt inv hg hm boot_range (PyProof.Rows.callWith_type1 (thn (ha.run pos pins s σ H _ inv wish) fun us s1 ⟨vs, H1, inv1, rel, got⟩ => ?_) hs rfl))
  obtain ⟨j, ev, j0, j1, got⟩ := got
  subst ev
  cases rel with
  | cons r more =>
    cases more
    obtain ⟨t, rfl⟩ := r
    exact call_range_1 (range_got inv1 (by omega) (by omega) j0 j1 (by simpa using got) _ rfl)
/-- a list comprehension over range, while an exception is handled -/
theorem pe_lcH {elt iter : Expr} {ifs : List Expr} {scope : Scope} {own : List (Str × Nat)} {pos : Pos} {wi : TI} {g : TG} {tt : TT} {te : TE} (hot : L2H.HotC X) (hN : X.N.Nodup) (hi : PR X iter wi) (ok : BlkOk X.N X.env.scope scope own)
    (hg : ∀ (s : Shared) (H : Hp) (C : Addr) (cl : List (Str × Addr)) (fp : List Addr), PG (X.blk s H scope (compEnvC scope cl C X.env) fp) tg g) (ht : ∀ (s : Shared) (H : Hp) (C : Addr) (cl : List (Str × Addr)) (fp : List Addr), PTs (X.blk s H scope (compEnvC scope cl C X.env) fp) ifs tt)
    (he : ∀ (s : Shared) (H : Hp) (C : Addr) (cl : List (Str × Addr)) (fp : List Addr), PE (X.blk s H scope (compEnvC scope cl C X.env) fp) elt te) (hs : ∀ x, foldedSetIterable iter X.env x = pure x := by intro _; rfl) :
    PE X (.ListComp elt [⟨tg, iter, ifs, 0⟩] scope pos) (tLc wi g tt te (own.map (·.2))) := by
  refine ⟨fun pins s0 σ H0 Q inv0 wish => ?_⟩
  rw [eval_ListComp]
  have cellsAt : ∀ y ∈ scope.names, y.2 = .free → ∃ c, X.env.cells.lookup y.1 = some c := fun y hy fr => by
    rcases ok.free y hy fr with z | z
    · exact inv0.ok.has _ (.inl z)
    · exact inv0.ok.has _ (.inr z)
  refine wpAny_comprehension_free (use := none) rfl hs (closure_ok cellsAt) ok.kind (fun y hy fr => by rw [ok.uniq y hy, fr])
    (thn (hi.run pins s0 σ H0 _ inv0 wish) fun v0 s1 came => thn came fun itv s2 got => ?_)
  obtain ⟨it, lo, n, H2, rfl, inv2, st2, free2, turns⟩ := got
  refine wpAny_newObj_type (newEnv_comp ?_) (by show 0 ≤ sizeLine; decide)
  -- the list that is made
  generalize eL : s2.heap.objs.size = L
  obtain ⟨W, ⟨m0, w0⟩, turn⟩ := turns L (inv2.hok.fresh (Nat.le_of_eq eL))
  generalize e3 : ({ s2 with heap := s2.heap.push { cls := .type "list", data := .seq ([] : List Value).toArray } } : Shared) = s3
  have heap3 : s3.heap = s2.heap.push { cls := .type "list", data := .seq ([] : List Value).toArray } := by rw [← e3]
  have inv3 : Inv X pins σ (upd H2 L (.lst [])) s3 := by
    rw [← e3]
    refine inv2.laid (t' := s2.toks) (fun b o e => Heap.get?_push_of_some _ e) (Nat.le_of_eq eL) ⟨Nat.zero_le _, [], 0, .nil, ?_⟩
    rw [← eL]
    exact Heap.get?_push_size _ rfl
  have itL : it ≠ L := by
    rw [← eL]
    exact Nat.ne_of_lt (Heap.lt_size st2)
  have free3 : FpOk X pins (upd H2 L (.lst [])) it := ⟨by rw [upd_ne itL]; exact free2.1, free2.2⟩
  have st3 : IsRangeIter s3.heap it lo n 1 := by
    rw [heap3]
    exact Heap.get?_push_of_some _ st2
  have all3 : ∀ b ∈ [it], FpOk X pins (upd H2 L (.lst [])) b ∧ b < s3.heap.objs.size := fun b hb => by
    rw [List.mem_singleton.mp hb]
    exact ⟨free3, Heap.lt_size st3⟩
  have inv4 := block_start inv3 ok hN all3
  -- the block's rules at its context
  have ruleG := hg s3 (upd H2 L (.lst [])) s3.heap.objs.size (cellsFrom (s3.heap.objs.size + 1) scope.names (cloFrom X.env.cells scope.names [])) [it]
  have ruleT := ht s3 (upd H2 L (.lst [])) s3.heap.objs.size (cellsFrom (s3.heap.objs.size + 1) scope.names (cloFrom X.env.cells scope.names [])) [it]
  have ruleE := he s3 (upd H2 L (.lst [])) s3.heap.objs.size (cellsFrom (s3.heap.objs.size + 1) scope.names (cloFrom X.env.cells scope.names [])) [it]
  show codeAny _ _ (.compStart (.ListComp elt [⟨tg, iter, ifs, 0⟩] scope pos) 0 (.ref it) (.ref L) (compEnvC scope (cellsFrom (s3.heap.objs.size + 1) scope.names (cloFrom X.env.cells scope.names [])) s3.heap.objs.size X.env)) _ { s3 with heap := pushCells (s3.heap.push { cls := .type "dict", data := .dict #[] }) scope.names }
  generalize eB : compEnvC scope (cellsFrom (s3.heap.objs.size + 1) scope.names (cloFrom X.env.cells scope.names [])) s3.heap.objs.size X.env = be at inv4 ruleG ruleT ruleE ⊢
  have beL : be.locals = s3.heap.objs.size := by rw [← eB]; rfl
  generalize eH : upd H2 L (.lst []) = H3 at inv3 inv4 ruleG ruleT ruleE w0 free3 all3
  generalize e4 : ({ s3 with heap := pushCells (s3.heap.push { cls := .type "dict", data := .dict #[] }) scope.names } : Shared) = s4 at inv4 ⊢
  have st4 : IsRangeIter s4.heap it lo n 1 := by
    rw [← e4]
    exact pushCells_keeps _ _ _ _ (Heap.get?_push_of_some _ st3)
  have freeB : ∀ {σ' : L2.St} {H' : Hp} {s' : Shared}, Inv (X.blk s3 H3 scope be [it]) [] σ' H' s' → H' it = none → FpOk (X.blk s3 H3 scope be [it]) [] H' it := fun {σ' H' s'} I hn =>
    ⟨hn, (I.ok.exf it (List.mem_cons_self ..)).1, I.ok.exfs it (List.mem_cons_self ..), .inl (List.mem_cons_self ..), fun x c e => (I.ok.exf it (List.mem_cons_self ..)).2 x c e, fun p hp => absurd (show p ∈ ([] : List (Addr × Obj)) ++ [] from hp) (by simp)⟩
  have outer : ∀ {σ' : L2.St} {H' : Hp} {s' : Shared}, Inv (X.blk s3 H3 scope be [it]) [] σ' H' s' → Inv X pins σ H' s' := fun {σ' H' s'} I =>
    inv3.call' (ch := [it]) I.os I.base I.hok I.bare fun b hb => ⟨(all3 b hb).1.2.2.2.1, (all3 b hb).1.2.1, (all3 b hb).1.2.2.2.2.1, (all3 b hb).1.2.2.2.2.2⟩
  have obj : ∀ {h : Heap} {x l : Int}, IsRangeIter h it x l 1 → ∀ b ∈ [it], ∃ o, h.get? b = some o ∧ ∀ v, o.data ≠ .cell v := fun st b hb => by
    rw [List.mem_singleton.mp hb]
    exact ⟨_, st, fun v z => by
      have z' : Data.fields _ = Data.cell v := z
      cases z'⟩
  refine codeAny_compStart_list ?loop (wpAny_pyIter_rangeiter st4 ?loop)
  refine compLoop_any (fun m s' => ∃ (i : Nat) (H' : Hp), Inv (X.blk s3 H3 scope be [it]) [] (wipe σ (own.map (·.2))) H' s' ∧ IsRangeIter s'.heap it (lo + (i : Int)) ((n : Int) - (i : Int)) 1 ∧ H' it = none ∧ W i m H') ?_ m0 ⟨0, H3, inv4, by simpa using st4, (all3 it (List.mem_cons_self ..)).1.1, w0⟩
  rintro m s5 ⟨i, H5, inv5, st5, free5, w5⟩
  obtain ⟨f0, f1, f2, f3, f4, f5⟩ := freeB inv5 free5
  rcases turn i m H5 w5 with ⟨stop, fin⟩ | ⟨go, Nx, less, step⟩
  · have stop : n ≤ i := stop
    obtain ⟨x1, hx⟩ := hot.at (outer inv5)
    refine HotX.pyNext_range_end_hot hx st5 (by omega) fun h' keep => ?_
    have inv6 : Inv (X.blk s3 H3 scope be [it]) [] (wipe σ (own.map (·.2))) H5 { s5 with heap := h' } := inv5.turned (t' := s5.toks) (fun b o _ e => keep b o e) f0 f1 f3 f4 f5
    have here : H5 s3.heap.objs.size = none := by
      have z : H5 be.locals = none := inv6.free
      rw [beL] at z
      exact z
    obtain ⟨k, ns, _⟩ := inv6.loc
    have ns : h'.Ns be.locals k := ns
    rw [beL] at ns
    obtain ⟨g0, g1, g2, g3, g4, g5⟩ := inv3.fpOk (Nat.le_refl _) here
    exact ⟨k, ns, fun h'' sb => ⟨.ref L, H5, (outer inv6).turned (t' := s5.toks) (fun b o hb e => (sb.2 b hb).trans e) g0 g1 g3 g4 g5, rfl, fin⟩⟩
  · have go : i < n := go
    refine wpAny_pyNext_range_item st5 (by omega) fun h' st' sb => ?_
    have inv6 : Inv (X.blk s3 H3 scope be [it]) [] (wipe σ (own.map (·.2))) H5 { s5 with heap := h', toks := s5.toks + 1 } := inv5.turned (fun b o hb e => (sb.2 b hb).trans e) f0 f1 f3 f4 f5
    refine go_of (s := { s5 with heap := h', toks := s5.toks + 1 }) (n := "range_iterator") st' rfl rfl (by decide) ?_
    have inv7 := inv6.pinned (fun b hb => by rw [List.mem_singleton.mp hb]; exact freeB inv6 free5) (obj st')
    refine thnF (ruleG.run _ _ _ H5 (.int (lo + (i : Int))) _ _ inv7 ⟨s5.toks, rfl⟩ (step (.int (lo + (i : Int))) H5 ⟨rfl, rfl⟩)) fun _ s8 ⟨σ8, H8, inv8, same8, q8⟩ => ?_
    refine thnF (ruleT.run _ s8 σ8 H8 _ inv8 q8) fun b s9 ⟨H9, inv9, q9⟩ => ?_
    have back : ∀ {s' : Shared} {H' : Hp}, Inv (X.blk s3 H3 scope be [it]) ([] ++ pinsAt [it] h') σ8 H' s' → Nx H' → ∃ m', m' < m ∧ ∃ (i : Nat) (H' : Hp), Inv (X.blk s3 H3 scope be [it]) [] (wipe σ (own.map (·.2))) H' s' ∧ IsRangeIter s'.heap it (lo + (i : Int)) ((n : Int) - (i : Int)) 1 ∧ H' it = none ∧ W i m' H' := fun {s' H'} I nx => by
      obtain ⟨m', lt, w'⟩ := less H' nx
      have pin := I.pin _ (List.mem_append_right _ (List.mem_append_right _ (mem_pinsAt (List.mem_cons_self ..) st')))
      refine ⟨m', lt, i + 1, H', (I.unpinned (pins := [])).weak (by rw [← same8, wipe_length]) (fun j v e => ?_), ?_, pin.2.1, w'⟩
      · rw [← same8] at e
        exact (wipe_some e).1
      · have a1 : lo + (i : Int) + 1 = lo + ((i + 1 : Nat) : Int) := by omega
        have a2 : (n : Int) - (i : Int) - 1 = (n : Int) - ((i + 1 : Nat) : Int) := by omega
        have z := pin.1
        rw [a1, a2] at z
        exact z
    cases b with
    | false =>
      simp only [Bool.false_eq_true, if_false] at q9 ⊢
      exact back inv9 q9
    | true =>
      simp only [if_true] at q9 ⊢
      refine thnF (ruleE.run _ s9 σ8 H9 _ inv9 q9) fun z s10 ⟨y, H10, inv10, rel10, acc, at10, small, nx⟩ => ?_
      exact app_ok (X := X.blk s3 H3 scope be [it]) inv10 at10 small rel10 fun s11 inv11 => back inv11 nx
end
end RXN
namespace L2
open PySem PySem.Spec PyProof.Rows
/-- a def's body, what it raises told with an empty context -/
theorem Fun.okN {P : Program} {w : World} {K : PySem.W.Frag} {mg : Str → Option Value} {base : Heap} {x qual : Str} {st : Stmt} {f : Addr} {fd : FuncData} {N ps : List Str} {k : Nat} {sp : Sp} (F : Fun K x qual st f fd) (S : FnScope N ps (defScope st)) (count : ∀ vs H Q E, sp vs H Q E → vs.length = ps.length)
    (body : ∀ (cdv : Value) (A : Around) (outer : List Env) (s : Shared) (H : Hp) (vs : List V) (Q : VK) (E : XK), Room k (A.deeper (envOfC qual (defScope st) s.heap.objs.size f cdv)) → sp vs H Q E →
      ∃ t, PSs (cxOf (L2N.CX P w) P w K mg base N qual (defScope st) f cdv A outer s H E) (defBody st) t ∧ t { nx := fun _ H' => Q .non H', rt := Q } (start N vs) H) : FnOk P w K mg base (L2N.CX P w) (k + 1) f fd ps sp := by
  obtain ⟨_, _, _, _, _, _, _, _, _, rfl, at1, code⟩ := F.ex
  exact fn_of at1 code S count fun A outer s H vs Q E room wish => body _ A outer s H vs Q E room wish
end L2

namespace K01
def G (a b : Int) : Int := (Int.gcd a b : Int)
theorem G_nonneg (a b : Int) : 0 ≤ G a b := Int.natCast_nonneg _
theorem gcd_step {x y k r : Int} (e : x = y * k + r) : Int.gcd x y = Int.gcd y r := by
  rw [e, Int.gcd_comm]
  have := Int.gcd_add_mul_left_right y r k
  rw [Int.add_comm (y*k) r]
  exact this
theorem G_step {x y k r : Int} (e : x = y * k + r) : G x y = G y r := by
  unfold G; rw [gcd_step e]
theorem G_zero {y : Int} (h : 0 ≤ y) : G y 0 = y := by
  unfold G
  rw [Int.gcd_zero]
  omega
theorem G_comm (a b : Int) : G a b = G b a := by unfold G; rw [Int.gcd_comm]
theorem quot (x y : Int) : x = y * Int.fdiv x y + Int.fmod x y := by
  rw [Int.fmod_def]
  omega
theorem le_mul {y q r x : Int} (e : x = y * q + r) (r0 : 0 ≤ r) (hy : 0 < y) (r1 : r < y) (x0 : 0 ≤ x) : 0 ≤ q ∧ q ≤ x := by
  have q0 : 0 ≤ q := by
    rcases Int.lt_or_le q 0 with h | h
    · have h1 : y * q ≤ y * (-1) := Int.mul_le_mul_of_nonneg_left (by omega) (by omega)
      omega
    · exact h
  have h1 : 1 * q ≤ y * q := Int.mul_le_mul_of_nonneg_right (by omega) q0
  exact ⟨q0, by omega⟩

/-- common: the loop. -/
structure Eu (a b x y : Int) : Prop where
  is : Int.gcd x y = Int.gcd a b
theorem eu_start {a b : Int} (ha : 0 ≤ a) (hb : 0 ≤ b) : 0 ≤ a ∧ 0 ≤ b ∧ Eu a b a b := ⟨ha, hb, ⟨rfl⟩⟩
theorem eu_turn {a b x y k r : Int} (h : Eu a b x y) (e : x = y * k + r) (r0 : 0 ≤ r) (y0 : 0 ≤ y) : 0 ≤ y ∧ 0 ≤ r ∧ Eu a b y r :=
  ⟨y0, r0, ⟨(gcd_step e).symm.trans h.is⟩⟩
theorem eu_out {a b x y : Int} (h : Eu a b x y) (x0 : 0 ≤ x) (y0 : y = 0) : x = G a b := by
  have e := h.is
  rw [y0, Int.gcd_zero] at e
  unfold G
  omega
/-- the law's own: by turns. -/
theorem by_one {a b x y k r : Int} (h : Eu a b x y) (e : x = y * k + r) (r0 : 0 ≤ r) (y0 : 0 ≤ y) : 0 ≤ r ∧ 0 ≤ y ∧ Eu a b r y :=
  ⟨r0, y0, ⟨by rw [Int.gcd_comm]; exact (gcd_step e).symm.trans h.is⟩⟩
theorem by_two {a b x y k r : Int} (h : Eu a b x y) (e : y = x * k + r) (r0 : 0 ≤ r) (x0 : 0 ≤ x) : 0 ≤ x ∧ 0 ≤ r ∧ Eu a b x r :=
  ⟨x0, r0, ⟨by rw [← h.is, Int.gcd_comm x y]; exact (gcd_step e).symm⟩⟩
theorem by_out {a b x y : Int} (h : Eu a b x y) (x0 : 0 ≤ x) (y0 : 0 ≤ y) (z : x = 0 ∨ y = 0) : x + y = G a b := by
  have e := h.is
  unfold G
  rcases z with z | z
  · rw [z, Int.zero_gcd] at e
    omega
  · rw [z, Int.gcd_zero] at e
    omega

/-- turned: the loop. x above, y below, u high, w low. -/
structure Inv (b l x y u w : Int) : Prop where
  hi : ∃ k, u * l = x + b * k
  lo : ∃ k, w * l = y + b * k
  one : Int.gcd x y = 1
  fit : (w.natAbs : Int) * x + (u.natAbs : Int) * y ≤ b
theorem inv_start {b l : Int} (g : ¬ 1 < G b l) (b2 : 2 ≤ b) (l1 : 0 < l) (lb : l < b) : 1 ≤ l ∧ l ≤ b ∧ b ≤ b ∧ -b ≤ 1 ∧ (1 : Int) ≤ b ∧ Inv b l b l 0 1 := by
  refine ⟨by omega, by omega, by omega, by omega, by omega, ⟨⟨-1, by omega⟩, ⟨0, by omega⟩, ?_, ?_⟩⟩
  · unfold G at g
    have p : 0 < Int.gcd b l := Int.gcd_pos_of_ne_zero_left l (by omega)
    omega
  · simp
theorem fit_bound {w x c b : Int} (h : (w.natAbs : Int) * x + c ≤ b) (x1 : 1 ≤ x) (c0 : 0 ≤ c) : -b ≤ w ∧ w ≤ b := by
  have h1 : (w.natAbs : Int) * 1 ≤ (w.natAbs : Int) * x := Int.mul_le_mul_of_nonneg_left x1 (by omega)
  omega
theorem inv_turn {b l x y u w q r : Int} (I : Inv b l x y u w) (e : x = y * q + r) (r0 : 0 ≤ r) (r1 : r < y) (y1 : 1 < y) (yx : y ≤ x) (xb : x ≤ b) :
    1 ≤ x - q * y ∧ x - q * y ≤ y ∧ y ≤ b ∧ -b ≤ u - q * w ∧ u - q * w ≤ b ∧ Inv b l y (x - q * y) w (u - q * w) := by
  have er : x - q * y = r := by rw [Int.mul_comm q y]; omega
  obtain ⟨q0, qx⟩ := le_mul e r0 (by omega) r1 (by omega)
  have g : Int.gcd y r = 1 := (gcd_step e).symm.trans I.one
  have rne : 1 ≤ r := by
    rcases Int.lt_or_le r 1 with h | h
    · have z : r = 0 := by omega
      rw [z, Int.gcd_zero] at g
      omega
    · exact h
  have fit' : ((u - q * w).natAbs : Int) * y + (w.natAbs : Int) * r ≤ b := by
    have f := I.fit
    have n1 : ((u - q * w).natAbs : Int) ≤ (u.natAbs : Int) + q * (w.natAbs : Int) := by
      have a1 : (q * w).natAbs = q.natAbs * w.natAbs := Int.natAbs_mul q w
      have a2 : ((q.natAbs * w.natAbs : Nat) : Int) = (q.natAbs : Int) * (w.natAbs : Int) := by simp
      have a3 : (q.natAbs : Int) = q := by omega
      rw [a3] at a2
      omega
    have n2 : ((u - q * w).natAbs : Int) * y ≤ ((u.natAbs : Int) + q * (w.natAbs : Int)) * y := Int.mul_le_mul_of_nonneg_right n1 (by omega)
    have n3 : ((u.natAbs : Int) + q * (w.natAbs : Int)) * y = (u.natAbs : Int) * y + (w.natAbs : Int) * (y * q) := by
      rw [Int.add_mul]
      congr 1
      rw [Int.mul_comm q, Int.mul_assoc, Int.mul_comm q y]
    have n4 : (w.natAbs : Int) * x = (w.natAbs : Int) * (y * q) + (w.natAbs : Int) * r := by rw [e, Int.mul_add]
    omega
  have bd := fit_bound fit' (by omega) (Int.mul_nonneg (by omega) (by omega))
  rw [er]
  refine ⟨rne, by omega, by omega, bd.1, bd.2, ⟨I.lo, ?_, g, fit'⟩⟩
  obtain ⟨k1, h1⟩ := I.hi
  obtain ⟨k2, h2⟩ := I.lo
  refine ⟨k1 - q * k2, ?_⟩
  rw [Int.sub_mul, Int.mul_assoc, h1, h2, Int.mul_sub, Int.mul_add, e]
  have e1 : q * (b * k2) = b * (q * k2) := Int.mul_left_comm q b k2
  have e2 : q * y = y * q := Int.mul_comm q y
  omega
theorem inv_less {x y q : Int} {r : Int} (e : x = y * q + r) (r0 : 0 ≤ r) (r1 : r < y) : (x - q * y).toNat < y.toNat := by
  have er : x - q * y = r := by rw [Int.mul_comm q y]; omega
  omega
/-- behind the loop: what the law asks of what is left of w. n the number, l its rest. -/
theorem inv_out {b l x y u w n k r k2 m k3 : Int} (I : Inv b l x y u w) (b2 : 2 ≤ b) (y1 : 1 ≤ y) (y2 : ¬ 1 < y) (en : n = b * k + l) (ew : w = b * k2 + r) (em : r * n = b * k3 + m) (m0 : 0 ≤ m) (m1 : m < b) : m = 1 := by
  obtain ⟨c, h⟩ := I.lo
  have y3 : y = 1 := by omega
  rw [y3] at h
  -- r * n = (w - b k2)(b k + l) = w*l + b * (..)
  have er : r = w - b * k2 := by omega
  have e1 : r * n = 1 + b * (c + w * k - k2 * n) := by
    have a1 : r * n = w * n - b * k2 * n := by rw [er, Int.sub_mul]
    have a2 : w * n = w * (b * k) + w * l := by rw [en, Int.mul_add]
    have a3 : w * (b * k) = b * (w * k) := Int.mul_left_comm w b k
    have a4 : b * k2 * n = b * (k2 * n) := Int.mul_assoc b k2 n
    have a5 : b * (c + w * k - k2 * n) = b * c + b * (w * k) - b * (k2 * n) := by rw [Int.mul_sub, Int.mul_add]
    omega
  have e2 : b * (c + w * k - k2 * n - k3) = m - 1 := by
    rw [Int.mul_sub]
    omega
  rcases (by omega : c + w * k - k2 * n - k3 = 0 ∨ 1 ≤ c + w * k - k2 * n - k3 ∨ c + w * k - k2 * n - k3 ≤ -1) with z | z | z
  · rw [z] at e2
    omega
  · have := Int.mul_le_mul_of_nonneg_left z (by omega : (0 : Int) ≤ b)
    omega
  · have := Int.mul_le_mul_of_nonneg_left z (by omega : (0 : Int) ≤ b)
    omega
theorem out_pos {b l x y u w k2 r : Int} (I : Inv b l x y u w) (b2 : 2 ≤ b) (y1 : 1 ≤ y) (y2 : ¬ 1 < y) (ew : w = b * k2 + r) (r0 : 0 ≤ r) : 0 < r := by
  rcases (by omega : r = 0 ∨ 0 < r) with z | z
  · obtain ⟨c, h⟩ := I.lo
    have y3 : y = 1 := by omega
    rw [y3, ew, z] at h
    have a1 : (b * k2 + 0) * l = b * (k2 * l) := by rw [Int.add_zero, Int.mul_assoc]
    rw [a1] at h
    have a2 : b * (k2 * l - c) = 1 := by rw [Int.mul_sub]; omega
    rcases (by omega : k2 * l - c = 0 ∨ 1 ≤ k2 * l - c ∨ k2 * l - c ≤ -1) with v | v | v
    · rw [v] at a2
      omega
    · have := Int.mul_le_mul_of_nonneg_left v (by omega : (0 : Int) ≤ b)
      omega
    · have := Int.mul_le_mul_of_nonneg_left v (by omega : (0 : Int) ≤ b)
      omega
  · exact z
end K01


namespace RS
open PySem PySem.Spec PyProof.Rows L2 RX Evl
def topS (i : Nat) : Stmt := PySem.Challenge.pw_restrow_k14_refusals_apart.main.body.getD i (.Pass ⟨0, 0, 0, 0⟩)
abbrev sLBases : Stmt := topS 28
theorem scLBases : FnScope ["_law_one", "_law_other", "_law_some", "_law_primes", "_law_ends", "_law_far", "_law_picks", "_law_prime", "_law_k"] ["_law_one", "_law_other"] (defScope sLBases) := ⟨rfl, rfl, rfl, by decide +kernel, rfl, by decide +kernel, by decide +kernel⟩
abbrev sLCellAt : Stmt := topS 27
theorem scLCellAt : FnScope ["_law_script", "_law_k"] ["_law_script", "_law_k"] (defScope sLCellAt) := ⟨rfl, rfl, rfl, by decide +kernel, rfl, by decide +kernel, by decide +kernel⟩
abbrev sIsBase : Stmt := topS 15
theorem scIsBase : FnScope ["number"] ["number"] (defScope sIsBase) := ⟨rfl, rfl, rfl, by decide +kernel, rfl, by decide +kernel, by decide +kernel⟩
abbrev sCommon : Stmt := topS 11
theorem scCommon : FnScope ["one", "other"] ["one", "other"] (defScope sCommon) := ⟨rfl, rfl, rfl, by decide +kernel, rfl, by decide +kernel, by decide +kernel⟩
abbrev sGoesBehind : Stmt := topS 16
theorem scGoesBehind : FnScope ["base", "ahead", "other"] ["base", "ahead"] (defScope sGoesBehind) := ⟨rfl, rfl, rfl, by decide +kernel, rfl, by decide +kernel, by decide +kernel⟩
abbrev sAreBases : Stmt := topS 17
theorem scAreBases : FnScope ["numbers", "place", "number"] ["numbers"] (defScope sAreBases) := ⟨rfl, rfl, rfl, by decide +kernel, rfl, by decide +kernel, by decide +kernel⟩
abbrev sTurned : Stmt := topS 12
theorem scTurned : FnScope ["number", "base", "left", "above", "below", "high", "low", "fits"] ["number", "base"] (defScope sTurned) := ⟨rfl, rfl, rfl, by decide +kernel, rfl, by decide +kernel, by decide +kernel⟩
abbrev sMultiplied : Stmt := topS 14
theorem scMultiplied : FnScope ["numbers", "product", "number"] ["numbers"] (defScope sMultiplied) := ⟨rfl, rfl, rfl, by decide +kernel, rfl, by decide +kernel, by decide +kernel⟩
abbrev sBoardInit : Stmt := inClass (topS 22) 0
theorem scBoardInit : FnScope ["self", "bases", "place", "base"] ["self", "bases"] (defScope sBoardInit) := ⟨rfl, rfl, rfl, by decide +kernel, rfl, by decide +kernel, by decide +kernel⟩
abbrev sIsBelow : Stmt := topS 18
theorem scIsBelow : FnScope ["number", "limit"] ["number", "limit"] (defScope sIsBelow) := ⟨rfl, rfl, rfl, by decide +kernel, rfl, by decide +kernel, by decide +kernel⟩
abbrev sCheckRow : Stmt := topS 19
theorem scCheckRow : FnScope ["bases", "row", "passed", "place", "rest"] ["bases", "row", "passed"] (defScope sCheckRow) := ⟨rfl, rfl, rfl, by decide +kernel, rfl, by decide +kernel, by decide +kernel⟩
abbrev sNumberOf : Stmt := topS 20
theorem scNumberOf : FnScope ["figures", "bases", "number", "span", "figure", "base"] ["figures", "bases"] (defScope sNumberOf) := ⟨rfl, rfl, rfl, by decide +kernel, rfl, by decide +kernel, by decide +kernel⟩
abbrev sBoardFigures : Stmt := inClass (topS 22) 3
theorem scBoardFigures : FnScope ["self", "row", "figures", "number", "span", "rest", "base", "turn", "figure"] ["self", "row"] (defScope sBoardFigures) := ⟨rfl, rfl, rfl, by decide +kernel, rfl, by decide +kernel, by decide +kernel⟩
abbrev sLeastWithout : Stmt := topS 24
theorem scLeastWithout : FnScope ["board", "row", "place", "others"] ["board", "row", "place"] (defScope sLeastWithout) := ⟨rfl, rfl, rfl, by decide +kernel, rfl, by decide +kernel, by decide +kernel⟩
abbrev sBoardRoom : Stmt := inClass (topS 22) 1
theorem scBoardRoom : FnScope ["self"] ["self"] (defScope sBoardRoom) := ⟨rfl, rfl, rfl, by decide +kernel, rfl, by decide +kernel, by decide +kernel⟩
abbrev sBoardRests : Stmt := inClass (topS 22) 2
theorem scBoardRests : FnScope ["self", "number", "base"] ["self", "number"] (defScope sBoardRests) := ⟨rfl, rfl, rfl, by decide +kernel, rfl, by decide +kernel, by decide +kernel⟩
abbrev sRefilled : Stmt := topS 25
theorem scRefilled : FnScope ["board", "row", "place", "known", "number"] ["board", "row", "place"] (defScope sRefilled) := ⟨rfl, rfl, rfl, by decide +kernel, rfl, by decide +kernel, by decide +kernel⟩
abbrev sTold : Stmt := topS 21
theorem scTold : FnScope ["board", "row", "figures"] ["board", "row"] (defScope sTold) := ⟨rfl, rfl, rfl, by decide +kernel, rfl, by decide +kernel, by decide +kernel⟩
abbrev sBoardNumber : Stmt := inClass (topS 22) 5
theorem scBoardNumber : FnScope ["self", "row"] ["self", "row"] (defScope sBoardNumber) := ⟨rfl, rfl, rfl, by decide +kernel, rfl, by decide +kernel, by decide +kernel⟩
abbrev sLAsked : Stmt := topS 29
theorem scLAsked : FnScope ["_law_kind", "_law_bases_here", "_law_row", "_law_wrong", "_law_at", "_law_board"] ["_law_kind", "_law_bases_here", "_law_row", "_law_wrong", "_law_at"] (defScope sLAsked) := ⟨rfl, rfl, rfl, by decide +kernel, rfl, by decide +kernel, by decide +kernel⟩
abbrev sLaw : Stmt := topS 30
theorem scLaw : FnScope ["_law_script", "_law_bases_here", "_law_at", "_law_kind", "_law_number", "_law_row", "_law_wrong", "e", "_law_found", "_law_base", "_law_k"] ["_law_script"] (defScope sLaw) := ⟨rfl, rfl, rfl, by decide +kernel, rfl, by decide +kernel, by decide +kernel⟩
structure Txt (K : PySem.W.Frag) (mg : Str → Option Value) where
  CRestError : Addr
  gRestError : mg "RestError" = some (.ref CRestError)
  kRestError : PySem.W.keepIn K (.ref CRestError) = true
  xRestError : PySem.W.excIn K CRestError [.type "ValueError", .type "Exception", .type "BaseException", .type "object"] "ValueError.__new__" = true
  bRestError : PySem.W.subIn K (.ref CRestError) (.type "BaseException") = some true
  tRestError : PySem.W.typeIn K (.ref CRestError) = some (.type "type")
  hRestError : PySem.W.hasDictIn K CRestError = true
  ecRestError : ExcC K CRestError
  ivRestError : PySem.W.kitOne K (.ref CRestError) (.type "ValueError") = some true
  clRestError : (PySem.W.clsIn K CRestError).isSome = true
  CNoBases : Addr
  gNoBases : mg "NoBases" = some (.ref CNoBases)
  kNoBases : PySem.W.keepIn K (.ref CNoBases) = true
  xNoBases : PySem.W.excIn K CNoBases [.type "ValueError", .type "Exception", .type "BaseException", .type "object"] "ValueError.__new__" = true
  bNoBases : PySem.W.subIn K (.ref CNoBases) (.type "BaseException") = some true
  tNoBases : PySem.W.typeIn K (.ref CNoBases) = some (.type "type")
  hNoBases : PySem.W.hasDictIn K CNoBases = true
  ecNoBases : ExcC K CNoBases
  ivNoBases : PySem.W.kitOne K (.ref CNoBases) (.type "ValueError") = some true
  clNoBases : (PySem.W.clsIn K CNoBases).isSome = true
  CNoRow : Addr
  gNoRow : mg "NoRow" = some (.ref CNoRow)
  kNoRow : PySem.W.keepIn K (.ref CNoRow) = true
  xNoRow : PySem.W.excIn K CNoRow [.type "ValueError", .type "Exception", .type "BaseException", .type "object"] "ValueError.__new__" = true
  bNoRow : PySem.W.subIn K (.ref CNoRow) (.type "BaseException") = some true
  tNoRow : PySem.W.typeIn K (.ref CNoRow) = some (.type "type")
  hNoRow : PySem.W.hasDictIn K CNoRow = true
  ecNoRow : ExcC K CNoRow
  ivNoRow : PySem.W.kitOne K (.ref CNoRow) (.type "ValueError") = some true
  clNoRow : (PySem.W.clsIn K CNoRow).isSome = true
  CNoNumber : Addr
  gNoNumber : mg "NoNumber" = some (.ref CNoNumber)
  kNoNumber : PySem.W.keepIn K (.ref CNoNumber) = true
  xNoNumber : PySem.W.excIn K CNoNumber [.type "ValueError", .type "Exception", .type "BaseException", .type "object"] "ValueError.__new__" = true
  bNoNumber : PySem.W.subIn K (.ref CNoNumber) (.type "BaseException") = some true
  tNoNumber : PySem.W.typeIn K (.ref CNoNumber) = some (.type "type")
  hNoNumber : PySem.W.hasDictIn K CNoNumber = true
  ecNoNumber : ExcC K CNoNumber
  ivNoNumber : PySem.W.kitOne K (.ref CNoNumber) (.type "ValueError") = some true
  clNoNumber : (PySem.W.clsIn K CNoNumber).isSome = true
  CNoPlace : Addr
  gNoPlace : mg "NoPlace" = some (.ref CNoPlace)
  kNoPlace : PySem.W.keepIn K (.ref CNoPlace) = true
  xNoPlace : PySem.W.excIn K CNoPlace [.type "ValueError", .type "Exception", .type "BaseException", .type "object"] "ValueError.__new__" = true
  bNoPlace : PySem.W.subIn K (.ref CNoPlace) (.type "BaseException") = some true
  tNoPlace : PySem.W.typeIn K (.ref CNoPlace) = some (.type "type")
  hNoPlace : PySem.W.hasDictIn K CNoPlace = true
  ecNoPlace : ExcC K CNoPlace
  ivNoPlace : PySem.W.kitOne K (.ref CNoPlace) (.type "ValueError") = some true
  clNoPlace : (PySem.W.clsIn K CNoPlace).isSome = true
  CNoTurn : Addr
  gNoTurn : mg "NoTurn" = some (.ref CNoTurn)
  kNoTurn : PySem.W.keepIn K (.ref CNoTurn) = true
  xNoTurn : PySem.W.excIn K CNoTurn [.type "ValueError", .type "Exception", .type "BaseException", .type "object"] "ValueError.__new__" = true
  bNoTurn : PySem.W.subIn K (.ref CNoTurn) (.type "BaseException") = some true
  tNoTurn : PySem.W.typeIn K (.ref CNoTurn) = some (.type "type")
  hNoTurn : PySem.W.hasDictIn K CNoTurn = true
  ecNoTurn : ExcC K CNoTurn
  ivNoTurn : PySem.W.kitOne K (.ref CNoTurn) (.type "ValueError") = some true
  clNoTurn : (PySem.W.clsIn K CNoTurn).isSome = true
  COutOfRoom : Addr
  gOutOfRoom : mg "OutOfRoom" = some (.ref COutOfRoom)
  kOutOfRoom : PySem.W.keepIn K (.ref COutOfRoom) = true
  xOutOfRoom : PySem.W.excIn K COutOfRoom [.type "ValueError", .type "Exception", .type "BaseException", .type "object"] "ValueError.__new__" = true
  bOutOfRoom : PySem.W.subIn K (.ref COutOfRoom) (.type "BaseException") = some true
  tOutOfRoom : PySem.W.typeIn K (.ref COutOfRoom) = some (.type "type")
  hOutOfRoom : PySem.W.hasDictIn K COutOfRoom = true
  ecOutOfRoom : ExcC K COutOfRoom
  ivOutOfRoom : PySem.W.kitOne K (.ref COutOfRoom) (.type "ValueError") = some true
  clOutOfRoom : (PySem.W.clsIn K COutOfRoom).isSome = true
  CLost : Addr
  gLost : mg "Lost" = some (.ref CLost)
  kLost : PySem.W.keepIn K (.ref CLost) = true
  xLost : PySem.W.excIn K CLost [.type "ValueError", .type "Exception", .type "BaseException", .type "object"] "ValueError.__new__" = true
  bLost : PySem.W.subIn K (.ref CLost) (.type "BaseException") = some true
  tLost : PySem.W.typeIn K (.ref CLost) = some (.type "type")
  hLost : PySem.W.hasDictIn K CLost = true
  ecLost : ExcC K CLost
  ivLost : PySem.W.kitOne K (.ref CLost) (.type "ValueError") = some true
  clLost : (PySem.W.clsIn K CLost).isSome = true
  sRestError_RestError : PySem.W.subIn K (.ref CRestError) (.ref CRestError) = some true
  sRestError_NoBases : PySem.W.subIn K (.ref CRestError) (.ref CNoBases) = some false
  sRestError_NoRow : PySem.W.subIn K (.ref CRestError) (.ref CNoRow) = some false
  sRestError_NoNumber : PySem.W.subIn K (.ref CRestError) (.ref CNoNumber) = some false
  sRestError_NoPlace : PySem.W.subIn K (.ref CRestError) (.ref CNoPlace) = some false
  sRestError_NoTurn : PySem.W.subIn K (.ref CRestError) (.ref CNoTurn) = some false
  sRestError_OutOfRoom : PySem.W.subIn K (.ref CRestError) (.ref COutOfRoom) = some false
  sRestError_Lost : PySem.W.subIn K (.ref CRestError) (.ref CLost) = some false
  sNoBases_RestError : PySem.W.subIn K (.ref CNoBases) (.ref CRestError) = some true
  sNoBases_NoBases : PySem.W.subIn K (.ref CNoBases) (.ref CNoBases) = some true
  sNoBases_NoRow : PySem.W.subIn K (.ref CNoBases) (.ref CNoRow) = some false
  sNoBases_NoNumber : PySem.W.subIn K (.ref CNoBases) (.ref CNoNumber) = some false
  sNoBases_NoPlace : PySem.W.subIn K (.ref CNoBases) (.ref CNoPlace) = some false
  sNoBases_NoTurn : PySem.W.subIn K (.ref CNoBases) (.ref CNoTurn) = some false
  sNoBases_OutOfRoom : PySem.W.subIn K (.ref CNoBases) (.ref COutOfRoom) = some false
  sNoBases_Lost : PySem.W.subIn K (.ref CNoBases) (.ref CLost) = some false
  sNoRow_RestError : PySem.W.subIn K (.ref CNoRow) (.ref CRestError) = some true
  sNoRow_NoBases : PySem.W.subIn K (.ref CNoRow) (.ref CNoBases) = some false
  sNoRow_NoRow : PySem.W.subIn K (.ref CNoRow) (.ref CNoRow) = some true
  sNoRow_NoNumber : PySem.W.subIn K (.ref CNoRow) (.ref CNoNumber) = some false
  sNoRow_NoPlace : PySem.W.subIn K (.ref CNoRow) (.ref CNoPlace) = some false
  sNoRow_NoTurn : PySem.W.subIn K (.ref CNoRow) (.ref CNoTurn) = some false
  sNoRow_OutOfRoom : PySem.W.subIn K (.ref CNoRow) (.ref COutOfRoom) = some false
  sNoRow_Lost : PySem.W.subIn K (.ref CNoRow) (.ref CLost) = some false
  sNoNumber_RestError : PySem.W.subIn K (.ref CNoNumber) (.ref CRestError) = some true
  sNoNumber_NoBases : PySem.W.subIn K (.ref CNoNumber) (.ref CNoBases) = some false
  sNoNumber_NoRow : PySem.W.subIn K (.ref CNoNumber) (.ref CNoRow) = some false
  sNoNumber_NoNumber : PySem.W.subIn K (.ref CNoNumber) (.ref CNoNumber) = some true
  sNoNumber_NoPlace : PySem.W.subIn K (.ref CNoNumber) (.ref CNoPlace) = some false
  sNoNumber_NoTurn : PySem.W.subIn K (.ref CNoNumber) (.ref CNoTurn) = some false
  sNoNumber_OutOfRoom : PySem.W.subIn K (.ref CNoNumber) (.ref COutOfRoom) = some false
  sNoNumber_Lost : PySem.W.subIn K (.ref CNoNumber) (.ref CLost) = some false
  sNoPlace_RestError : PySem.W.subIn K (.ref CNoPlace) (.ref CRestError) = some true
  sNoPlace_NoBases : PySem.W.subIn K (.ref CNoPlace) (.ref CNoBases) = some false
  sNoPlace_NoRow : PySem.W.subIn K (.ref CNoPlace) (.ref CNoRow) = some false
  sNoPlace_NoNumber : PySem.W.subIn K (.ref CNoPlace) (.ref CNoNumber) = some false
  sNoPlace_NoPlace : PySem.W.subIn K (.ref CNoPlace) (.ref CNoPlace) = some true
  sNoPlace_NoTurn : PySem.W.subIn K (.ref CNoPlace) (.ref CNoTurn) = some false
  sNoPlace_OutOfRoom : PySem.W.subIn K (.ref CNoPlace) (.ref COutOfRoom) = some false
  sNoPlace_Lost : PySem.W.subIn K (.ref CNoPlace) (.ref CLost) = some false
  sNoTurn_RestError : PySem.W.subIn K (.ref CNoTurn) (.ref CRestError) = some true
  sNoTurn_NoBases : PySem.W.subIn K (.ref CNoTurn) (.ref CNoBases) = some false
  sNoTurn_NoRow : PySem.W.subIn K (.ref CNoTurn) (.ref CNoRow) = some false
  sNoTurn_NoNumber : PySem.W.subIn K (.ref CNoTurn) (.ref CNoNumber) = some false
  sNoTurn_NoPlace : PySem.W.subIn K (.ref CNoTurn) (.ref CNoPlace) = some false
  sNoTurn_NoTurn : PySem.W.subIn K (.ref CNoTurn) (.ref CNoTurn) = some true
  sNoTurn_OutOfRoom : PySem.W.subIn K (.ref CNoTurn) (.ref COutOfRoom) = some false
  sNoTurn_Lost : PySem.W.subIn K (.ref CNoTurn) (.ref CLost) = some false
  sOutOfRoom_RestError : PySem.W.subIn K (.ref COutOfRoom) (.ref CRestError) = some true
  sOutOfRoom_NoBases : PySem.W.subIn K (.ref COutOfRoom) (.ref CNoBases) = some false
  sOutOfRoom_NoRow : PySem.W.subIn K (.ref COutOfRoom) (.ref CNoRow) = some false
  sOutOfRoom_NoNumber : PySem.W.subIn K (.ref COutOfRoom) (.ref CNoNumber) = some false
  sOutOfRoom_NoPlace : PySem.W.subIn K (.ref COutOfRoom) (.ref CNoPlace) = some false
  sOutOfRoom_NoTurn : PySem.W.subIn K (.ref COutOfRoom) (.ref CNoTurn) = some false
  sOutOfRoom_OutOfRoom : PySem.W.subIn K (.ref COutOfRoom) (.ref COutOfRoom) = some true
  sOutOfRoom_Lost : PySem.W.subIn K (.ref COutOfRoom) (.ref CLost) = some false
  sLost_RestError : PySem.W.subIn K (.ref CLost) (.ref CRestError) = some true
  sLost_NoBases : PySem.W.subIn K (.ref CLost) (.ref CNoBases) = some false
  sLost_NoRow : PySem.W.subIn K (.ref CLost) (.ref CNoRow) = some false
  sLost_NoNumber : PySem.W.subIn K (.ref CLost) (.ref CNoNumber) = some false
  sLost_NoPlace : PySem.W.subIn K (.ref CLost) (.ref CNoPlace) = some false
  sLost_NoTurn : PySem.W.subIn K (.ref CLost) (.ref CNoTurn) = some false
  sLost_OutOfRoom : PySem.W.subIn K (.ref CLost) (.ref COutOfRoom) = some false
  sLost_Lost : PySem.W.subIn K (.ref CLost) (.ref CLost) = some true
  fLBases : Addr
  dLBases : FuncData
  FLBases : Fun K "_law_bases" "_law_bases" sLBases fLBases dLBases
  kLBases : PySem.W.keepIn K (.ref fLBases) = true
  bLBases : Binds K dLBases ["_law_one", "_law_other"] []
  gLBases : mg "_law_bases" = some (.ref fLBases)
  fLCellAt : Addr
  dLCellAt : FuncData
  FLCellAt : Fun K "_law_cell_at" "_law_cell_at" sLCellAt fLCellAt dLCellAt
  kLCellAt : PySem.W.keepIn K (.ref fLCellAt) = true
  bLCellAt : Binds K dLCellAt ["_law_script", "_law_k"] []
  gLCellAt : mg "_law_cell_at" = some (.ref fLCellAt)
  fIsBase : Addr
  dIsBase : FuncData
  FIsBase : Fun K "is_base" "is_base" sIsBase fIsBase dIsBase
  kIsBase : PySem.W.keepIn K (.ref fIsBase) = true
  bIsBase : Binds K dIsBase ["number"] []
  gIsBase : mg "is_base" = some (.ref fIsBase)
  fCommon : Addr
  dCommon : FuncData
  FCommon : Fun K "common" "common" sCommon fCommon dCommon
  kCommon : PySem.W.keepIn K (.ref fCommon) = true
  bCommon : Binds K dCommon ["one", "other"] []
  gCommon : mg "common" = some (.ref fCommon)
  fGoesBehind : Addr
  dGoesBehind : FuncData
  FGoesBehind : Fun K "goes_behind" "goes_behind" sGoesBehind fGoesBehind dGoesBehind
  kGoesBehind : PySem.W.keepIn K (.ref fGoesBehind) = true
  bGoesBehind : Binds K dGoesBehind ["base", "ahead"] []
  gGoesBehind : mg "goes_behind" = some (.ref fGoesBehind)
  fAreBases : Addr
  dAreBases : FuncData
  FAreBases : Fun K "are_bases" "are_bases" sAreBases fAreBases dAreBases
  kAreBases : PySem.W.keepIn K (.ref fAreBases) = true
  bAreBases : Binds K dAreBases ["numbers"] []
  gAreBases : mg "are_bases" = some (.ref fAreBases)
  fTurned : Addr
  dTurned : FuncData
  FTurned : Fun K "turned" "turned" sTurned fTurned dTurned
  kTurned : PySem.W.keepIn K (.ref fTurned) = true
  bTurned : Binds K dTurned ["number", "base"] []
  gTurned : mg "turned" = some (.ref fTurned)
  fMultiplied : Addr
  dMultiplied : FuncData
  FMultiplied : Fun K "multiplied" "multiplied" sMultiplied fMultiplied dMultiplied
  kMultiplied : PySem.W.keepIn K (.ref fMultiplied) = true
  bMultiplied : Binds K dMultiplied ["numbers"] []
  gMultiplied : mg "multiplied" = some (.ref fMultiplied)
  fBoardInit : Addr
  dBoardInit : FuncData
  FBoardInit : Fun K "__init__" "Board.__init__" sBoardInit fBoardInit dBoardInit
  kBoardInit : PySem.W.keepIn K (.ref fBoardInit) = true
  bBoardInit : Binds K dBoardInit ["self", "bases"] []
  fIsBelow : Addr
  dIsBelow : FuncData
  FIsBelow : Fun K "is_below" "is_below" sIsBelow fIsBelow dIsBelow
  kIsBelow : PySem.W.keepIn K (.ref fIsBelow) = true
  bIsBelow : Binds K dIsBelow ["number", "limit"] []
  gIsBelow : mg "is_below" = some (.ref fIsBelow)
  fCheckRow : Addr
  dCheckRow : FuncData
  FCheckRow : FunD K "check_row" "check_row" (defArgs sCheckRow) (defBody sCheckRow) (defScope sCheckRow) [.non] [] fCheckRow dCheckRow
  bdCheckRow : Binds K dCheckRow ["bases", "row", "passed"] [.none]
  kCheckRow : PySem.W.keepIn K (.ref fCheckRow) = true
  bCheckRow : Binds K dCheckRow ["bases", "row", "passed"] []
  gCheckRow : mg "check_row" = some (.ref fCheckRow)
  fNumberOf : Addr
  dNumberOf : FuncData
  FNumberOf : Fun K "number_of" "number_of" sNumberOf fNumberOf dNumberOf
  kNumberOf : PySem.W.keepIn K (.ref fNumberOf) = true
  bNumberOf : Binds K dNumberOf ["figures", "bases"] []
  gNumberOf : mg "number_of" = some (.ref fNumberOf)
  fBoardFigures : Addr
  dBoardFigures : FuncData
  FBoardFigures : Fun K "figures" "Board.figures" sBoardFigures fBoardFigures dBoardFigures
  kBoardFigures : PySem.W.keepIn K (.ref fBoardFigures) = true
  bBoardFigures : Binds K dBoardFigures ["self", "row"] []
  fLeastWithout : Addr
  dLeastWithout : FuncData
  FLeastWithout : Fun K "least_without" "least_without" sLeastWithout fLeastWithout dLeastWithout
  kLeastWithout : PySem.W.keepIn K (.ref fLeastWithout) = true
  bLeastWithout : Binds K dLeastWithout ["board", "row", "place"] []
  gLeastWithout : mg "least_without" = some (.ref fLeastWithout)
  fBoardRoom : Addr
  dBoardRoom : FuncData
  FBoardRoom : Fun K "room" "Board.room" sBoardRoom fBoardRoom dBoardRoom
  kBoardRoom : PySem.W.keepIn K (.ref fBoardRoom) = true
  bBoardRoom : Binds K dBoardRoom ["self"] []
  fBoardRests : Addr
  dBoardRests : FuncData
  FBoardRests : Fun K "rests" "Board.rests" sBoardRests fBoardRests dBoardRests
  kBoardRests : PySem.W.keepIn K (.ref fBoardRests) = true
  bBoardRests : Binds K dBoardRests ["self", "number"] []
  fRefilled : Addr
  dRefilled : FuncData
  FRefilled : Fun K "refilled" "refilled" sRefilled fRefilled dRefilled
  kRefilled : PySem.W.keepIn K (.ref fRefilled) = true
  bRefilled : Binds K dRefilled ["board", "row", "place"] []
  gRefilled : mg "refilled" = some (.ref fRefilled)
  fTold : Addr
  dTold : FuncData
  FTold : Fun K "told" "told" sTold fTold dTold
  kTold : PySem.W.keepIn K (.ref fTold) = true
  bTold : Binds K dTold ["board", "row"] []
  gTold : mg "told" = some (.ref fTold)
  fBoardNumber : Addr
  dBoardNumber : FuncData
  FBoardNumber : Fun K "number" "Board.number" sBoardNumber fBoardNumber dBoardNumber
  kBoardNumber : PySem.W.keepIn K (.ref fBoardNumber) = true
  bBoardNumber : Binds K dBoardNumber ["self", "row"] []
  fLAsked : Addr
  dLAsked : FuncData
  FLAsked : Fun K "_law_asked" "_law_asked" sLAsked fLAsked dLAsked
  kLAsked : PySem.W.keepIn K (.ref fLAsked) = true
  bLAsked : Binds K dLAsked ["_law_kind", "_law_bases_here", "_law_row", "_law_wrong", "_law_at"] []
  gLAsked : mg "_law_asked" = some (.ref fLAsked)
  fLaw : Addr
  dLaw : FuncData
  FLaw : Fun K "law" "law" sLaw fLaw dLaw
  kLaw : PySem.W.keepIn K (.ref fLaw) = true
  bLaw : Binds K dLaw ["_law_script"] []
  gLaw : mg "law" = some (.ref fLaw)
  CBoard : Addr
  gBoard : mg "Board" = some (.ref CBoard)
  cBoard : Cls K CBoard
  mkBoard : Mk K CBoard fBoardInit
  mBoardFigures : Meth K CBoard "figures" fBoardFigures
  mBoardRoom : Meth K CBoard "room" fBoardRoom
  mBoardRests : Meth K CBoard "rests" fBoardRests
  mBoardNumber : Meth K CBoard "number" fBoardNumber
  nBoard_bases : NoAttr K CBoard "bases"
  nBoard__turns : NoAttr K CBoard "_turns"
  z_ValueError : mg "ValueError" = none
  z_abs : mg "abs" = none
  z_enumerate : mg "enumerate" = none
  z_int : mg "int" = none
  z_isinstance : mg "isinstance" = none
  z_len : mg "len" = none
  z_list : mg "list" = none
  z_range : mg "range" = none
  z_sorted : mg "sorted" = none
  z_zip : mg "zip" = none
def spNo (n : Nat) : Sp := fun vs _ _ _ => vs.length = n ∧ False
def spCell (K : PySem.W.Frag) : Sp := fun vs H Q _ => ∃ (a : Addr) (ns : List Int) (k : Nat), vs = [.ref a, .int (k : Int)] ∧ SqL K H a (ns.map V.int) ∧ RetV (.int (ns.getD k 0)) H Q
def spBases : Sp := fun vs H Q _ => ∃ one other : Int, vs = [.int one, .int other] ∧ RetL ((RM.basesOf one other).map V.int) H Q
def spRow (K : PySem.W.Frag) : Sp := fun vs H Q _ => ∃ (p q : Addr) (xs : List Int), vs = [.ref p, .ref q] ∧ H p = some (.lst (xs.map V.int)) ∧ SqL K H q (xs.map V.int) ∧ RetV (.bl true) H Q
def spRoom (K : PySem.W.Frag) : Sp := fun vs H Q _ => ∃ (p : Addr) (bs : List Int), vs = [.ref p] ∧ SqL K H p (bs.map V.int) ∧ RM.Good bs ∧ RetV (.int (RM.roomOf bs)) H Q
def numOf (cell way room : Int) : Int := if way % 4 = 1 then [0, 1, room - 1, room - 2, room / 2, room / 2 + 1, (if room - 1 < 2 then room - 1 else 2), room / 3].getD (way / 4 % 8).toNat 0 else cell * 1000000007 % room
theorem numOf_in (cell way : Int) {room : Int} (h : 3 ≤ room) : 0 ≤ numOf cell way room ∧ numOf cell way room < room := by
  unfold numOf
  split
  · have m : way / 4 % 8 = 0 ∨ way / 4 % 8 = 1 ∨ way / 4 % 8 = 2 ∨ way / 4 % 8 = 3 ∨ way / 4 % 8 = 4 ∨ way / 4 % 8 = 5 ∨ way / 4 % 8 = 6 ∨ way / 4 % 8 = 7 := by omega
    rcases m with m | m | m | m | m | m | m | m <;> rw [m]
    · exact ⟨Int.le_refl 0, by show (0 : Int) < room; omega⟩
    · exact ⟨by show (0 : Int) ≤ 1; decide, by show (1 : Int) < room; omega⟩
    · exact ⟨by show 0 ≤ room - 1; omega, by show room - 1 < room; omega⟩
    · exact ⟨by show 0 ≤ room - 2; omega, by show room - 2 < room; omega⟩
    · exact ⟨by show 0 ≤ room / 2; omega, by show room / 2 < room; omega⟩
    · exact ⟨by show 0 ≤ room / 2 + 1; omega, by show room / 2 + 1 < room; omega⟩
    · exact ⟨by show 0 ≤ (if room - 1 < 2 then room - 1 else 2); split <;> omega, by show (if room - 1 < 2 then room - 1 else 2) < room; split <;> omega⟩
    · exact ⟨by show 0 ≤ room / 3; omega, by show room / 3 < room; omega⟩
  · exact ⟨Int.emod_nonneg _ (by omega), Int.emod_lt_of_pos _ (by omega)⟩
def spNumber : Sp := fun vs H Q _ => ∃ cell way room : Int, vs = [.int cell, .int way, .int room] ∧ 3 ≤ room ∧ RetV (.int (numOf cell way room)) H Q
theorem cell_sp {K : PySem.W.Frag} {H : Hp} {a : Addr} {ns : List Int} (hS : SqL K H a (ns.map V.int)) (k : Nat) : SpV (spCell K) [.ref a, .int (k : Int)] H (.int (ns.getD k 0)) := fun H1 e Q q E => ⟨a, ns, k, rfl, ex_l e hS, q⟩
theorem p60 : (10 : Int) ^ Int.toNat 60 = 1000000000000000000000000000000000000000000000000000000000000 := by decide +kernel
theorem rc_isiI {K : PySem.W.Frag} {i : Int} {H : Hp} {n : String} {b : Bool} (h : kitB "int" n = some b) : RC (rIsi K) [.int i, .ty n] H (.bl b) := fun H1 _ Q q =>
  ⟨.int i, .ty n, .type "int", .type n, b, rfl, .ty n, .base (.int i), kit_ty h, q H1 (Ex.refl H1)⟩
theorem rc_isiL {K : PySem.W.Frag} {p : Addr} {xs : List V} {H : Hp} {n : String} {b : Bool} (hp : H p = some (.lst xs)) (h : kitB "list" n = some b) : RC (rIsi K) [.ref p, .ty n] H (.bl b) := fun H1 e Q q =>
  ⟨.ref p, .ty n, .type "list", .type n, b, rfl, .ty n, .base (.lst (e p _ hp)), kit_ty h, q H1 (Ex.refl H1)⟩
theorem rc_min {i j : Int} {H : Hp} : RC (fun xs H Q => ∃ i j, xs = [.int i, .int j] ∧ Q (.int (if j < i then j else i)) H) [.int i, .int j] H (.int (if j < i then j else i)) := fun H1 _ Q q => ⟨i, j, rfl, q H1 (Ex.refl H1)⟩
theorem dp_ints {K : PySem.W.Frag} {H : Hp} : ∀ (ns : List Int), DpAll K H (ns.map V.int) (ns.map PyData.int)
  | [] => .nil
  | i :: r => .cons (.int i) (dp_ints r)
theorem canAll_ints : ∀ (ns : List Int), PyData.canLayAll0 (ns.map PyData.int) = true
  | [] => rfl
  | _ :: r => canAll_ints r
theorem depthAll_ints : ∀ (ns : List Int), PyData.depthAll (ns.map PyData.int) = 0
  | [] => rfl
  | i :: r => by
    show max (PyData.depth (.int i)) (PyData.depthAll (r.map PyData.int)) = 0
    rw [depthAll_ints r]
    rfl
theorem shaped_ints (ns : List Int) : SeqAt.shaped (.list (ns.map PyData.int)) = true := by
  unfold SeqAt.shaped
  have h1 : PyData.canLay0 (.list (ns.map PyData.int)) = true := canAll_ints ns
  have h2 : PyData.depth (.list (ns.map PyData.int)) = 1 := by
    show PyData.depthAll (ns.map PyData.int) + 1 = 1
    rw [depthAll_ints]
  rw [h1, h2]
  rfl
theorem eqvAll_ints : ∀ (ns ms : List Int), PyData.eqvAll (ns.map PyData.int) (ms.map PyData.int) = decide (ns = ms)
  | [], [] => rfl
  | [], _ :: _ => rfl
  | _ :: _, [] => rfl
  | i :: r, j :: q => by
    show (PyData.eqv (.int i) (.int j) && PyData.eqvAll (r.map PyData.int) (q.map PyData.int)) = _
    rw [eqv_int, eqvAll_ints r q]
    by_cases h : i = j
    · subst h
      simp
    · simp [h]
theorem eqv_ints0 (ns ms : List Int) : PyData.eqv (.list (ns.map PyData.int)) (.list (ms.map PyData.int)) = decide (ns = ms) := eqvAll_ints ns ms
/-- == of two lists of ints -/
theorem rv_eqL {K : PySem.W.Frag} {H : Hp} {p q : Addr} {ns ms : List Int} (hp : SqL K H p (ns.map V.int)) (hq : SqL K H q (ms.map V.int)) : RV (rEqD K) (.ref p) (.ref q) H (.bl (decide (ns = ms))) := by
  rw [← eqv_ints0]
  exact rv_eqD (fun H1 e => ⟨.lst (ex_l e hp) (dp_ints ns), .lst (ex_l e hq) (dp_ints ms)⟩) (shaped_ints ns) (shaped_ints ms)
theorem rv_neL {K : PySem.W.Frag} {H : Hp} {p q : Addr} {ns ms : List Int} (hp : SqL K H p (ns.map V.int)) (hq : SqL K H q (ms.map V.int)) : RV (rNeD K) (.ref p) (.ref q) H (.bl (!decide (ns = ms))) := by
  rw [← eqv_ints0]
  exact rv_neD (fun H1 e => ⟨.lst (ex_l e hp) (dp_ints ns), .lst (ex_l e hq) (dp_ints ms)⟩) (shaped_ints ns) (shaped_ints ms)
/-- an item of a list of ints -/
theorem int_item {ns : List Int} {i : Nat} {x : V} (h : (ns.map V.int)[i]? = some x) : ∃ z, ns[i]? = some z ∧ x = V.int z := by
  rw [List.getElem?_map] at h
  cases hc : ns[i]? with
  | none => rw [hc] at h; cases h
  | some z => rw [hc] at h; exact ⟨z, rfl, (Option.some.inj h).symm⟩
theorem big_of {z : Int} (h0 : 0 ≤ z) (h : z ≤ 2 ^ 280) : z.natAbs < 2 ^ 300 := by
  have e : (2 : Int) ^ 280 = ((2 ^ 280 : Nat) : Int) := by simp
  have l : (2 : Nat) ^ 280 < 2 ^ 300 := by decide +kernel
  rw [e] at h
  omega
def spCommon : Sp := fun vs H Q _ => ∃ a b : Int, vs = [.int a, .int b] ∧ 0 ≤ a ∧ 0 ≤ b ∧ RetV (.int (K01.G a b)) H Q
def spTurned (C : Addr) : Sp := fun vs H Q E => ∃ n b : Int, vs = [.int n, .int b] ∧ 0 ≤ n ∧ 2 ≤ b ∧ b.natAbs < 2 ^ 240 ∧ (1 < K01.G n b → ∀ H2, Ex H H2 → E (.ref C) none H2) ∧
  (¬ 1 < K01.G n b → ∀ r : Int, 0 < r → r < b → (r * n) % b = 1 → RetV (.int r) H Q)
/-! The promises of the program's own defs, in numbers. -/
def spInit (K : PySem.W.Frag) (C CE : Addr) : Sp := fun vs H Q E => ∃ (x dx a : Addr) (bs : List Int), vs = [.ref x, .ref a] ∧ H x = some (.ins C dx []) ∧ H dx = some (.own x) ∧ SqL K H a (bs.map V.int) ∧ bs.length ≤ 1000 ∧
  (RM.Good bs → ∀ os H2, (∀ o ∈ os, H o = none) → (∀ c o, c ≠ x → H c = some o → H2 c = some o) → IsB C H2 x os bs → Q .non H2) ∧
  (¬ RM.Good bs → ∀ H2, (∀ c o, c ≠ x → H c = some o → H2 c = some o) → E (.ref CE) none H2)
def spRoomM (C : Addr) : Sp := fun vs H Q _ => ∃ (b : Addr) (os : List Addr) (bs : List Int), vs = [.ref b] ∧ IsB C H b os bs ∧ RM.Good bs ∧ RetV (.int (RM.roomOf bs)) H Q
def spRests (C CE : Addr) : Sp := fun vs H Q E => ∃ (b : Addr) (os : List Addr) (bs : List Int) (n : Int), vs = [.ref b, .int n] ∧ IsB C H b os bs ∧ RM.Good bs ∧
  (0 ≤ n → n < RM.roomOf bs → RetL ((RM.restsOf bs n).map V.int) H Q) ∧ (¬ (0 ≤ n ∧ n < RM.roomOf bs) → RetE CE H E)
/-- what is asked of one row over a board -/
def Told (bs xs : List Int) (n : Int) : Prop := 0 ≤ n ∧ n < RM.prod bs ∧ RM.restsOf bs n = xs
def spFigures (K : PySem.W.Frag) (C CR : Addr) : Sp := fun vs H Q E => ∃ (b p : Addr) (os : List Addr) (bs xs : List Int), vs = [.ref b, .ref p] ∧ IsB C H b os bs ∧ RM.Good bs ∧ SqL K H p (xs.map V.int) ∧
  ((∃ n, Told bs xs n ∧ RetL ((RM.figsOf bs n).map V.int) H Q) ∨ (¬ RM.IsRow bs xs ∧ RetE CR H E))
def spTells (K : PySem.W.Frag) (C CR : Addr) : Sp := fun vs H Q E => ∃ (b p : Addr) (os : List Addr) (bs xs : List Int), vs = [.ref b, .ref p] ∧ IsB C H b os bs ∧ RM.Good bs ∧ SqL K H p (xs.map V.int) ∧
  ((∃ n, Told bs xs n ∧ RetV (.bl (decide (n < RM.roomOf bs))) H Q) ∨ (¬ RM.IsRow bs xs ∧ RetE CR H E))
def spNumberM (K : PySem.W.Frag) (C CR CN : Addr) : Sp := fun vs H Q E => ∃ (b p : Addr) (os : List Addr) (bs xs : List Int), vs = [.ref b, .ref p] ∧ IsB C H b os bs ∧ RM.Good bs ∧ SqL K H p (xs.map V.int) ∧
  ((∃ n, Told bs xs n ∧ (n < RM.roomOf bs → RetV (.int n) H Q) ∧ (RM.roomOf bs ≤ n → RetE CN H E)) ∨ (¬ RM.IsRow bs xs ∧ RetE CR H E))
theorem told_of {bs : List Int} (G : RM.Good bs) {n : Int} (h0 : 0 ≤ n) (h1 : n < RM.roomOf bs) : Told bs (RM.restsOf bs n) n := ⟨h0, Int.lt_of_lt_of_le h1 G.room_le, rfl⟩
section
variable {K : PySem.W.Frag} {σ : L2.St} {H H' : Hp} {ta te : TE} {t : TA} {C CE CR CN b a p : Addr} {os : List Addr} {bs xs : List Int} {sp : Sp} {E : L2.St → XK} {vs : List V} {z : V} {ys : List V} {m : Str} {cls : Value} {n : Int}
theorem ev_methB (isb : IsB C H b os bs) (ha : Ev ta σ H (.ref b)) (h : EvA t σ H vs) (hs : SpV sp (.ref b :: vs) H z) (hm : m ∈ meths := by decide +kernel) : Ev (tMethX C m sp E ta t) σ H z := by
  obtain ⟨dx, fs, l, h1, h2, h3, h4, h5⟩ := isb.at_
  exact ev_methX ha h1 (h5 m hm) h hs
theorem el_methB (isb : IsB C H b os bs) (ha : Ev ta σ H (.ref b)) (h : EvA t σ H vs) (hs : SpL sp (.ref b :: vs) H ys) (hm : m ∈ meths := by decide +kernel) : EvL (tMethX C m sp E ta t) σ H ys := by
  obtain ⟨dx, fs, l, h1, h2, h3, h4, h5⟩ := isb.at_
  exact el_methX ha h1 (h5 m hm) h hs
theorem evx_methB (isb : IsB C H b os bs) (ha : Ev ta σ H (.ref b)) (h : EvA t σ H vs) (hs : SpR sp (.ref b :: vs) H cls) (w : ∀ H2, Ex H H2 → E σ cls none H2) (hm : m ∈ meths := by decide +kernel) : EvX (tMethX C m sp E ta t) σ H := by
  obtain ⟨dx, fs, l, h1, h2, h3, h4, h5⟩ := isb.at_
  exact evx_methX ha h1 (h5 m hm) h hs w
/-- Board(a) of good bases -/
theorem evb_make (h : EvA t σ H [.ref a]) (hx : SqL K H a (bs.map V.int)) (hl : bs.length ≤ 1000) (G : RM.Good bs) : EvB C (tMakeX C (spInit K C CE) E t) σ H bs := fun H1 e Q q =>
  h H1 e _ fun H2 e2 x dx nx ndx ne => by
    have e3 : Ex H2 (upd (upd H2 dx (.own x)) x (.ins C dx [])) := fun c o hc => by
      rw [upd_ne (ne_of_none hc nx), upd_ne (ne_of_none hc ndx)]
      exact hc
    refine ⟨x, dx, a, bs, rfl, upd_same, ?_, ex_l ((e.trans e2).trans e3) hx, hl, fun _ os H3 hos hk isb => ⟨rfl, q x os H3 (fresh_back e2 nx) (fun o ho => fresh_back (e2.trans e3) (hos o ho)) (fun c o hc => ?_) isb⟩, fun ng => absurd G ng⟩
    · rw [upd_ne ne]
      exact upd_same
    · exact hk c o (ne_of_none (e2 c o hc) nx) ((e2.trans e3) c o hc)
theorem room_sp (isb : IsB C H b os bs) (G : RM.Good bs) : SpV (spRoomM C) [.ref b] H (.int (RM.roomOf bs)) := fun H1 e Q q E => ⟨b, os, bs, rfl, isb.mono e, G, q⟩
theorem rests_sp (isb : IsB C H b os bs) (G : RM.Good bs) (h0 : 0 ≤ n) (h1 : n < RM.roomOf bs) : SpL (spRests C CE) [.ref b, .int n] H ((RM.restsOf bs n).map V.int) := fun H1 e Q q E => ⟨b, os, bs, n, rfl, isb.mono e, G, fun _ _ => q, fun ng => absurd ⟨h0, h1⟩ ng⟩
theorem rests_no (isb : IsB C H b os bs) (G : RM.Good bs) (h : ¬ (0 ≤ n ∧ n < RM.roomOf bs)) : SpR (spRests C CE) [.ref b, .int n] H (.ref CE) := fun H1 e Q E w => ⟨b, os, bs, n, rfl, isb.mono e, G, fun h0 h1 => absurd ⟨h0, h1⟩ h, fun _ => w⟩
theorem tells_sp (isb : IsB C H b os bs) (G : RM.Good bs) (hx : SqL K H p (xs.map V.int)) (h : Told bs xs n) : SpV (spTells K C CR) [.ref b, .ref p] H (.bl (decide (n < RM.roomOf bs))) := fun H1 e Q q E => ⟨b, p, os, bs, xs, rfl, isb.mono e, G, ex_l e hx, .inl ⟨n, h, q⟩⟩
theorem number_sp (isb : IsB C H b os bs) (G : RM.Good bs) (hx : SqL K H p (xs.map V.int)) (h : Told bs xs n) (h1 : n < RM.roomOf bs) : SpV (spNumberM K C CR CN) [.ref b, .ref p] H (.int n) := fun H1 e Q q E => ⟨b, p, os, bs, xs, rfl, isb.mono e, G, ex_l e hx, .inl ⟨n, h, fun _ => q, fun ng => absurd h1 (by omega)⟩⟩
theorem number_no (isb : IsB C H b os bs) (G : RM.Good bs) (hx : SqL K H p (xs.map V.int)) (h : Told bs xs n) (h1 : RM.roomOf bs ≤ n) : SpR (spNumberM K C CR CN) [.ref b, .ref p] H (.ref CN) := fun H1 e Q E w => ⟨b, p, os, bs, xs, rfl, isb.mono e, G, ex_l e hx, .inl ⟨n, h, fun ng => absurd h1 (by omega), fun _ => w⟩⟩
theorem bases_sp (one other : Int) : SpL spBases [.int one, .int other] H ((RM.basesOf one other).map V.int) := fun H1 _ Q q E => ⟨one, other, rfl, q⟩
theorem lroom_sp (hx : SqL K H p (bs.map V.int)) (G : RM.Good bs) : SpV (spRoom K) [.ref p] H (.int (RM.roomOf bs)) := fun H1 e Q q E => ⟨p, bs, rfl, ex_l e hx, G, q⟩
theorem lrow_sp (hp : H p = some (.lst (xs.map V.int))) (hq : SqL K H a (xs.map V.int)) : SpV (spRow K) [.ref p, .ref a] H (.bl true) := fun H1 e Q q E => ⟨p, a, xs, rfl, e p _ hp, ex_l e hq, q⟩
theorem lnum_sp {cell way room : Int} (h : 3 ≤ room) : SpV spNumber [.int cell, .int way, .int room] H (.int (numOf cell way room)) := fun H1 _ Q q E => ⟨cell, way, room, rfl, h, q⟩
/-- [n % base for base in bases] -/
theorem rests_get {i : Nat} (h : i < bs.length) : (RM.restsOf bs n).getD i 0 = n % bs.getD i 0 := RM.rests_get h
theorem good_at (G : RM.Good bs) {i : Nat} (h : i < bs.length) : 3 ≤ bs.getD i 0 ∧ bs.getD i 0 ≤ 999999 := by
  have q := G.each (bs.getD i 0) (by
    rw [List.getD_eq_getElem?_getD, List.getElem?_eq_getElem h]
    exact List.getElem_mem h)
  omega
theorem ev_rowL {d : Addr} {tb : TE} (hd : H d = some (.lst (xs.map V.int))) (hL : EvL te σ H (xs.map V.int)) (hb : Ev tb σ H (.ref d)) : Ev (tCallS (spRow K) E (tCons te (tCons tb tNil))) σ H (.bl true) := fun H1 e Q q =>
  hL H1 e _ fun p H2 _ e2 hp => hb H2 (e.trans e2) _ fun H3 e3 => ⟨p, d, xs, rfl, e3 p _ hp, sq_of (((e.trans e2).trans e3) d _ hd), fun H4 e4 => q H4 ((e2.trans e3).trans e4)⟩
end

/-! The promises of the program's helpers. -/
theorem p64 {x : Int} (h : 3 ≤ x ∧ x ≤ 999999) : -(2 ^ 64) < x ∧ x < 2 ^ 64 := by omega
def spMult (K : PySem.W.Frag) : Sp := fun vs H Q _ => ∃ (a : Addr) (ns : List Int), vs = [.ref a] ∧ SqL K H a (ns.map V.int) ∧ (∀ x ∈ ns, -(2 ^ 64) < x ∧ x < 2 ^ 64) ∧ RetV (.int (RM.prod ns)) H Q
def isBaseB (i : Int) : Bool := decide (3 ≤ i) && decide (i ≤ 999999) && decide (i % 2 = 1)
def spIsBase : Sp := fun vs H Q _ => ∃ i : Int, vs = [.int i] ∧ RetV (.bl (isBaseB i)) H Q
def behindB (b x : Int) : Bool := decide (x < b) && decide (K01.G x b ≤ 1)
def spGoes (K : PySem.W.Frag) : Sp := fun vs H Q _ => ∃ (b : Int) (a : Addr) (ns : List Int), vs = [.int b, .ref a] ∧ SqL K H a (ns.map V.int) ∧ 0 ≤ b ∧ (∀ x ∈ ns, 0 ≤ x) ∧ RetV (.bl (ns.all (behindB b))) H Q
theorem ev_goes {K : PySem.W.Frag} {σ : L2.St} {H : Hp} {tb te : TE} {E : L2.St → XK} {b : Int} {ns : List Int} (hb : Ev tb σ H (.int b)) (h : EvL te σ H (ns.map V.int)) (b0 : 0 ≤ b) (ns0 : ∀ x ∈ ns, 0 ≤ x) : Ev (tCallS (spGoes K) E (tCons tb (tCons te tNil))) σ H (.bl (ns.all (behindB b))) := fun H1 e Q q =>
  hb H1 e _ fun H2 e2 => h H2 (e.trans e2) _ fun p H3 _ e3 g => ⟨b, p, ns, rfl, sq_of g, b0, ns0, fun H4 e4 => q H4 ((e2.trans e3).trans e4)⟩
theorem ev_mult {K : PySem.W.Frag} {σ : L2.St} {H : Hp} {te : TE} {E : L2.St → XK} {ns : List Int} (h : EvL te σ H (ns.map V.int)) (small : ∀ x ∈ ns, -(2 ^ 64) < x ∧ x < 2 ^ 64) : Ev (tCallS (spMult K) E (tCons te tNil)) σ H (.int (RM.prod ns)) := fun H1 e Q q =>
  h H1 e _ fun p H2 _ e2 g => ⟨p, ns, rfl, sq_of g, small, fun H3 e3 => q H3 (e2.trans e3)⟩
def spAre (K : PySem.W.Frag) : Sp := fun vs H Q _ => ∃ (a : Addr) (ns : List Int), vs = [.ref a] ∧ SqL K H a (ns.map V.int) ∧ (RM.Good ns → RetV (.bl true) H Q) ∧ (¬ RM.Good ns → RetV (.bl false) H Q)
def spBelow : Sp := fun vs H Q _ => ∃ (v : V) (l : Int), vs = [v, .int l] ∧ ((∃ i : Int, v = .int i ∧ RetV (.bl (decide (0 ≤ i) && decide (i < l))) H Q) ∨ (v = .non ∧ RetV (.bl false) H Q))
def RowBut (bs : List Int) (ws : List V) (d : V) : Prop := ∀ k, k < bs.length → d ≠ .int (k : Int) → ∃ x, ws[k]? = some (.int x) ∧ 0 ≤ x ∧ x < bs.getD k 0
def spCheck (K : PySem.W.Frag) (CR : Addr) : Sp := fun vs H Q E => ∃ (q p : Addr) (d : V) (bs : List Int) (ws : List V), vs = [.ref q, .ref p, d] ∧ (d = .non ∨ ∃ i, d = .int i) ∧ SqL K H q (bs.map V.int) ∧ SqL K H p ws ∧ bs.length ≤ 14 ∧ (∀ x ∈ bs, 3 ≤ x ∧ x ≤ 999999) ∧
  ((ws.length ≠ bs.length ∧ RetE CR H E) ∨ (ws.length = bs.length ∧ Flat ws ∧ ((RowBut bs ws d ∧ RetV .non H Q) ∨ (¬ RowBut bs ws d ∧ RetE CR H E))))
def spValue (K : PySem.W.Frag) : Sp := fun vs H Q _ => ∃ (p q : Addr) (fs bs : List Int), vs = [.ref p, .ref q] ∧ SqL K H p (fs.map V.int) ∧ SqL K H q (bs.map V.int) ∧ RM.Good bs ∧ RM.IsRow bs fs ∧ RetV (.int (RM.valOf bs fs)) H Q
/-- as figures, but that what tells no number is refused -/
def spToldD (K : PySem.W.Frag) (C CR CN : Addr) : Sp := fun vs H Q E => ∃ (b p : Addr) (os : List Addr) (bs xs : List Int), vs = [.ref b, .ref p] ∧ IsB C H b os bs ∧ RM.Good bs ∧ SqL K H p (xs.map V.int) ∧
  ((∃ n, Told bs xs n ∧ (n < RM.roomOf bs → RetL ((RM.figsOf bs n).map V.int) H Q) ∧ (RM.roomOf bs ≤ n → RetE CN H E)) ∨ (¬ RM.IsRow bs xs ∧ RetE CR H E))
section
variable {K : PySem.W.Frag} {σ : L2.St} {H H' : Hp} {ta te tb : TE} {C CR CN b p q : Addr} {os : List Addr} {bs xs fs : List Int} {n m : Int} {E : L2.St → XK}
theorem fld_bases (isb : IsB C H b os bs) (c : Cls K C) (no : NoAttr K C "bases") : ∃ l, l ∈ os ∧ H l = some (.lst (bs.map V.int)) ∧ ∀ {σ : L2.St} {ta : TE} {H1 : Hp}, Ex H H1 → Ev ta σ H1 (.ref b) → Ev (tFld K ta "bases") σ H1 (.ref l) := by
  obtain ⟨dx, fs, l, h1, h2, h3, h4, _⟩ := isb.at_
  exact ⟨l, h3, h4, fun e ha => ev_fld ha (e b _ h1) c no h2⟩
theorem fld_turns (isb : IsB C H b os bs) (c : Cls K C) (no : NoAttr K C "_turns") : ∃ l ts, RM.TurnsOf bs ts ∧ H l = some (.lst (ts.map V.int)) ∧ ∀ {σ : L2.St} {ta : TE} {H1 : Hp}, Ex H H1 → Ev ta σ H1 (.ref b) → Ev (tFld K ta "_turns") σ H1 (.ref l) := by
  obtain ⟨dx, fs, l, ts, h1, h2, h3, h4, h5⟩ := isb.trn
  exact ⟨l, ts, h5, h4, fun e ha => ev_fld ha (e b _ h1) c no h2⟩
theorem told_row (G : RM.Good bs) (t : Told bs xs n) : RM.IsRow bs xs := t.2.2 ▸ RM.rests_isRow G.pos
theorem told_one (G : RM.Good bs) (t : Told bs xs n) (u : Told bs xs m) : n = m := RM.rests_inj G.co (Int.le_refl _) t.1 t.2.1 u.1 u.2.1 (RM.rests_eq (t.2.2.trans u.2.2.symm))
theorem row_told (G : RM.Good bs) (h : RM.IsRow bs xs) : ∃ n, Told bs xs n := RM.crt G.pos G.co h
theorem figs_sp {CR : Addr} (isb : IsB C H b os bs) (G : RM.Good bs) (hp : SqL K H p (xs.map V.int)) (t : Told bs xs n) : SpL (spFigures K C CR) [.ref b, .ref p] H ((RM.figsOf bs n).map V.int) := fun H1 e Q k E => ⟨b, p, os, bs, xs, rfl, isb.mono e, G, ex_l e hp, .inl ⟨n, t, k⟩⟩
theorem figs_no (isb : IsB C H b os bs) (G : RM.Good bs) (hp : SqL K H p (xs.map V.int)) (no : ¬ RM.IsRow bs xs) : SpR (spFigures K C CR) [.ref b, .ref p] H (.ref CR) := fun H1 e Q E w => ⟨b, p, os, bs, xs, rfl, isb.mono e, G, ex_l e hp, .inr ⟨no, w⟩⟩
theorem toldd_sp (isb : IsB C H b os bs) (G : RM.Good bs) (hp : SqL K H p (xs.map V.int)) (t : Told bs xs n) (lt : n < RM.roomOf bs) : SpL (spToldD K C CR CN) [.ref b, .ref p] H ((RM.figsOf bs n).map V.int) := fun H1 e Q k E => ⟨b, p, os, bs, xs, rfl, isb.mono e, G, ex_l e hp, .inl ⟨n, t, fun _ => k, fun z => absurd lt (by omega)⟩⟩
theorem toldd_nn (isb : IsB C H b os bs) (G : RM.Good bs) (hp : SqL K H p (xs.map V.int)) (t : Told bs xs n) (le : RM.roomOf bs ≤ n) : SpR (spToldD K C CR CN) [.ref b, .ref p] H (.ref CN) := fun H1 e Q E w => ⟨b, p, os, bs, xs, rfl, isb.mono e, G, ex_l e hp, .inl ⟨n, t, fun z => absurd z (by omega), fun _ => w⟩⟩
theorem toldd_nr (isb : IsB C H b os bs) (G : RM.Good bs) (hp : SqL K H p (xs.map V.int)) (no : ¬ RM.IsRow bs xs) : SpR (spToldD K C CR CN) [.ref b, .ref p] H (.ref CR) := fun H1 e Q E w => ⟨b, p, os, bs, xs, rfl, isb.mono e, G, ex_l e hp, .inr ⟨no, w⟩⟩
/-- the last two figures are noughts -/
theorem ev_last2 {r : R2} {c : Bool} (h : EvL te σ H ((RM.figsOf bs n).map V.int)) (hr : ∀ (x y : Addr) H1, H1 x = some (.lst (((RM.figsOf bs n).drop (bs.length - 2)).map V.int)) → H1 y = some (.lst (([0, 0] : List Int).map V.int)) → Ex H H1 → RV r (.ref x) (.ref y) H1 (.bl c)) :
    Ev (tOp r (tSl (rSlL K) te (tPart (tUn (rU fun i => .int (-i)) (tC (.int 2)))) tNoPart) (tLst (tCons (tC (.int 0)) (tCons (tC (.int 0)) tNil)))) σ H (.bl c) := by
  refine ev_opLL (xs := ((RM.figsOf bs n).drop (bs.length - 2)).map V.int) (ys := ([0, 0] : List Int).map V.int) ?_ (el_lst (ea_cons ev_c (ea_cons ev_c ea_nil)) (by show 2 ≤ 100000; decide)) hr
  refine el_is (el_cut (lr h) (eo_some (ev_un ev_c ru_neg)) eo_none) ?_
  show cutV _ (some (-2)) none = _
  rw [cut_last2, List.map_drop, List.length_map, RM.figs_len]
theorem last2_ne (G : RM.Good bs) (t : Told bs xs n) : (!decide ((RM.figsOf bs n).drop (bs.length - 2) = [0, 0])) = decide (RM.roomOf bs ≤ n) := by
  by_cases c : n < RM.roomOf bs
  · rw [decide_eq_true ((G.figs_room t.1 t.2.1).mpr c), decide_eq_false (show ¬ RM.roomOf bs ≤ n by omega)]
    rfl
  · rw [decide_eq_false (fun z => c ((G.figs_room t.1 t.2.1).mp z)), decide_eq_true (show RM.roomOf bs ≤ n by omega)]
    rfl
theorem last2_eq (G : RM.Good bs) (t : Told bs xs n) : decide ((RM.figsOf bs n).drop (bs.length - 2) = [0, 0]) = decide (n < RM.roomOf bs) := by
  by_cases c : n < RM.roomOf bs
  · rw [decide_eq_true ((G.figs_room t.1 t.2.1).mpr c), decide_eq_true c]
  · rw [decide_eq_false (fun z => c ((G.figs_room t.1 t.2.1).mp z)), decide_eq_false c]
theorem ev_value {l : Addr} (h : EvL te σ H (fs.map V.int)) (hl : H l = some (.lst (bs.map V.int))) (hb : Ev tb σ H (.ref l)) (G : RM.Good bs) (row : RM.IsRow bs fs) : Ev (tCallS (spValue K) E (tCons te (tCons tb tNil))) σ H (.int (RM.valOf bs fs)) := fun H1 e Q k =>
  h H1 e _ fun p H2 _ e2 g => hb H2 (e.trans e2) _ fun H3 e3 => ⟨p, l, fs, bs, rfl, sq_of (e3 p _ g), sq_of (((e.trans e2).trans e3) l _ hl), G, row, fun H4 e4 => k H4 ((e2.trans e3).trans e4)⟩
theorem ev_turned {CT : Addr} {t : TA} {r c : Int} (h : EvA t σ H [.int n, .int c]) (n0 : 0 ≤ n) (c3 : 3 ≤ c ∧ c ≤ 999999) (g : ¬ 1 < K01.G n c) (r0 : 0 < r) (r1 : r < c) (m : (r * n) % c = 1) : Ev (tCallS (spTurned CT) E t) σ H (.int r) :=
  ev_callS h fun H1 e Q k E => ⟨n, c, rfl, n0, by omega, by omega, fun z => absurd z g, fun _ r' a b d => by
    have er : r' = r := by
      have g1 : Int.gcd c n = 1 := by
        have p : Int.gcd n c ≠ 0 := fun z => by
          rw [Int.gcd_eq_zero_iff] at z
          omega
        unfold K01.G at g
        rw [Int.gcd_comm]
        omega
      have dv : c ∣ (r' - r) * n := by
        rw [Int.sub_mul]
        exact RM.mod_eq_dvd (d.trans m.symm)
      have dw : c ∣ r' - r := by
        have q := Int.natAbs_dvd_natAbs.mpr dv
        rw [Int.natAbs_mul] at q
        exact Int.natAbs_dvd_natAbs.mp (Nat.Coprime.dvd_of_dvd_mul_right g1 q)
      have := RM.small_dvd (w := c) (d := r' - r) dw (by omega) (by omega)
      omega
    rw [er]
    exact k⟩
end
/-! A row for the one wrong rest that the laws draw. -/
theorem new_ne {x b d : Int} (b3 : 3 ≤ b) (x0 : 0 ≤ x) (x1 : x < b) (d1 : 1 ≤ d) (d2 : d < b) : 0 ≤ (x + d) % b ∧ (x + d) % b < b ∧ (x + d) % b ≠ x := by
  refine ⟨Int.emod_nonneg _ (by omega), Int.emod_lt_of_pos _ (by omega), ?_⟩
  by_cases c : x + d < b
  · rw [Int.emod_eq_of_lt (by omega) c]
    omega
  · have e2 : (x + d) % b = x + d - b := by
      rw [← Int.sub_emod_right, Int.emod_eq_of_lt (by omega) (by omega)]
    omega
section
variable {K : PySem.W.Frag} {σ : L2.St} {H : Hp} {ta te : TE} {a : Addr} {xs : List Int} {E : L2.St → XK}
/-- _law_row(x, [..]), x a list that stands -/
theorem ev_rowR (ha : Ev ta σ H (.ref a)) (hp : H a = some (.lst (xs.map V.int))) (hL : EvL te σ H (xs.map V.int)) : Ev (tCallS (spRow K) E (tCons ta (tCons te tNil))) σ H (.bl true) := fun H1 e Q q =>
  ha H1 e _ fun H2 e2 => hL H2 (e.trans e2) _ fun p H3 _ e3 g => ⟨a, p, xs, rfl, ((e.trans e2).trans e3) a _ hp, sq_of g, fun H4 e4 => q H4 ((e2.trans e3).trans e4)⟩
/-- _law_row([..], [..]), both new -/
theorem ev_rowN (hL : EvL ta σ H (xs.map V.int)) (hM : EvL te σ H (xs.map V.int)) : Ev (tCallS (spRow K) E (tCons ta (tCons te tNil))) σ H (.bl true) := fun H1 e Q q =>
  hL H1 e _ fun p H2 _ e2 g => hM H2 (e.trans e2) _ fun r H3 _ e3 g3 => ⟨p, r, xs, rfl, e3 p _ g, sq_of g3, fun H4 e4 => q H4 ((e2.trans e3).trans e4)⟩
end
/-- one row handed in: what it tells -/
def onOne (bs xs : List Int) (ok : Int → Prop) (nn nr : Prop) : Prop :=
  (∃ n, Told bs xs n ∧ n < RM.roomOf bs ∧ ok n) ∨ ((∃ n, Told bs xs n ∧ RM.roomOf bs ≤ n) ∧ nn) ∨ (¬ RM.IsRow bs xs ∧ nr)
/-! A row of which one place is lost. -/
structure FillAt (bs : List Int) (ws : List V) (i : Nat) (xs : List Int) : Prop where
  lt : i < bs.length
  len : xs.length = bs.length
  ex : ∃ z, (z = V.non ∨ ∃ j, z = V.int j) ∧ ws = (xs.map V.int).set i z
def fillNp (bs : List Int) (pl : Int) : Prop := ¬ (0 ≤ pl ∧ pl < (bs.length : Int))
def fillOk (bs : List Int) (ws : List V) (pl n : Int) : Prop := ∃ i xs, pl = ((i : Nat) : Int) ∧ FillAt bs ws i xs ∧ 0 ≤ n ∧ n < RM.roomOf bs ∧ ∀ k, k < bs.length → k ≠ i → xs.getD k 0 = n % bs.getD k 0
def fillLost (bs : List Int) (ws : List V) (pl : Int) : Prop := ∃ i xs, pl = ((i : Nat) : Int) ∧ FillAt bs ws i xs ∧ (∀ k, k < bs.length → k ≠ i → 0 ≤ xs.getD k 0 ∧ xs.getD k 0 < bs.getD k 0) ∧
  ∀ n, 0 ≤ n → n < RM.roomOf bs → ∃ k, k < bs.length ∧ k ≠ i ∧ xs.getD k 0 ≠ n % bs.getD k 0
def fillNr (bs : List Int) (ws : List V) (pl : Int) : Prop := (0 ≤ pl ∧ pl < (bs.length : Int) ∧ ws.length ≠ bs.length ∧ ws.length ≤ 100) ∨
  ∃ i xs, pl = ((i : Nat) : Int) ∧ FillAt bs ws i xs ∧ ∃ k, k < bs.length ∧ k ≠ i ∧ ¬ (0 ≤ xs.getD k 0 ∧ xs.getD k 0 < bs.getD k 0)
def onFill (bs : List Int) (ws : List V) (pl : Int) (ok : Int → Prop) (lost nr np : Prop) : Prop :=
  (fillNp bs pl ∧ np) ∨ (∃ n, fillOk bs ws pl n ∧ ok n) ∨ (fillLost bs ws pl ∧ lost) ∨ (fillNr bs ws pl ∧ nr)
def spRefilled (K : PySem.W.Frag) (C CR CL CP : Addr) : Sp := fun vs H Q E => ∃ (b p : Addr) (os : List Addr) (bs : List Int) (ws : List V) (pl : Int), vs = [.ref b, .ref p, .int pl] ∧ IsB C H b os bs ∧ RM.Good bs ∧ SqL K H p ws ∧
  onFill bs ws pl (fun n => RetL ((RM.restsOf bs n).map V.int) H Q) (RetE CL H E) (RetE CR H E) (RetE CP H E)
/-! Rows that are drawn: any; where two rows differ. -/
theorem getD_mapr {f : Nat → Int} {n t : Nat} (h : t < n) : ((List.range n).map f).getD t 0 = f t := by
  rw [List.getD_eq_getElem?_getD, List.getElem?_map, List.getElem?_range h]
  rfl
theorem set_mapI {xs : List Int} {i : Nat} {r : Int} (h : i < xs.length) : (xs.map V.int).set i (V.int r) = (RM.spoil xs i r).map V.int := by
  rw [← spoil_map, List.set_eq_take_append_cons_drop, if_pos (by rw [List.length_map]; exact h), List.append_assoc]
  rfl
def spBuilt (K : PySem.W.Frag) : Sp := fun vs H Q _ => ∃ (a p : Addr) (ns bs : List Int) (n : Int), vs = [.ref a, .ref p, .int n] ∧ SqL K H a (ns.map V.int) ∧ SqL K H p (bs.map V.int) ∧ RM.Good bs ∧ ∀ xs, RM.IsRow bs xs → RetL (xs.map V.int) H Q

def noneOf (bs xs : List Int) (cell : Int) : List Int :=
  if cell % 4 < 2 then RM.spoil xs (cell / 4 % (xs.length : Int)).toNat (if cell % 4 = 1 then -1 - cell / 60 % 3 else bs.getD (cell / 4 % (xs.length : Int)).toNat 0 + cell / 60 % 3 * 1000)
  else if cell % 4 = 2 then RM.cutOut xs (cell / 4 % (xs.length : Int)).toNat else xs ++ [0]
theorem none_no {bs xs : List Int} (h : RM.IsRow bs xs) (h3 : 3 ≤ bs.length) (cell : Int) : ¬ RM.IsRow bs (noneOf bs xs cell) := by
  have hl := h.len
  have i0 := Int.emod_nonneg (cell / 4) (show (xs.length : Int) ≠ 0 by omega)
  have i1 := Int.emod_lt_of_pos (cell / 4) (show (0 : Int) < (xs.length : Int) by omega)
  unfold noneOf
  split
  · refine RM.spoil_no (by omega) hl ?_
    split <;> omega
  · split
    · exact RM.cut_no (by omega) hl
    · exact RM.more_no hl
theorem none_len {bs xs : List Int} (h : RM.IsRow bs xs) (h3 : 3 ≤ bs.length) (cell : Int) : (noneOf bs xs cell).length ≤ bs.length + 1 := by
  have hl := h.len
  have i0 := Int.emod_nonneg (cell / 4) (show (xs.length : Int) ≠ 0 by omega)
  have i1 := Int.emod_lt_of_pos (cell / 4) (show (0 : Int) < (xs.length : Int) by omega)
  unfold noneOf
  split
  · rw [RM.spoil_len (by omega)]
    omega
  · split
    · rw [RM.cut_len (by omega)]
      omega
    · rw [List.length_append, List.length_singleton]
      omega
def spNone (K : PySem.W.Frag) : Sp := fun vs H Q _ => ∃ (p q : Addr) (bs xs : List Int) (cell : Int), vs = [.ref p, .ref q, .int cell] ∧ H p = some (.lst (xs.map V.int)) ∧ SqL K H q (bs.map V.int) ∧ RM.Good bs ∧ RM.IsRow bs xs ∧ RetL ((noneOf bs xs cell).map V.int) H Q
theorem none_sp {K : PySem.W.Frag} {H : Hp} {p q : Addr} {bs xs : List Int} {cell : Int} (hp : H p = some (.lst (xs.map V.int))) (hq : SqL K H q (bs.map V.int)) (G : RM.Good bs) (h : RM.IsRow bs xs) : SpL (spNone K) [.ref p, .ref q, .int cell] H ((noneOf bs xs cell).map V.int) :=
  fun H1 e Q k E => ⟨p, q, bs, xs, cell, rfl, e p _ hp, ex_l e hq, G, h, k⟩
/-! Seven refusals, each by its own class. -/
def spAsked (K : PySem.W.Frag) (c0 c1 c2 c3 c4 c5 c6 : Addr) : Sp := fun vs H Q E => ∃ (p r w : Addr) (kind : Int) (bs : List Int) (n new : Int) (i : Nat), vs = [.int kind, .ref p, .ref r, .ref w, .int (i : Int)] ∧ SqL K H p (bs.map V.int) ∧ H r = some (.lst ((RM.restsOf bs n).map V.int)) ∧ SqL K H w ((RM.spoil (RM.restsOf bs n) i new).map V.int) ∧ RM.Good bs ∧ 0 ≤ n ∧ n < RM.roomOf bs ∧
  i < bs.length ∧ 0 ≤ new ∧ new < bs.getD i 0 ∧ new ≠ n % bs.getD i 0 ∧ ((kind = 0 ∧ RetE c0 H E) ∨ (kind = 1 ∧ RetE c1 H E) ∨ (kind = 2 ∧ RetE c2 H E) ∨ (kind = 3 ∧ RetE c3 H E) ∨ (kind = 4 ∧ RetE c4 H E) ∨ (kind = 5 ∧ RetE c5 H E) ∨ (kind = 6 ∧ RetE c6 H E))
def spLaw (K : PySem.W.Frag) : Sp := fun vs H Q _ => ∃ (a : Addr) (ns : List Int), vs = [.ref a] ∧ SqL K H a (ns.map V.int) ∧ ns.length ≤ 63 ∧ ∀ H', Q (.bl true) H'
def dupl (bs : List Int) (i : Nat) : List Int := bs.take i ++ [bs.getD i 0] ++ bs.drop i
theorem dupl_bad {bs : List Int} {i : Nat} (hi : i < bs.length) : ¬ RM.Good (dupl bs i) := fun G => by
  have l : (bs.take i).length = i := by rw [List.length_take]; omega
  have e : dupl bs i = bs.take i ++ (bs.getD i 0 :: bs.drop i) := by unfold dupl; rw [List.append_assoc]; rfl
  have r := G.rise
  rw [e] at r
  have r2 := (List.pairwise_cons.mp (List.pairwise_append.mp r).2.1).1 (bs.getD i 0) (by
    rw [List.drop_eq_getElem_cons hi, List.getD_eq_getElem?_getD, List.getElem?_eq_getElem hi]
    exact List.mem_cons_self ..)
  omega
theorem set_same {ws : List V} {j : Nat} {z : V} (h : ws[j]? = some z) : ws.set j z = ws := by
  apply List.ext_getElem?
  intro k
  by_cases c : j = k
  · subst c
    rw [List.getElem?_set_self (List.getElem?_eq_some_iff.mp h).1, h]
  · rw [List.getElem?_set_ne c]
theorem dupl_map (bs : List Int) {i : Nat} : ((bs.map V.int).take i ++ [V.int (bs.getD i 0)]) ++ (bs.map V.int).drop i = (dupl bs i).map V.int := by
  unfold dupl
  simp only [List.map_append, List.map_take, List.map_drop, List.map_cons, List.map_nil]
section
variable {K : PySem.W.Frag} {σ : L2.St} {H : Hp} {ta te : TE} {C CE CR b : Addr} {os : List Addr} {bs ns : List Int} {E : L2.St → XK} {sp : Sp} {cls : Value} {xs : List V} {m : Str}
theorem evx_makeN (h : EvL te σ H (ns.map V.int)) (len : ns.length ≤ 1000) (bad : ¬ RM.Good ns) (w : ∀ H2, Ex H H2 → E σ (.ref CE) none H2) : EvX (tMakeX C (spInit K C CE) E (tCons te tNil)) σ H := fun H1 e Q =>
  h H1 e _ fun a H2 _ e2 g x dx nx ndx ne => by
    have e3 : Ex H2 (upd (upd H2 dx (.own x)) x (.ins C dx [])) := fun c o hc => by
      rw [upd_ne (ne_of_none hc nx), upd_ne (ne_of_none hc ndx)]
      exact hc
    refine ⟨x, dx, a, ns, rfl, upd_same, ?_, ex_l e3 (sq_of g), len, fun G => absurd G bad, fun _ H3 keep => w H3 fun c o hc => keep c o (ne_of_none (e2 c o (e c o hc)) nx) (e3 c o (e2 c o (e c o hc)))⟩
    rw [upd_ne ne]
    exact upd_same
theorem evx_methN (isb : IsB C H b os bs) (ha : Ev ta σ H (.ref b)) (h : EvL te σ H xs) (hs : ∀ p H1, Ex H H1 → H1 p = some (.lst xs) → SpR sp [.ref b, .ref p] H1 cls) (w : ∀ H2, Ex H H2 → E σ cls none H2) (hm : m ∈ meths := by decide +kernel) : EvX (tMethX C m sp E ta (tCons te tNil)) σ H := by
  obtain ⟨dx, fs, l, h1, h2, h3, h4, h5⟩ := isb.at_
  exact fun H1 e Q => ha H1 e _ fun H2 e2 => ⟨b, dx, fs, rfl, (e.trans e2) b _ h1, h5 m hm, h H2 (e.trans e2) _ fun p H3 _ e3 g => hs p H3 ((e.trans e2).trans e3) g H3 (Ex.refl H3) Q (E σ) fun H4 e4 => w H4 (((e.trans e2).trans e3).trans e4)⟩
theorem kit_own {D C' : Addr} {v : Bool} (cl : (PySem.W.clsIn K C').isSome = true) (t : PySem.W.typeIn K (.ref C') = some (.type "type")) (s : PySem.W.subIn K (.ref D) (.ref C') = some v) (self : PySem.W.subIn K (.ref C') (.ref C') = some true) : PySem.W.kitOne K (.ref D) (.ref C') = some v := by
  unfold PySem.W.kitOne
  split
  · rename_i h
    have e : Value.ref D = Value.ref C' := beq_iff_eq.mp h
    cases e
    rw [self] at s
    exact s
  · unfold PySem.W.kitCls
    show (if ((PySem.W.clsIn K C').isSome && PySem.W.typeIn K (.ref C') == some (.type "type")) = true then PySem.W.subIn K (.ref D) (.ref C') else none) = some v
    rw [cl, t, s]
    rfl
theorem rc_isOwn {D C' a : Addr} {v : Bool} (ec : ExcC K D) (kit : PySem.W.kitOne K (.ref D) (.ref C') = some v) : RC (rIsEx K (.ref D) none a) [.ref a, .ref C'] H (.bl v) := fun H1 _ Q q =>
  ⟨D, rfl, rfl, ec, .ref C', .ref C', v, rfl, fun u ru => ru, kit, q H1 (Ex.refl H1)⟩
theorem eqv_bools : ∀ (l : List Bool), PyData.eqvAll (l.map PyData.bool) (l.map PyData.bool) = true
  | [] => rfl
  | x :: r => by
    show (PyData.eqv (.bool x) (.bool x) && PyData.eqvAll (r.map PyData.bool) (r.map PyData.bool)) = true
    rw [eqv_bools r, Bool.and_true]
    simp [PyData.eqv]
theorem can_bools : ∀ (l : List Bool), PyData.canLayAll0 (l.map PyData.bool) = true
  | [] => rfl
  | _ :: r => can_bools r
theorem deep_bools : ∀ (l : List Bool), PyData.depthAll (l.map PyData.bool) = 0
  | [] => rfl
  | i :: r => by
    show max (PyData.depth (.bool i)) (PyData.depthAll (r.map PyData.bool)) = 0
    rw [deep_bools r]
    rfl
theorem dp_bools : ∀ (l : List Bool), DpAll K H (l.map V.bl) (l.map PyData.bool)
  | [] => .nil
  | i :: r => .cons (.bl i) (dp_bools r)
theorem shaped_bools (l : List Bool) : SeqAt.shaped (.list (l.map PyData.bool)) = true := by
  unfold SeqAt.shaped
  have h1 : PyData.canLay0 (.list (l.map PyData.bool)) = true := can_bools l
  have h2 : PyData.depth (.list (l.map PyData.bool)) = 1 := by
    show PyData.depthAll (l.map PyData.bool) + 1 = 1
    rw [deep_bools]
  rw [h1, h2]
  rfl
theorem rv_eqBs {p q : Addr} {l : List Bool} (hp : SqL K H p (l.map V.bl)) (hq : SqL K H q (l.map V.bl)) : RV (rEqD K) (.ref p) (.ref q) H (.bl true) := by
  have r := rv_eqD (K := K) (H := H) (x := .ref p) (y := .ref q) (d := .list (l.map PyData.bool)) (e := .list (l.map PyData.bool)) (fun H1 e => ⟨.lst (ex_l e hp) (dp_bools l), .lst (ex_l e hq) (dp_bools l)⟩) (shaped_bools l) (shaped_bools l)
  have z : PyData.eqv (.list (l.map PyData.bool)) (.list (l.map PyData.bool)) = true := by
    show PyData.eqvAll (l.map PyData.bool) (l.map PyData.bool) = true
    exact eqv_bools l
  rw [z] at r
  exact r
end
def spLeast (K : PySem.W.Frag) (C : Addr) : Sp := fun vs H Q _ => ∃ (b p : Addr) (os : List Addr) (bs xs : List Int) (i : Nat) (n : Int), vs = [.ref b, .ref p, .int (i : Int)] ∧ IsB C H b os bs ∧ RM.Good bs ∧ SqL K H p (xs.map V.int) ∧ Told bs xs n ∧ i < bs.length ∧ RetV (.int (n % RM.prod (bs.eraseIdx i))) H Q
theorem erase_is (bs : List Int) (i : Nat) : (bs.map V.int).take i ++ (bs.map V.int).drop (i + 1) = (bs.eraseIdx i).map V.int := by
  rw [List.eraseIdx_eq_take_drop_succ, List.map_append, List.map_take, List.map_drop]
section
variable {K : PySem.W.Frag} {σ : L2.St} {H : Hp} {C b p : Addr} {os : List Addr} {bs xs : List Int} {n : Int} {i : Nat}
theorem least_sp (isb : IsB C H b os bs) (G : RM.Good bs) (hp : SqL K H p (xs.map V.int)) (tn : Told bs xs n) (hi : i < bs.length) : SpV (spLeast K C) [.ref b, .ref p, .int (i : Int)] H (.int (n % RM.prod (bs.eraseIdx i))) := fun H1 e Q k E => ⟨b, p, os, bs, xs, i, n, rfl, isb.mono e, G, ex_l e hp, tn, hi, k⟩
end
/-- the least number at a place: what it says of the row -/
theorem told_get {bs xs : List Int} {n : Int} (tn : Told bs xs n) {k : Nat} (hk : k < bs.length) : xs.getD k 0 = n % bs.getD k 0 := by rw [← tn.2.2, RM.rests_get hk]
section
variable {P : Program} {w : World} {K : PySem.W.Frag} {mg : Str → Option Value} {base : Heap}
theorem ok_LBases (T : Txt K mg) : FnOk P w K mg base (L2N.CX P w) 1 T.fLBases T.dLBases ["_law_one", "_law_other"] spBases := by
  refine T.FLBases.okN scLBases (fun vs H Q E h => ?_) (fun cdv A outer s H vs Q E hr h => ?_)
  · obtain ⟨one, other, rfl, _⟩ := h
    rfl
  · obtain ⟨one, other, rfl, k⟩ := h
    refine ⟨_, (pss_cons (ps_set (i := 2) scLBases.nd rfl (Or.inl rfl) (pe_lst pa_nil))
    (pss_cons (ps_set (i := 3) scLBases.nd rfl (Or.inl rfl) (pe_lst (pa_cons pe_int (pa_cons pe_int (pa_cons pe_int (pa_cons pe_int (pa_cons pe_int pa_nil)))))))
    (pss_cons (ps_set (i := 4) scLBases.nd rfl (Or.inl rfl) (pe_lst (pa_cons pe_int (pa_cons pe_int (pa_cons pe_int (pa_cons pe_int (pa_cons pe_int (pa_cons pe_int (pa_cons pe_int (pa_cons pe_int (pa_cons pe_int pa_nil)))))))))))
    (pss_cons (ps_set (i := 5) scLBases.nd rfl (Or.inl rfl) (pe_op op_mulA pe_int (pe_op op_mod (pv 1) pe_int)))
    (pss_cons (ps_set (i := 6) scLBases.nd rfl (Or.inl rfl) (pe_op op_fdivW (pv 1) pe_int))
    (pss_cut (ps_if (pt_cmpR (op_eqD hr.eq) (pe_op op_mod (pv 0) pe_int) pe_int (nomark _)) (pss_cons (ps_set (i := 3) scLBases.nd rfl (Or.inl rfl) (pe_lst (pa_cons pe_int (pa_cons pe_int (pa_cons pe_int (pa_cons pe_int pa_nil))))))
      (pss_cons (ps_set (i := 4) scLBases.nd rfl (Or.inl rfl) (pe_lst (pa_cons pe_int (pa_cons pe_int (pa_cons pe_int (pa_cons pe_int (pa_cons pe_int (pa_cons pe_int pa_nil))))))))
      (pss_cons (ps_set (i := 5) scLBases.nd rfl (Or.inl rfl) (pe_op op_mulA pe_int (pe_op op_mod (pv 1) pe_int)))
      (pss_one (ps_set (i := 6) scLBases.nd rfl (Or.inl rfl) (pe_op op_fdivW (pv 1) pe_int)))))) pss_nil)
    (pss_cons (ps_for (passes_of rfl) (by rfl) (pi_list (pv 3)) (pg_name (i := 7) scLBases.nd rfl (Or.inl rfl)) (pss_cut (ps_if (pt_cmpR op_gt (pe_op op_mod (pv 0) pe_int) pe_int (nomark _)) (pss_one (ps_expr (pe_bm PySem.F.plainAttrs_list PySem.F.slot_list_append PySem.F.type_list_append mt_append (pv 2) (pa_cons (pe_op op_mulA (pv 7) (pe_ix ix_list (pe_lst (pa_cons pe_int (pa_cons pe_int (pa_cons (pv 7) (pa_cons (pe_op op_mulA (pv 7) (pv 7)) pa_nil))))) (pe_op op_mod (pv 0) pe_int) (fun _ _ => rfl))) pa_nil)))) pss_nil)
      (pss_one (ps_set (i := 0) scLBases.nd rfl (Or.inl rfl) (pe_op op_fdivW (pv 0) pe_int)))))
    (pss_cut (ps_if (PW.pt (pw_and (pt_cmpR (op_eqD hr.eq) (pe_op op_mod (pv 0) pe_int) pe_int (nomark _)) (pw_and (pt_cmpR op_gt (pe_callB call_len_seq (by rfl) T.z_len boot_len (pa_cons (pv 2) pa_nil)) pe_int (nomark _)) (pw_and1 (pt_cmpR op_lt (pe_op op_mulA (pe_ix ix_list (pv 2) pe_int (fun _ _ => rfl)) (pe_ix ix_list (pv 2) pe_int (fun _ _ => rfl))) pe_int (nomark _)))))) (pss_one (ps_set (i := 2) scLBases.nd rfl (Or.inl rfl) (pe_op op_cat (pe_lst (pa_cons (pe_op op_mulA (pe_ix ix_list (pv 2) pe_int (fun _ _ => rfl)) (pe_ix ix_list (pv 2) pe_int (fun _ _ => rfl))) pa_nil)) (pe_slice sl_list (pv 2) (po_some pe_int) po_none)))) pss_nil)
    (pss_cons (ps_for (passes_of rfl) (by rfl) (pi_range1 (by rfl) T.z_range (pa_cons (pe_callB call_len_seq (by rfl) T.z_len boot_len (pa_cons (pv 4) pa_nil)) pa_nil)) (pg_name (i := 8) scLBases.nd rfl (Or.inl rfl)) (pss_cut (ps_if (PW.pt (pw_or (pt_cmpR (op_eqD hr.eq) (pe_op op_mod (pv 6) pe_int) pe_int (nomark _)) (pw_or1 (pt_cmpR op_le (pe_op op_sub (pe_op op_add (pe_callB call_len_seq (by rfl) T.z_len boot_len (pa_cons (pv 2) pa_nil)) (pe_callB call_len_seq (by rfl) T.z_len boot_len (pa_cons (pv 4) pa_nil))) (pv 8)) pe_int (nomark _))))) (pss_one (ps_expr (pe_bm PySem.F.plainAttrs_list PySem.F.slot_list_append PySem.F.type_list_append mt_append (pv 2) (pa_cons (pe_op op_add (pv 5) (pe_ix ix_list (pv 4) (pv 8) (fun _ _ => rfl))) pa_nil)))) pss_nil)
      (pss_one (ps_set (i := 6) scLBases.nd rfl (Or.inl rfl) (pe_op op_fdivW (pv 6) pe_int)))))
    (pss_one (ps_ret (pe_callB cr_sortedI (by rfl) T.z_sorted boot_sorted (pa_cons (pv 2) pa_nil))))))))))))), ?_⟩
    refine q_asgL (el_lst ea_nil (by decide)) fun p H1 hp e1 h1 => ?_
    refine q_asgL (xs := ([3, 5, 7, 11, 13] : List Int).map V.int) (el_lst (ea_ints [3, 5, 7, 11, 13]) (by decide)) fun q H2 hq e2 h2 => ?_
    refine q_asgL (xs := ([17, 19, 23, 29, 31, 37, 41, 43, 47] : List Int).map V.int) (el_lst (ea_ints [17, 19, 23, 29, 31, 37, 41, 43, 47]) (by decide)) fun r H3 hr3 e3 h3 => ?_
    refine q_asg (ev_op ev_c (ev_op (ev_var rfl) ev_c (rv_I (show (0 : Int) < 34 by decide))) (rv_I (mul_l ⟨by decide, by decide⟩))) fun H4 e4 => ?_
    refine q_asg (ev_op (ev_var rfl) ev_c (rv_I ⟨by decide, by decide⟩)) fun H5 e5 => ?_
    have npq : p ≠ q := ne_of_none h1 hq
    have npr : p ≠ r := ne_of_none (e2 p _ h1) hr3
    have E5 := (e1.trans e2).trans ((e3.trans e4).trans e5)
    have p5 : H5 p = some (.lst []) := (((e2.trans e3).trans e4).trans e5) p _ h1
    refine q_cut (M := fun σ' H' => ∃ q' r', σ' = [some (.int one), some (.int other), some (.ref p), some (.ref q'), some (.ref r'), some (.int (RM.farOf one other)), some (.int (RM.picksOf one other)), none, none] ∧ H' p = some (.lst []) ∧
      H' q' = some (.lst ((RM.psOf one).map V.int)) ∧ H' r' = some (.lst ((RM.esOf one).map V.int)) ∧ p ≠ q' ∧ p ≠ r' ∧ Ex H H') ?_ ?_
    · refine s_when (et_test (ev_op (ev_op (ev_var rfl) ev_c (rv_I (show (0 : Int) < 7 by decide))) ev_c rv_eqI)) (fun hb H6 e6 => ?_) (fun hb H6 e6 => ?_)
      · have c : one % 7 = 6 := of_decide_eq_true hb
        refine q_asgL (xs := ([3, 5, 7, 11] : List Int).map V.int) (el_lst (ea_ints [3, 5, 7, 11]) (by decide)) fun q' H7 hq7 e7 h7 => ?_
        refine q_asgL (xs := ([13, 17, 19, 23, 29, 31] : List Int).map V.int) (el_lst (ea_ints [13, 17, 19, 23, 29, 31]) (by decide)) fun r' H8 hr8 e8 h8 => ?_
        refine q_asg (ev_op ev_c (ev_op (ev_var rfl) ev_c (rv_I (show (0 : Int) < 429 by decide))) (rv_I (mul_l ⟨by decide, by decide⟩))) fun H9 e9 => ?_
        refine s_asg (ev_op (ev_var rfl) ev_c (rv_I ⟨by decide, by decide⟩)) fun Ha ea => ?_
        have f1 : RM.farOf one other = 2310 * (other % 429) := if_pos c
        have f2 : RM.picksOf one other = other / 429 := if_pos c
        have f3 : RM.psOf one = [3, 5, 7, 11] := if_pos c
        have f4 : RM.esOf one = [13, 17, 19, 23, 29, 31] := if_pos c
        refine ⟨q', r', ?_, ((e6.trans e7).trans ((e8.trans e9).trans ea)) p _ p5, ?_, ?_, ne_of_none (e6 p _ p5) hq7, ne_of_none ((e6.trans e7) p _ p5) hr8, E5.trans ((e6.trans e7).trans ((e8.trans e9).trans ea))⟩
        · rw [f1, f2]
          rfl
        · rw [f3]
          exact ((e8.trans e9).trans ea) q' _ h7
        · rw [f4]
          exact (e9.trans ea) r' _ h8
      · have c : ¬ one % 7 = 6 := of_decide_eq_false hb
        have f1 : RM.farOf one other = 30030 * (other % 34) := if_neg c
        have f2 : RM.picksOf one other = other / 34 := if_neg c
        have f3 : RM.psOf one = [3, 5, 7, 11, 13] := if_neg c
        have f4 : RM.esOf one = [17, 19, 23, 29, 31, 37, 41, 43, 47] := if_neg c
        refine ⟨q, r, ?_, e6 p _ p5, ?_, ?_, npq, npr, E5.trans e6⟩
        · rw [f1, f2]
          rfl
        · rw [f3]
          exact ((e3.trans e4).trans (e5.trans e6)) q _ h2
        · rw [f4]
          exact (e4.trans (e5.trans e6)) r _ h3
    · rintro σ' H' ⟨q', r', rfl, hp', hq', hr', npq', npr', ex⟩
      have hp0 : H p = none := hp
      -- for prime in primes
      refine q_forLn (K := K) (ev_var rfl) (sq_of hq') (fun i σ2 H2 => ∃ v, σ2 = [some (.int (RM.rest4 ((RM.psOf one).take i) one)), some (.int other), some (.ref p), some (.ref q'), some (.ref r'), some (.int (RM.farOf one other)), some (.int (RM.picksOf one other)), v, none] ∧
        H2 p = some (.lst ((RM.sel ((RM.psOf one).take i) one).map V.int)) ∧ H2 q' = some (.lst ((RM.psOf one).map V.int)) ∧ H2 r' = some (.lst ((RM.esOf one).map V.int)) ∧ Ex H H2) (fun H6 e6 => ⟨none, rfl, e6 p _ hp', e6 q' _ hq', e6 r' _ hr', ex.trans e6⟩) (fun i σ2 H2 _ ⟨_, _, _, g2, _⟩ => sq_of g2) ?_ ?_
      · rintro i x σ2 H2 hx ⟨v, rfl, g1, g2, g3, ex2⟩
        rw [List.getElem?_map] at hx
        obtain ⟨z, hz, rfl⟩ : ∃ z, (RM.psOf one)[i]? = some z ∧ x = V.int z := by
          cases hc : (RM.psOf one)[i]? with
          | none => rw [hc] at hx; cases hx
          | some z => rw [hc] at hx; exact ⟨z, rfl, (Option.some.inj hx).symm⟩
        have tk : (RM.psOf one).take (i + 1) = (RM.psOf one).take i ++ [z] := by rw [List.take_add_one, hz]; rfl
        have zs := RM.ps_size one z (List.mem_of_getElem? hz)
        have len : (RM.sel ((RM.psOf one).take i) one).length ≤ 5 := by
          have := RM.sel_len ((RM.psOf one).take i) one
          have := RM.ps_len one
          have : ((RM.psOf one).take i).length ≤ (RM.psOf one).length := by rw [List.length_take]; exact Nat.min_le_right _ _
          omega
        have s1 := RM.sel_snoc ((RM.psOf one).take i) z one
        have s2 := RM.rest4_snoc ((RM.psOf one).take i) z one
        generalize RM.rest4 ((RM.psOf one).take i) one = on at *
        refine q_cut (M := fun σ3 H3 => σ3 = [some (.int on), some (.int other), some (.ref p), some (.ref q'), some (.ref r'), some (.int (RM.farOf one other)), some (.int (RM.picksOf one other)), some (.int z), none] ∧
          H3 p = some (.lst ((RM.sel ((RM.psOf one).take i) one ++ RM.one1 z on).map V.int)) ∧ H3 q' = some (.lst ((RM.psOf one).map V.int)) ∧ H3 r' = some (.lst ((RM.esOf one).map V.int)) ∧ Ex H H3) ?_ ?_
        · refine s_when (et_test (ev_op (ev_op (ev_var rfl) ev_c (rv_I (show (0 : Int) < 4 by decide))) ev_c rv_I0)) (fun hb H6 e6 => ?_) (fun hb H6 e6 => ?_)
          · have c : 0 < on % 4 := of_decide_eq_true hb
            have m : on % 4 = 1 ∨ on % 4 = 2 ∨ on % 4 = 3 := by omega
            have item : ([1, 1, z, z * z] : List Int).getD (on % 4).toNat 0 ≤ 169 ∧ 0 ≤ ([1, 1, z, z * z] : List Int).getD (on % 4).toNat 0 := by
              have zz : z * z ≤ 13 * 13 := Int.mul_le_mul zs.2 zs.2 (by omega) (by omega)
              have z0 : 0 ≤ z * z := Int.mul_nonneg (by omega) (by omega)
              rcases m with m | m | m <;> rw [m]
              · exact ⟨by show (1 : Int) ≤ 169; decide, by show (0 : Int) ≤ 1; decide⟩
              · exact ⟨by show z ≤ 169; omega, by show 0 ≤ z; omega⟩
              · exact ⟨by show z * z ≤ 169; omega, z0⟩
            have at4 : atI (([1, 1, z, z * z] : List Int).map V.int) (on % 4) = some (.int (([1, 1, z, z * z] : List Int).getD (on % 4).toNat 0)) := by
              have e : on % 4 = (((on % 4).toNat : Nat) : Int) := by omega
              rw [e]
              exact atI_nat (intsAt (by show (on % 4).toNat < 4; omega))
            refine s_app (e6 p _ g1) (ev_var rfl) (ev_op (ev_var rfl) (ev_ixR (xs := ([1, 1, z, z * z] : List Int).map V.int) (lr (el_lst (ea_cons ev_c (ea_cons ev_c (ea_cons (ev_var rfl) (ea_cons (ev_op (ev_var rfl) (ev_var rfl) (rv_I (mul_l ⟨by omega, by omega⟩))) ea_nil)))) (by show 4 ≤ 100000; decide))) (ev_op (ev_var rfl) ev_c (rv_I (show (0 : Int) < 4 by decide))) at4) (rv_I (mul_l ⟨by omega, by omega⟩))) (by rw [List.length_map]; omega) fun H7 e7 => ?_
            have o1 : RM.one1 z on = [z * ([1, 1, z, z * z] : List Int).getD (on % 4).toNat 0] := if_pos c
            refine ⟨rfl, ?_, ?_, ?_, (ex2.trans (e6.trans e7)).mut hp0⟩
            · rw [upd_same, o1, List.map_append]
              rfl
            · rw [upd_ne npq'.symm]
              exact (e6.trans e7) q' _ g2
            · rw [upd_ne npr'.symm]
              exact (e6.trans e7) r' _ g3
          · have c : ¬ 0 < on % 4 := of_decide_eq_false hb
            have o1 : RM.one1 z on = [] := if_neg c
            rw [o1, List.append_nil]
            exact ⟨rfl, e6 p _ g1, e6 q' _ g2, e6 r' _ g3, ex2.trans e6⟩
        · rintro σ3 H3 ⟨rfl, k1, k2, k3, ex3⟩
          refine s_asg (ev_op (ev_var rfl) ev_c (rv_I ⟨by decide, by decide⟩)) fun H6 e6 => ?_
          refine ⟨some (.int z), ?_, ?_, e6 q' _ k2, e6 r' _ k3, ex3.trans e6⟩
          · rw [tk, s2]
            rfl
          · rw [tk, s1]
            exact e6 p _ k1
      · rintro σ2 H2 ⟨v, rfl, g1, g2, g3, ex2⟩
        have L : (RM.psOf one).take ((RM.psOf one).map V.int).length = RM.psOf one := by rw [List.length_map, List.take_length]
        rw [L] at g1 ⊢
        have sl := RM.sel_le (RM.psOf one) one (RM.ps_size one)
        have el5 : (RM.sel (RM.psOf one) one).length ≤ 5 := Nat.le_trans (RM.sel_len _ _) (RM.ps_len one)
        have ef : RM.firstOf one = RM.merged (RM.sel (RM.psOf one) one) (RM.rest4 (RM.psOf one) one) := rfl
        generalize RM.sel (RM.psOf one) one = s at *
        generalize RM.rest4 (RM.psOf one) one = rr at *
        have at01 : ∀ j : Nat, j < s.length → atI (s.map V.int) (j : Int) = some (.int (s.getD j 0)) := fun j hj => atI_nat (intsAt hj)
        have sz : ∀ j : Nat, j < s.length → 0 ≤ s.getD j 0 ∧ s.getD j 0 ≤ 2197 := fun j hj => by
          refine sl _ ?_
          rw [List.getD_eq_getElem?_getD, List.getElem?_eq_getElem hj]
          exact List.getElem_mem hj
        refine q_cut (M := fun σ3 H3 => ∃ p', σ3 = [some (.int rr), some (.int other), some (.ref p'), some (.ref q'), some (.ref r'), some (.int (RM.farOf one other)), some (.int (RM.picksOf one other)), v, none] ∧
          H3 p' = some (.lst ((RM.firstOf one).map V.int)) ∧ H3 r' = some (.lst ((RM.esOf one).map V.int)) ∧ p' ≠ r' ∧ H p' = none ∧ Ex H H3) ?_ ?_
        · refine s_when (b := decide (rr % 2 = 1) && (decide ((1 : Int) < ((s.map V.int).length : Int)) && decide (s.getD 0 0 * s.getD 1 0 < 900000))) (et_and (et_test (ev_op (ev_op (ev_var rfl) ev_c (rv_I (show (0 : Int) < 2 by decide))) ev_c rv_eqI)) fun _ =>
            et_and (et_test (ev_op (ev_lenR (er_var rfl g1)) ev_c rv_I0)) fun hb2 => ?_) (fun hb H6 e6 => ?_) (fun hb H6 e6 => ?_)
          · have l2 : 1 < s.length := by
              have := of_decide_eq_true hb2
              rw [List.length_map] at this
              omega
            have z0 := sz 0 (by omega)
            have z1 := sz 1 l2
            exact et_test (ev_op (ev_op (ev_ixR (er_var rfl g1) ev_c (at01 0 (by omega))) (ev_ixR (er_var rfl g1) ev_c (at01 1 l2)) (rv_I (mul_l ⟨by omega, by omega⟩))) ev_c rv_I0)
          · obtain ⟨c1, hb'⟩ := (Bool.and_eq_true _ _).mp hb
            obtain ⟨c2, c3⟩ := (Bool.and_eq_true _ _).mp hb'
            have c1 : rr % 2 = 1 := of_decide_eq_true c1
            have c2 : (1 : Int) < ((s.map V.int).length : Int) := of_decide_eq_true c2
            have c3 : s.getD 0 0 * s.getD 1 0 < 900000 := of_decide_eq_true c3
            rw [List.length_map] at c2
            have z0 := sz 0 (by omega)
            have z1 := sz 1 (by omega)
            have em : RM.firstOf one = (s.getD 0 0 * s.getD 1 0) :: s.drop 2 := by
              rw [ef]
              exact if_pos ⟨c1, by omega, c3⟩
            have ex6 : EvR (tVar 2) [some (.int rr), some (.int other), some (.ref p), some (.ref q'), some (.ref r'), some (.int (RM.farOf one other)), some (.int (RM.picksOf one other)), v, none] H6 (s.map V.int) := er_var rfl (e6 p _ g1)
            refine s_asgL (xs := [V.int (s.getD 0 0 * s.getD 1 0)] ++ cutV (s.map V.int) (some 2) none) (el_cat (lr (el_lst (ea_cons (ev_op (ev_ixR ex6 ev_c (at01 0 (by omega))) (ev_ixR ex6 ev_c (at01 1 (by omega))) (rv_I (mul_l ⟨by omega, by omega⟩))) ea_nil) (by show 1 ≤ 100000; decide))) (lr (el_cut ex6 (eo_some ev_c) eo_none)) ?_) fun p' H7 hp7 e7 h7 => ?_
            · have := cutV_length (s.map V.int) (some 2) none
              rw [List.length_map] at this
              show 1 + _ ≤ 100000
              omega
            · have ec : [V.int (s.getD 0 0 * s.getD 1 0)] ++ cutV (s.map V.int) (some 2) none = (RM.firstOf one).map V.int := by
                have q := cut_from (s.map V.int) 2
                rw [em, List.map_cons, List.map_drop]
                exact congrArg (fun z => V.int (s.getD 0 0 * s.getD 1 0) :: z) q
              rw [ec] at h7
              exact ⟨p', rfl, h7, (e6.trans e7) r' _ g3, (ne_of_none (e6 r' _ g3) hp7).symm, fresh_back (ex2.trans e6) hp7, ex2.trans (e6.trans e7)⟩
          · have em : RM.firstOf one = s := by
              rw [ef]
              refine if_neg fun ⟨c1, c2, c3⟩ => ?_
              rw [decide_eq_true c1, decide_eq_true c3, decide_eq_true (show (1 : Int) < ((s.map V.int).length : Int) by rw [List.length_map]; omega)] at hb
              cases hb
            rw [em]
            exact ⟨p, rfl, e6 p _ g1, e6 r' _ g3, npr', hp0, ex2.trans e6⟩
        · rintro σ3 H3 ⟨p', rfl, k1, k3, npr3, hp3, ex3⟩
          have fl := RM.first_len one
          have eslen := RM.es_len one
          have lenes : EvA (tCons (tCB (rLenS K) (tCons (tVar 4) tNil)) tNil) [some (.int rr), some (.int other), some (.ref p'), some (.ref q'), some (.ref r'), some (.int (RM.farOf one other)), some (.int (RM.picksOf one other)), v, none] H3 [.int (((RM.esOf one).map V.int).length : Int)] := ea_cons (ev_lenR (er_var rfl k3)) ea_nil
          refine q_forR1 lenes ⟨by omega, by rw [List.length_map]; omega⟩ (fun i σ4 H4 => ∃ w, σ4 = [some (.int rr), some (.int other), some (.ref p'), some (.ref q'), some (.ref r'), some (.int (RM.farOf one other)), some (.int (RM.endsTo (RM.farOf one other) (RM.esOf one) (RM.firstOf one) (RM.picksOf one other) i).2), v, w] ∧
            H4 p' = some (.lst ((RM.endsTo (RM.farOf one other) (RM.esOf one) (RM.firstOf one) (RM.picksOf one other) i).1.map V.int)) ∧ H4 r' = some (.lst ((RM.esOf one).map V.int)) ∧ Ex H H4) (fun H4 e4 => ⟨none, rfl, e4 p' _ k1, e4 r' _ k3, ex3.trans e4⟩) ?_ ?_
          · rintro i σ4 H4 hi ⟨w, rfl, m1, m3, ex4⟩
            rw [List.length_map] at hi
            have hi' : i < (RM.esOf one).length := by omega
            have len := RM.ends_len2 (RM.farOf one other) (RM.esOf one) (RM.firstOf one) (RM.picksOf one other) i
            have es : RM.endsTo (RM.farOf one other) (RM.esOf one) (RM.firstOf one) (RM.picksOf one other) (i + 1) = (if (RM.endsTo (RM.farOf one other) (RM.esOf one) (RM.firstOf one) (RM.picksOf one other) i).2 % 2 = 1 ∨ ((RM.endsTo (RM.farOf one other) (RM.esOf one) (RM.firstOf one) (RM.picksOf one other) i).1.length : Int) + ((RM.esOf one).length : Int) - (i : Int) ≤ 3 then (RM.endsTo (RM.farOf one other) (RM.esOf one) (RM.firstOf one) (RM.picksOf one other) i).1 ++ [RM.farOf one other + (RM.esOf one).getD i 0] else (RM.endsTo (RM.farOf one other) (RM.esOf one) (RM.firstOf one) (RM.picksOf one other) i).1, (RM.endsTo (RM.farOf one other) (RM.esOf one) (RM.firstOf one) (RM.picksOf one other) i).2 / 2) := rfl
            rw [es]
            generalize RM.endsTo (RM.farOf one other) (RM.esOf one) (RM.firstOf one) (RM.picksOf one other) i = st at *
            refine q_cut (M := fun σ5 H5 => σ5 = [some (.int rr), some (.int other), some (.ref p'), some (.ref q'), some (.ref r'), some (.int (RM.farOf one other)), some (.int st.2), v, some (.int (i : Int))] ∧
              H5 p' = some (.lst ((if st.2 % 2 = 1 ∨ (st.1.length : Int) + ((RM.esOf one).length : Int) - (i : Int) ≤ 3 then st.1 ++ [RM.farOf one other + (RM.esOf one).getD i 0] else st.1).map V.int)) ∧ H5 r' = some (.lst ((RM.esOf one).map V.int)) ∧ Ex H H5) ?_ ?_
            · refine s_when (b := decide (st.2 % 2 = 1) || decide (((st.1.map V.int).length : Int) + (((RM.esOf one).map V.int).length : Int) - (i : Int) ≤ 3)) (et_or (et_test (ev_op (ev_op (ev_var rfl) ev_c (rv_I (show (0 : Int) < 2 by decide))) ev_c rv_eqI)) fun _ => et_test (ev_op (ev_op (ev_op (ev_lenR (er_var rfl m1)) (ev_lenR (er_var rfl m3)) rv_I0) (ev_var rfl) rv_I0) ev_c rv_I0)) (fun hb H6 e6 => ?_) (fun hb H6 e6 => ?_)
              · have c : st.2 % 2 = 1 ∨ (st.1.length : Int) + ((RM.esOf one).length : Int) - (i : Int) ≤ 3 := by
                  rcases (Bool.or_eq_true _ _).mp hb with z | z
                  · exact .inl (of_decide_eq_true z)
                  · have := of_decide_eq_true z
                    rw [List.length_map, List.length_map] at this
                    exact .inr this
                rw [if_pos c]
                refine s_app (e6 p' _ m1) (ev_var rfl) (ev_op (ev_var rfl) (ev_ixR (er_var rfl (e6 r' _ m3)) (ev_var rfl) (atI_nat (intsAt hi'))) rv_I0) (by rw [List.length_map]; omega) fun H7 e7 => ?_
                refine ⟨rfl, ?_, ?_, (ex4.trans (e6.trans e7)).mut hp3⟩
                · rw [upd_same, List.map_append]
                  rfl
                · rw [upd_ne npr3.symm]
                  exact (e6.trans e7) r' _ m3
              · have c : ¬ (st.2 % 2 = 1 ∨ (st.1.length : Int) + ((RM.esOf one).length : Int) - (i : Int) ≤ 3) := by
                  obtain ⟨z1, z2⟩ := Bool.or_eq_false_iff.mp hb
                  have z2 := of_decide_eq_false z2
                  rw [List.length_map, List.length_map] at z2
                  rintro (q | q)
                  · exact of_decide_eq_false z1 q
                  · exact z2 q
                rw [if_neg c]
                exact ⟨rfl, e6 p' _ m1, e6 r' _ m3, ex4.trans e6⟩
            · rintro σ5 H5 ⟨rfl, m5, m6, ex5⟩
              refine s_asg (ev_op (ev_var rfl) ev_c (rv_I ⟨by decide, by decide⟩)) fun H6 e6 => ?_
              exact ⟨some (.int (i : Int)), rfl, e6 p' _ m5, e6 r' _ m6, ex5.trans e6⟩
          · rintro σ4 H4 ⟨w, rfl, m1, m3, ex4⟩
            have L2 : (((RM.esOf one).map V.int).length : Int).toNat = (RM.esOf one).length := by rw [List.length_map]; omega
            rw [L2] at m1
            refine s_retL (el_sortedR (er_var rfl m1)) fun l H6 hl6 e6 h6 => ?_
            exact k.go ex4 hl6 e6 h6
theorem ok_LCellAt (T : Txt K mg) : FnOk P w K mg base (L2N.CX P w) 1 T.fLCellAt T.dLCellAt ["_law_script", "_law_k"] (spCell K) := by
  refine T.FLCellAt.okN scLCellAt (fun vs H Q E h => ?_) (fun cdv A outer s H vs Q E hr h => ?_)
  · obtain ⟨a, ns, k, rfl, _⟩ := h
    rfl
  · obtain ⟨a, ns, k, rfl, hS, kq⟩ := h
    refine ⟨_, (pss_cons (ps_if (pt_cmpR op_lt (pv 1) (pe_callB call_len_seq (by rfl) T.z_len boot_len (pa_cons (pv 0) pa_nil)) (nomark _)) (pss_one (ps_ret (pe_ix ix_list (pv 0) (pv 1) (fun _ _ => rfl)))) pss_nil)
    (pss_one (ps_ret pe_int))), ?_⟩
    refine q_when (et_test (ev_op (ev_var rfl) (ev_len (ev_var rfl) hS) rv_I0)) (fun hb H1 e1 => ?_) (fun hb H1 e1 => ?_)
    · have hk : k < ns.length := by
        have := of_decide_eq_true hb
        rw [List.length_map] at this
        omega
      exact s_ret (ev_op (ev_var rfl) (ev_var rfl) (rv_ixL (ex_l e1 hS) (atI_nat (intsAt hk)))) fun H2 e2 => kq.go (e1.trans e2)
    · have hk : ¬ k < ns.length := by
        have := of_decide_eq_false hb
        rw [List.length_map] at this
        omega
      refine s_ret ev_c fun H2 e2 => ?_
      have e : ns.getD k 0 = 0 := by rw [List.getD_eq_getElem?_getD, List.getElem?_eq_none (by omega)]; rfl
      rw [e] at kq
      exact kq.go (e1.trans e2)
theorem ok_IsBase (T : Txt K mg) : FnOk P w K mg base (L2N.CX P w) 1 T.fIsBase T.dIsBase ["number"] spIsBase := by
  refine T.FIsBase.okN scIsBase (fun vs H Q E h => ?_) (fun cdv A outer s H vs Q E hr h => ?_)
  · obtain ⟨i, rfl, _⟩ := h
    rfl
  · obtain ⟨i, rfl, k⟩ := h
    refine ⟨_, (pss_one (ps_ret (pe_and (pe_callB call_isi (by rfl) T.z_isinstance boot_isinstance (pa_cons (pv 0) (pa_cons (pe_bltn (v := .ty "int") (by rfl) T.z_int boot_int rfl) pa_nil))) (pe_and (pe_chain op_le op_le pe_int (pv 0) pe_int) (pe_one (pe_cmpR (op_eqD hr.eq) (pe_op op_mod (pv 0) pe_int) pe_int (nomark _))))))), ?_⟩
    refine s_ret (v := .bl (true && ((decide (3 ≤ i) && decide (i ≤ 999999)) && decide (i % 2 = 1)))) (ev_andV (ev_cb (ea_cons (ev_var rfl) (ea_cons ev_c ea_nil)) (rc_isiI (by decide +kernel))) fun _ => ev_andV (ev_chainI (f := fun i j => decide (i ≤ j)) (g := fun i j => decide (i ≤ j)) ev_c (ev_var rfl) ev_c) fun _ => ev_op (ev_op (ev_var rfl) ev_c (rv_I (show (0 : Int) < 2 by decide))) ev_c rv_eqI) fun H1 e1 => ?_
    rw [Bool.true_and]
    exact k.go e1
theorem ok_Common (T : Txt K mg) : FnOk P w K mg base (L2N.CX P w) 1 T.fCommon T.dCommon ["one", "other"] spCommon := by
  refine T.FCommon.okN scCommon (fun vs H Q E h => ?_) (fun cdv A outer s H vs Q E hr h => ?_)
  · obtain ⟨a, b, rfl, _⟩ := h
    rfl
  · obtain ⟨a, b, rfl, ha, hb, k⟩ := h
    refine ⟨_, (pss_cons (ps_while (passes_of rfl) (pt_cmpR (op_neD hr.eq) (pv 1) pe_int (nomark _)) (pss_one (ps_par2 (i := 0) (j := 1) (by rfl) scCommon.nd rfl rfl (by decide) rfl rfl (pa_cons (pv 1) (pa_cons (pe_op op_mod (pv 0) (pv 1)) pa_nil)) (by rfl))))
    (pss_one (ps_ret (pv 0)))), ?_⟩
    refine q_while (fun m σ H' => ∃ x y : Int, σ = [some (.int x), some (.int y)] ∧ Ex H H' ∧ 0 ≤ x ∧ 0 ≤ y ∧ K01.Eu a b x y ∧ m = y.toNat) b.toNat ⟨a, b, rfl, Ex.refl _, ha, hb, ⟨rfl⟩, rfl⟩ ?_
    rintro m σ H' ⟨x, y, rfl, ex, hx, hy, eu, rfl⟩
    refine ⟨!decide (y = 0), et_test (ev_op (ev_var rfl) ev_c rv_neI), fun hb H1 e1 => ⟨_, fun _ _ z => z, ?_⟩, fun hb H1 e1 => ?_⟩
    · have y0 : y ≠ 0 := by simpa using hb
      have r1 := Int.emod_lt_of_pos x (show 0 < y by omega)
      have r0 := Int.emod_nonneg x y0
      have em := Int.emod_add_mul_ediv x y
      refine s_par2 (ea_cons (ev_var rfl) (ea_cons (ev_op (ev_var rfl) (ev_var rfl) (rv_I (show 0 < y by omega))) ea_nil)) fun H2 e2 => ?_
      exact ⟨(x % y).toNat, by omega, y, x % y, rfl, (ex.trans e1).trans e2, hy, r0, (K01.eu_turn (k := x / y) eu (by omega) r0 hy).2.2, rfl⟩
    · have y0 : y = 0 := by simpa using hb
      refine s_ret (ev_var rfl) fun H2 e2 => ?_
      rw [K01.eu_out eu hx y0]
      exact k.go ((ex.trans e1).trans e2)
theorem ok_GoesBehind (T : Txt K mg) : FnOk P w K mg base (L2N.CX P w) 2 T.fGoesBehind T.dGoesBehind ["base", "ahead"] (spGoes K) := by
  have GCommon := ok_Common (P := P) (w := w) (base := base) T
  refine T.FGoesBehind.okN scGoesBehind (fun vs H Q E h => ?_) (fun cdv A outer s H vs Q E hr h => ?_)
  · obtain ⟨b, a, ns, rfl, _⟩ := h
    rfl
  · obtain ⟨b, a, ns, rfl, hx, b0, ns0, k⟩ := h
    refine ⟨_, (pss_cons (ps_for (passes_of rfl) (by rfl) (pi_list (pv 1)) (pg_name (i := 2) scGoesBehind.nd rfl (Or.inl rfl)) (pss_one (ps_if (PW.pt (pw_or (pt_cmpR op_ge (pv 2) (pv 0) (nomark _)) (pw_or1 (pt_cmpR op_gt (RXN.pe_callX GCommon (hr.mono (by decide)) (by rfl) T.gCommon T.kCommon T.bCommon (L2N.takes_of rfl rfl rfl rfl) (pa_cons (pv 2) (pa_cons (pv 0) pa_nil))) pe_int (nomark _))))) (pss_one (ps_ret pe_bl)) pss_nil)))
    (pss_one (ps_ret pe_bl))), ?_⟩
    refine q_forLn (K := K) (ev_var rfl) hx (fun i σ2 H2 => (∃ v, σ2 = [some (.int b), some (.ref a), v] ∧ Ex H H2) ∧ (ns.take i).all (behindB b) = true) (fun H2 e2 => ⟨⟨none, rfl, e2⟩, rfl⟩) (fun i σ2 H2 _ ⟨⟨_, _, ex⟩, _⟩ => ex_l ex hx) ?_ ?_
    · rintro i x σ2 H2 hx' ⟨⟨v, rfl, ex⟩, al⟩
      obtain ⟨z, hz, rfl⟩ := int_item hx'
      have tk : ns.take (i + 1) = ns.take i ++ [z] := by rw [List.take_add_one, hz]; rfl
      have zin : z ∈ ns := List.mem_of_getElem? hz
      refine s_when (b := decide (b ≤ z) || decide (1 < K01.G z b)) (et_or (et_test (ev_op (ev_var rfl) (ev_var rfl) rv_I0)) fun _ => et_test (ev_op (ev_callS (z := .int (K01.G z b)) (ea_cons (ev_var rfl) (ea_cons (ev_var rfl) ea_nil)) (fun H3 e3 Q q E => ⟨z, b, rfl, ns0 z zin, b0, q⟩)) ev_c rv_I0)) (fun hb H3 e3 => ?_) (fun hb H3 e3 => ?_)
      · refine s_ret ev_c fun H4 e4 => ?_
        have no : ns.all (behindB b) = false := by
          rw [List.all_eq_false]
          refine ⟨z, zin, ?_⟩
          unfold behindB
          rw [Bool.and_eq_true, decide_eq_true_iff, decide_eq_true_iff]
          rcases (Bool.or_eq_true _ _).mp hb with q | q
          · have := of_decide_eq_true q
            omega
          · have := of_decide_eq_true q
            omega
        rw [no] at k
        exact k.go ((ex.trans e3).trans e4)
      · refine ⟨⟨some (.int z), rfl, ex.trans e3⟩, ?_⟩
        obtain ⟨z1, z2⟩ := Bool.or_eq_false_iff.mp hb
        have z1 := of_decide_eq_false z1
        have z2 := of_decide_eq_false z2
        rw [tk, List.all_append, al, Bool.true_and, List.all_cons, List.all_nil, Bool.and_true]
        unfold behindB
        rw [decide_eq_true (show z < b by omega), decide_eq_true (show K01.G z b ≤ 1 by omega)]
        rfl
    · rintro σ2 H2 ⟨⟨v, rfl, ex⟩, al⟩
      rw [List.length_map, List.take_length] at al
      rw [al] at k
      exact s_ret ev_c fun H3 e3 => k.go (ex.trans e3)
theorem ok_AreBases (T : Txt K mg) : FnOk P w K mg base (L2N.CX P w) 3 T.fAreBases T.dAreBases ["numbers"] (spAre K) := by
  have GIsBase := ok_IsBase (P := P) (w := w) (base := base) T
  have GGoesBehind := ok_GoesBehind (P := P) (w := w) (base := base) T
  refine T.FAreBases.okN scAreBases (fun vs H Q E h => ?_) (fun cdv A outer s H vs Q E hr h => ?_)
  · obtain ⟨a, ns, rfl, _⟩ := h
    rfl
  · obtain ⟨a, ns, rfl, hx, ky, kn⟩ := h
    refine ⟨_, (pss_cons (ps_if (PW.pt (pw_or (pt_not (pt_val (pe_callB call_isi (by rfl) T.z_isinstance boot_isinstance (pa_cons (pv 0) (pa_cons (pe_bltn (v := .ty "list") (by rfl) T.z_list boot_list rfl) pa_nil))))) (pw_or1 (pt_not (pt_chain op_le op_le pe_int (pe_callB call_len_seq (by rfl) T.z_len boot_len (pa_cons (pv 0) pa_nil)) pe_int))))) (pss_one (ps_ret pe_bl)) pss_nil)
    (pss_cons (ps_for (passes_of rfl) (by rfl) (pi_enum (by rfl) T.z_enumerate (pa_cons (pv 0) pa_nil)) (pg_tup (by rfl) (pgs_cons (pg_name (i := 1) scAreBases.nd rfl (Or.inl rfl)) (pgs_cons (pg_name (i := 2) scAreBases.nd rfl (Or.inl rfl)) pgs_nil))) (pss_one (ps_if (PW.pt (pw_or (pt_not (pt_val (RXN.pe_callX GIsBase (hr.mono (by decide)) (by rfl) T.gIsBase T.kIsBase T.bIsBase (L2N.takes_of rfl rfl rfl rfl) (pa_cons (pv 2) pa_nil)))) (pw_or1 (pt_not (pt_val (RXN.pe_callX GGoesBehind (hr.mono (by decide)) (by rfl) T.gGoesBehind T.kGoesBehind T.bGoesBehind (L2N.takes_of rfl rfl rfl rfl) (pa_cons (pv 2) (pa_cons (pe_slice sl_list (pv 0) po_none (po_some (pv 1))) pa_nil)))))))) (pss_one (ps_ret pe_bl)) pss_nil)))
    (pss_one (ps_ret pe_bl)))), ?_⟩
    refine q_when (b := (!true) || !(decide (3 ≤ ((ns.map V.int).length : Int)) && decide (((ns.map V.int).length : Int) ≤ 14))) (et_or (et_not (et_B (ev_cb (ea_cons (ev_var rfl) (ea_cons ev_c ea_nil)) (rc_isiSq hx (by decide +kernel))))) fun _ => et_not (et_test (ev_chainI (f := fun i j => decide (i ≤ j)) (g := fun i j => decide (i ≤ j)) ev_c (ev_len (ev_var rfl) hx) ev_c))) (fun hb H1 e1 => ?_) (fun hb H1 e1 => ?_)
    · have no : ¬ RM.Good ns := fun G => by
        have l3 := G.len3
        have l14 := G.len14
        rw [List.length_map, decide_eq_true (show (3 : Int) ≤ (ns.length : Int) by omega), decide_eq_true (show (ns.length : Int) ≤ 14 by omega)] at hb
        cases hb
      exact s_ret ev_c fun H2 e2 => (kn no).go (e1.trans e2)
    · have len : 3 ≤ ns.length ∧ ns.length ≤ 14 := by
        rw [Bool.not_true, Bool.false_or, Bool.not_eq_false', Bool.and_eq_true, decide_eq_true_iff, decide_eq_true_iff, List.length_map] at hb
        omega
      refine q_forE (K := K) (ea_cons (ev_var rfl) ea_nil) (ex_l e1 hx) (fun i σ2 H2 => (∃ v w, σ2 = [some (.ref a), v, w] ∧ Ex H H2) ∧ RM.Upto ns i) (fun H2 e2 => ⟨⟨none, none, rfl, e1.trans e2⟩, ⟨fun j hj => absurd hj (Nat.not_lt_zero j), fun j k _ hk => absurd hk (Nat.not_lt_zero k)⟩⟩) (fun i σ2 H2 p => ex_l p.1.choose_spec.choose_spec.2 hx) ?_ ?_
      · rintro i x σ2 H2 H3 hx' ⟨⟨v, w, rfl, ex⟩, U⟩ e3
        obtain ⟨z, hz, rfl⟩ := int_item hx'
        have hi : i < ns.length := (List.getElem?_eq_some_iff.mp hz).1
        have ez : ns.getD i 0 = z := by rw [List.getD_eq_getElem?_getD, hz]; rfl
        have ahead : ∀ x ∈ ns.take i, ∃ j, j < i ∧ ns.getD j 0 = x := fun x hx => by
          obtain ⟨j, hj, e⟩ := List.getElem_of_mem hx
          rw [List.length_take] at hj
          rw [List.getElem_take] at e
          exact ⟨j, by omega, by rw [List.getD_eq_getElem?_getD, List.getElem?_eq_getElem (by omega : j < ns.length), ← e]; rfl⟩
        have pos : ∀ x ∈ ns.take i, 0 ≤ x := fun x hx => by
          obtain ⟨j, hj, e⟩ := ahead x hx
          have := (U.each j hj).1
          omega
        have bigs : isBaseB z = true → 3 ≤ z ∧ z ≤ 999999 ∧ z % 2 = 1 := fun hb => by
          unfold isBaseB at hb
          rw [Bool.and_eq_true, Bool.and_eq_true, decide_eq_true_iff, decide_eq_true_iff, decide_eq_true_iff] at hb
          exact ⟨hb.1.1, hb.1.2, hb.2⟩
        refine s_when (b := !isBaseB z || !((ns.take i).all (behindB z))) (et_or (et_not (et_B (ev_callS (z := .bl (isBaseB z)) (ea_cons (ev_var rfl) ea_nil) fun H4 e4 Q q E => ⟨z, rfl, q⟩))) fun hb => et_not (et_B (?_))) (fun hb H4 e4 => ?_) (fun hb H4 e4 => ?_)
        · have b1 : isBaseB z = true := by simpa using hb
          have sl : EvL (tSl (rSlL K) (tVar 0) tNoPart (tPart (tVar 1))) [some (.ref a), some (.int (i : Int)), some (.int z)] H3 ((ns.map V.int).take i) := el_to (ev_var rfl) (ex_l (ex.trans e3) hx) (ev_var rfl)
          rw [← List.map_take] at sl
          exact ev_goes (ev_var rfl) sl (by have := bigs b1; omega) pos
        · have no : ¬ RM.Good ns := fun G => by
            have V := RM.good_upto G
            have b1 : isBaseB z = true := by
              have q := V.each i hi
              rw [ez] at q
              unfold isBaseB
              rw [decide_eq_true q.1, decide_eq_true q.2.1, decide_eq_true q.2.2]
              rfl
            have b2 : (ns.take i).all (behindB z) = true := by
              rw [List.all_eq_true]
              intro x hx
              obtain ⟨j, hj, e⟩ := ahead x hx
              have q := V.pair j i hj hi
              rw [e, ez] at q
              unfold behindB K01.G
              rw [decide_eq_true q.1, decide_eq_true (show ((Int.gcd x z : Nat) : Int) ≤ 1 by omega)]
              rfl
            rw [b1, b2] at hb
            cases hb
          exact s_ret ev_c fun H5 e5 => (kn no).go (((ex.trans e3).trans e4).trans e5)
        · refine ⟨⟨some (.int (i : Int)), some (.int z), rfl, (ex.trans e3).trans e4⟩, ?_⟩
          obtain ⟨z1, z2⟩ := Bool.or_eq_false_iff.mp hb
          have b1 : isBaseB z = true := by simpa using z1
          have b2 : (ns.take i).all (behindB z) = true := by simpa using z2
          refine ⟨fun j hj => ?_, fun j k jk hk => ?_⟩
          · by_cases c : j = i
            · rw [c, ez]
              exact bigs b1
            · exact U.each j (by omega)
          · by_cases c : k = i
            · subst c
              rw [ez]
              have q := List.all_eq_true.mp b2 (ns.getD j 0) (by
                have e : (ns.take k).getD j 0 = ns.getD j 0 := by
                  rw [List.getD_eq_getElem?_getD, List.getElem?_take, if_pos jk, List.getD_eq_getElem?_getD]
                rw [← e]
                exact RM.getD_in (by rw [List.length_take]; omega))
              unfold behindB K01.G at q
              rw [Bool.and_eq_true, decide_eq_true_iff, decide_eq_true_iff] at q
              exact ⟨q.1, by omega⟩
            · exact U.pair j k jk (by omega)
      · rintro σ2 H2 ⟨⟨v, w, rfl, ex⟩, U⟩
        rw [List.length_map] at U
        exact s_ret ev_c fun H3 e3 => (ky (RM.upto_good len.1 len.2 U)).go (ex.trans e3)
theorem ok_Turned (T : Txt K mg) : FnOk P w K mg base (L2N.CX P w) 2 T.fTurned T.dTurned ["number", "base"] (spTurned T.CNoTurn) := by
  have GCommon := ok_Common (P := P) (w := w) (base := base) T
  refine T.FTurned.okN scTurned (fun vs H Q E h => ?_) (fun cdv A outer s H vs Q E hr h => ?_)
  · obtain ⟨n, b, rfl, _⟩ := h
    rfl
  · obtain ⟨n, b, rfl, n0, b2, bw, kr, kq⟩ := h
    have r1 := Int.emod_lt_of_pos n (show 0 < b by omega)
    have r0 := Int.emod_nonneg n (show b ≠ 0 by omega)
    have em := Int.emod_add_mul_ediv n b
    have eg : K01.G n b = K01.G b (n % b) := K01.G_step (k := n / b) (by omega)
    refine ⟨_, (pss_cons (ps_set (i := 2) scTurned.nd rfl (Or.inl rfl) (pe_op op_mod (pv 0) (pv 1)))
    (pss_cons (ps_if (PW.pt (pw_or (pt_cmpR (op_eqD hr.eq) (pv 2) pe_int (nomark _)) (pw_or1 (pt_cmpR op_gt (RXN.pe_callX GCommon (hr.mono (by decide)) (by rfl) T.gCommon T.kCommon T.bCommon (L2N.takes_of rfl rfl rfl rfl) (pa_cons (pv 1) (pa_cons (pv 2) pa_nil))) pe_int (nomark _))))) (pss_one (L2N.ps_raise (by rfl) (L2N.takes_of rfl rfl rfl rfl) (L2N.pmk_own PySem.F.excBase_ValueError T.xNoTurn T.gNoTurn T.kNoTurn (raises_own T.bNoTurn T.tNoTurn) (by rfl)))) pss_nil)
    (pss_cons (ps_par2 (i := 3) (j := 4) (by rfl) scTurned.nd rfl rfl (by decide) rfl rfl (pa_cons (pv 1) (pa_cons (pv 2) pa_nil)) (by rfl))
    (pss_cons (ps_asg (pe_tup (pa_cons pe_int (pa_cons pe_int pa_nil))) (pg_tup (by rfl) (pgs_cons (pg_name (i := 5) scTurned.nd rfl (Or.inl rfl)) (pgs_cons (pg_name (i := 6) scTurned.nd rfl (Or.inl rfl)) pgs_nil))))
    (pss_cons (ps_while (passes_of rfl) (pt_cmpR op_gt (pv 4) pe_int (nomark _)) (pss_cons (ps_set (i := 7) scTurned.nd rfl (Or.inl rfl) (pe_op op_fdivW (pv 3) (pv 4)))
      (pss_cons (ps_par2 (i := 3) (j := 4) (by rfl) scTurned.nd rfl rfl (by decide) rfl rfl (pa_cons (pv 4) (pa_cons (pe_op op_sub (pv 3) (pe_op op_mulA (pv 7) (pv 4))) pa_nil)) (by rfl))
      (pss_one (ps_par2 (i := 5) (j := 6) (by rfl) scTurned.nd rfl rfl (by decide) rfl rfl (pa_cons (pv 6) (pa_cons (pe_op op_sub (pv 5) (pe_op op_mulA (pv 7) (pv 6))) pa_nil)) (by rfl))))))
    (pss_one (ps_ret (pe_op op_mod (pv 6) (pv 1))))))))), ?_⟩
    refine q_asg (ev_op (ev_var rfl) (ev_var rfl) (rv_I (show 0 < b by omega))) fun H1 e1 => ?_
    refine q_when (b := decide (n % b = 0) || decide (1 < K01.G b (n % b))) (et_or (et_test (ev_op (ev_var rfl) ev_c rv_eqI)) fun _ => et_test (ev_op (ev_callS (z := .int (K01.G b (n % b))) (ea_cons (ev_var rfl) (ea_cons (ev_var rfl) ea_nil)) (fun H2 e2 Q q E => ⟨b, n % b, rfl, by omega, r0, q⟩)) ev_c rv_I0)) (fun hb H2 e2 => ?_) (fun hb H2 e2 => ?_)
    · have g1 : 1 < K01.G n b := by
        rw [eg]
        rcases Bool.or_eq_true _ _ ▸ hb with z | z
        · have z0 : n % b = 0 := of_decide_eq_true z
          rw [z0, K01.G_zero (by omega)]
          omega
        · exact of_decide_eq_true z
      exact kr g1 H2 (e1.trans e2)
    · obtain ⟨z1, z2⟩ := Bool.or_eq_false_iff.mp hb
      have l0 : ¬ n % b = 0 := of_decide_eq_false z1
      have g1 : ¬ 1 < K01.G b (n % b) := of_decide_eq_false z2
      refine q_par2 (ea_cons (ev_var rfl) (ea_cons (ev_var rfl) ea_nil)) fun H3 e3 => ?_
      refine ⟨by show 2 ≤ sizeLine; decide, fun tp htp => ?_⟩
      refine ⟨tp, [.int 0, .int 1], rfl, .inl (.inl upd_same), rfl, .int 0, [.int 1], rfl, .int 1, [], rfl, rfl, ?_⟩
      have e4 : Ex H3 (upd H3 tp (.tup [.int 0, .int 1])) := Ex.new htp
      have st := K01.inv_start g1 b2 (by omega) r1
      refine q_while (fun m σ H' => ∃ (x y u w : Int) (v : Option V), σ = [some (.int n), some (.int b), some (.int (n % b)), some (.int x), some (.int y), some (.int u), some (.int w), v] ∧ Ex H H' ∧ 1 ≤ y ∧ y ≤ x ∧ x ≤ b ∧ -b ≤ w ∧ w ≤ b ∧ K01.Inv b (n % b) x y u w ∧ m = y.toNat)
        (n % b).toNat ⟨b, n % b, 0, 1, none, rfl, ((e1.trans e2).trans e3).trans e4, st.1, st.2.1, st.2.2.1, st.2.2.2.1, st.2.2.2.2.1, st.2.2.2.2.2, rfl⟩ ?_
      rintro m σ H' ⟨x, y, u, w, v, rfl, ex, y1, yx, xb, w0, w1, I, rfl⟩
      refine ⟨decide (1 < y), et_test (ev_op (ev_var rfl) ev_c rv_I0), fun hy H5 e5 => ⟨_, fun _ _ z => z, ?_⟩, fun hy H5 e5 => ?_⟩
      · have y2 : 1 < y := of_decide_eq_true hy
        have q0 := Int.emod_add_mul_ediv x y
        have q1 := Int.emod_lt_of_pos x (show 0 < y by omega)
        have q2 := Int.emod_nonneg x (show y ≠ 0 by omega)
        have ql := K01.le_mul (y := y) (q := x / y) (r := x % y) (x := x) (by omega) q2 (by omega) q1 (by omega)
        have big : ∀ z : Int, -b ≤ z → z ≤ b → z.natAbs < 2 ^ 240 := fun z h1 h2 => by omega
        have fw : y.natAbs < 2 ^ 240 := big y (by omega) (by omega)
        refine q_asg (ev_op (ev_var rfl) (ev_var rfl) (rv_I (wide_div (by omega) fw (by decide) (by decide)))) fun H6 e6 => ?_
        refine q_par2 (ea_cons (ev_var rfl) (ea_cons (ev_op (ev_var rfl) (ev_op (ev_var rfl) (ev_var rfl) (rv_I (mul_w 240 (by decide) (by decide) (big _ (by omega) (by omega)) fw))) rv_I0) ea_nil)) fun H7 e7 => ?_
        refine s_par2 (ea_cons (ev_var rfl) (ea_cons (ev_op (ev_var rfl) (ev_op (ev_var rfl) (ev_var rfl) (rv_I (mul_w 240 (by decide) (by decide) (big _ (by omega) (by omega)) (big w w0 w1)))) rv_I0) ea_nil)) fun H8 e8 => ?_
        obtain ⟨t1, t2, t3, t4, t5, t6⟩ := K01.inv_turn (q := x / y) (r := x % y) I (by omega) q2 q1 y2 yx xb
        exact ⟨(x - x / y * y).toNat, K01.inv_less (r := x % y) (by omega) q2 q1, y, x - x / y * y, w, u - x / y * w, _, rfl, (((ex.trans e5).trans e6).trans e7).trans e8, t1, t2, t3, t4, t5, t6, rfl⟩
      · have y2 : ¬ 1 < y := of_decide_eq_false hy
        refine s_ret (ev_op (ev_var rfl) (ev_var rfl) (rv_I (show 0 < b by omega))) fun H6 e6 => ?_
        have w2 := Int.emod_add_mul_ediv w b
        have w3 := Int.emod_nonneg w (show b ≠ 0 by omega)
        have w4 := Int.emod_lt_of_pos w (show 0 < b by omega)
        have p1 := K01.out_pos (k2 := w / b) (r := w % b) I b2 y1 y2 (by omega) w3
        have p2 := Int.emod_add_mul_ediv (w % b * n) b
        have p3 := K01.inv_out (n := n) (k := n / b) (k2 := w / b) (r := w % b) (m := (w % b * n) % b) (k3 := (w % b * n) / b) I b2 y1 y2 (by omega) (by omega) (by omega) (Int.emod_nonneg _ (by omega)) (Int.emod_lt_of_pos _ (by omega))
        exact (kq (by rw [eg]; exact g1) (w % b) p1 w4 p3).go ((ex.trans e5).trans e6)
theorem ok_Multiplied (T : Txt K mg) : FnOk P w K mg base (L2N.CX P w) 1 T.fMultiplied T.dMultiplied ["numbers"] (spMult K) := by
  refine T.FMultiplied.okN scMultiplied (fun vs H Q E h => ?_) (fun cdv A outer s H vs Q E hr h => ?_)
  · obtain ⟨a, ns, rfl, _⟩ := h
    rfl
  · obtain ⟨a, ns, rfl, hx, small, k⟩ := h
    refine ⟨_, (pss_cons (ps_set (i := 1) scMultiplied.nd rfl (Or.inl rfl) pe_int)
    (pss_cons (ps_for (passes_of rfl) (by rfl) (pi_list (pv 0)) (pg_name (i := 2) scMultiplied.nd rfl (Or.inl rfl)) (pss_one (ps_set (i := 1) scMultiplied.nd rfl (Or.inl rfl) (pe_op op_mulA (pv 1) (pv 2)))))
    (pss_one (ps_ret (pv 1))))), ?_⟩
    refine q_asg ev_c fun H1 e1 => ?_
    refine q_forLn (K := K) (ev_var rfl) (ex_l e1 hx) (fun i σ2 H2 => ∃ v, σ2 = [some (.ref a), some (.int (RM.prod (ns.take i))), v] ∧ Ex H H2) (fun H2 e2 => ⟨none, rfl, e1.trans e2⟩) (fun i σ2 H2 _ ⟨_, _, ex⟩ => ex_l ex hx) ?_ ?_
    · rintro i x σ2 H2 hx' ⟨v, rfl, ex⟩
      obtain ⟨z, hz, rfl⟩ := int_item hx'
      have tk : ns.take (i + 1) = ns.take i ++ [z] := by rw [List.take_add_one, hz]; rfl
      refine s_asg (ev_op (ev_var rfl) (ev_var rfl) (rv_I (mul_r (small z (List.mem_of_getElem? hz))))) fun H3 e3 => ?_
      refine ⟨some (.int z), ?_, ex.trans e3⟩
      rw [tk, RM.prod_snoc]
      rfl
    · rintro σ2 H2 ⟨v, rfl, ex⟩
      refine s_ret (ev_var rfl) fun H3 e3 => ?_
      rw [List.length_map, List.take_length]
      exact k.go (ex.trans e3)
theorem ok_BoardInit (T : Txt K mg) : FnOk P w K mg base (L2N.CX P w) 4 T.fBoardInit T.dBoardInit ["self", "bases"] (spInit K T.CBoard T.CNoBases) := by
  have GAreBases := ok_AreBases (P := P) (w := w) (base := base) T
  have GTurned := ok_Turned (P := P) (w := w) (base := base) T
  have GMultiplied := ok_Multiplied (P := P) (w := w) (base := base) T
  refine T.FBoardInit.okN scBoardInit (fun vs H Q E h => ?_) (fun cdv A outer s H vs Q E hr h => ?_)
  · obtain ⟨x, dx, a, bs, rfl, _⟩ := h
    rfl
  · obtain ⟨x, dx, a, bs, rfl, hx, hdx, ha, l1000, ky, kn⟩ := h
    refine ⟨_, (pss_cons (ps_if (pt_not (pt_val (RXN.pe_callX GAreBases (hr.mono (by decide)) (by rfl) T.gAreBases T.kAreBases T.bAreBases (L2N.takes_of rfl rfl rfl rfl) (pa_cons (pv 1) pa_nil)))) (pss_one (L2N.ps_raise (by rfl) (L2N.takes_of rfl rfl rfl rfl) (L2N.pmk_own PySem.F.excBase_ValueError T.xNoBases T.gNoBases T.kNoBases (raises_own T.bNoBases T.tNoBases) (by rfl)))) pss_nil)
    (pss_cons (ps_fld (pv 0) (pe_callTy call_list_of (by rfl) T.z_list boot_list (pa_cons (pv 1) pa_nil)) rfl)
    (pss_one (ps_fld (pv 0) (pe_lc (own := [("place", 2), ("base", 3)]) (g := g2 K 2 3) (tt := tYes) (by rfl) scBoardInit.nd (pi_enum (by rfl) T.z_enumerate (pa_cons (pv 1) pa_nil)) (blkOk_by (N := ["self", "bases", "place", "base"]) (sc := defScope sBoardInit) (by decide +kernel)) (fun _ _ _ _ _ => (pg_tup (by rfl) (pgs_cons (pg_name (i := 2) scBoardInit.nd rfl (Or.inl rfl)) (pgs_cons (pg_name (i := 3) scBoardInit.nd rfl (Or.inl rfl)) pgs_nil)))) (fun _ _ _ _ _ => pts_nil) (fun _ _ _ _ _ => (RXN.pe_callX GTurned (hr.mono (by decide)) (by rfl) T.gTurned T.kTurned T.bTurned RXN.takes0 (pa_cons (RXN.pe_callX GMultiplied (hr.mono (by decide)) (by rfl) T.gMultiplied T.kMultiplied T.bMultiplied RXN.takes0 (pa_cons (pe_slice (sl_listK (K := K) rfl) (pv 1) po_none (po_some (pv 2))) pa_nil)) (pa_cons (pv 3) pa_nil))))) rfl)))), ?_⟩
    by_cases G : RM.Good bs
    · have l14 := G.len14
      refine q_when (b := !true) (et_not (et_B (ev_callS (z := .bl true) (ea_cons (ev_var rfl) ea_nil) fun H1 e1 Q k E => ⟨a, bs, rfl, ex_l e1 ha, fun _ => k, fun z => absurd G z⟩))) (fun hb => absurd hb (by decide)) (fun _ H1 e1 => ?_)
      refine q_fldL (el_list (K := K) (ev_var rfl) (ex_l e1 ha)) (ev_var rfl) (e1 x _ hx) T.cBoard T.nBoard_bases (by decide) fun l H3 hl e2 gl => ?_
      have E3 := e1.trans e2
      have nlx : l ≠ x := fun z => by rw [z, e1 x _ hx] at hl; cases hl
      -- the list handed in is another object than the board
      have keep : ∀ {o : HO}, SqL K (upd H3 x o) a (bs.map V.int) := fun {o} => by
        rcases ex_l E3 ha with (h | ⟨u, h⟩) | h
        · exact .inl (.inl (by rw [upd_ne (ne_of h (E3 x _ hx) (by intro z; cases z))]; exact h))
        · exact .inl (.inr ⟨u, by rw [upd_ne (ne_of h (E3 x _ hx) (by intro z; cases z))]; exact h⟩)
        · exact .inr h
      have gl4 : (upd H3 x (.ins T.CBoard dx (putF "bases" (.ref l) []))) l = some (.lst (bs.map V.int)) := by
        rw [upd_ne nlx]
        exact gl
      have gx4 : (upd H3 x (.ins T.CBoard dx (putF "bases" (.ref l) []))) x = some (.ins T.CBoard dx [("bases", .ref l)]) := upd_same
      have rest4 : ∀ c o, c ≠ x → H c = some o → (upd H3 x (.ins T.CBoard dx (putF "bases" (.ref l) []))) c = some o := fun c o ne hc => by
        rw [upd_ne ne]
        exact E3 c o hc
      have keep4 := keep (o := .ins T.CBoard dx (putF "bases" (.ref l) []))
      generalize upd H3 x (.ins T.CBoard dx (putF "bases" (.ref l) [])) = H4 at gl4 gx4 rest4 keep4
      -- the turns
      have tn : ∃ ts : List Int, RM.TurnsOf bs ts := by
        have one : ∀ i, i < bs.length → ∃ r : Int, (0 < r ∧ r < bs.getD i 0) ∧ (r * RM.prod (bs.take i)) % bs.getD i 0 = 1 := fun i hi => by
          obtain ⟨r, r0, r1, m⟩ := RM.turn_is (G.at_ hi).1 (G.ahead hi)
          exact ⟨r, ⟨r0, r1⟩, m⟩
        refine ⟨(List.range bs.length).map fun i => if h : i < bs.length then (one i h).choose else 0, by rw [List.length_map, List.length_range], fun i hi => ?_⟩
        have e : ((List.range bs.length).map fun i => if h : i < bs.length then (one i h).choose else 0).getD i 0 = (one i hi).choose := by
          rw [List.getD_eq_getElem?_getD, List.getElem?_map, List.getElem?_range hi]
          show (if h : i < bs.length then (one i h).choose else 0) = _
          rw [dif_pos hi]
        rw [e]
        exact (one i hi).choose_spec
      obtain ⟨ts, TT⟩ := tn
      have cl : EvL (tLc (iEnum K (tCons (tVar 1) tNil)) (g2 K 2 3) tYes (tCallS (spTurned T.CNoTurn) (WE fun _ _ _ _ => False) (tCons (tCallS (spMult K) (WE fun _ _ _ _ => False) (tCons (tSl (rSlL K) (tVar 1) tNoPart (tPart (tVar 2))) tNil)) (tCons (tVar 3) tNil))) [2, 3]) [some (.ref x), some (.ref a), none, none] H4 (ts.map V.int) := by
        refine el_lcE (ea_cons (ev_var rfl) ea_nil) keep4 (by omega) (fun _ _ => rfl) TT.1 fun i hi => ?_
        have t := TT.2 i hi
        have small : ∀ y ∈ bs.take i, -(2 ^ 64) < y ∧ y < 2 ^ 64 := fun y hy => p64 (by have := G.each y (List.mem_of_mem_take hy); omega)
        have pos : 0 < RM.prod (bs.take i) := RM.prod_pos _ fun y hy => G.pos y (List.mem_of_mem_take hy)
        have gg : ¬ 1 < K01.G (RM.prod (bs.take i)) (bs.getD i 0) := by
          have q : Int.gcd (bs.getD i 0) (RM.prod (bs.take i)) = 1 := G.ahead hi
          unfold K01.G
          rw [Int.gcd_comm, q]
          decide
        refine ev_turned (ea_cons (ev_mult (ns := bs.take i) (el_is (el_to (ev_var rfl) keep4 (ev_var rfl)) (by rw [List.map_take])) small) (ea_cons (ev_var rfl) ea_nil)) (by omega) (G.at_ hi) gg t.1.1 t.1.2 t.2
      refine s_fldL cl (ev_var rfl) gx4 T.cBoard T.nBoard__turns (by show 1 < 1000; decide) fun t H6 ht E6 gt => ?_
      have ntx : t ≠ x := fun z => by rw [z, gx4] at ht; cases ht
      refine ky G [l, t] _ (fun o ho => ?_) (fun c o ne hc => ?_) ⟨⟨dx, putF "_turns" (.ref t) [("bases", .ref l)], l, upd_same, rfl, List.mem_cons_self .., ?_, fun m hm => ?_⟩, fun o ho => ?_, ⟨dx, putF "_turns" (.ref t) [("bases", .ref l)], t, ts, upd_same, rfl, List.mem_cons_of_mem _ (List.mem_cons_self ..), ?_, TT⟩⟩
      · rcases List.mem_cons.mp ho with rfl | ho
        · exact fresh_back e1 hl
        · rcases List.mem_cons.mp ho with rfl | ho
          · cases c : H o with
            | none => rfl
            | some u => rw [rest4 o u ntx c] at ht; cases ht
          · cases ho
      · rw [upd_ne ne]
        exact E6 c _ (rest4 c o ne hc)
      · rw [upd_ne nlx]
        exact E6 l _ gl4
      · have h6 : m = "room" ∨ m = "rests" ∨ m = "figures" ∨ m = "tells" ∨ m = "number" ∨ m = "compared" := by simpa [meths] using hm
        rcases h6 with rfl | rfl | rfl | rfl | rfl | rfl <;> rfl
      · rcases List.mem_cons.mp ho with rfl | ho
        · exact ⟨_, by rw [upd_ne nlx]; exact E6 o _ gl4⟩
        · rcases List.mem_cons.mp ho with rfl | ho
          · exact ⟨_, by rw [upd_ne ntx]; exact gt⟩
          · cases ho
      · rw [upd_ne ntx]
        exact gt
    · refine q_when (b := !false) (et_not (et_B (ev_callS (z := .bl false) (ea_cons (ev_var rfl) ea_nil) fun H1 e1 Q k E => ⟨a, bs, rfl, ex_l e1 ha, fun z => absurd z G, fun _ => k⟩))) (fun _ H1 e1 => ?_) (fun hb => absurd hb (by decide))
      exact kn G H1 fun c o _ hc => e1 c o hc
theorem ok_IsBelow (T : Txt K mg) : FnOk P w K mg base (L2N.CX P w) 1 T.fIsBelow T.dIsBelow ["number", "limit"] spBelow := by
  refine T.FIsBelow.okN scIsBelow (fun vs H Q E h => ?_) (fun cdv A outer s H vs Q E hr h => ?_)
  · obtain ⟨v, l, rfl, _⟩ := h
    rfl
  · obtain ⟨v, l, rfl, h⟩ := h
    refine ⟨_, (pss_one (ps_ret (pe_and (pe_callB call_isi (by rfl) T.z_isinstance boot_isinstance (pa_cons (pv 0) (pa_cons (pe_bltn (v := .ty "int") (by rfl) T.z_int boot_int rfl) pa_nil))) (pe_one (pe_chain op_le op_lt pe_int (pv 0) (pv 1)))))), ?_⟩
    rcases h with ⟨i, rfl, k⟩ | ⟨rfl, k⟩
    · refine s_ret (v := .bl (true && (decide (0 ≤ i) && decide (i < l)))) (ev_andV (ev_cb (ea_cons (ev_var rfl) (ea_cons ev_c ea_nil)) (rc_isiI (by decide +kernel))) fun _ => ev_chainI (f := fun i j => decide (i ≤ j)) (g := fun i j => decide (i < j)) ev_c (ev_var rfl) (ev_var rfl)) fun H1 e1 => ?_
      rw [Bool.true_and]
      exact k.go e1
    · exact s_ret (v := .bl (false && false)) (ev_andV (ev_cb (ea_cons (ev_var rfl) (ea_cons ev_c ea_nil)) (rc_isiN (by decide +kernel))) fun hb => Bool.noConfusion hb) fun H1 e1 => k.go e1
theorem ok_CheckRow (T : Txt K mg) : FnOk P w K mg base (L2N.CX P w) 2 T.fCheckRow T.dCheckRow ["bases", "row", "passed"] (spCheck K T.CNoRow) := by
  have GIsBelow := ok_IsBelow (P := P) (w := w) (base := base) T
  refine T.FCheckRow.ok (CX := L2N.CX P w) scCheckRow (fun vs H Q E h => ?_) (fun cdv A outer s H vs Q E hr h => ?_)
  · obtain ⟨q, p, d, bs, ws, rfl, _⟩ := h
    rfl
  · obtain ⟨q, p, d, bs, ws, rfl, hd, hq, hp, l14, hb3, h⟩ := h
    refine ⟨_, (pss_cons (ps_if (PW.pt (pw_or (pt_not (pt_val (pe_callB call_isi (by rfl) T.z_isinstance boot_isinstance (pa_cons (pv 1) (pa_cons (pe_bltn (v := .ty "list") (by rfl) T.z_list boot_list rfl) pa_nil))))) (pw_or1 (pt_cmpR (op_neD hr.eq) (pe_callB call_len_seq (by rfl) T.z_len boot_len (pa_cons (pv 1) pa_nil)) (pe_callB call_len_seq (by rfl) T.z_len boot_len (pa_cons (pv 0) pa_nil)) (nomark _))))) (pss_one (L2N.ps_raise (by rfl) (L2N.takes_of rfl rfl rfl rfl) (L2N.pmk_own PySem.F.excBase_ValueError T.xNoRow T.gNoRow T.kNoRow (raises_own T.bNoRow T.tNoRow) (by rfl)))) pss_nil)
    (pss_one (ps_for (passes_of rfl) (by rfl) (pi_enum (by rfl) T.z_enumerate (pa_cons (pv 1) pa_nil)) (pg_tup (by rfl) (pgs_cons (pg_name (i := 3) scCheckRow.nd rfl (Or.inl rfl)) (pgs_cons (pg_name (i := 4) scCheckRow.nd rfl (Or.inl rfl)) pgs_nil))) (pss_one (ps_if (PW.pt (pw_and (pt_cmpR (op_neD hr.eq) (pv 3) (pv 2) (nomark _)) (pw_and1 (pt_not (pt_val (RXN.pe_callX GIsBelow (hr.mono (by decide)) (by rfl) T.gIsBelow T.kIsBelow T.bIsBelow (L2N.takes_of rfl rfl rfl rfl) (pa_cons (pv 4) (pa_cons (pe_ix ix_list (pv 0) (pv 3) (fun _ _ => rfl)) pa_nil)))))))) (pss_one (L2N.ps_raise (by rfl) (L2N.takes_of rfl rfl rfl rfl) (RXN.pmk_ownE PySem.F.excBase_ValueError T.xNoRow T.gNoRow T.kNoRow (raises_own T.bNoRow T.tNoRow) (by rfl) (pe_joined (PJ.cons pe_str (PJ.cons (pe_fmt (pv 3)) (PJ.cons pe_str (PJ.cons (pe_fmt (pe_op op_sub (pe_ix ix_list (pv 0) (pv 3) (fun _ _ => rfl)) pe_int)) PJ.nil)))))))) pss_nil))))), ?_⟩
    refine q_when (b := (!true) || !decide ((ws.length : Int) = ((bs.map V.int).length : Int))) (et_or (et_not (et_B (ev_cb (ea_cons (ev_var rfl) (ea_cons ev_c ea_nil)) (rc_isiSq hp (by decide +kernel))))) fun _ => et_test (ev_op (ev_len (ev_var rfl) hp) (ev_len (ev_var rfl) hq) rv_neI)) (fun hb H1 e1 => ?_) (fun hb H1 e1 => ?_)
    · have ne : ws.length ≠ bs.length := fun z => by
        rw [List.length_map, decide_eq_true (show (ws.length : Int) = (bs.length : Int) by omega)] at hb
        cases hb
      rcases h with ⟨_, w⟩ | ⟨z, _⟩
      · exact w H1 e1
      · exact absurd z ne
    · have len : ws.length = bs.length := by
        rw [Bool.not_true, Bool.false_or, Bool.not_eq_false', decide_eq_true_iff, List.length_map] at hb
        omega
      rcases h with ⟨z, _⟩ | ⟨_, flat, h⟩
      · exact absurd len z
      · refine s_forE (K := K) (ea_cons (ev_var rfl) ea_nil) (ex_l e1 hp) (fun i σ2 H2 => (∃ v w, σ2 = [some (.ref q), some (.ref p), some d, v, w] ∧ Ex H H2) ∧ ∀ k, k < i → k < bs.length → d ≠ .int (k : Int) → ∃ x, ws[k]? = some (.int x) ∧ 0 ≤ x ∧ x < bs.getD k 0) (fun H2 e2 => ⟨⟨none, none, rfl, e1.trans e2⟩, fun k hk => absurd hk (Nat.not_lt_zero k)⟩) (fun i σ2 H2 z => ex_l z.1.choose_spec.choose_spec.2 hp) ?_ ?_
        · rintro i x σ2 H2 H3 hx ⟨⟨v, w, rfl, ex⟩, so⟩ e3
          have hi : i < bs.length := by
            have := (List.getElem?_eq_some_iff.mp hx).1
            omega
          have atB : atI (bs.map V.int) (i : Int) = some (.int (bs.getD i 0)) := atI_nat (intsAt hi)
          have bb := hb3 _ (RM.getD_in hi)
          have E3 := ex.trans e3
          have fx := flat x (List.mem_of_getElem? hx)
          have tst : ∃ c : Bool, (c = true ↔ d ≠ .int (i : Int)) ∧ Ev (tOp (rNeD K) (tVar 3) (tVar 2)) [some (.ref q), some (.ref p), some d, some (.int (i : Int)), some x] H3 (.bl c) := by
            rcases hd with rfl | ⟨j, rfl⟩
            · exact ⟨true, ⟨fun _ z => (by cases z), fun _ => rfl⟩, ev_op (ev_var rfl) (ev_var rfl) rv_neIN⟩
            · refine ⟨!decide ((i : Int) = j), ?_, ev_op (ev_var rfl) (ev_var rfl) rv_neI⟩
              rw [Bool.not_eq_true', decide_eq_false_iff_not]
              exact ⟨fun a b => a (by cases b; rfl), fun a b => a (by rw [b])⟩
          obtain ⟨c, hc, tst⟩ := tst
          have low : ∃ g : Bool, (g = true ↔ ∃ y, x = .int y ∧ 0 ≤ y ∧ y < bs.getD i 0) ∧ Ev (tCallS spBelow (WE (fun cls d σ H => E cls d H)) (tCons (tVar 4) (tCons (tOp (rIxL K) (tVar 0) (tVar 3)) tNil))) [some (.ref q), some (.ref p), some d, some (.int (i : Int)), some x] H3 (.bl g) := by
            rcases fx with rfl | ⟨y, rfl⟩
            · exact ⟨false, ⟨fun z => (by cases z), fun ⟨y, z, _⟩ => (by cases z)⟩, ev_callS (ea_cons (ev_var rfl) (ea_cons (ev_op (ev_var rfl) (ev_var rfl) (rv_ixL (ex_l E3 hq) atB)) ea_nil)) fun H4 e4 Q k E => ⟨.non, _, rfl, .inr ⟨rfl, k⟩⟩⟩
            · refine ⟨decide (0 ≤ y) && decide (y < bs.getD i 0), ?_, ev_callS (ea_cons (ev_var rfl) (ea_cons (ev_op (ev_var rfl) (ev_var rfl) (rv_ixL (ex_l E3 hq) atB)) ea_nil)) fun H4 e4 Q k E => ⟨.int y, _, rfl, .inl ⟨y, rfl, k⟩⟩⟩
              rw [Bool.and_eq_true, decide_eq_true_iff, decide_eq_true_iff]
              exact ⟨fun z => ⟨y, rfl, z⟩, fun ⟨y', z, a⟩ => by cases z; exact a⟩
          obtain ⟨g, hg, low⟩ := low
          refine s_when (b := c && !g) (et_and (et_test tst) fun _ => et_not (et_B low)) (fun hb4 H4 e4 => ?_) (fun hb4 H4 e4 => ?_)
          · obtain ⟨c1, g1⟩ := (Bool.and_eq_true _ _).mp hb4
            have no : ¬ RowBut bs ws d := fun R => by
              obtain ⟨y, hy, y0, y1⟩ := R i hi (hc.mp c1)
              rw [hx] at hy
              cases hy
              rw [hg.mpr ⟨y, rfl, y0, y1⟩] at g1
              cases g1
            have w : RetE T.CNoRow H E := by
              rcases h with ⟨z, _⟩ | ⟨_, w⟩
              · exact absurd z no
              · exact w
            have lg : ∀ {z : Int}, z.natAbs ≤ 2000000 → z.natAbs.log2 < 1920 := fun {z} hz => by
              have : z.natAbs.log2 < 64 := PySem.Flt.log2_lt_of (by decide) (Nat.lt_of_le_of_lt hz (by decide))
              omega
            have js : EvJ [tC (.str "at place "), tFmt (tVar 3), tC (.str " stands no number from 0 up to "), tFmt (tOp (rI0 fun i j => .int (i - j)) (tOp (rIxL K) (tVar 0) (tVar 3)) (tC (.int 1)))] Str.empty [some (.ref q), some (.ref p), some d, some (.int (i : Int)), some x] H4 :=
              ej_cons ev_c (by decide +kernel) (by decide +kernel) fun _ l1 => ej_cons (ev_fmtI (ev_var rfl) (lg (z := (i : Int)) (by omega))) (PyProof.Rows.int_text_len_1921 (lg (z := (i : Int)) (by omega))) (by have : Str.empty.length = 0 := rfl; omega) fun _ l2 =>
              ej_cons ev_c (by decide +kernel) (by have : Str.empty.length = 0 := rfl; omega) fun _ l3 => ej_cons (ev_fmtI (ev_op (ev_op (ev_var rfl) (ev_var rfl) (rv_ixL (ex_l (E3.trans e4) hq) atB)) ev_c rv_I0) (lg (z := bs.getD i 0 - 1) (by omega))) (PyProof.Rows.int_text_len_1921 (lg (z := bs.getD i 0 - 1) (by omega))) (by have : Str.empty.length = 0 := rfl; omega) fun _ _ => ej_nil
            exact js H4 (Ex.refl H4) _ fun out H5 e5 => ⟨⟨_, rfl⟩, w H5 ((E3.trans e4).trans e5)⟩
          · refine ⟨⟨some (.int (i : Int)), some x, rfl, E3.trans e4⟩, fun k hk kl hne => ?_⟩
            by_cases z : k = i
            · subst z
              have c1 := hc.mpr hne
              rw [c1, Bool.true_and] at hb4
              have g1 : g = true := by simpa using hb4
              obtain ⟨y, rfl, y0, y1⟩ := hg.mp g1
              exact ⟨y, hx, y0, y1⟩
            · exact so k (by omega) kl hne
        · rintro σ2 H2 ⟨⟨v, w, rfl, ex⟩, so⟩
          have yes : RowBut bs ws d := fun k hk hne => so k (by omega) hk hne
          rcases h with ⟨_, k⟩ | ⟨z, _⟩
          · exact k.go ex
          · exact absurd yes z

theorem ok_NumberOf (T : Txt K mg) : FnOk P w K mg base (L2N.CX P w) 1 T.fNumberOf T.dNumberOf ["figures", "bases"] (spValue K) := by
  refine T.FNumberOf.okN scNumberOf (fun vs H Q E h => ?_) (fun cdv A outer s H vs Q E hr h => ?_)
  · obtain ⟨p, q, fs, bs, rfl, _⟩ := h
    rfl
  · obtain ⟨p, q, fs, bs, rfl, hp, hq, G, row, k⟩ := h
    refine ⟨_, (pss_cons (ps_set (i := 2) scNumberOf.nd rfl (Or.inl rfl) pe_int)
    (pss_cons (ps_set (i := 3) scNumberOf.nd rfl (Or.inl rfl) pe_int)
    (pss_cons (ps_for (passes_of rfl) (by rfl) (pi_zip (by rfl) T.z_zip (pa_cons (pv 0) (pa_cons (pv 1) pa_nil))) (pg_tup (by rfl) (pgs_cons (pg_name (i := 4) scNumberOf.nd rfl (Or.inl rfl)) (pgs_cons (pg_name (i := 5) scNumberOf.nd rfl (Or.inl rfl)) pgs_nil))) (pss_cons (ps_set (i := 2) scNumberOf.nd rfl (Or.inl rfl) (pe_op op_add (pv 2) (pe_op op_mulA (pv 4) (pv 3))))
      (pss_one (ps_set (i := 3) scNumberOf.nd rfl (Or.inl rfl) (pe_op op_mulA (pv 3) (pv 5))))))
    (pss_one (ps_ret (pv 2)))))), ?_⟩
    have fl := row.len
    refine q_asg ev_c fun H1 e1 => ?_
    refine q_asg ev_c fun H2 e2 => ?_
    refine q_forZ (K := K) (ea_cons (ev_var rfl) (ea_cons (ev_var rfl) ea_nil)) (ex_l (e1.trans e2) hp) (ex_l (e1.trans e2) hq) (by rw [List.length_map, List.length_map]; omega) (fun i σ3 H3 => ∃ v w, σ3 = [some (.ref p), some (.ref q), some (.int (RM.valOf (bs.take i) (fs.take i))), some (.int (RM.prod (bs.take i))), v, w] ∧ Ex H2 H3) (fun H3 e3 => ⟨none, none, rfl, e3⟩) (fun i σ3 H3 z => z.choose_spec.choose_spec.2) ?_ ?_
    · rintro i x y σ3 H3 H4 hx hy ⟨v, w, rfl, ex⟩ e4
      obtain ⟨f, hf, rfl⟩ := int_item hx
      obtain ⟨c, hc, rfl⟩ := int_item hy
      have fi : i < fs.length := (List.getElem?_eq_some_iff.mp hf).1
      have tkf : fs.take (i + 1) = fs.take i ++ [f] := by rw [List.take_add_one, hf]; rfl
      have tkc : bs.take (i + 1) = bs.take i ++ [c] := by rw [List.take_add_one, hc]; rfl
      have rr := (RM.isRow_iff.mp row).2 i (by omega)
      rw [List.getD_eq_getElem?_getD, hf, List.getD_eq_getElem?_getD, hc] at rr
      have rr : 0 ≤ f ∧ f < c := rr
      have bb := G.each c (List.mem_of_getElem? hc)
      refine q_asg (ev_op (ev_var rfl) (ev_op (ev_var rfl) (ev_var rfl) (rv_I (mul_l ⟨by omega, by omega⟩))) rv_I0) fun H5 e5 => ?_
      refine s_asg (ev_op (ev_var rfl) (ev_var rfl) (rv_I (mul_r (p64 ⟨bb.1, bb.2.1⟩)))) fun H6 e6 => ?_
      refine ⟨some (.int f), some (.int c), ?_, ((ex.trans e4).trans e5).trans e6⟩
      rw [tkf, tkc, RM.val_snoc _ _ _ _ (by rw [List.length_take, List.length_take]; omega), RM.prod_snoc]
      rfl
    · rintro σ3 H3 ⟨v, w, rfl, ex⟩
      refine s_ret (ev_var rfl) fun H4 e4 => ?_
      rw [List.length_map, List.take_length, fl, List.take_length]
      exact k.go (((e1.trans e2).trans ex).trans e4)
theorem ok_BoardFigures (T : Txt K mg) : FnOk P w K mg base (L2N.CX P w) 3 T.fBoardFigures T.dBoardFigures ["self", "row"] (spFigures K T.CBoard T.CNoRow) := by
  have GCheckRow := ok_CheckRow (P := P) (w := w) (base := base) T
  refine T.FBoardFigures.okN scBoardFigures (fun vs H Q E h => ?_) (fun cdv A outer s H vs Q E hr h => ?_)
  · obtain ⟨b, p, os, bs, xs, rfl, _⟩ := h
    rfl
  · obtain ⟨b, p, os, bs, xs, rfl, isb, G, hp, h⟩ := h
    refine ⟨_, (pss_cons (ps_expr (RXN.pe_callXD (dvs := [.non]) (ds := [.none]) GCheckRow (hr.mono (by decide)) (by rfl) T.gCheckRow T.kCheckRow T.bdCheckRow (.cons rfl .nil) (L2N.takes_of rfl rfl rfl rfl) (pa_cons (pe_fld (pv 0) rfl) (pa_cons (pv 1) pa_nil))))
    (pss_cons (ps_set (i := 2) scBoardFigures.nd rfl (Or.inl rfl) (pe_lst pa_nil))
    (pss_cons (ps_set (i := 3) scBoardFigures.nd rfl (Or.inl rfl) pe_int)
    (pss_cons (ps_set (i := 4) scBoardFigures.nd rfl (Or.inl rfl) pe_int)
    (pss_cons (ps_for (passes_of rfl) (by rfl) (pi_zip3 (by rfl) T.z_zip (pa_cons (pv 1) (pa_cons (pe_fld (pv 0) rfl) (pa_cons (pe_fld (pv 0) rfl) pa_nil)))) (pg_tup (by rfl) (pgs_cons (pg_name (i := 5) scBoardFigures.nd rfl (Or.inl rfl)) (pgs_cons (pg_name (i := 6) scBoardFigures.nd rfl (Or.inl rfl)) (pgs_cons (pg_name (i := 7) scBoardFigures.nd rfl (Or.inl rfl)) pgs_nil)))) (pss_cons (ps_set (i := 8) scBoardFigures.nd rfl (Or.inl rfl) (pe_op op_mod (pe_op op_mulA (pe_op op_sub (pv 5) (pv 3)) (pv 7)) (pv 6)))
      (pss_cons (ps_expr (pe_bm PySem.F.plainAttrs_list PySem.F.slot_list_append PySem.F.type_list_append mt_append (pv 2) (pa_cons (pv 8) pa_nil)))
      (pss_cons (ps_set (i := 3) scBoardFigures.nd rfl (Or.inl rfl) (pe_op op_add (pv 3) (pe_op op_mulA (pv 8) (pv 4))))
      (pss_one (ps_set (i := 4) scBoardFigures.nd rfl (Or.inl rfl) (pe_op op_mulA (pv 4) (pv 6))))))))
    (pss_one (ps_ret (pv 2)))))))), ?_⟩
    obtain ⟨l, _, hl, fb⟩ := fld_bases isb T.cBoard T.nBoard_bases
    obtain ⟨t, ts, TT, ht, ft⟩ := fld_turns isb T.cBoard T.nBoard__turns
    have l14 := G.len14
    have e36 : ∀ x ∈ bs, 3 ≤ x ∧ x ≤ 999999 := fun x hx => by have := G.each x hx; omega
    rcases h with ⟨n, tn, k⟩ | ⟨no, w⟩
    · have row := told_row G tn
      have xl := row.len
      have rb : RowBut bs (xs.map V.int) .non := fun i hi _ => ⟨xs.getD i 0, intsAt (by omega), (RM.isRow_iff.mp row).2 i hi⟩
      refine q_drop (ev_callSD (z := .non) (ea_cons (fb (Ex.refl H) (ev_var rfl)) (ea_cons (ev_var rfl) ea_nil)) (fun H1 e1 Q q E => ⟨l, p, .non, bs, xs.map V.int, rfl, .inl rfl, sq_of (e1 l _ hl), ex_l e1 hp, l14, e36, .inr ⟨by rw [List.length_map]; exact xl, flat_ints xs, .inl ⟨rb, q⟩⟩⟩)) fun H1 e1 => ?_
      refine q_asgL (el_lst ea_nil (by show 0 ≤ 100000; decide)) fun f H2 hf e2 gf => ?_
      refine q_asg ev_c fun H3 e3 => ?_
      refine q_asg ev_c fun H4 e4 => ?_
      refine nrm (σ' := [_, _, _, _, _, _, _, _, _]) ?_ rfl
      have E4 := ((e1.trans e2).trans e3).trans e4
      have hf0 : H f = none := fresh_back e1 hf
      refine q_forZ3 (K := K) (ea_cons (ev_var rfl) (ea_cons (fb E4 (ev_var rfl)) (ea_cons (ft E4 (ev_var rfl)) ea_nil))) (ex_l E4 hp) (sq_of (E4 l _ hl)) (sq_of (E4 t _ ht)) (by rw [List.length_map, List.length_map]; omega) (by rw [List.length_map, List.length_map, TT.1]; omega)
        (fun i σ5 H5 => (∃ v1 v2 v3 v4, ∃ (fs : List Int) (m : Int), σ5 = [some (.ref b), some (.ref p), some (.ref f), some (.int m), some (.int (RM.prod (bs.take i))), v1, v2, v3, v4] ∧ H5 f = some (.lst (fs.map V.int)) ∧ RM.Figs bs xs i fs m) ∧ Ex H H5) (fun H5 e5 => ⟨⟨none, none, none, none, [], 0, rfl, (e4.trans e5) f _ (e3 f _ gf), ⟨trivial, rfl, fun j hj => absurd hj (Nat.not_lt_zero j)⟩⟩, E4.trans e5⟩) (fun i σ5 H5 z => ⟨ex_l z.2 hp, sq_of (z.2 l _ hl), sq_of (z.2 t _ ht)⟩) ?_ ?_
      · rintro i xv yv zv σ5 H5 H6 hxv hyv hzv ⟨⟨v1, v2, v3, v4, fs, m, rfl, g5, F⟩, ex⟩ e6
        obtain ⟨x, hx, rfl⟩ := int_item hxv
        obtain ⟨y, hy, rfl⟩ := int_item hyv
        obtain ⟨z, hz, rfl⟩ := int_item hzv
        have hi : i < bs.length := (List.getElem?_eq_some_iff.mp hy).1
        have ex' : xs.getD i 0 = x := by rw [List.getD_eq_getElem?_getD, hx]; rfl
        have ey : bs.getD i 0 = y := by rw [List.getD_eq_getElem?_getD, hy]; rfl
        have ez : ts.getD i 0 = z := by rw [List.getD_eq_getElem?_getD, hz]; rfl
        have tk : bs.take (i + 1) = bs.take i ++ [y] := by rw [List.take_add_one, hy]; rfl
        have F1 := RM.figs_turn G TT row F hi
        have bb := G.at_ hi
        have tt := (TT.2 i hi).1
        have fl : fs.length = i := by rw [F.row.len, List.length_take]; omega
        rw [ex', ey, ez] at F1
        rw [ey] at bb tt
        rw [ez] at tt
        have c0 := Int.emod_nonneg ((x - m) * z) (show y ≠ 0 by omega)
        have c1 := Int.emod_lt_of_pos ((x - m) * z) (show 0 < y by omega)
        refine q_asg (ev_op (ev_op (ev_op (ev_var rfl) (ev_var rfl) rv_I0) (ev_var rfl) (rv_I (mul_r ⟨by omega, by omega⟩))) (ev_var rfl) (rv_I (show 0 < y by omega))) fun H7 e7 => ?_
        generalize ((x - m) * z) % y = c at c0 c1 F1
        refine q_app ((e6.trans e7) f _ g5) (ev_var rfl) (ev_var rfl) (by rw [List.length_map]; omega) fun H8 e8 => ?_
        have ex9 : Ex H (upd H8 f (.lst (fs.map V.int ++ [.int c]))) := (((ex.trans e6).trans e7).trans e8).mut hf0
        have g9 : (upd H8 f (.lst (fs.map V.int ++ [.int c]))) f = some (.lst ((fs ++ [c]).map V.int)) := by
          rw [upd_same, List.map_append]
          rfl
        generalize upd H8 f (.lst (fs.map V.int ++ [.int c])) = H9 at ex9 g9
        refine q_asg (ev_op (ev_var rfl) (ev_op (ev_var rfl) (ev_var rfl) (rv_I (mul_l ⟨by omega, by omega⟩))) rv_I0) fun Ha ea => ?_
        refine s_asg (ev_op (ev_var rfl) (ev_var rfl) (rv_I (mul_r ⟨by omega, by omega⟩))) fun Hb eb => ?_
        refine ⟨⟨some (.int x), some (.int y), some (.int z), some (.int c), fs ++ [c], m + c * RM.prod (bs.take i), ?_, (ea.trans eb) f _ g9, F1⟩, (ex9.trans ea).trans eb⟩
        rw [tk, RM.prod_snoc]
        rfl
      · rintro σ5 H5 ⟨⟨v1, v2, v3, v4, fs, m, rfl, g5, F⟩, ex⟩
        rw [List.length_map, xl] at F
        obtain ⟨m0, m1, m2, m3⟩ := RM.figs_done G row F
        have em : m = n := told_one G ⟨m0, m1, m2⟩ tn
        refine s_ret (ev_var rfl) fun H6 e6 => ?_
        refine k f H6 hf0 (ex.trans e6) ?_
        rw [← em, ← m3]
        exact e6 f _ g5
    · refine s_seq (sx_drop (evx_callSD (cls := .ref T.CNoRow) (dvs := [.non]) (ea_cons (fb (Ex.refl H) (ev_var rfl)) (ea_cons (ev_var rfl) ea_nil)) (fun H1 e1 Q E w1 => ⟨l, p, .non, bs, xs.map V.int, rfl, .inl rfl, sq_of (e1 l _ hl), ex_l e1 hp, l14, e36, ?_⟩) fun H1 e1 => w H1 e1))
      by_cases len : xs.length = bs.length
      · refine .inr ⟨by rw [List.length_map]; exact len, flat_ints xs, .inr ⟨fun R => no (RM.isRow_iff.mpr ⟨len, fun i hi => ?_⟩), w1⟩⟩
        obtain ⟨x, hx, x0, x1⟩ := R i hi (fun z => by cases z)
        rw [intsAt (by omega)] at hx
        cases hx
        exact ⟨x0, x1⟩
      · exact .inl ⟨by rw [List.length_map]; exact len, w1⟩
theorem ok_LeastWithout (T : Txt K mg) : FnOk P w K mg base (L2N.CX P w) 4 T.fLeastWithout T.dLeastWithout ["board", "row", "place"] (spLeast K T.CBoard) := by
  have GNumberOf := ok_NumberOf (P := P) (w := w) (base := base) T
  have GMultiplied := ok_Multiplied (P := P) (w := w) (base := base) T
  have GBoardFigures := ok_BoardFigures (P := P) (w := w) (base := base) T
  refine T.FLeastWithout.okN scLeastWithout (fun vs H Q E h => ?_) (fun cdv A outer s H vs Q E hr h => ?_)
  · obtain ⟨b, p, os, bs, xs, i, n, rfl, _⟩ := h
    rfl
  · obtain ⟨b, p, os, bs, xs, i, n, rfl, isb, G, hp, tn, hi, k⟩ := h
    refine ⟨_, (pss_cons (ps_set (i := 3) scLeastWithout.nd rfl (Or.inl rfl) (pe_op op_cat (pe_slice sl_list (pe_fld (pv 0) rfl) po_none (po_some (pv 2))) (pe_slice sl_list (pe_fld (pv 0) rfl) (po_some (pe_op op_add (pv 2) pe_int)) po_none)))
    (pss_one (ps_ret (pe_op op_mod (RXN.pe_callX GNumberOf (hr.mono (by decide)) (by rfl) T.gNumberOf T.kNumberOf T.bNumberOf (L2N.takes_of rfl rfl rfl rfl) (pa_cons (RXN.pe_methX (pv 0) T.cBoard T.mBoardFigures GBoardFigures (hr.mono (by decide)) T.bBoardFigures (L2N.takes_of rfl rfl rfl rfl) (pa_cons (pv 1) pa_nil)) (pa_cons (pe_fld (pv 0) rfl) pa_nil))) (RXN.pe_callX GMultiplied (hr.mono (by decide)) (by rfl) T.gMultiplied T.kMultiplied T.bMultiplied (L2N.takes_of rfl rfl rfl rfl) (pa_cons (pv 3) pa_nil)))))), ?_⟩
    obtain ⟨l, _, hl, fb⟩ := fld_bases isb T.cBoard T.nBoard_bases
    have l14 := G.len14
    have fbl := fb (σ := [some (.ref b), some (.ref p), some (.int (i : Int)), none]) (ta := tVar 0) (Ex.refl H) (ev_var rfl)
    refine q_asgL (xs := (bs.eraseIdx i).map V.int) (el_is (el_cat (lr (el_to fbl (sq_of hl) (ev_var rfl))) (lr (el_from (i := i + 1) fbl (sq_of hl) (ev_op (ev_var rfl) ev_c rv_I0))) (by simp only [List.length_take, List.length_drop, List.length_map]; omega)) (erase_is bs i)) fun o H1 ho e1 go => ?_
    have pos : 0 < RM.prod (bs.eraseIdx i) := RM.prod_pos _ fun b hb => G.pos b (RM.mem_erase hb)
    refine s_ret (ev_op (ev_value (el_methB (isb.mono e1) (ev_var rfl) (ea_cons (ev_var rfl) ea_nil) (figs_sp (isb.mono e1) G (ex_l e1 hp) tn)) (e1 l _ hl) (fb e1 (ev_var rfl)) G (RM.figs_isRow n G.pos)) (ev_callS (ea_cons (ev_var rfl) ea_nil) (fun H2 e2 Q q E => ⟨o, bs.eraseIdx i, rfl, sq_of (e2 o _ go), fun x hx => p64 (by have := G.each x (RM.mem_erase hx); omega), q⟩)) (rv_I pos)) fun H2 e2 => ?_
    rw [RM.val_figs G.pos tn.1 tn.2.1]
    exact k.go (e1.trans e2)

theorem ok_BoardRoom (T : Txt K mg) : FnOk P w K mg base (L2N.CX P w) 2 T.fBoardRoom T.dBoardRoom ["self"] (spRoomM T.CBoard) := by
  have GMultiplied := ok_Multiplied (P := P) (w := w) (base := base) T
  refine T.FBoardRoom.okN scBoardRoom (fun vs H Q E h => ?_) (fun cdv A outer s H vs Q E hr h => ?_)
  · obtain ⟨b, os, bs, rfl, _⟩ := h
    rfl
  · obtain ⟨b, os, bs, rfl, isb, G, k⟩ := h
    refine ⟨_, (pss_one (ps_ret (RXN.pe_callX GMultiplied (hr.mono (by decide)) (by rfl) T.gMultiplied T.kMultiplied T.bMultiplied (L2N.takes_of rfl rfl rfl rfl) (pa_cons (pe_slice sl_list (pe_fld (pv 0) rfl) po_none (po_some (pe_un un_neg pe_int))) pa_nil)))), ?_⟩
    obtain ⟨l, _, hl, fb⟩ := fld_bases isb T.cBoard T.nBoard_bases
    refine s_ret (ev_mult (ns := RM.own bs) (el_is (el_cut (er_of (fb (Ex.refl H) (ev_var rfl)) hl) eo_none (eo_some (ev_un ev_c ru_neg))) ?_) fun x hx => p64 (by have := G.each x (RM.own_mem hx); omega)) fun H1 e1 => k.go e1
    show cutV _ none (some (-2)) = _
    rw [cut_but2, List.length_map]
    unfold RM.own
    rw [List.map_take]
theorem ok_BoardRests (T : Txt K mg) : FnOk P w K mg base (L2N.CX P w) 3 T.fBoardRests T.dBoardRests ["self", "number"] (spRests T.CBoard T.COutOfRoom) := by
  have GBoardRoom := ok_BoardRoom (P := P) (w := w) (base := base) T
  refine T.FBoardRests.okN scBoardRests (fun vs H Q E h => ?_) (fun cdv A outer s H vs Q E hr h => ?_)
  · obtain ⟨b, os, bs, n, rfl, _⟩ := h
    rfl
  · obtain ⟨b, os, bs, n, rfl, isb, G, ky, kn⟩ := h
    refine ⟨_, (pss_cons (ps_if (pt_not (pt_chain op_le op_lt pe_int (pv 1) (RXN.pe_meth0X (pv 0) T.cBoard T.mBoardRoom GBoardRoom (hr.mono (by decide)) T.bBoardRoom (L2N.takes_of rfl rfl rfl rfl)))) (pss_one (L2N.ps_raise (by rfl) (L2N.takes_of rfl rfl rfl rfl) (L2N.pmk_own PySem.F.excBase_ValueError T.xOutOfRoom T.gOutOfRoom T.kOutOfRoom (raises_own T.bOutOfRoom T.tOutOfRoom) (by rfl)))) pss_nil)
    (pss_one (ps_ret (pe_lc (own := [("base", 2)]) (g := gName 2) (tt := tYes) (by rfl) scBoardRests.nd (pi_list (pe_fld (pv 0) rfl)) (blkOk_by (N := ["self", "number", "base"]) (sc := defScope sBoardRests) (by decide +kernel)) (fun _ _ _ _ _ => (pg_name (i := 2) scBoardRests.nd rfl (Or.inl rfl))) (fun _ _ _ _ _ => pts_nil) (fun _ _ _ _ _ => (pe_op op_mod (pv 1) (pv 2))))))), ?_⟩
    obtain ⟨l, _, hl, fb⟩ := fld_bases isb T.cBoard T.nBoard_bases
    have l14 := G.len14
    refine q_when (b := !(decide (0 ≤ n) && decide (n < RM.roomOf bs))) (et_not (et_test (ev_chainI (f := fun i j => decide (i ≤ j)) (g := fun i j => decide (i < j)) ev_c (ev_var rfl) (ev_methB isb (ev_var rfl) ea_nil (room_sp isb G))))) (fun hb H1 e1 => ?_) (fun hb H1 e1 => ?_)
    · refine kn (fun z => ?_) H1 e1
      rw [decide_eq_true z.1, decide_eq_true z.2] at hb
      cases hb
    · have z : 0 ≤ n ∧ n < RM.roomOf bs := by
        rw [Bool.not_eq_false', Bool.and_eq_true, decide_eq_true_iff, decide_eq_true_iff] at hb
        exact hb
      refine s_retL (el_compI (K := K) (ms := RM.restsOf bs n) (fb e1 (ev_var rfl)) (sq_of (e1 l _ hl)) (by omega) (fun _ => rfl) (RM.rests_len _ _) fun i H2 e2 hi => ?_) fun p H2 hp e2 g2 => (ky z.1 z.2).go e1 hp e2 g2
      rw [RM.rests_get hi]
      exact ev_op (ev_var rfl) (ev_var rfl) (rv_I (show 0 < bs.getD i 0 by have := G.at_ hi; omega))
theorem ok_Refilled (T : Txt K mg) : FnOk P w K mg base (L2N.CX P w) 5 T.fRefilled T.dRefilled ["board", "row", "place"] (spRefilled K T.CBoard T.CNoRow T.CLost T.CNoPlace) := by
  have GCheckRow := ok_CheckRow (P := P) (w := w) (base := base) T
  have GLeastWithout := ok_LeastWithout (P := P) (w := w) (base := base) T
  have GBoardRests := ok_BoardRests (P := P) (w := w) (base := base) T
  have GIsBelow := ok_IsBelow (P := P) (w := w) (base := base) T
  have GBoardRoom := ok_BoardRoom (P := P) (w := w) (base := base) T
  refine T.FRefilled.okN scRefilled (fun vs H Q E h => ?_) (fun cdv A outer s H vs Q E hr h => ?_)
  · obtain ⟨b, p, os, bs, ws, pl, rfl, _⟩ := h
    rfl
  · obtain ⟨b, p, os, bs, ws, pl, rfl, isb, G, hp, h⟩ := h
    refine ⟨_, (pss_cons (ps_if (pt_not (pt_val (RXN.pe_callX GIsBelow (hr.mono (by decide)) (by rfl) T.gIsBelow T.kIsBelow T.bIsBelow (L2N.takes_of rfl rfl rfl rfl) (pa_cons (pv 2) (pa_cons (pe_callB call_len_seq (by rfl) T.z_len boot_len (pa_cons (pe_fld (pv 0) rfl) pa_nil)) pa_nil))))) (pss_one (L2N.ps_raise (by rfl) (L2N.takes_of rfl rfl rfl rfl) (L2N.pmk_own PySem.F.excBase_ValueError T.xNoPlace T.gNoPlace T.kNoPlace (raises_own T.bNoPlace T.tNoPlace) (by rfl)))) pss_nil)
    (pss_cons (ps_expr (RXN.pe_callX GCheckRow (hr.mono (by decide)) (by rfl) T.gCheckRow T.kCheckRow T.bCheckRow (L2N.takes_of rfl rfl rfl rfl) (pa_cons (pe_fld (pv 0) rfl) (pa_cons (pv 1) (pa_cons (pv 2) pa_nil)))))
    (pss_cons (ps_set (i := 3) scRefilled.nd rfl (Or.inl rfl) (pe_callTy call_list_of (by rfl) T.z_list boot_list (pa_cons (pv 1) pa_nil)))
    (pss_cons (ps_asg pe_int (pg_sub (pv 3) (pv 2) set_list))
    (pss_cons (ps_set (i := 4) scRefilled.nd rfl (Or.inl rfl) (RXN.pe_callX GLeastWithout (hr.mono (by decide)) (by rfl) T.gLeastWithout T.kLeastWithout T.bLeastWithout (L2N.takes_of rfl rfl rfl rfl) (pa_cons (pv 0) (pa_cons (pv 3) (pa_cons (pv 2) pa_nil)))))
    (pss_cons (ps_if (pt_cmpR op_ge (pv 4) (RXN.pe_meth0X (pv 0) T.cBoard T.mBoardRoom GBoardRoom (hr.mono (by decide)) T.bBoardRoom (L2N.takes_of rfl rfl rfl rfl)) (nomark _)) (pss_one (L2N.ps_raise (by rfl) (L2N.takes_of rfl rfl rfl rfl) (L2N.pmk_own PySem.F.excBase_ValueError T.xLost T.gLost T.kLost (raises_own T.bLost T.tLost) (by rfl)))) pss_nil)
    (pss_one (ps_ret (RXN.pe_methX (pv 0) T.cBoard T.mBoardRests GBoardRests (hr.mono (by decide)) T.bBoardRests (L2N.takes_of rfl rfl rfl rfl) (pa_cons (pv 4) pa_nil)))))))))), ?_⟩
    obtain ⟨l, _, hl, fb⟩ := fld_bases isb T.cBoard T.nBoard_bases
    have l14 := G.len14
    have e36 : ∀ x ∈ bs, 3 ≤ x ∧ x ≤ 999999 := fun x hx => by have := G.each x hx; omega
    -- the place
    have tst : EvT (tNot (tB (tCallS spBelow (WE fun cls d σ H => E cls d H) (tCons (tVar 2) (tCons (tCB (rLenS K) (tCons (tFld K (tVar 0) "bases") tNil)) tNil))))) [some (.ref b), some (.ref p), some (.int pl), none, none] H (!(decide (0 ≤ pl) && decide (pl < (bs.length : Int)))) := by
      refine et_not (et_B (ev_callS (ea_cons (ev_var rfl) (ea_cons (ev_len (fb (Ex.refl H) (ev_var rfl)) (sq_of hl)) ea_nil)) fun H1 e1 Q q E => ⟨.int pl, _, rfl, .inl ⟨pl, rfl, ?_⟩⟩))
      rw [List.length_map]
      exact q
    refine q_when tst (fun hb H1 e1 => ?_) (fun hb H1 e1 => ?_)
    · have np : fillNp bs pl := fun z => by
        rw [decide_eq_true z.1, decide_eq_true z.2] at hb
        cases hb
      rcases h with ⟨_, w⟩ | ⟨n, ⟨i, xs, rfl, F, _⟩, _⟩ | ⟨⟨i, xs, rfl, F, _⟩, _⟩ | ⟨⟨a, c, _⟩ | ⟨i, xs, rfl, F, _⟩, _⟩
      · exact w H1 e1
      · exact absurd ⟨by omega, by have := F.lt; omega⟩ np
      · exact absurd ⟨by omega, by have := F.lt; omega⟩ np
      · exact absurd ⟨a, c⟩ np
      · exact absurd ⟨by omega, by have := F.lt; omega⟩ np
    · have pp : 0 ≤ pl ∧ pl < (bs.length : Int) := by
        rw [Bool.not_eq_false', Bool.and_eq_true, decide_eq_true_iff, decide_eq_true_iff] at hb
        exact hb
      have E1 := e1
      -- a row but for the place
      have good : ∀ {i : Nat} {xs : List Int}, pl = ((i : Nat) : Int) → FillAt bs ws i xs → (∀ k, k < bs.length → k ≠ i → 0 ≤ xs.getD k 0 ∧ xs.getD k 0 < bs.getD k 0) →
          ∃ x0 n, Told bs (RM.spoil xs i 0) n ∧ (∀ k, k < bs.length → k ≠ i → xs.getD k 0 = n % bs.getD k 0) ∧ x0 = n % RM.prod (bs.eraseIdx i) ∧ ∀ (D : Ends) (tz : TS) (te : TS), (∀ kn H3, H kn = none → Ex H H3 → H3 kn = some (.lst ((RM.spoil xs i 0).map V.int)) → tz D [some (.ref b), some (.ref p), some (.int pl), some (.ref kn), some (.int x0)] H3) →
            tSeq (tDrop (tCallS (spCheck K T.CNoRow) (WE fun cls d σ H => E cls d H) (tCons (tFld K (tVar 0) "bases") (tCons (tVar 1) (tCons (tVar 2) tNil))))) (tSeq (tAsg (tCB (rListS K) (tCons (tVar 1) tNil)) (gName 3)) (tSeq (tAsg (tC (.int 0)) (gSub (tVar 3) (tVar 2) rSetL)) (tSeq (tAsg (tCallS (spLeast K T.CBoard) (WE fun cls d σ H => E cls d H) (tCons (tVar 0) (tCons (tVar 3) (tCons (tVar 2) tNil)))) (gName 4)) tz))) D [some (.ref b), some (.ref p), some (.int pl), none, none] H1 := by
        intro i xs hpl F ok
        have hi := F.lt
        have fl := F.len
        obtain ⟨z, hz, hw⟩ := F.ex
        have row : RM.IsRow bs (RM.spoil xs i 0) := RM.isRow_iff.mpr ⟨by rw [RM.spoil_len (by omega)]; exact fl, fun k hk => by
          by_cases c : k = i
          · subst c
            rw [RM.spoil_at (by omega)]
            have := G.at_ hk
            omega
          · rw [RM.spoil_ne (by omega) _ c]
            exact ok k hk c⟩
        obtain ⟨n, tn⟩ := row_told G row
        refine ⟨_, n, tn, fun k hk ne => ?_, rfl, fun D tz _ next => ?_⟩
        · have q := told_get tn hk
          rw [RM.spoil_ne (by omega) _ ne] at q
          exact q
        · have wl : ws.length = bs.length := by rw [hw, List.length_set, List.length_map]; exact fl
          have flat : Flat ws := by rw [hw]; exact flat_set (flat_ints xs) hz i
          have rb : RowBut bs ws (.int pl) := fun k hk ne => by
            have nk : k ≠ i := fun c => ne (by rw [hpl, c])
            refine ⟨xs.getD k 0, ?_, ok k hk nk⟩
            rw [hw, List.getElem?_set_ne (fun c => nk c.symm)]
            exact intsAt (by omega)
          refine q_drop (ev_callS (z := .non) (ea_cons (fb E1 (ev_var rfl)) (ea_cons (ev_var rfl) (ea_cons (ev_var rfl) ea_nil))) (fun H2 e2 Q q E => ⟨l, p, .int pl, bs, ws, rfl, .inr ⟨pl, rfl⟩, sq_of (e2 l _ (E1 l _ hl)), ex_l (E1.trans e2) hp, l14, e36, .inr ⟨wl, flat, .inl ⟨rb, q⟩⟩⟩)) fun H2 e2 => ?_
          have E2 := E1.trans e2
          refine q_asgL (el_list (K := K) (ev_var rfl) (ex_l E2 hp)) fun kn H3 hkn e3 g3 => ?_
          refine q_setL (j := i) g3 ev_c (ev_var rfl) (ev_is (ev_var rfl) (by rw [hpl])) (by omega) fun H4 e4 => ?_
          have hk0 : H kn = none := fresh_back E2 hkn
          have E4 : Ex H (upd H4 kn (.lst (ws.set i (.int 0)))) := ((E2.trans e3).trans e4).mut hk0
          have g4 : (upd H4 kn (.lst (ws.set i (.int 0)))) kn = some (.lst ((RM.spoil xs i 0).map V.int)) := by
            rw [upd_same, hw, List.set_set, set_mapI (by omega)]
          generalize upd H4 kn (.lst (ws.set i (.int 0))) = H5 at E4 g4
          have lp := least_sp (K := K) (isb.mono E4) G (sq_of g4) tn hi
          rw [← hpl] at lp
          refine q_asg (ev_callS (ea_cons (ev_var rfl) (ea_cons (ev_var rfl) (ea_cons (ev_var rfl) ea_nil))) lp) fun H6 e6 => ?_
          exact next kn H6 hk0 (E4.trans e6) (e6 kn _ g4)
      rcases h with ⟨np, _⟩ | ⟨n, ⟨i, xs, hpl, F, n0, n1, same⟩, k⟩ | ⟨⟨i, xs, hpl, F, ok, none_⟩, w⟩ | ⟨bad, w⟩
      · exact absurd pp np
      · obtain ⟨x0, m, tm, eqm, ex0, run⟩ := good hpl F (fun k hk ne => by
          rw [same k hk ne]
          have := G.at_ hk
          exact ⟨Int.emod_nonneg _ (by omega), Int.emod_lt_of_pos _ (by omega)⟩)
        have L := RM.least G F.lt m
        have e0 : x0 = n := by
          rw [ex0]
          exact L.2.2 n n0 n1 fun k hk ne => by rw [← same k hk ne, eqm k hk ne]
        refine run _ _ tNext fun kn H3 hkn E3 g3 => ?_
        rw [e0]
        refine q_when (b := decide (RM.roomOf bs ≤ n)) (et_test (ev_op (ev_var rfl) (ev_methB (isb.mono E3) (ev_var rfl) ea_nil (room_sp (isb.mono E3) G)) rv_I0)) (fun hb => absurd (of_decide_eq_true hb) (by omega)) (fun _ H4 e4 => ?_)
        exact s_retL (el_methB (isb.mono (E3.trans e4)) (ev_var rfl) (ea_cons (ev_var rfl) ea_nil) (rests_sp (isb.mono (E3.trans e4)) G n0 n1)) fun r H5 hr e5 g5 => k.go (E3.trans e4) hr e5 g5
      · obtain ⟨x0, m, tm, eqm, ex0, run⟩ := good hpl F ok
        have L := RM.least G F.lt m
        have big : RM.roomOf bs ≤ x0 := by
          by_cases c : x0 < RM.roomOf bs
          · obtain ⟨k, hk, ne, q⟩ := none_ x0 (by rw [ex0]; exact L.1) c
            rw [ex0, L.2.1 k hk ne] at q
            exact absurd (eqm k hk ne) q
          · omega
        refine run _ _ tNext fun kn H3 hkn E3 g3 => ?_
        refine q_when (b := decide (RM.roomOf bs ≤ x0)) (et_test (ev_op (ev_var rfl) (ev_methB (isb.mono E3) (ev_var rfl) ea_nil (room_sp (isb.mono E3) G)) rv_I0)) (fun _ H4 e4 => w H4 (E3.trans e4)) (fun hb => absurd big (of_decide_eq_false hb))
      · refine s_seq (sx_drop (evx_callS (cls := .ref T.CNoRow) (ea_cons (fb E1 (ev_var rfl)) (ea_cons (ev_var rfl) (ea_cons (ev_var rfl) ea_nil))) (fun H2 e2 Q E w1 => ⟨l, p, .int pl, bs, ws, rfl, .inr ⟨pl, rfl⟩, sq_of (e2 l _ (E1 l _ hl)), ex_l (E1.trans e2) hp, l14, e36, ?_⟩) fun H2 e2 => w H2 (E1.trans e2)))
        rcases bad with ⟨_, _, ne, _⟩ | ⟨i, xs, hpl, F, k, hk, ne, no⟩
        · exact .inl ⟨ne, w1⟩
        · have fl := F.len
          obtain ⟨z, hz, hw⟩ := F.ex
          refine .inr ⟨by rw [hw, List.length_set, List.length_map]; exact fl, by rw [hw]; exact flat_set (flat_ints xs) hz i, .inr ⟨fun R => ?_, w1⟩⟩
          obtain ⟨x, hx, x0, x1⟩ := R k hk (fun c => ne (by rw [hpl] at c; injection c with c; omega))
          rw [hw, List.getElem?_set_ne (fun c => ne c.symm), intsAt (by omega)] at hx
          cases hx
          exact no ⟨x0, x1⟩
theorem ok_Told (T : Txt K mg) : FnOk P w K mg base (L2N.CX P w) 4 T.fTold T.dTold ["board", "row"] (spToldD K T.CBoard T.CNoRow T.CNoNumber) := by
  have GBoardFigures := ok_BoardFigures (P := P) (w := w) (base := base) T
  refine T.FTold.okN scTold (fun vs H Q E h => ?_) (fun cdv A outer s H vs Q E hr h => ?_)
  · obtain ⟨b, p, os, bs, xs, rfl, _⟩ := h
    rfl
  · obtain ⟨b, p, os, bs, xs, rfl, isb, G, hp, h⟩ := h
    refine ⟨_, (pss_cons (ps_set (i := 2) scTold.nd rfl (Or.inl rfl) (RXN.pe_methX (pv 0) T.cBoard T.mBoardFigures GBoardFigures (hr.mono (by decide)) T.bBoardFigures (L2N.takes_of rfl rfl rfl rfl) (pa_cons (pv 1) pa_nil)))
    (pss_cons (ps_if (pt_cmpR (op_neD hr.eq) (pe_slice sl_list (pv 2) (po_some (pe_un un_neg pe_int)) po_none) (pe_lst (pa_cons pe_int (pa_cons pe_int pa_nil))) (nomark _)) (pss_one (L2N.ps_raise (by rfl) (L2N.takes_of rfl rfl rfl rfl) (L2N.pmk_own PySem.F.excBase_ValueError T.xNoNumber T.gNoNumber T.kNoNumber (raises_own T.bNoNumber T.tNoNumber) (by rfl)))) pss_nil)
    (pss_one (ps_ret (pv 2))))), ?_⟩
    rcases h with ⟨n, tn, ky, kn⟩ | ⟨no, w⟩
    · refine q_asgL (el_methB isb (ev_var rfl) (ea_cons (ev_var rfl) ea_nil) (figs_sp isb G hp tn)) fun f H1 hf e1 gf => ?_
      have fl := RM.figs_len bs n
      have tst : Ev (tOp (rNeD K) (tSl (rSlL K) (tVar 2) (tPart (tUn (rU fun i => .int (-i)) (tC (.int 2)))) tNoPart) (tLst (tCons (tC (.int 0)) (tCons (tC (.int 0)) tNil)))) [some (.ref b), some (.ref p), some (.ref f)] H1 (.bl (decide (RM.roomOf bs ≤ n))) := by
        rw [← last2_ne G tn]
        refine ev_opLL (xs := ((RM.figsOf bs n).drop (bs.length - 2)).map V.int) (ys := ([0, 0] : List Int).map V.int) (el_is (el_cut (er_var rfl gf) (eo_some (ev_un ev_c ru_neg)) eo_none) ?_) (el_lst (ea_cons ev_c (ea_cons ev_c ea_nil)) (by show 2 ≤ 100000; decide)) fun x y H2 hx hy _ => rv_neL (sq_of hx) (sq_of hy)
        show cutV _ (some (-2)) none = _
        rw [cut_last2, List.map_drop, List.length_map, fl]
      refine q_when (et_test tst) (fun hb H2 e2 => ?_) (fun hb H2 e2 => ?_)
      · exact kn (of_decide_eq_true hb) H2 (e1.trans e2)
      · have lt : n < RM.roomOf bs := by
          have := of_decide_eq_false hb
          omega
        exact s_ret (ev_var rfl) fun H3 e3 => ky lt f H3 hf ((e1.trans e2).trans e3) (e3 f _ (e2 f _ gf))
    · exact s_seq (sx_asg (evx_methB isb (ev_var rfl) (ea_cons (ev_var rfl) ea_nil) (figs_no isb G hp no) fun H1 e1 => w H1 e1))
theorem ok_BoardNumber (T : Txt K mg) : FnOk P w K mg base (L2N.CX P w) 5 T.fBoardNumber T.dBoardNumber ["self", "row"] (spNumberM K T.CBoard T.CNoRow T.CNoNumber) := by
  have GNumberOf := ok_NumberOf (P := P) (w := w) (base := base) T
  have GTold := ok_Told (P := P) (w := w) (base := base) T
  refine T.FBoardNumber.okN scBoardNumber (fun vs H Q E h => ?_) (fun cdv A outer s H vs Q E hr h => ?_)
  · obtain ⟨b, p, os, bs, xs, rfl, _⟩ := h
    rfl
  · obtain ⟨b, p, os, bs, xs, rfl, isb, G, hp, h⟩ := h
    refine ⟨_, (pss_one (ps_ret (RXN.pe_callX GNumberOf (hr.mono (by decide)) (by rfl) T.gNumberOf T.kNumberOf T.bNumberOf (L2N.takes_of rfl rfl rfl rfl) (pa_cons (RXN.pe_callX GTold (hr.mono (by decide)) (by rfl) T.gTold T.kTold T.bTold (L2N.takes_of rfl rfl rfl rfl) (pa_cons (pv 0) (pa_cons (pv 1) pa_nil))) (pa_cons (pe_fld (pv 0) rfl) pa_nil))))), ?_⟩
    obtain ⟨l, _, hl, fb⟩ := fld_bases isb T.cBoard T.nBoard_bases
    rcases h with ⟨n, tn, ky, kn⟩ | ⟨no, w⟩
    · by_cases lt : n < RM.roomOf bs
      · refine s_ret (ev_value (el_callS (ea_cons (ev_var rfl) (ea_cons (ev_var rfl) ea_nil)) (toldd_sp isb G hp tn lt)) hl (fb (Ex.refl H) (ev_var rfl)) G (RM.figs_isRow n G.pos)) fun H1 e1 => ?_
        rw [RM.val_figs G.pos tn.1 tn.2.1]
        exact (ky lt).go e1
      · exact sx_ret (evx_callA (eax_1 (evx_callS (ea_cons (ev_var rfl) (ea_cons (ev_var rfl) ea_nil)) (toldd_nn isb G hp tn (by omega)) fun H1 e1 => kn (by omega) H1 e1)))
    · exact sx_ret (evx_callA (eax_1 (evx_callS (ea_cons (ev_var rfl) (ea_cons (ev_var rfl) ea_nil)) (toldd_nr isb G hp no) fun H1 e1 => w H1 e1)))
theorem ok_LAsked (T : Txt K mg) : FnOk P w K mg base (L2N.CX P w) 6 T.fLAsked T.dLAsked ["_law_kind", "_law_bases_here", "_law_row", "_law_wrong", "_law_at"] (spAsked K T.CNoBases T.CNoRow T.CNoNumber T.CNoPlace T.CNoTurn T.COutOfRoom T.CLost) := by
  have GBoardInit := ok_BoardInit (P := P) (w := w) (base := base) T
  have GRefilled := ok_Refilled (P := P) (w := w) (base := base) T
  have GBoardFigures := ok_BoardFigures (P := P) (w := w) (base := base) T
  have GBoardNumber := ok_BoardNumber (P := P) (w := w) (base := base) T
  have GTurned := ok_Turned (P := P) (w := w) (base := base) T
  have GBoardRests := ok_BoardRests (P := P) (w := w) (base := base) T
  have GBoardRoom := ok_BoardRoom (P := P) (w := w) (base := base) T
  refine T.FLAsked.okN scLAsked (fun vs H Q E h => ?_) (fun cdv A outer s H vs Q E hr h => ?_)
  · obtain ⟨p, r, w, kind, bs, n, new, i, rfl, _⟩ := h
    rfl
  · obtain ⟨p, r, w, kind, bs, n, new, i, rfl, hp, hr1, hw, G, n0, n1, hi, y0, y1, ne, h⟩ := h
    refine ⟨_, (pss_cons (ps_set (i := 5) scLAsked.nd rfl (Or.inl rfl) (RXN.pe_makeX T.mkBoard GBoardInit (hr.mono (by decide)) (by rfl) T.gBoard T.bBoardInit (L2N.takes_of rfl rfl rfl rfl) (pa_cons (pv 1) pa_nil)))
    (pss_cons (ps_if (pt_cmpR (op_eqD hr.eq) (pv 0) pe_int (nomark _)) (pss_one (ps_ret (RXN.pe_makeX T.mkBoard GBoardInit (hr.mono (by decide)) (by rfl) T.gBoard T.bBoardInit (L2N.takes_of rfl rfl rfl rfl) (pa_cons (pe_op op_cat (pe_op op_cat (pe_slice sl_list (pv 1) po_none (po_some (pv 4))) (pe_lst (pa_cons (pe_ix ix_list (pv 1) (pv 4) (fun _ _ => rfl)) pa_nil))) (pe_slice sl_list (pv 1) (po_some (pv 4)) po_none)) pa_nil)))) pss_nil)
    (pss_cons (ps_if (pt_cmpR (op_eqD hr.eq) (pv 0) pe_int (nomark _)) (pss_one (ps_ret (RXN.pe_methX (pv 5) T.cBoard T.mBoardFigures GBoardFigures (hr.mono (by decide)) T.bBoardFigures (L2N.takes_of rfl rfl rfl rfl) (pa_cons (pe_slice sl_list (pv 2) (po_some pe_int) po_none) pa_nil)))) pss_nil)
    (pss_cons (ps_if (pt_cmpR (op_eqD hr.eq) (pv 0) pe_int (nomark _)) (pss_one (ps_ret (RXN.pe_methX (pv 5) T.cBoard T.mBoardNumber GBoardNumber (hr.mono (by decide)) T.bBoardNumber (L2N.takes_of rfl rfl rfl rfl) (pa_cons (pv 3) pa_nil)))) pss_nil)
    (pss_cons (ps_if (pt_cmpR (op_eqD hr.eq) (pv 0) pe_int (nomark _)) (pss_one (ps_ret (RXN.pe_callX GRefilled (hr.mono (by decide)) (by rfl) T.gRefilled T.kRefilled T.bRefilled (L2N.takes_of rfl rfl rfl rfl) (pa_cons (pv 5) (pa_cons (pv 2) (pa_cons (pe_op op_add (pe_callB call_len_seq (by rfl) T.z_len boot_len (pa_cons (pv 2) pa_nil)) (pv 4)) pa_nil)))))) pss_nil)
    (pss_cons (ps_if (pt_cmpR (op_eqD hr.eq) (pv 0) pe_int (nomark _)) (pss_one (ps_ret (RXN.pe_callX GTurned (hr.mono (by decide)) (by rfl) T.gTurned T.kTurned T.bTurned (L2N.takes_of rfl rfl rfl rfl) (pa_cons (pe_op op_mulA (pe_ix ix_list (pv 1) (pv 4) (fun _ _ => rfl)) (pe_op op_add (pv 4) pe_int)) (pa_cons (pe_ix ix_list (pv 1) (pv 4) (fun _ _ => rfl)) pa_nil))))) pss_nil)
    (pss_cons (ps_if (pt_cmpR (op_eqD hr.eq) (pv 0) pe_int (nomark _)) (pss_one (ps_ret (RXN.pe_methX (pv 5) T.cBoard T.mBoardRests GBoardRests (hr.mono (by decide)) T.bBoardRests (L2N.takes_of rfl rfl rfl rfl) (pa_cons (pe_op op_add (RXN.pe_meth0X (pv 5) T.cBoard T.mBoardRoom GBoardRoom (hr.mono (by decide)) T.bBoardRoom (L2N.takes_of rfl rfl rfl rfl)) (pv 4)) pa_nil)))) pss_nil)
    (pss_one (ps_ret (RXN.pe_callX GRefilled (hr.mono (by decide)) (by rfl) T.gRefilled T.kRefilled T.bRefilled (L2N.takes_of rfl rfl rfl rfl) (pa_cons (pv 5) (pa_cons (pv 3) (pa_cons (pe_op op_mod (pe_op op_add (pv 4) pe_int) (pe_callB call_len_seq (by rfl) T.z_len boot_len (pa_cons (pv 2) pa_nil))) pa_nil))))))))))))), ?_⟩
    have l3 := G.len3
    have l14 := G.len14
    have ll := RM.rests_len bs n
    have bi := G.at_ hi
    refine q_asgB (evb_make (ea_cons (ev_var rfl) ea_nil) hp (by omega) G) fun b os H1 hb0 hos e1 isb => ?_
    refine nrm (σ' := [_, _, _, _, _, _]) ?_ rfl
    rcases h with ⟨rfl, k⟩ | ⟨rfl, k⟩ | ⟨rfl, k⟩ | ⟨rfl, k⟩ | ⟨rfl, k⟩ | ⟨rfl, k⟩ | ⟨rfl, k⟩
    · refine q_when (b := decide ((0 : Int) = 0)) (et_test (ev_op (ev_var rfl) ev_c rv_eqI)) (fun _ K0 f0 => ?_) (fun hb => absurd hb (by decide))
      have EB := f0
      have EE := e1.trans EB
      exact sx_ret (evx_makeN (ns := dupl bs i) (el_is (el_cat (lr (el_cat (lr (el_to (ev_var rfl) (ex_l EE hp) (ev_var rfl))) (lr (el_lst (ea_cons (ev_op (ev_var rfl) (ev_var rfl) (rv_ixL (ex_l EE hp) (atI_nat (intsAt hi)))) ea_nil) (by show 1 ≤ 100000; decide))) (by simp only [List.length_take, List.length_map, List.length_singleton]; omega))) (lr (el_from (ev_var rfl) (ex_l EE hp) (ev_var rfl))) (by simp only [List.length_take, List.length_map, List.length_singleton, List.length_append, List.length_drop]; omega)) (dupl_map bs)) (by unfold dupl; simp only [List.length_append, List.length_take, List.length_drop, List.length_singleton]; omega) (dupl_bad hi) fun H9 e9 => k H9 (EE.trans e9))
    · refine q_when (b := decide ((1 : Int) = 0)) (et_test (ev_op (ev_var rfl) ev_c rv_eqI)) (fun hb => absurd hb (by decide)) (fun _ K0 f0 => ?_)
      refine q_when (b := decide ((1 : Int) = 1)) (et_test (ev_op (ev_var rfl) ev_c rv_eqI)) (fun _ K1 f1 => ?_) (fun hb => absurd hb (by decide))
      have EB := (f0.trans f1)
      have EE := e1.trans EB
      exact sx_ret (evx_methN (isb.mono EB) (ev_var rfl) (el_is (el_from (i := 1) (ev_var rfl) (sq_of (EE r _ hr1)) ev_c) (by rw [← List.map_drop])) (fun q H9 e9 g => figs_no (isb.mono (EB.trans e9)) G (sq_of g) fun z => by
      have := z.len
      rw [List.length_drop] at this
      omega) fun H9 e9 => k H9 (EE.trans e9))
    · refine q_when (b := decide ((2 : Int) = 0)) (et_test (ev_op (ev_var rfl) ev_c rv_eqI)) (fun hb => absurd hb (by decide)) (fun _ K0 f0 => ?_)
      refine q_when (b := decide ((2 : Int) = 1)) (et_test (ev_op (ev_var rfl) ev_c rv_eqI)) (fun hb => absurd hb (by decide)) (fun _ K1 f1 => ?_)
      refine q_when (b := decide ((2 : Int) = 2)) (et_test (ev_op (ev_var rfl) ev_c rv_eqI)) (fun _ K2 f2 => ?_) (fun hb => absurd hb (by decide))
      have EB := ((f0.trans f1).trans f2)
      have EE := e1.trans EB
      obtain ⟨k1, k1a, k1b, k1c⟩ := G.wrong n0 n1 hi y0 y1 ne
      exact sx_ret (evx_methB (isb.mono EB) (ev_var rfl) (ea_cons (ev_var rfl) ea_nil) (number_no (n := k1) (isb.mono EB) G (ex_l EE hw) ⟨by have := G.room_pos; omega, k1b, k1c⟩ k1a) fun H9 e9 => k H9 (EE.trans e9))
    · refine q_when (b := decide ((3 : Int) = 0)) (et_test (ev_op (ev_var rfl) ev_c rv_eqI)) (fun hb => absurd hb (by decide)) (fun _ K0 f0 => ?_)
      refine q_when (b := decide ((3 : Int) = 1)) (et_test (ev_op (ev_var rfl) ev_c rv_eqI)) (fun hb => absurd hb (by decide)) (fun _ K1 f1 => ?_)
      refine q_when (b := decide ((3 : Int) = 2)) (et_test (ev_op (ev_var rfl) ev_c rv_eqI)) (fun hb => absurd hb (by decide)) (fun _ K2 f2 => ?_)
      refine q_when (b := decide ((3 : Int) = 3)) (et_test (ev_op (ev_var rfl) ev_c rv_eqI)) (fun _ K3 f3 => ?_) (fun hb => absurd hb (by decide))
      have EB := (((f0.trans f1).trans f2).trans f3)
      have EE := e1.trans EB
      exact sx_ret (evx_callS (ea_cons (ev_var rfl) (ea_cons (ev_var rfl) (ea_cons (ev_op (ev_lenR (er_var rfl (EE r _ hr1))) (ev_var rfl) rv_I0) ea_nil))) (fun H9 e9 Q E w1 => ⟨b, r, os, bs, _, _, rfl, isb.mono (EB.trans e9), G, sq_of ((EE.trans e9) r _ hr1), .inl ⟨fun z => by have q := z.2; rw [List.length_map] at q; omega, w1⟩⟩) fun H9 e9 => k H9 (EE.trans e9))
    · refine q_when (b := decide ((4 : Int) = 0)) (et_test (ev_op (ev_var rfl) ev_c rv_eqI)) (fun hb => absurd hb (by decide)) (fun _ K0 f0 => ?_)
      refine q_when (b := decide ((4 : Int) = 1)) (et_test (ev_op (ev_var rfl) ev_c rv_eqI)) (fun hb => absurd hb (by decide)) (fun _ K1 f1 => ?_)
      refine q_when (b := decide ((4 : Int) = 2)) (et_test (ev_op (ev_var rfl) ev_c rv_eqI)) (fun hb => absurd hb (by decide)) (fun _ K2 f2 => ?_)
      refine q_when (b := decide ((4 : Int) = 3)) (et_test (ev_op (ev_var rfl) ev_c rv_eqI)) (fun hb => absurd hb (by decide)) (fun _ K3 f3 => ?_)
      refine q_when (b := decide ((4 : Int) = 4)) (et_test (ev_op (ev_var rfl) ev_c rv_eqI)) (fun _ K4 f4 => ?_) (fun hb => absurd hb (by decide))
      have EB := ((((f0.trans f1).trans f2).trans f3).trans f4)
      have EE := e1.trans EB
      have G1 : 1 < K01.G (bs.getD i 0 * ((i : Int) + 1)) (bs.getD i 0) := by
        have d : bs.getD i 0 ∣ (Int.gcd (bs.getD i 0 * ((i : Int) + 1)) (bs.getD i 0) : Int) := Int.dvd_coe_gcd ⟨_, rfl⟩ (Int.dvd_refl _)
        have z : Int.gcd (bs.getD i 0 * ((i : Int) + 1)) (bs.getD i 0) ≠ 0 := fun z => by
          rw [Int.gcd_eq_zero_iff] at z
          omega
        have := Int.le_of_dvd (by omega) d
        unfold K01.G
        omega
      have big : bs.getD i 0 * ((i : Int) + 1) ≤ 999999 * 15 := Int.mul_le_mul bi.2 (by omega) (by omega) (by omega)
      exact sx_ret (evx_callS (ea_cons (ev_op (ev_op (ev_var rfl) (ev_var rfl) (rv_ixL (ex_l EE hp) (atI_nat (intsAt hi)))) (ev_op (ev_var rfl) ev_c rv_I0) (rv_I (mul_l ⟨by omega, by omega⟩))) (ea_cons (ev_op (ev_var rfl) (ev_var rfl) (rv_ixL (ex_l EE hp) (atI_nat (intsAt hi)))) ea_nil)) (fun H9 e9 Q E w1 => ⟨_, _, rfl, Int.mul_nonneg (by omega) (by omega), by omega, by omega, fun _ => w1, fun z => absurd G1 z⟩) fun H9 e9 => k H9 (EE.trans e9))
    · refine q_when (b := decide ((5 : Int) = 0)) (et_test (ev_op (ev_var rfl) ev_c rv_eqI)) (fun hb => absurd hb (by decide)) (fun _ K0 f0 => ?_)
      refine q_when (b := decide ((5 : Int) = 1)) (et_test (ev_op (ev_var rfl) ev_c rv_eqI)) (fun hb => absurd hb (by decide)) (fun _ K1 f1 => ?_)
      refine q_when (b := decide ((5 : Int) = 2)) (et_test (ev_op (ev_var rfl) ev_c rv_eqI)) (fun hb => absurd hb (by decide)) (fun _ K2 f2 => ?_)
      refine q_when (b := decide ((5 : Int) = 3)) (et_test (ev_op (ev_var rfl) ev_c rv_eqI)) (fun hb => absurd hb (by decide)) (fun _ K3 f3 => ?_)
      refine q_when (b := decide ((5 : Int) = 4)) (et_test (ev_op (ev_var rfl) ev_c rv_eqI)) (fun hb => absurd hb (by decide)) (fun _ K4 f4 => ?_)
      refine q_when (b := decide ((5 : Int) = 5)) (et_test (ev_op (ev_var rfl) ev_c rv_eqI)) (fun _ K5 f5 => ?_) (fun hb => absurd hb (by decide))
      have EB := (((((f0.trans f1).trans f2).trans f3).trans f4).trans f5)
      have EE := e1.trans EB
      exact sx_ret (evx_methB (isb.mono EB) (ev_var rfl) (ea_cons (ev_op (ev_methB (isb.mono EB) (ev_var rfl) ea_nil (room_sp (isb.mono EB) G)) (ev_var rfl) rv_I0) ea_nil) (rests_no (isb.mono EB) G (fun z => by omega)) fun H9 e9 => k H9 (EE.trans e9))
    · refine q_when (b := decide ((6 : Int) = 0)) (et_test (ev_op (ev_var rfl) ev_c rv_eqI)) (fun hb => absurd hb (by decide)) (fun _ K0 f0 => ?_)
      refine q_when (b := decide ((6 : Int) = 1)) (et_test (ev_op (ev_var rfl) ev_c rv_eqI)) (fun hb => absurd hb (by decide)) (fun _ K1 f1 => ?_)
      refine q_when (b := decide ((6 : Int) = 2)) (et_test (ev_op (ev_var rfl) ev_c rv_eqI)) (fun hb => absurd hb (by decide)) (fun _ K2 f2 => ?_)
      refine q_when (b := decide ((6 : Int) = 3)) (et_test (ev_op (ev_var rfl) ev_c rv_eqI)) (fun hb => absurd hb (by decide)) (fun _ K3 f3 => ?_)
      refine q_when (b := decide ((6 : Int) = 4)) (et_test (ev_op (ev_var rfl) ev_c rv_eqI)) (fun hb => absurd hb (by decide)) (fun _ K4 f4 => ?_)
      refine q_when (b := decide ((6 : Int) = 5)) (et_test (ev_op (ev_var rfl) ev_c rv_eqI)) (fun hb => absurd hb (by decide)) (fun _ K5 f5 => ?_)
      have EB := (((((f0.trans f1).trans f2).trans f3).trans f4).trans f5)
      have EE := e1.trans EB
      have q0 := Int.emod_nonneg ((i : Int) + 1) (show (bs.length : Int) ≠ 0 by omega)
      have q1 := Int.emod_lt_of_pos ((i : Int) + 1) (show 0 < (bs.length : Int) by omega)
      obtain ⟨j, ej⟩ : ∃ j : Nat, ((i : Int) + 1) % (bs.length : Int) = (j : Int) := ⟨(((i : Int) + 1) % (bs.length : Int)).toNat, by omega⟩
      have ji : j ≠ i := fun z => by
        by_cases c : (i : Int) + 1 < (bs.length : Int)
        · rw [Int.emod_eq_of_lt (by omega) c] at ej
          omega
        · have e : (i : Int) + 1 = (bs.length : Int) := by omega
          rw [e, Int.emod_self] at ej
          omega
      have hj : j < bs.length := by omega
      have wl : (RM.spoil (RM.restsOf bs n) i new).length = bs.length := by rw [RM.spoil_len (by omega)]; exact ll
      have fa : FillAt bs ((RM.spoil (RM.restsOf bs n) i new).map V.int) j (RM.spoil (RM.restsOf bs n) i new) := ⟨hj, wl, V.int ((RM.spoil (RM.restsOf bs n) i new).getD j 0), .inr ⟨_, rfl⟩, by
        exact (set_same (intsAt (ns := RM.spoil (RM.restsOf bs n) i new) (i := j) (by omega))).symm⟩
      have row := RM.spoil_row (RM.rests_isRow (n := n) G.pos) hi y0 y1
      have lost : fillLost bs ((RM.spoil (RM.restsOf bs n) i new).map V.int) (j : Int) := ⟨j, _, rfl, fa, fun k hk _ => (RM.isRow_iff.mp row).2 k hk, fun m m0 m1 => by
        by_cases c : n % bs.getD i 0 = m % bs.getD i 0
        · exact ⟨i, hi, fun z => ji z.symm, by rw [RM.spoil_at (by omega), ← c]; exact ne⟩
        · by_cases all : ∀ k, k < bs.length → k ≠ j → k ≠ i → n % bs.getD k 0 = m % bs.getD k 0
          · exact absurd (by rw [G.two_lost hj hi n0 n1 m0 m1 all]) c
          · obtain ⟨k, hk⟩ := Classical.not_forall.mp all
            obtain ⟨hk1, hk⟩ := Classical.not_imp.mp hk
            obtain ⟨hk2, hk⟩ := Classical.not_imp.mp hk
            obtain ⟨hk3, hk⟩ := Classical.not_imp.mp hk
            exact ⟨k, hk1, hk2, by rw [RM.spoil_ne (by omega) _ hk3, RM.rests_get hk1]; exact hk⟩⟩
      exact sx_ret (evx_callS (ea_cons (ev_var rfl) (ea_cons (ev_var rfl) (ea_cons (ev_is (ev_op (ev_op (ev_var rfl) ev_c rv_I0) (ev_lenR (er_var rfl (EE r _ hr1))) (rv_I (by rw [List.length_map]; omega))) (by rw [List.length_map, ll, ej])) ea_nil))) (fun H9 e9 Q E w1 => ⟨b, w, os, bs, _, _, rfl, isb.mono (EB.trans e9), G, ex_l (EE.trans e9) hw, .inr (.inr (.inl ⟨lost, w1⟩))⟩) fun H9 e9 => k H9 (EE.trans e9))
theorem ok_LawN (T : Txt K mg) : FnOk P w K mg base (L2N.CX P w) 7 T.fLaw T.dLaw ["_law_script"] (spLaw K) := by
  have GLBases := ok_LBases (P := P) (w := w) (base := base) T
  have GLCellAt := ok_LCellAt (P := P) (w := w) (base := base) T
  have GLAsked := ok_LAsked (P := P) (w := w) (base := base) T
  refine T.FLaw.okN scLaw (fun vs H Q E h => ?_) (fun cdv A outer s H vs Q E hr h => ?_)
  · obtain ⟨a, ns, rfl, _⟩ := h
    rfl
  · obtain ⟨a, ns, rfl, hS, hl, kq⟩ := h
    refine ⟨_, (pss_cons (ps_set (i := 1) scLaw.nd rfl (Or.inl rfl) (RXN.pe_callX GLBases (hr.mono (by decide)) (by rfl) T.gLBases T.kLBases T.bLBases (L2N.takes_of rfl rfl rfl rfl) (pa_cons (RXN.pe_callX GLCellAt (hr.mono (by decide)) (by rfl) T.gLCellAt T.kLCellAt T.bLCellAt (L2N.takes_of rfl rfl rfl rfl) (pa_cons (pv 0) (pa_cons pe_int pa_nil))) (pa_cons (RXN.pe_callX GLCellAt (hr.mono (by decide)) (by rfl) T.gLCellAt T.kLCellAt T.bLCellAt (L2N.takes_of rfl rfl rfl rfl) (pa_cons (pv 0) (pa_cons pe_int pa_nil))) pa_nil))))
    (pss_cons (ps_set (i := 2) scLaw.nd rfl (Or.inl rfl) (pe_op op_mod (RXN.pe_callX GLCellAt (hr.mono (by decide)) (by rfl) T.gLCellAt T.kLCellAt T.bLCellAt (L2N.takes_of rfl rfl rfl rfl) (pa_cons (pv 0) (pa_cons pe_int pa_nil))) (pe_callB call_len_seq (by rfl) T.z_len boot_len (pa_cons (pv 1) pa_nil))))
    (pss_cons (ps_set (i := 3) scLaw.nd rfl (Or.inr rfl) (pe_op op_mod (RXN.pe_callX GLCellAt (hr.mono (by decide)) (by rfl) T.gLCellAt T.kLCellAt T.bLCellAt (L2N.takes_of rfl rfl rfl rfl) (pa_cons (pv 0) (pa_cons pe_int pa_nil))) pe_int))
    (pss_cons (ps_set (i := 4) scLaw.nd rfl (Or.inr rfl) (pe_op op_mod (pe_callB call_abs (by rfl) T.z_abs boot_abs (pa_cons (RXN.pe_callX GLCellAt (hr.mono (by decide)) (by rfl) T.gLCellAt T.kLCellAt T.bLCellAt (L2N.takes_of rfl rfl rfl rfl) (pa_cons (pv 0) (pa_cons pe_int pa_nil))) pa_nil)) pe_int))
    (pss_cons (ps_setLc (i := 5) (own := [("_law_base", 9)]) (g := gName 9) (tt := tYes) (by rfl) scLaw.nd rfl rfl (sw_true rfl rfl rfl (by decide +kernel)) (pi_list (pv 1)) (blkOk_by (N := ["_law_script", "_law_bases_here", "_law_at", "_law_kind", "_law_number", "_law_row", "_law_wrong", "e", "_law_found", "_law_base", "_law_k"]) (sc := defScope sLaw) (by decide +kernel)) (fun _ _ _ _ _ => (pg_name (i := 9) scLaw.nd rfl (Or.inl rfl))) (fun _ _ _ _ _ => pts_nil) (fun _ _ _ _ _ => (pe_op op_mod (pv 4) (pv 9))))
    (pss_cons (ps_set (i := 6) scLaw.nd rfl (Or.inl rfl) (pe_callTy call_list_of (by rfl) T.z_list boot_list (pa_cons (pv 5) pa_nil)))
    (pss_cons (ps_asg (pe_op op_mod (pe_op op_add (pe_op op_add (pe_ix ix_list (pv 5) (pv 2) (fun _ _ => rfl)) pe_int) (pe_op op_mod (RXN.pe_callX GLCellAt (hr.mono (by decide)) (by rfl) T.gLCellAt T.kLCellAt T.bLCellAt (L2N.takes_of rfl rfl rfl rfl) (pa_cons (pv 0) (pa_cons pe_int pa_nil))) (pe_op op_sub (pe_ix ix_list (pv 1) (pv 2) (fun _ _ => rfl)) pe_int))) (pe_ix ix_list (pv 1) (pv 2) (fun _ _ => rfl))) (pg_sub (pv 6) (pv 2) set_list))
    (pss_cons (L2N.ps_try_as (i := 7) rfl rfl scLaw.nd rfl rfl ⟨rfl, by decide, .inl T.gRestError⟩ (L2N.takes_of rfl rfl rfl rfl) (fun W pn xe tk po => (pss_one (ps_expr (RXN.pe_callX GLAsked (hr.mono (by decide)) (by rfl) T.gLAsked T.kLAsked T.bLAsked tk (pa_cons (pv 3) (pa_cons (pv 1) (pa_cons (pv 5) (pa_cons (pv 6) (pa_cons (pv 2) pa_nil))))))))) (fun a oe cls d pn hz hf => (pss_cons (ps_set (i := 8) scLaw.nd rfl (Or.inl rfl) (pe_lst (pa_cons (pe_callB (call_isEx hz.zc hf) (by rfl) T.z_isinstance boot_isinstance (pa_cons (pv 7) (pa_cons (pe_glob (v := .ref T.CNoBases) (by rfl) T.gNoBases rfl) pa_nil))) (pa_cons (pe_callB (call_isEx hz.zc hf) (by rfl) T.z_isinstance boot_isinstance (pa_cons (pv 7) (pa_cons (pe_glob (v := .ref T.CNoRow) (by rfl) T.gNoRow rfl) pa_nil))) (pa_cons (pe_callB (call_isEx hz.zc hf) (by rfl) T.z_isinstance boot_isinstance (pa_cons (pv 7) (pa_cons (pe_glob (v := .ref T.CNoNumber) (by rfl) T.gNoNumber rfl) pa_nil))) (pa_cons (pe_callB (call_isEx hz.zc hf) (by rfl) T.z_isinstance boot_isinstance (pa_cons (pv 7) (pa_cons (pe_glob (v := .ref T.CNoPlace) (by rfl) T.gNoPlace rfl) pa_nil))) pa_nil))))))
      (pss_cons (ps_set (i := 8) scLaw.nd rfl (Or.inl rfl) (pe_op op_cat (pv 8) (pe_lst (pa_cons (pe_callB (call_isEx hz.zc hf) (by rfl) T.z_isinstance boot_isinstance (pa_cons (pv 7) (pa_cons (pe_glob (v := .ref T.CNoTurn) (by rfl) T.gNoTurn rfl) pa_nil))) (pa_cons (pe_callB (call_isEx hz.zc hf) (by rfl) T.z_isinstance boot_isinstance (pa_cons (pv 7) (pa_cons (pe_glob (v := .ref T.COutOfRoom) (by rfl) T.gOutOfRoom rfl) pa_nil))) (pa_cons (pe_callB (call_isEx hz.zc hf) (by rfl) T.z_isinstance boot_isinstance (pa_cons (pv 7) (pa_cons (pe_glob (v := .ref T.CLost) (by rfl) T.gLost rfl) pa_nil))) pa_nil))))))
      (pss_one (ps_ret (pe_and (pe_callB (call_isEx hz.zc hf) (by rfl) T.z_isinstance boot_isinstance (pa_cons (pv 7) (pa_cons (pe_bltn (v := .ty "ValueError") (by rfl) T.z_ValueError (by decide +kernel) rfl) pa_nil))) (pe_one (pe_cmpR (op_eqDK (K := K) rfl hr.eq) (pv 8) (RXN.pe_lcH (own := [("_law_k", 10)]) (g := gName 10) (tt := tYes) (RXN.hot_suite hz hf) scLaw.nd (RXN.pr_range (by rfl) T.z_range (pa_cons pe_int pa_nil)) (blkOk_by (N := ["_law_script", "_law_bases_here", "_law_at", "_law_kind", "_law_number", "_law_row", "_law_wrong", "e", "_law_found", "_law_base", "_law_k"]) (sc := defScope sLaw) (by decide +kernel)) (fun _ _ _ _ _ => (pg_name (i := 10) scLaw.nd rfl (Or.inl rfl))) (fun _ _ _ _ _ => pts_nil) (fun _ _ _ _ _ => (pe_cmpR (op_eqDK (K := K) rfl hr.eq) (pv 10) (pv 3) (nomark _)))) (nomark _))))))))))
    (pss_one (ps_ret pe_bl)))))))))), ?_⟩
    have cells : ∀ {H1 : Hp} (e : Ex H H1) (k : Nat), SpV (spCell K) [.ref a, .int (k : Int)] H1 (.int (ns.getD k 0)) := fun e k => RX.SpV.mono e (cell_sp hS k)
    have cellv : ∀ {σ' : L2.St} {H1 : Hp} {W : L2.St → XK} (e : Ex H H1) (k : Nat), σ'[0]? = some (some (.ref a)) → Ev (tCallS (spCell K) W (tCons (tVar 0) (tCons (tC (.int (k : Int))) tNil))) σ' H1 (.int (ns.getD k 0)) := fun e k h0 => ev_callS (ea_cons (ev_var h0) (ea_cons ev_c ea_nil)) (cells e k)
    have G := RM.bases_good (ns.getD 0 0) (ns.getD 1 0)
    refine q_asgL (el_callS (ea_cons (cellv (Ex.refl H) 0 rfl) (ea_cons (cellv (Ex.refl H) 1 rfl) ea_nil)) (bases_sp _ _)) fun p H1 hp0 e1 hp => ?_
    refine nrm (σ' := [_, _, _, _, _, _, _, _, _, _, _]) ?_ rfl
    generalize RM.basesOf (ns.getD 0 0) (ns.getD 1 0) = bs at G hp
    have l3 := G.len3
    have l14 := G.len14
    have R3 := G.room_pos
    have i0 := Int.emod_nonneg (ns.getD 2 0) (show ((bs.map V.int).length : Int) ≠ 0 by rw [List.length_map]; omega)
    have i1 := Int.emod_lt_of_pos (ns.getD 2 0) (show (0 : Int) < ((bs.map V.int).length : Int) by rw [List.length_map]; omega)
    refine q_asg (ev_op (cellv e1 2 rfl) (ev_lenR (er_var rfl hp)) (rv_I (by rw [List.length_map]; omega))) fun H2 e2 => ?_
    refine nrm (σ' := [_, _, _, _, _, _, _, _, _, _, _]) ?_ rfl
    obtain ⟨i, ei⟩ : ∃ i : Nat, ns.getD 2 0 % ((bs.map V.int).length : Int) = (i : Int) := ⟨(ns.getD 2 0 % ((bs.map V.int).length : Int)).toNat, by omega⟩
    rw [ei] at i0 i1 ⊢
    rw [List.length_map] at i1
    have hi : i < bs.length := by omega
    have bi := good_at G hi
    have E2 := e1.trans e2
    refine q_asg (ev_op (cellv E2 3 rfl) ev_c (rv_I (show (0 : Int) < 7 by decide))) fun H3 e3 => ?_
    refine nrm (σ' := [_, _, _, _, _, _, _, _, _, _, _]) ?_ rfl
    have k0 := Int.emod_nonneg (ns.getD 3 0) (show (7 : Int) ≠ 0 by decide)
    have k1 := Int.emod_lt_of_pos (ns.getD 3 0) (show (0 : Int) < 7 by decide)
    generalize ns.getD 3 0 % 7 = kind at k0 k1
    have E3 := E2.trans e3
    refine q_asg (ev_op (ev_cb (ea_cons (cellv E3 4 rfl) ea_nil) rc_abs) ev_c (rv_I (show (0 : Int) < 3 by decide))) fun H4 e4 => ?_
    refine nrm (σ' := [_, _, _, _, _, _, _, _, _, _, _]) ?_ rfl
    have n0 := Int.emod_nonneg (if ns.getD 4 0 < 0 then -ns.getD 4 0 else ns.getD 4 0) (show (3 : Int) ≠ 0 by decide)
    have n1 := Int.emod_lt_of_pos (if ns.getD 4 0 < 0 then -ns.getD 4 0 else ns.getD 4 0) (show (0 : Int) < 3 by decide)
    generalize (if ns.getD 4 0 < 0 then -ns.getD 4 0 else ns.getD 4 0) % 3 = n at n0 n1
    have E4 := E3.trans e4
    have hp4 := ((e2.trans e3).trans e4) p _ hp
    refine q_asgL (el_compI (ms := RM.restsOf bs n) (ev_var rfl) (sq_of hp4) (by omega) (fun _ => rfl) (RM.rests_len bs n) fun i H' e' hi => ?_) fun r H5 hr0 e5 hr1 => ?_
    · rw [rests_get hi]
      have := good_at G hi
      exact ev_op (ev_var rfl) (ev_var rfl) (rv_I (by omega))
    refine nrm (σ' := [_, _, _, _, _, _, _, _, _, _, _]) ?_ rfl
    refine q_asgL (el_listR (er_var rfl hr1)) fun w H6 hw0 e6 hw => ?_
    refine nrm (σ' := [_, _, _, _, _, _, _, _, _, _, _]) ?_ rfl
    have ll := RM.rests_len bs n
    have E6 := (E4.trans e5).trans e6
    have hp6 := (e5.trans e6) p _ hp4
    have hr6 := e6 r _ hr1
    have x0 := Int.emod_nonneg n (show bs.getD i 0 ≠ 0 by omega)
    have x1 := Int.emod_lt_of_pos n (show 0 < bs.getD i 0 by omega)
    have d0 := Int.emod_nonneg (ns.getD 5 0) (show bs.getD i 0 - 1 ≠ 0 by omega)
    have d1 := Int.emod_lt_of_pos (ns.getD 5 0) (show 0 < bs.getD i 0 - 1 by omega)
    have nw := new_ne (x := n % bs.getD i 0) (b := bs.getD i 0) (d := 1 + ns.getD 5 0 % (bs.getD i 0 - 1)) (by omega) x0 x1 (by omega) (by omega)
    rw [← Int.add_assoc] at nw
    refine q_setL (j := i) (v := .int ((n % bs.getD i 0 + 1 + ns.getD 5 0 % (bs.getD i 0 - 1)) % bs.getD i 0)) hw (ev_op (ev_op (ev_op (ev_ixR (er_var rfl hr6) (ev_var rfl) (by rw [← rests_get hi]; exact atI_nat (intsAt (by omega)))) ev_c rv_I0) (ev_op (cellv E6 5 rfl) (ev_op (ev_ixR (er_var rfl hp6) (ev_var rfl) (atI_nat (intsAt hi))) ev_c rv_I0) (rv_I (by omega))) rv_I0) (ev_ixR (er_var rfl hp6) (ev_var rfl) (atI_nat (intsAt hi))) (rv_I (by omega))) (ev_var rfl) (ev_var rfl) (by rw [List.length_map]; omega) fun H7 e7 => ?_
    generalize (n % bs.getD i 0 + 1 + ns.getD 5 0 % (bs.getD i 0 - 1)) % bs.getD i 0 = new at nw
    have E8 : Ex H (upd H7 w (.lst (((RM.restsOf bs n).map V.int).set i (.int new)))) := (E6.trans e7).mut (fresh_back (E4.trans e5) hw0)
    have npw : p ≠ w := ne_of_none (e5 p _ hp4) hw0
    have nrw : r ≠ w := ne_of_none hr1 hw0
    have hp8 : (upd H7 w (.lst (((RM.restsOf bs n).map V.int).set i (.int new)))) p = some (.lst (bs.map V.int)) := by
      rw [upd_ne npw]
      exact e7 p _ hp6
    have hr8 : (upd H7 w (.lst (((RM.restsOf bs n).map V.int).set i (.int new)))) r = some (.lst ((RM.restsOf bs n).map V.int)) := by
      rw [upd_ne nrw]
      exact e7 r _ hr6
    have hw8 : (upd H7 w (.lst (((RM.restsOf bs n).map V.int).set i (.int new)))) w = some (.lst ((RM.spoil (RM.restsOf bs n) i new).map V.int)) := by
      rw [upd_same, set_mapI (by omega)]
    generalize upd H7 w (.lst (((RM.restsOf bs n).map V.int).set i (.int new))) = H8 at E8 hp8 hr8 hw8
    -- its own class
    have pick : ∃ D, ExcC K D ∧ PySem.W.kitOne K (.ref D) (.type "ValueError") = some true ∧ PySem.W.subIn K (.ref D) (.ref T.CRestError) = some true ∧ PySem.W.kitOne K (.ref D) (.ref T.CNoBases) = some (decide ((0 : Int) = kind)) ∧ PySem.W.kitOne K (.ref D) (.ref T.CNoRow) = some (decide ((1 : Int) = kind)) ∧ PySem.W.kitOne K (.ref D) (.ref T.CNoNumber) = some (decide ((2 : Int) = kind)) ∧ PySem.W.kitOne K (.ref D) (.ref T.CNoPlace) = some (decide ((3 : Int) = kind)) ∧ PySem.W.kitOne K (.ref D) (.ref T.CNoTurn) = some (decide ((4 : Int) = kind)) ∧ PySem.W.kitOne K (.ref D) (.ref T.COutOfRoom) = some (decide ((5 : Int) = kind)) ∧ PySem.W.kitOne K (.ref D) (.ref T.CLost) = some (decide ((6 : Int) = kind)) ∧ ∀ (H9 : Hp) (E9 : XK), RetE D H9 E9 → ((kind = 0 ∧ RetE T.CNoBases H9 E9) ∨ (kind = 1 ∧ RetE T.CNoRow H9 E9) ∨ (kind = 2 ∧ RetE T.CNoNumber H9 E9) ∨ (kind = 3 ∧ RetE T.CNoPlace H9 E9) ∨ (kind = 4 ∧ RetE T.CNoTurn H9 E9) ∨ (kind = 5 ∧ RetE T.COutOfRoom H9 E9) ∨ (kind = 6 ∧ RetE T.CLost H9 E9)) := by
      have c7 : kind = 0 ∨ kind = 1 ∨ kind = 2 ∨ kind = 3 ∨ kind = 4 ∨ kind = 5 ∨ kind = 6 := by omega
      rcases c7 with rfl | rfl | rfl | rfl | rfl | rfl | rfl
      · exact ⟨T.CNoBases, T.ecNoBases, T.ivNoBases, T.sNoBases_RestError, (kit_own T.clNoBases T.tNoBases T.sNoBases_NoBases T.sNoBases_NoBases), (kit_own T.clNoRow T.tNoRow T.sNoBases_NoRow T.sNoRow_NoRow), (kit_own T.clNoNumber T.tNoNumber T.sNoBases_NoNumber T.sNoNumber_NoNumber), (kit_own T.clNoPlace T.tNoPlace T.sNoBases_NoPlace T.sNoPlace_NoPlace), (kit_own T.clNoTurn T.tNoTurn T.sNoBases_NoTurn T.sNoTurn_NoTurn), (kit_own T.clOutOfRoom T.tOutOfRoom T.sNoBases_OutOfRoom T.sOutOfRoom_OutOfRoom), (kit_own T.clLost T.tLost T.sNoBases_Lost T.sLost_Lost), fun _ _ z => .inl ⟨rfl, z⟩⟩
      · exact ⟨T.CNoRow, T.ecNoRow, T.ivNoRow, T.sNoRow_RestError, (kit_own T.clNoBases T.tNoBases T.sNoRow_NoBases T.sNoBases_NoBases), (kit_own T.clNoRow T.tNoRow T.sNoRow_NoRow T.sNoRow_NoRow), (kit_own T.clNoNumber T.tNoNumber T.sNoRow_NoNumber T.sNoNumber_NoNumber), (kit_own T.clNoPlace T.tNoPlace T.sNoRow_NoPlace T.sNoPlace_NoPlace), (kit_own T.clNoTurn T.tNoTurn T.sNoRow_NoTurn T.sNoTurn_NoTurn), (kit_own T.clOutOfRoom T.tOutOfRoom T.sNoRow_OutOfRoom T.sOutOfRoom_OutOfRoom), (kit_own T.clLost T.tLost T.sNoRow_Lost T.sLost_Lost), fun _ _ z => .inr (.inl ⟨rfl, z⟩)⟩
      · exact ⟨T.CNoNumber, T.ecNoNumber, T.ivNoNumber, T.sNoNumber_RestError, (kit_own T.clNoBases T.tNoBases T.sNoNumber_NoBases T.sNoBases_NoBases), (kit_own T.clNoRow T.tNoRow T.sNoNumber_NoRow T.sNoRow_NoRow), (kit_own T.clNoNumber T.tNoNumber T.sNoNumber_NoNumber T.sNoNumber_NoNumber), (kit_own T.clNoPlace T.tNoPlace T.sNoNumber_NoPlace T.sNoPlace_NoPlace), (kit_own T.clNoTurn T.tNoTurn T.sNoNumber_NoTurn T.sNoTurn_NoTurn), (kit_own T.clOutOfRoom T.tOutOfRoom T.sNoNumber_OutOfRoom T.sOutOfRoom_OutOfRoom), (kit_own T.clLost T.tLost T.sNoNumber_Lost T.sLost_Lost), fun _ _ z => .inr (.inr (.inl ⟨rfl, z⟩))⟩
      · exact ⟨T.CNoPlace, T.ecNoPlace, T.ivNoPlace, T.sNoPlace_RestError, (kit_own T.clNoBases T.tNoBases T.sNoPlace_NoBases T.sNoBases_NoBases), (kit_own T.clNoRow T.tNoRow T.sNoPlace_NoRow T.sNoRow_NoRow), (kit_own T.clNoNumber T.tNoNumber T.sNoPlace_NoNumber T.sNoNumber_NoNumber), (kit_own T.clNoPlace T.tNoPlace T.sNoPlace_NoPlace T.sNoPlace_NoPlace), (kit_own T.clNoTurn T.tNoTurn T.sNoPlace_NoTurn T.sNoTurn_NoTurn), (kit_own T.clOutOfRoom T.tOutOfRoom T.sNoPlace_OutOfRoom T.sOutOfRoom_OutOfRoom), (kit_own T.clLost T.tLost T.sNoPlace_Lost T.sLost_Lost), fun _ _ z => .inr (.inr (.inr (.inl ⟨rfl, z⟩)))⟩
      · exact ⟨T.CNoTurn, T.ecNoTurn, T.ivNoTurn, T.sNoTurn_RestError, (kit_own T.clNoBases T.tNoBases T.sNoTurn_NoBases T.sNoBases_NoBases), (kit_own T.clNoRow T.tNoRow T.sNoTurn_NoRow T.sNoRow_NoRow), (kit_own T.clNoNumber T.tNoNumber T.sNoTurn_NoNumber T.sNoNumber_NoNumber), (kit_own T.clNoPlace T.tNoPlace T.sNoTurn_NoPlace T.sNoPlace_NoPlace), (kit_own T.clNoTurn T.tNoTurn T.sNoTurn_NoTurn T.sNoTurn_NoTurn), (kit_own T.clOutOfRoom T.tOutOfRoom T.sNoTurn_OutOfRoom T.sOutOfRoom_OutOfRoom), (kit_own T.clLost T.tLost T.sNoTurn_Lost T.sLost_Lost), fun _ _ z => .inr (.inr (.inr (.inr (.inl ⟨rfl, z⟩))))⟩
      · exact ⟨T.COutOfRoom, T.ecOutOfRoom, T.ivOutOfRoom, T.sOutOfRoom_RestError, (kit_own T.clNoBases T.tNoBases T.sOutOfRoom_NoBases T.sNoBases_NoBases), (kit_own T.clNoRow T.tNoRow T.sOutOfRoom_NoRow T.sNoRow_NoRow), (kit_own T.clNoNumber T.tNoNumber T.sOutOfRoom_NoNumber T.sNoNumber_NoNumber), (kit_own T.clNoPlace T.tNoPlace T.sOutOfRoom_NoPlace T.sNoPlace_NoPlace), (kit_own T.clNoTurn T.tNoTurn T.sOutOfRoom_NoTurn T.sNoTurn_NoTurn), (kit_own T.clOutOfRoom T.tOutOfRoom T.sOutOfRoom_OutOfRoom T.sOutOfRoom_OutOfRoom), (kit_own T.clLost T.tLost T.sOutOfRoom_Lost T.sLost_Lost), fun _ _ z => .inr (.inr (.inr (.inr (.inr (.inl ⟨rfl, z⟩)))))⟩
      · exact ⟨T.CLost, T.ecLost, T.ivLost, T.sLost_RestError, (kit_own T.clNoBases T.tNoBases T.sLost_NoBases T.sNoBases_NoBases), (kit_own T.clNoRow T.tNoRow T.sLost_NoRow T.sNoRow_NoRow), (kit_own T.clNoNumber T.tNoNumber T.sLost_NoNumber T.sNoNumber_NoNumber), (kit_own T.clNoPlace T.tNoPlace T.sLost_NoPlace T.sNoPlace_NoPlace), (kit_own T.clNoTurn T.tNoTurn T.sLost_NoTurn T.sNoTurn_NoTurn), (kit_own T.clOutOfRoom T.tOutOfRoom T.sLost_OutOfRoom T.sOutOfRoom_OutOfRoom), (kit_own T.clLost T.tLost T.sLost_Lost T.sLost_Lost), fun _ _ z => .inr (.inr (.inr (.inr (.inr (.inr (⟨rfl, z⟩))))))⟩
    obtain ⟨D, ec, iv, sub, q0, q1, q2, q3, q4, q5, q6, sel⟩ := pick
    refine s_seq (sx_drop (evx_callS (cls := .ref D) (ea_cons (ev_var rfl) (ea_cons (ev_var rfl) (ea_cons (ev_var rfl) (ea_cons (ev_var rfl) (ea_cons (ev_var rfl) ea_nil))))) (fun H9 e9 Q E w1 => ⟨p, r, w, kind, bs, n, new, i, rfl, sq_of (e9 p _ hp8), e9 r _ hr8, sq_of (e9 w _ hw8), G, n0, by omega, hi, nw.1, nw.2.1, nw.2.2, sel _ _ w1⟩) fun H9 e9 => ?_))
    refine ⟨true, PySem.W.exm_ref T.bRestError T.hRestError T.tRestError sub, fun _ a0 ha0 => ?_, fun z => Bool.noConfusion z⟩
    refine q_asgL (xs := ([decide ((0 : Int) = kind), decide ((1 : Int) = kind), decide ((2 : Int) = kind), decide ((3 : Int) = kind)] : List Bool).map V.bl) (el_lst (ea_cons (ev_cb (ea_cons (ev_var rfl) (ea_cons ev_c ea_nil)) (rc_isOwn ec q0)) (ea_cons (ev_cb (ea_cons (ev_var rfl) (ea_cons ev_c ea_nil)) (rc_isOwn ec q1)) (ea_cons (ev_cb (ea_cons (ev_var rfl) (ea_cons ev_c ea_nil)) (rc_isOwn ec q2)) (ea_cons (ev_cb (ea_cons (ev_var rfl) (ea_cons ev_c ea_nil)) (rc_isOwn ec q3)) ea_nil)))) (by show 4 ≤ 100000; decide)) fun f1 Ha hf0 ea hf1 => ?_
    refine q_asgL (xs := ([decide ((0 : Int) = kind), decide ((1 : Int) = kind), decide ((2 : Int) = kind), decide ((3 : Int) = kind)] : List Bool).map V.bl ++ ([decide ((4 : Int) = kind), decide ((5 : Int) = kind), decide ((6 : Int) = kind)] : List Bool).map V.bl) (el_cat (er_var rfl hf1) (lr (el_lst (ea_cons (ev_cb (ea_cons (ev_var rfl) (ea_cons ev_c ea_nil)) (rc_isOwn ec q4)) (ea_cons (ev_cb (ea_cons (ev_var rfl) (ea_cons ev_c ea_nil)) (rc_isOwn ec q5)) (ea_cons (ev_cb (ea_cons (ev_var rfl) (ea_cons ev_c ea_nil)) (rc_isOwn ec q6)) ea_nil))) (by show 3 ≤ 100000; decide))) (by show 7 ≤ 100000; decide)) fun f2 Hb hg0 eb hf2 => ?_
    have cmp : EvL (tLc (iRng1 (tCons (tC (.int 7)) tNil)) (gName 10) tYes (tOp (rEqD K) (tVar 10) (tVar 3)) [10]) [some (.ref a), some (.ref p), some (.int (i : Int)), some (.int kind), some (.int n), some (.ref r), some (.ref w), some (.ref a0), some (.ref f2), none, none] Hb (given 7 (fun _ => true) (fun k => V.bl (decide ((k : Int) = kind)))) := el_lcR1 (n := 7) (fun _ => true) (fun k => V.bl (decide ((k : Int) = kind))) (ea_cons ev_c ea_nil) (by decide) (fun _ => rfl) (fun _ _ _ _ => et_yes) (fun k Hc ec2 _ _ => ev_op (ev_var rfl) (ev_var rfl) rv_eqI)
    rw [given_all] at cmp
    refine s_ret (v := .bl (true && true)) (ev_andV (ev_cb (ea_cons (ev_var rfl) (ea_cons ev_c ea_nil)) (rc_isEV ec iv)) fun _ => ev_opL (ev_var rfl) cmp fun q2 Hc hq2 ec2 => rv_eqBs (l := [decide ((0 : Int) = kind), decide ((1 : Int) = kind), decide ((2 : Int) = kind), decide ((3 : Int) = kind), decide ((4 : Int) = kind), decide ((5 : Int) = kind), decide ((6 : Int) = kind)]) (sq_of (ec2 f2 _ hf2)) (sq_of hq2)) fun Hd ed => kq Hd

theorem ok_Law (T : Txt K mg) : FnOk P w K mg base (L2.CX P w) 7 T.fLaw T.dLaw ["_law_script"] (spLaw K) := RXN.weak (ok_LawN T)
end
theorem law_in {K : PySem.W.Frag} {H : Hp} {a : Addr} {ns : List Int} (hl : ns.length ≤ 63) (hS : SqL K H a (ns.map V.int)) : spLaw K [.ref a] H (fun v _ => v = .bl true) (fun _ _ _ => False) := ⟨a, ns, rfl, hS, hl, fun _ => rfl⟩
theorem no_out {P : Program} {w : World} {H : Hp} {s : Shared} {e : Value} {s' : Shared} (h : L2.CX P w [] H s (fun _ _ _ => False) e s') : False := by
  obtain ⟨_, _, _, _, _, _, _, _, _, _, _, _, z⟩ := h
  exact z
theorem all_mk {l : PySem.W.OpenLaw} {w : World} {K : PySem.W.Frag} {h : Heap} {mg : Str → Option Value} {fa CRestError CNoBases CNoRow CNoNumber CNoPlace CNoTurn COutOfRoom CLost CBoard fLBases fLCellAt fIsBase fCommon fGoesBehind fAreBases fTurned fMultiplied fBoardInit fIsBelow fCheckRow fNumberOf fBoardFigures fLeastWithout fBoardRoom fBoardRests fRefilled fTold fBoardNumber fLAsked fLaw : Addr} (X : K.In h) (G : h.Ns mainGlobals mg) (hfa : mg "law" = some (.ref fa))
    {od0 an0 : Option Addr} {sl0 : Array (Option Value)} {oc0 kV0 dc0 pm0 cd0 ct0 : Value}
    {od1 an1 : Option Addr} {sl1 : Array (Option Value)} {oc1 kV1 dc1 pm1 cd1 ct1 : Value}
    {od2 an2 : Option Addr} {sl2 : Array (Option Value)} {oc2 kV2 dc2 pm2 cd2 ct2 : Value}
    {od3 an3 : Option Addr} {sl3 : Array (Option Value)} {oc3 kV3 dc3 pm3 cd3 ct3 : Value}
    {od4 an4 : Option Addr} {sl4 : Array (Option Value)} {oc4 kV4 dc4 pm4 cd4 ct4 : Value}
    {od5 an5 : Option Addr} {sl5 : Array (Option Value)} {oc5 kV5 dc5 pm5 cd5 ct5 : Value}
    {od6 an6 : Option Addr} {sl6 : Array (Option Value)} {oc6 kV6 dc6 pm6 cd6 ct6 : Value}
    {od7 an7 : Option Addr} {sl7 : Array (Option Value)} {oc7 kV7 dc7 pm7 cd7 ct7 : Value}
    {od8 an8 : Option Addr} {sl8 : Array (Option Value)} {oc8 kV8 dc8 pm8 cd8 ct8 : Value}
    {od9 an9 : Option Addr} {sl9 : Array (Option Value)} {oc9 kV9 dc9 pm9 cd9 ct9 : Value}
    {od10 an10 : Option Addr} {sl10 : Array (Option Value)} {oc10 kV10 dc10 pm10 cd10 ct10 : Value}
    {dV10 : Value}
    {od11 an11 : Option Addr} {sl11 : Array (Option Value)} {oc11 kV11 dc11 pm11 cd11 ct11 : Value}
    {od12 an12 : Option Addr} {sl12 : Array (Option Value)} {oc12 kV12 dc12 pm12 cd12 ct12 : Value}
    {od13 an13 : Option Addr} {sl13 : Array (Option Value)} {oc13 kV13 dc13 pm13 cd13 ct13 : Value}
    {od14 an14 : Option Addr} {sl14 : Array (Option Value)} {oc14 kV14 dc14 pm14 cd14 ct14 : Value}
    {od15 an15 : Option Addr} {sl15 : Array (Option Value)} {oc15 kV15 dc15 pm15 cd15 ct15 : Value}
    {od16 an16 : Option Addr} {sl16 : Array (Option Value)} {oc16 kV16 dc16 pm16 cd16 ct16 : Value}
    {od17 an17 : Option Addr} {sl17 : Array (Option Value)} {oc17 kV17 dc17 pm17 cd17 ct17 : Value}
    {od18 an18 : Option Addr} {sl18 : Array (Option Value)} {oc18 kV18 dc18 pm18 cd18 ct18 : Value}
    {od19 an19 : Option Addr} {sl19 : Array (Option Value)} {oc19 kV19 dc19 pm19 cd19 ct19 : Value}
    {od20 an20 : Option Addr} {sl20 : Array (Option Value)} {oc20 kV20 dc20 pm20 cd20 ct20 : Value}
    (aRestError : PySem.W.nsIn K mainGlobals "RestError" = some (some (.ref CRestError)))
    (kRestError : PySem.W.keepIn K (.ref CRestError) = true)
    (xRestError : PySem.W.excIn K CRestError [.type "ValueError", .type "Exception", .type "BaseException", .type "object"] "ValueError.__new__" = true)
    (bRestError : PySem.W.subIn K (.ref CRestError) (.type "BaseException") = some true)
    (tRestError : PySem.W.typeIn K (.ref CRestError) = some (.type "type"))
    (hRestError : PySem.W.hasDictIn K CRestError = true)
    (e1RestError : PySem.W.findIn K (.ref CRestError) "__getattribute__" = some (some (.builtin "BaseException.__getattribute__")))
    (e2RestError : PySem.W.findIn K (.ref CRestError) "__getattr__" = some none)
    (e3RestError : PySem.W.findIn K (.ref CRestError) "__class__" = some (some (.builtin "object.__class__")))
    (e4RestError : PySem.W.mroIn K CRestError (.type "object") = some true)
    (ivRestError : PySem.W.kitOne K (.ref CRestError) (.type "ValueError") = some true)
    (aNoBases : PySem.W.nsIn K mainGlobals "NoBases" = some (some (.ref CNoBases)))
    (kNoBases : PySem.W.keepIn K (.ref CNoBases) = true)
    (xNoBases : PySem.W.excIn K CNoBases [.type "ValueError", .type "Exception", .type "BaseException", .type "object"] "ValueError.__new__" = true)
    (bNoBases : PySem.W.subIn K (.ref CNoBases) (.type "BaseException") = some true)
    (tNoBases : PySem.W.typeIn K (.ref CNoBases) = some (.type "type"))
    (hNoBases : PySem.W.hasDictIn K CNoBases = true)
    (e1NoBases : PySem.W.findIn K (.ref CNoBases) "__getattribute__" = some (some (.builtin "BaseException.__getattribute__")))
    (e2NoBases : PySem.W.findIn K (.ref CNoBases) "__getattr__" = some none)
    (e3NoBases : PySem.W.findIn K (.ref CNoBases) "__class__" = some (some (.builtin "object.__class__")))
    (e4NoBases : PySem.W.mroIn K CNoBases (.type "object") = some true)
    (ivNoBases : PySem.W.kitOne K (.ref CNoBases) (.type "ValueError") = some true)
    (aNoRow : PySem.W.nsIn K mainGlobals "NoRow" = some (some (.ref CNoRow)))
    (kNoRow : PySem.W.keepIn K (.ref CNoRow) = true)
    (xNoRow : PySem.W.excIn K CNoRow [.type "ValueError", .type "Exception", .type "BaseException", .type "object"] "ValueError.__new__" = true)
    (bNoRow : PySem.W.subIn K (.ref CNoRow) (.type "BaseException") = some true)
    (tNoRow : PySem.W.typeIn K (.ref CNoRow) = some (.type "type"))
    (hNoRow : PySem.W.hasDictIn K CNoRow = true)
    (e1NoRow : PySem.W.findIn K (.ref CNoRow) "__getattribute__" = some (some (.builtin "BaseException.__getattribute__")))
    (e2NoRow : PySem.W.findIn K (.ref CNoRow) "__getattr__" = some none)
    (e3NoRow : PySem.W.findIn K (.ref CNoRow) "__class__" = some (some (.builtin "object.__class__")))
    (e4NoRow : PySem.W.mroIn K CNoRow (.type "object") = some true)
    (ivNoRow : PySem.W.kitOne K (.ref CNoRow) (.type "ValueError") = some true)
    (aNoNumber : PySem.W.nsIn K mainGlobals "NoNumber" = some (some (.ref CNoNumber)))
    (kNoNumber : PySem.W.keepIn K (.ref CNoNumber) = true)
    (xNoNumber : PySem.W.excIn K CNoNumber [.type "ValueError", .type "Exception", .type "BaseException", .type "object"] "ValueError.__new__" = true)
    (bNoNumber : PySem.W.subIn K (.ref CNoNumber) (.type "BaseException") = some true)
    (tNoNumber : PySem.W.typeIn K (.ref CNoNumber) = some (.type "type"))
    (hNoNumber : PySem.W.hasDictIn K CNoNumber = true)
    (e1NoNumber : PySem.W.findIn K (.ref CNoNumber) "__getattribute__" = some (some (.builtin "BaseException.__getattribute__")))
    (e2NoNumber : PySem.W.findIn K (.ref CNoNumber) "__getattr__" = some none)
    (e3NoNumber : PySem.W.findIn K (.ref CNoNumber) "__class__" = some (some (.builtin "object.__class__")))
    (e4NoNumber : PySem.W.mroIn K CNoNumber (.type "object") = some true)
    (ivNoNumber : PySem.W.kitOne K (.ref CNoNumber) (.type "ValueError") = some true)
    (aNoPlace : PySem.W.nsIn K mainGlobals "NoPlace" = some (some (.ref CNoPlace)))
    (kNoPlace : PySem.W.keepIn K (.ref CNoPlace) = true)
    (xNoPlace : PySem.W.excIn K CNoPlace [.type "ValueError", .type "Exception", .type "BaseException", .type "object"] "ValueError.__new__" = true)
    (bNoPlace : PySem.W.subIn K (.ref CNoPlace) (.type "BaseException") = some true)
    (tNoPlace : PySem.W.typeIn K (.ref CNoPlace) = some (.type "type"))
    (hNoPlace : PySem.W.hasDictIn K CNoPlace = true)
    (e1NoPlace : PySem.W.findIn K (.ref CNoPlace) "__getattribute__" = some (some (.builtin "BaseException.__getattribute__")))
    (e2NoPlace : PySem.W.findIn K (.ref CNoPlace) "__getattr__" = some none)
    (e3NoPlace : PySem.W.findIn K (.ref CNoPlace) "__class__" = some (some (.builtin "object.__class__")))
    (e4NoPlace : PySem.W.mroIn K CNoPlace (.type "object") = some true)
    (ivNoPlace : PySem.W.kitOne K (.ref CNoPlace) (.type "ValueError") = some true)
    (aNoTurn : PySem.W.nsIn K mainGlobals "NoTurn" = some (some (.ref CNoTurn)))
    (kNoTurn : PySem.W.keepIn K (.ref CNoTurn) = true)
    (xNoTurn : PySem.W.excIn K CNoTurn [.type "ValueError", .type "Exception", .type "BaseException", .type "object"] "ValueError.__new__" = true)
    (bNoTurn : PySem.W.subIn K (.ref CNoTurn) (.type "BaseException") = some true)
    (tNoTurn : PySem.W.typeIn K (.ref CNoTurn) = some (.type "type"))
    (hNoTurn : PySem.W.hasDictIn K CNoTurn = true)
    (e1NoTurn : PySem.W.findIn K (.ref CNoTurn) "__getattribute__" = some (some (.builtin "BaseException.__getattribute__")))
    (e2NoTurn : PySem.W.findIn K (.ref CNoTurn) "__getattr__" = some none)
    (e3NoTurn : PySem.W.findIn K (.ref CNoTurn) "__class__" = some (some (.builtin "object.__class__")))
    (e4NoTurn : PySem.W.mroIn K CNoTurn (.type "object") = some true)
    (ivNoTurn : PySem.W.kitOne K (.ref CNoTurn) (.type "ValueError") = some true)
    (aOutOfRoom : PySem.W.nsIn K mainGlobals "OutOfRoom" = some (some (.ref COutOfRoom)))
    (kOutOfRoom : PySem.W.keepIn K (.ref COutOfRoom) = true)
    (xOutOfRoom : PySem.W.excIn K COutOfRoom [.type "ValueError", .type "Exception", .type "BaseException", .type "object"] "ValueError.__new__" = true)
    (bOutOfRoom : PySem.W.subIn K (.ref COutOfRoom) (.type "BaseException") = some true)
    (tOutOfRoom : PySem.W.typeIn K (.ref COutOfRoom) = some (.type "type"))
    (hOutOfRoom : PySem.W.hasDictIn K COutOfRoom = true)
    (e1OutOfRoom : PySem.W.findIn K (.ref COutOfRoom) "__getattribute__" = some (some (.builtin "BaseException.__getattribute__")))
    (e2OutOfRoom : PySem.W.findIn K (.ref COutOfRoom) "__getattr__" = some none)
    (e3OutOfRoom : PySem.W.findIn K (.ref COutOfRoom) "__class__" = some (some (.builtin "object.__class__")))
    (e4OutOfRoom : PySem.W.mroIn K COutOfRoom (.type "object") = some true)
    (ivOutOfRoom : PySem.W.kitOne K (.ref COutOfRoom) (.type "ValueError") = some true)
    (aLost : PySem.W.nsIn K mainGlobals "Lost" = some (some (.ref CLost)))
    (kLost : PySem.W.keepIn K (.ref CLost) = true)
    (xLost : PySem.W.excIn K CLost [.type "ValueError", .type "Exception", .type "BaseException", .type "object"] "ValueError.__new__" = true)
    (bLost : PySem.W.subIn K (.ref CLost) (.type "BaseException") = some true)
    (tLost : PySem.W.typeIn K (.ref CLost) = some (.type "type"))
    (hLost : PySem.W.hasDictIn K CLost = true)
    (e1Lost : PySem.W.findIn K (.ref CLost) "__getattribute__" = some (some (.builtin "BaseException.__getattribute__")))
    (e2Lost : PySem.W.findIn K (.ref CLost) "__getattr__" = some none)
    (e3Lost : PySem.W.findIn K (.ref CLost) "__class__" = some (some (.builtin "object.__class__")))
    (e4Lost : PySem.W.mroIn K CLost (.type "object") = some true)
    (ivLost : PySem.W.kitOne K (.ref CLost) (.type "ValueError") = some true)
    (clRestError : (PySem.W.clsIn K CRestError).isSome = true)
    (clNoBases : (PySem.W.clsIn K CNoBases).isSome = true)
    (clNoRow : (PySem.W.clsIn K CNoRow).isSome = true)
    (clNoNumber : (PySem.W.clsIn K CNoNumber).isSome = true)
    (clNoPlace : (PySem.W.clsIn K CNoPlace).isSome = true)
    (clNoTurn : (PySem.W.clsIn K CNoTurn).isSome = true)
    (clOutOfRoom : (PySem.W.clsIn K COutOfRoom).isSome = true)
    (clLost : (PySem.W.clsIn K CLost).isSome = true)
    (n4 : PySem.W.specialIn K (.builtin "object.__class__") "__get__" = some (some (.builtin "getset_descriptor.__get__")))
    (n5 : PySem.W.takesIn K (.builtin "object.__class__") = some true)
    (sRestError_RestError : PySem.W.subIn K (.ref CRestError) (.ref CRestError) = some true)
    (sRestError_NoBases : PySem.W.subIn K (.ref CRestError) (.ref CNoBases) = some false)
    (sRestError_NoRow : PySem.W.subIn K (.ref CRestError) (.ref CNoRow) = some false)
    (sRestError_NoNumber : PySem.W.subIn K (.ref CRestError) (.ref CNoNumber) = some false)
    (sRestError_NoPlace : PySem.W.subIn K (.ref CRestError) (.ref CNoPlace) = some false)
    (sRestError_NoTurn : PySem.W.subIn K (.ref CRestError) (.ref CNoTurn) = some false)
    (sRestError_OutOfRoom : PySem.W.subIn K (.ref CRestError) (.ref COutOfRoom) = some false)
    (sRestError_Lost : PySem.W.subIn K (.ref CRestError) (.ref CLost) = some false)
    (sNoBases_RestError : PySem.W.subIn K (.ref CNoBases) (.ref CRestError) = some true)
    (sNoBases_NoBases : PySem.W.subIn K (.ref CNoBases) (.ref CNoBases) = some true)
    (sNoBases_NoRow : PySem.W.subIn K (.ref CNoBases) (.ref CNoRow) = some false)
    (sNoBases_NoNumber : PySem.W.subIn K (.ref CNoBases) (.ref CNoNumber) = some false)
    (sNoBases_NoPlace : PySem.W.subIn K (.ref CNoBases) (.ref CNoPlace) = some false)
    (sNoBases_NoTurn : PySem.W.subIn K (.ref CNoBases) (.ref CNoTurn) = some false)
    (sNoBases_OutOfRoom : PySem.W.subIn K (.ref CNoBases) (.ref COutOfRoom) = some false)
    (sNoBases_Lost : PySem.W.subIn K (.ref CNoBases) (.ref CLost) = some false)
    (sNoRow_RestError : PySem.W.subIn K (.ref CNoRow) (.ref CRestError) = some true)
    (sNoRow_NoBases : PySem.W.subIn K (.ref CNoRow) (.ref CNoBases) = some false)
    (sNoRow_NoRow : PySem.W.subIn K (.ref CNoRow) (.ref CNoRow) = some true)
    (sNoRow_NoNumber : PySem.W.subIn K (.ref CNoRow) (.ref CNoNumber) = some false)
    (sNoRow_NoPlace : PySem.W.subIn K (.ref CNoRow) (.ref CNoPlace) = some false)
    (sNoRow_NoTurn : PySem.W.subIn K (.ref CNoRow) (.ref CNoTurn) = some false)
    (sNoRow_OutOfRoom : PySem.W.subIn K (.ref CNoRow) (.ref COutOfRoom) = some false)
    (sNoRow_Lost : PySem.W.subIn K (.ref CNoRow) (.ref CLost) = some false)
    (sNoNumber_RestError : PySem.W.subIn K (.ref CNoNumber) (.ref CRestError) = some true)
    (sNoNumber_NoBases : PySem.W.subIn K (.ref CNoNumber) (.ref CNoBases) = some false)
    (sNoNumber_NoRow : PySem.W.subIn K (.ref CNoNumber) (.ref CNoRow) = some false)
    (sNoNumber_NoNumber : PySem.W.subIn K (.ref CNoNumber) (.ref CNoNumber) = some true)
    (sNoNumber_NoPlace : PySem.W.subIn K (.ref CNoNumber) (.ref CNoPlace) = some false)
    (sNoNumber_NoTurn : PySem.W.subIn K (.ref CNoNumber) (.ref CNoTurn) = some false)
    (sNoNumber_OutOfRoom : PySem.W.subIn K (.ref CNoNumber) (.ref COutOfRoom) = some false)
    (sNoNumber_Lost : PySem.W.subIn K (.ref CNoNumber) (.ref CLost) = some false)
    (sNoPlace_RestError : PySem.W.subIn K (.ref CNoPlace) (.ref CRestError) = some true)
    (sNoPlace_NoBases : PySem.W.subIn K (.ref CNoPlace) (.ref CNoBases) = some false)
    (sNoPlace_NoRow : PySem.W.subIn K (.ref CNoPlace) (.ref CNoRow) = some false)
    (sNoPlace_NoNumber : PySem.W.subIn K (.ref CNoPlace) (.ref CNoNumber) = some false)
    (sNoPlace_NoPlace : PySem.W.subIn K (.ref CNoPlace) (.ref CNoPlace) = some true)
    (sNoPlace_NoTurn : PySem.W.subIn K (.ref CNoPlace) (.ref CNoTurn) = some false)
    (sNoPlace_OutOfRoom : PySem.W.subIn K (.ref CNoPlace) (.ref COutOfRoom) = some false)
    (sNoPlace_Lost : PySem.W.subIn K (.ref CNoPlace) (.ref CLost) = some false)
    (sNoTurn_RestError : PySem.W.subIn K (.ref CNoTurn) (.ref CRestError) = some true)
    (sNoTurn_NoBases : PySem.W.subIn K (.ref CNoTurn) (.ref CNoBases) = some false)
    (sNoTurn_NoRow : PySem.W.subIn K (.ref CNoTurn) (.ref CNoRow) = some false)
    (sNoTurn_NoNumber : PySem.W.subIn K (.ref CNoTurn) (.ref CNoNumber) = some false)
    (sNoTurn_NoPlace : PySem.W.subIn K (.ref CNoTurn) (.ref CNoPlace) = some false)
    (sNoTurn_NoTurn : PySem.W.subIn K (.ref CNoTurn) (.ref CNoTurn) = some true)
    (sNoTurn_OutOfRoom : PySem.W.subIn K (.ref CNoTurn) (.ref COutOfRoom) = some false)
    (sNoTurn_Lost : PySem.W.subIn K (.ref CNoTurn) (.ref CLost) = some false)
    (sOutOfRoom_RestError : PySem.W.subIn K (.ref COutOfRoom) (.ref CRestError) = some true)
    (sOutOfRoom_NoBases : PySem.W.subIn K (.ref COutOfRoom) (.ref CNoBases) = some false)
    (sOutOfRoom_NoRow : PySem.W.subIn K (.ref COutOfRoom) (.ref CNoRow) = some false)
    (sOutOfRoom_NoNumber : PySem.W.subIn K (.ref COutOfRoom) (.ref CNoNumber) = some false)
    (sOutOfRoom_NoPlace : PySem.W.subIn K (.ref COutOfRoom) (.ref CNoPlace) = some false)
    (sOutOfRoom_NoTurn : PySem.W.subIn K (.ref COutOfRoom) (.ref CNoTurn) = some false)
    (sOutOfRoom_OutOfRoom : PySem.W.subIn K (.ref COutOfRoom) (.ref COutOfRoom) = some true)
    (sOutOfRoom_Lost : PySem.W.subIn K (.ref COutOfRoom) (.ref CLost) = some false)
    (sLost_RestError : PySem.W.subIn K (.ref CLost) (.ref CRestError) = some true)
    (sLost_NoBases : PySem.W.subIn K (.ref CLost) (.ref CNoBases) = some false)
    (sLost_NoRow : PySem.W.subIn K (.ref CLost) (.ref CNoRow) = some false)
    (sLost_NoNumber : PySem.W.subIn K (.ref CLost) (.ref CNoNumber) = some false)
    (sLost_NoPlace : PySem.W.subIn K (.ref CLost) (.ref CNoPlace) = some false)
    (sLost_NoTurn : PySem.W.subIn K (.ref CLost) (.ref CNoTurn) = some false)
    (sLost_OutOfRoom : PySem.W.subIn K (.ref CLost) (.ref COutOfRoom) = some false)
    (sLost_Lost : PySem.W.subIn K (.ref CLost) (.ref CLost) = some true)
    (aBoard : PySem.W.nsIn K mainGlobals "Board" = some (some (.ref CBoard)))
    (pgBoard : PySem.W.plainGet K CBoard Str.empty = true)
    (hdBoard : PySem.W.hasDictIn K CBoard = true)
    (poBoard : PySem.W.plainOver K CBoard = true)
    (saBoard : PySem.W.findIn K (.ref CBoard) "__setattr__" = some (some (.builtin "object.__setattr__")))
    (mkBoard : PySem.W.makesIn K CBoard = true)
    (kcBoard : PySem.W.keepIn K (.ref CBoard) = true)
    (nBoard_bases : PySem.W.findIn K (.ref CBoard) "bases" = some none)
    (nBoard__turns : PySem.W.findIn K (.ref CBoard) "_turns" = some none)
    (aLBases : PySem.W.nsIn K mainGlobals "_law_bases" = some (some (.ref fLBases)))
    (lLBases : K.lookup fLBases = some ⟨oc0, od0, .func (PySem.W.fnOf "_law_bases" "_law_bases" (defArgs sLBases) (defBody sLBases) (defScope sLBases) .none kV0 dc0 pm0 an0 cd0 ct0), sl0⟩)
    (cLBases : PySem.W.codeIn K cd0 "_law_bases" = true)
    (kLBases : PySem.W.keepIn K (.ref fLBases) = true)
    (aLCellAt : PySem.W.nsIn K mainGlobals "_law_cell_at" = some (some (.ref fLCellAt)))
    (lLCellAt : K.lookup fLCellAt = some ⟨oc1, od1, .func (PySem.W.fnOf "_law_cell_at" "_law_cell_at" (defArgs sLCellAt) (defBody sLCellAt) (defScope sLCellAt) .none kV1 dc1 pm1 an1 cd1 ct1), sl1⟩)
    (cLCellAt : PySem.W.codeIn K cd1 "_law_cell_at" = true)
    (kLCellAt : PySem.W.keepIn K (.ref fLCellAt) = true)
    (aIsBase : PySem.W.nsIn K mainGlobals "is_base" = some (some (.ref fIsBase)))
    (lIsBase : K.lookup fIsBase = some ⟨oc2, od2, .func (PySem.W.fnOf "is_base" "is_base" (defArgs sIsBase) (defBody sIsBase) (defScope sIsBase) .none kV2 dc2 pm2 an2 cd2 ct2), sl2⟩)
    (cIsBase : PySem.W.codeIn K cd2 "is_base" = true)
    (kIsBase : PySem.W.keepIn K (.ref fIsBase) = true)
    (aCommon : PySem.W.nsIn K mainGlobals "common" = some (some (.ref fCommon)))
    (lCommon : K.lookup fCommon = some ⟨oc3, od3, .func (PySem.W.fnOf "common" "common" (defArgs sCommon) (defBody sCommon) (defScope sCommon) .none kV3 dc3 pm3 an3 cd3 ct3), sl3⟩)
    (cCommon : PySem.W.codeIn K cd3 "common" = true)
    (kCommon : PySem.W.keepIn K (.ref fCommon) = true)
    (aGoesBehind : PySem.W.nsIn K mainGlobals "goes_behind" = some (some (.ref fGoesBehind)))
    (lGoesBehind : K.lookup fGoesBehind = some ⟨oc4, od4, .func (PySem.W.fnOf "goes_behind" "goes_behind" (defArgs sGoesBehind) (defBody sGoesBehind) (defScope sGoesBehind) .none kV4 dc4 pm4 an4 cd4 ct4), sl4⟩)
    (cGoesBehind : PySem.W.codeIn K cd4 "goes_behind" = true)
    (kGoesBehind : PySem.W.keepIn K (.ref fGoesBehind) = true)
    (aAreBases : PySem.W.nsIn K mainGlobals "are_bases" = some (some (.ref fAreBases)))
    (lAreBases : K.lookup fAreBases = some ⟨oc5, od5, .func (PySem.W.fnOf "are_bases" "are_bases" (defArgs sAreBases) (defBody sAreBases) (defScope sAreBases) .none kV5 dc5 pm5 an5 cd5 ct5), sl5⟩)
    (cAreBases : PySem.W.codeIn K cd5 "are_bases" = true)
    (kAreBases : PySem.W.keepIn K (.ref fAreBases) = true)
    (aTurned : PySem.W.nsIn K mainGlobals "turned" = some (some (.ref fTurned)))
    (lTurned : K.lookup fTurned = some ⟨oc6, od6, .func (PySem.W.fnOf "turned" "turned" (defArgs sTurned) (defBody sTurned) (defScope sTurned) .none kV6 dc6 pm6 an6 cd6 ct6), sl6⟩)
    (cTurned : PySem.W.codeIn K cd6 "turned" = true)
    (kTurned : PySem.W.keepIn K (.ref fTurned) = true)
    (aMultiplied : PySem.W.nsIn K mainGlobals "multiplied" = some (some (.ref fMultiplied)))
    (lMultiplied : K.lookup fMultiplied = some ⟨oc7, od7, .func (PySem.W.fnOf "multiplied" "multiplied" (defArgs sMultiplied) (defBody sMultiplied) (defScope sMultiplied) .none kV7 dc7 pm7 an7 cd7 ct7), sl7⟩)
    (cMultiplied : PySem.W.codeIn K cd7 "multiplied" = true)
    (kMultiplied : PySem.W.keepIn K (.ref fMultiplied) = true)
    (aBoardInit : PySem.W.findIn K (.ref CBoard) "__init__" = some (some (.ref fBoardInit)))
    (iBoardInit : PySem.W.isFn K (.ref fBoardInit) = true)
    (lBoardInit : K.lookup fBoardInit = some ⟨oc8, od8, .func (PySem.W.fnOf "__init__" "Board.__init__" (defArgs sBoardInit) (defBody sBoardInit) (defScope sBoardInit) .none kV8 dc8 pm8 an8 cd8 ct8), sl8⟩)
    (cBoardInit : PySem.W.codeIn K cd8 "Board.__init__" = true)
    (kBoardInit : PySem.W.keepIn K (.ref fBoardInit) = true)
    (aIsBelow : PySem.W.nsIn K mainGlobals "is_below" = some (some (.ref fIsBelow)))
    (lIsBelow : K.lookup fIsBelow = some ⟨oc9, od9, .func (PySem.W.fnOf "is_below" "is_below" (defArgs sIsBelow) (defBody sIsBelow) (defScope sIsBelow) .none kV9 dc9 pm9 an9 cd9 ct9), sl9⟩)
    (cIsBelow : PySem.W.codeIn K cd9 "is_below" = true)
    (kIsBelow : PySem.W.keepIn K (.ref fIsBelow) = true)
    (aCheckRow : PySem.W.nsIn K mainGlobals "check_row" = some (some (.ref fCheckRow)))
    (lCheckRow : K.lookup fCheckRow = some ⟨oc10, od10, .func (PySem.W.fnOf "check_row" "check_row" (defArgs sCheckRow) (defBody sCheckRow) (defScope sCheckRow) dV10 kV10 dc10 pm10 an10 cd10 ct10), sl10⟩)
    (cCheckRow : PySem.W.codeIn K cd10 "check_row" = true)
    (kCheckRow : PySem.W.keepIn K (.ref fCheckRow) = true)
    (vCheckRow : He.dflB K dV10 [.non] = true)
    (aNumberOf : PySem.W.nsIn K mainGlobals "number_of" = some (some (.ref fNumberOf)))
    (lNumberOf : K.lookup fNumberOf = some ⟨oc11, od11, .func (PySem.W.fnOf "number_of" "number_of" (defArgs sNumberOf) (defBody sNumberOf) (defScope sNumberOf) .none kV11 dc11 pm11 an11 cd11 ct11), sl11⟩)
    (cNumberOf : PySem.W.codeIn K cd11 "number_of" = true)
    (kNumberOf : PySem.W.keepIn K (.ref fNumberOf) = true)
    (aBoardFigures : PySem.W.findIn K (.ref CBoard) "figures" = some (some (.ref fBoardFigures)))
    (iBoardFigures : PySem.W.isFn K (.ref fBoardFigures) = true)
    (lBoardFigures : K.lookup fBoardFigures = some ⟨oc12, od12, .func (PySem.W.fnOf "figures" "Board.figures" (defArgs sBoardFigures) (defBody sBoardFigures) (defScope sBoardFigures) .none kV12 dc12 pm12 an12 cd12 ct12), sl12⟩)
    (cBoardFigures : PySem.W.codeIn K cd12 "Board.figures" = true)
    (kBoardFigures : PySem.W.keepIn K (.ref fBoardFigures) = true)
    (aLeastWithout : PySem.W.nsIn K mainGlobals "least_without" = some (some (.ref fLeastWithout)))
    (lLeastWithout : K.lookup fLeastWithout = some ⟨oc13, od13, .func (PySem.W.fnOf "least_without" "least_without" (defArgs sLeastWithout) (defBody sLeastWithout) (defScope sLeastWithout) .none kV13 dc13 pm13 an13 cd13 ct13), sl13⟩)
    (cLeastWithout : PySem.W.codeIn K cd13 "least_without" = true)
    (kLeastWithout : PySem.W.keepIn K (.ref fLeastWithout) = true)
    (aBoardRoom : PySem.W.findIn K (.ref CBoard) "room" = some (some (.ref fBoardRoom)))
    (iBoardRoom : PySem.W.isFn K (.ref fBoardRoom) = true)
    (lBoardRoom : K.lookup fBoardRoom = some ⟨oc14, od14, .func (PySem.W.fnOf "room" "Board.room" (defArgs sBoardRoom) (defBody sBoardRoom) (defScope sBoardRoom) .none kV14 dc14 pm14 an14 cd14 ct14), sl14⟩)
    (cBoardRoom : PySem.W.codeIn K cd14 "Board.room" = true)
    (kBoardRoom : PySem.W.keepIn K (.ref fBoardRoom) = true)
    (aBoardRests : PySem.W.findIn K (.ref CBoard) "rests" = some (some (.ref fBoardRests)))
    (iBoardRests : PySem.W.isFn K (.ref fBoardRests) = true)
    (lBoardRests : K.lookup fBoardRests = some ⟨oc15, od15, .func (PySem.W.fnOf "rests" "Board.rests" (defArgs sBoardRests) (defBody sBoardRests) (defScope sBoardRests) .none kV15 dc15 pm15 an15 cd15 ct15), sl15⟩)
    (cBoardRests : PySem.W.codeIn K cd15 "Board.rests" = true)
    (kBoardRests : PySem.W.keepIn K (.ref fBoardRests) = true)
    (aRefilled : PySem.W.nsIn K mainGlobals "refilled" = some (some (.ref fRefilled)))
    (lRefilled : K.lookup fRefilled = some ⟨oc16, od16, .func (PySem.W.fnOf "refilled" "refilled" (defArgs sRefilled) (defBody sRefilled) (defScope sRefilled) .none kV16 dc16 pm16 an16 cd16 ct16), sl16⟩)
    (cRefilled : PySem.W.codeIn K cd16 "refilled" = true)
    (kRefilled : PySem.W.keepIn K (.ref fRefilled) = true)
    (aTold : PySem.W.nsIn K mainGlobals "told" = some (some (.ref fTold)))
    (lTold : K.lookup fTold = some ⟨oc17, od17, .func (PySem.W.fnOf "told" "told" (defArgs sTold) (defBody sTold) (defScope sTold) .none kV17 dc17 pm17 an17 cd17 ct17), sl17⟩)
    (cTold : PySem.W.codeIn K cd17 "told" = true)
    (kTold : PySem.W.keepIn K (.ref fTold) = true)
    (aBoardNumber : PySem.W.findIn K (.ref CBoard) "number" = some (some (.ref fBoardNumber)))
    (iBoardNumber : PySem.W.isFn K (.ref fBoardNumber) = true)
    (lBoardNumber : K.lookup fBoardNumber = some ⟨oc18, od18, .func (PySem.W.fnOf "number" "Board.number" (defArgs sBoardNumber) (defBody sBoardNumber) (defScope sBoardNumber) .none kV18 dc18 pm18 an18 cd18 ct18), sl18⟩)
    (cBoardNumber : PySem.W.codeIn K cd18 "Board.number" = true)
    (kBoardNumber : PySem.W.keepIn K (.ref fBoardNumber) = true)
    (aLAsked : PySem.W.nsIn K mainGlobals "_law_asked" = some (some (.ref fLAsked)))
    (lLAsked : K.lookup fLAsked = some ⟨oc19, od19, .func (PySem.W.fnOf "_law_asked" "_law_asked" (defArgs sLAsked) (defBody sLAsked) (defScope sLAsked) .none kV19 dc19 pm19 an19 cd19 ct19), sl19⟩)
    (cLAsked : PySem.W.codeIn K cd19 "_law_asked" = true)
    (kLAsked : PySem.W.keepIn K (.ref fLAsked) = true)
    (aLaw : PySem.W.nsIn K mainGlobals "law" = some (some (.ref fLaw)))
    (lLaw : K.lookup fLaw = some ⟨oc20, od20, .func (PySem.W.fnOf "law" "law" (defArgs sLaw) (defBody sLaw) (defScope sLaw) .none kV20 dc20 pm20 an20 cd20 ct20), sl20⟩)
    (cLaw : PySem.W.codeIn K cd20 "law" = true)
    (kLaw : PySem.W.keepIn K (.ref fLaw) = true)
    (z_ValueError : PySem.W.nsIn K mainGlobals "ValueError" = some none)
    (z_abs : PySem.W.nsIn K mainGlobals "abs" = some none)
    (z_enumerate : PySem.W.nsIn K mainGlobals "enumerate" = some none)
    (z_int : PySem.W.nsIn K mainGlobals "int" = some none)
    (z_isinstance : PySem.W.nsIn K mainGlobals "isinstance" = some none)
    (z_len : PySem.W.nsIn K mainGlobals "len" = some none)
    (z_list : PySem.W.nsIn K mainGlobals "list" = some none)
    (z_range : PySem.W.nsIn K mainGlobals "range" = some none)
    (z_sorted : PySem.W.nsIn K mainGlobals "sorted" = some none)
    (z_zip : PySem.W.nsIn K mainGlobals "zip" = some none)
    : ∃ fd : FuncData, (∀ (s : Shared) (v : Value), BindsTo s fd ⟨[v], []⟩ [("_law_script", v)]) ∧ ∀ base : Heap, K.In base → base.Ns mainGlobals mg → FnOk l.prog w K mg base (L2.CX l.prog w) 7 fa fd ["_law_script"] (spLaw K) := by
  have e := hfa.symm.trans (PySem.W.mg_of X G aLaw)
  cases e
  have FLBases := fun_mk (st := sLBases) lLBases cLBases kLBases
  have bLBases := FLBases.binds (ps := ["_law_one", "_law_other"]) fun _ _ _ _ _ _ us hl => match us, hl with | [_, _], _ => rfl
  have FLCellAt := fun_mk (st := sLCellAt) lLCellAt cLCellAt kLCellAt
  have bLCellAt := FLCellAt.binds (ps := ["_law_script", "_law_k"]) fun _ _ _ _ _ _ us hl => match us, hl with | [_, _], _ => rfl
  have FIsBase := fun_mk (st := sIsBase) lIsBase cIsBase kIsBase
  have bIsBase := FIsBase.binds (ps := ["number"]) fun _ _ _ _ _ _ us hl => match us, hl with | [_], _ => rfl
  have FCommon := fun_mk (st := sCommon) lCommon cCommon kCommon
  have bCommon := FCommon.binds (ps := ["one", "other"]) fun _ _ _ _ _ _ us hl => match us, hl with | [_, _], _ => rfl
  have FGoesBehind := fun_mk (st := sGoesBehind) lGoesBehind cGoesBehind kGoesBehind
  have bGoesBehind := FGoesBehind.binds (ps := ["base", "ahead"]) fun _ _ _ _ _ _ us hl => match us, hl with | [_, _], _ => rfl
  have FAreBases := fun_mk (st := sAreBases) lAreBases cAreBases kAreBases
  have bAreBases := FAreBases.binds (ps := ["numbers"]) fun _ _ _ _ _ _ us hl => match us, hl with | [_], _ => rfl
  have FTurned := fun_mk (st := sTurned) lTurned cTurned kTurned
  have bTurned := FTurned.binds (ps := ["number", "base"]) fun _ _ _ _ _ _ us hl => match us, hl with | [_, _], _ => rfl
  have FMultiplied := fun_mk (st := sMultiplied) lMultiplied cMultiplied kMultiplied
  have bMultiplied := FMultiplied.binds (ps := ["numbers"]) fun _ _ _ _ _ _ us hl => match us, hl with | [_], _ => rfl
  have FBoardInit := fun_mk (st := sBoardInit) lBoardInit cBoardInit kBoardInit
  have bBoardInit := FBoardInit.binds (ps := ["self", "bases"]) fun _ _ _ _ _ _ us hl => match us, hl with | [_, _], _ => rfl
  have FIsBelow := fun_mk (st := sIsBelow) lIsBelow cIsBelow kIsBelow
  have bIsBelow := FIsBelow.binds (ps := ["number", "limit"]) fun _ _ _ _ _ _ us hl => match us, hl with | [_, _], _ => rfl
  have FCheckRow : FunD K "check_row" "check_row" (defArgs sCheckRow) (defBody sCheckRow) (defScope sCheckRow) [.non] [] fCheckRow (PySem.W.fnOf "check_row" "check_row" (defArgs sCheckRow) (defBody sCheckRow) (defScope sCheckRow) dV10 kV10 dc10 pm10 an10 cd10 ct10) := ⟨⟨_, _, _, _, _, _, _, _, _, _, rfl, lCheckRow, cCheckRow, He.dflB_ok vCheckRow, .inl rfl⟩, kCheckRow⟩
  obtain ⟨dsCheckRow, vdCheckRow, bdCheckRow⟩ := FCheckRow.binds1 (ps := ["bases", "row", "passed"]) 2 0 (by decide) (by decide) fun _ _ _ _ _ _ _ us its hu hi => match us, hu, its, hi with | [_, _], _, [_], _ => ⟨_, rfl, rfl⟩
  match dsCheckRow, vdCheckRow with
  | [_], .cons rfl .nil =>
  obtain ⟨deCheckRow, veCheckRow, bCheckRow⟩ := FCheckRow.binds1 (ps := ["bases", "row", "passed"]) 3 1 (by decide) (by decide) fun _ _ _ _ _ _ _ us its hu hi => match us, hu, its, hi with | [_, _, _], _, [_], _ => ⟨_, rfl, rfl⟩
  match deCheckRow, veCheckRow with
  | [], .nil =>
  have FNumberOf := fun_mk (st := sNumberOf) lNumberOf cNumberOf kNumberOf
  have bNumberOf := FNumberOf.binds (ps := ["figures", "bases"]) fun _ _ _ _ _ _ us hl => match us, hl with | [_, _], _ => rfl
  have FBoardFigures := fun_mk (st := sBoardFigures) lBoardFigures cBoardFigures kBoardFigures
  have bBoardFigures := FBoardFigures.binds (ps := ["self", "row"]) fun _ _ _ _ _ _ us hl => match us, hl with | [_, _], _ => rfl
  have FLeastWithout := fun_mk (st := sLeastWithout) lLeastWithout cLeastWithout kLeastWithout
  have bLeastWithout := FLeastWithout.binds (ps := ["board", "row", "place"]) fun _ _ _ _ _ _ us hl => match us, hl with | [_, _, _], _ => rfl
  have FBoardRoom := fun_mk (st := sBoardRoom) lBoardRoom cBoardRoom kBoardRoom
  have bBoardRoom := FBoardRoom.binds (ps := ["self"]) fun _ _ _ _ _ _ us hl => match us, hl with | [_], _ => rfl
  have FBoardRests := fun_mk (st := sBoardRests) lBoardRests cBoardRests kBoardRests
  have bBoardRests := FBoardRests.binds (ps := ["self", "number"]) fun _ _ _ _ _ _ us hl => match us, hl with | [_, _], _ => rfl
  have FRefilled := fun_mk (st := sRefilled) lRefilled cRefilled kRefilled
  have bRefilled := FRefilled.binds (ps := ["board", "row", "place"]) fun _ _ _ _ _ _ us hl => match us, hl with | [_, _, _], _ => rfl
  have FTold := fun_mk (st := sTold) lTold cTold kTold
  have bTold := FTold.binds (ps := ["board", "row"]) fun _ _ _ _ _ _ us hl => match us, hl with | [_, _], _ => rfl
  have FBoardNumber := fun_mk (st := sBoardNumber) lBoardNumber cBoardNumber kBoardNumber
  have bBoardNumber := FBoardNumber.binds (ps := ["self", "row"]) fun _ _ _ _ _ _ us hl => match us, hl with | [_, _], _ => rfl
  have FLAsked := fun_mk (st := sLAsked) lLAsked cLAsked kLAsked
  have bLAsked := FLAsked.binds (ps := ["_law_kind", "_law_bases_here", "_law_row", "_law_wrong", "_law_at"]) fun _ _ _ _ _ _ us hl => match us, hl with | [_, _, _, _, _], _ => rfl
  have FLaw := fun_mk (st := sLaw) lLaw cLaw kLaw
  have bLaw := FLaw.binds (ps := ["_law_script"]) fun _ _ _ _ _ _ us hl => match us, hl with | [_], _ => rfl
  let T : Txt K mg := { CRestError := CRestError, gRestError := PySem.W.mg_of X G aRestError, kRestError := kRestError, xRestError := xRestError, bRestError := bRestError, tRestError := tRestError, hRestError := hRestError, ecRestError := ⟨e1RestError, e2RestError, bRestError, hRestError, e3RestError, n4, n5, e4RestError⟩, ivRestError := ivRestError, CNoBases := CNoBases, gNoBases := PySem.W.mg_of X G aNoBases, kNoBases := kNoBases, xNoBases := xNoBases, bNoBases := bNoBases, tNoBases := tNoBases, hNoBases := hNoBases, ecNoBases := ⟨e1NoBases, e2NoBases, bNoBases, hNoBases, e3NoBases, n4, n5, e4NoBases⟩, ivNoBases := ivNoBases, CNoRow := CNoRow, gNoRow := PySem.W.mg_of X G aNoRow, kNoRow := kNoRow, xNoRow := xNoRow, bNoRow := bNoRow, tNoRow := tNoRow, hNoRow := hNoRow, ecNoRow := ⟨e1NoRow, e2NoRow, bNoRow, hNoRow, e3NoRow, n4, n5, e4NoRow⟩, ivNoRow := ivNoRow, CNoNumber := CNoNumber, gNoNumber := PySem.W.mg_of X G aNoNumber, kNoNumber := kNoNumber, xNoNumber := xNoNumber, bNoNumber := bNoNumber, tNoNumber := tNoNumber, hNoNumber := hNoNumber, ecNoNumber := ⟨e1NoNumber, e2NoNumber, bNoNumber, hNoNumber, e3NoNumber, n4, n5, e4NoNumber⟩, ivNoNumber := ivNoNumber, CNoPlace := CNoPlace, gNoPlace := PySem.W.mg_of X G aNoPlace, kNoPlace := kNoPlace, xNoPlace := xNoPlace, bNoPlace := bNoPlace, tNoPlace := tNoPlace, hNoPlace := hNoPlace, ecNoPlace := ⟨e1NoPlace, e2NoPlace, bNoPlace, hNoPlace, e3NoPlace, n4, n5, e4NoPlace⟩, ivNoPlace := ivNoPlace, CNoTurn := CNoTurn, gNoTurn := PySem.W.mg_of X G aNoTurn, kNoTurn := kNoTurn, xNoTurn := xNoTurn, bNoTurn := bNoTurn, tNoTurn := tNoTurn, hNoTurn := hNoTurn, ecNoTurn := ⟨e1NoTurn, e2NoTurn, bNoTurn, hNoTurn, e3NoTurn, n4, n5, e4NoTurn⟩, ivNoTurn := ivNoTurn, COutOfRoom := COutOfRoom, gOutOfRoom := PySem.W.mg_of X G aOutOfRoom, kOutOfRoom := kOutOfRoom, xOutOfRoom := xOutOfRoom, bOutOfRoom := bOutOfRoom, tOutOfRoom := tOutOfRoom, hOutOfRoom := hOutOfRoom, ecOutOfRoom := ⟨e1OutOfRoom, e2OutOfRoom, bOutOfRoom, hOutOfRoom, e3OutOfRoom, n4, n5, e4OutOfRoom⟩, ivOutOfRoom := ivOutOfRoom, CLost := CLost, gLost := PySem.W.mg_of X G aLost, kLost := kLost, xLost := xLost, bLost := bLost, tLost := tLost, hLost := hLost, ecLost := ⟨e1Lost, e2Lost, bLost, hLost, e3Lost, n4, n5, e4Lost⟩, ivLost := ivLost, clRestError := clRestError, clNoBases := clNoBases, clNoRow := clNoRow, clNoNumber := clNoNumber, clNoPlace := clNoPlace, clNoTurn := clNoTurn, clOutOfRoom := clOutOfRoom, clLost := clLost, sRestError_RestError := sRestError_RestError, sRestError_NoBases := sRestError_NoBases, sRestError_NoRow := sRestError_NoRow, sRestError_NoNumber := sRestError_NoNumber, sRestError_NoPlace := sRestError_NoPlace, sRestError_NoTurn := sRestError_NoTurn, sRestError_OutOfRoom := sRestError_OutOfRoom, sRestError_Lost := sRestError_Lost, sNoBases_RestError := sNoBases_RestError, sNoBases_NoBases := sNoBases_NoBases, sNoBases_NoRow := sNoBases_NoRow, sNoBases_NoNumber := sNoBases_NoNumber, sNoBases_NoPlace := sNoBases_NoPlace, sNoBases_NoTurn := sNoBases_NoTurn, sNoBases_OutOfRoom := sNoBases_OutOfRoom, sNoBases_Lost := sNoBases_Lost, sNoRow_RestError := sNoRow_RestError, sNoRow_NoBases := sNoRow_NoBases, sNoRow_NoRow := sNoRow_NoRow, sNoRow_NoNumber := sNoRow_NoNumber, sNoRow_NoPlace := sNoRow_NoPlace, sNoRow_NoTurn := sNoRow_NoTurn, sNoRow_OutOfRoom := sNoRow_OutOfRoom, sNoRow_Lost := sNoRow_Lost, sNoNumber_RestError := sNoNumber_RestError, sNoNumber_NoBases := sNoNumber_NoBases, sNoNumber_NoRow := sNoNumber_NoRow, sNoNumber_NoNumber := sNoNumber_NoNumber, sNoNumber_NoPlace := sNoNumber_NoPlace, sNoNumber_NoTurn := sNoNumber_NoTurn, sNoNumber_OutOfRoom := sNoNumber_OutOfRoom, sNoNumber_Lost := sNoNumber_Lost, sNoPlace_RestError := sNoPlace_RestError, sNoPlace_NoBases := sNoPlace_NoBases, sNoPlace_NoRow := sNoPlace_NoRow, sNoPlace_NoNumber := sNoPlace_NoNumber, sNoPlace_NoPlace := sNoPlace_NoPlace, sNoPlace_NoTurn := sNoPlace_NoTurn, sNoPlace_OutOfRoom := sNoPlace_OutOfRoom, sNoPlace_Lost := sNoPlace_Lost, sNoTurn_RestError := sNoTurn_RestError, sNoTurn_NoBases := sNoTurn_NoBases, sNoTurn_NoRow := sNoTurn_NoRow, sNoTurn_NoNumber := sNoTurn_NoNumber, sNoTurn_NoPlace := sNoTurn_NoPlace, sNoTurn_NoTurn := sNoTurn_NoTurn, sNoTurn_OutOfRoom := sNoTurn_OutOfRoom, sNoTurn_Lost := sNoTurn_Lost, sOutOfRoom_RestError := sOutOfRoom_RestError, sOutOfRoom_NoBases := sOutOfRoom_NoBases, sOutOfRoom_NoRow := sOutOfRoom_NoRow, sOutOfRoom_NoNumber := sOutOfRoom_NoNumber, sOutOfRoom_NoPlace := sOutOfRoom_NoPlace, sOutOfRoom_NoTurn := sOutOfRoom_NoTurn, sOutOfRoom_OutOfRoom := sOutOfRoom_OutOfRoom, sOutOfRoom_Lost := sOutOfRoom_Lost, sLost_RestError := sLost_RestError, sLost_NoBases := sLost_NoBases, sLost_NoRow := sLost_NoRow, sLost_NoNumber := sLost_NoNumber, sLost_NoPlace := sLost_NoPlace, sLost_NoTurn := sLost_NoTurn, sLost_OutOfRoom := sLost_OutOfRoom, sLost_Lost := sLost_Lost, fLBases := fLBases, dLBases := (PySem.W.fnOf "_law_bases" "_law_bases" (defArgs sLBases) (defBody sLBases) (defScope sLBases) .none kV0 dc0 pm0 an0 cd0 ct0), FLBases := FLBases, kLBases := kLBases, bLBases := bLBases, gLBases := PySem.W.mg_of X G aLBases, fLCellAt := fLCellAt, dLCellAt := (PySem.W.fnOf "_law_cell_at" "_law_cell_at" (defArgs sLCellAt) (defBody sLCellAt) (defScope sLCellAt) .none kV1 dc1 pm1 an1 cd1 ct1), FLCellAt := FLCellAt, kLCellAt := kLCellAt, bLCellAt := bLCellAt, gLCellAt := PySem.W.mg_of X G aLCellAt, fIsBase := fIsBase, dIsBase := (PySem.W.fnOf "is_base" "is_base" (defArgs sIsBase) (defBody sIsBase) (defScope sIsBase) .none kV2 dc2 pm2 an2 cd2 ct2), FIsBase := FIsBase, kIsBase := kIsBase, bIsBase := bIsBase, gIsBase := PySem.W.mg_of X G aIsBase, fCommon := fCommon, dCommon := (PySem.W.fnOf "common" "common" (defArgs sCommon) (defBody sCommon) (defScope sCommon) .none kV3 dc3 pm3 an3 cd3 ct3), FCommon := FCommon, kCommon := kCommon, bCommon := bCommon, gCommon := PySem.W.mg_of X G aCommon, fGoesBehind := fGoesBehind, dGoesBehind := (PySem.W.fnOf "goes_behind" "goes_behind" (defArgs sGoesBehind) (defBody sGoesBehind) (defScope sGoesBehind) .none kV4 dc4 pm4 an4 cd4 ct4), FGoesBehind := FGoesBehind, kGoesBehind := kGoesBehind, bGoesBehind := bGoesBehind, gGoesBehind := PySem.W.mg_of X G aGoesBehind, fAreBases := fAreBases, dAreBases := (PySem.W.fnOf "are_bases" "are_bases" (defArgs sAreBases) (defBody sAreBases) (defScope sAreBases) .none kV5 dc5 pm5 an5 cd5 ct5), FAreBases := FAreBases, kAreBases := kAreBases, bAreBases := bAreBases, gAreBases := PySem.W.mg_of X G aAreBases, fTurned := fTurned, dTurned := (PySem.W.fnOf "turned" "turned" (defArgs sTurned) (defBody sTurned) (defScope sTurned) .none kV6 dc6 pm6 an6 cd6 ct6), FTurned := FTurned, kTurned := kTurned, bTurned := bTurned, gTurned := PySem.W.mg_of X G aTurned, fMultiplied := fMultiplied, dMultiplied := (PySem.W.fnOf "multiplied" "multiplied" (defArgs sMultiplied) (defBody sMultiplied) (defScope sMultiplied) .none kV7 dc7 pm7 an7 cd7 ct7), FMultiplied := FMultiplied, kMultiplied := kMultiplied, bMultiplied := bMultiplied, gMultiplied := PySem.W.mg_of X G aMultiplied, fBoardInit := fBoardInit, dBoardInit := (PySem.W.fnOf "__init__" "Board.__init__" (defArgs sBoardInit) (defBody sBoardInit) (defScope sBoardInit) .none kV8 dc8 pm8 an8 cd8 ct8), FBoardInit := FBoardInit, kBoardInit := kBoardInit, bBoardInit := bBoardInit, fIsBelow := fIsBelow, dIsBelow := (PySem.W.fnOf "is_below" "is_below" (defArgs sIsBelow) (defBody sIsBelow) (defScope sIsBelow) .none kV9 dc9 pm9 an9 cd9 ct9), FIsBelow := FIsBelow, kIsBelow := kIsBelow, bIsBelow := bIsBelow, gIsBelow := PySem.W.mg_of X G aIsBelow, bdCheckRow := bdCheckRow, fCheckRow := fCheckRow, dCheckRow := (PySem.W.fnOf "check_row" "check_row" (defArgs sCheckRow) (defBody sCheckRow) (defScope sCheckRow) dV10 kV10 dc10 pm10 an10 cd10 ct10), FCheckRow := FCheckRow, kCheckRow := kCheckRow, bCheckRow := bCheckRow, gCheckRow := PySem.W.mg_of X G aCheckRow, fNumberOf := fNumberOf, dNumberOf := (PySem.W.fnOf "number_of" "number_of" (defArgs sNumberOf) (defBody sNumberOf) (defScope sNumberOf) .none kV11 dc11 pm11 an11 cd11 ct11), FNumberOf := FNumberOf, kNumberOf := kNumberOf, bNumberOf := bNumberOf, gNumberOf := PySem.W.mg_of X G aNumberOf, fBoardFigures := fBoardFigures, dBoardFigures := (PySem.W.fnOf "figures" "Board.figures" (defArgs sBoardFigures) (defBody sBoardFigures) (defScope sBoardFigures) .none kV12 dc12 pm12 an12 cd12 ct12), FBoardFigures := FBoardFigures, kBoardFigures := kBoardFigures, bBoardFigures := bBoardFigures, fLeastWithout := fLeastWithout, dLeastWithout := (PySem.W.fnOf "least_without" "least_without" (defArgs sLeastWithout) (defBody sLeastWithout) (defScope sLeastWithout) .none kV13 dc13 pm13 an13 cd13 ct13), FLeastWithout := FLeastWithout, kLeastWithout := kLeastWithout, bLeastWithout := bLeastWithout, gLeastWithout := PySem.W.mg_of X G aLeastWithout, fBoardRoom := fBoardRoom, dBoardRoom := (PySem.W.fnOf "room" "Board.room" (defArgs sBoardRoom) (defBody sBoardRoom) (defScope sBoardRoom) .none kV14 dc14 pm14 an14 cd14 ct14), FBoardRoom := FBoardRoom, kBoardRoom := kBoardRoom, bBoardRoom := bBoardRoom, fBoardRests := fBoardRests, dBoardRests := (PySem.W.fnOf "rests" "Board.rests" (defArgs sBoardRests) (defBody sBoardRests) (defScope sBoardRests) .none kV15 dc15 pm15 an15 cd15 ct15), FBoardRests := FBoardRests, kBoardRests := kBoardRests, bBoardRests := bBoardRests, fRefilled := fRefilled, dRefilled := (PySem.W.fnOf "refilled" "refilled" (defArgs sRefilled) (defBody sRefilled) (defScope sRefilled) .none kV16 dc16 pm16 an16 cd16 ct16), FRefilled := FRefilled, kRefilled := kRefilled, bRefilled := bRefilled, gRefilled := PySem.W.mg_of X G aRefilled, fTold := fTold, dTold := (PySem.W.fnOf "told" "told" (defArgs sTold) (defBody sTold) (defScope sTold) .none kV17 dc17 pm17 an17 cd17 ct17), FTold := FTold, kTold := kTold, bTold := bTold, gTold := PySem.W.mg_of X G aTold, fBoardNumber := fBoardNumber, dBoardNumber := (PySem.W.fnOf "number" "Board.number" (defArgs sBoardNumber) (defBody sBoardNumber) (defScope sBoardNumber) .none kV18 dc18 pm18 an18 cd18 ct18), FBoardNumber := FBoardNumber, kBoardNumber := kBoardNumber, bBoardNumber := bBoardNumber, fLAsked := fLAsked, dLAsked := (PySem.W.fnOf "_law_asked" "_law_asked" (defArgs sLAsked) (defBody sLAsked) (defScope sLAsked) .none kV19 dc19 pm19 an19 cd19 ct19), FLAsked := FLAsked, kLAsked := kLAsked, bLAsked := bLAsked, gLAsked := PySem.W.mg_of X G aLAsked, fLaw := fa, dLaw := (PySem.W.fnOf "law" "law" (defArgs sLaw) (defBody sLaw) (defScope sLaw) .none kV20 dc20 pm20 an20 cd20 ct20), FLaw := FLaw, kLaw := kLaw, bLaw := bLaw, gLaw := PySem.W.mg_of X G aLaw, CBoard := CBoard, gBoard := PySem.W.mg_of X G aBoard, cBoard := ⟨pgBoard, hdBoard, poBoard, saBoard⟩, mkBoard := ⟨mkBoard, aBoardInit, iBoardInit, kcBoard⟩, mBoardFigures := ⟨aBoardFigures, iBoardFigures, kBoardFigures⟩, mBoardRoom := ⟨aBoardRoom, iBoardRoom, kBoardRoom⟩, mBoardRests := ⟨aBoardRests, iBoardRests, kBoardRests⟩, mBoardNumber := ⟨aBoardNumber, iBoardNumber, kBoardNumber⟩, nBoard_bases := nBoard_bases, nBoard__turns := nBoard__turns, z_ValueError := PySem.W.mg_none_of X G z_ValueError, z_abs := PySem.W.mg_none_of X G z_abs, z_enumerate := PySem.W.mg_none_of X G z_enumerate, z_int := PySem.W.mg_none_of X G z_int, z_isinstance := PySem.W.mg_none_of X G z_isinstance, z_len := PySem.W.mg_none_of X G z_len, z_list := PySem.W.mg_none_of X G z_list, z_range := PySem.W.mg_none_of X G z_range, z_sorted := PySem.W.mg_none_of X G z_sorted, z_zip := PySem.W.mg_none_of X G z_zip }
  exact ⟨PySem.W.fnOf "law" "law" (defArgs sLaw) (defBody sLaw) (defScope sLaw) .none kV20 dc20 pm20 an20 cd20 ct20, fun s v => .of_eq rfl, fun base _ _ => ok_Law T⟩
end RS
open PySem PySem.W PyProof.Rows
set_option maxHeartbeats 0 in
theorem PySem.Challenge.cw_restrow_k14_refusals_apart_holds : PySem.Challenge.rw_restrow_k14_refusals_apart.Holds := by
  w_on; o_law; k_head; (case hw => w_witness2)
  k_fill
  refine L2.walk_of (l := PySem.Challenge.rw_restrow_k14_refusals_apart) (n := 63) (k := 7) (x := "_law_script") (CX := fun w => L2.CX PySem.Challenge.rw_restrow_k14_refusals_apart.prog w) (sp := fun w => RS.spLaw _) rfl (by decide) rfl ⟨rfl, by decide, by decide⟩ (fun w h Y => PySem.W.kIn_of Y) ?F (fun _ _ a ns hl _ hS => RS.law_in hl hS) (fun _ _ _ _ _ h => RS.no_out h)
  case F =>
    intro w mg fa h KX G hmg
    refine' RS.all_mk KX G hmg ?aRestError ?kRestError ?xRestError ?bRestError ?tRestError ?hRestError ?e1RestError ?e2RestError ?e3RestError ?e4RestError ?ivRestError ?aNoBases ?kNoBases ?xNoBases ?bNoBases ?tNoBases ?hNoBases ?e1NoBases ?e2NoBases ?e3NoBases ?e4NoBases ?ivNoBases ?aNoRow ?kNoRow ?xNoRow ?bNoRow ?tNoRow ?hNoRow ?e1NoRow ?e2NoRow ?e3NoRow ?e4NoRow ?ivNoRow ?aNoNumber ?kNoNumber ?xNoNumber ?bNoNumber ?tNoNumber ?hNoNumber ?e1NoNumber ?e2NoNumber ?e3NoNumber ?e4NoNumber ?ivNoNumber ?aNoPlace ?kNoPlace ?xNoPlace ?bNoPlace ?tNoPlace ?hNoPlace ?e1NoPlace ?e2NoPlace ?e3NoPlace ?e4NoPlace ?ivNoPlace ?aNoTurn ?kNoTurn ?xNoTurn ?bNoTurn ?tNoTurn ?hNoTurn ?e1NoTurn ?e2NoTurn ?e3NoTurn ?e4NoTurn ?ivNoTurn ?aOutOfRoom ?kOutOfRoom ?xOutOfRoom ?bOutOfRoom ?tOutOfRoom ?hOutOfRoom ?e1OutOfRoom ?e2OutOfRoom ?e3OutOfRoom ?e4OutOfRoom ?ivOutOfRoom ?aLost ?kLost ?xLost ?bLost ?tLost ?hLost ?e1Lost ?e2Lost ?e3Lost ?e4Lost ?ivLost ?clRestError ?clNoBases ?clNoRow ?clNoNumber ?clNoPlace ?clNoTurn ?clOutOfRoom ?clLost ?n4 ?n5 ?sRestError_RestError ?sRestError_NoBases ?sRestError_NoRow ?sRestError_NoNumber ?sRestError_NoPlace ?sRestError_NoTurn ?sRestError_OutOfRoom ?sRestError_Lost ?sNoBases_RestError ?sNoBases_NoBases ?sNoBases_NoRow ?sNoBases_NoNumber ?sNoBases_NoPlace ?sNoBases_NoTurn ?sNoBases_OutOfRoom ?sNoBases_Lost ?sNoRow_RestError ?sNoRow_NoBases ?sNoRow_NoRow ?sNoRow_NoNumber ?sNoRow_NoPlace ?sNoRow_NoTurn ?sNoRow_OutOfRoom ?sNoRow_Lost ?sNoNumber_RestError ?sNoNumber_NoBases ?sNoNumber_NoRow ?sNoNumber_NoNumber ?sNoNumber_NoPlace ?sNoNumber_NoTurn ?sNoNumber_OutOfRoom ?sNoNumber_Lost ?sNoPlace_RestError ?sNoPlace_NoBases ?sNoPlace_NoRow ?sNoPlace_NoNumber ?sNoPlace_NoPlace ?sNoPlace_NoTurn ?sNoPlace_OutOfRoom ?sNoPlace_Lost ?sNoTurn_RestError ?sNoTurn_NoBases ?sNoTurn_NoRow ?sNoTurn_NoNumber ?sNoTurn_NoPlace ?sNoTurn_NoTurn ?sNoTurn_OutOfRoom ?sNoTurn_Lost ?sOutOfRoom_RestError ?sOutOfRoom_NoBases ?sOutOfRoom_NoRow ?sOutOfRoom_NoNumber ?sOutOfRoom_NoPlace ?sOutOfRoom_NoTurn ?sOutOfRoom_OutOfRoom ?sOutOfRoom_Lost ?sLost_RestError ?sLost_NoBases ?sLost_NoRow ?sLost_NoNumber ?sLost_NoPlace ?sLost_NoTurn ?sLost_OutOfRoom ?sLost_Lost ?aBoard ?pgBoard ?hdBoard ?poBoard ?saBoard ?mkBoard ?kcBoard ?nBoard_bases ?nBoard__turns ?aLBases ?lLBases ?cLBases ?kLBases ?aLCellAt ?lLCellAt ?cLCellAt ?kLCellAt ?aIsBase ?lIsBase ?cIsBase ?kIsBase ?aCommon ?lCommon ?cCommon ?kCommon ?aGoesBehind ?lGoesBehind ?cGoesBehind ?kGoesBehind ?aAreBases ?lAreBases ?cAreBases ?kAreBases ?aTurned ?lTurned ?cTurned ?kTurned ?aMultiplied ?lMultiplied ?cMultiplied ?kMultiplied ?aBoardInit ?iBoardInit ?lBoardInit ?cBoardInit ?kBoardInit ?aIsBelow ?lIsBelow ?cIsBelow ?kIsBelow ?aCheckRow ?lCheckRow ?cCheckRow ?kCheckRow ?vCheckRow ?aNumberOf ?lNumberOf ?cNumberOf ?kNumberOf ?aBoardFigures ?iBoardFigures ?lBoardFigures ?cBoardFigures ?kBoardFigures ?aLeastWithout ?lLeastWithout ?cLeastWithout ?kLeastWithout ?aBoardRoom ?iBoardRoom ?lBoardRoom ?cBoardRoom ?kBoardRoom ?aBoardRests ?iBoardRests ?lBoardRests ?cBoardRests ?kBoardRests ?aRefilled ?lRefilled ?cRefilled ?kRefilled ?aTold ?lTold ?cTold ?kTold ?aBoardNumber ?iBoardNumber ?lBoardNumber ?cBoardNumber ?kBoardNumber ?aLAsked ?lLAsked ?cLAsked ?kLAsked ?aLaw ?lLaw ?cLaw ?kLaw ?z_ValueError ?z_abs ?z_enumerate ?z_int ?z_isinstance ?z_len ?z_list ?z_range ?z_sorted ?z_zip
    (case aRestError => k_is)
    (case kRestError => k_is)
    (case xRestError => k_exc)
    (case bRestError => k_is)
    (case tRestError => k_is)
    (case hRestError => k_is)
    (case e1RestError => k_is)
    (case e2RestError => k_is)
    (case e3RestError => k_is)
    (case e4RestError => k_is)
    (case ivRestError => kit_is)
    (case aNoBases => k_is)
    (case kNoBases => k_is)
    (case xNoBases => k_exc)
    (case bNoBases => k_is)
    (case tNoBases => k_is)
    (case hNoBases => k_is)
    (case e1NoBases => k_is)
    (case e2NoBases => k_is)
    (case e3NoBases => k_is)
    (case e4NoBases => k_is)
    (case ivNoBases => kit_is)
    (case aNoRow => k_is)
    (case kNoRow => k_is)
    (case xNoRow => k_exc)
    (case bNoRow => k_is)
    (case tNoRow => k_is)
    (case hNoRow => k_is)
    (case e1NoRow => k_is)
    (case e2NoRow => k_is)
    (case e3NoRow => k_is)
    (case e4NoRow => k_is)
    (case ivNoRow => kit_is)
    (case aNoNumber => k_is)
    (case kNoNumber => k_is)
    (case xNoNumber => k_exc)
    (case bNoNumber => k_is)
    (case tNoNumber => k_is)
    (case hNoNumber => k_is)
    (case e1NoNumber => k_is)
    (case e2NoNumber => k_is)
    (case e3NoNumber => k_is)
    (case e4NoNumber => k_is)
    (case ivNoNumber => kit_is)
    (case aNoPlace => k_is)
    (case kNoPlace => k_is)
    (case xNoPlace => k_exc)
    (case bNoPlace => k_is)
    (case tNoPlace => k_is)
    (case hNoPlace => k_is)
    (case e1NoPlace => k_is)
    (case e2NoPlace => k_is)
    (case e3NoPlace => k_is)
    (case e4NoPlace => k_is)
    (case ivNoPlace => kit_is)
    (case aNoTurn => k_is)
    (case kNoTurn => k_is)
    (case xNoTurn => k_exc)
    (case bNoTurn => k_is)
    (case tNoTurn => k_is)
    (case hNoTurn => k_is)
    (case e1NoTurn => k_is)
    (case e2NoTurn => k_is)
    (case e3NoTurn => k_is)
    (case e4NoTurn => k_is)
    (case ivNoTurn => kit_is)
    (case aOutOfRoom => k_is)
    (case kOutOfRoom => k_is)
    (case xOutOfRoom => k_exc)
    (case bOutOfRoom => k_is)
    (case tOutOfRoom => k_is)
    (case hOutOfRoom => k_is)
    (case e1OutOfRoom => k_is)
    (case e2OutOfRoom => k_is)
    (case e3OutOfRoom => k_is)
    (case e4OutOfRoom => k_is)
    (case ivOutOfRoom => kit_is)
    (case aLost => k_is)
    (case kLost => k_is)
    (case xLost => k_exc)
    (case bLost => k_is)
    (case tLost => k_is)
    (case hLost => k_is)
    (case e1Lost => k_is)
    (case e2Lost => k_is)
    (case e3Lost => k_is)
    (case e4Lost => k_is)
    (case ivLost => kit_is)
    (case clRestError => (first | rfl | k_is))
    (case clNoBases => (first | rfl | k_is))
    (case clNoRow => (first | rfl | k_is))
    (case clNoNumber => (first | rfl | k_is))
    (case clNoPlace => (first | rfl | k_is))
    (case clNoTurn => (first | rfl | k_is))
    (case clOutOfRoom => (first | rfl | k_is))
    (case clLost => (first | rfl | k_is))
    (case n4 => k_is)
    (case n5 => k_is)
    (case sRestError_RestError => (first | rfl | k_is))
    (case sRestError_NoBases => (first | rfl | k_is))
    (case sRestError_NoRow => (first | rfl | k_is))
    (case sRestError_NoNumber => (first | rfl | k_is))
    (case sRestError_NoPlace => (first | rfl | k_is))
    (case sRestError_NoTurn => (first | rfl | k_is))
    (case sRestError_OutOfRoom => (first | rfl | k_is))
    (case sRestError_Lost => (first | rfl | k_is))
    (case sNoBases_RestError => (first | rfl | k_is))
    (case sNoBases_NoBases => (first | rfl | k_is))
    (case sNoBases_NoRow => (first | rfl | k_is))
    (case sNoBases_NoNumber => (first | rfl | k_is))
    (case sNoBases_NoPlace => (first | rfl | k_is))
    (case sNoBases_NoTurn => (first | rfl | k_is))
    (case sNoBases_OutOfRoom => (first | rfl | k_is))
    (case sNoBases_Lost => (first | rfl | k_is))
    (case sNoRow_RestError => (first | rfl | k_is))
    (case sNoRow_NoBases => (first | rfl | k_is))
    (case sNoRow_NoRow => (first | rfl | k_is))
    (case sNoRow_NoNumber => (first | rfl | k_is))
    (case sNoRow_NoPlace => (first | rfl | k_is))
    (case sNoRow_NoTurn => (first | rfl | k_is))
    (case sNoRow_OutOfRoom => (first | rfl | k_is))
    (case sNoRow_Lost => (first | rfl | k_is))
    (case sNoNumber_RestError => (first | rfl | k_is))
    (case sNoNumber_NoBases => (first | rfl | k_is))
    (case sNoNumber_NoRow => (first | rfl | k_is))
    (case sNoNumber_NoNumber => (first | rfl | k_is))
    (case sNoNumber_NoPlace => (first | rfl | k_is))
    (case sNoNumber_NoTurn => (first | rfl | k_is))
    (case sNoNumber_OutOfRoom => (first | rfl | k_is))
    (case sNoNumber_Lost => (first | rfl | k_is))
    (case sNoPlace_RestError => (first | rfl | k_is))
    (case sNoPlace_NoBases => (first | rfl | k_is))
    (case sNoPlace_NoRow => (first | rfl | k_is))
    (case sNoPlace_NoNumber => (first | rfl | k_is))
    (case sNoPlace_NoPlace => (first | rfl | k_is))
    (case sNoPlace_NoTurn => (first | rfl | k_is))
    (case sNoPlace_OutOfRoom => (first | rfl | k_is))
    (case sNoPlace_Lost => (first | rfl | k_is))
    (case sNoTurn_RestError => (first | rfl | k_is))
    (case sNoTurn_NoBases => (first | rfl | k_is))
    (case sNoTurn_NoRow => (first | rfl | k_is))
    (case sNoTurn_NoNumber => (first | rfl | k_is))
    (case sNoTurn_NoPlace => (first | rfl | k_is))
    (case sNoTurn_NoTurn => (first | rfl | k_is))
    (case sNoTurn_OutOfRoom => (first | rfl | k_is))
    (case sNoTurn_Lost => (first | rfl | k_is))
    (case sOutOfRoom_RestError => (first | rfl | k_is))
    (case sOutOfRoom_NoBases => (first | rfl | k_is))
    (case sOutOfRoom_NoRow => (first | rfl | k_is))
    (case sOutOfRoom_NoNumber => (first | rfl | k_is))
    (case sOutOfRoom_NoPlace => (first | rfl | k_is))
    (case sOutOfRoom_NoTurn => (first | rfl | k_is))
    (case sOutOfRoom_OutOfRoom => (first | rfl | k_is))
    (case sOutOfRoom_Lost => (first | rfl | k_is))
    (case sLost_RestError => (first | rfl | k_is))
    (case sLost_NoBases => (first | rfl | k_is))
    (case sLost_NoRow => (first | rfl | k_is))
    (case sLost_NoNumber => (first | rfl | k_is))
    (case sLost_NoPlace => (first | rfl | k_is))
    (case sLost_NoTurn => (first | rfl | k_is))
    (case sLost_OutOfRoom => (first | rfl | k_is))
    (case sLost_Lost => (first | rfl | k_is))
    (case aBoard => k_is)
    (case pgBoard => k_is)
    (case hdBoard => k_is)
    (case poBoard => k_is)
    (case saBoard => k_is)
    (case mkBoard => k_is)
    (case kcBoard => k_is)
    (case nBoard_bases => k_is)
    (case nBoard__turns => k_is)
    (case aLBases => k_is)
    (case lLBases => k_is)
    (case cLBases => k_is)
    (case kLBases => k_is)
    (case aLCellAt => k_is)
    (case lLCellAt => k_is)
    (case cLCellAt => k_is)
    (case kLCellAt => k_is)
    (case aIsBase => k_is)
    (case lIsBase => k_is)
    (case cIsBase => k_is)
    (case kIsBase => k_is)
    (case aCommon => k_is)
    (case lCommon => k_is)
    (case cCommon => k_is)
    (case kCommon => k_is)
    (case aGoesBehind => k_is)
    (case lGoesBehind => k_is)
    (case cGoesBehind => k_is)
    (case kGoesBehind => k_is)
    (case aAreBases => k_is)
    (case lAreBases => k_is)
    (case cAreBases => k_is)
    (case kAreBases => k_is)
    (case aTurned => k_is)
    (case lTurned => k_is)
    (case cTurned => k_is)
    (case kTurned => k_is)
    (case aMultiplied => k_is)
    (case lMultiplied => k_is)
    (case cMultiplied => k_is)
    (case kMultiplied => k_is)
    (case aBoardInit => k_is)
    (case iBoardInit => k_is)
    (case lBoardInit => k_is)
    (case cBoardInit => k_is)
    (case kBoardInit => k_is)
    (case aIsBelow => k_is)
    (case lIsBelow => k_is)
    (case cIsBelow => k_is)
    (case kIsBelow => k_is)
    (case aCheckRow => k_is)
    (case lCheckRow => k_is)
    (case cCheckRow => k_is)
    (case kCheckRow => k_is)
    (case vCheckRow => (first | rfl | decide +kernel))
    (case aNumberOf => k_is)
    (case lNumberOf => k_is)
    (case cNumberOf => k_is)
    (case kNumberOf => k_is)
    (case aBoardFigures => k_is)
    (case iBoardFigures => k_is)
    (case lBoardFigures => k_is)
    (case cBoardFigures => k_is)
    (case kBoardFigures => k_is)
    (case aLeastWithout => k_is)
    (case lLeastWithout => k_is)
    (case cLeastWithout => k_is)
    (case kLeastWithout => k_is)
    (case aBoardRoom => k_is)
    (case iBoardRoom => k_is)
    (case lBoardRoom => k_is)
    (case cBoardRoom => k_is)
    (case kBoardRoom => k_is)
    (case aBoardRests => k_is)
    (case iBoardRests => k_is)
    (case lBoardRests => k_is)
    (case cBoardRests => k_is)
    (case kBoardRests => k_is)
    (case aRefilled => k_is)
    (case lRefilled => k_is)
    (case cRefilled => k_is)
    (case kRefilled => k_is)
    (case aTold => k_is)
    (case lTold => k_is)
    (case cTold => k_is)
    (case kTold => k_is)
    (case aBoardNumber => k_is)
    (case iBoardNumber => k_is)
    (case lBoardNumber => k_is)
    (case cBoardNumber => k_is)
    (case kBoardNumber => k_is)
    (case aLAsked => k_is)
    (case lLAsked => k_is)
    (case cLAsked => k_is)
    (case kLAsked => k_is)
    (case aLaw => k_is)
    (case lLaw => k_is)
    (case cLaw => k_is)
    (case kLaw => k_is)
    (case z_ValueError => k_is)
    (case z_abs => k_is)
    (case z_enumerate => k_is)
    (case z_int => k_is)
    (case z_isinstance => k_is)
    (case z_len => k_is)
    (case z_list => k_is)
    (case z_range => k_is)
    (case z_sorted => k_is)
    (case z_zip => k_is)
