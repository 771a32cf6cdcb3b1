import PyProof.Rows.All
import Wide.All
import OpenK.AllK
import Wide.FinOn
import Open.SpecLaws
import KE.OsGo
import PySem.Challenge.RW_standins_s01_answers
import HandS.ForSpec
import HandS.ForMost
import HandS.ExcInit
import HandS.ExcField
import HandS.CallLocal
import HandS.CallSlots
import HandS.Codes
import HandS.Comp
import HandS.Walk
import HandS.Rev
import HandS.RevRange
import HandS.More
import HandS.FStr
import HandS.Wide
import HandS.WideBits
import HandS.Defaults
import HandS.Head4
import HandS.HeadHook2
import KE.DatumOrd
import KE.GoesEnum
import KE.GoesEnumKw
import KE.KExcInit
set_option Elab.async false
set_option linter.all false
set_option maxRecDepth 100000
namespace SI
open Vbndam

theorem mem_tb (s p : Nat) : isMember s p = s.testBit p := by
  unfold isMember
  rw [Nat.testBit_eq_decide_div_mod_eq]
  cases h : decide (s / 2 ^ p % 2 = 1) <;> simp_all

/-- adding the powers of distinct players -/
def bitsOf (l : List Nat) (s : Nat) : Nat := l.foldl (fun s p => s ||| 2 ^ p) s
theorem bitsOf_tb : ∀ (l : List Nat) (s q : Nat), (bitsOf l s).testBit q = (s.testBit q || l.contains q)
  | [], s, q => by simp [bitsOf]
  | p :: l, s, q => by
    show (bitsOf l (s ||| 2 ^ p)).testBit q = _
    rw [bitsOf_tb l, Nat.testBit_or, Nat.testBit_two_pow, List.contains_cons]
    by_cases h : p = q
    · subst h; simp
    · have : (q == p) = false := by simpa using fun e => h e.symm
      simp [h, this]
theorem add_pow_or (s p : Nat) (h : s.testBit p = false) : s + 2 ^ p = s ||| 2 ^ p := by
  apply Nat.eq_of_testBit_eq
  intro q
  rw [Nat.testBit_or, Nat.testBit_two_pow]
  by_cases e : p = q
  · subst e
    rw [Nat.add_comm, Nat.testBit_two_pow_add_eq]
    simp [h]
  · simp only [decide_eq_false e, Bool.or_false]
    rcases Nat.lt_or_gt_of_ne e with hlt | hgt
    · -- q > p : no carry
      have hm : s % 2 ^ (p+1) < 2 ^ p := by
        have := h
        rw [Nat.testBit_eq_decide_div_mod_eq] at this
        have h2 : s / 2 ^ p % 2 = 0 := by
          have := of_decide_eq_false this
          omega
        rw [Nat.pow_succ, Nat.mod_mul]
        have := Nat.mod_lt s (Nat.two_pow_pos p)
        rw [h2]; omega
      have e1 : s = 2 ^ (p+1) * (s / 2 ^ (p+1)) + s % 2 ^ (p+1) := (Nat.div_add_mod s _).symm
      have hpw : 2 ^ (p+1) = 2 ^ p * 2 := Nat.pow_succ ..
      have hb : s % 2 ^ (p+1) + 2 ^ p < 2 ^ (p+1) := by omega
      have hb' : s % 2 ^ (p+1) < 2 ^ (p+1) := Nat.mod_lt _ (Nat.two_pow_pos _)
      have t1 : (s + 2 ^ p) = 2 ^ (p+1) * (s / 2 ^ (p+1)) + (s % 2 ^ (p+1) + 2 ^ p) := by omega
      rw [t1, Nat.testBit_two_pow_mul_add _ hb]
      conv => rhs; rw [e1, Nat.testBit_two_pow_mul_add _ hb']
      have : ¬ q < p + 1 := by omega
      simp [this]
    · rw [Nat.add_comm]
      exact Nat.testBit_two_pow_add_gt hgt s
theorem sumBits : ∀ (l : List Nat) (s : Nat), l.Nodup → (∀ p ∈ l, s.testBit p = false) → l.foldl (fun s p => s + 2 ^ p) s = bitsOf l s
  | [], s, _, _ => rfl
  | p :: l, s, hn, hs => by
    rw [List.nodup_cons] at hn
    show l.foldl _ (s + 2 ^ p) = bitsOf l (s ||| 2 ^ p)
    rw [add_pow_or s p (hs p List.mem_cons_self)]
    refine sumBits l _ hn.2 fun q hq => ?_
    rw [Nat.testBit_or, Nat.testBit_two_pow, hs q (List.mem_cons_of_mem _ hq)]
    have : p ≠ q := fun e => hn.1 (e ▸ hq)
    simp [this]
theorem eraseDups_nodup {l : List Nat} (h : l.Nodup) : l.eraseDups = l := by
  induction l with
  | nil => rfl
  | cons a l ih =>
    rw [List.nodup_cons] at h
    rw [List.eraseDups_cons]
    have : l.filter (fun b => !b == a) = l := by
      rw [List.filter_eq_self]
      intro b hb
      have : b ≠ a := fun e => h.1 (e ▸ hb)
      simp [this]
    rw [this, ih h.2]
theorem coalitionOf_tb {l : List Nat} (h : l.Nodup) (q : Nat) : (coalitionOf l).testBit q = l.contains q := by
  unfold coalitionOf
  rw [eraseDups_nodup h, sumBits l 0 h (fun _ _ => Nat.zero_testBit _), bitsOf_tb, Nat.zero_testBit, Bool.false_or]

/-- a rule for p that is enabled by s -/
def canJoin (room : Room) (s p : Nat) : Bool := room.rules.any fun u => u.absent == p && isRuleEnabled s u
theorem nextRound_tb (room : Room) (s q : Nat) : (nextRound room s).testBit q = (decide (q < playerCount room) && (s.testBit q || canJoin room s q)) := by
  unfold nextRound
  rw [coalitionOf_tb (List.nodup_range.sublist List.filter_sublist)]
  rw [Bool.eq_iff_iff]
  simp [List.mem_filter, mem_tb, canJoin]
end SI

namespace SI
open Vbndam

structure WF (room : Room) : Prop where
  le8 : room.players.length ≤ 8
  pos : 1 ≤ room.players.length
  r20 : room.rules.length ≤ 20
  abs : ∀ u ∈ room.rules, u.absent < room.players.length
  sub : ∀ u ∈ room.rules, ∀ q ∈ u.substitutes, q < room.players.length
  sl : ∀ u ∈ room.rules, u.substitutes.length ≤ 8
  rq : ∀ u ∈ room.rules, u.required ≤ 8
  wt : ∀ p ∈ room.players, p.weight ≤ 1000

def joinList (room : Room) (s : Nat) : List Nat := (List.range (playerCount room)).filter fun p => !s.testBit p && canJoin room s p
def ruleFor (room : Room) (s p : Nat) : Nat := ((room.rules.zipIdx.find? fun u => u.1.absent == p && isRuleEnabled s u.1).map fun u => u.2).getD 0
def roundOf (room : Room) (s : Nat) : List (Nat × Nat) := (joinList room s).map fun p => (p, ruleFor room s p)
theorem joinList_nodup (room : Room) (s : Nat) : (joinList room s).Nodup := List.nodup_range.sublist List.filter_sublist
theorem stepsFrom_succ (room : Room) (f s : Nat) : stepsFrom room (f + 1) s = roundOf room s ++ stepsFrom room f (nextRound room s) := by
  show (((List.range (playerCount room)).filter _).map _) ++ _ = _
  unfold roundOf joinList
  congr 2
  apply List.filter_congr
  intro p hp
  have hp' : p < playerCount room := List.mem_range.mp hp
  rw [mem_tb, mem_tb, nextRound_tb]
  cases s.testBit p <;> simp [hp']
theorem canJoin_lt {room : Room} (w : WF room) {s p : Nat} (h : canJoin room s p = true) : p < playerCount room := by
  unfold canJoin at h
  rw [List.any_eq_true] at h
  obtain ⟨u, hu, h⟩ := h
  simp at h
  exact h.1 ▸ w.abs u hu
theorem tb_lt {n s q : Nat} (h : s < 2 ^ n) (hq : s.testBit q = true) : q < n := by
  rcases Nat.lt_or_ge q n with h1 | h1
  · exact h1
  · rw [Nat.testBit_lt_two_pow (Nat.lt_of_lt_of_le h (Nat.pow_le_pow_right (by decide) h1))] at hq
    cases hq
theorem nextRound_bits {room : Room} {s : Nat} (h : s < 2 ^ playerCount room) : nextRound room s = bitsOf (joinList room s) s := by
  apply Nat.eq_of_testBit_eq
  intro q
  rw [nextRound_tb, bitsOf_tb]
  unfold joinList
  cases hs : s.testBit q with
  | true =>
    have := tb_lt h hs
    simp [this]
  | false =>
    rw [Bool.eq_iff_iff]
    simp [List.mem_filter, hs]
theorem nextRound_lt (room : Room) (s : Nat) : nextRound room s < 2 ^ playerCount room := by
  apply Nat.lt_pow_two_of_testBit
  intro i hi
  rw [nextRound_tb]
  simp [Nat.not_lt.mpr hi]
theorem joinList_nil_next {room : Room} {s : Nat} (h : s < 2 ^ playerCount room) (e : joinList room s = []) : nextRound room s = s := by
  rw [nextRound_bits h, e]; rfl
theorem next_eq_nil {room : Room} {s : Nat} (h : nextRound room s = s) : joinList room s = [] := by
  unfold joinList
  rw [List.filter_eq_nil_iff]
  intro p hp
  have t := nextRound_tb room s p
  rw [h] at t
  have hp' : p < playerCount room := List.mem_range.mp hp
  cases hs : s.testBit p <;> simp_all
theorem isClosed_eq {room : Room} {s : Nat} (h : s < 2 ^ playerCount room) : isClosed room s = (joinList room s).isEmpty := by
  unfold isClosed
  rw [Bool.eq_iff_iff]
  simp only [beq_iff_eq, List.isEmpty_iff]
  exact ⟨next_eq_nil, joinList_nil_next h⟩
def cnt (room : Room) (s : Nat) : Nat := ((List.range (playerCount room)).filter fun p => !s.testBit p).length
theorem cnt_le (room : Room) (s : Nat) : cnt room s ≤ playerCount room := by
  unfold cnt
  exact Nat.le_trans (List.length_filter_le ..) (by rw [List.length_range]; exact Nat.le_refl _)
theorem split_len {α : Type} (a b : α → Bool) : ∀ l : List α, (l.filter a).length = (l.filter fun x => a x && b x).length + (l.filter fun x => a x && !b x).length
  | [] => rfl
  | x :: l => by
    have ih := split_len a b l
    cases ha : a x <;> cases hb : b x <;> simp [List.filter_cons, ha, hb] <;> omega
theorem cnt_next (room : Room) (s : Nat) : cnt room s = (joinList room s).length + cnt room (nextRound room s) := by
  unfold cnt joinList
  rw [split_len (fun p => !s.testBit p) (fun p => canJoin room s p)]
  congr 2
  apply List.filter_congr
  intro p hp
  have hp' : p < playerCount room := List.mem_range.mp hp
  rw [nextRound_tb]
  cases s.testBit p <;> cases canJoin room s p <;> simp [hp']
theorem cnt_lt {room : Room} {s : Nat} (h : joinList room s ≠ []) : cnt room (nextRound room s) < cnt room s := by
  have := cnt_next room s
  have : 0 < (joinList room s).length := List.length_pos_iff.mpr h
  omega
theorem closed_steps {room : Room} {s : Nat} (h : s < 2 ^ playerCount room) (e : joinList room s = []) : ∀ f, stepsFrom room f s = [] ∧ closureFrom room f s = s
  | 0 => ⟨rfl, rfl⟩
  | f + 1 => by
    rw [stepsFrom_succ]
    show _ ∧ closureFrom room f (nextRound room s) = s
    rw [joinList_nil_next h e]
    have := closed_steps h e f
    unfold roundOf
    rw [e]
    exact ⟨this.1, this.2⟩
theorem fuel {room : Room} : ∀ (f g s : Nat), s < 2 ^ playerCount room → cnt room s ≤ f → cnt room s ≤ g → stepsFrom room f s = stepsFrom room g s ∧ closureFrom room f s = closureFrom room g s
  | f, g, s, hs, hf, hg => by
    by_cases e : joinList room s = []
    · have a := closed_steps hs e f
      have b := closed_steps hs e g
      exact ⟨a.1.trans b.1.symm, a.2.trans b.2.symm⟩
    · have := cnt_lt e
      cases f with
      | zero => omega
      | succ f =>
        cases g with
        | zero => omega
        | succ g =>
          have ih := fuel f g (nextRound room s) (nextRound_lt room s) (by omega) (by omega)
          rw [stepsFrom_succ, stepsFrom_succ]
          exact ⟨by rw [ih.1], ih.2⟩
theorem steps_unfold {room : Room} {s : Nat} (hs : s < 2 ^ playerCount room) : substitutionSteps room s = roundOf room s ++ substitutionSteps room (nextRound room s) := by
  have := (fuel (playerCount room) (playerCount room + 1) s hs (cnt_le ..) (Nat.le_succ_of_le (cnt_le ..))).1
  unfold substitutionSteps
  rw [this, stepsFrom_succ]
theorem acting_next {room : Room} {s : Nat} (hs : s < 2 ^ playerCount room) : actingCoalition room (nextRound room s) = actingCoalition room s := by
  have := (fuel (playerCount room) (playerCount room + 1) s hs (cnt_le ..) (Nat.le_succ_of_le (cnt_le ..))).2
  unfold actingCoalition
  rw [this]; rfl
theorem steps_closed {room : Room} {s : Nat} (h : s < 2 ^ playerCount room) (e : joinList room s = []) : substitutionSteps room s = [] := (closed_steps h e _).1
theorem acting_closed {room : Room} {s : Nat} (h : s < 2 ^ playerCount room) (e : joinList room s = []) : actingCoalition room s = s := (closed_steps h e _).2
theorem suff_next {room : Room} {s : Nat} (hs : s < 2 ^ playerCount room) : isSufficient room (nextRound room s) = isSufficient room s := by
  unfold isSufficient; rw [acting_next hs]
theorem suff_closed {room : Room} {s : Nat} (hs : s < 2 ^ playerCount room) (e : nextRound room s = s) : isSufficient room s = (s == everyone room) := by
  unfold isSufficient; rw [acting_closed hs (next_eq_nil e)]
theorem everyone_lt (room : Room) : everyone room < 2 ^ playerCount room := by
  have : 0 < 2 ^ room.players.length := Nat.two_pow_pos _
  exact Nat.sub_lt this (by decide)
theorem le_everyone {room : Room} {s : Nat} : s ≤ everyone room ↔ s < 2 ^ playerCount room := by
  have : 0 < 2 ^ room.players.length := Nat.two_pow_pos _
  show s ≤ 2 ^ room.players.length - 1 ↔ s < 2 ^ room.players.length
  generalize 2 ^ room.players.length = z at this ⊢
  omega
theorem bitsOf_ge : ∀ (l : List Nat) (s : Nat), s ≤ bitsOf l s
  | [], _ => Nat.le_refl _
  | p :: l, s => Nat.le_trans Nat.left_le_or (bitsOf_ge l _)
theorem next_ge {room : Room} {s : Nat} (hs : s < 2 ^ playerCount room) : s ≤ nextRound room s := by
  rw [nextRound_bits hs]; exact bitsOf_ge ..
theorem suff_everyone (room : Room) : isSufficient room (everyone room) = true := by
  have h := everyone_lt room
  have e : nextRound room (everyone room) = everyone room := Nat.le_antisymm (le_everyone.mpr (nextRound_lt ..)) (next_ge h)
  rw [suff_closed h e]; simp
/-- the steps' players, joined, are who act -/
theorem bitsOf_app (a b : List Nat) (s : Nat) : bitsOf (a ++ b) s = bitsOf b (bitsOf a s) := List.foldl_append
theorem roundOf_fst (room : Room) (s : Nat) : (roundOf room s).map (·.1) = joinList room s := by
  unfold roundOf
  rw [List.map_map]
  exact List.map_id'' (fun _ => rfl) _
theorem steps_joined {room : Room} : ∀ (f s : Nat), s < 2 ^ playerCount room → bitsOf ((stepsFrom room f s).map (·.1)) s = closureFrom room f s
  | 0, s, _ => rfl
  | f + 1, s, hs => by
    rw [stepsFrom_succ, List.map_append, bitsOf_app, roundOf_fst, ← nextRound_bits hs]
    exact steps_joined f _ (nextRound_lt ..)

/-! ### the chosen rules -/
def chooseStep (s : Nat) (acc : List (Nat × Nat)) (u : Rule × Nat) : List (Nat × Nat) :=
  if (!s.testBit u.1.absent && !acc.any (fun x => x.1 == u.1.absent)) && isRuleEnabled s u.1 then acc ++ [(u.1.absent, u.2 + 1)] else acc
def chosenOf (s : Nat) (l : List (Rule × Nat)) : List (Nat × Nat) := l.foldl (chooseStep s) []
theorem chosenOf_snoc (s : Nat) (l : List (Rule × Nat)) (u : Rule × Nat) : chosenOf s (l ++ [u]) = chooseStep s (chosenOf s l) u := by
  unfold chosenOf; rw [List.foldl_append]; rfl
theorem chosen_inv (s : Nat) (l : List (Rule × Nat)) : ((chosenOf s l).map (·.1)).Nodup ∧
    (∀ p, (chosenOf s l).lookup p = if s.testBit p then none else (l.find? fun u => u.1.absent == p && isRuleEnabled s u.1).map fun u => u.2 + 1) := by
  suffices H : ∀ m : List (Rule × Nat), ((chosenOf s m.reverse).map (·.1)).Nodup ∧
    (∀ p, (chosenOf s m.reverse).lookup p = if s.testBit p then none else (m.reverse.find? fun u => u.1.absent == p && isRuleEnabled s u.1).map fun u => u.2 + 1) by
    have := H l.reverse
    rw [List.reverse_reverse] at this
    exact this
  intro m
  have look : ∀ (a : List (Nat × Nat)) (k v p : Nat), (a ++ [(k, v)]).lookup p = (a.lookup p).or (if p == k then some v else none) := by
    intro a k v p
    rw [List.lookup_append]
    congr 1
    simp only [List.lookup_cons, List.lookup_nil]
    cases p == k <;> rfl
  have anyk : ∀ (a : List (Nat × Nat)) (p : Nat), a.any (fun x => x.1 == p) = (a.lookup p).isSome := by
    intro a p
    induction a with
    | nil => rfl
    | cons x a ih =>
      obtain ⟨k, v⟩ := x
      rw [List.any_cons, List.lookup_cons, ih]
      by_cases e : k = p
      · subst e; simp
      · have e1 : (k == p) = false := by simpa using e
        have e2 : (p == k) = false := by simpa using fun z => e z.symm
        simp [e1, e2]
  induction m with
  | nil => exact ⟨List.nodup_nil, fun p => by simp [chosenOf]⟩
  | cons u m ih =>
    rw [List.reverse_cons, chosenOf_snoc]
    obtain ⟨ih1, ih2⟩ := ih
    generalize hacc : chosenOf s m.reverse = acc at ih1 ih2 ⊢
    unfold chooseStep
    rw [anyk]
    cases hc : (!s.testBit u.1.absent && !(acc.lookup u.1.absent).isSome && isRuleEnabled s u.1) with
    | true =>
      rw [if_pos rfl]
      simp only [Bool.and_eq_true, Bool.not_eq_true'] at hc
      obtain ⟨⟨h1, h2⟩, h3⟩ := hc
      have h4 : acc.lookup u.1.absent = none := by
        cases q : acc.lookup u.1.absent with
        | none => rfl
        | some v => rw [q] at h2; cases h2
      constructor
      · rw [List.map_append, List.nodup_append]
        refine ⟨ih1, by simp, ?_⟩
        intro a ha b hb e
        simp at hb
        subst hb
        subst e
        have h5 : acc.any (fun x => x.1 == u.1.absent) = true := by
          rw [List.any_eq_true]
          obtain ⟨x, hx, e⟩ := List.mem_map.mp ha
          exact ⟨x, hx, by simp [e]⟩
        rw [anyk, h4] at h5
        cases h5
      · intro p
        rw [look, List.find?_append]
        by_cases e : u.1.absent = p
        · subst e
          have hp := ih2 u.1.absent
          rw [h4, h1] at hp
          rw [h4, h1]
          cases hf : (m.reverse.find? fun v => v.1.absent == u.1.absent && isRuleEnabled s v.1) with
          | some v => rw [hf] at hp; cases hp
          | none => simp [h3]
        · have e1 : (p == u.1.absent) = false := by simpa using fun z => e z.symm
          have e2 : (u.1.absent == p) = false := by simpa using e
          have e3 : ([u].find? fun v => v.1.absent == p && isRuleEnabled s v.1) = none := by simp [e2]
          rw [e3, Option.or_none, ← ih2 p, e1]
          simp
    | false =>
      rw [if_neg Bool.false_ne_true]
      refine ⟨ih1, fun p => ?_⟩
      rw [List.find?_append, ih2 p]
      cases hs : s.testBit p with
      | true => rfl
      | false =>
        cases hf : (m.reverse.find? fun v => v.1.absent == p && isRuleEnabled s v.1) with
        | some v => rfl
        | none =>
          have e3 : ([u].find? fun v => v.1.absent == p && isRuleEnabled s v.1) = none := by
            by_cases e : u.1.absent = p
            · subst e
              have hp := ih2 u.1.absent
              rw [hs, hf] at hp
              have h4 : acc.lookup u.1.absent = none := hp
              rw [h4, hs] at hc
              have h5 : isRuleEnabled s u.1 = false := by simpa using hc
              simp [h5]
            · have e2 : (u.1.absent == p) = false := by simpa using e
              simp [e2]
          rw [e3]
          rfl
theorem any_zip {α : Type} (f : α → Bool) : ∀ (l : List α) (i : Nat), (l.zipIdx i).any (fun u => f u.1) = l.any f
  | [], _ => rfl
  | x :: l, i => by rw [List.zipIdx_cons, List.any_cons, List.any_cons, any_zip f l]
theorem find_zip (s p : Nat) (room : Room) : (room.rules.zipIdx.find? fun u => u.1.absent == p && isRuleEnabled s u.1).isSome = canJoin room s p := by
  rw [Bool.eq_iff_iff, List.find?_isSome]
  unfold canJoin
  rw [← any_zip (fun u : Rule => u.absent == p && isRuleEnabled s u) room.rules 0, List.any_eq_true]
theorem chosen_mem {s : Nat} {room : Room} {p : Nat} : p ∈ (chosenOf s room.rules.zipIdx).map (·.1) ↔ (s.testBit p = false ∧ canJoin room s p = true) := by
  have hk : ∀ (a : List (Nat × Nat)), p ∈ a.map (·.1) ↔ (a.lookup p).isSome = true := by
    intro a
    induction a with
    | nil => simp
    | cons x a ih =>
      obtain ⟨k, v⟩ := x
      rw [List.lookup_cons, List.map_cons, List.mem_cons, ih]
      by_cases e : p = k
      · subst e; simp
      · have e2 : (p == k) = false := by simpa using e
        simp [e2, e]
  rw [hk, (chosen_inv s _).2 p]
  have hz := find_zip s p room
  cases s.testBit p <;> simp [hz]
theorem chosen_perm {s : Nat} {room : Room} (w : WF room) : ((chosenOf s room.rules.zipIdx).map (·.1)).Perm (joinList room s) := by
  rw [List.perm_ext_iff_of_nodup (chosen_inv s _).1 (joinList_nodup ..)]
  intro p
  rw [chosen_mem]
  unfold joinList
  rw [List.mem_filter, List.mem_range]
  constructor
  · rintro ⟨a, b⟩
    exact ⟨canJoin_lt w b, by simp [a, b]⟩
  · rintro ⟨a, b⟩
    simpa using b
theorem chosen_lookup {s : Nat} {room : Room} {p : Nat} (h : p ∈ joinList room s) : (chosenOf s room.rules.zipIdx).lookup p = some (ruleFor room s p + 1) := by
  unfold joinList at h
  rw [List.mem_filter] at h
  have h2 := h.2
  simp at h2
  rw [(chosen_inv s _).2 p, h2.1]
  have h3 : p ∈ (chosenOf s room.rules.zipIdx).map (·.1) := chosen_mem.mpr h2
  unfold ruleFor
  cases hf : (room.rules.zipIdx.find? fun u => u.1.absent == p && isRuleEnabled s u.1) with
  | some v => simp
  | none =>
    have := find_zip s p room
    rw [hf, h2.2] at this
    cases this
end SI

namespace SI
open Vbndam

/-! ### flags -/
def flagsOf (room : Room) (f : Nat → Bool) : List Bool := (List.range (2 ^ playerCount room)).map f
def flagsAt (room : Room) (k : Nat) : List Bool := flagsOf room fun j => decide (k ≤ j) && isSufficient room j
theorem flagsOf_len (room : Room) (f : Nat → Bool) : (flagsOf room f).length = 2 ^ playerCount room := by simp [flagsOf]
theorem flagsOf_get {room : Room} {f : Nat → Bool} {s : Nat} (h : s < 2 ^ playerCount room) : (flagsOf room f)[s]? = some (f s) := by
  unfold flagsOf
  rw [List.getElem?_map, List.getElem?_range h]; rfl
theorem pow_eq (room : Room) : 2 ^ playerCount room = everyone room + 1 := by
  have : 0 < 2 ^ room.players.length := Nat.two_pow_pos _
  exact (Nat.sub_add_cancel this).symm
theorem flags_start (room : Room) : flagsAt room (everyone room) = List.replicate (everyone room) false ++ [true] := by
  unfold flagsAt flagsOf
  rw [pow_eq, List.range_succ, List.map_append]
  congr 1
  · rw [List.eq_replicate_iff]
    refine ⟨by simp, fun b hb => ?_⟩
    obtain ⟨j, hj, rfl⟩ := List.mem_map.mp hb
    have : ¬ everyone room ≤ j := Nat.not_le.mpr (List.mem_range.mp hj)
    simp [this]
  · simp [suff_everyone]
theorem flags_step {room : Room} {c : Nat} (h : c < everyone room) : (flagsAt room (c + 1)).set c (decide (c + 1 ≤ nextRound room c) && isSufficient room (nextRound room c)) = flagsAt room c := by
  have hc : c < 2 ^ playerCount room := by rw [pow_eq]; omega
  apply List.ext_getElem?
  intro i
  rw [List.getElem?_set]
  have hl : (flagsAt room (c + 1)).length = 2 ^ playerCount room := flagsOf_len ..
  by_cases hi : i < 2 ^ playerCount room
  · have g1 : (flagsAt room c)[i]? = some (decide (c ≤ i) && isSufficient room i) := flagsOf_get hi
    have g2 : (flagsAt room (c + 1))[i]? = some (decide (c + 1 ≤ i) && isSufficient room i) := flagsOf_get hi
    rw [g1, g2, hl]
    by_cases e : c = i
    · subst e
      rw [if_pos rfl, if_pos hi]
      have hge := next_ge hc
      by_cases en : nextRound room c = c
      · have h1 : isSufficient room c = false := by
          rw [suff_closed hc en]
          have : c ≠ everyone room := by omega
          simpa using this
        rw [en, h1]; simp
      · have : c + 1 ≤ nextRound room c := Nat.lt_of_le_of_ne hge (Ne.symm en)
        rw [suff_next hc]
        simp [this]
    · rw [if_neg e]
      by_cases h2 : c ≤ i
      · have : c + 1 ≤ i := by omega
        simp [h2, this]
      · have : ¬ c + 1 ≤ i := by omega
        simp [h2, this]
  · have a1 : (flagsAt room c)[i]? = none := List.getElem?_eq_none (by rw [show (flagsAt room c).length = 2 ^ playerCount room from flagsOf_len ..]; omega)
    have a2 : (flagsAt room (c + 1))[i]? = none := List.getElem?_eq_none (by rw [hl]; omega)
    rw [a1, a2]
    have : ¬ c = i := by omega
    simp [this]
theorem flags_end (room : Room) : flagsAt room 0 = flagsOf room (isSufficient room) := by
  unfold flagsAt; congr 1

/-! ### bits by taking away -/
theorem sub_pow {s p : Nat} (h : s.testBit p = true) : s - 2 ^ p = s ^^^ 2 ^ p := by
  have t : (s ^^^ 2 ^ p).testBit p = false := by rw [Nat.testBit_xor, Nat.testBit_two_pow_self, h]; rfl
  have e := add_pow_or _ p t
  have : (s ^^^ 2 ^ p) ||| 2 ^ p = s := by
    apply Nat.eq_of_testBit_eq
    intro q
    rw [Nat.testBit_or, Nat.testBit_xor, Nat.testBit_two_pow]
    by_cases e : p = q
    · subst e; simp [h]
    · simp [e]
  rw [this] at e
  omega
theorem sub_pow_lt {s p n : Nat} (h : s < 2 ^ n) : s - 2 ^ p < 2 ^ n := Nat.lt_of_le_of_lt (Nat.sub_le ..) h
theorem and_pow (s p : Nat) : (s &&& 2 ^ p != 0) = s.testBit p := by
  have : s &&& 2 ^ p = if s.testBit p then 2 ^ p else 0 := by
    apply Nat.eq_of_testBit_eq
    intro q
    rw [Nat.testBit_and, Nat.testBit_two_pow]
    by_cases e : p = q
    · subst e; cases h : s.testBit p <;> simp
    · cases h : s.testBit p <;> simp [e, Nat.testBit_two_pow]
  rw [this]
  have h2 : 2 ^ p ≠ 0 := Nat.ne_of_gt (Nat.two_pow_pos p)
  cases s.testBit p <;> simp
theorem membersOf_mem {n s p : Nat} : p ∈ membersOf n s ↔ p < n ∧ s.testBit p = true := by
  unfold membersOf; rw [List.mem_filter, List.mem_range, mem_tb]

def powers : List Nat := (List.range 9).map fun p => 2 ^ p
/-- is_minimal over flags -/
def isMin (flags : List Bool) (c : Nat) : Bool := (flags[c]?).getD false && powers.all fun w => !((c &&& w != 0) && (flags[c - w]?).getD false)
theorem isMin_eq {room : Room} (w : WF room) (f : Nat → Bool) {c : Nat} (h : c < 2 ^ playerCount room) :
    isMin (flagsOf room f) c = (f c && (membersOf (playerCount room) c).all fun p => !f (c - 2 ^ p)) := by
  unfold isMin powers
  rw [flagsOf_get h, List.all_map]
  simp only [Option.getD_some]
  congr 1
  rw [Bool.eq_iff_iff, List.all_eq_true, List.all_eq_true]
  constructor
  · intro H p hp
    rw [membersOf_mem] at hp
    have := H p (List.mem_range.mpr (by have := w.le8; have := hp.1; unfold playerCount at this; omega))
    simp only [Function.comp] at this
    rw [and_pow, hp.2, flagsOf_get (sub_pow_lt h)] at this
    simpa using this
  · intro H p hp
    simp only [Function.comp]
    rw [and_pow]
    cases hb : c.testBit p with
    | false => rfl
    | true =>
      have := H p (membersOf_mem.mpr ⟨tb_lt h hb, hb⟩)
      rw [flagsOf_get (sub_pow_lt h)]
      simpa using this
def minOfFlags (flags : List Bool) : List Nat := (List.range flags.length).filter (isMin flags)
theorem minimal_eq {room : Room} (w : WF room) (f : Nat → Bool) : minOfFlags (flagsOf room f) = minimalCoalitions room f := by
  unfold minOfFlags minimalCoalitions allCoalitions
  rw [flagsOf_len]
  apply List.filter_congr
  intro c hc
  exact isMin_eq w f (List.mem_range.mp hc)
theorem and_sub {c s p : Nat} (h : s &&& c = 0) (hp : s.testBit p = true) : (s - 2 ^ p) &&& c = 0 := by
  rw [sub_pow hp]
  apply Nat.eq_of_testBit_eq
  intro q
  have := congrArg (fun z => z.testBit q) h
  simp only [Nat.testBit_and, Nat.zero_testBit] at this
  rw [Nat.testBit_and, Nat.testBit_xor, Nat.testBit_two_pow, Nat.zero_testBit]
  by_cases e : p = q
  · subst e; simp [hp] at this ⊢
    
  · simp [e]; simpa using this
theorem returns_eq {room : Room} (w : WF room) (c : Nat) : minOfFlags (flagsOf room fun o => (o &&& c == 0) && isSufficient room (o ||| c)) = minimalReturns room c := by
  rw [minimal_eq w]
  unfold minimalReturns minimalCoalitions
  rw [List.filter_filter]
  apply List.filter_congr
  intro s hs
  cases hz : (s &&& c == 0) with
  | false =>
    have : (c &&& s == 0) = false := by rw [Nat.and_comm]; exact hz
    show (((s &&& c == 0) && isSufficient room (s ||| c)) && _) = ((c &&& s == 0) && _)
    rw [this, hz]; rfl
  | true =>
    have : (c &&& s == 0) = true := by rw [Nat.and_comm]; exact hz
    show (((s &&& c == 0) && isSufficient room (s ||| c)) && _) = ((c &&& s == 0) && (isSufficient room (c ||| s) && _))
    rw [this, hz, Nat.or_comm s c, Bool.true_and, Bool.true_and]
    congr 1
    rw [Bool.eq_iff_iff, List.all_eq_true, List.all_eq_true]
    have key : ∀ p ∈ membersOf (playerCount room) s, ((s - 2 ^ p) &&& c == 0) = true := fun p hp => by
      rw [membersOf_mem] at hp
      have h0 : s &&& c = 0 := by simpa using hz
      rw [and_sub h0 hp.2]; rfl
    constructor
    · intro H p hp
      have := H p hp
      simp only [key p hp, Bool.true_and, Nat.or_comm _ c] at this
      exact this
    · intro H p hp
      have := H p hp
      simp only [key p hp, Bool.true_and, Nat.or_comm _ c]
      exact this
/-- the flags from the other end -/
theorem rev_flags (room : Room) (f : Nat → Bool) : (flagsOf room f).reverse = flagsOf room fun s => f (everyone room - s) := by
  apply List.ext_getElem?
  intro i
  by_cases hi : i < 2 ^ playerCount room
  · rw [List.getElem?_reverse (by rw [flagsOf_len]; exact hi), flagsOf_get hi, flagsOf_len]
    rw [flagsOf_get (by omega), pow_eq]
    congr 2
    try omega
  · rw [List.getElem?_eq_none (by rw [List.length_reverse, flagsOf_len]; omega), List.getElem?_eq_none (by rw [flagsOf_len]; omega)]
theorem blocking_eq (room : Room) : ((flagsOf room (isSufficient room)).reverse.map fun b => !b) = flagsOf room (isBlocking room) := by
  rw [rev_flags]
  unfold flagsOf
  rw [List.map_map]
  rfl
end SI

namespace SI
open Vbndam

/-! ### weights -/
theorem sum_fold (l : List Nat) : ∀ a : Nat, ((l.foldl (fun a b => a + b) a : Nat) : Int) = (a : Int) + (l.map fun n : Nat => (n : Int)).sum := by
  induction l with
  | nil => intro a; simp
  | cons x l ih => intro a; rw [List.foldl_cons, ih, List.map_cons, List.sum_cons]; omega
theorem sum_fold0 (l : List Nat) : ((l.foldl (fun a b => a + b) 0 : Nat) : Int) = (l.map fun n : Nat => (n : Int)).sum := by rw [sum_fold]; omega
theorem sumList_cast (l : List Nat) : ((sumList l : Nat) : Int) = (l.map fun n : Nat => (n : Int)).sum := by
  unfold sumList
  induction l with
  | nil => rfl
  | cons x l ih => rw [List.foldr_cons, List.map_cons, List.sum_cons, ← ih]; omega
theorem zip_members {α : Type} (f : α → Nat) (g : Nat → Bool) : ∀ (l : List α) (i : Nat), ((List.range' i l.length).filter g).map (fun p => ((l[p - i]?).map f).getD 0) = ((l.zipIdx i).filter fun u => g u.2).map fun u => f u.1
  | [], i => rfl
  | x :: l, i => by
    have ih := zip_members f g l (i + 1)
    have e : ((List.range' (i + 1) l.length).filter g).map (fun p => (((x :: l)[p - i]?).map f).getD 0) = ((List.range' (i + 1) l.length).filter g).map (fun p => ((l[p - (i + 1)]?).map f).getD 0) := by
      apply List.map_congr_left
      intro p hp
      have : i + 1 ≤ p := (List.mem_range'_1.mp (List.mem_filter.mp hp).1).1
      have e2 : p - i = (p - (i + 1)) + 1 := by omega
      rw [e2]; rfl
    rw [List.length_cons, List.range'_succ, List.zipIdx_cons, List.filter_cons, List.filter_cons]
    show List.map _ (if g i = true then _ else _) = List.map _ (if g i = true then _ else _)
    cases g i with
    | true =>
      simp only [if_true, List.map_cons]
      rw [e, ih]
      simp
    | false =>
      simp only [Bool.false_eq_true, if_false]
      rw [e, ih]
theorem weight_eq (room : Room) (s : Nat) : ((coalitionWeight room s : Nat) : Int) = ((room.players.zipIdx.filter fun u => s.testBit u.2).map fun u => (u.1.weight : Int)).sum := by
  unfold coalitionWeight membersOf
  rw [sum_fold0]
  have e : (List.range (playerCount room)).filter (isMember s) = (List.range' 0 room.players.length).filter fun p => s.testBit p := by
    rw [List.range_eq_range']
    apply List.filter_congr
    intro p _
    exact mem_tb s p
  rw [e]
  have := zip_members (fun x : Player => x.weight) (fun p => s.testBit p) room.players 0
  simp only [Nat.sub_zero] at this
  rw [this, List.map_map]
  rfl

/-! ### the cheapest -/
def suffs (room : Room) : List Nat := (allCoalitions room).filter (isSufficient room)
theorem suffs_ne (room : Room) : everyone room ∈ suffs room := by
  unfold suffs allCoalitions
  rw [List.mem_filter, List.mem_range]
  exact ⟨everyone_lt room, suff_everyone room⟩
def cheapFold (room : Room) (c : Nat) (l : List Nat) : Nat := l.foldl (fun c s => if coalitionWeight room s < coalitionWeight room c then s else c) c
theorem fold_some (room : Room) : ∀ (l : List Nat) (c : Nat), l.foldl (fun (b : Option Coalition) s => match b with
  | none => some s
  | some c => if coalitionWeight room s < coalitionWeight room c then some s else b) (some c) = some (cheapFold room c l)
  | [], c => rfl
  | s :: l, c => by
    unfold cheapFold
    rw [List.foldl_cons, List.foldl_cons]
    show List.foldl _ (if coalitionWeight room s < coalitionWeight room c then some s else some c) l = _
    by_cases h : coalitionWeight room s < coalitionWeight room c
    · rw [if_pos h, if_pos h]; exact fold_some room l s
    · rw [if_neg h, if_neg h]; exact fold_some room l c
theorem cheapest_cons {room : Room} {c : Nat} {l : List Nat} (h : suffs room = c :: l) : cheapestSufficient room = cheapFold room c l := by
  unfold cheapestSufficient
  have : (allCoalitions room).filter (isSufficient room) = c :: l := h
  rw [this, List.foldl_cons]
  exact congrArg (fun o => Option.getD o (everyone room)) (fold_some room l c)
/-- by weight, then by number -/
def ltWC (p q : Int × Int) : Bool := if p.1 = q.1 then decide (p.2 < q.2) else decide (p.1 < q.1)
def wc (room : Room) (c : Nat) : Int × Int := ((coalitionWeight room c : Nat), (c : Nat))
theorem min_cheap (room : Room) : ∀ (l : List Nat) (c : Nat), (∀ s ∈ l, c < s) → l.Pairwise (· < ·) →
    (l.map (wc room)).foldl (fun a y => if ltWC y a = true then y else a) (wc room c) = wc room (cheapFold room c l)
  | [], c, _, _ => rfl
  | s :: l, c, hc, hp => by
    unfold cheapFold
    rw [List.map_cons, List.foldl_cons, List.foldl_cons]
    have hcs := hc s List.mem_cons_self
    rw [List.pairwise_cons] at hp
    by_cases h : coalitionWeight room s < coalitionWeight room c
    · have e : ltWC (wc room s) (wc room c) = true := by
        unfold ltWC wc
        dsimp only
        rw [if_neg (by omega)]
        simpa using h
      rw [e, if_pos rfl, if_pos h]
      exact min_cheap room l s hp.1 hp.2
    · have e : ltWC (wc room s) (wc room c) = false := by
        unfold ltWC wc
        dsimp only
        split
        · simp; omega
        · simp; omega
      rw [e, if_neg (by decide), if_neg h]
      exact min_cheap room l c (fun x hx => hc x (List.mem_cons_of_mem _ hx)) hp.2
theorem suffs_sorted (room : Room) : (suffs room).Pairwise (· < ·) := List.pairwise_lt_range.sublist List.filter_sublist

/-! ### sizes, swings, chances -/
def sizeOf' (s : Nat) : Nat := (powers.filter fun w => s &&& w != 0).length
theorem size_eq {room : Room} (w : WF room) {s : Nat} (h : s < 2 ^ playerCount room) : sizeOf' s = coalitionSize room s := by
  unfold sizeOf' coalitionSize membersOf powers
  rw [List.filter_map, List.length_map]
  have e : (fun w => s &&& w != 0) ∘ (fun p => 2 ^ p) = fun p => s.testBit p := by funext p; exact and_pow s p
  rw [e]
  have e2 : (List.range (playerCount room)).filter (isMember s) = (List.range (playerCount room)).filter fun p => s.testBit p := by
    apply List.filter_congr; intro p _; exact mem_tb s p
  rw [e2]
  have hn : playerCount room ≤ 9 := by have := w.le8; unfold playerCount; omega
  obtain ⟨k, hk⟩ := Nat.exists_eq_add_of_le hn
  rw [hk, List.range_add, List.filter_append, List.length_append]
  have : ((List.range k).map fun x => playerCount room + x).filter (fun p => s.testBit p) = [] := by
    rw [List.filter_eq_nil_iff]
    intro p hp hb
    obtain ⟨x, _, rfl⟩ := List.mem_map.mp hp
    have := tb_lt h hb
    omega
  rw [this]; rfl
theorem size_le {room : Room} (s : Nat) : coalitionSize room s ≤ playerCount room := by
  unfold coalitionSize membersOf
  exact Nat.le_trans (List.length_filter_le ..) (by rw [List.length_range]; exact Nat.le_refl _)
theorem swings_eq (room : Room) (p : Nat) : swings room p = (List.range (2 ^ playerCount room)).filter fun s => !s.testBit p && (!isSufficient room s && isSufficient room (s + 2 ^ p)) := by
  unfold swings allCoalitions
  apply List.filter_congr
  intro s _
  rw [mem_tb]
theorem add_pow_lt {room : Room} {s p : Nat} (h : s < 2 ^ playerCount room) (hp : p < playerCount room) (hb : s.testBit p = false) : s + 2 ^ p < 2 ^ playerCount room := by
  rw [add_pow_or s p hb]
  exact Nat.or_lt_two_pow h (Nat.pow_lt_pow_right (by decide) hp)
theorem size_swing {room : Room} {s p : Nat} (hp : p < playerCount room) (hb : s.testBit p = false) : coalitionSize room s ≤ playerCount room - 1 := by
  unfold coalitionSize membersOf
  have h1 := split_len (fun q => isMember s q) (fun q => q != p) (List.range (playerCount room))
  have h2 : ((List.range (playerCount room)).filter fun q => !isMember s q).length + ((List.range (playerCount room)).filter (isMember s)).length = playerCount room := by
    have := split_len (fun _ => true) (isMember s) (List.range (playerCount room))
    simp only [Bool.true_and] at this
    rw [List.filter_eq_self.mpr (fun _ _ => rfl), List.length_range] at this
    have e : ((List.range (playerCount room)).filter fun x => isMember s x).length = ((List.range (playerCount room)).filter (isMember s)).length := rfl
    omega
  have h3 : 0 < ((List.range (playerCount room)).filter fun q => !isMember s q).length := by
    apply List.length_pos_iff.mpr
    intro e
    rw [List.filter_eq_nil_iff] at e
    have := e p (List.mem_range.mpr hp)
    rw [mem_tb, hb] at this
    simp at this
  omega
/-- sums of products -/
theorem orders_eq {room : Room} (w : WF room) {p : Nat} (hp : p < playerCount room) : ((pivotalOrderCount room p : Nat) : Int) =
    ((swings room p).map fun s => ((factorial (sizeOf' s) : Nat) : Int) * ((factorial (playerCount room - 1 - sizeOf' s) : Nat) : Int)).sum := by
  unfold pivotalOrderCount
  rw [sum_fold0, List.map_map]
  congr 1
  apply List.map_congr_left
  intro s hs
  have hs' : s < 2 ^ playerCount room := by
    rw [swings_eq] at hs
    exact List.mem_range.mp (List.mem_filter.mp hs).1
  rw [size_eq w hs']
  show (((_ * _ : Nat)) : Int) = _
  rw [show playerCount room - coalitionSize room s - 1 = playerCount room - 1 - coalitionSize room s by omega]
  exact Int.natCast_mul ..
/-- counting by size -/
def countStep (acc : List Nat) (k : Nat) : List Nat := acc.set k (acc.getD k 0 + 1)
theorem counts_fold (n : Nat) (g : Nat → Nat) : ∀ (l : List Nat) (f : Nat → Nat), (∀ s ∈ l, g s ≤ n) →
    (l.map g).foldl countStep ((List.range (n + 1)).map f) = (List.range (n + 1)).map fun k => f k + (l.filter fun s => g s == k).length
  | [], f, _ => by simp
  | s :: l, f, h => by
    rw [List.map_cons, List.foldl_cons]
    have hs := h s List.mem_cons_self
    have e : countStep ((List.range (n + 1)).map f) (g s) = (List.range (n + 1)).map fun k => if g s = k then f k + 1 else f k := by
      unfold countStep
      apply List.ext_getElem?
      intro i
      rw [List.getElem?_set]
      have hd : ((List.range (n + 1)).map f).getD (g s) 0 = f (g s) := by
        rw [List.getD_eq_getElem?_getD, List.getElem?_map, List.getElem?_range (by omega)]; rfl
      rw [hd]
      by_cases hi : i < n + 1
      · rw [List.getElem?_map, List.getElem?_map, List.getElem?_range hi]
        by_cases e : g s = i
        · subst e; simp [hs]; omega
        · simp [e]
      · have : ¬ g s = i := by omega
        simp [this]
        have : n + 1 ≤ i := by omega
        rw [List.getElem?_eq_none (by simp; omega)]; rfl
    rw [e, counts_fold n g l _ fun x hx => h x (List.mem_cons_of_mem _ hx)]
    apply List.map_congr_left
    intro k _
    by_cases e : g s = k
    · subst e; simp; omega
    · have : (g s == k) = false := by simpa using e
      simp [e, this]
theorem counts_eq {room : Room} (w : WF room) : ((suffs room).map sizeOf').foldl countStep (List.replicate (playerCount room + 1) 0) = (List.range (playerCount room + 1)).map (sufficientCountOfSize room) := by
  have e0 : List.replicate (playerCount room + 1) 0 = (List.range (playerCount room + 1)).map fun _ => 0 := by
    symm
    rw [List.eq_replicate_iff]
    exact ⟨by simp, fun b hb => by obtain ⟨_, _, rfl⟩ := List.mem_map.mp hb; rfl⟩
  have hlt : ∀ s ∈ suffs room, s < 2 ^ playerCount room := fun s hs => List.mem_range.mp (List.mem_filter.mp hs).1
  rw [e0, counts_fold _ _ _ _ fun s hs => by rw [size_eq w (hlt s hs)]; exact size_le s]
  apply List.map_congr_left
  intro k _
  rw [Nat.zero_add]
  unfold sufficientCountOfSize suffs
  rw [List.filter_filter]
  congr 1
  apply List.filter_congr
  intro s hs
  rw [size_eq w (List.mem_range.mp hs)]
theorem weightSum_eq (room : Room) (a b : Nat) : ((continuationWeight room a b : Nat) : Int) = ((List.range (playerCount room + 1)).map fun k => ((sufficientCountOfSize room k * a ^ k * (b - a) ^ (playerCount room - k) : Nat) : Int)).sum := by
  unfold continuationWeight
  rw [sum_fold0, List.map_map]; rfl
/-! ### packings -/
theorem packing_eq (room : Room) (l : List (Nat × Nat)) : isPackingValid room l = (l.all (fun x => isBlocking room x.1) && room.players.zipIdx.all fun p => decide (((l.filter fun x => x.1.testBit p.2).map fun x => (x.2 : Int)).sum ≤ (p.1.weight : Int))) := by
  unfold isPackingValid
  congr 2
  funext p
  have e : (l.filter fun x => isMember x.1 p.2) = l.filter fun x => x.1.testBit p.2 := by
    apply List.filter_congr; intro x _; exact mem_tb ..
  rw [e]
  have := sumList_cast ((l.filter fun x => x.1.testBit p.2).map fun x => x.2)
  rw [List.map_map] at this
  have e2 : ((fun n : Nat => (n : Int)) ∘ fun x : Nat × Nat => x.2) = fun x => (x.2 : Int) := rfl
  rw [e2] at this
  rw [← this]
  rw [Bool.eq_iff_iff, decide_eq_true_eq, decide_eq_true_eq, Int.ofNat_le]
end SI

set_option maxHeartbeats 4000000
namespace SI
open PySem PySem.Spec PyProof.Rows L2
/-! ### the text -/
def topS (i : Nat) : Stmt := PySem.Challenge.pw_standins_s01_answers.main.body.getD i (.Pass ⟨0, 0, 0, 0⟩)
abbrev FnP (K : PySem.W.Frag) (x qual : Str) (st : Stmt) (f : Addr) (fd : FuncData) : Prop := FunD K x qual (defArgs st) (defBody st) (defScope st) [] [] f fd
/-- the class of that name -/
abbrev cl (K : PySem.W.Frag) (x : Str) : Addr := He.ga K x
/-! ### defs that may be called -/
section
variable {P : Program} {w : World} {K : PySem.W.Frag} {mg : Str → Option Value} {base : Heap}
theorem calMk {x : Str} {st : Stmt} {f : Addr} {fd : FuncData} {N ps : List Str} {k : Nat} {sp : Sp} (F : FnP K x x st f fd) (hm : mg x = some (.ref f)) (b : Binds K fd ps []) (S : FnScope N ps (defScope st))
    (len : ∀ vs H Q E, sp vs H Q E → vs.length = ps.length)
    (hb : ∀ (cdv : Value) (A : Around) (outer : List Env) (s : Shared) (H : Hp) (vs : List V) (Q : VK) (E : XK), Room k (A.deeper (envOfC x (defScope st) s.heap.objs.size f cdv)) → sp vs H Q E →
      ∃ t, PSs (cxOf L2.CX0 P w K mg base N x (defScope st) f cdv A outer s H E).nox (defBody st) t ∧ t { nx := fun _ H' => Q .non H', rt := Q } (start N vs) H) :
    C8.Cal P w K mg base (k + 1) x sp [] :=
  ⟨f, fd, ps, [], F.ok S len (fun cdv A outer s H vs Q E hr h => let ⟨t, ht, q⟩ := hb cdv A outer s H vs Q E hr h; ⟨t, ht.nox, q⟩), hm, F.kp, b, .nil⟩
/-- a method -/
theorem metMk {C : Addr} {m qual : Str} {st : Stmt} {f : Addr} {fd : FuncData} {N ps : List Str} {k : Nat} {sp : Sp} (c : Cls K C) (me : Meth K C m f) (F : FnP K m qual st f fd) (b : Binds K fd ps []) (S : FnScope N ps (defScope st))
    (len : ∀ vs H Q E, sp vs H Q E → vs.length = ps.length)
    (hb : ∀ (cdv : Value) (A : Around) (outer : List Env) (s : Shared) (H : Hp) (vs : List V) (Q : VK) (E : XK), Room k (A.deeper (envOfC qual (defScope st) s.heap.objs.size f cdv)) → sp vs H Q E →
      ∃ t, PSs (cxOf L2.CX0 P w K mg base N qual (defScope st) f cdv A outer s H E).nox (defBody st) t ∧ t { nx := fun _ H' => Q .non H', rt := Q } (start N vs) H) :
    C8.Met P w K mg base (k + 1) C m sp [] :=
  ⟨f, fd, ps, [], c, me, F.ok S len (fun cdv A outer s H vs Q E hr h => let ⟨t, ht, q⟩ := hb cdv A outer s H vs Q E hr h; ⟨t, ht.nox, q⟩), b, .nil⟩
/-- an __init__ -/
theorem makMk {C : Addr} {x qual : Str} {st : Stmt} {f : Addr} {fd : FuncData} {N ps : List Str} {k : Nat} {sp : Sp} (M : Mk K C f) (hm : mg x = some (.ref C)) (F : FnP K "__init__" qual st f fd) (b : Binds K fd ps []) (S : FnScope N ps (defScope st))
    (len : ∀ vs H Q E, sp vs H Q E → vs.length = ps.length)
    (hb : ∀ (cdv : Value) (A : Around) (outer : List Env) (s : Shared) (H : Hp) (vs : List V) (Q : VK) (E : XK), Room k (A.deeper (envOfC qual (defScope st) s.heap.objs.size f cdv)) → sp vs H Q E →
      ∃ t, PSs (cxOf L2.CX0 P w K mg base N qual (defScope st) f cdv A outer s H E).nox (defBody st) t ∧ t { nx := fun _ H' => Q .non H', rt := Q } (start N vs) H) :
    C8.Mak P w K mg base (k + 1) x C sp [] :=
  ⟨f, fd, ps, [], M, F.ok S len (fun cdv A outer s H vs Q E hr h => let ⟨t, ht, q⟩ := hb cdv A outer s H vs Q E hr h; ⟨t, ht.nox, q⟩), hm, b, .nil⟩
/-- .. that may raise -/
structure CalX (P : Program) (w : World) (K : PySem.W.Frag) (mg : Str → Option Value) (base : Heap) (k : Nat) (x : Str) (sp : Sp) : Prop where
  ex : ∃ (f : Addr) (fd : FuncData) (ps : List Str), FnOk P w K mg base (L2.CX P w) k f fd ps sp ∧ mg x = some (.ref f) ∧ PySem.W.keepIn K (.ref f) = true ∧ Binds K fd ps []
structure MetX (P : Program) (w : World) (K : PySem.W.Frag) (mg : Str → Option Value) (base : Heap) (k : Nat) (C : Addr) (m : Str) (sp : Sp) : Prop where
  ex : ∃ (f : Addr) (fd : FuncData) (ps : List Str), Cls K C ∧ Meth K C m f ∧ FnOk P w K mg base (L2.CX P w) k f fd ps sp ∧ Binds K fd ps []
theorem calXMk {x : Str} {st : Stmt} {f : Addr} {fd : FuncData} {N ps : List Str} {k : Nat} {sp : Sp} (F : FnP K x x st f fd) (hm : mg x = some (.ref f)) (b : Binds K fd ps []) (S : FnScope N ps (defScope st))
    (len : ∀ vs H Q E, sp vs H Q E → vs.length = ps.length)
    (hb : ∀ (cdv : Value) (A : Around) (outer : List Env) (s : Shared) (H : Hp) (vs : List V) (Q : VK) (E : XK), Room k (A.deeper (envOfC x (defScope st) s.heap.objs.size f cdv)) → sp vs H Q E →
      ∃ t, PSs (cxOf (L2.CX P w) P w K mg base N x (defScope st) f cdv A outer s H E) (defBody st) t ∧ t { nx := fun _ H' => Q .non H', rt := Q } (start N vs) H) :
    CalX P w K mg base (k + 1) x sp := ⟨f, fd, ps, F.ok S len hb, hm, F.kp, b⟩
theorem metXMk {C : Addr} {m qual : Str} {st : Stmt} {f : Addr} {fd : FuncData} {N ps : List Str} {k : Nat} {sp : Sp} (c : Cls K C) (me : Meth K C m f) (F : FnP K m qual st f fd) (b : Binds K fd ps []) (S : FnScope N ps (defScope st))
    (len : ∀ vs H Q E, sp vs H Q E → vs.length = ps.length)
    (hb : ∀ (cdv : Value) (A : Around) (outer : List Env) (s : Shared) (H : Hp) (vs : List V) (Q : VK) (E : XK), Room k (A.deeper (envOfC qual (defScope st) s.heap.objs.size f cdv)) → sp vs H Q E →
      ∃ t, PSs (cxOf (L2.CX P w) P w K mg base N qual (defScope st) f cdv A outer s H E) (defBody st) t ∧ t { nx := fun _ H' => Q .non H', rt := Q } (start N vs) H) :
    MetX P w K mg base (k + 1) C m sp := ⟨f, fd, ps, c, me, F.ok S len hb, b⟩
end
section
variable {X : Cx} {k j : Nat} {C : Addr} {x m : Str} {sp : Sp} {E : XK} {p pos apos : Pos} {e o : Expr} {es : List Expr} {ta : TE} {t : TA}
theorem pe_cx (c : CalX X.prog X.w X.K X.mg X.base k x sp) (hr : Room j X.A) (hk : k ≤ j) (hg : Gl X x) (hx : Passes (L2.CX X.prog X.w) X E) (ha : PA X (e :: es) t)
    (hdb : (x == ("__debug__" : Str)) = false := by decide) (he : starEach (e :: es) X.env = (false, eval e X.env) :: starEach es X.env := by rfl) (hpl : (backTo pos (starEach es X.env)).any (·.1) = false := by rfl) :
    PE X (.Call (.Name x p) (e :: es) [] pos) (tCall sp [] E t) := by
  obtain ⟨f, fd, ps, F, hm, kp, b⟩ := c.ex
  exact pe_call F (hr.mono hk) hg hm kp b .nil hx ha hdb he hpl
theorem pe_mx {pl : Sem Bool} (c : MetX X.prog X.w X.K X.mg X.base k C m sp) (hr : Room j X.A) (hk : k ≤ j) (he : PE X o ta) (hx : Passes (L2.CX X.prog X.w) X E) (ha : PA X (e :: es) t)
    (hst : starEach (e :: es) X.env = (false, eval e X.env) :: starEach es X.env := by rfl) (hpl : (backTo pos (starEach es X.env)).any (·.1) = false := by rfl)
    (ht : eval (.Call (.Attribute o m apos) (e :: es) [] pos) X.env = (do
      let ov ← eval o X.env
      standAt apos.atName
      let (f, first) ← holding [ov] (getMethod ov m pl)
      callWith pos f first (backTo pos (starEach (e :: es) X.env)) (backToKw pos (keywordEach [] X.env))) := by rfl) :
    PE X (.Call (.Attribute o m apos) (e :: es) [] pos) (tMeth C m sp [] E ta t) := by
  obtain ⟨f, fd, ps, hc, hm, F, b⟩ := c.ex
  exact pe_meth (pl := pl) he hc hm F (hr.mono hk) b .nil hx ha hst hpl ht
theorem pe_mk0 (c : C8.Mak X.prog X.w X.K X.mg X.base k x C sp []) (hr : Room j X.A) (hk : k + 1 ≤ j) (hg : Gl X x) (hdb : (x == ("__debug__" : Str)) = false := by decide) :
    PE X (.Call (.Name x p) [] [] pos) (tMake C sp [] E0 tNil) := by
  obtain ⟨f, fd, ps, ds, M, F, hm, b, d⟩ := c.ex
  exact pe_make0 M F (hr.mono hk) hg hm b d C8.pass0 hdb
end
/-! ### what the top has written -/
def NR : List (List (Int × Int)) := [[], [], [], [(0, 255)], [(0, 255)], [(0, 255)], [(0, 255)], [(0, 255)], [], [], [], [], [(0, 255)], [(0, 7)], [(0, 7)], [(0, 100), (1, 100)], [], [(1, 20)], [(0, 7), (0, 1000)], []]
/-- a tuple of two whole numbers -/
def PairK (K : PySem.W.Frag) (v : V) (q : Int × Int) : Prop := ∃ a, v = .ref a ∧ ∀ H, SqT K H a [.int q.1, .int q.2]
def PairsK (K : PySem.W.Frag) (v : V) (l : List (Int × Int)) : Prop := ∃ a vs, v = .ref a ∧ (∀ H, SqT K H a vs) ∧ Paired (PairK K) vs l
/-- a name of the top that stands for a value -/
abbrev G (mg : Str → Option Value) (x : Str) (v : V) : Prop := ∃ u, mg x = some u ∧ RelV v u
structure Txt (K : PySem.W.Frag) (mg : Str → Option Value) : Prop where
  c_Call : Cls K (cl K "Call")
  c_Player : Cls K (cl K "Player")
  c_Rule : Cls K (cl K "Rule")
  c_Room : Cls K (cl K "Room")
  c_Session : Cls K (cl K "Session")
  c_LineReader : Cls K (cl K "LineReader")
  a_number : NoAttr K (cl K "Call") "number"
  a_numbers : NoAttr K (cl K "Call") "numbers"
  a_row : NoAttr K (cl K "Call") "row"
  a_name : NoAttr K (cl K "Player") "name"
  a_weight : NoAttr K (cl K "Player") "weight"
  a_absent : NoAttr K (cl K "Rule") "absent"
  a_needed : NoAttr K (cl K "Rule") "needed"
  a_substitutes : NoAttr K (cl K "Rule") "substitutes"
  a_players : NoAttr K (cl K "Room") "players"
  a_rules : NoAttr K (cl K "Room") "rules"
  a_room : NoAttr K (cl K "Session") "room"
  a_tokens : NoAttr K (cl K "LineReader") "tokens"
  a_end : NoAttr K (cl K "LineReader") "end"
  a_position : NoAttr K (cl K "LineReader") "position"
  n_len : mg "len" = none
  n_range : mg "range" = none
  n_enumerate : mg "enumerate" = none
  n_sorted : mg "sorted" = none
  n_reversed : mg "reversed" = none
  n_sum : mg "sum" = none
  n_all : mg "all" = none
  n_min : mg "min" = none
  n_list : mg "list" = none
  n_int : mg "int" = none
  n_str : mg "str" = none
  n_ord : mg "ord" = none
  n_Exception : mg "Exception" = none
  g_NUMBER_RANGES : G mg "NUMBER_RANGES" (.ref (cl K "NUMBER_RANGES"))
  g_ROW_CALLS : G mg "ROW_CALLS" (.ref (cl K "ROW_CALLS"))
  g_TEXT_CALLS : G mg "TEXT_CALLS" (.ref (cl K "TEXT_CALLS"))
  g_STEPS_CALLS : G mg "STEPS_CALLS" (.ref (cl K "STEPS_CALLS"))
  g_PACKING_CALLS : G mg "PACKING_CALLS" (.ref (cl K "PACKING_CALLS"))
  g_COALITION_CALLS : G mg "COALITION_CALLS" (.ref (cl K "COALITION_CALLS"))
  g_PLAYER_CALLS : G mg "PLAYER_CALLS" (.ref (cl K "PLAYER_CALLS"))
  g_CHANCE_CALLS : G mg "CHANCE_CALLS" (.ref (cl K "CHANCE_CALLS"))
  g_RULE_CALLS : G mg "RULE_CALLS" (.ref (cl K "RULE_CALLS"))
  g_POWERS : G mg "POWERS" (.ref (cl K "POWERS"))
  g_ORDERS : G mg "ORDERS" (.ref (cl K "ORDERS"))
  g_RESERVED : G mg "RESERVED" (.ref (cl K "RESERVED"))
  g_OPERATIONS : G mg "OPERATIONS" (.ref (cl K "OPERATIONS"))
  t_NUMBER_RANGES : ∃ vs, (∀ H, SqT K H (cl K "NUMBER_RANGES") vs) ∧ Paired (PairsK K) vs NR
  t_ROW_CALLS : ∀ H, SqT K H (cl K "ROW_CALLS") (([0, 1, 4, 11] : List Int).map V.int)
  t_TEXT_CALLS : ∀ H, SqT K H (cl K "TEXT_CALLS") (([0, 1] : List Int).map V.int)
  t_STEPS_CALLS : ∀ H, SqT K H (cl K "STEPS_CALLS") (([4] : List Int).map V.int)
  t_PACKING_CALLS : ∀ H, SqT K H (cl K "PACKING_CALLS") (([11] : List Int).map V.int)
  t_COALITION_CALLS : ∀ H, SqT K H (cl K "COALITION_CALLS") (([3, 4, 5, 6, 7, 12] : List Int).map V.int)
  t_PLAYER_CALLS : ∀ H, SqT K H (cl K "PLAYER_CALLS") (([13, 14, 18] : List Int).map V.int)
  t_CHANCE_CALLS : ∀ H, SqT K H (cl K "CHANCE_CALLS") (([15] : List Int).map V.int)
  t_RULE_CALLS : ∀ H, SqT K H (cl K "RULE_CALLS") (([17] : List Int).map V.int)
  t_POWERS : ∀ H, SqT K H (cl K "POWERS") (powers.map fun n => V.int (n : Nat))
  t_ORDERS : ∀ H, SqT K H (cl K "ORDERS") ((List.range 9).map fun n => V.int (Vbndam.factorial n : Nat))
  t_RESERVED : ∀ H, SqT K H (cl K "RESERVED") [.str "by", .str "any", .str "of", .str "weight"]
  g_LONGEST_TEXT : G mg "LONGEST_TEXT" (.int 2000)
  g_LONGEST_PAIRS : G mg "LONGEST_PAIRS" (.int 40)
  g_HIGHEST_PACKED : G mg "HIGHEST_PACKED" (.int 1000000)
  g_LETTERS : G mg "LETTERS" (.str "abcdefghijklmnopqrstuvwxyz")
  g_DIGITS : G mg "DIGITS" (.str "0123456789")
  g_FOREIGN : G mg "FOREIGN" (.str "?")
  g_MOST_PLAYERS : G mg "MOST_PLAYERS" (.int 8)
  g_MOST_RULES : G mg "MOST_RULES" (.int 20)
  g_HEAVIEST : G mg "HEAVIEST" (.int 1000)
  g_MOST_REQUIRED : G mg "MOST_REQUIRED" (.int 8)
  g_NOT_ALLOWED : G mg "NOT_ALLOWED" (.int 1)
  g_OUT_OF_RANGE_parsing : G mg "OUT_OF_RANGE_parsing" (.int 3)
  g_OUT_OF_RANGE_operations : G mg "OUT_OF_RANGE_operations" (.int (-1))
  g_EXISTS_ALREADY : G mg "EXISTS_ALREADY" (.int 4)
  g_NOT_DECLARED : G mg "NOT_DECLARED" (.int 5)
  g_TOO_FEW_SUBSTITUTES : G mg "TOO_FEW_SUBSTITUTES" (.int 6)
  g_TOO_MANY : G mg "TOO_MANY" (.int 7)
  g_NO_PLAYER : G mg "NO_PLAYER" (.int 9)
  g_ABSENT_SUBSTITUTE : G mg "ABSENT_SUBSTITUTE" (.int 10)
  g_LONGEST_NAME : G mg "LONGEST_NAME" (.int 12)
  g_LONGEST_NUMBER : G mg "LONGEST_NUMBER" (.int 4)
  g_NO_ROOM : G mg "NO_ROOM" (.int (-2))
  g_INVALID_TEXT : G mg "INVALID_TEXT" (.int (-3))
  g_NOT_THERE : G mg "NOT_THERE" (.int (-4))
/-! ### objects -/
theorem lkH {k : Str} {v : V} {r : List (Str × V)} : List.lookup k ((k, v) :: r) = some v := by
  have e : (k == k) = true := beq_self_eq_true k
  simp only [List.lookup, e]
theorem lkP {k g : Str} {v : V} {r : List (Str × V)} (h : (k == g) = false) : List.lookup k ((g, v) :: r) = List.lookup k r := by
  simp only [List.lookup, h]
def fCall (n : Int) (ns r : Addr) : List (Str × V) := [("number", .int n), ("numbers", .ref ns), ("row", .ref r)]
def fPlayer (nm : List Nat) (wt : Int) : List (Str × V) := [("name", .str (SX.S nm)), ("weight", .int wt)]
def fRule (ab nd : Int) (sl : Addr) : List (Str × V) := [("absent", .int ab), ("needed", .int nd), ("substitutes", .ref sl)]
def fRoom (pl ru : Addr) : List (Str × V) := [("players", .ref pl), ("rules", .ref ru)]
def fSession (v : V) : List (Str × V) := [("room", v)]
def fReader (t : Addr) (e p : Int) : List (Str × V) := [("tokens", .ref t), ("end", .int e), ("position", .int p)]
theorem lCall1 {n : Int} {ns r : Addr} : (fCall n ns r).lookup ("number" : Str) = some (.int n) := lkH
theorem lCall2 {n : Int} {ns r : Addr} : (fCall n ns r).lookup ("numbers" : Str) = some (.ref ns) := (lkP (by decide +kernel)).trans lkH
theorem lCall3 {n : Int} {ns r : Addr} : (fCall n ns r).lookup ("row" : Str) = some (.ref r) := (lkP (by decide +kernel)).trans ((lkP (by decide +kernel)).trans lkH)
theorem lPlayer1 {nm : List Nat} {wt : Int} : (fPlayer nm wt).lookup ("name" : Str) = some (.str (SX.S nm)) := lkH
theorem lPlayer2 {nm : List Nat} {wt : Int} : (fPlayer nm wt).lookup ("weight" : Str) = some (.int wt) := (lkP (by decide +kernel)).trans lkH
theorem lRule1 {ab nd : Int} {sl : Addr} : (fRule ab nd sl).lookup ("absent" : Str) = some (.int ab) := lkH
theorem lRule2 {ab nd : Int} {sl : Addr} : (fRule ab nd sl).lookup ("needed" : Str) = some (.int nd) := (lkP (by decide +kernel)).trans lkH
theorem lRule3 {ab nd : Int} {sl : Addr} : (fRule ab nd sl).lookup ("substitutes" : Str) = some (.ref sl) := (lkP (by decide +kernel)).trans ((lkP (by decide +kernel)).trans lkH)
theorem lRoom1 {pl ru : Addr} : (fRoom pl ru).lookup ("players" : Str) = some (.ref pl) := lkH
theorem lRoom2 {pl ru : Addr} : (fRoom pl ru).lookup ("rules" : Str) = some (.ref ru) := (lkP (by decide +kernel)).trans lkH
theorem lSession {v : V} : (fSession v).lookup ("room" : Str) = some v := lkH
theorem lReader1 {t : Addr} {e p : Int} : (fReader t e p).lookup ("tokens" : Str) = some (.ref t) := lkH
theorem lReader2 {t : Addr} {e p : Int} : (fReader t e p).lookup ("end" : Str) = some (.int e) := (lkP (by decide +kernel)).trans lkH
theorem lReader3 {t : Addr} {e p : Int} : (fReader t e p).lookup ("position" : Str) = some (.int p) := (lkP (by decide +kernel)).trans ((lkP (by decide +kernel)).trans lkH)
def PlayerAt (K : PySem.W.Frag) (H : Hp) (a : Addr) (p : Vbndam.Player) : Prop := ∃ dx, H a = some (.ins (cl K "Player") dx (fPlayer p.name (p.weight : Nat)))
def nats (l : List Nat) : List V := l.map fun n => V.int (n : Nat)
def RuleAt (K : PySem.W.Frag) (H : Hp) (pl ru : Addr) (a : Addr) (u : Vbndam.Rule) : Prop := ∃ dx sl, H a = some (.ins (cl K "Rule") dx (fRule (u.absent : Nat) (u.required : Nat) sl)) ∧ H sl = some (.lst (nats u.substitutes)) ∧ sl ≠ pl ∧ sl ≠ ru
structure RoomIs (K : PySem.W.Frag) (H : Hp) (r dx pl ru : Addr) (ps rs : List Addr) (z : Vbndam.Room) : Prop where
  at_ : H r = some (.ins (cl K "Room") dx (fRoom pl ru))
  pls : H pl = some (.lst (ps.map V.ref))
  rls : H ru = some (.lst (rs.map V.ref))
  ne : pl ≠ ru
  nd : ps.Nodup
  pAt : Paired (PlayerAt K H) ps z.players
  rAt : Paired (RuleAt K H pl ru) rs z.rules
def RoomAt (K : PySem.W.Frag) (H : Hp) (r : Addr) (z : Vbndam.Room) : Prop := ∃ dx pl ru ps rs, RoomIs K H r dx pl ru ps rs z
theorem PlayerAt.same {K : PySem.W.Frag} {H H' : Hp} (s : Same H H') {a : Addr} {p : Vbndam.Player} (h : PlayerAt K H a p) : PlayerAt K H' a p := let ⟨dx, e⟩ := h; ⟨dx, s _ _ e⟩
theorem RuleAt.same {K : PySem.W.Frag} {H H' : Hp} (s : Same H H') {pl ru a : Addr} {u : Vbndam.Rule} (h : RuleAt K H pl ru a u) : RuleAt K H' pl ru a u := let ⟨dx, sl, e, e2, n⟩ := h; ⟨dx, sl, s _ _ e, s _ _ e2, n⟩
theorem pairedImp {α β : Type} {R S : α → β → Prop} (h : ∀ a b, R a b → S a b) : ∀ {l : List α} {m : List β}, Paired R l m → Paired S l m
  | _, _, .nil => .nil
  | _, _, .cons r t => .cons (h _ _ r) (pairedImp h t)
theorem RoomAt.same {K : PySem.W.Frag} {H H' : Hp} (s : Same H H') {r : Addr} {z : Vbndam.Room} (h : RoomAt K H r z) : RoomAt K H' r z :=
  let ⟨dx, pl, ru, ps, rs, i⟩ := h
  ⟨dx, pl, ru, ps, rs, s _ _ i.at_, s _ _ i.pls, s _ _ i.rls, i.ne, i.nd, pairedImp (fun _ _ q => PlayerAt.same s q) i.pAt, pairedImp (fun _ _ q => RuleAt.same s q) i.rAt⟩
theorem sameUpd {H : Hp} {p : Addr} {o : HO} (h : H p = none) : Same H (upd H p o) := fun b x e => by
  rw [upd_ne (ne_of_none e h)]
  exact e
theorem pairedGet {α β : Type} {R : α → β → Prop} : ∀ {l : List α} {m : List β} {i : Nat} {y : β}, Paired R l m → m[i]? = some y → ∃ x, l[i]? = some x ∧ R x y
  | _, _, _, _, .nil, h => by simp at h
  | _, _, 0, _, .cons r t, h => by simp at h; subst h; exact ⟨_, rfl, r⟩
  | _, _, i + 1, _, .cons r t, h => by
    obtain ⟨x, a, b⟩ := pairedGet (i := i) t (by simpa using h)
    exact ⟨x, by simpa using a, b⟩
theorem pairedGetL {α β : Type} {R : α → β → Prop} : ∀ {l : List α} {m : List β} {i : Nat} {x : α}, Paired R l m → l[i]? = some x → ∃ y, m[i]? = some y ∧ R x y
  | _, _, _, _, .nil, h => by simp at h
  | _, _, 0, _, .cons r t, h => by simp at h; subst h; exact ⟨_, rfl, r⟩
  | _, _, i + 1, _, .cons r t, h => by
    obtain ⟨x, a, b⟩ := pairedGetL (i := i) t (by simpa using h)
    exact ⟨x, by simpa using a, b⟩
theorem lenI {n : Nat} (h : n ≤ 100000) : n < sizeLine := Nat.lt_of_le_of_lt h (by decide)
theorem lenI' {n : Nat} (h : n ≤ 100000) : n ≤ sizeLine := Nat.le_of_lt (lenI h)
end SI

set_option maxHeartbeats 4000000
/-! enumerate over a list from any count, over a tuple -/
namespace SI
open PySem PySem.Spec PyProof.Rows L2
/-- what stands (S) at each turn, each item in a new pair with its count from k on -/
def Ien (S : Hp → List V → Prop) (k : Int) : It :=
  ⟨fun i H => ∃ (xs : List V) (x : V), S H xs ∧ xs[i]? = some x, fun i H v H' => ∃ T x, v = .ref T ∧ H T = none ∧ H' = upd H T (.tup [.int (k + (i : Nat)), x]) ∧ ∀ xs, S H xs → xs[i]? = some x, fun i H => ∃ xs : List V, S H xs ∧ xs.length ≤ i⟩
theorem walkEn {S : Hp → List V → Prop} {k : Int} {xs : List V} : Walk (Ien S k) xs.length (fun H => S H xs) (YPair (fun i => some (.int (k + (i : Nat)))) (fun i => xs[i]?)) := by
  refine ⟨fun i _ hi q => ⟨xs, xs[i], q, List.getElem?_eq_getElem hi⟩, fun _ q => ⟨xs, q, Nat.le_refl _⟩, fun i H v H' _ q y => ?_⟩
  obtain ⟨T, x, e1, e2, e3, e4⟩ := y
  exact ⟨T, _, x, e1, e2, e3, rfl, e4 xs q⟩
/-- the step of an item, once the draw is told -/
theorem enStep {X : Cx} {pins : List (Addr × Obj)} {s : Shared} {σ : L2.St} {H : Hp} {E : Value → Shared → Prop} {S : Hp → List V → Prop} {k0 : Int} {elts : List Expr} {kk : Nat} {tpos : Pos} {e it : Addr} {i : Nat} {old u : Value} {xs : List V} {x : V} {fp : List Addr} {its : List Value}
    {St : Nat → Heap → Prop} {tn : Nat → Heap → Prop} (I : Inv X pins σ H s) (hf : ∀ b ∈ [e, it], FpOk X pins H b) (hq : S H xs) (inj : ∀ ys, S H ys → ys = xs) (hx : xs[i]? = some x) (hu : its[i]? = some u) (ru : RelV x u)
    (D : Draws X.prog X.w X.A.in1 it fp its.length (fun i v => its[i]? = some v) St) (he : IsEnum s.heap e it (k0 + (i : Nat)) old) (hst : St i s.heap) (hne : e ≠ it) (hef : e ∉ fp)
    (ht : ∀ h : Heap, (∃ old, IsEnum h e it (k0 + ((i + 1 : Nat) : Nat)) old) → St (i + 1) h → tn (i + 1) h) :
    wpAny (model X.prog X.w) X.A (pyNext (.ref e)) (fun r s1 => ∃ u, r = some u ∧
      wpAny (model X.prog X.w) X.A (letOwnedTupleGo (.Tuple elts kk tpos) (.ref e) u) (fun _ s2 => ∃ x H', Inv X pins σ H' s2 ∧ RelV x u ∧ (Ien S k0).yld i H x H' ∧ tn (i + 1) s2.heap ∧ ∀ b ∈ [e, it], H' b = none) E s1) E s := by
  have hel : e < s.heap.objs.size := Heap.lt_size he
  have hil : it < s.heap.objs.size := by
    obtain ⟨o, ho⟩ := D.live _ _ hst
    exact Heap.lt_size ho
  have hlt : i < its.length := (List.getElem?_eq_some_iff.mp hu).1
  refine wpAny_pyNext_enum_itemC D he hst hlt hne hef fun x' h' tk hx' ho hit' hT hsz hk => ?_
  have ex : x' = u := Option.some.inj (hx'.symm.trans hu)
  subst ex
  refine ⟨_, rfl, wpAny_letOwnedTupleGo_enum (s := { s with heap := h', toks := tk + 1 }) ho fun h'' he' sb => ?_⟩
  have hT2 : h''.get? s.heap.objs.size = some { cls := .type "tuple", data := .seq #[.int (k0 + (i : Nat)) tk, x'] } := (sb.2 _ (Nat.ne_of_gt hel)).trans hT
  have new : ObjOk X.prog X.w (upd H s.heap.objs.size (.tup [.int (k0 + (i : Nat)), x])) h'' s.heap.objs.size (.tup [.int (k0 + (i : Nat)), x]) :=
    ⟨by show 2 ≤ sizeLine; decide, [.int (k0 + (i : Nat)) tk, x'], .cons ⟨_, rfl⟩ (.cons ru .nil), ⟨_, hT2, rfl, _, rfl⟩⟩
  have I1 : Inv X pins σ (upd H s.heap.objs.size (.tup [.int (k0 + (i : Nat)), x])) { s with heap := h'', toks := tk + 1 } :=
    I.turnedNew (ch := [e, it]) (fun b ob hb q => (sb.2 b (fun z => hb (by simp [z]))).trans (hk b ob (fun z => hb (by simp [z])) (fun z => hb (by simp [z])) q)) hf (Nat.le_refl _) new
  refine ⟨.ref s.heap.objs.size, _, I1, rfl, ⟨_, x, rfl, I.hok.fresh (Nat.le_refl _), rfl, fun ys hy => by rw [inj ys hy]; exact hx⟩, ht h'' ⟨x', ?_⟩ (D.frame _ _ _ hit' fun b hb o q => (sb.2 b fun z => hef (z ▸ hb)).trans q), fun b hb => ?_⟩
  · have e1 : (k0 + ((i + 1 : Nat) : Nat) : Int) = k0 + (i : Nat) + 1 := by omega
    rw [e1]
    exact he'
  · have hb' : b < s.heap.objs.size := by
      rcases List.mem_cons.mp hb with z | z
      · rw [z]; exact hel
      · rw [List.mem_singleton.mp z]; exact hil
    rw [upd_ne (Nat.ne_of_lt hb')]
    exact (hf b hb).1
theorem turnL {P : Program} {w : World} {K : PySem.W.Frag} {elts : List Expr} {kk : Nat} {tpos : Pos} (k0 : Int) (a e it : Addr) (h1 : a ≠ it) (h2 : e ≠ a) :
    Turn P w K (.Tuple elts kk tpos) (Ien (fun H xs => SqL K H a xs) k0) [e, it] e (fun i h => (∃ old, IsEnum h e it (k0 + (i : Nat)) old) ∧ h.IsListIter it a i ∧ e ≠ it) where
  mem := List.mem_cons_self
  obj := fun i h st b hb => by
    obtain ⟨⟨old, he⟩, ⟨o, ho, hc, hd⟩, _⟩ := st
    rcases List.mem_cons.mp hb with z | z
    · rw [z]; exact ⟨_, he, fun v q => nomatch q⟩
    · rw [List.mem_singleton.mp z]; exact ⟨o, ho, fun v q => by rw [hd] at q; cases q⟩
  keep := fun i h h' st k => let ⟨⟨old, he⟩, hi, hne⟩ := st; ⟨⟨old, k e (by simp) _ he⟩, hi.at fun o q => k it (by simp) o q, hne⟩
  item := by
    intro X hP hw hK hc i pins s σ H E I hf st hg
    subst hP hw hK
    obtain ⟨⟨old, he⟩, hit, hne⟩ := st
    obtain ⟨xs, x, hq, hx⟩ := hg
    obtain ⟨its, rv, p, hz⟩ := I.list hq
    obtain ⟨u, hu, ru⟩ := rv.get hx
    have D := Draws.list (prog := X.prog) (w := X.w) (A := X.A.in1) (show X.A.in1.handled = none from I.ok.hd hc) it a h1 its.toArray
    have sz : its.toArray.size = its.length := List.size_toArray ..
    rw [sz] at D
    refine enStep (its := its) (fp := [it, a]) (St := fun i h => h.IsListIter it a i ∧ h.IsList a its.toArray) (tn := fun i h => (∃ old, IsEnum h e it (k0 + (i : Nat)) old) ∧ h.IsListIter it a i ∧ e ≠ it) I hf (S := fun H xs => SqL X.K H a xs) hq (fun ys hy => I.list_inj hy hq) hx hu ru ?_ he ⟨hit, p.isList⟩ hne (by simp [hne, h2]) fun h a b => ⟨a, b.1, hne⟩
    have e : (fun (i : Nat) (v : Value) => its.toArray[i]? = some v) = fun i v => its[i]? = some v := by funext i v; simp
    rw [e] at D
    exact D
  done := by
    intro X hP hw hK hc i pins s σ H E I hf st hg
    subst hP hw hK
    obtain ⟨⟨old, he⟩, hit, hne⟩ := st
    obtain ⟨xs, hq, hx⟩ := hg
    obtain ⟨its, rv, p, hz⟩ := I.list hq
    obtain ⟨f0, f1, f2, f3, f4, f5⟩ := hf it (by simp)
    have hl := rv.length
    have hn : its.toArray[i]? = none := by simp; omega
    have hT : s.TypeIs (.ref e) "enumerate" := ⟨_, he, rfl⟩
    unfold pyNext
    refine wpAny_bind (wpAny_attempt (wpAny_callSpecial?_slot (name := Str.ofString "__next__") hT F.slot_enumerate_next (wpAny_call_entry F.slot_enumerate_next hT F.entry_enumerate_next ?_ (F.args_enumerate_next_1 _))))
    show wpAny _ _ (field (.ref e) 2 >>= _) _ _ _
    refine wpAny_bind (wpAny_field he rfl (x := .ref it) rfl ?_)
    refine wpAny_bind (wpAny_nextOf_list_end (show X.A.in1.handled = none from I.ok.hd hc) hit p.isList hn fun h' x eb hx' => ?_)
    obtain ⟨o, ho, hcl⟩ := hx'
    refine wpAny_bind (wpAny_isInstance (T := "StopIteration") (b := true) ⟨o, ho, hcl⟩ isSubtype_stop ?_)
    exact wpAny_pure ⟨rfl, I.turned (t' := s.toks) (fun b o hb q => eb b o hb q) f0 f1 f3 f4 f5⟩
  self := fun A i s Q E st h => let ⟨⟨_, he⟩, _⟩ := st; wpAny_pyIter_enum he h
theorem turnT {P : Program} {w : World} {K : PySem.W.Frag} {elts : List Expr} {kk : Nat} {tpos : Pos} (k0 : Int) (a e it : Addr) (h1 : a ≠ it) (h2 : e ≠ a) :
    Turn P w K (.Tuple elts kk tpos) (Ien (fun H xs => SqT K H a xs) k0) [e, it] e (fun i h => (∃ old, IsEnum h e it (k0 + (i : Nat)) old) ∧ h.IsTupleIter it a i ∧ e ≠ it) where
  mem := List.mem_cons_self
  obj := fun i h st b hb => by
    obtain ⟨⟨old, he⟩, ⟨o, ho, hc, hd⟩, _⟩ := st
    rcases List.mem_cons.mp hb with z | z
    · rw [z]; exact ⟨_, he, fun v q => nomatch q⟩
    · rw [List.mem_singleton.mp z]; exact ⟨o, ho, fun v q => by rw [hd] at q; cases q⟩
  keep := fun i h h' st k => let ⟨⟨old, he⟩, hi, hne⟩ := st; ⟨⟨old, k e (by simp) _ he⟩, hi.at fun o q => k it (by simp) o q, hne⟩
  item := by
    intro X hP hw hK hc i pins s σ H E I hf st hg
    subst hP hw hK
    obtain ⟨⟨old, he⟩, hit, hne⟩ := st
    obtain ⟨xs, x, hq, hx⟩ := hg
    obtain ⟨its, rv, p, hz⟩ := I.tuple hq
    obtain ⟨u, hu, ru⟩ := rv.get hx
    have D := Draws.tuple (prog := X.prog) (w := X.w) (A := X.A.in1) (show X.A.in1.handled = none from I.ok.hd hc) it a h1 its.toArray
    have sz : its.toArray.size = its.length := List.size_toArray ..
    rw [sz] at D
    refine enStep (its := its) (fp := [it, a]) (St := fun i h => h.IsTupleIter it a i ∧ h.IsTuple a its.toArray) (tn := fun i h => (∃ old, IsEnum h e it (k0 + (i : Nat)) old) ∧ h.IsTupleIter it a i ∧ e ≠ it) I hf (S := fun H xs => SqT X.K H a xs) hq (fun ys hy => I.tuple_inj hy hq) hx hu ru ?_ he ⟨hit, ?_⟩ hne (by simp [hne, h2]) fun h a b => ⟨a, b.1, hne⟩
    · have e : (fun (i : Nat) (v : Value) => its.toArray[i]? = some v) = fun i v => its[i]? = some v := by funext i v; simp
      rw [e] at D
      exact D
    · obtain ⟨o, e1, e2, n, e3⟩ := p
      exact ⟨o, e1, e2, n, e3⟩
  done := by
    intro X hP hw hK hc i pins s σ H E I hf st hg
    subst hP hw hK
    obtain ⟨⟨old, he⟩, hit, hne⟩ := st
    obtain ⟨xs, hq, hx⟩ := hg
    obtain ⟨its, rv, p, hz⟩ := I.tuple hq
    obtain ⟨f0, f1, f2, f3, f4, f5⟩ := hf it (by simp)
    have hl := rv.length
    have hn : its.toArray[i]? = none := by simp; omega
    have p' : s.heap.IsTuple a its.toArray := by
      obtain ⟨o, e1, e2, n, e3⟩ := p
      exact ⟨o, e1, e2, n, e3⟩
    have hT : s.TypeIs (.ref e) "enumerate" := ⟨_, he, rfl⟩
    unfold pyNext
    refine wpAny_bind (wpAny_attempt (wpAny_callSpecial?_slot (name := Str.ofString "__next__") hT F.slot_enumerate_next (wpAny_call_entry F.slot_enumerate_next hT F.entry_enumerate_next ?_ (F.args_enumerate_next_1 _))))
    show wpAny _ _ (field (.ref e) 2 >>= _) _ _ _
    refine wpAny_bind (wpAny_field he rfl (x := .ref it) rfl ?_)
    refine wpAny_bind (wpAny_nextOf_tuple_end (show X.A.in1.handled = none from I.ok.hd hc) hit p' hn fun h' x eb hx' => ?_)
    obtain ⟨o, ho, hcl⟩ := hx'
    refine wpAny_bind (wpAny_isInstance (T := "StopIteration") (b := true) ⟨o, ho, hcl⟩ isSubtype_stop ?_)
    exact wpAny_pure ⟨rfl, I.turned (t' := s.toks) (fun b o hb q => eb b o hb q) f0 f1 f3 f4 f5⟩
  self := fun A i s Q E st h => let ⟨⟨_, he⟩, _⟩ := st; wpAny_pyIter_enum he h
set_option maxHeartbeats 1000000 in
/-- enumerate(v), v told by what its iterator is -/
theorem enumNew {v : Value} {o : Obj} {HH : Heap → Prop} (B : Begins v o HH) : Meets (Builtin.«enumerate.__new__» ⟨[.type "enumerate", v], []⟩)
    (fun _ R s => HH s.heap ∧ R (.ok (.ret (.ref (s.heap.push o).objs.size))) { s with heap := (s.heap.push o).push { cls := .type "enumerate", data := .fields #[.none, .bool false, .ref s.heap.objs.size, rawInt 0, .none, .none] } }) := by
  refine .of_wp fun P1 w1 A1 R s h => ?_
  obtain ⟨hh, gg, dd, tt, oo⟩ := s
  obtain ⟨h1, h⟩ := h
  have hsub := sub_enumerate
  have qi : ∀ {A' : Around} {E' : Value → Shared → Prop} {Q' : Value → Shared → Prop}, Q' (.ref hh.objs.size) ⟨hh.push o, gg, dd, tt, oo⟩ → wpAny (model P1 w1) A' (pyIter v) Q' E' ⟨hh, gg, dd, tt, oo⟩ := fun q => B.iter P1 w1 _ _ ⟨hh, gg, dd, tt, oo⟩ _ h1 q
  wp_walk using qi
  refine wpAny_stack_any fun st => wpAny_pure ?_
  split
  · rename_i c _ _ _ _ _
    cases (c == Value.type "enumerate") <;> (wp_walk using qi; exact ⟨_, rfl, h⟩)
  · (wp_walk using qi; exact ⟨_, rfl, h⟩)
theorem enumCall {prog : Program} {w : World} {A : Around} {E : Value → Shared → Prop} {s : Shared} {v : Value} {o : Obj} {HH : Heap → Prop} {Q : Value → Shared → Prop} (B : Begins v o HH) (h1 : HH s.heap)
    (h : ∀ h', IsEnum h' (s.heap.objs.size + 1) s.heap.objs.size 0 .none → h'.get? s.heap.objs.size = some o → (∀ b u, s.heap.get? b = some u → h'.get? b = some u) → Q (.ref (s.heap.objs.size + 1)) { s with heap := h' }) :
    wpAny (model prog w) A (call (.type "enumerate") [v]) Q E s := by
  refine callType_new F.called_enumerate (by decide) (F.typeCall_enumerate_1 _) (F.newCall_enumerate_1 _) (fun ob => F.args_object_init_2 ob _) F.entry_enumerate_new (enumNew B) ⟨h1, ?_⟩
  have hz : (s.heap.push o).objs.size = s.heap.objs.size + 1 := Heap.size_push ..
  show _ ∧ _
  rw [hz]
  have he : IsEnum ((s.heap.push o).push { cls := .type "enumerate", data := .fields #[.none, .bool false, .ref s.heap.objs.size, rawInt 0, .none, .none] }) (s.heap.objs.size + 1) s.heap.objs.size 0 .none := by
    have q := Heap.get?_push_size (s.heap.push o) (o := { cls := .type "enumerate", data := .fields #[.none, .bool false, .ref s.heap.objs.size, rawInt 0, .none, .none] }) rfl
    rwa [hz] at q
  exact ⟨⟨_, he, rfl⟩, h _ he (Heap.get?_push_of_some _ (Heap.get?_push_size _ B.free)) fun b u x => Heap.get?_push_of_some _ (Heap.get?_push_of_some _ x)⟩
/-- enumerate(xs, start=k), xs a list -/
def iEnK (K : PySem.W.Frag) (ta tk : TA) : TI := fun σ H R => ta σ H fun vs H1 => tk σ H1 fun zs H2 => ∃ a xs k, vs = [.ref a] ∧ zs = [.int k] ∧ SqL K H2 a xs ∧ -(2 ^ 63) ≤ k ∧ k < 2 ^ 63 ∧ R (Ien (fun H xs => SqL K H a xs) k) H2
/-- enumerate(t), t a tuple -/
def iEnT (K : PySem.W.Frag) (ta : TA) : TI := fun σ H R => ta σ H fun vs H1 => ∃ a xs, vs = [.ref a] ∧ SqT K H1 a xs ∧ R (Ien (fun H xs => SqT K H a xs) 0) H1
theorem fpEn {X : Cx} {pins : List (Addr × Obj)} {σ : L2.St} {H : Hp} {s : Shared} (I : Inv X pins σ H s) : ∀ b ∈ [s.heap.objs.size + 1, s.heap.objs.size], FpOk X pins H b := fun b hb => by
  have hle : s.heap.objs.size ≤ b := by
    rcases List.mem_cons.mp hb with z | z
    · rw [z]; exact Nat.le_succ _
    · rw [List.mem_singleton.mp z]; exact Nat.le_refl _
  exact I.fpOk hle (I.hok.fresh hle)
theorem pi_enumT {X : Cx} {e : Expr} {ta : TA} {p pos tpos : Pos} {elts : List Expr} {kk : Nat} (hg : Gl X "enumerate") (hm : X.mg "enumerate" = none) (ha : PA X [e] ta) (hs : starEach [e] X.env = [(false, eval e X.env)] := by rfl) :
    PI X (.Tuple elts kk tpos) (.Call (.Name "enumerate" p) [e] [] pos) (iEnT X.K ta) := by
  refine ⟨fun pins s σ H R I h => ?_⟩
  refine wpAny_Call_Name_kw (ld_blt I hg hm boot_enumerate ?_ (by decide) (by decide))
  refine PyProof.Rows.callWith_type1 (thn (ha.run pos pins s σ H _ I h) fun us s1 ⟨vs, H1, I1, r1, q1⟩ => ?_) hs rfl
  obtain ⟨a, xs, ex, hq, q⟩ := q1
  subst ex
  cases r1 with
  | cons r rr =>
    cases rr
    cases r
    obtain ⟨its, rv, p', hz⟩ := I1.tuple hq
    have ht : s1.heap.IsTuple a its.toArray := by
      obtain ⟨o, e1, e2, n, e3⟩ := p'
      exact ⟨o, e1, e2, n, e3⟩
    have hal : a < s1.heap.objs.size := by
      obtain ⟨o, e1, _⟩ := p'
      exact Heap.lt_size e1
    refine enumCall (begins_tuple a its.toArray) ht fun h' he hit hk => wpAny_pyIter_enum he ?_
    have I2 : Inv X pins σ H1 { s1 with heap := h' } := I1.kept (t' := s1.toks) hk
    refine ⟨s1.heap.objs.size + 1, [s1.heap.objs.size + 1, s1.heap.objs.size], _, _, H1, rfl, I2, turnT 0 a (s1.heap.objs.size + 1) s1.heap.objs.size (Nat.ne_of_lt hal) (Nat.ne_of_gt (Nat.lt_succ_of_lt hal)), ⟨⟨.none, he⟩, ⟨_, hit, rfl, rfl⟩, Nat.succ_ne_self _⟩, fpEn I1, q⟩
theorem pi_enumK {X : Cx} {e : Expr} {kws : List Keyword} {ta tk : TA} {p pos tpos : Pos} {elts : List Expr} {kk : Nat} (hg : Gl X "enumerate") (hm : X.mg "enumerate" = none) (ha : PA X [e] ta) (hk : PK X kws tk)
    (hs : starEach [e] X.env = (false, eval e X.env) :: starEach [] X.env := by rfl)
    (hall : (backToKw pos (keywordEach kws X.env)).all (·.1.isSome) = true := by rfl) (hks : (backToKw pos (keywordEach kws X.env)).filterMap (·.1) = [Str.ofString "start"] := by rfl)
    (hpl : ((backTo pos (starEach [e] X.env)).any (·.1) || (backToKw pos (keywordEach kws X.env)).any (·.1.isNone)) = false := by rfl) :
    PI X (.Tuple elts kk tpos) (.Call (.Name "enumerate" p) [e] kws pos) (iEnK X.K ta tk) := by
  refine ⟨fun pins s σ H R I h => ?_⟩
  refine wpAny_Call_Name_kw (ld_blt I hg hm boot_enumerate ?_ (by decide) (by decide))
  refine PySem.W.callWith_of (P := fun _ => True) hpl (fun h _ => ⟨.machine, .inr (.inl rfl), PySem.W.Looks.of_pure rfl⟩) ?_
  refine PyProof.Rows.evalArgs_kw2 hall (thn (ha.run pos pins s σ H _ I h) fun us s1 ⟨vs, H1, I1, r1, q1⟩ => ?_) hs
  refine thn (hk.run pos pins s1 σ H1 _ I1 q1) fun ws s2 ⟨zs, H2, I2, rz, a, xs, k, ev, ez, hq, k0, k1, q⟩ => ?_
  subst ev ez
  refine ⟨trivial, ?_⟩
  rw [hks]
  cases r1 with
  | cons r rr =>
    cases rr
    cases r
    cases rz with
    | cons r' rr' =>
      cases rr'
      obtain ⟨tk', rfl⟩ := r'
      obtain ⟨its, rv, p', hz⟩ := I2.list hq
      have hal : a < s2.heap.objs.size := by
        obtain ⟨o, n, e1, _⟩ := p'
        exact Heap.lt_size e1
      refine enum_begins_start (begins_list a its.toArray) p'.isList k0 k1 fun h' he hit hsz hk => wpAny_pyIter_enum he ?_
      have I3 : Inv X pins σ H2 { s2 with heap := h' } := I2.kept (t' := s2.toks) hk
      have he0 : IsEnum h' (s2.heap.objs.size + 1) s2.heap.objs.size (k + ((0 : Nat) : Int)) .none := by
        rw [show k + ((0 : Nat) : Int) = k from Int.add_zero k]
        exact he
      refine ⟨s2.heap.objs.size + 1, [s2.heap.objs.size + 1, s2.heap.objs.size], _, _, H2, rfl, I3, turnL k a (s2.heap.objs.size + 1) s2.heap.objs.size (Nat.ne_of_lt hal) (Nat.ne_of_gt (Nat.lt_succ_of_lt hal)), ⟨⟨.none, he0⟩, ⟨_, hit, rfl, rfl⟩, Nat.succ_ne_self _⟩, fpEn I2, q⟩
end SI

set_option maxHeartbeats 4000000
/-! an own error class right under Exception whose __init__ calls Exception.__init__ and stores fields -/
namespace SI
open PySem PySem.Spec PyProof.Rows L2
def exBm : List Value := [.type "Exception", .type "BaseException", .type "object"]
structure OexE (K : PySem.W.Frag) (C : Addr) : Prop where
  q : PySem.W.excInitIn K C exBm "Exception.__new__" = true
  ov : PySem.W.excOver K C exBm = true
  hd : PySem.W.hasDictIn K C = true
  sa : PySem.W.findIn K (.ref C) "__setattr__" = some (some (.builtin "object.__setattr__"))
  exC : PySem.W.subIn K (.ref C) (.type "BaseException") = some true
  tyC : PySem.W.typeIn K (.ref C) = some (.type "type")
  kC : PySem.W.keepIn K (.ref C) = true
section
open Builtin Builtin.ObjectAttr
variable {prog : Program} {w : World} {A : Around} {R : Result → Shared → Prop} {hp : Heap} {g : Array GenState} {d : Drawn} {t : Nat} {os : OsState} {K : PySem.W.Frag} {C : Addr}
theorem clsOf (T : OexE K C) : ∃ cd, PySem.W.clsIn K C = some cd ∧ cd.hasDict = true := by
  have h := T.hd
  unfold PySem.W.hasDictIn at h
  cases e : PySem.W.clsIn K C with
  | none => rw [e] at h; cases h
  | some cd => rw [e] at h; exact ⟨cd, rfl, h⟩
/-- the first field -/
theorem osaNew (T : OexE K C) {name : Str} {tk : Tok} {v : Value} {x : Addr} {fv : Array Value} (X : K.In hp) (hx : hp.get? x = some { cls := .ref C, data := .fields fv }) (ha : PySem.W.findIn K (.ref C) name = some none)
    (hq : ∀ h' tk' dx, (∀ b o, b ≠ x → hp.get? b = some o → h'.get? b = some o) → hp.objs.size ≤ dx → dx ≠ x → h'.get? x = some { cls := .ref C, dict := some dx, data := .fields fv } →
      h'.Ns1 dx (fun y => if y = name then some v else none) → R (.ok (.ret .none)) ⟨h', g, d, tk', os⟩) :
    codeAny (model prog w) A (.call (.builtin "object.__setattr__") ⟨[.ref x, .str name tk, v], []⟩) R ⟨hp, g, d, t, os⟩ := by
  obtain ⟨cd, hcd, hh⟩ := clsOf T
  have I : PySem.W.InstAt hp x { cls := .ref C, data := .fields fv } C none := ⟨hx, rfl, rfl, trivial⟩
  have ht : PySem.W.takerIn K C name = some none := by unfold PySem.W.takerIn; rw [ha]; rfl
  refine PySem.W.osa_openX (r := none) PySem.F.store_Exception X I T.ov ht fun b => ?_
  have hxs : x ≠ hp.objs.size := Nat.ne_of_lt (Heap.lt_size hx)
  have hcls : PySem.W.Looks (model prog w) hp (classData C) cd := PySem.W.looks_clsIn X hcd
  show wpAny _ _ (storeInOwnDict (.ref x) (.ref C) (.str name tk) name v b) _ _ _
  obtain ⟨nm, bs, mro, ns, qn, hd, sn, sb, ab, col, del⟩ := cd
  dsimp only at hh
  subst hh
  unfold storeInOwnDict ownDictForStores
  repeat (first | with_reducible refine PySem.HandSPX.store_in_new ?_ ?_ | with_reducible refine wpAny_loadPart_at hx ?_ | with_reducible refine hcls.at ?_ | wp_step)
  · exact ⟨_, #[], _, (Heap.get?_update_ne _ _ _ _ hxs.symm).trans (Heap.get?_push_at rfl rfl), rfl, fun e he => absurd he (by simp), fun _ => rfl⟩
  · intro h1 tk1 hn1 sb1
    have e1 : (hp.push { cls := .type "dict", data := .dict #[] }).get? x = some { cls := .ref C, data := .fields fv } := Heap.get?_push_of_some _ hx
    refine hq h1 tk1 hp.objs.size (fun b o hb ho => (sb1.2 b (Nat.ne_of_lt (Heap.lt_size ho))).trans ((Heap.get?_update_ne _ _ _ _ hb).trans (Heap.get?_push_of_some _ ho))) (Nat.le_refl _) hxs.symm ((sb1.2 x hxs).trans (Heap.get?_update_self _ e1 rfl)) hn1
/-- a further one -/
theorem osaOld (T : OexE K C) {name : Str} {tk : Tok} {v : Value} {x dx : Addr} {fv : Array Value} {m0 : Str → Option Value} {nl : List Str} (X : K.In hp) (hx : hp.get? x = some { cls := .ref C, dict := some dx, data := .fields fv }) (hns : hp.Ns1 dx m0) (hw : Within m0 nl)
    (hz : nl.length ≤ 1000) (ha : PySem.W.findIn K (.ref C) name = some none)
    (hq : ∀ h' tk', (∀ b o, b ≠ dx → hp.get? b = some o → h'.get? b = some o) → h'.Ns1 dx (fun y => if y = name then some v else m0 y) → R (.ok (.ret .none)) ⟨h', g, d, tk', os⟩) :
    codeAny (model prog w) A (.call (.builtin "object.__setattr__") ⟨[.ref x, .str name tk, v], []⟩) R ⟨hp, g, d, t, os⟩ := by
  obtain ⟨cd, hcd, hh⟩ := clsOf T
  obtain ⟨oD, eD, pD, hoD, _, _⟩ := hns.count hw
  have I : PySem.W.InstAt hp x { cls := .ref C, dict := some dx, data := .fields fv } C (some oD) := ⟨hx, rfl, rfl, hoD⟩
  have ht : PySem.W.takerIn K C name = some none := by unfold PySem.W.takerIn; rw [ha]; rfl
  refine PySem.W.osa_openX (r := none) PySem.F.store_Exception X I T.ov ht fun b => ?_
  have hcls : PySem.W.Looks (model prog w) hp (classData C) cd := PySem.W.looks_clsIn X hcd
  show wpAny _ _ (storeInOwnDict (.ref x) (.ref C) (.str name tk) name v b) _ _ _
  obtain ⟨nm, bs, mro, ns, qn, hd, sn, sb, ab, col, del⟩ := cd
  dsimp only at hh
  subst hh
  unfold storeInOwnDict ownDictForStores
  repeat (first | with_reducible refine PySem.OEX.store_in_old hns hw hz ?_ | with_reducible refine wpAny_loadPart_at hx ?_ | with_reducible refine hcls.at ?_ | wp_step)
  intro h1 tk1 hn1 sb1
  exact hq h1 tk1 (fun b o hb ho => (sb1.2 b hb).trans ho) hn1
end
section
variable {X : Cx} {pins : List (Addr × Obj)} {σ : L2.St} {H : Hp} {s : Shared} {a C dx : Addr} {f : Str} {y : V} {u : Value} {fs : List (Str × V)} {E : Value → Shared → Prop} {A : Around}
theorem oNew {Q : Unit → Shared → Prop} (T : OexE X.K C) (I : Inv X pins σ H s) (e : H a = some (exo a C none)) (hno : PySem.W.findIn X.K (.ref C) f = some none) (ry : RelV y u)
    (h : ∀ dx s', H dx = none → dx ≠ a → Inv X pins σ (upd (upd H dx (exd dx [(f, y)])) a (exo a C (some dx))) s' → Q () s') : wpAny (model X.prog X.w) A (setAttr (.ref a) f u) Q E s := by
  obtain ⟨t1, ho⟩ := exo_at I.hok e
  obtain ⟨hp, g, d, t, os⟩ := s
  refine PySem.W.set_plain I.kIn (ox := { cls := .ref C, dict := none, data := .fields #[.ref t1, .none, .none, .none, .bool false, .none] }) (od := none) ⟨ho, rfl, rfl, trivial⟩ T.sa ?_
  refine osaNew T I.kIn ho hno fun h' tk' dx k dn dne hx hn => ?_
  have hnd : H dx = none := I.hok.fresh dn
  have nd : ∀ {b : Addr} {o : Obj}, hp.get? b = some o → b ≠ dx := fun {b o} q => Nat.ne_of_lt (Nat.lt_of_lt_of_le (Heap.lt_size q) dn)
  have na : ∀ {b : Addr}, H b = none → b ≠ a := fun {b} n z => by rw [z, e] at n; cases n
  have U1 : Un X.fs [] H (upd (upd H dx (exd dx [(f, y)])) a (exo a C (some dx))) hp h' := by
    refine ⟨fun b o q n _ _ => k b o (na n) q, fun b o q n _ _ => ⟨o.slots, k b o (na n) q⟩, fun b o q n _ => ?_, fun b o q _ => ?_, fun b xs q => ?_, fun b o v q => ?_, fun b ps q => ⟨#[], ?_⟩⟩
    · rw [upd_ne (na n), upd_ne (nd q)]; exact n
    · by_cases hb : b = a
      · rw [hb]; exact ⟨_, hx⟩
      · exact ⟨o, k b o hb q⟩
    · rw [upd_ne (at_ne e q exo_tup), upd_ne (ne_of_none q hnd)]; exact q
    · rw [upd_ne (at_ne e q exo_frz), upd_ne (ne_of_none q hnd)]; exact q
    · rw [upd_ne (at_ne e q exo_tbl), upd_ne (ne_of_none q hnd), q]; simp
  refine h dx _ hnd dne (I.un (t' := tk') U1 fun b o q => ?_)
  by_cases hb : b = a
  · subst hb
    rw [upd_same] at q
    cases q
    exact exo_ok hx
  · rw [upd_ne hb] at q
    by_cases hd : b = dx
    · subst hd
      rw [upd_same] at q
      cases q
      exact exd_ok hn (relO_put (fs := []) ry fun _ => True.intro)
    · rw [upd_ne hd] at q
      refine (I.hok b o q).stay (fun c v hc z => k c v ?_ z) (fun c hc => ?_) (fun c xs hc => ?_)
      · rcases hc with hc | hc
        · rw [hc]; exact hb
        · exact at_ne e hc exo_own
      · rw [upd_ne (at_ne e hc exo_own), upd_ne (ne_of_none hc hnd)]; exact hc
      · rw [upd_ne (at_ne e hc exo_tup), upd_ne (ne_of_none hc hnd)]; exact hc
theorem oOld {Q : Unit → Shared → Prop} (T : OexE X.K C) (I : Inv X pins σ H s) (e : H a = some (exo a C (some dx))) (ed : H dx = some (exd dx fs)) (hl : fs.length ≤ 900) (hno : PySem.W.findIn X.K (.ref C) f = some none) (ry : RelV y u)
    (h : ∀ s', Inv X pins σ (upd H dx (exd dx ((f, y) :: fs))) s' → Q () s') : wpAny (model X.prog X.w) A (setAttr (.ref a) f u) Q E s := by
  obtain ⟨t1, ho⟩ := exo_at I.hok e
  obtain ⟨mA, hns, rel⟩ := exd_at I.hok ed
  have hw := within_of rel
  obtain ⟨hp, g, d, t, os⟩ := s
  obtain ⟨oD, _, _, hoD, _, _⟩ := hns.count hw
  refine PySem.W.set_plain I.kIn (ox := { cls := .ref C, dict := some dx, data := .fields #[.ref t1, .none, .none, .none, .bool false, .none] }) (od := some oD) ⟨ho, rfl, rfl, hoD⟩ T.sa ?_
  refine osaOld T I.kIn ho hns hw (by rw [List.length_map]; omega) hno fun h' tk' k hn => ?_
  have hd : ∃ o, h'.get? dx = some o := let ⟨o, _, _, e', _⟩ := hn; ⟨o, e'⟩
  exact h _ (I.write (t' := tk') (x := dx) (e := dx) (o := exd dx ((f, y) :: fs)) (by rw [ed]; exact True.intro) (.inl rfl) k hd (exd_ok hn (relO_put ry rel)))
theorem oInit {us : List Value} {Q : Value → Shared → Prop} (T : OexE X.K C) (I : Inv X pins σ H s) (e : H a = some (exo a C none)) (hl : us.length ≤ sizeLine) (h : ∀ s', Inv X pins σ H s' → Q .none s') :
    wpAny (model X.prog X.w) A (call (.builtin "Exception.__init__") (.ref a :: us)) Q E s := by
  obtain ⟨t1, ho⟩ := exo_at I.hok e
  obtain ⟨nm, N, qn, bs, bm, hdct, sn, sub, ab, col, dd, k0, k1, k2, k3, k5, hC, hT⟩ := PySem.W.excInit_of I.kIn T.q
  obtain ⟨hp, g, d, t, os⟩ := s
  refine wpAny_call (PySem.HandSPX.init_base F.excBase_Exception hT hC ho hl fun h' t2 k hx => ?_)
  have J := I.write (t' := t) (x := a) (e := a) (o := exo a C none) (by rw [e]; exact True.intro) (.inl rfl) k ⟨_, hx⟩ (exo_ok hx)
  have eu : upd H a (exo a C none) = H := by
    funext b
    by_cases hb : b = a
    · rw [hb, upd_same, e]
    · rw [upd_ne hb]
  rw [eu] at J
  exact h _ J
end
/-- Exception.__init__(self, ..) -/
def tEinit (K : PySem.W.Frag) (ta : TA) : TE := fun σ H Q => ta σ H fun vs H1 => ∃ (a C : Addr) (ws : List V), vs = .ref a :: ws ∧ ws.length ≤ 1000 ∧ OexE K C ∧ H1 a = some (exo a C none) ∧ Q .non H1
/-- self.f = e, self an error that is being made -/
def tOset (K : PySem.W.Frag) (f : Str) (to te : TE) : TS := fun D σ H => te σ H fun y H1 => to σ H1 fun x H2 => ∃ a C : Addr, x = .ref a ∧ OexE K C ∧ PySem.W.findIn K (.ref C) f = some none ∧
  ((H2 a = some (exo a C none) ∧ ∀ dx, H2 dx = none → dx ≠ a → D.nx σ (upd (upd H2 dx (exd dx [(f, y)])) a (exo a C (some dx)))) ∨
    ∃ (dx : Addr) (fs : List (Str × V)), H2 a = some (exo a C (some dx)) ∧ H2 dx = some (exd dx fs) ∧ fs.length ≤ 900 ∧ D.nx σ (upd H2 dx (exd dx ((f, y) :: fs))))
/-- C(e, ..), C's own __init__ keeping sp -/
def tMkE (C : Addr) (sp : Sp) (ta : TA) : L2.St → Hp → XK → Prop := fun σ H Q => ta σ H fun vs H1 => vs.length ≤ 1000 ∧ ∀ a, H1 a = none → sp (.ref a :: vs) (upd H1 a (exo a C none))
  (fun v H2 => v = .non ∧ ∃ (d : Addr) (fs : List (Str × V)), H2 a = some (exo a C (some d)) ∧ H2 d = some (exd d fs) ∧ H1 d = none ∧ Q (.ref C) (some d) (upd (del H2 a) d (.xd fs))) (fun _ _ _ => False)
section
variable {X : Cx} {o e : Expr} {es : List Expr} {to te : TE} {ta : TA} {f : Str} {p p' p1 p2 pos : Pos}
theorem typEx : typeOf (.type "Exception") = pure (.type "type") := by kernel_rfl
theorem pe_excinit {pl : Sem Bool} (hg : Gl X "Exception") (hm : X.mg "Exception" = none) (vV : PySem.W.findCls X.K (.type "Exception") (.type "type") "__init__" = some (.val (.builtin "Exception.__init__"))) (ha : PA X (e :: es) ta)
    (hc : eval (.Call (.Attribute (.Name "Exception" p1) "__init__" p2) (e :: es) [] pos) X.env = (do
      let ov ← eval (.Name "Exception" p1) X.env
      standAt p2.atName
      let (f, first) ← holding [ov] (getMethod ov "__init__" pl)
      callWith pos f first (backTo pos (starEach (e :: es) X.env)) (backToKw pos (keywordEach [] X.env))) := by rfl)
    (he : starEach (e :: es) X.env = (false, eval e X.env) :: starEach es X.env := by rfl) (hpl : (backTo pos (starEach es X.env)).any (·.1) = false := by rfl) :
    PE X (.Call (.Attribute (.Name "Exception" p1) "__init__" p2) (e :: es) [] pos) (tEinit X.K ta) := by
  refine ⟨fun pins s σ H Q I h => PySem.W.methodCall_KW (ld_blt I hg hm PyProof.Rows.Boot.«Exception» ?_ (by decide) (by decide)) hc⟩
  obtain ⟨m, fr⟩ := I.fr
  refine PySem.W.method_type fr I.ok.mod.kin typEx (by decide +kernel) vV (by decide +kernel) ?_
  show wpAny _ _ (callWith pos (Value.builtin "Exception.__init__") [] (backTo pos (starEach (e :: es) X.env)) []) _ _ _
  refine PyProof.Rows.callWith_method1 (thn (ha.run pos pins _ σ H _ (I.tok _) h) fun us s1 hh => ?_) he hpl
  obtain ⟨vs, H1, I1, r1, a, C, ws, ev, hl, T, ea, q⟩ := hh
  subst ev
  cases r1 with
  | @cons _ u0 _ ur ra rw' =>
    obtain rfl : u0 = Value.ref a := ra
    refine oInit T I1 ea ?_ fun s' J => ⟨.non, H1, J, rfl, q⟩
    rw [← Paired.length rw', sizeLine_eq]
    omega
theorem ps_oset (ho : PE X o to) (he : PE X e te) (hs : swapsWith e (some (.Attribute o f p')) pos.line X.env = pure false := by rfl) : PS X (.Assign [.Attribute o f p'] e pos) (tOset X.K f to te) := by
  refine ⟨fun pins s σ H D I h => ?_⟩
  refine plainObj_wpAny_Assign_Attribute (thn (he.run pins s σ H _ I h) fun v s1 h1 => ?_) hs
  obtain ⟨y, H1, I1, r1, q1⟩ := h1
  refine thn (ho.run pins s1 σ H1 _ I1 q1) fun u s2 h2 => ?_
  obtain ⟨x, H2, I2, r2, a, C, ex, T, hno, q⟩ := h2
  subst ex
  obtain rfl : u = Value.ref a := r2
  rcases q with ⟨ea, q⟩ | ⟨dx, fs, ea, ed, hl, q⟩
  · exact oNew T I2 ea hno r1 fun dx s' n ne J => ⟨σ, _, J, q dx n ne⟩
  · exact oOld T I2 ea ed hl hno r1 fun s' J => ⟨σ, _, J, q⟩
theorem pmk_fault {CXX : CXT} {x : Str} {C fI : Addr} {k : Nat} {fd : FuncData} {ps : List Str} {sp : Sp} (T : OexE X.K C) (iC : PySem.W.findIn X.K (.ref C) "__init__" = some (some (.ref fI))) (tI : PySem.W.typeIn X.K (.ref fI) = some (.type "function"))
    (F1 : FnOk X.prog X.w X.K X.mg X.base CXX k fI fd ps sp) (hr : Room (k + 1) X.A) (hb : Binds X.K fd ps []) (hx : Passes CXX X (fun _ _ _ => False)) (hm : X.mg x = some (.ref C)) (hg : Gl X x) (ha : PA X (e :: es) ta)
    (hdb : (x == ("__debug__" : Str)) = false := by decide) (he : starEach (e :: es) X.env = (false, eval e X.env) :: starEach es X.env := by rfl) (hpl : (backTo pos (starEach es X.env)).any (·.1) = false := by rfl) :
    PMk X (.Call (.Name x p) (e :: es) [] pos) (tMkE C sp ta) := by
  intro pins s σ H Q I h
  refine wpAny_Call_Name_kw (ld_glob I hg hm ?_ hdb)
  refine PySem.W.callWith_K (h₀ := X.base) I.ok.mod.kin T.kC (thn (ha.run pos pins s σ H _ I h) fun us s1 hh => ?_) he hpl
  obtain ⟨vs, H1, I1, r1, hz, q1⟩ := hh
  refine ⟨I1.kIn, ?_⟩
  show wpAny _ _ (call (.ref C) us) _ _ _
  obtain ⟨nm, N, qn, bs, bm, hdct, sn, sub, ab, col, dd, k0, k1, k2, k3, k5, hC, hT⟩ := PySem.W.excInit_of I1.kIn T.q
  obtain ⟨hp, g, dr, tk, os⟩ := s1
  have hsz : hp.objs.size ≤ hp.objs.size + 1 := Nat.le_succ _
  have hn : H1 (hp.objs.size + 1) = none := I1.hok.fresh hsz
  have hq := q1 (hp.objs.size + 1) hn
  have kk : ∀ b o, hp.get? b = some o → ((hp.push (PySem.W.kdv_tup us)).push (PySem.HandSPX.excO C hp.objs.size)).get? b = some o := fun b o z => Heap.get?_push_of_some _ (Heap.get?_push_of_some _ z)
  have hget : ((hp.push (PySem.W.kdv_tup us)).push (PySem.HandSPX.excO C hp.objs.size)).get? (hp.objs.size + 1) = some (PySem.HandSPX.excO C hp.objs.size) := by heap_get
  have I2 : Inv X pins σ (upd H1 (hp.objs.size + 1) (exo (hp.objs.size + 1) C none)) ⟨(hp.push (PySem.W.kdv_tup us)).push (PySem.HandSPX.excO C hp.objs.size), g, dr, tk, os⟩ :=
    I1.laid (t' := tk) (a := hp.objs.size + 1) (o := exo (hp.objs.size + 1) C none) (h' := (hp.push (PySem.W.kdv_tup us)).push (PySem.HandSPX.excO C hp.objs.size)) kk hsz (exo_ok hget)
  have r2 : Vals (V.ref (hp.objs.size + 1) :: vs) (Value.ref (hp.objs.size + 1) :: us) := .cons rfl r1
  have hl : (Value.ref (hp.objs.size + 1) :: us ++ []).length = ps.length := by
    have z := r2.length
    rw [F1.len _ _ _ _ hq] at z
    rw [List.append_nil]
    exact z.symm
  have hus : us.length ≤ sizeLine := by
    rw [← Paired.length r1, sizeLine_eq]
    omega
  have bb := hb _ (Value.ref (hp.objs.size + 1) :: us) I2.kIn hl
  rw [List.append_nil] at bb
  refine wpAny_call (PySem.HandSPX.call_own F.excBase_Exception hT hC (PySem.W.looks_findIn I1.kIn iC) (fun self => PySem.W.bind_fn I1.kIn self tI) hus
    (codeAny_mono (F1.run _ X.stack _ _ ⟨Value.ref (hp.objs.size + 1) :: us, []⟩ (Value.ref (hp.objs.size + 1) :: us) _ _ (fun _ _ _ => False) (hr.make C us []) (I2.env0.make C us []) bb r2 hq) fun r s' hq' => ?_))
  cases r with
  | error er => exact hx pins σ _ _ er s' I2 hq'
  | ok fl =>
    cases fl with
    | ret u =>
      obtain ⟨v, H2, os2, bare2, un2, hok2, rv, ev, d, fs, ea, ed, hd1, q2⟩ := hq'
      subst ev
      obtain ⟨h2, g2, d2, t2, os'⟩ := s'
      exact ⟨rv, mk_end (raises_own T.exC T.tyC) I1 hsz kk un2 hok2 os2 bare2 ea ed hd1 q2⟩
    | next => exact False.elim hq'
    | brk => exact False.elim hq'
    | cont => exact False.elim hq'
end
end SI

set_option maxHeartbeats 4000000
namespace SI
open PySem PySem.Spec PyProof.Rows L2
abbrev s_Call_init : Stmt := (inClass (topS 13) 0)
theorem sc_Call_init : FnScope ["self", "number", "numbers", "row"] ["self", "number", "numbers", "row"] (defScope s_Call_init) := ⟨rfl, rfl, rfl, by decide +kernel, rfl, by decide +kernel, by decide +kernel⟩
abbrev s_read_calls : Stmt := (topS 14)
theorem sc_read_calls : FnScope ["handed", "found", "place", "number", "row_place", "numbers", "row"] ["handed"] (defScope s_read_calls) := ⟨rfl, rfl, rfl, by decide +kernel, rfl, by decide +kernel, by decide +kernel⟩
abbrev s_needs_room : Stmt := (topS 15)
theorem sc_needs_room : FnScope ["call"] ["call"] (defScope s_needs_room) := ⟨rfl, rfl, rfl, by decide +kernel, rfl, by decide +kernel, by decide +kernel⟩
abbrev s_takes_coalition : Stmt := (topS 16)
theorem sc_takes_coalition : FnScope ["call"] ["call"] (defScope s_takes_coalition) := ⟨rfl, rfl, rfl, by decide +kernel, rfl, by decide +kernel, by decide +kernel⟩
abbrev s_takes_packing : Stmt := (topS 17)
theorem sc_takes_packing : FnScope ["call"] ["call"] (defScope s_takes_packing) := ⟨rfl, rfl, rfl, by decide +kernel, rfl, by decide +kernel, by decide +kernel⟩
abbrev s_takes_player : Stmt := (topS 18)
theorem sc_takes_player : FnScope ["call"] ["call"] (defScope s_takes_player) := ⟨rfl, rfl, rfl, by decide +kernel, rfl, by decide +kernel, by decide +kernel⟩
abbrev s_takes_rule : Stmt := (topS 19)
theorem sc_takes_rule : FnScope ["call"] ["call"] (defScope s_takes_rule) := ⟨rfl, rfl, rfl, by decide +kernel, rfl, by decide +kernel, by decide +kernel⟩
abbrev s_arguments_fit : Stmt := (topS 20)
theorem sc_arguments_fit : FnScope ["call"] ["call"] (defScope s_arguments_fit) := ⟨rfl, rfl, rfl, by decide +kernel, rfl, by decide +kernel, by decide +kernel⟩
abbrev s_numbers_fit : Stmt := (topS 21)
theorem sc_numbers_fit : FnScope ["call", "place", "limits"] ["call"] (defScope s_numbers_fit) := ⟨rfl, rfl, rfl, by decide +kernel, rfl, by decide +kernel, by decide +kernel⟩
abbrev s_row_fits : Stmt := (topS 22)
theorem sc_row_fits : FnScope ["call"] ["call"] (defScope s_row_fits) := ⟨rfl, rfl, rfl, by decide +kernel, rfl, by decide +kernel, by decide +kernel⟩
abbrev s_fits_text : Stmt := (topS 23)
theorem sc_fits_text : FnScope ["row", "code"] ["row"] (defScope s_fits_text) := ⟨rfl, rfl, rfl, by decide +kernel, rfl, by decide +kernel, by decide +kernel⟩
abbrev s_fits_steps : Stmt := (topS 24)
theorem sc_fits_steps : FnScope ["row", "step"] ["row"] (defScope s_fits_steps) := ⟨rfl, rfl, rfl, by decide +kernel, rfl, by decide +kernel, by decide +kernel⟩
abbrev s_fits_packing : Stmt := (topS 25)
theorem sc_fits_packing : FnScope ["row", "number"] ["row"] (defScope s_fits_packing) := ⟨rfl, rfl, rfl, by decide +kernel, rfl, by decide +kernel, by decide +kernel⟩
abbrev s_is_paired : Stmt := (topS 26)
theorem sc_is_paired : FnScope ["row"] ["row"] (defScope s_is_paired) := ⟨rfl, rfl, rfl, by decide +kernel, rfl, by decide +kernel, by decide +kernel⟩
abbrev s_pairs : Stmt := (topS 27)
theorem sc_pairs : FnScope ["row", "place"] ["row"] (defScope s_pairs) := ⟨rfl, rfl, rfl, by decide +kernel, rfl, by decide +kernel, by decide +kernel⟩
abbrev s_Player_init : Stmt := (inClass (topS 29) 0)
theorem sc_Player_init : FnScope ["self", "name", "weight"] ["self", "name", "weight"] (defScope s_Player_init) := ⟨rfl, rfl, rfl, by decide +kernel, rfl, by decide +kernel, by decide +kernel⟩
abbrev s_Rule_init : Stmt := (inClass (topS 30) 0)
theorem sc_Rule_init : FnScope ["self", "absent", "needed", "substitutes"] ["self", "absent", "needed", "substitutes"] (defScope s_Rule_init) := ⟨rfl, rfl, rfl, by decide +kernel, rfl, by decide +kernel, by decide +kernel⟩
abbrev s_Room_init : Stmt := (inClass (topS 31) 0)
theorem sc_Room_init : FnScope ["self"] ["self"] (defScope s_Room_init) := ⟨rfl, rfl, rfl, by decide +kernel, rfl, by decide +kernel, by decide +kernel⟩
abbrev s_Session_init : Stmt := (inClass (topS 32) 0)
theorem sc_Session_init : FnScope ["self"] ["self"] (defScope s_Session_init) := ⟨rfl, rfl, rfl, by decide +kernel, rfl, by decide +kernel, by decide +kernel⟩
abbrev s_everyone : Stmt := (topS 35)
theorem sc_everyone : FnScope ["room"] ["room"] (defScope s_everyone) := ⟨rfl, rfl, rfl, by decide +kernel, rfl, by decide +kernel, by decide +kernel⟩
abbrev s_exists : Stmt := (topS 36)
theorem sc_exists : FnScope ["room", "coalition"] ["room", "coalition"] (defScope s_exists) := ⟨rfl, rfl, rfl, by decide +kernel, rfl, by decide +kernel, by decide +kernel⟩
abbrev s_has_member : Stmt := (topS 37)
theorem sc_has_member : FnScope ["coalition", "player"] ["coalition", "player"] (defScope s_has_member) := ⟨rfl, rfl, rfl, by decide +kernel, rfl, by decide +kernel, by decide +kernel⟩
abbrev s_size : Stmt := (topS 38)
theorem sc_size : FnScope ["coalition", "power"] ["coalition"] (defScope s_size) := ⟨rfl, rfl, rfl, by decide +kernel, rfl, by decide +kernel, by decide +kernel⟩
abbrev s_is_enabled : Stmt := (topS 39)
theorem sc_is_enabled : FnScope ["rule", "coalition", "present", "player"] ["rule", "coalition"] (defScope s_is_enabled) := ⟨rfl, rfl, rfl, by decide +kernel, rfl, by decide +kernel, by decide +kernel⟩
abbrev s_round_steps : Stmt := (topS 40)
theorem sc_round_steps : FnScope ["room", "coalition", "chosen", "number", "rule", "waits", "player"] ["room", "coalition"] (defScope s_round_steps) := ⟨rfl, rfl, rfl, by decide +kernel, rfl, by decide +kernel, by decide +kernel⟩
abbrev s_joined : Stmt := (topS 41)
theorem sc_joined : FnScope ["coalition", "steps", "whole", "step"] ["coalition", "steps"] (defScope s_joined) := ⟨rfl, rfl, rfl, by decide +kernel, rfl, by decide +kernel, by decide +kernel⟩
abbrev s_all_steps : Stmt := (topS 42)
theorem sc_all_steps : FnScope ["room", "coalition", "steps", "joining"] ["room", "coalition"] (defScope s_all_steps) := ⟨rfl, rfl, rfl, by decide +kernel, rfl, by decide +kernel, by decide +kernel⟩
abbrev s_steps_hold : Stmt := (topS 43)
theorem sc_steps_hold : FnScope ["room", "coalition", "steps", "present", "player", "number", "rule"] ["room", "coalition", "steps"] (defScope s_steps_hold) := ⟨rfl, rfl, rfl, by decide +kernel, rfl, by decide +kernel, by decide +kernel⟩
abbrev s_nobody_joins : Stmt := (topS 44)
theorem sc_nobody_joins : FnScope ["room", "coalition"] ["room", "coalition"] (defScope s_nobody_joins) := ⟨rfl, rfl, rfl, by decide +kernel, rfl, by decide +kernel, by decide +kernel⟩
abbrev s_suffices : Stmt := (topS 45)
theorem sc_suffices : FnScope ["room", "coalition"] ["room", "coalition"] (defScope s_suffices) := ⟨rfl, rfl, rfl, by decide +kernel, rfl, by decide +kernel, by decide +kernel⟩
abbrev s_blocks : Stmt := (topS 46)
theorem sc_blocks : FnScope ["room", "coalition"] ["room", "coalition"] (defScope s_blocks) := ⟨rfl, rfl, rfl, by decide +kernel, rfl, by decide +kernel, by decide +kernel⟩
abbrev s_sufficient_flags : Stmt := (topS 47)
theorem sc_sufficient_flags : FnScope ["room", "whole", "flags", "coalition"] ["room"] (defScope s_sufficient_flags) := ⟨rfl, rfl, rfl, by decide +kernel, rfl, by decide +kernel, by decide +kernel⟩
abbrev s_sufficient_coalitions : Stmt := (topS 48)
theorem sc_sufficient_coalitions : FnScope ["room", "flags", "coalition"] ["room"] (defScope s_sufficient_coalitions) := ⟨rfl, rfl, rfl, by decide +kernel, rfl, by decide +kernel, by decide +kernel⟩
abbrev s_blocking_flags : Stmt := (topS 49)
theorem sc_blocking_flags : FnScope ["room", "flag"] ["room"] (defScope s_blocking_flags) := ⟨rfl, rfl, rfl, by decide +kernel, rfl, by decide +kernel, by decide +kernel⟩
abbrev s_return_flags : Stmt := (topS 50)
theorem sc_return_flags : FnScope ["room", "coalition", "flags", "others"] ["room", "coalition"] (defScope s_return_flags) := ⟨rfl, rfl, rfl, by decide +kernel, rfl, by decide +kernel, by decide +kernel⟩
abbrev s_minimal_coalitions : Stmt := (topS 51)
theorem sc_minimal_coalitions : FnScope ["flags", "coalition"] ["flags"] (defScope s_minimal_coalitions) := ⟨rfl, rfl, rfl, by decide +kernel, rfl, by decide +kernel, by decide +kernel⟩
abbrev s_is_minimal : Stmt := (topS 52)
theorem sc_is_minimal : FnScope ["flags", "coalition", "power"] ["flags", "coalition"] (defScope s_is_minimal) := ⟨rfl, rfl, rfl, by decide +kernel, rfl, by decide +kernel, by decide +kernel⟩
abbrev s_swings : Stmt := (topS 55)
theorem sc_swings : FnScope ["room", "player", "flags", "coalition"] ["room", "player"] (defScope s_swings) := ⟨rfl, rfl, rfl, by decide +kernel, rfl, by decide +kernel, by decide +kernel⟩
abbrev s_is_swing : Stmt := (topS 56)
theorem sc_is_swing : FnScope ["flags", "coalition", "player"] ["flags", "coalition", "player"] (defScope s_is_swing) := ⟨rfl, rfl, rfl, by decide +kernel, rfl, by decide +kernel, by decide +kernel⟩
abbrev s_shapley_shubik : Stmt := (topS 57)
theorem sc_shapley_shubik : FnScope ["room", "player", "others", "ahead", "orders", "coalition", "count"] ["room", "player"] (defScope s_shapley_shubik) := ⟨rfl, rfl, rfl, by decide +kernel, rfl, by decide +kernel, by decide +kernel⟩
abbrev s_counts_by_size : Stmt := (topS 58)
theorem sc_counts_by_size : FnScope ["room", "counts", "coalition"] ["room"] (defScope s_counts_by_size) := ⟨rfl, rfl, rfl, by decide +kernel, rfl, by decide +kernel, by decide +kernel⟩
abbrev s_continuation : Stmt := (topS 59)
theorem sc_continuation : FnScope ["room", "a", "b", "players", "chances", "staying", "count"] ["room", "a", "b"] (defScope s_continuation) := ⟨rfl, rfl, rfl, by decide +kernel, rfl, by decide +kernel, by decide +kernel⟩
abbrev s_raised : Stmt := (topS 60)
theorem sc_raised : FnScope ["base", "exponent", "product", "turn"] ["base", "exponent"] (defScope s_raised) := ⟨rfl, rfl, rfl, by decide +kernel, rfl, by decide +kernel, by decide +kernel⟩
abbrev s_lowest_terms : Stmt := (topS 61)
theorem sc_lowest_terms : FnScope ["numerator", "denominator", "divisor"] ["numerator", "denominator"] (defScope s_lowest_terms) := ⟨rfl, rfl, rfl, by decide +kernel, rfl, by decide +kernel, by decide +kernel⟩
abbrev s_common_divisor : Stmt := (topS 62)
theorem sc_common_divisor : FnScope ["first", "second", "larger", "smaller", "rest"] ["first", "second"] (defScope s_common_divisor) := ⟨rfl, rfl, rfl, by decide +kernel, rfl, by decide +kernel, by decide +kernel⟩
abbrev s_TextFault_init : Stmt := (inClass (topS 67) 0)
theorem sc_TextFault_init : FnScope ["self", "kind", "offset"] ["self", "kind", "offset"] (defScope s_TextFault_init) := ⟨rfl, rfl, rfl, by decide +kernel, rfl, by decide +kernel, by decide +kernel⟩
abbrev s_LineReader_init : Stmt := (inClass (topS 68) 0)
theorem sc_LineReader_init : FnScope ["self", "line", "start"] ["self", "line", "start"] (defScope s_LineReader_init) := ⟨rfl, rfl, rfl, by decide +kernel, rfl, by decide +kernel, by decide +kernel⟩
abbrev s_LineReader_is_done : Stmt := (inClass (topS 68) 1)
theorem sc_LineReader_is_done : FnScope ["self"] ["self"] (defScope s_LineReader_is_done) := ⟨rfl, rfl, rfl, by decide +kernel, rfl, by decide +kernel, by decide +kernel⟩
abbrev s_LineReader_word : Stmt := (inClass (topS 68) 2)
theorem sc_LineReader_word : FnScope ["self"] ["self"] (defScope s_LineReader_word) := ⟨rfl, rfl, rfl, by decide +kernel, rfl, by decide +kernel, by decide +kernel⟩
abbrev s_LineReader_place : Stmt := (inClass (topS 68) 3)
theorem sc_LineReader_place : FnScope ["self"] ["self"] (defScope s_LineReader_place) := ⟨rfl, rfl, rfl, by decide +kernel, rfl, by decide +kernel, by decide +kernel⟩
abbrev s_LineReader_advance : Stmt := (inClass (topS 68) 4)
theorem sc_LineReader_advance : FnScope ["self"] ["self"] (defScope s_LineReader_advance) := ⟨rfl, rfl, rfl, by decide +kernel, rfl, by decide +kernel, by decide +kernel⟩
abbrev s_LineReader_fail : Stmt := (inClass (topS 68) 5)
theorem sc_LineReader_fail : FnScope ["self", "kind"] ["self", "kind"] (defScope s_LineReader_fail) := ⟨rfl, rfl, rfl, by decide +kernel, rfl, by decide +kernel, by decide +kernel⟩
abbrev s_line_tokens : Stmt := (topS 69)
theorem sc_line_tokens : FnScope ["line", "start", "tokens", "place", "piece"] ["line", "start"] (defScope s_line_tokens) := ⟨rfl, rfl, rfl, by decide +kernel, rfl, by decide +kernel, by decide +kernel⟩
abbrev s_readable_text : Stmt := (topS 70)
theorem sc_readable_text : FnScope ["codes", "code"] ["codes"] (defScope s_readable_text) := ⟨rfl, rfl, rfl, by decide +kernel, rfl, by decide +kernel, by decide +kernel⟩
abbrev s_readable_sign : Stmt := (topS 71)
theorem sc_readable_sign : FnScope ["code"] ["code"] (defScope s_readable_sign) := ⟨rfl, rfl, rfl, by decide +kernel, rfl, by decide +kernel, by decide +kernel⟩
abbrev s_parse_room : Stmt := (topS 88)
theorem sc_parse_room : FnScope ["codes", "text", "room", "start", "line"] ["codes"] (defScope s_parse_room) := ⟨rfl, rfl, rfl, by decide +kernel, rfl, by decide +kernel, by decide +kernel⟩
abbrev s_parse_line : Stmt := (topS 89)
theorem sc_parse_line : FnScope ["room", "reader"] ["room", "reader"] (defScope s_parse_line) := ⟨rfl, rfl, rfl, by decide +kernel, rfl, by decide +kernel, by decide +kernel⟩
abbrev s_parse_player : Stmt := (topS 90)
theorem sc_parse_player : FnScope ["room", "reader", "name", "weight"] ["room", "reader"] (defScope s_parse_player) := ⟨rfl, rfl, rfl, by decide +kernel, rfl, by decide +kernel, by decide +kernel⟩
abbrev s_parse_rule : Stmt := (topS 91)
theorem sc_parse_rule : FnScope ["room", "reader", "absent", "substitutes", "place", "needed"] ["room", "reader"] (defScope s_parse_rule) := ⟨rfl, rfl, rfl, by decide +kernel, rfl, by decide +kernel, by decide +kernel⟩
abbrev s_take_substitutes : Stmt := (topS 92)
theorem sc_take_substitutes : FnScope ["room", "reader", "absent", "substitutes"] ["room", "reader", "absent"] (defScope s_take_substitutes) := ⟨rfl, rfl, rfl, by decide +kernel, rfl, by decide +kernel, by decide +kernel⟩
abbrev s_take_substitute : Stmt := (topS 93)
theorem sc_take_substitute : FnScope ["room", "reader", "absent", "earlier", "player"] ["room", "reader", "absent", "earlier"] (defScope s_take_substitute) := ⟨rfl, rfl, rfl, by decide +kernel, rfl, by decide +kernel, by decide +kernel⟩
abbrev s_checked_player : Stmt := (topS 94)
theorem sc_checked_player : FnScope ["room", "reader", "player"] ["room", "reader"] (defScope s_checked_player) := ⟨rfl, rfl, rfl, by decide +kernel, rfl, by decide +kernel, by decide +kernel⟩
abbrev s_checked_name : Stmt := (topS 95)
theorem sc_checked_name : FnScope ["reader"] ["reader"] (defScope s_checked_name) := ⟨rfl, rfl, rfl, by decide +kernel, rfl, by decide +kernel, by decide +kernel⟩
abbrev s_take_word : Stmt := (topS 96)
theorem sc_take_word : FnScope ["reader", "expected"] ["reader", "expected"] (defScope s_take_word) := ⟨rfl, rfl, rfl, by decide +kernel, rfl, by decide +kernel, by decide +kernel⟩
abbrev s_take_number : Stmt := (topS 97)
theorem sc_take_number : FnScope ["reader", "least", "most", "number"] ["reader", "least", "most"] (defScope s_take_number) := ⟨rfl, rfl, rfl, by decide +kernel, rfl, by decide +kernel, by decide +kernel⟩
abbrev s_player_number : Stmt := (topS 98)
theorem sc_player_number : FnScope ["room", "name", "number", "player"] ["room", "name"] (defScope s_player_number) := ⟨rfl, rfl, rfl, by decide +kernel, rfl, by decide +kernel, by decide +kernel⟩
abbrev s_is_name : Stmt := (topS 99)
theorem sc_is_name : FnScope ["word", "sign"] ["word"] (defScope s_is_name) := ⟨rfl, rfl, rfl, by decide +kernel, rfl, by decide +kernel, by decide +kernel⟩
abbrev s_is_number : Stmt := (topS 100)
theorem sc_is_number : FnScope ["word", "sign"] ["word"] (defScope s_is_number) := ⟨rfl, rfl, rfl, by decide +kernel, rfl, by decide +kernel, by decide +kernel⟩
abbrev s_canonical_codes : Stmt := (topS 102)
theorem sc_canonical_codes : FnScope ["room", "lines", "player", "sign", "rule"] ["room"] (defScope s_canonical_codes) := ⟨rfl, rfl, rfl, by decide +kernel, rfl, by decide +kernel, by decide +kernel⟩
abbrev s_player_line : Stmt := (topS 103)
theorem sc_player_line : FnScope ["player", "name", "weight"] ["player"] (defScope s_player_line) := ⟨rfl, rfl, rfl, by decide +kernel, rfl, by decide +kernel, by decide +kernel⟩
abbrev s_rule_line : Stmt := (topS 104)
theorem sc_rule_line : FnScope ["room", "rule", "words", "substitute"] ["room", "rule"] (defScope s_rule_line) := ⟨rfl, rfl, rfl, by decide +kernel, rfl, by decide +kernel, by decide +kernel⟩
abbrev s_weight_of : Stmt := (topS 106)
theorem sc_weight_of : FnScope ["room", "coalition", "number", "player"] ["room", "coalition"] (defScope s_weight_of) := ⟨rfl, rfl, rfl, by decide +kernel, rfl, by decide +kernel, by decide +kernel⟩
abbrev s_total_weight : Stmt := (topS 107)
theorem sc_total_weight : FnScope ["room"] ["room"] (defScope s_total_weight) := ⟨rfl, rfl, rfl, by decide +kernel, rfl, by decide +kernel, by decide +kernel⟩
abbrev s_cheapest : Stmt := (topS 108)
theorem sc_cheapest : FnScope ["room", "coalition"] ["room"] (defScope s_cheapest) := ⟨rfl, rfl, rfl, by decide +kernel, rfl, by decide +kernel, by decide +kernel⟩
abbrev s_packing_holds : Stmt := (topS 109)
theorem sc_packing_holds : FnScope ["room", "packing", "pair", "number", "player"] ["room", "packing"] (defScope s_packing_holds) := ⟨rfl, rfl, rfl, by decide +kernel, rfl, by decide +kernel, by decide +kernel⟩
abbrev s_packed_on : Stmt := (topS 110)
theorem sc_packed_on : FnScope ["packing", "player", "pair"] ["packing", "player"] (defScope s_packed_on) := ⟨rfl, rfl, rfl, by decide +kernel, rfl, by decide +kernel, by decide +kernel⟩
abbrev s_bound : Stmt := (topS 111)
theorem sc_bound : FnScope ["packing", "pair"] ["packing"] (defScope s_bound) := ⟨rfl, rfl, rfl, by decide +kernel, rfl, by decide +kernel, by decide +kernel⟩
abbrev s_load_room : Stmt := (topS 117)
theorem sc_load_room : FnScope ["session", "call", "room"] ["session", "call"] (defScope s_load_room) := ⟨rfl, rfl, rfl, by decide +kernel, rfl, by decide +kernel, by decide +kernel⟩
abbrev s_check_room : Stmt := (topS 118)
theorem sc_check_room : FnScope ["session", "call", "room", "fault"] ["session", "call"] (defScope s_check_room) := ⟨rfl, rfl, rfl, by decide +kernel, rfl, by decide +kernel, by decide +kernel⟩
abbrev s_print_room : Stmt := (topS 119)
theorem sc_print_room : FnScope ["session", "call"] ["session", "call"] (defScope s_print_room) := ⟨rfl, rfl, rfl, by decide +kernel, rfl, by decide +kernel, by decide +kernel⟩
abbrev s_acting_coalition : Stmt := (topS 120)
theorem sc_acting_coalition : FnScope ["session", "call", "coalition", "steps", "answer", "step"] ["session", "call"] (defScope s_acting_coalition) := ⟨rfl, rfl, rfl, by decide +kernel, rfl, by decide +kernel, by decide +kernel⟩
abbrev s_check_steps : Stmt := (topS 121)
theorem sc_check_steps : FnScope ["session", "call"] ["session", "call"] (defScope s_check_steps) := ⟨rfl, rfl, rfl, by decide +kernel, rfl, by decide +kernel, by decide +kernel⟩
abbrev s_is_closed : Stmt := (topS 122)
theorem sc_is_closed : FnScope ["session", "call"] ["session", "call"] (defScope s_is_closed) := ⟨rfl, rfl, rfl, by decide +kernel, rfl, by decide +kernel, by decide +kernel⟩
abbrev s_is_sufficient : Stmt := (topS 123)
theorem sc_is_sufficient : FnScope ["session", "call"] ["session", "call"] (defScope s_is_sufficient) := ⟨rfl, rfl, rfl, by decide +kernel, rfl, by decide +kernel, by decide +kernel⟩
abbrev s_is_blocking : Stmt := (topS 124)
theorem sc_is_blocking : FnScope ["session", "call"] ["session", "call"] (defScope s_is_blocking) := ⟨rfl, rfl, rfl, by decide +kernel, rfl, by decide +kernel, by decide +kernel⟩
abbrev s_minimal_sufficient : Stmt := (topS 125)
theorem sc_minimal_sufficient : FnScope ["session", "call"] ["session", "call"] (defScope s_minimal_sufficient) := ⟨rfl, rfl, rfl, by decide +kernel, rfl, by decide +kernel, by decide +kernel⟩
abbrev s_minimal_blocking : Stmt := (topS 126)
theorem sc_minimal_blocking : FnScope ["session", "call"] ["session", "call"] (defScope s_minimal_blocking) := ⟨rfl, rfl, rfl, by decide +kernel, rfl, by decide +kernel, by decide +kernel⟩
abbrev s_cheapest_sufficient : Stmt := (topS 127)
theorem sc_cheapest_sufficient : FnScope ["session", "call"] ["session", "call"] (defScope s_cheapest_sufficient) := ⟨rfl, rfl, rfl, by decide +kernel, rfl, by decide +kernel, by decide +kernel⟩
abbrev s_verify_packing : Stmt := (topS 128)
theorem sc_verify_packing : FnScope ["session", "call", "packing"] ["session", "call"] (defScope s_verify_packing) := ⟨rfl, rfl, rfl, by decide +kernel, rfl, by decide +kernel, by decide +kernel⟩
abbrev s_minimal_returns : Stmt := (topS 129)
theorem sc_minimal_returns : FnScope ["session", "call"] ["session", "call"] (defScope s_minimal_returns) := ⟨rfl, rfl, rfl, by decide +kernel, rfl, by decide +kernel, by decide +kernel⟩
abbrev s_swing_count : Stmt := (topS 130)
theorem sc_swing_count : FnScope ["session", "call"] ["session", "call"] (defScope s_swing_count) := ⟨rfl, rfl, rfl, by decide +kernel, rfl, by decide +kernel, by decide +kernel⟩
abbrev s_power_index : Stmt := (topS 131)
theorem sc_power_index : FnScope ["session", "call"] ["session", "call"] (defScope s_power_index) := ⟨rfl, rfl, rfl, by decide +kernel, rfl, by decide +kernel, by decide +kernel⟩
abbrev s_continuation_probability : Stmt := (topS 132)
theorem sc_continuation_probability : FnScope ["session", "call"] ["session", "call"] (defScope s_continuation_probability) := ⟨rfl, rfl, rfl, by decide +kernel, rfl, by decide +kernel, by decide +kernel⟩
abbrev s_sufficient_counts : Stmt := (topS 133)
theorem sc_sufficient_counts : FnScope ["session", "call"] ["session", "call"] (defScope s_sufficient_counts) := ⟨rfl, rfl, rfl, by decide +kernel, rfl, by decide +kernel, by decide +kernel⟩
abbrev s_remove_rule : Stmt := (topS 134)
theorem sc_remove_rule : FnScope ["session", "call", "rules"] ["session", "call"] (defScope s_remove_rule) := ⟨rfl, rfl, rfl, by decide +kernel, rfl, by decide +kernel, by decide +kernel⟩
abbrev s_set_weight : Stmt := (topS 135)
theorem sc_set_weight : FnScope ["session", "call", "player"] ["session", "call"] (defScope s_set_weight) := ⟨rfl, rfl, rfl, by decide +kernel, rfl, by decide +kernel, by decide +kernel⟩
abbrev s_summary : Stmt := (topS 136)
theorem sc_summary : FnScope ["session", "call", "room"] ["session", "call"] (defScope s_summary) := ⟨rfl, rfl, rfl, by decide +kernel, rfl, by decide +kernel, by decide +kernel⟩
abbrev s_listed : Stmt := (topS 137)
theorem sc_listed : FnScope ["numbers"] ["numbers"] (defScope s_listed) := ⟨rfl, rfl, rfl, by decide +kernel, rfl, by decide +kernel, by decide +kernel⟩
abbrev s_judged : Stmt := (topS 138)
theorem sc_judged : FnScope ["holds"] ["holds"] (defScope s_judged) := ⟨rfl, rfl, rfl, by decide +kernel, rfl, by decide +kernel, by decide +kernel⟩
abbrev s_all_are_there : Stmt := (topS 140)
theorem sc_all_are_there : FnScope ["room", "call", "pair"] ["room", "call"] (defScope s_all_are_there) := ⟨rfl, rfl, rfl, by decide +kernel, rfl, by decide +kernel, by decide +kernel⟩
abbrev s_perform : Stmt := (topS 141)
theorem sc_perform : FnScope ["session", "call", "operation"] ["session", "call"] (defScope s_perform) := ⟨rfl, rfl, rfl, by decide +kernel, rfl, by decide +kernel, by decide +kernel⟩
abbrev s_answers : Stmt := (topS 143)
theorem sc_answers : FnScope ["calls", "session", "answered", "call", "answer"] ["calls"] (defScope s_answers) := ⟨rfl, rfl, rfl, by decide +kernel, rfl, by decide +kernel, by decide +kernel⟩
end SI

set_option maxHeartbeats 0
namespace SI
open PySem PySem.Spec PyProof.Rows L2
def d_Call_init : He.DefD := ⟨("Call", some "__init__"), "__init__", "Call.__init__", defArgs s_Call_init, defBody s_Call_init, defScope s_Call_init, [], []⟩
def d_read_calls : He.DefD := ⟨("read_calls", none), "read_calls", "read_calls", defArgs s_read_calls, defBody s_read_calls, defScope s_read_calls, [], []⟩
def d_needs_room : He.DefD := ⟨("needs_room", none), "needs_room", "needs_room", defArgs s_needs_room, defBody s_needs_room, defScope s_needs_room, [], []⟩
def d_takes_coalition : He.DefD := ⟨("takes_coalition", none), "takes_coalition", "takes_coalition", defArgs s_takes_coalition, defBody s_takes_coalition, defScope s_takes_coalition, [], []⟩
def d_takes_packing : He.DefD := ⟨("takes_packing", none), "takes_packing", "takes_packing", defArgs s_takes_packing, defBody s_takes_packing, defScope s_takes_packing, [], []⟩
def d_takes_player : He.DefD := ⟨("takes_player", none), "takes_player", "takes_player", defArgs s_takes_player, defBody s_takes_player, defScope s_takes_player, [], []⟩
def d_takes_rule : He.DefD := ⟨("takes_rule", none), "takes_rule", "takes_rule", defArgs s_takes_rule, defBody s_takes_rule, defScope s_takes_rule, [], []⟩
def d_arguments_fit : He.DefD := ⟨("arguments_fit", none), "arguments_fit", "arguments_fit", defArgs s_arguments_fit, defBody s_arguments_fit, defScope s_arguments_fit, [], []⟩
def d_numbers_fit : He.DefD := ⟨("numbers_fit", none), "numbers_fit", "numbers_fit", defArgs s_numbers_fit, defBody s_numbers_fit, defScope s_numbers_fit, [], []⟩
def d_row_fits : He.DefD := ⟨("row_fits", none), "row_fits", "row_fits", defArgs s_row_fits, defBody s_row_fits, defScope s_row_fits, [], []⟩
def d_fits_text : He.DefD := ⟨("fits_text", none), "fits_text", "fits_text", defArgs s_fits_text, defBody s_fits_text, defScope s_fits_text, [], []⟩
def d_fits_steps : He.DefD := ⟨("fits_steps", none), "fits_steps", "fits_steps", defArgs s_fits_steps, defBody s_fits_steps, defScope s_fits_steps, [], []⟩
def d_fits_packing : He.DefD := ⟨("fits_packing", none), "fits_packing", "fits_packing", defArgs s_fits_packing, defBody s_fits_packing, defScope s_fits_packing, [], []⟩
def d_is_paired : He.DefD := ⟨("is_paired", none), "is_paired", "is_paired", defArgs s_is_paired, defBody s_is_paired, defScope s_is_paired, [], []⟩
def d_pairs : He.DefD := ⟨("pairs", none), "pairs", "pairs", defArgs s_pairs, defBody s_pairs, defScope s_pairs, [], []⟩
def d_Player_init : He.DefD := ⟨("Player", some "__init__"), "__init__", "Player.__init__", defArgs s_Player_init, defBody s_Player_init, defScope s_Player_init, [], []⟩
def d_Rule_init : He.DefD := ⟨("Rule", some "__init__"), "__init__", "Rule.__init__", defArgs s_Rule_init, defBody s_Rule_init, defScope s_Rule_init, [], []⟩
def d_Room_init : He.DefD := ⟨("Room", some "__init__"), "__init__", "Room.__init__", defArgs s_Room_init, defBody s_Room_init, defScope s_Room_init, [], []⟩
def d_Session_init : He.DefD := ⟨("Session", some "__init__"), "__init__", "Session.__init__", defArgs s_Session_init, defBody s_Session_init, defScope s_Session_init, [], []⟩
def d_everyone : He.DefD := ⟨("everyone", none), "everyone", "everyone", defArgs s_everyone, defBody s_everyone, defScope s_everyone, [], []⟩
def d_exists : He.DefD := ⟨("exists", none), "exists", "exists", defArgs s_exists, defBody s_exists, defScope s_exists, [], []⟩
def d_has_member : He.DefD := ⟨("has_member", none), "has_member", "has_member", defArgs s_has_member, defBody s_has_member, defScope s_has_member, [], []⟩
def d_size : He.DefD := ⟨("size", none), "size", "size", defArgs s_size, defBody s_size, defScope s_size, [], []⟩
def d_is_enabled : He.DefD := ⟨("is_enabled", none), "is_enabled", "is_enabled", defArgs s_is_enabled, defBody s_is_enabled, defScope s_is_enabled, [], []⟩
def d_round_steps : He.DefD := ⟨("round_steps", none), "round_steps", "round_steps", defArgs s_round_steps, defBody s_round_steps, defScope s_round_steps, [], []⟩
def d_joined : He.DefD := ⟨("joined", none), "joined", "joined", defArgs s_joined, defBody s_joined, defScope s_joined, [], []⟩
def d_all_steps : He.DefD := ⟨("all_steps", none), "all_steps", "all_steps", defArgs s_all_steps, defBody s_all_steps, defScope s_all_steps, [], []⟩
def d_steps_hold : He.DefD := ⟨("steps_hold", none), "steps_hold", "steps_hold", defArgs s_steps_hold, defBody s_steps_hold, defScope s_steps_hold, [], []⟩
def d_nobody_joins : He.DefD := ⟨("nobody_joins", none), "nobody_joins", "nobody_joins", defArgs s_nobody_joins, defBody s_nobody_joins, defScope s_nobody_joins, [], []⟩
def d_suffices : He.DefD := ⟨("suffices", none), "suffices", "suffices", defArgs s_suffices, defBody s_suffices, defScope s_suffices, [], []⟩
def d_blocks : He.DefD := ⟨("blocks", none), "blocks", "blocks", defArgs s_blocks, defBody s_blocks, defScope s_blocks, [], []⟩
def d_sufficient_flags : He.DefD := ⟨("sufficient_flags", none), "sufficient_flags", "sufficient_flags", defArgs s_sufficient_flags, defBody s_sufficient_flags, defScope s_sufficient_flags, [], []⟩
def d_sufficient_coalitions : He.DefD := ⟨("sufficient_coalitions", none), "sufficient_coalitions", "sufficient_coalitions", defArgs s_sufficient_coalitions, defBody s_sufficient_coalitions, defScope s_sufficient_coalitions, [], []⟩
def d_blocking_flags : He.DefD := ⟨("blocking_flags", none), "blocking_flags", "blocking_flags", defArgs s_blocking_flags, defBody s_blocking_flags, defScope s_blocking_flags, [], []⟩
def d_return_flags : He.DefD := ⟨("return_flags", none), "return_flags", "return_flags", defArgs s_return_flags, defBody s_return_flags, defScope s_return_flags, [], []⟩
def d_minimal_coalitions : He.DefD := ⟨("minimal_coalitions", none), "minimal_coalitions", "minimal_coalitions", defArgs s_minimal_coalitions, defBody s_minimal_coalitions, defScope s_minimal_coalitions, [], []⟩
def d_is_minimal : He.DefD := ⟨("is_minimal", none), "is_minimal", "is_minimal", defArgs s_is_minimal, defBody s_is_minimal, defScope s_is_minimal, [], []⟩
def d_swings : He.DefD := ⟨("swings", none), "swings", "swings", defArgs s_swings, defBody s_swings, defScope s_swings, [], []⟩
def d_is_swing : He.DefD := ⟨("is_swing", none), "is_swing", "is_swing", defArgs s_is_swing, defBody s_is_swing, defScope s_is_swing, [], []⟩
def d_shapley_shubik : He.DefD := ⟨("shapley_shubik", none), "shapley_shubik", "shapley_shubik", defArgs s_shapley_shubik, defBody s_shapley_shubik, defScope s_shapley_shubik, [], []⟩
def d_counts_by_size : He.DefD := ⟨("counts_by_size", none), "counts_by_size", "counts_by_size", defArgs s_counts_by_size, defBody s_counts_by_size, defScope s_counts_by_size, [], []⟩
def d_continuation : He.DefD := ⟨("continuation", none), "continuation", "continuation", defArgs s_continuation, defBody s_continuation, defScope s_continuation, [], []⟩
def d_raised : He.DefD := ⟨("raised", none), "raised", "raised", defArgs s_raised, defBody s_raised, defScope s_raised, [], []⟩
def d_lowest_terms : He.DefD := ⟨("lowest_terms", none), "lowest_terms", "lowest_terms", defArgs s_lowest_terms, defBody s_lowest_terms, defScope s_lowest_terms, [], []⟩
def d_common_divisor : He.DefD := ⟨("common_divisor", none), "common_divisor", "common_divisor", defArgs s_common_divisor, defBody s_common_divisor, defScope s_common_divisor, [], []⟩
def d_TextFault_init : He.DefD := ⟨("TextFault", some "__init__"), "__init__", "TextFault.__init__", defArgs s_TextFault_init, defBody s_TextFault_init, defScope s_TextFault_init, [], []⟩
def d_LineReader_init : He.DefD := ⟨("LineReader", some "__init__"), "__init__", "LineReader.__init__", defArgs s_LineReader_init, defBody s_LineReader_init, defScope s_LineReader_init, [], []⟩
def d_LineReader_is_done : He.DefD := ⟨("LineReader", some "is_done"), "is_done", "LineReader.is_done", defArgs s_LineReader_is_done, defBody s_LineReader_is_done, defScope s_LineReader_is_done, [], []⟩
def d_LineReader_word : He.DefD := ⟨("LineReader", some "word"), "word", "LineReader.word", defArgs s_LineReader_word, defBody s_LineReader_word, defScope s_LineReader_word, [], []⟩
def d_LineReader_place : He.DefD := ⟨("LineReader", some "place"), "place", "LineReader.place", defArgs s_LineReader_place, defBody s_LineReader_place, defScope s_LineReader_place, [], []⟩
def d_LineReader_advance : He.DefD := ⟨("LineReader", some "advance"), "advance", "LineReader.advance", defArgs s_LineReader_advance, defBody s_LineReader_advance, defScope s_LineReader_advance, [], []⟩
def d_LineReader_fail : He.DefD := ⟨("LineReader", some "fail"), "fail", "LineReader.fail", defArgs s_LineReader_fail, defBody s_LineReader_fail, defScope s_LineReader_fail, [], []⟩
def d_line_tokens : He.DefD := ⟨("line_tokens", none), "line_tokens", "line_tokens", defArgs s_line_tokens, defBody s_line_tokens, defScope s_line_tokens, [], []⟩
def d_readable_text : He.DefD := ⟨("readable_text", none), "readable_text", "readable_text", defArgs s_readable_text, defBody s_readable_text, defScope s_readable_text, [], []⟩
def d_readable_sign : He.DefD := ⟨("readable_sign", none), "readable_sign", "readable_sign", defArgs s_readable_sign, defBody s_readable_sign, defScope s_readable_sign, [], []⟩
def d_parse_room : He.DefD := ⟨("parse_room", none), "parse_room", "parse_room", defArgs s_parse_room, defBody s_parse_room, defScope s_parse_room, [], []⟩
def d_parse_line : He.DefD := ⟨("parse_line", none), "parse_line", "parse_line", defArgs s_parse_line, defBody s_parse_line, defScope s_parse_line, [], []⟩
def d_parse_player : He.DefD := ⟨("parse_player", none), "parse_player", "parse_player", defArgs s_parse_player, defBody s_parse_player, defScope s_parse_player, [], []⟩
def d_parse_rule : He.DefD := ⟨("parse_rule", none), "parse_rule", "parse_rule", defArgs s_parse_rule, defBody s_parse_rule, defScope s_parse_rule, [], []⟩
def d_take_substitutes : He.DefD := ⟨("take_substitutes", none), "take_substitutes", "take_substitutes", defArgs s_take_substitutes, defBody s_take_substitutes, defScope s_take_substitutes, [], []⟩
def d_take_substitute : He.DefD := ⟨("take_substitute", none), "take_substitute", "take_substitute", defArgs s_take_substitute, defBody s_take_substitute, defScope s_take_substitute, [], []⟩
def d_checked_player : He.DefD := ⟨("checked_player", none), "checked_player", "checked_player", defArgs s_checked_player, defBody s_checked_player, defScope s_checked_player, [], []⟩
def d_checked_name : He.DefD := ⟨("checked_name", none), "checked_name", "checked_name", defArgs s_checked_name, defBody s_checked_name, defScope s_checked_name, [], []⟩
def d_take_word : He.DefD := ⟨("take_word", none), "take_word", "take_word", defArgs s_take_word, defBody s_take_word, defScope s_take_word, [], []⟩
def d_take_number : He.DefD := ⟨("take_number", none), "take_number", "take_number", defArgs s_take_number, defBody s_take_number, defScope s_take_number, [], []⟩
def d_player_number : He.DefD := ⟨("player_number", none), "player_number", "player_number", defArgs s_player_number, defBody s_player_number, defScope s_player_number, [], []⟩
def d_is_name : He.DefD := ⟨("is_name", none), "is_name", "is_name", defArgs s_is_name, defBody s_is_name, defScope s_is_name, [], []⟩
def d_is_number : He.DefD := ⟨("is_number", none), "is_number", "is_number", defArgs s_is_number, defBody s_is_number, defScope s_is_number, [], []⟩
def d_canonical_codes : He.DefD := ⟨("canonical_codes", none), "canonical_codes", "canonical_codes", defArgs s_canonical_codes, defBody s_canonical_codes, defScope s_canonical_codes, [], []⟩
def d_player_line : He.DefD := ⟨("player_line", none), "player_line", "player_line", defArgs s_player_line, defBody s_player_line, defScope s_player_line, [], []⟩
def d_rule_line : He.DefD := ⟨("rule_line", none), "rule_line", "rule_line", defArgs s_rule_line, defBody s_rule_line, defScope s_rule_line, [], []⟩
def d_weight_of : He.DefD := ⟨("weight_of", none), "weight_of", "weight_of", defArgs s_weight_of, defBody s_weight_of, defScope s_weight_of, [], []⟩
def d_total_weight : He.DefD := ⟨("total_weight", none), "total_weight", "total_weight", defArgs s_total_weight, defBody s_total_weight, defScope s_total_weight, [], []⟩
def d_cheapest : He.DefD := ⟨("cheapest", none), "cheapest", "cheapest", defArgs s_cheapest, defBody s_cheapest, defScope s_cheapest, [], []⟩
def d_packing_holds : He.DefD := ⟨("packing_holds", none), "packing_holds", "packing_holds", defArgs s_packing_holds, defBody s_packing_holds, defScope s_packing_holds, [], []⟩
def d_packed_on : He.DefD := ⟨("packed_on", none), "packed_on", "packed_on", defArgs s_packed_on, defBody s_packed_on, defScope s_packed_on, [], []⟩
def d_bound : He.DefD := ⟨("bound", none), "bound", "bound", defArgs s_bound, defBody s_bound, defScope s_bound, [], []⟩
def d_load_room : He.DefD := ⟨("load_room", none), "load_room", "load_room", defArgs s_load_room, defBody s_load_room, defScope s_load_room, [], []⟩
def d_check_room : He.DefD := ⟨("check_room", none), "check_room", "check_room", defArgs s_check_room, defBody s_check_room, defScope s_check_room, [], []⟩
def d_print_room : He.DefD := ⟨("print_room", none), "print_room", "print_room", defArgs s_print_room, defBody s_print_room, defScope s_print_room, [], []⟩
def d_acting_coalition : He.DefD := ⟨("acting_coalition", none), "acting_coalition", "acting_coalition", defArgs s_acting_coalition, defBody s_acting_coalition, defScope s_acting_coalition, [], []⟩
def d_check_steps : He.DefD := ⟨("check_steps", none), "check_steps", "check_steps", defArgs s_check_steps, defBody s_check_steps, defScope s_check_steps, [], []⟩
def d_is_closed : He.DefD := ⟨("is_closed", none), "is_closed", "is_closed", defArgs s_is_closed, defBody s_is_closed, defScope s_is_closed, [], []⟩
def d_is_sufficient : He.DefD := ⟨("is_sufficient", none), "is_sufficient", "is_sufficient", defArgs s_is_sufficient, defBody s_is_sufficient, defScope s_is_sufficient, [], []⟩
def d_is_blocking : He.DefD := ⟨("is_blocking", none), "is_blocking", "is_blocking", defArgs s_is_blocking, defBody s_is_blocking, defScope s_is_blocking, [], []⟩
def d_minimal_sufficient : He.DefD := ⟨("minimal_sufficient", none), "minimal_sufficient", "minimal_sufficient", defArgs s_minimal_sufficient, defBody s_minimal_sufficient, defScope s_minimal_sufficient, [], []⟩
def d_minimal_blocking : He.DefD := ⟨("minimal_blocking", none), "minimal_blocking", "minimal_blocking", defArgs s_minimal_blocking, defBody s_minimal_blocking, defScope s_minimal_blocking, [], []⟩
def d_cheapest_sufficient : He.DefD := ⟨("cheapest_sufficient", none), "cheapest_sufficient", "cheapest_sufficient", defArgs s_cheapest_sufficient, defBody s_cheapest_sufficient, defScope s_cheapest_sufficient, [], []⟩
def d_verify_packing : He.DefD := ⟨("verify_packing", none), "verify_packing", "verify_packing", defArgs s_verify_packing, defBody s_verify_packing, defScope s_verify_packing, [], []⟩
def d_minimal_returns : He.DefD := ⟨("minimal_returns", none), "minimal_returns", "minimal_returns", defArgs s_minimal_returns, defBody s_minimal_returns, defScope s_minimal_returns, [], []⟩
def d_swing_count : He.DefD := ⟨("swing_count", none), "swing_count", "swing_count", defArgs s_swing_count, defBody s_swing_count, defScope s_swing_count, [], []⟩
def d_power_index : He.DefD := ⟨("power_index", none), "power_index", "power_index", defArgs s_power_index, defBody s_power_index, defScope s_power_index, [], []⟩
def d_continuation_probability : He.DefD := ⟨("continuation_probability", none), "continuation_probability", "continuation_probability", defArgs s_continuation_probability, defBody s_continuation_probability, defScope s_continuation_probability, [], []⟩
def d_sufficient_counts : He.DefD := ⟨("sufficient_counts", none), "sufficient_counts", "sufficient_counts", defArgs s_sufficient_counts, defBody s_sufficient_counts, defScope s_sufficient_counts, [], []⟩
def d_remove_rule : He.DefD := ⟨("remove_rule", none), "remove_rule", "remove_rule", defArgs s_remove_rule, defBody s_remove_rule, defScope s_remove_rule, [], []⟩
def d_set_weight : He.DefD := ⟨("set_weight", none), "set_weight", "set_weight", defArgs s_set_weight, defBody s_set_weight, defScope s_set_weight, [], []⟩
def d_summary : He.DefD := ⟨("summary", none), "summary", "summary", defArgs s_summary, defBody s_summary, defScope s_summary, [], []⟩
def d_listed : He.DefD := ⟨("listed", none), "listed", "listed", defArgs s_listed, defBody s_listed, defScope s_listed, [], []⟩
def d_judged : He.DefD := ⟨("judged", none), "judged", "judged", defArgs s_judged, defBody s_judged, defScope s_judged, [], []⟩
def d_all_are_there : He.DefD := ⟨("all_are_there", none), "all_are_there", "all_are_there", defArgs s_all_are_there, defBody s_all_are_there, defScope s_all_are_there, [], []⟩
def d_perform : He.DefD := ⟨("perform", none), "perform", "perform", defArgs s_perform, defBody s_perform, defScope s_perform, [], []⟩
def d_answers : He.DefD := ⟨("answers", none), "answers", "answers", defArgs s_answers, defBody s_answers, defScope s_answers, [], []⟩
def fnl0 : List He.DefD := [d_Call_init, d_read_calls, d_needs_room, d_takes_coalition, d_takes_packing, d_takes_player, d_takes_rule, d_arguments_fit, d_numbers_fit, d_row_fits, d_fits_text, d_fits_steps, d_fits_packing, d_is_paired, d_pairs, d_Player_init, d_Rule_init, d_Room_init, d_Session_init, d_everyone]
def fnl1 : List He.DefD := [d_exists, d_has_member, d_size, d_is_enabled, d_round_steps, d_joined, d_all_steps, d_steps_hold, d_nobody_joins, d_suffices, d_blocks, d_sufficient_flags, d_sufficient_coalitions, d_blocking_flags, d_return_flags, d_minimal_coalitions, d_is_minimal, d_swings, d_is_swing, d_shapley_shubik]
def fnl2 : List He.DefD := [d_counts_by_size, d_continuation, d_raised, d_lowest_terms, d_common_divisor, d_TextFault_init, d_LineReader_init, d_LineReader_is_done, d_LineReader_word, d_LineReader_place, d_LineReader_advance, d_LineReader_fail, d_line_tokens, d_readable_text, d_readable_sign, d_parse_room, d_parse_line, d_parse_player, d_parse_rule, d_take_substitutes]
def fnl3 : List He.DefD := [d_take_substitute, d_checked_player, d_checked_name, d_take_word, d_take_number, d_player_number, d_is_name, d_is_number, d_canonical_codes, d_player_line, d_rule_line, d_weight_of, d_total_weight, d_cheapest, d_packing_holds, d_packed_on, d_bound, d_load_room, d_check_room, d_print_room]
def fnl4 : List He.DefD := [d_acting_coalition, d_check_steps, d_is_closed, d_is_sufficient, d_is_blocking, d_minimal_sufficient, d_minimal_blocking, d_cheapest_sufficient, d_verify_packing, d_minimal_returns, d_swing_count, d_power_index, d_continuation_probability, d_sufficient_counts, d_remove_rule, d_set_weight, d_summary, d_listed, d_judged, d_all_are_there]
def fnl5 : List He.DefD := [d_perform, d_answers]
def fnl : List He.DefD := fnl0 ++ fnl1 ++ fnl2 ++ fnl3 ++ fnl4 ++ fnl5
def glo0 : List He.Fa := [.glo "read_calls", .glo "needs_room", .glo "takes_coalition", .glo "takes_packing", .glo "takes_player", .glo "takes_rule", .glo "arguments_fit", .glo "numbers_fit", .glo "row_fits", .glo "fits_text", .glo "fits_steps", .glo "fits_packing", .glo "is_paired", .glo "pairs", .glo "everyone", .glo "exists", .glo "has_member", .glo "size", .glo "is_enabled", .glo "round_steps"]
def glo1 : List He.Fa := [.glo "joined", .glo "all_steps", .glo "steps_hold", .glo "nobody_joins", .glo "suffices", .glo "blocks", .glo "sufficient_flags", .glo "sufficient_coalitions", .glo "blocking_flags", .glo "return_flags", .glo "minimal_coalitions", .glo "is_minimal", .glo "swings", .glo "is_swing", .glo "shapley_shubik", .glo "counts_by_size", .glo "continuation", .glo "raised", .glo "lowest_terms", .glo "common_divisor"]
def glo2 : List He.Fa := [.glo "line_tokens", .glo "readable_text", .glo "readable_sign", .glo "parse_room", .glo "parse_line", .glo "parse_player", .glo "parse_rule", .glo "take_substitutes", .glo "take_substitute", .glo "checked_player", .glo "checked_name", .glo "take_word", .glo "take_number", .glo "player_number", .glo "is_name", .glo "is_number", .glo "canonical_codes", .glo "player_line", .glo "rule_line", .glo "weight_of"]
def glo3 : List He.Fa := [.glo "total_weight", .glo "cheapest", .glo "packing_holds", .glo "packed_on", .glo "bound", .glo "load_room", .glo "check_room", .glo "print_room", .glo "acting_coalition", .glo "check_steps", .glo "is_closed", .glo "is_sufficient", .glo "is_blocking", .glo "minimal_sufficient", .glo "minimal_blocking", .glo "cheapest_sufficient", .glo "verify_packing", .glo "minimal_returns", .glo "swing_count", .glo "power_index"]
def glo4 : List He.Fa := [.glo "continuation_probability", .glo "sufficient_counts", .glo "remove_rule", .glo "set_weight", .glo "summary", .glo "listed", .glo "judged", .glo "all_are_there", .glo "perform", .glo "answers", .glo "Call", .glo "Player", .glo "Rule", .glo "Room", .glo "Session", .glo "TextFault", .glo "LineReader", .glo "NUMBER_RANGES", .glo "ROW_CALLS", .glo "TEXT_CALLS"]
def glo5 : List He.Fa := [.glo "STEPS_CALLS", .glo "PACKING_CALLS", .glo "COALITION_CALLS", .glo "PLAYER_CALLS", .glo "CHANCE_CALLS", .glo "RULE_CALLS", .glo "POWERS", .glo "ORDERS", .glo "RESERVED", .glo "OPERATIONS"]
def gloA : List He.Fa := glo0 ++ glo1 ++ glo2 ++ glo3 ++ glo4 ++ glo5
def faFree : List He.Fa := [.free "len", .free "range", .free "enumerate", .free "sorted", .free "reversed", .free "sum", .free "all", .free "min", .free "list", .free "int", .free "str", .free "ord", .free "Exception"]
def faInt : List He.Fa := [.int "LONGEST_TEXT" (2000), .int "LONGEST_PAIRS" (40), .int "HIGHEST_PACKED" (1000000), .int "MOST_PLAYERS" (8), .int "MOST_RULES" (20), .int "HEAVIEST" (1000), .int "MOST_REQUIRED" (8), .int "NOT_ALLOWED" (1), .int "OUT_OF_RANGE_parsing" (3), .int "EXISTS_ALREADY" (4), .int "NOT_DECLARED" (5), .int "TOO_FEW_SUBSTITUTES" (6), .int "TOO_MANY" (7), .int "NO_PLAYER" (9), .int "ABSENT_SUBSTITUTE" (10), .int "LONGEST_NAME" (12), .int "LONGEST_NUMBER" (4), .int "OUT_OF_RANGE_operations" (-1), .int "NO_ROOM" (-2), .int "INVALID_TEXT" (-3), .int "NOT_THERE" (-4)]
def faStr : List He.Fa := [.str "LETTERS" "abcdefghijklmnopqrstuvwxyz", .str "DIGITS" "0123456789", .str "FOREIGN" "?"]
def faCls : List He.Fa := [.cls "Call", .cls "Player", .cls "Rule", .cls "Room", .cls "Session", .cls "LineReader"]
def faMkr : List He.Fa := [.mkr "Call", .mkr "Player", .mkr "Rule", .mkr "Room", .mkr "Session", .mkr "LineReader"]
def faMeth : List He.Fa := [.meth "LineReader" "is_done", .meth "LineReader" "word", .meth "LineReader" "place", .meth "LineReader" "advance", .meth "LineReader" "fail"]
def faNo : List He.Fa := [.noat "Call" "number", .noat "Call" "numbers", .noat "Call" "row", .noat "Player" "name", .noat "Player" "weight", .noat "Rule" "absent", .noat "Rule" "needed", .noat "Rule" "substitutes", .noat "Room" "players", .noat "Room" "rules", .noat "Session" "room", .noat "LineReader" "tokens", .noat "LineReader" "end", .noat "LineReader" "position", .noat "TextFault" "kind", .noat "TextFault" "offset"]
def faAll : List He.Fa := gloA ++ faFree ++ faInt ++ faStr ++ faCls ++ faMkr ++ faMeth ++ faNo
def nm0 : List PySem.Str := ["NUMBER_RANGES", "ROW_CALLS", "TEXT_CALLS", "STEPS_CALLS", "PACKING_CALLS", "COALITION_CALLS", "PLAYER_CALLS", "CHANCE_CALLS", "RULE_CALLS", "LONGEST_TEXT", "LONGEST_PAIRS", "HIGHEST_PACKED", "Call", "read_calls", "needs_room"]
def nm1 : List PySem.Str := ["takes_coalition", "takes_packing", "takes_player", "takes_rule", "arguments_fit", "numbers_fit", "row_fits", "fits_text", "fits_steps", "fits_packing", "is_paired", "pairs", "Player", "Rule", "Room"]
def nm2 : List PySem.Str := ["Session", "POWERS", "everyone", "exists", "has_member", "size", "is_enabled", "round_steps", "joined", "all_steps", "steps_hold", "nobody_joins", "suffices", "blocks", "sufficient_flags"]
def nm3 : List PySem.Str := ["sufficient_coalitions", "blocking_flags", "return_flags", "minimal_coalitions", "is_minimal", "ORDERS", "swings", "is_swing", "shapley_shubik", "counts_by_size", "continuation", "raised", "lowest_terms", "common_divisor", "LETTERS"]
def nm4 : List PySem.Str := ["DIGITS", "FOREIGN", "TextFault", "LineReader", "line_tokens", "readable_text", "readable_sign", "MOST_PLAYERS", "MOST_RULES", "HEAVIEST", "MOST_REQUIRED", "NOT_ALLOWED", "OUT_OF_RANGE_parsing", "EXISTS_ALREADY", "NOT_DECLARED"]
def nm5 : List PySem.Str := ["TOO_FEW_SUBSTITUTES", "TOO_MANY", "NO_PLAYER", "ABSENT_SUBSTITUTE", "RESERVED", "LONGEST_NAME", "LONGEST_NUMBER", "parse_room", "parse_line", "parse_player", "parse_rule", "take_substitutes", "take_substitute", "checked_player", "checked_name"]
def nm6 : List PySem.Str := ["take_word", "take_number", "player_number", "is_name", "is_number", "canonical_codes", "player_line", "rule_line", "weight_of", "total_weight", "cheapest", "packing_holds", "packed_on", "bound", "OUT_OF_RANGE_operations"]
def nm7 : List PySem.Str := ["NO_ROOM", "INVALID_TEXT", "NOT_THERE", "load_room", "check_room", "print_room", "acting_coalition", "check_steps", "is_closed", "is_sufficient", "is_blocking", "minimal_sufficient", "minimal_blocking", "cheapest_sufficient", "verify_packing"]
def nm8 : List PySem.Str := ["minimal_returns", "swing_count", "power_index", "continuation_probability", "sufficient_counts", "remove_rule", "set_weight", "summary", "listed", "judged", "OPERATIONS", "all_are_there", "perform"]
def nms : List PySem.Str := nm0 ++ nm1 ++ nm2 ++ nm3 ++ nm4 ++ nm5 ++ nm6 ++ nm7 ++ nm8

/-! ### facts of my own -/
def pairB (K : PySem.W.Frag) (u : Value) (q : Int × Int) : Bool := match u with
  | .ref a => (match K.lookup a with
    | some ⟨.type c, _, .seq its _, _⟩ => decide (c = "tuple") && (decide (its.size ≤ sizeLine) && He.relAll [.int q.1, .int q.2] its.toList)
    | _ => false)
  | _ => false
def allB {α : Type} (f : Value → α → Bool) : List Value → List α → Bool
  | [], [] => true
  | u :: us, x :: xs => f u x && allB f us xs
  | _, _ => false
def pairsB (K : PySem.W.Frag) (u : Value) (l : List (Int × Int)) : Bool := match u with
  | .ref a => (match K.lookup a with
    | some ⟨.type c, _, .seq its _, _⟩ => decide (c = "tuple") && (decide (its.size ≤ sizeLine) && allB (pairB K) its.toList l)
    | _ => false)
  | _ => false
def nrB (K : PySem.W.Frag) : Bool := match K.lookup (He.ga K "NUMBER_RANGES") with
  | some ⟨.type c, _, .seq its _, _⟩ => decide (c = "tuple") && (decide (its.size ≤ sizeLine) && allB (pairsB K) its.toList NR)
  | _ => false
def opNames : List Str := ["load_room", "check_room", "print_room", "acting_coalition", "check_steps", "is_closed", "is_sufficient", "is_blocking", "minimal_sufficient", "minimal_blocking", "cheapest_sufficient", "verify_packing", "minimal_returns", "swing_count", "power_index", "continuation_probability", "sufficient_counts", "remove_rule", "set_weight", "summary"]
def tupsB (K : PySem.W.Frag) : Bool :=
  He.tupB K "ROW_CALLS" [.int 0, .int 1, .int 4, .int 11] && He.tupB K "TEXT_CALLS" [.int 0, .int 1] && He.tupB K "STEPS_CALLS" [.int 4] && He.tupB K "PACKING_CALLS" [.int 11] && He.tupB K "COALITION_CALLS" [.int 3, .int 4, .int 5, .int 6, .int 7, .int 12] &&
  He.tupB K "PLAYER_CALLS" [.int 13, .int 14, .int 18] && He.tupB K "CHANCE_CALLS" [.int 15] && He.tupB K "RULE_CALLS" [.int 17] && He.tupB K "POWERS" [.int 1, .int 2, .int 4, .int 8, .int 16, .int 32, .int 64, .int 128, .int 256] &&
  He.tupB K "ORDERS" [.int 1, .int 1, .int 2, .int 6, .int 24, .int 120, .int 720, .int 5040, .int 40320] && He.tupB K "RESERVED" [.str "by", .str "any", .str "of", .str "weight"] && He.tupB K "OPERATIONS" (opNames.map .glo)
def tf (K : PySem.W.Frag) : Addr := He.ga K "TextFault"
def excB (K : PySem.W.Frag) : Bool :=
  PySem.W.excInitIn K (tf K) exBm "Exception.__new__" && PySem.W.excOver K (tf K) exBm && PySem.W.hasDictIn K (tf K) && He.eqO (PySem.W.findIn K (.ref (tf K)) "__setattr__") (some (some (.builtin "object.__setattr__"))) &&
  decide (PySem.W.subIn K (.ref (tf K)) (.type "BaseException") = some true) && decide (PySem.W.typeIn K (.ref (tf K)) = some (.type "type")) && PySem.W.keepIn K (.ref (tf K)) &&
  He.eqO (PySem.W.findIn K (.ref (tf K)) "__getattribute__") (some (some (.builtin "BaseException.__getattribute__"))) && He.eqO (PySem.W.findIn K (.ref (tf K)) "__getattr__") (some none) &&
  decide (PySem.W.exmOne K (.ref (tf K)) (.ref (tf K)) = some true) && He.eqO (PySem.W.findIn K (.ref (tf K)) "__init__") (some (some (.ref (He.ma K (tf K) "__init__")))) &&
  decide (PySem.W.typeIn K (.ref (He.ma K (tf K) "__init__")) = some (.type "function")) &&
  (match PySem.W.findCls K (.type "Exception") (.type "type") "__init__" with | some (.val v) => decide (v = .builtin "Exception.__init__") | _ => false)
def mineB (K : PySem.W.Frag) : Bool := nrB K && tupsB K && excB K
abbrev AlS : Type := Bool × He.AlD
def obsS (K : PySem.W.Frag) : AlS := (mineB K, He.obsD faAll fnl K)
def valS : AlS := (true, He.valD fnl)
def rf (o : Obj) : List Addr := match o.data with
  | .seq its _ => its.toList.flatMap He.refV
  | .dict es _ => es.toList.flatMap fun e => He.refV e.val
  | .func fd => He.refV fd.code
  | .cls cd => cd.ns :: cd.mro.flatMap He.refV
  | _ => []
def stepA (g : Addr → Option Obj) (as : List Addr) : List Addr := as.flatMap fun a => match g a with
  | some o => rf o
  | none => []
def asS (g : Addr → Option Obj) : List Addr := mainGlobals :: (stepA g [mainGlobals] ++ (stepA g (stepA g [mainGlobals]) ++ (stepA g (stepA g (stepA g [mainGlobals])) ++ stepA g (stepA g (stepA g (stepA g [mainGlobals]))))))
def hookS : PySem.W.Hook where
  α := AlS
  obs := fun s => obsS (He.frG s.heap.get? (asS s.heap.get?))
  val := fun _ => valS
  says := fun _ h => ∃ K : PySem.W.Frag, K.In h ∧ obsS K = valS
  of := fun _ _ e => ⟨_, He.frG_in, e⟩
  keeps := fun _ _ _ ⟨K, hK, c⟩ k => ⟨K, PySem.W.Frag.In.keeps hK k, c⟩
abbrev R0 : PySem.W.OpenSpec := PySem.Challenge.rw_standins_s01_answers
abbrev qv : Program := PySem.W.view R0.prog [143]
abbrev hk : PySem.W.Hook := hookS
def ob (s : PySem.W.SharedT) : AlS := obsS (He.frG (HandSHeadRun.getT s) (asS (HandSHeadRun.getT s)))
theorem ob_eq (s : PySem.W.SharedT) : ob s = hk.obs s.abs := by
  have e : HandSHeadRun.getT s = s.abs.heap.get? := funext (HandSHeadRun.getT_eq s)
  unfold ob
  rw [e]
  rfl
theorem wellR : R0.wellSaid = true := by decide +kernel
theorem wholeR : R0.prog.tablesWhole = true := by decide +kernel
theorem bareR : R0.prog.bare := ⟨rfl, rfl, rfl, rfl, rfl, wholeR⟩
theorem run1 (w : World) : HandSHeadRun.RunEqS R0 qv hk ob 5200 nms w := by
  intro os
  kernel_rfl
end SI

namespace SI
open Vbndaa (Bytes ParseError Cursor Parser Token splitAtByte tokenizeWith cursorOf currentOffset parseToken expectToken nextTokenIs expectEnd parseLines parseText natOfToken isIdentifier isDigit isLowercase valueOf toBytes)
open Vbndam
/-! ### signs that the program does not know -/
def known (c : Nat) : Bool := c == 10 || c == 32 || isDigit c || isLowercase c
def sig (c : Nat) : Nat := if known c = true then c else 63
def sigT (t : Token) : Token := ⟨t.offset, t.bytes.map sig⟩
theorem sig_known {c : Nat} (h : known c = true) : sig c = c := if_pos h
theorem sig_eq {c d : Nat} (h : known d = true) : (sig c = d) ↔ c = d := by
  unfold sig
  by_cases hc : known c = true
  · rw [if_pos hc]
  · rw [if_neg hc]
    constructor
    · intro e; subst e; exact absurd h (by decide)
    · intro e; subst e; exact absurd h hc
theorem sig_lower (c : Nat) : isLowercase (sig c) = isLowercase c := by
  unfold sig
  by_cases hc : known c = true
  · rw [if_pos hc]
  · rw [if_neg hc]
    cases h : isLowercase c with
    | false => rfl
    | true => exact absurd (by unfold known; rw [h, Bool.or_true]) hc
theorem sig_digit (c : Nat) : isDigit (sig c) = isDigit c := by
  unfold sig
  by_cases hc : known c = true
  · rw [if_pos hc]
  · rw [if_neg hc]
    cases h : isDigit c with
    | false => rfl
    | true => exact absurd (by unfold known; rw [h, Bool.or_true, Bool.true_or]) hc
theorem map_sig_eq {w : Bytes} : ∀ {l : Bytes}, l.all known = true → ((w.map sig = l) ↔ w = l) := by
  induction w with
  | nil => intro l _; cases l <;> simp
  | cons c w ih =>
    intro l hl
    cases l with
    | nil => simp
    | cons d l =>
      rw [List.all_cons, Bool.and_eq_true] at hl
      rw [List.map_cons, List.cons.injEq, List.cons.injEq, sig_eq hl.1, ih hl.2]
theorem map_sig_id {w : Bytes} (h : w.all known = true) : w.map sig = w := (map_sig_eq h).mpr rfl
theorem ident_known {w : Bytes} (h : isIdentifier w = true) : w.all known = true := by
  cases w with
  | nil => rfl
  | cons c r =>
    unfold isIdentifier at h
    dsimp only at h
    rw [Bool.and_eq_true, Bool.and_eq_true] at h
    rw [List.all_cons, Bool.and_eq_true]
    refine ⟨by unfold known; rw [h.1, Bool.or_true], ?_⟩
    rw [List.all_eq_true]
    intro d hd
    have := List.all_eq_true.mp h.2.2 d hd
    unfold known
    rw [Bool.or_eq_true] at this
    rcases this with t | t <;> simp [t]
theorem ident_sig (w : Bytes) : isIdentifier (w.map sig) = isIdentifier w := by
  cases w with
  | nil => rfl
  | cons c r =>
    rw [List.map_cons]
    unfold isIdentifier
    dsimp only
    rw [sig_lower, List.length_map, List.all_map]
    congr 2
    congr 1
    funext d
    show (isLowercase (sig d) || isDigit (sig d)) = _
    rw [sig_lower, sig_digit]
theorem digits_known {w : Bytes} (h : w.all isDigit = true) : w.all known = true := by
  rw [List.all_eq_true] at h ⊢
  intro c hc
  have := h c hc
  unfold known
  rw [this, Bool.or_true, Bool.true_or]
theorem nat_sig (most : Nat) (w : Bytes) : natOfToken most (w.map sig) = natOfToken most w := by
  have hd : (w.map sig).all isDigit = w.all isDigit := by
    rw [List.all_map]
    congr 1
    funext c
    exact sig_digit c
  by_cases h : w.all isDigit = true
  · rw [map_sig_id (digits_known h)]
  · have h' : w.all isDigit = false := by simpa using h
    unfold natOfToken
    rw [if_pos (.inr (.inr (.inl (hd.trans h')))), if_pos (.inr (.inr (.inl h')))]
theorem res_known : ∀ l ∈ reservedWords, l.all known = true := by decide
theorem contains_sig (w : Bytes) : reservedWords.contains (w.map sig) = reservedWords.contains w := by
  rw [Bool.eq_iff_iff, List.contains_iff_mem, List.contains_iff_mem]
  constructor
  · intro h
    obtain h2 : w = w.map sig := (map_sig_eq (res_known _ h)).mp rfl
    rw [← h2] at h
    exact h
  · intro h
    rw [map_sig_id (res_known _ h)]
    exact h
/-! ### lines -/
theorem split_sig (sep : Nat) (hs : known sep = true) : ∀ (t : Bytes) (p : Nat), splitAtByte sep p (t.map sig) = (splitAtByte sep p t).map fun x => (x.1, x.2.map sig)
  | [], _ => rfl
  | c :: r, p => by
    have ih := split_sig sep hs r (p + 1)
    rw [List.map_cons]
    unfold splitAtByte
    by_cases hc : c = sep
    · rw [if_pos hc, if_pos ((sig_eq hs).mpr hc), List.map_cons, ih]
      rfl
    · rw [if_neg hc, if_neg (fun e => hc ((sig_eq hs).mp e)), ih]
      cases splitAtByte sep (p + 1) r <;> rfl
theorem tokens_sig : ∀ (t : Bytes) (p : Nat), tokenizeWith noSeparators p (t.map sig) = (tokenizeWith noSeparators p t).map sigT
  | [], _ => rfl
  | c :: r, p => by
    have ih := tokens_sig r (p + 1)
    rw [List.map_cons]
    unfold tokenizeWith
    by_cases hc : c = 32
    · rw [if_pos hc, if_pos ((sig_eq (by decide)).mpr hc), ih]
    · rw [if_neg hc, if_neg (fun e => hc ((sig_eq (by decide)).mp e))]
      have hn : ∀ x, noSeparators x = false := fun _ => rfl
      rw [if_neg (by rw [hn]; decide), if_neg (by rw [hn]; decide)]
      cases r with
      | nil => rfl
      | cons d r =>
        rw [List.map_cons] at ih
        rw [List.map_cons]
        dsimp only
        rw [hn, hn]
        by_cases hd : d = 32
        · rw [if_pos (.inl ((sig_eq (by decide)).mpr hd)), if_pos (.inl hd), ih]
          rfl
        · rw [if_neg (by rintro (e | e); exact hd ((sig_eq (by decide)).mp e); cases e), if_neg (by rintro (e | e); exact hd e; cases e), ih]
          cases tokenizeWith noSeparators (p + 1) (d :: r) <;> rfl
def sigC (r : Cursor) : Cursor := ⟨r.tokens.map sigT, r.endOffset⟩
theorem off_sig (r : Cursor) : currentOffset (sigC r) = currentOffset r := by
  obtain ⟨t, e⟩ := r
  cases t <;> rfl
theorem skip_sig (r : Cursor) : skipToken (sigC r) = sigC (skipToken r) := by
  obtain ⟨t, e⟩ := r
  cases t <;> rfl
def sigR {α : Type} : Except ParseError (α × Cursor) → Except ParseError (α × Cursor)
  | .error e => .error e
  | .ok (x, q) => .ok (x, sigC q)
theorem token_sig {α : Type} (k : Nat) (f : Bytes → Option α) (hf : ∀ w, f (w.map sig) = f w) (r : Cursor) : parseToken k f (sigC r) = sigR (parseToken k f r) := by
  obtain ⟨t, e⟩ := r
  cases t with
  | nil => rfl
  | cons w t =>
    show (match f (w.bytes.map sig) with | some x => _ | none => _) = _
    rw [hf]
    unfold parseToken
    dsimp only
    cases f w.bytes <;> rfl
theorem name_sig (r : Cursor) : parseName (sigC r) = sigR (parseName r) := by
  obtain ⟨t, e⟩ := r
  cases t with
  | nil => rfl
  | cons w t =>
    unfold parseName parseToken
    simp only [sigC, sigT, List.map_cons]
    rw [ident_sig, contains_sig]
    by_cases h : isIdentifier w.bytes = true ∧ reservedWords.contains w.bytes = false
    · rw [if_pos h, if_pos h, map_sig_id (ident_known h.1)]
      rfl
    · rw [if_neg h, if_neg h]
      rfl
theorem range_sig (lo hi : Nat) (r : Cursor) : parseNatInRange lo hi (sigC r) = sigR (parseNatInRange lo hi r) := by
  unfold parseNatInRange
  rw [token_sig 1 _ (nat_sig 4), off_sig]
  cases h : parseToken 1 (natOfToken 4) r with
  | error e => rfl
  | ok x =>
    obtain ⟨n, q⟩ := x
    show (if lo ≤ n ∧ n ≤ hi then _ else _) = sigR (if lo ≤ n ∧ n ≤ hi then _ else _)
    by_cases h : lo ≤ n ∧ n ≤ hi
    · rw [if_pos h, if_pos h]; rfl
    · rw [if_neg h, if_neg h]; rfl
theorem player_sig (z : Room) (r : Cursor) : parsePlayer z (sigC r) = sigR (parsePlayer z r) := by
  unfold parsePlayer
  rw [name_sig, off_sig]
  cases h : parseName r with
  | error e => rfl
  | ok x =>
    obtain ⟨n, q⟩ := x
    show (match z.players.findIdx? fun p => p.name == n with | some i => _ | none => _) = sigR (match z.players.findIdx? fun p => p.name == n with | some i => _ | none => _)
    cases z.players.findIdx? fun p => p.name == n <;> rfl
theorem expect_sig (k : Nat) {l : Bytes} (hl : l.all known = true) (r : Cursor) : expectToken k l (sigC r) = sigR (expectToken k l r) := by
  refine token_sig k _ (fun w => ?_) r
  by_cases h : w = l
  · rw [if_pos h, if_pos ((map_sig_eq hl).mpr h)]
  · rw [if_neg h, if_neg (fun e => h ((map_sig_eq hl).mp e))]
theorem next_sig {l : Bytes} (hl : l.all known = true) (r : Cursor) : nextTokenIs l (sigC r) = nextTokenIs l r := by
  obtain ⟨t, e⟩ := r
  cases t with
  | nil => rfl
  | cons w t =>
    show (w.bytes.map sig == l) = (w.bytes == l)
    rw [Bool.eq_iff_iff, beq_iff_eq, beq_iff_eq]
    exact map_sig_eq hl
theorem end_sig {α : Type} (k : Nat) (x : α) (r : Cursor) : expectEnd k x (sigC r) = expectEnd k x r := by
  obtain ⟨t, e⟩ := r
  cases t <;> rfl
theorem empty_sig (r : Cursor) : (sigC r).tokens.isEmpty = r.tokens.isEmpty := by
  obtain ⟨t, e⟩ := r
  cases t <;> rfl
theorem subs_sig (z : Room) (k : Nat) : ∀ (f : Nat) (had : List Nat) (r : Cursor), parseSubstitutes z k f had (sigC r) = sigR (parseSubstitutes z k f had r)
  | 0, _, _ => rfl
  | f + 1, had, r => by
    unfold parseSubstitutes
    rw [empty_sig, player_sig, off_sig]
    by_cases h : r.tokens.isEmpty = true ∧ had.isEmpty = false
    · rw [if_pos h, if_pos h]; rfl
    · rw [if_neg h, if_neg h]
      cases hp : parsePlayer z r with
      | error e => rfl
      | ok x =>
        obtain ⟨n, q⟩ := x
        show (if n = k then _ else if had.contains n = true then _ else parseSubstitutes z k f (had ++ [n]) (sigC q)) = sigR (if n = k then _ else if had.contains n = true then _ else parseSubstitutes z k f (had ++ [n]) q)
        by_cases h1 : n = k
        · rw [if_pos h1, if_pos h1]; rfl
        · rw [if_neg h1, if_neg h1]
          by_cases h2 : had.contains n = true
          · rw [if_pos h2, if_pos h2]; rfl
          · rw [if_neg h2, if_neg h2]
            exact subs_sig z k f _ q
theorem len_sig (r : Cursor) : (sigC r).tokens.length = r.tokens.length := List.length_map _
def bnd {α β : Type} (x : Except ParseError α) (f : α → Except ParseError β) : Except ParseError β := x >>= f
theorem bnd_sig {α β : Type} (x : Except ParseError (α × Cursor)) (f g : α × Cursor → Except ParseError β) (h : ∀ a q, f (a, sigC q) = g (a, q)) : bnd (sigR x) f = bnd x g := by
  cases x with
  | error e => rfl
  | ok v => exact h v.1 v.2
def linePlayer (z : Room) (r : Cursor) : Except ParseError Room := if maxPlayers ≤ z.players.length then .error ⟨7, currentOffset r⟩ else
  bnd (parseName (skipToken r)) fun x => if z.players.any (fun p => p.name == x.1) = true then .error ⟨4, currentOffset (skipToken r)⟩ else
  bnd (expectToken 1 (toBytes "weight") x.2) fun y => bnd (parseNatInRange 0 1000 y.2) fun v => expectEnd 1 { z with players := z.players ++ [⟨x.1, v.1⟩] } v.2
def lineAny (z : Room) (p : Nat) (q : Cursor) : Except ParseError Room :=
  bnd (parseNatInRange 1 maxPlayers (skipToken q)) fun k => bnd (expectToken 1 (toBytes "of") k.2) fun y => bnd (parseSubstitutes z p (y.2.tokens.length + 1) [] y.2) fun l =>
    if l.1.length < k.1 then .error ⟨6, currentOffset (skipToken q)⟩ else expectEnd 1 { z with rules := z.rules ++ [⟨p, k.1, l.1⟩] } l.2
def lineAll (z : Room) (p : Nat) (q : Cursor) : Except ParseError Room := bnd (parseSubstitutes z p (q.tokens.length + 1) [] q) fun l => expectEnd 1 { z with rules := z.rules ++ [⟨p, l.1.length, l.1⟩] } l.2
def lineRule (z : Room) (r : Cursor) : Except ParseError Room := if maxRules ≤ z.rules.length then .error ⟨7, currentOffset r⟩ else
  bnd (parsePlayer z (skipToken r)) fun p => bnd (expectToken 1 (toBytes "by") p.2) fun q => if nextTokenIs (toBytes "any") q.2 = true then lineAny z p.1 q.2 else lineAll z p.1 q.2
theorem line_eq (z : Room) (r : Cursor) : parseRoomLine z r = if nextTokenIs (toBytes "player") r = true then linePlayer z r else if nextTokenIs (toBytes "keep") r = true then lineRule z r else .error ⟨1, currentOffset r⟩ := by
  unfold parseRoomLine linePlayer lineRule
  dsimp only
  congr 1
  · congr 1
    cases parseName (skipToken r) with
    | error e => rfl
    | ok x => rfl
theorem line_sig (z : Room) (r : Cursor) : parseRoomLine z (sigC r) = parseRoomLine z r := by
  rw [line_eq, line_eq, next_sig (by decide), next_sig (by decide), off_sig]
  congr 1
  · unfold linePlayer
    rw [skip_sig, off_sig, off_sig, name_sig]
    congr 1
    refine bnd_sig _ _ _ fun n q => ?_
    dsimp only
    congr 1
    rw [expect_sig 1 (by decide)]
    refine bnd_sig _ _ _ fun _ q => ?_
    dsimp only
    rw [range_sig]
    exact bnd_sig _ _ _ fun _ q => end_sig _ _ _
  · congr 1
    unfold lineRule
    rw [skip_sig, off_sig, player_sig]
    congr 1
    refine bnd_sig _ _ _ fun p q => ?_
    dsimp only
    rw [expect_sig 1 (by decide)]
    refine bnd_sig _ _ _ fun _ q => ?_
    dsimp only
    rw [next_sig (by decide)]
    congr 1
    · unfold lineAny
      rw [skip_sig, range_sig]
      refine bnd_sig _ _ _ fun k q => ?_
      dsimp only
      rw [expect_sig 1 (by decide)]
      refine bnd_sig _ _ _ fun _ q => ?_
      dsimp only
      rw [len_sig, subs_sig]
      refine bnd_sig _ _ _ fun l q => ?_
      dsimp only
      rw [off_sig, end_sig]
    · unfold lineAll
      rw [len_sig, subs_sig]
      exact bnd_sig _ _ _ fun l q => end_sig _ _ _
theorem lines_sig : ∀ (l : List (Nat × Bytes)) (z : Room), parseLines noSeparators parseRoomLine z (l.map fun x => (x.1, x.2.map sig)) = parseLines noSeparators parseRoomLine z l
  | [], _ => rfl
  | x :: l, z => by
    rw [List.map_cons]
    unfold parseLines
    have e1 : (tokenizeWith noSeparators x.1 (x.2.map sig)).isEmpty = (tokenizeWith noSeparators x.1 x.2).isEmpty := by
      rw [tokens_sig]
      cases tokenizeWith noSeparators x.1 x.2 <;> rfl
    have e2 : cursorOf noSeparators x.1 (x.2.map sig) = sigC (cursorOf noSeparators x.1 x.2) := by
      unfold cursorOf sigC
      rw [tokens_sig, List.length_map]
    dsimp only
    rw [e1, e2, line_sig, lines_sig l z]
    congr 1
    cases parseRoomLine z (cursorOf noSeparators x.1 x.2) with
    | error e => rfl
    | ok t => exact lines_sig l t
theorem room_sig (t : Bytes) : parseRoom (t.map sig) = parseRoom t := by
  unfold parseRoom parseText
  rw [split_sig 10 (by decide), lines_sig, List.length_map]
end SI

namespace SI
open Vbndaa (Bytes ParseError Cursor Parser Token splitAtByte tokenizeWith cursorOf currentOffset parseToken expectToken nextTokenIs expectEnd parseLines parseText natOfToken isIdentifier isDigit isLowercase valueOf toBytes)
open Vbndam
/-- what a room keeps while it is read -/
structure PF (z : Room) : Prop where
  le8 : z.players.length ≤ 8
  r20 : z.rules.length ≤ 20
  abs : ∀ u ∈ z.rules, u.absent < z.players.length
  sub : ∀ u ∈ z.rules, ∀ q ∈ u.substitutes, q < z.players.length
  sl : ∀ u ∈ z.rules, u.substitutes.length ≤ 8
  rq : ∀ u ∈ z.rules, u.required ≤ 8
  wt : ∀ p ∈ z.players, p.weight ≤ 1000
  nm : ∀ p ∈ z.players, p.name.length ≤ 12
theorem PF.wf {z : Room} (h : PF z) (hp : 1 ≤ z.players.length) : WF z := ⟨h.le8, hp, h.r20, h.abs, h.sub, h.sl, h.rq, h.wt⟩
theorem PF.empty : PF emptyRoom := by
  refine ⟨by decide, by decide, ?_, ?_, ?_, ?_, ?_, ?_⟩ <;> intro x h <;> cases h
theorem nodup_len : ∀ (n : Nat) (l : List Nat), l.Nodup → (∀ x ∈ l, x < n) → l.length ≤ n
  | 0, [], _, _ => Nat.le_refl _
  | 0, x :: _, _, h => absurd (h x List.mem_cons_self) (Nat.not_lt_zero _)
  | n + 1, l, hd, h => by
    by_cases hn : n ∈ l
    · have h1 := nodup_len n (l.erase n) (hd.erase n) fun x hx => by
        rw [hd.mem_erase_iff] at hx
        have := h x hx.2
        have := hx.1
        omega
      rw [List.length_erase_of_mem hn] at h1
      omega
    · have := nodup_len n l hd fun x hx => by
        have := h x hx
        have : x ≠ n := fun e => hn (e ▸ hx)
        omega
      omega
theorem name_ok' {r q : Cursor} {n : Bytes} (h : parseName r = .ok (n, q)) : isIdentifier n = true := by
  obtain ⟨t, e⟩ := r
  cases t with
  | nil => cases h
  | cons w t =>
    unfold parseName parseToken at h
    dsimp only at h
    by_cases c : isIdentifier w.bytes = true ∧ reservedWords.contains w.bytes = false
    · rw [if_pos c] at h
      injection h with h
      rw [← (Prod.mk.inj h).1]
      exact c.1
    · rw [if_neg c] at h; cases h
theorem ident_len {n : Bytes} (h : isIdentifier n = true) : n.length ≤ 12 := by
  cases n with
  | nil => exact Nat.zero_le _
  | cons c r =>
    unfold isIdentifier at h
    dsimp only at h
    rw [Bool.and_eq_true, Bool.and_eq_true, decide_eq_true_eq] at h
    rw [List.length_cons]
    omega
theorem range_ok {lo hi n : Nat} {r q : Cursor} (h : parseNatInRange lo hi r = .ok (n, q)) : lo ≤ n ∧ n ≤ hi := by
  unfold parseNatInRange at h
  cases e : parseToken 1 (natOfToken 4) r with
  | error x => rw [e] at h; cases h
  | ok x =>
    obtain ⟨m, y⟩ := x
    rw [e] at h
    dsimp only at h
    by_cases c : lo ≤ m ∧ m ≤ hi
    · rw [if_pos c] at h
      injection h with h
      rw [← (Prod.mk.inj h).1]
      exact c
    · rw [if_neg c] at h; cases h
theorem player_ok {z : Room} {i : Nat} {r q : Cursor} (h : parsePlayer z r = .ok (i, q)) : i < z.players.length := by
  unfold parsePlayer at h
  cases e : parseName r with
  | error x => rw [e] at h; cases h
  | ok x =>
    obtain ⟨m, y⟩ := x
    rw [e] at h
    dsimp only at h
    cases e2 : z.players.findIdx? fun p => p.name == m with
    | none => rw [e2] at h; cases h
    | some j =>
      rw [e2] at h
      injection h with h
      rw [← (Prod.mk.inj h).1]
      rw [List.findIdx?_eq_some_iff_getElem] at e2
      exact e2.1
theorem subs_ok {z : Room} {k : Nat} : ∀ (f : Nat) (had : List Nat) (r : Cursor) (l : List Nat) (q : Cursor), had.Nodup → (∀ x ∈ had, x < z.players.length) → parseSubstitutes z k f had r = .ok (l, q) → l.Nodup ∧ ∀ x ∈ l, x < z.players.length
  | 0, had, r, l, q, h1, h2, h => by
    injection h with h
    rw [← (Prod.mk.inj h).1]
    exact ⟨h1, h2⟩
  | f + 1, had, r, l, q, h1, h2, h => by
    unfold parseSubstitutes at h
    by_cases c : r.tokens.isEmpty = true ∧ had.isEmpty = false
    · rw [if_pos c] at h
      injection h with h
      rw [← (Prod.mk.inj h).1]
      exact ⟨h1, h2⟩
    · rw [if_neg c] at h
      cases e : parsePlayer z r with
      | error x => rw [e] at h; cases h
      | ok x =>
        obtain ⟨n, y⟩ := x
        rw [e] at h
        dsimp only at h
        by_cases c1 : n = k
        · rw [if_pos c1] at h; cases h
        · rw [if_neg c1] at h
          by_cases c2 : had.contains n = true
          · rw [if_pos c2] at h; cases h
          · rw [if_neg c2] at h
            have hn := player_ok e
            refine subs_ok f (had ++ [n]) y l q ?_ ?_ h
            · rw [List.nodup_append]
              refine ⟨h1, by simp, fun a ha b hb => ?_⟩
              rw [List.mem_singleton] at hb
              subst hb
              intro e3
              subst e3
              exact c2 (List.contains_iff_mem.mpr ha)
            · intro x hx
              rcases List.mem_append.mp hx with t | t
              · exact h2 x t
              · rw [List.mem_singleton] at t
                rw [t]
                exact hn
theorem bnd_ok {α β : Type} {x : Except ParseError α} {f : α → Except ParseError β} {y : β} (h : bnd x f = .ok y) : ∃ a, x = .ok a ∧ f a = .ok y := by
  cases x with
  | error e => cases h
  | ok a => exact ⟨a, rfl, h⟩
theorem end_val {α : Type} {k : Nat} {x y : α} {r : Cursor} (h : expectEnd k x r = .ok y) : x = y := by
  obtain ⟨t, e⟩ := r
  cases t with
  | nil => injection h
  | cons w t => cases h
theorem PF.player {z z' : Room} {r : Cursor} (hz : PF z) (h : linePlayer z r = .ok z') : PF z' := by
  unfold linePlayer at h
  by_cases c : maxPlayers ≤ z.players.length
  · rw [if_pos c] at h; cases h
  · rw [if_neg c] at h
    obtain ⟨⟨n, q⟩, e1, h⟩ := bnd_ok h
    dsimp only at h
    by_cases c2 : z.players.any (fun p => p.name == n) = true
    · rw [if_pos c2] at h; cases h
    · rw [if_neg c2] at h
      obtain ⟨⟨_, q2⟩, e2, h⟩ := bnd_ok h
      obtain ⟨⟨v, q3⟩, e3, h⟩ := bnd_ok h
      obtain rfl := end_val h
      have hc : ¬ 8 ≤ z.players.length := c
      have hl : (z.players ++ [(⟨n, v⟩ : Player)]).length = z.players.length + 1 := by rw [List.length_append]; rfl
      refine ⟨by dsimp only; omega, hz.r20, fun u hu => ?_, fun u hu q hq => ?_, hz.sl, hz.rq, fun p hp => ?_, fun p hp => ?_⟩
      · have := hz.abs u hu
        dsimp only
        omega
      · have := hz.sub u hu q hq
        dsimp only
        omega
      · rcases List.mem_append.mp hp with t | t
        · exact hz.wt p t
        · rw [List.mem_singleton] at t
          rw [t]
          exact (range_ok e3).2
      · rcases List.mem_append.mp hp with t | t
        · exact hz.nm p t
        · rw [List.mem_singleton] at t
          rw [t]
          exact ident_len (name_ok' e1)
theorem PF.push {z : Room} (hz : PF z) (c : ¬ maxRules ≤ z.rules.length) {p k : Nat} {l : List Nat} (hp : p < z.players.length) (hk : k ≤ 8) (hl : l.Nodup ∧ ∀ x ∈ l, x < z.players.length) : PF { z with rules := z.rules ++ [⟨p, k, l⟩] } := by
  have hc : ¬ 20 ≤ z.rules.length := c
  have h8 : l.length ≤ 8 := Nat.le_trans (nodup_len _ l hl.1 hl.2) hz.le8
  have hlen : (z.rules ++ [(⟨p, k, l⟩ : Rule)]).length = z.rules.length + 1 := by rw [List.length_append]; rfl
  have key : ∀ (A : Rule → Prop), (∀ u ∈ z.rules, A u) → A ⟨p, k, l⟩ → ∀ u ∈ z.rules ++ [⟨p, k, l⟩], A u := fun A h1 h2 u hu => by
    rcases List.mem_append.mp hu with t | t
    · exact h1 u t
    · rw [List.mem_singleton] at t
      rw [t]
      exact h2
  exact ⟨hz.le8, by dsimp only; omega, key (fun u => u.absent < z.players.length) hz.abs hp, key (fun u => ∀ q ∈ u.substitutes, q < z.players.length) hz.sub hl.2, key (fun u => u.substitutes.length ≤ 8) hz.sl h8, key (fun u => u.required ≤ 8) hz.rq hk, hz.wt, hz.nm⟩
theorem PF.rule {z z' : Room} {r : Cursor} (hz : PF z) (h : lineRule z r = .ok z') : PF z' := by
  unfold lineRule at h
  by_cases c : maxRules ≤ z.rules.length
  · rw [if_pos c] at h; cases h
  · rw [if_neg c] at h
    obtain ⟨⟨p, q⟩, e1, h⟩ := bnd_ok h
    obtain ⟨⟨_, q2⟩, e2, h⟩ := bnd_ok h
    have hp := player_ok e1
    dsimp only at h
    by_cases c2 : nextTokenIs (toBytes "any") q2 = true
    · rw [if_pos c2] at h
      unfold lineAny at h
      obtain ⟨⟨k, q3⟩, e3, h⟩ := bnd_ok h
      obtain ⟨⟨_, q4⟩, e4, h⟩ := bnd_ok h
      obtain ⟨⟨l, q5⟩, e5, h⟩ := bnd_ok h
      dsimp only at h
      by_cases c3 : l.length < k
      · rw [if_pos c3] at h; cases h
      · rw [if_neg c3] at h
        obtain rfl := end_val h
        exact hz.push c hp (range_ok e3).2 (subs_ok _ _ _ _ _ List.nodup_nil (fun _ h => by cases h) e5)
    · rw [if_neg c2] at h
      unfold lineAll at h
      obtain ⟨⟨l, q5⟩, e5, h⟩ := bnd_ok h
      obtain rfl := end_val h
      have hs := subs_ok _ _ _ _ _ List.nodup_nil (fun _ h => by cases h) e5
      exact hz.push c hp (Nat.le_trans (nodup_len _ l hs.1 hs.2) hz.le8) hs
theorem PF.line {z z' : Room} {r : Cursor} (hz : PF z) (h : parseRoomLine z r = .ok z') : PF z' := by
  rw [line_eq] at h
  by_cases c1 : nextTokenIs (toBytes "player") r = true
  · rw [if_pos c1] at h
    exact hz.player h
  · rw [if_neg c1] at h
    by_cases c2 : nextTokenIs (toBytes "keep") r = true
    · rw [if_pos c2] at h
      exact hz.rule h
    · rw [if_neg c2] at h; cases h
end SI

set_option maxHeartbeats 4000000
namespace SI
open PySem PySem.Spec PyProof.Rows L2
/-- the first of the least by weight, then by number -/
def minWC (x : Int × Int) (xs : List (Int × Int)) : Int × Int := xs.foldl (fun a y => if ltWC y a = true then y else a) x
theorem minOf_eq (x : Int × Int) (xs : List (Int × Int)) : PySem.W.minOf x xs = minWC x xs := by
  unfold PySem.W.minOf minWC
  congr 1
def rMinWC (K : PySem.W.Frag) : List V → Hp → VK → Prop := fun vs H Q => ∃ (a : Addr) (ts : List Addr) (x : Int × Int) (xs : List (Int × Int)), vs = [V.ref a] ∧ SqL K H a (ts.map V.ref) ∧
  Paired (fun t (q : Int × Int) => H t = some (.tup [.int q.1, .int q.2])) ts (x :: xs) ∧ ∀ t, H t = some (.tup [.int (minWC x xs).1, .int (minWC x xs).2]) → Q (.ref t) H
theorem holdAll_of {X : Cx} {pins : List (Addr × Obj)} {σ : L2.St} {H : Hp} {s : Shared} (I : Inv X pins σ H s) : ∀ {ts : List Addr} {ps : List (Int × Int)} {us : List Value}, Paired (fun t (q : Int × Int) => H t = some (.tup [.int q.1, .int q.2])) ts ps → Vals (ts.map V.ref) us →
    PySem.W.HoldAll s.heap us ps
  | _, _, _, .nil, .nil => PySem.W.HoldAll.nil
  | t :: ts, q :: ps, u :: us, .cons e r, .cons ru rus => by
    obtain rfl : u = Value.ref t := ru
    refine PySem.W.HoldAll.cons ?_ (holdAll_of I r rus)
    obtain ⟨its, rv, p, _⟩ := I.tuple (SqT.of e)
    cases rv with
    | cons r1 rr =>
      cases rr with
      | cons r2 rn =>
        cases rn
        obtain ⟨t1, rfl⟩ := r1
        obtain ⟨t2, rfl⟩ := r2
        obtain ⟨o, e1, e2, n, e3⟩ := p
        exact PySem.W.holds_pair (x := q.1) (y := q.2) ⟨o, e1, e2, n, e3⟩ (PySem.W.holds_int _ _) (PySem.W.holds_int _ _)
theorem cr_minWC {X : Cx} {k : Nat} (hc : X.calm = true) (hr : Room k X.A) : CallR X (.builtin "min") (rMinWC X.K) := by
  intro pins s σ H vs us Q I r h
  obtain ⟨a, ts, x, xs, rfl, hs, hp, q⟩ := h
  cases r with
  | @cons _ u _ _ r1 rr =>
    cases rr
    obtain rfl : u = Value.ref a := r1
    obtain ⟨its, rv, p, hz⟩ := I.list hs
    have hu : X.A.units + 1 + PySem.W.Datum.depth (Int × Int) < cLine := Nat.lt_of_le_of_lt (by show X.A.units + 1 + PySem.W.Datum.depth (Int × Int) ≤ X.A.units + 64; rw [Nat.add_assoc]; exact Nat.add_le_add_left (by decide) _) hr.units
    refine PySem.W.min_list_datum (x := x) (xs := xs) (I.ok.hd hc) p.isList (by simpa using holdAll_of I hp rv) hu fun i v h' tk hi ho hk => ?_
    have hi' : its[i]? = some v := by simpa using hi
    rw [minOf_eq] at ho
    have hl : i < its.length := (List.getElem?_eq_some_iff.mp hi').1
    have hl2 : i < (ts.map V.ref).length := by rw [rv.length]; exact hl
    obtain ⟨t, ht⟩ : ∃ t, ts[i]? = some t := ⟨ts[i]'(by simpa using hl2), List.getElem?_eq_getElem (by simpa using hl2)⟩
    have hv : (ts.map V.ref)[i]? = some (V.ref t) := by rw [List.getElem?_map, ht]; rfl
    obtain ⟨u, e1, e2⟩ := rv.get hv
    rw [hi'] at e1
    obtain rfl : v = Value.ref t := (Option.some.inj e1).trans e2
    have I2 : Inv X pins σ H { s with heap := h', toks := tk } := I.kept hk
    obtain ⟨y, hy1, hy2⟩ := pairedGetL hp ht
    refine ⟨.ref t, H, I2, rfl, q t ?_⟩
    obtain ⟨it2, rv2, p2, _⟩ := I2.tuple (SqT.of hy2)
    obtain ⟨l, b, c, e3, e4, e5, e6⟩ := PySem.W.pair_of_holds ho
    obtain rfl : t = l := by injection e3
    obtain ⟨n1, rfl⟩ := PySem.W.int_of_holds e5
    obtain ⟨n2, rfl⟩ := PySem.W.int_of_holds e6
    obtain ⟨o1, f1, f2, m1, f3⟩ := e4
    obtain ⟨o2, g1, g2, m2, g3⟩ := p2
    have eo : o1 = o2 := Option.some.inj (f1.symm.trans g1)
    subst eo
    rw [f3] at g3
    injection g3 with g4 _
    have g5 : it2 = [.int (minWC x xs).1 n1, .int (minWC x xs).2 n2] := by
      have := congrArg Array.toList g4
      simpa using this.symm
    subst g5
    cases rv2 with
    | cons r1 rr =>
      cases rr with
      | cons r2 rn =>
        obtain ⟨_, z1⟩ := r1
        obtain ⟨_, z2⟩ := r2
        injection z1 with z1 _
        injection z2 with z2 _
        rw [hy2, ← z1, ← z2]
end SI

set_option maxHeartbeats 4000000
namespace SI
open PySem PySem.Spec PyProof.Rows L2
/-! ### words for comprehensions -/
theorem takeFM {α : Type} {l : List α} {i : Nat} {a : α} (p : α → Bool) (f : α → V) (h : l[i]? = some a) : ((l.take (i + 1)).filter p).map f = ((l.take i).filter p).map f ++ (if p a = true then [f a] else []) := by
  rw [List.take_add_one, h, List.filter_append, List.map_append]
  congr 1
  simp only [Option.toList]
  cases hp : p a <;> simp [List.filter_cons, hp]
/-- a comprehension whose items make nothing that the list's values name -/
theorem lcFM {J : It} {n : Nat} {Gd : Hp → Prop} {Y : Nat → Hp → V → Hp → Prop} (w : Walk J n Gd Y) {g : TG} {tt : TT} {te : TE} {vs : List Nat} {σ : L2.St} {H1 : Hp} {D : Addr} {Qd : Hp → Prop} {α : Type} (l : List α) (p : α → Bool) (f : α → V) (hn : l.length = n) (hz : n ≤ 100000)
    (hD : H1 D = none) (hG : ∀ H, Same H1 H → Gd H)
    (hs : ∀ i a x H H', l[i]? = some a → Same H1 H → Y i H x H' → ∀ (N : V → Hp → Prop) (M : Hp → Prop), (p a = true → ∀ H4, Same H H4 → N (f a) H4) → (p a = false → ∀ H4, Same H H4 → M H4) →
      g x (wipe σ vs) H' fun σ2 H2 => wipe σ2 vs = wipe σ vs ∧ tt σ2 H2 fun b H3 => if b = true then te σ2 H3 N else M H3)
    (hd : ∀ H, Same H1 H → H D = some (.lst ((l.filter p).map f)) → Qd H) :
    ∃ W : Nat → Nat → Hp → Prop, (∃ m, W 0 m (upd H1 D (.lst []))) ∧ ∀ i m H, W i m H →
      (J.stop i H ∧ Qd H) ∨ (J.go i H ∧ ∃ Nx : Hp → Prop, (∀ H', Nx H' → ∃ m', m' < m ∧ W (i + 1) m' H') ∧ ∀ x H', J.yld i H x H' → g x (wipe σ vs) H' fun σ2 H2 => wipe σ2 vs = wipe σ vs ∧ tt σ2 H2 fun b H3 =>
        if b = true then te σ2 H3 fun y H4 => ∃ acc, H4 D = some (.lst acc) ∧ acc.length < sizeLine ∧ Nx (upd H4 D (.lst (acc ++ [y]))) else Nx H3) := by
  have len : ∀ i, (((l.take i).filter p).map f).length ≤ 100000 := fun i => by
    rw [List.length_map]
    exact Nat.le_trans (List.length_filter_le ..) (Nat.le_trans (List.length_take_le' ..) (by omega))
  refine lc_it w (fun i H => Same H1 H ∧ H D = some (.lst (((l.take i).filter p).map f))) ⟨sameUpd hD, upd_same⟩ (fun i H _ h => hG H h.1) ?_ ?_
  · rintro i x H H' hi ⟨s1, eD⟩ hy
    obtain ⟨a, ha⟩ : ∃ a, l[i]? = some a := ⟨l[i], List.getElem?_eq_getElem (by omega)⟩
    have e := takeFM p f ha
    refine hs i a x H H' ha s1 hy _ _ (fun hp H4 s4 => ?_) (fun hp H4 s4 => ?_)
    · refine ⟨_, s4 _ _ eD, lenI (len i), fun b o q => ?_, ?_⟩
      · rw [upd_ne (ne_of_none q hD)]
        exact s4 _ _ (s1 b o q)
      · rw [upd_same, e, hp]
        rfl
    · refine ⟨s1.trans s4, ?_⟩
      rw [e, hp, s4 _ _ eD]
      simp
  · rintro H ⟨s1, eD⟩
    refine hd H s1 ?_
    rw [eD, List.take_of_length_le (by omega)]
/-- .. without a test -/
theorem lcM {J : It} {n : Nat} {Gd : Hp → Prop} {Y : Nat → Hp → V → Hp → Prop} (w : Walk J n Gd Y) {g : TG} {te : TE} {vs : List Nat} {σ : L2.St} {H1 : Hp} {D : Addr} {Qd : Hp → Prop} {α : Type} (l : List α) (f : α → V) (hn : l.length = n) (hz : n ≤ 100000)
    (hD : H1 D = none) (hG : ∀ H, Same H1 H → Gd H)
    (hs : ∀ i a x H H', l[i]? = some a → Same H1 H → Y i H x H' → ∀ (N : V → Hp → Prop), (∀ H4, Same H H4 → N (f a) H4) → g x (wipe σ vs) H' fun σ2 H2 => wipe σ2 vs = wipe σ vs ∧ te σ2 H2 N)
    (hd : ∀ H, Same H1 H → H D = some (.lst (l.map f)) → Qd H) (mono : ∀ x σ H (Q Q' : L2.St → Hp → Prop), (∀ s h, Q s h → Q' s h) → g x σ H Q → g x σ H Q') :
    ∃ W : Nat → Nat → Hp → Prop, (∃ m, W 0 m (upd H1 D (.lst []))) ∧ ∀ i m H, W i m H →
      (J.stop i H ∧ Qd H) ∨ (J.go i H ∧ ∃ Nx : Hp → Prop, (∀ H', Nx H' → ∃ m', m' < m ∧ W (i + 1) m' H') ∧ ∀ x H', J.yld i H x H' → g x (wipe σ vs) H' fun σ2 H2 => wipe σ2 vs = wipe σ vs ∧ tYes σ2 H2 fun b H3 =>
        if b = true then te σ2 H3 fun y H4 => ∃ acc, H4 D = some (.lst acc) ∧ acc.length < sizeLine ∧ Nx (upd H4 D (.lst (acc ++ [y]))) else Nx H3) := by
  refine lcFM w l (fun _ => true) f hn hz hD hG (fun i a x H H' ha s1 hy N M y1 _ => mono _ _ _ _ _ (fun s h q => ⟨q.1, by show if true = true then te s h N else M h; rw [if_pos rfl]; exact q.2⟩) (hs i a x H H' ha s1 hy N (y1 rfl))) fun H s1 e => hd H s1 ?_
  rw [e, List.filter_eq_self.mpr (fun _ _ => rfl)]
theorem gNameMono (i : Nat) : ∀ (x : V) (σ : L2.St) (H : Hp) (Q Q' : L2.St → Hp → Prop), (∀ s h, Q s h → Q' s h) → gName i x σ H Q → gName i x σ H Q' := fun _ _ _ _ _ h q => h _ _ q
theorem yesI {σ : L2.St} {H : Hp} {A B : Hp → Prop} (h : A H) : tYes σ H (fun b H3 => if b = true then A H3 else B H3) := by
  show if true = true then A H else B H
  rw [if_pos rfl]
  exact h
/-! ### numbers -/
abbrev ev (z : Vbndam.Room) : Nat := Vbndam.everyone z
theorem everyoneI (z : Vbndam.Room) : ((ev z : Nat) : Int) = ((2 ^ z.players.length : Nat) : Int) - 1 := by
  have h : 0 < 2 ^ z.players.length := Nat.two_pow_pos _
  show ((2 ^ z.players.length - 1 : Nat) : Int) = _
  omega
theorem andI (a b : Nat) : Builtin.bitAnd (a : Int) (b : Int) = ((a &&& b : Nat) : Int) := by
  rw [bitAnd_pp (Int.natCast_nonneg a) (Int.natCast_nonneg b)]
  rfl
theorem orI (a b : Nat) : Builtin.bitOr (a : Int) (b : Int) = ((a ||| b : Nat) : Int) := by
  rw [Bits.bitOr_pp (Int.natCast_nonneg a) (Int.natCast_nonneg b)]
  rfl
theorem zeroI (n : Nat) : (!decide (V.int (n : Nat) = V.int 0)) = (n != 0) := by
  rw [dec_int, Bool.eq_iff_iff]
  simp
theorem powers_get {i : Nat} (h : i ≤ 8) : (powers.map fun n => V.int (n : Nat))[i]? = some (.int ((2 ^ i : Nat) : Int)) := by
  unfold powers
  rw [List.map_map, List.getElem?_map, List.getElem?_range (by omega)]
  rfl
theorem pairedLen {α β : Type} {R : α → β → Prop} : ∀ {l : List α} {m : List β}, Paired R l m → l.length = m.length
  | _, _, .nil => rfl
  | _, _, .cons _ t => congrArg Nat.succ (pairedLen t)
section
variable {P : Program} {w : World} {K : PySem.W.Frag} {mg : Str → Option Value} {base : Heap}
def sp_everyone (K : PySem.W.Frag) : Sp := fun vs H Q _ => ∃ r z, vs = [.ref r] ∧ RoomAt K H r z ∧ WF z ∧ Q (.int (ev z : Nat)) H
theorem ok_everyone {f : Addr} {fd : FuncData} (T : Txt K mg) (F : FnP K "everyone" "everyone" s_everyone f fd) (hm : mg "everyone" = some (.ref f))  :
    C8.Cal P w K mg base 1 "everyone" (sp_everyone K) [] := by
  refine calMk F hm (F.bindsN (ps := ["room"]) fun _ _ _ _ _ _ us hl => match us, hl with | [_], _ => rfl) sc_everyone (fun vs H Q E h => by first | (obtain ⟨rfl, _⟩ := h; rfl) | (obtain ⟨_, rfl, _⟩ := h; rfl) | (obtain ⟨_, _, rfl, _⟩ := h; rfl) | (obtain ⟨_, _, _, rfl, _⟩ := h; rfl) | (obtain ⟨_, _, _, _, rfl, _⟩ := h; rfl) | (obtain ⟨_, _, _, _, _, rfl, _⟩ := h; rfl) | (obtain ⟨_, _, _, _, _, _, rfl, _⟩ := h; rfl)) (fun cdv A outer s H vs Q E hr h => ?_)
  obtain ⟨r, z, rfl, ⟨dx, pl, ru, ps, rs, i⟩, wz, q⟩ := h
  refine ⟨_, (pss_one (ps_ret (pe_op op_sub (pe_ix ix_tup (C8.pe_gc (by rfl) T.g_POWERS) (pe_callB call_len_seq (by rfl) T.n_len PySem.boot_len (pa_cons (pe_fld (pv 0) rfl) pa_nil)) (fun _ _ => rfl)) pe_int))), ?_⟩
  have hl : (ps.map V.ref).length = z.players.length := by rw [List.length_map]; exact pairedLen i.pAt
  refine ⟨_, rfl, r, _, dx, _, _, rfl, i.at_, T.c_Room, T.a_players, lRoom1, pl, _, rfl, .inl (SqL.of i.pls), ?_⟩
  refine ⟨_, _, _, _, rfl, rfl, T.t_POWERS _, atI_nat (powers_get (by rw [hl]; exact wz.le8)), _, _, rfl, rfl, ?_⟩
  show Q (V.int (((2 ^ (ps.map V.ref).length : Nat) : Int) - 1)) H
  rw [hl, ← everyoneI]
  exact q
def sp_exists (K : PySem.W.Frag) : Sp := fun vs H Q _ => ∃ (r : Addr) (z : Vbndam.Room) (c : Int), vs = [.ref r, .int c] ∧ RoomAt K H r z ∧ WF z ∧ Q (.bl (decide (c ≤ (ev z : Nat)))) H
theorem ok_exists {f : Addr} {fd : FuncData} (T : Txt K mg) (F : FnP K "exists" "exists" s_exists f fd) (hm : mg "exists" = some (.ref f)) (c_everyone : C8.Cal P w K mg base 1 "everyone" (sp_everyone K) []) :
    C8.Cal P w K mg base 2 "exists" (sp_exists K) [] := by
  refine calMk F hm (F.bindsN (ps := ["room", "coalition"]) fun _ _ _ _ _ _ us hl => match us, hl with | [_, _], _ => rfl) sc_exists (fun vs H Q E h => by first | (obtain ⟨rfl, _⟩ := h; rfl) | (obtain ⟨_, rfl, _⟩ := h; rfl) | (obtain ⟨_, _, rfl, _⟩ := h; rfl) | (obtain ⟨_, _, _, rfl, _⟩ := h; rfl) | (obtain ⟨_, _, _, _, rfl, _⟩ := h; rfl) | (obtain ⟨_, _, _, _, _, rfl, _⟩ := h; rfl) | (obtain ⟨_, _, _, _, _, _, rfl, _⟩ := h; rfl)) (fun cdv A outer s H vs Q E hr h => ?_)
  obtain ⟨r, z, c, rfl, hz, wz, q⟩ := h
  refine ⟨_, (pss_one (ps_ret (pe_cmpR op_le (pv 1) (C8.pe_c c_everyone hr (by decide) (by rfl) (pa_cons (pv 0) pa_nil)) (nomark _)))), ?_⟩
  exact ⟨_, rfl, _, rfl, r, z, rfl, hz, wz, _, _, rfl, rfl, q⟩
def sp_has_member (K : PySem.W.Frag) : Sp := fun vs H Q _ => ∃ c p : Nat, vs = [.int (c : Nat), .int (p : Nat)] ∧ p ≤ 8 ∧ Q (.bl (c.testBit p)) H
theorem ok_has_member {f : Addr} {fd : FuncData} (T : Txt K mg) (F : FnP K "has_member" "has_member" s_has_member f fd) (hm : mg "has_member" = some (.ref f))  :
    C8.Cal P w K mg base 1 "has_member" (sp_has_member K) [] := by
  refine calMk F hm (F.bindsN (ps := ["coalition", "player"]) fun _ _ _ _ _ _ us hl => match us, hl with | [_, _], _ => rfl) sc_has_member (fun vs H Q E h => by first | (obtain ⟨rfl, _⟩ := h; rfl) | (obtain ⟨_, rfl, _⟩ := h; rfl) | (obtain ⟨_, _, rfl, _⟩ := h; rfl) | (obtain ⟨_, _, _, rfl, _⟩ := h; rfl) | (obtain ⟨_, _, _, _, rfl, _⟩ := h; rfl) | (obtain ⟨_, _, _, _, _, rfl, _⟩ := h; rfl) | (obtain ⟨_, _, _, _, _, _, rfl, _⟩ := h; rfl)) (fun cdv A outer s H vs Q E hr h => ?_)
  obtain ⟨c, p, rfl, hp, q⟩ := h
  refine ⟨_, (pss_one (ps_ret (pe_cmpR op_ne (pe_op op_and (pv 0) (pe_ix ix_tup (C8.pe_gc (by rfl) T.g_POWERS) (pv 1) (fun _ _ => rfl))) pe_int (nomark _)))), ?_⟩
  refine ⟨_, rfl, _, rfl, _, _, _, _, rfl, rfl, T.t_POWERS _, atI_nat (powers_get hp), _, _, rfl, rfl, rfl, ?_⟩
  show Q (V.bl (!decide (V.int (Builtin.bitAnd (c : Int) ((2 ^ p : Nat) : Int)) = V.int 0))) H
  rw [andI, zeroI, and_pow]
  exact q
def sp_size (K : PySem.W.Frag) : Sp := fun vs H Q _ => ∃ c : Nat, vs = [.int (c : Nat)] ∧ ∀ H', Same H H' → Q (.int (sizeOf' c : Nat)) H'
theorem ok_size {f : Addr} {fd : FuncData} (T : Txt K mg) (F : FnP K "size" "size" s_size f fd) (hm : mg "size" = some (.ref f))  :
    C8.Cal P w K mg base 1 "size" (sp_size K) [] := by
  refine calMk F hm (F.bindsN (ps := ["coalition"]) fun _ _ _ _ _ _ us hl => match us, hl with | [_], _ => rfl) sc_size (fun vs H Q E h => by first | (obtain ⟨rfl, _⟩ := h; rfl) | (obtain ⟨_, rfl, _⟩ := h; rfl) | (obtain ⟨_, _, rfl, _⟩ := h; rfl) | (obtain ⟨_, _, _, rfl, _⟩ := h; rfl) | (obtain ⟨_, _, _, _, rfl, _⟩ := h; rfl) | (obtain ⟨_, _, _, _, _, rfl, _⟩ := h; rfl) | (obtain ⟨_, _, _, _, _, _, rfl, _⟩ := h; rfl)) (fun cdv A outer s H vs Q E hr h => ?_)
  obtain ⟨c, rfl, q⟩ := h
  refine ⟨_, (pss_one (ps_ret (pe_callB call_len_seq (by rfl) T.n_len PySem.boot_len (pa_cons (pe_lc (own := [("power", 1)]) (g := (gName 1)) (by rfl) sc_size.nd (pi_tup (C8.pe_gc (by rfl) T.g_POWERS)) (blkOk_by (own := [("power", 1)]) (N := ["coalition", "power"]) (sc := defScope s_size) (by decide +kernel)) (fun _ _ _ _ _ => pg_name (i := 1) sc_size.nd rfl (Or.inl rfl)) (fun _ _ _ _ _ => pts_one (pt_cmpR op_ne (pe_op op_and (pv 0) (pv 1)) pe_int (nomark _))) (fun _ _ _ _ _ => (pv 1))) pa_nil)))), ?_⟩
  refine ⟨_, rfl, ⟨_, T.t_POWERS _⟩, fun D hD => ?_⟩
  refine lcFM walk_tup powers (fun w => c &&& w != 0) (fun n => V.int (n : Nat)) (by simp) (by simp [powers]) hD (fun H _ => T.t_POWERS H) (fun i a x H1 H' ha s1 hy N M y1 n1 => ?_) (fun H1 s1 e => ?_)
  · obtain ⟨rfl, hx⟩ := hy
    rw [List.getElem?_map, ha] at hx
    obtain rfl : V.int (a : Nat) = x := Option.some.inj hx
    refine ⟨rfl, _, rfl, _, rfl, _, _, rfl, rfl, rfl, _, rfl, ?_⟩
    show if (!decide (V.int (Builtin.bitAnd (c : Int) (a : Int)) = V.int 0)) = true then _ else _
    rw [andI, zeroI]
    cases hb : (c &&& a != 0) with
    | true => exact ⟨_, rfl, y1 hb _ (Same.refl _)⟩
    | false => exact n1 hb _ (Same.refl _)
  · refine ⟨D, _, rfl, .inl (SqL.of e), ?_⟩
    rw [List.length_map]
    exact q _ s1
end
end SI

set_option maxHeartbeats 4000000
namespace SI
open PySem PySem.Spec PyProof.Rows L2
theorem rule_lt {z : Vbndam.Room} (w : WF z) {i : Nat} {u : Vbndam.Rule} (h : z.rules[i]? = some u) : u.absent ≤ 8 ∧ (∀ q ∈ u.substitutes, q ≤ 8) ∧ u.substitutes.length ≤ 8 ∧ u.absent < Vbndam.playerCount z := by
  have hm := List.mem_of_getElem? h
  have := w.le8
  exact ⟨by have := w.abs u hm; omega, fun q hq => by have := w.sub u hm q hq; omega, w.sl u hm, w.abs u hm⟩
def encC (l : List (Nat × Nat)) : List (Key × V) := l.map fun x => (Sum.inl (x.1 : Int), V.int (x.2 : Nat))
theorem valV_encC (p : Nat) : ∀ l : List (Nat × Nat), valV (encC l) (Sum.inl (p : Int)) = (l.lookup p).map fun n => V.int (n : Nat)
  | [] => rfl
  | (k, v) :: l => by
    have ih := valV_encC p l
    by_cases e : k = p
    · subst e
      rw [List.lookup_cons]
      simp only [beq_self_eq_true]
      exact valV_pos (p := ((Sum.inl (k : Int) : Key), V.int (v : Nat))) rfl
    · have e2 : (p == k) = false := by simpa using fun q => e q.symm
      rw [List.lookup_cons, e2, ← ih]
      refine valV_neg (p := ((Sum.inl (k : Int) : Key), V.int (v : Nat))) fun q => e ?_
      have := Sum.inl.inj q
      omega
theorem any_lookup (p : Nat) : ∀ l : List (Nat × Nat), l.any (fun x => x.1 == p) = (l.lookup p).isSome
  | [] => rfl
  | (k, v) :: l => by
    rw [List.any_cons, List.lookup_cons, any_lookup p l]
    by_cases e : k = p
    · subst e; simp
    · have e1 : (k == p) = false := by simpa using e
      have e2 : (p == k) = false := by simpa using fun q => e q.symm
      simp [e1, e2]
theorem chosen_len (s : Nat) (l : List (Vbndam.Rule × Nat)) : (chosenOf s l).length ≤ l.length := by
  suffices H : ∀ m : List (Vbndam.Rule × Nat), (chosenOf s m.reverse).length ≤ m.length by
    have := H l.reverse
    rwa [List.reverse_reverse, List.length_reverse] at this
  intro m
  induction m with
  | nil => exact Nat.le_refl _
  | cons u m ih =>
    rw [List.reverse_cons, chosenOf_snoc, List.length_cons]
    unfold chooseStep
    split
    · rw [List.length_append]; exact Nat.succ_le_succ ih
    · exact Nat.le_succ_of_le ih
theorem sorted_unique : ∀ {l m : List Int}, l.Perm m → l.Pairwise (· ≤ ·) → m.Pairwise (· < ·) → l = m := fun {l m} hp hl hm => by
  refine List.Perm.eq_of_pairwise (le := fun a b => a ≤ b) (fun a b _ _ h1 h2 => Int.le_antisymm h1 h2) hl (hm.imp fun h => Int.le_of_lt h) hp
/-- the steps, each a new pair -/
def StepAt (H : Hp) (t : Addr) (x : Nat × Nat) : Prop := H t = some (.tup [.int (x.1 : Nat), .int ((x.2 + 1 : Nat) : Nat)])
def StepsAt (H : Hp) (p : Addr) (l : List (Nat × Nat)) : Prop := ∃ ts : List Addr, H p = some (.lst (ts.map V.ref)) ∧ Paired (StepAt H) ts l
theorem StepAt.same {H H' : Hp} (s : Same H H') {t : Addr} {x : Nat × Nat} (h : StepAt H t x) : StepAt H' t x := s _ _ h
theorem StepsAt.same {H H' : Hp} (s : Same H H') {p : Addr} {l : List (Nat × Nat)} (h : StepsAt H p l) : StepsAt H' p l := let ⟨ts, a, b⟩ := h; ⟨ts, s _ _ a, pairedImp (fun _ _ q => StepAt.same s q) b⟩
theorem pairedSnoc {α β : Type} {R : α → β → Prop} {a : α} {b : β} (r : R a b) : ∀ {l : List α} {m : List β}, Paired R l m → Paired R (l ++ [a]) (m ++ [b])
  | _, _, .nil => .cons r .nil
  | _, _, .cons q t => .cons q (pairedSnoc r t)
theorem pairedApp {α β : Type} {R : α → β → Prop} : ∀ {l l' : List α} {m m' : List β}, Paired R l m → Paired R l' m' → Paired R (l ++ l') (m ++ m')
  | _, _, _, _, .nil, q => q
  | _, _, _, _, .cons r t, q => .cons r (pairedApp t q)
section
variable {P : Program} {w : World} {K : PySem.W.Frag} {mg : Str → Option Value} {base : Heap}
def sp_is_enabled (K : PySem.W.Frag) : Sp := fun vs H Q _ => ∃ (a pl ru : Addr) (c : Nat) (u : Vbndam.Rule), vs = [.ref a, .int (c : Nat)] ∧ RuleAt K H pl ru a u ∧ (∀ q ∈ u.substitutes, q ≤ 8) ∧ u.substitutes.length ≤ 8 ∧ ∀ H', Same H H' → Q (.bl (Vbndam.isRuleEnabled c u)) H'
theorem ok_is_enabled {f : Addr} {fd : FuncData} (T : Txt K mg) (F : FnP K "is_enabled" "is_enabled" s_is_enabled f fd) (hm : mg "is_enabled" = some (.ref f)) (c_has_member : C8.Cal P w K mg base 1 "has_member" (sp_has_member K) []) :
    C8.Cal P w K mg base 2 "is_enabled" (sp_is_enabled K) [] := by
  refine calMk F hm (F.bindsN (ps := ["rule", "coalition"]) fun _ _ _ _ _ _ us hl => match us, hl with | [_, _], _ => rfl) sc_is_enabled (fun vs H Q E h => by first | (obtain ⟨rfl, _⟩ := h; rfl) | (obtain ⟨_, rfl, _⟩ := h; rfl) | (obtain ⟨_, _, rfl, _⟩ := h; rfl) | (obtain ⟨_, _, _, rfl, _⟩ := h; rfl) | (obtain ⟨_, _, _, _, rfl, _⟩ := h; rfl) | (obtain ⟨_, _, _, _, _, rfl, _⟩ := h; rfl) | (obtain ⟨_, _, _, _, _, _, rfl, _⟩ := h; rfl)) (fun cdv A outer s H vs Q E hr h => ?_)
  obtain ⟨a, pl, ru, c, u, rfl, ⟨dx, sl, e1, e2, _, _⟩, h8, hl, q⟩ := h
  refine ⟨_, (pss_cons (ps_setLc (i := 2) (own := [("player", 3)]) (g := gName 3) (by rfl) sc_is_enabled.nd rfl rfl (sw_true rfl rfl rfl (by decide +kernel)) (pi_list (pe_fld (pv 0) rfl)) (blkOk_by (own := [("player", 3)]) (N := ["rule", "coalition", "present", "player"]) (sc := defScope s_is_enabled) (by decide +kernel)) (fun _ _ _ _ _ => pg_name (i := 3) sc_is_enabled.nd rfl (Or.inl rfl)) (fun _ _ _ _ _ => pts_one (pt_val (C8.pe_c c_has_member hr (by decide) (by rfl) (pa_cons (pv 1) (pa_cons (pv 3) pa_nil))))) (fun _ _ _ _ _ => (pv 3))) (pss_one (ps_ret (pe_cmpR op_ge (pe_callB call_len_seq (by rfl) T.n_len PySem.boot_len (pa_cons (pv 2) pa_nil)) (pe_fld (pv 0) rfl) (nomark _))))), ?_⟩
  refine ⟨_, rfl, a, _, dx, _, _, rfl, e1, T.c_Rule, T.a_substitutes, lRule3, sl, rfl, ⟨_, SqL.of e2⟩, fun D hD => ?_⟩
  refine lcFM walk_list u.substitutes (fun p => c.testBit p) (fun n => V.int (n : Nat)) (by simp [nats]) (by simp [nats]; omega) hD (fun H1 s1 => s1.seq (SqL.of e2)) (fun i x v H1 H' ha s1 hy N M y1 n1 => ?_) (fun H1 s1 e => ?_)
  · obtain ⟨rfl, hx⟩ := hy
    unfold nats at hx
    rw [List.getElem?_map, ha] at hx
    obtain rfl : V.int (x : Nat) = v := Option.some.inj hx
    refine ⟨rfl, _, rfl, _, rfl, c, x, rfl, h8 x (List.mem_of_getElem? ha), _, rfl, ?_⟩
    cases hb : c.testBit x with
    | true => exact ⟨_, rfl, y1 hb _ (Same.refl _)⟩
    | false => exact n1 hb _ (Same.refl _)
  · refine ⟨_, rfl, D, _, rfl, .inl (SqL.of e), ?_⟩
    refine ⟨_, rfl, a, _, dx, _, _, rfl, s1 _ _ e1, T.c_Rule, T.a_needed, lRule2, _, _, rfl, rfl, ?_⟩
    have e3 : decide ((u.required : Int) ≤ (((u.substitutes.filter fun p => c.testBit p).map fun n => V.int (n : Nat)).length : Nat)) = Vbndam.isRuleEnabled c u := by
      rw [List.length_map]
      unfold Vbndam.isRuleEnabled
      rw [Bool.eq_iff_iff, decide_eq_true_eq, decide_eq_true_eq, Int.ofNat_le]
      rw [show (fun p => c.testBit p) = Vbndam.isMember c from funext fun p => (mem_tb c p).symm]
    have q2 := q _ s1
    rw [← e3] at q2
    exact q2
def sp_round_steps (K : PySem.W.Frag) : Sp := fun vs H Q _ => ∃ (r : Addr) (c : Nat) (z : Vbndam.Room), vs = [.ref r, .int (c : Nat)] ∧ RoomAt K H r z ∧ WF z ∧ ∀ H' p, Same H H' → H p = none → StepsAt H' p (roundOf z c) → Q (.ref p) H'
theorem ok_round_steps {f : Addr} {fd : FuncData} (T : Txt K mg) (F : FnP K "round_steps" "round_steps" s_round_steps f fd) (hm : mg "round_steps" = some (.ref f)) (c_is_enabled : C8.Cal P w K mg base 2 "is_enabled" (sp_is_enabled K) []) (c_has_member : C8.Cal P w K mg base 1 "has_member" (sp_has_member K) []) :
    C8.Cal P w K mg base 3 "round_steps" (sp_round_steps K) [] := by
  refine calMk F hm (F.bindsN (ps := ["room", "coalition"]) fun _ _ _ _ _ _ us hl => match us, hl with | [_, _], _ => rfl) sc_round_steps (fun vs H Q E h => by first | (obtain ⟨rfl, _⟩ := h; rfl) | (obtain ⟨_, rfl, _⟩ := h; rfl) | (obtain ⟨_, _, rfl, _⟩ := h; rfl) | (obtain ⟨_, _, _, rfl, _⟩ := h; rfl) | (obtain ⟨_, _, _, _, rfl, _⟩ := h; rfl) | (obtain ⟨_, _, _, _, _, rfl, _⟩ := h; rfl) | (obtain ⟨_, _, _, _, _, _, rfl, _⟩ := h; rfl)) (fun cdv A outer s H vs Q E hr h => ?_)
  obtain ⟨r, c, z, rfl, hz, wz, q⟩ := h
  obtain ⟨dx, pl, ru, ps, rs, I⟩ := id hz
  refine ⟨_, (pss_cons (ps_set (i := 2) sc_round_steps.nd rfl (Or.inr rfl) pe_dnewK) (pss_cons (ps_for PassesOwn.never (by rfl) (pi_enumK (by rfl) T.n_enumerate (pa_cons (pe_fld (pv 0) rfl) pa_nil) (pk_cons pe_int pk_nil)) (pg_tup (by rfl) (pgs_cons (pg_name (i := 3) sc_round_steps.nd rfl (Or.inl rfl)) (pgs_cons (pg_name (i := 4) sc_round_steps.nd rfl (Or.inl rfl)) pgs_nil))) (pss_cons (ps_set (i := 5) sc_round_steps.nd rfl (Or.inl rfl) (pe_and (pe_not (C8.pe_c c_has_member hr (by decide) (by rfl) (pa_cons (pv 1) (pa_cons (pe_fld (pv 4) rfl) pa_nil)))) (pe_one (pe_cmp (pc_dnotin (hu_of hr) (pe_fld (pv 4) rfl) (pv 2)) rfl)))) (pss_one (ps_if (PW.pt (pw_and (pt_val (pv 5)) (pw_and1 (pt_val (C8.pe_c c_is_enabled hr (by decide) (by rfl) (pa_cons (pv 4) (pa_cons (pv 1) pa_nil))))))) (pss_one (ps_dput (hu_of hr) (pv 2) (pe_fld (pv 4) rfl) (pv 3) rfl)) pss_nil)))) (pss_one (ps_ret (pe_lc (own := [("player", 6)]) (g := (gName 6)) (by rfl) sc_round_steps.nd (pi_list (pe_callB (call_sortedDI (by rfl)) (by rfl) T.n_sorted (by decide +kernel) (pa_cons (pv 2) pa_nil))) (blkOk_by (own := [("player", 6)]) (N := ["room", "coalition", "chosen", "number", "rule", "waits", "player"]) (sc := defScope s_round_steps) (by decide +kernel)) (fun _ _ _ _ _ => pg_name (i := 6) sc_round_steps.nd rfl (Or.inl rfl)) (fun _ _ _ _ _ => pts_nil) (fun _ _ _ _ _ => (pe_tup (pa_cons (pv 6) (pa_cons (pe_dget (hu_of hr) (pv 2) (pv 6) (fun _ _ => rfl)) pa_nil))))))))), ?_⟩
  intro d hd
  have s0 : Same H (upd H d (.dK [])) := sameUpd hd
  have hl := pairedLen I.rAt
  refine ⟨_, rfl, r, _, dx, _, _, rfl, s0 _ _ I.at_, T.c_Room, T.a_rules, lRoom2, ru, _, 1, rfl, rfl, SqL.of (s0 _ _ I.rls), by decide, by decide, ?_⟩
  refine for_it walkEn (fun i σ H1 => ∃ y3 y4 y5 : Option V, σ = [some (.ref r), some (.int (c : Nat)), some (.ref d), y3, y4, y5, none] ∧ Same H H1 ∧ H1 d = some (.dK (encC (chosenOf c (z.rules.zipIdx.take i)))))
    ⟨none, none, none, rfl, s0, upd_same⟩ (fun i σ H1 _ h => let ⟨_, _, _, _, s1, _⟩ := h; SqL.of (s1 _ _ I.rls)) ?_ ?_
  · rintro i x σ H1 H2 hi ⟨y3, y4, y5, rfl, s1, e1⟩ ⟨Tt, n, v, rfl, hT, rfl, hn, hv⟩
    obtain rfl : V.int (1 + (i : Nat)) = n := Option.some.inj hn
    replace hv : (rs.map V.ref)[i]? = some v := hv
    rw [List.getElem?_map] at hv
    obtain ⟨a, ha, rfl⟩ := Option.map_eq_some_iff.mp hv
    obtain ⟨u, hu, hR⟩ := pairedGetL I.rAt ha
    obtain ⟨ha8, hs8, hsl, _⟩ := rule_lt wz hu
    have sT : Same H1 (upd H1 Tt (.tup [V.int (1 + (i : Nat)), V.ref a])) := sameUpd hT
    have s2 := s1.trans sT
    have eD : upd H1 Tt (.tup [V.int (1 + (i : Nat)), V.ref a]) d = some (.dK (encC (chosenOf c (z.rules.zipIdx.take i)))) := sT _ _ e1
    have hzi : z.rules.zipIdx[i]? = some (u, i) := by rw [List.getElem?_zipIdx, hu]; simp
    have stp : chosenOf c (z.rules.zipIdx.take (i + 1)) = chooseStep c (chosenOf c (z.rules.zipIdx.take i)) (u, i) := by
      rw [List.take_add_one, hzi]
      exact chosenOf_snoc ..
    have hR2 := hR.same s2
    obtain ⟨dxu, sl, eu, _⟩ := id hR2
    generalize hacc : chosenOf c (z.rules.zipIdx.take i) = acc at stp eD e1
    have hlen : acc.length ≤ 100000 := by
      rw [← hacc]
      refine Nat.le_trans (chosen_len ..) (Nat.le_trans (List.length_take_le' ..) ?_)
      rw [List.length_zipIdx]
      have := wz.r20
      omega
    refine ⟨Tt, _, rfl, SqT.of upd_same, rfl, _, _, rfl, _, _, rfl, rfl, ?_⟩
    -- waits
    refine ⟨_, rfl, _, rfl, a, _, dxu, _, _, rfl, eu, T.c_Rule, T.a_absent, lRule1, c, u.absent, rfl, ha8, _, rfl, _, rfl, ?_⟩
    have keep : ∀ H3, Same (upd H1 Tt (.tup [V.int (1 + (i : Nat)), V.ref a])) H3 → chooseStep c acc (u, i) = acc → ∃ y3' y4' y5' : Option V, [some (V.ref r), some (.int (c : Nat)), some (.ref d), some (.int (1 + (i : Nat))), some (.ref a), y5', none] = [some (V.ref r), some (.int (c : Nat)), some (.ref d), y3', y4', y5', none] ∧ Same H H3 ∧
        H3 d = some (.dK (encC (chosenOf c (z.rules.zipIdx.take (i + 1))))) := fun H3 s3 e => ⟨_, _, none, rfl, s2.trans s3, by rw [stp, e]; exact s3 _ _ eD⟩
    cases hb : c.testBit u.absent with
    | true =>
      refine iteF ?_
      refine ⟨_, rfl, _, rfl, iteF ?_⟩
      have e : chooseStep c acc (u, i) = acc := by unfold chooseStep; simp [hb]
      exact ⟨_, _, some (.bl false), rfl, s2, by rw [stp, e]; exact eD⟩
    | false =>
      refine iteT ?_
      refine ⟨_, rfl, a, _, dxu, _, _, rfl, eu, T.c_Rule, T.a_absent, lRule1, _, rfl, d, _, rfl, DGet.k (k := Sum.inl (u.absent : Int)) eD, ?_⟩
      rw [valV_encC]
      cases hk : acc.lookup u.absent with
      | some n0 =>
        refine ⟨_, rfl, _, rfl, iteF ?_⟩
        have e : chooseStep c acc (u, i) = acc := by unfold chooseStep; rw [any_lookup, hk]; simp
        exact ⟨_, _, some (.bl false), rfl, s2, by rw [stp, e]; exact eD⟩
      | none =>
        refine ⟨_, rfl, _, rfl, iteT ?_⟩
        refine ⟨_, rfl, _, rfl, a, pl, ru, c, u, rfl, hR2, hs8, hsl, fun H3 s3 => ⟨_, rfl, ?_⟩⟩
        cases he : Vbndam.isRuleEnabled c u with
        | false =>
          refine iteF ?_
          have e : chooseStep c acc (u, i) = acc := by unfold chooseStep; simp [he]
          exact ⟨_, _, some (.bl true), rfl, s2.trans s3, by rw [stp, e]; exact s3 _ _ eD⟩
        | true =>
          refine iteT ?_
          have e : chooseStep c acc (u, i) = acc ++ [(u.absent, i + 1)] := by unfold chooseStep; rw [any_lookup, hk, hb, he]; simp
          refine ⟨_, rfl, _, rfl, _, rfl, a, _, dxu, _, _, rfl, s3 _ _ eu, T.c_Rule, T.a_absent, lRule1, d, _, rfl, DPut.k (k := Sum.inl (u.absent : Int)) (s3 _ _ eD) (lenI (by unfold encC; rw [List.length_map]; exact hlen)), ?_⟩
          refine ⟨_, _, some (.bl true), rfl, fun b o hbo => ?_, ?_⟩
          · have nb : b ≠ d := ne_of_none hbo hd
            rw [upd_ne nb]
            exact s3 _ _ (s2 _ _ hbo)
          · rw [upd_same, stp, e, putK_new _ (by rw [valV_encC, hk]; rfl)]
            unfold encC
            rw [List.map_append]
            show some (HO.dK (_ ++ [(Sum.inl (u.absent : Int), V.int (1 + (i : Nat)))])) = some (HO.dK (_ ++ [(Sum.inl (u.absent : Int), V.int ((i + 1 : Nat) : Nat))]))
            rw [show (1 + (i : Nat) : Int) = ((i + 1 : Nat) : Int) by omega]
  · rintro σ H1 ⟨y3, y4, y5, rfl, s1, e1⟩
    rw [List.length_map, hl] at e1
    have ez : z.rules.zipIdx.take z.rules.length = z.rules.zipIdx := List.take_of_length_le (by rw [List.length_zipIdx]; exact Nat.le_refl _)
    rw [ez] at e1
    have hks : (encC (chosenOf c z.rules.zipIdx)).map (·.1) = (((chosenOf c z.rules.zipIdx).map (·.1)).map fun n : Nat => (n : Int)).map Sum.inl := by
      unfold encC
      rw [List.map_map, List.map_map, List.map_map]
      rfl
    refine ⟨_, rfl, d, _, _, rfl, .inl e1, hks, ?_, fun ys p hp hsrt np => ?_⟩
    · rw [List.length_map, List.length_map]
      have := chosen_len c z.rules.zipIdx
      rw [List.length_zipIdx] at this
      have := wz.r20
      omega
    have hys : ys = (joinList z c).map fun n : Nat => (n : Int) := by
      refine sorted_unique (hp.trans ((chosen_perm wz).map _)) hsrt ?_
      rw [List.pairwise_map]
      exact (List.pairwise_lt_range.sublist List.filter_sublist).imp fun h => Int.ofNat_lt.mpr h
    subst hys
    have sp : Same H1 (upd H1 p (.lst (((joinList z c).map fun n : Nat => (n : Int)).map V.int))) := sameUpd np
    refine ⟨p, rfl, ⟨_, SqL.of upd_same⟩, fun D hD => ?_⟩
    have s3 := s1.trans sp
    generalize hH2 : upd H1 p (.lst (((joinList z c).map fun n : Nat => (n : Int)).map V.int)) = H2 at hD sp s3
    have ep : H2 p = some (.lst (((joinList z c).map fun n : Nat => (n : Int)).map V.int)) := by rw [← hH2]; exact upd_same
    have ed : H2 d = some (.dK (encC (chosenOf c z.rules.zipIdx))) := sp _ _ e1
    have hDH : H D = none := s3.free hD
    have jl : (joinList z c).length ≤ 8 := by
      unfold joinList
      refine Nat.le_trans (List.length_filter_le ..) ?_
      rw [List.length_range]
      exact wz.le8
    refine lc_list (xs := ((joinList z c).map fun n : Nat => (n : Int)).map V.int) (fun i H3 => Same H2 H3 ∧ ∃ ts : List Addr, H3 D = some (.lst (ts.map V.ref)) ∧ Paired (StepAt H3) ts ((roundOf z c).take i)) ⟨sameUpd hD, [], upd_same, .nil⟩ (fun i H3 _ h => SqL.of (h.1 _ _ ep)) ?_ ?_
    · rintro i x H3 hx ⟨s4, ts, eD, hts⟩
      rw [List.getElem?_map, List.getElem?_map] at hx
      obtain ⟨y, hy, rfl⟩ := Option.map_eq_some_iff.mp hx
      obtain ⟨m, hm, rfl⟩ := Option.map_eq_some_iff.mp hy
      have hmem := List.mem_of_getElem? hm
      refine ⟨rfl, yesI ?_⟩
      refine ⟨_, rfl, _, rfl, _, rfl, d, V.int ((ruleFor z c m + 1 : Nat) : Nat), rfl, ?_, by show 2 ≤ sizeLine; decide, fun t ht => ?_⟩
      · have g := DGet.k (k := Sum.inl (m : Int)) (s4 _ _ ed)
        rw [valV_encC, chosen_lookup hmem] at g
        exact g
      · have st : Same H3 (upd H3 t (.tup [V.int (m : Nat), V.int ((ruleFor z c m + 1 : Nat) : Nat)])) := sameUpd ht
        have nt : D ≠ t := ne_of_none eD ht
        have lts : ts.length ≤ 8 := by
          rw [pairedLen hts]
          refine Nat.le_trans (List.length_take_le' ..) ?_
          unfold roundOf
          rw [List.length_map]
          exact jl
        refine ⟨_, st _ _ eD, lenI (by rw [List.length_map]; omega), fun b o q => ?_, ts ++ [t], ?_, ?_⟩
        · have nb : b ≠ D := ne_of_none q hD
          rw [upd_ne nb]
          exact st _ _ (s4 _ _ q)
        · rw [upd_same, List.map_append]
          rfl
        · have hr : (roundOf z c)[i]? = some (m, ruleFor z c m) := by
            unfold roundOf
            rw [List.getElem?_map, hm]
            rfl
          rw [List.take_add_one, hr]
          refine pairedSnoc ?_ (pairedImp (fun t' x q => ?_) hts)
          · show upd _ _ _ _ = _
            rw [upd_ne (Ne.symm nt), upd_same]
          · have : t' ≠ D := fun e => by
              have q2 : H3 t' = _ := q
              rw [e, eD] at q2
              cases q2
            show upd _ _ _ _ = _
            rw [upd_ne this]
            exact st _ _ q
    · rintro H3 ⟨s4, ts, eD, hts⟩
      refine q H3 D (s3.trans s4) hDH ⟨ts, eD, ?_⟩
      have : (roundOf z c).take (((joinList z c).map fun n : Nat => (n : Int)).map V.int).length = roundOf z c := List.take_of_length_le (by unfold roundOf; simp)
      rw [this] at hts
      exact hts
end
end SI

set_option maxHeartbeats 4000000
namespace SI
open PySem PySem.Spec PyProof.Rows L2
theorem takeS {α : Type} {l : List α} {i : Nat} {a : α} (h : l[i]? = some a) : l.take (i + 1) = l.take i ++ [a] := by
  rw [List.take_add_one, h]
  rfl
theorem bitsOf_snoc (l : List Nat) (p s : Nat) : bitsOf (l ++ [p]) s = bitsOf l s ||| 2 ^ p := by
  rw [bitsOf_app]
  rfl
theorem step_le {z : Vbndam.Room} (w : WF z) {s : Nat} : ∀ x ∈ roundOf z s, x.1 ≤ 8 := fun x hx => by
  unfold roundOf at hx
  obtain ⟨p, hp, rfl⟩ := List.mem_map.mp hx
  unfold joinList at hp
  have := List.mem_range.mp (List.mem_filter.mp hp).1
  have := w.le8
  unfold Vbndam.playerCount at *
  show p ≤ 8
  omega
theorem steps_le {z : Vbndam.Room} (w : WF z) : ∀ (f s : Nat), ∀ x ∈ Vbndam.stepsFrom z f s, x.1 ≤ 8
  | 0, s, x, hx => by cases hx
  | f + 1, s, x, hx => by
    rw [stepsFrom_succ] at hx
    rcases List.mem_append.mp hx with h | h
    · exact step_le w x h
    · exact steps_le w f _ x h
theorem round_len {z : Vbndam.Room} (w : WF z) (s : Nat) : (roundOf z s).length ≤ 8 := by
  unfold roundOf joinList
  rw [List.length_map]
  refine Nat.le_trans (List.length_filter_le ..) ?_
  rw [List.length_range]
  exact w.le8
theorem steps_len {z : Vbndam.Room} (w : WF z) : ∀ (f s : Nat), (Vbndam.stepsFrom z f s).length ≤ 8 * f
  | 0, s => Nat.le_refl _
  | f + 1, s => by
    rw [stepsFrom_succ, List.length_append]
    have := steps_len w f (Vbndam.nextRound z s)
    have := round_len w s
    omega
theorem pow256 {z : Vbndam.Room} (w : WF z) : 2 ^ Vbndam.playerCount z ≤ 256 := Nat.pow_le_pow_right (n := 2) (by decide) w.le8
theorem ne_tup {H : Hp} {t p : Addr} {xs ys : List V} (h : H t = some (.tup xs)) (h2 : H p = some (.lst ys)) : t ≠ p := fun e => by
  rw [e, h2] at h
  cases h
/-- pairs of whole numbers -/
def PairAt (H : Hp) (t : Addr) (x : Int × Int) : Prop := H t = some (.tup [.int x.1, .int x.2])
def PairsAt (H : Hp) (p : Addr) (l : List (Int × Int)) : Prop := ∃ ts : List Addr, H p = some (.lst (ts.map V.ref)) ∧ Paired (PairAt H) ts l
theorem PairAt.same {H H' : Hp} (s : Same H H') {t : Addr} {x : Int × Int} (h : PairAt H t x) : PairAt H' t x := s _ _ h
theorem PairsAt.same {H H' : Hp} (s : Same H H') {p : Addr} {l : List (Int × Int)} (h : PairsAt H p l) : PairsAt H' p l := let ⟨ts, a, b⟩ := h; ⟨ts, s _ _ a, pairedImp (fun _ _ q => PairAt.same s q) b⟩
section
variable {P : Program} {w : World} {K : PySem.W.Frag} {mg : Str → Option Value} {base : Heap}
def sp_joined (K : PySem.W.Frag) : Sp := fun vs H Q _ => ∃ (c : Nat) (p : Addr) (l : List (Nat × Nat)), vs = [.int (c : Nat), .ref p] ∧ StepsAt H p l ∧ (∀ x ∈ l, x.1 ≤ 8) ∧ Q (.int (bitsOf (l.map (·.1)) c : Nat)) H
theorem ok_joined {f : Addr} {fd : FuncData} (T : Txt K mg) (F : FnP K "joined" "joined" s_joined f fd) (hm : mg "joined" = some (.ref f))  :
    C8.Cal P w K mg base 1 "joined" (sp_joined K) [] := by
  refine calMk F hm (F.bindsN (ps := ["coalition", "steps"]) fun _ _ _ _ _ _ us hl => match us, hl with | [_, _], _ => rfl) sc_joined (fun vs H Q E h => by first | (obtain ⟨rfl, _⟩ := h; rfl) | (obtain ⟨_, rfl, _⟩ := h; rfl) | (obtain ⟨_, _, rfl, _⟩ := h; rfl) | (obtain ⟨_, _, _, rfl, _⟩ := h; rfl) | (obtain ⟨_, _, _, _, rfl, _⟩ := h; rfl) | (obtain ⟨_, _, _, _, _, rfl, _⟩ := h; rfl) | (obtain ⟨_, _, _, _, _, _, rfl, _⟩ := h; rfl)) (fun cdv A outer s H vs Q E hr h => ?_)
  obtain ⟨c, p, l, rfl, ⟨ts, ep, hts⟩, h8, q⟩ := h
  refine ⟨_, (pss_cons (ps_set (i := 2) sc_joined.nd rfl (Or.inl rfl) (pv 0)) (pss_cons (ps_for PassesOwn.never (by rfl) (pi_list (pv 1)) (pg_name (i := 3) sc_joined.nd rfl (Or.inl rfl)) (pss_one (ps_set (i := 2) sc_joined.nd rfl (Or.inl rfl) (pe_op op_or (pv 2) (pe_ix ix_tup (C8.pe_gc (by rfl) T.g_POWERS) (pe_ix ix_tup (pv 3) pe_int (fun _ _ => rfl)) (fun _ _ => rfl)))))) (pss_one (ps_ret (pv 2))))), ?_⟩
  refine ⟨_, rfl, _, rfl, p, rfl, ⟨_, SqL.of ep⟩, ?_⟩
  refine for_list (xs := ts.map V.ref) (fun i σ H1 => ∃ y3 : Option V, σ = [some (.int (c : Nat)), some (.ref p), some (.int (bitsOf ((l.take i).map (·.1)) c : Nat)), y3] ∧ H1 = H) ⟨none, rfl, rfl⟩ (fun i σ H1 _ h => by obtain ⟨_, _, e⟩ := h; rw [e]; exact SqL.of ep) ?_ ?_
  · rintro i x σ H1 hx ⟨y3, rfl, rfl⟩
    rw [List.getElem?_map] at hx
    obtain ⟨t, ht, rfl⟩ := Option.map_eq_some_iff.mp hx
    obtain ⟨y, hy, hs⟩ := pairedGetL hts ht
    refine ⟨_, rfl, _, rfl, t, _, 0, _, rfl, rfl, SqT.of hs, atI_nat (j := 0) rfl, _, _, _, _, rfl, rfl, T.t_POWERS _, atI_nat (powers_get (h8 y (List.mem_of_getElem? hy))), _, _, rfl, rfl, ?_⟩
    refine ⟨some (.ref t), ?_, rfl⟩
    rw [takeS hy, List.map_append]
    show _ = [_, _, some (V.int ((bitsOf ((l.take i).map (·.1) ++ [y.1]) c : Nat) : Int)), _]
    rw [bitsOf_snoc, ← orI]
    rfl
  · rintro σ H1 ⟨y3, rfl, rfl⟩
    have e : l.take (ts.map V.ref).length = l := List.take_of_length_le (by rw [List.length_map, pairedLen hts]; exact Nat.le_refl _)
    rw [e]
    exact ⟨_, rfl, q⟩
def sp_all_steps (K : PySem.W.Frag) : Sp := fun vs H Q _ => ∃ (r : Addr) (c : Nat) (z : Vbndam.Room), vs = [.ref r, .int (c : Nat)] ∧ RoomAt K H r z ∧ WF z ∧ c < 2 ^ Vbndam.playerCount z ∧ ∀ H' p, Same H H' → H p = none → StepsAt H' p (Vbndam.substitutionSteps z c) → Q (.ref p) H'
theorem ok_all_steps {f : Addr} {fd : FuncData} (T : Txt K mg) (F : FnP K "all_steps" "all_steps" s_all_steps f fd) (hm : mg "all_steps" = some (.ref f)) (c_round_steps : C8.Cal P w K mg base 3 "round_steps" (sp_round_steps K) []) (c_joined : C8.Cal P w K mg base 1 "joined" (sp_joined K) []) :
    C8.Cal P w K mg base 4 "all_steps" (sp_all_steps K) [] := by
  refine calMk F hm (F.bindsN (ps := ["room", "coalition"]) fun _ _ _ _ _ _ us hl => match us, hl with | [_, _], _ => rfl) sc_all_steps (fun vs H Q E h => by first | (obtain ⟨rfl, _⟩ := h; rfl) | (obtain ⟨_, rfl, _⟩ := h; rfl) | (obtain ⟨_, _, rfl, _⟩ := h; rfl) | (obtain ⟨_, _, _, rfl, _⟩ := h; rfl) | (obtain ⟨_, _, _, _, rfl, _⟩ := h; rfl) | (obtain ⟨_, _, _, _, _, rfl, _⟩ := h; rfl) | (obtain ⟨_, _, _, _, _, _, rfl, _⟩ := h; rfl)) (fun cdv A outer s H vs Q E hr h => ?_)
  obtain ⟨r, c, z, rfl, hz, wz, hc, q⟩ := h
  refine ⟨_, (pss_cons (ps_set (i := 2) sc_all_steps.nd rfl (Or.inl rfl) (pe_lst pa_nil)) (pss_cons (ps_set (i := 3) sc_all_steps.nd rfl (Or.inl rfl) (C8.pe_c c_round_steps hr (by decide) (by rfl) (pa_cons (pv 0) (pa_cons (pv 1) pa_nil)))) (pss_cons (ps_while PassesOwn.never (pt_cmpR op_gt (pe_callB call_len_seq (by rfl) T.n_len PySem.boot_len (pa_cons (pv 3) pa_nil)) pe_int (nomark _)) (pss_cons (ps_expr (pe_bm PySem.F.plainAttrs_list PySem.F.slot_list_extend PySem.F.type_list_extend mt_extend (pv 2) (pa_cons (pv 3) pa_nil))) (pss_one (ps_set (i := 3) sc_all_steps.nd rfl (Or.inl rfl) (C8.pe_c c_round_steps hr (by decide) (by rfl) (pa_cons (pv 0) (pa_cons (C8.pe_c c_joined hr (by decide) (by rfl) (pa_cons (pv 1) (pa_cons (pv 2) pa_nil))) pa_nil))))))) (pss_one (ps_ret (pv 2)))))), ?_⟩
  refine ⟨Nat.zero_le _, fun st hst => ?_⟩
  have s0 : Same H (upd H st (.lst [])) := sameUpd hst
  refine ⟨_, rfl, _, rfl, r, c, z, rfl, hz.same s0, wz, fun H1 jn s1 hj e1 => ?_⟩
  refine ⟨fun m σ H2 => ∃ (acc : List (Nat × Nat)) (cur : Nat) (jn : Addr), m = cnt z cur ∧ σ = [some (.ref r), some (.int (c : Nat)), some (.ref st), some (.ref jn)] ∧ Same H H2 ∧ StepsAt H2 st acc ∧ StepsAt H2 jn (roundOf z cur) ∧ cur < 2 ^ Vbndam.playerCount z ∧
    acc ++ Vbndam.substitutionSteps z cur = Vbndam.substitutionSteps z c ∧ bitsOf (acc.map (·.1)) c = cur ∧ (∀ x ∈ acc, x.1 ≤ 8), ⟨_, [], c, jn, rfl, rfl, s0.trans s1, ⟨[], s1 _ _ upd_same, .nil⟩, e1, hc, rfl, rfl, fun x hx => by cases hx⟩, ?_⟩
  rintro m σ H2 ⟨acc, cur, jn, rfl, rfl, s2, ⟨ts, est, hts⟩, ⟨js, ejn, hjs⟩, hcur, happ, hbit, h8⟩
  have hlj := pairedLen hjs
  refine ⟨_, rfl, jn, _, rfl, .inl (SqL.of ejn), _, _, rfl, rfl, _, rfl, ?_⟩
  rw [List.length_map, hlj]
  have hll : acc.length ≤ 8 * Vbndam.playerCount z := by
    have h1 := congrArg List.length happ
    rw [List.length_append] at h1
    have h2 := steps_len wz (Vbndam.playerCount z) c
    unfold Vbndam.substitutionSteps at h1
    omega
  have hn8 : Vbndam.playerCount z ≤ 8 := wz.le8
  by_cases he : joinList z cur = []
  · have e0 : (roundOf z cur).length = 0 := by unfold roundOf; rw [he]; rfl
    rw [e0]
    show if false = true then _ else _
    refine iteF ?_
    have e2 : acc = Vbndam.substitutionSteps z c := by
      rw [← happ, steps_closed hcur he, List.append_nil]
    exact ⟨_, rfl, q H2 st s2 hst (e2 ▸ ⟨ts, est, hts⟩)⟩
  · have hp : 0 < (roundOf z cur).length := by unfold roundOf; rw [List.length_map]; exact List.length_pos_iff.mpr he
    have e0 : decide ((0 : Int) < (((roundOf z cur).length : Nat) : Int)) = true := decide_eq_true (by omega)
    show if decide ((0 : Int) < (((roundOf z cur).length : Nat) : Int)) = true then _ else _
    rw [e0]
    refine iteT ?_
    refine ⟨_, fun σ' H' hN => ⟨cnt z (Vbndam.nextRound z cur), cnt_lt he, hN⟩, ?_⟩
    have hne : ∀ (b : Addr) (o : HO), H b = some o → b ≠ st := fun b o e => ne_of_none e hst
    refine ⟨_, rfl, .inl ⟨rfl, _, SqL.of est⟩, _, rfl, st, jn, _, _, rfl, rfl, est, ejn, ?_, ?_⟩
    · rw [List.length_map, List.length_map, pairedLen hts, hlj]
      have := round_len wz cur
      exact lenI' (by omega)
    · have s3 : Same H (upd H2 st (.lst (ts.map V.ref ++ js.map V.ref))) := fun b o e => by
        rw [upd_ne (hne b o e)]
        exact s2 _ _ e
      have hst3 : StepsAt (upd H2 st (.lst (ts.map V.ref ++ js.map V.ref))) st (acc ++ roundOf z cur) := by
        refine ⟨ts ++ js, by rw [upd_same, List.map_append], pairedApp (pairedImp (fun t x e => ?_) hts) (pairedImp (fun t x e => ?_) hjs)⟩
        · show upd _ _ _ _ = _
          rw [upd_ne (ne_tup e est)]; exact e
        · show upd _ _ _ _ = _
          rw [upd_ne (ne_tup e est)]; exact e
      have hcur2 : bitsOf ((acc ++ roundOf z cur).map (·.1)) c = Vbndam.nextRound z cur := by
        rw [List.map_append, bitsOf_app, hbit, roundOf_fst, nextRound_bits hcur]
      have h8' : ∀ x ∈ acc ++ roundOf z cur, x.1 ≤ 8 := fun x hx => (List.mem_append.mp hx).elim (h8 x) (step_le wz x)
      refine ⟨_, rfl, _, rfl, _, rfl, c, st, _, rfl, hst3, h8', r, _, z, rfl, hz.same s3, wz, fun H4 jn2 s4 hj2 e4 => ?_⟩
      rw [hcur2] at e4
      refine ⟨_, Vbndam.nextRound z cur, jn2, rfl, rfl, s3.trans s4, hst3.same s4, e4, nextRound_lt z cur, ?_, hcur2, h8'⟩
      rw [← happ, steps_unfold hcur, List.append_assoc]
def sp_nobody_joins (K : PySem.W.Frag) : Sp := fun vs H Q _ => ∃ (r : Addr) (c : Nat) (z : Vbndam.Room), vs = [.ref r, .int (c : Nat)] ∧ RoomAt K H r z ∧ WF z ∧ c < 2 ^ Vbndam.playerCount z ∧ ∀ H', Same H H' → Q (.bl (Vbndam.isClosed z c)) H'
theorem ok_nobody_joins {f : Addr} {fd : FuncData} (T : Txt K mg) (F : FnP K "nobody_joins" "nobody_joins" s_nobody_joins f fd) (hm : mg "nobody_joins" = some (.ref f)) (c_round_steps : C8.Cal P w K mg base 3 "round_steps" (sp_round_steps K) []) :
    C8.Cal P w K mg base 4 "nobody_joins" (sp_nobody_joins K) [] := by
  refine calMk F hm (F.bindsN (ps := ["room", "coalition"]) fun _ _ _ _ _ _ us hl => match us, hl with | [_, _], _ => rfl) sc_nobody_joins (fun vs H Q E h => by first | (obtain ⟨rfl, _⟩ := h; rfl) | (obtain ⟨_, rfl, _⟩ := h; rfl) | (obtain ⟨_, _, rfl, _⟩ := h; rfl) | (obtain ⟨_, _, _, rfl, _⟩ := h; rfl) | (obtain ⟨_, _, _, _, rfl, _⟩ := h; rfl) | (obtain ⟨_, _, _, _, _, rfl, _⟩ := h; rfl) | (obtain ⟨_, _, _, _, _, _, rfl, _⟩ := h; rfl)) (fun cdv A outer s H vs Q E hr h => ?_)
  obtain ⟨r, c, z, rfl, hz, wz, hc, q⟩ := h
  refine ⟨_, (pss_one (ps_ret (pe_cmpR op_eq (pe_callB call_len_seq (by rfl) T.n_len PySem.boot_len (pa_cons (C8.pe_c c_round_steps hr (by decide) (by rfl) (pa_cons (pv 0) (pa_cons (pv 1) pa_nil))) pa_nil)) pe_int (nomark _)))), ?_⟩
  refine ⟨_, rfl, _, rfl, r, c, z, rfl, hz, wz, fun H1 p s1 hp e1 => ?_⟩
  obtain ⟨ts, e, hts⟩ := e1
  refine ⟨p, _, rfl, .inl (SqL.of e), rfl, ?_⟩
  have q2 := q _ s1
  rw [isClosed_eq hc] at q2
  show Q (.bl (decide (V.int (((ts.map V.ref).length : Nat) : Int) = V.int 0))) H1
  rw [List.length_map, pairedLen hts, dec_int]
  unfold roundOf
  rw [List.length_map]
  have : ((((joinList z c).length : Nat) : Int) == 0) = (joinList z c).isEmpty := by
    cases joinList z c with
    | nil => rfl
    | cons a l => simp; omega
  rw [this]
  exact q2
def sp_suffices (K : PySem.W.Frag) : Sp := fun vs H Q _ => ∃ (r : Addr) (c : Nat) (z : Vbndam.Room), vs = [.ref r, .int (c : Nat)] ∧ RoomAt K H r z ∧ WF z ∧ c < 2 ^ Vbndam.playerCount z ∧ ∀ H', Same H H' → Q (.bl (Vbndam.isSufficient z c)) H'
theorem ok_suffices {f : Addr} {fd : FuncData} (T : Txt K mg) (F : FnP K "suffices" "suffices" s_suffices f fd) (hm : mg "suffices" = some (.ref f)) (c_joined : C8.Cal P w K mg base 1 "joined" (sp_joined K) []) (c_everyone : C8.Cal P w K mg base 1 "everyone" (sp_everyone K) []) (c_all_steps : C8.Cal P w K mg base 4 "all_steps" (sp_all_steps K) []) :
    C8.Cal P w K mg base 5 "suffices" (sp_suffices K) [] := by
  refine calMk F hm (F.bindsN (ps := ["room", "coalition"]) fun _ _ _ _ _ _ us hl => match us, hl with | [_, _], _ => rfl) sc_suffices (fun vs H Q E h => by first | (obtain ⟨rfl, _⟩ := h; rfl) | (obtain ⟨_, rfl, _⟩ := h; rfl) | (obtain ⟨_, _, rfl, _⟩ := h; rfl) | (obtain ⟨_, _, _, rfl, _⟩ := h; rfl) | (obtain ⟨_, _, _, _, rfl, _⟩ := h; rfl) | (obtain ⟨_, _, _, _, _, rfl, _⟩ := h; rfl) | (obtain ⟨_, _, _, _, _, _, rfl, _⟩ := h; rfl)) (fun cdv A outer s H vs Q E hr h => ?_)
  obtain ⟨r, c, z, rfl, hz, wz, hc, q⟩ := h
  refine ⟨_, (pss_one (ps_ret (pe_cmpR op_eq (C8.pe_c c_joined hr (by decide) (by rfl) (pa_cons (pv 1) (pa_cons (C8.pe_c c_all_steps hr (by decide) (by rfl) (pa_cons (pv 0) (pa_cons (pv 1) pa_nil))) pa_nil))) (C8.pe_c c_everyone hr (by decide) (by rfl) (pa_cons (pv 0) pa_nil)) (nomark _)))), ?_⟩
  refine ⟨_, rfl, _, rfl, _, rfl, r, c, z, rfl, hz, wz, hc, fun H1 p s1 hp e1 => ⟨c, p, _, rfl, e1, steps_le wz _ _, ?_⟩⟩
  refine ⟨_, rfl, r, z, rfl, hz.same s1, wz, rfl, ?_⟩
  have q2 := q _ s1
  unfold Vbndam.isSufficient at q2
  unfold Vbndam.substitutionSteps
  rw [steps_joined _ _ hc]
  show Q (.bl (decide (V.int _ = V.int _))) H1
  rw [dec_int]
  have e : (((Vbndam.closureFrom z (Vbndam.playerCount z) c : Nat) : Int) == ((Vbndam.everyone z : Nat) : Int)) = (Vbndam.actingCoalition z c == Vbndam.everyone z) := by
    rw [Bool.eq_iff_iff]
    simp only [beq_iff_eq]
    exact ⟨fun h => Int.ofNat.inj h, fun h => congrArg _ h⟩
  rw [e]
  exact q2
def sp_blocks (K : PySem.W.Frag) : Sp := fun vs H Q _ => ∃ (r : Addr) (c : Nat) (z : Vbndam.Room), vs = [.ref r, .int (c : Nat)] ∧ RoomAt K H r z ∧ WF z ∧ c < 2 ^ Vbndam.playerCount z ∧ ∀ H', Same H H' → Q (.bl (Vbndam.isBlocking z c)) H'
theorem ok_blocks {f : Addr} {fd : FuncData} (T : Txt K mg) (F : FnP K "blocks" "blocks" s_blocks f fd) (hm : mg "blocks" = some (.ref f)) (c_suffices : C8.Cal P w K mg base 5 "suffices" (sp_suffices K) []) (c_everyone : C8.Cal P w K mg base 1 "everyone" (sp_everyone K) []) :
    C8.Cal P w K mg base 6 "blocks" (sp_blocks K) [] := by
  refine calMk F hm (F.bindsN (ps := ["room", "coalition"]) fun _ _ _ _ _ _ us hl => match us, hl with | [_, _], _ => rfl) sc_blocks (fun vs H Q E h => by first | (obtain ⟨rfl, _⟩ := h; rfl) | (obtain ⟨_, rfl, _⟩ := h; rfl) | (obtain ⟨_, _, rfl, _⟩ := h; rfl) | (obtain ⟨_, _, _, rfl, _⟩ := h; rfl) | (obtain ⟨_, _, _, _, rfl, _⟩ := h; rfl) | (obtain ⟨_, _, _, _, _, rfl, _⟩ := h; rfl) | (obtain ⟨_, _, _, _, _, _, rfl, _⟩ := h; rfl)) (fun cdv A outer s H vs Q E hr h => ?_)
  obtain ⟨r, c, z, rfl, hz, wz, hc, q⟩ := h
  refine ⟨_, (pss_one (ps_ret (pe_not (C8.pe_c c_suffices hr (by decide) (by rfl) (pa_cons (pv 0) (pa_cons (pe_op op_sub (C8.pe_c c_everyone hr (by decide) (by rfl) (pa_cons (pv 0) pa_nil)) (pv 1)) pa_nil)))))), ?_⟩
  have e : ((Vbndam.everyone z : Nat) : Int) - (c : Int) = ((Vbndam.everyone z - c : Nat) : Int) := by
    have : c ≤ Vbndam.everyone z := le_everyone.mpr hc
    exact (Int.ofNat_sub this).symm
  refine ⟨_, rfl, _, rfl, r, z, rfl, hz, wz, _, rfl, _, _, rfl, rfl, r, Vbndam.everyone z - c, z, ?_, hz, wz, ?_, fun H1 s1 => ⟨_, rfl, q _ s1⟩⟩
  · show [V.ref r, V.int (((Vbndam.everyone z : Nat) : Int) - (c : Int))] ++ [] = _
    rw [e]
    rfl
  · exact Nat.lt_of_le_of_lt (Nat.sub_le ..) (everyone_lt z)
end
end SI

set_option maxHeartbeats 4000000
namespace SI
open PySem PySem.Spec PyProof.Rows L2
theorem ixNat {n j : Nat} (h : j < n) : ixN n (j : Int) = some j := by
  unfold ixN
  rw [if_pos (Int.natCast_nonneg j), if_pos (by omega), Int.toNat_natCast]
theorem everyone_le {z : Vbndam.Room} (w : WF z) : ev z ≤ 255 := by
  have h1 := everyone_lt z
  have h2 := pow256 w
  exact Nat.le_of_lt_succ (Nat.lt_of_lt_of_le h1 h2)
theorem replFlat (n : Nat) (v : V) : (List.replicate n [v]).flatten = List.replicate n v := by
  induction n with
  | zero => rfl
  | succ n ih => rw [List.replicate_succ, List.flatten_cons, ih]; rfl
def bls (l : List Bool) : List V := l.map V.bl
theorem bls_get {z : Vbndam.Room} {f : Nat → Bool} {s : Nat} (h : s < 2 ^ Vbndam.playerCount z) : (bls (flagsOf z f))[s]? = some (.bl (f s)) := by
  unfold bls
  rw [List.getElem?_map, flagsOf_get h]
  rfl
section
variable {P : Program} {w : World} {K : PySem.W.Frag} {mg : Str → Option Value} {base : Heap}
def sp_sufficient_flags (K : PySem.W.Frag) : Sp := fun vs H Q _ => ∃ (r : Addr) (z : Vbndam.Room), vs = [.ref r] ∧ RoomAt K H r z ∧ WF z ∧ ∀ H' p, Same H H' → H p = none → H' p = some (.lst (bls (flagsOf z (Vbndam.isSufficient z)))) → Q (.ref p) H'
theorem ok_sufficient_flags {f : Addr} {fd : FuncData} (T : Txt K mg) (F : FnP K "sufficient_flags" "sufficient_flags" s_sufficient_flags f fd) (hm : mg "sufficient_flags" = some (.ref f)) (c_everyone : C8.Cal P w K mg base 1 "everyone" (sp_everyone K) []) (c_joined : C8.Cal P w K mg base 1 "joined" (sp_joined K) []) (c_round_steps : C8.Cal P w K mg base 3 "round_steps" (sp_round_steps K) []) :
    C8.Cal P w K mg base 4 "sufficient_flags" (sp_sufficient_flags K) [] := by
  refine calMk F hm (F.bindsN (ps := ["room"]) fun _ _ _ _ _ _ us hl => match us, hl with | [_], _ => rfl) sc_sufficient_flags (fun vs H Q E h => by first | (obtain ⟨rfl, _⟩ := h; rfl) | (obtain ⟨_, rfl, _⟩ := h; rfl) | (obtain ⟨_, _, rfl, _⟩ := h; rfl) | (obtain ⟨_, _, _, rfl, _⟩ := h; rfl) | (obtain ⟨_, _, _, _, rfl, _⟩ := h; rfl) | (obtain ⟨_, _, _, _, _, rfl, _⟩ := h; rfl) | (obtain ⟨_, _, _, _, _, _, rfl, _⟩ := h; rfl)) (fun cdv A outer s H vs Q E hr h => ?_)
  obtain ⟨r, z, rfl, hz, wz, q⟩ := h
  refine ⟨_, (pss_cons (ps_set (i := 1) sc_sufficient_flags.nd rfl (Or.inl rfl) (C8.pe_c c_everyone hr (by decide) (by rfl) (pa_cons (pv 0) pa_nil))) (pss_cons (ps_set (i := 2) sc_sufficient_flags.nd rfl (Or.inl rfl) (pe_op op_cat (pe_op op_rep (pe_lst (pa_cons pe_bl pa_nil)) (pv 1)) (pe_lst (pa_cons pe_bl pa_nil)))) (pss_cons (ps_for PassesOwn.never (by rfl) (pi_revR (by rfl) T.n_reversed (prg_1 (by rfl) T.n_range (pv 1))) (pg_name (i := 3) sc_sufficient_flags.nd rfl (Or.inl rfl)) (pss_one (ps_asg (pe_ix ix_list (pv 2) (C8.pe_c c_joined hr (by decide) (by rfl) (pa_cons (pv 3) (pa_cons (C8.pe_c c_round_steps hr (by decide) (by rfl) (pa_cons (pv 0) (pa_cons (pv 3) pa_nil))) pa_nil))) (fun _ _ => rfl)) (pg_sub (pv 2) (pv 3) set_list)))) (pss_one (ps_ret (pv 2)))))), ?_⟩
  have he := everyone_le wz
  have hp256 := pow256 wz
  refine ⟨_, rfl, r, z, rfl, hz, wz, ?_⟩
  refine ⟨by show 1 ≤ sizeLine; decide, fun p1 h1 => ?_⟩
  have s1 : Same H (upd H p1 (.lst [V.bl false])) := sameUpd h1
  refine ⟨_, rfl, p1, _, _, rfl, rfl, upd_same, by omega, by omega, ?_, fun p2 h2 => ?_⟩
  · show 1 * _ ≤ _
    rw [Int.toNat_natCast]
    exact lenI' (by omega)
  generalize hH1 : upd H p1 (.lst [V.bl false]) = H1 at s1 h2
  have s2 : Same H1 (upd H1 p2 (.lst (List.replicate (((ev z : Nat) : Int)).toNat [V.bl false]).flatten)) := sameUpd h2
  refine ⟨by show 1 ≤ sizeLine; decide, fun p3 h3 => ?_⟩
  rw [Int.toNat_natCast, replFlat] at s2 h3
  rw [Int.toNat_natCast, replFlat]
  generalize hH2 : upd H1 p2 (.lst (List.replicate (ev z) (V.bl false))) = H2 at s2 h3
  have s3 : Same H2 (upd H2 p3 (.lst [V.bl true])) := sameUpd h3
  have e2 : H2 p2 = some (.lst (List.replicate (ev z) (V.bl false))) := by rw [← hH2]; exact upd_same
  refine ⟨p2, p3, _, _, rfl, rfl, s3 _ _ e2, upd_same, ?_, fun fl h4 => ?_⟩
  · rw [List.length_replicate]
    exact lenI' (by show _ + 1 ≤ _; omega)
  generalize hH3 : upd H2 p3 (.lst [V.bl true]) = H3 at s3 h4
  have s4 : Same H3 (upd H3 fl (.lst (List.replicate (ev z) (V.bl false) ++ [V.bl true]))) := sameUpd h4
  have sA : Same H H3 := (s1.trans s2).trans s3
  have hfl : H fl = none := sA.free h4
  refine ⟨_, rfl, _, rfl, by omega, by omega, by omega, by omega, ?_⟩
  have hn : (((ev z : Nat) : Int) - 0).toNat = ev z := by omega
  rw [hn]
  refine for_it walk_rangeC (fun i σ H4 => ∃ y3 : Option V, σ = [some (.ref r), some (.int (ev z : Nat)), some (.ref fl), y3] ∧ Same H H4 ∧ H4 fl = some (.lst (bls (flagsAt z (ev z - i))))) ⟨none, rfl, sA.trans s4, ?_⟩ (fun _ _ _ _ _ => trivial) ?_ ?_
  · rw [upd_same, Nat.sub_zero, flags_start]
    unfold bls
    rw [List.map_append, List.map_replicate]
    rfl
  · rintro i x σ H4 H5 hi ⟨y3, rfl, s5, e5⟩ ⟨rfl, hx⟩
    obtain ⟨c, hc⟩ : ∃ c, ev z - i = c + 1 := ⟨ev z - i - 1, by omega⟩
    have ex : x = .int (c : Nat) := hx.trans (congrArg V.int (show (0 : Int) + ((ev z : Nat) : Int) - 1 + (i : Int) * (-1) = ((c : Nat) : Int) by omega))
    subst ex
    rw [hc] at e5
    have hce : c < ev z := by omega
    have hcp : c < 2 ^ Vbndam.playerCount z := Nat.lt_of_lt_of_le hce (Nat.le_of_lt (everyone_lt z))
    refine ⟨_, rfl, _, rfl, _, rfl, _, rfl, r, c, z, rfl, hz.same s5, wz, fun H6 jp s6 hj e6 => ⟨c, jp, _, rfl, e6, step_le wz, ?_⟩⟩
    rw [roundOf_fst, ← nextRound_bits hcp]
    refine ⟨fl, _, _, _, rfl, rfl, SqL.of (s6 _ _ e5), atI_nat (bls_get (nextRound_lt z c)), ?_⟩
    refine ⟨_, rfl, _, rfl, fl, _, _, c, rfl, rfl, s6 _ _ e5, ixNat ?_, ?_⟩
    · unfold bls
      rw [List.length_map]
      show c < (flagsOf z _).length
      rw [flagsOf_len]
      exact hcp
    · refine ⟨some (.int (c : Nat)), rfl, fun b o hb => ?_, ?_⟩
      · rw [upd_ne (ne_of_none hb hfl)]
        exact s6 _ _ (s5 _ _ hb)
      · have ec : ev z - (i + 1) = c := by omega
        rw [upd_same, ec, ← flags_step hce]
        unfold bls
        rw [List.map_set]
  · rintro σ H4 ⟨y3, rfl, s5, e5⟩
    rw [Nat.sub_self, flags_end] at e5
    exact ⟨_, rfl, q H4 fl s5 hfl e5⟩
def sp_sufficient_coalitions (K : PySem.W.Frag) : Sp := fun vs H Q _ => ∃ (r : Addr) (z : Vbndam.Room), vs = [.ref r] ∧ RoomAt K H r z ∧ WF z ∧ ∀ H' p, Same H H' → H p = none → H' p = some (.lst (nats (suffs z))) → Q (.ref p) H'
theorem ok_sufficient_coalitions {f : Addr} {fd : FuncData} (T : Txt K mg) (F : FnP K "sufficient_coalitions" "sufficient_coalitions" s_sufficient_coalitions f fd) (hm : mg "sufficient_coalitions" = some (.ref f)) (c_sufficient_flags : C8.Cal P w K mg base 4 "sufficient_flags" (sp_sufficient_flags K) []) :
    C8.Cal P w K mg base 5 "sufficient_coalitions" (sp_sufficient_coalitions K) [] := by
  refine calMk F hm (F.bindsN (ps := ["room"]) fun _ _ _ _ _ _ us hl => match us, hl with | [_], _ => rfl) sc_sufficient_coalitions (fun vs H Q E h => by first | (obtain ⟨rfl, _⟩ := h; rfl) | (obtain ⟨_, rfl, _⟩ := h; rfl) | (obtain ⟨_, _, rfl, _⟩ := h; rfl) | (obtain ⟨_, _, _, rfl, _⟩ := h; rfl) | (obtain ⟨_, _, _, _, rfl, _⟩ := h; rfl) | (obtain ⟨_, _, _, _, _, rfl, _⟩ := h; rfl) | (obtain ⟨_, _, _, _, _, _, rfl, _⟩ := h; rfl)) (fun cdv A outer s H vs Q E hr h => ?_)
  obtain ⟨r, z, rfl, hz, wz, q⟩ := h
  refine ⟨_, (pss_cons (ps_set (i := 1) sc_sufficient_coalitions.nd rfl (Or.inr rfl) (C8.pe_c c_sufficient_flags hr (by decide) (by rfl) (pa_cons (pv 0) pa_nil))) (pss_one (ps_ret (pe_lc (own := [("coalition", 2)]) (g := (gName 2)) (by rfl) sc_sufficient_coalitions.nd (pi_range1 (by rfl) T.n_range (pa_cons (pe_callB call_len_seq (by rfl) T.n_len PySem.boot_len (pa_cons (pv 1) pa_nil)) pa_nil)) (blkOk_by (own := [("coalition", 2)]) (N := ["room", "flags", "coalition"]) (sc := defScope s_sufficient_coalitions) (by decide +kernel)) (fun _ _ _ _ _ => pg_name (i := 2) sc_sufficient_coalitions.nd rfl (Or.inl rfl)) (fun _ _ _ _ _ => pts_one (pt_val (pe_ix (r := rIxL K) ix_list (pv 1) (pv 2) (fun _ _ => rfl)))) (fun _ _ _ _ _ => (pv 2)))))), ?_⟩
  have hp256 := pow256 wz
  refine ⟨_, rfl, r, z, rfl, hz, wz, fun H1 fl s1 hf e1 => ?_⟩
  have hlen : (bls (flagsOf z (Vbndam.isSufficient z))).length = 2 ^ Vbndam.playerCount z := by unfold bls; rw [List.length_map, flagsOf_len]
  refine ⟨_, rfl, fl, _, rfl, .inl (SqL.of e1), ?_⟩
  rw [hlen]
  refine ⟨_, rfl, by omega, by omega, fun D hD => ?_⟩
  rw [Int.toNat_natCast]
  refine lcFM walk_range (List.range (2 ^ Vbndam.playerCount z)) (Vbndam.isSufficient z) (fun n => V.int (n : Nat)) List.length_range (by omega) hD (fun _ _ => trivial) (fun i a x H2 H' ha s2 hy N M y1 n1 => ?_) (fun H2 s2 e2 => ?_)
  · obtain ⟨rfl, hx⟩ := hy
    have hi : i < 2 ^ Vbndam.playerCount z := by have := (List.getElem?_eq_some_iff.mp ha).1; rwa [List.length_range] at this
    rw [List.getElem?_range hi] at ha
    obtain rfl : i = a := Option.some.inj ha
    have ex : x = .int (i : Nat) := hx.trans (congrArg V.int (show (0 : Int) + (i : Int) = (i : Int) by omega))
    subst ex
    refine ⟨rfl, _, rfl, _, rfl, fl, _, _, _, rfl, rfl, SqL.of (s2 _ _ e1), atI_nat (bls_get hi), _, rfl, ?_⟩
    cases hb : Vbndam.isSufficient z i with
    | true => exact ⟨_, rfl, y1 hb _ (Same.refl _)⟩
    | false => exact n1 hb _ (Same.refl _)
  · exact q H2 D (s1.trans s2) (s1.free hD) e2
def sp_blocking_flags (K : PySem.W.Frag) : Sp := fun vs H Q _ => ∃ (r : Addr) (z : Vbndam.Room), vs = [.ref r] ∧ RoomAt K H r z ∧ WF z ∧ ∀ H' p, Same H H' → H p = none → H' p = some (.lst (bls (flagsOf z (Vbndam.isBlocking z)))) → Q (.ref p) H'
theorem ok_blocking_flags {f : Addr} {fd : FuncData} (T : Txt K mg) (F : FnP K "blocking_flags" "blocking_flags" s_blocking_flags f fd) (hm : mg "blocking_flags" = some (.ref f)) (c_sufficient_flags : C8.Cal P w K mg base 4 "sufficient_flags" (sp_sufficient_flags K) []) :
    C8.Cal P w K mg base 5 "blocking_flags" (sp_blocking_flags K) [] := by
  refine calMk F hm (F.bindsN (ps := ["room"]) fun _ _ _ _ _ _ us hl => match us, hl with | [_], _ => rfl) sc_blocking_flags (fun vs H Q E h => by first | (obtain ⟨rfl, _⟩ := h; rfl) | (obtain ⟨_, rfl, _⟩ := h; rfl) | (obtain ⟨_, _, rfl, _⟩ := h; rfl) | (obtain ⟨_, _, _, rfl, _⟩ := h; rfl) | (obtain ⟨_, _, _, _, rfl, _⟩ := h; rfl) | (obtain ⟨_, _, _, _, _, rfl, _⟩ := h; rfl) | (obtain ⟨_, _, _, _, _, _, rfl, _⟩ := h; rfl)) (fun cdv A outer s H vs Q E hr h => ?_)
  obtain ⟨r, z, rfl, hz, wz, q⟩ := h
  refine ⟨_, (pss_one (ps_ret (pe_lc (own := [("flag", 1)]) (g := (gName 1)) (by rfl) sc_blocking_flags.nd (pi_reversed (by rfl) T.n_reversed (pa_cons (C8.pe_c c_sufficient_flags hr (by decide) (by rfl) (pa_cons (pv 0) pa_nil)) pa_nil)) (blkOk_by (own := [("flag", 1)]) (N := ["room", "flag"]) (sc := defScope s_blocking_flags) (by decide +kernel)) (fun _ _ _ _ _ => pg_name (i := 1) sc_blocking_flags.nd rfl (Or.inl rfl)) (fun _ _ _ _ _ => pts_nil) (fun _ _ _ _ _ => (pe_not (pv 1)))))), ?_⟩
  have hp256 := pow256 wz
  refine ⟨_, rfl, r, z, rfl, hz, wz, fun H1 fl s1 hf e1 => ?_⟩
  have hlen : (bls (flagsOf z (Vbndam.isSufficient z))).length = 2 ^ Vbndam.playerCount z := by unfold bls; rw [List.length_map, flagsOf_len]
  refine ⟨fl, _, rfl, SqL.of e1, fun D hD => ?_⟩
  refine lcM walk_rev (flagsOf z (Vbndam.isSufficient z)).reverse (fun b => V.bl (!b)) (by rw [List.length_reverse, flagsOf_len, hlen]) (by rw [hlen]; omega) hD (fun H2 s2 => SqL.of (s2 _ _ e1)) (fun i a x H2 H' ha s2 hy N y1 => ?_) (fun H2 s2 e2 => ?_) (gNameMono _)
  · obtain ⟨rfl, hx⟩ := hy
    have hi : i < (flagsOf z (Vbndam.isSufficient z)).length := by have := (List.getElem?_eq_some_iff.mp ha).1; rwa [List.length_reverse] at this
    rw [List.getElem?_reverse hi] at ha
    have ex : x = .bl a := by
      unfold bls at hx
      rw [List.length_map, List.getElem?_map, ha] at hx
      exact (Option.some.inj hx).symm
    subst ex
    exact ⟨rfl, _, rfl, _, rfl, y1 _ (Same.refl _)⟩
  · refine q H2 D (s1.trans s2) (s1.free hD) ?_
    rw [e2, ← blocking_eq]
    unfold bls
    rw [List.map_map]
    rfl
def sp_return_flags (K : PySem.W.Frag) : Sp := fun vs H Q _ => ∃ (r : Addr) (c : Nat) (z : Vbndam.Room), vs = [.ref r, .int (c : Nat)] ∧ RoomAt K H r z ∧ WF z ∧ c < 2 ^ Vbndam.playerCount z ∧ ∀ H' p, Same H H' → H p = none → H' p = some (.lst (bls (flagsOf z fun o => (o &&& c == 0) && Vbndam.isSufficient z (o ||| c)))) → Q (.ref p) H'
theorem ok_return_flags {f : Addr} {fd : FuncData} (T : Txt K mg) (F : FnP K "return_flags" "return_flags" s_return_flags f fd) (hm : mg "return_flags" = some (.ref f)) (c_sufficient_flags : C8.Cal P w K mg base 4 "sufficient_flags" (sp_sufficient_flags K) []) :
    C8.Cal P w K mg base 5 "return_flags" (sp_return_flags K) [] := by
  refine calMk F hm (F.bindsN (ps := ["room", "coalition"]) fun _ _ _ _ _ _ us hl => match us, hl with | [_, _], _ => rfl) sc_return_flags (fun vs H Q E h => by first | (obtain ⟨rfl, _⟩ := h; rfl) | (obtain ⟨_, rfl, _⟩ := h; rfl) | (obtain ⟨_, _, rfl, _⟩ := h; rfl) | (obtain ⟨_, _, _, rfl, _⟩ := h; rfl) | (obtain ⟨_, _, _, _, rfl, _⟩ := h; rfl) | (obtain ⟨_, _, _, _, _, rfl, _⟩ := h; rfl) | (obtain ⟨_, _, _, _, _, _, rfl, _⟩ := h; rfl)) (fun cdv A outer s H vs Q E hr h => ?_)
  obtain ⟨r, c, z, rfl, hz, wz, hc, q⟩ := h
  refine ⟨_, (pss_cons (ps_set (i := 2) sc_return_flags.nd rfl (Or.inr rfl) (C8.pe_c c_sufficient_flags hr (by decide) (by rfl) (pa_cons (pv 0) pa_nil))) (pss_one (ps_ret (pe_lc (own := [("others", 3)]) (g := (gName 3)) (by rfl) sc_return_flags.nd (pi_range1 (by rfl) T.n_range (pa_cons (pe_callB call_len_seq (by rfl) T.n_len PySem.boot_len (pa_cons (pv 2) pa_nil)) pa_nil)) (blkOk_by (own := [("others", 3)]) (N := ["room", "coalition", "flags", "others"]) (sc := defScope s_return_flags) (by decide +kernel)) (fun _ _ _ _ _ => pg_name (i := 3) sc_return_flags.nd rfl (Or.inl rfl)) (fun _ _ _ _ _ => pts_nil) (fun _ _ _ _ _ => (pe_and (pe_cmpR op_eq (pe_op op_and (pv 3) (pv 1)) pe_int (nomark _)) (pe_one (pe_ix (r := rIxL K) ix_list (pv 2) (pe_op op_or (pv 3) (pv 1)) (fun _ _ => rfl))))))))), ?_⟩
  have hp256 := pow256 wz
  refine ⟨_, rfl, r, z, rfl, hz, wz, fun H1 fl s1 hf e1 => ?_⟩
  have hlen : (bls (flagsOf z (Vbndam.isSufficient z))).length = 2 ^ Vbndam.playerCount z := by unfold bls; rw [List.length_map, flagsOf_len]
  refine ⟨_, rfl, fl, _, rfl, .inl (SqL.of e1), ?_⟩
  rw [hlen]
  refine ⟨_, rfl, by omega, by omega, fun D hD => ?_⟩
  rw [Int.toNat_natCast]
  refine lcM walk_range (List.range (2 ^ Vbndam.playerCount z)) (fun o => V.bl ((o &&& c == 0) && Vbndam.isSufficient z (o ||| c))) List.length_range (by omega) hD (fun _ _ => trivial) (fun i a x H2 H' ha s2 hy N y1 => ?_) (fun H2 s2 e2 => ?_) (gNameMono _)
  · obtain ⟨rfl, hx⟩ := hy
    have hi : i < 2 ^ Vbndam.playerCount z := by have := (List.getElem?_eq_some_iff.mp ha).1; rwa [List.length_range] at this
    rw [List.getElem?_range hi] at ha
    obtain rfl : i = a := Option.some.inj ha
    have ex : x = .int (i : Nat) := hx.trans (congrArg V.int (show (0 : Int) + (i : Int) = (i : Int) by omega))
    subst ex
    refine ⟨rfl, _, rfl, _, rfl, _, _, rfl, rfl, rfl, _, rfl, ?_⟩
    have hor : i ||| c < 2 ^ Vbndam.playerCount z := Nat.or_lt_two_pow hi hc
    have e3 : decide (V.int (Builtin.bitAnd (i : Int) (c : Int)) = V.int 0) = (i &&& c == 0) := by
      rw [andI, dec_int, Bool.eq_iff_iff]
      simp
    show if decide (V.int (Builtin.bitAnd (i : Int) (c : Int)) = V.int 0) = true then _ else _
    rw [e3]
    have y2 := y1 _ (Same.refl _)
    cases hb : (i &&& c == 0) with
    | false =>
      refine iteF ?_
      rw [hb] at y2
      exact y2
    | true =>
      refine iteT ?_
      rw [hb] at y2
      refine ⟨_, rfl, _, rfl, _, rfl, _, _, rfl, rfl, fl, _, _, _, rfl, rfl, SqL.of (s2 _ _ e1), ?_, y2⟩
      show atI _ (Builtin.bitOr (i : Int) (c : Int)) = _
      rw [orI]
      exact atI_nat (bls_get hor)
  · refine q H2 D (s1.trans s2) (s1.free hD) ?_
    rw [e2]
    unfold bls flagsOf
    rw [List.map_map]
    rfl
def sp_is_minimal (K : PySem.W.Frag) : Sp := fun vs H Q _ => ∃ (p : Addr) (c : Nat) (fl : List Bool), vs = [.ref p, .int (c : Nat)] ∧ H p = some (.lst (bls fl)) ∧ c < fl.length ∧ Q (.bl (isMin fl c)) H
theorem ok_is_minimal {f : Addr} {fd : FuncData} (T : Txt K mg) (F : FnP K "is_minimal" "is_minimal" s_is_minimal f fd) (hm : mg "is_minimal" = some (.ref f))  :
    C8.Cal P w K mg base 1 "is_minimal" (sp_is_minimal K) [] := by
  refine calMk F hm (F.bindsN (ps := ["flags", "coalition"]) fun _ _ _ _ _ _ us hl => match us, hl with | [_, _], _ => rfl) sc_is_minimal (fun vs H Q E h => by first | (obtain ⟨rfl, _⟩ := h; rfl) | (obtain ⟨_, rfl, _⟩ := h; rfl) | (obtain ⟨_, _, rfl, _⟩ := h; rfl) | (obtain ⟨_, _, _, rfl, _⟩ := h; rfl) | (obtain ⟨_, _, _, _, rfl, _⟩ := h; rfl) | (obtain ⟨_, _, _, _, _, rfl, _⟩ := h; rfl) | (obtain ⟨_, _, _, _, _, _, rfl, _⟩ := h; rfl)) (fun cdv A outer s H vs Q E hr h => ?_)
  obtain ⟨p, c, fl, rfl, e1, hc, q⟩ := h
  refine ⟨_, (pss_cons (ps_if (pt_not (pt_val (pe_ix ix_list (pv 0) (pv 1) (fun _ _ => rfl)))) (pss_one (ps_ret pe_bl)) pss_nil) (pss_cons (ps_for PassesOwn.never (by rfl) (pi_tup (C8.pe_gc (by rfl) T.g_POWERS)) (pg_name (i := 2) sc_is_minimal.nd rfl (Or.inl rfl)) (pss_one (ps_if (PW.pt (pw_and (pt_cmpR op_ne (pe_op op_and (pv 1) (pv 2)) pe_int (nomark _)) (pw_and1 (pt_val (pe_ix ix_list (pv 0) (pe_op op_sub (pv 1) (pv 2)) (fun _ _ => rfl)))))) (pss_one (ps_ret pe_bl)) pss_nil))) (pss_one (ps_ret pe_bl)))), ?_⟩
  have hg : ∀ j (h : j < fl.length), (bls fl)[j]? = some (.bl fl[j]) := fun j h => by
    unfold bls
    rw [List.getElem?_map, List.getElem?_eq_getElem h]
    rfl
  refine ⟨_, rfl, _, rfl, p, _, _, _, rfl, rfl, SqL.of e1, atI_nat (hg c hc), _, rfl, ?_⟩
  have hq : isMin fl c = (fl[c] && powers.all fun w => !((c &&& w != 0) && (fl[c - w]?).getD false)) := by
    unfold isMin
    rw [List.getElem?_eq_getElem hc]
    rfl
  rw [hq] at q
  cases hb : fl[c] with
  | false =>
    refine iteT ?_
    rw [hb] at q
    exact q
  | true =>
    refine iteF ?_
    rw [hb, Bool.true_and] at q
    refine ⟨_, rfl, ⟨_, T.t_POWERS _⟩, ?_⟩
    refine for_tup (xs := powers.map fun n => V.int (n : Nat)) (fun i σ H1 => ∃ y2 : Option V, σ = [some (.ref p), some (.int (c : Nat)), y2] ∧ H1 = H ∧ (powers.take i).all (fun w => !((c &&& w != 0) && (fl[c - w]?).getD false)) = true) ⟨none, rfl, rfl, rfl⟩ (fun i σ H1 _ _ => T.t_POWERS H1) ?_ ?_
    · rintro i x σ H1 hx ⟨y2, rfl, rfl, hall⟩
      rw [List.getElem?_map] at hx
      obtain ⟨pw, hpw, rfl⟩ := Option.map_eq_some_iff.mp hx
      have hmem := List.mem_of_getElem? hpw
      have e2 : (!decide (V.int (Builtin.bitAnd (c : Int) (pw : Int)) = V.int 0)) = (c &&& pw != 0) := by rw [andI, zeroI]
      refine ⟨_, rfl, _, rfl, _, _, rfl, rfl, rfl, _, rfl, ?_⟩
      show if (!decide (V.int (Builtin.bitAnd (c : Int) (pw : Int)) = V.int 0)) = true then _ else _
      rw [e2]
      have nxt : ((c &&& pw != 0) && (fl[c - pw]?).getD false) = false → (powers.take (i + 1)).all (fun w => !((c &&& w != 0) && (fl[c - w]?).getD false)) = true := fun h => by
        rw [takeS hpw, List.all_append, hall]
        show (true && (!((c &&& pw != 0) && (fl[c - pw]?).getD false) && true)) = true
        rw [h]
        rfl
      cases ha : (c &&& pw != 0) with
      | false =>
        refine iteF ?_
        rw [ha] at nxt
        exact iteF ⟨_, rfl, rfl, nxt rfl⟩
      | true =>
        refine iteT ?_
        have hle : pw ≤ c := by
          have h1 : c &&& pw ≠ 0 := by simpa using ha
          unfold powers at hmem
          obtain ⟨k, _, rfl⟩ := List.mem_map.mp hmem
          have h2 := and_pow c k
          rw [ha] at h2
          exact Nat.ge_two_pow_of_testBit h2.symm
        have hcp : c - pw < fl.length := by omega
        have ei : ((c : Int) - (pw : Int)) = ((c - pw : Nat) : Int) := by omega
        refine ⟨_, rfl, _, rfl, _, rfl, _, _, rfl, rfl, p, _, _, .bl fl[c - pw], rfl, rfl, SqL.of e1, ?_, _, rfl, ?_⟩
        · show atI _ ((c : Int) - (pw : Int)) = _
          rw [ei]
          exact atI_nat (hg _ hcp)
        · rw [ha, List.getElem?_eq_getElem hcp] at nxt
          cases hf : fl[c - pw] with
          | true =>
            refine iteT ?_
            have : powers.all (fun w => !((c &&& w != 0) && (fl[c - w]?).getD false)) = false := by
              rw [List.all_eq_false]
              exact ⟨pw, hmem, by rw [ha, List.getElem?_eq_getElem hcp, hf]; decide⟩
            rw [this] at q
            exact q
          | false =>
            refine iteF ?_
            rw [hf] at nxt
            exact ⟨_, rfl, rfl, nxt rfl⟩
    · rintro σ H1 ⟨y2, rfl, rfl, hall⟩
      have : (powers.take (powers.map fun n => V.int (n : Nat)).length) = powers := List.take_of_length_le (by simp)
      rw [this] at hall
      rw [hall] at q
      exact q
def sp_minimal_coalitions (K : PySem.W.Frag) : Sp := fun vs H Q _ => ∃ (p : Addr) (fl : List Bool), vs = [.ref p] ∧ H p = some (.lst (bls fl)) ∧ fl.length ≤ 256 ∧ ∀ H' p', Same H H' → H p' = none → H' p' = some (.lst (nats (minOfFlags fl))) → Q (.ref p') H'
theorem ok_minimal_coalitions {f : Addr} {fd : FuncData} (T : Txt K mg) (F : FnP K "minimal_coalitions" "minimal_coalitions" s_minimal_coalitions f fd) (hm : mg "minimal_coalitions" = some (.ref f)) (c_is_minimal : C8.Cal P w K mg base 1 "is_minimal" (sp_is_minimal K) []) :
    C8.Cal P w K mg base 2 "minimal_coalitions" (sp_minimal_coalitions K) [] := by
  refine calMk F hm (F.bindsN (ps := ["flags"]) fun _ _ _ _ _ _ us hl => match us, hl with | [_], _ => rfl) sc_minimal_coalitions (fun vs H Q E h => by first | (obtain ⟨rfl, _⟩ := h; rfl) | (obtain ⟨_, rfl, _⟩ := h; rfl) | (obtain ⟨_, _, rfl, _⟩ := h; rfl) | (obtain ⟨_, _, _, rfl, _⟩ := h; rfl) | (obtain ⟨_, _, _, _, rfl, _⟩ := h; rfl) | (obtain ⟨_, _, _, _, _, rfl, _⟩ := h; rfl) | (obtain ⟨_, _, _, _, _, _, rfl, _⟩ := h; rfl)) (fun cdv A outer s H vs Q E hr h => ?_)
  obtain ⟨p, fl, rfl, e1, hl, q⟩ := h
  refine ⟨_, (pss_one (ps_ret (pe_lc (own := [("coalition", 1)]) (g := (gName 1)) (by rfl) sc_minimal_coalitions.nd (pi_range1 (by rfl) T.n_range (pa_cons (pe_callB call_len_seq (by rfl) T.n_len PySem.boot_len (pa_cons (pv 0) pa_nil)) pa_nil)) (blkOk_by (own := [("coalition", 1)]) (N := ["flags", "coalition"]) (sc := defScope s_minimal_coalitions) (by decide +kernel)) (fun _ _ _ _ _ => pg_name (i := 1) sc_minimal_coalitions.nd rfl (Or.inl rfl)) (fun _ _ _ _ _ => pts_one (pt_val (C8.pe_c c_is_minimal hr (by decide) (by rfl) (pa_cons (pv 0) (pa_cons (pv 1) pa_nil))))) (fun _ _ _ _ _ => (pv 1))))), ?_⟩
  have hlen : (bls fl).length = fl.length := by unfold bls; rw [List.length_map]
  refine ⟨_, rfl, p, _, rfl, .inl (SqL.of e1), ?_⟩
  rw [hlen]
  refine ⟨_, rfl, by omega, by omega, fun D hD => ?_⟩
  rw [Int.toNat_natCast]
  refine lcFM walk_range (List.range fl.length) (isMin fl) (fun n => V.int (n : Nat)) List.length_range (by omega) hD (fun _ _ => trivial) (fun i a x H2 H' ha s2 hy N M y1 n1 => ?_) (fun H2 s2 e2 => ?_)
  · obtain ⟨rfl, hx⟩ := hy
    have hi : i < fl.length := by have := (List.getElem?_eq_some_iff.mp ha).1; rwa [List.length_range] at this
    rw [List.getElem?_range hi] at ha
    obtain rfl : i = a := Option.some.inj ha
    have ex : x = .int (i : Nat) := hx.trans (congrArg V.int (show (0 : Int) + (i : Int) = (i : Int) by omega))
    subst ex
    refine ⟨rfl, _, rfl, _, rfl, p, i, fl, rfl, s2 _ _ e1, hi, _, rfl, ?_⟩
    cases hb : isMin fl i with
    | true => exact ⟨_, rfl, y1 hb _ (Same.refl _)⟩
    | false => exact n1 hb _ (Same.refl _)
  · exact q H2 D s2 hD e2
end
end SI

set_option maxHeartbeats 4000000
namespace SI
open PySem PySem.Spec PyProof.Rows L2
def castP (q : Nat × Nat) : Int × Int := ((q.1 : Int), (q.2 : Int))
theorem walkLenLe {α : Type} {l : List α} {i : Nat} {a : α} (h : l[i]? = some a) : i < l.length := (List.getElem?_eq_some_iff.mp h).1
section
variable {P : Program} {w : World} {K : PySem.W.Frag} {mg : Str → Option Value} {base : Heap}
def sp_steps_hold (K : PySem.W.Frag) : Sp := fun vs H Q _ => ∃ (r : Addr) (c : Nat) (p : Addr) (z : Vbndam.Room) (l : List (Nat × Nat)), vs = [.ref r, .int (c : Nat), .ref p] ∧ RoomAt K H r z ∧ WF z ∧ PairsAt H p (l.map fun q => ((q.1 : Int), (q.2 : Int) + 1)) ∧
  (∀ q ∈ l, q.1 ≤ 7) ∧ ∀ H', Same H H' → Q (.bl (Vbndam.areStepsValid z c l)) H'
theorem ok_steps_hold {f : Addr} {fd : FuncData} (T : Txt K mg) (F : FnP K "steps_hold" "steps_hold" s_steps_hold f fd) (hm : mg "steps_hold" = some (.ref f)) (c_is_enabled : C8.Cal P w K mg base 2 "is_enabled" (sp_is_enabled K) []) :
    C8.Cal P w K mg base 3 "steps_hold" (sp_steps_hold K) [] := by
  refine calMk F hm (F.bindsN (ps := ["room", "coalition", "steps"]) fun _ _ _ _ _ _ us hl => match us, hl with | [_, _, _], _ => rfl) sc_steps_hold (fun vs H Q E h => by first | (obtain ⟨rfl, _⟩ := h; rfl) | (obtain ⟨_, rfl, _⟩ := h; rfl) | (obtain ⟨_, _, rfl, _⟩ := h; rfl) | (obtain ⟨_, _, _, rfl, _⟩ := h; rfl) | (obtain ⟨_, _, _, _, rfl, _⟩ := h; rfl) | (obtain ⟨_, _, _, _, _, rfl, _⟩ := h; rfl) | (obtain ⟨_, _, _, _, _, _, rfl, _⟩ := h; rfl)) (fun cdv A outer s H vs Q E hr h => ?_)
  obtain ⟨r, c, p, z, l, rfl, hz, wz, ⟨ts, ep, hts⟩, h7, q⟩ := h
  obtain ⟨dx, pl, ru, ps, rs, I⟩ := id hz
  refine ⟨_, (pss_cons (ps_set (i := 3) sc_steps_hold.nd rfl (Or.inl rfl) (pv 1)) (pss_cons (ps_for PassesOwn.never (by rfl) (pi_list (pv 2)) (pg_tup (by rfl) (pgs_cons (pg_name (i := 4) sc_steps_hold.nd rfl (Or.inl rfl)) (pgs_cons (pg_name (i := 5) sc_steps_hold.nd rfl (Or.inl rfl)) pgs_nil))) (pss_cons (ps_if (pt_cmpR op_gt (pv 5) (pe_callB call_len_seq (by rfl) T.n_len PySem.boot_len (pa_cons (pe_fld (pv 0) rfl) pa_nil)) (nomark _)) (pss_one (ps_ret pe_bl)) pss_nil) (pss_cons (ps_set (i := 6) sc_steps_hold.nd rfl (Or.inl rfl) (pe_ix ix_list (pe_fld (pv 0) rfl) (pe_op op_sub (pv 5) pe_int) (fun _ _ => rfl))) (pss_cons (ps_if (PW.pt (pw_or (pt_cmpR op_ne (pe_fld (pv 6) rfl) (pv 4) (nomark _)) (pw_or1 (pt_not (pt_val (C8.pe_c c_is_enabled hr (by decide) (by rfl) (pa_cons (pv 6) (pa_cons (pv 3) pa_nil)))))))) (pss_one (ps_ret pe_bl)) pss_nil) (pss_one (ps_set (i := 3) sc_steps_hold.nd rfl (Or.inl rfl) (pe_op op_or (pv 3) (pe_ix ix_tup (C8.pe_gc (by rfl) T.g_POWERS) (pv 4) (fun _ _ => rfl))))))))) (pss_one (ps_ret pe_bl)))), ?_⟩
  have hl := pairedLen I.rAt
  refine ⟨_, rfl, _, rfl, p, rfl, ⟨_, SqL.of ep⟩, ?_⟩
  refine for_list (xs := ts.map V.ref) (fun i σ H1 => ∃ (s' : Nat) (y4 y5 y6 : Option V), σ = [some (.ref r), some (.int (c : Nat)), some (.ref p), some (.int (s' : Nat)), y4, y5, y6] ∧ Same H H1 ∧ Vbndam.areStepsValid z c l = Vbndam.areStepsValid z s' (l.drop i)) ⟨c, none, none, none, rfl, Same.refl H, rfl⟩
    (fun i σ H1 _ h => by obtain ⟨_, _, _, _, _, s1, _⟩ := h; exact SqL.of (s1 _ _ ep)) ?_ ?_
  · rintro i x σ H1 hx ⟨s', y4, y5, y6, rfl, s1, hv⟩
    rw [List.getElem?_map] at hx
    obtain ⟨t, ht, rfl⟩ := Option.map_eq_some_iff.mp hx
    obtain ⟨y, hy, hp⟩ := pairedGetL hts ht
    rw [List.getElem?_map] at hy
    obtain ⟨⟨p1, k⟩, hq, rfl⟩ := Option.map_eq_some_iff.mp hy
    have h7' := h7 _ (List.mem_of_getElem? hq)
    have hdrop : l.drop i = (p1, k) :: l.drop (i + 1) := by
      have hi := walkLenLe hq
      rw [List.drop_eq_getElem_cons hi]
      congr 1
      exact Option.some.inj ((List.getElem?_eq_getElem hi).symm.trans hq)
    rw [hdrop] at hv
    have hun : Vbndam.areStepsValid z s' ((p1, k) :: l.drop (i + 1)) = ((z.rules[k]?).any (fun u => u.absent == p1 && Vbndam.isRuleEnabled s' u) && Vbndam.areStepsValid z (if Vbndam.isMember s' p1 = true then s' else s' + 2 ^ p1) (l.drop (i + 1))) := rfl
    refine ⟨t, _, rfl, SqT.of (s1 _ _ hp), rfl, _, _, rfl, _, _, rfl, rfl, ?_⟩
    refine ⟨_, rfl, _, rfl, r, _, dx, _, _, rfl, s1 _ _ I.at_, T.c_Room, T.a_rules, lRoom2, ru, _, rfl, .inl (SqL.of (s1 _ _ I.rls)), _, _, rfl, rfl, _, rfl, ?_⟩
    show if decide ((((rs.map V.ref).length : Nat) : Int) < (k : Int) + 1) = true then _ else _
    rw [List.length_map, hl]
    by_cases hk : z.rules.length ≤ k
    · rw [decide_eq_true (by omega)]
      refine iteT ?_
      rw [List.getElem?_eq_none hk] at hun
      have q2 := q H1 s1
      rw [hv, hun] at q2
      exact q2
    · rw [decide_eq_false (by omega)]
      refine iteF ?_
      obtain ⟨u, hu⟩ : ∃ u, z.rules[k]? = some u := ⟨z.rules[k]'(by omega), List.getElem?_eq_getElem (by omega)⟩
      obtain ⟨a, ha, hR⟩ := pairedGet I.rAt hu
      obtain ⟨ha8, hs8, hsl, _⟩ := rule_lt wz hu
      have hR1 := hR.same s1
      obtain ⟨dxu, sl, eu, _⟩ := id hR1
      rw [hu] at hun
      have hav : (rs.map V.ref)[k]? = some (.ref a) := by rw [List.getElem?_map, ha]; rfl
      refine ⟨_, rfl, r, _, dx, _, _, rfl, s1 _ _ I.at_, T.c_Room, T.a_rules, lRoom2, _, rfl, _, _, rfl, rfl, ru, _, _, .ref a, rfl, rfl, SqL.of (s1 _ _ I.rls), ?_, ?_⟩
      · show atI _ ((k : Int) + 1 - 1) = _
        rw [show (k : Int) + 1 - 1 = (k : Int) by omega]
        exact atI_nat hav
      refine ⟨_, rfl, a, _, dxu, _, _, rfl, eu, T.c_Rule, T.a_absent, lRule1, _, rfl, rfl, _, rfl, ?_⟩
      show if (!decide (V.int (u.absent : Int) = V.int (p1 : Int))) = true then _ else _
      have e1 : (!decide (V.int (u.absent : Int) = V.int (p1 : Int))) = !(u.absent == p1) := by
        rw [dec_int]
        congr 1
        rw [Bool.eq_iff_iff]
        simp only [beq_iff_eq]
        omega
      rw [e1]
      have ff : (u.absent == p1 && Vbndam.isRuleEnabled s' u) = false → ∀ H2, Same H1 H2 → Q (.bl false) H2 := fun hf H2 s2 => by
        have q2 := q H2 (s1.trans s2)
        rw [hv, hun] at q2
        simp only [Option.any_some, hf, Bool.false_and] at q2
        exact q2
      cases hab : (u.absent == p1) with
      | false =>
        refine iteT (iteT ?_)
        exact ff (by rw [hab]; rfl) H1 (Same.refl _)
      | true =>
        refine iteF ?_
        refine ⟨_, rfl, _, rfl, a, pl, ru, s', u, rfl, hR1, hs8, hsl, fun H2 s2 => ⟨_, rfl, ?_⟩⟩
        cases he : Vbndam.isRuleEnabled s' u with
        | false =>
          refine iteT ?_
          exact ff (by rw [he, Bool.and_false]) H2 s2
        | true =>
          refine iteF ?_
          have hp8 : p1 ≤ 8 := by omega
          refine ⟨_, rfl, _, rfl, _, _, _, _, rfl, rfl, T.t_POWERS _, atI_nat (powers_get hp8), _, _, rfl, rfl, ?_⟩
          refine ⟨s' ||| 2 ^ p1, some (.int (p1 : Nat)), some (.int ((k : Int) + 1)), some (.ref a), ?_, s1.trans s2, ?_⟩
          · show _ = [_, _, _, some (V.int ((s' ||| 2 ^ p1 : Nat) : Int)), _, _, _]
            rw [← orI]
            rfl
          · rw [hv, hun]
            simp only [Option.any_some, hab, he, Bool.true_and, Bool.and_self]
            congr 1
            rw [mem_tb]
            cases hm : s'.testBit p1 with
            | true =>
              rw [if_pos rfl]
              apply Nat.eq_of_testBit_eq
              intro b
              rw [Nat.testBit_or, Nat.testBit_two_pow]
              by_cases e : p1 = b
              · subst e; simp [hm]
              · simp [e]
            | false =>
              rw [if_neg (by decide)]
              exact add_pow_or s' p1 hm
  · rintro σ H1 ⟨s', y4, y5, y6, rfl, s1, hv⟩
    have : l.drop (ts.map V.ref).length = [] := List.drop_eq_nil_of_le (by rw [List.length_map, pairedLen hts, List.length_map]; exact Nat.le_refl _)
    rw [this] at hv
    have q2 := q H1 s1
    rw [hv] at q2
    exact q2
def sp_weight_of (K : PySem.W.Frag) : Sp := fun vs H Q _ => ∃ (r : Addr) (c : Nat) (z : Vbndam.Room), vs = [.ref r, .int (c : Nat)] ∧ RoomAt K H r z ∧ WF z ∧ ∀ H', Same H H' → Q (.int (Vbndam.coalitionWeight z c : Nat)) H'
theorem ok_weight_of {f : Addr} {fd : FuncData} (T : Txt K mg) (F : FnP K "weight_of" "weight_of" s_weight_of f fd) (hm : mg "weight_of" = some (.ref f)) (c_has_member : C8.Cal P w K mg base 1 "has_member" (sp_has_member K) []) :
    C8.Cal P w K mg base 2 "weight_of" (sp_weight_of K) [] := by
  refine calMk F hm (F.bindsN (ps := ["room", "coalition"]) fun _ _ _ _ _ _ us hl => match us, hl with | [_, _], _ => rfl) sc_weight_of (fun vs H Q E h => by first | (obtain ⟨rfl, _⟩ := h; rfl) | (obtain ⟨_, rfl, _⟩ := h; rfl) | (obtain ⟨_, _, rfl, _⟩ := h; rfl) | (obtain ⟨_, _, _, rfl, _⟩ := h; rfl) | (obtain ⟨_, _, _, _, rfl, _⟩ := h; rfl) | (obtain ⟨_, _, _, _, _, rfl, _⟩ := h; rfl) | (obtain ⟨_, _, _, _, _, _, rfl, _⟩ := h; rfl)) (fun cdv A outer s H vs Q E hr h => ?_)
  obtain ⟨r, c, z, rfl, hz, wz, q⟩ := h
  obtain ⟨dx, pl, ru, ps, rs, I⟩ := id hz
  refine ⟨_, (pss_one (ps_ret (pe_callB (cr_sum (by rfl)) (by rfl) T.n_sum (by decide +kernel) (pa_cons (pe_lc (own := [("number", 2), ("player", 3)]) (by rfl) sc_weight_of.nd (pi_enum (by rfl) T.n_enumerate (pa_cons (pe_fld (pv 0) rfl) pa_nil)) (blkOk_by (own := [("number", 2), ("player", 3)]) (N := ["room", "coalition", "number", "player"]) (sc := defScope s_weight_of) (by decide +kernel)) (fun _ _ _ _ _ => (show PG _ _ (gTup K 2 _) from pg_tup (n := 2) (by rfl) (pgs_cons (pg_name (i := 2) sc_weight_of.nd rfl (Or.inl rfl)) (pgs_cons (pg_name (i := 3) sc_weight_of.nd rfl (Or.inl rfl)) pgs_nil)))) (fun _ _ _ _ _ => pts_one (pt_val (C8.pe_c c_has_member hr (by decide) (by rfl) (pa_cons (pv 1) (pa_cons (pv 2) pa_nil))))) (fun _ _ _ _ _ => (show PE _ _ (tFld K _ _) from pe_fld (pv 3) rfl))) pa_nil)))), ?_⟩
  have hl := pairedLen I.pAt
  have h8 := wz.le8
  refine ⟨_, rfl, r, _, dx, _, _, rfl, I.at_, T.c_Room, T.a_players, lRoom1, pl, _, rfl, SqL.of I.pls, fun D hD => ?_⟩
  refine lcFM walk_enum z.players.zipIdx (fun u => c.testBit u.2) (fun u => V.int (u.1.weight : Nat)) (by rw [List.length_zipIdx, List.length_map, hl]) (by rw [List.length_map, hl]; omega) hD (fun H1 s1 => SqL.of (s1 _ _ I.pls)) (fun i u x H1 H2 hu s1 hy N M y1 n1 => ?_) (fun H1 s1 e => ?_)
  · obtain ⟨Tt, n, v, rfl, hT, rfl, hn, hv⟩ := hy
    obtain rfl : V.int (i : Nat) = n := Option.some.inj hn
    replace hv : (ps.map V.ref)[i]? = some v := hv
    rw [List.getElem?_map] at hv
    obtain ⟨a, ha, rfl⟩ := Option.map_eq_some_iff.mp hv
    obtain ⟨pp, hpp, hP⟩ := pairedGetL I.pAt ha
    have eu : u = (pp, i) := by
      rw [List.getElem?_zipIdx, hpp] at hu
      have := (Option.some.inj hu).symm
      simpa using this
    subst eu
    have sT : Same H1 (upd H1 Tt (.tup [V.int (i : Nat), V.ref a])) := sameUpd hT
    have s2 := s1.trans sT
    have hi := walkLenLe hpp
    obtain ⟨dxp, ep⟩ := hP.same s2
    refine ⟨Tt, _, rfl, SqT.of upd_same, rfl, _, _, rfl, _, _, rfl, rfl, rfl, ?_⟩
    refine ⟨_, rfl, _, rfl, c, i, rfl, by omega, _, rfl, ?_⟩
    cases hb : c.testBit i with
    | true => exact ⟨_, rfl, a, _, dxp, _, _, rfl, ep, T.c_Player, T.a_weight, lPlayer2, y1 hb _ sT⟩
    | false => exact n1 hb _ sT
  · refine ⟨D, (z.players.zipIdx.filter fun u => c.testBit u.2).map fun u => (u.1.weight : Int), rfl, ?_, ?_⟩
    · rw [List.map_map]
      exact SqL.of e
    · have q2 := q _ s1
      rw [weight_eq] at q2
      exact q2
def sp_total_weight (K : PySem.W.Frag) : Sp := fun vs H Q _ => ∃ (r : Addr) (z : Vbndam.Room), vs = [.ref r] ∧ RoomAt K H r z ∧ WF z ∧ ∀ H', Same H H' → Q (.int (Vbndam.coalitionWeight z (Vbndam.everyone z) : Nat)) H'
theorem ok_total_weight {f : Addr} {fd : FuncData} (T : Txt K mg) (F : FnP K "total_weight" "total_weight" s_total_weight f fd) (hm : mg "total_weight" = some (.ref f)) (c_weight_of : C8.Cal P w K mg base 2 "weight_of" (sp_weight_of K) []) (c_everyone : C8.Cal P w K mg base 1 "everyone" (sp_everyone K) []) :
    C8.Cal P w K mg base 3 "total_weight" (sp_total_weight K) [] := by
  refine calMk F hm (F.bindsN (ps := ["room"]) fun _ _ _ _ _ _ us hl => match us, hl with | [_], _ => rfl) sc_total_weight (fun vs H Q E h => by first | (obtain ⟨rfl, _⟩ := h; rfl) | (obtain ⟨_, rfl, _⟩ := h; rfl) | (obtain ⟨_, _, rfl, _⟩ := h; rfl) | (obtain ⟨_, _, _, rfl, _⟩ := h; rfl) | (obtain ⟨_, _, _, _, rfl, _⟩ := h; rfl) | (obtain ⟨_, _, _, _, _, rfl, _⟩ := h; rfl) | (obtain ⟨_, _, _, _, _, _, rfl, _⟩ := h; rfl)) (fun cdv A outer s H vs Q E hr h => ?_)
  obtain ⟨r, z, rfl, hz, wz, q⟩ := h
  refine ⟨_, (pss_one (ps_ret (C8.pe_c c_weight_of hr (by decide) (by rfl) (pa_cons (pv 0) (pa_cons (C8.pe_c c_everyone hr (by decide) (by rfl) (pa_cons (pv 0) pa_nil)) pa_nil))))), ?_⟩
  exact ⟨_, rfl, _, rfl, r, z, rfl, hz, wz, r, _, z, rfl, hz, wz, q⟩
def sp_cheapest (K : PySem.W.Frag) : Sp := fun vs H Q _ => ∃ (r : Addr) (z : Vbndam.Room), vs = [.ref r] ∧ RoomAt K H r z ∧ WF z ∧
  ∀ H' t, Same H H' → H' t = some (.tup [.int (Vbndam.coalitionWeight z (Vbndam.cheapestSufficient z) : Nat), .int (Vbndam.cheapestSufficient z : Nat)]) → Q (.ref t) H'
theorem ok_cheapest {f : Addr} {fd : FuncData} (T : Txt K mg) (F : FnP K "cheapest" "cheapest" s_cheapest f fd) (hm : mg "cheapest" = some (.ref f)) (c_weight_of : C8.Cal P w K mg base 2 "weight_of" (sp_weight_of K) []) (c_sufficient_coalitions : C8.Cal P w K mg base 5 "sufficient_coalitions" (sp_sufficient_coalitions K) []) :
    C8.Cal P w K mg base 6 "cheapest" (sp_cheapest K) [] := by
  refine calMk F hm (F.bindsN (ps := ["room"]) fun _ _ _ _ _ _ us hl => match us, hl with | [_], _ => rfl) sc_cheapest (fun vs H Q E h => by first | (obtain ⟨rfl, _⟩ := h; rfl) | (obtain ⟨_, rfl, _⟩ := h; rfl) | (obtain ⟨_, _, rfl, _⟩ := h; rfl) | (obtain ⟨_, _, _, rfl, _⟩ := h; rfl) | (obtain ⟨_, _, _, _, rfl, _⟩ := h; rfl) | (obtain ⟨_, _, _, _, _, rfl, _⟩ := h; rfl) | (obtain ⟨_, _, _, _, _, _, rfl, _⟩ := h; rfl)) (fun cdv A outer s H vs Q E hr h => ?_)
  obtain ⟨r, z, rfl, hz, wz, q⟩ := h
  refine ⟨_, (pss_one (ps_ret (pe_callB (cr_minWC (by rfl) hr) (by rfl) T.n_min (by decide +kernel) (pa_cons (pe_lc (own := [("coalition", 1)]) (g := (gName 1)) (by rfl) sc_cheapest.nd (pi_list (C8.pe_c c_sufficient_coalitions hr (by decide) (by rfl) (pa_cons (pv 0) pa_nil))) (blkOk_by (own := [("coalition", 1)]) (N := ["room", "coalition"]) (sc := defScope s_cheapest) (by decide +kernel)) (fun _ _ _ _ _ => pg_name (i := 1) sc_cheapest.nd rfl (Or.inl rfl)) (fun _ _ _ _ _ => pts_nil) (fun _ _ _ _ _ => (pe_tup (pa_cons (C8.pe_c c_weight_of hr (by decide) (by rfl) (pa_cons (pv 0) (pa_cons (pv 1) pa_nil))) (pa_cons (pv 1) pa_nil))))) pa_nil)))), ?_⟩
  have hp256 := pow256 wz
  refine ⟨_, rfl, r, z, rfl, hz, wz, fun H1 p s1 hp e1 => ?_⟩
  refine ⟨p, rfl, ⟨_, SqL.of e1⟩, fun D hD => ?_⟩
  have hls : (suffs z).length ≤ 256 := by
    unfold suffs Vbndam.allCoalitions
    exact Nat.le_trans (List.length_filter_le ..) (by rw [List.length_range]; exact hp256)
  refine lc_list (xs := nats (suffs z)) (fun i H3 => Same H1 H3 ∧ ∃ ts : List Addr, H3 D = some (.lst (ts.map V.ref)) ∧ Paired (PairAt H3) ts (((suffs z).take i).map (wc z))) ⟨sameUpd hD, [], upd_same, .nil⟩ (fun i H3 _ h => SqL.of (h.1 _ _ e1)) ?_ ?_
  · rintro i x H3 hx ⟨s4, ts, eD, hts⟩
    unfold nats at hx
    rw [List.getElem?_map] at hx
    obtain ⟨m, hm, rfl⟩ := Option.map_eq_some_iff.mp hx
    refine ⟨rfl, yesI ?_⟩
    refine ⟨_, rfl, _, rfl, r, m, z, rfl, (hz.same s1).same s4, wz, fun H4 s5 => ⟨_, rfl, by show 2 ≤ sizeLine; decide, fun t ht => ?_⟩⟩
    have st : Same H4 (upd H4 t (.tup [V.int (Vbndam.coalitionWeight z m : Nat), V.int (m : Nat)])) := sameUpd ht
    have s6 := s5.trans st
    have nt : D ≠ t := ne_of_none (s5 _ _ eD) ht
    have lts : ts.length ≤ 256 := by
      rw [pairedLen hts, List.length_map]
      exact Nat.le_trans (List.length_take_le' ..) hls
    refine ⟨_, s6 _ _ eD, lenI (by rw [List.length_map]; omega), fun b o q => ?_, ts ++ [t], ?_, ?_⟩
    · have nb : b ≠ D := ne_of_none q hD
      rw [upd_ne nb]
      exact s6 _ _ (s4 _ _ q)
    · rw [upd_same, List.map_append]
      rfl
    · rw [takeS hm, List.map_append]
      refine pairedSnoc ?_ (pairedImp (fun t' x q => ?_) hts)
      · show upd _ _ _ _ = _
        rw [upd_ne (Ne.symm nt), upd_same]
        rfl
      · have : t' ≠ D := ne_tup q eD
        show upd _ _ _ _ = _
        rw [upd_ne this]
        exact s6 _ _ q
  · rintro H3 ⟨s4, ts, eD, hts⟩
    have e3 : (suffs z).take (nats (suffs z)).length = suffs z := List.take_of_length_le (by unfold nats; rw [List.length_map]; exact Nat.le_refl _)
    rw [e3] at hts
    cases hs : suffs z with
    | nil =>
      have := suffs_ne z
      rw [hs] at this
      cases this
    | cons c l =>
      rw [hs] at hts
      refine ⟨D, ts, wc z c, l.map (wc z), rfl, SqL.of eD, hts, fun t ht => ?_⟩
      have hsrt := suffs_sorted z
      rw [hs, List.pairwise_cons] at hsrt
      have em : minWC (wc z c) (l.map (wc z)) = wc z (Vbndam.cheapestSufficient z) := by
        rw [cheapest_cons hs]
        exact min_cheap z l c hsrt.1 hsrt.2
      rw [em] at ht
      exact q H3 t (s1.trans s4) ht
def sp_packed_on (K : PySem.W.Frag) : Sp := fun vs H Q _ => ∃ (p : Addr) (n : Nat) (l : List (Nat × Nat)), vs = [.ref p, .int (n : Nat)] ∧ PairsAt H p (l.map castP) ∧ n ≤ 8 ∧ l.length ≤ 1000 ∧ ∀ H', Same H H' → Q (.int ((l.filter fun x => x.1.testBit n).map fun x => (x.2 : Int)).sum) H'
theorem ok_packed_on {f : Addr} {fd : FuncData} (T : Txt K mg) (F : FnP K "packed_on" "packed_on" s_packed_on f fd) (hm : mg "packed_on" = some (.ref f)) (c_has_member : C8.Cal P w K mg base 1 "has_member" (sp_has_member K) []) :
    C8.Cal P w K mg base 2 "packed_on" (sp_packed_on K) [] := by
  refine calMk F hm (F.bindsN (ps := ["packing", "player"]) fun _ _ _ _ _ _ us hl => match us, hl with | [_, _], _ => rfl) sc_packed_on (fun vs H Q E h => by first | (obtain ⟨rfl, _⟩ := h; rfl) | (obtain ⟨_, rfl, _⟩ := h; rfl) | (obtain ⟨_, _, rfl, _⟩ := h; rfl) | (obtain ⟨_, _, _, rfl, _⟩ := h; rfl) | (obtain ⟨_, _, _, _, rfl, _⟩ := h; rfl) | (obtain ⟨_, _, _, _, _, rfl, _⟩ := h; rfl) | (obtain ⟨_, _, _, _, _, _, rfl, _⟩ := h; rfl)) (fun cdv A outer s H vs Q E hr h => ?_)
  obtain ⟨p, n, l, rfl, ⟨ts, ep, hts⟩, hn, hl, q⟩ := h
  refine ⟨_, (pss_one (ps_ret (pe_callB (cr_sum (by rfl)) (by rfl) T.n_sum (by decide +kernel) (pa_cons (pe_lc (own := [("pair", 2)]) (g := (gName 2)) (by rfl) sc_packed_on.nd (pi_list (pv 0)) (blkOk_by (own := [("pair", 2)]) (N := ["packing", "player", "pair"]) (sc := defScope s_packed_on) (by decide +kernel)) (fun _ _ _ _ _ => pg_name (i := 2) sc_packed_on.nd rfl (Or.inl rfl)) (fun _ _ _ _ _ => pts_one (pt_val (C8.pe_c c_has_member hr (by decide) (by rfl) (pa_cons (pe_ix (r := rIxT K) ix_tup (pv 2) pe_int (fun _ _ => rfl)) (pa_cons (pv 1) pa_nil))))) (fun _ _ _ _ _ => (pe_ix (r := rIxT K) ix_tup (pv 2) pe_int (fun _ _ => rfl)))) pa_nil)))), ?_⟩
  have hlt := pairedLen hts
  rw [List.length_map] at hlt
  refine ⟨_, rfl, p, rfl, ⟨_, SqL.of ep⟩, fun D hD => ?_⟩
  refine lcFM walk_list l (fun x => x.1.testBit n) (fun x => V.int (x.2 : Nat)) (by rw [List.length_map, hlt]) (by rw [List.length_map, hlt]; omega) hD (fun H1 s1 => SqL.of (s1 _ _ ep)) (fun i x v H1 H2 hx s1 hy N M y1 n1 => ?_) (fun H1 s1 e => ?_)
  · obtain ⟨rfl, hv⟩ := hy
    rw [List.getElem?_map] at hv
    obtain ⟨t, ht, rfl⟩ := Option.map_eq_some_iff.mp hv
    obtain ⟨y, hy, hP⟩ := pairedGetL hts ht
    rw [List.getElem?_map, hx] at hy
    obtain rfl : castP x = y := Option.some.inj hy
    have e1 := s1 _ _ hP
    refine ⟨rfl, _, rfl, t, _, 0, _, rfl, rfl, SqT.of e1, atI_nat (j := 0) rfl, _, rfl, x.1, n, rfl, hn, _, rfl, ?_⟩
    cases hb : x.1.testBit n with
    | true => exact ⟨_, rfl, t, _, 1, _, rfl, rfl, SqT.of e1, atI_nat (j := 1) rfl, y1 hb _ (Same.refl _)⟩
    | false => exact n1 hb _ (Same.refl _)
  · refine ⟨D, (l.filter fun x => x.1.testBit n).map fun x => (x.2 : Int), rfl, ?_, q _ s1⟩
    rw [List.map_map]
    exact SqL.of e
def sp_bound (K : PySem.W.Frag) : Sp := fun vs H Q _ => ∃ (p : Addr) (l : List (Nat × Nat)), vs = [.ref p] ∧ PairsAt H p (l.map castP) ∧ l.length ≤ 1000 ∧ ∀ H', Same H H' → Q (.int (Vbndam.packingBound l : Nat)) H'
theorem ok_bound {f : Addr} {fd : FuncData} (T : Txt K mg) (F : FnP K "bound" "bound" s_bound f fd) (hm : mg "bound" = some (.ref f))  :
    C8.Cal P w K mg base 1 "bound" (sp_bound K) [] := by
  refine calMk F hm (F.bindsN (ps := ["packing"]) fun _ _ _ _ _ _ us hl => match us, hl with | [_], _ => rfl) sc_bound (fun vs H Q E h => by first | (obtain ⟨rfl, _⟩ := h; rfl) | (obtain ⟨_, rfl, _⟩ := h; rfl) | (obtain ⟨_, _, rfl, _⟩ := h; rfl) | (obtain ⟨_, _, _, rfl, _⟩ := h; rfl) | (obtain ⟨_, _, _, _, rfl, _⟩ := h; rfl) | (obtain ⟨_, _, _, _, _, rfl, _⟩ := h; rfl) | (obtain ⟨_, _, _, _, _, _, rfl, _⟩ := h; rfl)) (fun cdv A outer s H vs Q E hr h => ?_)
  obtain ⟨p, l, rfl, ⟨ts, ep, hts⟩, hl, q⟩ := h
  refine ⟨_, (pss_one (ps_ret (pe_callB (cr_sum (by rfl)) (by rfl) T.n_sum (by decide +kernel) (pa_cons (pe_lc (own := [("pair", 1)]) (g := (gName 1)) (by rfl) sc_bound.nd (pi_list (pv 0)) (blkOk_by (own := [("pair", 1)]) (N := ["packing", "pair"]) (sc := defScope s_bound) (by decide +kernel)) (fun _ _ _ _ _ => pg_name (i := 1) sc_bound.nd rfl (Or.inl rfl)) (fun _ _ _ _ _ => pts_nil) (fun _ _ _ _ _ => (pe_ix (r := rIxT K) ix_tup (pv 1) pe_int (fun _ _ => rfl)))) pa_nil)))), ?_⟩
  have hlt := pairedLen hts
  rw [List.length_map] at hlt
  refine ⟨_, rfl, p, rfl, ⟨_, SqL.of ep⟩, fun D hD => ?_⟩
  refine lcM walk_list l (fun x => V.int (x.2 : Nat)) (by rw [List.length_map, hlt]) (by rw [List.length_map, hlt]; omega) hD (fun H1 s1 => SqL.of (s1 _ _ ep)) (fun i x v H1 H2 hx s1 hy N y1 => ?_) (fun H1 s1 e => ?_) (gNameMono _)
  · obtain ⟨rfl, hv⟩ := hy
    rw [List.getElem?_map] at hv
    obtain ⟨t, ht, rfl⟩ := Option.map_eq_some_iff.mp hv
    obtain ⟨y, hy, hP⟩ := pairedGetL hts ht
    rw [List.getElem?_map, hx] at hy
    obtain rfl : castP x = y := Option.some.inj hy
    exact ⟨rfl, _, rfl, t, _, 1, _, rfl, rfl, SqT.of (s1 _ _ hP), atI_nat (j := 1) rfl, y1 _ (Same.refl _)⟩
  · refine ⟨D, l.map fun x => (x.2 : Int), rfl, ?_, ?_⟩
    · rw [List.map_map]
      exact SqL.of e
    · have q2 := q _ s1
      unfold Vbndam.packingBound at q2
      rw [sumList_cast, List.map_map] at q2
      exact q2
def sp_packing_holds (K : PySem.W.Frag) : Sp := fun vs H Q _ => ∃ (r p : Addr) (z : Vbndam.Room) (l : List (Nat × Nat)), vs = [.ref r, .ref p] ∧ RoomAt K H r z ∧ WF z ∧ PairsAt H p (l.map castP) ∧ l.length ≤ 1000 ∧ (∀ x ∈ l, x.1 < 2 ^ Vbndam.playerCount z) ∧
  ∀ H', Same H H' → Q (.bl (Vbndam.isPackingValid z l)) H'
theorem ok_packing_holds {f : Addr} {fd : FuncData} (T : Txt K mg) (F : FnP K "packing_holds" "packing_holds" s_packing_holds f fd) (hm : mg "packing_holds" = some (.ref f)) (c_blocks : C8.Cal P w K mg base 6 "blocks" (sp_blocks K) []) (c_packed_on : C8.Cal P w K mg base 2 "packed_on" (sp_packed_on K) []) :
    C8.Cal P w K mg base 7 "packing_holds" (sp_packing_holds K) [] := by
  refine calMk F hm (F.bindsN (ps := ["room", "packing"]) fun _ _ _ _ _ _ us hl => match us, hl with | [_, _], _ => rfl) sc_packing_holds (fun vs H Q E h => by first | (obtain ⟨rfl, _⟩ := h; rfl) | (obtain ⟨_, rfl, _⟩ := h; rfl) | (obtain ⟨_, _, rfl, _⟩ := h; rfl) | (obtain ⟨_, _, _, rfl, _⟩ := h; rfl) | (obtain ⟨_, _, _, _, rfl, _⟩ := h; rfl) | (obtain ⟨_, _, _, _, _, rfl, _⟩ := h; rfl) | (obtain ⟨_, _, _, _, _, _, rfl, _⟩ := h; rfl)) (fun cdv A outer s H vs Q E hr h => ?_)
  obtain ⟨r, p, z, l, rfl, hz, wz, hpr, hl, hlt, q⟩ := h
  obtain ⟨ts, ep, hts⟩ := id hpr
  obtain ⟨dx, pl, ru, ps, rs, I⟩ := id hz
  refine ⟨_, (pss_cons (ps_for PassesOwn.never (by rfl) (pi_list (pv 1)) (pg_name (i := 2) sc_packing_holds.nd rfl (Or.inl rfl)) (pss_one (ps_if (pt_not (pt_val (C8.pe_c c_blocks hr (by decide) (by rfl) (pa_cons (pv 0) (pa_cons (pe_ix ix_tup (pv 2) pe_int (fun _ _ => rfl)) pa_nil))))) (pss_one (ps_ret pe_bl)) pss_nil))) (pss_cons (ps_for PassesOwn.never (by rfl) (pi_enum (by rfl) T.n_enumerate (pa_cons (pe_fld (pv 0) rfl) pa_nil)) (pg_tup (by rfl) (pgs_cons (pg_name (i := 3) sc_packing_holds.nd rfl (Or.inl rfl)) (pgs_cons (pg_name (i := 4) sc_packing_holds.nd rfl (Or.inl rfl)) pgs_nil))) (pss_one (ps_if (pt_cmpR op_gt (C8.pe_c c_packed_on hr (by decide) (by rfl) (pa_cons (pv 1) (pa_cons (pv 3) pa_nil))) (pe_fld (pv 4) rfl) (nomark _)) (pss_one (ps_ret pe_bl)) pss_nil))) (pss_one (ps_ret pe_bl)))), ?_⟩
  have hln := pairedLen hts
  rw [List.length_map] at hln
  have hlp := pairedLen I.pAt
  have h8 := wz.le8
  rw [packing_eq] at q
  refine ⟨_, rfl, p, rfl, ⟨_, SqL.of ep⟩, ?_⟩
  refine for_list (xs := ts.map V.ref) (fun i σ H1 => ∃ y2 y3 y4 : Option V, σ = [some (.ref r), some (.ref p), y2, y3, y4] ∧ Same H H1 ∧ (l.take i).all (fun x => Vbndam.isBlocking z x.1) = true) ⟨none, none, none, rfl, Same.refl H, rfl⟩
    (fun i σ H1 _ h => by obtain ⟨_, _, _, _, s1, _⟩ := h; exact SqL.of (s1 _ _ ep)) ?_ ?_
  · rintro i x σ H1 hx ⟨y2, y3, y4, rfl, s1, hall⟩
    rw [List.getElem?_map] at hx
    obtain ⟨t, ht, rfl⟩ := Option.map_eq_some_iff.mp hx
    obtain ⟨y, hy, hP⟩ := pairedGetL hts ht
    rw [List.getElem?_map] at hy
    obtain ⟨x, hxl, rfl⟩ := Option.map_eq_some_iff.mp hy
    have hmem := List.mem_of_getElem? hxl
    refine ⟨_, rfl, _, rfl, t, _, 0, _, rfl, rfl, SqT.of (s1 _ _ hP), atI_nat (j := 0) rfl, r, x.1, z, rfl, hz.same s1, wz, hlt x hmem, fun H2 s2 => ⟨_, rfl, ?_⟩⟩
    cases hb : Vbndam.isBlocking z x.1 with
    | false =>
      refine iteT ?_
      have e : l.all (fun x => Vbndam.isBlocking z x.1) = false := by
        rw [List.all_eq_false]
        exact ⟨x, hmem, by rw [hb]; decide⟩
      have q2 := q H2 (s1.trans s2)
      rw [e, Bool.false_and] at q2
      exact q2
    | true =>
      refine iteF ⟨_, _, _, rfl, s1.trans s2, ?_⟩
      rw [takeS hxl, List.all_append, hall]
      show (true && (Vbndam.isBlocking z x.1 && true)) = true
      rw [hb]
      rfl
  · rintro σ H1 ⟨y2, y3, y4, rfl, s1, hall⟩
    have e3 : l.take (ts.map V.ref).length = l := List.take_of_length_le (by rw [List.length_map, hln]; exact Nat.le_refl _)
    rw [e3] at hall
    rw [hall] at q
    simp only [Bool.true_and] at q
    refine ⟨_, rfl, r, _, dx, _, _, rfl, s1 _ _ I.at_, T.c_Room, T.a_players, lRoom1, pl, _, rfl, SqL.of (s1 _ _ I.pls), ?_⟩
    refine for_it walk_enum (fun i σ H2 => ∃ y2 y3 y4 : Option V, σ = [some (.ref r), some (.ref p), y2, y3, y4] ∧ Same H H2 ∧ (z.players.zipIdx.take i).all (fun u => decide (((l.filter fun x => x.1.testBit u.2).map fun x => (x.2 : Int)).sum ≤ (u.1.weight : Int))) = true) ⟨_, _, _, rfl, s1, rfl⟩
      (fun i σ H2 _ h => by obtain ⟨_, _, _, _, s2, _⟩ := h; exact SqL.of (s2 _ _ I.pls)) ?_ ?_
    · rintro i x σ H2 H3 hi ⟨y2, y3, y4, rfl, s2, hal⟩ ⟨Tt, n, v, rfl, hT, rfl, hn, hv⟩
      obtain rfl : V.int (i : Nat) = n := Option.some.inj hn
      replace hv : (ps.map V.ref)[i]? = some v := hv
      rw [List.getElem?_map] at hv
      obtain ⟨a, ha, rfl⟩ := Option.map_eq_some_iff.mp hv
      obtain ⟨pp, hpp, hP⟩ := pairedGetL I.pAt ha
      have hzi : z.players.zipIdx[i]? = some (pp, i) := by rw [List.getElem?_zipIdx, hpp]; simp
      have sT : Same H2 (upd H2 Tt (.tup [V.int (i : Nat), V.ref a])) := sameUpd hT
      have s3 := s2.trans sT
      have hii := walkLenLe hpp
      refine ⟨Tt, _, rfl, SqT.of upd_same, rfl, _, _, rfl, _, _, rfl, rfl, ?_⟩
      refine ⟨_, rfl, _, rfl, p, i, l, rfl, hpr.same s3, by omega, hl, fun H4 s4 => ?_⟩
      have s5 := s3.trans s4
      obtain ⟨dxp, ep⟩ := hP.same s5
      refine ⟨_, rfl, a, _, dxp, _, _, rfl, ep, T.c_Player, T.a_weight, lPlayer2, _, _, rfl, rfl, _, rfl, ?_⟩
      by_cases hle : ((l.filter fun x => x.1.testBit i).map fun x => (x.2 : Int)).sum ≤ (pp.weight : Int)
      · rw [decide_eq_false (by omega)]
        refine iteF ⟨_, _, _, rfl, s5, ?_⟩
        rw [takeS hzi, List.all_append, hal]
        show (true && (decide _ && true)) = true
        rw [decide_eq_true hle]
        rfl
      · rw [decide_eq_true (by omega)]
        refine iteT ?_
        have e : z.players.zipIdx.all (fun u => decide (((l.filter fun x => x.1.testBit u.2).map fun x => (x.2 : Int)).sum ≤ (u.1.weight : Int))) = false := by
          rw [List.all_eq_false]
          exact ⟨(pp, i), List.mem_of_getElem? hzi, by rw [decide_eq_false hle]; decide⟩
        have q2 := q H4 s5
        rw [e] at q2
        exact q2
    · rintro σ H2 ⟨y2, y3, y4, rfl, s2, hal⟩
      have e4 : z.players.zipIdx.take (ps.map V.ref).length = z.players.zipIdx := List.take_of_length_le (by rw [List.length_zipIdx, List.length_map, hlp]; exact Nat.le_refl _)
      rw [e4] at hal
      have q2 := q H2 s2
      rw [hal] at q2
      exact q2
end
end SI

set_option maxHeartbeats 4000000
namespace SI
open PySem PySem.Spec PyProof.Rows L2
theorem rangeIt {n i : Nat} (h : i < n) : (List.range n)[i]? = some i := List.getElem?_range h
theorem sw_lt {z : Vbndam.Room} {p s : Nat} (h : s ∈ Vbndam.swings z p) : s < 2 ^ Vbndam.playerCount z ∧ s.testBit p = false := by
  rw [swings_eq] at h
  obtain ⟨h1, h2⟩ := List.mem_filter.mp h
  refine ⟨List.mem_range.mp h1, ?_⟩
  cases hb : s.testBit p with
  | false => rfl
  | true => rw [hb] at h2; cases h2
theorem fact_le : ∀ {n : Nat}, n ≤ 8 → Vbndam.factorial n ≤ 40320 := by
  intro n h
  have : ∀ m : Fin 9, Vbndam.factorial m.val ≤ 40320 := by decide
  exact this ⟨n, by omega⟩
theorem fact_pos : ∀ {n : Nat}, n ≤ 8 → 0 < Vbndam.factorial n := by
  intro n h
  have : ∀ m : Fin 9, 0 < Vbndam.factorial m.val := by decide
  exact this ⟨n, by omega⟩
theorem orders_get {j : Nat} (h : j ≤ 8) : ((List.range 9).map fun n => V.int (Vbndam.factorial n : Nat))[j]? = some (.int (Vbndam.factorial j : Nat)) := by
  rw [List.getElem?_map, rangeIt (by omega)]
  rfl
theorem count_le {z : Vbndam.Room} (w : WF z) (k : Nat) : Vbndam.sufficientCountOfSize z k ≤ 256 := by
  unfold Vbndam.sufficientCountOfSize Vbndam.allCoalitions
  exact Nat.le_trans (List.length_filter_le ..) (by rw [List.length_range]; exact pow256 w)
theorem pow16 {b k : Nat} (h : b ≤ 100) (hk : k ≤ 8) : b ^ k ≤ 10000000000000000 := by
  have h1 : b ^ k ≤ 100 ^ k := Nat.pow_le_pow_left h k
  have h2 : (100 : Nat) ^ k ≤ 100 ^ 8 := Nat.pow_le_pow_right (by decide) hk
  have h3 : (100 : Nat) ^ 8 = 10000000000000000 := by decide
  omega
theorem count_len (l : List Nat) : ∀ acc : List Nat, (l.foldl countStep acc).length = acc.length := by
  induction l with
  | nil => intro acc; rfl
  | cons x l ih =>
    intro acc
    rw [List.foldl_cons, ih]
    unfold countStep
    rw [List.length_set]
section
variable {P : Program} {w : World} {K : PySem.W.Frag} {mg : Str → Option Value} {base : Heap}
def sp_is_swing (K : PySem.W.Frag) : Sp := fun vs H Q _ => ∃ (p : Addr) (c i : Nat) (fl : List Bool), vs = [.ref p, .int (c : Nat), .int (i : Nat)] ∧ H p = some (.lst (bls fl)) ∧ c < fl.length ∧ i ≤ 8 ∧ (c.testBit i = false → c + 2 ^ i < fl.length) ∧
  Q (.bl (!c.testBit i && (!(fl[c]?).getD false && (fl[c + 2 ^ i]?).getD false))) H
theorem ok_is_swing {f : Addr} {fd : FuncData} (T : Txt K mg) (F : FnP K "is_swing" "is_swing" s_is_swing f fd) (hm : mg "is_swing" = some (.ref f)) (c_has_member : C8.Cal P w K mg base 1 "has_member" (sp_has_member K) []) :
    C8.Cal P w K mg base 2 "is_swing" (sp_is_swing K) [] := by
  refine calMk F hm (F.bindsN (ps := ["flags", "coalition", "player"]) fun _ _ _ _ _ _ us hl => match us, hl with | [_, _, _], _ => rfl) sc_is_swing (fun vs H Q E h => by first | (obtain ⟨rfl, _⟩ := h; rfl) | (obtain ⟨_, rfl, _⟩ := h; rfl) | (obtain ⟨_, _, rfl, _⟩ := h; rfl) | (obtain ⟨_, _, _, rfl, _⟩ := h; rfl) | (obtain ⟨_, _, _, _, rfl, _⟩ := h; rfl) | (obtain ⟨_, _, _, _, _, rfl, _⟩ := h; rfl) | (obtain ⟨_, _, _, _, _, _, rfl, _⟩ := h; rfl)) (fun cdv A outer s H vs Q E hr h => ?_)
  obtain ⟨p, c, i, fl, rfl, e1, hc, hi, hci, q⟩ := h
  refine ⟨_, (pss_cons (ps_if (PW.pt (pw_or (pt_val (C8.pe_c c_has_member hr (by decide) (by rfl) (pa_cons (pv 1) (pa_cons (pv 2) pa_nil)))) (pw_or1 (pt_val (pe_ix ix_list (pv 0) (pv 1) (fun _ _ => rfl)))))) (pss_one (ps_ret pe_bl)) pss_nil) (pss_one (ps_ret (pe_ix ix_list (pv 0) (pe_op op_add (pv 1) (pe_ix ix_tup (C8.pe_gc (by rfl) T.g_POWERS) (pv 2) (fun _ _ => rfl))) (fun _ _ => rfl))))), ?_⟩
  have hg : ∀ j (h : j < fl.length), (bls fl)[j]? = some (.bl fl[j]) := fun j h => by
    unfold bls
    rw [List.getElem?_map, List.getElem?_eq_getElem h]
    rfl
  refine ⟨_, rfl, _, rfl, c, i, rfl, hi, ?_⟩
  cases hb : c.testBit i with
  | true =>
    rw [hb] at q
    exact ⟨_, rfl, iteT q⟩
  | false =>
    rw [hb] at q
    have hcl := hci hb
    refine ⟨_, rfl, ?_⟩
    refine ⟨_, rfl, _, rfl, p, _, _, .bl fl[c], rfl, rfl, SqL.of e1, atI_nat (hg c hc), ?_⟩
    rw [List.getElem?_eq_getElem hc, List.getElem?_eq_getElem hcl] at q
    cases hf : fl[c] with
    | true =>
      rw [hf] at q
      exact ⟨_, rfl, iteT q⟩
    | false =>
      rw [hf] at q
      refine ⟨_, rfl, iteF ?_⟩
      refine ⟨_, rfl, _, rfl, _, rfl, _, _, _, _, rfl, rfl, T.t_POWERS _, atI_nat (powers_get hi), _, _, rfl, rfl, p, _, _, .bl fl[c + 2 ^ i], rfl, rfl, SqL.of e1, ?_, q⟩
      show atI _ ((c : Int) + ((2 ^ i : Nat) : Int)) = _
      rw [← Int.natCast_add]
      exact atI_nat (hg _ hcl)
def sp_swings (K : PySem.W.Frag) : Sp := fun vs H Q _ => ∃ (r : Addr) (i : Nat) (z : Vbndam.Room), vs = [.ref r, .int (i : Nat)] ∧ RoomAt K H r z ∧ WF z ∧ i < Vbndam.playerCount z ∧ ∀ H' p, Same H H' → H p = none → H' p = some (.lst (nats (Vbndam.swings z i))) → Q (.ref p) H'
theorem ok_swings {f : Addr} {fd : FuncData} (T : Txt K mg) (F : FnP K "swings" "swings" s_swings f fd) (hm : mg "swings" = some (.ref f)) (c_sufficient_flags : C8.Cal P w K mg base 4 "sufficient_flags" (sp_sufficient_flags K) []) (c_is_swing : C8.Cal P w K mg base 2 "is_swing" (sp_is_swing K) []) :
    C8.Cal P w K mg base 5 "swings" (sp_swings K) [] := by
  refine calMk F hm (F.bindsN (ps := ["room", "player"]) fun _ _ _ _ _ _ us hl => match us, hl with | [_, _], _ => rfl) sc_swings (fun vs H Q E h => by first | (obtain ⟨rfl, _⟩ := h; rfl) | (obtain ⟨_, rfl, _⟩ := h; rfl) | (obtain ⟨_, _, rfl, _⟩ := h; rfl) | (obtain ⟨_, _, _, rfl, _⟩ := h; rfl) | (obtain ⟨_, _, _, _, rfl, _⟩ := h; rfl) | (obtain ⟨_, _, _, _, _, rfl, _⟩ := h; rfl) | (obtain ⟨_, _, _, _, _, _, rfl, _⟩ := h; rfl)) (fun cdv A outer s H vs Q E hr h => ?_)
  obtain ⟨r, pl, z, rfl, hz, wz, hpl, q⟩ := h
  refine ⟨_, (pss_cons (ps_set (i := 2) sc_swings.nd rfl (Or.inr rfl) (C8.pe_c c_sufficient_flags hr (by decide) (by rfl) (pa_cons (pv 0) pa_nil))) (pss_one (ps_ret (pe_lc (own := [("coalition", 3)]) (g := (gName 3)) (by rfl) sc_swings.nd (pi_range1 (by rfl) T.n_range (pa_cons (pe_callB call_len_seq (by rfl) T.n_len PySem.boot_len (pa_cons (pv 2) pa_nil)) pa_nil)) (blkOk_by (own := [("coalition", 3)]) (N := ["room", "player", "flags", "coalition"]) (sc := defScope s_swings) (by decide +kernel)) (fun _ _ _ _ _ => pg_name (i := 3) sc_swings.nd rfl (Or.inl rfl)) (fun _ _ _ _ _ => pts_one (pt_val (C8.pe_c c_is_swing hr (by decide) (by rfl) (pa_cons (pv 2) (pa_cons (pv 3) (pa_cons (pv 1) pa_nil)))))) (fun _ _ _ _ _ => (pv 3)))))), ?_⟩
  have hp256 := pow256 wz
  have h8 := wz.le8
  have hpc : Vbndam.playerCount z ≤ 8 := h8
  refine ⟨_, rfl, r, z, rfl, hz, wz, fun H1 fl s1 hf e1 => ?_⟩
  have hlen : (bls (flagsOf z (Vbndam.isSufficient z))).length = 2 ^ Vbndam.playerCount z := by unfold bls; rw [List.length_map, flagsOf_len]
  refine ⟨_, rfl, fl, _, rfl, .inl (SqL.of e1), ?_⟩
  rw [hlen]
  refine ⟨_, rfl, by omega, by omega, fun D hD => ?_⟩
  rw [Int.toNat_natCast]
  refine lcFM walk_range (List.range (2 ^ Vbndam.playerCount z)) (fun s => !s.testBit pl && (!Vbndam.isSufficient z s && Vbndam.isSufficient z (s + 2 ^ pl))) (fun n => V.int (n : Nat)) List.length_range (by omega) hD (fun _ _ => trivial) (fun i a x H2 H' ha s2 hy N M y1 n1 => ?_) (fun H2 s2 e2 => ?_)
  · obtain ⟨rfl, hx⟩ := hy
    have hi : i < 2 ^ Vbndam.playerCount z := by have := (List.getElem?_eq_some_iff.mp ha).1; rwa [List.length_range] at this
    rw [List.getElem?_range hi] at ha
    obtain rfl : i = a := Option.some.inj ha
    have ex : x = .int (i : Nat) := hx.trans (congrArg V.int (show (0 : Int) + (i : Int) = (i : Int) by omega))
    subst ex
    refine ⟨rfl, _, rfl, _, rfl, _, rfl, fl, i, pl, _, rfl, s2 _ _ e1, by rw [flagsOf_len]; exact hi, by omega, fun hb => by rw [flagsOf_len]; exact add_pow_lt hi hpl hb, _, rfl, ?_⟩
    have ev1 : (!i.testBit pl && (!((flagsOf z (Vbndam.isSufficient z))[i]?).getD false && ((flagsOf z (Vbndam.isSufficient z))[i + 2 ^ pl]?).getD false)) = (!i.testBit pl && (!Vbndam.isSufficient z i && Vbndam.isSufficient z (i + 2 ^ pl))) := by
      rw [flagsOf_get hi]
      cases hb : i.testBit pl with
      | true => rfl
      | false => rw [flagsOf_get (add_pow_lt hi hpl hb)]; rfl
    rw [ev1]
    cases hb : (!i.testBit pl && (!Vbndam.isSufficient z i && Vbndam.isSufficient z (i + 2 ^ pl))) with
    | true => exact ⟨_, rfl, y1 hb _ (Same.refl _)⟩
    | false => exact n1 hb _ (Same.refl _)
  · refine q H2 D (s1.trans s2) (s1.free hD) ?_
    rw [swings_eq]
    exact e2
def sp_raised (K : PySem.W.Frag) : Sp := fun vs H Q _ => ∃ (b k : Nat), vs = [.int (b : Nat), .int (k : Nat)] ∧ b ≤ 100 ∧ k ≤ 8 ∧ ∀ H', Same H H' → Q (.int (b ^ k : Nat)) H'
theorem ok_raised {f : Addr} {fd : FuncData} (T : Txt K mg) (F : FnP K "raised" "raised" s_raised f fd) (hm : mg "raised" = some (.ref f))  :
    C8.Cal P w K mg base 1 "raised" (sp_raised K) [] := by
  refine calMk F hm (F.bindsN (ps := ["base", "exponent"]) fun _ _ _ _ _ _ us hl => match us, hl with | [_, _], _ => rfl) sc_raised (fun vs H Q E h => by first | (obtain ⟨rfl, _⟩ := h; rfl) | (obtain ⟨_, rfl, _⟩ := h; rfl) | (obtain ⟨_, _, rfl, _⟩ := h; rfl) | (obtain ⟨_, _, _, rfl, _⟩ := h; rfl) | (obtain ⟨_, _, _, _, rfl, _⟩ := h; rfl) | (obtain ⟨_, _, _, _, _, rfl, _⟩ := h; rfl) | (obtain ⟨_, _, _, _, _, _, rfl, _⟩ := h; rfl)) (fun cdv A outer s H vs Q E hr h => ?_)
  obtain ⟨b, k, rfl, hb, hk, q⟩ := h
  refine ⟨_, (pss_cons (ps_set (i := 2) sc_raised.nd rfl (Or.inl rfl) pe_int) (pss_cons (ps_for PassesOwn.never (by rfl) (pi_range1 (by rfl) T.n_range (pa_cons (pv 1) pa_nil)) (pg_name (i := 3) sc_raised.nd rfl (Or.inl rfl)) (pss_one (ps_set (i := 2) sc_raised.nd rfl (Or.inl rfl) (pe_op op_mul (pv 2) (pv 0))))) (pss_one (ps_ret (pv 2))))), ?_⟩
  refine ⟨_, rfl, _, rfl, by omega, by omega, ?_⟩
  rw [Int.toNat_natCast]
  refine for_it walk_range (fun i σ H1 => ∃ y3 : Option V, σ = [some (.int (b : Nat)), some (.int (k : Nat)), some (.int (b ^ i : Nat)), y3] ∧ Same H H1) ⟨none, rfl, Same.refl _⟩ (fun _ _ _ _ _ => trivial) ?_ ?_
  · rintro i x σ H1 H2 hi ⟨y3, rfl, s1⟩ ⟨rfl, hx⟩
    have hp := pow16 hb (k := i) (by omega)
    refine ⟨_, rfl, _, rfl, _, _, rfl, rfl, .inl ⟨by omega, by omega⟩, some x, ?_, s1⟩
    rw [Nat.pow_succ, Int.natCast_mul]
    rfl
  · rintro σ H1 ⟨y3, rfl, s1⟩
    exact ⟨_, rfl, q H1 s1⟩
def sp_common_divisor (K : PySem.W.Frag) : Sp := fun vs H Q _ => ∃ (a b : Nat), vs = [.int (a : Nat), .int (b : Nat)] ∧ ∀ H', Same H H' → Q (.int (Nat.gcd a b : Nat)) H'
theorem ok_common_divisor {f : Addr} {fd : FuncData} (T : Txt K mg) (F : FnP K "common_divisor" "common_divisor" s_common_divisor f fd) (hm : mg "common_divisor" = some (.ref f))  :
    C8.Cal P w K mg base 1 "common_divisor" (sp_common_divisor K) [] := by
  refine calMk F hm (F.bindsN (ps := ["first", "second"]) fun _ _ _ _ _ _ us hl => match us, hl with | [_, _], _ => rfl) sc_common_divisor (fun vs H Q E h => by first | (obtain ⟨rfl, _⟩ := h; rfl) | (obtain ⟨_, rfl, _⟩ := h; rfl) | (obtain ⟨_, _, rfl, _⟩ := h; rfl) | (obtain ⟨_, _, _, rfl, _⟩ := h; rfl) | (obtain ⟨_, _, _, _, rfl, _⟩ := h; rfl) | (obtain ⟨_, _, _, _, _, rfl, _⟩ := h; rfl) | (obtain ⟨_, _, _, _, _, _, rfl, _⟩ := h; rfl)) (fun cdv A outer s H vs Q E hr h => ?_)
  obtain ⟨a, b, rfl, q⟩ := h
  refine ⟨_, (pss_cons (ps_set (i := 2) sc_common_divisor.nd rfl (Or.inl rfl) (pv 0)) (pss_cons (ps_set (i := 3) sc_common_divisor.nd rfl (Or.inl rfl) (pv 1)) (pss_cons (ps_while PassesOwn.never (pt_cmpR op_ne (pv 3) pe_int (nomark _)) (pss_cons (ps_set (i := 4) sc_common_divisor.nd rfl (Or.inl rfl) (pe_op op_mod (pv 2) (pv 3))) (pss_cons (ps_set (i := 2) sc_common_divisor.nd rfl (Or.inl rfl) (pv 3)) (pss_one (ps_set (i := 3) sc_common_divisor.nd rfl (Or.inl rfl) (pv 4)))))) (pss_one (ps_ret (pv 2)))))), ?_⟩
  refine ⟨_, rfl, _, rfl, ?_⟩
  refine ⟨fun m σ H1 => ∃ (l : Nat) (y4 : Option V), σ = [some (.int (a : Nat)), some (.int (b : Nat)), some (.int (l : Nat)), some (.int (m : Nat)), y4] ∧ H1 = H ∧ Nat.gcd l m = Nat.gcd a b, ⟨b, a, none, rfl, rfl, rfl⟩, ?_⟩
  rintro m σ H1 ⟨l, y4, rfl, rfl, hg⟩
  refine ⟨_, rfl, rfl, _, rfl, ?_⟩
  have em : (!decide (V.int (m : Int) = V.int 0)) = (m != 0) := by rw [zeroI]
  show if (!decide (V.int (m : Int) = V.int 0)) = true then _ else _
  rw [em]
  by_cases hm : m = 0
  · subst hm
    refine iteF ?_
    rw [Nat.gcd_zero_right] at hg
    subst hg
    exact ⟨_, rfl, q _ (Same.refl _)⟩
  · have em2 : (m != 0) = true := by simpa using hm
    rw [em2]
    refine iteT ?_
    refine ⟨_, fun σ' H' h => h, ?_⟩
    refine ⟨_, rfl, _, rfl, _, _, rfl, rfl, by show (0 : Int) < _; omega, ?_⟩
    refine ⟨_, rfl, _, rfl, l % m, Nat.mod_lt _ (Nat.pos_of_ne_zero hm), m, some (.int ((l : Int) % (m : Int))), rfl, rfl, ?_⟩
    rw [← hg, Nat.gcd_comm m, ← Nat.gcd_rec, Nat.gcd_comm]
def sp_lowest_terms (K : PySem.W.Frag) : Sp := fun vs H Q _ => ∃ (a b : Nat), vs = [.int (a : Nat), .int (b : Nat)] ∧ 0 < b ∧ b ≤ 10000000000000000 ∧
  ∀ H' t, Same H H' → H' t = some (.tup [.int ((Vbndam.reducedFraction a b).1 : Nat), .int ((Vbndam.reducedFraction a b).2 : Nat)]) → Q (.ref t) H'
theorem ok_lowest_terms {f : Addr} {fd : FuncData} (T : Txt K mg) (F : FnP K "lowest_terms" "lowest_terms" s_lowest_terms f fd) (hm : mg "lowest_terms" = some (.ref f)) (c_common_divisor : C8.Cal P w K mg base 1 "common_divisor" (sp_common_divisor K) []) :
    C8.Cal P w K mg base 2 "lowest_terms" (sp_lowest_terms K) [] := by
  refine calMk F hm (F.bindsN (ps := ["numerator", "denominator"]) fun _ _ _ _ _ _ us hl => match us, hl with | [_, _], _ => rfl) sc_lowest_terms (fun vs H Q E h => by first | (obtain ⟨rfl, _⟩ := h; rfl) | (obtain ⟨_, rfl, _⟩ := h; rfl) | (obtain ⟨_, _, rfl, _⟩ := h; rfl) | (obtain ⟨_, _, _, rfl, _⟩ := h; rfl) | (obtain ⟨_, _, _, _, rfl, _⟩ := h; rfl) | (obtain ⟨_, _, _, _, _, rfl, _⟩ := h; rfl) | (obtain ⟨_, _, _, _, _, _, rfl, _⟩ := h; rfl)) (fun cdv A outer s H vs Q E hr h => ?_)
  obtain ⟨a, b, rfl, hb, hb2, q⟩ := h
  refine ⟨_, (pss_cons (ps_set (i := 2) sc_lowest_terms.nd rfl (Or.inl rfl) (C8.pe_c c_common_divisor hr (by decide) (by rfl) (pa_cons (pv 0) (pa_cons (pv 1) pa_nil)))) (pss_one (ps_ret (pe_tup (pa_cons (pe_op op_fdivW (pv 0) (pv 2)) (pa_cons (pe_op op_fdivW (pv 1) (pv 2)) pa_nil)))))), ?_⟩
  have hg0 : 0 < Nat.gcd a b := Nat.gcd_pos_of_pos_right a hb
  have hgb : Nat.gcd a b ≤ b := Nat.gcd_le_right a hb
  have hw : ∀ x : Int, CDivW x (Nat.gcd a b : Nat) := fun x => wide_div (b := 64) (by omega) (by rw [Int.natAbs_natCast]; omega) (by decide) (by decide)
  refine ⟨_, rfl, _, rfl, a, b, rfl, fun H1 s1 => ?_⟩
  refine ⟨_, rfl, _, rfl, _, _, rfl, rfl, hw _, _, rfl, _, rfl, _, _, rfl, rfl, hw _, ?_⟩
  refine ⟨by show 2 ≤ sizeLine; decide, fun t ht => ?_⟩
  refine q _ t (s1.trans (sameUpd ht)) ?_
  rw [upd_same]
  rfl
theorem sum_bound (l : List Nat) (f : Nat → Int) (B : Int) (h0 : 0 ≤ B) (h : ∀ x ∈ l, f x ≤ B) : (l.map f).sum ≤ l.length * B := by
  induction l with
  | nil => simp
  | cons x l ih =>
    rw [List.map_cons, List.sum_cons, List.length_cons]
    have h1 := h x List.mem_cons_self
    have h2 := ih fun y hy => h y (List.mem_cons_of_mem _ hy)
    have e : ((l.length + 1 : Nat) : Int) * B = (l.length : Int) * B + B := by
      rw [Int.natCast_add, Int.add_mul]
      simp
    rw [e]
    omega
def sp_shapley_shubik (K : PySem.W.Frag) : Sp := fun vs H Q _ => ∃ (r : Addr) (i : Nat) (z : Vbndam.Room), vs = [.ref r, .int (i : Nat)] ∧ RoomAt K H r z ∧ WF z ∧ i < Vbndam.playerCount z ∧
  ∀ H' t, Same H H' → H' t = some (.tup [.int ((Vbndam.reducedFraction (Vbndam.pivotalOrderCount z i) (Vbndam.factorial (Vbndam.playerCount z))).1 : Nat), .int ((Vbndam.reducedFraction (Vbndam.pivotalOrderCount z i) (Vbndam.factorial (Vbndam.playerCount z))).2 : Nat)]) → Q (.ref t) H'
theorem ok_shapley_shubik {f : Addr} {fd : FuncData} (T : Txt K mg) (F : FnP K "shapley_shubik" "shapley_shubik" s_shapley_shubik f fd) (hm : mg "shapley_shubik" = some (.ref f)) (c_lowest_terms : C8.Cal P w K mg base 2 "lowest_terms" (sp_lowest_terms K) []) (c_size : C8.Cal P w K mg base 1 "size" (sp_size K) []) (c_swings : C8.Cal P w K mg base 5 "swings" (sp_swings K) []) :
    C8.Cal P w K mg base 6 "shapley_shubik" (sp_shapley_shubik K) [] := by
  refine calMk F hm (F.bindsN (ps := ["room", "player"]) fun _ _ _ _ _ _ us hl => match us, hl with | [_, _], _ => rfl) sc_shapley_shubik (fun vs H Q E h => by first | (obtain ⟨rfl, _⟩ := h; rfl) | (obtain ⟨_, rfl, _⟩ := h; rfl) | (obtain ⟨_, _, rfl, _⟩ := h; rfl) | (obtain ⟨_, _, _, rfl, _⟩ := h; rfl) | (obtain ⟨_, _, _, _, rfl, _⟩ := h; rfl) | (obtain ⟨_, _, _, _, _, rfl, _⟩ := h; rfl) | (obtain ⟨_, _, _, _, _, _, rfl, _⟩ := h; rfl)) (fun cdv A outer s H vs Q E hr h => ?_)
  obtain ⟨r, i, z, rfl, hz, wz, hi, q⟩ := h
  obtain ⟨dx, pl, ru, ps, rs, I⟩ := id hz
  refine ⟨_, (pss_cons (ps_set (i := 2) sc_shapley_shubik.nd rfl (Or.inr rfl) (pe_op op_sub (pe_callB call_len_seq (by rfl) T.n_len PySem.boot_len (pa_cons (pe_fld (pv 0) rfl) pa_nil)) pe_int)) (pss_cons (ps_setLc (i := 3) (own := [("coalition", 5)]) (g := gName 5) (by rfl) sc_shapley_shubik.nd rfl rfl (sw_true rfl rfl rfl (by decide +kernel)) (pi_list (C8.pe_c c_swings hr (by decide) (by rfl) (pa_cons (pv 0) (pa_cons (pv 1) pa_nil)))) (blkOk_by (own := [("coalition", 5)]) (N := ["room", "player", "others", "ahead", "orders", "coalition", "count"]) (sc := defScope s_shapley_shubik) (by decide +kernel)) (fun _ _ _ _ _ => pg_name (i := 5) sc_shapley_shubik.nd rfl (Or.inl rfl)) (fun _ _ _ _ _ => pts_nil) (fun _ _ _ _ _ => (C8.pe_c c_size hr (by decide) (by rfl) (pa_cons (pv 5) pa_nil)))) (pss_cons (ps_set (i := 4) sc_shapley_shubik.nd rfl (Or.inl rfl) (pe_callB (cr_sum (by rfl)) (by rfl) T.n_sum (by decide +kernel) (pa_cons (pe_lc (own := [("count", 6)]) (g := (gName 6)) (by rfl) sc_shapley_shubik.nd (pi_list (pv 3)) (blkOk_by (own := [("count", 6)]) (N := ["room", "player", "others", "ahead", "orders", "coalition", "count"]) (sc := defScope s_shapley_shubik) (by decide +kernel)) (fun _ _ _ _ _ => pg_name (i := 6) sc_shapley_shubik.nd rfl (Or.inl rfl)) (fun _ _ _ _ _ => pts_nil) (fun _ _ _ _ _ => (pe_op op_mul (pe_ix (r := rIxT K) ix_tup (C8.pe_gc (by rfl) T.g_ORDERS) (pv 6) (fun _ _ => rfl)) (pe_ix (r := rIxT K) ix_tup (C8.pe_gc (by rfl) T.g_ORDERS) (pe_op op_sub (pv 2) (pv 6)) (fun _ _ => rfl))))) pa_nil))) (pss_one (ps_ret (C8.pe_c c_lowest_terms hr (by decide) (by rfl) (pa_cons (pv 4) (pa_cons (pe_ix ix_tup (C8.pe_gc (by rfl) T.g_ORDERS) (pe_op op_add (pv 2) pe_int) (fun _ _ => rfl)) pa_nil)))))))), ?_⟩
  have h8 : Vbndam.playerCount z ≤ 8 := wz.le8
  have hlp := pairedLen I.pAt
  have hp256 := pow256 wz
  have hsl : (Vbndam.swings z i).length ≤ 256 := by
    rw [swings_eq]
    exact Nat.le_trans (List.length_filter_le ..) (by rw [List.length_range]; exact hp256)
  refine ⟨_, rfl, r, _, dx, _, _, rfl, I.at_, T.c_Room, T.a_players, lRoom1, pl, _, rfl, .inl (SqL.of I.pls), ?_⟩
  refine ⟨_, _, rfl, rfl, ?_⟩
  have eo : (((ps.map V.ref).length : Nat) : Int) - 1 = ((Vbndam.playerCount z - 1 : Nat) : Int) := by
    rw [List.length_map, hlp]
    show ((Vbndam.playerCount z : Nat) : Int) - 1 = _
    omega
  dsimp only
  rw [eo]
  refine ⟨_, rfl, _, rfl, r, i, z, rfl, hz, wz, hi, fun H1 sw s1 hf e1 => ?_⟩
  refine ⟨sw, rfl, ⟨_, SqL.of e1⟩, fun D hD => ?_⟩
  refine lcM walk_list (Vbndam.swings z i) (fun s => V.int (sizeOf' s : Nat)) (by simp [nats]) (by simp [nats]; omega) hD (fun H2 s2 => SqL.of (s2 _ _ e1)) (fun j s v H2 H' hs s2 hy N y1 => ?_) (fun H2 s2 e2 => ?_) (gNameMono _)
  · obtain ⟨rfl, hv⟩ := hy
    unfold nats at hv
    rw [List.getElem?_map, hs] at hv
    obtain rfl : V.int (s : Nat) = v := Option.some.inj hv
    exact ⟨rfl, _, rfl, s, rfl, fun H3 s3 => y1 _ s3⟩
  refine ⟨_, rfl, D, rfl, ⟨_, SqL.of e2⟩, fun D2 hD2 => ?_⟩
  refine lcM walk_list (Vbndam.swings z i) (fun s => V.int (((Vbndam.factorial (sizeOf' s) : Nat) : Int) * ((Vbndam.factorial (Vbndam.playerCount z - 1 - sizeOf' s) : Nat) : Int))) (by simp) (by simp; omega) hD2 (fun H3 s3 => SqL.of (s3 _ _ e2)) (fun j s v H3 H' hs s3 hy N y1 => ?_) (fun H3 s3 e3 => ?_) (gNameMono _)
  · obtain ⟨rfl, hv⟩ := hy
    rw [List.getElem?_map, hs] at hv
    obtain rfl : V.int (sizeOf' s : Nat) = v := Option.some.inj hv
    obtain ⟨hs1, hs2⟩ := sw_lt (List.mem_of_getElem? hs)
    have hsz : sizeOf' s ≤ Vbndam.playerCount z - 1 := by
      rw [size_eq wz hs1]
      exact size_swing hi hs2
    have esub : ((Vbndam.playerCount z - 1 : Nat) : Int) - ((sizeOf' s : Nat) : Int) = ((Vbndam.playerCount z - 1 - sizeOf' s : Nat) : Int) := by omega
    have hfl := fact_le (n := sizeOf' s) (by omega)
    refine ⟨rfl, _, rfl, _, _, _, _, rfl, rfl, T.t_ORDERS _, atI_nat (orders_get (by omega)), _, rfl, _, rfl, _, _, rfl, rfl, _, _, _, .int (Vbndam.factorial (Vbndam.playerCount z - 1 - sizeOf' s) : Nat), rfl, rfl, T.t_ORDERS _, ?_, ?_⟩
    · show atI _ (((Vbndam.playerCount z - 1 : Nat) : Int) - ((sizeOf' s : Nat) : Int)) = _
      rw [esub]
      exact atI_nat (orders_get (by omega))
    · exact ⟨_, _, rfl, rfl, .inl ⟨by omega, by omega⟩, y1 _ (Same.refl _)⟩
  · refine ⟨D2, (Vbndam.swings z i).map fun s => ((Vbndam.factorial (sizeOf' s) : Nat) : Int) * ((Vbndam.factorial (Vbndam.playerCount z - 1 - sizeOf' s) : Nat) : Int), rfl, ?_, ?_⟩
    · rw [List.map_map]
      exact SqL.of e3
    rw [← orders_eq wz hi]
    have hpc : ((Vbndam.playerCount z - 1 : Nat) : Int) + 1 = ((Vbndam.playerCount z : Nat) : Int) := by omega
    refine ⟨_, rfl, _, rfl, _, _, rfl, rfl, _, _, _, .int (Vbndam.factorial (Vbndam.playerCount z) : Nat), rfl, rfl, T.t_ORDERS _, ?_, ?_⟩
    · show atI _ (((Vbndam.playerCount z - 1 : Nat) : Int) + 1) = _
      rw [hpc]
      exact atI_nat (orders_get (by omega))
    · have hp := fact_pos (n := Vbndam.playerCount z) h8
      have hl := fact_le (n := Vbndam.playerCount z) h8
      exact ⟨_, _, rfl, hp, by omega, fun H4 t s4 e4 => q H4 t (((s1.trans s2).trans s3).trans s4) e4⟩
def sp_counts_by_size (K : PySem.W.Frag) : Sp := fun vs H Q _ => ∃ (r : Addr) (z : Vbndam.Room), vs = [.ref r] ∧ RoomAt K H r z ∧ WF z ∧ ∀ H' p, Same H H' → H p = none → H' p = some (.lst (nats ((List.range (Vbndam.playerCount z + 1)).map (Vbndam.sufficientCountOfSize z)))) → Q (.ref p) H'
theorem ok_counts_by_size {f : Addr} {fd : FuncData} (T : Txt K mg) (F : FnP K "counts_by_size" "counts_by_size" s_counts_by_size f fd) (hm : mg "counts_by_size" = some (.ref f)) (c_sufficient_coalitions : C8.Cal P w K mg base 5 "sufficient_coalitions" (sp_sufficient_coalitions K) []) (c_size : C8.Cal P w K mg base 1 "size" (sp_size K) []) :
    C8.Cal P w K mg base 6 "counts_by_size" (sp_counts_by_size K) [] := by
  refine calMk F hm (F.bindsN (ps := ["room"]) fun _ _ _ _ _ _ us hl => match us, hl with | [_], _ => rfl) sc_counts_by_size (fun vs H Q E h => by first | (obtain ⟨rfl, _⟩ := h; rfl) | (obtain ⟨_, rfl, _⟩ := h; rfl) | (obtain ⟨_, _, rfl, _⟩ := h; rfl) | (obtain ⟨_, _, _, rfl, _⟩ := h; rfl) | (obtain ⟨_, _, _, _, rfl, _⟩ := h; rfl) | (obtain ⟨_, _, _, _, _, rfl, _⟩ := h; rfl) | (obtain ⟨_, _, _, _, _, _, rfl, _⟩ := h; rfl)) (fun cdv A outer s H vs Q E hr h => ?_)
  obtain ⟨r, z, rfl, hz, wz, q⟩ := h
  obtain ⟨dx, pl, ru, ps, rs, I⟩ := id hz
  refine ⟨_, (pss_cons (ps_set (i := 1) sc_counts_by_size.nd rfl (Or.inl rfl) (pe_op op_rep (pe_lst (pa_cons pe_int pa_nil)) (pe_op op_add (pe_callB call_len_seq (by rfl) T.n_len PySem.boot_len (pa_cons (pe_fld (pv 0) rfl) pa_nil)) pe_int))) (pss_cons (ps_for PassesOwn.never (by rfl) (pi_list (C8.pe_c c_sufficient_coalitions hr (by decide) (by rfl) (pa_cons (pv 0) pa_nil))) (pg_name (i := 2) sc_counts_by_size.nd rfl (Or.inl rfl)) (pss_one (ps_asg (pe_op op_add (pe_ix ix_list (pv 1) (C8.pe_c c_size hr (by decide) (by rfl) (pa_cons (pv 2) pa_nil)) (fun _ _ => rfl)) pe_int) (pg_sub (pv 1) (C8.pe_c c_size hr (by decide) (by rfl) (pa_cons (pv 2) pa_nil)) set_list)))) (pss_one (ps_ret (pv 1))))), ?_⟩
  have h8 : Vbndam.playerCount z ≤ 8 := wz.le8
  have hlp : ps.length = Vbndam.playerCount z := pairedLen I.pAt
  have hp256 := pow256 wz
  have hlt : ∀ s ∈ suffs z, s < 2 ^ Vbndam.playerCount z := fun s hs => List.mem_range.mp (List.mem_filter.mp hs).1
  have hsl : (suffs z).length ≤ 256 := by
    unfold suffs Vbndam.allCoalitions
    exact Nat.le_trans (List.length_filter_le ..) (by rw [List.length_range]; exact hp256)
  refine ⟨by show 1 ≤ sizeLine; decide, fun p1 h1 => ?_⟩
  have s1 : Same H (upd H p1 (.lst [V.int 0])) := sameUpd h1
  refine ⟨_, rfl, r, _, dx, _, _, rfl, s1 _ _ I.at_, T.c_Room, T.a_players, lRoom1, pl, _, rfl, .inl (SqL.of (s1 _ _ I.pls)), ?_⟩
  have en : (((ps.map V.ref).length : Nat) : Int) + 1 = ((Vbndam.playerCount z + 1 : Nat) : Int) := by
    rw [List.length_map, hlp]
    omega
  refine ⟨_, _, rfl, rfl, ?_⟩
  dsimp only
  rw [en]
  refine ⟨p1, _, _, rfl, rfl, upd_same, by omega, by omega, ?_, fun c h2 => ?_⟩
  · show 1 * _ ≤ _
    rw [Int.toNat_natCast]
    exact lenI' (by omega)
  rw [Int.toNat_natCast, replFlat]
  generalize hH1 : upd H p1 (.lst [V.int 0]) = H1 at s1 h2
  have s2 : Same H1 (upd H1 c (.lst (List.replicate (Vbndam.playerCount z + 1) (V.int 0)))) := sameUpd h2
  refine ⟨_, rfl, r, z, rfl, (hz.same s1).same s2, wz, fun H2 sc s3 hf e2 => ?_⟩
  have hc0 : H c = none := s1.free h2
  have sH : Same H H2 := (s1.trans s2).trans s3
  have e0 : H2 c = some (.lst (nats (List.replicate (Vbndam.playerCount z + 1) 0))) := by
    refine (s3 _ _ upd_same).trans ?_
    unfold nats
    rw [List.map_replicate]
    rfl
  refine ⟨sc, rfl, ⟨_, SqL.of e2⟩, ?_⟩
  refine for_list (xs := nats (suffs z)) (fun i σ H3 => ∃ y2 : Option V, σ = [some (.ref r), some (.ref c), y2] ∧ Same H H3 ∧ H3 sc = some (.lst (nats (suffs z))) ∧ H3 c = some (.lst (nats ((((suffs z).take i).map sizeOf').foldl countStep (List.replicate (Vbndam.playerCount z + 1) 0)))))
    ⟨none, rfl, sH, e2, e0⟩ (fun i σ H3 _ h => by obtain ⟨_, _, _, h, _⟩ := h; exact SqL.of h) ?_ ?_
  · rintro i x σ H3 hx ⟨y2, rfl, s4, e4, e5⟩
    unfold nats at hx
    rw [List.getElem?_map] at hx
    obtain ⟨m, hm, rfl⟩ := Option.map_eq_some_iff.mp hx
    generalize hL : (((suffs z).take i).map sizeOf').foldl countStep (List.replicate (Vbndam.playerCount z + 1) 0) = L at e5
    have hLl : L.length = Vbndam.playerCount z + 1 := by rw [← hL, count_len, List.length_replicate]
    have hml := hlt m (List.mem_of_getElem? hm)
    have hsz : sizeOf' m < L.length := by
      rw [hLl, size_eq wz hml]
      have := size_le (room := z) m
      omega
    refine ⟨_, rfl, _, rfl, m, rfl, fun H4 s5 => ⟨c, _, _, .int (L[sizeOf' m] : Nat), rfl, rfl, SqL.of (s5 _ _ e5), ?_, ?_⟩⟩
    · refine atI_nat ?_
      unfold nats
      rw [List.getElem?_map, List.getElem?_eq_getElem hsz]
      rfl
    refine ⟨_, _, rfl, rfl, ?_⟩
    refine ⟨_, rfl, _, rfl, m, rfl, fun H5 s6 => ⟨c, _, _, sizeOf' m, rfl, rfl, s6 _ _ (s5 _ _ e5), ixNat ?_, ?_⟩⟩
    · unfold nats
      rw [List.length_map]
      exact hsz
    have s7 := s5.trans s6
    refine ⟨_, rfl, fun b o hb => ?_, ?_, ?_⟩
    · rw [upd_ne (ne_of_none hb hc0)]
      exact s7 _ _ (s4 _ _ hb)
    · have : sc ≠ c := fun e => by
        subst e
        rw [s3 _ _ upd_same] at e2
        have e3 := congrArg (fun o => match o with | some (HO.lst xs) => xs.length | _ => 0) e2
        have h0 : sc ≠ sc := ne_of_none (o := HO.lst _) (s3 _ _ upd_same) (by exact absurd hf (by rw [upd_same]; intro h; cases h))
        exact h0 rfl
      rw [upd_ne this]
      exact s7 _ _ e4
    · rw [upd_same, takeS hm, List.map_append, List.foldl_append, hL]
      show some (HO.lst _) = some (HO.lst (nats (countStep L (sizeOf' m))))
      unfold countStep nats
      rw [List.map_set, List.getD_eq_getElem?_getD, List.getElem?_eq_getElem hsz]
      rfl
  · rintro σ H3 ⟨y2, rfl, s4, e4, e5⟩
    have e6 : (suffs z).take (nats (suffs z)).length = suffs z := List.take_of_length_le (by unfold nats; rw [List.length_map]; exact Nat.le_refl _)
    rw [e6, counts_eq wz] at e5
    exact ⟨_, rfl, q H3 c s4 hc0 e5⟩
def sp_continuation (K : PySem.W.Frag) : Sp := fun vs H Q _ => ∃ (r : Addr) (a b : Nat) (z : Vbndam.Room), vs = [.ref r, .int (a : Nat), .int (b : Nat)] ∧ RoomAt K H r z ∧ WF z ∧ a ≤ b ∧ 1 ≤ b ∧ b ≤ 100 ∧
  ∀ H' t, Same H H' → H' t = some (.tup [.int ((Vbndam.reducedFraction (Vbndam.continuationWeight z a b) (b ^ Vbndam.playerCount z)).1 : Nat), .int ((Vbndam.reducedFraction (Vbndam.continuationWeight z a b) (b ^ Vbndam.playerCount z)).2 : Nat)]) → Q (.ref t) H'
theorem ok_continuation {f : Addr} {fd : FuncData} (T : Txt K mg) (F : FnP K "continuation" "continuation" s_continuation f fd) (hm : mg "continuation" = some (.ref f)) (c_lowest_terms : C8.Cal P w K mg base 2 "lowest_terms" (sp_lowest_terms K) []) (c_counts_by_size : C8.Cal P w K mg base 6 "counts_by_size" (sp_counts_by_size K) []) (c_raised : C8.Cal P w K mg base 1 "raised" (sp_raised K) []) :
    C8.Cal P w K mg base 7 "continuation" (sp_continuation K) [] := by
  refine calMk F hm (F.bindsN (ps := ["room", "a", "b"]) fun _ _ _ _ _ _ us hl => match us, hl with | [_, _, _], _ => rfl) sc_continuation (fun vs H Q E h => by first | (obtain ⟨rfl, _⟩ := h; rfl) | (obtain ⟨_, rfl, _⟩ := h; rfl) | (obtain ⟨_, _, rfl, _⟩ := h; rfl) | (obtain ⟨_, _, _, rfl, _⟩ := h; rfl) | (obtain ⟨_, _, _, _, rfl, _⟩ := h; rfl) | (obtain ⟨_, _, _, _, _, rfl, _⟩ := h; rfl) | (obtain ⟨_, _, _, _, _, _, rfl, _⟩ := h; rfl)) (fun cdv A outer s H vs Q E hr h => ?_)
  obtain ⟨r, a, b, z, rfl, hz, wz, hab, hb1, hb, q⟩ := h
  obtain ⟨dx, pl, ru, ps, rs, I⟩ := id hz
  refine ⟨_, (pss_cons (ps_set (i := 3) sc_continuation.nd rfl (Or.inl rfl) (pe_callB call_len_seq (by rfl) T.n_len PySem.boot_len (pa_cons (pe_fld (pv 0) rfl) pa_nil))) (pss_cons (ps_set (i := 4) sc_continuation.nd rfl (Or.inl rfl) pe_int) (pss_cons (ps_for PassesOwn.never (by rfl) (pi_enum (by rfl) T.n_enumerate (pa_cons (C8.pe_c c_counts_by_size hr (by decide) (by rfl) (pa_cons (pv 0) pa_nil)) pa_nil)) (pg_tup (by rfl) (pgs_cons (pg_name (i := 5) sc_continuation.nd rfl (Or.inl rfl)) (pgs_cons (pg_name (i := 6) sc_continuation.nd rfl (Or.inl rfl)) pgs_nil))) (pss_one (ps_set (i := 4) sc_continuation.nd rfl (Or.inl rfl) (pe_op op_add (pv 4) (pe_op op_mul (pe_op op_mul (pv 6) (C8.pe_c c_raised hr (by decide) (by rfl) (pa_cons (pv 1) (pa_cons (pv 5) pa_nil)))) (C8.pe_c c_raised hr (by decide) (by rfl) (pa_cons (pe_op op_sub (pv 2) (pv 1)) (pa_cons (pe_op op_sub (pv 3) (pv 5)) pa_nil)))))))) (pss_one (ps_ret (C8.pe_c c_lowest_terms hr (by decide) (by rfl) (pa_cons (pv 4) (pa_cons (C8.pe_c c_raised hr (by decide) (by rfl) (pa_cons (pv 2) (pa_cons (pv 3) pa_nil))) pa_nil)))))))), ?_⟩
  have h8 : Vbndam.playerCount z ≤ 8 := wz.le8
  have hlp : ps.length = Vbndam.playerCount z := pairedLen I.pAt
  refine ⟨_, rfl, r, _, dx, _, _, rfl, I.at_, T.c_Room, T.a_players, lRoom1, pl, _, rfl, .inl (SqL.of I.pls), ?_⟩
  have en : (((ps.map V.ref).length : Nat) : Int) = ((Vbndam.playerCount z : Nat) : Int) := by
    rw [List.length_map, hlp]
  rw [en]
  refine ⟨_, rfl, r, z, rfl, hz, wz, fun H1 c s1 hf e1 => ?_⟩
  refine ⟨c, _, rfl, SqL.of e1, ?_⟩
  refine for_it walk_enum (fun i σ H2 => ∃ (y5 y6 : Option V) (t : Nat), σ = [some (.ref r), some (.int (a : Nat)), some (.int (b : Nat)), some (.int (Vbndam.playerCount z : Nat)), some (.int (t : Nat)), y5, y6] ∧ Same H1 H2 ∧
      ((t : Nat) : Int) = (((List.range (Vbndam.playerCount z + 1)).take i).map fun k => ((Vbndam.sufficientCountOfSize z k * a ^ k * (b - a) ^ (Vbndam.playerCount z - k) : Nat) : Int)).sum) ⟨none, none, 0, rfl, Same.refl _, rfl⟩
    (fun i σ H2 _ h => by obtain ⟨_, _, _, _, s2, _⟩ := h; exact SqL.of (s2 _ _ e1)) ?_ ?_
  · rintro i x σ H2 H3 hi ⟨y5, y6, t, rfl, s2, ht⟩ ⟨Tt, n, v, rfl, hT, rfl, hn, hv⟩
    obtain rfl : V.int (i : Nat) = n := Option.some.inj hn
    have hi' : i < Vbndam.playerCount z + 1 := by
      have : (nats ((List.range (Vbndam.playerCount z + 1)).map (Vbndam.sufficientCountOfSize z))).length = Vbndam.playerCount z + 1 := by simp [nats]
      omega
    replace hv : (nats ((List.range (Vbndam.playerCount z + 1)).map (Vbndam.sufficientCountOfSize z)))[i]? = some v := hv
    unfold nats at hv
    rw [List.map_map, List.getElem?_map, List.getElem?_range hi'] at hv
    obtain rfl : V.int (Vbndam.sufficientCountOfSize z i : Nat) = v := Option.some.inj hv
    have sT : Same H2 (upd H2 Tt (.tup [V.int (i : Nat), V.int (Vbndam.sufficientCountOfSize z i : Nat)])) := sameUpd hT
    have hc := count_le wz i
    have p1 := pow16 (b := a) (k := i) (by omega) (by omega)
    have p2 := pow16 (b := b - a) (k := Vbndam.playerCount z - i) (by omega) (by omega)
    refine ⟨Tt, _, rfl, SqT.of upd_same, rfl, _, _, rfl, _, _, rfl, rfl, ?_⟩
    refine ⟨_, rfl, _, rfl, _, rfl, _, rfl, a, i, rfl, by omega, by omega, fun H4 s4 => ?_⟩
    refine ⟨_, _, rfl, rfl, .inl ⟨by omega, by omega⟩, ?_⟩
    refine ⟨_, rfl, _, rfl, _, _, rfl, rfl, _, rfl, _, rfl, _, _, rfl, rfl, b - a, Vbndam.playerCount z - i, ?_, by omega, by omega, fun H5 s5 => ?_⟩
    · show [V.int ((b : Int) - (a : Int)), V.int ((Vbndam.playerCount z : Int) - (i : Int))] = _
      rw [show (b : Int) - (a : Int) = ((b - a : Nat) : Int) by omega, show (Vbndam.playerCount z : Int) - (i : Int) = ((Vbndam.playerCount z - i : Nat) : Int) by omega]
    refine ⟨_, _, rfl, rfl, .inr ⟨by omega, by omega⟩, _, _, rfl, rfl, some (.int (i : Nat)), some (.int (Vbndam.sufficientCountOfSize z i : Nat)), t + Vbndam.sufficientCountOfSize z i * a ^ i * (b - a) ^ (Vbndam.playerCount z - i), ?_, ((s2.trans sT).trans s4).trans s5, ?_⟩
    · rw [Int.natCast_add, Int.natCast_mul, Int.natCast_mul]
      rfl
    · rw [takeS (rangeIt hi'), List.map_append, List.sum_append, ← ht, Int.natCast_add]
      simp
  · rintro σ H2 ⟨y5, y6, t, rfl, s2, ht⟩
    have e6 : (List.range (Vbndam.playerCount z + 1)).take (nats ((List.range (Vbndam.playerCount z + 1)).map (Vbndam.sufficientCountOfSize z))).length = List.range (Vbndam.playerCount z + 1) := List.take_of_length_le (by simp [nats])
    rw [e6, ← weightSum_eq] at ht
    have et : t = Vbndam.continuationWeight z a b := by omega
    subst et
    have p3 := pow16 (b := b) (k := Vbndam.playerCount z) hb h8
    refine ⟨_, rfl, _, rfl, _, rfl, b, Vbndam.playerCount z, rfl, hb, h8, fun H3 s3 => ?_⟩
    refine ⟨_, _, rfl, Nat.pow_pos (by omega), p3, fun H4 t s4 e4 => q H4 t (((s1.trans s2).trans s3).trans s4) e4⟩
end
end SI

set_option maxHeartbeats 4000000
namespace SI
open PySem PySem.Spec PyProof.Rows L2
theorem putH {f : Str} {v x : V} {r : List (Str × V)} : putF f v ((f, x) :: r) = (f, v) :: r := if_pos rfl
theorem putP {f g : Str} {v x : V} {r : List (Str × V)} (h : g ≠ f) : putF f v ((g, x) :: r) = (g, x) :: putF f v r := if_neg h
theorem putN {f : Str} {v : V} : putF f v [] = [(f, v)] := rfl
theorem pCall {n : Int} {na ra : Addr} : putF "row" (.ref ra) (putF "numbers" (.ref na) (putF "number" (.int n) [])) = fCall n na ra := by
  rw [putN, putP (by decide), putN, putP (by decide), putP (by decide), putN]
  rfl
theorem pPlayer {nm : List Nat} {wt : Int} : putF "weight" (.int wt) (putF "name" (.str (SX.S nm)) []) = fPlayer nm wt := by
  rw [putN, putP (by decide), putN]
  rfl
theorem pPlayerW {nm : List Nat} {wt w2 : Int} : putF "weight" (.int w2) (fPlayer nm wt) = fPlayer nm w2 := by
  unfold fPlayer
  rw [putP (by decide), putH]
theorem pRule {ab nd : Int} {sl : Addr} : putF "substitutes" (.ref sl) (putF "needed" (.int nd) (putF "absent" (.int ab) [])) = fRule ab nd sl := by
  rw [putN, putP (by decide), putN, putP (by decide), putP (by decide), putN]
  rfl
theorem pRoom {pl ru : Addr} : putF "rules" (.ref ru) (putF "players" (.ref pl) []) = fRoom pl ru := by
  rw [putN, putP (by decide), putN]
  rfl
theorem pSession {v u : V} : putF "room" v (fSession u) = fSession v := by
  unfold fSession
  rw [putH]
/-! ### calls -/
def CallAt (K : PySem.W.Frag) (H : Hp) (a : Addr) (n : Int) (ns rw : List Int) : Prop := ∃ dx na ra, H a = some (.ins (cl K "Call") dx (fCall n na ra)) ∧ H na = some (.lst (ns.map V.int)) ∧ H ra = some (.lst (rw.map V.int))
theorem CallAt.same {K : PySem.W.Frag} {H H' : Hp} (s : Same H H') {a : Addr} {n : Int} {ns rw : List Int} (h : CallAt K H a n ns rw) : CallAt K H' a n ns rw := let ⟨dx, na, ra, e1, e2, e3⟩ := h; ⟨dx, na, ra, s _ _ e1, s _ _ e2, s _ _ e3⟩
def isIn (l : List Int) (n : Int) : Bool := l.any fun y => y == n
theorem inI (l : List Int) (n : Int) : inV (.int n) (l.map V.int) = isIn l n := by
  unfold inV isIn
  rw [List.any_map]
  rfl
theorem flatI (l : List Int) : (l.map V.int).all flatV = true := by
  rw [List.all_eq_true]
  intro x hx
  obtain ⟨y, _, rfl⟩ := List.mem_map.mp hx
  rfl
def pairsI : List Int → List (Int × Int)
  | a :: b :: l => (a, b) :: pairsI l
  | _ => []
theorem pairsI_len : ∀ (n : Nat) (l : List Int), l.length = n → (pairsI l).length = n / 2
  | 0, [], _ => rfl
  | 1, [_], _ => rfl
  | n + 2, a :: b :: l, h => by
    have := pairsI_len n l (by simpa using h)
    show (pairsI l).length + 1 = _
    omega
theorem pairsI_get : ∀ (i : Nat) (l : List Int), 2 * i + 1 < l.length → ∃ a b, l[2 * i]? = some a ∧ l[2 * i + 1]? = some b ∧ (pairsI l)[i]? = some (a, b)
  | _, [], h => by simp at h
  | _, [_], h => by simp at h
  | 0, a :: b :: l, _ => ⟨a, b, rfl, rfl, rfl⟩
  | i + 1, a :: b :: l, h => by
    obtain ⟨x, y, h1, h2, h3⟩ := pairsI_get i l (by simp at h; omega)
    exact ⟨x, y, h1, h2, h3⟩
def textFit (rw : List Int) : Bool := decide ((rw.length : Int) ≤ 2000) && rw.all fun c => decide (0 ≤ c) && decide (c ≤ 255)
def pairedFit (rw : List Int) : Bool := decide ((rw.length : Int) ≤ 40) && decide (rw.length % 2 = 0)
def stepsFit (rw : List Int) : Bool := pairedFit rw && (pairsI rw).all fun q => (decide (0 ≤ q.1) && decide (q.1 ≤ 7)) && (decide (1 ≤ q.2) && decide (q.2 ≤ 20))
def packFit (rw : List Int) : Bool := pairedFit rw && rw.all fun c => decide (0 ≤ c) && decide (c ≤ 1000000)
def rowFit (n : Int) (rw : List Int) : Bool := if isIn [0, 1] n then textFit rw else if isIn [4] n then stepsFit rw else (!isIn [11] n || packFit rw)
def numsFit (ns : List Int) (l : List (Int × Int)) : Bool := (ns.zip l).all fun q => decide (q.2.1 ≤ q.1) && decide (q.1 ≤ q.2.2)
def numFit (m : Nat) (ns : List Int) : Bool := numsFit ns (NR.getD m []) && (!isIn [15] m || decide (ns.getD 0 0 ≤ ns.getD 1 0))
theorem andB {Q : VK} {c d : Bool} {A : Prop} {H : Hp} (h : ∀ H', Same H H' → Q (.bl (c && d)) H') (hA : (∀ H', Same H H' → Q (.bl d) H') → A) : if c = true then A else Q (.bl false) H := by
  cases c with
  | true => exact iteT (hA h)
  | false => exact iteF (h H (Same.refl _))
theorem orB {Q : VK} {c d : Bool} {A : Prop} {H : Hp} (h : ∀ H', Same H H' → Q (.bl (c || d)) H') (hA : (∀ H', Same H H' → Q (.bl d) H') → A) : if c = true then Q (.bl true) H else A := by
  cases c with
  | true => exact iteT (h H (Same.refl _))
  | false => exact iteF (hA h)
theorem andC {R : Bool → Prop} {c d : Bool} {A : Prop} (h : R (c && d)) (hA : R d → A) : if c = true then A else R false := by
  cases c with
  | true => exact iteT (hA h)
  | false => exact iteF h
section
variable {P : Program} {w : World} {K : PySem.W.Frag} {mg : Str → Option Value} {base : Heap}
def sp_Call_init (K : PySem.W.Frag) : Sp := fun vs H Q _ => ∃ (x dx na ra : Addr) (n : Int), vs = [.ref x, .int n, .ref na, .ref ra] ∧ H x = some (.ins (cl K "Call") dx []) ∧ Q .non (upd H x (.ins (cl K "Call") dx (fCall n na ra)))
theorem ok_Call_init {f : Addr} {fd : FuncData} (T : Txt K mg) (M : Mk K (cl K "Call") f) (hm : mg "Call" = some (.ref (cl K "Call"))) (F : FnP K "__init__" "Call.__init__" s_Call_init f fd)  :
    C8.Mak P w K mg base 1 "Call" (cl K "Call") (sp_Call_init K) [] := by
  refine makMk M hm F (F.bindsN (ps := ["self", "number", "numbers", "row"]) fun _ _ _ _ _ _ us hl => match us, hl with | [_, _, _, _], _ => rfl) sc_Call_init (fun vs H Q E h => by first | (obtain ⟨rfl, _⟩ := h; rfl) | (obtain ⟨_, rfl, _⟩ := h; rfl) | (obtain ⟨_, _, rfl, _⟩ := h; rfl) | (obtain ⟨_, _, _, rfl, _⟩ := h; rfl) | (obtain ⟨_, _, _, _, rfl, _⟩ := h; rfl) | (obtain ⟨_, _, _, _, _, rfl, _⟩ := h; rfl) | (obtain ⟨_, _, _, _, _, _, rfl, _⟩ := h; rfl)) (fun cdv A outer s H vs Q E hr h => ?_)
  obtain ⟨x, dx, na, ra, n, rfl, e, q⟩ := h
  refine ⟨_, (pss_cons (ps_fld (pv 0) (pv 1) rfl) (pss_cons (ps_fld (pv 0) (pv 2) rfl) (pss_one (ps_fld (pv 0) (pv 3) rfl)))), ?_⟩
  refine ⟨_, rfl, _, rfl, x, _, dx, _, rfl, e, T.c_Call, T.a_number, by show 0 < 1000; decide, ?_⟩
  refine ⟨_, rfl, _, rfl, x, _, dx, _, rfl, upd_same, T.c_Call, T.a_numbers, by show 1 < 1000; decide, ?_⟩
  refine ⟨_, rfl, _, rfl, x, _, dx, _, rfl, upd_same, T.c_Call, T.a_row, by rw [putN, putP (by decide)]; show 2 < 1000; decide, ?_⟩
  rw [upd_upd, upd_upd, pCall]
  exact q
def sp_Player_init (K : PySem.W.Frag) : Sp := fun vs H Q _ => ∃ (x dx : Addr) (nm : List Nat) (wt : Int), vs = [.ref x, .str (SX.S nm), .int wt] ∧ H x = some (.ins (cl K "Player") dx []) ∧ Q .non (upd H x (.ins (cl K "Player") dx (fPlayer nm wt)))
theorem ok_Player_init {f : Addr} {fd : FuncData} (T : Txt K mg) (M : Mk K (cl K "Player") f) (hm : mg "Player" = some (.ref (cl K "Player"))) (F : FnP K "__init__" "Player.__init__" s_Player_init f fd)  :
    C8.Mak P w K mg base 1 "Player" (cl K "Player") (sp_Player_init K) [] := by
  refine makMk M hm F (F.bindsN (ps := ["self", "name", "weight"]) fun _ _ _ _ _ _ us hl => match us, hl with | [_, _, _], _ => rfl) sc_Player_init (fun vs H Q E h => by first | (obtain ⟨rfl, _⟩ := h; rfl) | (obtain ⟨_, rfl, _⟩ := h; rfl) | (obtain ⟨_, _, rfl, _⟩ := h; rfl) | (obtain ⟨_, _, _, rfl, _⟩ := h; rfl) | (obtain ⟨_, _, _, _, rfl, _⟩ := h; rfl) | (obtain ⟨_, _, _, _, _, rfl, _⟩ := h; rfl) | (obtain ⟨_, _, _, _, _, _, rfl, _⟩ := h; rfl)) (fun cdv A outer s H vs Q E hr h => ?_)
  obtain ⟨x, dx, nm, wt, rfl, e, q⟩ := h
  refine ⟨_, (pss_cons (ps_fld (pv 0) (pv 1) rfl) (pss_one (ps_fld (pv 0) (pv 2) rfl))), ?_⟩
  refine ⟨_, rfl, _, rfl, x, _, dx, _, rfl, e, T.c_Player, T.a_name, by show 0 < 1000; decide, ?_⟩
  refine ⟨_, rfl, _, rfl, x, _, dx, _, rfl, upd_same, T.c_Player, T.a_weight, by show 1 < 1000; decide, ?_⟩
  rw [upd_upd, pPlayer]
  exact q
def sp_Rule_init (K : PySem.W.Frag) : Sp := fun vs H Q _ => ∃ (x dx sl : Addr) (ab nd : Int), vs = [.ref x, .int ab, .int nd, .ref sl] ∧ H x = some (.ins (cl K "Rule") dx []) ∧ Q .non (upd H x (.ins (cl K "Rule") dx (fRule ab nd sl)))
theorem ok_Rule_init {f : Addr} {fd : FuncData} (T : Txt K mg) (M : Mk K (cl K "Rule") f) (hm : mg "Rule" = some (.ref (cl K "Rule"))) (F : FnP K "__init__" "Rule.__init__" s_Rule_init f fd)  :
    C8.Mak P w K mg base 1 "Rule" (cl K "Rule") (sp_Rule_init K) [] := by
  refine makMk M hm F (F.bindsN (ps := ["self", "absent", "needed", "substitutes"]) fun _ _ _ _ _ _ us hl => match us, hl with | [_, _, _, _], _ => rfl) sc_Rule_init (fun vs H Q E h => by first | (obtain ⟨rfl, _⟩ := h; rfl) | (obtain ⟨_, rfl, _⟩ := h; rfl) | (obtain ⟨_, _, rfl, _⟩ := h; rfl) | (obtain ⟨_, _, _, rfl, _⟩ := h; rfl) | (obtain ⟨_, _, _, _, rfl, _⟩ := h; rfl) | (obtain ⟨_, _, _, _, _, rfl, _⟩ := h; rfl) | (obtain ⟨_, _, _, _, _, _, rfl, _⟩ := h; rfl)) (fun cdv A outer s H vs Q E hr h => ?_)
  obtain ⟨x, dx, sl, ab, nd, rfl, e, q⟩ := h
  refine ⟨_, (pss_cons (ps_fld (pv 0) (pv 1) rfl) (pss_cons (ps_fld (pv 0) (pv 2) rfl) (pss_one (ps_fld (pv 0) (pv 3) rfl)))), ?_⟩
  refine ⟨_, rfl, _, rfl, x, _, dx, _, rfl, e, T.c_Rule, T.a_absent, by show 0 < 1000; decide, ?_⟩
  refine ⟨_, rfl, _, rfl, x, _, dx, _, rfl, upd_same, T.c_Rule, T.a_needed, by show 1 < 1000; decide, ?_⟩
  refine ⟨_, rfl, _, rfl, x, _, dx, _, rfl, upd_same, T.c_Rule, T.a_substitutes, by rw [putN, putP (by decide)]; show 2 < 1000; decide, ?_⟩
  rw [upd_upd, upd_upd, pRule]
  exact q
def sp_Room_init (K : PySem.W.Frag) : Sp := fun vs H Q _ => ∃ (x dx : Addr), vs = [.ref x] ∧ H x = some (.ins (cl K "Room") dx []) ∧
  ∀ H' pl ru, (∀ b o, b ≠ x → H b = some o → H' b = some o) → H pl = none → H ru = none → pl ≠ ru → H' x = some (.ins (cl K "Room") dx (fRoom pl ru)) → H' pl = some (.lst []) → H' ru = some (.lst []) → Q .non H'
theorem ok_Room_init {f : Addr} {fd : FuncData} (T : Txt K mg) (M : Mk K (cl K "Room") f) (hm : mg "Room" = some (.ref (cl K "Room"))) (F : FnP K "__init__" "Room.__init__" s_Room_init f fd)  :
    C8.Mak P w K mg base 1 "Room" (cl K "Room") (sp_Room_init K) [] := by
  refine makMk M hm F (F.bindsN (ps := ["self"]) fun _ _ _ _ _ _ us hl => match us, hl with | [_], _ => rfl) sc_Room_init (fun vs H Q E h => by first | (obtain ⟨rfl, _⟩ := h; rfl) | (obtain ⟨_, rfl, _⟩ := h; rfl) | (obtain ⟨_, _, rfl, _⟩ := h; rfl) | (obtain ⟨_, _, _, rfl, _⟩ := h; rfl) | (obtain ⟨_, _, _, _, rfl, _⟩ := h; rfl) | (obtain ⟨_, _, _, _, _, rfl, _⟩ := h; rfl) | (obtain ⟨_, _, _, _, _, _, rfl, _⟩ := h; rfl)) (fun cdv A outer s H vs Q E hr h => ?_)
  obtain ⟨x, dx, rfl, e, q⟩ := h
  refine ⟨_, (pss_cons (ps_fld (pv 0) (pe_lst pa_nil) rfl) (pss_one (ps_fld (pv 0) (pe_lst pa_nil) rfl))), ?_⟩
  refine ⟨by show 0 ≤ sizeLine; decide, fun pl hpl => ?_⟩
  have n1 : x ≠ pl := ne_of_none e hpl
  refine ⟨_, rfl, x, _, dx, _, rfl, (upd_ne n1).trans e, T.c_Room, T.a_players, by show 0 < 1000; decide, ?_⟩
  refine ⟨by show 0 ≤ sizeLine; decide, fun ru hru => ?_⟩
  have n2 : x ≠ ru := ne_of_none upd_same hru
  have n3 : pl ≠ ru := by
    refine ne_of_none (o := .lst []) ?_ hru
    rw [upd_ne (Ne.symm n1), upd_same]
  refine ⟨_, rfl, x, _, dx, _, rfl, (upd_ne n2).trans upd_same, T.c_Room, T.a_rules, by show 1 < 1000; decide, ?_⟩
  rw [pRoom]
  have hru0 : H ru = none := by
    rw [upd_ne (Ne.symm n2), upd_ne (Ne.symm n3)] at hru
    exact hru
  refine q _ pl ru (fun b o hb e1 => ?_) hpl hru0 n3 upd_same ?_ ?_
  · rw [upd_ne hb, upd_ne (ne_of_none e1 hru0), upd_ne hb, upd_ne (ne_of_none e1 hpl)]
    exact e1
  · rw [upd_ne (Ne.symm n1), upd_ne n3, upd_ne (Ne.symm n1), upd_same]
  · rw [upd_ne (Ne.symm n2), upd_same]
def sp_Session_init (K : PySem.W.Frag) : Sp := fun vs H Q _ => ∃ (x dx : Addr), vs = [.ref x] ∧ H x = some (.ins (cl K "Session") dx []) ∧ Q .non (upd H x (.ins (cl K "Session") dx (fSession .non)))
theorem ok_Session_init {f : Addr} {fd : FuncData} (T : Txt K mg) (M : Mk K (cl K "Session") f) (hm : mg "Session" = some (.ref (cl K "Session"))) (F : FnP K "__init__" "Session.__init__" s_Session_init f fd)  :
    C8.Mak P w K mg base 1 "Session" (cl K "Session") (sp_Session_init K) [] := by
  refine makMk M hm F (F.bindsN (ps := ["self"]) fun _ _ _ _ _ _ us hl => match us, hl with | [_], _ => rfl) sc_Session_init (fun vs H Q E h => by first | (obtain ⟨rfl, _⟩ := h; rfl) | (obtain ⟨_, rfl, _⟩ := h; rfl) | (obtain ⟨_, _, rfl, _⟩ := h; rfl) | (obtain ⟨_, _, _, rfl, _⟩ := h; rfl) | (obtain ⟨_, _, _, _, rfl, _⟩ := h; rfl) | (obtain ⟨_, _, _, _, _, rfl, _⟩ := h; rfl) | (obtain ⟨_, _, _, _, _, _, rfl, _⟩ := h; rfl)) (fun cdv A outer s H vs Q E hr h => ?_)
  obtain ⟨x, dx, rfl, e, q⟩ := h
  refine ⟨_, (pss_one (ps_fld (pv 0) pe_non rfl)), ?_⟩
  exact ⟨_, rfl, x, _, dx, _, rfl, e, T.c_Session, T.a_room, by show 0 < 1000; decide, q⟩
def sp_isnum (K : PySem.W.Frag) (g : Int → Bool) : Sp := fun vs H Q _ => ∃ (a : Addr) (n : Int) (ns rw : List Int), vs = [.ref a] ∧ CallAt K H a n ns rw ∧ Q (.bl (g n)) H
def sp_needs_room (K : PySem.W.Frag) : Sp := sp_isnum K fun n => !isIn [0, 1] n
theorem ok_needs_room {f : Addr} {fd : FuncData} (T : Txt K mg) (F : FnP K "needs_room" "needs_room" s_needs_room f fd) (hm : mg "needs_room" = some (.ref f))  :
    C8.Cal P w K mg base 1 "needs_room" (sp_needs_room K) [] := by
  refine calMk F hm (F.bindsN (ps := ["call"]) fun _ _ _ _ _ _ us hl => match us, hl with | [_], _ => rfl) sc_needs_room (fun vs H Q E h => by first | (obtain ⟨rfl, _⟩ := h; rfl) | (obtain ⟨_, rfl, _⟩ := h; rfl) | (obtain ⟨_, _, rfl, _⟩ := h; rfl) | (obtain ⟨_, _, _, rfl, _⟩ := h; rfl) | (obtain ⟨_, _, _, _, rfl, _⟩ := h; rfl) | (obtain ⟨_, _, _, _, _, rfl, _⟩ := h; rfl) | (obtain ⟨_, _, _, _, _, _, rfl, _⟩ := h; rfl)) (fun cdv A outer s H vs Q E hr h => ?_)
  obtain ⟨a, n, ns, rw, rfl, ⟨dx, na, ra, e, _, _⟩, q⟩ := h
  refine ⟨_, (pss_one (ps_ret (pe_cmpR op_notIn_seq (pe_fld (pv 0) rfl) (C8.pe_gc (by rfl) T.g_TEXT_CALLS) (by rfl)))), ?_⟩
  refine ⟨_, rfl, a, _, dx, _, _, rfl, e, T.c_Call, T.a_number, lCall1, _, _, rfl, .inr (T.t_TEXT_CALLS _), rfl, flatI _, ?_⟩
  rw [inI]
  exact q
def sp_takes_coalition (K : PySem.W.Frag) : Sp := sp_isnum K fun n => isIn [3, 4, 5, 6, 7, 12] n
theorem ok_takes_coalition {f : Addr} {fd : FuncData} (T : Txt K mg) (F : FnP K "takes_coalition" "takes_coalition" s_takes_coalition f fd) (hm : mg "takes_coalition" = some (.ref f))  :
    C8.Cal P w K mg base 1 "takes_coalition" (sp_takes_coalition K) [] := by
  refine calMk F hm (F.bindsN (ps := ["call"]) fun _ _ _ _ _ _ us hl => match us, hl with | [_], _ => rfl) sc_takes_coalition (fun vs H Q E h => by first | (obtain ⟨rfl, _⟩ := h; rfl) | (obtain ⟨_, rfl, _⟩ := h; rfl) | (obtain ⟨_, _, rfl, _⟩ := h; rfl) | (obtain ⟨_, _, _, rfl, _⟩ := h; rfl) | (obtain ⟨_, _, _, _, rfl, _⟩ := h; rfl) | (obtain ⟨_, _, _, _, _, rfl, _⟩ := h; rfl) | (obtain ⟨_, _, _, _, _, _, rfl, _⟩ := h; rfl)) (fun cdv A outer s H vs Q E hr h => ?_)
  obtain ⟨a, n, ns, rw, rfl, ⟨dx, na, ra, e, _, _⟩, q⟩ := h
  refine ⟨_, (pss_one (ps_ret (pe_cmpR op_in_seq (pe_fld (pv 0) rfl) (C8.pe_gc (by rfl) T.g_COALITION_CALLS) (by rfl)))), ?_⟩
  refine ⟨_, rfl, a, _, dx, _, _, rfl, e, T.c_Call, T.a_number, lCall1, _, _, rfl, .inr (T.t_COALITION_CALLS _), rfl, flatI _, ?_⟩
  rw [inI]
  exact q
def sp_takes_packing (K : PySem.W.Frag) : Sp := sp_isnum K fun n => isIn [11] n
theorem ok_takes_packing {f : Addr} {fd : FuncData} (T : Txt K mg) (F : FnP K "takes_packing" "takes_packing" s_takes_packing f fd) (hm : mg "takes_packing" = some (.ref f))  :
    C8.Cal P w K mg base 1 "takes_packing" (sp_takes_packing K) [] := by
  refine calMk F hm (F.bindsN (ps := ["call"]) fun _ _ _ _ _ _ us hl => match us, hl with | [_], _ => rfl) sc_takes_packing (fun vs H Q E h => by first | (obtain ⟨rfl, _⟩ := h; rfl) | (obtain ⟨_, rfl, _⟩ := h; rfl) | (obtain ⟨_, _, rfl, _⟩ := h; rfl) | (obtain ⟨_, _, _, rfl, _⟩ := h; rfl) | (obtain ⟨_, _, _, _, rfl, _⟩ := h; rfl) | (obtain ⟨_, _, _, _, _, rfl, _⟩ := h; rfl) | (obtain ⟨_, _, _, _, _, _, rfl, _⟩ := h; rfl)) (fun cdv A outer s H vs Q E hr h => ?_)
  obtain ⟨a, n, ns, rw, rfl, ⟨dx, na, ra, e, _, _⟩, q⟩ := h
  refine ⟨_, (pss_one (ps_ret (pe_cmpR op_in_seq (pe_fld (pv 0) rfl) (C8.pe_gc (by rfl) T.g_PACKING_CALLS) (by rfl)))), ?_⟩
  refine ⟨_, rfl, a, _, dx, _, _, rfl, e, T.c_Call, T.a_number, lCall1, _, _, rfl, .inr (T.t_PACKING_CALLS _), rfl, flatI _, ?_⟩
  rw [inI]
  exact q
def sp_takes_player (K : PySem.W.Frag) : Sp := sp_isnum K fun n => isIn [13, 14, 18] n
theorem ok_takes_player {f : Addr} {fd : FuncData} (T : Txt K mg) (F : FnP K "takes_player" "takes_player" s_takes_player f fd) (hm : mg "takes_player" = some (.ref f))  :
    C8.Cal P w K mg base 1 "takes_player" (sp_takes_player K) [] := by
  refine calMk F hm (F.bindsN (ps := ["call"]) fun _ _ _ _ _ _ us hl => match us, hl with | [_], _ => rfl) sc_takes_player (fun vs H Q E h => by first | (obtain ⟨rfl, _⟩ := h; rfl) | (obtain ⟨_, rfl, _⟩ := h; rfl) | (obtain ⟨_, _, rfl, _⟩ := h; rfl) | (obtain ⟨_, _, _, rfl, _⟩ := h; rfl) | (obtain ⟨_, _, _, _, rfl, _⟩ := h; rfl) | (obtain ⟨_, _, _, _, _, rfl, _⟩ := h; rfl) | (obtain ⟨_, _, _, _, _, _, rfl, _⟩ := h; rfl)) (fun cdv A outer s H vs Q E hr h => ?_)
  obtain ⟨a, n, ns, rw, rfl, ⟨dx, na, ra, e, _, _⟩, q⟩ := h
  refine ⟨_, (pss_one (ps_ret (pe_cmpR op_in_seq (pe_fld (pv 0) rfl) (C8.pe_gc (by rfl) T.g_PLAYER_CALLS) (by rfl)))), ?_⟩
  refine ⟨_, rfl, a, _, dx, _, _, rfl, e, T.c_Call, T.a_number, lCall1, _, _, rfl, .inr (T.t_PLAYER_CALLS _), rfl, flatI _, ?_⟩
  rw [inI]
  exact q
def sp_takes_rule (K : PySem.W.Frag) : Sp := sp_isnum K fun n => isIn [17] n
theorem ok_takes_rule {f : Addr} {fd : FuncData} (T : Txt K mg) (F : FnP K "takes_rule" "takes_rule" s_takes_rule f fd) (hm : mg "takes_rule" = some (.ref f))  :
    C8.Cal P w K mg base 1 "takes_rule" (sp_takes_rule K) [] := by
  refine calMk F hm (F.bindsN (ps := ["call"]) fun _ _ _ _ _ _ us hl => match us, hl with | [_], _ => rfl) sc_takes_rule (fun vs H Q E h => by first | (obtain ⟨rfl, _⟩ := h; rfl) | (obtain ⟨_, rfl, _⟩ := h; rfl) | (obtain ⟨_, _, rfl, _⟩ := h; rfl) | (obtain ⟨_, _, _, rfl, _⟩ := h; rfl) | (obtain ⟨_, _, _, _, rfl, _⟩ := h; rfl) | (obtain ⟨_, _, _, _, _, rfl, _⟩ := h; rfl) | (obtain ⟨_, _, _, _, _, _, rfl, _⟩ := h; rfl)) (fun cdv A outer s H vs Q E hr h => ?_)
  obtain ⟨a, n, ns, rw, rfl, ⟨dx, na, ra, e, _, _⟩, q⟩ := h
  refine ⟨_, (pss_one (ps_ret (pe_cmpR op_in_seq (pe_fld (pv 0) rfl) (C8.pe_gc (by rfl) T.g_RULE_CALLS) (by rfl)))), ?_⟩
  refine ⟨_, rfl, a, _, dx, _, _, rfl, e, T.c_Call, T.a_number, lCall1, _, _, rfl, .inr (T.t_RULE_CALLS _), rfl, flatI _, ?_⟩
  rw [inI]
  exact q
def sp_is_paired (K : PySem.W.Frag) : Sp := fun vs H Q _ => ∃ (p : Addr) (rw : List Int), vs = [.ref p] ∧ H p = some (.lst (rw.map V.int)) ∧ Q (.bl (pairedFit rw)) H
theorem ok_is_paired {f : Addr} {fd : FuncData} (T : Txt K mg) (F : FnP K "is_paired" "is_paired" s_is_paired f fd) (hm : mg "is_paired" = some (.ref f))  :
    C8.Cal P w K mg base 1 "is_paired" (sp_is_paired K) [] := by
  refine calMk F hm (F.bindsN (ps := ["row"]) fun _ _ _ _ _ _ us hl => match us, hl with | [_], _ => rfl) sc_is_paired (fun vs H Q E h => by first | (obtain ⟨rfl, _⟩ := h; rfl) | (obtain ⟨_, rfl, _⟩ := h; rfl) | (obtain ⟨_, _, rfl, _⟩ := h; rfl) | (obtain ⟨_, _, _, rfl, _⟩ := h; rfl) | (obtain ⟨_, _, _, _, rfl, _⟩ := h; rfl) | (obtain ⟨_, _, _, _, _, rfl, _⟩ := h; rfl) | (obtain ⟨_, _, _, _, _, _, rfl, _⟩ := h; rfl)) (fun cdv A outer s H vs Q E hr h => ?_)
  obtain ⟨p, rw, rfl, e, q⟩ := h
  refine ⟨_, (pss_one (ps_ret (pe_and (pe_cmpR op_le (pe_callB call_len_seq (by rfl) T.n_len PySem.boot_len (pa_cons (pv 0) pa_nil)) (C8.pe_gc (by rfl) T.g_LONGEST_PAIRS) (nomark _)) (pe_one (pe_cmpR op_eq (pe_op op_mod (pe_callB call_len_seq (by rfl) T.n_len PySem.boot_len (pa_cons (pv 0) pa_nil)) pe_int) pe_int (nomark _)))))), ?_⟩
  refine ⟨_, rfl, p, _, rfl, .inl (SqL.of e), _, _, rfl, rfl, _, rfl, ?_⟩
  rw [List.length_map]
  unfold pairedFit at q
  refine andC (R := fun b => Q (.bl b) H) q fun q => ?_
  refine ⟨_, rfl, p, _, rfl, .inl (SqL.of e), _, _, rfl, rfl, by show (0 : Int) < 2; decide, rfl, ?_⟩
  rw [List.length_map, dec_int]
  have e2 : ((((rw.length : Nat) : Int) % 2 == 0) : Bool) = decide (rw.length % 2 = 0) := by
    rw [Bool.eq_iff_iff, beq_iff_eq, decide_eq_true_eq]
    omega
  rw [e2]
  exact q
def sp_pairs (K : PySem.W.Frag) : Sp := fun vs H Q _ => ∃ (p : Addr) (rw : List Int), vs = [.ref p] ∧ H p = some (.lst (rw.map V.int)) ∧ rw.length ≤ 40 ∧ rw.length % 2 = 0 ∧ ∀ H' p', Same H H' → H p' = none → PairsAt H' p' (pairsI rw) → Q (.ref p') H'
theorem ok_pairs {f : Addr} {fd : FuncData} (T : Txt K mg) (F : FnP K "pairs" "pairs" s_pairs f fd) (hm : mg "pairs" = some (.ref f))  :
    C8.Cal P w K mg base 1 "pairs" (sp_pairs K) [] := by
  refine calMk F hm (F.bindsN (ps := ["row"]) fun _ _ _ _ _ _ us hl => match us, hl with | [_], _ => rfl) sc_pairs (fun vs H Q E h => by first | (obtain ⟨rfl, _⟩ := h; rfl) | (obtain ⟨_, rfl, _⟩ := h; rfl) | (obtain ⟨_, _, rfl, _⟩ := h; rfl) | (obtain ⟨_, _, _, rfl, _⟩ := h; rfl) | (obtain ⟨_, _, _, _, rfl, _⟩ := h; rfl) | (obtain ⟨_, _, _, _, _, rfl, _⟩ := h; rfl) | (obtain ⟨_, _, _, _, _, _, rfl, _⟩ := h; rfl)) (fun cdv A outer s H vs Q E hr h => ?_)
  obtain ⟨p, rw, rfl, e, hl, hev, q⟩ := h
  refine ⟨_, (pss_one (ps_ret (pe_lc (own := [("place", 1)]) (g := (gName 1)) (by rfl) sc_pairs.nd (pi_range3 (by rfl) T.n_range (pa_cons pe_int (pa_cons (pe_callB call_len_seq (by rfl) T.n_len PySem.boot_len (pa_cons (pv 0) pa_nil)) (pa_cons pe_int pa_nil)))) (blkOk_by (own := [("place", 1)]) (N := ["row", "place"]) (sc := defScope s_pairs) (by decide +kernel)) (fun _ _ _ _ _ => pg_name (i := 1) sc_pairs.nd rfl (Or.inl rfl)) (fun _ _ _ _ _ => pts_nil) (fun _ _ _ _ _ => (pe_tup (pa_cons (pe_ix (r := rIxL K) ix_list (pv 0) (pv 1) (fun _ _ => rfl)) (pa_cons (pe_ix (r := rIxL K) ix_list (pv 0) (pe_op op_add (pv 1) pe_int) (fun _ _ => rfl)) pa_nil))))))), ?_⟩
  have hR : RgC 0 ((rw.length : Nat) : Int) 2 (rw.length / 2) := by
    have : ∀ k : Fin 41, Builtin.Range.small 0 ((k.val : Nat) : Int) 2 = true ∧ (k.val % 2 = 0 → Builtin.Range.rangeSize 0 ((k.val : Nat) : Int) 2 = ((k.val / 2 : Nat) : Int)) := by decide +kernel
    have := this ⟨rw.length, by omega⟩
    exact ⟨by decide, by decide, this.1, this.2 hev⟩
  refine ⟨_, rfl, p, _, rfl, .inl (SqL.of e), ?_⟩
  refine ⟨_, _, _, rw.length / 2, rfl, ?_, fun D hD => ?_⟩
  · rw [List.length_map]
    exact hR
  have hpl : (pairsI rw).length = rw.length / 2 := pairsI_len _ _ rfl
  refine lc_it walk_rangeC (fun i H2 => Same H H2 ∧ ∃ ts : List Addr, H2 D = some (.lst (ts.map V.ref)) ∧ Paired (PairAt H2) ts ((pairsI rw).take i)) ⟨sameUpd hD, [], upd_same, .nil⟩ (fun _ _ _ _ => trivial) ?_ ?_
  · rintro i x H2 H3 hi ⟨s1, ts, eD, hts⟩ ⟨rfl, hx⟩
    obtain ⟨a, b, h1, h2, h3⟩ := pairsI_get i rw (by omega)
    have ex : x = .int ((2 * i : Nat) : Int) := hx.trans (congrArg V.int (show (0 : Int) + (i : Int) * 2 = ((2 * i : Nat) : Int) by omega))
    subst ex
    have e2 := s1 _ _ e
    have g1 : (rw.map V.int)[2 * i]? = some (.int a) := by rw [List.getElem?_map, h1]; rfl
    have g2 : (rw.map V.int)[2 * i + 1]? = some (.int b) := by rw [List.getElem?_map, h2]; rfl
    refine ⟨rfl, yesI ?_⟩
    refine ⟨_, rfl, _, rfl, p, _, _, _, rfl, rfl, SqL.of e2, atI_nat g1, _, rfl, _, rfl, _, _, rfl, rfl, p, _, _, .int b, rfl, rfl, SqL.of e2, ?_, by show 2 ≤ sizeLine; decide, fun t ht => ?_⟩
    · show atI _ (((2 * i : Nat) : Int) + 1) = _
      rw [show ((2 * i : Nat) : Int) + 1 = ((2 * i + 1 : Nat) : Int) by omega]
      exact atI_nat g2
    have st : Same H3 (upd H3 t (.tup [V.int a, V.int b])) := sameUpd ht
    have nt : D ≠ t := ne_of_none eD ht
    have lts : ts.length ≤ 40 := by
      rw [pairedLen hts]
      exact Nat.le_trans (List.length_take_le' ..) (by omega)
    refine ⟨_, st _ _ eD, lenI (by rw [List.length_map]; omega), fun b' o q => ?_, ts ++ [t], ?_, ?_⟩
    · have nb : b' ≠ D := ne_of_none q hD
      rw [upd_ne nb]
      exact st _ _ (s1 _ _ q)
    · rw [upd_same, List.map_append]
      rfl
    · rw [takeS h3]
      refine pairedSnoc ?_ (pairedImp (fun t' x q => ?_) hts)
      · show upd _ _ _ _ = _
        rw [upd_ne (Ne.symm nt), upd_same]
      · have : t' ≠ D := ne_tup q eD
        show upd _ _ _ _ = _
        rw [upd_ne this]
        exact st _ _ q
  · rintro H2 ⟨s1, ts, eD, hts⟩
    rw [List.take_of_length_le (by omega)] at hts
    exact q H2 D s1 hD ⟨ts, eD, hts⟩
def sp_fits_text (K : PySem.W.Frag) : Sp := fun vs H Q _ => ∃ (p : Addr) (rw : List Int), vs = [.ref p] ∧ H p = some (.lst (rw.map V.int)) ∧ rw.length ≤ 100000 ∧ ∀ H', Same H H' → Q (.bl (textFit rw)) H'
theorem ok_fits_text {f : Addr} {fd : FuncData} (T : Txt K mg) (F : FnP K "fits_text" "fits_text" s_fits_text f fd) (hm : mg "fits_text" = some (.ref f))  :
    C8.Cal P w K mg base 1 "fits_text" (sp_fits_text K) [] := by
  refine calMk F hm (F.bindsN (ps := ["row"]) fun _ _ _ _ _ _ us hl => match us, hl with | [_], _ => rfl) sc_fits_text (fun vs H Q E h => by first | (obtain ⟨rfl, _⟩ := h; rfl) | (obtain ⟨_, rfl, _⟩ := h; rfl) | (obtain ⟨_, _, rfl, _⟩ := h; rfl) | (obtain ⟨_, _, _, rfl, _⟩ := h; rfl) | (obtain ⟨_, _, _, _, rfl, _⟩ := h; rfl) | (obtain ⟨_, _, _, _, _, rfl, _⟩ := h; rfl) | (obtain ⟨_, _, _, _, _, _, rfl, _⟩ := h; rfl)) (fun cdv A outer s H vs Q E hr h => ?_)
  obtain ⟨p, rw, rfl, e, hl, q⟩ := h
  refine ⟨_, (pss_one (ps_ret (pe_and (pe_cmpR op_le (pe_callB call_len_seq (by rfl) T.n_len PySem.boot_len (pa_cons (pv 0) pa_nil)) (C8.pe_gc (by rfl) T.g_LONGEST_TEXT) (nomark _)) (pe_one (pe_callB (cr_all (by rfl)) (by rfl) T.n_all (by decide +kernel) (pa_cons (pe_lc (own := [("code", 1)]) (g := (gName 1)) (by rfl) sc_fits_text.nd (pi_list (pv 0)) (blkOk_by (own := [("code", 1)]) (N := ["row", "code"]) (sc := defScope s_fits_text) (by decide +kernel)) (fun _ _ _ _ _ => pg_name (i := 1) sc_fits_text.nd rfl (Or.inl rfl)) (fun _ _ _ _ _ => pts_nil) (fun _ _ _ _ _ => (pe_chain op_le op_le pe_int (pv 1) pe_int))) pa_nil)))))), ?_⟩
  refine ⟨_, rfl, p, _, rfl, .inl (SqL.of e), _, _, rfl, rfl, _, rfl, ?_⟩
  rw [List.length_map]
  refine andB q fun q => ?_
  refine ⟨_, rfl, p, rfl, ⟨_, SqL.of e⟩, fun D hD => ?_⟩
  refine lcM walk_list rw (fun c => V.bl (decide (0 ≤ c) && decide (c ≤ 255))) (by rw [List.length_map]) (by rw [List.length_map]; exact hl) hD (fun H1 s1 => SqL.of (s1 _ _ e)) (fun i x v H1 H2 hx s1 hy N y1 => ?_) (fun H1 s1 e1 => ?_) (gNameMono _)
  · obtain ⟨rfl, hv⟩ := hy
    rw [List.getElem?_map, hx] at hv
    obtain rfl : V.int x = v := Option.some.inj hv
    refine ⟨rfl, _, rfl, _, _, rfl, rfl, _, rfl, ?_⟩
    refine andC (R := fun b => N (.bl b) _) (y1 _ (Same.refl _)) fun q2 => ?_
    exact ⟨_, _, rfl, rfl, q2⟩
  · refine ⟨D, rw.map fun c => decide (0 ≤ c) && decide (c ≤ 255), rfl, ?_, ?_⟩
    · rw [List.map_map]
      exact SqL.of e1
    · have q2 := q H1 s1
      rw [List.all_map]
      exact q2
def sp_fits_packing (K : PySem.W.Frag) : Sp := fun vs H Q _ => ∃ (p : Addr) (rw : List Int), vs = [.ref p] ∧ H p = some (.lst (rw.map V.int)) ∧ rw.length ≤ 100000 ∧ ∀ H', Same H H' → Q (.bl (packFit rw)) H'
theorem ok_fits_packing {f : Addr} {fd : FuncData} (T : Txt K mg) (F : FnP K "fits_packing" "fits_packing" s_fits_packing f fd) (hm : mg "fits_packing" = some (.ref f)) (c_is_paired : C8.Cal P w K mg base 1 "is_paired" (sp_is_paired K) []) :
    C8.Cal P w K mg base 2 "fits_packing" (sp_fits_packing K) [] := by
  refine calMk F hm (F.bindsN (ps := ["row"]) fun _ _ _ _ _ _ us hl => match us, hl with | [_], _ => rfl) sc_fits_packing (fun vs H Q E h => by first | (obtain ⟨rfl, _⟩ := h; rfl) | (obtain ⟨_, rfl, _⟩ := h; rfl) | (obtain ⟨_, _, rfl, _⟩ := h; rfl) | (obtain ⟨_, _, _, rfl, _⟩ := h; rfl) | (obtain ⟨_, _, _, _, rfl, _⟩ := h; rfl) | (obtain ⟨_, _, _, _, _, rfl, _⟩ := h; rfl) | (obtain ⟨_, _, _, _, _, _, rfl, _⟩ := h; rfl)) (fun cdv A outer s H vs Q E hr h => ?_)
  obtain ⟨p, rw, rfl, e, hl, q⟩ := h
  refine ⟨_, (pss_one (ps_ret (pe_and (C8.pe_c c_is_paired hr (by decide) (by rfl) (pa_cons (pv 0) pa_nil)) (pe_one (pe_callB (cr_all (by rfl)) (by rfl) T.n_all (by decide +kernel) (pa_cons (pe_lc (own := [("number", 1)]) (g := (gName 1)) (by rfl) sc_fits_packing.nd (pi_list (pv 0)) (blkOk_by (own := [("number", 1)]) (N := ["row", "number"]) (sc := defScope s_fits_packing) (by decide +kernel)) (fun _ _ _ _ _ => pg_name (i := 1) sc_fits_packing.nd rfl (Or.inl rfl)) (fun _ _ _ _ _ => pts_nil) (fun _ _ _ _ _ => (pe_chain op_le op_le pe_int (pv 1) (C8.pe_gc (by rfl) T.g_HIGHEST_PACKED)))) pa_nil)))))), ?_⟩
  refine ⟨_, rfl, p, rw, rfl, e, _, rfl, ?_⟩
  refine andB q fun q => ?_
  refine ⟨_, rfl, p, rfl, ⟨_, SqL.of e⟩, fun D hD => ?_⟩
  refine lcM walk_list rw (fun c => V.bl (decide (0 ≤ c) && decide (c ≤ 1000000))) (by rw [List.length_map]) (by rw [List.length_map]; exact hl) hD (fun H1 s1 => SqL.of (s1 _ _ e)) (fun i x v H1 H2 hx s1 hy N y1 => ?_) (fun H1 s1 e1 => ?_) (gNameMono _)
  · obtain ⟨rfl, hv⟩ := hy
    rw [List.getElem?_map, hx] at hv
    obtain rfl : V.int x = v := Option.some.inj hv
    refine ⟨rfl, _, rfl, _, _, rfl, rfl, _, rfl, ?_⟩
    refine andC (R := fun b => N (.bl b) _) (y1 _ (Same.refl _)) fun q2 => ?_
    exact ⟨_, _, rfl, rfl, q2⟩
  · refine ⟨D, rw.map fun c => decide (0 ≤ c) && decide (c ≤ 1000000), rfl, ?_, ?_⟩
    · rw [List.map_map]
      exact SqL.of e1
    · have q2 := q H1 s1
      rw [List.all_map]
      exact q2
def sp_fits_steps (K : PySem.W.Frag) : Sp := fun vs H Q _ => ∃ (p : Addr) (rw : List Int), vs = [.ref p] ∧ H p = some (.lst (rw.map V.int)) ∧ ∀ H', Same H H' → Q (.bl (stepsFit rw)) H'
theorem ok_fits_steps {f : Addr} {fd : FuncData} (T : Txt K mg) (F : FnP K "fits_steps" "fits_steps" s_fits_steps f fd) (hm : mg "fits_steps" = some (.ref f)) (c_is_paired : C8.Cal P w K mg base 1 "is_paired" (sp_is_paired K) []) (c_pairs : C8.Cal P w K mg base 1 "pairs" (sp_pairs K) []) :
    C8.Cal P w K mg base 2 "fits_steps" (sp_fits_steps K) [] := by
  refine calMk F hm (F.bindsN (ps := ["row"]) fun _ _ _ _ _ _ us hl => match us, hl with | [_], _ => rfl) sc_fits_steps (fun vs H Q E h => by first | (obtain ⟨rfl, _⟩ := h; rfl) | (obtain ⟨_, rfl, _⟩ := h; rfl) | (obtain ⟨_, _, rfl, _⟩ := h; rfl) | (obtain ⟨_, _, _, rfl, _⟩ := h; rfl) | (obtain ⟨_, _, _, _, rfl, _⟩ := h; rfl) | (obtain ⟨_, _, _, _, _, rfl, _⟩ := h; rfl) | (obtain ⟨_, _, _, _, _, _, rfl, _⟩ := h; rfl)) (fun cdv A outer s H vs Q E hr h => ?_)
  obtain ⟨p, rw, rfl, e, q⟩ := h
  refine ⟨_, (pss_one (ps_ret (pe_and (C8.pe_c c_is_paired hr (by decide) (by rfl) (pa_cons (pv 0) pa_nil)) (pe_one (pe_callB (cr_all (by rfl)) (by rfl) T.n_all (by decide +kernel) (pa_cons (pe_lc (own := [("step", 1)]) (g := (gName 1)) (by rfl) sc_fits_steps.nd (pi_list (C8.pe_c c_pairs hr (by decide) (by rfl) (pa_cons (pv 0) pa_nil))) (blkOk_by (own := [("step", 1)]) (N := ["row", "step"]) (sc := defScope s_fits_steps) (by decide +kernel)) (fun _ _ _ _ _ => pg_name (i := 1) sc_fits_steps.nd rfl (Or.inl rfl)) (fun _ _ _ _ _ => pts_nil) (fun _ _ _ _ _ => (pe_and (pe_chain op_le op_le pe_int (pe_ix (r := rIxT K) ix_tup (pv 1) pe_int (fun _ _ => rfl)) pe_int) (pe_one (pe_chain op_le op_le pe_int (pe_ix (r := rIxT K) ix_tup (pv 1) pe_int (fun _ _ => rfl)) pe_int))))) pa_nil)))))), ?_⟩
  refine ⟨_, rfl, p, rw, rfl, e, _, rfl, ?_⟩
  unfold stepsFit at q
  cases hp : pairedFit rw with
  | false =>
    rw [hp] at q
    exact iteF (q _ (Same.refl _))
  | true =>
    rw [hp] at q
    refine iteT ?_
    unfold pairedFit at hp
    rw [Bool.and_eq_true, decide_eq_true_eq, decide_eq_true_eq] at hp
    have h40 : rw.length ≤ 40 := by omega
    refine ⟨_, rfl, p, rw, rfl, e, h40, hp.2, fun H1 p1 s1 hp1 hP => ?_⟩
    obtain ⟨ts, e1, hts⟩ := hP
    have hlt : ts.length = rw.length / 2 := (pairedLen hts).trans (pairsI_len _ _ rfl)
    refine ⟨p1, rfl, ⟨_, SqL.of e1⟩, fun D hD => ?_⟩
    refine lcM walk_list (pairsI rw) (fun q => V.bl ((decide (0 ≤ q.1) && decide (q.1 ≤ 7)) && (decide (1 ≤ q.2) && decide (q.2 ≤ 20)))) (by rw [List.length_map, pairedLen hts]) (by rw [List.length_map]; omega) hD (fun H2 s2 => SqL.of (s2 _ _ e1)) (fun i x v H2 H3 hx s2 hy N y1 => ?_) (fun H2 s2 e2 => ?_) (gNameMono _)
    · obtain ⟨rfl, hv⟩ := hy
      rw [List.getElem?_map] at hv
      obtain ⟨t, ht, rfl⟩ := Option.map_eq_some_iff.mp hv
      obtain ⟨y, hy, hP⟩ := pairedGetL hts ht
      rw [hx] at hy
      obtain rfl : x = y := Option.some.inj hy
      have e3 := s2 _ _ hP
      refine ⟨rfl, _, rfl, t, _, 0, _, rfl, rfl, SqT.of e3, atI_nat (j := 0) rfl, _, _, rfl, rfl, _, rfl, ?_⟩
      have y2 := y1 _ (Same.refl _)
      cases c1 : decide (0 ≤ x.1) with
      | false =>
        rw [c1] at y2
        exact iteF ⟨_, rfl, iteF y2⟩
      | true =>
        rw [c1] at y2
        refine iteT ⟨_, _, rfl, rfl, _, rfl, ?_⟩
        cases c2 : decide (x.1 ≤ 7) with
        | false =>
          rw [c2] at y2
          exact iteF y2
        | true =>
          rw [c2] at y2
          refine iteT ⟨_, rfl, t, _, 1, _, rfl, rfl, SqT.of e3, atI_nat (j := 1) rfl, _, _, rfl, rfl, _, rfl, ?_⟩
          refine andC (R := fun b => N (.bl b) _) y2 fun q2 => ?_
          exact ⟨_, _, rfl, rfl, q2⟩
    · refine ⟨D, (pairsI rw).map fun q => (decide (0 ≤ q.1) && decide (q.1 ≤ 7)) && (decide (1 ≤ q.2) && decide (q.2 ≤ 20)), rfl, ?_, ?_⟩
      · rw [List.map_map]
        exact SqL.of e2
      · have q2 := q H2 (s1.trans s2)
        rw [List.all_map]
        exact q2
end
end SI

set_option maxHeartbeats 4000000
namespace SI
open PySem PySem.Spec PyProof.Rows L2
theorem NR_len : NR.length = 20 := rfl
theorem zipGet {α β : Type} {l : List α} {m : List β} {i : Nat} {a : α} {b : β} (h1 : l[i]? = some a) (h2 : m[i]? = some b) : (l.zip m)[i]? = some (a, b) := by
  rw [List.getElem?_zip_eq_some]
  exact ⟨h1, h2⟩
theorem numsFit_false {ns : List Int} {l : List (Int × Int)} {i : Nat} {a : Int} {b : Int × Int} (h1 : ns[i]? = some a) (h2 : l[i]? = some b) (h : (decide (b.1 ≤ a) && decide (a ≤ b.2)) = false) : numsFit ns l = false := by
  unfold numsFit
  rw [List.all_eq_false]
  exact ⟨(a, b), List.mem_of_getElem? (zipGet h1 h2), by rw [h]; decide⟩
section
variable {P : Program} {w : World} {K : PySem.W.Frag} {mg : Str → Option Value} {base : Heap}
def sp_numbers_fit (K : PySem.W.Frag) : Sp := fun vs H Q _ => ∃ (a : Addr) (m : Nat) (ns rw : List Int), vs = [.ref a] ∧ CallAt K H a (m : Nat) ns rw ∧ m < 20 ∧ ns.length = (NR.getD m []).length ∧ ∀ H', Same H H' → Q (.bl (numFit m ns)) H'
theorem ok_numbers_fit {f : Addr} {fd : FuncData} (T : Txt K mg) (F : FnP K "numbers_fit" "numbers_fit" s_numbers_fit f fd) (hm : mg "numbers_fit" = some (.ref f))  :
    C8.Cal P w K mg base 1 "numbers_fit" (sp_numbers_fit K) [] := by
  refine calMk F hm (F.bindsN (ps := ["call"]) fun _ _ _ _ _ _ us hl => match us, hl with | [_], _ => rfl) sc_numbers_fit (fun vs H Q E h => by first | (obtain ⟨rfl, _⟩ := h; rfl) | (obtain ⟨_, rfl, _⟩ := h; rfl) | (obtain ⟨_, _, rfl, _⟩ := h; rfl) | (obtain ⟨_, _, _, rfl, _⟩ := h; rfl) | (obtain ⟨_, _, _, _, rfl, _⟩ := h; rfl) | (obtain ⟨_, _, _, _, _, rfl, _⟩ := h; rfl) | (obtain ⟨_, _, _, _, _, _, rfl, _⟩ := h; rfl)) (fun cdv A outer s H vs Q E hr h => ?_)
  obtain ⟨a, m, ns, rw, rfl, hc, hm20, hns, q⟩ := h
  obtain ⟨dx, na, ra, e, e2, e3⟩ := id hc
  refine ⟨_, (pss_cons (ps_for PassesOwn.never (by rfl) (pi_enumT (by rfl) T.n_enumerate (pa_cons (pe_ix ix_tup (C8.pe_gc (by rfl) T.g_NUMBER_RANGES) (pe_fld (pv 0) rfl) (fun _ _ => rfl)) pa_nil)) (pg_tup (by rfl) (pgs_cons (pg_name (i := 1) sc_numbers_fit.nd rfl (Or.inl rfl)) (pgs_cons (pg_name (i := 2) sc_numbers_fit.nd rfl (Or.inl rfl)) pgs_nil))) (pss_one (ps_if (PW.pt (pw_or (pt_cmpR op_lt (pe_ix ix_list (pe_fld (pv 0) rfl) (pv 1) (fun _ _ => rfl)) (pe_ix ix_tup (pv 2) pe_int (fun _ _ => rfl)) (nomark _)) (pw_or1 (pt_cmpR op_gt (pe_ix ix_list (pe_fld (pv 0) rfl) (pv 1) (fun _ _ => rfl)) (pe_ix ix_tup (pv 2) pe_int (fun _ _ => rfl)) (nomark _))))) (pss_one (ps_ret pe_bl)) pss_nil))) (pss_one (ps_ret (pe_or (pe_cmpR op_notIn_seq (pe_fld (pv 0) rfl) (C8.pe_gc (by rfl) T.g_CHANCE_CALLS) (by rfl)) (pe_one (pe_cmpR op_le (pe_ix ix_list (pe_fld (pv 0) rfl) pe_int (fun _ _ => rfl)) (pe_ix ix_list (pe_fld (pv 0) rfl) pe_int (fun _ _ => rfl)) (nomark _))))))), ?_⟩
  obtain ⟨tv, hT, hTp⟩ := T.t_NUMBER_RANGES
  have hNR : NR[m]? = some (NR.getD m []) := by
    rw [List.getD_eq_getElem?_getD, List.getElem?_eq_getElem (by rw [NR_len]; exact hm20)]
    rfl
  generalize hl : NR.getD m [] = lims at hns hNR
  obtain ⟨v, hv, ra2, ls, rfl, hls, hlp⟩ := pairedGet hTp hNR
  refine ⟨_, rfl, a, _, dx, _, _, rfl, e, T.c_Call, T.a_number, lCall1, _, _, _, .ref ra2, rfl, rfl, hT _, atI_nat hv, ra2, ls, rfl, hls _, ?_⟩
  have hll := pairedLen hlp
  refine for_it walkEn (fun i σ H1 => ∃ y1 y2 : Option V, σ = [some (.ref a), y1, y2] ∧ Same H H1 ∧ ∀ j x b, j < i → ns[j]? = some x → lims[j]? = some b → (decide (b.1 ≤ x) && decide (x ≤ b.2)) = true) ⟨none, none, rfl, Same.refl _, fun j _ _ h => absurd h (Nat.not_lt_zero _)⟩ (fun i σ H1 _ _ => hls H1) ?_ ?_
  · rintro i x σ H1 H2 hi ⟨y1, y2, rfl, s1, hall⟩ ⟨Tt, n, lv, rfl, hTt, rfl, hn, hlv⟩
    obtain rfl : V.int (0 + (i : Nat)) = n := Option.some.inj hn
    rw [Int.zero_add]
    obtain ⟨lim, hlim, pa, rfl, hpa⟩ := pairedGetL hlp hlv
    have sT : Same H1 (upd H1 Tt (.tup [V.int (i : Nat), V.ref pa])) := sameUpd hTt
    have s2 := s1.trans sT
    have hin : i < ns.length := by omega
    have hx : ns[i]? = some ns[i] := List.getElem?_eq_getElem hin
    have hxv : (ns.map V.int)[i]? = some (.int ns[i]) := by rw [List.getElem?_map, hx]; rfl
    refine ⟨Tt, _, rfl, SqT.of upd_same, rfl, _, _, rfl, _, _, rfl, rfl, ?_⟩
    refine ⟨_, rfl, a, _, dx, _, _, rfl, s2 _ _ e, T.c_Call, T.a_numbers, lCall2, _, rfl, na, _, _, _, rfl, rfl, SqL.of (s2 _ _ e2), atI_nat hxv, ?_⟩
    refine ⟨_, rfl, pa, _, 0, _, rfl, rfl, hpa _, atI_nat (j := 0) rfl, _, _, rfl, rfl, _, rfl, ?_⟩
    have ff : (decide (lim.1 ≤ ns[i]) && decide (ns[i] ≤ lim.2)) = false → ∀ H', Same H H' → Q (.bl false) H' := fun h H' s' => by
      have q2 := q H' s'
      unfold numFit at q2
      rw [hl, numsFit_false hx hlim h] at q2
      exact q2
    by_cases c1 : ns[i] < lim.1
    · rw [decide_eq_true c1]
      refine iteT (ff ?_ _ s2)
      rw [decide_eq_false (by omega)]
      rfl
    · rw [decide_eq_false c1]
      refine iteF ?_
      refine ⟨_, rfl, a, _, dx, _, _, rfl, s2 _ _ e, T.c_Call, T.a_numbers, lCall2, _, rfl, na, _, _, _, rfl, rfl, SqL.of (s2 _ _ e2), atI_nat hxv, ?_⟩
      refine ⟨_, rfl, pa, _, 1, _, rfl, rfl, hpa _, atI_nat (j := 1) rfl, _, _, rfl, rfl, _, rfl, ?_⟩
      by_cases c2 : lim.2 < ns[i]
      · rw [decide_eq_true c2]
        refine iteT (ff ?_ _ s2)
        rw [decide_eq_false (p := ns[i] ≤ lim.2) (by omega), Bool.and_false]
      · rw [decide_eq_false c2]
        refine iteF ⟨_, _, rfl, s2, fun j x b hj hx' hb' => ?_⟩
        by_cases ej : j < i
        · exact hall j x b ej hx' hb'
        · obtain rfl : j = i := by omega
          rw [hx] at hx'
          rw [hlim] at hb'
          cases hx'
          cases hb'
          rw [decide_eq_true (by omega), decide_eq_true (by omega)]
          rfl
  · rintro σ H1 ⟨y1, y2, rfl, s1, hall⟩
    have hfit : numsFit ns lims = true := by
      unfold numsFit
      rw [List.all_eq_true]
      rintro ⟨x, b⟩ hxb
      obtain ⟨j, hj⟩ := List.mem_iff_getElem?.mp hxb
      rw [List.getElem?_zip_eq_some] at hj
      refine hall j x b ?_ hj.1 hj.2
      have := (List.getElem?_eq_some_iff.mp hj.2).1
      omega
    have q1 : ∀ H', Same H1 H' → Q (.bl (!isIn [15] m || decide (ns.getD 0 0 ≤ ns.getD 1 0))) H' := fun H' s' => by
      have q2 := q H' (s1.trans s')
      unfold numFit at q2
      rw [hl, hfit, Bool.true_and] at q2
      exact q2
    refine ⟨_, rfl, a, _, dx, _, _, rfl, s1 _ _ e, T.c_Call, T.a_number, lCall1, _, _, rfl, .inr (T.t_CHANCE_CALLS _), rfl, flatI _, _, rfl, ?_⟩
    show if (!inV (V.int (m : Int)) _) = true then _ else _
    rw [inI]
    cases h15 : isIn [15] m with
    | false =>
      rw [h15] at q1
      exact iteT (q1 _ (Same.refl _))
    | true =>
      rw [h15] at q1
      have em : m = 15 := by
        have : isIn [15] (m : Int) = ((15 : Int) == (m : Int)) := by show ((15 : Int) == (m : Int) || false) = _; rw [Bool.or_false]
        rw [this, beq_iff_eq] at h15
        omega
      subst em
      have h2 : ns.length = 2 := by rw [hns, ← hl]; rfl
      obtain ⟨x, y, rfl⟩ : ∃ x y, ns = [x, y] := by
        match ns, h2 with
        | [x, y], _ => exact ⟨x, y, rfl⟩
      refine iteF ?_
      refine ⟨_, rfl, a, _, dx, _, _, rfl, s1 _ _ e, T.c_Call, T.a_numbers, lCall2, na, _, 0, _, rfl, rfl, SqL.of (s1 _ _ e2), atI_nat (j := 0) rfl, ?_⟩
      refine ⟨_, rfl, a, _, dx, _, _, rfl, s1 _ _ e, T.c_Call, T.a_numbers, lCall2, na, _, 1, _, rfl, rfl, SqL.of (s1 _ _ e2), atI_nat (j := 1) rfl, ?_⟩
      exact ⟨_, _, rfl, rfl, q1 _ (Same.refl _)⟩
def sp_row_fits (K : PySem.W.Frag) : Sp := fun vs H Q _ => ∃ (a : Addr) (n : Int) (ns rw : List Int), vs = [.ref a] ∧ CallAt K H a n ns rw ∧ rw.length ≤ 100000 ∧ ∀ H', Same H H' → Q (.bl (rowFit n rw)) H'
theorem ok_row_fits {f : Addr} {fd : FuncData} (T : Txt K mg) (F : FnP K "row_fits" "row_fits" s_row_fits f fd) (hm : mg "row_fits" = some (.ref f)) (c_fits_text : C8.Cal P w K mg base 1 "fits_text" (sp_fits_text K) []) (c_fits_steps : C8.Cal P w K mg base 2 "fits_steps" (sp_fits_steps K) []) (c_fits_packing : C8.Cal P w K mg base 2 "fits_packing" (sp_fits_packing K) []) (c_takes_packing : C8.Cal P w K mg base 1 "takes_packing" (sp_takes_packing K) []) :
    C8.Cal P w K mg base 3 "row_fits" (sp_row_fits K) [] := by
  refine calMk F hm (F.bindsN (ps := ["call"]) fun _ _ _ _ _ _ us hl => match us, hl with | [_], _ => rfl) sc_row_fits (fun vs H Q E h => by first | (obtain ⟨rfl, _⟩ := h; rfl) | (obtain ⟨_, rfl, _⟩ := h; rfl) | (obtain ⟨_, _, rfl, _⟩ := h; rfl) | (obtain ⟨_, _, _, rfl, _⟩ := h; rfl) | (obtain ⟨_, _, _, _, rfl, _⟩ := h; rfl) | (obtain ⟨_, _, _, _, _, rfl, _⟩ := h; rfl) | (obtain ⟨_, _, _, _, _, _, rfl, _⟩ := h; rfl)) (fun cdv A outer s H vs Q E hr h => ?_)
  obtain ⟨a, n, ns, rw, rfl, hc, hrl, q⟩ := h
  obtain ⟨dx, na, ra, e, e2, e3⟩ := id hc
  refine ⟨_, (pss_cons (ps_if (pt_cmpR op_in_seq (pe_fld (pv 0) rfl) (C8.pe_gc (by rfl) T.g_TEXT_CALLS) (by rfl)) (pss_one (ps_ret (C8.pe_c c_fits_text hr (by decide) (by rfl) (pa_cons (pe_fld (pv 0) rfl) pa_nil)))) pss_nil) (pss_cons (ps_if (pt_cmpR op_in_seq (pe_fld (pv 0) rfl) (C8.pe_gc (by rfl) T.g_STEPS_CALLS) (by rfl)) (pss_one (ps_ret (C8.pe_c c_fits_steps hr (by decide) (by rfl) (pa_cons (pe_fld (pv 0) rfl) pa_nil)))) pss_nil) (pss_one (ps_ret (pe_or (pe_not (C8.pe_c c_takes_packing hr (by decide) (by rfl) (pa_cons (pv 0) pa_nil))) (pe_one (C8.pe_c c_fits_packing hr (by decide) (by rfl) (pa_cons (pe_fld (pv 0) rfl) pa_nil)))))))), ?_⟩
  unfold rowFit at q
  refine ⟨_, rfl, a, _, dx, _, _, rfl, e, T.c_Call, T.a_number, lCall1, _, _, rfl, .inr (T.t_TEXT_CALLS _), rfl, flatI _, _, rfl, ?_⟩
  show if inV (V.int n) _ = true then _ else _
  rw [inI]
  cases h1 : isIn [0, 1] n with
  | true =>
    rw [h1] at q
    refine iteT ?_
    exact ⟨_, rfl, a, _, dx, _, _, rfl, e, T.c_Call, T.a_row, lCall3, ra, rw, rfl, e3, hrl, q⟩
  | false =>
    rw [h1] at q
    refine iteF ?_
    refine ⟨_, rfl, a, _, dx, _, _, rfl, e, T.c_Call, T.a_number, lCall1, _, _, rfl, .inr (T.t_STEPS_CALLS _), rfl, flatI _, _, rfl, ?_⟩
    show if inV (V.int n) _ = true then _ else _
    rw [inI]
    cases h2 : isIn [4] n with
    | true =>
      rw [h2] at q
      refine iteT ?_
      exact ⟨_, rfl, a, _, dx, _, _, rfl, e, T.c_Call, T.a_row, lCall3, ra, rw, rfl, e3, q⟩
    | false =>
      rw [h2] at q
      refine iteF ?_
      refine ⟨_, rfl, a, n, ns, rw, rfl, hc, _, rfl, _, rfl, ?_⟩
      refine orB q fun q => ?_
      exact ⟨_, rfl, a, _, dx, _, _, rfl, e, T.c_Call, T.a_row, lCall3, ra, rw, rfl, e3, hrl, q⟩
def sp_arguments_fit (K : PySem.W.Frag) : Sp := fun vs H Q _ => ∃ (a : Addr) (m : Nat) (ns rw : List Int), vs = [.ref a] ∧ CallAt K H a (m : Nat) ns rw ∧ m < 20 ∧ ns.length = (NR.getD m []).length ∧ rw.length ≤ 100000 ∧ ∀ H', Same H H' → Q (.bl (numFit m ns && rowFit m rw)) H'
theorem ok_arguments_fit {f : Addr} {fd : FuncData} (T : Txt K mg) (F : FnP K "arguments_fit" "arguments_fit" s_arguments_fit f fd) (hm : mg "arguments_fit" = some (.ref f)) (c_numbers_fit : C8.Cal P w K mg base 1 "numbers_fit" (sp_numbers_fit K) []) (c_row_fits : C8.Cal P w K mg base 3 "row_fits" (sp_row_fits K) []) :
    C8.Cal P w K mg base 4 "arguments_fit" (sp_arguments_fit K) [] := by
  refine calMk F hm (F.bindsN (ps := ["call"]) fun _ _ _ _ _ _ us hl => match us, hl with | [_], _ => rfl) sc_arguments_fit (fun vs H Q E h => by first | (obtain ⟨rfl, _⟩ := h; rfl) | (obtain ⟨_, rfl, _⟩ := h; rfl) | (obtain ⟨_, _, rfl, _⟩ := h; rfl) | (obtain ⟨_, _, _, rfl, _⟩ := h; rfl) | (obtain ⟨_, _, _, _, rfl, _⟩ := h; rfl) | (obtain ⟨_, _, _, _, _, rfl, _⟩ := h; rfl) | (obtain ⟨_, _, _, _, _, _, rfl, _⟩ := h; rfl)) (fun cdv A outer s H vs Q E hr h => ?_)
  obtain ⟨a, m, ns, rw, rfl, hc, hm20, hns, hrl, q⟩ := h
  refine ⟨_, (pss_one (ps_ret (pe_and (C8.pe_c c_numbers_fit hr (by decide) (by rfl) (pa_cons (pv 0) pa_nil)) (pe_one (C8.pe_c c_row_fits hr (by decide) (by rfl) (pa_cons (pv 0) pa_nil)))))), ?_⟩
  refine ⟨_, rfl, a, m, ns, rw, rfl, hc, hm20, hns, fun H1 s1 => ⟨_, rfl, ?_⟩⟩
  refine andB (fun H' s' => q H' (s1.trans s')) fun q => ?_
  exact ⟨_, rfl, a, _, ns, rw, rfl, hc.same s1, hrl, q⟩
end
end SI

set_option maxHeartbeats 4000000
namespace SI
open PySem PySem.Spec PyProof.Rows L2
/-- what stands in H' and not in H -/
def newH (H H' : Hp) : Hp := fun b => if H b = none then H' b else none
theorem newH_some {H H' : Hp} {b : Addr} {o : HO} (h : newH H H' b = some o) : H b = none ∧ H' b = some o := by
  unfold newH at h
  by_cases e : H b = none
  · rw [if_pos e] at h; exact ⟨e, h⟩
  · rw [if_neg e] at h; cases h
theorem newH_of {H H' : Hp} {b : Addr} {o : HO} (e : H b = none) (h : H' b = some o) : newH H H' b = some o := by
  unfold newH
  rw [if_pos e]
  exact h
theorem newH_sub {H H' : Hp} : Same (newH H H') H' := fun b o h => (newH_some h).2
theorem newH_mono {H H1 H2 : Hp} (h : ∀ b o, H b = none → H1 b = some o → H2 b = some o) : Same (newH H H1) (newH H H2) := fun b o e => newH_of (newH_some e).1 (h b o (newH_some e).1 (newH_some e).2)
theorem newH_anti {H H0 H1 : Hp} (s : Same H H0) : Same (newH H0 H1) (newH H H1) := fun b o e => by
  obtain ⟨h1, h2⟩ := newH_some e
  exact newH_of (s.free h1) h2
theorem newH_upd {B H : Hp} {a : Addr} {o : HO} (h : B a = none) : newH B (upd H a o) = upd (newH B H) a o := by
  funext b
  unfold newH upd
  by_cases e : b = a
  · subst e
    rw [if_pos h, if_pos rfl, if_pos rfl]
  · rw [if_neg e, if_neg e]
theorem newH_none {B H : Hp} {a : Addr} (h : H a = none) : newH B H a = none := by
  unfold newH
  by_cases e : B a = none
  · rw [if_pos e]; exact h
  · rw [if_neg e]
theorem newH_out {B H : Hp} {a : Addr} {o : HO} (h : B a ≠ none) : newH B (upd H a o) = newH B H := by
  funext b
  unfold newH
  by_cases e : B b = none
  · rw [if_pos e, if_pos e, upd_ne (fun q => h (by rw [← q]; exact e))]
  · rw [if_neg e, if_neg e]
def isRow (m : Nat) : Bool := isIn [0, 1, 4, 11] m
def CallOf (K : PySem.W.Frag) (H : Hp) (a : Addr) (c : List (List Int)) : Prop := ∃ (m : Nat) (ns rw : List Int), m < 20 ∧ ns.length = (NR.getD m []).length ∧ rw.length ≤ 100000 ∧ CallAt K H a (m : Nat) ns rw ∧ (if isRow m = true then c = [(m : Int) :: ns, rw] else c = [(m : Int) :: ns])
theorem CallOf.same {K : PySem.W.Frag} {H H' : Hp} (s : Same H H') {a : Addr} {c : List (List Int)} (h : CallOf K H a c) : CallOf K H' a c := let ⟨m, ns, rw, h1, h2, h3, h4, h5⟩ := h; ⟨m, ns, rw, h1, h2, h3, h4.same s, h5⟩
theorem shape_at : ∀ m : Fin 20, PyVbndam.shape ((m.val : Nat) : Int) = some ((NR.getD m.val []).length, if isRow m.val = true then 1 else 0) := by decide
theorem shape_some {p : Int} {n k : Nat} (h : PyVbndam.shape p = some (n, k)) : ∃ m : Nat, p = (m : Nat) ∧ m < 20 ∧ n = (NR.getD m []).length ∧ k = if isRow m = true then 1 else 0 := by
  by_cases hp : 0 ≤ p ∧ p < 20
  · obtain ⟨m, rfl⟩ : ∃ m : Nat, p = (m : Nat) := ⟨p.toNat, by omega⟩
    have hm : m < 20 := by omega
    have e := shape_at ⟨m, hm⟩
    rw [h] at e
    obtain ⟨e1, e2⟩ := Prod.mk.inj (Option.some.inj e)
    exact ⟨m, rfl, hm, e1, e2⟩
  · exfalso
    unfold PyVbndam.shape at h
    repeat rw [if_neg (by omega)] at h
    cases h
theorem call_some {p : Int} {r : List Int} {c : List (List Int)} {t : List Int} (h : PyFlat.call PyVbndam.shape (p :: r) = some (c, t)) :
    ∃ m : Nat, p = (m : Nat) ∧ m < 20 ∧ (NR.getD m []).length ≤ r.length ∧
      if isRow m = true then ∃ (n : Nat) (q : List Int), r.drop (NR.getD m []).length = (n : Int) :: q ∧ n ≤ q.length ∧ c = [p :: r.take (NR.getD m []).length, q.take n] ∧ t = q.drop n
      else c = [p :: r.take (NR.getD m []).length] ∧ t = r.drop (NR.getD m []).length := by
  unfold PyFlat.call at h
  dsimp only at h
  cases hs : PyVbndam.shape p with
  | none => rw [hs] at h; cases h
  | some nk =>
    obtain ⟨n, k⟩ := nk
    rw [hs] at h
    obtain ⟨m, hp, hm, rfl, rfl⟩ := shape_some hs
    refine ⟨m, hp, hm, ?_⟩
    dsimp only at h
    by_cases hl : r.length < (NR.getD m []).length
    · rw [if_pos hl] at h; cases h
    · rw [if_neg hl] at h
      refine ⟨by omega, ?_⟩
      cases hr : isRow m with
      | true =>
        rw [hr, if_pos rfl] at h
        rw [if_pos rfl]
        generalize hd : r.drop (NR.getD m []).length = d at h
        unfold PyFlat.rows at h
        cases d with
        | nil => cases h
        | cons n0 q =>
          unfold PyFlat.row at h
          dsimp only at h
          by_cases hn : 0 ≤ n0 ∧ n0.toNat ≤ q.length
          · rw [if_pos hn] at h
            dsimp only [PyFlat.rows] at h
            obtain ⟨e1, e2⟩ := Prod.mk.inj (Option.some.inj h)
            exact ⟨n0.toNat, q, by rw [Int.toNat_of_nonneg hn.1], hn.2, e1.symm, e2.symm⟩
          · rw [if_neg hn] at h; cases h
      | false =>
        rw [hr, if_neg (by decide)] at h
        rw [if_neg (by decide)]
        dsimp only [PyFlat.rows] at h
        obtain ⟨e1, e2⟩ := Prod.mk.inj (Option.some.inj h)
        exact ⟨e1.symm, e2.symm⟩
theorem calls_some {f : Nat} {p : Int} {r : List Int} {raw : List (List (List Int))} (h : PyFlat.calls PyVbndam.shape f (p :: r) = some raw) :
    ∃ f' c t cs, PyFlat.call PyVbndam.shape (p :: r) = some (c, t) ∧ PyFlat.calls PyVbndam.shape f' t = some cs ∧ raw = c :: cs := by
  cases f with
  | zero => cases h
  | succ f =>
    unfold PyFlat.calls at h
    cases hc : PyFlat.call PyVbndam.shape (p :: r) with
    | none => rw [hc] at h; cases h
    | some ct =>
      obtain ⟨c, t⟩ := ct
      rw [hc] at h
      dsimp only at h
      cases hs : PyFlat.calls PyVbndam.shape f t with
      | none => rw [hs] at h; cases h
      | some cs =>
        rw [hs] at h
        exact ⟨f, c, t, cs, rfl, hs, (Option.some.inj h).symm⟩
theorem readStep {K : PySem.W.Frag} {H0 H1 H2 : Hp} {fd na ra x dx : Addr} {ts : List Addr} {m : Nat} {ns rw : List Int} {c : List (List Int)} {done : List (List (List Int))}
    (hfd : H0 fd ≠ none) (s0 : ∀ b, H1 b = none → H0 b = none) (s1 : ∀ b o, H1 b = some o → H2 b = some o) (hts : H1 fd = some (.lst (ts.map V.ref)))
    (hP : Paired (CallOf K (newH H0 H1)) ts done) (n1 : H1 na = none) (n2 : H1 ra = none) (e1 : H2 na = some (.lst (ns.map V.int))) (e2 : H2 ra = some (.lst (rw.map V.int)))
    (hx : H2 x = none) (hdx : H2 dx = none) (hne : dx ≠ x) (hm : m < 20) (hn : ns.length = (NR.getD m []).length) (hr : rw.length ≤ 100000) (hc : if isRow m = true then c = [(m : Int) :: ns, rw] else c = [(m : Int) :: ns]) :
    let H4 := upd (upd (upd (upd H2 dx (.own x)) x (.ins (cl K "Call") dx [])) x (.ins (cl K "Call") dx (fCall m na ra))) fd (.lst (ts.map V.ref ++ [.ref x]))
    (∀ b o, b ≠ fd → H1 b = some o → H4 b = some o) ∧ H4 fd = some (.lst ((ts ++ [x]).map V.ref)) ∧ Paired (CallOf K (newH H0 H4)) (ts ++ [x]) (done ++ [c]) := by
  intro H4
  have k2 : ∀ b o, b ≠ fd → H2 b = some o → H4 b = some o := fun b o hb e => by
    show upd _ _ _ _ = _
    rw [upd_ne hb, upd_upd, upd_ne (ne_of_none e hx), upd_ne (ne_of_none e hdx)]
    exact e
  have k1 : ∀ b o, b ≠ fd → H1 b = some o → H4 b = some o := fun b o hb e => k2 b o hb (s1 _ _ e)
  have fx : x ≠ fd := fun e => by subst e; rw [s1 _ _ hts] at hx; cases hx
  have nfd : ∀ {b}, H1 b = none → b ≠ fd := fun h e => by subst e; rw [hts] at h; cases h
  refine ⟨k1, ?_, ?_⟩
  · show upd _ _ _ _ = _
    rw [upd_same, List.map_append]
    rfl
  refine pairedSnoc ⟨m, ns, rw, hm, hn, hr, ⟨dx, na, ra, ?_, ?_, ?_⟩, hc⟩ (pairedImp (fun a c q => q.same (newH_mono fun b o h0 h1 => ?_)) hP)
  · have hx1 : H1 x = none := by
      cases e : H1 x with
      | none => rfl
      | some o => rw [s1 _ _ e] at hx; cases hx
    refine newH_of (s0 _ hx1) ?_
    show upd _ _ _ _ = _
    rw [upd_ne fx, upd_same]
  · exact newH_of (s0 _ n1) (k2 _ _ (nfd n1) e1)
  · exact newH_of (s0 _ n2) (k2 _ _ (nfd n2) e2)
  · refine k1 b o (fun e => ?_) h1
    subst e
    exact hfd h0
theorem cut_drop (l : List V) (k n : Nat) (h : k + n ≤ l.length) : cutV l (some ((k : Nat) : Int)) (some ((k + n : Nat) : Int)) = (l.drop k).take n := by
  unfold cutV
  rw [HT.sIx_nat, HT.sIx_nat, Nat.min_eq_left h, Nat.min_eq_left (show k ≤ l.length by omega), Nat.add_sub_cancel_left]
section
variable {P : Program} {w : World} {K : PySem.W.Frag} {mg : Str → Option Value} {base : Heap}
def sp_read_calls (K : PySem.W.Frag) : Sp := fun vs H Q _ => ∃ (p : Addr) (l : List Int) (raw : List (List (List Int))), vs = [.ref p] ∧ SqL K H p (l.map V.int) ∧ PyFlat.calls PyVbndam.shape l.length l = some raw ∧ raw.length ≤ 100000 ∧ (∀ c ∈ raw, (c.getD 1 []).length ≤ 100000) ∧
  ∀ H' q ts, Same H H' → H q = none → H' q = some (.lst (ts.map V.ref)) → Paired (CallOf K (newH H H')) ts raw → Q (.ref q) H'
theorem ok_read_calls {f : Addr} {fd : FuncData} (T : Txt K mg) (F : FnP K "read_calls" "read_calls" s_read_calls f fd) (hm : mg "read_calls" = some (.ref f)) (m_Call : C8.Mak P w K mg base 1 "Call" (cl K "Call") (sp_Call_init K) []) :
    C8.Cal P w K mg base 3 "read_calls" (sp_read_calls K) [] := by
  refine calMk F hm (F.bindsN (ps := ["handed"]) fun _ _ _ _ _ _ us hl => match us, hl with | [_], _ => rfl) sc_read_calls (fun vs H Q E h => by first | (obtain ⟨rfl, _⟩ := h; rfl) | (obtain ⟨_, rfl, _⟩ := h; rfl) | (obtain ⟨_, _, rfl, _⟩ := h; rfl) | (obtain ⟨_, _, _, rfl, _⟩ := h; rfl) | (obtain ⟨_, _, _, _, rfl, _⟩ := h; rfl) | (obtain ⟨_, _, _, _, _, rfl, _⟩ := h; rfl) | (obtain ⟨_, _, _, _, _, _, rfl, _⟩ := h; rfl) | (obtain ⟨_, _, _, _, _, _, _, rfl, _⟩ := h; rfl) | (obtain ⟨_, _, _, _, _, _, _, _, rfl, _⟩ := h; rfl) | (obtain ⟨_, _, _, _, _, _, _, _, _, rfl, _⟩ := h; rfl) | (obtain ⟨_, _, _, _, _, _, _, _, _, _, rfl, _⟩ := h; rfl) | (obtain ⟨_, _, _, _, _, _, _, _, _, _, _, rfl, _⟩ := h; rfl) | (obtain ⟨_, _, _, _, _, _, _, _, _, _, _, _, rfl, _⟩ := h; rfl) | (obtain ⟨_, _, _, _, _, _, _, _, _, _, _, _, _, rfl, _⟩ := h; rfl) | (obtain ⟨_, _, _, _, _, _, _, _, _, _, _, _, _, _, rfl, _⟩ := h; rfl)) (fun cdv A outer s H vs Q E hr h => ?_)
  obtain ⟨p, l, raw, rfl, hp, hraw, hrl, hrows, q⟩ := h
  refine ⟨_, (pss_cons (ps_set (i := 1) sc_read_calls.nd rfl (Or.inl rfl) (pe_lst pa_nil)) (pss_cons (ps_set (i := 2) sc_read_calls.nd rfl (Or.inl rfl) pe_int) (pss_cons (ps_while PassesOwn.never (pt_cmpR op_lt (pv 2) (pe_callB call_len_seq (by rfl) T.n_len PySem.boot_len (pa_cons (pv 0) pa_nil)) (nomark _)) (pss_cons (ps_set (i := 3) sc_read_calls.nd rfl (Or.inl rfl) (pe_ix ix_list (pv 0) (pv 2) (fun _ _ => rfl))) (pss_cons (ps_set (i := 4) sc_read_calls.nd rfl (Or.inl rfl) (pe_op op_add (pe_op op_add (pv 2) pe_int) (pe_callB call_len_seq (by rfl) T.n_len PySem.boot_len (pa_cons (pe_ix ix_tup (C8.pe_gc (by rfl) T.g_NUMBER_RANGES) (pv 3) (fun _ _ => rfl)) pa_nil)))) (pss_cons (ps_set (i := 5) sc_read_calls.nd rfl (Or.inl rfl) (pe_slice sl_list (pv 0) (po_some (pe_op op_add (pv 2) pe_int)) (po_some (pv 4)))) (pss_cons (ps_set (i := 6) sc_read_calls.nd rfl (Or.inl rfl) (pe_lst pa_nil)) (pss_cons (ps_set (i := 2) sc_read_calls.nd rfl (Or.inl rfl) (pv 4)) (pss_cons (ps_if (pt_cmpR op_in_seq (pv 3) (C8.pe_gc (by rfl) T.g_ROW_CALLS) (by rfl)) (pss_cons (ps_set (i := 2) sc_read_calls.nd rfl (Or.inl rfl) (pe_op op_add (pe_op op_add (pv 4) pe_int) (pe_ix ix_list (pv 0) (pv 4) (fun _ _ => rfl)))) (pss_one (ps_set (i := 6) sc_read_calls.nd rfl (Or.inl rfl) (pe_slice sl_list (pv 0) (po_some (pe_op op_add (pv 4) pe_int)) (po_some (pv 2)))))) pss_nil) (pss_one (ps_expr (pe_bm PySem.F.plainAttrs_list PySem.F.slot_list_append PySem.F.type_list_append mt_append (pv 1) (pa_cons (C8.pe_mk m_Call hr (by decide) (by rfl) (pa_cons (pv 3) (pa_cons (pv 5) (pa_cons (pv 6) pa_nil)))) pa_nil))))))))))) (pss_one (ps_ret (pv 1)))))), ?_⟩
  refine ⟨by show 0 ≤ sizeLine; decide, fun fd hfd => ?_⟩
  have s00 : Same H (upd H fd (.lst [])) := sameUpd hfd
  generalize hH0 : upd H fd (.lst []) = H0 at s00
  have e0 : H0 fd = some (.lst []) := by rw [← hH0]; exact upd_same
  have hp0 : SqL K H0 p (l.map V.int) := s00.seq hp
  refine ⟨fun mz σ H1 => ∃ (k : Nat) (y3 y4 y5 y6 : Option V) (ts : List Addr) (done rest : List (List (List Int))) (f : Nat), mz = l.length - k ∧ k ≤ l.length ∧ σ = [some (.ref p), some (.ref fd), some (.int (k : Nat)), y3, y4, y5, y6] ∧
    (∀ b o, b ≠ fd → H0 b = some o → H1 b = some o) ∧ H1 fd = some (.lst (ts.map V.ref)) ∧ Paired (CallOf K (newH H0 H1)) ts done ∧ raw = done ++ rest ∧ PyFlat.calls PyVbndam.shape f (l.drop k) = some rest,
    ⟨l.length, 0, none, none, none, none, [], [], raw, l.length, rfl, Nat.zero_le _, rfl, fun _ _ _ h => h, e0, .nil, rfl, hraw⟩, ?_⟩
  rintro mz σ H1 ⟨k, y3, y4, y5, y6, ts, done, rest, f, rfl, hk, rfl, s1, hts, hP, rfl, hrest⟩
  have sH : Same H H1 := fun b o e => s1 b o (ne_of_none e hfd) (s00 _ _ e)
  have hp1 : SqL K H1 p (l.map V.int) := sH.seq hp
  refine ⟨_, rfl, _, rfl, p, _, rfl, .inl hp1, _, _, rfl, rfl, _, rfl, ?_⟩
  rw [List.length_map]
  by_cases hkl : k < l.length
  · rw [decide_eq_true (by omega)]
    refine iteT ⟨_, fun σ' H' h => h, ?_⟩
    have hkg : l[k]? = some l[k] := List.getElem?_eq_getElem hkl
    have hdk : l.drop k = l[k] :: l.drop (k + 1) := List.drop_eq_getElem_cons hkl
    rw [hdk] at hrest
    obtain ⟨f', c, t, cs, hcall, hcs, rfl⟩ := calls_some hrest
    obtain ⟨m, hpm, hm20, har, hsh⟩ := call_some hcall
    rw [List.length_drop] at har
    have hcmem : c ∈ done ++ c :: cs := List.mem_append_right _ List.mem_cons_self
    have hdone : done.length ≤ 100000 := by
      rw [List.length_append] at hrl
      omega
    have htl : ts.length ≤ 100000 := by rw [pairedLen hP]; exact hdone
    have hg1 : (l.map V.int)[k]? = some (.int (m : Nat)) := by rw [List.getElem?_map, hkg, ← hpm]; rfl
    obtain ⟨tv, hT, hTp⟩ := T.t_NUMBER_RANGES
    have hNR : NR[m]? = some (NR.getD m []) := by
      rw [List.getD_eq_getElem?_getD, List.getElem?_eq_getElem (by rw [NR_len]; exact hm20)]
      rfl
    generalize hl : (NR.getD m []).length = n at har hsh
    obtain ⟨v, hv, ra2, ls, rfl, hls, hlp⟩ := pairedGet hTp hNR
    have hlsn : ls.length = n := (pairedLen hlp).trans hl
    refine ⟨_, rfl, _, rfl, p, _, _, _, rfl, rfl, hp1, atI_nat hg1, ?_⟩
    refine ⟨_, rfl, _, _, rfl, rfl, _, rfl, _, _, _, .ref ra2, rfl, rfl, hT _, atI_nat hv, ra2, ls, rfl, .inr (hls _), _, _, rfl, rfl, ?_⟩
    have erp : ((k : Int) + 1) + ((ls.length : Nat) : Int) = ((k + 1 + n : Nat) : Int) := by rw [hlsn]; omega
    dsimp only
    rw [erp]
    refine ⟨_, rfl, _, rfl, _, _, rfl, rfl, _, rfl, _, rfl, _, rfl, p, _, rfl, hp1, fun na hna => ?_⟩
    have ecut : cutV (l.map V.int) (some ((k : Int) + 1)) (some ((k + 1 + n : Nat) : Int)) = ((l.drop (k + 1)).take n).map V.int := by
      rw [show ((k : Int) + 1) = ((k + 1 : Nat) : Int) by omega, cut_drop _ _ _ (by rw [List.length_map]; omega), List.map_take, List.map_drop]
    dsimp only
    rw [ecut]
    generalize hns : (l.drop (k + 1)).take n = ns at hsh
    have hnsl : ns.length = n := by rw [← hns, List.length_take, List.length_drop]; omega
    have sA : Same H1 (upd H1 na (.lst (ns.map V.int))) := sameUpd hna
    refine ⟨by show 0 ≤ sizeLine; decide, fun r0 hr0 => ?_⟩
    have sB := sA.trans (sameUpd (o := .lst []) hr0)
    have nn : na ≠ r0 := ne_of_none upd_same hr0
    generalize hH3 : upd (upd H1 na (.lst (ns.map V.int))) r0 (.lst []) = H3 at sB
    have e3 : H3 na = some (.lst (ns.map V.int)) := by rw [← hH3, upd_ne nn, upd_same]
    have e4 : H3 r0 = some (.lst (([] : List Int).map V.int)) := by rw [← hH3, upd_same]; rfl
    have hr01 : H1 r0 = none := sA.free hr0
    have s0 : ∀ b, H1 b = none → H0 b = none := fun b h => by
      cases e : H0 b with
      | none => rfl
      | some o =>
        by_cases eb : b = fd
        · subst eb; rw [hts] at h; cases h
        · rw [s1 _ _ eb e] at h; cases h
    have hfd0 : H0 fd ≠ none := by rw [e0]; intro h; cases h
    refine ⟨_, rfl, _, rfl, _, _, rfl, .inr (T.t_ROW_CALLS _), rfl, flatI _, _, rfl, ?_⟩
    show if inV (V.int (m : Int)) _ = true then _ else _
    rw [inI]
    cases hrow : isRow m with
    | true =>
      have hrow' : isIn [0, 1, 4, 11] (m : Int) = true := hrow
      rw [hrow']
      rw [if_pos hrow] at hsh
      obtain ⟨n2, q2, hd2, hn2, rfl, rfl⟩ := hsh
      rw [List.drop_drop] at hd2
      refine iteT ?_
      have hkn : k + 1 + n < l.length := by
        have := congrArg List.length hd2
        rw [List.length_drop, List.length_cons] at this
        omega
      have hg2 : l[k + 1 + n]? = some (n2 : Int) := by
        have := congrArg List.head? hd2
        rw [List.head?_drop] at this
        exact this
      have hq2 : q2 = l.drop (k + 1 + n + 1) := by
        have := congrArg List.tail hd2
        rw [List.tail_drop] at this
        exact this.symm
      have hq2l : n2 ≤ l.length - (k + 1 + n + 1) := by rw [hq2, List.length_drop] at hn2; exact hn2
      have hg3 : (l.map V.int)[k + 1 + n]? = some (.int (n2 : Nat)) := by rw [List.getElem?_map, hg2]; rfl
      have epl : (((k + 1 + n : Nat) : Int) + 1) + (n2 : Int) = ((k + 1 + n + 1 + n2 : Nat) : Int) := by omega
      refine ⟨_, rfl, _, _, rfl, rfl, _, rfl, _, rfl, p, _, _, _, rfl, rfl, sB.seq hp1, atI_nat hg3, _, _, rfl, rfl, ?_⟩
      dsimp only
      rw [epl]
      refine ⟨_, rfl, _, rfl, _, _, rfl, rfl, _, rfl, _, rfl, _, rfl, p, _, rfl, sB.seq hp1, fun ra hra => ?_⟩
      have ecut2 : cutV (l.map V.int) (some (((k + 1 + n : Nat) : Int) + 1)) (some ((k + 1 + n + 1 + n2 : Nat) : Int)) = (q2.take n2).map V.int := by
        rw [show (((k + 1 + n : Nat) : Int) + 1) = ((k + 1 + n + 1 : Nat) : Int) by omega, cut_drop _ _ _ (by rw [List.length_map]; omega), hq2, List.map_take, List.map_drop]
      dsimp only
      rw [ecut2]
      have sC : Same H3 (upd H3 ra (.lst ((q2.take n2).map V.int))) := sameUpd hra
      have nra : na ≠ ra := ne_of_none e3 hra
      have hrw : (q2.take n2).length ≤ 100000 := by
        have := hrows _ hcmem
        exact this
      refine ⟨_, rfl, .inl ⟨rfl, _, SqL.of (sC _ _ (sB _ _ hts))⟩, ?_⟩
      refine ⟨_, rfl, _, rfl, _, rfl, fun x dx hx hdx hne => ?_⟩
      refine ⟨x, dx, na, ra, _, rfl, upd_same, rfl, ?_⟩
      have R := readStep (c := [l[k] :: ns, q2.take n2]) hfd0 s0 (fun b o e => sC _ _ (sB _ _ e)) hts hP hna (sB.free hra) (sC _ _ e3) upd_same hx hdx hne hm20 (hnsl.trans hl.symm) hrw (by rw [if_pos hrow]; exact congrArg (fun x => [x :: ns, q2.take n2]) hpm)
      obtain ⟨R1, R2, R3⟩ := R
      have eF := sC _ _ (sB _ _ hts)
      have fx : fd ≠ x := ne_of_none eF hx
      have fdx : fd ≠ dx := ne_of_none eF hdx
      refine ⟨fd, ts.map V.ref, _, rfl, rfl, ?_, lenI (by rw [List.length_map]; exact htl), ?_⟩
      · rw [upd_ne fx, upd_ne fx, upd_ne fdx]
        exact eF
      refine ⟨l.length - (k + 1 + n + 1 + n2), by omega, k + 1 + n + 1 + n2, some (.int (m : Nat)), some (.int (k + 1 + n : Nat)), some (.ref na), some (.ref ra), ts ++ [x], done ++ [[l[k] :: ns, q2.take n2]], cs, f', rfl, by omega, rfl, fun b o hb e => R1 b o hb (s1 b o hb e), R2, R3, ?_, ?_⟩
      · rw [List.append_assoc]
        rfl
      · rw [hq2, List.drop_drop] at hcs
        exact hcs
    | false =>
      have hrow' : isIn [0, 1, 4, 11] (m : Int) = false := hrow
      rw [hrow']
      rw [if_neg (by rw [hrow]; decide)] at hsh
      obtain ⟨rfl, rfl⟩ := hsh
      rw [List.drop_drop] at hcs
      refine iteF ?_
      refine ⟨_, rfl, .inl ⟨rfl, _, SqL.of (sB _ _ hts)⟩, ?_⟩
      refine ⟨_, rfl, _, rfl, _, rfl, fun x dx hx hdx hne => ?_⟩
      refine ⟨x, dx, na, r0, _, rfl, upd_same, rfl, ?_⟩
      have R := readStep (c := [l[k] :: ns]) hfd0 s0 sB hts hP hna hr01 e3 e4 hx hdx hne hm20 (hnsl.trans hl.symm) (Nat.zero_le _) (by rw [if_neg (by rw [hrow]; decide)]; exact congrArg (fun x => [x :: ns]) hpm)
      obtain ⟨R1, R2, R3⟩ := R
      have eF := sB _ _ hts
      have fx : fd ≠ x := ne_of_none eF hx
      have fdx : fd ≠ dx := ne_of_none eF hdx
      refine ⟨fd, ts.map V.ref, _, rfl, rfl, ?_, lenI (by rw [List.length_map]; exact htl), ?_⟩
      · rw [upd_ne fx, upd_ne fx, upd_ne fdx]
        exact eF
      refine ⟨l.length - (k + 1 + n), by omega, k + 1 + n, some (.int (m : Nat)), some (.int (k + 1 + n : Nat)), some (.ref na), some (.ref r0), ts ++ [x], done ++ [[l[k] :: ns]], cs, f', rfl, by omega, rfl, fun b o hb e => R1 b o hb (s1 b o hb e), R2, R3, ?_, ?_⟩
      · rw [List.append_assoc]
        rfl
      · exact hcs
  · rw [decide_eq_false (by omega)]
    refine iteF ?_
    have hd : l.drop k = [] := List.drop_eq_nil_of_le (by omega)
    rw [hd] at hrest
    have : rest = [] := by
      cases f <;> exact (Option.some.inj hrest).symm
    subst this
    have eN : newH H0 H1 = newH H0 H1 := rfl
    refine ⟨_, rfl, q H1 fd ts sH hfd hts ?_⟩
    rw [List.append_nil]
    exact pairedImp (fun a c h => h.same (newH_anti s00)) hP
end
end SI

set_option maxHeartbeats 4000000
namespace SI
open PySem PySem.Spec PyProof.Rows L2
open SX (S)
open Vbndaa (Token Cursor ParseError splitAtByte tokenizeWith cursorOf currentOffset isIdentifier isDigit isLowercase natOfToken valueOf toBytes)
/-! ### pieces and their offsets -/
def offs : Nat → List (List Nat) → List (Nat × List Nat)
  | _, [] => []
  | p, x :: l => (p, x) :: offs (p + x.length + 1) l
theorem split_head (sep : Nat) : ∀ (t : List Nat) (p : Nat), ∃ y l, splitAtByte sep p t = (p, y) :: l
  | [], p => ⟨[], [], rfl⟩
  | c :: r, p => by
    unfold splitAtByte
    by_cases h : c = sep
    · rw [if_pos h]; exact ⟨_, _, rfl⟩
    · rw [if_neg h]
      obtain ⟨y, l, e⟩ := split_head sep r (p + 1)
      rw [e]
      exact ⟨_, _, rfl⟩
theorem pre1 (sep c : Nat) (r : List Nat) : TL.pre [sep] (c :: r) = (sep == c) := by
  simp only [TL.pre, List.length_cons, List.length_nil, List.take_succ_cons, List.take_zero]
  rw [Bool.eq_iff_iff, beq_iff_eq, beq_iff_eq]
  simp [eq_comm]
theorem spl_offs (sep : Nat) : ∀ (t acc : List Nat) (p : Nat) (y : List Nat) (l : List (Nat × List Nat)), splitAtByte sep (p + acc.length) t = (p + acc.length, y) :: l → offs p (TL.spl [sep] 0 acc t) = (p, acc ++ y) :: l
  | [], acc, p, y, l, h => by
    cases h
    rw [List.append_nil]
    rfl
  | c :: r, acc, p, y, l, h => by
    unfold splitAtByte at h
    unfold TL.spl
    rw [pre1]
    by_cases e : c = sep
    · rw [if_pos e] at h
      rw [if_pos (by rw [e]; exact beq_self_eq_true _)]
      obtain ⟨h1, h2⟩ := List.cons.inj h
      obtain ⟨-, rfl⟩ := Prod.mk.inj h1
      obtain ⟨y2, l2, e2⟩ := split_head sep r (p + acc.length + 1)
      show (p, acc) :: offs (p + acc.length + 1) (TL.spl [sep] 0 [] r) = _
      rw [spl_offs sep r [] (p + acc.length + 1) y2 l2 e2, ← h2, e2, List.append_nil]
      rfl
    · rw [if_neg e] at h
      rw [if_neg (by intro q; exact e (beq_iff_eq.mp q).symm)]
      obtain ⟨y2, l2, e2⟩ := split_head sep r (p + acc.length + 1)
      rw [e2] at h
      obtain ⟨h1, h2⟩ := List.cons.inj h
      obtain ⟨-, h3⟩ := Prod.mk.inj h1
      rw [spl_offs sep r (acc ++ [c]) p y2 l2 (by rw [List.length_append, List.length_singleton, ← Nat.add_assoc]; exact e2), ← h2, ← h3, List.append_assoc]
      rfl
theorem offs_split (sep : Nat) (t : List Nat) (p : Nat) : offs p (TL.spl [sep] 0 [] t) = splitAtByte sep p t := by
  obtain ⟨y, l, e⟩ := split_head sep t p
  rw [spl_offs sep t [] p y l e, e]
  rfl
def tokOf (x : Nat × List Nat) : Token := ⟨x.1, x.2⟩
def toksOf (l : List (Nat × List Nat)) : List Token := (l.filter fun x => !x.2.isEmpty).map tokOf
theorem toks_eq : ∀ (t : List Nat) (p : Nat), tokenizeWith Vbndam.noSeparators p t = toksOf (splitAtByte 32 p t)
  | [], _ => rfl
  | c :: r, p => by
    have ih := toks_eq r (p + 1)
    have hn : ∀ x, Vbndam.noSeparators x = false := fun _ => rfl
    unfold tokenizeWith splitAtByte
    by_cases hc : c = 32
    · rw [if_pos hc, if_pos hc, ih]
      rfl
    · rw [if_neg hc, if_neg hc, if_neg (by rw [hn]; decide)]
      cases r with
      | nil => rfl
      | cons d r =>
        dsimp only
        rw [hn]
        by_cases hd : d = 32
        · rw [if_pos (.inl hd), ih]
          unfold splitAtByte
          rw [if_pos hd]
          rfl
        · rw [if_neg (by rintro (e | e); exact hd e; cases e), ih]
          obtain ⟨y, l, e⟩ := split_head 32 r (p + 1 + 1)
          have e2 : splitAtByte 32 (p + 1) (d :: r) = (p + 1, d :: y) :: l := by
            show (if d = 32 then _ else _) = _
            rw [if_neg hd, e]
          rw [e2]
          rfl
theorem toksOf_app (l m : List (Nat × List Nat)) : toksOf (l ++ m) = toksOf l ++ toksOf m := by
  unfold toksOf
  rw [List.filter_append, List.map_append]
theorem offs_len : ∀ (l : List (List Nat)) (p : Nat), (offs p l).length = l.length
  | [], _ => rfl
  | x :: l, p => by
    show (offs _ l).length + 1 = _
    rw [offs_len l]
    rfl
/-! ### words -/
theorem let_mem (c : Nat) : decide (c ∈ ("abcdefghijklmnopqrstuvwxyz" : Str).cps.toList) = isLowercase c := by
  have e : ("abcdefghijklmnopqrstuvwxyz" : Str).cps.toList = List.range' 97 26 := by decide +kernel
  rw [e, Bool.eq_iff_iff, decide_eq_true_eq, List.mem_range'_1]
  unfold isLowercase
  rw [Bool.and_eq_true, decide_eq_true_eq, decide_eq_true_eq]
  omega
theorem dig_mem (c : Nat) : decide (c ∈ ("0123456789" : Str).cps.toList) = isDigit c := by
  have e : ("0123456789" : Str).cps.toList = List.range' 48 10 := by decide +kernel
  rw [e, Bool.eq_iff_iff, decide_eq_true_eq, List.mem_range'_1]
  unfold isDigit
  rw [Bool.and_eq_true, decide_eq_true_eq, decide_eq_true_eq]
  omega
def goodName (w : List Nat) : Bool := isIdentifier w && !Vbndam.reservedWords.contains w
theorem name_eq (w : List Nat) : goodName w = (if w = [] ∨ 12 < w.length ∨ Vbndam.reservedWords.contains w = true then false else (isLowercase (w.headD 0) && w.all fun c => isLowercase c || isDigit c)) := by
  unfold goodName
  cases w with
  | nil => rfl
  | cons c r =>
    show ((isLowercase c && (decide (r.length ≤ 11) && r.all fun d => isLowercase d || isDigit d)) && !Vbndam.reservedWords.contains (c :: r)) = _
    cases hr : Vbndam.reservedWords.contains (c :: r) with
    | true => rw [if_pos (.inr (.inr rfl))]; simp
    | false =>
      by_cases h : r.length ≤ 11
      · rw [if_neg (by rintro (e | e | e); cases e; rw [List.length_cons] at e; omega; cases e), decide_eq_true h]
        simp only [List.headD_cons, List.all_cons, Bool.true_and, Bool.not_false, Bool.and_true]
        cases isLowercase c <;> simp
      · rw [if_pos (.inr (.inl (by rw [List.length_cons]; omega))), decide_eq_false h]
        simp
def goodNum (w : List Nat) : Bool := (natOfToken 4 w).isSome
theorem num_eq (w : List Nat) : goodNum w = (if w = [] ∨ 4 < w.length then false else if w.head? = some 48 ∧ 1 < w.length then false else w.all isDigit) := by
  unfold goodNum natOfToken
  by_cases h1 : w = [] ∨ 4 < w.length
  · rw [if_pos h1, if_pos (by rcases h1 with h | h; exact .inl (by rw [h]; rfl); exact .inr (.inl h))]
    rfl
  · rw [if_neg h1]
    by_cases h2 : w.head? = some 48 ∧ 1 < w.length
    · rw [if_pos h2, if_pos (.inr (.inr (.inr ⟨h2.2, h2.1⟩)))]
      rfl
    · rw [if_neg h2]
      cases h3 : w.all isDigit with
      | true =>
        rw [if_neg]
        · rfl
        · rintro (e | e | e | e)
          · exact h1 (.inl (List.isEmpty_iff.mp e))
          · exact h1 (.inr e)
          · cases e
          · exact h2 ⟨e.2, e.1⟩
      | false => rw [if_pos (.inr (.inr (.inl rfl)))]; rfl
theorem val_eq (w : List Nat) : NumText.digitsVal w = valueOf w := by
  unfold NumText.digitsVal valueOf
  congr 1
  funext n c
  omega
theorem nat_some {w : List Nat} (h : goodNum w = true) : natOfToken 4 w = some (valueOf w) ∧ w.all isDigit = true ∧ w ≠ [] ∧ w.length ≤ 4 := by
  unfold goodNum natOfToken at h
  unfold natOfToken
  by_cases c : w.isEmpty = true ∨ 4 < w.length ∨ w.all isDigit = false ∨ (1 < w.length ∧ w.head? = some 48)
  · rw [if_pos c] at h; cases h
  · rw [if_neg c]
    refine ⟨rfl, ?_, ?_, ?_⟩
    · cases e : w.all isDigit with
      | true => rfl
      | false => exact absurd (.inr (.inr (.inl e))) c
    · intro e; exact c (.inl (by rw [e]; rfl))
    · have : ¬ 4 < w.length := fun e => c (.inr (.inl e))
      omega
/-! ### the cursor -/
def cur (toks : List Token) (e p : Nat) : Cursor := ⟨toks.drop p, e⟩
def wordOf (r : Cursor) : List Nat := match r.tokens with
  | [] => []
  | t :: _ => t.bytes
theorem cur_some {toks : List Token} {p : Nat} {t : Token} (h : toks[p]? = some t) (e : Nat) : cur toks e p = ⟨t :: toks.drop (p + 1), e⟩ := by
  unfold cur
  have hi := walkLenLe h
  rw [List.drop_eq_getElem_cons hi]
  have : toks[p] = t := Option.some.inj ((List.getElem?_eq_getElem hi).symm.trans h)
  rw [this]
theorem cur_none {toks : List Token} {p : Nat} (h : toks.length ≤ p) (e : Nat) : cur toks e p = ⟨[], e⟩ := by
  unfold cur
  rw [List.drop_eq_nil_of_le h]
theorem cur_skip (toks : List Token) (e p : Nat) : Vbndam.skipToken (cur toks e p) = cur toks e (p + 1) := by
  unfold Vbndam.skipToken cur
  rw [List.drop_drop]
/-- every token has a sign -/
def Full (toks : List Token) : Prop := ∀ t ∈ toks, t.bytes ≠ []
theorem toksOf_full (l : List (Nat × List Nat)) : Full (toksOf l) := fun t ht => by
  obtain ⟨x, hx, rfl⟩ := List.mem_map.mp ht
  have := (List.mem_filter.mp hx).2
  intro e
  have e2 : x.2 = [] := e
  rw [e2] at this
  cases this
theorem word_ne {toks : List Token} {p : Nat} {e : Nat} (h : wordOf (cur toks e p) ≠ []) : p < toks.length := by
  by_cases c : p < toks.length
  · exact c
  · exact absurd (by rw [cur_none (by omega)]; rfl) h
theorem next_word {toks : List Token} {e p : Nat} {l : List Nat} (hl : l ≠ []) : Vbndaa.nextTokenIs l (cur toks e p) = decide (wordOf (cur toks e p) = l) := by
  unfold Vbndaa.nextTokenIs wordOf
  cases (cur toks e p).tokens with
  | nil => rw [decide_eq_false (fun q => hl q.symm)]
  | cons t _ => rw [Bool.eq_iff_iff, beq_iff_eq, decide_eq_true_eq]
theorem name_ok {toks : List Token} {e p : Nat} (h : goodName (wordOf (cur toks e p)) = true) : Vbndam.parseName (cur toks e p) = .ok (wordOf (cur toks e p), cur toks e (p + 1)) := by
  have hp : p < toks.length := word_ne (fun q => by rw [q] at h; cases h)
  have ec := cur_some (List.getElem?_eq_getElem hp) e
  rw [ec] at h ⊢
  unfold goodName at h
  rw [Bool.and_eq_true, Bool.not_eq_true'] at h
  unfold Vbndam.parseName Vbndaa.parseToken
  dsimp only
  have h' : isIdentifier toks[p].bytes = true ∧ Vbndam.reservedWords.contains toks[p].bytes = false := h
  rw [if_pos h']
  rfl
theorem name_bad {toks : List Token} {e p : Nat} (h : goodName (wordOf (cur toks e p)) = false) : Vbndam.parseName (cur toks e p) = .error ⟨1, currentOffset (cur toks e p)⟩ := by
  by_cases hp : p < toks.length
  · have ec := cur_some (List.getElem?_eq_getElem hp) e
    rw [ec] at h ⊢
    unfold goodName at h
    unfold Vbndam.parseName Vbndaa.parseToken
    dsimp only
    rw [if_neg]
    · rfl
    · rintro ⟨h1, h2⟩
      have h3 : (isIdentifier toks[p].bytes && !Vbndam.reservedWords.contains toks[p].bytes) = false := h
      rw [h1, h2] at h3
      cases h3
  · rw [cur_none (by omega)]
    rfl
theorem expect_ok {toks : List Token} {e p : Nat} {l : List Nat} (hl : l ≠ []) (h : wordOf (cur toks e p) = l) : Vbndaa.expectToken 1 l (cur toks e p) = .ok ((), cur toks e (p + 1)) := by
  have hp : p < toks.length := word_ne (fun q => hl (h.symm.trans q))
  have ec := cur_some (List.getElem?_eq_getElem hp) e
  rw [ec] at h ⊢
  unfold Vbndaa.expectToken Vbndaa.parseToken
  dsimp only
  have h' : toks[p].bytes = l := h
  rw [if_pos h']
  rfl
theorem expect_bad {toks : List Token} {e p : Nat} {l : List Nat} (h : wordOf (cur toks e p) ≠ l) : Vbndaa.expectToken 1 l (cur toks e p) = .error ⟨1, currentOffset (cur toks e p)⟩ := by
  by_cases hp : p < toks.length
  · have ec := cur_some (List.getElem?_eq_getElem hp) e
    rw [ec] at h ⊢
    unfold Vbndaa.expectToken Vbndaa.parseToken
    dsimp only
    have h' : ¬ toks[p].bytes = l := h
    rw [if_neg h']
    rfl
  · rw [cur_none (by omega)]
    rfl
theorem num_bad {toks : List Token} {e p lo hi : Nat} (h : goodNum (wordOf (cur toks e p)) = false) : Vbndam.parseNatInRange lo hi (cur toks e p) = .error ⟨1, currentOffset (cur toks e p)⟩ := by
  by_cases hp : p < toks.length
  · have ec := cur_some (List.getElem?_eq_getElem hp) e
    rw [ec] at h ⊢
    have h2 : natOfToken 4 toks[p].bytes = none := by
      have : (natOfToken 4 toks[p].bytes).isSome = false := h
      cases e2 : natOfToken 4 toks[p].bytes with
      | none => rfl
      | some x => rw [e2] at this; cases this
    unfold Vbndam.parseNatInRange Vbndaa.parseToken
    dsimp only
    rw [h2]
    rfl
  · rw [cur_none (by omega)]
    rfl
theorem num_ok {toks : List Token} {e p lo hi : Nat} (h : goodNum (wordOf (cur toks e p)) = true) : Vbndam.parseNatInRange lo hi (cur toks e p) =
    if lo ≤ valueOf (wordOf (cur toks e p)) ∧ valueOf (wordOf (cur toks e p)) ≤ hi then .ok (valueOf (wordOf (cur toks e p)), cur toks e (p + 1)) else .error ⟨3, currentOffset (cur toks e p)⟩ := by
  have hp : p < toks.length := word_ne (fun q => by rw [q] at h; cases h)
  have ec := cur_some (List.getElem?_eq_getElem hp) e
  rw [ec] at h ⊢
  have h2 := (nat_some h).1
  unfold Vbndam.parseNatInRange Vbndaa.parseToken
  dsimp only
  have h3 : natOfToken 4 toks[p].bytes = some (valueOf toks[p].bytes) := h2
  rw [h3]
  rfl
theorem end_ok {α : Type} {toks : List Token} {e p : Nat} (x : α) : Vbndaa.expectEnd 1 x (cur toks e p) = if p < toks.length then .error ⟨1, currentOffset (cur toks e p)⟩ else .ok x := by
  by_cases hp : p < toks.length
  · rw [if_pos hp, cur_some (List.getElem?_eq_getElem hp) e]
    rfl
  · rw [if_neg hp, cur_none (by omega)]
    rfl
end SI

set_option maxHeartbeats 4000000
namespace SI
open PySem PySem.Spec PyProof.Rows L2
open Vbndaa (ParseError)
abbrev clF (K : PySem.W.Frag) : Addr := cl K "TextFault"
/-- what the text says of the error's class -/
structure FltK (K : PySem.W.Frag) : Prop where
  ox : OexE K (clF K)
  vV : PySem.W.findCls K (.type "Exception") (.type "type") "__init__" = some (.val (.builtin "Exception.__init__"))
  nk : PySem.W.findIn K (.ref (clF K)) "kind" = some none
  no : PySem.W.findIn K (.ref (clF K)) "offset" = some none
  em : PySem.W.exmOne K (.ref (clF K)) (.ref (clF K)) = some true
  xf : XfC K (clF K)
def fFault (k o : Int) : List (Str × V) := [("offset", .int o), ("kind", .int k)]
def sp_TextFault_init (K : PySem.W.Frag) : Sp := fun vs H Q _ => ∃ (a : Addr) (k o : Int), vs = [.ref a, .int k, .int o] ∧ H a = some (exo a (clF K) none) ∧
  ∀ d, H d = none → d ≠ a → Q .non (upd (upd (upd H d (exd d [("kind", .int k)])) a (exo a (clF K) (some d))) d (exd d (fFault k o)))
section
variable {P : Program} {w : World} {K : PySem.W.Frag} {mg : Str → Option Value} {base : Heap}
theorem ok_fault {f : Addr} {fd : FuncData} (T : Txt K mg) (G : FltK K) (F : FnP K "__init__" "TextFault.__init__" s_TextFault_init f fd) : FnOk P w K mg base L2.CX0 1 f fd ["self", "kind", "offset"] (sp_TextFault_init K) := by
  refine F.ok sc_TextFault_init (fun vs H Q E h => by obtain ⟨_, _, _, rfl, _⟩ := h; rfl) (fun cdv A outer s H vs Q E hr h => ?_)
  obtain ⟨a, k, o, rfl, e, q⟩ := h
  refine ⟨_, PSs.nox (pss_cons (ps_expr (pe_excinit (by rfl) T.n_Exception G.vV (pa_cons (pv 0) (pa_cons pe_str pa_nil)))) (pss_cons (ps_oset (pv 0) (pv 1)) (pss_one (ps_oset (pv 0) (pv 2))))), ?_⟩
  refine ⟨_, rfl, a, _, [_], rfl, by show 1 ≤ 1000; decide, G.ox, e, ?_⟩
  refine ⟨_, rfl, _, rfl, a, _, rfl, G.ox, G.nk, .inl ⟨e, fun d hd hda => ?_⟩⟩
  refine ⟨_, rfl, _, rfl, a, _, rfl, G.ox, G.no, .inr ⟨d, _, upd_same, (upd_ne hda).trans upd_same, by show 1 ≤ 900; decide, q d hd hda⟩⟩
structure FaultI (P : Program) (w : World) (K : PySem.W.Frag) (mg : Str → Option Value) (base : Heap) : Prop where
  gk : FltK K
  ex : ∃ (fI : Addr) (fd : FuncData), PySem.W.findIn K (.ref (clF K)) "__init__" = some (some (.ref fI)) ∧ PySem.W.typeIn K (.ref fI) = some (.type "function") ∧
    FnOk P w K mg base L2.CX0 1 fI fd ["self", "kind", "offset"] (sp_TextFault_init K) ∧ Binds K fd ["self", "kind", "offset"] []
  hm : mg "TextFault" = some (.ref (clF K))
end
theorem pmkF {X : Cx} {e : Expr} {es : List Expr} {ta : TA} {j : Nat} {p pos : Pos} (c : FaultI X.prog X.w X.K X.mg X.base) (hr : Room j X.A) (hk : 2 ≤ j) (hg : Gl X "TextFault") (ha : PA X (e :: es) ta)
    (he : starEach (e :: es) X.env = (false, eval e X.env) :: starEach es X.env := by rfl) (hpl : (backTo pos (starEach es X.env)).any (·.1) = false := by rfl) :
    PMk X (.Call (.Name "TextFault" p) (e :: es) [] pos) (tMkE (clF X.K) (sp_TextFault_init X.K) ta) := by
  obtain ⟨fI, fd, h1, h2, h3, h4⟩ := c.ex
  exact pmk_fault c.gk.ox h1 h2 h3 (hr.mono hk) h4 pass0 c.hm hg ha (by decide) he hpl
theorem mkF {K : PySem.W.Frag} {H : Hp} {k o : Int} {Q : XK} (h : ∀ d H', Same H H' → H' d = some (.xd (fFault k o)) → Q (.ref (clF K)) (some d) H') :
    [V.int k, V.int o].length ≤ 1000 ∧ ∀ a, H a = none → sp_TextFault_init K (.ref a :: [V.int k, V.int o]) (upd H a (exo a (clF K) none))
      (fun v H2 => v = .non ∧ ∃ (d : Addr) (fs : List (Str × V)), H2 a = some (exo a (clF K) (some d)) ∧ H2 d = some (exd d fs) ∧ H d = none ∧ Q (.ref (clF K)) (some d) (upd (del H2 a) d (.xd fs))) (fun _ _ _ => False) := by
  refine ⟨by show 2 ≤ 1000; decide, fun a ha => ⟨a, k, o, rfl, upd_same, fun d hd hda => ⟨rfl, d, _, ?_, upd_same, ?_, h d _ (fun b x e => ?_) upd_same⟩⟩⟩
  · rw [upd_ne (Ne.symm hda), upd_same]
  · rw [upd_ne hda] at hd
    exact hd
  · have hd0 : H d = none := by rw [upd_ne hda] at hd; exact hd
    have nb : b ≠ d := ne_of_none e hd0
    have na : b ≠ a := ne_of_none e ha
    rw [upd_ne nb]
    unfold del
    rw [if_neg na, upd_ne nb, upd_ne na, upd_ne nb, upd_ne na]
    exact e
/-- everything but the reader stands -/
def Keep (rd : Addr) (H H' : Hp) : Prop := ∀ b o, b ≠ rd → H b = some o → H' b = some o
theorem keepOf {rd : Addr} {H H' : Hp} (s : Same H H') : Keep rd H H' := fun b o _ e => s b o e
theorem Keep.trans {rd : Addr} {H H' H2 : Hp} (s : Keep rd H H') (t : Keep rd H' H2) : Keep rd H H2 := fun b o n e => t b o n (s b o n e)
theorem Keep.refl {rd : Addr} {H : Hp} : Keep rd H H := fun _ _ _ e => e
/-- the error's way -/
def Fl (K : PySem.W.Frag) (rd : Addr) (H : Hp) (e : ParseError) (E : XK) : Prop := ∀ d H', Keep rd H H' → H' d = some (.xd (fFault (e.code : Nat) (e.offset : Nat))) → E (.ref (clF K)) (some d) H'
theorem Fl.keep {K : PySem.W.Frag} {rd : Addr} {H H' : Hp} {e : ParseError} {E : XK} (f : Fl K rd H e E) (s : Keep rd H H') : Fl K rd H' e E := fun d H2 k x => f d H2 (s.trans k) x
end SI

set_option maxHeartbeats 4000000
namespace SI
open PySem PySem.Spec PyProof.Rows L2
open SX (S)
open Vbndaa (Token Cursor ParseError splitAtByte currentOffset isDigit isLowercase)
def TokAt (H : Hp) (t : Addr) (x : Token) : Prop := H t = some (.tup [.int (x.offset : Nat), .str (S x.bytes)])
def ToksAt (H : Hp) (q : Addr) (toks : List Token) : Prop := ∃ ts : List Addr, H q = some (.lst (ts.map V.ref)) ∧ Paired (TokAt H) ts toks
theorem ToksAt.same {H H' : Hp} (s : Same H H') {q : Addr} {toks : List Token} (h : ToksAt H q toks) : ToksAt H' q toks := let ⟨ts, a, b⟩ := h; ⟨ts, s _ _ a, pairedImp (fun _ _ q => s _ _ q) b⟩
def RdAt (K : PySem.W.Frag) (H : Hp) (rd : Addr) (toks : List Token) (e p : Nat) : Prop := ∃ dx ta, H rd = some (.ins (cl K "LineReader") dx (fReader ta (e : Nat) (p : Nat))) ∧ ToksAt H ta toks ∧ p ≤ toks.length
theorem RdAt.same {K : PySem.W.Frag} {H H' : Hp} (s : Same H H') {rd : Addr} {toks : List Token} {e p : Nat} (h : RdAt K H rd toks e p) : RdAt K H' rd toks e p := let ⟨dx, ta, a, b, c⟩ := h; ⟨dx, ta, s _ _ a, b.same s, c⟩
theorem ToksAt.keep {H H' : Hp} {rd : Addr} {C dx : Addr} {fs : List (Str × V)} (hr : H rd = some (.ins C dx fs)) (s : Keep rd H H') {q : Addr} {toks : List Token} (h : ToksAt H q toks) : ToksAt H' q toks := by
  obtain ⟨ts, a, b⟩ := h
  refine ⟨ts, s _ _ (ne_of a hr (fun q => nomatch q)) a, pairedImp (fun t x q => ?_) b⟩
  have q' : H t = some (.tup _) := q
  exact s _ _ (ne_of q' hr (fun q => nomatch q)) q
theorem sizeI {n : Nat} (h : n ≤ 100000) : n ≤ sizeLine := Nat.le_trans h (by decide)
theorem pReader {t : Addr} {e : Int} : putF "position" (.int 0) (putF "end" (.int e) (putF "tokens" (.ref t) [])) = fReader t e 0 := by
  rw [putN, putP (by decide), putN, putP (by decide), putP (by decide), putN]
  rfl
theorem pReaderP {t : Addr} {e p p2 : Int} : putF "position" (.int p2) (fReader t e p) = fReader t e p2 := by
  unfold fReader
  rw [putP (by decide), putP (by decide), putH]
theorem dec_str {a b : List Nat} : decide (V.str (S a) = V.str (S b)) = decide (a = b) := by
  rw [Bool.eq_iff_iff, decide_eq_true_eq, decide_eq_true_eq]
  constructor
  · intro h; exact SX.S_inj (V.str.inj h)
  · intro h; rw [h]
theorem S_nil : S [] = ("" : Str) := by decide +kernel
theorem cps_digits : ("0123456789" : Str).cps.toList = List.range' 48 10 := by decide +kernel
theorem cps_letters : ("abcdefghijklmnopqrstuvwxyz" : Str).cps.toList = List.range' 97 26 := by decide +kernel
theorem rangeAt {a n k : Nat} (h : k < n) : (List.range' a n)[k]? = some (a + k) := by
  rw [List.getElem?_range' h]
  simp
theorem lRN {t : Addr} {e p : Int} {m : Str} (h1 : (m == ("tokens" : Str)) = false) (h2 : (m == ("end" : Str)) = false) (h3 : (m == ("position" : Str)) = false) : (fReader t e p).lookup m = none :=
  (lkP h1).trans ((lkP h2).trans ((lkP h3).trans rfl))
theorem lRdone {t : Addr} {e p : Int} : (fReader t e p).lookup ("is_done" : Str) = none := lRN (by decide +kernel) (by decide +kernel) (by decide +kernel)
theorem lRword {t : Addr} {e p : Int} : (fReader t e p).lookup ("word" : Str) = none := lRN (by decide +kernel) (by decide +kernel) (by decide +kernel)
theorem lRplace {t : Addr} {e p : Int} : (fReader t e p).lookup ("place" : Str) = none := lRN (by decide +kernel) (by decide +kernel) (by decide +kernel)
theorem lRadvance {t : Addr} {e p : Int} : (fReader t e p).lookup ("advance" : Str) = none := lRN (by decide +kernel) (by decide +kernel) (by decide +kernel)
theorem lRfail {t : Addr} {e p : Int} : (fReader t e p).lookup ("fail" : Str) = none := lRN (by decide +kernel) (by decide +kernel) (by decide +kernel)
theorem spl_sum (sep : Nat) : ∀ (t acc : List Nat), ((TL.spl [sep] 0 acc t).map fun x => x.length + 1).sum = acc.length + t.length + 1
  | [], acc => rfl
  | c :: r, acc => by
    unfold TL.spl
    by_cases h : TL.pre [sep] (c :: r) = true
    · rw [if_pos h]
      show (acc.length + 1) + ((TL.spl [sep] 0 [] r).map fun x => x.length + 1).sum = _
      rw [spl_sum sep r [], List.length_nil, List.length_cons]
      omega
    · rw [if_neg h, spl_sum sep r (acc ++ [c]), List.length_append, List.length_cons, List.length_cons, List.length_nil]
      omega
theorem len_le_sum (l : List (List Nat)) : l.length ≤ (l.map fun x => x.length + 1).sum := by
  induction l with
  | nil => exact Nat.le_refl _
  | cons x l ih => rw [List.map_cons, List.sum_cons, List.length_cons]; omega
theorem mem_le_sum (l : List (List Nat)) (x : List Nat) (h : x ∈ l) : x.length + 1 ≤ (l.map fun x => x.length + 1).sum := by
  induction l with
  | nil => cases h
  | cons y l ih =>
    rw [List.map_cons, List.sum_cons]
    cases h with
    | head => omega
    | tail _ h => have := ih h; omega
theorem joinNil : ∀ l : List (List Nat), TL.joinL [] l = l.flatten
  | [] => rfl
  | [p] => by simp [TL.joinL]
  | p :: q :: r => by
    show p ++ ([] ++ TL.joinL [] (q :: r)) = _
    rw [joinNil (q :: r)]
    rfl
section
variable {P : Program} {w : World} {K : PySem.W.Frag} {mg : Str → Option Value} {base : Heap}
def sp_LineReader_is_done (K : PySem.W.Frag) : Sp := fun vs H Q _ => ∃ (rd : Addr) (toks : List Token) (e p : Nat), vs = [.ref rd] ∧ RdAt K H rd toks e p ∧ Q (.bl (decide (toks.length ≤ p))) H
theorem ok_LineReader_is_done {f : Addr} {fd : FuncData} (T : Txt K mg) (me : Meth K (cl K "LineReader") "is_done" f) (F : FnP K "is_done" "LineReader.is_done" s_LineReader_is_done f fd)  :
    C8.Met P w K mg base 1 (cl K "LineReader") "is_done" (sp_LineReader_is_done K) [] := by
  refine metMk T.c_LineReader me F (F.bindsN (ps := ["self"]) fun _ _ _ _ _ _ us hl => match us, hl with | [_], _ => rfl) sc_LineReader_is_done (fun vs H Q E h => by first | (obtain ⟨rfl, _⟩ := h; rfl) | (obtain ⟨_, rfl, _⟩ := h; rfl) | (obtain ⟨_, _, rfl, _⟩ := h; rfl) | (obtain ⟨_, _, _, rfl, _⟩ := h; rfl) | (obtain ⟨_, _, _, _, rfl, _⟩ := h; rfl) | (obtain ⟨_, _, _, _, _, rfl, _⟩ := h; rfl) | (obtain ⟨_, _, _, _, _, _, rfl, _⟩ := h; rfl) | (obtain ⟨_, _, _, _, _, _, _, rfl, _⟩ := h; rfl) | (obtain ⟨_, _, _, _, _, _, _, _, rfl, _⟩ := h; rfl) | (obtain ⟨_, _, _, _, _, _, _, _, _, rfl, _⟩ := h; rfl) | (obtain ⟨_, _, _, _, _, _, _, _, _, _, rfl, _⟩ := h; rfl) | (obtain ⟨_, _, _, _, _, _, _, _, _, _, _, rfl, _⟩ := h; rfl) | (obtain ⟨_, _, _, _, _, _, _, _, _, _, _, _, rfl, _⟩ := h; rfl) | (obtain ⟨_, _, _, _, _, _, _, _, _, _, _, _, _, rfl, _⟩ := h; rfl) | (obtain ⟨_, _, _, _, _, _, _, _, _, _, _, _, _, _, rfl, _⟩ := h; rfl)) (fun cdv A outer s H vs Q E hr h => ?_)
  obtain ⟨rd, toks, e, p, rfl, ⟨dx, ta, h1, ⟨ts, h2, h3⟩, h4⟩, q⟩ := h
  refine ⟨_, (pss_one (ps_ret (pe_cmpR op_eq (pe_fld (pv 0) rfl) (pe_callB call_len_seq (by rfl) T.n_len PySem.boot_len (pa_cons (pe_fld (pv 0) rfl) pa_nil)) (nomark _)))), ?_⟩
  refine ⟨_, rfl, rd, _, dx, _, _, rfl, h1, T.c_LineReader, T.a_position, lReader3, _, rfl, rd, _, dx, _, _, rfl, h1, T.c_LineReader, T.a_tokens, lReader1, ta, _, rfl, .inl (SqL.of h2), rfl, ?_⟩
  have e1 : decide (V.int (p : Int) = V.int (((ts.map V.ref).length : Nat) : Int)) = decide (toks.length ≤ p) := by
    rw [dec_int, List.length_map, pairedLen h3, Bool.eq_iff_iff, beq_iff_eq, decide_eq_true_eq]
    omega
  have := e1 ▸ q
  rw [e1]
  exact q
def sp_LineReader_word (K : PySem.W.Frag) : Sp := fun vs H Q _ => ∃ (rd : Addr) (toks : List Token) (e p : Nat), vs = [.ref rd] ∧ RdAt K H rd toks e p ∧ Q (.str (S (wordOf (cur toks e p)))) H
theorem ok_LineReader_word {f : Addr} {fd : FuncData} (T : Txt K mg) (me : Meth K (cl K "LineReader") "word" f) (F : FnP K "word" "LineReader.word" s_LineReader_word f fd) (m_is_done : C8.Met P w K mg base 1 (cl K "LineReader") "is_done" (sp_LineReader_is_done K) []) :
    C8.Met P w K mg base 2 (cl K "LineReader") "word" (sp_LineReader_word K) [] := by
  refine metMk T.c_LineReader me F (F.bindsN (ps := ["self"]) fun _ _ _ _ _ _ us hl => match us, hl with | [_], _ => rfl) sc_LineReader_word (fun vs H Q E h => by first | (obtain ⟨rfl, _⟩ := h; rfl) | (obtain ⟨_, rfl, _⟩ := h; rfl) | (obtain ⟨_, _, rfl, _⟩ := h; rfl) | (obtain ⟨_, _, _, rfl, _⟩ := h; rfl) | (obtain ⟨_, _, _, _, rfl, _⟩ := h; rfl) | (obtain ⟨_, _, _, _, _, rfl, _⟩ := h; rfl) | (obtain ⟨_, _, _, _, _, _, rfl, _⟩ := h; rfl) | (obtain ⟨_, _, _, _, _, _, _, rfl, _⟩ := h; rfl) | (obtain ⟨_, _, _, _, _, _, _, _, rfl, _⟩ := h; rfl) | (obtain ⟨_, _, _, _, _, _, _, _, _, rfl, _⟩ := h; rfl) | (obtain ⟨_, _, _, _, _, _, _, _, _, _, rfl, _⟩ := h; rfl) | (obtain ⟨_, _, _, _, _, _, _, _, _, _, _, rfl, _⟩ := h; rfl) | (obtain ⟨_, _, _, _, _, _, _, _, _, _, _, _, rfl, _⟩ := h; rfl) | (obtain ⟨_, _, _, _, _, _, _, _, _, _, _, _, _, rfl, _⟩ := h; rfl) | (obtain ⟨_, _, _, _, _, _, _, _, _, _, _, _, _, _, rfl, _⟩ := h; rfl)) (fun cdv A outer s H vs Q E hr h => ?_)
  obtain ⟨rd, toks, e, p, rfl, hR, q⟩ := h
  obtain ⟨dx, ta, h1, ⟨ts, h2, h3⟩, h4⟩ := id hR
  refine ⟨_, (pss_cons (ps_if (pt_val (C8.pe_mt0 m_is_done hr (by decide) (pv 0))) (pss_one (ps_ret pe_str)) pss_nil) (pss_one (ps_ret (pe_ix ix_tup (pe_ix ix_list (pe_fld (pv 0) rfl) (pe_fld (pv 0) rfl) (fun _ _ => rfl)) pe_int (fun _ _ => rfl))))), ?_⟩
  refine ⟨_, rfl, rd, dx, _, rfl, h1, lRdone, rd, toks, e, p, rfl, hR, _, rfl, ?_⟩
  by_cases hp : toks.length ≤ p
  · rw [decide_eq_true hp]
    refine iteT ?_
    rw [cur_none hp] at q
    show Q (.str "") H
    rw [← S_nil]
    exact q
  · rw [decide_eq_false hp]
    refine iteF ?_
    obtain ⟨t, ht, hT⟩ := pairedGet h3 (List.getElem?_eq_getElem (show p < toks.length by omega))
    rw [cur_some (List.getElem?_eq_getElem (show p < toks.length by omega))] at q
    refine ⟨_, rfl, rd, _, dx, _, _, rfl, h1, T.c_LineReader, T.a_tokens, lReader1, _, rfl, rd, _, dx, _, _, rfl, h1, T.c_LineReader, T.a_position, lReader3, ta, _, _, .ref t, rfl, rfl, SqL.of h2, atI_nat ?_, t, _, 1, _, rfl, rfl, SqT.of hT, atI_nat (j := 1) rfl, q⟩
    rw [List.getElem?_map, ht]
    rfl
def sp_LineReader_place (K : PySem.W.Frag) : Sp := fun vs H Q _ => ∃ (rd : Addr) (toks : List Token) (e p : Nat), vs = [.ref rd] ∧ RdAt K H rd toks e p ∧ Q (.int (currentOffset (cur toks e p) : Nat)) H
theorem ok_LineReader_place {f : Addr} {fd : FuncData} (T : Txt K mg) (me : Meth K (cl K "LineReader") "place" f) (F : FnP K "place" "LineReader.place" s_LineReader_place f fd) (m_is_done : C8.Met P w K mg base 1 (cl K "LineReader") "is_done" (sp_LineReader_is_done K) []) :
    C8.Met P w K mg base 2 (cl K "LineReader") "place" (sp_LineReader_place K) [] := by
  refine metMk T.c_LineReader me F (F.bindsN (ps := ["self"]) fun _ _ _ _ _ _ us hl => match us, hl with | [_], _ => rfl) sc_LineReader_place (fun vs H Q E h => by first | (obtain ⟨rfl, _⟩ := h; rfl) | (obtain ⟨_, rfl, _⟩ := h; rfl) | (obtain ⟨_, _, rfl, _⟩ := h; rfl) | (obtain ⟨_, _, _, rfl, _⟩ := h; rfl) | (obtain ⟨_, _, _, _, rfl, _⟩ := h; rfl) | (obtain ⟨_, _, _, _, _, rfl, _⟩ := h; rfl) | (obtain ⟨_, _, _, _, _, _, rfl, _⟩ := h; rfl) | (obtain ⟨_, _, _, _, _, _, _, rfl, _⟩ := h; rfl) | (obtain ⟨_, _, _, _, _, _, _, _, rfl, _⟩ := h; rfl) | (obtain ⟨_, _, _, _, _, _, _, _, _, rfl, _⟩ := h; rfl) | (obtain ⟨_, _, _, _, _, _, _, _, _, _, rfl, _⟩ := h; rfl) | (obtain ⟨_, _, _, _, _, _, _, _, _, _, _, rfl, _⟩ := h; rfl) | (obtain ⟨_, _, _, _, _, _, _, _, _, _, _, _, rfl, _⟩ := h; rfl) | (obtain ⟨_, _, _, _, _, _, _, _, _, _, _, _, _, rfl, _⟩ := h; rfl) | (obtain ⟨_, _, _, _, _, _, _, _, _, _, _, _, _, _, rfl, _⟩ := h; rfl)) (fun cdv A outer s H vs Q E hr h => ?_)
  obtain ⟨rd, toks, e, p, rfl, hR, q⟩ := h
  obtain ⟨dx, ta, h1, ⟨ts, h2, h3⟩, h4⟩ := id hR
  refine ⟨_, (pss_cons (ps_if (pt_val (C8.pe_mt0 m_is_done hr (by decide) (pv 0))) (pss_one (ps_ret (pe_fld (pv 0) rfl))) pss_nil) (pss_one (ps_ret (pe_ix ix_tup (pe_ix ix_list (pe_fld (pv 0) rfl) (pe_fld (pv 0) rfl) (fun _ _ => rfl)) pe_int (fun _ _ => rfl))))), ?_⟩
  refine ⟨_, rfl, rd, dx, _, rfl, h1, lRdone, rd, toks, e, p, rfl, hR, _, rfl, ?_⟩
  by_cases hp : toks.length ≤ p
  · rw [decide_eq_true hp]
    refine iteT ?_
    rw [cur_none hp] at q
    exact ⟨_, rfl, rd, _, dx, _, _, rfl, h1, T.c_LineReader, T.a_end, lReader2, q⟩
  · rw [decide_eq_false hp]
    refine iteF ?_
    obtain ⟨t, ht, hT⟩ := pairedGet h3 (List.getElem?_eq_getElem (show p < toks.length by omega))
    rw [cur_some (List.getElem?_eq_getElem (show p < toks.length by omega))] at q
    refine ⟨_, rfl, rd, _, dx, _, _, rfl, h1, T.c_LineReader, T.a_tokens, lReader1, _, rfl, rd, _, dx, _, _, rfl, h1, T.c_LineReader, T.a_position, lReader3, ta, _, _, .ref t, rfl, rfl, SqL.of h2, atI_nat ?_, t, _, 0, _, rfl, rfl, SqT.of hT, atI_nat (j := 0) rfl, q⟩
    rw [List.getElem?_map, ht]
    rfl
def sp_LineReader_advance (K : PySem.W.Frag) : Sp := fun vs H Q _ => ∃ (rd : Addr) (toks : List Token) (e p : Nat), vs = [.ref rd] ∧ RdAt K H rd toks e p ∧ p < toks.length ∧ ∀ H', Keep rd H H' → RdAt K H' rd toks e (p + 1) → Q .non H'
theorem ok_LineReader_advance {f : Addr} {fd : FuncData} (T : Txt K mg) (me : Meth K (cl K "LineReader") "advance" f) (F : FnP K "advance" "LineReader.advance" s_LineReader_advance f fd)  :
    C8.Met P w K mg base 1 (cl K "LineReader") "advance" (sp_LineReader_advance K) [] := by
  refine metMk T.c_LineReader me F (F.bindsN (ps := ["self"]) fun _ _ _ _ _ _ us hl => match us, hl with | [_], _ => rfl) sc_LineReader_advance (fun vs H Q E h => by first | (obtain ⟨rfl, _⟩ := h; rfl) | (obtain ⟨_, rfl, _⟩ := h; rfl) | (obtain ⟨_, _, rfl, _⟩ := h; rfl) | (obtain ⟨_, _, _, rfl, _⟩ := h; rfl) | (obtain ⟨_, _, _, _, rfl, _⟩ := h; rfl) | (obtain ⟨_, _, _, _, _, rfl, _⟩ := h; rfl) | (obtain ⟨_, _, _, _, _, _, rfl, _⟩ := h; rfl) | (obtain ⟨_, _, _, _, _, _, _, rfl, _⟩ := h; rfl) | (obtain ⟨_, _, _, _, _, _, _, _, rfl, _⟩ := h; rfl) | (obtain ⟨_, _, _, _, _, _, _, _, _, rfl, _⟩ := h; rfl) | (obtain ⟨_, _, _, _, _, _, _, _, _, _, rfl, _⟩ := h; rfl) | (obtain ⟨_, _, _, _, _, _, _, _, _, _, _, rfl, _⟩ := h; rfl) | (obtain ⟨_, _, _, _, _, _, _, _, _, _, _, _, rfl, _⟩ := h; rfl) | (obtain ⟨_, _, _, _, _, _, _, _, _, _, _, _, _, rfl, _⟩ := h; rfl) | (obtain ⟨_, _, _, _, _, _, _, _, _, _, _, _, _, _, rfl, _⟩ := h; rfl)) (fun cdv A outer s H vs Q E hr h => ?_)
  obtain ⟨rd, toks, e, p, rfl, ⟨dx, ta, h1, h2, h4⟩, hp, q⟩ := h
  refine ⟨_, (pss_one (ps_fld (pv 0) (pe_op op_add (pe_fld (pv 0) rfl) pe_int) rfl)), ?_⟩
  refine ⟨_, rfl, rd, _, dx, _, _, rfl, h1, T.c_LineReader, T.a_position, lReader3, _, _, rfl, rfl, ?_⟩
  refine ⟨_, rfl, rd, _, dx, _, rfl, h1, T.c_LineReader, T.a_position, by show 3 < 1000; decide, ?_⟩
  have k : Keep rd H (upd H rd (.ins (cl K "LineReader") dx (fReader ta (e : Nat) ((p + 1 : Nat) : Int)))) := fun b o hb e => by
    rw [upd_ne hb]
    exact e
  dsimp only
  rw [show (p : Int) + 1 = ((p + 1 : Nat) : Int) by omega, pReaderP]
  exact q _ k ⟨dx, ta, upd_same, h2.keep h1 k, by omega⟩
def sp_LineReader_fail (K : PySem.W.Frag) : Sp := fun vs H Q E => ∃ (rd : Addr) (toks : List Token) (e p k : Nat), vs = [.ref rd, .int (k : Nat)] ∧ RdAt K H rd toks e p ∧ Fl K rd H ⟨k, currentOffset (cur toks e p)⟩ E
theorem ok_LineReader_fail {f : Addr} {fd : FuncData} (T : Txt K mg) (me : Meth K (cl K "LineReader") "fail" f) (F : FnP K "fail" "LineReader.fail" s_LineReader_fail f fd) (fault : FaultI P w K mg base) (m_place : C8.Met P w K mg base 2 (cl K "LineReader") "place" (sp_LineReader_place K) []) :
    MetX P w K mg base 3 (cl K "LineReader") "fail" (sp_LineReader_fail K) := by
  refine metXMk T.c_LineReader me F (F.bindsN (ps := ["self", "kind"]) fun _ _ _ _ _ _ us hl => match us, hl with | [_, _], _ => rfl) sc_LineReader_fail (fun vs H Q E h => by first | (obtain ⟨rfl, _⟩ := h; rfl) | (obtain ⟨_, rfl, _⟩ := h; rfl) | (obtain ⟨_, _, rfl, _⟩ := h; rfl) | (obtain ⟨_, _, _, rfl, _⟩ := h; rfl) | (obtain ⟨_, _, _, _, rfl, _⟩ := h; rfl) | (obtain ⟨_, _, _, _, _, rfl, _⟩ := h; rfl) | (obtain ⟨_, _, _, _, _, _, rfl, _⟩ := h; rfl) | (obtain ⟨_, _, _, _, _, _, _, rfl, _⟩ := h; rfl) | (obtain ⟨_, _, _, _, _, _, _, _, rfl, _⟩ := h; rfl) | (obtain ⟨_, _, _, _, _, _, _, _, _, rfl, _⟩ := h; rfl) | (obtain ⟨_, _, _, _, _, _, _, _, _, _, rfl, _⟩ := h; rfl) | (obtain ⟨_, _, _, _, _, _, _, _, _, _, _, rfl, _⟩ := h; rfl) | (obtain ⟨_, _, _, _, _, _, _, _, _, _, _, _, rfl, _⟩ := h; rfl) | (obtain ⟨_, _, _, _, _, _, _, _, _, _, _, _, _, rfl, _⟩ := h; rfl) | (obtain ⟨_, _, _, _, _, _, _, _, _, _, _, _, _, _, rfl, _⟩ := h; rfl)) (fun cdv A outer s H vs Q E hr h => ?_)
  obtain ⟨rd, toks, e, p, k, rfl, hR, q⟩ := h
  refine ⟨_, (pss_one (ps_raise (by rfl) (takes_of rfl rfl rfl rfl) (pmkF fault hr (by decide) (by rfl) (pa_cons (pv 1) (pa_cons (C8.pe_mt0 m_place hr (by decide) (pv 0)) pa_nil))))), ?_⟩
  obtain ⟨dx, ta, h1, _, _⟩ := id hR
  refine ⟨_, rfl, _, rfl, rd, dx, _, rfl, h1, lRplace, rd, toks, e, p, rfl, hR, mkF fun d H' s hd => q d H' (keepOf s) hd⟩
def sp_line_tokens (K : PySem.W.Frag) : Sp := fun vs H Q _ => ∃ (line : List Nat) (st : Nat), vs = [.str (S line), .int (st : Nat)] ∧ line.length ≤ 10000 ∧ ∀ H' q, Same H H' → H q = none → ToksAt H' q (toksOf (splitAtByte 32 st line)) → Q (.ref q) H'
theorem ok_line_tokens {f : Addr} {fd : FuncData} (T : Txt K mg) (F : FnP K "line_tokens" "line_tokens" s_line_tokens f fd) (hm : mg "line_tokens" = some (.ref f))  :
    C8.Cal P w K mg base 1 "line_tokens" (sp_line_tokens K) [] := by
  refine calMk F hm (F.bindsN (ps := ["line", "start"]) fun _ _ _ _ _ _ us hl => match us, hl with | [_, _], _ => rfl) sc_line_tokens (fun vs H Q E h => by first | (obtain ⟨rfl, _⟩ := h; rfl) | (obtain ⟨_, rfl, _⟩ := h; rfl) | (obtain ⟨_, _, rfl, _⟩ := h; rfl) | (obtain ⟨_, _, _, rfl, _⟩ := h; rfl) | (obtain ⟨_, _, _, _, rfl, _⟩ := h; rfl) | (obtain ⟨_, _, _, _, _, rfl, _⟩ := h; rfl) | (obtain ⟨_, _, _, _, _, _, rfl, _⟩ := h; rfl) | (obtain ⟨_, _, _, _, _, _, _, rfl, _⟩ := h; rfl) | (obtain ⟨_, _, _, _, _, _, _, _, rfl, _⟩ := h; rfl) | (obtain ⟨_, _, _, _, _, _, _, _, _, rfl, _⟩ := h; rfl) | (obtain ⟨_, _, _, _, _, _, _, _, _, _, rfl, _⟩ := h; rfl) | (obtain ⟨_, _, _, _, _, _, _, _, _, _, _, rfl, _⟩ := h; rfl) | (obtain ⟨_, _, _, _, _, _, _, _, _, _, _, _, rfl, _⟩ := h; rfl) | (obtain ⟨_, _, _, _, _, _, _, _, _, _, _, _, _, rfl, _⟩ := h; rfl) | (obtain ⟨_, _, _, _, _, _, _, _, _, _, _, _, _, _, rfl, _⟩ := h; rfl)) (fun cdv A outer s H vs Q E hr h => ?_)
  obtain ⟨line, st, rfl, hl, q⟩ := h
  refine ⟨_, (pss_cons (ps_set (i := 2) sc_line_tokens.nd rfl (Or.inl rfl) (pe_lst pa_nil)) (pss_cons (ps_set (i := 3) sc_line_tokens.nd rfl (Or.inl rfl) (pv 1)) (pss_cons (ps_for PassesOwn.never (by rfl) (pi_list (pe_split (pv 0) pe_str)) (pg_name (i := 4) sc_line_tokens.nd rfl (Or.inl rfl)) (pss_cons (ps_if (pt_cmpR op_ne (pv 4) pe_str (nomark _)) (pss_one (ps_expr (pe_bm PySem.F.plainAttrs_list PySem.F.slot_list_append PySem.F.type_list_append mt_append (pv 2) (pa_cons (pe_tup (pa_cons (pv 3) (pa_cons (pv 4) pa_nil))) pa_nil)))) pss_nil) (pss_one (ps_set (i := 3) sc_line_tokens.nd rfl (Or.inl rfl) (pe_op op_add (pe_op op_add (pv 3) (pe_callB call_len_str (by rfl) T.n_len PySem.boot_len (pa_cons (pv 4) pa_nil))) pe_int))))) (pss_one (ps_ret (pv 2)))))), ?_⟩
  refine ⟨by show 0 ≤ sizeLine; decide, fun D hD => ?_⟩
  have sD : Same H (upd H D (.lst [])) := sameUpd hD
  refine ⟨_, rfl, ?_⟩
  have hsum := spl_sum 32 line []
  generalize hL : TL.spl [32] 0 [] line = L at hsum
  rw [List.length_nil, Nat.zero_add] at hsum
  have hLl : L.length ≤ line.length + 1 := Nat.le_trans (len_le_sum L) (by omega)
  refine ⟨_, rfl, ⟨_, rfl⟩, S line, S [32], rfl, by decide +kernel, by decide +kernel, ?_, ?_⟩
  · rw [SX.S_len]
    exact sizeI (by omega)
  rw [SX.split_S (by decide) (by decide), hL]
  intro p1 hp1
  generalize hH1 : upd H D (.lst []) = H1 at hp1 sD
  have s1 : Same H1 (upd H1 p1 (.lst ((L.map S).map V.str))) := sameUpd hp1
  have eD1 : H1 D = some (.lst []) := by rw [← hH1]; exact upd_same
  generalize hH2 : upd H1 p1 (.lst ((L.map S).map V.str)) = H2 at s1
  have ep : H2 p1 = some (.lst ((L.map S).map V.str)) := by rw [← hH2]; exact upd_same
  have npD : p1 ≠ D := fun x => by subst x; rw [hp1] at eD1; cases eD1
  refine ⟨p1, rfl, ⟨_, SqL.of ep⟩, ?_⟩
  refine for_list (xs := (L.map S).map V.str) (fun i σ H3 => ∃ (pl : Nat) (y4 : Option V) (ts : List Addr) (done : List (Nat × List Nat)), σ = [some (.str (S line)), some (.int (st : Nat)), some (.ref D), some (.int (pl : Nat)), y4] ∧
    Keep D H2 H3 ∧ H3 D = some (.lst (ts.map V.ref)) ∧ Paired (TokAt H3) ts (toksOf done) ∧ offs st L = done ++ offs pl (L.drop i) ∧ done.length ≤ 10001) ⟨st, none, [], [], rfl, Keep.refl, s1 _ _ eD1, .nil, rfl, Nat.zero_le _⟩
    (fun i σ H3 _ h => by obtain ⟨_, _, _, _, _, k, _⟩ := h; exact SqL.of (k _ _ npD ep)) ?_ ?_
  · rintro i x σ H3 hx ⟨pl, y4, ts, done, rfl, k, eD, hts, ho, hdl⟩
    rw [List.getElem?_map, List.getElem?_map] at hx
    obtain ⟨x1, hx1, rfl⟩ := Option.map_eq_some_iff.mp hx
    obtain ⟨w, hw, rfl⟩ := Option.map_eq_some_iff.mp hx1
    have hdr : L.drop i = w :: L.drop (i + 1) := by
      have hi := walkLenLe hw
      rw [List.drop_eq_getElem_cons hi]
      congr 1
      exact Option.some.inj ((List.getElem?_eq_getElem hi).symm.trans hw)
    have hwl : w.length ≤ 10000 := by
      have := mem_le_sum L w (List.mem_of_getElem? hw)
      omega
    have ho2 : offs st L = (done ++ [(pl, w)]) ++ offs (pl + w.length + 1) (L.drop (i + 1)) := by
      rw [ho, hdr, List.append_assoc]
      rfl
    have hdl2 : (done ++ [(pl, w)]).length ≤ 10001 := by
      have := congrArg List.length ho2
      rw [offs_len, List.length_append] at this
      omega
    have htl : ts.length ≤ 10001 := by
      rw [pairedLen hts]
      unfold toksOf
      rw [List.length_map]
      exact Nat.le_trans (List.length_filter_le ..) hdl
    refine ⟨_, rfl, rfl, _, rfl, ?_⟩
    have e1 : (!decide (V.str (S w) = V.str "")) = !decide (w = []) := by rw [← S_nil, dec_str]
    show if (!decide (V.str (S w) = V.str "")) = true then _ else _
    rw [e1]
    have est : ((pl : Int) + ((S w).length : Nat)) + 1 = ((pl + w.length + 1 : Nat) : Int) := by rw [SX.S_len]; omega
    by_cases hwn : w = []
    · rw [decide_eq_true hwn]
      refine iteF ⟨_, rfl, _, rfl, S w, rfl, ?_, _, _, rfl, rfl, _, _, rfl, rfl, ?_⟩
      · rw [SX.S_len]; exact sizeI (by omega)
      dsimp only
      rw [est]
      refine ⟨pl + w.length + 1, some (.str (S w)), ts, done ++ [(pl, w)], rfl, k, eD, ?_, ho2, hdl2⟩
      rw [toksOf_app]
      have : toksOf [(pl, w)] = [] := by rw [hwn]; rfl
      rw [this, List.append_nil]
      exact hts
    · rw [decide_eq_false hwn]
      refine iteT ⟨_, rfl, .inl ⟨rfl, _, SqL.of eD⟩, _, rfl, _, rfl, by show 2 ≤ sizeLine; decide, fun t ht => ?_⟩
      have st2 : Same H3 (upd H3 t (.tup [V.int (pl : Nat), V.str (S w)])) := sameUpd ht
      have nt : D ≠ t := ne_of_none eD ht
      refine ⟨D, ts.map V.ref, _, rfl, rfl, st2 _ _ eD, lenI (by rw [List.length_map]; omega), ?_⟩
      refine ⟨_, rfl, _, rfl, S w, rfl, ?_, _, _, rfl, rfl, _, _, rfl, rfl, ?_⟩
      · rw [SX.S_len]; exact sizeI (by omega)
      dsimp only
      rw [est]
      refine ⟨pl + w.length + 1, some (.str (S w)), ts ++ [t], done ++ [(pl, w)], rfl, fun b o hb e => ?_, ?_, ?_, ho2, hdl2⟩
      · rw [upd_ne hb]
        exact st2 _ _ (k b o hb e)
      · rw [upd_same, List.map_append]
        rfl
      · rw [toksOf_app]
        have : toksOf [(pl, w)] = [⟨pl, w⟩] := by
          unfold toksOf
          have hne : (!(pl, w).2.isEmpty) = true := by
            cases w with
            | nil => exact absurd rfl hwn
            | cons _ _ => rfl
          rw [List.filter_cons, if_pos hne]
          rfl
        rw [this]
        refine pairedSnoc ?_ (pairedImp (fun t' x q => ?_) hts)
        · show upd _ _ _ _ = _
          rw [upd_ne (Ne.symm nt), upd_same]
        · have q' : H3 t' = some (.tup _) := q
          have : t' ≠ D := ne_tup q' eD
          show upd _ _ _ _ = _
          rw [upd_ne this]
          exact st2 _ _ q
  · rintro σ H3 ⟨pl, y4, ts, done, rfl, k, eD, hts, ho, hdl⟩
    have hd0 : L.drop ((L.map S).map V.str).length = [] := List.drop_eq_nil_of_le (by rw [List.length_map, List.length_map]; exact Nat.le_refl _)
    rw [hd0] at ho
    have ho' : done = offs st L := by
      rw [ho]
      show _ = done ++ []
      rw [List.append_nil]
    refine ⟨_, rfl, q H3 D (fun b o e => k b o (ne_of_none e hD) (s1 _ _ (sD _ _ e))) hD ⟨ts, eD, ?_⟩⟩
    rw [ho', ← hL, offs_split] at hts
    exact hts
def sp_readable_sign (K : PySem.W.Frag) : Sp := fun vs H Q _ => ∃ c : Nat, vs = [.int (c : Nat)] ∧ Q (.str (S [sig c])) H
theorem ok_readable_sign {f : Addr} {fd : FuncData} (T : Txt K mg) (F : FnP K "readable_sign" "readable_sign" s_readable_sign f fd) (hm : mg "readable_sign" = some (.ref f))  :
    C8.Cal P w K mg base 1 "readable_sign" (sp_readable_sign K) [] := by
  refine calMk F hm (F.bindsN (ps := ["code"]) fun _ _ _ _ _ _ us hl => match us, hl with | [_], _ => rfl) sc_readable_sign (fun vs H Q E h => by first | (obtain ⟨rfl, _⟩ := h; rfl) | (obtain ⟨_, rfl, _⟩ := h; rfl) | (obtain ⟨_, _, rfl, _⟩ := h; rfl) | (obtain ⟨_, _, _, rfl, _⟩ := h; rfl) | (obtain ⟨_, _, _, _, rfl, _⟩ := h; rfl) | (obtain ⟨_, _, _, _, _, rfl, _⟩ := h; rfl) | (obtain ⟨_, _, _, _, _, _, rfl, _⟩ := h; rfl) | (obtain ⟨_, _, _, _, _, _, _, rfl, _⟩ := h; rfl) | (obtain ⟨_, _, _, _, _, _, _, _, rfl, _⟩ := h; rfl) | (obtain ⟨_, _, _, _, _, _, _, _, _, rfl, _⟩ := h; rfl) | (obtain ⟨_, _, _, _, _, _, _, _, _, _, rfl, _⟩ := h; rfl) | (obtain ⟨_, _, _, _, _, _, _, _, _, _, _, rfl, _⟩ := h; rfl) | (obtain ⟨_, _, _, _, _, _, _, _, _, _, _, _, rfl, _⟩ := h; rfl) | (obtain ⟨_, _, _, _, _, _, _, _, _, _, _, _, _, rfl, _⟩ := h; rfl) | (obtain ⟨_, _, _, _, _, _, _, _, _, _, _, _, _, _, rfl, _⟩ := h; rfl)) (fun cdv A outer s H vs Q E hr h => ?_)
  obtain ⟨c, rfl, q⟩ := h
  refine ⟨_, (pss_cons (ps_if (pt_cmpR op_eq (pv 0) pe_int (nomark _)) (pss_one (ps_ret pe_str)) pss_nil) (pss_cons (ps_if (pt_cmpR op_eq (pv 0) pe_int (nomark _)) (pss_one (ps_ret pe_str)) pss_nil) (pss_cons (ps_if (pt_chain op_le op_le pe_int (pv 0) pe_int) (pss_one (ps_ret (pe_ix ix_str (C8.pe_gc (by rfl) T.g_DIGITS) (pe_op op_sub (pv 0) pe_int) (fun _ _ => rfl)))) pss_nil) (pss_cons (ps_if (pt_chain op_le op_le pe_int (pv 0) pe_int) (pss_one (ps_ret (pe_ix ix_str (C8.pe_gc (by rfl) T.g_LETTERS) (pe_op op_sub (pv 0) pe_int) (fun _ _ => rfl)))) pss_nil) (pss_one (ps_ret (C8.pe_gc (by rfl) T.g_FOREIGN))))))), ?_⟩
  refine ⟨_, rfl, rfl, _, rfl, ?_⟩
  have dn : ∀ k : Nat, decide (V.int (c : Int) = V.int (k : Int)) = decide (c = k) := fun k => by
    rw [dec_int, Bool.eq_iff_iff, beq_iff_eq, decide_eq_true_eq]
    omega
  show if decide (V.int (c : Int) = V.int ((10 : Nat) : Int)) = true then _ else _
  rw [dn]
  by_cases h10 : c = 10
  · subst h10
    exact iteT q
  rw [decide_eq_false h10]
  refine iteF ⟨_, rfl, rfl, _, rfl, ?_⟩
  show if decide (V.int (c : Int) = V.int ((32 : Nat) : Int)) = true then _ else _
  rw [dn]
  by_cases h32 : c = 32
  · subst h32
    exact iteT q
  rw [decide_eq_false h32]
  refine iteF ⟨_, rfl, _, _, rfl, rfl, _, rfl, ?_⟩
  have e1 : (c == 10) = false := by simpa using h10
  have e2 : (c == 32) = false := by simpa using h32
  by_cases a1 : 48 ≤ c
  · rw [decide_eq_true (show (48 : Int) ≤ (c : Int) by omega)]
    refine iteT ⟨_, _, rfl, rfl, _, rfl, ?_⟩
    by_cases a2 : c ≤ 57
    · rw [decide_eq_true (show (c : Int) ≤ (57 : Int) by omega)]
      refine iteT ⟨_, rfl, _, _, rfl, rfl, _, _, c, rfl, rfl, by show 10 ≤ sizeLine; decide, ?_, ?_⟩
      · show atI ("0123456789" : Str).cps.toList ((c : Int) - 48) = _
        rw [cps_digits, show (c : Int) - 48 = ((c - 48 : Nat) : Int) by omega]
        refine (atI_nat (rangeAt (show c - 48 < 10 by omega))).trans (congrArg some ?_)
        omega
      · have es : sig c = c := sig_known (by unfold known isDigit; rw [decide_eq_true a1, decide_eq_true a2]; simp)
        rw [es] at q
        exact q
    · rw [decide_eq_false (show ¬ (c : Int) ≤ (57 : Int) by omega)]
      refine iteF ⟨_, rfl, _, _, rfl, rfl, _, rfl, ?_⟩
      by_cases a3 : 97 ≤ c
      · rw [decide_eq_true (show (97 : Int) ≤ (c : Int) by omega)]
        refine iteT ⟨_, _, rfl, rfl, _, rfl, ?_⟩
        by_cases a4 : c ≤ 122
        · rw [decide_eq_true (show (c : Int) ≤ (122 : Int) by omega)]
          refine iteT ⟨_, rfl, _, _, rfl, rfl, _, _, c, rfl, rfl, by show 26 ≤ sizeLine; decide, ?_, ?_⟩
          · show atI ("abcdefghijklmnopqrstuvwxyz" : Str).cps.toList ((c : Int) - 97) = _
            rw [cps_letters, show (c : Int) - 97 = ((c - 97 : Nat) : Int) by omega]
            refine (atI_nat (rangeAt (show c - 97 < 26 by omega))).trans (congrArg some ?_)
            omega
          · have es : sig c = c := sig_known (by unfold known isLowercase; rw [decide_eq_true a3, decide_eq_true a4]; simp)
            rw [es] at q
            exact q
        · rw [decide_eq_false (show ¬ (c : Int) ≤ (122 : Int) by omega)]
          refine iteF ?_
          have es : sig c = 63 := if_neg (by unfold known isDigit isLowercase; rw [e1, e2, decide_eq_false a2, decide_eq_false a4]; simp)
          rw [es] at q
          exact q
      · rw [decide_eq_false (show ¬ (97 : Int) ≤ (c : Int) by omega)]
        refine iteF ⟨_, rfl, iteF ?_⟩
        have es : sig c = 63 := if_neg (by unfold known isDigit isLowercase; rw [e1, e2, decide_eq_false a2, decide_eq_false a3]; simp)
        rw [es] at q
        exact q
  · rw [decide_eq_false (show ¬ (48 : Int) ≤ (c : Int) by omega)]
    refine iteF ⟨_, rfl, iteF ⟨_, rfl, _, _, rfl, rfl, _, rfl, ?_⟩⟩
    rw [decide_eq_false (show ¬ (97 : Int) ≤ (c : Int) by omega)]
    refine iteF ⟨_, rfl, iteF ?_⟩
    have es : sig c = 63 := if_neg (by unfold known isDigit isLowercase; rw [e1, e2, decide_eq_false a1, decide_eq_false (show ¬ 97 ≤ c by omega)]; simp)
    rw [es] at q
    exact q
def sp_readable_text (K : PySem.W.Frag) : Sp := fun vs H Q _ => ∃ (p : Addr) (codes : List Nat), vs = [.ref p] ∧ H p = some (.lst (nats codes)) ∧ codes.length ≤ 10000 ∧ ∀ H', Same H H' → Q (.str (S (codes.map sig))) H'
theorem ok_readable_text {f : Addr} {fd : FuncData} (T : Txt K mg) (F : FnP K "readable_text" "readable_text" s_readable_text f fd) (hm : mg "readable_text" = some (.ref f)) (c_readable_sign : C8.Cal P w K mg base 1 "readable_sign" (sp_readable_sign K) []) :
    C8.Cal P w K mg base 2 "readable_text" (sp_readable_text K) [] := by
  refine calMk F hm (F.bindsN (ps := ["codes"]) fun _ _ _ _ _ _ us hl => match us, hl with | [_], _ => rfl) sc_readable_text (fun vs H Q E h => by first | (obtain ⟨rfl, _⟩ := h; rfl) | (obtain ⟨_, rfl, _⟩ := h; rfl) | (obtain ⟨_, _, rfl, _⟩ := h; rfl) | (obtain ⟨_, _, _, rfl, _⟩ := h; rfl) | (obtain ⟨_, _, _, _, rfl, _⟩ := h; rfl) | (obtain ⟨_, _, _, _, _, rfl, _⟩ := h; rfl) | (obtain ⟨_, _, _, _, _, _, rfl, _⟩ := h; rfl) | (obtain ⟨_, _, _, _, _, _, _, rfl, _⟩ := h; rfl) | (obtain ⟨_, _, _, _, _, _, _, _, rfl, _⟩ := h; rfl) | (obtain ⟨_, _, _, _, _, _, _, _, _, rfl, _⟩ := h; rfl) | (obtain ⟨_, _, _, _, _, _, _, _, _, _, rfl, _⟩ := h; rfl) | (obtain ⟨_, _, _, _, _, _, _, _, _, _, _, rfl, _⟩ := h; rfl) | (obtain ⟨_, _, _, _, _, _, _, _, _, _, _, _, rfl, _⟩ := h; rfl) | (obtain ⟨_, _, _, _, _, _, _, _, _, _, _, _, _, rfl, _⟩ := h; rfl) | (obtain ⟨_, _, _, _, _, _, _, _, _, _, _, _, _, _, rfl, _⟩ := h; rfl)) (fun cdv A outer s H vs Q E hr h => ?_)
  obtain ⟨p, codes, rfl, e, hl, q⟩ := h
  refine ⟨_, (pss_one (ps_ret (pe_join pe_str (pe_lc (own := [("code", 1)]) (g := (gName 1)) (by rfl) sc_readable_text.nd (pi_list (pv 0)) (blkOk_by (own := [("code", 1)]) (N := ["codes", "code"]) (sc := defScope s_readable_text) (by decide +kernel)) (fun _ _ _ _ _ => pg_name (i := 1) sc_readable_text.nd rfl (Or.inl rfl)) (fun _ _ _ _ _ => pts_nil) (fun _ _ _ _ _ => (C8.pe_c c_readable_sign hr (by decide) (by rfl) (pa_cons (pv 1) pa_nil))))))), ?_⟩
  have hnl : (nats codes).length = codes.length := by unfold nats; rw [List.length_map]
  refine ⟨⟨_, rfl⟩, _, rfl, p, rfl, ⟨_, SqL.of e⟩, fun D hD => ?_⟩
  refine lcM walk_list codes (fun c => V.str (S [sig c])) (by rw [hnl]) (by rw [hnl]; omega) hD (fun H1 s1 => SqL.of (s1 _ _ e)) (fun i x v H1 H2 hx s1 hy N y1 => ?_) (fun H1 s1 e1 => ?_) (gNameMono _)
  · obtain ⟨rfl, hv⟩ := hy
    unfold nats at hv
    rw [List.getElem?_map, hx] at hv
    obtain rfl : V.int (x : Nat) = v := Option.some.inj hv
    exact ⟨rfl, _, rfl, x, rfl, y1 _ (Same.refl _)⟩
  · refine ⟨"", D, (codes.map fun c => [sig c]).map S, rfl, rfl, .inl ?_, ?_, ?_⟩
    · rw [List.map_map, List.map_map]
      exact SqL.of e1
    · rw [SX.lens, List.length_map, List.map_map, List.length_map]
      have e0 : (codes.map ((fun x : List Nat => x.length) ∘ fun c => [sig c])).sum = codes.length := by
        clear q hnl e1 e hl
        induction codes with
        | nil => rfl
        | cons c l ih =>
          rw [List.map_cons, List.sum_cons, List.length_cons, ih]
          show 1 + _ = _
          omega
      have e2 : ("" : Str).length = 0 := by decide +kernel
      rw [e2]
      have e3 : (codes.map ((fun x : List Nat => x.length) ∘ fun c => [sig c])).sum ≤ 10000 := by rw [e0]; exact hl
      omega
    · have q2 := q H1 s1
      rw [← S_nil, SX.join_S, joinNil]
      have e4 : (codes.map fun c => [sig c]).flatten = codes.map sig := by
        clear hnl e1 e hl q2 q
        induction codes with
        | nil => rfl
        | cons c l ih => rw [List.map_cons, List.flatten_cons, ih]; rfl
      rw [e4]
      exact q2
end
end SI

set_option maxHeartbeats 4000000
namespace SI
open PySem PySem.Spec PyProof.Rows L2
open SX (S)
open Vbndaa (Token Cursor ParseError splitAtByte currentOffset isDigit isLowercase natOfToken valueOf toBytes)
def Tk (toks : List Token) : Prop := (∀ t ∈ toks, t.bytes.length ≤ 10000) ∧ toks.length ≤ 20000
theorem Tk.word {toks : List Token} (h : Tk toks) (e p : Nat) : (wordOf (cur toks e p)).length ≤ 10000 := by
  by_cases hp : p < toks.length
  · rw [cur_some (List.getElem?_eq_getElem hp) e]
    exact h.1 _ (List.getElem_mem hp)
  · rw [cur_none (by omega)]
    exact Nat.zero_le _
theorem S_by : S (toBytes "by") = ("by" : Str) := by decide +kernel
theorem S_any : S (toBytes "any") = ("any" : Str) := by decide +kernel
theorem S_of : S (toBytes "of") = ("of" : Str) := by decide +kernel
theorem S_weight : S (toBytes "weight") = ("weight" : Str) := by decide +kernel
theorem S_player : S (toBytes "player") = ("player" : Str) := by decide +kernel
theorem S_keep : S (toBytes "keep") = ("keep" : Str) := by decide +kernel
theorem S_zero : S [48] = ("0" : Str) := by decide +kernel
theorem res_in (w : List Nat) : inV (.str (S w)) [.str "by", .str "any", .str "of", .str "weight"] = Vbndam.reservedWords.contains w := by
  have e : ∀ v : List Nat, eqV (.str (S v)) (.str (S w)) = (v == w) := fun v => SX.S_beq v w
  have c : ∀ v : List Nat, (v == w) = (w == v) := fun v => by rw [Bool.eq_iff_iff, beq_iff_eq, beq_iff_eq]; exact eq_comm
  rw [← S_by, ← S_any, ← S_of, ← S_weight]
  show (eqV _ _ || (eqV _ _ || (eqV _ _ || (eqV _ _ || false)))) = _
  rw [e, e, e, e, c, c, c, c]
  show _ = List.elem w [_, _, _, _]
  unfold List.elem List.elem List.elem List.elem List.elem
  cases (w == toBytes "by") <;> cases (w == toBytes "any") <;> cases (w == toBytes "of") <;> cases (w == toBytes "weight") <;> rfl
theorem cps_get (w : List Nat) (i : Nat) : (S w).cps[i]? = w[i]? := by simp [SX.S]
theorem S_cps (w : List Nat) : (S w).cps.toList = w := rfl
section
variable {P : Program} {w : World} {K : PySem.W.Frag} {mg : Str → Option Value} {base : Heap}
def sp_LineReader_init (K : PySem.W.Frag) : Sp := fun vs H Q _ => ∃ (x dx : Addr) (line : List Nat) (st : Nat), vs = [.ref x, .str (S line), .int (st : Nat)] ∧ H x = some (.ins (cl K "LineReader") dx []) ∧ line.length ≤ 10000 ∧
  ∀ H', Keep x H H' → RdAt K H' x (toksOf (splitAtByte 32 st line)) (st + line.length) 0 → Q .non H'
theorem ok_LineReader_init {f : Addr} {fd : FuncData} (T : Txt K mg) (M : Mk K (cl K "LineReader") f) (hm : mg "LineReader" = some (.ref (cl K "LineReader"))) (F : FnP K "__init__" "LineReader.__init__" s_LineReader_init f fd) (c_line_tokens : C8.Cal P w K mg base 1 "line_tokens" (sp_line_tokens K) []) :
    C8.Mak P w K mg base 2 "LineReader" (cl K "LineReader") (sp_LineReader_init K) [] := by
  refine makMk M hm F (F.bindsN (ps := ["self", "line", "start"]) fun _ _ _ _ _ _ us hl => match us, hl with | [_, _, _], _ => rfl) sc_LineReader_init (fun vs H Q E h => by first | (obtain ⟨rfl, _⟩ := h; rfl) | (obtain ⟨_, rfl, _⟩ := h; rfl) | (obtain ⟨_, _, rfl, _⟩ := h; rfl) | (obtain ⟨_, _, _, rfl, _⟩ := h; rfl) | (obtain ⟨_, _, _, _, rfl, _⟩ := h; rfl) | (obtain ⟨_, _, _, _, _, rfl, _⟩ := h; rfl) | (obtain ⟨_, _, _, _, _, _, rfl, _⟩ := h; rfl) | (obtain ⟨_, _, _, _, _, _, _, rfl, _⟩ := h; rfl) | (obtain ⟨_, _, _, _, _, _, _, _, rfl, _⟩ := h; rfl) | (obtain ⟨_, _, _, _, _, _, _, _, _, rfl, _⟩ := h; rfl) | (obtain ⟨_, _, _, _, _, _, _, _, _, _, rfl, _⟩ := h; rfl) | (obtain ⟨_, _, _, _, _, _, _, _, _, _, _, rfl, _⟩ := h; rfl) | (obtain ⟨_, _, _, _, _, _, _, _, _, _, _, _, rfl, _⟩ := h; rfl) | (obtain ⟨_, _, _, _, _, _, _, _, _, _, _, _, _, rfl, _⟩ := h; rfl) | (obtain ⟨_, _, _, _, _, _, _, _, _, _, _, _, _, _, rfl, _⟩ := h; rfl)) (fun cdv A outer s H vs Q E hr h => ?_)
  obtain ⟨x, dx, line, st, rfl, e, hl, q⟩ := h
  refine ⟨_, (pss_cons (ps_fld (pv 0) (C8.pe_c c_line_tokens hr (by decide) (by rfl) (pa_cons (pv 1) (pa_cons (pv 2) pa_nil))) rfl) (pss_cons (ps_fld (pv 0) (pe_op op_add (pv 2) (pe_callB call_len_str (by rfl) T.n_len PySem.boot_len (pa_cons (pv 1) pa_nil))) rfl) (pss_one (ps_fld (pv 0) pe_int rfl)))), ?_⟩
  refine ⟨_, rfl, _, rfl, line, st, rfl, hl, fun H1 ta s1 hta hT => ?_⟩
  obtain ⟨ts, hT1, hT2⟩ := id hT
  have e1 := s1 _ _ e
  refine ⟨_, rfl, x, _, dx, _, rfl, e1, T.c_LineReader, T.a_tokens, by show 0 < 1000; decide, ?_⟩
  refine ⟨_, rfl, _, rfl, S line, rfl, by rw [SX.S_len]; exact sizeI (by omega), _, _, rfl, rfl, ?_⟩
  refine ⟨_, rfl, x, _, dx, _, rfl, upd_same, T.c_LineReader, T.a_end, by show 1 < 1000; decide, ?_⟩
  refine ⟨_, rfl, x, _, dx, _, rfl, upd_same, T.c_LineReader, T.a_position, by rw [putN, putP (by decide)]; show 2 < 1000; decide, ?_⟩
  rw [upd_upd, upd_upd, pReader, SX.S_len]
  have k : Keep x H1 (upd H1 x (.ins (cl K "LineReader") dx (fReader ta ((st : Int) + (line.length : Nat)) 0))) := fun b o hb e => by
    rw [upd_ne hb]
    exact e
  refine q _ ((keepOf s1).trans k) ⟨dx, ta, ?_, hT.keep e1 k, Nat.zero_le _⟩
  rw [upd_same, Int.natCast_add]
  rfl
def sp_is_name (K : PySem.W.Frag) : Sp := fun vs H Q _ => ∃ w : List Nat, vs = [.str (S w)] ∧ w.length ≤ 10000 ∧ ∀ H', Same H H' → Q (.bl (goodName w)) H'
theorem ok_is_name {f : Addr} {fd : FuncData} (T : Txt K mg) (F : FnP K "is_name" "is_name" s_is_name f fd) (hm : mg "is_name" = some (.ref f))  :
    C8.Cal P w K mg base 1 "is_name" (sp_is_name K) [] := by
  refine calMk F hm (F.bindsN (ps := ["word"]) fun _ _ _ _ _ _ us hl => match us, hl with | [_], _ => rfl) sc_is_name (fun vs H Q E h => by first | (obtain ⟨rfl, _⟩ := h; rfl) | (obtain ⟨_, rfl, _⟩ := h; rfl) | (obtain ⟨_, _, rfl, _⟩ := h; rfl) | (obtain ⟨_, _, _, rfl, _⟩ := h; rfl) | (obtain ⟨_, _, _, _, rfl, _⟩ := h; rfl) | (obtain ⟨_, _, _, _, _, rfl, _⟩ := h; rfl) | (obtain ⟨_, _, _, _, _, _, rfl, _⟩ := h; rfl) | (obtain ⟨_, _, _, _, _, _, _, rfl, _⟩ := h; rfl) | (obtain ⟨_, _, _, _, _, _, _, _, rfl, _⟩ := h; rfl) | (obtain ⟨_, _, _, _, _, _, _, _, _, rfl, _⟩ := h; rfl) | (obtain ⟨_, _, _, _, _, _, _, _, _, _, rfl, _⟩ := h; rfl) | (obtain ⟨_, _, _, _, _, _, _, _, _, _, _, rfl, _⟩ := h; rfl) | (obtain ⟨_, _, _, _, _, _, _, _, _, _, _, _, rfl, _⟩ := h; rfl) | (obtain ⟨_, _, _, _, _, _, _, _, _, _, _, _, _, rfl, _⟩ := h; rfl) | (obtain ⟨_, _, _, _, _, _, _, _, _, _, _, _, _, _, rfl, _⟩ := h; rfl)) (fun cdv A outer s H vs Q E hr h => ?_)
  obtain ⟨n, rfl, hl, q⟩ := h
  refine ⟨_, (pss_cons (ps_if (PW.pt (pw_or (pt_cmpR op_eq (pv 0) pe_str (nomark _)) (pw_or (pt_cmpR op_gt (pe_callB call_len_str (by rfl) T.n_len PySem.boot_len (pa_cons (pv 0) pa_nil)) (C8.pe_gc (by rfl) T.g_LONGEST_NAME) (nomark _)) (pw_or1 (pt_cmpR op_in_seq (pv 0) (C8.pe_gc (by rfl) T.g_RESERVED) (by rfl)))))) (pss_one (ps_ret pe_bl)) pss_nil) (pss_one (ps_ret (pe_and (pe_cmpR op_in_sign (pe_ix ix_str (pv 0) pe_int (fun _ _ => rfl)) (C8.pe_gc (by rfl) T.g_LETTERS) (by rfl)) (pe_one (pe_callB (cr_all (by rfl)) (by rfl) T.n_all (by decide +kernel) (pa_cons (pe_lc (own := [("sign", 1)]) (g := (gName 1)) (by rfl) sc_is_name.nd (pi_str (pv 0)) (blkOk_by (own := [("sign", 1)]) (N := ["word", "sign"]) (sc := defScope s_is_name) (by decide +kernel)) (fun _ _ _ _ _ => pg_name (i := 1) sc_is_name.nd rfl (Or.inl rfl)) (fun _ _ _ _ _ => pts_nil) (fun _ _ _ _ _ => (pe_or (pe_cmpR op_in_sign (pv 1) (C8.pe_gc (by rfl) T.g_LETTERS) (by rfl)) (pe_one (pe_cmpR op_in_sign (pv 1) (C8.pe_gc (by rfl) T.g_DIGITS) (by rfl)))))) pa_nil))))))), ?_⟩
  have hz : (S n).length ≤ sizeLine := by rw [SX.S_len]; exact sizeI (by omega)
  rw [name_eq] at q
  refine ⟨_, rfl, rfl, _, rfl, ?_⟩
  have e1 : decide (V.str (S n) = V.str "") = decide (n = []) := by rw [← S_nil, dec_str]
  show if decide (V.str (S n) = V.str "") = true then _ else _
  rw [e1]
  by_cases h1 : n = []
  · rw [decide_eq_true h1]
    rw [if_pos (.inl h1)] at q
    exact iteT (iteT (q _ (Same.refl _)))
  rw [decide_eq_false h1]
  refine iteF ⟨_, rfl, S n, rfl, hz, _, _, rfl, rfl, _, rfl, ?_⟩
  by_cases h2 : 12 < n.length
  · rw [if_pos (.inr (.inl h2))] at q
    rw [decide_eq_true (show (12 : Int) < ((S n).length : Nat) by rw [SX.S_len]; omega)]
    exact iteT (iteT (q _ (Same.refl _)))
  rw [decide_eq_false (show ¬ (12 : Int) < ((S n).length : Nat) by rw [SX.S_len]; omega)]
  refine iteF ⟨_, rfl, _, _, rfl, .inr (T.t_RESERVED _), rfl, by decide +kernel, _, rfl, ?_⟩
  show if inV (.str (S n)) _ = true then _ else _
  rw [res_in]
  cases h3 : Vbndam.reservedWords.contains n with
  | true =>
    rw [if_pos (.inr (.inr h3))] at q
    exact iteT (q _ (Same.refl _))
  | false =>
    rw [if_neg (by rintro (x | x | x); exact h1 x; exact h2 x; rw [h3] at x; cases x)] at q
    refine iteF ?_
    obtain ⟨c, r, rfl⟩ : ∃ c r, n = c :: r := by
      cases n with
      | nil => exact absurd rfl h1
      | cons c r => exact ⟨c, r, rfl⟩
    refine ⟨_, rfl, _, _, c, rfl, rfl, hz, atI_nat (j := 0) rfl, c, _, rfl, rfl, _, rfl, ?_⟩
    rw [let_mem]
    refine andB q fun q => ?_
    refine ⟨_, rfl, _, rfl, fun D hD => ?_⟩
    refine lcM walk_str (c :: r) (fun c => V.bl (isLowercase c || isDigit c)) (by simp [SX.S]) (by rw [show (S (c :: r)).cps.size = (c :: r).length from by simp [SX.S]]; omega) hD (fun _ _ => trivial) (fun i x v H1 H2 hx s1 hy N y1 => ?_) (fun H1 s1 e => ?_) (gNameMono _)
    · obtain ⟨rfl, d, hd, rfl⟩ := hy
      rw [cps_get, hx] at hd
      obtain rfl : x = d := Option.some.inj hd
      refine ⟨rfl, _, rfl, x, _, rfl, rfl, _, rfl, ?_⟩
      rw [let_mem]
      refine orB (fun H' s' => y1 H' s') fun q2 => ?_
      refine ⟨_, rfl, x, _, rfl, rfl, ?_⟩
      rw [dig_mem]
      exact q2 _ (Same.refl _)
    · refine ⟨D, (c :: r).map fun c => isLowercase c || isDigit c, rfl, ?_, ?_⟩
      · rw [List.map_map]
        exact SqL.of e
      · have q2 := q H1 s1
        rw [List.all_map]
        exact q2
def sp_is_number (K : PySem.W.Frag) : Sp := fun vs H Q _ => ∃ w : List Nat, vs = [.str (S w)] ∧ w.length ≤ 10000 ∧ ∀ H', Same H H' → Q (.bl (goodNum w)) H'
theorem ok_is_number {f : Addr} {fd : FuncData} (T : Txt K mg) (F : FnP K "is_number" "is_number" s_is_number f fd) (hm : mg "is_number" = some (.ref f))  :
    C8.Cal P w K mg base 1 "is_number" (sp_is_number K) [] := by
  refine calMk F hm (F.bindsN (ps := ["word"]) fun _ _ _ _ _ _ us hl => match us, hl with | [_], _ => rfl) sc_is_number (fun vs H Q E h => by first | (obtain ⟨rfl, _⟩ := h; rfl) | (obtain ⟨_, rfl, _⟩ := h; rfl) | (obtain ⟨_, _, rfl, _⟩ := h; rfl) | (obtain ⟨_, _, _, rfl, _⟩ := h; rfl) | (obtain ⟨_, _, _, _, rfl, _⟩ := h; rfl) | (obtain ⟨_, _, _, _, _, rfl, _⟩ := h; rfl) | (obtain ⟨_, _, _, _, _, _, rfl, _⟩ := h; rfl) | (obtain ⟨_, _, _, _, _, _, _, rfl, _⟩ := h; rfl) | (obtain ⟨_, _, _, _, _, _, _, _, rfl, _⟩ := h; rfl) | (obtain ⟨_, _, _, _, _, _, _, _, _, rfl, _⟩ := h; rfl) | (obtain ⟨_, _, _, _, _, _, _, _, _, _, rfl, _⟩ := h; rfl) | (obtain ⟨_, _, _, _, _, _, _, _, _, _, _, rfl, _⟩ := h; rfl) | (obtain ⟨_, _, _, _, _, _, _, _, _, _, _, _, rfl, _⟩ := h; rfl) | (obtain ⟨_, _, _, _, _, _, _, _, _, _, _, _, _, rfl, _⟩ := h; rfl) | (obtain ⟨_, _, _, _, _, _, _, _, _, _, _, _, _, _, rfl, _⟩ := h; rfl)) (fun cdv A outer s H vs Q E hr h => ?_)
  obtain ⟨n, rfl, hl, q⟩ := h
  refine ⟨_, (pss_cons (ps_if (PW.pt (pw_or (pt_cmpR op_eq (pv 0) pe_str (nomark _)) (pw_or1 (pt_cmpR op_gt (pe_callB call_len_str (by rfl) T.n_len PySem.boot_len (pa_cons (pv 0) pa_nil)) (C8.pe_gc (by rfl) T.g_LONGEST_NUMBER) (nomark _))))) (pss_one (ps_ret pe_bl)) pss_nil) (pss_cons (ps_if (PW.pt (pw_and (pt_cmpR op_eq (pe_ix ix_str (pv 0) pe_int (fun _ _ => rfl)) pe_str (nomark _)) (pw_and1 (pt_cmpR op_gt (pe_callB call_len_str (by rfl) T.n_len PySem.boot_len (pa_cons (pv 0) pa_nil)) pe_int (nomark _))))) (pss_one (ps_ret pe_bl)) pss_nil) (pss_one (ps_ret (pe_callB (cr_all (by rfl)) (by rfl) T.n_all (by decide +kernel) (pa_cons (pe_lc (own := [("sign", 1)]) (g := (gName 1)) (by rfl) sc_is_number.nd (pi_str (pv 0)) (blkOk_by (own := [("sign", 1)]) (N := ["word", "sign"]) (sc := defScope s_is_number) (by decide +kernel)) (fun _ _ _ _ _ => pg_name (i := 1) sc_is_number.nd rfl (Or.inl rfl)) (fun _ _ _ _ _ => pts_nil) (fun _ _ _ _ _ => (pe_cmpR op_in_sign (pv 1) (C8.pe_gc (by rfl) T.g_DIGITS) (by rfl)))) pa_nil)))))), ?_⟩
  have hz : (S n).length ≤ sizeLine := by rw [SX.S_len]; exact sizeI (by omega)
  rw [num_eq] at q
  refine ⟨_, rfl, rfl, _, rfl, ?_⟩
  have e1 : decide (V.str (S n) = V.str "") = decide (n = []) := by rw [← S_nil, dec_str]
  show if decide (V.str (S n) = V.str "") = true then _ else _
  rw [e1]
  by_cases h1 : n = []
  · rw [decide_eq_true h1]
    rw [if_pos (.inl h1)] at q
    exact iteT (iteT (q _ (Same.refl _)))
  rw [decide_eq_false h1]
  refine iteF ⟨_, rfl, S n, rfl, hz, _, _, rfl, rfl, _, rfl, ?_⟩
  by_cases h2 : 4 < n.length
  · rw [if_pos (.inr h2)] at q
    rw [decide_eq_true (show (4 : Int) < ((S n).length : Nat) by rw [SX.S_len]; omega)]
    exact iteT (q _ (Same.refl _))
  rw [decide_eq_false (show ¬ (4 : Int) < ((S n).length : Nat) by rw [SX.S_len]; omega)]
  refine iteF ?_
  rw [if_neg (by rintro (x | x); exact h1 x; exact h2 x)] at q
  obtain ⟨c, r, rfl⟩ : ∃ c r, n = c :: r := by
    cases n with
    | nil => exact absurd rfl h1
    | cons c r => exact ⟨c, r, rfl⟩
  refine ⟨_, rfl, _, _, c, rfl, rfl, hz, atI_nat (j := 0) rfl, rfl, _, rfl, ?_⟩
  have e2 : decide (V.str (⟨#[c]⟩ : Str) = V.str "0") = decide (c = 48) := by
    rw [← S_zero]
    have : decide (V.str (S [c]) = V.str (S [48])) = decide ([c] = [48]) := dec_str
    refine this.trans ?_
    rw [Bool.eq_iff_iff, decide_eq_true_eq, decide_eq_true_eq]
    simp
  show if decide (V.str (⟨#[c]⟩ : Str) = V.str "0") = true then _ else _
  rw [e2]
  by_cases h3 : c = 48
  · rw [decide_eq_true h3]
    refine iteT ⟨_, rfl, S (c :: r), rfl, hz, _, _, rfl, rfl, _, rfl, ?_⟩
    by_cases h4 : 1 < (c :: r).length
    · rw [decide_eq_true (show (1 : Int) < ((S (c :: r)).length : Nat) by rw [SX.S_len]; omega)]
      rw [if_pos ⟨by rw [h3]; rfl, h4⟩] at q
      exact iteT (q _ (Same.refl _))
    rw [decide_eq_false (show ¬ (1 : Int) < ((S (c :: r)).length : Nat) by rw [SX.S_len]; omega)]
    refine iteF ?_
    rw [if_neg (fun x => h4 x.2)] at q
    refine ⟨_, rfl, _, rfl, fun D hD => ?_⟩
    refine lcM walk_str (c :: r) (fun c => V.bl (isDigit c)) (by simp [SX.S]) (by rw [show (S (c :: r)).cps.size = (c :: r).length from by simp [SX.S]]; omega) hD (fun _ _ => trivial) (fun i x v H1 H2 hx s1 hy N y1 => ?_) (fun H1 s1 e => ?_) (gNameMono _)
    · obtain ⟨rfl, d, hd, rfl⟩ := hy
      rw [cps_get, hx] at hd
      obtain rfl : x = d := Option.some.inj hd
      refine ⟨rfl, _, rfl, x, _, rfl, rfl, ?_⟩
      rw [dig_mem]
      exact y1 _ (Same.refl _)
    · refine ⟨D, (c :: r).map isDigit, rfl, ?_, ?_⟩
      · rw [List.map_map]
        exact SqL.of e
      · have q2 := q H1 s1
        rw [List.all_map]
        exact q2
  · rw [decide_eq_false h3]
    refine iteF ?_
    rw [if_neg (fun x => h3 (Option.some.inj x.1))] at q
    refine ⟨_, rfl, _, rfl, fun D hD => ?_⟩
    refine lcM walk_str (c :: r) (fun c => V.bl (isDigit c)) (by simp [SX.S]) (by rw [show (S (c :: r)).cps.size = (c :: r).length from by simp [SX.S]]; omega) hD (fun _ _ => trivial) (fun i x v H1 H2 hx s1 hy N y1 => ?_) (fun H1 s1 e => ?_) (gNameMono _)
    · obtain ⟨rfl, d, hd, rfl⟩ := hy
      rw [cps_get, hx] at hd
      obtain rfl : x = d := Option.some.inj hd
      refine ⟨rfl, _, rfl, x, _, rfl, rfl, ?_⟩
      rw [dig_mem]
      exact y1 _ (Same.refl _)
    · refine ⟨D, (c :: r).map isDigit, rfl, ?_, ?_⟩
      · rw [List.map_map]
        exact SqL.of e
      · have q2 := q H1 s1
        rw [List.all_map]
        exact q2
def sp_player_number (K : PySem.W.Frag) : Sp := fun vs H Q _ => ∃ (r : Addr) (n : List Nat) (z : Vbndam.Room), vs = [.ref r, .str (S n)] ∧ RoomAt K H r z ∧ ∀ H', Same H H' → Q (match z.players.findIdx? (fun p => p.name == n) with | some i => .int (i : Nat) | none => .non) H'
theorem ok_player_number {f : Addr} {fd : FuncData} (T : Txt K mg) (F : FnP K "player_number" "player_number" s_player_number f fd) (hm : mg "player_number" = some (.ref f))  :
    C8.Cal P w K mg base 1 "player_number" (sp_player_number K) [] := by
  refine calMk F hm (F.bindsN (ps := ["room", "name"]) fun _ _ _ _ _ _ us hl => match us, hl with | [_, _], _ => rfl) sc_player_number (fun vs H Q E h => by first | (obtain ⟨rfl, _⟩ := h; rfl) | (obtain ⟨_, rfl, _⟩ := h; rfl) | (obtain ⟨_, _, rfl, _⟩ := h; rfl) | (obtain ⟨_, _, _, rfl, _⟩ := h; rfl) | (obtain ⟨_, _, _, _, rfl, _⟩ := h; rfl) | (obtain ⟨_, _, _, _, _, rfl, _⟩ := h; rfl) | (obtain ⟨_, _, _, _, _, _, rfl, _⟩ := h; rfl) | (obtain ⟨_, _, _, _, _, _, _, rfl, _⟩ := h; rfl) | (obtain ⟨_, _, _, _, _, _, _, _, rfl, _⟩ := h; rfl) | (obtain ⟨_, _, _, _, _, _, _, _, _, rfl, _⟩ := h; rfl) | (obtain ⟨_, _, _, _, _, _, _, _, _, _, rfl, _⟩ := h; rfl) | (obtain ⟨_, _, _, _, _, _, _, _, _, _, _, rfl, _⟩ := h; rfl) | (obtain ⟨_, _, _, _, _, _, _, _, _, _, _, _, rfl, _⟩ := h; rfl) | (obtain ⟨_, _, _, _, _, _, _, _, _, _, _, _, _, rfl, _⟩ := h; rfl) | (obtain ⟨_, _, _, _, _, _, _, _, _, _, _, _, _, _, rfl, _⟩ := h; rfl)) (fun cdv A outer s H vs Q E hr h => ?_)
  obtain ⟨r, n, z, rfl, hz, q⟩ := h
  obtain ⟨dx, pl, ru, ps, rs, I⟩ := id hz
  refine ⟨_, (pss_cons (ps_for PassesOwn.never (by rfl) (pi_enum (by rfl) T.n_enumerate (pa_cons (pe_fld (pv 0) rfl) pa_nil)) (pg_tup (by rfl) (pgs_cons (pg_name (i := 2) sc_player_number.nd rfl (Or.inl rfl)) (pgs_cons (pg_name (i := 3) sc_player_number.nd rfl (Or.inl rfl)) pgs_nil))) (pss_one (ps_if (pt_cmpR op_eq (pe_fld (pv 3) rfl) (pv 1) (nomark _)) (pss_one (ps_ret (pv 2))) pss_nil))) (pss_one (ps_ret pe_non))), ?_⟩
  have hl := pairedLen I.pAt
  refine ⟨_, rfl, r, _, dx, _, _, rfl, I.at_, T.c_Room, T.a_players, lRoom1, pl, _, rfl, SqL.of I.pls, ?_⟩
  refine for_it walk_enum (fun i σ H1 => ∃ y2 y3 : Option V, σ = [some (.ref r), some (.str (S n)), y2, y3] ∧ Same H H1 ∧ ∀ j p, j < i → z.players[j]? = some p → (p.name == n) = false) ⟨none, none, rfl, Same.refl _, fun j _ h => absurd h (Nat.not_lt_zero _)⟩ (fun i σ H1 _ h => by obtain ⟨_, _, _, s1, _⟩ := h; exact SqL.of (s1 _ _ I.pls)) ?_ ?_
  · rintro i x σ H1 H2 hi ⟨y2, y3, rfl, s1, hall⟩ ⟨Tt, m, v, rfl, hT, rfl, hn, hv⟩
    obtain rfl : V.int (i : Nat) = m := Option.some.inj hn
    replace hv : (ps.map V.ref)[i]? = some v := hv
    rw [List.getElem?_map] at hv
    obtain ⟨a, ha, rfl⟩ := Option.map_eq_some_iff.mp hv
    obtain ⟨pp, hpp, hP⟩ := pairedGetL I.pAt ha
    have sT : Same H1 (upd H1 Tt (.tup [V.int (i : Nat), V.ref a])) := sameUpd hT
    have s2 := s1.trans sT
    obtain ⟨dxp, ep⟩ := hP.same s2
    refine ⟨Tt, _, rfl, SqT.of upd_same, rfl, _, _, rfl, _, _, rfl, rfl, ?_⟩
    refine ⟨_, rfl, a, _, dxp, _, _, rfl, ep, T.c_Player, T.a_name, lPlayer1, _, rfl, rfl, _, rfl, ?_⟩
    show if decide (V.str (S pp.name) = V.str (S n)) = true then _ else _
    rw [dec_str]
    by_cases hpn : pp.name = n
    · rw [decide_eq_true hpn]
      refine iteT ⟨_, rfl, ?_⟩
      have hf : z.players.findIdx? (fun p => p.name == n) = some i := by
        rw [List.findIdx?_eq_some_iff_getElem]
        have hi' := walkLenLe hpp
        refine ⟨hi', ?_, fun j hj => ?_⟩
        · have : z.players[i] = pp := Option.some.inj ((List.getElem?_eq_getElem hi').symm.trans hpp)
          rw [this, hpn]
          exact beq_self_eq_true _
        · have := hall j _ hj (List.getElem?_eq_getElem (by omega))
          rw [this]
          decide
      have q2 := q _ s2
      rw [hf] at q2
      exact q2
    · rw [decide_eq_false hpn]
      refine iteF ⟨_, _, rfl, s2, fun j p hj hp => ?_⟩
      by_cases ej : j < i
      · exact hall j p ej hp
      · obtain rfl : j = i := by omega
        rw [hpp] at hp
        cases hp
        exact beq_false_of_ne hpn
  · rintro σ H1 ⟨y2, y3, rfl, s1, hall⟩
    have hf : z.players.findIdx? (fun p => p.name == n) = none := by
      rw [List.findIdx?_eq_none_iff]
      intro p hp
      obtain ⟨j, hj⟩ := List.mem_iff_getElem?.mp hp
      refine hall j p ?_ hj
      have := walkLenLe hj
      rw [List.length_map, hl]
      exact this
    have q2 := q _ s1
    rw [hf] at q2
    exact q2
def sp_checked_name (K : PySem.W.Frag) : Sp := fun vs H Q E => ∃ (rd : Addr) (toks : List Token) (e p : Nat), vs = [.ref rd] ∧ RdAt K H rd toks e p ∧ Tk toks ∧
  (goodName (wordOf (cur toks e p)) = true → ∀ H', Same H H' → Q (.str (S (wordOf (cur toks e p)))) H') ∧ (goodName (wordOf (cur toks e p)) = false → Fl K rd H ⟨1, currentOffset (cur toks e p)⟩ E)
theorem ok_checked_name {f : Addr} {fd : FuncData} (T : Txt K mg) (F : FnP K "checked_name" "checked_name" s_checked_name f fd) (hm : mg "checked_name" = some (.ref f)) (m_word : C8.Met P w K mg base 2 (cl K "LineReader") "word" (sp_LineReader_word K) []) (c_is_name : C8.Cal P w K mg base 1 "is_name" (sp_is_name K) []) (m_fail : MetX P w K mg base 3 (cl K "LineReader") "fail" (sp_LineReader_fail K)) :
    CalX P w K mg base 4 "checked_name" (sp_checked_name K) := by
  refine calXMk F hm (F.bindsN (ps := ["reader"]) fun _ _ _ _ _ _ us hl => match us, hl with | [_], _ => rfl) sc_checked_name (fun vs H Q E h => by first | (obtain ⟨rfl, _⟩ := h; rfl) | (obtain ⟨_, rfl, _⟩ := h; rfl) | (obtain ⟨_, _, rfl, _⟩ := h; rfl) | (obtain ⟨_, _, _, rfl, _⟩ := h; rfl) | (obtain ⟨_, _, _, _, rfl, _⟩ := h; rfl) | (obtain ⟨_, _, _, _, _, rfl, _⟩ := h; rfl) | (obtain ⟨_, _, _, _, _, _, rfl, _⟩ := h; rfl) | (obtain ⟨_, _, _, _, _, _, _, rfl, _⟩ := h; rfl) | (obtain ⟨_, _, _, _, _, _, _, _, rfl, _⟩ := h; rfl) | (obtain ⟨_, _, _, _, _, _, _, _, _, rfl, _⟩ := h; rfl) | (obtain ⟨_, _, _, _, _, _, _, _, _, _, rfl, _⟩ := h; rfl) | (obtain ⟨_, _, _, _, _, _, _, _, _, _, _, rfl, _⟩ := h; rfl) | (obtain ⟨_, _, _, _, _, _, _, _, _, _, _, _, rfl, _⟩ := h; rfl) | (obtain ⟨_, _, _, _, _, _, _, _, _, _, _, _, _, rfl, _⟩ := h; rfl) | (obtain ⟨_, _, _, _, _, _, _, _, _, _, _, _, _, _, rfl, _⟩ := h; rfl)) (fun cdv A outer s H vs Q E hr h => ?_)
  obtain ⟨rd, toks, e, p, rfl, hR, hk, q1, q2⟩ := h
  obtain ⟨dx, ta, h1, _, _⟩ := id hR
  refine ⟨_, (pss_cons (ps_if (pt_not (pt_val (C8.pe_c c_is_name hr (by decide) (by rfl) (pa_cons (C8.pe_mt0 m_word hr (by decide) (pv 0)) pa_nil)))) (pss_one (ps_expr (pe_mx m_fail hr (by decide) (pv 0) (passes_call (W := fun cls d _ H => E cls d H) (takes_of rfl rfl rfl rfl) (fun _ _ _ _ h => h)) (pa_cons (C8.pe_gc (by rfl) T.g_NOT_ALLOWED) pa_nil)))) pss_nil) (pss_one (ps_ret (C8.pe_mt0 m_word hr (by decide) (pv 0))))), ?_⟩
  refine ⟨_, rfl, rd, dx, _, rfl, h1, lRword, rd, toks, e, p, rfl, hR, _, rfl, hk.word e p, fun H1 s1 => ⟨_, rfl, ?_⟩⟩
  cases hg : goodName (wordOf (cur toks e p)) with
  | false =>
    refine iteT ?_
    exact ⟨_, rfl, rd, dx, _, rfl, s1 _ _ h1, lRfail, rd, toks, e, p, 1, rfl, hR.same s1, (q2 hg).keep (keepOf s1)⟩
  | true =>
    refine iteF ?_
    exact ⟨_, rfl, rd, dx, _, rfl, s1 _ _ h1, lRword, rd, toks, e, p, rfl, hR.same s1, q1 hg H1 s1⟩
def sp_take_word (K : PySem.W.Frag) : Sp := fun vs H Q E => ∃ (rd : Addr) (l : List Nat) (toks : List Token) (e p : Nat), vs = [.ref rd, .str (S l)] ∧ RdAt K H rd toks e p ∧ l ≠ [] ∧
  (wordOf (cur toks e p) = l → ∀ H', Keep rd H H' → RdAt K H' rd toks e (p + 1) → Q .non H') ∧ (wordOf (cur toks e p) ≠ l → Fl K rd H ⟨1, currentOffset (cur toks e p)⟩ E)
theorem ok_take_word {f : Addr} {fd : FuncData} (T : Txt K mg) (F : FnP K "take_word" "take_word" s_take_word f fd) (hm : mg "take_word" = some (.ref f)) (m_advance : C8.Met P w K mg base 1 (cl K "LineReader") "advance" (sp_LineReader_advance K) []) (m_word : C8.Met P w K mg base 2 (cl K "LineReader") "word" (sp_LineReader_word K) []) (m_fail : MetX P w K mg base 3 (cl K "LineReader") "fail" (sp_LineReader_fail K)) :
    CalX P w K mg base 4 "take_word" (sp_take_word K) := by
  refine calXMk F hm (F.bindsN (ps := ["reader", "expected"]) fun _ _ _ _ _ _ us hl => match us, hl with | [_, _], _ => rfl) sc_take_word (fun vs H Q E h => by first | (obtain ⟨rfl, _⟩ := h; rfl) | (obtain ⟨_, rfl, _⟩ := h; rfl) | (obtain ⟨_, _, rfl, _⟩ := h; rfl) | (obtain ⟨_, _, _, rfl, _⟩ := h; rfl) | (obtain ⟨_, _, _, _, rfl, _⟩ := h; rfl) | (obtain ⟨_, _, _, _, _, rfl, _⟩ := h; rfl) | (obtain ⟨_, _, _, _, _, _, rfl, _⟩ := h; rfl) | (obtain ⟨_, _, _, _, _, _, _, rfl, _⟩ := h; rfl) | (obtain ⟨_, _, _, _, _, _, _, _, rfl, _⟩ := h; rfl) | (obtain ⟨_, _, _, _, _, _, _, _, _, rfl, _⟩ := h; rfl) | (obtain ⟨_, _, _, _, _, _, _, _, _, _, rfl, _⟩ := h; rfl) | (obtain ⟨_, _, _, _, _, _, _, _, _, _, _, rfl, _⟩ := h; rfl) | (obtain ⟨_, _, _, _, _, _, _, _, _, _, _, _, rfl, _⟩ := h; rfl) | (obtain ⟨_, _, _, _, _, _, _, _, _, _, _, _, _, rfl, _⟩ := h; rfl) | (obtain ⟨_, _, _, _, _, _, _, _, _, _, _, _, _, _, rfl, _⟩ := h; rfl)) (fun cdv A outer s H vs Q E hr h => ?_)
  obtain ⟨rd, l, toks, e, p, rfl, hR, hl, q1, q2⟩ := h
  obtain ⟨dx, ta, h1, _, _⟩ := id hR
  refine ⟨_, (pss_cons (ps_if (pt_cmpR op_ne (C8.pe_mt0 m_word hr (by decide) (pv 0)) (pv 1) (nomark _)) (pss_one (ps_expr (pe_mx m_fail hr (by decide) (pv 0) (passes_call (W := fun cls d _ H => E cls d H) (takes_of rfl rfl rfl rfl) (fun _ _ _ _ h => h)) (pa_cons (C8.pe_gc (by rfl) T.g_NOT_ALLOWED) pa_nil)))) pss_nil) (pss_one (ps_expr (C8.pe_mt0 m_advance hr (by decide) (pv 0))))), ?_⟩
  refine ⟨_, rfl, rd, dx, _, rfl, h1, lRword, rd, toks, e, p, rfl, hR, _, rfl, rfl, _, rfl, ?_⟩
  show if (!decide (V.str (S (wordOf (cur toks e p))) = V.str (S l))) = true then _ else _
  rw [dec_str]
  by_cases hw : wordOf (cur toks e p) = l
  · rw [decide_eq_true hw]
    refine iteF ?_
    exact ⟨_, rfl, rd, dx, _, rfl, h1, lRadvance, rd, toks, e, p, rfl, hR, word_ne (fun x => hl (hw.symm.trans x)), fun H' k r => q1 hw H' k r⟩
  · rw [decide_eq_false hw]
    refine iteT ?_
    exact ⟨_, rfl, rd, dx, _, rfl, h1, lRfail, rd, toks, e, p, 1, rfl, hR, q2 hw⟩
def sp_take_number (K : PySem.W.Frag) : Sp := fun vs H Q E => ∃ (rd : Addr) (lo hi : Nat) (toks : List Token) (e p : Nat), vs = [.ref rd, .int (lo : Nat), .int (hi : Nat)] ∧ RdAt K H rd toks e p ∧ Tk toks ∧
  (∀ n c, Vbndam.parseNatInRange lo hi (cur toks e p) = .ok (n, c) → ∀ H', c = cur toks e (p + 1) → Keep rd H H' → RdAt K H' rd toks e (p + 1) → Q (.int (n : Nat)) H') ∧ (∀ er, Vbndam.parseNatInRange lo hi (cur toks e p) = .error er → Fl K rd H er E)
theorem ok_take_number {f : Addr} {fd : FuncData} (T : Txt K mg) (F : FnP K "take_number" "take_number" s_take_number f fd) (hm : mg "take_number" = some (.ref f)) (m_advance : C8.Met P w K mg base 1 (cl K "LineReader") "advance" (sp_LineReader_advance K) []) (c_is_number : C8.Cal P w K mg base 1 "is_number" (sp_is_number K) []) (m_fail : MetX P w K mg base 3 (cl K "LineReader") "fail" (sp_LineReader_fail K)) (m_word : C8.Met P w K mg base 2 (cl K "LineReader") "word" (sp_LineReader_word K) []) :
    CalX P w K mg base 4 "take_number" (sp_take_number K) := by
  refine calXMk F hm (F.bindsN (ps := ["reader", "least", "most"]) fun _ _ _ _ _ _ us hl => match us, hl with | [_, _, _], _ => rfl) sc_take_number (fun vs H Q E h => by first | (obtain ⟨rfl, _⟩ := h; rfl) | (obtain ⟨_, rfl, _⟩ := h; rfl) | (obtain ⟨_, _, rfl, _⟩ := h; rfl) | (obtain ⟨_, _, _, rfl, _⟩ := h; rfl) | (obtain ⟨_, _, _, _, rfl, _⟩ := h; rfl) | (obtain ⟨_, _, _, _, _, rfl, _⟩ := h; rfl) | (obtain ⟨_, _, _, _, _, _, rfl, _⟩ := h; rfl) | (obtain ⟨_, _, _, _, _, _, _, rfl, _⟩ := h; rfl) | (obtain ⟨_, _, _, _, _, _, _, _, rfl, _⟩ := h; rfl) | (obtain ⟨_, _, _, _, _, _, _, _, _, rfl, _⟩ := h; rfl) | (obtain ⟨_, _, _, _, _, _, _, _, _, _, rfl, _⟩ := h; rfl) | (obtain ⟨_, _, _, _, _, _, _, _, _, _, _, rfl, _⟩ := h; rfl) | (obtain ⟨_, _, _, _, _, _, _, _, _, _, _, _, rfl, _⟩ := h; rfl) | (obtain ⟨_, _, _, _, _, _, _, _, _, _, _, _, _, rfl, _⟩ := h; rfl) | (obtain ⟨_, _, _, _, _, _, _, _, _, _, _, _, _, _, rfl, _⟩ := h; rfl)) (fun cdv A outer s H vs Q E hr h => ?_)
  obtain ⟨rd, lo, hi, toks, e, p, rfl, hR, hk, q1, q2⟩ := h
  obtain ⟨dx, ta, h1, _, _⟩ := id hR
  refine ⟨_, (pss_cons (ps_if (pt_not (pt_val (C8.pe_c c_is_number hr (by decide) (by rfl) (pa_cons (C8.pe_mt0 m_word hr (by decide) (pv 0)) pa_nil)))) (pss_one (ps_expr (pe_mx m_fail hr (by decide) (pv 0) (passes_call (W := fun cls d _ H => E cls d H) (takes_of rfl rfl rfl rfl) (fun _ _ _ _ h => h)) (pa_cons (C8.pe_gc (by rfl) T.g_NOT_ALLOWED) pa_nil)))) pss_nil) (pss_cons (ps_set (i := 3) sc_take_number.nd rfl (Or.inl rfl) (pe_callTy call_int_str (by rfl) T.n_int (by decide +kernel) (pa_cons (C8.pe_mt0 m_word hr (by decide) (pv 0)) pa_nil))) (pss_cons (ps_if (PW.pt (pw_or (pt_cmpR op_lt (pv 3) (pv 1) (nomark _)) (pw_or1 (pt_cmpR op_gt (pv 3) (pv 2) (nomark _))))) (pss_one (ps_expr (pe_mx m_fail hr (by decide) (pv 0) (passes_call (W := fun cls d _ H => E cls d H) (takes_of rfl rfl rfl rfl) (fun _ _ _ _ h => h)) (pa_cons (C8.pe_gc (by rfl) T.g_OUT_OF_RANGE_parsing) pa_nil)))) pss_nil) (pss_cons (ps_expr (C8.pe_mt0 m_advance hr (by decide) (pv 0))) (pss_one (ps_ret (pv 3))))))), ?_⟩
  refine ⟨_, rfl, rd, dx, _, rfl, h1, lRword, rd, toks, e, p, rfl, hR, _, rfl, hk.word e p, fun H1 s1 => ⟨_, rfl, ?_⟩⟩
  cases hg : goodNum (wordOf (cur toks e p)) with
  | false =>
    refine iteT ?_
    exact ⟨_, rfl, rd, dx, _, rfl, s1 _ _ h1, lRfail, rd, toks, e, p, 1, rfl, hR.same s1, (q2 _ (num_bad hg)).keep (keepOf s1)⟩
  | true =>
    refine iteF ?_
    obtain ⟨_, g1, g2, g3⟩ := nat_some hg
    have hR1 := hR.same s1
    have hpn := num_ok (lo := lo) (hi := hi) (e := e) hg
    have hpl : p < toks.length := word_ne (fun x => g2 x)
    refine ⟨_, rfl, rd, dx, _, rfl, s1 _ _ h1, lRword, rd, toks, e, p, rfl, hR1, _, _, rfl, SX.int_S g1 g2 (by omega), by rw [SX.S_len]; omega, ?_⟩
    rw [val_eq]
    generalize valueOf (wordOf (cur toks e p)) = n at hpn
    refine ⟨_, rfl, _, rfl, _, _, rfl, rfl, _, rfl, ?_⟩
    by_cases c1 : lo ≤ n
    · rw [decide_eq_false (show ¬ (n : Int) < (lo : Int) by omega)]
      refine iteF ⟨_, rfl, _, rfl, _, _, rfl, rfl, _, rfl, ?_⟩
      by_cases c2 : n ≤ hi
      · rw [decide_eq_false (show ¬ (hi : Int) < (n : Int) by omega)]
        rw [if_pos ⟨c1, c2⟩] at hpn
        refine iteF ?_
        exact ⟨_, rfl, rd, dx, _, rfl, s1 _ _ h1, lRadvance, rd, toks, e, p, rfl, hR1, hpl, fun H' k r => ⟨_, rfl, q1 n _ hpn H' rfl ((keepOf s1).trans k) r⟩⟩
      · rw [decide_eq_true (show (hi : Int) < (n : Int) by omega)]
        rw [if_neg (fun x => c2 x.2)] at hpn
        refine iteT ?_
        exact ⟨_, rfl, rd, dx, _, rfl, s1 _ _ h1, lRfail, rd, toks, e, p, 3, rfl, hR1, (q2 _ hpn).keep (keepOf s1)⟩
    · rw [decide_eq_true (show (n : Int) < (lo : Int) by omega)]
      rw [if_neg (fun x => c1 x.1)] at hpn
      refine iteT ?_
      exact ⟨_, rfl, rd, dx, _, rfl, s1 _ _ h1, lRfail, rd, toks, e, p, 3, rfl, hR1, (q2 _ hpn).keep (keepOf s1)⟩
end
end SI

set_option maxHeartbeats 4000000
namespace SI
open PySem PySem.Spec PyProof.Rows L2
open SX (S)
open Vbndaa (Token Cursor ParseError splitAtByte currentOffset isDigit isLowercase natOfToken valueOf toBytes)
/-- the step of the substitutes -/
def subStep (z : Vbndam.Room) (k : Nat) (had : List Nat) (r : Cursor) : Except ParseError (Nat × Cursor) := match Vbndam.parsePlayer z r with
  | .error e => .error e
  | .ok (n, q) => if n = k then .error ⟨10, currentOffset r⟩ else if had.contains n = true then .error ⟨4, currentOffset r⟩ else .ok (n, q)
theorem subs_step (z : Vbndam.Room) (k f : Nat) (had : List Nat) (r : Cursor) (h : ¬ (r.tokens.isEmpty = true ∧ had.isEmpty = false)) :
    Vbndam.parseSubstitutes z k (f + 1) had r = match subStep z k had r with | .error e => .error e | .ok (n, q) => Vbndam.parseSubstitutes z k f (had ++ [n]) q := by
  unfold Vbndam.parseSubstitutes subStep
  rw [if_neg h]
  cases Vbndam.parsePlayer z r with
  | error e => cases f <;> rfl
  | ok x =>
    obtain ⟨n, q⟩ := x
    dsimp only
    by_cases h1 : n = k
    · rw [if_pos h1, if_pos h1]
    · rw [if_neg h1, if_neg h1]
      by_cases h2 : had.contains n = true
      · rw [if_pos h2, if_pos h2]
      · rw [if_neg h2, if_neg h2]
        cases f <;> rfl
theorem subs_end (z : Vbndam.Room) (k f : Nat) (had : List Nat) (r : Cursor) (h : r.tokens.isEmpty = true ∧ had.isEmpty = false) : Vbndam.parseSubstitutes z k f had r = .ok (had, r) := by
  cases f with
  | zero => rfl
  | succ f =>
    unfold Vbndam.parseSubstitutes
    rw [if_pos h]
theorem player_cases {z : Vbndam.Room} {toks : List Token} {e p : Nat} : (goodName (wordOf (cur toks e p)) = false ∧ Vbndam.parsePlayer z (cur toks e p) = .error ⟨1, currentOffset (cur toks e p)⟩) ∨
    (goodName (wordOf (cur toks e p)) = true ∧ ((z.players.findIdx? (fun q => q.name == wordOf (cur toks e p)) = none ∧ Vbndam.parsePlayer z (cur toks e p) = .error ⟨5, currentOffset (cur toks e p)⟩) ∨
      ∃ i, z.players.findIdx? (fun q => q.name == wordOf (cur toks e p)) = some i ∧ Vbndam.parsePlayer z (cur toks e p) = .ok (i, cur toks e (p + 1)))) := by
  cases hg : goodName (wordOf (cur toks e p)) with
  | false =>
    refine .inl ⟨rfl, ?_⟩
    unfold Vbndam.parsePlayer
    rw [name_bad hg]
  | true =>
    refine .inr ⟨rfl, ?_⟩
    unfold Vbndam.parsePlayer
    rw [name_ok hg]
    dsimp only
    cases hf : z.players.findIdx? (fun q => q.name == wordOf (cur toks e p)) with
    | none => exact .inl ⟨rfl, rfl⟩
    | some i => exact .inr ⟨i, rfl, rfl⟩
theorem player_lt {z : Vbndam.Room} {toks : List Token} {e p i : Nat} {q : Cursor} (h : Vbndam.parsePlayer z (cur toks e p) = .ok (i, q)) : p < toks.length ∧ q = cur toks e (p + 1) := by
  rcases player_cases (z := z) (toks := toks) (e := e) (p := p) with ⟨_, h2⟩ | ⟨hg, ⟨_, h2⟩ | ⟨j, _, h2⟩⟩
  · rw [h] at h2; cases h2
  · rw [h] at h2; cases h2
  · rw [h] at h2
    refine ⟨word_ne (fun x => by rw [x] at hg; cases hg), ?_⟩
    injection h2 with h2
    exact (Prod.mk.inj h2).2
theorem contains_nats (had : List Nat) (n : Nat) : inV (.int (n : Nat)) (nats had) = had.contains n := by
  unfold inV nats
  rw [List.any_map, List.contains_eq_any_beq]
  congr 1
  funext x
  show ((x : Int) == (n : Int)) = (n == x)
  rw [Bool.eq_iff_iff, beq_iff_eq, beq_iff_eq]
  omega
theorem flat_nats (had : List Nat) : (nats had).all flatV = true := by
  rw [List.all_eq_true]
  intro x hx
  obtain ⟨y, _, rfl⟩ := List.mem_map.mp hx
  rfl
theorem RdAt.keep {K : PySem.W.Frag} {H H' : Hp} {rd sl : Addr} {toks : List Token} {e p : Nat} {had : List Nat} (h : RdAt K H rd toks e p) (hs : H sl = some (.lst (nats had))) (hn : had ≠ []) (k : ∀ b o, b ≠ sl → H b = some o → H' b = some o) : RdAt K H' rd toks e p := by
  obtain ⟨dx, ta, h1, ⟨ts, h2, h3⟩, h4⟩ := h
  refine ⟨dx, ta, k _ _ (ne_of h1 hs (fun q => nomatch q)) h1, ⟨ts, k _ _ (ne_of h2 hs fun q => ?_) h2, pairedImp (fun t x q => ?_) h3⟩, h4⟩
  · injection q with q
    cases had with
    | nil => exact hn rfl
    | cons a l =>
      cases ts with
      | nil => cases q
      | cons b l2 => injection q with q1 _; cases q1
  · have q' : H t = some (.tup _) := q
    exact k _ _ (ne_of q' hs (fun q => nomatch q)) q
theorem cur_empty {toks : List Token} {e p : Nat} : (cur toks e p).tokens.isEmpty = decide (toks.length ≤ p) := by
  by_cases h : toks.length ≤ p
  · rw [cur_none h, decide_eq_true h]; rfl
  · rw [decide_eq_false h, cur_some (List.getElem?_eq_getElem (show p < toks.length by omega))]; rfl
theorem RoomIs.keepR {K : PySem.W.Frag} {H H' : Hp} {rd C dr tr : Addr} {er pr : Int} {r dx pl ru : Addr} {ps rs : List Addr} {z : Vbndam.Room} (h : RoomIs K H r dx pl ru ps rs z) (hr : H rd = some (.ins C dr (fReader tr er pr))) (k : Keep rd H H') : RoomIs K H' r dx pl ru ps rs z := by
  have kk : ∀ {b o}, H b = some o → o ≠ .ins C dr (fReader tr er pr) → H' b = some o := fun e d => k _ _ (ne_of e hr d) e
  have n1 : ∀ {C' dx' a b}, HO.ins C' dx' (fRoom a b) ≠ .ins C dr (fReader tr er pr) := fun q => by
    injection q with _ _ q
    unfold fRoom fReader at q
    injection q with q1 _
    have := (Prod.mk.inj q1).1
    exact absurd this (by decide)
  have n2 : ∀ {C' dx' a b}, HO.ins C' dx' (fPlayer a b) ≠ .ins C dr (fReader tr er pr) := fun q => by
    injection q with _ _ q
    unfold fPlayer fReader at q
    injection q with q1 _
    have := (Prod.mk.inj q1).1
    exact absurd this (by decide)
  have n3 : ∀ {C' dx' a b c}, HO.ins C' dx' (fRule a b c) ≠ .ins C dr (fReader tr er pr) := fun q => by
    injection q with _ _ q
    unfold fRule fReader at q
    injection q with q1 _
    have := (Prod.mk.inj q1).1
    exact absurd this (by decide)
  exact ⟨kk h.at_ n1, kk h.pls (fun q => nomatch q), kk h.rls (fun q => nomatch q), h.ne, h.nd, pairedImp (fun a p q => let ⟨d, e⟩ := q; ⟨d, kk e n2⟩) h.pAt,
    pairedImp (fun a u q => let ⟨d, sl, e, e2, x, y⟩ := q; ⟨d, sl, kk e n3, kk e2 (fun q => nomatch q), x, y⟩) h.rAt⟩
theorem RoomAt.keepR {K : PySem.W.Frag} {H H' : Hp} {rd C dr tr : Addr} {er pr : Int} {r : Addr} {z : Vbndam.Room} (h : RoomAt K H r z) (hr : H rd = some (.ins C dr (fReader tr er pr))) (k : Keep rd H H') : RoomAt K H' r z :=
  let ⟨dx, pl, ru, ps, rs, i⟩ := h
  ⟨dx, pl, ru, ps, rs, i.keepR hr k⟩
section
variable {P : Program} {w : World} {K : PySem.W.Frag} {mg : Str → Option Value} {base : Heap}
def sp_checked_player (K : PySem.W.Frag) : Sp := fun vs H Q E => ∃ (r rd : Addr) (z : Vbndam.Room) (toks : List Token) (e p : Nat), vs = [.ref r, .ref rd] ∧ RoomAt K H r z ∧ RdAt K H rd toks e p ∧ Tk toks ∧
  (∀ i c, Vbndam.parsePlayer z (cur toks e p) = .ok (i, c) → ∀ H', Same H H' → Q (.int (i : Nat)) H') ∧ (∀ er, Vbndam.parsePlayer z (cur toks e p) = .error er → Fl K rd H er E)
theorem ok_checked_player {f : Addr} {fd : FuncData} (T : Txt K mg) (F : FnP K "checked_player" "checked_player" s_checked_player f fd) (hm : mg "checked_player" = some (.ref f)) (c_player_number : C8.Cal P w K mg base 1 "player_number" (sp_player_number K) []) (c_checked_name : CalX P w K mg base 4 "checked_name" (sp_checked_name K)) (m_fail : MetX P w K mg base 3 (cl K "LineReader") "fail" (sp_LineReader_fail K)) :
    CalX P w K mg base 5 "checked_player" (sp_checked_player K) := by
  refine calXMk F hm (F.bindsN (ps := ["room", "reader"]) fun _ _ _ _ _ _ us hl => match us, hl with | [_, _], _ => rfl) sc_checked_player (fun vs H Q E h => by first | (obtain ⟨rfl, _⟩ := h; rfl) | (obtain ⟨_, rfl, _⟩ := h; rfl) | (obtain ⟨_, _, rfl, _⟩ := h; rfl) | (obtain ⟨_, _, _, rfl, _⟩ := h; rfl) | (obtain ⟨_, _, _, _, rfl, _⟩ := h; rfl) | (obtain ⟨_, _, _, _, _, rfl, _⟩ := h; rfl) | (obtain ⟨_, _, _, _, _, _, rfl, _⟩ := h; rfl) | (obtain ⟨_, _, _, _, _, _, _, rfl, _⟩ := h; rfl) | (obtain ⟨_, _, _, _, _, _, _, _, rfl, _⟩ := h; rfl) | (obtain ⟨_, _, _, _, _, _, _, _, _, rfl, _⟩ := h; rfl) | (obtain ⟨_, _, _, _, _, _, _, _, _, _, rfl, _⟩ := h; rfl) | (obtain ⟨_, _, _, _, _, _, _, _, _, _, _, rfl, _⟩ := h; rfl) | (obtain ⟨_, _, _, _, _, _, _, _, _, _, _, _, rfl, _⟩ := h; rfl) | (obtain ⟨_, _, _, _, _, _, _, _, _, _, _, _, _, rfl, _⟩ := h; rfl) | (obtain ⟨_, _, _, _, _, _, _, _, _, _, _, _, _, _, rfl, _⟩ := h; rfl)) (fun cdv A outer s H vs Q E hr h => ?_)
  obtain ⟨r, rd, z, toks, e, p, rfl, hz, hR, hk, q1, q2⟩ := h
  obtain ⟨dx, ta, h1, _, _⟩ := id hR
  refine ⟨_, (pss_cons (ps_set (i := 2) sc_checked_player.nd rfl (Or.inl rfl) (C8.pe_c c_player_number hr (by decide) (by rfl) (pa_cons (pv 0) (pa_cons (pe_cx c_checked_name hr (by decide) (by rfl) (passes_call (W := fun cls d _ H => E cls d H) (takes_of rfl rfl rfl rfl) (fun _ _ _ _ h => h)) (pa_cons (pv 1) pa_nil)) pa_nil)))) (pss_cons (ps_if (pt_cmpR op_isN (pv 2) pe_non (nomark _)) (pss_one (ps_expr (pe_mx m_fail hr (by decide) (pv 1) (passes_call (W := fun cls d _ H => E cls d H) (takes_of rfl rfl rfl rfl) (fun _ _ _ _ h => h)) (pa_cons (C8.pe_gc (by rfl) T.g_NOT_DECLARED) pa_nil)))) pss_nil) (pss_one (ps_ret (pv 2))))), ?_⟩
  refine ⟨_, rfl, _, rfl, rd, toks, e, p, rfl, hR, hk, fun hg H1 s1 => ?_, fun hg => ?_⟩
  · rcases player_cases (z := z) (toks := toks) (e := e) (p := p) with ⟨h0, _⟩ | ⟨_, ⟨hf, hp⟩ | ⟨j, hf, hp⟩⟩
    · rw [hg] at h0; cases h0
    · refine ⟨r, _, z, rfl, hz.same s1, fun H2 s2 => ?_⟩
      rw [hf]
      refine ⟨_, rfl, rfl, _, rfl, ?_⟩
      refine iteT ?_
      have s3 := s1.trans s2
      exact ⟨_, rfl, rd, dx, _, rfl, s3 _ _ h1, lRfail, rd, toks, e, p, 5, rfl, hR.same s3, (q2 _ hp).keep (keepOf s3)⟩
    · refine ⟨r, _, z, rfl, hz.same s1, fun H2 s2 => ?_⟩
      rw [hf]
      refine ⟨_, rfl, rfl, _, rfl, ?_⟩
      refine iteF ?_
      exact ⟨_, rfl, q1 j _ hp H2 (s1.trans s2)⟩
  · rcases player_cases (z := z) (toks := toks) (e := e) (p := p) with ⟨_, hp⟩ | ⟨h0, _⟩
    · exact q2 _ hp
    · rw [hg] at h0; cases h0
def sp_take_substitute (K : PySem.W.Frag) : Sp := fun vs H Q E => ∃ (r rd ear : Addr) (ab : Nat) (had : List Nat) (z : Vbndam.Room) (toks : List Token) (e p : Nat), vs = [.ref r, .ref rd, .int (ab : Nat), .ref ear] ∧ RoomAt K H r z ∧ RdAt K H rd toks e p ∧ Tk toks ∧ H ear = some (.lst (nats had)) ∧
  (∀ n c, subStep z ab had (cur toks e p) = .ok (n, c) → ∀ H', p < toks.length → c = cur toks e (p + 1) → Keep rd H H' → RdAt K H' rd toks e (p + 1) → Q (.int (n : Nat)) H') ∧ (∀ er, subStep z ab had (cur toks e p) = .error er → Fl K rd H er E)
theorem ok_take_substitute {f : Addr} {fd : FuncData} (T : Txt K mg) (F : FnP K "take_substitute" "take_substitute" s_take_substitute f fd) (hm : mg "take_substitute" = some (.ref f)) (c_checked_player : CalX P w K mg base 5 "checked_player" (sp_checked_player K)) (m_advance : C8.Met P w K mg base 1 (cl K "LineReader") "advance" (sp_LineReader_advance K) []) (m_fail : MetX P w K mg base 3 (cl K "LineReader") "fail" (sp_LineReader_fail K)) :
    CalX P w K mg base 6 "take_substitute" (sp_take_substitute K) := by
  refine calXMk F hm (F.bindsN (ps := ["room", "reader", "absent", "earlier"]) fun _ _ _ _ _ _ us hl => match us, hl with | [_, _, _, _], _ => rfl) sc_take_substitute (fun vs H Q E h => by first | (obtain ⟨rfl, _⟩ := h; rfl) | (obtain ⟨_, rfl, _⟩ := h; rfl) | (obtain ⟨_, _, rfl, _⟩ := h; rfl) | (obtain ⟨_, _, _, rfl, _⟩ := h; rfl) | (obtain ⟨_, _, _, _, rfl, _⟩ := h; rfl) | (obtain ⟨_, _, _, _, _, rfl, _⟩ := h; rfl) | (obtain ⟨_, _, _, _, _, _, rfl, _⟩ := h; rfl) | (obtain ⟨_, _, _, _, _, _, _, rfl, _⟩ := h; rfl) | (obtain ⟨_, _, _, _, _, _, _, _, rfl, _⟩ := h; rfl) | (obtain ⟨_, _, _, _, _, _, _, _, _, rfl, _⟩ := h; rfl) | (obtain ⟨_, _, _, _, _, _, _, _, _, _, rfl, _⟩ := h; rfl) | (obtain ⟨_, _, _, _, _, _, _, _, _, _, _, rfl, _⟩ := h; rfl) | (obtain ⟨_, _, _, _, _, _, _, _, _, _, _, _, rfl, _⟩ := h; rfl) | (obtain ⟨_, _, _, _, _, _, _, _, _, _, _, _, _, rfl, _⟩ := h; rfl) | (obtain ⟨_, _, _, _, _, _, _, _, _, _, _, _, _, _, rfl, _⟩ := h; rfl)) (fun cdv A outer s H vs Q E hr h => ?_)
  obtain ⟨r, rd, ear, ab, had, z, toks, e, p, rfl, hz, hR, hk, he, q1, q2⟩ := h
  obtain ⟨dx, ta, h1, _, _⟩ := id hR
  refine ⟨_, (pss_cons (ps_set (i := 4) sc_take_substitute.nd rfl (Or.inl rfl) (pe_cx c_checked_player hr (by decide) (by rfl) (passes_call (W := fun cls d _ H => E cls d H) (takes_of rfl rfl rfl rfl) (fun _ _ _ _ h => h)) (pa_cons (pv 0) (pa_cons (pv 1) pa_nil)))) (pss_cons (ps_if (pt_cmpR op_eq (pv 4) (pv 2) (nomark _)) (pss_one (ps_expr (pe_mx m_fail hr (by decide) (pv 1) (passes_call (W := fun cls d _ H => E cls d H) (takes_of rfl rfl rfl rfl) (fun _ _ _ _ h => h)) (pa_cons (C8.pe_gc (by rfl) T.g_ABSENT_SUBSTITUTE) pa_nil)))) pss_nil) (pss_cons (ps_if (pt_cmpR op_in_seq (pv 4) (pv 3) (by rfl)) (pss_one (ps_expr (pe_mx m_fail hr (by decide) (pv 1) (passes_call (W := fun cls d _ H => E cls d H) (takes_of rfl rfl rfl rfl) (fun _ _ _ _ h => h)) (pa_cons (C8.pe_gc (by rfl) T.g_EXISTS_ALREADY) pa_nil)))) pss_nil) (pss_cons (ps_expr (C8.pe_mt0 m_advance hr (by decide) (pv 1))) (pss_one (ps_ret (pv 4))))))), ?_⟩
  refine ⟨_, rfl, _, rfl, r, rd, z, toks, e, p, rfl, hz, hR, hk, fun n c hp H1 s1 => ?_, fun er hp => q2 er ?_⟩
  · obtain ⟨hlt, hc⟩ := player_lt hp
    have hR1 := hR.same s1
    have es : subStep z ab had (cur toks e p) = if n = ab then .error ⟨10, currentOffset (cur toks e p)⟩ else if had.contains n = true then .error ⟨4, currentOffset (cur toks e p)⟩ else .ok (n, c) := by
      unfold subStep
      rw [hp]
    refine ⟨_, rfl, _, rfl, rfl, _, rfl, ?_⟩
    have dn : decide (V.int (n : Int) = V.int (ab : Int)) = decide (n = ab) := by
      rw [dec_int, Bool.eq_iff_iff, beq_iff_eq, decide_eq_true_eq]
      omega
    show if decide (V.int (n : Int) = V.int (ab : Int)) = true then _ else _
    rw [dn]
    by_cases c1 : n = ab
    · rw [decide_eq_true c1]
      rw [if_pos c1] at es
      refine iteT ?_
      exact ⟨_, rfl, rd, dx, _, rfl, s1 _ _ h1, lRfail, rd, toks, e, p, 10, rfl, hR1, (q2 _ es).keep (keepOf s1)⟩
    · rw [decide_eq_false c1]
      rw [if_neg c1] at es
      refine iteF ⟨_, rfl, _, rfl, _, _, rfl, .inl (SqL.of (s1 _ _ he)), rfl, flat_nats _, _, rfl, ?_⟩
      show if inV (V.int (n : Int)) _ = true then _ else _
      rw [contains_nats]
      cases c2 : had.contains n with
      | true =>
        rw [if_pos c2] at es
        refine iteT ?_
        exact ⟨_, rfl, rd, dx, _, rfl, s1 _ _ h1, lRfail, rd, toks, e, p, 4, rfl, hR1, (q2 _ es).keep (keepOf s1)⟩
      | false =>
        rw [if_neg (by rw [c2]; decide)] at es
        refine iteF ?_
        exact ⟨_, rfl, rd, dx, _, rfl, s1 _ _ h1, lRadvance, rd, toks, e, p, rfl, hR1, hlt, fun H' k r => ⟨_, rfl, q1 n c es H' hlt hc ((keepOf s1).trans k) r⟩⟩
  · unfold subStep
    rw [hp]
def sp_take_substitutes (K : PySem.W.Frag) : Sp := fun vs H Q E => ∃ (r rd : Addr) (ab : Nat) (z : Vbndam.Room) (toks : List Token) (e p : Nat), vs = [.ref r, .ref rd, .int (ab : Nat)] ∧ RoomAt K H r z ∧ RdAt K H rd toks e p ∧ Tk toks ∧
  (∀ l c, Vbndam.parseSubstitutes z ab (toks.length - p + 1) [] (cur toks e p) = .ok (l, c) → ∀ H' sl, Keep rd H H' → H sl = none → H' sl = some (.lst (nats l)) → l.length ≤ 20000 → RdAt K H' rd toks e toks.length → c = cur toks e toks.length → Q (.ref sl) H') ∧
  (∀ er, Vbndam.parseSubstitutes z ab (toks.length - p + 1) [] (cur toks e p) = .error er → Fl K rd H er E)
theorem ok_take_substitutes {f : Addr} {fd : FuncData} (T : Txt K mg) (F : FnP K "take_substitutes" "take_substitutes" s_take_substitutes f fd) (hm : mg "take_substitutes" = some (.ref f)) (c_take_substitute : CalX P w K mg base 6 "take_substitute" (sp_take_substitute K)) (m_is_done : C8.Met P w K mg base 1 (cl K "LineReader") "is_done" (sp_LineReader_is_done K) []) :
    CalX P w K mg base 7 "take_substitutes" (sp_take_substitutes K) := by
  refine calXMk F hm (F.bindsN (ps := ["room", "reader", "absent"]) fun _ _ _ _ _ _ us hl => match us, hl with | [_, _, _], _ => rfl) sc_take_substitutes (fun vs H Q E h => by first | (obtain ⟨rfl, _⟩ := h; rfl) | (obtain ⟨_, rfl, _⟩ := h; rfl) | (obtain ⟨_, _, rfl, _⟩ := h; rfl) | (obtain ⟨_, _, _, rfl, _⟩ := h; rfl) | (obtain ⟨_, _, _, _, rfl, _⟩ := h; rfl) | (obtain ⟨_, _, _, _, _, rfl, _⟩ := h; rfl) | (obtain ⟨_, _, _, _, _, _, rfl, _⟩ := h; rfl) | (obtain ⟨_, _, _, _, _, _, _, rfl, _⟩ := h; rfl) | (obtain ⟨_, _, _, _, _, _, _, _, rfl, _⟩ := h; rfl) | (obtain ⟨_, _, _, _, _, _, _, _, _, rfl, _⟩ := h; rfl) | (obtain ⟨_, _, _, _, _, _, _, _, _, _, rfl, _⟩ := h; rfl) | (obtain ⟨_, _, _, _, _, _, _, _, _, _, _, rfl, _⟩ := h; rfl) | (obtain ⟨_, _, _, _, _, _, _, _, _, _, _, _, rfl, _⟩ := h; rfl) | (obtain ⟨_, _, _, _, _, _, _, _, _, _, _, _, _, rfl, _⟩ := h; rfl) | (obtain ⟨_, _, _, _, _, _, _, _, _, _, _, _, _, _, rfl, _⟩ := h; rfl)) (fun cdv A outer s H vs Q E hr h => ?_)
  obtain ⟨r, rd, ab, z, toks, e, p, rfl, hz, hR, hk, q1, q2⟩ := h
  obtain ⟨dx, ta, h1, _, hple⟩ := id hR
  refine ⟨_, (pss_cons (ps_set (i := 3) sc_take_substitutes.nd rfl (Or.inl rfl) (pe_lst (pa_cons (pe_cx c_take_substitute hr (by decide) (by rfl) (passes_call (W := fun cls d _ H => E cls d H) (takes_of rfl rfl rfl rfl) (fun _ _ _ _ h => h)) (pa_cons (pv 0) (pa_cons (pv 1) (pa_cons (pv 2) (pa_cons (pe_lst pa_nil) pa_nil))))) pa_nil))) (pss_cons (ps_while (passes_of rfl) (pt_not (pt_val (C8.pe_mt0 m_is_done hr (by decide) (pv 1)))) (pss_one (ps_expr (pe_bm PySem.F.plainAttrs_list PySem.F.slot_list_append PySem.F.type_list_append mt_append (pv 3) (pa_cons (pe_cx c_take_substitute hr (by decide) (by rfl) (passes_call (W := fun cls d _ H => E cls d H) (takes_of rfl rfl rfl rfl) (fun _ _ _ _ h => h)) (pa_cons (pv 0) (pa_cons (pv 1) (pa_cons (pv 2) (pa_cons (pv 3) pa_nil))))) pa_nil))))) (pss_one (ps_ret (pv 3))))), ?_⟩
  refine ⟨_, rfl, _, rfl, _, rfl, by show 0 ≤ sizeLine; decide, fun e0 he0 => ?_⟩
  have s0 : Same H (upd H e0 (.lst [])) := sameUpd he0
  have est := subs_step z ab (toks.length - p) [] (cur toks e p) (by rintro ⟨_, x⟩; cases x)
  refine ⟨r, rd, e0, ab, [], z, toks, e, p, rfl, hz.same s0, hR.same s0, hk, upd_same, fun n c hs H1 hlt hc k1 hR1 => ?_, fun er hs => ?_⟩
  · rw [hs] at est
    dsimp only at est
    refine ⟨by show 1 ≤ sizeLine; decide, fun sl hsl => ?_⟩
    have k0 : Keep rd H H1 := (keepOf s0).trans k1
    have hrd1 : H1 rd ≠ none := by obtain ⟨_, _, x, _⟩ := hR1; rw [x]; intro y; cases y
    have hsl0 : H sl = none := by
      cases e1 : H sl with
      | none => rfl
      | some o =>
        by_cases er : sl = rd
        · subst er; exact absurd hsl hrd1
        · rw [k0 _ _ er e1] at hsl; cases hsl
    have s1 : Same H1 (upd H1 sl (.lst [V.int (n : Nat)])) := sameUpd hsl
    subst hc
    refine ⟨fun m σ H2 => ∃ (p' f : Nat) (had : List Nat), m = toks.length - p' ∧ had ≠ [] ∧ had.length ≤ p' ∧ σ = [some (.ref r), some (.ref rd), some (.int (ab : Nat)), some (.ref sl)] ∧ Keep rd H H2 ∧ H2 sl = some (.lst (nats had)) ∧ RdAt K H2 rd toks e p' ∧ toks.length - p' ≤ f ∧
      Vbndam.parseSubstitutes z ab (toks.length - p + 1) [] (cur toks e p) = Vbndam.parseSubstitutes z ab f had (cur toks e p'),
      ⟨toks.length - (p + 1), p + 1, toks.length - p, [n], rfl, (fun x => by cases x), (by show 1 ≤ _; omega), rfl, k0.trans (keepOf s1), upd_same, hR1.same s1, by omega, est⟩, ?_⟩
    rintro m σ H2 ⟨p', f, had, rfl, hne, hhp, rfl, k2, eS, hR2, hf, hP⟩
    obtain ⟨dx2, ta2, h2, _, hp'⟩ := id hR2
    refine ⟨_, rfl, rd, dx2, _, rfl, h2, lRdone, rd, toks, e, p', rfl, hR2, _, rfl, ?_⟩
    by_cases hend : toks.length ≤ p'
    · rw [decide_eq_true hend]
      refine iteF ?_
      obtain rfl : p' = toks.length := by omega
      rw [subs_end z ab f had _ ⟨by rw [cur_empty, decide_eq_true hend], by cases had with | nil => exact absurd rfl hne | cons _ _ => rfl⟩] at hP
      have := hk.2
      exact ⟨_, rfl, q1 had _ hP H2 sl k2 hsl0 eS (by omega) hR2 rfl⟩
    · rw [decide_eq_false hend]
      refine iteT ⟨_, fun σ' H' h => h, ?_⟩
      obtain ⟨f', rfl⟩ : ∃ f', f = f' + 1 := ⟨f - 1, by omega⟩
      have est2 := subs_step z ab f' had (cur toks e p') (by rintro ⟨x, _⟩; rw [cur_empty, decide_eq_false hend] at x; cases x)
      refine ⟨_, rfl, .inl ⟨rfl, _, SqL.of eS⟩, _, rfl, _, rfl, _, rfl, _, rfl, ?_⟩
      refine ⟨r, rd, sl, ab, had, z, toks, e, p', rfl, hz.keepR h1 k2, hR2, hk, eS, fun n2 c2 hs2 H3 hlt2 hc2 k3 hR3 => ?_, fun er hs2 => ?_⟩
      · rw [hs2] at est2
        dsimp only at est2
        subst hc2
        have nsr : sl ≠ rd := ne_of eS h2 (fun q => nomatch q)
        have eS3 := k3 _ _ nsr eS
        have hklen := hk.2
        refine ⟨sl, nats had, _, rfl, rfl, eS3, lenI (by unfold nats; rw [List.length_map]; omega), ?_⟩
        have eup : upd H3 sl (.lst (nats had ++ [V.int (n2 : Nat)])) sl = some (.lst (nats (had ++ [n2]))) := by
          rw [upd_same]
          unfold nats
          rw [List.map_append]
          rfl
        refine ⟨toks.length - (p' + 1), by omega, p' + 1, f', had ++ [n2], rfl, (fun x => by cases had <;> cases x), by rw [List.length_append]; show _ + 1 ≤ _; omega, rfl, fun b o hb e1 => ?_, eup, ?_, by omega, hP.trans est2⟩
        · rw [upd_ne (ne_of_none e1 hsl0)]
          exact k3 _ _ hb (k2 b o hb e1)
        · exact hR3.keep eS3 hne fun b o hb e1 => by rw [upd_ne hb]; exact e1
      · rw [hs2] at est2
        exact (q2 er (hP.trans est2)).keep k2
  · rw [hs] at est
    exact (q2 er est).keep (keepOf s0)
end
end SI

set_option maxHeartbeats 4000000
namespace SI
open PySem PySem.Spec PyProof.Rows L2
open SX (S)
open Vbndaa (Token Cursor ParseError splitAtByte currentOffset isDigit isLowercase natOfToken valueOf toBytes)
theorem bnd_okI {α β : Type} {a : α} {f : α → Except ParseError β} : bnd (.ok a) f = f a := rfl
theorem bnd_er {α β : Type} {e : ParseError} {f : α → Except ParseError β} : bnd (.error e) f = .error e := rfl
def Grow (K : PySem.W.Frag) (H H' : Hp) (rd r dx pl ru : Addr) (ps rs : List Addr) (z z' : Vbndam.Room) : Prop := ∃ ps' rs', (∀ b o, b ≠ rd → b ≠ pl → b ≠ ru → H b = some o → H' b = some o) ∧ RoomIs K H' r dx pl ru ps' rs' z' ∧
  ∀ B, Same B H → B rd = none → RoomIs K (newH B H) r dx pl ru ps rs z → RoomIs K (newH B H') r dx pl ru ps' rs' z'
theorem keepB {K : PySem.W.Frag} {B H H' : Hp} {rd C dr tr : Addr} {er pr : Int} {r dx pl ru : Addr} {ps rs : List Addr} {z : Vbndam.Room} (J : RoomIs K (newH B H) r dx pl ru ps rs z) (hrd : B rd = none) (h1 : H rd = some (.ins C dr (fReader tr er pr))) (k : Keep rd H H') : RoomIs K (newH B H') r dx pl ru ps rs z :=
  J.keepR (newH_of hrd h1) fun b o hb e => newH_of (newH_some e).1 (k b o hb (newH_some e).2)
theorem outB {B H H' : Hp} {rd : Addr} (hB : Same B H) (hrd : B rd = none) (k : Keep rd H H') {a : Addr} (ha : H' a = none) : B a = none := by
  cases e : B a with
  | none => rfl
  | some o =>
    by_cases er : a = rd
    · subst er; rw [hrd] at e; cases e
    · rw [k _ _ er (hB _ _ e)] at ha; cases ha
theorem lenEq {n k : Nat} (h : n ≤ k) : decide (V.int ((n : Nat) : Int) = V.int (k : Int)) = decide (k ≤ n) := by
  rw [dec_int, Bool.eq_iff_iff, beq_iff_eq, decide_eq_true_eq]
  omega
theorem growPlayer {K : PySem.W.Frag} {H : Hp} {r dx pl ru x d : Addr} {ps rs : List Addr} {z : Vbndam.Room} {nm : List Nat} {wt : Nat} (I : RoomIs K H r dx pl ru ps rs z) (hx : H x = none) (hd : H d = none) (hn : d ≠ x) :
    RoomIs K (upd (upd (upd (upd H d (.own x)) x (.ins (cl K "Player") d [])) x (.ins (cl K "Player") d (fPlayer nm (wt : Nat)))) pl (.lst (ps.map V.ref ++ [.ref x]))) r dx pl ru (ps ++ [x]) rs { z with players := z.players ++ [⟨nm, wt⟩] } := by
  have px : x ≠ pl := fun e => by subst e; rw [I.pls] at hx; cases hx
  have kk : ∀ {b o}, b ≠ pl → H b = some o → upd (upd (upd (upd H d (.own x)) x (.ins (cl K "Player") d [])) x (.ins (cl K "Player") d (fPlayer nm (wt : Nat)))) pl (.lst (ps.map V.ref ++ [.ref x])) b = some o := fun hb e => by
    rw [upd_ne hb, upd_upd, upd_ne (ne_of_none e hx), upd_ne (ne_of_none e hd)]
    exact e
  have ki : ∀ {b C dx fs}, H b = some (.ins C dx fs) → b ≠ pl := fun e => ne_of e I.pls (fun q => nomatch q)
  refine ⟨kk (ki I.at_) I.at_, ?_, kk (Ne.symm I.ne) I.rls, I.ne, ?_, ?_, ?_⟩
  · rw [upd_same, List.map_append]
    rfl
  · rw [List.nodup_append]
    refine ⟨I.nd, by simp, fun a ha b hb => ?_⟩
    rw [List.mem_singleton] at hb
    subst hb
    intro e
    subst e
    obtain ⟨i, hi⟩ := List.mem_iff_getElem?.mp ha
    obtain ⟨_, _, dp, ep⟩ := pairedGetL I.pAt hi
    rw [hx] at ep
    cases ep
  · refine pairedSnoc ⟨d, ?_⟩ (pairedImp (fun a p q => let ⟨dp, e⟩ := q; ⟨dp, kk (ki e) e⟩) I.pAt)
    rw [upd_ne px, upd_same]
  · exact pairedImp (fun a u q => let ⟨du, sl, e, e2, n1, n2⟩ := q; ⟨du, sl, kk (ki e) e, kk n1 e2, n1, n2⟩) I.rAt
theorem growRule {K : PySem.W.Frag} {H : Hp} {r dx pl ru x d sl : Addr} {ps rs : List Addr} {z : Vbndam.Room} {ab nd : Nat} {l : List Nat} (I : RoomIs K H r dx pl ru ps rs z) (hx : H x = none) (hd : H d = none) (hn : d ≠ x) (hs : H sl = some (.lst (nats l))) (n1 : sl ≠ pl) (n2 : sl ≠ ru) :
    RoomIs K (upd (upd (upd (upd H d (.own x)) x (.ins (cl K "Rule") d [])) x (.ins (cl K "Rule") d (fRule (ab : Nat) (nd : Nat) sl))) ru (.lst (rs.map V.ref ++ [.ref x]))) r dx pl ru ps (rs ++ [x]) { z with rules := z.rules ++ [⟨ab, nd, l⟩] } := by
  have px : x ≠ ru := fun e => by subst e; rw [I.rls] at hx; cases hx
  have kk : ∀ {b o}, b ≠ ru → H b = some o → upd (upd (upd (upd H d (.own x)) x (.ins (cl K "Rule") d [])) x (.ins (cl K "Rule") d (fRule (ab : Nat) (nd : Nat) sl))) ru (.lst (rs.map V.ref ++ [.ref x])) b = some o := fun hb e => by
    rw [upd_ne hb, upd_upd, upd_ne (ne_of_none e hx), upd_ne (ne_of_none e hd)]
    exact e
  have ki : ∀ {b C dx fs}, H b = some (.ins C dx fs) → b ≠ ru := fun e => ne_of e I.rls (fun q => nomatch q)
  refine ⟨kk (ki I.at_) I.at_, kk I.ne I.pls, ?_, I.ne, I.nd, pairedImp (fun a p q => let ⟨dp, e⟩ := q; ⟨dp, kk (ki e) e⟩) I.pAt, ?_⟩
  · rw [upd_same, List.map_append]
    rfl
  · refine pairedSnoc ⟨d, sl, ?_, kk n2 hs, n1, n2⟩ (pairedImp (fun a u q => let ⟨du, sl, e, e2, m1, m2⟩ := q; ⟨du, sl, kk (ki e) e, kk m2 e2, m1, m2⟩) I.rAt)
    rw [upd_ne px, upd_same]
section
variable {P : Program} {w : World} {K : PySem.W.Frag} {mg : Str → Option Value} {base : Heap}
def sp_parse_player (K : PySem.W.Frag) : Sp := fun vs H Q E => ∃ (r rd dx pl ru : Addr) (ps rs : List Addr) (z : Vbndam.Room) (toks : List Token) (e p : Nat), vs = [.ref r, .ref rd] ∧ RoomIs K H r dx pl ru ps rs z ∧ RdAt K H rd toks e p ∧ Tk toks ∧ PF z ∧ p < toks.length ∧
  (∀ z', linePlayer z (cur toks e p) = .ok z' → ∀ H', Grow K H H' rd r dx pl ru ps rs z z' → Q .non H') ∧ (∀ er, linePlayer z (cur toks e p) = .error er → Fl K rd H er E)
theorem ok_parse_player {f : Addr} {fd : FuncData} (T : Txt K mg) (F : FnP K "parse_player" "parse_player" s_parse_player f fd) (hm : mg "parse_player" = some (.ref f)) (m_advance : C8.Met P w K mg base 1 (cl K "LineReader") "advance" (sp_LineReader_advance K) []) (c_checked_name : CalX P w K mg base 4 "checked_name" (sp_checked_name K)) (c_take_word : CalX P w K mg base 4 "take_word" (sp_take_word K)) (c_take_number : CalX P w K mg base 4 "take_number" (sp_take_number K)) (m_fail : MetX P w K mg base 3 (cl K "LineReader") "fail" (sp_LineReader_fail K)) (c_player_number : C8.Cal P w K mg base 1 "player_number" (sp_player_number K) []) (m_is_done : C8.Met P w K mg base 1 (cl K "LineReader") "is_done" (sp_LineReader_is_done K) []) (m_Player : C8.Mak P w K mg base 1 "Player" (cl K "Player") (sp_Player_init K) []) :
    CalX P w K mg base 5 "parse_player" (sp_parse_player K) := by
  refine calXMk F hm (F.bindsN (ps := ["room", "reader"]) fun _ _ _ _ _ _ us hl => match us, hl with | [_, _], _ => rfl) sc_parse_player (fun vs H Q E h => by first | (obtain ⟨rfl, _⟩ := h; rfl) | (obtain ⟨_, rfl, _⟩ := h; rfl) | (obtain ⟨_, _, rfl, _⟩ := h; rfl) | (obtain ⟨_, _, _, rfl, _⟩ := h; rfl) | (obtain ⟨_, _, _, _, rfl, _⟩ := h; rfl) | (obtain ⟨_, _, _, _, _, rfl, _⟩ := h; rfl) | (obtain ⟨_, _, _, _, _, _, rfl, _⟩ := h; rfl) | (obtain ⟨_, _, _, _, _, _, _, rfl, _⟩ := h; rfl) | (obtain ⟨_, _, _, _, _, _, _, _, rfl, _⟩ := h; rfl) | (obtain ⟨_, _, _, _, _, _, _, _, _, rfl, _⟩ := h; rfl) | (obtain ⟨_, _, _, _, _, _, _, _, _, _, rfl, _⟩ := h; rfl) | (obtain ⟨_, _, _, _, _, _, _, _, _, _, _, rfl, _⟩ := h; rfl) | (obtain ⟨_, _, _, _, _, _, _, _, _, _, _, _, rfl, _⟩ := h; rfl) | (obtain ⟨_, _, _, _, _, _, _, _, _, _, _, _, _, rfl, _⟩ := h; rfl) | (obtain ⟨_, _, _, _, _, _, _, _, _, _, _, _, _, _, rfl, _⟩ := h; rfl)) (fun cdv A outer s H vs Q E hr h => ?_)
  obtain ⟨r, rd, dx, pl, ru, ps, rs, z, toks, e, p, rfl, I, hR, hk, hz, hpl, q1, q2⟩ := h
  obtain ⟨dr, ta, h1, _, _⟩ := id hR
  refine ⟨_, (pss_cons (ps_if (pt_cmpR op_eq (pe_callB call_len_seq (by rfl) T.n_len PySem.boot_len (pa_cons (pe_fld (pv 0) rfl) pa_nil)) (C8.pe_gc (by rfl) T.g_MOST_PLAYERS) (nomark _)) (pss_one (ps_expr (pe_mx m_fail hr (by decide) (pv 1) (passes_call (W := fun cls d _ H => E cls d H) (takes_of rfl rfl rfl rfl) (fun _ _ _ _ h => h)) (pa_cons (C8.pe_gc (by rfl) T.g_TOO_MANY) pa_nil)))) pss_nil) (pss_cons (ps_expr (C8.pe_mt0 m_advance hr (by decide) (pv 1))) (pss_cons (ps_set (i := 2) sc_parse_player.nd rfl (Or.inl rfl) (pe_cx c_checked_name hr (by decide) (by rfl) (passes_call (W := fun cls d _ H => E cls d H) (takes_of rfl rfl rfl rfl) (fun _ _ _ _ h => h)) (pa_cons (pv 1) pa_nil))) (pss_cons (ps_if (pt_cmpR op_notN (C8.pe_c c_player_number hr (by decide) (by rfl) (pa_cons (pv 0) (pa_cons (pv 2) pa_nil))) pe_non (nomark _)) (pss_one (ps_expr (pe_mx m_fail hr (by decide) (pv 1) (passes_call (W := fun cls d _ H => E cls d H) (takes_of rfl rfl rfl rfl) (fun _ _ _ _ h => h)) (pa_cons (C8.pe_gc (by rfl) T.g_EXISTS_ALREADY) pa_nil)))) pss_nil) (pss_cons (ps_expr (C8.pe_mt0 m_advance hr (by decide) (pv 1))) (pss_cons (ps_expr (pe_cx c_take_word hr (by decide) (by rfl) (passes_call (W := fun cls d _ H => E cls d H) (takes_of rfl rfl rfl rfl) (fun _ _ _ _ h => h)) (pa_cons (pv 1) (pa_cons pe_str pa_nil)))) (pss_cons (ps_set (i := 3) sc_parse_player.nd rfl (Or.inl rfl) (pe_cx c_take_number hr (by decide) (by rfl) (passes_call (W := fun cls d _ H => E cls d H) (takes_of rfl rfl rfl rfl) (fun _ _ _ _ h => h)) (pa_cons (pv 1) (pa_cons pe_int (pa_cons (C8.pe_gc (by rfl) T.g_HEAVIEST) pa_nil))))) (pss_cons (ps_if (pt_not (pt_val (C8.pe_mt0 m_is_done hr (by decide) (pv 1)))) (pss_one (ps_expr (pe_mx m_fail hr (by decide) (pv 1) (passes_call (W := fun cls d _ H => E cls d H) (takes_of rfl rfl rfl rfl) (fun _ _ _ _ h => h)) (pa_cons (C8.pe_gc (by rfl) T.g_NOT_ALLOWED) pa_nil)))) pss_nil) (pss_one (ps_expr (pe_bm PySem.F.plainAttrs_list PySem.F.slot_list_append PySem.F.type_list_append mt_append (pe_fld (pv 0) rfl) (pa_cons (C8.pe_mk m_Player hr (by decide) (by rfl) (pa_cons (pv 2) (pa_cons (pv 3) pa_nil))) pa_nil)))))))))))), ?_⟩
  have hlp := pairedLen I.pAt
  have h8 := hz.le8
  have hL : linePlayer z (cur toks e p) = (if 8 ≤ z.players.length then .error ⟨7, currentOffset (cur toks e p)⟩ else bnd (Vbndam.parseName (Vbndam.skipToken (cur toks e p))) fun x => if z.players.any (fun p => p.name == x.1) = true then .error ⟨4, currentOffset (Vbndam.skipToken (cur toks e p))⟩ else
    bnd (Vbndaa.expectToken 1 (toBytes "weight") x.2) fun y => bnd (Vbndam.parseNatInRange 0 1000 y.2) fun v => Vbndaa.expectEnd 1 { z with players := z.players ++ [⟨x.1, v.1⟩] } v.2) := rfl
  rw [cur_skip] at hL
  generalize hLL : linePlayer z (cur toks e p) = L at hL q1 q2
  refine ⟨_, rfl, r, _, dx, _, _, rfl, I.at_, T.c_Room, T.a_players, lRoom1, pl, _, rfl, .inl (SqL.of I.pls), rfl, _, rfl, ?_⟩
  show if decide (V.int (((ps.map V.ref).length : Nat) : Int) = V.int ((8 : Nat) : Int)) = true then _ else _
  rw [List.length_map, hlp, lenEq h8]
  by_cases c8 : 8 ≤ z.players.length
  · rw [decide_eq_true c8]
    rw [if_pos c8] at hL
    refine iteT ?_
    exact ⟨_, rfl, rd, dr, _, rfl, h1, lRfail, rd, toks, e, p, 7, rfl, hR, q2 _ hL⟩
  rw [decide_eq_false c8]
  rw [if_neg c8] at hL
  refine iteF ?_
  refine ⟨_, rfl, rd, dr, _, rfl, h1, lRadvance, rd, toks, e, p, rfl, hR, hpl, fun H1 k1 hR1 => ?_⟩
  have I1 := I.keepR h1 k1
  refine ⟨_, rfl, rd, toks, e, p + 1, rfl, hR1, hk, fun hg H2 s2 => ?_, fun hg => ?_⟩
  case refine_2 =>
    rw [name_bad hg, bnd_er] at hL
    exact (q2 _ hL).keep k1
  have hw1 : p + 1 < toks.length := word_ne (e := e) (fun x => by rw [x] at hg; cases hg)
  rw [name_ok hg, bnd_okI] at hL
  dsimp only at hL
  generalize hnm : wordOf (cur toks e (p + 1)) = nm at hL hg
  have k2 := k1.trans (keepOf s2)
  have I2 : RoomIs K H2 r dx pl ru ps rs z := I.keepR h1 k2
  have hR2 := hR1.same s2
  refine ⟨_, rfl, _, rfl, r, nm, z, rfl, ⟨dx, pl, ru, ps, rs, I2⟩, fun H3 s3 => ?_⟩
  have k3 := k2.trans (keepOf s3)
  have hR3 := hR2.same s3
  obtain ⟨dr3, ta3, h3, _, _⟩ := id hR3
  refine ⟨rfl, _, rfl, ?_⟩
  rw [← List.findIdx?_isSome] at hL
  cases hf : z.players.findIdx? (fun p => p.name == nm) with
  | some i =>
    rw [hf] at hL
    rw [if_pos (show (some i).isSome = true from rfl)] at hL
    refine iteT ?_
    exact ⟨_, rfl, rd, dr3, _, rfl, h3, lRfail, rd, toks, e, p + 1, 4, rfl, hR3, (q2 _ hL).keep k3⟩
  | none =>
    rw [hf] at hL
    rw [if_neg (show ¬ (none : Option Nat).isSome = true by decide)] at hL
    refine iteF ?_
    refine ⟨_, rfl, rd, dr3, _, rfl, h3, lRadvance, rd, toks, e, p + 1, rfl, hR3, hw1, fun H4 k4 hR4 => ?_⟩
    have k5 := k3.trans k4
    refine ⟨_, rfl, rd, toBytes "weight", toks, e, p + 1 + 1, ?_, hR4, by decide, fun hw H5 k6 hR5 => ?_, fun hw => ?_⟩
    case refine_1 => exact congrArg (fun x => [V.ref rd, V.str x]) S_weight.symm
    case refine_3 =>
      rw [expect_bad hw, bnd_er] at hL
      exact (q2 _ hL).keep k5
    rw [expect_ok (by decide) hw, bnd_okI] at hL
    dsimp only at hL
    have k7 := k5.trans k6
    refine ⟨_, rfl, rd, 0, 1000, toks, e, p + 1 + 1 + 1, rfl, hR5, hk, fun n c hn H6 hc k8 hR6 => ?_, fun er hn => ?_⟩
    case refine_2 =>
      rw [hn, bnd_er] at hL
      exact (q2 _ hL).keep k7
    subst hc
    rw [hn, bnd_okI] at hL
    dsimp only at hL
    have k9 := k7.trans k8
    obtain ⟨dr6, ta6, h6, _, _⟩ := id hR6
    have I6 : RoomIs K H6 r dx pl ru ps rs z := I.keepR h1 k9
    refine ⟨_, rfl, rd, dr6, _, rfl, h6, lRdone, rd, toks, e, _, rfl, hR6, _, rfl, ?_⟩
    rw [end_ok] at hL
    by_cases hend : p + 1 + 1 + 1 + 1 < toks.length
    · rw [if_pos hend] at hL
      rw [decide_eq_false (by omega)]
      refine iteT ?_
      exact ⟨_, rfl, rd, dr6, _, rfl, h6, lRfail, rd, toks, e, _, 1, rfl, hR6, (q2 _ hL).keep k9⟩
    rw [if_neg hend] at hL
    rw [decide_eq_true (by omega)]
    refine iteF ?_
    refine ⟨_, rfl, r, _, dx, _, _, rfl, I6.at_, T.c_Room, T.a_players, lRoom1, .inl ⟨rfl, _, SqL.of I6.pls⟩, ?_⟩
    refine ⟨_, rfl, _, rfl, fun x d hx hd hne => ⟨x, d, nm, _, rfl, upd_same, rfl, ?_⟩⟩
    have px : pl ≠ x := fun q => by subst q; rw [I6.pls] at hx; cases hx
    have pd : pl ≠ d := fun q => by subst q; rw [I6.pls] at hd; cases hd
    refine ⟨pl, ps.map V.ref, _, rfl, rfl, ?_, lenI (by rw [List.length_map]; omega), ?_⟩
    · rw [upd_ne px, upd_ne px, upd_ne pd]
      exact I6.pls
    refine q1 _ hL _ ⟨ps ++ [x], rs, fun b o n1 n2 n3 eb => ?_, growPlayer I6 hx hd hne, fun B hB hrd J => ?_⟩
    · have e6 := k9 b o n1 eb
      rw [upd_ne n2, upd_upd, upd_ne (ne_of_none e6 hx), upd_ne (ne_of_none e6 hd)]
      exact e6
    · have J6 := keepB J hrd h1 k9
      rw [newH_upd (newH_some J.pls).1, newH_upd (outB hB hrd k9 hx), newH_upd (outB hB hrd k9 hx), newH_upd (outB hB hrd k9 hd)]
      exact growPlayer J6 (newH_none hx) (newH_none hd) hne
end
end SI

set_option maxHeartbeats 4000000
namespace SI
open PySem PySem.Spec PyProof.Rows L2
open SX (S)
open Vbndaa (Token Cursor ParseError splitAtByte currentOffset isDigit isLowercase natOfToken valueOf toBytes)
theorem cur_len (toks : List Token) (e p : Nat) : (cur toks e p).tokens.length = toks.length - p := List.length_drop
theorem free_of {rd : Addr} {H H' : Hp} {C d : Addr} {fs : List (Str × V)} (k : Keep rd H H') (hr : H' rd = some (.ins C d fs)) {a : Addr} (ha : H' a = none) : H a = none := by
  cases e : H a with
  | none => rfl
  | some o =>
    by_cases er : a = rd
    · subst er; rw [hr] at ha; cases ha
    · rw [k _ _ er e] at ha; cases ha
section
variable {P : Program} {w : World} {K : PySem.W.Frag} {mg : Str → Option Value} {base : Heap}
def sp_parse_rule (K : PySem.W.Frag) : Sp := fun vs H Q E => ∃ (r rd dx pl ru : Addr) (ps rs : List Addr) (z : Vbndam.Room) (toks : List Token) (e p : Nat), vs = [.ref r, .ref rd] ∧ RoomIs K H r dx pl ru ps rs z ∧ RdAt K H rd toks e p ∧ Tk toks ∧ PF z ∧ p < toks.length ∧
  (∀ z', lineRule z (cur toks e p) = .ok z' → ∀ H', Grow K H H' rd r dx pl ru ps rs z z' → Q .non H') ∧ (∀ er, lineRule z (cur toks e p) = .error er → Fl K rd H er E)
theorem ok_parse_rule {f : Addr} {fd : FuncData} (T : Txt K mg) (F : FnP K "parse_rule" "parse_rule" s_parse_rule f fd) (hm : mg "parse_rule" = some (.ref f)) (m_advance : C8.Met P w K mg base 1 (cl K "LineReader") "advance" (sp_LineReader_advance K) []) (c_checked_player : CalX P w K mg base 5 "checked_player" (sp_checked_player K)) (c_take_word : CalX P w K mg base 4 "take_word" (sp_take_word K)) (m_place : C8.Met P w K mg base 2 (cl K "LineReader") "place" (sp_LineReader_place K) []) (c_take_number : CalX P w K mg base 4 "take_number" (sp_take_number K)) (c_take_substitutes : CalX P w K mg base 7 "take_substitutes" (sp_take_substitutes K)) (m_fail : MetX P w K mg base 3 (cl K "LineReader") "fail" (sp_LineReader_fail K)) (m_word : C8.Met P w K mg base 2 (cl K "LineReader") "word" (sp_LineReader_word K) []) (fault : FaultI P w K mg base) (m_Rule : C8.Mak P w K mg base 1 "Rule" (cl K "Rule") (sp_Rule_init K) []) :
    CalX P w K mg base 8 "parse_rule" (sp_parse_rule K) := by
  refine calXMk F hm (F.bindsN (ps := ["room", "reader"]) fun _ _ _ _ _ _ us hl => match us, hl with | [_, _], _ => rfl) sc_parse_rule (fun vs H Q E h => by first | (obtain ⟨rfl, _⟩ := h; rfl) | (obtain ⟨_, rfl, _⟩ := h; rfl) | (obtain ⟨_, _, rfl, _⟩ := h; rfl) | (obtain ⟨_, _, _, rfl, _⟩ := h; rfl) | (obtain ⟨_, _, _, _, rfl, _⟩ := h; rfl) | (obtain ⟨_, _, _, _, _, rfl, _⟩ := h; rfl) | (obtain ⟨_, _, _, _, _, _, rfl, _⟩ := h; rfl) | (obtain ⟨_, _, _, _, _, _, _, rfl, _⟩ := h; rfl) | (obtain ⟨_, _, _, _, _, _, _, _, rfl, _⟩ := h; rfl) | (obtain ⟨_, _, _, _, _, _, _, _, _, rfl, _⟩ := h; rfl) | (obtain ⟨_, _, _, _, _, _, _, _, _, _, rfl, _⟩ := h; rfl) | (obtain ⟨_, _, _, _, _, _, _, _, _, _, _, rfl, _⟩ := h; rfl) | (obtain ⟨_, _, _, _, _, _, _, _, _, _, _, _, rfl, _⟩ := h; rfl) | (obtain ⟨_, _, _, _, _, _, _, _, _, _, _, _, _, rfl, _⟩ := h; rfl) | (obtain ⟨_, _, _, _, _, _, _, _, _, _, _, _, _, _, rfl, _⟩ := h; rfl)) (fun cdv A outer s H vs Q E hr h => ?_)
  obtain ⟨r, rd, dx, pl, ru, ps, rs, z, toks, e, p, rfl, I, hR, hk, hz, hpl, q1, q2⟩ := h
  obtain ⟨dr, ta, h1, _, _⟩ := id hR
  refine ⟨_, (pss_cons (ps_if (pt_cmpR op_eq (pe_callB call_len_seq (by rfl) T.n_len PySem.boot_len (pa_cons (pe_fld (pv 0) rfl) pa_nil)) (C8.pe_gc (by rfl) T.g_MOST_RULES) (nomark _)) (pss_one (ps_expr (pe_mx m_fail hr (by decide) (pv 1) (passes_call (W := fun cls d _ H => E cls d H) (takes_of rfl rfl rfl rfl) (fun _ _ _ _ h => h)) (pa_cons (C8.pe_gc (by rfl) T.g_TOO_MANY) pa_nil)))) pss_nil) (pss_cons (ps_expr (C8.pe_mt0 m_advance hr (by decide) (pv 1))) (pss_cons (ps_set (i := 2) sc_parse_rule.nd rfl (Or.inl rfl) (pe_cx c_checked_player hr (by decide) (by rfl) (passes_call (W := fun cls d _ H => E cls d H) (takes_of rfl rfl rfl rfl) (fun _ _ _ _ h => h)) (pa_cons (pv 0) (pa_cons (pv 1) pa_nil)))) (pss_cons (ps_expr (C8.pe_mt0 m_advance hr (by decide) (pv 1))) (pss_cons (ps_expr (pe_cx c_take_word hr (by decide) (by rfl) (passes_call (W := fun cls d _ H => E cls d H) (takes_of rfl rfl rfl rfl) (fun _ _ _ _ h => h)) (pa_cons (pv 1) (pa_cons pe_str pa_nil)))) (pss_cons (ps_if (pt_cmpR op_ne (C8.pe_mt0 m_word hr (by decide) (pv 1)) pe_str (nomark _)) (pss_cons (ps_set (i := 3) sc_parse_rule.nd rfl (Or.inl rfl) (pe_cx c_take_substitutes hr (by decide) (by rfl) (passes_call (W := fun cls d _ H => E cls d H) (takes_of rfl rfl rfl rfl) (fun _ _ _ _ h => h)) (pa_cons (pv 0) (pa_cons (pv 1) (pa_cons (pv 2) pa_nil))))) (pss_cons (ps_expr (pe_bm PySem.F.plainAttrs_list PySem.F.slot_list_append PySem.F.type_list_append mt_append (pe_fld (pv 0) rfl) (pa_cons (C8.pe_mk m_Rule hr (by decide) (by rfl) (pa_cons (pv 2) (pa_cons (pe_callB call_len_seq (by rfl) T.n_len PySem.boot_len (pa_cons (pv 3) pa_nil)) (pa_cons (pv 3) pa_nil)))) pa_nil))) (pss_one ps_retN))) pss_nil) (pss_cons (ps_expr (C8.pe_mt0 m_advance hr (by decide) (pv 1))) (pss_cons (ps_set (i := 4) sc_parse_rule.nd rfl (Or.inl rfl) (C8.pe_mt0 m_place hr (by decide) (pv 1))) (pss_cons (ps_set (i := 5) sc_parse_rule.nd rfl (Or.inl rfl) (pe_cx c_take_number hr (by decide) (by rfl) (passes_call (W := fun cls d _ H => E cls d H) (takes_of rfl rfl rfl rfl) (fun _ _ _ _ h => h)) (pa_cons (pv 1) (pa_cons pe_int (pa_cons (C8.pe_gc (by rfl) T.g_MOST_REQUIRED) pa_nil))))) (pss_cons (ps_expr (pe_cx c_take_word hr (by decide) (by rfl) (passes_call (W := fun cls d _ H => E cls d H) (takes_of rfl rfl rfl rfl) (fun _ _ _ _ h => h)) (pa_cons (pv 1) (pa_cons pe_str pa_nil)))) (pss_cons (ps_set (i := 3) sc_parse_rule.nd rfl (Or.inl rfl) (pe_cx c_take_substitutes hr (by decide) (by rfl) (passes_call (W := fun cls d _ H => E cls d H) (takes_of rfl rfl rfl rfl) (fun _ _ _ _ h => h)) (pa_cons (pv 0) (pa_cons (pv 1) (pa_cons (pv 2) pa_nil))))) (pss_cons (ps_if (pt_cmpR op_gt (pv 5) (pe_callB call_len_seq (by rfl) T.n_len PySem.boot_len (pa_cons (pv 3) pa_nil)) (nomark _)) (pss_one (ps_raise (by rfl) (takes_of rfl rfl rfl rfl) (pmkF fault hr (by decide) (by rfl) (pa_cons (C8.pe_gc (by rfl) T.g_TOO_FEW_SUBSTITUTES) (pa_cons (pv 4) pa_nil))))) pss_nil) (pss_one (ps_expr (pe_bm PySem.F.plainAttrs_list PySem.F.slot_list_append PySem.F.type_list_append mt_append (pe_fld (pv 0) rfl) (pa_cons (C8.pe_mk m_Rule hr (by decide) (by rfl) (pa_cons (pv 2) (pa_cons (pv 5) (pa_cons (pv 3) pa_nil)))) pa_nil)))))))))))))))), ?_⟩
  have hlr := pairedLen I.rAt
  have h20 := hz.r20
  have hL : lineRule z (cur toks e p) = (if 20 ≤ z.rules.length then .error ⟨7, currentOffset (cur toks e p)⟩ else
    bnd (Vbndam.parsePlayer z (Vbndam.skipToken (cur toks e p))) fun p => bnd (Vbndaa.expectToken 1 (toBytes "by") p.2) fun q => if Vbndaa.nextTokenIs (toBytes "any") q.2 = true then lineAny z p.1 q.2 else lineAll z p.1 q.2) := rfl
  rw [cur_skip] at hL
  generalize hLL : lineRule z (cur toks e p) = L at hL q1 q2
  -- a rule is put behind
  have push : ∀ (H5 : Hp) (sl : Addr) (ab nd : Nat) (l : List Nat), Keep rd H H5 → (∃ (d ta : Addr) (e p : Int), H5 rd = some (.ins (cl K "LineReader") d (fReader ta e p))) → H5 sl = some (.lst (nats l)) → H sl = none → L = .ok { z with rules := z.rules ++ [⟨ab, nd, l⟩] } → ∀ x d, H5 x = none → H5 d = none → d ≠ x →
      (upd (upd (upd H5 d (.own x)) x (.ins (cl K "Rule") d [])) x (.ins (cl K "Rule") d (fRule (ab : Nat) (nd : Nat) sl))) ru = some (.lst (rs.map V.ref)) ∧
      Q .non (upd (upd (upd (upd H5 d (.own x)) x (.ins (cl K "Rule") d [])) x (.ins (cl K "Rule") d (fRule (ab : Nat) (nd : Nat) sl))) ru (.lst (rs.map V.ref ++ [.ref x]))) := by
    rintro H5 sl ab nd l k5 ⟨d5, t5, e5, p5, h5⟩ hs hs0 hok x d hx hd hne
    have I5 : RoomIs K H5 r dx pl ru ps rs z := I.keepR h1 k5
    have n1 : sl ≠ pl := fun q => by subst q; rw [I.pls] at hs0; cases hs0
    have n2 : sl ≠ ru := fun q => by subst q; rw [I.rls] at hs0; cases hs0
    have px : ru ≠ x := fun q => by subst q; rw [I5.rls] at hx; cases hx
    have pd : ru ≠ d := fun q => by subst q; rw [I5.rls] at hd; cases hd
    refine ⟨?_, q1 _ hok _ ⟨ps, rs ++ [x], fun b o m1 m2 m3 eb => ?_, growRule I5 hx hd hne hs n1 n2, fun B hB hrd J => ?_⟩⟩
    · rw [upd_ne px, upd_ne px, upd_ne pd]
      exact I5.rls
    · have e6 := k5 b o m1 eb
      rw [upd_ne m3, upd_upd, upd_ne (ne_of_none e6 hx), upd_ne (ne_of_none e6 hd)]
      exact e6
    · have J6 := keepB J hrd h1 k5
      have hsB : B sl = none := hB.free hs0
      rw [newH_upd (newH_some J.rls).1, newH_upd (outB hB hrd k5 hx), newH_upd (outB hB hrd k5 hx), newH_upd (outB hB hrd k5 hd)]
      exact growRule J6 (newH_none hx) (newH_none hd) hne (newH_of hsB hs) n1 n2
  refine ⟨_, rfl, r, _, dx, _, _, rfl, I.at_, T.c_Room, T.a_rules, lRoom2, ru, _, rfl, .inl (SqL.of I.rls), rfl, _, rfl, ?_⟩
  show if decide (V.int (((rs.map V.ref).length : Nat) : Int) = V.int ((20 : Nat) : Int)) = true then _ else _
  rw [List.length_map, hlr, lenEq h20]
  by_cases c8 : 20 ≤ z.rules.length
  · rw [decide_eq_true c8]
    rw [if_pos c8] at hL
    refine iteT ?_
    exact ⟨_, rfl, rd, dr, _, rfl, h1, lRfail, rd, toks, e, p, 7, rfl, hR, q2 _ hL⟩
  rw [decide_eq_false c8]
  rw [if_neg c8] at hL
  refine iteF ?_
  refine ⟨_, rfl, rd, dr, _, rfl, h1, lRadvance, rd, toks, e, p, rfl, hR, hpl, fun H1 k1 hR1 => ?_⟩
  have I1 := I.keepR h1 k1
  refine ⟨_, rfl, _, rfl, r, rd, z, toks, e, p + 1, rfl, ⟨dx, pl, ru, ps, rs, I1⟩, hR1, hk, fun ab c hp H2 s2 => ?_, fun er hp => ?_⟩
  case refine_2 =>
    rw [hp, bnd_er] at hL
    exact (q2 _ hL).keep k1
  obtain ⟨hw1, rfl⟩ := player_lt hp
  rw [hp, bnd_okI] at hL
  dsimp only at hL
  have k2 := k1.trans (keepOf s2)
  have hR2 := hR1.same s2
  obtain ⟨dr2, ta2, h2, _, _⟩ := id hR2
  refine ⟨_, rfl, rd, dr2, _, rfl, h2, lRadvance, rd, toks, e, p + 1, rfl, hR2, hw1, fun H3 k3 hR3 => ?_⟩
  have k4 := k2.trans k3
  refine ⟨_, rfl, rd, toBytes "by", toks, e, p + 1 + 1, ?_, hR3, by decide, fun hw H4 k5 hR4 => ?_, fun hw => ?_⟩
  case refine_1 => exact congrArg (fun x => [V.ref rd, V.str x]) S_by.symm
  case refine_3 =>
    rw [expect_bad hw, bnd_er] at hL
    exact (q2 _ hL).keep k4
  rw [expect_ok (by decide) hw, bnd_okI] at hL
  dsimp only at hL
  rw [next_word (by decide)] at hL
  have k6 := k4.trans k5
  have I4 : RoomIs K H4 r dx pl ru ps rs z := I.keepR h1 k6
  obtain ⟨dr4, ta4, h4, _, _⟩ := id hR4
  refine ⟨_, rfl, rd, dr4, _, rfl, h4, lRword, rd, toks, e, p + 1 + 1 + 1, rfl, hR4, rfl, _, rfl, ?_⟩
  show if (!decide (V.str (S (wordOf (cur toks e (p + 1 + 1 + 1)))) = V.str "any")) = true then _ else _
  rw [← S_any, dec_str]
  by_cases hany : wordOf (cur toks e (p + 1 + 1 + 1)) = toBytes "any"
  · rw [decide_eq_true hany] at hL ⊢
    rw [if_pos rfl] at hL
    refine iteF ?_
    have hL2 : L = (bnd (Vbndam.parseNatInRange 1 8 (Vbndam.skipToken (cur toks e (p + 1 + 1 + 1)))) fun k => bnd (Vbndaa.expectToken 1 (toBytes "of") k.2) fun y => bnd (Vbndam.parseSubstitutes z ab (y.2.tokens.length + 1) [] y.2) fun l =>
      if l.1.length < k.1 then .error ⟨6, currentOffset (Vbndam.skipToken (cur toks e (p + 1 + 1 + 1)))⟩ else Vbndaa.expectEnd 1 { z with rules := z.rules ++ [⟨ab, k.1, l.1⟩] } l.2) := hL
    rw [cur_skip] at hL2
    clear hL
    refine ⟨_, rfl, rd, dr4, _, rfl, h4, lRadvance, rd, toks, e, _, rfl, hR4, word_ne (e := e) (fun x => by rw [hany] at x; cases x), fun H5 k7 hR5 => ?_⟩
    have k8 := k6.trans k7
    obtain ⟨dr5, ta5, h5, _, _⟩ := id hR5
    refine ⟨_, rfl, rd, dr5, _, rfl, h5, lRplace, rd, toks, e, _, rfl, hR5, ?_⟩
    refine ⟨_, rfl, rd, 1, 8, toks, e, _, rfl, hR5, hk, fun nd c hn H6 hc k9 hR6 => ?_, fun er hn => ?_⟩
    case refine_2 =>
      rw [hn, bnd_er] at hL2
      exact (q2 _ hL2).keep k8
    subst hc
    rw [hn, bnd_okI] at hL2
    dsimp only at hL2
    have k10 := k8.trans k9
    refine ⟨_, rfl, rd, toBytes "of", toks, e, _, ?_, hR6, by decide, fun hw H7 k11 hR7 => ?_, fun hw => ?_⟩
    case refine_1 => exact congrArg (fun x => [V.ref rd, V.str x]) S_of.symm
    case refine_3 =>
      rw [expect_bad hw, bnd_er] at hL2
      exact (q2 _ hL2).keep k10
    rw [expect_ok (by decide) hw, bnd_okI] at hL2
    dsimp only at hL2
    rw [cur_len] at hL2
    have k12 := k10.trans k11
    have I7 : RoomIs K H7 r dx pl ru ps rs z := I.keepR h1 k12
    obtain ⟨dr7, ta7, h7, _, _⟩ := id hR7
    refine ⟨_, rfl, _, rfl, _, rfl, r, rd, ab, z, toks, e, _, rfl, ⟨dx, pl, ru, ps, rs, I7⟩, hR7, hk, fun l c hl H8 sl k13 hsl0 hsl hll hR8 hc => ?_, fun er hl => ?_⟩
    case refine_2 =>
      rw [hl, bnd_er] at hL2
      exact (q2 _ hL2).keep k12
    subst hc
    rw [hl, bnd_okI] at hL2
    dsimp only at hL2
    rw [end_ok, if_neg (Nat.lt_irrefl _)] at hL2
    have k14 := k12.trans k13
    have hsl1 := free_of k12 h7 hsl0
    have I8 : RoomIs K H8 r dx pl ru ps rs z := I.keepR h1 k14
    obtain ⟨dr8, ta8, h8, _, _⟩ := id hR8
    refine ⟨_, rfl, _, rfl, sl, _, rfl, .inl (SqL.of hsl), _, _, rfl, rfl, _, rfl, ?_⟩
    have hnl : (nats l).length = l.length := by unfold nats; rw [List.length_map]
    rw [hnl]
    by_cases cl : l.length < nd
    · rw [if_pos cl] at hL2
      rw [decide_eq_true (by omega)]
      refine iteT ?_
      exact ⟨_, rfl, mkF fun d H' s hd => (q2 _ hL2).keep k14 d H' (keepOf s) hd⟩
    · rw [if_neg cl] at hL2
      rw [decide_eq_false (by omega)]
      refine iteF ?_
      refine ⟨_, rfl, r, _, dx, _, _, rfl, I8.at_, T.c_Room, T.a_rules, lRoom2, .inl ⟨rfl, _, SqL.of I8.rls⟩, ?_⟩
      refine ⟨_, rfl, _, rfl, _, rfl, fun x d hx hd hne => ⟨x, d, sl, _, _, rfl, upd_same, rfl, ?_⟩⟩
      obtain ⟨u1, u2⟩ := push H8 sl ab nd l k14 ⟨_, _, _, _, h8⟩ hsl hsl1 hL2 x d hx hd hne
      exact ⟨ru, rs.map V.ref, _, rfl, rfl, u1, lenI (by rw [List.length_map]; omega), u2⟩
  · rw [decide_eq_false hany] at hL ⊢
    rw [if_neg (by decide)] at hL
    refine iteT ?_
    have hL2 : L = (bnd (Vbndam.parseSubstitutes z ab ((cur toks e (p + 1 + 1 + 1)).tokens.length + 1) [] (cur toks e (p + 1 + 1 + 1))) fun l => Vbndaa.expectEnd 1 { z with rules := z.rules ++ [⟨ab, l.1.length, l.1⟩] } l.2) := hL
    rw [cur_len] at hL2
    clear hL
    refine ⟨_, rfl, _, rfl, _, rfl, r, rd, ab, z, toks, e, _, rfl, ⟨dx, pl, ru, ps, rs, I4⟩, hR4, hk, fun l c hl H8 sl k13 hsl0 hsl hll hR8 hc => ?_, fun er hl => ?_⟩
    case refine_2 =>
      rw [hl, bnd_er] at hL2
      exact (q2 _ hL2).keep k6
    subst hc
    rw [hl, bnd_okI] at hL2
    dsimp only at hL2
    rw [end_ok, if_neg (Nat.lt_irrefl _)] at hL2
    have k14 := k6.trans k13
    have hsl1 := free_of k6 h4 hsl0
    have I8 : RoomIs K H8 r dx pl ru ps rs z := I.keepR h1 k14
    obtain ⟨dr8, ta8, h8, _, _⟩ := id hR8
    refine ⟨_, rfl, r, _, dx, _, _, rfl, I8.at_, T.c_Room, T.a_rules, lRoom2, .inl ⟨rfl, _, SqL.of I8.rls⟩, ?_⟩
    have hnl : (nats l).length = l.length := by unfold nats; rw [List.length_map]
    refine ⟨_, rfl, _, rfl, sl, _, rfl, .inl (SqL.of hsl), _, rfl, fun x d hx hd hne => ⟨x, d, sl, _, _, rfl, upd_same, rfl, ?_⟩⟩
    rw [hnl]
    obtain ⟨u1, u2⟩ := push H8 sl ab l.length l k14 ⟨_, _, _, _, h8⟩ hsl hsl1 hL2 x d hx hd hne
    exact ⟨ru, rs.map V.ref, _, rfl, rfl, u1, lenI (by rw [List.length_map]; omega), u2⟩
end
end SI

set_option maxHeartbeats 4000000
namespace SI
open PySem PySem.Spec PyProof.Rows L2
open SX (S)
open Vbndaa (Token Cursor ParseError splitAtByte currentOffset isDigit isLowercase natOfToken valueOf toBytes)
def lineFull (z : Vbndam.Room) (c : Cursor) : Except ParseError Vbndam.Room := if c.tokens.isEmpty = true then .ok z else Vbndam.parseRoomLine z c
theorem PF.full {z z' : Vbndam.Room} {c : Cursor} (hz : PF z) (h : lineFull z c = .ok z') : PF z' := by
  unfold lineFull at h
  by_cases e : c.tokens.isEmpty = true
  · rw [if_pos e] at h
    injection h with h
    exact h ▸ hz
  · rw [if_neg e] at h
    exact hz.line h
theorem lines_cons (z : Vbndam.Room) (st : Nat) (w : List Nat) (l : List (Nat × List Nat)) : Vbndaa.parseLines Vbndam.noSeparators Vbndam.parseRoomLine z ((st, w) :: l) =
    match lineFull z (cur (toksOf (splitAtByte 32 st w)) (st + w.length) 0) with
    | .error e => .error e
    | .ok t => Vbndaa.parseLines Vbndam.noSeparators Vbndam.parseRoomLine t l := by
  have ec : Vbndaa.cursorOf Vbndam.noSeparators st w = cur (toksOf (splitAtByte 32 st w)) (st + w.length) 0 := by
    unfold Vbndaa.cursorOf cur
    rw [toks_eq, List.drop_zero]
  unfold lineFull
  rw [← ec]
  conv => lhs; unfold Vbndaa.parseLines
  by_cases h : (Vbndaa.tokenizeWith Vbndam.noSeparators st w).isEmpty = true
  · have h' : (Vbndaa.cursorOf Vbndam.noSeparators st w).tokens.isEmpty = true := h
    rw [if_pos h']
    exact if_pos h
  · have h' : ¬ (Vbndaa.cursorOf Vbndam.noSeparators st w).tokens.isEmpty = true := h
    rw [if_neg h']
    refine (if_neg h).trans ?_
    dsimp only
    cases Vbndam.parseRoomLine z (Vbndaa.cursorOf Vbndam.noSeparators st w) <;> rfl
theorem tk_line {st : Nat} {line : List Nat} (h : line.length ≤ 10000) : Tk (toksOf (splitAtByte 32 st line)) := by
  rw [← offs_split]
  have hs := spl_sum 32 line []
  generalize TL.spl [32] 0 [] line = L at hs
  rw [List.length_nil, Nat.zero_add] at hs
  have hm : ∀ (L : List (List Nat)) (p : Nat) (x : Nat × List Nat), x ∈ offs p L → x.2 ∈ L := by
    intro L
    induction L with
    | nil => intro p x h; cases h
    | cons w l ih =>
      intro p x h
      rcases List.mem_cons.mp h with e | e
      · rw [e]; exact List.mem_cons_self
      · exact List.mem_cons_of_mem _ (ih _ x e)
  refine ⟨fun t ht => ?_, ?_⟩
  · obtain ⟨x, hx, rfl⟩ := List.mem_map.mp ht
    have := mem_le_sum L x.2 (hm _ _ _ (List.mem_filter.mp hx).1)
    show x.2.length ≤ 10000
    omega
  · unfold toksOf
    rw [List.length_map]
    refine Nat.le_trans (List.length_filter_le ..) ?_
    rw [offs_len]
    have := len_le_sum L
    omega
theorem RoomIs.sub {K : PySem.W.Frag} {B H : Hp} {r d pl ru : Addr} {ps rs : List Addr} {z : Vbndam.Room} (I : RoomIs K (newH B H) r d pl ru ps rs z) : RoomIs K H r d pl ru ps rs z :=
  ⟨newH_sub _ _ I.at_, newH_sub _ _ I.pls, newH_sub _ _ I.rls, I.ne, I.nd, pairedImp (fun _ _ q => PlayerAt.same newH_sub q) I.pAt, pairedImp (fun _ _ q => RuleAt.same newH_sub q) I.rAt⟩
theorem RoomIs.mono {K : PySem.W.Frag} {B H H' : Hp} {r d pl ru : Addr} {ps rs : List Addr} {z : Vbndam.Room} (I : RoomIs K (newH B H) r d pl ru ps rs z) (h : ∀ b o, B b = none → H b = some o → H' b = some o) : RoomIs K (newH B H') r d pl ru ps rs z :=
  ⟨newH_mono h _ _ I.at_, newH_mono h _ _ I.pls, newH_mono h _ _ I.rls, I.ne, I.nd, pairedImp (fun _ _ q => PlayerAt.same (newH_mono h) q) I.pAt, pairedImp (fun _ _ q => RuleAt.same (newH_mono h) q) I.rAt⟩
section
variable {P : Program} {w : World} {K : PySem.W.Frag} {mg : Str → Option Value} {base : Heap}
def sp_parse_line (K : PySem.W.Frag) : Sp := fun vs H Q E => ∃ (r rd dx pl ru : Addr) (ps rs : List Addr) (z : Vbndam.Room) (toks : List Token) (e : Nat), vs = [.ref r, .ref rd] ∧ RoomIs K H r dx pl ru ps rs z ∧ RdAt K H rd toks e 0 ∧ Tk toks ∧ PF z ∧
  (∀ z', lineFull z (cur toks e 0) = .ok z' → ∀ H', Grow K H H' rd r dx pl ru ps rs z z' → Q .non H') ∧ (∀ er, lineFull z (cur toks e 0) = .error er → Fl K rd H er E)
theorem ok_parse_line {f : Addr} {fd : FuncData} (T : Txt K mg) (F : FnP K "parse_line" "parse_line" s_parse_line f fd) (hm : mg "parse_line" = some (.ref f)) (m_is_done : C8.Met P w K mg base 1 (cl K "LineReader") "is_done" (sp_LineReader_is_done K) []) (m_word : C8.Met P w K mg base 2 (cl K "LineReader") "word" (sp_LineReader_word K) []) (c_parse_player : CalX P w K mg base 5 "parse_player" (sp_parse_player K)) (c_parse_rule : CalX P w K mg base 8 "parse_rule" (sp_parse_rule K)) (m_fail : MetX P w K mg base 3 (cl K "LineReader") "fail" (sp_LineReader_fail K)) :
    CalX P w K mg base 9 "parse_line" (sp_parse_line K) := by
  refine calXMk F hm (F.bindsN (ps := ["room", "reader"]) fun _ _ _ _ _ _ us hl => match us, hl with | [_, _], _ => rfl) sc_parse_line (fun vs H Q E h => by first | (obtain ⟨rfl, _⟩ := h; rfl) | (obtain ⟨_, rfl, _⟩ := h; rfl) | (obtain ⟨_, _, rfl, _⟩ := h; rfl) | (obtain ⟨_, _, _, rfl, _⟩ := h; rfl) | (obtain ⟨_, _, _, _, rfl, _⟩ := h; rfl) | (obtain ⟨_, _, _, _, _, rfl, _⟩ := h; rfl) | (obtain ⟨_, _, _, _, _, _, rfl, _⟩ := h; rfl) | (obtain ⟨_, _, _, _, _, _, _, rfl, _⟩ := h; rfl) | (obtain ⟨_, _, _, _, _, _, _, _, rfl, _⟩ := h; rfl) | (obtain ⟨_, _, _, _, _, _, _, _, _, rfl, _⟩ := h; rfl) | (obtain ⟨_, _, _, _, _, _, _, _, _, _, rfl, _⟩ := h; rfl) | (obtain ⟨_, _, _, _, _, _, _, _, _, _, _, rfl, _⟩ := h; rfl) | (obtain ⟨_, _, _, _, _, _, _, _, _, _, _, _, rfl, _⟩ := h; rfl) | (obtain ⟨_, _, _, _, _, _, _, _, _, _, _, _, _, rfl, _⟩ := h; rfl) | (obtain ⟨_, _, _, _, _, _, _, _, _, _, _, _, _, _, rfl, _⟩ := h; rfl)) (fun cdv A outer s H vs Q E hr h => ?_)
  obtain ⟨r, rd, dx, pl, ru, ps, rs, z, toks, e, rfl, I, hR, hk, hz, q1, q2⟩ := h
  obtain ⟨dr, ta, h1, _, _⟩ := id hR
  refine ⟨_, (pss_cons (ps_if (pt_val (C8.pe_mt0 m_is_done hr (by decide) (pv 1))) (pss_one ps_retN) pss_nil) (pss_one (ps_if (pt_cmpR op_eq (C8.pe_mt0 m_word hr (by decide) (pv 1)) pe_str (nomark _)) (pss_one (ps_expr (pe_cx c_parse_player hr (by decide) (by rfl) (passes_call (W := fun cls d _ H => E cls d H) (takes_of rfl rfl rfl rfl) (fun _ _ _ _ h => h)) (pa_cons (pv 0) (pa_cons (pv 1) pa_nil))))) (pss_one (ps_if (pt_cmpR op_eq (C8.pe_mt0 m_word hr (by decide) (pv 1)) pe_str (nomark _)) (pss_one (ps_expr (pe_cx c_parse_rule hr (by decide) (by rfl) (passes_call (W := fun cls d _ H => E cls d H) (takes_of rfl rfl rfl rfl) (fun _ _ _ _ h => h)) (pa_cons (pv 0) (pa_cons (pv 1) pa_nil))))) (pss_one (ps_expr (pe_mx m_fail hr (by decide) (pv 1) (passes_call (W := fun cls d _ H => E cls d H) (takes_of rfl rfl rfl rfl) (fun _ _ _ _ h => h)) (pa_cons (C8.pe_gc (by rfl) T.g_NOT_ALLOWED) pa_nil))))))))), ?_⟩
  unfold lineFull at q1 q2
  rw [cur_empty] at q1 q2
  refine ⟨_, rfl, rd, dr, _, rfl, h1, lRdone, rd, toks, e, 0, rfl, hR, _, rfl, ?_⟩
  by_cases hend : toks.length ≤ 0
  · rw [decide_eq_true hend] at q1 q2 ⊢
    refine iteT ?_
    exact q1 z (by rw [if_pos rfl]) H ⟨ps, rs, fun _ _ _ _ _ e => e, I, fun _ _ _ J => J⟩
  rw [decide_eq_false hend] at q1 q2 ⊢
  rw [if_neg (by decide), line_eq, next_word (by decide), next_word (by decide)] at q1 q2
  refine iteF ?_
  refine ⟨_, rfl, rd, dr, _, rfl, h1, lRword, rd, toks, e, 0, rfl, hR, rfl, _, rfl, ?_⟩
  show if decide (V.str (S (wordOf (cur toks e 0))) = V.str "player") = true then _ else _
  rw [← S_player, dec_str]
  by_cases hp : wordOf (cur toks e 0) = toBytes "player"
  · rw [decide_eq_true hp] at q1 q2 ⊢
    rw [if_pos rfl] at q1 q2
    refine iteT ?_
    exact ⟨_, rfl, _, rfl, r, rd, dx, pl, ru, ps, rs, z, toks, e, 0, rfl, I, hR, hk, hz, by omega, q1, q2⟩
  rw [decide_eq_false hp] at q1 q2 ⊢
  rw [if_neg (by decide)] at q1 q2
  refine iteF ?_
  refine ⟨_, rfl, rd, dr, _, rfl, h1, lRword, rd, toks, e, 0, rfl, hR, rfl, _, rfl, ?_⟩
  show if decide (V.str (S (wordOf (cur toks e 0))) = V.str "keep") = true then _ else _
  rw [← S_keep, dec_str]
  by_cases hp : wordOf (cur toks e 0) = toBytes "keep"
  · rw [decide_eq_true hp] at q1 q2 ⊢
    rw [if_pos rfl] at q1 q2
    refine iteT ?_
    exact ⟨_, rfl, _, rfl, r, rd, dx, pl, ru, ps, rs, z, toks, e, 0, rfl, I, hR, hk, hz, by omega, q1, q2⟩
  rw [decide_eq_false hp] at q1 q2 ⊢
  rw [if_neg (by decide)] at q1 q2
  refine iteF ?_
  exact ⟨_, rfl, rd, dr, _, rfl, h1, lRfail, rd, toks, e, 0, 1, rfl, hR, q2 _ rfl⟩
def sp_parse_room (K : PySem.W.Frag) : Sp := fun vs H Q E => ∃ (p : Addr) (codes : List Nat), vs = [.ref p] ∧ H p = some (.lst (nats codes)) ∧ codes.length ≤ 10000 ∧
  (∀ z, Vbndam.parseRoom codes = .ok z → ∀ H' r dx pl ru ps rs, Same H H' → RoomIs K (newH H H') r dx pl ru ps rs z → PF z → 1 ≤ z.players.length → Q (.ref r) H') ∧
  (∀ er, Vbndam.parseRoom codes = .error er → ∀ d H', Same H H' → H' d = some (.xd (fFault (er.code : Nat) (er.offset : Nat))) → E (.ref (clF K)) (some d) H')
theorem ok_parse_room {f : Addr} {fd : FuncData} (T : Txt K mg) (F : FnP K "parse_room" "parse_room" s_parse_room f fd) (hm : mg "parse_room" = some (.ref f)) (c_readable_text : C8.Cal P w K mg base 2 "readable_text" (sp_readable_text K) []) (m_Room : C8.Mak P w K mg base 1 "Room" (cl K "Room") (sp_Room_init K) []) (c_parse_line : CalX P w K mg base 9 "parse_line" (sp_parse_line K)) (fault : FaultI P w K mg base) (m_LineReader : C8.Mak P w K mg base 2 "LineReader" (cl K "LineReader") (sp_LineReader_init K) []) :
    CalX P w K mg base 10 "parse_room" (sp_parse_room K) := by
  refine calXMk F hm (F.bindsN (ps := ["codes"]) fun _ _ _ _ _ _ us hl => match us, hl with | [_], _ => rfl) sc_parse_room (fun vs H Q E h => by first | (obtain ⟨rfl, _⟩ := h; rfl) | (obtain ⟨_, rfl, _⟩ := h; rfl) | (obtain ⟨_, _, rfl, _⟩ := h; rfl) | (obtain ⟨_, _, _, rfl, _⟩ := h; rfl) | (obtain ⟨_, _, _, _, rfl, _⟩ := h; rfl) | (obtain ⟨_, _, _, _, _, rfl, _⟩ := h; rfl) | (obtain ⟨_, _, _, _, _, _, rfl, _⟩ := h; rfl) | (obtain ⟨_, _, _, _, _, _, _, rfl, _⟩ := h; rfl) | (obtain ⟨_, _, _, _, _, _, _, _, rfl, _⟩ := h; rfl) | (obtain ⟨_, _, _, _, _, _, _, _, _, rfl, _⟩ := h; rfl) | (obtain ⟨_, _, _, _, _, _, _, _, _, _, rfl, _⟩ := h; rfl) | (obtain ⟨_, _, _, _, _, _, _, _, _, _, _, rfl, _⟩ := h; rfl) | (obtain ⟨_, _, _, _, _, _, _, _, _, _, _, _, rfl, _⟩ := h; rfl) | (obtain ⟨_, _, _, _, _, _, _, _, _, _, _, _, _, rfl, _⟩ := h; rfl) | (obtain ⟨_, _, _, _, _, _, _, _, _, _, _, _, _, _, rfl, _⟩ := h; rfl)) (fun cdv A outer s H vs Q E hr h => ?_)
  obtain ⟨p, codes, rfl, hp, hcl, q1, q2⟩ := h
  refine ⟨_, (pss_cons (ps_set (i := 1) sc_parse_room.nd rfl (Or.inl rfl) (C8.pe_c c_readable_text hr (by decide) (by rfl) (pa_cons (pv 0) pa_nil))) (pss_cons (ps_set (i := 2) sc_parse_room.nd rfl (Or.inl rfl) (pe_mk0 m_Room hr (by decide) (by rfl))) (pss_cons (ps_set (i := 3) sc_parse_room.nd rfl (Or.inl rfl) pe_int) (pss_cons (ps_for (passes_of rfl) (by rfl) (pi_list (pe_split (pv 1) pe_str)) (pg_name (i := 4) sc_parse_room.nd rfl (Or.inl rfl)) (pss_cons (ps_expr (pe_cx c_parse_line hr (by decide) (by rfl) (passes_call (W := fun cls d _ H => E cls d H) (takes_of rfl rfl rfl rfl) (fun _ _ _ _ h => h)) (pa_cons (pv 2) (pa_cons (C8.pe_mk m_LineReader hr (by decide) (by rfl) (pa_cons (pv 4) (pa_cons (pv 3) pa_nil))) pa_nil)))) (pss_one (ps_set (i := 3) sc_parse_room.nd rfl (Or.inl rfl) (pe_op op_add (pe_op op_add (pv 3) (pe_callB call_len_str (by rfl) T.n_len PySem.boot_len (pa_cons (pv 4) pa_nil))) pe_int))))) (pss_cons (ps_if (pt_cmpR op_eq (pe_callB call_len_seq (by rfl) T.n_len PySem.boot_len (pa_cons (pe_fld (pv 2) rfl) pa_nil)) pe_int (nomark _)) (pss_one (ps_raise (by rfl) (takes_of rfl rfl rfl rfl) (pmkF fault hr (by decide) (by rfl) (pa_cons (C8.pe_gc (by rfl) T.g_NO_PLAYER) (pa_cons (pe_callB call_len_str (by rfl) T.n_len PySem.boot_len (pa_cons (pv 1) pa_nil)) pa_nil))))) pss_nil) (pss_one (ps_ret (pv 2)))))))), ?_⟩
  rw [← room_sig] at q1 q2
  generalize hR : Vbndam.parseRoom (codes.map sig) = R at q1 q2
  unfold Vbndam.parseRoom Vbndaa.parseText at hR
  rw [← offs_split] at hR
  refine ⟨_, rfl, p, codes, rfl, hp, hcl, fun H1 s1 => ?_⟩
  have htl : (codes.map sig).length ≤ 10000 := by rw [List.length_map]; exact hcl
  generalize codes.map sig = txt at hR htl
  have hsum := spl_sum 10 txt []
  generalize hLL : TL.spl [10] 0 [] txt = L at hsum hR
  rw [List.length_nil, Nat.zero_add] at hsum
  have hLl : L.length ≤ txt.length + 1 := Nat.le_trans (len_le_sum L) (by omega)
  intro r dx hr hdx hne
  refine ⟨r, dx, rfl, upd_same, fun H2 pl ru k2 hpl hru hplru er epl eru => ⟨rfl, ?_⟩⟩
  have s2 : Same H1 H2 := fun b o e => k2 b o (ne_of_none e hr) (by
    rw [upd_ne (ne_of_none e hr), upd_ne (ne_of_none e hdx)]
    exact e)
  have fre : ∀ {a}, upd (upd H1 dx (.own r)) r (.ins (cl K "Room") dx []) a = none → H1 a = none := fun {a} h => by
    by_cases e1 : a = r
    · rw [e1, upd_same] at h; cases h
    · rw [upd_ne e1] at h
      by_cases e2 : a = dx
      · rw [e2, upd_same] at h; cases h
      · rw [upd_ne e2] at h; exact h
  have hpl0 : H pl = none := s1.free (fre hpl)
  have hru0 : H ru = none := s1.free (fre hru)
  have hr0 : H r = none := s1.free hr
  have s02 := s1.trans s2
  refine ⟨_, rfl, ⟨_, rfl⟩, S txt, S [10], rfl, by decide +kernel, by decide +kernel, by rw [SX.S_len]; exact sizeI (by omega), ?_⟩
  rw [SX.split_S (by decide) (by decide), hLL]
  intro p1 hp1
  have s3 : Same H2 (upd H2 p1 (.lst ((L.map S).map V.str))) := sameUpd hp1
  generalize hH3 : upd H2 p1 (.lst ((L.map S).map V.str)) = H3 at s3
  have ep : H3 p1 = some (.lst ((L.map S).map V.str)) := by rw [← hH3]; exact upd_same
  have np1 : p1 ≠ pl := fun x => by subst x; rw [hp1] at epl; cases epl
  have np2 : p1 ≠ ru := fun x => by subst x; rw [hp1] at eru; cases eru
  have s03 := s02.trans s3
  refine ⟨p1, rfl, ⟨_, SqL.of ep⟩, ?_⟩
  refine for_list (xs := (L.map S).map V.str) (fun i σ H4 => ∃ (st : Nat) (y4 : Option V) (ps rs : List Addr) (z : Vbndam.Room), σ = [some (.ref p), some (.str (S txt)), some (.ref r), some (.int (st : Nat)), y4] ∧ Same H H4 ∧ H4 p1 = some (.lst ((L.map S).map V.str)) ∧
    RoomIs K (newH H H4) r dx pl ru ps rs z ∧ PF z ∧ Vbndaa.parseLines Vbndam.noSeparators Vbndam.parseRoomLine Vbndam.emptyRoom (offs 0 L) = Vbndaa.parseLines Vbndam.noSeparators Vbndam.parseRoomLine z (offs st (L.drop i)))
    ⟨0, none, [], [], Vbndam.emptyRoom, rfl, s03, ep, ⟨newH_of hr0 (s3 _ _ er), newH_of hpl0 (s3 _ _ epl), newH_of hru0 (s3 _ _ eru), hplru, List.nodup_nil, .nil, .nil⟩, PF.empty, rfl⟩
    (fun i σ H4 _ h => by obtain ⟨_, _, _, _, _, _, _, e, _⟩ := h; exact SqL.of e) ?_ ?_
  · rintro i x σ H4 hx ⟨st, y4, ps, rs, z, rfl, s4, e4, I4n, hz, hpr⟩
    rw [List.getElem?_map, List.getElem?_map] at hx
    obtain ⟨x1, hx1, rfl⟩ := Option.map_eq_some_iff.mp hx
    obtain ⟨w, hw, rfl⟩ := Option.map_eq_some_iff.mp hx1
    have hdr : L.drop i = w :: L.drop (i + 1) := by
      have hi := walkLenLe hw
      rw [List.drop_eq_getElem_cons hi]
      congr 1
      exact Option.some.inj ((List.getElem?_eq_getElem hi).symm.trans hw)
    have hwl : w.length ≤ 10000 := by
      have := mem_le_sum L w (List.mem_of_getElem? hw)
      omega
    have I4 := RoomIs.sub I4n
    rw [hdr] at hpr
    have hpr2 := hpr.trans (lines_cons z st w (offs (st + w.length + 1) (L.drop (i + 1))))
    refine ⟨_, rfl, _, rfl, _, rfl, fun rd dr hrd hdr' hnr => ⟨rd, dr, w, st, rfl, upd_same, hwl, fun H5 k5 hR5 => ⟨rfl, ?_⟩⟩⟩
    have kU : ∀ {b o}, H4 b = some o → upd (upd H4 dr (.own rd)) rd (.ins (cl K "LineReader") dr []) b = some o := fun e => by
      rw [upd_ne (ne_of_none e hrd), upd_ne (ne_of_none e hdr')]
      exact e
    have s5 : Same H4 H5 := fun b o e => k5 b o (ne_of_none e hrd) (kU e)
    have I5 : RoomIs K H5 r dx pl ru ps rs z := ⟨s5 _ _ I4.at_, s5 _ _ I4.pls, s5 _ _ I4.rls, I4.ne, I4.nd, pairedImp (fun _ _ q => PlayerAt.same s5 q) I4.pAt, pairedImp (fun _ _ q => RuleAt.same s5 q) I4.rAt⟩
    have hrd0 : H rd = none := s4.free hrd
    have s05 := s4.trans s5
    refine ⟨r, rd, dx, pl, ru, ps, rs, z, _, _, rfl, I5, hR5, tk_line hwl, hz, fun z' hz' H6 G => ?_, fun er her => ?_⟩
    · obtain ⟨ps', rs', k6, I6, hJ⟩ := G
      rw [hz'] at hpr2
      dsimp only at hpr2
      have est : ((st : Int) + ((S w).length : Nat)) + 1 = ((st + w.length + 1 : Nat) : Int) := by rw [SX.S_len]; omega
      refine ⟨_, rfl, _, rfl, S w, rfl, by rw [SX.S_len]; exact sizeI (by omega), _, _, rfl, rfl, _, _, rfl, rfl, ?_⟩
      dsimp only
      rw [est]
      refine ⟨st + w.length + 1, some (.str (S w)), ps', rs', z', rfl, fun b o e => ?_, ?_, hJ H s05 hrd0 (I4n.mono fun b o h0 e => s5 _ _ e), hz.full hz', hpr2⟩
      · exact k6 b o (ne_of_none e hrd0) (ne_of_none e hpl0) (ne_of_none e hru0) (s05 _ _ e)
      · exact k6 _ _ (ne_of_none e4 hrd) np1 np2 (s5 _ _ e4)
    · rw [her] at hpr2
      dsimp only at hpr2
      rw [hpr2] at hR
      dsimp only at hR
      intro d H6 k6 hd
      exact q2 er hR.symm d H6 (fun b o e => k6 b o (ne_of_none e hrd0) (s05 _ _ e)) hd
  · rintro σ H4 ⟨st, y4, ps, rs, z, rfl, s4, e4, I4n, hz, hpr⟩
    have hd0 : L.drop ((L.map S).map V.str).length = [] := List.drop_eq_nil_of_le (by rw [List.length_map, List.length_map]; exact Nat.le_refl _)
    have I4 := RoomIs.sub I4n
    rw [hd0] at hpr
    have hpr2 : Vbndaa.parseLines Vbndam.noSeparators Vbndam.parseRoomLine Vbndam.emptyRoom (offs 0 L) = .ok z := hpr
    rw [hpr2] at hR
    dsimp only at hR
    have hlp := pairedLen I4.pAt
    refine ⟨_, rfl, r, _, dx, _, _, rfl, I4.at_, T.c_Room, T.a_players, lRoom1, pl, _, rfl, .inl (SqL.of I4.pls), rfl, _, rfl, ?_⟩
    show if decide (V.int (((ps.map V.ref).length : Nat) : Int) = V.int 0) = true then _ else _
    rw [List.length_map, hlp, dec_int]
    by_cases h0 : z.players.length = 0
    · have e0 : z.players.isEmpty = true := by cases hh : z.players with | nil => rfl | cons _ _ => rw [hh] at h0; cases h0
      rw [if_pos e0] at hR
      have e1 : ((((z.players.length : Nat) : Int)) == 0) = true := by rw [beq_iff_eq]; omega
      rw [e1]
      refine iteT ?_
      refine ⟨_, rfl, S txt, rfl, by rw [SX.S_len]; exact sizeI (by omega), ?_⟩
      rw [SX.S_len]
      exact mkF fun d H' s hd => q2 _ hR.symm d H' (s4.trans s) hd
    · have e0 : z.players.isEmpty = false := by cases hh : z.players with | nil => rw [hh] at h0; exact absurd rfl h0 | cons _ _ => rfl
      rw [if_neg (by rw [e0]; decide)] at hR
      have e1 : ((((z.players.length : Nat) : Int)) == 0) = false := by rw [beq_eq_false_iff_ne]; omega
      rw [e1]
      refine iteF ?_
      exact ⟨_, rfl, q1 z hR.symm H4 r dx pl ru ps rs s4 I4n hz (by omega)⟩
end
end SI

set_option maxHeartbeats 4000000
namespace SI
open PySem PySem.Spec PyProof.Rows L2
open SX (S)
open Vbndaa (toBytes joinWithSpaces decimalBytes)
theorem dec_num (n : Nat) : TL.numL n = decimalBytes n := by
  unfold TL.numL decimalBytes toBytes
  show _ = ((Nat.repr n).toList).map _
  unfold Nat.repr
  rw [String.toList_ofList]
theorem join_sp : ∀ W : List (List Nat), TL.joinL [32] W = joinWithSpaces W
  | [] => rfl
  | [p] => rfl
  | p :: q :: r => by
    show p ++ ([32] ++ TL.joinL [32] (q :: r)) = p ++ (32 :: joinWithSpaces (q :: r))
    rw [join_sp (q :: r)]
    rfl
theorem num_len {n : Nat} (h : n ≤ 1000) : (decimalBytes n).length ≤ 4 := by
  rw [← dec_num]
  have : ∀ k : Fin 1001, (TL.numL k.val).length ≤ 4 := by decide +kernel
  exact this ⟨n, by omega⟩
theorem join_len : ∀ W : List (List Nat), (TL.joinL [32] W).length ≤ (W.map fun x => x.length + 1).sum
  | [] => Nat.le_refl _
  | [p] => by show p.length ≤ (p.length + 1) + 0; omega
  | p :: q :: r => by
    have := join_len (q :: r)
    show (p ++ ([32] ++ TL.joinL [32] (q :: r))).length ≤ (p.length + 1) + ((q :: r).map fun x => x.length + 1).sum
    rw [List.length_append, List.length_append]
    show p.length + (1 + _) ≤ _
    omega
theorem sum_le (B : Nat) : ∀ W : List (List Nat), (∀ x ∈ W, x.length ≤ B) → (W.map fun x => x.length + 1).sum ≤ W.length * (B + 1)
  | [], _ => Nat.zero_le _
  | x :: W, h => by
    have h1 := h x List.mem_cons_self
    have h2 := sum_le B W fun y hy => h y (List.mem_cons_of_mem _ hy)
    rw [List.map_cons, List.sum_cons, List.length_cons, Nat.add_mul]
    omega
def plB (p : Vbndam.Player) : List Nat := joinWithSpaces [toBytes "player", p.name, toBytes "weight", decimalBytes p.weight] ++ [10]
def rlW (z : Vbndam.Room) (u : Vbndam.Rule) : List (List Nat) := [toBytes "keep", Vbndam.playerName z u.absent, toBytes "by"] ++ ((if u.required < u.substitutes.length then [toBytes "any", decimalBytes u.required, toBytes "of"] else []) ++ u.substitutes.map (Vbndam.playerName z))
def rlB (z : Vbndam.Room) (u : Vbndam.Rule) : List Nat := joinWithSpaces (rlW z u) ++ [10]
theorem print_eq (z : Vbndam.Room) : Vbndam.printRoom z = (z.players.map plB ++ z.rules.map (rlB z)).flatten := by
  unfold Vbndam.printRoom
  rw [List.flatMap_def, List.map_append, List.map_map, List.map_map]
  rfl
def NmOk (z : Vbndam.Room) : Prop := ∀ p ∈ z.players, p.name.length ≤ 12
theorem plB_len {p : Vbndam.Player} (h : p.name.length ≤ 12) (hw : p.weight ≤ 1000) : (plB p).length ≤ 40 := by
  have := num_len hw
  unfold plB joinWithSpaces joinWithSpaces joinWithSpaces joinWithSpaces
  simp only [List.length_append, List.length_cons, List.length_nil]
  have h1 : (toBytes "player").length = 6 := by decide
  have h2 : (toBytes "weight").length = 6 := by decide
  omega
theorem name_len {z : Vbndam.Room} (h : NmOk z) (i : Nat) : (Vbndam.playerName z i).length ≤ 12 := by
  unfold Vbndam.playerName
  cases e : z.players[i]? with
  | none => exact Nat.zero_le _
  | some p => exact h p (List.mem_of_getElem? e)
theorem rlW_len {z : Vbndam.Room} {u : Vbndam.Rule} (hs : u.substitutes.length ≤ 8) : (rlW z u).length ≤ 14 := by
  unfold rlW
  by_cases c : u.required < u.substitutes.length
  · rw [if_pos c]
    simp only [List.length_append, List.length_cons, List.length_nil, List.length_map]
    omega
  · rw [if_neg c]
    simp only [List.length_append, List.length_cons, List.length_nil, List.length_map]
    omega
theorem rlW_mem {z : Vbndam.Room} {u : Vbndam.Rule} (hn : NmOk z) (hr : u.required ≤ 8) : ∀ x ∈ rlW z u, x.length ≤ 12 := by
  intro x hx
  unfold rlW at hx
  have h1 : (toBytes "keep").length ≤ 12 := by decide
  have h2 : (toBytes "by").length ≤ 12 := by decide
  have h3 : (toBytes "any").length ≤ 12 := by decide
  have h4 : (toBytes "of").length ≤ 12 := by decide
  have h5 := num_len (show u.required ≤ 1000 by omega)
  have h6 := name_len hn u.absent
  rw [List.mem_append, List.mem_append] at hx
  rcases hx with h | h | h
  · simp only [List.mem_cons, List.not_mem_nil, or_false] at h
    rcases h with h | h | h <;> rw [h] <;> omega
  · by_cases c : u.required < u.substitutes.length
    · rw [if_pos c] at h
      simp only [List.mem_cons, List.not_mem_nil, or_false] at h
      rcases h with h | h | h <;> rw [h] <;> omega
    · rw [if_neg c] at h; cases h
  · obtain ⟨q, _, rfl⟩ := List.mem_map.mp h
    exact name_len hn q
theorem rlB_len {z : Vbndam.Room} {u : Vbndam.Rule} (hn : NmOk z) (hr : u.required ≤ 8) (hs : u.substitutes.length ≤ 8) : (rlB z u).length ≤ 200 := by
  unfold rlB
  rw [← join_sp, List.length_append]
  have h1 := join_len (rlW z u)
  have h2 := sum_le 12 _ (rlW_mem hn hr)
  have h3 := rlW_len (z := z) hs
  show _ + 1 ≤ _
  omega
theorem S_plr : ("player " : Str) = S (toBytes "player ") := by decide +kernel
theorem S_wgt : (" weight " : Str) = S (toBytes " weight ") := by decide +kernel
theorem S_lf : ("\n" : Str) = S [10] := by decide +kernel
theorem S_sp : (" " : Str) = S [32] := by decide +kernel
theorem S_emp : Str.empty = S [] := by decide +kernel
def txtV (W : List (List Nat)) : List V := W.map fun w => V.str (S w)
section
variable {P : Program} {w : World} {K : PySem.W.Frag} {mg : Str → Option Value} {base : Heap}
def sp_player_line (K : PySem.W.Frag) : Sp := fun vs H Q _ => ∃ (a : Addr) (p : Vbndam.Player), vs = [.ref a] ∧ PlayerAt K H a p ∧ p.name.length ≤ 12 ∧ p.weight ≤ 1000 ∧ Q (.str (S (plB p))) H
theorem ok_player_line {f : Addr} {fd : FuncData} (T : Txt K mg) (F : FnP K "player_line" "player_line" s_player_line f fd) (hm : mg "player_line" = some (.ref f))  :
    C8.Cal P w K mg base 1 "player_line" (sp_player_line K) [] := by
  refine calMk F hm (F.bindsN (ps := ["player"]) fun _ _ _ _ _ _ us hl => match us, hl with | [_], _ => rfl) sc_player_line (fun vs H Q E h => by first | (obtain ⟨rfl, _⟩ := h; rfl) | (obtain ⟨_, rfl, _⟩ := h; rfl) | (obtain ⟨_, _, rfl, _⟩ := h; rfl) | (obtain ⟨_, _, _, rfl, _⟩ := h; rfl) | (obtain ⟨_, _, _, _, rfl, _⟩ := h; rfl) | (obtain ⟨_, _, _, _, _, rfl, _⟩ := h; rfl) | (obtain ⟨_, _, _, _, _, _, rfl, _⟩ := h; rfl) | (obtain ⟨_, _, _, _, _, _, _, rfl, _⟩ := h; rfl) | (obtain ⟨_, _, _, _, _, _, _, _, rfl, _⟩ := h; rfl) | (obtain ⟨_, _, _, _, _, _, _, _, _, rfl, _⟩ := h; rfl) | (obtain ⟨_, _, _, _, _, _, _, _, _, _, rfl, _⟩ := h; rfl) | (obtain ⟨_, _, _, _, _, _, _, _, _, _, _, rfl, _⟩ := h; rfl) | (obtain ⟨_, _, _, _, _, _, _, _, _, _, _, _, rfl, _⟩ := h; rfl) | (obtain ⟨_, _, _, _, _, _, _, _, _, _, _, _, _, rfl, _⟩ := h; rfl) | (obtain ⟨_, _, _, _, _, _, _, _, _, _, _, _, _, _, rfl, _⟩ := h; rfl)) (fun cdv A outer s H vs Q E hr h => ?_)
  obtain ⟨a, p, rfl, ⟨dx, e⟩, hn, hw, q⟩ := h
  refine ⟨_, (pss_cons (ps_set (i := 1) sc_player_line.nd rfl (Or.inl rfl) (pe_fld (pv 0) rfl)) (pss_cons (ps_set (i := 2) sc_player_line.nd rfl (Or.inl rfl) (pe_fld (pv 0) rfl)) (pss_one (ps_ret (pe_joined (PJ.cons pe_str (PJ.cons (pe_fmt (pv 1)) (PJ.cons pe_str (PJ.cons (pe_fmt (pv 2)) (PJ.cons pe_str PJ.nil)))))))))), ?_⟩
  have hsz : ∀ l : List Nat, l.length ≤ 10000 → (S l).length ≤ sizeLine := fun l hl => by rw [SX.S_len]; exact sizeI (by omega)
  have hnl := num_len hw
  have l1 : (toBytes "player ").length = 7 := by decide
  have l2 : (toBytes " weight ").length = 8 := by decide
  have a1 : Str.empty ++ ("player " : Str) = S (toBytes "player ") := by rw [S_emp, S_plr, SX.S_cat]; rfl
  have a2 : (Str.empty ++ ("player " : Str)) ++ S p.name = S (toBytes "player " ++ p.name) := by rw [a1, SX.S_cat]
  have a3 : ((Str.empty ++ ("player " : Str)) ++ S p.name) ++ (" weight " : Str) = S ((toBytes "player " ++ p.name) ++ toBytes " weight ") := by rw [a2, S_wgt, SX.S_cat]
  have a4 : (((Str.empty ++ ("player " : Str)) ++ S p.name) ++ (" weight " : Str)) ++ Str.ofString (toString ((p.weight : Nat) : Int)) = S (((toBytes "player " ++ p.name) ++ toBytes " weight ") ++ decimalBytes p.weight) := by rw [a3, SX.num_S, SX.S_cat, dec_num]
  have a5 : ((((Str.empty ++ ("player " : Str)) ++ S p.name) ++ (" weight " : Str)) ++ Str.ofString (toString ((p.weight : Nat) : Int))) ++ ("\n" : Str) = S (plB p) := by
    rw [a4, S_lf, SX.S_cat]
    have e1 : toBytes "player " = toBytes "player" ++ [32] := by decide
    have e2 : toBytes " weight " = [32] ++ toBytes "weight" ++ [32] := by decide
    rw [e1, e2]
    unfold plB joinWithSpaces joinWithSpaces joinWithSpaces joinWithSpaces
    simp only [List.append_assoc, List.cons_append, List.nil_append]
  refine ⟨_, rfl, a, _, dx, _, _, rfl, e, T.c_Player, T.a_name, lPlayer1, _, rfl, a, _, dx, _, _, rfl, e, T.c_Player, T.a_weight, lPlayer2, ?_⟩
  refine ⟨_, rfl, ?_, _, rfl, .inl ⟨_, rfl, hsz _ (by omega), _, rfl, ?_, _, rfl, ?_, _, rfl, .inr ⟨_, rfl, ?_, _, rfl, ?_, _, rfl, ?_, ?_⟩⟩⟩
  · rw [a1]; exact hsz _ (by omega)
  · rw [a2]; exact hsz _ (by rw [List.length_append]; omega)
  · rw [a3]; exact hsz _ (by rw [List.length_append, List.length_append]; omega)
  · rw [Int.natAbs_natCast]
    exact PySem.Flt.log2_lt_of (by decide) (Nat.lt_of_le_of_lt hw (by decide))
  · rw [a4]; exact hsz _ (by rw [List.length_append, List.length_append, List.length_append]; omega)
  · rw [a5]; exact hsz _ (Nat.le_trans (plB_len hn hw) (by decide))
  · rw [a5]; exact q
def sp_rule_line (K : PySem.W.Frag) : Sp := fun vs H Q _ => ∃ (r a dx pl ru : Addr) (ps rs : List Addr) (z : Vbndam.Room) (u : Vbndam.Rule), vs = [.ref r, .ref a] ∧ RoomIs K H r dx pl ru ps rs z ∧ RuleAt K H pl ru a u ∧ NmOk z ∧ u.absent < z.players.length ∧ (∀ q ∈ u.substitutes, q < z.players.length) ∧ u.substitutes.length ≤ 8 ∧ u.required ≤ 8 ∧
  ∀ H', Same H H' → Q (.str (S (rlB z u))) H'
theorem ok_rule_line {f : Addr} {fd : FuncData} (T : Txt K mg) (F : FnP K "rule_line" "rule_line" s_rule_line f fd) (hm : mg "rule_line" = some (.ref f))  :
    C8.Cal P w K mg base 1 "rule_line" (sp_rule_line K) [] := by
  refine calMk F hm (F.bindsN (ps := ["room", "rule"]) fun _ _ _ _ _ _ us hl => match us, hl with | [_, _], _ => rfl) sc_rule_line (fun vs H Q E h => by first | (obtain ⟨rfl, _⟩ := h; rfl) | (obtain ⟨_, rfl, _⟩ := h; rfl) | (obtain ⟨_, _, rfl, _⟩ := h; rfl) | (obtain ⟨_, _, _, rfl, _⟩ := h; rfl) | (obtain ⟨_, _, _, _, rfl, _⟩ := h; rfl) | (obtain ⟨_, _, _, _, _, rfl, _⟩ := h; rfl) | (obtain ⟨_, _, _, _, _, _, rfl, _⟩ := h; rfl) | (obtain ⟨_, _, _, _, _, _, _, rfl, _⟩ := h; rfl) | (obtain ⟨_, _, _, _, _, _, _, _, rfl, _⟩ := h; rfl) | (obtain ⟨_, _, _, _, _, _, _, _, _, rfl, _⟩ := h; rfl) | (obtain ⟨_, _, _, _, _, _, _, _, _, _, rfl, _⟩ := h; rfl) | (obtain ⟨_, _, _, _, _, _, _, _, _, _, _, rfl, _⟩ := h; rfl) | (obtain ⟨_, _, _, _, _, _, _, _, _, _, _, _, rfl, _⟩ := h; rfl) | (obtain ⟨_, _, _, _, _, _, _, _, _, _, _, _, _, rfl, _⟩ := h; rfl) | (obtain ⟨_, _, _, _, _, _, _, _, _, _, _, _, _, _, rfl, _⟩ := h; rfl)) (fun cdv A outer s H vs Q E hr h => ?_)
  obtain ⟨r, a, dx, pl, ru, ps, rs, z, u, rfl, I, hu, hn, hab, hsb, hsl, hrq, q⟩ := h
  obtain ⟨du, sl, eu, es, _, _⟩ := id hu
  refine ⟨_, (pss_cons (ps_set (i := 2) sc_rule_line.nd rfl (Or.inl rfl) (pe_lst (pa_cons pe_str (pa_cons (pe_fld (pe_ix ix_list (pe_fld (pv 0) rfl) (pe_fld (pv 1) rfl) (fun _ _ => rfl)) rfl) (pa_cons pe_str pa_nil))))) (C8.pss_cut (ps_if (pt_cmpR op_lt (pe_fld (pv 1) rfl) (pe_callB call_len_seq (by rfl) T.n_len PySem.boot_len (pa_cons (pe_fld (pv 1) rfl) pa_nil)) (nomark _)) (pss_one (ps_expr (pe_bm PySem.F.plainAttrs_list PySem.F.slot_list_extend PySem.F.type_list_extend mt_extend (pv 2) (pa_cons (pe_lst (pa_cons pe_str (pa_cons (pe_callTy call_str_int (by rfl) T.n_str (by decide +kernel) (pa_cons (pe_fld (pv 1) rfl) pa_nil)) (pa_cons pe_str pa_nil)))) pa_nil)))) pss_nil) (pss_cons (ps_expr (pe_bm PySem.F.plainAttrs_list PySem.F.slot_list_extend PySem.F.type_list_extend mt_extend (pv 2) (pa_cons (pe_lc (own := [("substitute", 3)]) (g := (gName 3)) (by rfl) sc_rule_line.nd (pi_list (pe_fld (pv 1) rfl)) (blkOk_by (own := [("substitute", 3)]) (N := ["room", "rule", "words", "substitute"]) (sc := defScope s_rule_line) (by decide +kernel)) (fun _ _ _ _ _ => pg_name (i := 3) sc_rule_line.nd rfl (Or.inl rfl)) (fun _ _ _ _ _ => pts_nil) (fun _ _ _ _ _ => (show PE _ _ (tFld K _ _) from pe_fld (pe_ix (r := rIxL K) ix_list (show PE _ _ (tFld K _ _) from pe_fld (pv 0) rfl) (pv 3) (fun _ _ => rfl)) rfl))) pa_nil))) (pss_one (ps_ret (pe_op op_add_str (pe_join pe_str (pv 2)) pe_str)))))), ?_⟩
  have hname : ∀ i (h : i < z.players.length), ∃ pa dp wt, (ps.map V.ref)[i]? = some (.ref pa) ∧ H pa = some (.ins (cl K "Player") dp (fPlayer (Vbndam.playerName z i) wt)) := fun i hi => by
    obtain ⟨pa, hpa, dp, ep⟩ := pairedGet I.pAt (List.getElem?_eq_getElem hi)
    refine ⟨pa, dp, ((z.players[i].weight : Nat) : Int), by rw [List.getElem?_map, hpa]; rfl, ?_⟩
    unfold Vbndam.playerName
    rw [List.getElem?_eq_getElem hi]
    exact ep
  obtain ⟨pa, dp, wt, g1, ep⟩ := hname u.absent hab
  refine ⟨_, rfl, r, _, dx, _, _, rfl, I.at_, T.c_Room, T.a_players, lRoom1, _, rfl, a, _, du, _, _, rfl, eu, T.c_Rule, T.a_absent, lRule1, pl, _, _, .ref pa, rfl, rfl, SqL.of I.pls, atI_nat g1, pa, _, dp, _, _, rfl, ep, T.c_Player, T.a_name, lPlayer1, by show 3 ≤ sizeLine; decide, fun wl hwl => ?_⟩
  have e0 : ([V.str "keep", V.str (S (Vbndam.playerName z u.absent)), V.str "by"] : List V) = txtV [toBytes "keep", Vbndam.playerName z u.absent, toBytes "by"] := by
    unfold txtV
    show _ = [V.str (S (toBytes "keep")), _, V.str (S (toBytes "by"))]
    rw [S_keep, S_by]
  dsimp only
  rw [e0]
  have s1 : Same H (upd H wl (.lst (txtV [toBytes "keep", Vbndam.playerName z u.absent, toBytes "by"]))) := sameUpd hwl
  generalize hH1 : upd H wl (.lst (txtV [toBytes "keep", Vbndam.playerName z u.absent, toBytes "by"])) = H1 at s1
  have ew1 : H1 wl = some (.lst (txtV [toBytes "keep", Vbndam.playerName z u.absent, toBytes "by"])) := by rw [← hH1]; exact upd_same
  refine ⟨fun σ H2 => ∃ y3 : Option V, σ = [some (.ref r), some (.ref a), some (.ref wl), y3] ∧ Same H H2 ∧ H2 wl = some (.lst (txtV ([toBytes "keep", Vbndam.playerName z u.absent, toBytes "by"] ++ (if u.required < u.substitutes.length then [toBytes "any", decimalBytes u.required, toBytes "of"] else [])))), ?_, ?_⟩
  · refine ⟨_, rfl, a, _, du, _, _, rfl, s1 _ _ eu, T.c_Rule, T.a_needed, lRule2, _, rfl, a, _, du, _, _, rfl, s1 _ _ eu, T.c_Rule, T.a_substitutes, lRule3, sl, _, rfl, .inl (SqL.of (s1 _ _ es)), _, _, rfl, rfl, _, rfl, ?_⟩
    have hnl : (nats u.substitutes).length = u.substitutes.length := by unfold nats; rw [List.length_map]
    rw [hnl]
    by_cases c : u.required < u.substitutes.length
    · rw [decide_eq_true (by omega)]
      rw [if_pos c]
      refine iteT ⟨_, rfl, .inl ⟨rfl, _, SqL.of ew1⟩, ?_⟩
      refine ⟨_, rfl, a, _, du, _, _, rfl, s1 _ _ eu, T.c_Rule, T.a_needed, lRule2, _, rfl, ?_, by show 3 ≤ sizeLine; decide, fun t ht => ?_⟩
      · rw [Int.natAbs_natCast]
        exact PySem.Flt.log2_lt_of (by decide) (Nat.lt_of_le_of_lt hrq (by decide))
      have st : Same H1 (upd H1 t (.lst [V.str "any", V.str (toString ((u.required : Nat) : Int)), V.str "of"])) := sameUpd ht
      refine ⟨wl, t, _, _, rfl, rfl, st _ _ ew1, upd_same, by show 3 + 3 ≤ sizeLine; decide, none, rfl, fun b o e => ?_, ?_⟩
      · rw [upd_ne (ne_of_none e hwl)]
        exact st _ _ (s1 _ _ e)
      · rw [upd_same]
        have e1 : ([V.str "any", V.str (Str.ofString (toString ((u.required : Nat) : Int))), V.str "of"] : List V) = txtV [toBytes "any", decimalBytes u.required, toBytes "of"] := by
          unfold txtV
          show _ = [V.str (S (toBytes "any")), V.str (S (decimalBytes u.required)), V.str (S (toBytes "of"))]
          rw [S_any, S_of, SX.num_S, dec_num]
        unfold txtV at e1 ⊢
        rw [List.map_append, ← e1]
    · rw [decide_eq_false (by omega)]
      rw [if_neg c]
      refine iteF ⟨none, rfl, s1, ?_⟩
      rw [List.append_nil]
      exact ew1
  · rintro σ H2 ⟨y3, rfl, s2, ew2⟩
    have hW : [toBytes "keep", Vbndam.playerName z u.absent, toBytes "by"] ++ (if u.required < u.substitutes.length then [toBytes "any", decimalBytes u.required, toBytes "of"] else []) ++ u.substitutes.map (Vbndam.playerName z) = rlW z u := by
      unfold rlW
      rw [List.append_assoc]
    generalize [toBytes "keep", Vbndam.playerName z u.absent, toBytes "by"] ++ (if u.required < u.substitutes.length then [toBytes "any", decimalBytes u.required, toBytes "of"] else []) = W at ew2 hW
    refine ⟨_, rfl, .inl ⟨rfl, _, SqL.of ew2⟩, ?_⟩
    refine ⟨_, rfl, a, _, du, _, _, rfl, s2 _ _ eu, T.c_Rule, T.a_substitutes, lRule3, sl, rfl, ⟨_, SqL.of (s2 _ _ es)⟩, fun D hD => ?_⟩
    have hnl : (nats u.substitutes).length = u.substitutes.length := by unfold nats; rw [List.length_map]
    refine lcM walk_list u.substitutes (fun n => V.str (S (Vbndam.playerName z n))) hnl.symm (by rw [hnl]; omega) hD (fun H3 s3 => SqL.of (s3 _ _ (s2 _ _ es))) (fun i x v H3 H4 hx s3 hy N y1 => ?_) (fun H3 s3 e3 => ?_) (gNameMono _)
    · obtain ⟨rfl, hv⟩ := hy
      unfold nats at hv
      rw [List.getElem?_map, hx] at hv
      obtain rfl : V.int (x : Nat) = v := Option.some.inj hv
      obtain ⟨pa2, dp2, wt2, g2, ep2⟩ := hname x (hsb x (List.mem_of_getElem? hx))
      have s4 := s2.trans s3
      exact ⟨rfl, _, rfl, r, _, dx, _, _, rfl, s4 _ _ I.at_, T.c_Room, T.a_players, lRoom1, _, rfl, pl, _, _, .ref pa2, rfl, rfl, SqL.of (s4 _ _ I.pls), atI_nat g2, pa2, _, dp2, _, _, rfl, s4 _ _ ep2, T.c_Player, T.a_name, lPlayer1, y1 _ (Same.refl _)⟩
    · have hWl := rlW_len (z := z) hsl
      have hWl2 : W.length + u.substitutes.length ≤ 14 := by
        rw [← hW, List.length_append, List.length_map] at hWl
        exact hWl
      have s4 := s2.trans s3
      refine ⟨wl, D, _, _, rfl, rfl, s3 _ _ ew2, e3, ?_, ?_⟩
      · unfold txtV
        rw [List.length_map, List.length_map]
        exact sizeI (by omega)
      have ecat : txtV W ++ u.substitutes.map (fun n => V.str (S (Vbndam.playerName z n))) = txtV (rlW z u) := by
        rw [← hW]
        unfold txtV
        rw [List.map_append, List.map_map]
        rfl
      rw [ecat]
      have eup : upd H3 wl (.lst (txtV (rlW z u))) wl = some (.lst ((rlW z u).map S |>.map V.str)) := by
        rw [upd_same, List.map_map]
        rfl
      have hj : (Txt.join (" " : Str) ((rlW z u).map S)) = S (joinWithSpaces (rlW z u)) := by rw [S_sp, SX.join_S, join_sp]
      have hl200 := rlB_len hn hrq hsl
      refine ⟨⟨_, rfl⟩, _, rfl, " ", wl, (rlW z u).map S, rfl, rfl, .inl (SqL.of eup), ?_, ?_⟩
      · rw [SX.lens, List.length_map]
        have e1 : (" " : Str).length = 1 := by decide +kernel
        rw [e1]
        have h2 := sum_le 12 _ (rlW_mem hn hrq)
        have h3 : ((rlW z u).map fun x => x.length).sum ≤ ((rlW z u).map fun x => x.length + 1).sum := by
          generalize rlW z u = Y
          induction Y with
          | nil => exact Nat.le_refl _
          | cons y Y ih => rw [List.map_cons, List.map_cons, List.sum_cons, List.sum_cons]; omega
        have h4 : ((rlW z u).map (·.length)).sum ≤ ((rlW z u).map fun x => x.length + 1).sum := h3
        omega
      rw [hj, S_lf]
      refine ⟨_, _, rfl, rfl, ?_, ?_⟩
      · rw [SX.S_len, SX.S_len]
        unfold rlB at hl200
        rw [List.length_append] at hl200
        exact sizeI (by omega)
      · rw [SX.S_cat]
        refine q _ fun b o e => ?_
        rw [upd_ne (ne_of_none e hwl)]
        exact s4 _ _ e
def sp_canonical_codes (K : PySem.W.Frag) : Sp := fun vs H Q _ => ∃ (r : Addr) (z : Vbndam.Room), vs = [.ref r] ∧ RoomAt K H r z ∧ WF z ∧ NmOk z ∧ ∀ H' p, Same H H' → H p = none → H' p = some (.lst (nats (Vbndam.printRoom z))) → (Vbndam.printRoom z).length ≤ 20000 → Q (.ref p) H'
theorem ok_canonical_codes {f : Addr} {fd : FuncData} (T : Txt K mg) (F : FnP K "canonical_codes" "canonical_codes" s_canonical_codes f fd) (hm : mg "canonical_codes" = some (.ref f)) (c_player_line : C8.Cal P w K mg base 1 "player_line" (sp_player_line K) []) (c_rule_line : C8.Cal P w K mg base 1 "rule_line" (sp_rule_line K) []) :
    C8.Cal P w K mg base 2 "canonical_codes" (sp_canonical_codes K) [] := by
  refine calMk F hm (F.bindsN (ps := ["room"]) fun _ _ _ _ _ _ us hl => match us, hl with | [_], _ => rfl) sc_canonical_codes (fun vs H Q E h => by first | (obtain ⟨rfl, _⟩ := h; rfl) | (obtain ⟨_, rfl, _⟩ := h; rfl) | (obtain ⟨_, _, rfl, _⟩ := h; rfl) | (obtain ⟨_, _, _, rfl, _⟩ := h; rfl) | (obtain ⟨_, _, _, _, rfl, _⟩ := h; rfl) | (obtain ⟨_, _, _, _, _, rfl, _⟩ := h; rfl) | (obtain ⟨_, _, _, _, _, _, rfl, _⟩ := h; rfl) | (obtain ⟨_, _, _, _, _, _, _, rfl, _⟩ := h; rfl) | (obtain ⟨_, _, _, _, _, _, _, _, rfl, _⟩ := h; rfl) | (obtain ⟨_, _, _, _, _, _, _, _, _, rfl, _⟩ := h; rfl) | (obtain ⟨_, _, _, _, _, _, _, _, _, _, rfl, _⟩ := h; rfl) | (obtain ⟨_, _, _, _, _, _, _, _, _, _, _, rfl, _⟩ := h; rfl) | (obtain ⟨_, _, _, _, _, _, _, _, _, _, _, _, rfl, _⟩ := h; rfl) | (obtain ⟨_, _, _, _, _, _, _, _, _, _, _, _, _, rfl, _⟩ := h; rfl) | (obtain ⟨_, _, _, _, _, _, _, _, _, _, _, _, _, _, rfl, _⟩ := h; rfl)) (fun cdv A outer s H vs Q E hr h => ?_)
  obtain ⟨r, z, rfl, hz, wz, hn, q⟩ := h
  obtain ⟨dx, pl, ru, ps, rs, I⟩ := id hz
  refine ⟨_, (pss_cons (ps_setLc (i := 1) (own := [("player", 2)]) (g := gName 2) (by rfl) sc_canonical_codes.nd rfl rfl (sw_true rfl rfl rfl (by decide +kernel)) (pi_list (pe_fld (pv 0) rfl)) (blkOk_by (own := [("player", 2)]) (N := ["room", "lines", "player", "sign", "rule"]) (sc := defScope s_canonical_codes) (by decide +kernel)) (fun _ _ _ _ _ => pg_name (i := 2) sc_canonical_codes.nd rfl (Or.inl rfl)) (fun _ _ _ _ _ => pts_nil) (fun _ _ _ _ _ => (C8.pe_c c_player_line hr (by decide) (by rfl) (pa_cons (pv 2) pa_nil)))) (pss_cons (ps_expr (pe_bm PySem.F.plainAttrs_list PySem.F.slot_list_extend PySem.F.type_list_extend mt_extend (pv 1) (pa_cons (pe_lc (own := [("rule", 4)]) (g := (gName 4)) (by rfl) sc_canonical_codes.nd (pi_list (pe_fld (pv 0) rfl)) (blkOk_by (own := [("rule", 4)]) (N := ["room", "lines", "player", "sign", "rule"]) (sc := defScope s_canonical_codes) (by decide +kernel)) (fun _ _ _ _ _ => pg_name (i := 4) sc_canonical_codes.nd rfl (Or.inl rfl)) (fun _ _ _ _ _ => pts_nil) (fun _ _ _ _ _ => (C8.pe_c c_rule_line hr (by decide) (by rfl) (pa_cons (pv 0) (pa_cons (pv 4) pa_nil))))) pa_nil))) (pss_one (ps_ret (pe_lc (own := [("sign", 3)]) (g := (gName 3)) (by rfl) sc_canonical_codes.nd (pi_str (pe_join pe_str (pv 1))) (blkOk_by (own := [("sign", 3)]) (N := ["room", "lines", "player", "sign", "rule"]) (sc := defScope s_canonical_codes) (by decide +kernel)) (fun _ _ _ _ _ => pg_name (i := 3) sc_canonical_codes.nd rfl (Or.inl rfl)) (fun _ _ _ _ _ => pts_nil) (fun _ _ _ _ _ => (pe_callB call_ord (by rfl) T.n_ord (by decide +kernel) (pa_cons (pv 3) pa_nil)))))))), ?_⟩
  have hlp := pairedLen I.pAt
  have hlr := pairedLen I.rAt
  have h8 := wz.le8
  have h20 := wz.r20
  refine ⟨_, rfl, r, _, dx, _, _, rfl, I.at_, T.c_Room, T.a_players, lRoom1, pl, rfl, ⟨_, SqL.of I.pls⟩, fun D hD => ?_⟩
  refine lcM walk_list z.players (fun p => V.str (S (plB p))) (by rw [List.length_map, hlp]) (by rw [List.length_map, hlp]; omega) hD (fun H1 s1 => SqL.of (s1 _ _ I.pls)) (fun i x v H1 H2 hx s1 hy N y1 => ?_) (fun H1 s1 e1 => ?_) (gNameMono _)
  · obtain ⟨rfl, hv⟩ := hy
    rw [List.getElem?_map] at hv
    obtain ⟨a, ha, rfl⟩ := Option.map_eq_some_iff.mp hv
    obtain ⟨y, hy, hP⟩ := pairedGetL I.pAt ha
    rw [hx] at hy
    obtain rfl : x = y := Option.some.inj hy
    exact ⟨rfl, _, rfl, a, x, rfl, hP.same s1, hn x (List.mem_of_getElem? hx), wz.wt x (List.mem_of_getElem? hx), y1 _ (Same.refl _)⟩
  refine ⟨_, rfl, .inl ⟨rfl, _, SqL.of e1⟩, ?_⟩
  refine ⟨_, rfl, r, _, dx, _, _, rfl, s1 _ _ I.at_, T.c_Room, T.a_rules, lRoom2, ru, rfl, ⟨_, SqL.of (s1 _ _ I.rls)⟩, fun D2 hD2 => ?_⟩
  refine lcM walk_list z.rules (fun u => V.str (S (rlB z u))) (by rw [List.length_map, hlr]) (by rw [List.length_map, hlr]; omega) hD2 (fun H2 s2 => SqL.of (s2 _ _ (s1 _ _ I.rls))) (fun i x v H2 H3 hx s2 hy N y1 => ?_) (fun H2 s2 e2 => ?_) (gNameMono _)
  · obtain ⟨rfl, hv⟩ := hy
    rw [List.getElem?_map] at hv
    obtain ⟨a, ha, rfl⟩ := Option.map_eq_some_iff.mp hv
    obtain ⟨y, hy, hP⟩ := pairedGetL I.rAt ha
    rw [hx] at hy
    obtain rfl : x = y := Option.some.inj hy
    have s3 := s1.trans s2
    have hm := List.mem_of_getElem? hx
    have I3 : RoomIs K _ r dx pl ru ps rs z := ⟨s3 _ _ I.at_, s3 _ _ I.pls, s3 _ _ I.rls, I.ne, I.nd, pairedImp (fun _ _ q => PlayerAt.same s3 q) I.pAt, pairedImp (fun _ _ q => RuleAt.same s3 q) I.rAt⟩
    exact ⟨rfl, _, rfl, _, rfl, r, a, dx, pl, ru, ps, rs, z, x, rfl, I3, hP.same s3, hn, wz.abs x hm, wz.sub x hm, wz.sl x hm, wz.rq x hm, fun H' s' => y1 _ s'⟩
  have eD := s2 _ _ e1
  refine ⟨D, D2, _, _, rfl, rfl, eD, e2, by rw [List.length_map, List.length_map]; exact sizeI (by omega), ?_⟩
  generalize hLn : z.players.map plB ++ z.rules.map (rlB z) = Ln
  have eup : upd H2 D (.lst (z.players.map (fun p => V.str (S (plB p))) ++ z.rules.map (fun u => V.str (S (rlB z u))))) D = some (.lst ((Ln.map S).map V.str)) := by
    rw [upd_same, ← hLn, List.map_append, List.map_append, List.map_map, List.map_map, List.map_map, List.map_map]
    rfl
  have hsum : (Ln.map fun x => x.length + 1).sum ≤ Ln.length * 201 := sum_le 200 Ln fun x hx => by
    rw [← hLn, List.mem_append] at hx
    rcases hx with h | h
    · obtain ⟨p, hp, rfl⟩ := List.mem_map.mp h
      exact Nat.le_trans (plB_len (hn p hp) (wz.wt p hp)) (by decide)
    · obtain ⟨u, hu, rfl⟩ := List.mem_map.mp h
      exact rlB_len hn (wz.rq u hu) (wz.sl u hu)
  have hLl : Ln.length ≤ 28 := by
    rw [← hLn, List.length_append, List.length_map, List.length_map]
    omega
  have hflat : Ln.flatten = Vbndam.printRoom z := by rw [print_eq, hLn]
  have hs2 : (Ln.map (·.length)).sum ≤ (Ln.map fun x => x.length + 1).sum := by
    generalize Ln = Y
    induction Y with
    | nil => exact Nat.le_refl _
    | cons y Y ih =>
      rw [List.map_cons, List.map_cons, List.sum_cons, List.sum_cons]
      show y.length + _ ≤ _
      omega
  have hfl : (Vbndam.printRoom z).length ≤ 20000 := by
    rw [← hflat, List.length_flatten]
    have : (Ln.map List.length).sum = (Ln.map (·.length)).sum := rfl
    omega
  have hj : Txt.join ("" : Str) (Ln.map S) = S (Vbndam.printRoom z) := by rw [← S_nil, SX.join_S, joinNil, hflat]
  have sU : ∀ b o, H b = some o → upd H2 D (.lst (z.players.map (fun p => V.str (S (plB p))) ++ z.rules.map (fun u => V.str (S (rlB z u))))) b = some o := fun b o e => by
    rw [upd_ne (ne_of_none e hD)]
    exact s2 _ _ (s1 _ _ e)
  refine ⟨⟨_, rfl⟩, _, rfl, "", D, Ln.map S, rfl, rfl, .inl (SqL.of eup), ?_, ?_⟩
  · rw [SX.lens, List.length_map]
    have e1 : ("" : Str).length = 0 := by decide +kernel
    rw [e1]
    omega
  rw [hj]
  refine ⟨_, rfl, fun D3 hD3 => ?_⟩
  generalize upd H2 D (.lst (z.players.map (fun p => V.str (S (plB p))) ++ z.rules.map (fun u => V.str (S (rlB z u))))) = H3 at sU hD3
  have hcs : (S (Vbndam.printRoom z)).cps.size = (Vbndam.printRoom z).length := by simp [SX.S]
  refine lcM walk_str (Vbndam.printRoom z) (fun c => V.int (c : Nat)) hcs.symm (by rw [hcs]; omega) hD3 (fun _ _ => trivial) (fun i x v H4 H5 hx s4 hy N y1 => ?_) (fun H4 s4 e4 => ?_) (gNameMono _)
  · obtain ⟨rfl, d, hd, rfl⟩ := hy
    rw [cps_get, hx] at hd
    obtain rfl : x = d := Option.some.inj hd
    exact ⟨rfl, _, rfl, _, rfl, rfl, y1 _ (Same.refl _)⟩
  · exact q H4 D3 (fun b o e => s4 _ _ (sU b o e)) (by
      cases e : H D3 with
      | none => rfl
      | some o => rw [sU _ _ e] at hD3; cases hD3) e4 hfl
end
end SI

set_option maxHeartbeats 4000000
namespace SI
open PySem PySem.Spec PyProof.Rows L2
open SX (S)
open Vbndam (toInts withLength flag toPairs toNats)
abbrev St := Option Vbndam.Room
def SessAt (K : PySem.W.Frag) (B H : Hp) (s : Addr) (st : St) : Prop := B s = none ∧ ∃ dx, match st with
  | none => H s = some (.ins (cl K "Session") dx (fSession .non))
  | some z => ∃ r d pl ru ps rs, H s = some (.ins (cl K "Session") dx (fSession (.ref r))) ∧ RoomIs K (newH B H) r d pl ru ps rs z ∧ PF z ∧ 1 ≤ z.players.length
theorem RoomIs.same {K : PySem.W.Frag} {H H' : Hp} (s : Same H H') {r d pl ru : Addr} {ps rs : List Addr} {z : Vbndam.Room} (I : RoomIs K H r d pl ru ps rs z) : RoomIs K H' r d pl ru ps rs z :=
  ⟨s _ _ I.at_, s _ _ I.pls, s _ _ I.rls, I.ne, I.nd, pairedImp (fun _ _ q => PlayerAt.same s q) I.pAt, pairedImp (fun _ _ q => RuleAt.same s q) I.rAt⟩
theorem SessAt.same {K : PySem.W.Frag} {B H H' : Hp} (s : Same H H') {a : Addr} {st : St} (h : SessAt K B H a st) : SessAt K B H' a st := by
  obtain ⟨h0, dx, h⟩ := h
  refine ⟨h0, dx, ?_⟩
  cases st with
  | none => exact s _ _ h
  | some z =>
    obtain ⟨r, d, pl, ru, ps, rs, h1, h2, h3⟩ := h
    exact ⟨r, d, pl, ru, ps, rs, s _ _ h1, h2.mono fun b o _ e => s _ _ e, h3⟩
theorem SessAt.out {K : PySem.W.Frag} {B H : Hp} {s : Addr} {z : Vbndam.Room} (h : SessAt K B H s (some z)) : B s = none ∧ ∃ dx r d pl ru ps rs, H s = some (.ins (cl K "Session") dx (fSession (.ref r))) ∧ RoomIs K H r d pl ru ps rs z ∧ PF z ∧ 1 ≤ z.players.length ∧ RoomIs K (newH B H) r d pl ru ps rs z ∧ B ru = none := by
  obtain ⟨h0, dx, r, d, pl, ru, ps, rs, h1, h2, h3, h4⟩ := h
  exact ⟨h0, dx, r, d, pl, ru, ps, rs, h1, h2.sub, h3, h4, h2, (newH_some h2.rls).1⟩
def OpR (K : PySem.W.Frag) (B : Hp) (s : Addr) (st : St) (res : List Int) (Q : VK) : Prop := ∀ H' a, Same B H' → SessAt K B H' s st → H' a = some (.lst (res.map V.int)) → B a = none → res.length ≤ 100000 → Q (.ref a) H'
theorem ro {K : PySem.W.Frag} {B H : Hp} {s : Addr} {st : St} {res : List Int} {Q : VK} (hB : Same B H) (hS : SessAt K B H s st) (q : OpR K B s st res Q) : ∀ H' a, Same H H' → H a = none → H' a = some (.lst (res.map V.int)) → res.length ≤ 100000 → Q (.ref a) H' :=
  fun H' a s1 ha e hl => q H' a (hB.trans s1) (hS.same s1) e (hB.free ha) hl
theorem natsI (l : List Nat) : nats l = (toInts l).map V.int := by
  unfold nats toInts
  rw [List.map_map]
  rfl
theorem toInts_len (l : List Nat) : (toInts l).length = l.length := by unfold toInts; rw [List.length_map]
theorem withLength_len (l : List Nat) : (withLength l).length = l.length + 1 := by
  show (toInts l).length + 1 = _
  rw [toInts_len]
theorem ev_lt {z : Vbndam.Room} {k : Nat} (h : k ≤ ev z) : k < 2 ^ Vbndam.playerCount z := Nat.lt_of_le_of_lt h (everyone_lt z)
section
variable {P : Program} {w : World} {K : PySem.W.Frag} {mg : Str → Option Value} {base : Heap}
def sp_listed (K : PySem.W.Frag) : Sp := fun vs H Q _ => ∃ (p : Addr) (l : List Nat), vs = [.ref p] ∧ H p = some (.lst (nats l)) ∧ l.length ≤ 90000 ∧ ∀ H' a, Same H H' → H a = none → H' a = some (.lst (((0 : Int) :: withLength l).map V.int)) → Q (.ref a) H'
theorem ok_listed {f : Addr} {fd : FuncData} (T : Txt K mg) (F : FnP K "listed" "listed" s_listed f fd) (hm : mg "listed" = some (.ref f))  :
    C8.Cal P w K mg base 1 "listed" (sp_listed K) [] := by
  refine calMk F hm (F.bindsN (ps := ["numbers"]) fun _ _ _ _ _ _ us hl => match us, hl with | [_], _ => rfl) sc_listed (fun vs H Q E h => by first | (obtain ⟨rfl, _⟩ := h; rfl) | (obtain ⟨_, rfl, _⟩ := h; rfl) | (obtain ⟨_, _, rfl, _⟩ := h; rfl) | (obtain ⟨_, _, _, rfl, _⟩ := h; rfl) | (obtain ⟨_, _, _, _, rfl, _⟩ := h; rfl) | (obtain ⟨_, _, _, _, _, rfl, _⟩ := h; rfl) | (obtain ⟨_, _, _, _, _, _, rfl, _⟩ := h; rfl) | (obtain ⟨_, _, _, _, _, _, _, rfl, _⟩ := h; rfl) | (obtain ⟨_, _, _, _, _, _, _, _, rfl, _⟩ := h; rfl) | (obtain ⟨_, _, _, _, _, _, _, _, _, rfl, _⟩ := h; rfl) | (obtain ⟨_, _, _, _, _, _, _, _, _, _, rfl, _⟩ := h; rfl) | (obtain ⟨_, _, _, _, _, _, _, _, _, _, _, rfl, _⟩ := h; rfl) | (obtain ⟨_, _, _, _, _, _, _, _, _, _, _, _, rfl, _⟩ := h; rfl) | (obtain ⟨_, _, _, _, _, _, _, _, _, _, _, _, _, rfl, _⟩ := h; rfl) | (obtain ⟨_, _, _, _, _, _, _, _, _, _, _, _, _, _, rfl, _⟩ := h; rfl)) (fun cdv A outer s H vs Q E hr h => ?_)
  obtain ⟨p, l, rfl, e, hl, q⟩ := h
  refine ⟨_, (pss_one (ps_ret (pe_op op_cat (pe_lst (pa_cons pe_int (pa_cons (pe_callB call_len_seq (by rfl) T.n_len PySem.boot_len (pa_cons (pv 0) pa_nil)) pa_nil))) (pv 0)))), ?_⟩
  have hnl : (nats l).length = l.length := by unfold nats; rw [List.length_map]
  refine ⟨_, rfl, p, _, rfl, .inl (SqL.of e), by show 2 ≤ sizeLine; decide, fun t ht => ?_⟩
  have s1 := sameUpd (o := .lst [V.int 0, V.int ((nats l).length : Nat)]) ht
  refine ⟨_, rfl, t, p, _, _, rfl, rfl, upd_same, s1 _ _ e, by rw [hnl]; exact sizeI (by show 2 + _ ≤ _; omega), fun a ha => ?_⟩
  refine q _ a (s1.trans (sameUpd ha)) (s1.free ha) ?_
  rw [upd_same, hnl, natsI]
  rfl
def sp_judged (K : PySem.W.Frag) : Sp := fun vs H Q _ => ∃ (b : Bool), vs = [.bl b] ∧ ∀ H' a, Same H H' → H a = none → H' a = some (.lst (([0, flag b] : List Int).map V.int)) → Q (.ref a) H'
theorem ok_judged {f : Addr} {fd : FuncData} (T : Txt K mg) (F : FnP K "judged" "judged" s_judged f fd) (hm : mg "judged" = some (.ref f))  :
    C8.Cal P w K mg base 1 "judged" (sp_judged K) [] := by
  refine calMk F hm (F.bindsN (ps := ["holds"]) fun _ _ _ _ _ _ us hl => match us, hl with | [_], _ => rfl) sc_judged (fun vs H Q E h => by first | (obtain ⟨rfl, _⟩ := h; rfl) | (obtain ⟨_, rfl, _⟩ := h; rfl) | (obtain ⟨_, _, rfl, _⟩ := h; rfl) | (obtain ⟨_, _, _, rfl, _⟩ := h; rfl) | (obtain ⟨_, _, _, _, rfl, _⟩ := h; rfl) | (obtain ⟨_, _, _, _, _, rfl, _⟩ := h; rfl) | (obtain ⟨_, _, _, _, _, _, rfl, _⟩ := h; rfl) | (obtain ⟨_, _, _, _, _, _, _, rfl, _⟩ := h; rfl) | (obtain ⟨_, _, _, _, _, _, _, _, rfl, _⟩ := h; rfl) | (obtain ⟨_, _, _, _, _, _, _, _, _, rfl, _⟩ := h; rfl) | (obtain ⟨_, _, _, _, _, _, _, _, _, _, rfl, _⟩ := h; rfl) | (obtain ⟨_, _, _, _, _, _, _, _, _, _, _, rfl, _⟩ := h; rfl) | (obtain ⟨_, _, _, _, _, _, _, _, _, _, _, _, rfl, _⟩ := h; rfl) | (obtain ⟨_, _, _, _, _, _, _, _, _, _, _, _, _, rfl, _⟩ := h; rfl) | (obtain ⟨_, _, _, _, _, _, _, _, _, _, _, _, _, _, rfl, _⟩ := h; rfl)) (fun cdv A outer s H vs Q E hr h => ?_)
  obtain ⟨b, rfl, q⟩ := h
  refine ⟨_, (pss_one (ps_ret (pe_lst (pa_cons pe_int (pa_cons (pe_ifExp (pt_val (pv 0)) pe_int pe_int) pa_nil))))), ?_⟩
  cases b with
  | true => exact ⟨_, rfl, _, rfl, iteT ⟨by show 2 ≤ sizeLine; decide, fun t ht => q _ t (sameUpd ht) ht upd_same⟩⟩
  | false => exact ⟨_, rfl, _, rfl, iteF ⟨by show 2 ≤ sizeLine; decide, fun t ht => q _ t (sameUpd ht) ht upd_same⟩⟩
def sp_coal (K : PySem.W.Frag) (m : Int) (g : Vbndam.Room → Nat → List Int) : Sp := fun vs H Q _ => ∃ (s c : Addr) (B : Hp) (z : Vbndam.Room) (k : Nat) (rw : List Int), vs = [.ref s, .ref c] ∧ Same B H ∧ SessAt K B H s (some z) ∧ CallAt K B c m [(k : Int)] rw ∧ k ≤ ev z ∧ OpR K B s (some z) (g z k) Q
def sp_rm (K : PySem.W.Frag) (g : Vbndam.Room → List Int) : Sp := fun vs H Q _ => ∃ (s c : Addr) (B : Hp) (z : Vbndam.Room), vs = [.ref s, .ref c] ∧ Same B H ∧ SessAt K B H s (some z) ∧ OpR K B s (some z) (g z) Q
def sp_is_closed (K : PySem.W.Frag) : Sp := sp_coal K 5 fun z k => [0, flag (Vbndam.isClosed z k)]
theorem ok_is_closed {f : Addr} {fd : FuncData} (T : Txt K mg) (F : FnP K "is_closed" "is_closed" s_is_closed f fd) (hm : mg "is_closed" = some (.ref f)) (c_judged : C8.Cal P w K mg base 1 "judged" (sp_judged K) []) (c_nobody_joins : C8.Cal P w K mg base 4 "nobody_joins" (sp_nobody_joins K) []) :
    C8.Cal P w K mg base 5 "is_closed" (sp_is_closed K) [] := by
  refine calMk F hm (F.bindsN (ps := ["session", "call"]) fun _ _ _ _ _ _ us hl => match us, hl with | [_, _], _ => rfl) sc_is_closed (fun vs H Q E h => by first | (obtain ⟨rfl, _⟩ := h; rfl) | (obtain ⟨_, rfl, _⟩ := h; rfl) | (obtain ⟨_, _, rfl, _⟩ := h; rfl) | (obtain ⟨_, _, _, rfl, _⟩ := h; rfl) | (obtain ⟨_, _, _, _, rfl, _⟩ := h; rfl) | (obtain ⟨_, _, _, _, _, rfl, _⟩ := h; rfl) | (obtain ⟨_, _, _, _, _, _, rfl, _⟩ := h; rfl) | (obtain ⟨_, _, _, _, _, _, _, rfl, _⟩ := h; rfl) | (obtain ⟨_, _, _, _, _, _, _, _, rfl, _⟩ := h; rfl) | (obtain ⟨_, _, _, _, _, _, _, _, _, rfl, _⟩ := h; rfl) | (obtain ⟨_, _, _, _, _, _, _, _, _, _, rfl, _⟩ := h; rfl) | (obtain ⟨_, _, _, _, _, _, _, _, _, _, _, rfl, _⟩ := h; rfl) | (obtain ⟨_, _, _, _, _, _, _, _, _, _, _, _, rfl, _⟩ := h; rfl) | (obtain ⟨_, _, _, _, _, _, _, _, _, _, _, _, _, rfl, _⟩ := h; rfl) | (obtain ⟨_, _, _, _, _, _, _, _, _, _, _, _, _, _, rfl, _⟩ := h; rfl)) (fun cdv A outer s H vs Q E hr h => ?_)
  obtain ⟨s, c, B, z, k, rw, rfl, hB, hS, hc, hk, q⟩ := h
  have q' := ro hB hS q
  obtain ⟨_, dx, r, d, pl, ru, ps, rs, hs, I, hz, hp1, _, _⟩ := hS.out
  obtain ⟨dc, na, ra, c1, c2, c3⟩ := hc.same hB
  refine ⟨_, (pss_one (ps_ret (C8.pe_c c_judged hr (by decide) (by rfl) (pa_cons (C8.pe_c c_nobody_joins hr (by decide) (by rfl) (pa_cons (pe_fld (pv 0) rfl) (pa_cons (pe_ix ix_list (pe_fld (pv 1) rfl) pe_int (fun _ _ => rfl)) pa_nil))) pa_nil)))), ?_⟩
  refine ⟨_, rfl, s, _, dx, _, _, rfl, hs, T.c_Session, T.a_room, lSession, _, rfl, c, _, dc, _, _, rfl, c1, T.c_Call, T.a_numbers, lCall2, na, _, _, _, rfl, rfl, SqL.of c2, atI_nat (j := 0) rfl, ?_⟩
  exact ⟨r, k, z, rfl, ⟨d, pl, ru, ps, rs, I⟩, hz.wf hp1, ev_lt hk, fun H1 s1 => ⟨_, rfl, fun H2 a s2 ha e => q' H2 a (s1.trans s2) (s1.free ha) e (by show 2 ≤ 100000; decide)⟩⟩
def sp_is_sufficient (K : PySem.W.Frag) : Sp := sp_coal K 6 fun z k => [0, flag (Vbndam.isSufficient z k)]
theorem ok_is_sufficient {f : Addr} {fd : FuncData} (T : Txt K mg) (F : FnP K "is_sufficient" "is_sufficient" s_is_sufficient f fd) (hm : mg "is_sufficient" = some (.ref f)) (c_judged : C8.Cal P w K mg base 1 "judged" (sp_judged K) []) (c_suffices : C8.Cal P w K mg base 5 "suffices" (sp_suffices K) []) :
    C8.Cal P w K mg base 6 "is_sufficient" (sp_is_sufficient K) [] := by
  refine calMk F hm (F.bindsN (ps := ["session", "call"]) fun _ _ _ _ _ _ us hl => match us, hl with | [_, _], _ => rfl) sc_is_sufficient (fun vs H Q E h => by first | (obtain ⟨rfl, _⟩ := h; rfl) | (obtain ⟨_, rfl, _⟩ := h; rfl) | (obtain ⟨_, _, rfl, _⟩ := h; rfl) | (obtain ⟨_, _, _, rfl, _⟩ := h; rfl) | (obtain ⟨_, _, _, _, rfl, _⟩ := h; rfl) | (obtain ⟨_, _, _, _, _, rfl, _⟩ := h; rfl) | (obtain ⟨_, _, _, _, _, _, rfl, _⟩ := h; rfl) | (obtain ⟨_, _, _, _, _, _, _, rfl, _⟩ := h; rfl) | (obtain ⟨_, _, _, _, _, _, _, _, rfl, _⟩ := h; rfl) | (obtain ⟨_, _, _, _, _, _, _, _, _, rfl, _⟩ := h; rfl) | (obtain ⟨_, _, _, _, _, _, _, _, _, _, rfl, _⟩ := h; rfl) | (obtain ⟨_, _, _, _, _, _, _, _, _, _, _, rfl, _⟩ := h; rfl) | (obtain ⟨_, _, _, _, _, _, _, _, _, _, _, _, rfl, _⟩ := h; rfl) | (obtain ⟨_, _, _, _, _, _, _, _, _, _, _, _, _, rfl, _⟩ := h; rfl) | (obtain ⟨_, _, _, _, _, _, _, _, _, _, _, _, _, _, rfl, _⟩ := h; rfl)) (fun cdv A outer s H vs Q E hr h => ?_)
  obtain ⟨s, c, B, z, k, rw, rfl, hB, hS, hc, hk, q⟩ := h
  have q' := ro hB hS q
  obtain ⟨_, dx, r, d, pl, ru, ps, rs, hs, I, hz, hp1, _, _⟩ := hS.out
  obtain ⟨dc, na, ra, c1, c2, c3⟩ := hc.same hB
  refine ⟨_, (pss_one (ps_ret (C8.pe_c c_judged hr (by decide) (by rfl) (pa_cons (C8.pe_c c_suffices hr (by decide) (by rfl) (pa_cons (pe_fld (pv 0) rfl) (pa_cons (pe_ix ix_list (pe_fld (pv 1) rfl) pe_int (fun _ _ => rfl)) pa_nil))) pa_nil)))), ?_⟩
  refine ⟨_, rfl, s, _, dx, _, _, rfl, hs, T.c_Session, T.a_room, lSession, _, rfl, c, _, dc, _, _, rfl, c1, T.c_Call, T.a_numbers, lCall2, na, _, _, _, rfl, rfl, SqL.of c2, atI_nat (j := 0) rfl, ?_⟩
  exact ⟨r, k, z, rfl, ⟨d, pl, ru, ps, rs, I⟩, hz.wf hp1, ev_lt hk, fun H1 s1 => ⟨_, rfl, fun H2 a s2 ha e => q' H2 a (s1.trans s2) (s1.free ha) e (by show 2 ≤ 100000; decide)⟩⟩
def sp_is_blocking (K : PySem.W.Frag) : Sp := sp_coal K 7 fun z k => [0, flag (Vbndam.isBlocking z k)]
theorem ok_is_blocking {f : Addr} {fd : FuncData} (T : Txt K mg) (F : FnP K "is_blocking" "is_blocking" s_is_blocking f fd) (hm : mg "is_blocking" = some (.ref f)) (c_judged : C8.Cal P w K mg base 1 "judged" (sp_judged K) []) (c_blocks : C8.Cal P w K mg base 6 "blocks" (sp_blocks K) []) :
    C8.Cal P w K mg base 7 "is_blocking" (sp_is_blocking K) [] := by
  refine calMk F hm (F.bindsN (ps := ["session", "call"]) fun _ _ _ _ _ _ us hl => match us, hl with | [_, _], _ => rfl) sc_is_blocking (fun vs H Q E h => by first | (obtain ⟨rfl, _⟩ := h; rfl) | (obtain ⟨_, rfl, _⟩ := h; rfl) | (obtain ⟨_, _, rfl, _⟩ := h; rfl) | (obtain ⟨_, _, _, rfl, _⟩ := h; rfl) | (obtain ⟨_, _, _, _, rfl, _⟩ := h; rfl) | (obtain ⟨_, _, _, _, _, rfl, _⟩ := h; rfl) | (obtain ⟨_, _, _, _, _, _, rfl, _⟩ := h; rfl) | (obtain ⟨_, _, _, _, _, _, _, rfl, _⟩ := h; rfl) | (obtain ⟨_, _, _, _, _, _, _, _, rfl, _⟩ := h; rfl) | (obtain ⟨_, _, _, _, _, _, _, _, _, rfl, _⟩ := h; rfl) | (obtain ⟨_, _, _, _, _, _, _, _, _, _, rfl, _⟩ := h; rfl) | (obtain ⟨_, _, _, _, _, _, _, _, _, _, _, rfl, _⟩ := h; rfl) | (obtain ⟨_, _, _, _, _, _, _, _, _, _, _, _, rfl, _⟩ := h; rfl) | (obtain ⟨_, _, _, _, _, _, _, _, _, _, _, _, _, rfl, _⟩ := h; rfl) | (obtain ⟨_, _, _, _, _, _, _, _, _, _, _, _, _, _, rfl, _⟩ := h; rfl)) (fun cdv A outer s H vs Q E hr h => ?_)
  obtain ⟨s, c, B, z, k, rw, rfl, hB, hS, hc, hk, q⟩ := h
  have q' := ro hB hS q
  obtain ⟨_, dx, r, d, pl, ru, ps, rs, hs, I, hz, hp1, _, _⟩ := hS.out
  obtain ⟨dc, na, ra, c1, c2, c3⟩ := hc.same hB
  refine ⟨_, (pss_one (ps_ret (C8.pe_c c_judged hr (by decide) (by rfl) (pa_cons (C8.pe_c c_blocks hr (by decide) (by rfl) (pa_cons (pe_fld (pv 0) rfl) (pa_cons (pe_ix ix_list (pe_fld (pv 1) rfl) pe_int (fun _ _ => rfl)) pa_nil))) pa_nil)))), ?_⟩
  refine ⟨_, rfl, s, _, dx, _, _, rfl, hs, T.c_Session, T.a_room, lSession, _, rfl, c, _, dc, _, _, rfl, c1, T.c_Call, T.a_numbers, lCall2, na, _, _, _, rfl, rfl, SqL.of c2, atI_nat (j := 0) rfl, ?_⟩
  exact ⟨r, k, z, rfl, ⟨d, pl, ru, ps, rs, I⟩, hz.wf hp1, ev_lt hk, fun H1 s1 => ⟨_, rfl, fun H2 a s2 ha e => q' H2 a (s1.trans s2) (s1.free ha) e (by show 2 ≤ 100000; decide)⟩⟩
def sp_print_room (K : PySem.W.Frag) : Sp := sp_rm K fun z => 0 :: withLength (Vbndam.printRoom z)
theorem ok_print_room {f : Addr} {fd : FuncData} (T : Txt K mg) (F : FnP K "print_room" "print_room" s_print_room f fd) (hm : mg "print_room" = some (.ref f)) (c_listed : C8.Cal P w K mg base 1 "listed" (sp_listed K) []) (c_canonical_codes : C8.Cal P w K mg base 2 "canonical_codes" (sp_canonical_codes K) []) :
    C8.Cal P w K mg base 3 "print_room" (sp_print_room K) [] := by
  refine calMk F hm (F.bindsN (ps := ["session", "call"]) fun _ _ _ _ _ _ us hl => match us, hl with | [_, _], _ => rfl) sc_print_room (fun vs H Q E h => by first | (obtain ⟨rfl, _⟩ := h; rfl) | (obtain ⟨_, rfl, _⟩ := h; rfl) | (obtain ⟨_, _, rfl, _⟩ := h; rfl) | (obtain ⟨_, _, _, rfl, _⟩ := h; rfl) | (obtain ⟨_, _, _, _, rfl, _⟩ := h; rfl) | (obtain ⟨_, _, _, _, _, rfl, _⟩ := h; rfl) | (obtain ⟨_, _, _, _, _, _, rfl, _⟩ := h; rfl) | (obtain ⟨_, _, _, _, _, _, _, rfl, _⟩ := h; rfl) | (obtain ⟨_, _, _, _, _, _, _, _, rfl, _⟩ := h; rfl) | (obtain ⟨_, _, _, _, _, _, _, _, _, rfl, _⟩ := h; rfl) | (obtain ⟨_, _, _, _, _, _, _, _, _, _, rfl, _⟩ := h; rfl) | (obtain ⟨_, _, _, _, _, _, _, _, _, _, _, rfl, _⟩ := h; rfl) | (obtain ⟨_, _, _, _, _, _, _, _, _, _, _, _, rfl, _⟩ := h; rfl) | (obtain ⟨_, _, _, _, _, _, _, _, _, _, _, _, _, rfl, _⟩ := h; rfl) | (obtain ⟨_, _, _, _, _, _, _, _, _, _, _, _, _, _, rfl, _⟩ := h; rfl)) (fun cdv A outer s H vs Q E hr h => ?_)
  obtain ⟨s, c, B, z, rfl, hB, hS, q⟩ := h
  have q' := ro hB hS q
  obtain ⟨_, dx, r, d, pl, ru, ps, rs, hs, I, hz, hp1, _, _⟩ := hS.out
  refine ⟨_, (pss_one (ps_ret (C8.pe_c c_listed hr (by decide) (by rfl) (pa_cons (C8.pe_c c_canonical_codes hr (by decide) (by rfl) (pa_cons (pe_fld (pv 0) rfl) pa_nil)) pa_nil)))), ?_⟩
  refine ⟨_, rfl, s, _, dx, _, _, rfl, hs, T.c_Session, T.a_room, lSession, ?_⟩
  refine ⟨r, z, rfl, ⟨d, pl, ru, ps, rs, I⟩, hz.wf hp1, hz.nm, fun H1 p1 s1 hp1' e1 hl => ⟨p1, _, rfl, e1, by omega, fun H2 a s2 ha e2 => ?_⟩⟩
  refine q' H2 a (s1.trans s2) (s1.free ha) e2 ?_
  show (withLength _).length + 1 ≤ _
  rw [withLength_len]
  omega
theorem minof_len (fl : List Bool) (h : fl.length ≤ 256) : (minOfFlags fl).length ≤ 256 := by
  unfold minOfFlags
  exact Nat.le_trans (List.length_filter_le ..) (by rw [List.length_range]; exact h)
def sp_minimal_sufficient (K : PySem.W.Frag) : Sp := sp_rm K fun z => 0 :: withLength (Vbndam.minimalSufficient z)
theorem ok_minimal_sufficient {f : Addr} {fd : FuncData} (T : Txt K mg) (F : FnP K "minimal_sufficient" "minimal_sufficient" s_minimal_sufficient f fd) (hm : mg "minimal_sufficient" = some (.ref f)) (c_listed : C8.Cal P w K mg base 1 "listed" (sp_listed K) []) (c_minimal_coalitions : C8.Cal P w K mg base 2 "minimal_coalitions" (sp_minimal_coalitions K) []) (c_sufficient_flags : C8.Cal P w K mg base 4 "sufficient_flags" (sp_sufficient_flags K) []) :
    C8.Cal P w K mg base 5 "minimal_sufficient" (sp_minimal_sufficient K) [] := by
  refine calMk F hm (F.bindsN (ps := ["session", "call"]) fun _ _ _ _ _ _ us hl => match us, hl with | [_, _], _ => rfl) sc_minimal_sufficient (fun vs H Q E h => by first | (obtain ⟨rfl, _⟩ := h; rfl) | (obtain ⟨_, rfl, _⟩ := h; rfl) | (obtain ⟨_, _, rfl, _⟩ := h; rfl) | (obtain ⟨_, _, _, rfl, _⟩ := h; rfl) | (obtain ⟨_, _, _, _, rfl, _⟩ := h; rfl) | (obtain ⟨_, _, _, _, _, rfl, _⟩ := h; rfl) | (obtain ⟨_, _, _, _, _, _, rfl, _⟩ := h; rfl) | (obtain ⟨_, _, _, _, _, _, _, rfl, _⟩ := h; rfl) | (obtain ⟨_, _, _, _, _, _, _, _, rfl, _⟩ := h; rfl) | (obtain ⟨_, _, _, _, _, _, _, _, _, rfl, _⟩ := h; rfl) | (obtain ⟨_, _, _, _, _, _, _, _, _, _, rfl, _⟩ := h; rfl) | (obtain ⟨_, _, _, _, _, _, _, _, _, _, _, rfl, _⟩ := h; rfl) | (obtain ⟨_, _, _, _, _, _, _, _, _, _, _, _, rfl, _⟩ := h; rfl) | (obtain ⟨_, _, _, _, _, _, _, _, _, _, _, _, _, rfl, _⟩ := h; rfl) | (obtain ⟨_, _, _, _, _, _, _, _, _, _, _, _, _, _, rfl, _⟩ := h; rfl)) (fun cdv A outer s H vs Q E hr h => ?_)
  obtain ⟨s, c, B, z, rfl, hB, hS, q⟩ := h
  have q' := ro hB hS q
  obtain ⟨_, dx, r, d, pl, ru, ps, rs, hs, I, hz, hp1, _, _⟩ := hS.out
  have wz := hz.wf hp1
  refine ⟨_, (pss_one (ps_ret (C8.pe_c c_listed hr (by decide) (by rfl) (pa_cons (C8.pe_c c_minimal_coalitions hr (by decide) (by rfl) (pa_cons (C8.pe_c c_sufficient_flags hr (by decide) (by rfl) (pa_cons (pe_fld (pv 0) rfl) pa_nil)) pa_nil)) pa_nil)))), ?_⟩
  refine ⟨_, rfl, s, _, dx, _, _, rfl, hs, T.c_Session, T.a_room, lSession, ?_⟩
  have hfl : (flagsOf z (Vbndam.isSufficient z)).length ≤ 256 := by rw [flagsOf_len]; exact pow256 wz
  have hml := minof_len _ hfl
  refine ⟨r, z, rfl, ⟨d, pl, ru, ps, rs, I⟩, wz, fun H1 p1 s1 hp1' e1 => ⟨p1, _, rfl, e1, hfl, fun H2 p2 s2 hp2 e2 => ?_⟩⟩
  rw [minimal_eq wz] at e2 hml
  refine ⟨p2, _, rfl, e2, by show (Vbndam.minimalCoalitions z _).length ≤ _; omega, fun H3 a s3 ha e3 => q' H3 a ((s1.trans s2).trans s3) (s1.free (s2.free ha)) e3 ?_⟩
  show (withLength (Vbndam.minimalCoalitions z _)).length + 1 ≤ _
  rw [withLength_len]
  omega
def sp_minimal_blocking (K : PySem.W.Frag) : Sp := sp_rm K fun z => 0 :: withLength (Vbndam.minimalBlocking z)
theorem ok_minimal_blocking {f : Addr} {fd : FuncData} (T : Txt K mg) (F : FnP K "minimal_blocking" "minimal_blocking" s_minimal_blocking f fd) (hm : mg "minimal_blocking" = some (.ref f)) (c_listed : C8.Cal P w K mg base 1 "listed" (sp_listed K) []) (c_minimal_coalitions : C8.Cal P w K mg base 2 "minimal_coalitions" (sp_minimal_coalitions K) []) (c_blocking_flags : C8.Cal P w K mg base 5 "blocking_flags" (sp_blocking_flags K) []) :
    C8.Cal P w K mg base 6 "minimal_blocking" (sp_minimal_blocking K) [] := by
  refine calMk F hm (F.bindsN (ps := ["session", "call"]) fun _ _ _ _ _ _ us hl => match us, hl with | [_, _], _ => rfl) sc_minimal_blocking (fun vs H Q E h => by first | (obtain ⟨rfl, _⟩ := h; rfl) | (obtain ⟨_, rfl, _⟩ := h; rfl) | (obtain ⟨_, _, rfl, _⟩ := h; rfl) | (obtain ⟨_, _, _, rfl, _⟩ := h; rfl) | (obtain ⟨_, _, _, _, rfl, _⟩ := h; rfl) | (obtain ⟨_, _, _, _, _, rfl, _⟩ := h; rfl) | (obtain ⟨_, _, _, _, _, _, rfl, _⟩ := h; rfl) | (obtain ⟨_, _, _, _, _, _, _, rfl, _⟩ := h; rfl) | (obtain ⟨_, _, _, _, _, _, _, _, rfl, _⟩ := h; rfl) | (obtain ⟨_, _, _, _, _, _, _, _, _, rfl, _⟩ := h; rfl) | (obtain ⟨_, _, _, _, _, _, _, _, _, _, rfl, _⟩ := h; rfl) | (obtain ⟨_, _, _, _, _, _, _, _, _, _, _, rfl, _⟩ := h; rfl) | (obtain ⟨_, _, _, _, _, _, _, _, _, _, _, _, rfl, _⟩ := h; rfl) | (obtain ⟨_, _, _, _, _, _, _, _, _, _, _, _, _, rfl, _⟩ := h; rfl) | (obtain ⟨_, _, _, _, _, _, _, _, _, _, _, _, _, _, rfl, _⟩ := h; rfl)) (fun cdv A outer s H vs Q E hr h => ?_)
  obtain ⟨s, c, B, z, rfl, hB, hS, q⟩ := h
  have q' := ro hB hS q
  obtain ⟨_, dx, r, d, pl, ru, ps, rs, hs, I, hz, hp1, _, _⟩ := hS.out
  have wz := hz.wf hp1
  refine ⟨_, (pss_one (ps_ret (C8.pe_c c_listed hr (by decide) (by rfl) (pa_cons (C8.pe_c c_minimal_coalitions hr (by decide) (by rfl) (pa_cons (C8.pe_c c_blocking_flags hr (by decide) (by rfl) (pa_cons (pe_fld (pv 0) rfl) pa_nil)) pa_nil)) pa_nil)))), ?_⟩
  refine ⟨_, rfl, s, _, dx, _, _, rfl, hs, T.c_Session, T.a_room, lSession, ?_⟩
  have hfl : (flagsOf z (Vbndam.isBlocking z)).length ≤ 256 := by rw [flagsOf_len]; exact pow256 wz
  have hml := minof_len _ hfl
  refine ⟨r, z, rfl, ⟨d, pl, ru, ps, rs, I⟩, wz, fun H1 p1 s1 hp1' e1 => ⟨p1, _, rfl, e1, hfl, fun H2 p2 s2 hp2 e2 => ?_⟩⟩
  rw [minimal_eq wz] at e2 hml
  refine ⟨p2, _, rfl, e2, by show (Vbndam.minimalCoalitions z _).length ≤ _; omega, fun H3 a s3 ha e3 => q' H3 a ((s1.trans s2).trans s3) (s1.free (s2.free ha)) e3 ?_⟩
  show (withLength (Vbndam.minimalCoalitions z _)).length + 1 ≤ _
  rw [withLength_len]
  omega
def sp_minimal_returns (K : PySem.W.Frag) : Sp := sp_coal K 12 fun z k => 0 :: withLength (Vbndam.minimalReturns z k)
theorem ok_minimal_returns {f : Addr} {fd : FuncData} (T : Txt K mg) (F : FnP K "minimal_returns" "minimal_returns" s_minimal_returns f fd) (hm : mg "minimal_returns" = some (.ref f)) (c_listed : C8.Cal P w K mg base 1 "listed" (sp_listed K) []) (c_minimal_coalitions : C8.Cal P w K mg base 2 "minimal_coalitions" (sp_minimal_coalitions K) []) (c_return_flags : C8.Cal P w K mg base 5 "return_flags" (sp_return_flags K) []) :
    C8.Cal P w K mg base 6 "minimal_returns" (sp_minimal_returns K) [] := by
  refine calMk F hm (F.bindsN (ps := ["session", "call"]) fun _ _ _ _ _ _ us hl => match us, hl with | [_, _], _ => rfl) sc_minimal_returns (fun vs H Q E h => by first | (obtain ⟨rfl, _⟩ := h; rfl) | (obtain ⟨_, rfl, _⟩ := h; rfl) | (obtain ⟨_, _, rfl, _⟩ := h; rfl) | (obtain ⟨_, _, _, rfl, _⟩ := h; rfl) | (obtain ⟨_, _, _, _, rfl, _⟩ := h; rfl) | (obtain ⟨_, _, _, _, _, rfl, _⟩ := h; rfl) | (obtain ⟨_, _, _, _, _, _, rfl, _⟩ := h; rfl) | (obtain ⟨_, _, _, _, _, _, _, rfl, _⟩ := h; rfl) | (obtain ⟨_, _, _, _, _, _, _, _, rfl, _⟩ := h; rfl) | (obtain ⟨_, _, _, _, _, _, _, _, _, rfl, _⟩ := h; rfl) | (obtain ⟨_, _, _, _, _, _, _, _, _, _, rfl, _⟩ := h; rfl) | (obtain ⟨_, _, _, _, _, _, _, _, _, _, _, rfl, _⟩ := h; rfl) | (obtain ⟨_, _, _, _, _, _, _, _, _, _, _, _, rfl, _⟩ := h; rfl) | (obtain ⟨_, _, _, _, _, _, _, _, _, _, _, _, _, rfl, _⟩ := h; rfl) | (obtain ⟨_, _, _, _, _, _, _, _, _, _, _, _, _, _, rfl, _⟩ := h; rfl)) (fun cdv A outer s H vs Q E hr h => ?_)
  obtain ⟨s, c, B, z, k, rw, rfl, hB, hS, hc, hk, q⟩ := h
  have q' := ro hB hS q
  obtain ⟨_, dx, r, d, pl, ru, ps, rs, hs, I, hz, hp1, _, _⟩ := hS.out
  obtain ⟨dc, na, ra, c1, c2, c3⟩ := hc.same hB
  have wz := hz.wf hp1
  refine ⟨_, (pss_one (ps_ret (C8.pe_c c_listed hr (by decide) (by rfl) (pa_cons (C8.pe_c c_minimal_coalitions hr (by decide) (by rfl) (pa_cons (C8.pe_c c_return_flags hr (by decide) (by rfl) (pa_cons (pe_fld (pv 0) rfl) (pa_cons (pe_ix ix_list (pe_fld (pv 1) rfl) pe_int (fun _ _ => rfl)) pa_nil))) pa_nil)) pa_nil)))), ?_⟩
  refine ⟨_, rfl, s, _, dx, _, _, rfl, hs, T.c_Session, T.a_room, lSession, _, rfl, c, _, dc, _, _, rfl, c1, T.c_Call, T.a_numbers, lCall2, na, _, _, _, rfl, rfl, SqL.of c2, atI_nat (j := 0) rfl, ?_⟩
  have hfl : (flagsOf z fun o => (o &&& k == 0) && Vbndam.isSufficient z (o ||| k)).length ≤ 256 := by rw [flagsOf_len]; exact pow256 wz
  have hml := minof_len _ hfl
  refine ⟨r, k, z, rfl, ⟨d, pl, ru, ps, rs, I⟩, wz, ev_lt hk, fun H1 p1 s1 hp1' e1 => ⟨p1, _, rfl, e1, hfl, fun H2 p2 s2 hp2 e2 => ?_⟩⟩
  rw [returns_eq wz] at e2 hml
  refine ⟨p2, _, rfl, e2, by omega, fun H3 a s3 ha e3 => q' H3 a ((s1.trans s2).trans s3) (s1.free (s2.free ha)) e3 ?_⟩
  show (withLength (Vbndam.minimalReturns z k)).length + 1 ≤ _
  rw [withLength_len]
  omega
def sp_sufficient_counts (K : PySem.W.Frag) : Sp := sp_rm K fun z => 0 :: withLength ((List.range (Vbndam.playerCount z + 1)).map (Vbndam.sufficientCountOfSize z))
theorem ok_sufficient_counts {f : Addr} {fd : FuncData} (T : Txt K mg) (F : FnP K "sufficient_counts" "sufficient_counts" s_sufficient_counts f fd) (hm : mg "sufficient_counts" = some (.ref f)) (c_listed : C8.Cal P w K mg base 1 "listed" (sp_listed K) []) (c_counts_by_size : C8.Cal P w K mg base 6 "counts_by_size" (sp_counts_by_size K) []) :
    C8.Cal P w K mg base 7 "sufficient_counts" (sp_sufficient_counts K) [] := by
  refine calMk F hm (F.bindsN (ps := ["session", "call"]) fun _ _ _ _ _ _ us hl => match us, hl with | [_, _], _ => rfl) sc_sufficient_counts (fun vs H Q E h => by first | (obtain ⟨rfl, _⟩ := h; rfl) | (obtain ⟨_, rfl, _⟩ := h; rfl) | (obtain ⟨_, _, rfl, _⟩ := h; rfl) | (obtain ⟨_, _, _, rfl, _⟩ := h; rfl) | (obtain ⟨_, _, _, _, rfl, _⟩ := h; rfl) | (obtain ⟨_, _, _, _, _, rfl, _⟩ := h; rfl) | (obtain ⟨_, _, _, _, _, _, rfl, _⟩ := h; rfl) | (obtain ⟨_, _, _, _, _, _, _, rfl, _⟩ := h; rfl) | (obtain ⟨_, _, _, _, _, _, _, _, rfl, _⟩ := h; rfl) | (obtain ⟨_, _, _, _, _, _, _, _, _, rfl, _⟩ := h; rfl) | (obtain ⟨_, _, _, _, _, _, _, _, _, _, rfl, _⟩ := h; rfl) | (obtain ⟨_, _, _, _, _, _, _, _, _, _, _, rfl, _⟩ := h; rfl) | (obtain ⟨_, _, _, _, _, _, _, _, _, _, _, _, rfl, _⟩ := h; rfl) | (obtain ⟨_, _, _, _, _, _, _, _, _, _, _, _, _, rfl, _⟩ := h; rfl) | (obtain ⟨_, _, _, _, _, _, _, _, _, _, _, _, _, _, rfl, _⟩ := h; rfl)) (fun cdv A outer s H vs Q E hr h => ?_)
  obtain ⟨s, c, B, z, rfl, hB, hS, q⟩ := h
  have q' := ro hB hS q
  obtain ⟨_, dx, r, d, pl, ru, ps, rs, hs, I, hz, hp1, _, _⟩ := hS.out
  have wz := hz.wf hp1
  have h8 : Vbndam.playerCount z ≤ 8 := wz.le8
  refine ⟨_, (pss_one (ps_ret (C8.pe_c c_listed hr (by decide) (by rfl) (pa_cons (C8.pe_c c_counts_by_size hr (by decide) (by rfl) (pa_cons (pe_fld (pv 0) rfl) pa_nil)) pa_nil)))), ?_⟩
  refine ⟨_, rfl, s, _, dx, _, _, rfl, hs, T.c_Session, T.a_room, lSession, ?_⟩
  have hl : ((List.range (Vbndam.playerCount z + 1)).map (Vbndam.sufficientCountOfSize z)).length ≤ 9 := by rw [List.length_map, List.length_range]; omega
  refine ⟨r, z, rfl, ⟨d, pl, ru, ps, rs, I⟩, wz, fun H1 p1 s1 hp1' e1 => ⟨p1, _, rfl, e1, by omega, fun H2 a s2 ha e2 => q' H2 a (s1.trans s2) (s1.free ha) e2 ?_⟩⟩
  show (withLength _).length + 1 ≤ _
  rw [withLength_len]
  omega
def sp_cheapest_sufficient (K : PySem.W.Frag) : Sp := sp_rm K fun z => 0 :: toInts [Vbndam.coalitionWeight z (Vbndam.cheapestSufficient z), Vbndam.cheapestSufficient z]
theorem ok_cheapest_sufficient {f : Addr} {fd : FuncData} (T : Txt K mg) (F : FnP K "cheapest_sufficient" "cheapest_sufficient" s_cheapest_sufficient f fd) (hm : mg "cheapest_sufficient" = some (.ref f)) (c_cheapest : C8.Cal P w K mg base 6 "cheapest" (sp_cheapest K) []) :
    C8.Cal P w K mg base 7 "cheapest_sufficient" (sp_cheapest_sufficient K) [] := by
  refine calMk F hm (F.bindsN (ps := ["session", "call"]) fun _ _ _ _ _ _ us hl => match us, hl with | [_, _], _ => rfl) sc_cheapest_sufficient (fun vs H Q E h => by first | (obtain ⟨rfl, _⟩ := h; rfl) | (obtain ⟨_, rfl, _⟩ := h; rfl) | (obtain ⟨_, _, rfl, _⟩ := h; rfl) | (obtain ⟨_, _, _, rfl, _⟩ := h; rfl) | (obtain ⟨_, _, _, _, rfl, _⟩ := h; rfl) | (obtain ⟨_, _, _, _, _, rfl, _⟩ := h; rfl) | (obtain ⟨_, _, _, _, _, _, rfl, _⟩ := h; rfl) | (obtain ⟨_, _, _, _, _, _, _, rfl, _⟩ := h; rfl) | (obtain ⟨_, _, _, _, _, _, _, _, rfl, _⟩ := h; rfl) | (obtain ⟨_, _, _, _, _, _, _, _, _, rfl, _⟩ := h; rfl) | (obtain ⟨_, _, _, _, _, _, _, _, _, _, rfl, _⟩ := h; rfl) | (obtain ⟨_, _, _, _, _, _, _, _, _, _, _, rfl, _⟩ := h; rfl) | (obtain ⟨_, _, _, _, _, _, _, _, _, _, _, _, rfl, _⟩ := h; rfl) | (obtain ⟨_, _, _, _, _, _, _, _, _, _, _, _, _, rfl, _⟩ := h; rfl) | (obtain ⟨_, _, _, _, _, _, _, _, _, _, _, _, _, _, rfl, _⟩ := h; rfl)) (fun cdv A outer s H vs Q E hr h => ?_)
  obtain ⟨s, c, B, z, rfl, hB, hS, q⟩ := h
  have q' := ro hB hS q
  obtain ⟨_, dx, r, d, pl, ru, ps, rs, hs, I, hz, hp1, _, _⟩ := hS.out
  have wz := hz.wf hp1
  refine ⟨_, (pss_one (ps_ret (pe_op op_cat (pe_lst (pa_cons pe_int pa_nil)) (pe_callTy call_list_of (by rfl) T.n_list (by decide +kernel) (pa_cons (C8.pe_c c_cheapest hr (by decide) (by rfl) (pa_cons (pe_fld (pv 0) rfl) pa_nil)) pa_nil))))), ?_⟩
  refine ⟨by show 1 ≤ sizeLine; decide, fun p0 hp0 => ?_⟩
  have s0 := sameUpd (o := .lst [V.int 0]) hp0
  refine ⟨_, rfl, s, _, dx, _, _, rfl, s0 _ _ hs, T.c_Session, T.a_room, lSession, ?_⟩
  refine ⟨r, z, rfl, ⟨d, pl, ru, ps, rs, I.same s0⟩, wz, fun H1 t s1 et => ⟨t, _, rfl, .inr (SqT.of et), fun l hl => ?_⟩⟩
  have s2 := sameUpd (o := .lst [V.int (Vbndam.coalitionWeight z (Vbndam.cheapestSufficient z) : Nat), V.int (Vbndam.cheapestSufficient z : Nat)]) hl
  refine ⟨p0, l, _, _, rfl, rfl, s2 _ _ (s1 _ _ upd_same), upd_same, by show 1 + 2 ≤ sizeLine; decide, fun a ha => ?_⟩
  have s02 := (s0.trans s1).trans s2
  refine q' _ a (s02.trans (sameUpd ha)) (s02.free ha) ?_ (by show 3 ≤ 100000; decide)
  rw [upd_same]
  rfl
def sp_summary (K : PySem.W.Frag) : Sp := sp_rm K fun z => 0 :: toInts [Vbndam.playerCount z, z.rules.length, Vbndam.coalitionWeight z (Vbndam.everyone z)]
theorem ok_summary {f : Addr} {fd : FuncData} (T : Txt K mg) (F : FnP K "summary" "summary" s_summary f fd) (hm : mg "summary" = some (.ref f)) (c_total_weight : C8.Cal P w K mg base 3 "total_weight" (sp_total_weight K) []) :
    C8.Cal P w K mg base 4 "summary" (sp_summary K) [] := by
  refine calMk F hm (F.bindsN (ps := ["session", "call"]) fun _ _ _ _ _ _ us hl => match us, hl with | [_, _], _ => rfl) sc_summary (fun vs H Q E h => by first | (obtain ⟨rfl, _⟩ := h; rfl) | (obtain ⟨_, rfl, _⟩ := h; rfl) | (obtain ⟨_, _, rfl, _⟩ := h; rfl) | (obtain ⟨_, _, _, rfl, _⟩ := h; rfl) | (obtain ⟨_, _, _, _, rfl, _⟩ := h; rfl) | (obtain ⟨_, _, _, _, _, rfl, _⟩ := h; rfl) | (obtain ⟨_, _, _, _, _, _, rfl, _⟩ := h; rfl) | (obtain ⟨_, _, _, _, _, _, _, rfl, _⟩ := h; rfl) | (obtain ⟨_, _, _, _, _, _, _, _, rfl, _⟩ := h; rfl) | (obtain ⟨_, _, _, _, _, _, _, _, _, rfl, _⟩ := h; rfl) | (obtain ⟨_, _, _, _, _, _, _, _, _, _, rfl, _⟩ := h; rfl) | (obtain ⟨_, _, _, _, _, _, _, _, _, _, _, rfl, _⟩ := h; rfl) | (obtain ⟨_, _, _, _, _, _, _, _, _, _, _, _, rfl, _⟩ := h; rfl) | (obtain ⟨_, _, _, _, _, _, _, _, _, _, _, _, _, rfl, _⟩ := h; rfl) | (obtain ⟨_, _, _, _, _, _, _, _, _, _, _, _, _, _, rfl, _⟩ := h; rfl)) (fun cdv A outer s H vs Q E hr h => ?_)
  obtain ⟨s, c, B, z, rfl, hB, hS, q⟩ := h
  have q' := ro hB hS q
  obtain ⟨_, dx, r, d, pl, ru, ps, rs, hs, I, hz, hp1, _, _⟩ := hS.out
  have wz := hz.wf hp1
  refine ⟨_, (pss_cons (ps_set (i := 2) sc_summary.nd rfl (Or.inl rfl) (pe_fld (pv 0) rfl)) (pss_one (ps_ret (pe_lst (pa_cons pe_int (pa_cons (pe_callB call_len_seq (by rfl) T.n_len PySem.boot_len (pa_cons (pe_fld (pv 2) rfl) pa_nil)) (pa_cons (pe_callB call_len_seq (by rfl) T.n_len PySem.boot_len (pa_cons (pe_fld (pv 2) rfl) pa_nil)) (pa_cons (C8.pe_c c_total_weight hr (by decide) (by rfl) (pa_cons (pv 2) pa_nil)) pa_nil)))))))), ?_⟩
  refine ⟨_, rfl, s, _, dx, _, _, rfl, hs, T.c_Session, T.a_room, lSession, ?_⟩
  refine ⟨_, rfl, r, _, d, _, _, rfl, I.at_, T.c_Room, T.a_players, lRoom1, pl, _, rfl, .inl (SqL.of I.pls), _, rfl, r, _, d, _, _, rfl, I.at_, T.c_Room, T.a_rules, lRoom2, ru, _, rfl, .inl (SqL.of I.rls), _, rfl, ?_⟩
  refine ⟨r, z, rfl, ⟨d, pl, ru, ps, rs, I⟩, wz, fun H1 s1 => ⟨by show 4 ≤ sizeLine; decide, fun a ha => ?_⟩⟩
  refine q' _ a (s1.trans (sameUpd ha)) (s1.free ha) ?_ (by show 4 ≤ 100000; decide)
  rw [upd_same, List.length_map, List.length_map, pairedLen I.pAt, pairedLen I.rAt]
  rfl
end
end SI

set_option maxHeartbeats 4000000
namespace SI
open PySem PySem.Spec PyProof.Rows L2
open SX (S)
open Vbndam (toInts withLength flag toPairs toNats)
/-! ### rows -/
theorem pairs_cast : ∀ rw : List Int, (∀ q ∈ pairsI rw, 0 ≤ q.1 ∧ 0 ≤ q.2) → (toPairs (toNats rw)).map castP = pairsI rw
  | [], _ => rfl
  | [_], _ => rfl
  | a :: b :: l, h => by
    have h1 := h (a, b) List.mem_cons_self
    have ih := pairs_cast l fun q hq => h q (List.mem_cons_of_mem _ hq)
    show castP (a.toNat, b.toNat) :: (toPairs (toNats l)).map castP = (a, b) :: pairsI l
    rw [ih]
    unfold castP
    rw [Int.toNat_of_nonneg h1.1, Int.toNat_of_nonneg h1.2]
theorem pairsI_mem : ∀ (rw : List Int) (q : Int × Int), q ∈ pairsI rw → q.1 ∈ rw ∧ q.2 ∈ rw
  | [], _, h => by cases h
  | [_], _, h => by cases h
  | a :: b :: l, q, h => by
    rcases List.mem_cons.mp h with e | e
    · rw [e]; exact ⟨List.mem_cons_self, List.mem_cons_of_mem _ List.mem_cons_self⟩
    · obtain ⟨h1, h2⟩ := pairsI_mem l q e
      exact ⟨List.mem_cons_of_mem _ (List.mem_cons_of_mem _ h1), List.mem_cons_of_mem _ (List.mem_cons_of_mem _ h2)⟩
theorem paired_ok {rw : List Int} (h : pairedFit rw = true) : rw.length ≤ 40 ∧ rw.length % 2 = 0 := by
  unfold pairedFit at h
  rw [Bool.and_eq_true, decide_eq_true_eq, decide_eq_true_eq] at h
  exact ⟨by omega, h.2⟩
theorem steps_ok {rw : List Int} (h : stepsFit rw = true) : pairedFit rw = true ∧ ∀ q ∈ pairsI rw, 0 ≤ q.1 ∧ q.1 ≤ 7 ∧ 1 ≤ q.2 ∧ q.2 ≤ 20 := by
  unfold stepsFit at h
  rw [Bool.and_eq_true] at h
  refine ⟨h.1, fun q hq => ?_⟩
  have := List.all_eq_true.mp h.2 q hq
  rw [Bool.and_eq_true, Bool.and_eq_true, Bool.and_eq_true, decide_eq_true_eq, decide_eq_true_eq, decide_eq_true_eq, decide_eq_true_eq] at this
  exact ⟨this.1.1, this.1.2, this.2.1, this.2.2⟩
theorem pack_ok {rw : List Int} (h : packFit rw = true) : pairedFit rw = true ∧ ∀ q ∈ rw, 0 ≤ q ∧ q ≤ 1000000 := by
  unfold packFit at h
  rw [Bool.and_eq_true] at h
  refine ⟨h.1, fun q hq => ?_⟩
  have := List.all_eq_true.mp h.2 q hq
  rw [Bool.and_eq_true, decide_eq_true_eq, decide_eq_true_eq] at this
  exact this
theorem pack_cast {rw : List Int} (h : packFit rw = true) : (toPairs (toNats rw)).map castP = pairsI rw :=
  pairs_cast rw fun q hq => ⟨((pack_ok h).2 _ (pairsI_mem rw q hq).1).1, ((pack_ok h).2 _ (pairsI_mem rw q hq).2).1⟩
section
variable {P : Program} {w : World} {K : PySem.W.Frag} {mg : Str → Option Value} {base : Heap}
def sp_acting_coalition (K : PySem.W.Frag) : Sp := sp_coal K 3 fun z k => 0 :: (Vbndam.actingCoalition z k : Int) :: ((Vbndam.substitutionSteps z k).length : Int) :: (Vbndam.substitutionSteps z k).flatMap fun x => toInts [x.1, x.2 + 1]
theorem ok_acting_coalition {f : Addr} {fd : FuncData} (T : Txt K mg) (F : FnP K "acting_coalition" "acting_coalition" s_acting_coalition f fd) (hm : mg "acting_coalition" = some (.ref f)) (c_all_steps : C8.Cal P w K mg base 4 "all_steps" (sp_all_steps K) []) (c_joined : C8.Cal P w K mg base 1 "joined" (sp_joined K) []) :
    C8.Cal P w K mg base 5 "acting_coalition" (sp_acting_coalition K) [] := by
  refine calMk F hm (F.bindsN (ps := ["session", "call"]) fun _ _ _ _ _ _ us hl => match us, hl with | [_, _], _ => rfl) sc_acting_coalition (fun vs H Q E h => by first | (obtain ⟨rfl, _⟩ := h; rfl) | (obtain ⟨_, rfl, _⟩ := h; rfl) | (obtain ⟨_, _, rfl, _⟩ := h; rfl) | (obtain ⟨_, _, _, rfl, _⟩ := h; rfl) | (obtain ⟨_, _, _, _, rfl, _⟩ := h; rfl) | (obtain ⟨_, _, _, _, _, rfl, _⟩ := h; rfl) | (obtain ⟨_, _, _, _, _, _, rfl, _⟩ := h; rfl) | (obtain ⟨_, _, _, _, _, _, _, rfl, _⟩ := h; rfl) | (obtain ⟨_, _, _, _, _, _, _, _, rfl, _⟩ := h; rfl) | (obtain ⟨_, _, _, _, _, _, _, _, _, rfl, _⟩ := h; rfl) | (obtain ⟨_, _, _, _, _, _, _, _, _, _, rfl, _⟩ := h; rfl) | (obtain ⟨_, _, _, _, _, _, _, _, _, _, _, rfl, _⟩ := h; rfl) | (obtain ⟨_, _, _, _, _, _, _, _, _, _, _, _, rfl, _⟩ := h; rfl) | (obtain ⟨_, _, _, _, _, _, _, _, _, _, _, _, _, rfl, _⟩ := h; rfl) | (obtain ⟨_, _, _, _, _, _, _, _, _, _, _, _, _, _, rfl, _⟩ := h; rfl)) (fun cdv A outer s H vs Q E hr h => ?_)
  obtain ⟨s, c, B, z, k, rw, rfl, hB, hS, hc, hk, q⟩ := h
  have q' := ro hB hS q
  obtain ⟨_, dx, r, d, pl, ru, ps, rs, hs, I, hz, hp1, _, _⟩ := hS.out
  obtain ⟨dc, na, ra, c1, c2, c3⟩ := hc.same hB
  have wz := hz.wf hp1
  have hlt := ev_lt hk
  refine ⟨_, (pss_cons (ps_set (i := 2) sc_acting_coalition.nd rfl (Or.inl rfl) (pe_ix ix_list (pe_fld (pv 1) rfl) pe_int (fun _ _ => rfl))) (pss_cons (ps_set (i := 3) sc_acting_coalition.nd rfl (Or.inl rfl) (C8.pe_c c_all_steps hr (by decide) (by rfl) (pa_cons (pe_fld (pv 0) rfl) (pa_cons (pv 2) pa_nil)))) (pss_cons (ps_set (i := 4) sc_acting_coalition.nd rfl (Or.inl rfl) (pe_lst (pa_cons pe_int (pa_cons (C8.pe_c c_joined hr (by decide) (by rfl) (pa_cons (pv 2) (pa_cons (pv 3) pa_nil))) (pa_cons (pe_callB call_len_seq (by rfl) T.n_len PySem.boot_len (pa_cons (pv 3) pa_nil)) pa_nil))))) (pss_cons (ps_for PassesOwn.never (by rfl) (pi_list (pv 3)) (pg_name (i := 5) sc_acting_coalition.nd rfl (Or.inl rfl)) (pss_one (ps_expr (pe_bm PySem.F.plainAttrs_list PySem.F.slot_list_extend PySem.F.type_list_extend mt_extend (pv 4) (pa_cons (pe_callTy call_list_of (by rfl) T.n_list (by decide +kernel) (pa_cons (pv 5) pa_nil)) pa_nil))))) (pss_one (ps_ret (pv 4))))))), ?_⟩
  refine ⟨_, rfl, c, _, dc, _, _, rfl, c1, T.c_Call, T.a_numbers, lCall2, na, _, _, _, rfl, rfl, SqL.of c2, atI_nat (j := 0) rfl, ?_⟩
  refine ⟨_, rfl, s, _, dx, _, _, rfl, hs, T.c_Session, T.a_room, lSession, _, rfl, r, k, z, rfl, ⟨d, pl, ru, ps, rs, I⟩, wz, hlt, fun H1 p s1 hp e1 => ?_⟩
  obtain ⟨ts, e2, e3⟩ := id e1
  have hsl : (Vbndam.substitutionSteps z k).length ≤ 64 := by
    have := steps_len wz (Vbndam.playerCount z) k
    have h8 : Vbndam.playerCount z ≤ 8 := wz.le8
    unfold Vbndam.substitutionSteps
    omega
  have hst : bitsOf ((Vbndam.substitutionSteps z k).map (·.1)) k = Vbndam.actingCoalition z k := steps_joined _ _ hlt
  have hle := steps_le wz (Vbndam.playerCount z) k
  refine ⟨_, rfl, _, rfl, k, p, _, rfl, e1, hle, _, rfl, p, _, rfl, .inl (SqL.of e2), by show 3 ≤ sizeLine; decide, fun a ha => ?_⟩
  rw [List.length_map, pairedLen e3, hst]
  have sA : Same H1 (upd H1 a (.lst [V.int 0, V.int (Vbndam.actingCoalition z k : Nat), V.int ((Vbndam.substitutionSteps z k).length : Nat)])) := sameUpd ha
  generalize hH2 : upd H1 a (.lst [V.int 0, V.int (Vbndam.actingCoalition z k : Nat), V.int ((Vbndam.substitutionSteps z k).length : Nat)]) = H2 at sA
  have eA : H2 a = some (.lst (([0, (Vbndam.actingCoalition z k : Int), ((Vbndam.substitutionSteps z k).length : Int)] : List Int).map V.int)) := by rw [← hH2, upd_same]; rfl
  have npa : p ≠ a := ne_of_none e2 ha
  dsimp only at q'
  generalize hSt : Vbndam.substitutionSteps z k = stp at e3 hsl eA q'
  refine ⟨_, rfl, p, rfl, ⟨_, SqL.of (sA _ _ e2)⟩, ?_⟩
  refine for_list (xs := ts.map V.ref) (fun i σ H3 => ∃ y5 : Option V, σ = [some (.ref s), some (.ref c), some (.int (k : Nat)), some (.ref p), some (.ref a), y5] ∧ Keep a H2 H3 ∧ H3 a = some (.lst ((([0, (Vbndam.actingCoalition z k : Int), (stp.length : Int)] : List Int) ++ (stp.take i).flatMap fun x => toInts [x.1, x.2 + 1]).map V.int))) ⟨none, rfl, Keep.refl, eA⟩
    (fun i σ H3 _ h => by obtain ⟨_, _, k3, _⟩ := h; exact SqL.of (k3 _ _ npa (sA _ _ e2))) ?_ ?_
  · rintro i x σ H3 hx ⟨y5, rfl, k3, e4⟩
    rw [List.getElem?_map] at hx
    obtain ⟨t, ht, rfl⟩ := Option.map_eq_some_iff.mp hx
    obtain ⟨y, hy, hT⟩ := pairedGetL e3 ht
    have hT' : H1 t = some (.tup [.int (y.1 : Nat), .int ((y.2 + 1 : Nat) : Nat)]) := hT
    have nta : t ≠ a := ne_of_none hT' ha
    have eT := k3 _ _ nta (sA _ _ hT')
    have hi := walkLenLe hy
    refine ⟨_, rfl, .inl ⟨rfl, _, SqL.of e4⟩, _, rfl, t, _, rfl, .inr (SqT.of eT), fun l hl => ?_⟩
    have s3 := sameUpd (o := .lst [V.int (y.1 : Nat), V.int ((y.2 + 1 : Nat) : Nat)]) hl
    have hfl : ((stp.take i).flatMap fun x => toInts [x.1, x.2 + 1]).length ≤ 2 * i := by
      rw [List.length_flatMap]
      have h2 : ∀ Y : List (Nat × Nat), (Y.map fun x => (toInts [x.1, x.2 + 1]).length).sum = 2 * Y.length := fun Y => by
        induction Y with
        | nil => rfl
        | cons y Y ih =>
          rw [List.map_cons, List.sum_cons, ih, List.length_cons]
          show 2 + _ = _
          omega
      rw [h2, List.length_take]
      omega
    refine ⟨a, l, _, _, rfl, rfl, s3 _ _ e4, upd_same, ?_, some (.ref t), rfl, fun b o hb e => ?_, ?_⟩
    · rw [List.length_map, List.length_append]
      refine sizeI ?_
      show 3 + _ + 2 ≤ _
      omega
    · rw [upd_ne hb]
      exact s3 _ _ (k3 b o hb e)
    · rw [upd_same, takeS hy, List.flatMap_append, ← List.append_assoc, List.map_append (l₂ := List.flatMap _ [y])]
      rfl
  · rintro σ H3 ⟨y5, rfl, k3, e4⟩
    have e5 : stp.take (ts.map V.ref).length = stp := List.take_of_length_le (by rw [List.length_map, pairedLen e3]; exact Nat.le_refl _)
    rw [e5] at e4
    refine ⟨_, rfl, q' H3 a (fun b o e => k3 b o (ne_of_none (s1 _ _ e) ha) (sA _ _ (s1 _ _ e))) (s1.free ha) e4 ?_⟩
    have h2 : ∀ Y : List (Nat × Nat), (Y.flatMap fun x => toInts [x.1, x.2 + 1]).length = 2 * Y.length := fun Y => by
      induction Y with
      | nil => rfl
      | cons y Y ih =>
        rw [List.flatMap_cons, List.length_append, ih, List.length_cons]
        show 2 + _ = _
        omega
    simp only [List.length_cons, h2]
    omega
def sp_check_steps (K : PySem.W.Frag) : Sp := fun vs H Q _ => ∃ (s c : Addr) (B : Hp) (z : Vbndam.Room) (k : Nat) (rw : List Int), vs = [.ref s, .ref c] ∧ Same B H ∧ SessAt K B H s (some z) ∧ CallAt K B c 4 [(k : Int)] rw ∧ k ≤ ev z ∧ stepsFit rw = true ∧ OpR K B s (some z) [0, flag (Vbndam.areStepsValid z k ((toPairs (toNats rw)).map fun x => (x.1, x.2 - 1)))] Q
theorem ok_check_steps {f : Addr} {fd : FuncData} (T : Txt K mg) (F : FnP K "check_steps" "check_steps" s_check_steps f fd) (hm : mg "check_steps" = some (.ref f)) (c_judged : C8.Cal P w K mg base 1 "judged" (sp_judged K) []) (c_steps_hold : C8.Cal P w K mg base 3 "steps_hold" (sp_steps_hold K) []) (c_pairs : C8.Cal P w K mg base 1 "pairs" (sp_pairs K) []) :
    C8.Cal P w K mg base 4 "check_steps" (sp_check_steps K) [] := by
  refine calMk F hm (F.bindsN (ps := ["session", "call"]) fun _ _ _ _ _ _ us hl => match us, hl with | [_, _], _ => rfl) sc_check_steps (fun vs H Q E h => by first | (obtain ⟨rfl, _⟩ := h; rfl) | (obtain ⟨_, rfl, _⟩ := h; rfl) | (obtain ⟨_, _, rfl, _⟩ := h; rfl) | (obtain ⟨_, _, _, rfl, _⟩ := h; rfl) | (obtain ⟨_, _, _, _, rfl, _⟩ := h; rfl) | (obtain ⟨_, _, _, _, _, rfl, _⟩ := h; rfl) | (obtain ⟨_, _, _, _, _, _, rfl, _⟩ := h; rfl) | (obtain ⟨_, _, _, _, _, _, _, rfl, _⟩ := h; rfl) | (obtain ⟨_, _, _, _, _, _, _, _, rfl, _⟩ := h; rfl) | (obtain ⟨_, _, _, _, _, _, _, _, _, rfl, _⟩ := h; rfl) | (obtain ⟨_, _, _, _, _, _, _, _, _, _, rfl, _⟩ := h; rfl) | (obtain ⟨_, _, _, _, _, _, _, _, _, _, _, rfl, _⟩ := h; rfl) | (obtain ⟨_, _, _, _, _, _, _, _, _, _, _, _, rfl, _⟩ := h; rfl) | (obtain ⟨_, _, _, _, _, _, _, _, _, _, _, _, _, rfl, _⟩ := h; rfl) | (obtain ⟨_, _, _, _, _, _, _, _, _, _, _, _, _, _, rfl, _⟩ := h; rfl)) (fun cdv A outer s H vs Q E hr h => ?_)
  obtain ⟨s, c, B, z, k, rw, rfl, hB, hS, hc, hk, hf, q⟩ := h
  have q' := ro hB hS q
  obtain ⟨_, dx, r, d, pl, ru, ps, rs, hs, I, hz, hp1, _, _⟩ := hS.out
  obtain ⟨dc, na, ra, c1, c2, c3⟩ := hc.same hB
  have wz := hz.wf hp1
  obtain ⟨hpf, hst⟩ := steps_ok hf
  obtain ⟨h40, hev⟩ := paired_ok hpf
  have hcast := pairs_cast rw fun q hq => ⟨(hst q hq).1, by have := (hst q hq).2.2.1; omega⟩
  have hL : ((toPairs (toNats rw)).map fun x => (x.1, x.2 - 1)).map (fun q : Nat × Nat => ((q.1 : Int), (q.2 : Int) + 1)) = pairsI rw := by
    rw [← hcast, List.map_map]
    apply List.map_congr_left
    intro x hx
    have h1 : castP x ∈ pairsI rw := by rw [← hcast]; exact List.mem_map_of_mem hx
    have h2 := (hst _ h1).2.2.1
    unfold castP at h2 ⊢
    show ((x.1 : Int), ((x.2 - 1 : Nat) : Int) + 1) = ((x.1 : Int), (x.2 : Int))
    have h3 : (1 : Int) ≤ (x.2 : Int) := h2
    rw [show ((x.2 - 1 : Nat) : Int) + 1 = (x.2 : Int) by omega]
  have h7 : ∀ q ∈ (toPairs (toNats rw)).map (fun x => (x.1, x.2 - 1)), q.1 ≤ 7 := fun q hq => by
    obtain ⟨x, hx, rfl⟩ := List.mem_map.mp hq
    have h1 : castP x ∈ pairsI rw := by rw [← hcast]; exact List.mem_map_of_mem hx
    have h2 : (x.1 : Int) ≤ 7 := (hst _ h1).2.1
    show x.1 ≤ 7
    omega
  refine ⟨_, (pss_one (ps_ret (C8.pe_c c_judged hr (by decide) (by rfl) (pa_cons (C8.pe_c c_steps_hold hr (by decide) (by rfl) (pa_cons (pe_fld (pv 0) rfl) (pa_cons (pe_ix ix_list (pe_fld (pv 1) rfl) pe_int (fun _ _ => rfl)) (pa_cons (C8.pe_c c_pairs hr (by decide) (by rfl) (pa_cons (pe_fld (pv 1) rfl) pa_nil)) pa_nil)))) pa_nil)))), ?_⟩
  refine ⟨_, rfl, s, _, dx, _, _, rfl, hs, T.c_Session, T.a_room, lSession, _, rfl, c, _, dc, _, _, rfl, c1, T.c_Call, T.a_numbers, lCall2, na, _, _, _, rfl, rfl, SqL.of c2, atI_nat (j := 0) rfl, ?_⟩
  refine ⟨_, rfl, c, _, dc, _, _, rfl, c1, T.c_Call, T.a_row, lCall3, ra, rw, rfl, c3, h40, hev, fun H1 p s1 hp e1 => ?_⟩
  refine ⟨r, k, p, z, _, rfl, ⟨d, pl, ru, ps, rs, I.same s1⟩, wz, by rw [hL]; exact e1, h7, fun H2 s2 => ⟨_, rfl, fun H3 a s3 ha e => q' H3 a ((s1.trans s2).trans s3) ((s1.trans s2).free ha) e (by show 2 ≤ 100000; decide)⟩⟩
def sp_verify_packing (K : PySem.W.Frag) : Sp := fun vs H Q _ => ∃ (s c : Addr) (B : Hp) (z : Vbndam.Room) (ns rw : List Int), vs = [.ref s, .ref c] ∧ Same B H ∧ SessAt K B H s (some z) ∧ CallAt K B c 11 ns rw ∧ packFit rw = true ∧ (∀ x ∈ toPairs (toNats rw), x.1 ≤ ev z) ∧
  OpR K B s (some z) (0 :: (if Vbndam.isPackingValid z (toPairs (toNats rw)) = true then toInts [1, Vbndam.packingBound (toPairs (toNats rw))] else [0])) Q
theorem ok_verify_packing {f : Addr} {fd : FuncData} (T : Txt K mg) (F : FnP K "verify_packing" "verify_packing" s_verify_packing f fd) (hm : mg "verify_packing" = some (.ref f)) (c_pairs : C8.Cal P w K mg base 1 "pairs" (sp_pairs K) []) (c_packing_holds : C8.Cal P w K mg base 7 "packing_holds" (sp_packing_holds K) []) (c_bound : C8.Cal P w K mg base 1 "bound" (sp_bound K) []) :
    C8.Cal P w K mg base 8 "verify_packing" (sp_verify_packing K) [] := by
  refine calMk F hm (F.bindsN (ps := ["session", "call"]) fun _ _ _ _ _ _ us hl => match us, hl with | [_, _], _ => rfl) sc_verify_packing (fun vs H Q E h => by first | (obtain ⟨rfl, _⟩ := h; rfl) | (obtain ⟨_, rfl, _⟩ := h; rfl) | (obtain ⟨_, _, rfl, _⟩ := h; rfl) | (obtain ⟨_, _, _, rfl, _⟩ := h; rfl) | (obtain ⟨_, _, _, _, rfl, _⟩ := h; rfl) | (obtain ⟨_, _, _, _, _, rfl, _⟩ := h; rfl) | (obtain ⟨_, _, _, _, _, _, rfl, _⟩ := h; rfl) | (obtain ⟨_, _, _, _, _, _, _, rfl, _⟩ := h; rfl) | (obtain ⟨_, _, _, _, _, _, _, _, rfl, _⟩ := h; rfl) | (obtain ⟨_, _, _, _, _, _, _, _, _, rfl, _⟩ := h; rfl) | (obtain ⟨_, _, _, _, _, _, _, _, _, _, rfl, _⟩ := h; rfl) | (obtain ⟨_, _, _, _, _, _, _, _, _, _, _, rfl, _⟩ := h; rfl) | (obtain ⟨_, _, _, _, _, _, _, _, _, _, _, _, rfl, _⟩ := h; rfl) | (obtain ⟨_, _, _, _, _, _, _, _, _, _, _, _, _, rfl, _⟩ := h; rfl) | (obtain ⟨_, _, _, _, _, _, _, _, _, _, _, _, _, _, rfl, _⟩ := h; rfl)) (fun cdv A outer s H vs Q E hr h => ?_)
  obtain ⟨s, c, B, z, ns, rw, rfl, hB, hS, hc, hf, hall, q⟩ := h
  have q' := ro hB hS q
  obtain ⟨_, dx, r, d, pl, ru, ps, rs, hs, I, hz, hp1, _, _⟩ := hS.out
  obtain ⟨dc, na, ra, c1, c2, c3⟩ := hc.same hB
  have wz := hz.wf hp1
  obtain ⟨h40, hev⟩ := paired_ok (pack_ok hf).1
  have hcast := pack_cast hf
  have hl : (toPairs (toNats rw)).length ≤ 1000 := by
    have := congrArg List.length hcast
    rw [List.length_map, pairsI_len _ _ rfl] at this
    omega
  refine ⟨_, (pss_cons (ps_set (i := 2) sc_verify_packing.nd rfl (Or.inl rfl) (C8.pe_c c_pairs hr (by decide) (by rfl) (pa_cons (pe_fld (pv 1) rfl) pa_nil))) (pss_cons (ps_if (pt_not (pt_val (C8.pe_c c_packing_holds hr (by decide) (by rfl) (pa_cons (pe_fld (pv 0) rfl) (pa_cons (pv 2) pa_nil))))) (pss_one (ps_ret (pe_lst (pa_cons pe_int (pa_cons pe_int pa_nil))))) pss_nil) (pss_one (ps_ret (pe_lst (pa_cons pe_int (pa_cons pe_int (pa_cons (C8.pe_c c_bound hr (by decide) (by rfl) (pa_cons (pv 2) pa_nil)) pa_nil)))))))), ?_⟩
  refine ⟨_, rfl, c, _, dc, _, _, rfl, c1, T.c_Call, T.a_row, lCall3, ra, rw, rfl, c3, h40, hev, fun H1 p s1 hp e1 => ?_⟩
  rw [← hcast] at e1
  refine ⟨_, rfl, s, _, dx, _, _, rfl, s1 _ _ hs, T.c_Session, T.a_room, lSession, _, rfl, r, p, z, _, rfl, ⟨d, pl, ru, ps, rs, I.same s1⟩, wz, e1, hl, fun x hx => ev_lt (hall x hx), fun H2 s2 => ⟨_, rfl, ?_⟩⟩
  cases hv : Vbndam.isPackingValid z (toPairs (toNats rw)) with
  | false =>
    rw [hv] at q'
    refine iteT ⟨by show 2 ≤ sizeLine; decide, fun a ha => ?_⟩
    have s3 := s1.trans s2
    refine q' _ a (s3.trans (sameUpd ha)) (s3.free ha) ?_ (by show 2 ≤ 100000; decide)
    rw [upd_same]
    rfl
  | true =>
    rw [hv] at q'
    refine iteF ?_
    refine ⟨_, rfl, p, _, rfl, e1.same s2, hl, fun H3 s3 => ⟨by show 3 ≤ sizeLine; decide, fun a ha => ?_⟩⟩
    have s4 := (s1.trans s2).trans s3
    refine q' _ a (s4.trans (sameUpd ha)) (s4.free ha) ?_ (by show 3 ≤ 100000; decide)
    rw [upd_same]
    rfl
def sp_pl (K : PySem.W.Frag) (m : Int) (g : Vbndam.Room → Nat → List Int) : Sp := fun vs H Q _ => ∃ (s c : Addr) (B : Hp) (z : Vbndam.Room) (k : Nat) (rw : List Int), vs = [.ref s, .ref c] ∧ Same B H ∧ SessAt K B H s (some z) ∧ CallAt K B c m [(k : Int)] rw ∧ k < Vbndam.playerCount z ∧ OpR K B s (some z) (g z k) Q
def sp_swing_count (K : PySem.W.Frag) : Sp := sp_pl K 13 fun z k => [0, ((Vbndam.swings z k).length : Int)]
theorem ok_swing_count {f : Addr} {fd : FuncData} (T : Txt K mg) (F : FnP K "swing_count" "swing_count" s_swing_count f fd) (hm : mg "swing_count" = some (.ref f)) (c_swings : C8.Cal P w K mg base 5 "swings" (sp_swings K) []) :
    C8.Cal P w K mg base 6 "swing_count" (sp_swing_count K) [] := by
  refine calMk F hm (F.bindsN (ps := ["session", "call"]) fun _ _ _ _ _ _ us hl => match us, hl with | [_, _], _ => rfl) sc_swing_count (fun vs H Q E h => by first | (obtain ⟨rfl, _⟩ := h; rfl) | (obtain ⟨_, rfl, _⟩ := h; rfl) | (obtain ⟨_, _, rfl, _⟩ := h; rfl) | (obtain ⟨_, _, _, rfl, _⟩ := h; rfl) | (obtain ⟨_, _, _, _, rfl, _⟩ := h; rfl) | (obtain ⟨_, _, _, _, _, rfl, _⟩ := h; rfl) | (obtain ⟨_, _, _, _, _, _, rfl, _⟩ := h; rfl) | (obtain ⟨_, _, _, _, _, _, _, rfl, _⟩ := h; rfl) | (obtain ⟨_, _, _, _, _, _, _, _, rfl, _⟩ := h; rfl) | (obtain ⟨_, _, _, _, _, _, _, _, _, rfl, _⟩ := h; rfl) | (obtain ⟨_, _, _, _, _, _, _, _, _, _, rfl, _⟩ := h; rfl) | (obtain ⟨_, _, _, _, _, _, _, _, _, _, _, rfl, _⟩ := h; rfl) | (obtain ⟨_, _, _, _, _, _, _, _, _, _, _, _, rfl, _⟩ := h; rfl) | (obtain ⟨_, _, _, _, _, _, _, _, _, _, _, _, _, rfl, _⟩ := h; rfl) | (obtain ⟨_, _, _, _, _, _, _, _, _, _, _, _, _, _, rfl, _⟩ := h; rfl)) (fun cdv A outer s H vs Q E hr h => ?_)
  obtain ⟨s, c, B, z, k, rw, rfl, hB, hS, hc, hk, q⟩ := h
  have q' := ro hB hS q
  obtain ⟨_, dx, r, d, pl, ru, ps, rs, hs, I, hz, hp1, _, _⟩ := hS.out
  obtain ⟨dc, na, ra, c1, c2, c3⟩ := hc.same hB
  have wz := hz.wf hp1
  refine ⟨_, (pss_one (ps_ret (pe_lst (pa_cons pe_int (pa_cons (pe_callB call_len_seq (by rfl) T.n_len PySem.boot_len (pa_cons (C8.pe_c c_swings hr (by decide) (by rfl) (pa_cons (pe_fld (pv 0) rfl) (pa_cons (pe_ix ix_list (pe_fld (pv 1) rfl) pe_int (fun _ _ => rfl)) pa_nil))) pa_nil)) pa_nil))))), ?_⟩
  refine ⟨_, rfl, s, _, dx, _, _, rfl, hs, T.c_Session, T.a_room, lSession, _, rfl, c, _, dc, _, _, rfl, c1, T.c_Call, T.a_numbers, lCall2, na, _, _, _, rfl, rfl, SqL.of c2, atI_nat (j := 0) rfl, ?_⟩
  refine ⟨r, k, z, rfl, ⟨d, pl, ru, ps, rs, I⟩, wz, hk, fun H1 p s1 hp e1 => ⟨p, _, rfl, .inl (SqL.of e1), by show 2 ≤ sizeLine; decide, fun a ha => ?_⟩⟩
  refine q' _ a (s1.trans (sameUpd ha)) (s1.free ha) ?_ (by show 2 ≤ 100000; decide)
  rw [upd_same]
  unfold nats
  rw [List.length_map]
  rfl
def sp_power_index (K : PySem.W.Frag) : Sp := sp_pl K 14 fun z k => 0 :: toInts [(Vbndam.reducedFraction (Vbndam.pivotalOrderCount z k) (Vbndam.factorial (Vbndam.playerCount z))).1, (Vbndam.reducedFraction (Vbndam.pivotalOrderCount z k) (Vbndam.factorial (Vbndam.playerCount z))).2]
theorem ok_power_index {f : Addr} {fd : FuncData} (T : Txt K mg) (F : FnP K "power_index" "power_index" s_power_index f fd) (hm : mg "power_index" = some (.ref f)) (c_shapley_shubik : C8.Cal P w K mg base 6 "shapley_shubik" (sp_shapley_shubik K) []) :
    C8.Cal P w K mg base 7 "power_index" (sp_power_index K) [] := by
  refine calMk F hm (F.bindsN (ps := ["session", "call"]) fun _ _ _ _ _ _ us hl => match us, hl with | [_, _], _ => rfl) sc_power_index (fun vs H Q E h => by first | (obtain ⟨rfl, _⟩ := h; rfl) | (obtain ⟨_, rfl, _⟩ := h; rfl) | (obtain ⟨_, _, rfl, _⟩ := h; rfl) | (obtain ⟨_, _, _, rfl, _⟩ := h; rfl) | (obtain ⟨_, _, _, _, rfl, _⟩ := h; rfl) | (obtain ⟨_, _, _, _, _, rfl, _⟩ := h; rfl) | (obtain ⟨_, _, _, _, _, _, rfl, _⟩ := h; rfl) | (obtain ⟨_, _, _, _, _, _, _, rfl, _⟩ := h; rfl) | (obtain ⟨_, _, _, _, _, _, _, _, rfl, _⟩ := h; rfl) | (obtain ⟨_, _, _, _, _, _, _, _, _, rfl, _⟩ := h; rfl) | (obtain ⟨_, _, _, _, _, _, _, _, _, _, rfl, _⟩ := h; rfl) | (obtain ⟨_, _, _, _, _, _, _, _, _, _, _, rfl, _⟩ := h; rfl) | (obtain ⟨_, _, _, _, _, _, _, _, _, _, _, _, rfl, _⟩ := h; rfl) | (obtain ⟨_, _, _, _, _, _, _, _, _, _, _, _, _, rfl, _⟩ := h; rfl) | (obtain ⟨_, _, _, _, _, _, _, _, _, _, _, _, _, _, rfl, _⟩ := h; rfl)) (fun cdv A outer s H vs Q E hr h => ?_)
  obtain ⟨s, c, B, z, k, rw, rfl, hB, hS, hc, hk, q⟩ := h
  have q' := ro hB hS q
  obtain ⟨_, dx, r, d, pl, ru, ps, rs, hs, I, hz, hp1, _, _⟩ := hS.out
  obtain ⟨dc, na, ra, c1, c2, c3⟩ := hc.same hB
  have wz := hz.wf hp1
  refine ⟨_, (pss_one (ps_ret (pe_op op_cat (pe_lst (pa_cons pe_int pa_nil)) (pe_callTy call_list_of (by rfl) T.n_list (by decide +kernel) (pa_cons (C8.pe_c c_shapley_shubik hr (by decide) (by rfl) (pa_cons (pe_fld (pv 0) rfl) (pa_cons (pe_ix ix_list (pe_fld (pv 1) rfl) pe_int (fun _ _ => rfl)) pa_nil))) pa_nil))))), ?_⟩
  refine ⟨by show 1 ≤ sizeLine; decide, fun p0 hp0 => ?_⟩
  have s0 := sameUpd (o := .lst [V.int 0]) hp0
  refine ⟨_, rfl, s, _, dx, _, _, rfl, s0 _ _ hs, T.c_Session, T.a_room, lSession, _, rfl, c, _, dc, _, _, rfl, s0 _ _ c1, T.c_Call, T.a_numbers, lCall2, na, _, _, _, rfl, rfl, SqL.of (s0 _ _ c2), atI_nat (j := 0) rfl, ?_⟩
  refine ⟨r, k, z, rfl, ⟨d, pl, ru, ps, rs, I.same s0⟩, wz, hk, fun H1 t s1 et => ⟨t, _, rfl, .inr (SqT.of et), fun l hl => ?_⟩⟩
  have s2 := sameUpd (o := .lst [V.int ((Vbndam.reducedFraction (Vbndam.pivotalOrderCount z k) (Vbndam.factorial (Vbndam.playerCount z))).1 : Nat), V.int ((Vbndam.reducedFraction (Vbndam.pivotalOrderCount z k) (Vbndam.factorial (Vbndam.playerCount z))).2 : Nat)]) hl
  refine ⟨p0, l, _, _, rfl, rfl, s2 _ _ (s1 _ _ upd_same), upd_same, by show 1 + 2 ≤ sizeLine; decide, fun a ha => ?_⟩
  have s02 := (s0.trans s1).trans s2
  refine q' _ a (s02.trans (sameUpd ha)) (s02.free ha) ?_ (by show 3 ≤ 100000; decide)
  rw [upd_same]
  rfl
def sp_continuation_probability (K : PySem.W.Frag) : Sp := fun vs H Q _ => ∃ (s c : Addr) (B : Hp) (z : Vbndam.Room) (x y : Nat) (rw : List Int), vs = [.ref s, .ref c] ∧ Same B H ∧ SessAt K B H s (some z) ∧ CallAt K B c 15 [(x : Int), (y : Int)] rw ∧ x ≤ y ∧ 1 ≤ y ∧ y ≤ 100 ∧
  OpR K B s (some z) (0 :: toInts [(Vbndam.reducedFraction (Vbndam.continuationWeight z x y) (y ^ Vbndam.playerCount z)).1, (Vbndam.reducedFraction (Vbndam.continuationWeight z x y) (y ^ Vbndam.playerCount z)).2]) Q
theorem ok_continuation_probability {f : Addr} {fd : FuncData} (T : Txt K mg) (F : FnP K "continuation_probability" "continuation_probability" s_continuation_probability f fd) (hm : mg "continuation_probability" = some (.ref f)) (c_continuation : C8.Cal P w K mg base 7 "continuation" (sp_continuation K) []) :
    C8.Cal P w K mg base 8 "continuation_probability" (sp_continuation_probability K) [] := by
  refine calMk F hm (F.bindsN (ps := ["session", "call"]) fun _ _ _ _ _ _ us hl => match us, hl with | [_, _], _ => rfl) sc_continuation_probability (fun vs H Q E h => by first | (obtain ⟨rfl, _⟩ := h; rfl) | (obtain ⟨_, rfl, _⟩ := h; rfl) | (obtain ⟨_, _, rfl, _⟩ := h; rfl) | (obtain ⟨_, _, _, rfl, _⟩ := h; rfl) | (obtain ⟨_, _, _, _, rfl, _⟩ := h; rfl) | (obtain ⟨_, _, _, _, _, rfl, _⟩ := h; rfl) | (obtain ⟨_, _, _, _, _, _, rfl, _⟩ := h; rfl) | (obtain ⟨_, _, _, _, _, _, _, rfl, _⟩ := h; rfl) | (obtain ⟨_, _, _, _, _, _, _, _, rfl, _⟩ := h; rfl) | (obtain ⟨_, _, _, _, _, _, _, _, _, rfl, _⟩ := h; rfl) | (obtain ⟨_, _, _, _, _, _, _, _, _, _, rfl, _⟩ := h; rfl) | (obtain ⟨_, _, _, _, _, _, _, _, _, _, _, rfl, _⟩ := h; rfl) | (obtain ⟨_, _, _, _, _, _, _, _, _, _, _, _, rfl, _⟩ := h; rfl) | (obtain ⟨_, _, _, _, _, _, _, _, _, _, _, _, _, rfl, _⟩ := h; rfl) | (obtain ⟨_, _, _, _, _, _, _, _, _, _, _, _, _, _, rfl, _⟩ := h; rfl)) (fun cdv A outer s H vs Q E hr h => ?_)
  obtain ⟨s, c, B, z, x, y, rw, rfl, hB, hS, hc, hxy, hy1, hy, q⟩ := h
  have q' := ro hB hS q
  obtain ⟨_, dx, r, d, pl, ru, ps, rs, hs, I, hz, hp1, _, _⟩ := hS.out
  obtain ⟨dc, na, ra, c1, c2, c3⟩ := hc.same hB
  have wz := hz.wf hp1
  refine ⟨_, (pss_one (ps_ret (pe_op op_cat (pe_lst (pa_cons pe_int pa_nil)) (pe_callTy call_list_of (by rfl) T.n_list (by decide +kernel) (pa_cons (C8.pe_c c_continuation hr (by decide) (by rfl) (pa_cons (pe_fld (pv 0) rfl) (pa_cons (pe_ix ix_list (pe_fld (pv 1) rfl) pe_int (fun _ _ => rfl)) (pa_cons (pe_ix ix_list (pe_fld (pv 1) rfl) pe_int (fun _ _ => rfl)) pa_nil)))) pa_nil))))), ?_⟩
  refine ⟨by show 1 ≤ sizeLine; decide, fun p0 hp0 => ?_⟩
  have s0 := sameUpd (o := .lst [V.int 0]) hp0
  refine ⟨_, rfl, s, _, dx, _, _, rfl, s0 _ _ hs, T.c_Session, T.a_room, lSession, _, rfl, c, _, dc, _, _, rfl, s0 _ _ c1, T.c_Call, T.a_numbers, lCall2, na, _, _, _, rfl, rfl, SqL.of (s0 _ _ c2), atI_nat (j := 0) rfl,
    _, rfl, c, _, dc, _, _, rfl, s0 _ _ c1, T.c_Call, T.a_numbers, lCall2, na, _, _, _, rfl, rfl, SqL.of (s0 _ _ c2), atI_nat (j := 1) rfl, ?_⟩
  refine ⟨r, x, y, z, rfl, ⟨d, pl, ru, ps, rs, I.same s0⟩, wz, hxy, hy1, hy, fun H1 t s1 et => ⟨t, _, rfl, .inr (SqT.of et), fun l hl => ?_⟩⟩
  have s2 := sameUpd (o := .lst [V.int ((Vbndam.reducedFraction (Vbndam.continuationWeight z x y) (y ^ Vbndam.playerCount z)).1 : Nat), V.int ((Vbndam.reducedFraction (Vbndam.continuationWeight z x y) (y ^ Vbndam.playerCount z)).2 : Nat)]) hl
  refine ⟨p0, l, _, _, rfl, rfl, s2 _ _ (s1 _ _ upd_same), upd_same, by show 1 + 2 ≤ sizeLine; decide, fun a ha => ?_⟩
  have s02 := (s0.trans s1).trans s2
  refine q' _ a (s02.trans (sameUpd ha)) (s02.free ha) ?_ (by show 3 ≤ 100000; decide)
  rw [upd_same]
  rfl
end
end SI

set_option maxHeartbeats 4000000
namespace SI
open PySem PySem.Spec PyProof.Rows L2
open Vbndam (toInts withLength flag toPairs toNats inRange isByteList stepLists withCoalition withPlayer withRoom fail succeed)
/-! ### what the document's step does -/
theorem textFit_eq (rw : List Int) : textFit rw = isByteList rw 2000 := by
  unfold textFit isByteList
  congr 1
  rw [Bool.eq_iff_iff, decide_eq_true_eq, decide_eq_true_eq]
  omega
theorem pairedFit_eq (rw : List Int) : pairedFit rw = (decide (rw.length ≤ 40) && decide (rw.length % 2 = 0)) := by
  unfold pairedFit
  congr 1
  rw [Bool.eq_iff_iff, decide_eq_true_eq, decide_eq_true_eq]
  omega
theorem pairs_all {A : Int → Prop} : ∀ rw : List Int, rw.length % 2 = 0 → (∀ q ∈ pairsI rw, A q.1 ∧ A q.2) → ∀ n ∈ rw, A n
  | [], _, _, n, h => by cases h
  | [_], h, _, _, _ => by cases h
  | a :: b :: l, h, hp, n, hn => by
    have h1 := hp (a, b) List.mem_cons_self
    rcases List.mem_cons.mp hn with e | e
    · rw [e]; exact h1.1
    · rcases List.mem_cons.mp e with e | e
      · rw [e]; exact h1.2
      · exact pairs_all l (by simp at h; omega) (fun q hq => hp q (List.mem_cons_of_mem _ hq)) n e
def stepsSpec (l : List Int) : Bool := decide (l.length ≤ 40) && (decide (l.length % 2 = 0) && (toPairs (toNats l)).all fun x => decide (x.1 ≤ 7 ∧ 1 ≤ x.2 ∧ x.2 ≤ Vbndam.maxRules)) && l.all fun n => decide (0 ≤ n)
theorem stepsFit_eq (rw : List Int) : stepsFit rw = stepsSpec rw := by
  unfold stepsSpec
  rw [Bool.eq_iff_iff]
  constructor
  · intro h
    obtain ⟨hp, hst⟩ := steps_ok h
    obtain ⟨h1, h2⟩ := paired_ok hp
    have hc := pairs_cast rw fun q hq => ⟨(hst q hq).1, by have := (hst q hq).2.2.1; omega⟩
    rw [Bool.and_eq_true, Bool.and_eq_true, Bool.and_eq_true, decide_eq_true_eq, decide_eq_true_eq]
    refine ⟨⟨h1, h2, ?_⟩, ?_⟩
    · rw [List.all_eq_true]
      intro x hx
      have hm : castP x ∈ pairsI rw := by rw [← hc]; exact List.mem_map_of_mem hx
      have := hst _ hm
      unfold castP at this
      rw [decide_eq_true_eq]
      show x.1 ≤ 7 ∧ 1 ≤ x.2 ∧ x.2 ≤ 20
      have a1 : (x.1 : Int) ≤ 7 := this.2.1
      have a2 : (1 : Int) ≤ (x.2 : Int) := this.2.2.1
      have a3 : (x.2 : Int) ≤ 20 := this.2.2.2
      omega
    · rw [List.all_eq_true]
      intro n hn
      rw [decide_eq_true_eq]
      exact pairs_all rw h2 (fun q hq => ⟨(hst q hq).1, by have := (hst q hq).2.2.1; omega⟩) n hn
  · intro h
    rw [Bool.and_eq_true, Bool.and_eq_true, Bool.and_eq_true, decide_eq_true_eq, decide_eq_true_eq] at h
    obtain ⟨⟨h1, h2, h3⟩, h4⟩ := h
    have hn : ∀ n ∈ rw, 0 ≤ n := fun n hn => by
      have := List.all_eq_true.mp h4 n hn
      rwa [decide_eq_true_eq] at this
    have hc := pairs_cast rw fun q hq => ⟨hn _ (pairsI_mem rw q hq).1, hn _ (pairsI_mem rw q hq).2⟩
    unfold stepsFit
    rw [pairedFit_eq, decide_eq_true h1, decide_eq_true h2, Bool.and_self, Bool.true_and, List.all_eq_true]
    intro q hq
    rw [← hc] at hq
    obtain ⟨x, hx, rfl⟩ := List.mem_map.mp hq
    have := List.all_eq_true.mp h3 x hx
    rw [decide_eq_true_eq] at this
    have h5 : x.2 ≤ 20 := this.2.2
    unfold castP
    rw [Bool.and_eq_true, Bool.and_eq_true, Bool.and_eq_true, decide_eq_true_eq, decide_eq_true_eq, decide_eq_true_eq, decide_eq_true_eq]
    dsimp only
    omega
theorem packFit_eq (rw : List Int) : packFit rw = (decide (rw.length ≤ 40) && (decide (rw.length % 2 = 0) && rw.all fun n => inRange n 0 1000000)) := by
  unfold packFit
  rw [pairedFit_eq, Bool.and_assoc]
  rfl
/-- the call as it was decoded -/
def Shaped (m : Nat) (ns rw : List Int) (c : List (List Int)) : Prop := m < 20 ∧ ns.length = (NR.getD m []).length ∧ (if isRow m = true then c = [(m : Int) :: ns, rw] else c = [(m : Int) :: ns])
theorem one_of {l : List Int} (h : l.length = 1) : ∃ x, l = [x] := by
  match l, h with
  | [x], _ => exact ⟨x, rfl⟩
theorem two_of {l : List Int} (h : l.length = 2) : ∃ x y, l = [x, y] := by
  match l, h with
  | [x, y], _ => exact ⟨x, y, rfl⟩
/-- one by one -/
theorem shaped_cases {A : Nat → List Int → List Int → List (List Int) → Prop}
    (h0 : ∀ rw, A 0 [] rw [[0], rw]) (h1 : ∀ rw, A 1 [] rw [[1], rw]) (h2 : ∀ rw, A 2 [] rw [[2]]) (h3 : ∀ x rw, A 3 [x] rw [[3, x]]) (h4 : ∀ x rw, A 4 [x] rw [[4, x], rw]) (h5 : ∀ x rw, A 5 [x] rw [[5, x]]) (h6 : ∀ x rw, A 6 [x] rw [[6, x]]) (h7 : ∀ x rw, A 7 [x] rw [[7, x]])
    (h8 : ∀ rw, A 8 [] rw [[8]]) (h9 : ∀ rw, A 9 [] rw [[9]]) (h10 : ∀ rw, A 10 [] rw [[10]]) (h11 : ∀ rw, A 11 [] rw [[11], rw]) (h12 : ∀ x rw, A 12 [x] rw [[12, x]]) (h13 : ∀ x rw, A 13 [x] rw [[13, x]]) (h14 : ∀ x rw, A 14 [x] rw [[14, x]]) (h15 : ∀ x y rw, A 15 [x, y] rw [[15, x, y]])
    (h16 : ∀ rw, A 16 [] rw [[16]]) (h17 : ∀ x rw, A 17 [x] rw [[17, x]]) (h18 : ∀ x y rw, A 18 [x, y] rw [[18, x, y]]) (h19 : ∀ rw, A 19 [] rw [[19]]) {m : Nat} {ns rw : List Int} {c : List (List Int)} (h : Shaped m ns rw c) : A m ns rw c := by
  obtain ⟨hm, hl, hc⟩ := h
  have key : m = 0 ∨ m = 1 ∨ m = 2 ∨ m = 3 ∨ m = 4 ∨ m = 5 ∨ m = 6 ∨ m = 7 ∨ m = 8 ∨ m = 9 ∨ m = 10 ∨ m = 11 ∨ m = 12 ∨ m = 13 ∨ m = 14 ∨ m = 15 ∨ m = 16 ∨ m = 17 ∨ m = 18 ∨ m = 19 := by omega
  rcases key with e | e | e | e | e | e | e | e | e | e | e | e | e | e | e | e | e | e | e | e <;> subst e
  · obtain rfl := List.length_eq_zero_iff.mp hl; rw [if_pos (by decide)] at hc; subst hc; exact h0 rw
  · obtain rfl := List.length_eq_zero_iff.mp hl; rw [if_pos (by decide)] at hc; subst hc; exact h1 rw
  · obtain rfl := List.length_eq_zero_iff.mp hl; rw [if_neg (by decide)] at hc; subst hc; exact h2 rw
  · obtain ⟨x, rfl⟩ := one_of hl; rw [if_neg (by decide)] at hc; subst hc; exact h3 x rw
  · obtain ⟨x, rfl⟩ := one_of hl; rw [if_pos (by decide)] at hc; subst hc; exact h4 x rw
  · obtain ⟨x, rfl⟩ := one_of hl; rw [if_neg (by decide)] at hc; subst hc; exact h5 x rw
  · obtain ⟨x, rfl⟩ := one_of hl; rw [if_neg (by decide)] at hc; subst hc; exact h6 x rw
  · obtain ⟨x, rfl⟩ := one_of hl; rw [if_neg (by decide)] at hc; subst hc; exact h7 x rw
  · obtain rfl := List.length_eq_zero_iff.mp hl; rw [if_neg (by decide)] at hc; subst hc; exact h8 rw
  · obtain rfl := List.length_eq_zero_iff.mp hl; rw [if_neg (by decide)] at hc; subst hc; exact h9 rw
  · obtain rfl := List.length_eq_zero_iff.mp hl; rw [if_neg (by decide)] at hc; subst hc; exact h10 rw
  · obtain rfl := List.length_eq_zero_iff.mp hl; rw [if_pos (by decide)] at hc; subst hc; exact h11 rw
  · obtain ⟨x, rfl⟩ := one_of hl; rw [if_neg (by decide)] at hc; subst hc; exact h12 x rw
  · obtain ⟨x, rfl⟩ := one_of hl; rw [if_neg (by decide)] at hc; subst hc; exact h13 x rw
  · obtain ⟨x, rfl⟩ := one_of hl; rw [if_neg (by decide)] at hc; subst hc; exact h14 x rw
  · obtain ⟨x, y, rfl⟩ := two_of hl; rw [if_neg (by decide)] at hc; subst hc; exact h15 x y rw
  · obtain rfl := List.length_eq_zero_iff.mp hl; rw [if_neg (by decide)] at hc; subst hc; exact h16 rw
  · obtain ⟨x, rfl⟩ := one_of hl; rw [if_neg (by decide)] at hc; subst hc; exact h17 x rw
  · obtain ⟨x, y, rfl⟩ := two_of hl; rw [if_neg (by decide)] at hc; subst hc; exact h18 x y rw
  · obtain rfl := List.length_eq_zero_iff.mp hl; rw [if_neg (by decide)] at hc; subst hc; exact h19 rw
def fitB (m : Nat) (ns rw : List Int) : Bool := numFit m ns && rowFit m rw
def thereB (z : Vbndam.Room) (m : Nat) (ns rw : List Int) : Bool := if isIn [3, 4, 5, 6, 7, 12] m = true then decide (ns.getD 0 0 ≤ (ev z : Nat)) else if isIn [11] m = true then (pairsI rw).all (fun q => decide (q.1 ≤ (ev z : Nat))) else if isIn [13, 14, 18] m = true then decide (ns.getD 0 0 < (Vbndam.playerCount z : Nat)) else (!isIn [17] m || decide (ns.getD 0 0 ≤ (z.rules.length : Nat)))
theorem nf1 (x lo hi : Int) : ((decide (lo ≤ x) && decide (x ≤ hi)) && true) = inRange x lo hi := by rw [Bool.and_true]; rfl
theorem fit0 (rw : List Int) : fitB 0 [] rw = isByteList rw 2000 := (textFit_eq rw)
theorem fit1 (rw : List Int) : fitB 1 [] rw = isByteList rw 2000 := (textFit_eq rw)
theorem fit3 (x : Int) (rw : List Int) : fitB 3 [x] rw = inRange x 0 255 := by show (((_ && true) && true) && true) = _; rw [Bool.and_true, Bool.and_true, nf1]
theorem fit4 (x : Int) (rw : List Int) : fitB 4 [x] rw = (inRange x 0 255 && stepsSpec rw) := by show (((_ && true) && true) && stepsFit rw) = _; rw [Bool.and_true, nf1, stepsFit_eq]
theorem fit5 (x : Int) (rw : List Int) : fitB 5 [x] rw = inRange x 0 255 := by show (((_ && true) && true) && true) = _; rw [Bool.and_true, Bool.and_true, nf1]
theorem fit6 (x : Int) (rw : List Int) : fitB 6 [x] rw = inRange x 0 255 := by show (((_ && true) && true) && true) = _; rw [Bool.and_true, Bool.and_true, nf1]
theorem fit7 (x : Int) (rw : List Int) : fitB 7 [x] rw = inRange x 0 255 := by show (((_ && true) && true) && true) = _; rw [Bool.and_true, Bool.and_true, nf1]
theorem fit12 (x : Int) (rw : List Int) : fitB 12 [x] rw = inRange x 0 255 := by show (((_ && true) && true) && true) = _; rw [Bool.and_true, Bool.and_true, nf1]
theorem fit13 (x : Int) (rw : List Int) : fitB 13 [x] rw = inRange x 0 7 := by show (((_ && true) && true) && true) = _; rw [Bool.and_true, Bool.and_true, nf1]
theorem fit14 (x : Int) (rw : List Int) : fitB 14 [x] rw = inRange x 0 7 := by show (((_ && true) && true) && true) = _; rw [Bool.and_true, Bool.and_true, nf1]
theorem fit17 (x : Int) (rw : List Int) : fitB 17 [x] rw = inRange x 1 20 := by show (((_ && true) && true) && true) = _; rw [Bool.and_true, Bool.and_true, nf1]
theorem fit11 (rw : List Int) : fitB 11 [] rw = packFit rw := rfl
theorem fit15 (x y : Int) (rw : List Int) : fitB 15 [x, y] rw = (inRange y 1 100 && inRange x 0 y) := by
  show (((decide (0 ≤ x) && decide (x ≤ 100)) && ((decide (1 ≤ y) && decide (y ≤ 100)) && true)) && decide (x ≤ y) && true) = ((decide (1 ≤ y) && decide (y ≤ 100)) && (decide (0 ≤ x) && decide (x ≤ y)))
  rw [Bool.eq_iff_iff]
  simp only [Bool.and_eq_true, decide_eq_true_eq, and_true]
  omega
theorem fit18 (x y : Int) (rw : List Int) : fitB 18 [x, y] rw = (inRange x 0 7 && inRange y 0 1000) := by
  show ((((decide (0 ≤ x) && decide (x ≤ 7)) && ((decide (0 ≤ y) && decide (y ≤ 1000)) && true)) && true) && true) = _
  rw [Bool.and_true, Bool.and_true, Bool.and_true]
  rfl
theorem unfit {st : St} {m : Nat} {ns rw : List Int} {c : List (List Int)} (h : Shaped m ns rw c) : fitB m ns rw = false → stepLists st c = (st, [-1]) := by
  refine shaped_cases (A := fun m ns rw c => fitB m ns rw = false → stepLists st c = (st, [-1])) ?_ ?_ ?_ ?_ ?_ ?_ ?_ ?_ ?_ ?_ ?_ ?_ ?_ ?_ ?_ ?_ ?_ ?_ ?_ ?_ h
  · intro rw e; rw [fit0] at e; exact if_pos e
  · intro rw e; rw [fit1] at e; exact if_pos e
  · intro rw e; cases e
  · intro x rw e; rw [fit3] at e; exact if_pos e
  · intro x rw e; rw [fit4] at e
    show (if stepsSpec rw = false then _ else _) = _
    cases hs : stepsSpec rw with
    | false => rfl
    | true => rw [hs, Bool.and_true] at e; rw [if_neg (by decide)]; exact if_pos e
  · intro x rw e; rw [fit5] at e; exact if_pos e
  · intro x rw e; rw [fit6] at e; exact if_pos e
  · intro x rw e; rw [fit7] at e; exact if_pos e
  · intro rw e; cases e
  · intro rw e; cases e
  · intro rw e; cases e
  · intro rw e; rw [fit11, packFit_eq] at e; exact if_pos e
  · intro x rw e; rw [fit12] at e; exact if_pos e
  · intro x rw e; rw [fit13] at e; exact if_pos e
  · intro x rw e; rw [fit14] at e; exact if_pos e
  · intro x y rw e; rw [fit15] at e; exact if_pos e
  · intro rw e; cases e
  · intro x rw e; rw [fit17] at e; exact if_pos e
  · intro x y rw e; rw [fit18] at e
    show (if inRange y 0 1000 = false then _ else _) = _
    cases hs : inRange y 0 1000 with
    | false => rfl
    | true => rw [hs, Bool.and_true] at e; rw [if_neg (by decide)]; exact if_pos e
  · intro rw e; cases e
theorem noroom {m : Nat} {ns rw : List Int} {c : List (List Int)} (h : Shaped m ns rw c) : fitB m ns rw = true → isIn [0, 1] m = false → stepLists none c = (none, [-2]) := by
  refine shaped_cases (A := fun m ns rw c => fitB m ns rw = true → isIn [0, 1] m = false → stepLists none c = (none, [-2])) ?_ ?_ ?_ ?_ ?_ ?_ ?_ ?_ ?_ ?_ ?_ ?_ ?_ ?_ ?_ ?_ ?_ ?_ ?_ ?_ h
  · intro rw e n; cases n
  · intro rw e n; cases n
  · intro rw e n; rfl
  · intro x rw e n; rw [fit3] at e; exact if_neg (by rw [e]; decide)
  · intro x rw e n; rw [fit4, Bool.and_eq_true] at e
    show (if stepsSpec rw = false then _ else _) = _
    rw [e.2, if_neg (by decide)]; exact if_neg (by rw [e.1]; decide)
  · intro x rw e n; rw [fit5] at e; exact if_neg (by rw [e]; decide)
  · intro x rw e n; rw [fit6] at e; exact if_neg (by rw [e]; decide)
  · intro x rw e n; rw [fit7] at e; exact if_neg (by rw [e]; decide)
  · intro rw e n; rfl
  · intro rw e n; rfl
  · intro rw e n; rfl
  · intro rw e n; rw [fit11, packFit_eq] at e; exact if_neg (by rw [e]; decide)
  · intro x rw e n; rw [fit12] at e; exact if_neg (by rw [e]; decide)
  · intro x rw e n; rw [fit13] at e; exact if_neg (by rw [e]; decide)
  · intro x rw e n; rw [fit14] at e; exact if_neg (by rw [e]; decide)
  · intro x y rw e n; rw [fit15] at e; exact if_neg (by rw [e]; decide)
  · intro rw e n; rfl
  · intro x rw e n; rw [fit17] at e; exact if_neg (by rw [e]; decide)
  · intro x y rw e n; rw [fit18, Bool.and_eq_true] at e
    show (if inRange y 0 1000 = false then _ else _) = _
    rw [e.2, if_neg (by decide)]; exact if_neg (by rw [e.1]; decide)
  · intro rw e n; rfl
end SI

set_option maxHeartbeats 4000000
namespace SI
open PySem PySem.Spec PyProof.Rows L2
open Vbndam (toInts withLength flag toPairs toNats inRange isByteList stepLists withCoalition withPlayer withRoom fail succeed)
theorem inR {x lo hi : Int} (h : inRange x lo hi = true) : lo ≤ x ∧ x ≤ hi := by
  unfold inRange at h
  rw [Bool.and_eq_true, decide_eq_true_eq, decide_eq_true_eq] at h
  exact h
theorem wcoal {z : Vbndam.Room} {x : Int} {f : Vbndam.Room → Nat → St × List Int} (e : inRange x 0 255 = true) : withCoalition (some z) x f = if ev z < x.toNat then (some z, [-4]) else f z x.toNat := if_neg (by rw [e]; decide)
theorem wplay {z : Vbndam.Room} {x : Int} {f : Vbndam.Room → Nat → St × List Int} (e : inRange x 0 7 = true) : withPlayer (some z) x f = if (Vbndam.playerCount z : Int) ≤ x then (some z, [-4]) else f z x.toNat := if_neg (by rw [e]; decide)
theorem coalF {z : Vbndam.Room} {x : Int} {f : Vbndam.Room → Nat → St × List Int} (e : inRange x 0 255 = true) (h : decide (x ≤ (ev z : Nat)) = false) : withCoalition (some z) x f = (some z, [-4]) := by
  have := inR e
  rw [decide_eq_false_iff_not] at h
  rw [wcoal e, if_pos (by omega)]
theorem playF {z : Vbndam.Room} {x : Int} {f : Vbndam.Room → Nat → St × List Int} (e : inRange x 0 7 = true) (h : decide (x < (Vbndam.playerCount z : Nat)) = false) : withPlayer (some z) x f = (some z, [-4]) := by
  have := inR e
  rw [decide_eq_false_iff_not] at h
  rw [wplay e, if_pos (by omega)]
theorem pack_there {z : Vbndam.Room} {rw : List Int} (hp : packFit rw = true) : (pairsI rw).all (fun q => decide (q.1 ≤ (ev z : Nat))) = !(toPairs (toNats rw)).any fun x => decide (Vbndam.everyone z < x.1) := by
  rw [← pack_cast hp, List.all_map, List.not_any_eq_all_not]
  congr 1
  funext x
  show decide ((x.1 : Int) ≤ (ev z : Nat)) = !decide (Vbndam.everyone z < x.1)
  rw [Bool.eq_iff_iff, decide_eq_true_eq, Bool.not_eq_true', decide_eq_false_iff_not]
  show (x.1 : Int) ≤ ((ev z : Nat) : Int) ↔ ¬ (ev z < x.1)
  omega
theorem st3 (st : St) (x : Int) : stepLists st [[3, x]] = withCoalition st x fun z u => succeed st ((Vbndam.actingCoalition z u : Int) :: ((Vbndam.substitutionSteps z u).length : Int) :: (Vbndam.substitutionSteps z u).flatMap fun x => toInts [x.1, x.2 + 1]) := rfl
theorem st5 (st : St) (x : Int) : stepLists st [[5, x]] = withCoalition st x fun z u => succeed st [flag (Vbndam.isClosed z u)] := rfl
theorem st6 (st : St) (x : Int) : stepLists st [[6, x]] = withCoalition st x fun z u => succeed st [flag (Vbndam.isSufficient z u)] := rfl
theorem st7 (st : St) (x : Int) : stepLists st [[7, x]] = withCoalition st x fun z u => succeed st [flag (Vbndam.isBlocking z u)] := rfl
theorem st12 (st : St) (x : Int) : stepLists st [[12, x]] = withCoalition st x fun z u => succeed st (withLength (Vbndam.minimalReturns z u)) := rfl
theorem st13 (st : St) (x : Int) : stepLists st [[13, x]] = withPlayer st x fun z i => succeed st [((Vbndam.swings z i).length : Int)] := rfl
theorem st14 (st : St) (x : Int) : stepLists st [[14, x]] = withPlayer st x fun z i => succeed st (toInts [(Vbndam.reducedFraction (Vbndam.pivotalOrderCount z i) (Vbndam.factorial (Vbndam.playerCount z))).1, (Vbndam.reducedFraction (Vbndam.pivotalOrderCount z i) (Vbndam.factorial (Vbndam.playerCount z))).2]) := rfl
theorem away {z : Vbndam.Room} {m : Nat} {ns rw : List Int} {c : List (List Int)} (h : Shaped m ns rw c) : fitB m ns rw = true → thereB z m ns rw = false → stepLists (some z) c = (some z, [-4]) := by
  refine shaped_cases (A := fun m ns rw c => fitB m ns rw = true → thereB z m ns rw = false → stepLists (some z) c = (some z, [-4])) ?_ ?_ ?_ ?_ ?_ ?_ ?_ ?_ ?_ ?_ ?_ ?_ ?_ ?_ ?_ ?_ ?_ ?_ ?_ ?_ h
  · intro rw e n; cases n
  · intro rw e n; cases n
  · intro rw e n; cases n
  · intro x rw e n; rw [fit3] at e; exact (st3 _ x).trans (coalF e n)
  · intro x rw e n; rw [fit4, Bool.and_eq_true] at e
    show (if stepsSpec rw = false then _ else _) = _
    rw [e.2, if_neg (by decide)]; exact coalF e.1 n
  · intro x rw e n; rw [fit5] at e; exact (st5 _ x).trans (coalF e n)
  · intro x rw e n; rw [fit6] at e; exact (st6 _ x).trans (coalF e n)
  · intro x rw e n; rw [fit7] at e; exact (st7 _ x).trans (coalF e n)
  · intro rw e n; cases n
  · intro rw e n; cases n
  · intro rw e n; cases n
  · intro rw e n; rw [fit11] at e
    have n' : (pairsI rw).all (fun q => decide (q.1 ≤ (ev z : Nat))) = false := n
    rw [pack_there e, Bool.not_eq_false'] at n'
    rw [packFit_eq] at e
    refine (if_neg (by rw [e]; decide)).trans ?_
    exact if_pos n'
  · intro x rw e n; rw [fit12] at e; exact (st12 _ x).trans (coalF e n)
  · intro x rw e n; rw [fit13] at e; exact (st13 _ x).trans (playF e n)
  · intro x rw e n; rw [fit14] at e; exact (st14 _ x).trans (playF e n)
  · intro x y rw e n; cases n
  · intro rw e n; cases n
  · intro x rw e n; rw [fit17] at e
    have n' : decide (x ≤ (z.rules.length : Nat)) = false := n
    rw [decide_eq_false_iff_not] at n'
    refine (if_neg (by rw [e]; decide)).trans ?_
    exact if_pos (by omega)
  · intro x y rw e n; rw [fit18, Bool.and_eq_true] at e
    show (if inRange y 0 1000 = false then _ else _) = _
    rw [e.2, if_neg (by decide)]; exact playF e.1 n
  · intro rw e n; cases n
/-- a coalition that is there -/
theorem coalT {z : Vbndam.Room} {x : Int} {f : Vbndam.Room → Nat → St × List Int} (e : inRange x 0 255 = true) (h : decide (x ≤ (ev z : Nat)) = true) : ∃ k : Nat, x = (k : Int) ∧ k ≤ ev z ∧ withCoalition (some z) x f = f z k := by
  have := inR e
  rw [decide_eq_true_eq] at h
  refine ⟨x.toNat, by omega, by omega, ?_⟩
  rw [wcoal e, if_neg (by omega)]
theorem playT {z : Vbndam.Room} {x : Int} {f : Vbndam.Room → Nat → St × List Int} (e : inRange x 0 7 = true) (h : decide (x < (Vbndam.playerCount z : Nat)) = true) : ∃ k : Nat, x = (k : Int) ∧ k < Vbndam.playerCount z ∧ withPlayer (some z) x f = f z k := by
  have := inR e
  rw [decide_eq_true_eq] at h
  refine ⟨x.toNat, by omega, by omega, ?_⟩
  rw [wplay e, if_neg (by omega)]
/-! ### what changes a room -/
theorem eraseMap {α β : Type} (f : α → β) : ∀ (i : Nat) (l : List α), (l.eraseIdx i).map f = (l.map f).eraseIdx i
  | _, [] => rfl
  | 0, _ :: _ => rfl
  | i + 1, x :: l => by
    show f x :: (l.eraseIdx i).map f = f x :: (l.map f).eraseIdx i
    rw [eraseMap f i l]
theorem pairedErase {α β : Type} {R : α → β → Prop} : ∀ (i : Nat) {l : List α} {m : List β}, Paired R l m → Paired R (l.eraseIdx i) (m.eraseIdx i)
  | _, _, _, .nil => .nil
  | 0, _, _, .cons _ t => t
  | i + 1, _, _, .cons r t => .cons r (pairedErase i t)
theorem pairedModify {α β : Type} {R R' : α → β → Prop} {f : β → β} {a : α} (ho : ∀ b p, b ≠ a → R b p → R' b p) (hs : ∀ p, R a p → R' a (f p)) : ∀ (i : Nat) {l : List α} {m : List β}, Paired R l m → l.Nodup → l[i]? = some a → Paired R' l (m.modify i f)
  | _, _, _, .nil, _, e => by simp at e
  | 0, x :: l, _ :: _, .cons r t, hd, e => by
    obtain rfl : x = a := by simpa using e
    rw [List.modify_zero_cons]
    rw [List.nodup_cons] at hd
    exact .cons (hs _ r) (pairedMem (fun b p hb q => ho b p (fun e => hd.1 (e ▸ hb)) q) t)
  | i + 1, x :: l, _ :: _, .cons r t, hd, e => by
    rw [List.modify_succ_cons]
    rw [List.nodup_cons] at hd
    have e' : l[i]? = some a := by simpa using e
    exact .cons (ho _ _ (fun e2 => hd.1 (e2 ▸ List.mem_of_getElem? e')) r) (pairedModify ho hs i t hd.2 e')
where
  pairedMem {α β : Type} {R R' : α → β → Prop} : ∀ {l : List α} {m : List β}, (∀ b p, b ∈ l → R b p → R' b p) → Paired R l m → Paired R' l m
  | _, _, _, .nil => .nil
  | _, _, h, .cons r t => .cons (h _ _ List.mem_cons_self r) (pairedMem (fun b p hb q => h b p (List.mem_cons_of_mem _ hb) q) t)
theorem PF.erase {z : Vbndam.Room} (hz : PF z) (i : Nat) : PF { z with rules := z.rules.eraseIdx i } := by
  have key : ∀ {A : Vbndam.Rule → Prop}, (∀ u ∈ z.rules, A u) → ∀ u ∈ z.rules.eraseIdx i, A u := fun h u hu => h u (List.mem_of_mem_eraseIdx hu)
  refine ⟨hz.le8, ?_, key hz.abs, key hz.sub, key hz.sl, key hz.rq, hz.wt, hz.nm⟩
  have := List.length_eraseIdx_le z.rules i
  exact Nat.le_trans this hz.r20
theorem PF.setW {z : Vbndam.Room} (hz : PF z) (i wt : Nat) (hw : wt ≤ 1000) : PF { z with players := z.players.modify i fun x => { x with weight := wt } } := by
  have hl : (z.players.modify i fun x => { x with weight := wt }).length = z.players.length := List.length_modify ..
  have key : ∀ p ∈ z.players.modify i (fun x => { x with weight := wt }), ∃ p' ∈ z.players, p.name = p'.name ∧ (p.weight = wt ∨ p.weight = p'.weight) := fun p hp => by
    obtain ⟨j, hj⟩ := List.mem_iff_getElem?.mp hp
    rw [List.getElem?_modify] at hj
    obtain ⟨p', hp', e⟩ := Option.map_eq_some_iff.mp hj
    refine ⟨p', List.mem_of_getElem? hp', ?_⟩
    by_cases c : i = j
    · rw [if_pos c] at e
      rw [← e]
      exact ⟨rfl, .inl rfl⟩
    · rw [if_neg c] at e
      rw [← e]
      exact ⟨rfl, .inr rfl⟩
  refine ⟨?_, hz.r20, fun u hu => ?_, fun u hu q hq => ?_, hz.sl, hz.rq, fun p hp => ?_, fun p hp => ?_⟩
  · show (z.players.modify i _).length ≤ 8
    rw [hl]
    exact hz.le8
  · show _ < (z.players.modify i _).length
    rw [hl]
    exact hz.abs u hu
  · show _ < (z.players.modify i _).length
    rw [hl]
    exact hz.sub u hu q hq
  · obtain ⟨p', h1, h2, h3 | h3⟩ := key p hp
    · rw [h3]; exact hw
    · rw [h3]; exact hz.wt p' h1
  · obtain ⟨p', h1, h2, h3⟩ := key p hp
    rw [h2]
    exact hz.nm p' h1
theorem eraseRule {K : PySem.W.Frag} {H : Hp} {r d pl ru : Addr} {ps rs : List Addr} {z : Vbndam.Room} (k : Nat) (I : RoomIs K H r d pl ru ps rs z) : RoomIs K (upd H ru (.lst ((rs.map V.ref).eraseIdx k))) r d pl ru ps (rs.eraseIdx k) { z with rules := z.rules.eraseIdx k } := by
  have kk : ∀ {b o}, b ≠ ru → H b = some o → upd H ru (.lst ((rs.map V.ref).eraseIdx k)) b = some o := fun hb e => by rw [upd_ne hb]; exact e
  have ki : ∀ {b C dx fs}, H b = some (.ins C dx fs) → b ≠ ru := fun e => ne_of e I.rls (fun q => nomatch q)
  exact ⟨kk (ki I.at_) I.at_, kk I.ne I.pls, by rw [upd_same, eraseMap], I.ne, I.nd, pairedImp (fun a p q => let ⟨dp, e⟩ := q; ⟨dp, kk (ki e) e⟩) I.pAt, pairedErase k (pairedImp (fun a u q => let ⟨du, sl, e, e2, m1, m2⟩ := q; ⟨du, sl, kk (ki e) e, kk m2 e2, m1, m2⟩) I.rAt)⟩
theorem setRoom {K : PySem.W.Frag} {H : Hp} {r d pl ru pa dp : Addr} {ps rs : List Addr} {z : Vbndam.Room} {k wt : Nat} {p0 : Vbndam.Player} (I : RoomIs K H r d pl ru ps rs z) (hk : z.players[k]? = some p0) (hpa : ps[k]? = some pa) (ep : H pa = some (.ins (cl K "Player") dp (fPlayer p0.name (p0.weight : Nat)))) :
    RoomIs K (upd H pa (.ins (cl K "Player") dp (fPlayer p0.name (wt : Nat)))) r d pl ru ps rs { z with players := z.players.modify k fun x => { x with weight := wt } } := by
  have kk : ∀ {b o}, b ≠ pa → H b = some o → upd H pa (.ins (cl K "Player") dp (fPlayer p0.name (wt : Nat))) b = some o := fun hb e => by rw [upd_ne hb]; exact e
  have kl : ∀ {b xs}, H b = some (.lst xs) → b ≠ pa := fun e => ne_of e ep (fun q => nomatch q)
  have n1 : ∀ {b C dx x y}, H b = some (.ins C dx (fRoom x y)) → b ≠ pa := fun e => ne_of e ep (fun q => by
    injection q with _ _ q
    unfold fRoom fPlayer at q
    injection q with q1 _
    exact absurd (Prod.mk.inj q1).1 (by decide))
  have n3 : ∀ {b C dx x y t}, H b = some (.ins C dx (fRule x y t)) → b ≠ pa := fun e => ne_of e ep (fun q => by
    injection q with _ _ q
    unfold fRule fPlayer at q
    injection q with q1 _
    exact absurd (Prod.mk.inj q1).1 (by decide))
  refine ⟨kk (n1 I.at_) I.at_, kk (kl I.pls) I.pls, kk (kl I.rls) I.rls, I.ne, I.nd, ?_, pairedImp (fun a u q => let ⟨du, sl, e, e2, m1, m2⟩ := q; ⟨du, sl, kk (n3 e) e, kk (kl e2) e2, m1, m2⟩) I.rAt⟩
  refine pairedModify (R := PlayerAt K H) (a := pa) (fun b p hb q => let ⟨e1, e2⟩ := q; ⟨e1, kk hb e2⟩) (fun p q => ?_) k I.pAt I.nd hpa
  obtain ⟨e1, e2⟩ := q
  rw [ep] at e2
  have e3 := Option.some.inj e2
  injection e3 with _ _ e3
  unfold fPlayer at e3
  injection e3 with e4 _
  have e5 := SX.S_inj (V.str.inj (Prod.mk.inj e4).2)
  refine ⟨dp, ?_⟩
  rw [upd_same, e5]
section
variable {P : Program} {w : World} {K : PySem.W.Frag} {mg : Str → Option Value} {base : Heap}
def sp_remove_rule (K : PySem.W.Frag) : Sp := fun vs H Q _ => ∃ (s c : Addr) (B : Hp) (z : Vbndam.Room) (k : Nat) (rw : List Int), vs = [.ref s, .ref c] ∧ Same B H ∧ SessAt K B H s (some z) ∧ CallAt K B c 17 [((k + 1 : Nat) : Int)] rw ∧ k < z.rules.length ∧
  OpR K B s (some { z with rules := z.rules.eraseIdx k }) [0, (z.rules.length : Int) - 1] Q
theorem ok_remove_rule {f : Addr} {fd : FuncData} (T : Txt K mg) (F : FnP K "remove_rule" "remove_rule" s_remove_rule f fd) (hm : mg "remove_rule" = some (.ref f))  :
    C8.Cal P w K mg base 1 "remove_rule" (sp_remove_rule K) [] := by
  refine calMk F hm (F.bindsN (ps := ["session", "call"]) fun _ _ _ _ _ _ us hl => match us, hl with | [_, _], _ => rfl) sc_remove_rule (fun vs H Q E h => by first | (obtain ⟨rfl, _⟩ := h; rfl) | (obtain ⟨_, rfl, _⟩ := h; rfl) | (obtain ⟨_, _, rfl, _⟩ := h; rfl) | (obtain ⟨_, _, _, rfl, _⟩ := h; rfl) | (obtain ⟨_, _, _, _, rfl, _⟩ := h; rfl) | (obtain ⟨_, _, _, _, _, rfl, _⟩ := h; rfl) | (obtain ⟨_, _, _, _, _, _, rfl, _⟩ := h; rfl) | (obtain ⟨_, _, _, _, _, _, _, rfl, _⟩ := h; rfl) | (obtain ⟨_, _, _, _, _, _, _, _, rfl, _⟩ := h; rfl) | (obtain ⟨_, _, _, _, _, _, _, _, _, rfl, _⟩ := h; rfl) | (obtain ⟨_, _, _, _, _, _, _, _, _, _, rfl, _⟩ := h; rfl) | (obtain ⟨_, _, _, _, _, _, _, _, _, _, _, rfl, _⟩ := h; rfl) | (obtain ⟨_, _, _, _, _, _, _, _, _, _, _, _, rfl, _⟩ := h; rfl) | (obtain ⟨_, _, _, _, _, _, _, _, _, _, _, _, _, rfl, _⟩ := h; rfl) | (obtain ⟨_, _, _, _, _, _, _, _, _, _, _, _, _, _, rfl, _⟩ := h; rfl)) (fun cdv A outer s H vs Q E hr h => ?_)
  obtain ⟨s, c, B, z, k, rw, rfl, hB, hS, hc, hk, q⟩ := h
  obtain ⟨hs0, dx, r, d, pl, ru, ps, rs, hs, I, hz, hp1, J, hru⟩ := hS.out
  obtain ⟨dc, na, ra, c1, c2, c3⟩ := hc.same hB
  have h20 := hz.r20
  have hlr := pairedLen I.rAt
  refine ⟨_, (pss_cons (ps_set (i := 2) sc_remove_rule.nd rfl (Or.inl rfl) (pe_fld (pe_fld (pv 0) rfl) rfl)) (pss_cons (ps_expr (pe_bm PySem.F.plainAttrs_list PySem.F.slot_list_pop PySem.F.type_list_pop mt_popAt (pv 2) (pa_cons (pe_op op_sub (pe_ix ix_list (pe_fld (pv 1) rfl) pe_int (fun _ _ => rfl)) pe_int) pa_nil))) (pss_one (ps_ret (pe_lst (pa_cons pe_int (pa_cons (pe_callB call_len_seq (by rfl) T.n_len PySem.boot_len (pa_cons (pv 2) pa_nil)) pa_nil))))))), ?_⟩
  refine ⟨_, rfl, s, _, dx, _, _, rfl, hs, T.c_Session, T.a_room, lSession, r, _, d, _, _, rfl, I.at_, T.c_Room, T.a_rules, lRoom2, ?_⟩
  refine ⟨_, rfl, .inl ⟨rfl, _, SqL.of I.rls⟩, ?_⟩
  refine ⟨_, rfl, c, _, dc, _, _, rfl, c1, T.c_Call, T.a_numbers, lCall2, na, _, _, _, rfl, rfl, SqL.of c2, atI_nat (j := 0) rfl, _, _, rfl, rfl, ?_⟩
  have ek : ((k + 1 : Nat) : Int) - 1 = ((k : Nat) : Int) := by omega
  have hkl : k < (rs.map V.ref).length := by rw [List.length_map, hlr]; exact hk
  dsimp only
  rw [ek]
  refine ⟨ru, rs.map V.ref, ((k : Nat) : Int), k, (rs.map V.ref)[k], rfl, rfl, I.rls, by omega, by omega, (ixN_seq (ixNat hkl)).1, List.getElem?_eq_getElem hkl, ?_⟩
  have J2 := eraseRule k J
  rw [← newH_upd hru] at J2
  have kk : ∀ {b o}, b ≠ ru → H b = some o → upd H ru (.lst ((rs.map V.ref).eraseIdx k)) b = some o := fun hb e => by rw [upd_ne hb]; exact e
  have eru : upd H ru (.lst ((rs.map V.ref).eraseIdx k)) ru = some (.lst ((rs.eraseIdx k).map V.ref)) := by rw [upd_same, eraseMap]
  have hs2 := kk (ne_of hs I.rls (fun q => nomatch q)) hs
  have hB2 : Same B (upd H ru (.lst ((rs.map V.ref).eraseIdx k))) := fun b o e => kk (fun x => by subst x; rw [hru] at e; cases e) (hB _ _ e)
  generalize upd H ru (.lst ((rs.map V.ref).eraseIdx k)) = H2 at J2 hs2 hB2 eru
  refine ⟨_, rfl, ru, _, rfl, .inl (SqL.of eru), by show 2 ≤ sizeLine; decide, fun a ha => ?_⟩
  have sa := sameUpd (o := .lst [V.int 0, V.int (((rs.eraseIdx k).map V.ref).length : Nat)]) ha
  refine q _ a (hB2.trans sa) ⟨hs0, dx, r, d, pl, ru, ps, _, sa _ _ hs2, J2.mono (fun b o _ e => sa _ _ e), hz.erase k, hp1⟩ ?_ (hB2.free ha) (by show 2 ≤ 100000; decide)
  rw [upd_same, List.length_map, List.length_eraseIdx, if_pos (by rw [hlr]; exact hk), hlr]
  show some (HO.lst [V.int 0, V.int ((z.rules.length - 1 : Nat) : Int)]) = some (HO.lst [V.int 0, V.int ((z.rules.length : Int) - 1)])
  rw [show ((z.rules.length - 1 : Nat) : Int) = (z.rules.length : Int) - 1 by omega]
def sp_set_weight (K : PySem.W.Frag) : Sp := fun vs H Q _ => ∃ (s c : Addr) (B : Hp) (z : Vbndam.Room) (k wt : Nat) (rw : List Int), vs = [.ref s, .ref c] ∧ Same B H ∧ SessAt K B H s (some z) ∧ CallAt K B c 18 [(k : Int), (wt : Int)] rw ∧ k < Vbndam.playerCount z ∧ wt ≤ 1000 ∧
  OpR K B s (some { z with players := z.players.modify k fun x => { x with weight := wt } }) [0] Q
theorem ok_set_weight {f : Addr} {fd : FuncData} (T : Txt K mg) (F : FnP K "set_weight" "set_weight" s_set_weight f fd) (hm : mg "set_weight" = some (.ref f))  :
    C8.Cal P w K mg base 1 "set_weight" (sp_set_weight K) [] := by
  refine calMk F hm (F.bindsN (ps := ["session", "call"]) fun _ _ _ _ _ _ us hl => match us, hl with | [_, _], _ => rfl) sc_set_weight (fun vs H Q E h => by first | (obtain ⟨rfl, _⟩ := h; rfl) | (obtain ⟨_, rfl, _⟩ := h; rfl) | (obtain ⟨_, _, rfl, _⟩ := h; rfl) | (obtain ⟨_, _, _, rfl, _⟩ := h; rfl) | (obtain ⟨_, _, _, _, rfl, _⟩ := h; rfl) | (obtain ⟨_, _, _, _, _, rfl, _⟩ := h; rfl) | (obtain ⟨_, _, _, _, _, _, rfl, _⟩ := h; rfl) | (obtain ⟨_, _, _, _, _, _, _, rfl, _⟩ := h; rfl) | (obtain ⟨_, _, _, _, _, _, _, _, rfl, _⟩ := h; rfl) | (obtain ⟨_, _, _, _, _, _, _, _, _, rfl, _⟩ := h; rfl) | (obtain ⟨_, _, _, _, _, _, _, _, _, _, rfl, _⟩ := h; rfl) | (obtain ⟨_, _, _, _, _, _, _, _, _, _, _, rfl, _⟩ := h; rfl) | (obtain ⟨_, _, _, _, _, _, _, _, _, _, _, _, rfl, _⟩ := h; rfl) | (obtain ⟨_, _, _, _, _, _, _, _, _, _, _, _, _, rfl, _⟩ := h; rfl) | (obtain ⟨_, _, _, _, _, _, _, _, _, _, _, _, _, _, rfl, _⟩ := h; rfl)) (fun cdv A outer s H vs Q E hr h => ?_)
  obtain ⟨s, c, B, z, k, wt, rw, rfl, hB, hS, hc, hk, hw, q⟩ := h
  obtain ⟨hs0, dx, r, d, pl, ru, ps, rs, hs, I, hz, hp1, J, hru⟩ := hS.out
  obtain ⟨dc, na, ra, c1, c2, c3⟩ := hc.same hB
  have hkp : z.players[k]? = some z.players[k] := List.getElem?_eq_getElem hk
  obtain ⟨pa, hpa, dp, ep⟩ := pairedGet I.pAt hkp
  have hav : (ps.map V.ref)[k]? = some (.ref pa) := by rw [List.getElem?_map, hpa]; rfl
  refine ⟨_, (pss_cons (ps_set (i := 2) sc_set_weight.nd rfl (Or.inl rfl) (pe_ix ix_list (pe_fld (pe_fld (pv 0) rfl) rfl) (pe_ix ix_list (pe_fld (pv 1) rfl) pe_int (fun _ _ => rfl)) (fun _ _ => rfl))) (pss_cons (ps_fld (pv 2) (pe_ix ix_list (pe_fld (pv 1) rfl) pe_int (fun _ _ => rfl)) rfl) (pss_one (ps_ret (pe_lst (pa_cons pe_int pa_nil)))))), ?_⟩
  refine ⟨_, rfl, s, _, dx, _, _, rfl, hs, T.c_Session, T.a_room, lSession, r, _, d, _, _, rfl, I.at_, T.c_Room, T.a_players, lRoom1, _, rfl, c, _, dc, _, _, rfl, c1, T.c_Call, T.a_numbers, lCall2, na, _, _, _, rfl, rfl, SqL.of c2, atI_nat (j := 0) rfl, pl, _, _, .ref pa, rfl, rfl, SqL.of I.pls, atI_nat hav, ?_⟩
  refine ⟨_, rfl, c, _, dc, _, _, rfl, c1, T.c_Call, T.a_numbers, lCall2, na, _, _, _, rfl, rfl, SqL.of c2, atI_nat (j := 1) rfl, ?_⟩
  refine ⟨_, rfl, pa, _, dp, _, rfl, ep, T.c_Player, T.a_weight, by show 2 < 1000; decide, ?_⟩
  rw [pPlayerW]
  obtain ⟨pb, hpb, dq, eq⟩ := pairedGet J.pAt hkp
  obtain rfl : pa = pb := Option.some.inj (hpa.symm.trans hpb)
  obtain ⟨hpa0, eqH⟩ := newH_some eq
  rw [ep] at eqH
  cases eqH
  have J2 := setRoom (wt := wt) J hkp hpa eq
  rw [← newH_upd hpa0] at J2
  have kk : ∀ {b o}, b ≠ pa → H b = some o → upd H pa (.ins (cl K "Player") dp (fPlayer z.players[k].name (wt : Nat))) b = some o := fun hb e => by rw [upd_ne hb]; exact e
  have n2 : ∀ {b C dx x}, H b = some (.ins C dx (fSession x)) → b ≠ pa := fun e => ne_of e ep (fun q => by
    injection q with _ _ q
    unfold fSession fPlayer at q
    injection q with q1 _
    exact absurd (Prod.mk.inj q1).1 (by decide))
  have hs2 := kk (n2 hs) hs
  have hB2 : Same B (upd H pa (.ins (cl K "Player") dp (fPlayer z.players[k].name (wt : Nat)))) := fun b o e => kk (fun x => by subst x; rw [hpa0] at e; cases e) (hB _ _ e)
  generalize upd H pa (.ins (cl K "Player") dp (fPlayer z.players[k].name (wt : Nat))) = H2 at J2 hs2 hB2
  refine ⟨by show 1 ≤ sizeLine; decide, fun a ha => ?_⟩
  have sa := sameUpd (o := .lst [V.int 0]) ha
  refine q _ a (hB2.trans sa) ⟨hs0, dx, r, d, pl, ru, ps, rs, sa _ _ hs2, J2.mono (fun b o _ e => sa _ _ e), hz.setW k wt hw, ?_⟩ upd_same (hB2.free ha) (by show 1 ≤ 100000; decide)
  show 1 ≤ (z.players.modify k _).length
  rw [List.length_modify]
  exact hp1
end
end SI

set_option maxHeartbeats 4000000
namespace SI
open PySem PySem.Spec PyProof.Rows L2
open Vbndam (toInts withLength flag toPairs toNats inRange isByteList stepLists withCoalition withPlayer withRoom fail succeed)
section
variable {P : Program} {w : World} {K : PySem.W.Frag} {mg : Str → Option Value} {base : Heap}
def sp_load_room (K : PySem.W.Frag) : Sp := fun vs H Q _ => ∃ (s c : Addr) (B : Hp) (st : St) (codes : List Nat), vs = [.ref s, .ref c] ∧ Same B H ∧ SessAt K B H s st ∧ CallAt K B c 0 [] (toInts codes) ∧ codes.length ≤ 10000 ∧
  (∀ er, Vbndam.parseRoom codes = .error er → OpR K B s st [-3] Q) ∧ (∀ z, Vbndam.parseRoom codes = .ok z → OpR K B s (some z) (0 :: toInts [Vbndam.playerCount z, z.rules.length]) Q)
theorem ok_load_room {f : Addr} {fd : FuncData} (T : Txt K mg) (F : FnP K "load_room" "load_room" s_load_room f fd) (hm : mg "load_room" = some (.ref f)) (c_parse_room : CalX P w K mg base 10 "parse_room" (sp_parse_room K)) (fault : FaultI P w K mg base) :
    C8.Cal P w K mg base 11 "load_room" (sp_load_room K) [] := by
  refine calMk F hm (F.bindsN (ps := ["session", "call"]) fun _ _ _ _ _ _ us hl => match us, hl with | [_, _], _ => rfl) sc_load_room (fun vs H Q E h => by first | (obtain ⟨rfl, _⟩ := h; rfl) | (obtain ⟨_, rfl, _⟩ := h; rfl) | (obtain ⟨_, _, rfl, _⟩ := h; rfl) | (obtain ⟨_, _, _, rfl, _⟩ := h; rfl) | (obtain ⟨_, _, _, _, rfl, _⟩ := h; rfl) | (obtain ⟨_, _, _, _, _, rfl, _⟩ := h; rfl) | (obtain ⟨_, _, _, _, _, _, rfl, _⟩ := h; rfl) | (obtain ⟨_, _, _, _, _, _, _, rfl, _⟩ := h; rfl) | (obtain ⟨_, _, _, _, _, _, _, _, rfl, _⟩ := h; rfl) | (obtain ⟨_, _, _, _, _, _, _, _, _, rfl, _⟩ := h; rfl) | (obtain ⟨_, _, _, _, _, _, _, _, _, _, rfl, _⟩ := h; rfl) | (obtain ⟨_, _, _, _, _, _, _, _, _, _, _, rfl, _⟩ := h; rfl) | (obtain ⟨_, _, _, _, _, _, _, _, _, _, _, _, rfl, _⟩ := h; rfl) | (obtain ⟨_, _, _, _, _, _, _, _, _, _, _, _, _, rfl, _⟩ := h; rfl) | (obtain ⟨_, _, _, _, _, _, _, _, _, _, _, _, _, _, rfl, _⟩ := h; rfl)) (fun cdv A outer s H vs Q E hr h => ?_)
  obtain ⟨s, c, B, st, codes, rfl, hB, hS, hc, hl, q1, q2⟩ := h
  obtain ⟨fP, fdP, psP, FP, hmP, kP, bP⟩ := c_parse_room.ex
  obtain ⟨dc, na, ra, c1, c2, c3⟩ := hc.same hB
  rw [← natsI] at c3
  refine ⟨_, (pss_cons (ps_try_only (tb := fun W => tAsg (tCallS (sp_parse_room K) (WE W) (tCons (tFld K (tVar 1) "row") tNil)) (gName 2)) (ts := fun _ _ _ => tRet (tLst (tCons (tC (.int (-3))) tNil))) (Wout := fun _ _ _ _ => False) rfl rfl ⟨rfl, by decide, Or.inl fault.hm⟩ takes0
      (fun W pn xe tk _ => pss_one (ps_set (i := 2) sc_load_room.nd rfl (Or.inl rfl) (pe_callS FP (hr.mono (by decide)) (by rfl) hmP kP bP (fun σ => passAt tk σ) (by exact (pa_cons (pe_fld (pv 1) rfl) pa_nil)))))
      (fun _ _ _ _ _ _ _ => pss_one (ps_ret (pe_lst (pa_cons (C8.pe_gc (by rfl) T.g_INVALID_TEXT) pa_nil)))))
    (pss_cons (ps_fld (pv 0) (pv 2) rfl) (pss_one (ps_ret (pe_lst (pa_cons pe_int (pa_cons (pe_callB call_len_seq (by rfl) T.n_len PySem.boot_len (pa_cons (pe_fld (pv 2) rfl) pa_nil)) (pa_cons (pe_callB call_len_seq (by rfl) T.n_len PySem.boot_len (pa_cons (pe_fld (pv 2) rfl) pa_nil)) pa_nil)))))))), ?_⟩
  refine ⟨_, rfl, c, _, dc, _, _, rfl, c1, T.c_Call, T.a_row, lCall3, ra, codes, rfl, c3, hl, fun z hz H1 r d pl ru ps rs s1 J hpf hp1 => ?_, fun er her d H1 s1 hd => ?_⟩
  · have I := J.sub
    obtain ⟨hs0, dx, hSt⟩ := hS
    obtain ⟨v, hs⟩ : ∃ v, H s = some (.ins (cl K "Session") dx (fSession v)) := by
      cases st with
      | none => exact ⟨_, hSt⟩
      | some z => obtain ⟨_, _, _, _, _, _, x, _⟩ := hSt; exact ⟨_, x⟩
    refine ⟨_, rfl, _, rfl, s, _, dx, _, rfl, s1 _ _ hs, T.c_Session, T.a_room, by show 1 < 1000; decide, ?_⟩
    rw [pSession]
    have hB1 : Same B (upd H1 s (.ins (cl K "Session") dx (fSession (.ref r)))) := fun b o e => by
      rw [upd_ne (fun x => by subst x; rw [hs0] at e; cases e)]
      exact s1 _ _ (hB _ _ e)
    have J2 : RoomIs K (newH B (upd H1 s (.ins (cl K "Session") dx (fSession (.ref r))))) r d pl ru ps rs z := by
      have nb : ∀ b o, newH H H1 b = some o → newH B (upd H1 s (.ins (cl K "Session") dx (fSession (.ref r)))) b = some o := fun b o e => by
        obtain ⟨e1, e2⟩ := newH_some e
        refine newH_of (hB.free e1) ?_
        rw [upd_ne (fun x => by subst x; rw [hs] at e1; cases e1)]
        exact e2
      exact J.same nb
    have es : upd H1 s (.ins (cl K "Session") dx (fSession (.ref r))) s = some (.ins (cl K "Session") dx (fSession (.ref r))) := upd_same
    generalize upd H1 s (.ins (cl K "Session") dx (fSession (.ref r))) = H2 at hB1 J2 es
    have I2 := J2.sub
    refine ⟨_, rfl, r, _, d, _, _, rfl, I2.at_, T.c_Room, T.a_players, lRoom1, pl, _, rfl, .inl (SqL.of I2.pls), _, rfl, r, _, d, _, _, rfl, I2.at_, T.c_Room, T.a_rules, lRoom2, ru, _, rfl, .inl (SqL.of I2.rls), by show 3 ≤ sizeLine; decide, fun a ha => ?_⟩
    have sa := sameUpd (o := .lst [V.int 0, V.int ((ps.map V.ref).length : Nat), V.int ((rs.map V.ref).length : Nat)]) ha
    refine q2 z hz _ a (hB1.trans sa) ⟨hs0, dx, r, d, pl, ru, ps, rs, sa _ _ es, J2.mono (fun b o _ e => sa _ _ e), hpf, hp1⟩ ?_ (hB1.free ha) (by show 3 ≤ 100000; decide)
    rw [upd_same, List.length_map, List.length_map, pairedLen I.pAt, pairedLen I.rAt]
    rfl
  · refine ⟨true, fault.gk.em, fun _ a ha => ?_, fun q => nomatch q⟩
    refine ⟨by show 1 ≤ sizeLine; decide, fun a2 ha2 => ?_⟩
    have s2 := s1.trans (sameUpd (o := .lst [V.int (-3)]) ha2)
    exact q1 er her _ a2 (hB.trans s2) (hS.same s2) upd_same (hB.free (s1.free ha2)) (by show 1 ≤ 100000; decide)
def sp_check_room (K : PySem.W.Frag) : Sp := fun vs H Q _ => ∃ (s c : Addr) (B : Hp) (st : St) (codes : List Nat), vs = [.ref s, .ref c] ∧ Same B H ∧ SessAt K B H s st ∧ CallAt K B c 1 [] (toInts codes) ∧ codes.length ≤ 10000 ∧
  (∀ er, Vbndam.parseRoom codes = .error er → OpR K B s st (0 :: toInts [1, er.code, er.offset]) Q) ∧ (∀ z, Vbndam.parseRoom codes = .ok z → OpR K B s st (0 :: toInts [0, Vbndam.playerCount z, z.rules.length]) Q)
theorem ok_check_room {f : Addr} {fd : FuncData} (T : Txt K mg) (F : FnP K "check_room" "check_room" s_check_room f fd) (hm : mg "check_room" = some (.ref f)) (c_parse_room : CalX P w K mg base 10 "parse_room" (sp_parse_room K)) (fault : FaultI P w K mg base) :
    C8.Cal P w K mg base 11 "check_room" (sp_check_room K) [] := by
  refine calMk F hm (F.bindsN (ps := ["session", "call"]) fun _ _ _ _ _ _ us hl => match us, hl with | [_, _], _ => rfl) sc_check_room (fun vs H Q E h => by first | (obtain ⟨rfl, _⟩ := h; rfl) | (obtain ⟨_, rfl, _⟩ := h; rfl) | (obtain ⟨_, _, rfl, _⟩ := h; rfl) | (obtain ⟨_, _, _, rfl, _⟩ := h; rfl) | (obtain ⟨_, _, _, _, rfl, _⟩ := h; rfl) | (obtain ⟨_, _, _, _, _, rfl, _⟩ := h; rfl) | (obtain ⟨_, _, _, _, _, _, rfl, _⟩ := h; rfl) | (obtain ⟨_, _, _, _, _, _, _, rfl, _⟩ := h; rfl) | (obtain ⟨_, _, _, _, _, _, _, _, rfl, _⟩ := h; rfl) | (obtain ⟨_, _, _, _, _, _, _, _, _, rfl, _⟩ := h; rfl) | (obtain ⟨_, _, _, _, _, _, _, _, _, _, rfl, _⟩ := h; rfl) | (obtain ⟨_, _, _, _, _, _, _, _, _, _, _, rfl, _⟩ := h; rfl) | (obtain ⟨_, _, _, _, _, _, _, _, _, _, _, _, rfl, _⟩ := h; rfl) | (obtain ⟨_, _, _, _, _, _, _, _, _, _, _, _, _, rfl, _⟩ := h; rfl) | (obtain ⟨_, _, _, _, _, _, _, _, _, _, _, _, _, _, rfl, _⟩ := h; rfl)) (fun cdv A outer s H vs Q E hr h => ?_)
  obtain ⟨s, c, B, st, codes, rfl, hB, hS, hc, hl, q1, q2⟩ := h
  obtain ⟨fP, fdP, psP, FP, hmP, kP, bP⟩ := c_parse_room.ex
  obtain ⟨dc, na, ra, c1, c2, c3⟩ := hc.same hB
  rw [← natsI] at c3
  refine ⟨_, (pss_cons (ps_try_as (i := 3) (tb := fun W => tAsg (tCallS (sp_parse_room K) (WE W) (tCons (tFld K (tVar 1) "row") tNil)) (gName 2)) (ts := fun a cls d => tRet (tLst (tCons (tC (.int 0)) (tCons (tC (.int 1)) (tCons (tXf a cls d (clF K) "kind" (tVar 3)) (tCons (tXf a cls d (clF K) "offset" (tVar 3)) tNil)))))) (Wout := fun _ _ _ _ => False) rfl rfl sc_check_room.nd rfl rfl ⟨rfl, by decide, Or.inl fault.hm⟩ takes0
      (fun W pn xe tk _ => pss_one (ps_set (i := 2) sc_check_room.nd rfl (Or.inl rfl) (pe_callS FP (hr.mono (by decide)) (by rfl) hmP kP bP (fun σ => passAt tk σ) (by exact (pa_cons (pe_fld (pv 1) rfl) pa_nil)))))
      (fun a oe cls d pn hz hf => pss_one (ps_ret (pe_lst (pa_cons pe_int (pa_cons pe_int (pa_cons (pe_xf fault.gk.xf fault.gk.nk hz hf (pv 3)) (pa_cons (pe_xf fault.gk.xf fault.gk.no hz hf (pv 3)) pa_nil))))))))
    (pss_one (ps_ret (pe_lst (pa_cons pe_int (pa_cons pe_int (pa_cons (pe_callB call_len_seq (by rfl) T.n_len PySem.boot_len (pa_cons (pe_fld (pv 2) rfl) pa_nil)) (pa_cons (pe_callB call_len_seq (by rfl) T.n_len PySem.boot_len (pa_cons (pe_fld (pv 2) rfl) pa_nil)) pa_nil)))))))), ?_⟩
  refine ⟨_, rfl, c, _, dc, _, _, rfl, c1, T.c_Call, T.a_row, lCall3, ra, codes, rfl, c3, hl, fun z hz H1 r d pl ru ps rs s1 J hpf hp1 => ?_, fun er her d H1 s1 hd => ?_⟩
  · have I2 := J.sub
    refine ⟨_, rfl, r, _, d, _, _, rfl, I2.at_, T.c_Room, T.a_players, lRoom1, pl, _, rfl, .inl (SqL.of I2.pls), _, rfl, r, _, d, _, _, rfl, I2.at_, T.c_Room, T.a_rules, lRoom2, ru, _, rfl, .inl (SqL.of I2.rls), by show 4 ≤ sizeLine; decide, fun a ha => ?_⟩
    have s2 := s1.trans (sameUpd (o := .lst [V.int 0, V.int 0, V.int ((ps.map V.ref).length : Nat), V.int ((rs.map V.ref).length : Nat)]) ha)
    refine q2 z hz _ a (hB.trans s2) (hS.same s2) ?_ (hB.free (s1.free ha)) (by show 4 ≤ 100000; decide)
    rw [upd_same, List.length_map, List.length_map, pairedLen I2.pAt, pairedLen I2.rAt]
    rfl
  · refine ⟨true, fault.gk.em, fun _ a ha => ?_, fun q => nomatch q⟩
    refine ⟨_, rfl, rfl, rfl, d, _, _, rfl, hd, (lkP (by decide +kernel)).trans lkH, _, rfl, rfl, rfl, d, _, _, rfl, hd, lkH, by show 4 ≤ sizeLine; decide, fun a2 ha2 => ?_⟩
    have s2 := s1.trans (sameUpd (o := .lst [V.int 0, V.int 1, V.int (er.code : Nat), V.int (er.offset : Nat)]) ha2)
    exact q1 er her _ a2 (hB.trans s2) (hS.same s2) upd_same (hB.free (s1.free ha2)) (by show 4 ≤ 100000; decide)
theorem in_coal : ∀ m : Fin 20, isIn [3, 4, 5, 6, 7, 12] ((m.val : Nat) : Int) = true → 1 ≤ (NR.getD m.val []).length ∧ isIn [0, 1] ((m.val : Nat) : Int) = false := by decide
theorem in_pack : ∀ m : Fin 20, isIn [11] ((m.val : Nat) : Int) = true → m.val = 11 := by decide
theorem in_play : ∀ m : Fin 20, isIn [13, 14, 18] ((m.val : Nat) : Int) = true → 1 ≤ (NR.getD m.val []).length ∧ isIn [0, 1] ((m.val : Nat) : Int) = false := by decide
theorem in_rule : ∀ m : Fin 20, isIn [17] ((m.val : Nat) : Int) = true → 1 ≤ (NR.getD m.val []).length ∧ isIn [0, 1] ((m.val : Nat) : Int) = false := by decide
def RV (K : PySem.W.Frag) (H : Hp) (v : V) : St → Prop
  | none => True
  | some z => ∃ r, v = .ref r ∧ RoomAt K H r z ∧ WF z
def thereS (st : St) (m : Nat) (ns rw : List Int) : Bool := match st with
  | none => true
  | some z => thereB z m ns rw
def sp_all_are_there (K : PySem.W.Frag) : Sp := fun vs H Q _ => ∃ (v : V) (c : Addr) (m : Nat) (ns rw : List Int) (st : St), vs = [v, .ref c] ∧ CallAt K H c (m : Nat) ns rw ∧ m < 20 ∧ ns.length = (NR.getD m []).length ∧ fitB m ns rw = true ∧ RV K H v st ∧ (st = none → isIn [0, 1] m = true) ∧
  ∀ H', Same H H' → Q (.bl (thereS st m ns rw)) H'
theorem ok_all_are_there {f : Addr} {fd : FuncData} (T : Txt K mg) (F : FnP K "all_are_there" "all_are_there" s_all_are_there f fd) (hm : mg "all_are_there" = some (.ref f)) (c_takes_coalition : C8.Cal P w K mg base 1 "takes_coalition" (sp_takes_coalition K) []) (c_takes_packing : C8.Cal P w K mg base 1 "takes_packing" (sp_takes_packing K) []) (c_takes_player : C8.Cal P w K mg base 1 "takes_player" (sp_takes_player K) []) (c_exists : C8.Cal P w K mg base 2 "exists" (sp_exists K) []) (c_takes_rule : C8.Cal P w K mg base 1 "takes_rule" (sp_takes_rule K) []) (c_pairs : C8.Cal P w K mg base 1 "pairs" (sp_pairs K) []) :
    C8.Cal P w K mg base 3 "all_are_there" (sp_all_are_there K) [] := by
  refine calMk F hm (F.bindsN (ps := ["room", "call"]) fun _ _ _ _ _ _ us hl => match us, hl with | [_, _], _ => rfl) sc_all_are_there (fun vs H Q E h => by first | (obtain ⟨rfl, _⟩ := h; rfl) | (obtain ⟨_, rfl, _⟩ := h; rfl) | (obtain ⟨_, _, rfl, _⟩ := h; rfl) | (obtain ⟨_, _, _, rfl, _⟩ := h; rfl) | (obtain ⟨_, _, _, _, rfl, _⟩ := h; rfl) | (obtain ⟨_, _, _, _, _, rfl, _⟩ := h; rfl) | (obtain ⟨_, _, _, _, _, _, rfl, _⟩ := h; rfl) | (obtain ⟨_, _, _, _, _, _, _, rfl, _⟩ := h; rfl) | (obtain ⟨_, _, _, _, _, _, _, _, rfl, _⟩ := h; rfl) | (obtain ⟨_, _, _, _, _, _, _, _, _, rfl, _⟩ := h; rfl) | (obtain ⟨_, _, _, _, _, _, _, _, _, _, rfl, _⟩ := h; rfl) | (obtain ⟨_, _, _, _, _, _, _, _, _, _, _, rfl, _⟩ := h; rfl) | (obtain ⟨_, _, _, _, _, _, _, _, _, _, _, _, rfl, _⟩ := h; rfl) | (obtain ⟨_, _, _, _, _, _, _, _, _, _, _, _, _, rfl, _⟩ := h; rfl) | (obtain ⟨_, _, _, _, _, _, _, _, _, _, _, _, _, _, rfl, _⟩ := h; rfl)) (fun cdv A outer s H vs Q E hr h => ?_)
  obtain ⟨v, c, m, ns, rw, st, rfl, hc, hm, hns, hfit, hv, hst, q⟩ := h
  obtain ⟨dc, na, ra, c1, c2, c3⟩ := id hc
  refine ⟨_, (pss_cons (ps_if (pt_val (C8.pe_c c_takes_coalition hr (by decide) (by rfl) (pa_cons (pv 1) pa_nil))) (pss_one (ps_ret (C8.pe_c c_exists hr (by decide) (by rfl) (pa_cons (pv 0) (pa_cons (pe_ix ix_list (pe_fld (pv 1) rfl) pe_int (fun _ _ => rfl)) pa_nil))))) pss_nil) (pss_cons (ps_if (pt_val (C8.pe_c c_takes_packing hr (by decide) (by rfl) (pa_cons (pv 1) pa_nil))) (pss_one (ps_ret (pe_callB (cr_all (by rfl)) (by rfl) T.n_all (by decide +kernel) (pa_cons (pe_lc (own := [("pair", 2)]) (g := (gName 2)) (by rfl) sc_all_are_there.nd (pi_list (C8.pe_c c_pairs hr (by decide) (by rfl) (pa_cons (pe_fld (pv 1) rfl) pa_nil))) (blkOk_by (own := [("pair", 2)]) (N := ["room", "call", "pair"]) (sc := defScope s_all_are_there) (by decide +kernel)) (fun _ _ _ _ _ => pg_name (i := 2) sc_all_are_there.nd rfl (Or.inl rfl)) (fun _ _ _ _ _ => pts_nil) (fun _ _ _ _ _ => (C8.pe_c c_exists hr (by decide) (by rfl) (pa_cons (pv 0) (pa_cons (pe_ix (r := rIxT K) ix_tup (pv 2) pe_int (fun _ _ => rfl)) pa_nil))))) pa_nil)))) pss_nil) (pss_cons (ps_if (pt_val (C8.pe_c c_takes_player hr (by decide) (by rfl) (pa_cons (pv 1) pa_nil))) (pss_one (ps_ret (pe_cmpR op_lt (pe_ix ix_list (pe_fld (pv 1) rfl) pe_int (fun _ _ => rfl)) (pe_callB call_len_seq (by rfl) T.n_len PySem.boot_len (pa_cons (pe_fld (pv 0) rfl) pa_nil)) (nomark _)))) pss_nil) (pss_one (ps_ret (pe_or (pe_not (C8.pe_c c_takes_rule hr (by decide) (by rfl) (pa_cons (pv 1) pa_nil))) (pe_one (pe_cmpR op_le (pe_ix ix_list (pe_fld (pv 1) rfl) pe_int (fun _ _ => rfl)) (pe_callB call_len_seq (by rfl) T.n_len PySem.boot_len (pa_cons (pe_fld (pv 0) rfl) pa_nil)) (nomark _))))))))), ?_⟩
  have get0 : 1 ≤ ns.length → (ns.map V.int)[0]? = some (.int (ns.getD 0 0)) := fun h => by
    cases ns with
    | nil => cases h
    | cons x l => rfl
  refine ⟨_, rfl, c, m, ns, rw, rfl, hc, _, rfl, ?_⟩
  show if isIn [3, 4, 5, 6, 7, 12] (m : Int) = true then _ else _
  cases h1 : isIn [3, 4, 5, 6, 7, 12] m with
  | true =>
    obtain ⟨g1, g2⟩ := in_coal ⟨m, hm⟩ h1
    refine iteT ?_
    cases st with
    | none => have := hst rfl; rw [g2] at this; cases this
    | some z =>
      obtain ⟨r, rfl, hR, wz⟩ := hv
      have g3 : 1 ≤ ns.length := by rw [hns]; exact g1
      refine ⟨_, rfl, _, rfl, c, _, dc, _, _, rfl, c1, T.c_Call, T.a_numbers, lCall2, na, _, _, _, rfl, rfl, SqL.of c2, atI_nat (get0 g3), r, z, _, rfl, hR, wz, ?_⟩
      have q2 := q _ (Same.refl _)
      unfold thereS thereB at q2
      dsimp only at q2
      rw [if_pos h1] at q2
      exact q2
  | false =>
    refine iteF ?_
    refine ⟨_, rfl, c, m, ns, rw, rfl, hc, _, rfl, ?_⟩
    show if isIn [11] (m : Int) = true then _ else _
    cases h2 : isIn [11] m with
    | true =>
      have g1 := in_pack ⟨m, hm⟩ h2
      dsimp only at g1
      subst g1
      refine iteT ?_
      cases st with
      | none => have := hst rfl; cases this
      | some z =>
        obtain ⟨r, rfl, hR, wz⟩ := hv
        have hpk : packFit rw = true := by
          have := hfit
          unfold fitB at this
          rw [Bool.and_eq_true] at this
          exact this.2
        obtain ⟨h40, hev⟩ := paired_ok (pack_ok hpk).1
        refine ⟨_, rfl, c, _, dc, _, _, rfl, c1, T.c_Call, T.a_row, lCall3, ra, rw, rfl, c3, h40, hev, fun H1 p1 s1 hp1 hP => ?_⟩
        obtain ⟨ts, e1, hts⟩ := hP
        have hlt : ts.length = rw.length / 2 := (pairedLen hts).trans (pairsI_len _ _ rfl)
        refine ⟨p1, rfl, ⟨_, SqL.of e1⟩, fun D hD => ?_⟩
        refine lcM walk_list (pairsI rw) (fun q => V.bl (decide (q.1 ≤ (ev z : Nat)))) (by rw [List.length_map, pairedLen hts]) (by rw [List.length_map]; omega) hD (fun H2 s2 => SqL.of (s2 _ _ e1)) (fun i x v H2 H3 hx s2 hy N y1 => ?_) (fun H2 s2 e2 => ?_) (gNameMono _)
        · obtain ⟨rfl, hv⟩ := hy
          rw [List.getElem?_map] at hv
          obtain ⟨t, ht, rfl⟩ := Option.map_eq_some_iff.mp hv
          obtain ⟨y, hy, hP⟩ := pairedGetL hts ht
          rw [hx] at hy
          obtain rfl : x = y := Option.some.inj hy
          have e3 := s2 _ _ hP
          exact ⟨rfl, _, rfl, _, rfl, t, _, 0, _, rfl, rfl, SqT.of e3, atI_nat (j := 0) rfl, r, z, _, rfl, (hR.same s1).same s2, wz, y1 _ (Same.refl _)⟩
        · refine ⟨D, (pairsI rw).map (fun q : Int × Int => decide (q.1 ≤ ((ev z : Nat) : Int))), rfl, ?_, ?_⟩
          · rw [List.map_map]
            exact SqL.of e2
          · have q2 := q H2 (s1.trans s2)
            unfold thereS thereB at q2
            dsimp only at q2
            rw [if_neg (by rw [h1]; decide), if_pos h2] at q2
            rw [List.all_map]
            exact q2
    | false =>
      refine iteF ?_
      refine ⟨_, rfl, c, m, ns, rw, rfl, hc, _, rfl, ?_⟩
      show if isIn [13, 14, 18] (m : Int) = true then _ else _
      cases h3 : isIn [13, 14, 18] m with
      | true =>
        obtain ⟨g1, g2⟩ := in_play ⟨m, hm⟩ h3
        refine iteT ?_
        cases st with
        | none => have := hst rfl; rw [g2] at this; cases this
        | some z =>
          obtain ⟨r, rfl, ⟨d, pl, ru, ps, rs, I⟩, wz⟩ := hv
          have g3 : 1 ≤ ns.length := by rw [hns]; exact g1
          refine ⟨_, rfl, c, _, dc, _, _, rfl, c1, T.c_Call, T.a_numbers, lCall2, na, _, _, _, rfl, rfl, SqL.of c2, atI_nat (get0 g3), _, rfl, r, _, d, _, _, rfl, I.at_, T.c_Room, T.a_players, lRoom1, pl, _, rfl, .inl (SqL.of I.pls), _, _, rfl, rfl, ?_⟩
          have q2 := q _ (Same.refl _)
          unfold thereS thereB at q2
          dsimp only at q2
          rw [if_neg (by rw [h1]; decide), if_neg (by rw [h2]; decide), if_pos h3] at q2
          rw [List.length_map, pairedLen I.pAt]
          exact q2
      | false =>
        refine iteF ?_
        refine ⟨_, rfl, c, m, ns, rw, rfl, hc, _, rfl, _, rfl, ?_⟩
        show if (!isIn [17] (m : Int)) = true then _ else _
        cases h4 : isIn [17] m with
        | false =>
          refine iteT ?_
          have q2 := q _ (Same.refl _)
          cases st with
          | none => exact q2
          | some z =>
            unfold thereS thereB at q2
            dsimp only at q2
            rw [if_neg (by rw [h1]; decide), if_neg (by rw [h2]; decide), if_neg (by rw [h3]; decide), h4] at q2
            exact q2
        | true =>
          obtain ⟨g1, g2⟩ := in_rule ⟨m, hm⟩ h4
          refine iteF ?_
          cases st with
          | none => have := hst rfl; rw [g2] at this; cases this
          | some z =>
            obtain ⟨r, rfl, ⟨d, pl, ru, ps, rs, I⟩, wz⟩ := hv
            have g3 : 1 ≤ ns.length := by rw [hns]; exact g1
            refine ⟨_, rfl, c, _, dc, _, _, rfl, c1, T.c_Call, T.a_numbers, lCall2, na, _, _, _, rfl, rfl, SqL.of c2, atI_nat (get0 g3), _, rfl, r, _, d, _, _, rfl, I.at_, T.c_Room, T.a_rules, lRoom2, ru, _, rfl, .inl (SqL.of I.rls), _, _, rfl, rfl, ?_⟩
            have q2 := q _ (Same.refl _)
            unfold thereS thereB at q2
            dsimp only at q2
            rw [if_neg (by rw [h1]; decide), if_neg (by rw [h2]; decide), if_neg (by rw [h3]; decide), h4] at q2
            rw [List.length_map, pairedLen I.rAt]
            exact q2
end
end SI

set_option maxHeartbeats 4000000
namespace SI
open PySem PySem.Spec PyProof.Rows L2
open Vbndam (toInts withLength flag toPairs toNats inRange isByteList stepLists withCoalition withPlayer withRoom fail succeed)
def opN : List Str := ["load_room", "check_room", "print_room", "acting_coalition", "check_steps", "is_closed", "is_sufficient", "is_blocking", "minimal_sufficient", "minimal_blocking", "cheapest_sufficient", "verify_packing", "minimal_returns", "swing_count", "power_index", "continuation_probability", "sufficient_counts", "remove_rule", "set_weight", "summary"]
def opA (K : PySem.W.Frag) (i : Nat) : Addr := cl K (opN.getD i "")
def opS (K : PySem.W.Frag) : Nat → Sp
  | 0 => sp_load_room K | 1 => sp_check_room K | 2 => sp_print_room K | 3 => sp_acting_coalition K | 4 => sp_check_steps K | 5 => sp_is_closed K | 6 => sp_is_sufficient K | 7 => sp_is_blocking K | 8 => sp_minimal_sufficient K | 9 => sp_minimal_blocking K
  | 10 => sp_cheapest_sufficient K | 11 => sp_verify_packing K | 12 => sp_minimal_returns K | 13 => sp_swing_count K | 14 => sp_power_index K | 15 => sp_continuation_probability K | 16 => sp_sufficient_counts K | 17 => sp_remove_rule K | 18 => sp_set_weight K | _ => sp_summary K
def HeldM (P : Program) (w : World) (K : PySem.W.Frag) (mg : Str → Option Value) (base : Heap) (j : Nat) : Prop := ∀ m, m < 20 → ∃ k, k ≤ j ∧ ∃ (fd : FuncData) (ps : List Str), FnOk P w K mg base L2.CX0 k (opA K m) fd ps (opS K m) ∧ PySem.W.keepIn K (.ref (opA K m)) = true ∧ Binds K fd ps []
def tCallM (K : PySem.W.Frag) (i : Nat) (t : TA) : TE := fun σ H Q => ∃ m, m < 20 ∧ σ[i]? = some (some (.ref (opA K m))) ∧ t σ H fun vs H1 => opS K m vs H1 Q C8.E0
theorem pe_callM {X : Cx} {i j : Nat} {x : Str} {e : Expr} {es : List Expr} {p pos : Pos} {t : TA} (A : HeldM X.prog X.w X.K X.mg X.base j) (hr : Room j X.A) (hN : X.N[i]? = some x) (hv : Vis X.env.scope x) (ha : PA X (e :: es) t)
    (hdb : (x == ("__debug__" : Str)) = false := by decide) (hcd : (x == ("__classdict__" : Str)) = false := by decide)
    (he : starEach (e :: es) X.env = (false, eval e X.env) :: starEach es X.env := by rfl) (hpl : (backTo pos (starEach es X.env)).any (·.1) = false := by rfl) : PE X (.Call (.Name x p) (e :: es) [] pos) (tCallM X.K i t) := by
  refine ⟨fun pins sh σ H Q I q => ?_⟩
  obtain ⟨m, hm, hs, ht⟩ := q
  obtain ⟨k, hk, fd, ps, F, kp, b⟩ := A m hm
  have e1 : (fun (us : List V) (H2 : Hp) => opS X.K m (us ++ []) H2 Q C8.E0) = fun us H2 => opS X.K m us H2 Q C8.E0 := by
    funext us H2
    rw [List.append_nil]
  refine (pe_callL (i := i) (f := opA X.K m) (sp := opS X.K m) (dvs := []) (E := C8.E0) F (hr.mono hk) hN hv kp b .nil C8.pass0 ha hdb hcd he hpl).run pins sh σ H Q I ⟨hs, ?_⟩
  show t σ H (fun us H2 => opS X.K m (us ++ []) H2 Q C8.E0)
  rw [e1]
  exact ht
theorem toNats_ints {rw : List Int} (h : rw.all (fun c => inRange c 0 255) = true) : toInts (toNats rw) = rw := by
  unfold toInts toNats
  rw [List.map_map]
  refine (List.map_congr_left fun x hx => ?_).trans (List.map_id rw)
  have := inR (List.all_eq_true.mp h x hx)
  exact Int.toNat_of_nonneg this.1
theorem byteList {rw : List Int} (h : isByteList rw 2000 = true) : rw.length ≤ 2000 ∧ toInts (toNats rw) = rw := by
  unfold isByteList at h
  rw [Bool.and_eq_true, decide_eq_true_eq] at h
  exact ⟨h.1, toNats_ints h.2⟩
theorem coalQ {K : PySem.W.Frag} {B : Hp} {s : Addr} {z : Vbndam.Room} {x : Int} {F : Vbndam.Room → Nat → St × List Int} {Q : VK} (e : inRange x 0 255 = true) (h : decide (x ≤ ((ev z : Nat) : Int)) = true) (q : OpR K B s (withCoalition (some z) x F).1 (withCoalition (some z) x F).2 Q) :
    ∃ k : Nat, x = (k : Int) ∧ k ≤ ev z ∧ OpR K B s (F z k).1 (F z k).2 Q := by
  obtain ⟨k, h1, h2, h3⟩ := coalT (f := F) e h
  rw [h3] at q
  exact ⟨k, h1, h2, q⟩
theorem playQ {K : PySem.W.Frag} {B : Hp} {s : Addr} {z : Vbndam.Room} {x : Int} {F : Vbndam.Room → Nat → St × List Int} {Q : VK} (e : inRange x 0 7 = true) (h : decide (x < ((Vbndam.playerCount z : Nat) : Int)) = true) (q : OpR K B s (withPlayer (some z) x F).1 (withPlayer (some z) x F).2 Q) :
    ∃ k : Nat, x = (k : Int) ∧ k < Vbndam.playerCount z ∧ OpR K B s (F z k).1 (F z k).2 Q := by
  obtain ⟨k, h1, h2, h3⟩ := playT (f := F) e h
  rw [h3] at q
  exact ⟨k, h1, h2, q⟩
theorem dispatch {K : PySem.W.Frag} {B H : Hp} {s c : Addr} {st : St} {Q : VK} {E : XK} {m : Nat} {ns rw : List Int} {raw : List (List Int)} (h : Shaped m ns rw raw) : fitB m ns rw = true → (st = none → isIn [0, 1] m = true) → thereS st m ns rw = true → Same B H → SessAt K B H s st → CallAt K B c (m : Nat) ns rw →
    OpR K B s (stepLists st raw).1 (stepLists st raw).2 Q → opS K m [.ref s, .ref c] H Q E := by
  refine shaped_cases (A := fun m ns rw raw => fitB m ns rw = true → (st = none → isIn [0, 1] m = true) → thereS st m ns rw = true → Same B H → SessAt K B H s st → CallAt K B c (m : Nat) ns rw →
    OpR K B s (stepLists st raw).1 (stepLists st raw).2 Q → opS K m [.ref s, .ref c] H Q E) ?_ ?_ ?_ ?_ ?_ ?_ ?_ ?_ ?_ ?_ ?_ ?_ ?_ ?_ ?_ ?_ ?_ ?_ ?_ ?_ h
  · intro rw e n t hB hS hc q
    rw [fit0] at e
    obtain ⟨h1, h2⟩ := byteList e
    have es : stepLists st [[0], rw] = match Vbndam.parseRoom (toNats rw) with | .error _ => fail st 3 | .ok z => (some z, 0 :: toInts [Vbndam.playerCount z, z.rules.length]) := if_neg (by rw [e]; decide)
    rw [es] at q
    rw [← h2] at hc
    refine ⟨s, c, B, st, toNats rw, rfl, hB, hS, hc, by unfold toNats; rw [List.length_map]; omega, fun er her => ?_, fun z hz => ?_⟩
    · rw [her] at q; exact q
    · rw [hz] at q; exact q
  · intro rw e n t hB hS hc q
    rw [fit1] at e
    obtain ⟨h1, h2⟩ := byteList e
    have es : stepLists st [[1], rw] = match Vbndam.parseRoom (toNats rw) with | .error e => succeed st (toInts [1, e.code, e.offset]) | .ok z => succeed st (toInts [0, Vbndam.playerCount z, z.rules.length]) := if_neg (by rw [e]; decide)
    rw [es] at q
    rw [← h2] at hc
    refine ⟨s, c, B, st, toNats rw, rfl, hB, hS, hc, by unfold toNats; rw [List.length_map]; omega, fun er her => ?_, fun z hz => ?_⟩
    · rw [her] at q; exact q
    · rw [hz] at q; exact q
  · intro rw e n t hB hS hc q
    cases st with
    | none => cases n rfl
    | some z => exact ⟨s, c, B, z, rfl, hB, hS, q⟩
  · intro x rw e n t hB hS hc q
    cases st with
    | none => cases n rfl
    | some z =>
      rw [fit3] at e
      rw [st3] at q
      obtain ⟨k, rfl, hk, q⟩ := coalQ e t q
      exact ⟨s, c, B, z, k, rw, rfl, hB, hS, hc, hk, q⟩
  · intro x rw e n t hB hS hc q
    cases st with
    | none => cases n rfl
    | some z =>
      rw [fit4, Bool.and_eq_true] at e
      have es : stepLists (some z) [[4, x], rw] = withCoalition (some z) x fun z u => succeed (some z) [flag (Vbndam.areStepsValid z u ((toPairs (toNats rw)).map fun x => (x.1, x.2 - 1)))] := if_neg (c := stepsSpec rw = false) (by rw [e.2]; decide)
      rw [es] at q
      obtain ⟨k, rfl, hk, q⟩ := coalQ e.1 t q
      exact ⟨s, c, B, z, k, rw, rfl, hB, hS, hc, hk, by rw [stepsFit_eq]; exact e.2, q⟩
  · intro x rw e n t hB hS hc q
    cases st with
    | none => cases n rfl
    | some z =>
      rw [fit5] at e
      rw [st5] at q
      obtain ⟨k, rfl, hk, q⟩ := coalQ e t q
      exact ⟨s, c, B, z, k, rw, rfl, hB, hS, hc, hk, q⟩
  · intro x rw e n t hB hS hc q
    cases st with
    | none => cases n rfl
    | some z =>
      rw [fit6] at e
      rw [st6] at q
      obtain ⟨k, rfl, hk, q⟩ := coalQ e t q
      exact ⟨s, c, B, z, k, rw, rfl, hB, hS, hc, hk, q⟩
  · intro x rw e n t hB hS hc q
    cases st with
    | none => cases n rfl
    | some z =>
      rw [fit7] at e
      rw [st7] at q
      obtain ⟨k, rfl, hk, q⟩ := coalQ e t q
      exact ⟨s, c, B, z, k, rw, rfl, hB, hS, hc, hk, q⟩
  · intro rw e n t hB hS hc q
    cases st with
    | none => cases n rfl
    | some z => exact ⟨s, c, B, z, rfl, hB, hS, q⟩
  · intro rw e n t hB hS hc q
    cases st with
    | none => cases n rfl
    | some z => exact ⟨s, c, B, z, rfl, hB, hS, q⟩
  · intro rw e n t hB hS hc q
    cases st with
    | none => cases n rfl
    | some z => exact ⟨s, c, B, z, rfl, hB, hS, q⟩
  · intro rw e n t hB hS hc q
    cases st with
    | none => cases n rfl
    | some z =>
      rw [fit11] at e
      have t' : (pairsI rw).all (fun q => decide (q.1 ≤ ((ev z : Nat) : Int))) = true := t
      have t2 := t'
      rw [pack_there e, Bool.not_eq_true'] at t2
      have e2 := e
      rw [packFit_eq] at e2
      have es : stepLists (some z) [[11], rw] = succeed (some z) (if Vbndam.isPackingValid z (toPairs (toNats rw)) = true then toInts [1, Vbndam.packingBound (toPairs (toNats rw))] else [0]) := (if_neg (by rw [e2]; decide)).trans (if_neg (by rw [t2]; decide))
      rw [es] at q
      refine ⟨s, c, B, z, _, rw, rfl, hB, hS, hc, e, fun x hx => ?_, q⟩
      have := List.any_eq_false.mp t2 x hx
      rw [decide_eq_true_eq] at this
      exact Nat.not_lt.mp this
  · intro x rw e n t hB hS hc q
    cases st with
    | none => cases n rfl
    | some z =>
      rw [fit12] at e
      rw [st12] at q
      obtain ⟨k, rfl, hk, q⟩ := coalQ e t q
      exact ⟨s, c, B, z, k, rw, rfl, hB, hS, hc, hk, q⟩
  · intro x rw e n t hB hS hc q
    cases st with
    | none => cases n rfl
    | some z =>
      rw [fit13] at e
      rw [st13] at q
      obtain ⟨k, rfl, hk, q⟩ := playQ e t q
      exact ⟨s, c, B, z, k, rw, rfl, hB, hS, hc, hk, q⟩
  · intro x rw e n t hB hS hc q
    cases st with
    | none => cases n rfl
    | some z =>
      rw [fit14] at e
      rw [st14] at q
      obtain ⟨k, rfl, hk, q⟩ := playQ e t q
      exact ⟨s, c, B, z, k, rw, rfl, hB, hS, hc, hk, q⟩
  · intro x y rw e n t hB hS hc q
    cases st with
    | none => cases n rfl
    | some z =>
      rw [fit15] at e
      have es : stepLists (some z) [[15, x, y]] = succeed (some z) (toInts [(Vbndam.reducedFraction (Vbndam.continuationWeight z x.toNat y.toNat) (y.toNat ^ Vbndam.playerCount z)).1, (Vbndam.reducedFraction (Vbndam.continuationWeight z x.toNat y.toNat) (y.toNat ^ Vbndam.playerCount z)).2]) := if_neg (by rw [e]; decide)
      rw [es] at q
      rw [Bool.and_eq_true] at e
      have h1 := inR e.1
      have h2 := inR e.2
      have hx : ((x.toNat : Nat) : Int) = x := Int.toNat_of_nonneg h2.1
      have hy : ((y.toNat : Nat) : Int) = y := Int.toNat_of_nonneg (by omega)
      refine ⟨s, c, B, z, x.toNat, y.toNat, rw, rfl, hB, hS, ?_, by omega, by omega, by omega, q⟩
      rw [hx, hy]
      exact hc
  · intro rw e n t hB hS hc q
    cases st with
    | none => cases n rfl
    | some z => exact ⟨s, c, B, z, rfl, hB, hS, q⟩
  · intro x rw e n t hB hS hc q
    cases st with
    | none => cases n rfl
    | some z =>
      rw [fit17] at e
      have t' : decide (x ≤ ((z.rules.length : Nat) : Int)) = true := t
      rw [decide_eq_true_eq] at t'
      have h1 := inR e
      have es : stepLists (some z) [[17, x]] = (some { z with rules := z.rules.eraseIdx (x.toNat - 1) }, [0, (z.rules.length : Int) - 1]) := (if_neg (by rw [e]; decide)).trans (if_neg (by omega))
      rw [es] at q
      refine ⟨s, c, B, z, x.toNat - 1, rw, rfl, hB, hS, ?_, by omega, q⟩
      rw [show ((x.toNat - 1 + 1 : Nat) : Int) = x by omega]
      exact hc
  · intro x y rw e n t hB hS hc q
    cases st with
    | none => cases n rfl
    | some z =>
      rw [fit18, Bool.and_eq_true] at e
      have es : stepLists (some z) [[18, x, y]] = withPlayer (some z) x fun z i => (some { z with players := z.players.modify i fun x => { x with weight := y.toNat } }, [0]) := if_neg (by rw [e.2]; decide)
      rw [es] at q
      obtain ⟨k, rfl, hk, q⟩ := playQ e.1 t q
      have h2 := inR e.2
      have hy : ((y.toNat : Nat) : Int) = y := Int.toNat_of_nonneg h2.1
      refine ⟨s, c, B, z, k, y.toNat, rw, rfl, hB, hS, ?_, hk, by omega, q⟩
      rw [hy]
      exact hc
  · intro rw e n t hB hS hc q
    cases st with
    | none => cases n rfl
    | some z => exact ⟨s, c, B, z, rfl, hB, hS, q⟩
section
variable {P : Program} {w : World} {K : PySem.W.Frag} {mg : Str → Option Value} {base : Heap}
def sp_perform (K : PySem.W.Frag) : Sp := fun vs H Q _ => ∃ (s c : Addr) (B : Hp) (st : St) (raw : List (List Int)), vs = [.ref s, .ref c] ∧ Same B H ∧ SessAt K B H s st ∧ CallOf K B c raw ∧ OpR K B s (stepLists st raw).1 (stepLists st raw).2 Q
theorem ok_perform {f : Addr} {fd : FuncData} (T : Txt K mg) (F : FnP K "perform" "perform" s_perform f fd) (hm : mg "perform" = some (.ref f)) (c_arguments_fit : C8.Cal P w K mg base 4 "arguments_fit" (sp_arguments_fit K) []) (c_needs_room : C8.Cal P w K mg base 1 "needs_room" (sp_needs_room K) []) (c_all_are_there : C8.Cal P w K mg base 3 "all_are_there" (sp_all_are_there K) []) (hOps : ∀ H, SqT K H (cl K "OPERATIONS") ((List.range 20).map fun i => V.ref (opA K i))) (hS : HeldM P w K mg base 11) :
    C8.Cal P w K mg base 12 "perform" (sp_perform K) [] := by
  refine calMk F hm (F.bindsN (ps := ["session", "call"]) fun _ _ _ _ _ _ us hl => match us, hl with | [_, _], _ => rfl) sc_perform (fun vs H Q E h => by first | (obtain ⟨rfl, _⟩ := h; rfl) | (obtain ⟨_, rfl, _⟩ := h; rfl) | (obtain ⟨_, _, rfl, _⟩ := h; rfl) | (obtain ⟨_, _, _, rfl, _⟩ := h; rfl) | (obtain ⟨_, _, _, _, rfl, _⟩ := h; rfl) | (obtain ⟨_, _, _, _, _, rfl, _⟩ := h; rfl) | (obtain ⟨_, _, _, _, _, _, rfl, _⟩ := h; rfl) | (obtain ⟨_, _, _, _, _, _, _, rfl, _⟩ := h; rfl) | (obtain ⟨_, _, _, _, _, _, _, _, rfl, _⟩ := h; rfl) | (obtain ⟨_, _, _, _, _, _, _, _, _, rfl, _⟩ := h; rfl) | (obtain ⟨_, _, _, _, _, _, _, _, _, _, rfl, _⟩ := h; rfl) | (obtain ⟨_, _, _, _, _, _, _, _, _, _, _, rfl, _⟩ := h; rfl) | (obtain ⟨_, _, _, _, _, _, _, _, _, _, _, _, rfl, _⟩ := h; rfl) | (obtain ⟨_, _, _, _, _, _, _, _, _, _, _, _, _, rfl, _⟩ := h; rfl) | (obtain ⟨_, _, _, _, _, _, _, _, _, _, _, _, _, _, rfl, _⟩ := h; rfl)) (fun cdv A outer s H vs Q E hr h => ?_)
  obtain ⟨s, c, B, st, raw, rfl, hB, hSs, ⟨m, ns, rw, hm20, hns, hrl, hcB, hraw⟩, q⟩ := h
  have hSh : Shaped m ns rw raw := ⟨hm20, hns, hraw⟩
  have hc := hcB.same hB
  refine ⟨_, (pss_cons (ps_if (pt_not (pt_val (C8.pe_c c_arguments_fit hr (by decide) (by rfl) (pa_cons (pv 1) pa_nil)))) (pss_one (ps_ret (pe_lst (pa_cons (C8.pe_gc (by rfl) T.g_OUT_OF_RANGE_operations) pa_nil)))) pss_nil) (C8.pss_cut (ps_if (PW.pt (pw_and (pt_val (C8.pe_c c_needs_room hr (by decide) (by rfl) (pa_cons (pv 1) pa_nil))) (pw_and1 (pt_cmpR op_isN (pe_fld (pv 0) rfl) pe_non (nomark _))))) (pss_one (ps_ret (pe_lst (pa_cons (C8.pe_gc (by rfl) T.g_NO_ROOM) pa_nil)))) pss_nil) (pss_cons (ps_if (pt_not (pt_val (C8.pe_c c_all_are_there hr (by decide) (by rfl) (pa_cons (pe_fld (pv 0) rfl) (pa_cons (pv 1) pa_nil))))) (pss_one (ps_ret (pe_lst (pa_cons (C8.pe_gc (by rfl) T.g_NOT_THERE) pa_nil)))) pss_nil) (pss_cons (ps_set (i := 2) sc_perform.nd rfl (Or.inl rfl) (pe_ix ix_tup (C8.pe_gc (by rfl) T.g_OPERATIONS) (pe_fld (pv 1) rfl) (fun _ _ => rfl))) (pss_one (ps_ret (pe_callM (i := 2) hS hr rfl (by first | exact Or.inl rfl | exact Or.inr (Or.inl rfl) | exact Or.inr (Or.inr rfl)) (pa_cons (pv 0) (pa_cons (pv 1) pa_nil))))))))), ?_⟩
  refine ⟨_, rfl, c, m, ns, rw, rfl, hc, hm20, hns, hrl, fun H1 s1 => ⟨_, rfl, ?_⟩⟩
  have hB1 := hB.trans s1
  have hS1 := hSs.same s1
  have hc1 := hc.same s1
  obtain ⟨dc, na, ra, c1, c2, c3⟩ := id hc1
  show if (!fitB m ns rw) = true then _ else _
  cases hf : fitB m ns rw with
  | false =>
    refine iteT ⟨by show 1 ≤ sizeLine; decide, fun a ha => ?_⟩
    have s2 := sameUpd (o := .lst [V.int (-1)]) ha
    rw [unfit hSh hf] at q
    exact q _ a (hB1.trans s2) (hS1.same s2) upd_same (hB1.free ha) (by show 1 ≤ 100000; decide)
  | true =>
    refine iteF ?_
    have hsv : ∃ dx v, H1 s = some (.ins (cl K "Session") dx (fSession v)) ∧ (st = none → v = .non) ∧ ∀ z, st = some z → ∃ r, v = .ref r ∧ RoomAt K H1 r z ∧ WF z := by
      cases st with
      | none =>
        obtain ⟨_, dx, e⟩ := hS1
        exact ⟨dx, _, e, fun _ => rfl, fun z h => by cases h⟩
      | some z =>
        obtain ⟨_, dx, r, d, pl, ru, ps, rs, e, I, hz, hp1, _, _⟩ := hS1.out
        refine ⟨dx, _, e, (fun h => by cases h), fun z' h => ?_⟩
        cases h
        exact ⟨r, rfl, ⟨d, pl, ru, ps, rs, I⟩, hz.wf hp1⟩
    obtain ⟨dx, v, es, hv0, hv1⟩ := hsv
    refine ⟨fun σ H2 => σ = [some (.ref s), some (.ref c), none] ∧ H2 = H1 ∧ (st = none → isIn [0, 1] m = true), ?_, ?_⟩
    · refine ⟨_, rfl, c, (m : Nat), ns, rw, rfl, hc1, _, rfl, ?_⟩
      show if (!isIn [0, 1] (m : Int)) = true then _ else _
      cases h01 : isIn [0, 1] (m : Int) with
      | true => exact iteF ⟨rfl, rfl, fun _ => rfl⟩
      | false =>
        refine iteT ⟨_, rfl, s, _, dx, _, _, rfl, es, T.c_Session, T.a_room, lSession, rfl, _, rfl, ?_⟩
        cases st with
        | none =>
          rw [hv0 rfl]
          refine iteT ⟨by show 1 ≤ sizeLine; decide, fun a ha => ?_⟩
          have s2 := sameUpd (o := .lst [V.int (-2)]) ha
          rw [noroom hSh hf h01] at q
          exact q _ a (hB1.trans s2) (hS1.same s2) upd_same (hB1.free ha) (by show 1 ≤ 100000; decide)
        | some z =>
          obtain ⟨r, rfl, _, _⟩ := hv1 z rfl
          exact iteF ⟨rfl, rfl, fun h => by cases h⟩
    · rintro σ H2 ⟨rfl, rfl, h01⟩
      refine ⟨_, rfl, s, _, dx, _, _, rfl, es, T.c_Session, T.a_room, lSession, _, rfl, v, c, m, ns, rw, st, rfl, hc1, hm20, hns, hf, ?_, h01, fun H3 s3 => ⟨_, rfl, ?_⟩⟩
      · cases st with
        | none => trivial
        | some z => exact hv1 z rfl
      have hB3 := hB1.trans s3
      have hS3 := hS1.same s3
      cases ht : thereS st m ns rw with
      | false =>
        refine iteT ⟨by show 1 ≤ sizeLine; decide, fun a ha => ?_⟩
        have s2 := sameUpd (o := .lst [V.int (-4)]) ha
        cases st with
        | none => cases ht
        | some z =>
          rw [away hSh hf ht] at q
          exact q _ a (hB3.trans s2) (hS3.same s2) upd_same (hB3.free ha) (by show 1 ≤ 100000; decide)
      | true =>
        refine iteF ?_
        have hov : ((List.range 20).map fun i => V.ref (opA K i))[m]? = some (.ref (opA K m)) := by rw [List.getElem?_map, rangeIt hm20]; rfl
        refine ⟨_, rfl, c, _, dc, _, _, rfl, s3 _ _ c1, T.c_Call, T.a_number, lCall1, _, _, _, .ref (opA K m), rfl, rfl, hOps _, atI_nat hov, ?_⟩
        exact ⟨m, hm20, rfl, _, rfl, _, rfl, dispatch hSh hf h01 ht hB3 hS3 hcB q⟩
end
end SI

set_option maxHeartbeats 4000000
namespace SI
open PySem PySem.Spec PyProof.Rows L2
open Vbndam (stepLists)
theorem newH_re {B H H' : Hp} {a : Addr} {o o' : HO} (h : ∀ b, b ≠ a → H' b = H b) : newH (upd B a o') H' = newH (upd B a o) H := by
  funext b
  unfold newH
  by_cases e : b = a
  · subst e
    rw [upd_same, upd_same, if_neg (fun q => by cases q), if_neg (fun q => by cases q)]
  · rw [upd_ne e, upd_ne e, h b e]
theorem SessAt.re {K : PySem.W.Frag} {B H H' : Hp} {a s : Addr} {o o' : HO} {st : St} (S : SessAt K (upd B a o) H s st) (h : ∀ b, b ≠ a → H' b = H b) : SessAt K (upd B a o') H' s st := by
  obtain ⟨h0, dx, S⟩ := S
  have ns : s ≠ a := fun e => by subst e; rw [upd_same] at h0; cases h0
  refine ⟨by rw [upd_ne ns] at h0 ⊢; exact h0, dx, ?_⟩
  cases st with
  | none => rw [h s ns]; exact S
  | some z =>
    obtain ⟨r, d, pl, ru, ps, rs, e, J, hz⟩ := S
    exact ⟨r, d, pl, ru, ps, rs, by rw [h s ns]; exact e, by rw [newH_re h]; exact J, hz⟩
theorem CallOf.shaped {K : PySem.W.Frag} {H : Hp} {a : Addr} {c : List (List Int)} (h : CallOf K H a c) : ∃ m ns rw, Shaped m ns rw c := let ⟨m, ns, rw, h1, h2, _, _, h5⟩ := h; ⟨m, ns, rw, h1, h2, h5⟩
theorem whole_id {m : Nat} {ns rw : List Int} {c : List (List Int)} (h : Shaped m ns rw c) : PyVbndam.whole c = c := by
  refine shaped_cases (A := fun m ns rw c => PyVbndam.whole c = c) ?_ ?_ ?_ ?_ ?_ ?_ ?_ ?_ ?_ ?_ ?_ ?_ ?_ ?_ ?_ ?_ ?_ ?_ ?_ ?_ h <;> intros <;> rfl
theorem told_cons (s : St) (c : List (List Int)) (r : List (List (List Int))) : PyFlat.told (PyFlat.played stepLists s (c :: r)) = (((stepLists s c).2.length : Int) :: (stepLists s c).2) ++ PyFlat.told (PyFlat.played stepLists (stepLists s c).1 r) := rfl
theorem fnMk {P : Program} {w : World} {K : PySem.W.Frag} {mg : Str → Option Value} {base : Heap} {x : Str} {st : Stmt} {f : Addr} {fd : FuncData} {N ps : List Str} {k : Nat} {sp : Sp} (F : FnP K x x st f fd) (S : FnScope N ps (defScope st)) (len : ∀ vs H Q E, sp vs H Q E → vs.length = ps.length)
    (hb : ∀ (cdv : Value) (A : Around) (outer : List Env) (s : Shared) (H : Hp) (vs : List V) (Q : VK) (E : XK), Room k (A.deeper (envOfC x (defScope st) s.heap.objs.size f cdv)) → sp vs H Q E →
      ∃ t, PSs (cxOf L2.CX0 P w K mg base N x (defScope st) f cdv A outer s H E).nox (defBody st) t ∧ t { nx := fun _ H' => Q .non H', rt := Q } (start N vs) H) : FnOk P w K mg base L2.CX0 (k + 1) f fd ps sp :=
  F.ok S len (fun cdv A outer s H vs Q E hr h => let ⟨t, ht, q⟩ := hb cdv A outer s H vs Q E hr h; ⟨t, ht.nox, q⟩)
section
variable {P : Program} {w : World} {K : PySem.W.Frag} {mg : Str → Option Value} {base : Heap}
def sp_answers (K : PySem.W.Frag) : Sp := fun vs H Q _ => ∃ (p : Addr) (l : List Int) (raw : List (List (List Int))), vs = [.ref p] ∧ SqL K H p (l.map V.int) ∧ PyFlat.calls PyVbndam.shape l.length l = some raw ∧ raw.length ≤ 100 ∧ (∀ c ∈ raw, (c.getD 1 []).length ≤ 100000) ∧ (PyVbndam.answers l).length ≤ 10000000 ∧
  ∀ H' a, H' a = some (.lst ((PyVbndam.answers l).map V.int)) → Q (.ref a) H'
theorem fn_answers {f : Addr} {fd : FuncData} (T : Txt K mg) (F : FnP K "answers" "answers" s_answers f fd) (m_Session : C8.Mak P w K mg base 1 "Session" (cl K "Session") (sp_Session_init K) []) (c_read_calls : C8.Cal P w K mg base 3 "read_calls" (sp_read_calls K) []) (c_perform : C8.Cal P w K mg base 12 "perform" (sp_perform K) []) :
    FnOk P w K mg base L2.CX0 13 f fd ["calls"] (sp_answers K) := by
  refine fnMk F sc_answers (fun vs H Q E h => by obtain ⟨_, _, _, rfl, _⟩ := h; rfl) (fun cdv A outer s H vs Q E hr h => ?_)
  obtain ⟨p, l, raw, rfl, hp, hraw, hrl, hrows, hal, q⟩ := h
  refine ⟨_, (pss_cons (ps_set (i := 1) sc_answers.nd rfl (Or.inl rfl) (pe_mk0 m_Session hr (by decide) (by rfl))) (pss_cons (ps_set (i := 2) sc_answers.nd rfl (Or.inl rfl) (pe_lst pa_nil)) (pss_cons (ps_for PassesOwn.never (by rfl) (pi_list (C8.pe_c c_read_calls hr (by decide) (by rfl) (pa_cons (pv 0) pa_nil))) (pg_name (i := 3) sc_answers.nd rfl (Or.inl rfl)) (pss_cons (ps_set (i := 4) sc_answers.nd rfl (Or.inl rfl) (C8.pe_c c_perform hr (by decide) (by rfl) (pa_cons (pv 1) (pa_cons (pv 3) pa_nil)))) (pss_cons (ps_expr (pe_bm PySem.F.plainAttrs_list PySem.F.slot_list_append PySem.F.type_list_append mt_append (pv 2) (pa_cons (pe_callB call_len_seq (by rfl) T.n_len PySem.boot_len (pa_cons (pv 4) pa_nil)) pa_nil))) (pss_one (ps_expr (pe_bm PySem.F.plainAttrs_list PySem.F.slot_list_extend PySem.F.type_list_extend mt_extend (pv 2) (pa_cons (pv 4) pa_nil))))))) (pss_one (ps_ret (pv 2)))))), ?_⟩
  intro x dx hx hdx hne
  refine ⟨x, dx, rfl, upd_same, rfl, ?_⟩
  have s1 : Same H (upd (upd (upd H dx (.own x)) x (.ins (cl K "Session") dx [])) x (.ins (cl K "Session") dx (fSession .non))) := fun b o e => by
    rw [upd_upd, upd_ne (ne_of_none e hx), upd_ne (ne_of_none e hdx)]
    exact e
  have ex : upd (upd (upd H dx (.own x)) x (.ins (cl K "Session") dx [])) x (.ins (cl K "Session") dx (fSession .non)) x = some (.ins (cl K "Session") dx (fSession .non)) := upd_same
  generalize upd (upd (upd H dx (.own x)) x (.ins (cl K "Session") dx [])) x (.ins (cl K "Session") dx (fSession .non)) = H1 at s1 ex
  refine ⟨by show 0 ≤ sizeLine; decide, fun ans hans => ?_⟩
  have s2 : Same H1 (upd H1 ans (.lst [])) := sameUpd hans
  have ea2 : upd H1 ans (.lst []) ans = some (.lst []) := upd_same
  generalize upd H1 ans (.lst []) = H2 at s2 ea2
  have ex2 := s2 _ _ ex
  have nxa : x ≠ ans := ne_of_none ex hans
  refine ⟨_, rfl, p, l, raw, rfl, (s1.trans s2).seq hp, hraw, by omega, hrows, fun H3 qa ts s3 hqa eqa hP => ⟨qa, rfl, ⟨_, SqL.of eqa⟩, ?_⟩⟩
  have hBx : newH H2 H3 x = none := by unfold newH; rw [if_neg (by rw [ex2]; intro h; cases h)]
  have hBa : newH H2 H3 ans = none := by unfold newH; rw [if_neg (by rw [ea2]; intro h; cases h)]
  have hBq : newH H2 H3 qa = some (.lst (ts.map V.ref)) := newH_of hqa eqa
  have hB3 : Same (newH H2 H3) H3 := newH_sub
  generalize newH H2 H3 = B at hBx hBa hBq hB3 hP
  have htot : PyVbndam.answers l = PyFlat.told (PyFlat.played stepLists none raw) := by
    unfold PyVbndam.answers PyVbndam.calls
    rw [hraw]
    have hw : raw.map PyVbndam.whole = raw := by
      refine (List.map_congr_left fun c hc => ?_).trans (List.map_id raw)
      obtain ⟨i, hi⟩ := List.mem_iff_getElem?.mp hc
      obtain ⟨t, _, hC⟩ := pairedGet hP hi
      obtain ⟨m, ns, rw, hS⟩ := hC.shaped
      exact whole_id hS
    show PyFlat.told (PyFlat.played stepLists none (raw.map PyVbndam.whole)) = _
    rw [hw]
  rw [htot] at hal q
  refine for_list (xs := ts.map V.ref) (fun i σ H4 => ∃ (st : St) (y3 y4 : Option V) (cr : List Int), σ = [some (.ref p), some (.ref x), some (.ref ans), y3, y4] ∧ Same B H4 ∧ SessAt K (upd B ans (.lst (cr.map V.int))) H4 x st ∧ H4 ans = some (.lst (cr.map V.int)) ∧
    PyFlat.told (PyFlat.played stepLists none raw) = cr ++ PyFlat.told (PyFlat.played stepLists st (raw.drop i))) ⟨none, none, none, [], rfl, hB3, ⟨by rw [upd_ne nxa]; exact hBx, dx, s3 _ _ ex2⟩, s3 _ _ ea2, rfl⟩
    (fun i σ H4 _ h => by obtain ⟨_, _, _, _, _, hB4, _⟩ := h; exact SqL.of (hB4 _ _ hBq)) ?_ ?_
  · rintro i v σ H4 hv ⟨st, y3, y4, cr, rfl, hB4, hS4, ea4, htold⟩
    rw [List.getElem?_map] at hv
    obtain ⟨t, ht, rfl⟩ := Option.map_eq_some_iff.mp hv
    obtain ⟨c, hc, hC⟩ := pairedGetL hP ht
    have hdr : raw.drop i = c :: raw.drop (i + 1) := by
      have hi := walkLenLe hc
      rw [List.drop_eq_getElem_cons hi]
      congr 1
      exact Option.some.inj ((List.getElem?_eq_getElem hi).symm.trans hc)
    rw [hdr, told_cons, ← List.append_assoc] at htold
    have sB : Same B (upd B ans (.lst (cr.map V.int))) := sameUpd hBa
    have hB4' : Same (upd B ans (.lst (cr.map V.int))) H4 := fun b o e => by
      by_cases eb : b = ans
      · subst eb; rw [upd_same] at e; rw [ea4]; exact e
      · rw [upd_ne eb] at e; exact hB4 _ _ e
    have hlen := congrArg List.length htold
    rw [List.length_append, List.length_append, List.length_cons] at hlen
    have hsz : (10000000 : Nat) < sizeLine := by decide
    refine ⟨_, rfl, _, rfl, x, t, _, st, c, rfl, hB4', hS4, hC.same sB, fun H5 a s5 hS5 ea hab hl5 => ?_⟩
    generalize (stepLists st c).2 = res at htold hlen ea hl5
    have ea5 : H5 ans = some (.lst (cr.map V.int)) := s5 _ _ upd_same
    have naa : a ≠ ans := fun e => by subst e; rw [upd_same] at hab; cases hab
    refine ⟨_, rfl, .inl ⟨rfl, _, SqL.of ea5⟩, _, rfl, a, _, rfl, .inl (SqL.of ea), ans, cr.map V.int, _, rfl, rfl, ea5, by rw [List.length_map]; omega, ?_⟩
    refine ⟨_, rfl, .inl ⟨rfl, _, SqL.of upd_same⟩, _, rfl, ans, a, _, _, rfl, rfl, upd_same, (upd_ne naa).trans ea, ?_, ?_⟩
    · rw [List.length_append, List.length_map, List.length_map]
      show cr.length + 1 + res.length ≤ sizeLine
      omega
    rw [upd_upd]
    have ecr : cr.map V.int ++ [V.int ((res.map V.int).length : Nat)] ++ res.map V.int = (cr ++ ((res.length : Int) :: res)).map V.int := by
      rw [List.length_map, List.map_append, List.append_assoc]
      rfl
    rw [ecr]
    refine ⟨(stepLists st c).1, some (.ref t), some (.ref a), cr ++ ((res.length : Int) :: res), rfl, fun b o e => ?_, hS5.re fun b hb => upd_ne hb, upd_same, htold⟩
    have nb : b ≠ ans := fun q => by subst q; rw [hBa] at e; cases e
    rw [upd_ne nb]
    exact s5 _ _ (sB _ _ e)
  · rintro σ H4 ⟨st, y3, y4, cr, rfl, hB4, hS4, ea4, htold⟩
    have hd0 : raw.drop (ts.map V.ref).length = [] := List.drop_eq_nil_of_le (by rw [List.length_map, pairedLen hP]; exact Nat.le_refl _)
    rw [hd0] at htold
    have : PyFlat.told (PyFlat.played stepLists none raw) = cr := by rw [htold]; exact List.append_nil _
    rw [this] at q
    exact ⟨_, rfl, q H4 ans ea4⟩
end
end SI

set_option maxHeartbeats 4000000
namespace SI
open PySem PySem.Spec PyProof.Rows L2
theorem gInt {mg : Str → Option Value} {x : Str} {i : Int} (h : ∃ t, mg x = some (.int i t)) : G mg x (.int i) := let ⟨t, e⟩ := h; ⟨_, e, t, rfl⟩
theorem gStr {mg : Str → Option Value} {x z : Str} (h : ∃ t, mg x = some (.str z t)) : G mg x (.str z) := let ⟨t, e⟩ := h; ⟨_, e, t, rfl⟩
section
variable {K : PySem.W.Frag}
theorem allB_ok {α : Type} {f : Value → α → Bool} {R : V → α → Prop} (hf : ∀ u x, f u x = true → ∃ v, RelV v u ∧ R v x) : ∀ (us : List Value) (xs : List α), allB f us xs = true → ∃ vs, Vals vs us ∧ Paired R vs xs
  | [], [], _ => ⟨[], .nil, .nil⟩
  | [], _ :: _, h => by cases h
  | _ :: _, [], h => by cases h
  | u :: us, x :: xs, h => by
    obtain ⟨h1, h2⟩ := He.ba (show (f u x && allB f us xs) = true from h)
    obtain ⟨v, r1, r2⟩ := hf u x h1
    obtain ⟨vs, q1, q2⟩ := allB_ok hf us xs h2
    exact ⟨v :: vs, .cons r1 q1, .cons r2 q2⟩
theorem pairB_ok (u : Value) (q : Int × Int) (h : pairB K u q = true) : ∃ v, RelV v u ∧ PairK K v q := by
  unfold pairB at h
  cases u with
  | ref a =>
    dsimp only at h
    cases e : K.lookup a with
    | none => rw [e] at h; cases h
    | some o =>
      obtain ⟨oc, od, dt, osl⟩ := o
      rw [e] at h
      cases oc with
      | type t =>
        cases dt with
        | seq its n =>
          obtain ⟨h1, h2⟩ := He.ba h
          obtain ⟨h3, h4⟩ := He.ba h2
          exact ⟨.ref a, rfl, a, rfl, fun H => .inr ⟨_, its, n, e, congrArg Value.type (of_decide_eq_true h1), rfl, of_decide_eq_true h3, He.relAll_ok h4⟩⟩
        | _ => cases h
      | _ => cases dt <;> cases h
  | _ => cases h
theorem pairsB_ok (u : Value) (l : List (Int × Int)) (h : pairsB K u l = true) : ∃ v, RelV v u ∧ PairsK K v l := by
  unfold pairsB at h
  cases u with
  | ref a =>
    dsimp only at h
    cases e : K.lookup a with
    | none => rw [e] at h; cases h
    | some o =>
      obtain ⟨oc, od, dt, osl⟩ := o
      rw [e] at h
      cases oc with
      | type t =>
        cases dt with
        | seq its n =>
          obtain ⟨h1, h2⟩ := He.ba h
          obtain ⟨h3, h4⟩ := He.ba h2
          obtain ⟨vs, q1, q2⟩ := allB_ok pairB_ok _ _ h4
          exact ⟨.ref a, rfl, a, vs, rfl, fun H => .inr ⟨_, its, n, e, congrArg Value.type (of_decide_eq_true h1), rfl, of_decide_eq_true h3, q1⟩, q2⟩
        | _ => cases h
      | _ => cases dt <;> cases h
  | _ => cases h
theorem nrB_ok (h : nrB K = true) : ∃ vs, (∀ H, SqT K H (cl K "NUMBER_RANGES") vs) ∧ Paired (PairsK K) vs NR := by
  unfold nrB at h
  cases e : K.lookup (He.ga K "NUMBER_RANGES") with
  | none => rw [e] at h; cases h
  | some o =>
    obtain ⟨oc, od, dt, osl⟩ := o
    rw [e] at h
    cases oc with
    | type t =>
      cases dt with
      | seq its n =>
        obtain ⟨h1, h2⟩ := He.ba h
        obtain ⟨h3, h4⟩ := He.ba h2
        obtain ⟨vs, q1, q2⟩ := allB_ok pairsB_ok _ _ h4
        exact ⟨vs, fun H => .inr ⟨_, its, n, e, congrArg Value.type (of_decide_eq_true h1), rfl, of_decide_eq_true h3, q1⟩, q2⟩
      | _ => cases h
    | _ => cases dt <;> cases h
structure Tups (K : PySem.W.Frag) : Prop where
  t_ROW_CALLS : ∀ H, SqT K H (cl K "ROW_CALLS") (([0, 1, 4, 11] : List Int).map V.int)
  t_TEXT_CALLS : ∀ H, SqT K H (cl K "TEXT_CALLS") (([0, 1] : List Int).map V.int)
  t_STEPS_CALLS : ∀ H, SqT K H (cl K "STEPS_CALLS") (([4] : List Int).map V.int)
  t_PACKING_CALLS : ∀ H, SqT K H (cl K "PACKING_CALLS") (([11] : List Int).map V.int)
  t_COALITION_CALLS : ∀ H, SqT K H (cl K "COALITION_CALLS") (([3, 4, 5, 6, 7, 12] : List Int).map V.int)
  t_PLAYER_CALLS : ∀ H, SqT K H (cl K "PLAYER_CALLS") (([13, 14, 18] : List Int).map V.int)
  t_CHANCE_CALLS : ∀ H, SqT K H (cl K "CHANCE_CALLS") (([15] : List Int).map V.int)
  t_RULE_CALLS : ∀ H, SqT K H (cl K "RULE_CALLS") (([17] : List Int).map V.int)
  t_POWERS : ∀ H, SqT K H (cl K "POWERS") (powers.map fun n => V.int (n : Nat))
  t_ORDERS : ∀ H, SqT K H (cl K "ORDERS") ((List.range 9).map fun n => V.int (Vbndam.factorial n : Nat))
  t_RESERVED : ∀ H, SqT K H (cl K "RESERVED") [.str "by", .str "any", .str "of", .str "weight"]
  ops : ∀ H, SqT K H (cl K "OPERATIONS") ((List.range 20).map fun i => V.ref (opA K i))
theorem tupsB_ok (h : tupsB K = true) : Tups K := by
  unfold tupsB at h
  obtain ⟨h, i12⟩ := He.ba h
  obtain ⟨h, i11⟩ := He.ba h
  obtain ⟨h, i10⟩ := He.ba h
  obtain ⟨h, i9⟩ := He.ba h
  obtain ⟨h, i8⟩ := He.ba h
  obtain ⟨h, i7⟩ := He.ba h
  obtain ⟨h, i6⟩ := He.ba h
  obtain ⟨h, i5⟩ := He.ba h
  obtain ⟨h, i4⟩ := He.ba h
  obtain ⟨h, i3⟩ := He.ba h
  obtain ⟨i1, i2⟩ := He.ba h
  have ePow : (powers.map fun n => V.int (n : Nat)) = [V.int 1, V.int 2, V.int 4, V.int 8, V.int 16, V.int 32, V.int 64, V.int 128, V.int 256] := by decide +kernel
  have eOrd : ((List.range 9).map fun n => V.int (Vbndam.factorial n : Nat)) = [V.int 1, V.int 1, V.int 2, V.int 6, V.int 24, V.int 120, V.int 720, V.int 5040, V.int 40320] := by decide +kernel
  exact ⟨fun H => He.tupB_ok i1 H, fun H => He.tupB_ok i2 H, fun H => He.tupB_ok i3 H, fun H => He.tupB_ok i4 H, fun H => He.tupB_ok i5 H, fun H => He.tupB_ok i6 H, fun H => He.tupB_ok i7 H, fun H => He.tupB_ok i8 H, fun H => by rw [ePow]; exact He.tupB_ok i9 H, fun H => by rw [eOrd]; exact He.tupB_ok i10 H, fun H => He.tupB_ok i11 H, fun H => He.tupB_ok i12 H⟩
theorem ops_tup (h : mineB K = true) : ∀ H, SqT K H (cl K "OPERATIONS") ((List.range 20).map fun i => V.ref (opA K i)) := by
  unfold mineB at h
  exact (tupsB_ok (He.ba (He.ba h).1).2).ops
theorem txt_of {mg : Str → Option Value} {h : Heap} (c : He.SaysD faAll fnl K) (bm : mineB K = true) (X : K.In h) (N : h.Ns mainGlobals mg) : Txt K mg := by
  unfold mineB at bm
  have b1 : nrB K = true := (He.ba (He.ba bm).1).1
  have tu : Tups K := tupsB_ok (He.ba (He.ba bm).1).2
  exact {
  c_Call := He.cls_ok (c.fact 147)
  c_Player := He.cls_ok (c.fact 148)
  c_Rule := He.cls_ok (c.fact 149)
  c_Room := He.cls_ok (c.fact 150)
  c_Session := He.cls_ok (c.fact 151)
  c_LineReader := He.cls_ok (c.fact 152)
  a_number := He.noat_ok (c.fact 164)
  a_numbers := He.noat_ok (c.fact 165)
  a_row := He.noat_ok (c.fact 166)
  a_name := He.noat_ok (c.fact 167)
  a_weight := He.noat_ok (c.fact 168)
  a_absent := He.noat_ok (c.fact 169)
  a_needed := He.noat_ok (c.fact 170)
  a_substitutes := He.noat_ok (c.fact 171)
  a_players := He.noat_ok (c.fact 172)
  a_rules := He.noat_ok (c.fact 173)
  a_room := He.noat_ok (c.fact 174)
  a_tokens := He.noat_ok (c.fact 175)
  a_end := He.noat_ok (c.fact 176)
  a_position := He.noat_ok (c.fact 177)
  n_len := He.free_ok X N (c.fact 110)
  n_range := He.free_ok X N (c.fact 111)
  n_enumerate := He.free_ok X N (c.fact 112)
  n_sorted := He.free_ok X N (c.fact 113)
  n_reversed := He.free_ok X N (c.fact 114)
  n_sum := He.free_ok X N (c.fact 115)
  n_all := He.free_ok X N (c.fact 116)
  n_min := He.free_ok X N (c.fact 117)
  n_list := He.free_ok X N (c.fact 118)
  n_int := He.free_ok X N (c.fact 119)
  n_str := He.free_ok X N (c.fact 120)
  n_ord := He.free_ok X N (c.fact 121)
  n_Exception := He.free_ok X N (c.fact 122)
  g_NUMBER_RANGES := ⟨_, He.glo_ok X N (c.fact 97), rfl⟩
  g_ROW_CALLS := ⟨_, He.glo_ok X N (c.fact 98), rfl⟩
  g_TEXT_CALLS := ⟨_, He.glo_ok X N (c.fact 99), rfl⟩
  g_STEPS_CALLS := ⟨_, He.glo_ok X N (c.fact 100), rfl⟩
  g_PACKING_CALLS := ⟨_, He.glo_ok X N (c.fact 101), rfl⟩
  g_COALITION_CALLS := ⟨_, He.glo_ok X N (c.fact 102), rfl⟩
  g_PLAYER_CALLS := ⟨_, He.glo_ok X N (c.fact 103), rfl⟩
  g_CHANCE_CALLS := ⟨_, He.glo_ok X N (c.fact 104), rfl⟩
  g_RULE_CALLS := ⟨_, He.glo_ok X N (c.fact 105), rfl⟩
  g_POWERS := ⟨_, He.glo_ok X N (c.fact 106), rfl⟩
  g_ORDERS := ⟨_, He.glo_ok X N (c.fact 107), rfl⟩
  g_RESERVED := ⟨_, He.glo_ok X N (c.fact 108), rfl⟩
  g_OPERATIONS := ⟨_, He.glo_ok X N (c.fact 109), rfl⟩
  t_NUMBER_RANGES := nrB_ok b1
  t_ROW_CALLS := tu.t_ROW_CALLS
  t_TEXT_CALLS := tu.t_TEXT_CALLS
  t_STEPS_CALLS := tu.t_STEPS_CALLS
  t_PACKING_CALLS := tu.t_PACKING_CALLS
  t_COALITION_CALLS := tu.t_COALITION_CALLS
  t_PLAYER_CALLS := tu.t_PLAYER_CALLS
  t_CHANCE_CALLS := tu.t_CHANCE_CALLS
  t_RULE_CALLS := tu.t_RULE_CALLS
  t_POWERS := tu.t_POWERS
  t_ORDERS := tu.t_ORDERS
  t_RESERVED := tu.t_RESERVED
  g_LONGEST_TEXT := gInt (He.int_ok X N (c.fact 123))
  g_LONGEST_PAIRS := gInt (He.int_ok X N (c.fact 124))
  g_HIGHEST_PACKED := gInt (He.int_ok X N (c.fact 125))
  g_LETTERS := gStr (He.str_ok X N (c.fact 144))
  g_DIGITS := gStr (He.str_ok X N (c.fact 145))
  g_FOREIGN := gStr (He.str_ok X N (c.fact 146))
  g_MOST_PLAYERS := gInt (He.int_ok X N (c.fact 126))
  g_MOST_RULES := gInt (He.int_ok X N (c.fact 127))
  g_HEAVIEST := gInt (He.int_ok X N (c.fact 128))
  g_MOST_REQUIRED := gInt (He.int_ok X N (c.fact 129))
  g_NOT_ALLOWED := gInt (He.int_ok X N (c.fact 130))
  g_OUT_OF_RANGE_parsing := gInt (He.int_ok X N (c.fact 131))
  g_OUT_OF_RANGE_operations := gInt (He.int_ok X N (c.fact 140))
  g_EXISTS_ALREADY := gInt (He.int_ok X N (c.fact 132))
  g_NOT_DECLARED := gInt (He.int_ok X N (c.fact 133))
  g_TOO_FEW_SUBSTITUTES := gInt (He.int_ok X N (c.fact 134))
  g_TOO_MANY := gInt (He.int_ok X N (c.fact 135))
  g_NO_PLAYER := gInt (He.int_ok X N (c.fact 136))
  g_ABSENT_SUBSTITUTE := gInt (He.int_ok X N (c.fact 137))
  g_LONGEST_NAME := gInt (He.int_ok X N (c.fact 138))
  g_LONGEST_NUMBER := gInt (He.int_ok X N (c.fact 139))
  g_NO_ROOM := gInt (He.int_ok X N (c.fact 141))
  g_INVALID_TEXT := gInt (He.int_ok X N (c.fact 142))
  g_NOT_THERE := gInt (He.int_ok X N (c.fact 143)) }
theorem exc_facts (h : mineB K = true) (nk : PySem.W.findIn K (.ref (clF K)) "kind" = some none) (no : PySem.W.findIn K (.ref (clF K)) "offset" = some none) : FltK K ∧ ∃ fI, PySem.W.findIn K (.ref (clF K)) "__init__" = some (some (.ref fI)) ∧ fI = He.ma K (clF K) "__init__" ∧ PySem.W.typeIn K (.ref fI) = some (.type "function") := by
  unfold mineB at h
  obtain ⟨_, h⟩ := He.ba h
  unfold excB at h
  obtain ⟨h, i13⟩ := He.ba h
  obtain ⟨h, i12⟩ := He.ba h
  obtain ⟨h, i11⟩ := He.ba h
  obtain ⟨h, i10⟩ := He.ba h
  obtain ⟨h, i9⟩ := He.ba h
  obtain ⟨h, i8⟩ := He.ba h
  obtain ⟨h, i7⟩ := He.ba h
  obtain ⟨h, i6⟩ := He.ba h
  obtain ⟨h, i5⟩ := He.ba h
  obtain ⟨h, i4⟩ := He.ba h
  obtain ⟨h, i3⟩ := He.ba h
  obtain ⟨i1, i2⟩ := He.ba h
  have i5' := of_decide_eq_true i5
  have i6' := of_decide_eq_true i6
  refine ⟨⟨⟨i1, i2, i3, He.eqO_ok i4, i5', i6', i7⟩, ?_, nk, no, of_decide_eq_true i10, ⟨He.eqO_ok i8, He.eqO_ok i9, i5', i3⟩⟩, _, He.eqO_ok i11, rfl, of_decide_eq_true i12⟩
  cases e : PySem.W.findCls K (.type "Exception") (.type "type") "__init__" with
  | none => rw [e] at i13; cases i13
  | some r =>
    rw [e] at i13
    cases r with
    | val v =>
      have ev : v = .builtin "Exception.__init__" := of_decide_eq_true i13
      rw [ev]
    | _ => cases i13
end
section
variable {P : Program} {w : World} {K : PySem.W.Frag} {mg : Str → Option Value} {base h : Heap}
theorem fault_of (X : K.In h) (N : h.Ns mainGlobals mg) (c : He.SaysD faAll fnl K) (bm : mineB K = true) (T : Txt K mg) {fd : FuncData} (F : FnP K "__init__" "TextFault.__init__" s_TextFault_init (He.ma K (clF K) "__init__") fd) : FaultI P w K mg base := by
  obtain ⟨gk, fI, h1, rfl, h2⟩ := exc_facts bm (He.noat_ok (c.fact 178)) (He.noat_ok (c.fact 179))
  exact ⟨gk, ⟨_, fd, h1, h2, ok_fault T gk F, F.bindsN (ps := ["self", "kind", "offset"]) fun _ _ _ _ _ _ us hl => match us, hl with | [_, _, _], _ => rfl⟩, He.glo_ok X N (c.fact 95)⟩
theorem held_of {k : Nat} {x : Str} {sp : Sp} {f : Addr} (c : C8.Cal P w K mg base k x sp []) (hm : mg x = some (.ref f)) : ∃ (fd : FuncData) (ps : List Str), FnOk P w K mg base L2.CX0 k f fd ps sp ∧ PySem.W.keepIn K (.ref f) = true ∧ Binds K fd ps [] := by
  obtain ⟨f2, fd, ps, ds, F, hm2, kp, b, v⟩ := c.ex
  rw [hm] at hm2
  cases hm2
  cases v
  exact ⟨fd, ps, F, kp, b⟩
theorem all_fn (c : He.SaysD faAll fnl K) (bm : mineB K = true) (X : K.In h) (N : h.Ns mainGlobals mg) {fd : FuncData} (F : FnP K "answers" "answers" s_answers (He.ga K "answers") fd) : FnOk P w K mg base L2.CX0 13 (He.ga K "answers") fd ["calls"] (sp_answers K) := by
  have T : Txt K mg := txt_of c bm X N
  obtain ⟨fd_Session_init, F_Session_init⟩ := c.def_ 18
  have m_Session : C8.Mak P w K mg base 1 "Session" (cl K "Session") (sp_Session_init K) [] := ok_Session_init T (He.mkr_ok (c.fact 157)) (He.glo_ok X N (c.fact 94)) F_Session_init 
  obtain ⟨fd_Call_init, F_Call_init⟩ := c.def_ 0
  have m_Call : C8.Mak P w K mg base 1 "Call" (cl K "Call") (sp_Call_init K) [] := ok_Call_init T (He.mkr_ok (c.fact 153)) (He.glo_ok X N (c.fact 90)) F_Call_init 
  obtain ⟨fd_read_calls, F_read_calls⟩ := c.def_ 1
  have c_read_calls : C8.Cal P w K mg base 3 "read_calls" (sp_read_calls K) [] := ok_read_calls T F_read_calls (He.glo_ok X N (c.fact 0)) m_Call
  obtain ⟨fd_numbers_fit, F_numbers_fit⟩ := c.def_ 8
  have c_numbers_fit : C8.Cal P w K mg base 1 "numbers_fit" (sp_numbers_fit K) [] := ok_numbers_fit T F_numbers_fit (He.glo_ok X N (c.fact 7)) 
  obtain ⟨fd_fits_text, F_fits_text⟩ := c.def_ 10
  have c_fits_text : C8.Cal P w K mg base 1 "fits_text" (sp_fits_text K) [] := ok_fits_text T F_fits_text (He.glo_ok X N (c.fact 9)) 
  obtain ⟨fd_is_paired, F_is_paired⟩ := c.def_ 13
  have c_is_paired : C8.Cal P w K mg base 1 "is_paired" (sp_is_paired K) [] := ok_is_paired T F_is_paired (He.glo_ok X N (c.fact 12)) 
  obtain ⟨fd_pairs, F_pairs⟩ := c.def_ 14
  have c_pairs : C8.Cal P w K mg base 1 "pairs" (sp_pairs K) [] := ok_pairs T F_pairs (He.glo_ok X N (c.fact 13)) 
  obtain ⟨fd_fits_steps, F_fits_steps⟩ := c.def_ 11
  have c_fits_steps : C8.Cal P w K mg base 2 "fits_steps" (sp_fits_steps K) [] := ok_fits_steps T F_fits_steps (He.glo_ok X N (c.fact 10)) c_is_paired c_pairs
  obtain ⟨fd_fits_packing, F_fits_packing⟩ := c.def_ 12
  have c_fits_packing : C8.Cal P w K mg base 2 "fits_packing" (sp_fits_packing K) [] := ok_fits_packing T F_fits_packing (He.glo_ok X N (c.fact 11)) c_is_paired
  obtain ⟨fd_takes_packing, F_takes_packing⟩ := c.def_ 4
  have c_takes_packing : C8.Cal P w K mg base 1 "takes_packing" (sp_takes_packing K) [] := ok_takes_packing T F_takes_packing (He.glo_ok X N (c.fact 3)) 
  obtain ⟨fd_row_fits, F_row_fits⟩ := c.def_ 9
  have c_row_fits : C8.Cal P w K mg base 3 "row_fits" (sp_row_fits K) [] := ok_row_fits T F_row_fits (He.glo_ok X N (c.fact 8)) c_fits_text c_fits_steps c_fits_packing c_takes_packing
  obtain ⟨fd_arguments_fit, F_arguments_fit⟩ := c.def_ 7
  have c_arguments_fit : C8.Cal P w K mg base 4 "arguments_fit" (sp_arguments_fit K) [] := ok_arguments_fit T F_arguments_fit (He.glo_ok X N (c.fact 6)) c_numbers_fit c_row_fits
  obtain ⟨fd_needs_room, F_needs_room⟩ := c.def_ 2
  have c_needs_room : C8.Cal P w K mg base 1 "needs_room" (sp_needs_room K) [] := ok_needs_room T F_needs_room (He.glo_ok X N (c.fact 1)) 
  obtain ⟨fd_takes_coalition, F_takes_coalition⟩ := c.def_ 3
  have c_takes_coalition : C8.Cal P w K mg base 1 "takes_coalition" (sp_takes_coalition K) [] := ok_takes_coalition T F_takes_coalition (He.glo_ok X N (c.fact 2)) 
  obtain ⟨fd_takes_player, F_takes_player⟩ := c.def_ 5
  have c_takes_player : C8.Cal P w K mg base 1 "takes_player" (sp_takes_player K) [] := ok_takes_player T F_takes_player (He.glo_ok X N (c.fact 4)) 
  obtain ⟨fd_everyone, F_everyone⟩ := c.def_ 19
  have c_everyone : C8.Cal P w K mg base 1 "everyone" (sp_everyone K) [] := ok_everyone T F_everyone (He.glo_ok X N (c.fact 14)) 
  obtain ⟨fd_exists, F_exists⟩ := c.def_ 20
  have c_exists : C8.Cal P w K mg base 2 "exists" (sp_exists K) [] := ok_exists T F_exists (He.glo_ok X N (c.fact 15)) c_everyone
  obtain ⟨fd_takes_rule, F_takes_rule⟩ := c.def_ 6
  have c_takes_rule : C8.Cal P w K mg base 1 "takes_rule" (sp_takes_rule K) [] := ok_takes_rule T F_takes_rule (He.glo_ok X N (c.fact 5)) 
  obtain ⟨fd_all_are_there, F_all_are_there⟩ := c.def_ 99
  have c_all_are_there : C8.Cal P w K mg base 3 "all_are_there" (sp_all_are_there K) [] := ok_all_are_there T F_all_are_there (He.glo_ok X N (c.fact 87)) c_takes_coalition c_takes_packing c_takes_player c_exists c_takes_rule c_pairs
  obtain ⟨fd_readable_sign, F_readable_sign⟩ := c.def_ 54
  have c_readable_sign : C8.Cal P w K mg base 1 "readable_sign" (sp_readable_sign K) [] := ok_readable_sign T F_readable_sign (He.glo_ok X N (c.fact 42)) 
  obtain ⟨fd_readable_text, F_readable_text⟩ := c.def_ 53
  have c_readable_text : C8.Cal P w K mg base 2 "readable_text" (sp_readable_text K) [] := ok_readable_text T F_readable_text (He.glo_ok X N (c.fact 41)) c_readable_sign
  obtain ⟨fd_Room_init, F_Room_init⟩ := c.def_ 17
  have m_Room : C8.Mak P w K mg base 1 "Room" (cl K "Room") (sp_Room_init K) [] := ok_Room_init T (He.mkr_ok (c.fact 156)) (He.glo_ok X N (c.fact 93)) F_Room_init 
  obtain ⟨fd_LineReader_is_done, F_LineReader_is_done⟩ := c.def_ 47
  have m_is_done : C8.Met P w K mg base 1 (cl K "LineReader") "is_done" (sp_LineReader_is_done K) [] := ok_LineReader_is_done T (He.meth_ok (c.fact 159)) F_LineReader_is_done 
  obtain ⟨fd_LineReader_word, F_LineReader_word⟩ := c.def_ 48
  have m_word : C8.Met P w K mg base 2 (cl K "LineReader") "word" (sp_LineReader_word K) [] := ok_LineReader_word T (He.meth_ok (c.fact 160)) F_LineReader_word m_is_done
  obtain ⟨fd_LineReader_advance, F_LineReader_advance⟩ := c.def_ 50
  have m_advance : C8.Met P w K mg base 1 (cl K "LineReader") "advance" (sp_LineReader_advance K) [] := ok_LineReader_advance T (He.meth_ok (c.fact 162)) F_LineReader_advance 
  obtain ⟨fd_is_name, F_is_name⟩ := c.def_ 66
  have c_is_name : C8.Cal P w K mg base 1 "is_name" (sp_is_name K) [] := ok_is_name T F_is_name (He.glo_ok X N (c.fact 54)) 
  obtain ⟨fd_TextFault_init, F_TextFault_init⟩ := c.def_ 45
  have fault : FaultI P w K mg base := fault_of X N c bm T (F_TextFault_init)
  obtain ⟨fd_LineReader_place, F_LineReader_place⟩ := c.def_ 49
  have m_place : C8.Met P w K mg base 2 (cl K "LineReader") "place" (sp_LineReader_place K) [] := ok_LineReader_place T (He.meth_ok (c.fact 161)) F_LineReader_place m_is_done
  obtain ⟨fd_LineReader_fail, F_LineReader_fail⟩ := c.def_ 51
  have m_fail : MetX P w K mg base 3 (cl K "LineReader") "fail" (sp_LineReader_fail K) := ok_LineReader_fail T (He.meth_ok (c.fact 163)) F_LineReader_fail fault m_place
  obtain ⟨fd_checked_name, F_checked_name⟩ := c.def_ 62
  have c_checked_name : CalX P w K mg base 4 "checked_name" (sp_checked_name K) := ok_checked_name T F_checked_name (He.glo_ok X N (c.fact 50)) m_word c_is_name m_fail
  obtain ⟨fd_take_word, F_take_word⟩ := c.def_ 63
  have c_take_word : CalX P w K mg base 4 "take_word" (sp_take_word K) := ok_take_word T F_take_word (He.glo_ok X N (c.fact 51)) m_advance m_word m_fail
  obtain ⟨fd_is_number, F_is_number⟩ := c.def_ 67
  have c_is_number : C8.Cal P w K mg base 1 "is_number" (sp_is_number K) [] := ok_is_number T F_is_number (He.glo_ok X N (c.fact 55)) 
  obtain ⟨fd_take_number, F_take_number⟩ := c.def_ 64
  have c_take_number : CalX P w K mg base 4 "take_number" (sp_take_number K) := ok_take_number T F_take_number (He.glo_ok X N (c.fact 52)) m_advance c_is_number m_fail m_word
  obtain ⟨fd_player_number, F_player_number⟩ := c.def_ 65
  have c_player_number : C8.Cal P w K mg base 1 "player_number" (sp_player_number K) [] := ok_player_number T F_player_number (He.glo_ok X N (c.fact 53)) 
  obtain ⟨fd_Player_init, F_Player_init⟩ := c.def_ 15
  have m_Player : C8.Mak P w K mg base 1 "Player" (cl K "Player") (sp_Player_init K) [] := ok_Player_init T (He.mkr_ok (c.fact 154)) (He.glo_ok X N (c.fact 91)) F_Player_init 
  obtain ⟨fd_parse_player, F_parse_player⟩ := c.def_ 57
  have c_parse_player : CalX P w K mg base 5 "parse_player" (sp_parse_player K) := ok_parse_player T F_parse_player (He.glo_ok X N (c.fact 45)) m_advance c_checked_name c_take_word c_take_number m_fail c_player_number m_is_done m_Player
  obtain ⟨fd_checked_player, F_checked_player⟩ := c.def_ 61
  have c_checked_player : CalX P w K mg base 5 "checked_player" (sp_checked_player K) := ok_checked_player T F_checked_player (He.glo_ok X N (c.fact 49)) c_player_number c_checked_name m_fail
  obtain ⟨fd_take_substitute, F_take_substitute⟩ := c.def_ 60
  have c_take_substitute : CalX P w K mg base 6 "take_substitute" (sp_take_substitute K) := ok_take_substitute T F_take_substitute (He.glo_ok X N (c.fact 48)) c_checked_player m_advance m_fail
  obtain ⟨fd_take_substitutes, F_take_substitutes⟩ := c.def_ 59
  have c_take_substitutes : CalX P w K mg base 7 "take_substitutes" (sp_take_substitutes K) := ok_take_substitutes T F_take_substitutes (He.glo_ok X N (c.fact 47)) c_take_substitute m_is_done
  obtain ⟨fd_Rule_init, F_Rule_init⟩ := c.def_ 16
  have m_Rule : C8.Mak P w K mg base 1 "Rule" (cl K "Rule") (sp_Rule_init K) [] := ok_Rule_init T (He.mkr_ok (c.fact 155)) (He.glo_ok X N (c.fact 92)) F_Rule_init 
  obtain ⟨fd_parse_rule, F_parse_rule⟩ := c.def_ 58
  have c_parse_rule : CalX P w K mg base 8 "parse_rule" (sp_parse_rule K) := ok_parse_rule T F_parse_rule (He.glo_ok X N (c.fact 46)) m_advance c_checked_player c_take_word m_place c_take_number c_take_substitutes m_fail m_word fault m_Rule
  obtain ⟨fd_parse_line, F_parse_line⟩ := c.def_ 56
  have c_parse_line : CalX P w K mg base 9 "parse_line" (sp_parse_line K) := ok_parse_line T F_parse_line (He.glo_ok X N (c.fact 44)) m_is_done m_word c_parse_player c_parse_rule m_fail
  obtain ⟨fd_line_tokens, F_line_tokens⟩ := c.def_ 52
  have c_line_tokens : C8.Cal P w K mg base 1 "line_tokens" (sp_line_tokens K) [] := ok_line_tokens T F_line_tokens (He.glo_ok X N (c.fact 40)) 
  obtain ⟨fd_LineReader_init, F_LineReader_init⟩ := c.def_ 46
  have m_LineReader : C8.Mak P w K mg base 2 "LineReader" (cl K "LineReader") (sp_LineReader_init K) [] := ok_LineReader_init T (He.mkr_ok (c.fact 158)) (He.glo_ok X N (c.fact 96)) F_LineReader_init c_line_tokens
  obtain ⟨fd_parse_room, F_parse_room⟩ := c.def_ 55
  have c_parse_room : CalX P w K mg base 10 "parse_room" (sp_parse_room K) := ok_parse_room T F_parse_room (He.glo_ok X N (c.fact 43)) c_readable_text m_Room c_parse_line fault m_LineReader
  obtain ⟨fd_load_room, F_load_room⟩ := c.def_ 77
  have c_load_room : C8.Cal P w K mg base 11 "load_room" (sp_load_room K) [] := ok_load_room T F_load_room (He.glo_ok X N (c.fact 65)) c_parse_room fault
  obtain ⟨fd_check_room, F_check_room⟩ := c.def_ 78
  have c_check_room : C8.Cal P w K mg base 11 "check_room" (sp_check_room K) [] := ok_check_room T F_check_room (He.glo_ok X N (c.fact 66)) c_parse_room fault
  obtain ⟨fd_listed, F_listed⟩ := c.def_ 97
  have c_listed : C8.Cal P w K mg base 1 "listed" (sp_listed K) [] := ok_listed T F_listed (He.glo_ok X N (c.fact 85)) 
  obtain ⟨fd_player_line, F_player_line⟩ := c.def_ 69
  have c_player_line : C8.Cal P w K mg base 1 "player_line" (sp_player_line K) [] := ok_player_line T F_player_line (He.glo_ok X N (c.fact 57)) 
  obtain ⟨fd_rule_line, F_rule_line⟩ := c.def_ 70
  have c_rule_line : C8.Cal P w K mg base 1 "rule_line" (sp_rule_line K) [] := ok_rule_line T F_rule_line (He.glo_ok X N (c.fact 58)) 
  obtain ⟨fd_canonical_codes, F_canonical_codes⟩ := c.def_ 68
  have c_canonical_codes : C8.Cal P w K mg base 2 "canonical_codes" (sp_canonical_codes K) [] := ok_canonical_codes T F_canonical_codes (He.glo_ok X N (c.fact 56)) c_player_line c_rule_line
  obtain ⟨fd_print_room, F_print_room⟩ := c.def_ 79
  have c_print_room : C8.Cal P w K mg base 3 "print_room" (sp_print_room K) [] := ok_print_room T F_print_room (He.glo_ok X N (c.fact 67)) c_listed c_canonical_codes
  obtain ⟨fd_has_member, F_has_member⟩ := c.def_ 21
  have c_has_member : C8.Cal P w K mg base 1 "has_member" (sp_has_member K) [] := ok_has_member T F_has_member (He.glo_ok X N (c.fact 16)) 
  obtain ⟨fd_is_enabled, F_is_enabled⟩ := c.def_ 23
  have c_is_enabled : C8.Cal P w K mg base 2 "is_enabled" (sp_is_enabled K) [] := ok_is_enabled T F_is_enabled (He.glo_ok X N (c.fact 18)) c_has_member
  obtain ⟨fd_round_steps, F_round_steps⟩ := c.def_ 24
  have c_round_steps : C8.Cal P w K mg base 3 "round_steps" (sp_round_steps K) [] := ok_round_steps T F_round_steps (He.glo_ok X N (c.fact 19)) c_is_enabled c_has_member
  obtain ⟨fd_joined, F_joined⟩ := c.def_ 25
  have c_joined : C8.Cal P w K mg base 1 "joined" (sp_joined K) [] := ok_joined T F_joined (He.glo_ok X N (c.fact 20)) 
  obtain ⟨fd_all_steps, F_all_steps⟩ := c.def_ 26
  have c_all_steps : C8.Cal P w K mg base 4 "all_steps" (sp_all_steps K) [] := ok_all_steps T F_all_steps (He.glo_ok X N (c.fact 21)) c_round_steps c_joined
  obtain ⟨fd_acting_coalition, F_acting_coalition⟩ := c.def_ 80
  have c_acting_coalition : C8.Cal P w K mg base 5 "acting_coalition" (sp_acting_coalition K) [] := ok_acting_coalition T F_acting_coalition (He.glo_ok X N (c.fact 68)) c_all_steps c_joined
  obtain ⟨fd_judged, F_judged⟩ := c.def_ 98
  have c_judged : C8.Cal P w K mg base 1 "judged" (sp_judged K) [] := ok_judged T F_judged (He.glo_ok X N (c.fact 86)) 
  obtain ⟨fd_steps_hold, F_steps_hold⟩ := c.def_ 27
  have c_steps_hold : C8.Cal P w K mg base 3 "steps_hold" (sp_steps_hold K) [] := ok_steps_hold T F_steps_hold (He.glo_ok X N (c.fact 22)) c_is_enabled
  obtain ⟨fd_check_steps, F_check_steps⟩ := c.def_ 81
  have c_check_steps : C8.Cal P w K mg base 4 "check_steps" (sp_check_steps K) [] := ok_check_steps T F_check_steps (He.glo_ok X N (c.fact 69)) c_judged c_steps_hold c_pairs
  obtain ⟨fd_nobody_joins, F_nobody_joins⟩ := c.def_ 28
  have c_nobody_joins : C8.Cal P w K mg base 4 "nobody_joins" (sp_nobody_joins K) [] := ok_nobody_joins T F_nobody_joins (He.glo_ok X N (c.fact 23)) c_round_steps
  obtain ⟨fd_is_closed, F_is_closed⟩ := c.def_ 82
  have c_is_closed : C8.Cal P w K mg base 5 "is_closed" (sp_is_closed K) [] := ok_is_closed T F_is_closed (He.glo_ok X N (c.fact 70)) c_judged c_nobody_joins
  obtain ⟨fd_suffices, F_suffices⟩ := c.def_ 29
  have c_suffices : C8.Cal P w K mg base 5 "suffices" (sp_suffices K) [] := ok_suffices T F_suffices (He.glo_ok X N (c.fact 24)) c_joined c_everyone c_all_steps
  obtain ⟨fd_is_sufficient, F_is_sufficient⟩ := c.def_ 83
  have c_is_sufficient : C8.Cal P w K mg base 6 "is_sufficient" (sp_is_sufficient K) [] := ok_is_sufficient T F_is_sufficient (He.glo_ok X N (c.fact 71)) c_judged c_suffices
  obtain ⟨fd_blocks, F_blocks⟩ := c.def_ 30
  have c_blocks : C8.Cal P w K mg base 6 "blocks" (sp_blocks K) [] := ok_blocks T F_blocks (He.glo_ok X N (c.fact 25)) c_suffices c_everyone
  obtain ⟨fd_is_blocking, F_is_blocking⟩ := c.def_ 84
  have c_is_blocking : C8.Cal P w K mg base 7 "is_blocking" (sp_is_blocking K) [] := ok_is_blocking T F_is_blocking (He.glo_ok X N (c.fact 72)) c_judged c_blocks
  obtain ⟨fd_is_minimal, F_is_minimal⟩ := c.def_ 36
  have c_is_minimal : C8.Cal P w K mg base 1 "is_minimal" (sp_is_minimal K) [] := ok_is_minimal T F_is_minimal (He.glo_ok X N (c.fact 31)) 
  obtain ⟨fd_minimal_coalitions, F_minimal_coalitions⟩ := c.def_ 35
  have c_minimal_coalitions : C8.Cal P w K mg base 2 "minimal_coalitions" (sp_minimal_coalitions K) [] := ok_minimal_coalitions T F_minimal_coalitions (He.glo_ok X N (c.fact 30)) c_is_minimal
  obtain ⟨fd_sufficient_flags, F_sufficient_flags⟩ := c.def_ 31
  have c_sufficient_flags : C8.Cal P w K mg base 4 "sufficient_flags" (sp_sufficient_flags K) [] := ok_sufficient_flags T F_sufficient_flags (He.glo_ok X N (c.fact 26)) c_everyone c_joined c_round_steps
  obtain ⟨fd_minimal_sufficient, F_minimal_sufficient⟩ := c.def_ 85
  have c_minimal_sufficient : C8.Cal P w K mg base 5 "minimal_sufficient" (sp_minimal_sufficient K) [] := ok_minimal_sufficient T F_minimal_sufficient (He.glo_ok X N (c.fact 73)) c_listed c_minimal_coalitions c_sufficient_flags
  obtain ⟨fd_blocking_flags, F_blocking_flags⟩ := c.def_ 33
  have c_blocking_flags : C8.Cal P w K mg base 5 "blocking_flags" (sp_blocking_flags K) [] := ok_blocking_flags T F_blocking_flags (He.glo_ok X N (c.fact 28)) c_sufficient_flags
  obtain ⟨fd_minimal_blocking, F_minimal_blocking⟩ := c.def_ 86
  have c_minimal_blocking : C8.Cal P w K mg base 6 "minimal_blocking" (sp_minimal_blocking K) [] := ok_minimal_blocking T F_minimal_blocking (He.glo_ok X N (c.fact 74)) c_listed c_minimal_coalitions c_blocking_flags
  obtain ⟨fd_weight_of, F_weight_of⟩ := c.def_ 71
  have c_weight_of : C8.Cal P w K mg base 2 "weight_of" (sp_weight_of K) [] := ok_weight_of T F_weight_of (He.glo_ok X N (c.fact 59)) c_has_member
  obtain ⟨fd_sufficient_coalitions, F_sufficient_coalitions⟩ := c.def_ 32
  have c_sufficient_coalitions : C8.Cal P w K mg base 5 "sufficient_coalitions" (sp_sufficient_coalitions K) [] := ok_sufficient_coalitions T F_sufficient_coalitions (He.glo_ok X N (c.fact 27)) c_sufficient_flags
  obtain ⟨fd_cheapest, F_cheapest⟩ := c.def_ 73
  have c_cheapest : C8.Cal P w K mg base 6 "cheapest" (sp_cheapest K) [] := ok_cheapest T F_cheapest (He.glo_ok X N (c.fact 61)) c_weight_of c_sufficient_coalitions
  obtain ⟨fd_cheapest_sufficient, F_cheapest_sufficient⟩ := c.def_ 87
  have c_cheapest_sufficient : C8.Cal P w K mg base 7 "cheapest_sufficient" (sp_cheapest_sufficient K) [] := ok_cheapest_sufficient T F_cheapest_sufficient (He.glo_ok X N (c.fact 75)) c_cheapest
  obtain ⟨fd_packed_on, F_packed_on⟩ := c.def_ 75
  have c_packed_on : C8.Cal P w K mg base 2 "packed_on" (sp_packed_on K) [] := ok_packed_on T F_packed_on (He.glo_ok X N (c.fact 63)) c_has_member
  obtain ⟨fd_packing_holds, F_packing_holds⟩ := c.def_ 74
  have c_packing_holds : C8.Cal P w K mg base 7 "packing_holds" (sp_packing_holds K) [] := ok_packing_holds T F_packing_holds (He.glo_ok X N (c.fact 62)) c_blocks c_packed_on
  obtain ⟨fd_bound, F_bound⟩ := c.def_ 76
  have c_bound : C8.Cal P w K mg base 1 "bound" (sp_bound K) [] := ok_bound T F_bound (He.glo_ok X N (c.fact 64)) 
  obtain ⟨fd_verify_packing, F_verify_packing⟩ := c.def_ 88
  have c_verify_packing : C8.Cal P w K mg base 8 "verify_packing" (sp_verify_packing K) [] := ok_verify_packing T F_verify_packing (He.glo_ok X N (c.fact 76)) c_pairs c_packing_holds c_bound
  obtain ⟨fd_return_flags, F_return_flags⟩ := c.def_ 34
  have c_return_flags : C8.Cal P w K mg base 5 "return_flags" (sp_return_flags K) [] := ok_return_flags T F_return_flags (He.glo_ok X N (c.fact 29)) c_sufficient_flags
  obtain ⟨fd_minimal_returns, F_minimal_returns⟩ := c.def_ 89
  have c_minimal_returns : C8.Cal P w K mg base 6 "minimal_returns" (sp_minimal_returns K) [] := ok_minimal_returns T F_minimal_returns (He.glo_ok X N (c.fact 77)) c_listed c_minimal_coalitions c_return_flags
  obtain ⟨fd_is_swing, F_is_swing⟩ := c.def_ 38
  have c_is_swing : C8.Cal P w K mg base 2 "is_swing" (sp_is_swing K) [] := ok_is_swing T F_is_swing (He.glo_ok X N (c.fact 33)) c_has_member
  obtain ⟨fd_swings, F_swings⟩ := c.def_ 37
  have c_swings : C8.Cal P w K mg base 5 "swings" (sp_swings K) [] := ok_swings T F_swings (He.glo_ok X N (c.fact 32)) c_sufficient_flags c_is_swing
  obtain ⟨fd_swing_count, F_swing_count⟩ := c.def_ 90
  have c_swing_count : C8.Cal P w K mg base 6 "swing_count" (sp_swing_count K) [] := ok_swing_count T F_swing_count (He.glo_ok X N (c.fact 78)) c_swings
  obtain ⟨fd_common_divisor, F_common_divisor⟩ := c.def_ 44
  have c_common_divisor : C8.Cal P w K mg base 1 "common_divisor" (sp_common_divisor K) [] := ok_common_divisor T F_common_divisor (He.glo_ok X N (c.fact 39)) 
  obtain ⟨fd_lowest_terms, F_lowest_terms⟩ := c.def_ 43
  have c_lowest_terms : C8.Cal P w K mg base 2 "lowest_terms" (sp_lowest_terms K) [] := ok_lowest_terms T F_lowest_terms (He.glo_ok X N (c.fact 38)) c_common_divisor
  obtain ⟨fd_size, F_size⟩ := c.def_ 22
  have c_size : C8.Cal P w K mg base 1 "size" (sp_size K) [] := ok_size T F_size (He.glo_ok X N (c.fact 17)) 
  obtain ⟨fd_shapley_shubik, F_shapley_shubik⟩ := c.def_ 39
  have c_shapley_shubik : C8.Cal P w K mg base 6 "shapley_shubik" (sp_shapley_shubik K) [] := ok_shapley_shubik T F_shapley_shubik (He.glo_ok X N (c.fact 34)) c_lowest_terms c_size c_swings
  obtain ⟨fd_power_index, F_power_index⟩ := c.def_ 91
  have c_power_index : C8.Cal P w K mg base 7 "power_index" (sp_power_index K) [] := ok_power_index T F_power_index (He.glo_ok X N (c.fact 79)) c_shapley_shubik
  obtain ⟨fd_counts_by_size, F_counts_by_size⟩ := c.def_ 40
  have c_counts_by_size : C8.Cal P w K mg base 6 "counts_by_size" (sp_counts_by_size K) [] := ok_counts_by_size T F_counts_by_size (He.glo_ok X N (c.fact 35)) c_sufficient_coalitions c_size
  obtain ⟨fd_raised, F_raised⟩ := c.def_ 42
  have c_raised : C8.Cal P w K mg base 1 "raised" (sp_raised K) [] := ok_raised T F_raised (He.glo_ok X N (c.fact 37)) 
  obtain ⟨fd_continuation, F_continuation⟩ := c.def_ 41
  have c_continuation : C8.Cal P w K mg base 7 "continuation" (sp_continuation K) [] := ok_continuation T F_continuation (He.glo_ok X N (c.fact 36)) c_lowest_terms c_counts_by_size c_raised
  obtain ⟨fd_continuation_probability, F_continuation_probability⟩ := c.def_ 92
  have c_continuation_probability : C8.Cal P w K mg base 8 "continuation_probability" (sp_continuation_probability K) [] := ok_continuation_probability T F_continuation_probability (He.glo_ok X N (c.fact 80)) c_continuation
  obtain ⟨fd_sufficient_counts, F_sufficient_counts⟩ := c.def_ 93
  have c_sufficient_counts : C8.Cal P w K mg base 7 "sufficient_counts" (sp_sufficient_counts K) [] := ok_sufficient_counts T F_sufficient_counts (He.glo_ok X N (c.fact 81)) c_listed c_counts_by_size
  obtain ⟨fd_remove_rule, F_remove_rule⟩ := c.def_ 94
  have c_remove_rule : C8.Cal P w K mg base 1 "remove_rule" (sp_remove_rule K) [] := ok_remove_rule T F_remove_rule (He.glo_ok X N (c.fact 82)) 
  obtain ⟨fd_set_weight, F_set_weight⟩ := c.def_ 95
  have c_set_weight : C8.Cal P w K mg base 1 "set_weight" (sp_set_weight K) [] := ok_set_weight T F_set_weight (He.glo_ok X N (c.fact 83)) 
  obtain ⟨fd_total_weight, F_total_weight⟩ := c.def_ 72
  have c_total_weight : C8.Cal P w K mg base 3 "total_weight" (sp_total_weight K) [] := ok_total_weight T F_total_weight (He.glo_ok X N (c.fact 60)) c_weight_of c_everyone
  obtain ⟨fd_summary, F_summary⟩ := c.def_ 96
  have c_summary : C8.Cal P w K mg base 4 "summary" (sp_summary K) [] := ok_summary T F_summary (He.glo_ok X N (c.fact 84)) c_total_weight
  have hOps := ops_tup bm
  have hS : HeldM P w K mg base 11 := fun m hm => match m, hm with
    | 0, _ => ⟨11, by decide, held_of c_load_room (He.glo_ok X N (c.fact 65))⟩
    | 1, _ => ⟨11, by decide, held_of c_check_room (He.glo_ok X N (c.fact 66))⟩
    | 2, _ => ⟨3, by decide, held_of c_print_room (He.glo_ok X N (c.fact 67))⟩
    | 3, _ => ⟨5, by decide, held_of c_acting_coalition (He.glo_ok X N (c.fact 68))⟩
    | 4, _ => ⟨4, by decide, held_of c_check_steps (He.glo_ok X N (c.fact 69))⟩
    | 5, _ => ⟨5, by decide, held_of c_is_closed (He.glo_ok X N (c.fact 70))⟩
    | 6, _ => ⟨6, by decide, held_of c_is_sufficient (He.glo_ok X N (c.fact 71))⟩
    | 7, _ => ⟨7, by decide, held_of c_is_blocking (He.glo_ok X N (c.fact 72))⟩
    | 8, _ => ⟨5, by decide, held_of c_minimal_sufficient (He.glo_ok X N (c.fact 73))⟩
    | 9, _ => ⟨6, by decide, held_of c_minimal_blocking (He.glo_ok X N (c.fact 74))⟩
    | 10, _ => ⟨7, by decide, held_of c_cheapest_sufficient (He.glo_ok X N (c.fact 75))⟩
    | 11, _ => ⟨8, by decide, held_of c_verify_packing (He.glo_ok X N (c.fact 76))⟩
    | 12, _ => ⟨6, by decide, held_of c_minimal_returns (He.glo_ok X N (c.fact 77))⟩
    | 13, _ => ⟨6, by decide, held_of c_swing_count (He.glo_ok X N (c.fact 78))⟩
    | 14, _ => ⟨7, by decide, held_of c_power_index (He.glo_ok X N (c.fact 79))⟩
    | 15, _ => ⟨8, by decide, held_of c_continuation_probability (He.glo_ok X N (c.fact 80))⟩
    | 16, _ => ⟨7, by decide, held_of c_sufficient_counts (He.glo_ok X N (c.fact 81))⟩
    | 17, _ => ⟨1, by decide, held_of c_remove_rule (He.glo_ok X N (c.fact 82))⟩
    | 18, _ => ⟨1, by decide, held_of c_set_weight (He.glo_ok X N (c.fact 83))⟩
    | 19, _ => ⟨4, by decide, held_of c_summary (He.glo_ok X N (c.fact 84))⟩
    | n + 20, h => absurd h (by omega)
  obtain ⟨fd_perform, F_perform⟩ := c.def_ 100
  have c_perform : C8.Cal P w K mg base 12 "perform" (sp_perform K) [] := ok_perform T F_perform (He.glo_ok X N (c.fact 88)) c_arguments_fit c_needs_room c_all_are_there hOps hS
  exact fn_answers T F m_Session c_read_calls c_perform
end
theorem whole_same (c : List (List Int)) : PyVbndam.whole c = c := by
  unfold PyVbndam.whole
  split <;> rfl
theorem row_short {c : List (List Int)} (h : VbndamNeutral.asked1 c = true) : (c.getD 1 []).length ≤ 100000 := by
  have key : ∀ r : List Int, VbndamNeutral.isListWithinLimits r = true → r.length ≤ 100000 := fun r hr => by
    unfold VbndamNeutral.isListWithinLimits at hr
    rw [Bool.and_eq_true, decide_eq_true_eq] at hr
    omega
  unfold VbndamNeutral.asked1 at h
  split at h
  all_goals first
    | exact key _ h
    | exact key _ (Bool.and_eq_true_iff.mp h).2
    | exact Nat.zero_le _
    | cases h
theorem asked_facts {l : List Int} (h : PyVbndam.answers_asked l = true) : ∃ raw, PyFlat.calls PyVbndam.shape l.length l = some raw ∧ raw.length ≤ 100 ∧ (∀ c ∈ raw, (c.getD 1 []).length ≤ 100000) ∧ (PyVbndam.answers l).length ≤ 10000000 := by
  unfold PyVbndam.answers_asked at h
  cases e : PyFlat.calls PyVbndam.shape l.length l with
  | none => rw [e] at h; cases h
  | some raw =>
    rw [e] at h
    dsimp only at h
    obtain ⟨h, h5⟩ := He.ba h
    obtain ⟨h, h4⟩ := He.ba h
    obtain ⟨h, h3⟩ := He.ba h
    obtain ⟨h1, h2⟩ := He.ba h
    refine ⟨raw, rfl, of_decide_eq_true h2, fun c hc => ?_, of_decide_eq_true h5⟩
    have hw : raw.map PyVbndam.whole = raw := (List.map_congr_left fun c _ => whole_same c).trans (List.map_id raw)
    rw [hw] at h4
    unfold VbndamNeutral.asked at h4
    exact row_short (List.all_eq_true.mp (He.ba h4).1 c hc)
end SI


set_option maxHeartbeats 8000000
namespace SI
open PySem PySem.Spec PyProof.Rows L2
theorem bindsAns {K : PySem.W.Frag} {f : Addr} {fd : FuncData} (F : FnP K "answers" "answers" s_answers f fd) : ∀ (s : Shared) (us : List Value), us.length = ["calls"].length → BindsTo s fd ⟨us, []⟩ ((["calls"] : List Str).zip us) :=
  fun s us hl => F.bindsA (fun _ _ _ _ _ _ us hl => match us, hl with | [_], _ => rfl) s us hl
/-- what the def gives for what the row hands in -/
theorem givesAns {K : PySem.W.Frag} {H : Hp} {xs : List V} (a : PySem.W.Codec.denoteAll R0.args) (ha : PySem.W.Codec.app R0.args R0.asked a = true) (hx : L2.DwAll K H xs (PySem.W.Codec.encAll R0.args a)) :
    sp_answers K xs H (fun v H' => L2.Dw K H' v (R0.ret.enc (PySem.W.Codec.app R0.args R0.f a))) fun _ _ _ => False := by
  cases hx with
  | cons h1 h2 =>
    cases h2
    cases h1 with
    | lst hs hall =>
      have e := L2.ints_dw a.1 _ hall
      subst e
      obtain ⟨raw, q1, q2, q3, q4⟩ := asked_facts (l := a.1) ha
      exact ⟨_, a.1, raw, rfl, hs, q1, q2, q3, q4, fun H' p hp => .lst (L2.SqL.of hp) (L2.dw_ints _)⟩
theorem lastWalk {d : DefRec} (hn : d.name = "answers") : PySem.W.WalkOS qv nms (PySem.W.XL qv []) hookS.says R0 d [] (fun f vs => PySem.call f vs) := by
  intro w sA sB mg mb G Y fa ob pm cd doc dV kV ho hd hcd hD hmg hgen args vals as hpre hlay hrd hwell hlo
  obtain ⟨a, e1, e2⟩ := PySem.W.os_pre_some hpre
  obtain ⟨rfl, hin⟩ := PySem.W.Codec.encAll_of_decAll R0.args args a e1
  obtain ⟨K, KX, cY⟩ := Y
  have bm : mineB K = true := (Prod.mk.inj cY).1
  have c : He.SaysD faAll fnl K := (Prod.mk.inj cY).2
  have hfa : fa = He.ga K "answers" := by
    have g1 := He.glo_ok KX G.T.g (c.fact 89)
    rw [hn, g1] at hmg
    exact (Value.ref.inj (Option.some.inj hmg)).symm
  subst hfa
  obtain ⟨fd, F⟩ := c.def_ 101
  have F' : FnP K "answers" "answers" s_answers (He.ga K "answers") fd := F
  have rm : Room 13 callerA := ⟨rfl, by decide, by decide⟩
  have run2 := L2.spec_call (R := []) (cl := classAt sA.heap) (d0 := R0.ret.enc (PySem.W.Codec.app R0.args R0.f a)) KX G.T.g G.T.b G.T.builtins G.T.nolimit hgen hwell (L2.pl_encAll _ _) (L2.layable_weight hlay) rm
    (fun base hK hN => all_fn (P := R0.prog) (w := w) (mg := mg) (base := base) c bm hK hN F') (bindsAns F') (by rw [L2.encAll_len]; rfl) (fun H xs _ hx => givesAns a e2 hx) (fun H e s' q => q)
  refine PySem.W.enter_call (codeAny_mono run2 fun r s' q => ?_)
  obtain ⟨u, rs, rfl, w1, w2, w3, w4⟩ := q
  refine ⟨.inl ⟨u, _, rs, rfl, fun _ => rfl, w1, ?_, fun z => Bool.noConfusion (show false = true from z)⟩, w2, w3, w4⟩
  exact (PySem.W.OpenSpec.post_iff (r := R0) wellR hin _ _).mpr rfl
end SI
theorem PySem.Challenge.cw_standins_s01_answers_holds : PySem.Challenge.rw_standins_s01_answers.Holds := by
  refine HandSHeadRun.head_spec (r := SI.R0) (q := SI.qv) (H := SI.hk) (ob := SI.ob) (M := 5200) (loose := SI.nms) SI.ob_eq rfl (fun _ => rfl) SI.run1 (by rfl) (by rfl) (by rfl) PySem.W.os_shapes SI.wellR (by decide +kernel) ?hb ?hw (SI.lastWalk rfl)
  case hw => exact ⟨[.list [.int 2]], by decide +kernel, by decide +kernel⟩
  case hb => exact SI.bareR

