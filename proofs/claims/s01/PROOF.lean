import PyProof.Rows.All
import Wide.All
import OpenK.AllK
import Wide.FinOn
import Open.SpecLaws
import KE.OsHead
import KE.OsGo
import HandS.ForSpec
import HandS.Comp
import HandS.Dict
import HandS.Deep
import HandS.Iter
import HandS.WordsDict
import HandS.More
import HandS.Flow
import HandS.Evl
import HandS.TupAny
import HandS.SortRule
import KE.KDictDisplayH
import PySem.Challenge.RW_upgradeways_s01_answers
set_option Elab.async false
set_option maxRecDepth 100000
set_option maxHeartbeats 4000000
set_option linter.all false
namespace Up
open Rp11

/-- a way of so many steps to what's wanted -/
def Way (h : House) : Nat → State → Prop
  | 0, t => t = h.goal
  | k + 1, t => ∃ x ∈ h.steps t, Way h k (after t x)

/-- the fewest steps to what's wanted, or none -/
def IsFar (h : House) (t : State) : Option Nat → Prop
  | some n => Way h n t ∧ ∀ m, m < n → ¬ Way h m t
  | none => ∀ m, ¬ Way h m t

theorem IsFar.unique {h : House} {t : State} {a b : Option Nat} (ha : IsFar h t a) (hb : IsFar h t b) : a = b := by
  cases a with
  | none =>
    cases b with
    | none => rfl
    | some n => exact absurd hb.1 (ha n)
  | some n =>
    cases b with
    | none => exact absurd ha.1 (hb n)
    | some m =>
      rcases Nat.lt_trichotomy n m with c | c | c
      · exact absurd ha.1 (hb.2 n c)
      · rw [c]
      · exact absurd hb.1 (ha.2 m c)

theorem isFar_exists_min {P : Nat → Prop} : ∀ n, P n → ∃ m, P m ∧ ∀ j, j < m → ¬ P j := by
  intro n
  induction n using Nat.strongRecOn with
  | _ n ih =>
    intro hn
    by_cases c : ∃ j, j < n ∧ P j
    · obtain ⟨j, hj, pj⟩ := c
      exact ih j hj pj
    · exact ⟨n, hn, fun j hj pj => c ⟨j, hj, pj⟩⟩

/-- kept by every step that may be done -/
def Closed (h : House) (r : List State) : Prop := ∀ t ∈ r, ∀ x ∈ h.steps t, after t x ∈ r

theorem nodup_length_le {α : Type} [DecidableEq α] : ∀ (l u : List α), l.Nodup → (∀ x ∈ l, x ∈ u) → l.length ≤ u.length
  | [], u, _, _ => Nat.zero_le _
  | a :: l, u, hn, hs => by
    have hn' := List.nodup_cons.1 hn
    have ha : a ∈ u := hs a (List.mem_cons_self)
    have h1 := nodup_length_le l (u.erase a) hn'.2 (by
      intro x hx
      have hne : x ≠ a := fun e => hn'.1 (e ▸ hx)
      exact (List.mem_erase_of_ne hne).2 (hs x (List.mem_cons_of_mem _ hx)))
    have h2 := List.length_erase_of_mem ha
    have h3 : 0 < u.length := List.length_pos_of_mem ha
    simp only [List.length_cons]
    omega

/-- the new ones of a front -/
abbrev newOf (seen : List State) (L : List State) (acc : List State) : List State :=
  L.foldl (fun (l : List State) u => if seen.contains u = true ∨ l.contains u = true then l else l ++ [u]) acc

theorem newOf_spec (seen : List State) : ∀ (L acc : List State), acc.Nodup → (∀ u ∈ acc, u ∉ seen) →
    (newOf seen L acc).Nodup ∧ (∀ u ∈ newOf seen L acc, u ∉ seen) ∧ (∀ u ∈ acc, u ∈ newOf seen L acc) ∧
    (∀ u ∈ newOf seen L acc, u ∈ acc ∨ u ∈ L) ∧ (∀ u ∈ L, u ∈ seen ∨ u ∈ newOf seen L acc)
  | [], acc, hn, hs => ⟨hn, hs, fun _ h => h, fun _ h => .inl h, fun _ h => nomatch h⟩
  | a :: L, acc, hn, hs => by
    by_cases c : seen.contains a = true ∨ acc.contains a = true
    · have e : newOf seen (a :: L) acc = newOf seen L acc := by
        simp only [newOf, List.foldl_cons, if_pos c]
      rw [e]
      obtain ⟨h1, h2, h3, h4, h5⟩ := newOf_spec seen L acc hn hs
      refine ⟨h1, h2, h3, fun u hu => (h4 u hu).imp id (List.mem_cons_of_mem _), fun u hu => ?_⟩
      rcases List.mem_cons.1 hu with rfl | hu
      · rcases c with c | c
        · exact .inl (List.contains_iff_mem.1 c)
        · exact .inr (h3 _ (List.contains_iff_mem.1 c))
      · exact h5 u hu
    · have e : newOf seen (a :: L) acc = newOf seen L (acc ++ [a]) := by
        simp only [newOf, List.foldl_cons, if_neg c]
      rw [e]
      have ca : a ∉ seen := fun h => c (.inl (List.contains_iff_mem.2 h))
      have cb : a ∉ acc := fun h => c (.inr (List.contains_iff_mem.2 h))
      obtain ⟨h1, h2, h3, h4, h5⟩ := newOf_spec seen L (acc ++ [a])
        (by
          rw [List.nodup_append]
          refine ⟨hn, by simp, ?_⟩
          intro x hx y hy exy
          rw [List.mem_singleton] at hy
          exact cb (hy ▸ exy ▸ hx))
        (by
          intro u hu
          rcases List.mem_append.1 hu with hu | hu
          · exact hs u hu
          · rw [List.mem_singleton] at hu; exact hu ▸ ca)
      refine ⟨h1, h2, fun u hu => h3 u (List.mem_append_left _ hu), fun u hu => ?_, fun u hu => ?_⟩
      · rcases h4 u hu with hu | hu
        · rcases List.mem_append.1 hu with hu | hu
          · exact .inl hu
          · rw [List.mem_singleton] at hu; exact .inr (hu ▸ List.mem_cons_self)
        · exact .inr (List.mem_cons_of_mem _ hu)
      · rcases List.mem_cons.1 hu with rfl | hu
        · exact .inr (h3 _ (List.mem_append_right _ (List.mem_singleton.2 rfl)))
        · exact h5 u hu

theorem reach_nil (h : House) (n : Nat) (seen : List State) : h.reach n seen [] = seen := by
  cases n <;> rfl

theorem reach_spec (h : House) (U : List State) (hU : Closed h U) : ∀ (n : Nat) (seen front : List State),
    (∀ t ∈ front, t ∈ seen) → (∀ t ∈ seen, t ∉ front → ∀ x ∈ h.steps t, after t x ∈ seen) →
    seen.Nodup → (∀ t ∈ seen, t ∈ U) → U.length < seen.length + n →
    Closed h (h.reach n seen front) ∧ (h.reach n seen front).Nodup ∧ (∀ t ∈ h.reach n seen front, t ∈ U) ∧
      (∀ t ∈ seen, t ∈ h.reach n seen front) := by
  intro n
  induction n with
  | zero =>
    intro seen front _ _ hn hs hl
    have := nodup_length_le seen U hn hs
    omega
  | succ n ih =>
    intro seen front hf hc hn hs hl
    cases front with
    | nil => exact ⟨fun t ht x hx => hc t ht (List.not_mem_nil) x hx, hn, hs, fun _ h => h⟩
    | cons f fr =>
      have e : h.reach (n + 1) seen (f :: fr) = h.reach n
          (seen ++ newOf seen ((f :: fr).flatMap fun t => (h.steps t).map fun x => after t x) [])
          (newOf seen ((f :: fr).flatMap fun t => (h.steps t).map fun x => after t x) []) := rfl
      rw [e]
      generalize hL : ((f :: fr).flatMap fun t => (h.steps t).map fun x => after t x) = L
      obtain ⟨h1, h2, -, h4, h5⟩ := newOf_spec seen L [] List.nodup_nil (fun _ h => nomatch h)
      generalize newOf seen L [] = new at h1 h2 h4 h5
      have hLU : ∀ u ∈ L, u ∈ U := by
        intro u hu
        rw [← hL] at hu
        obtain ⟨t, ht, hu⟩ := List.mem_flatMap.1 hu
        obtain ⟨x, hx, rfl⟩ := List.mem_map.1 hu
        exact hU t (hs t (hf t ht)) x hx
      have hcl : ∀ t ∈ seen, ∀ x ∈ h.steps t, after t x ∈ seen ∨ after t x ∈ new := by
        intro t ht x hx
        by_cases c : t ∈ f :: fr
        · apply h5
          rw [← hL]
          exact List.mem_flatMap.2 ⟨t, c, List.mem_map.2 ⟨x, hx, rfl⟩⟩
        · exact .inl (hc t ht c x hx)
      by_cases c : new = []
      · subst c
        rw [reach_nil, List.append_nil]
        refine ⟨fun t ht x hx => ?_, hn, hs, fun _ h => h⟩
        rcases hcl t ht x hx with h | h
        · exact h
        · exact nomatch h
      · have hpos : 0 < new.length := by
          cases new with
          | nil => exact absurd rfl c
          | cons a b => simp
        obtain ⟨g1, g2, g3, g4⟩ := ih (seen ++ new) new (fun t ht => List.mem_append_right _ ht)
          (by
            intro t ht htn x hx
            rcases List.mem_append.1 ht with ht | ht
            · rcases hcl t ht x hx with h | h
              · exact List.mem_append_left _ h
              · exact List.mem_append_right _ h
            · exact absurd ht htn)
          (by
            rw [List.nodup_append]
            exact ⟨hn, h1, fun x hx y hy e => h2 y hy (e ▸ hx)⟩)
          (by
            intro t ht
            rcases List.mem_append.1 ht with ht | ht
            · exact hs t ht
            · rcases h4 t ht with h | h
              · exact nomatch h
              · exact hLU t h)
          (by rw [List.length_append]; omega)
        exact ⟨g1, g2, g3, fun t ht => g4 t (List.mem_append_left _ ht)⟩

theorem far_nil (t : State) : far [] t = none := rfl

theorem far_cons (l : List State) (tab : List (List State)) (t : State) :
    far (l :: tab) t = if l.contains t = true then some 0 else (far tab t).map (· + 1) := by
  unfold far
  rw [List.length_cons, List.range_succ_eq_map, List.find?_cons]
  have e0 : ((l :: tab).getD 0 []).contains t = l.contains t := rfl
  rw [e0]
  cases c : l.contains t with
  | true => simp
  | false =>
    simp only [Bool.false_eq_true, if_false, List.find?_map]
    have e1 : ((fun k => ((l :: tab).getD k []).contains t) ∘ Nat.succ) = (fun k => (tab.getD k []).contains t) := rfl
    rw [e1]

theorem levels_nil (h : House) (n : Nat) (rest : List State) : h.levels n rest [] = [] := by
  cases n <;> rfl

theorem way_pass {h : House} {r : List State} (hr : Closed h r) : ∀ (k j : Nat) (t : State), t ∈ r → Way h (k + j) t →
    (∀ m, m < k + j → ¬ Way h m t) → ∃ u ∈ r, Way h j u ∧ ∀ m, m < j → ¬ Way h m u
  | 0, j, t, ht, hw, hm => ⟨t, ht, by simpa using hw, by simpa using hm⟩
  | k + 1, j, t, ht, hw, hm => by
    have hw' : Way h ((k + j) + 1) t := by
      have e : k + 1 + j = (k + j) + 1 := by omega
      rwa [e] at hw
    obtain ⟨x, hx, hx'⟩ := hw'
    exact way_pass hr k j (after t x) (hr t ht x hx) hx' (fun m hmk hwm => hm (m + 1) (by omega) ⟨x, hx, hwm⟩)

theorem levels_far (h : House) (r : List State) (hr : Closed h r) : ∀ (n d : Nat) (rest l : List State),
    rest.length < n → (∀ t ∈ r, t ∈ l ↔ (Way h d t ∧ ∀ m, m < d → ¬ Way h m t)) →
    (∀ t, t ∈ rest ↔ t ∈ r ∧ ∀ m, m ≤ d → ¬ Way h m t) →
    ∀ t ∈ r, (∀ m, m < d → ¬ Way h m t) → IsFar h t ((far (h.levels n rest l) t).map (· + d)) := by
  intro n
  induction n with
  | zero => intro d rest l hl; omega
  | succ n ih =>
    intro d rest l hl hL hR t ht htd
    cases l with
    | nil =>
      have hno : ∀ u ∈ r, Way h d u → (∀ m, m < d → ¬ Way h m u) → False := fun u hu h1 h2 => nomatch (hL u hu).2 ⟨h1, h2⟩
      show IsFar h t none
      intro m hm
      obtain ⟨m0, h0, h0'⟩ := isFar_exists_min (P := fun m => Way h m t) m hm
      have hge : d ≤ m0 := by
        rcases Nat.lt_or_ge m0 d with c | c
        · exact absurd h0 (htd m0 c)
        · exact c
      have e : m0 - d + d = m0 := by omega
      obtain ⟨u, hu, h1, h2⟩ := way_pass hr (m0 - d) d t ht (by rw [e]; exact h0) (by rw [e]; exact h0')
      exact hno u hu h1 h2
    | cons a l =>
      have e : h.levels (n + 1) rest (a :: l) = (a :: l) :: h.levels n
          (rest.filter fun t => !(rest.filter fun t => (h.steps t).any fun x => (a :: l).contains (after t x)).contains t)
          (rest.filter fun t => (h.steps t).any fun x => (a :: l).contains (after t x)) := rfl
      rw [e, far_cons]
      by_cases c : (a :: l).contains t = true
      · rw [if_pos c]
        have := (hL t ht).1 (List.contains_iff_mem.1 c)
        show IsFar h t (some (0 + d))
        rw [Nat.zero_add]
        exact this
      · rw [if_neg c]
        have hnd : ¬ Way h d t := fun hw => c (List.contains_iff_mem.2 ((hL t ht).2 ⟨hw, htd⟩))
        have htd' : ∀ m, m < d + 1 → ¬ Way h m t := by
          intro m hm
          rcases Nat.lt_or_ge m d with c | c
          · exact htd m c
          · have : m = d := by omega
            rw [this]; exact hnd
        generalize hN : (rest.filter fun t => (h.steps t).any fun x => (a :: l).contains (after t x)) = next
        have hNm : ∀ u, u ∈ next ↔ u ∈ rest ∧ ∃ x ∈ h.steps u, after u x ∈ a :: l := by
          intro u
          rw [← hN, List.mem_filter, List.any_eq_true]
          constructor
          · rintro ⟨h1, x, hx, hc⟩
            exact ⟨h1, x, hx, List.contains_iff_mem.1 hc⟩
          · rintro ⟨h1, x, hx, hc⟩
            exact ⟨h1, x, hx, List.contains_iff_mem.2 hc⟩
        have hNr : ∀ u ∈ r, u ∈ next ↔ (Way h (d + 1) u ∧ ∀ m, m < d + 1 → ¬ Way h m u) := by
          intro u hu
          rw [hNm, hR]
          constructor
          · rintro ⟨⟨-, h1⟩, x, hx, hc⟩
            exact ⟨⟨x, hx, ((hL _ (hr u hu x hx)).1 hc).1⟩, fun m hm => h1 m (by omega)⟩
          · rintro ⟨⟨x, hx, hw⟩, hm⟩
            refine ⟨⟨hu, fun m hmd => hm m (by omega)⟩, x, hx, ?_⟩
            exact (hL _ (hr u hu x hx)).2 ⟨hw, fun m hmd hwm => hm (m + 1) (by omega) ⟨x, hx, hwm⟩⟩
        have hRr : ∀ u, u ∈ (rest.filter fun t => !next.contains t) ↔ u ∈ r ∧ ∀ m, m ≤ d + 1 → ¬ Way h m u := by
          intro u
          rw [List.mem_filter, hR]
          constructor
          · rintro ⟨⟨hu, h1⟩, hc⟩
            refine ⟨hu, fun m hm => ?_⟩
            rcases Nat.lt_or_ge d m with c | c
            · have : m = d + 1 := by omega
              rw [this]
              intro hw
              have := (hNr u hu).2 ⟨hw, fun m hm => h1 m (by omega)⟩
              rw [List.contains_iff_mem.2 this] at hc
              exact nomatch hc
            · exact h1 m c
          · rintro ⟨hu, h1⟩
            refine ⟨⟨hu, fun m hm => h1 m (by omega)⟩, ?_⟩
            cases hc : next.contains u with
            | false => rfl
            | true => exact absurd ((hNr u hu).1 (List.contains_iff_mem.1 hc)).1 (h1 (d + 1) (Nat.le_refl _))
        have key : IsFar h t ((far (h.levels n (rest.filter fun t => !next.contains t) next) t).map (· + (d + 1))) := by
          by_cases c0 : next = []
          · -- no fuel is asked
            have hno : ∀ u ∈ r, Way h (d + 1) u → (∀ m, m < d + 1 → ¬ Way h m u) → False := by
              intro u hu h1 h2
              have := (hNr u hu).2 ⟨h1, h2⟩
              rw [c0] at this
              exact nomatch this
            rw [c0, levels_nil, far_nil]
            show IsFar h t none
            intro m hm
            obtain ⟨m0, h0, h0'⟩ := isFar_exists_min (P := fun m => Way h m t) m hm
            have hge : d + 1 ≤ m0 := by
              rcases Nat.lt_or_ge m0 (d + 1) with c | c
              · exact absurd h0 (htd' m0 c)
              · exact c
            have e : m0 - (d + 1) + (d + 1) = m0 := by omega
            obtain ⟨u, hu, h1, h2⟩ := way_pass hr (m0 - (d + 1)) (d + 1) t ht (by rw [e]; exact h0) (by rw [e]; exact h0')
            exact hno u hu h1 h2
          · refine ih (d + 1) _ next ?_ hNr hRr t ht htd'
            have hlt : (rest.filter fun t => !next.contains t).length < rest.length := by
              rw [List.length_filter_lt_length_iff_exists]
              cases hnx : next with
              | nil => exact absurd hnx c0
              | cons b bs =>
                have hb : b ∈ next := hnx ▸ List.mem_cons_self
                refine ⟨b, ((hNm b).1 hb).1, ?_⟩
                rw [← hnx, List.contains_iff_mem.2 hb]
                simp
            omega
        have e2 : (((far (h.levels n (rest.filter fun t => !next.contains t) next) t).map (· + 1)).map (· + d))
            = ((far (h.levels n (rest.filter fun t => !next.contains t) next) t).map (· + (d + 1))) := by
          rw [Option.map_map]
          congr 1
          funext k
          show k + 1 + d = k + (d + 1)
          omega
        rw [e2]
        exact key

theorem way_mem {h : House} {r : List State} (hr : Closed h r) : ∀ (k : Nat) (t : State), t ∈ r → Way h k t → h.goal ∈ r
  | 0, t, ht, hw => by
    have : t = h.goal := hw
    exact this ▸ ht
  | k + 1, t, ht, ⟨x, hx, hw⟩ => way_mem hr k _ (hr t ht x hx) hw

/-- what the table tells is the fewest steps: of all that can be come to -/
theorem table_far (h : House) (U : List State) (hU : Closed h U) (hlen : U.length ≤ 250) (hnow : h.now ∈ U) :
    ∃ r : List State, h.now ∈ r ∧ Closed h r ∧ ∀ t ∈ r, IsFar h t (far h.table t) := by
  obtain ⟨h1, h2, h3, h4⟩ := reach_spec h U hU ENOUGH [h.now] [h.now] (fun _ h => h)
    (fun t ht hn => absurd ht hn) (by simp) (by intro t ht; rw [List.mem_singleton] at ht; exact ht ▸ hnow)
    (by show U.length < 1 + 250; omega)
  refine ⟨h.reach ENOUGH [h.now] [h.now], h4 _ (List.mem_singleton.2 rfl), h1, ?_⟩
  unfold House.table
  generalize h.reach ENOUGH [h.now] [h.now] = r at h1 h2 h3 h4
  intro t ht
  have hrl := nodup_length_le r U h2 h3
  by_cases c : r.contains h.goal = true
  · simp only [if_pos c]
    have hg := List.contains_iff_mem.1 c
    have := levels_far h r h1 ENOUGH 0 (r.filter fun t => t != h.goal) [h.goal]
      (by
        have : (r.filter fun t => t != h.goal).length < r.length := by
          rw [List.length_filter_lt_length_iff_exists]
          exact ⟨h.goal, hg, by simp⟩
        show _ < 250
        omega)
      (by
        intro t _
        rw [List.mem_singleton]
        exact ⟨fun e => ⟨e, fun m hm => absurd hm (Nat.not_lt_zero _)⟩, fun e => e.1⟩)
      (by
        intro t
        rw [List.mem_filter]
        constructor
        · rintro ⟨a, b⟩
          refine ⟨a, fun m hm => ?_⟩
          have : m = 0 := by omega
          subst this
          intro e
          have e' : t = h.goal := e
          rw [e'] at b
          simp at b
        · rintro ⟨a, b⟩
          refine ⟨a, ?_⟩
          have := b 0 (Nat.le_refl _)
          have : ¬ t = h.goal := this
          simp [this])
      t ht (fun m hm => absurd hm (Nat.not_lt_zero _))
    simpa using this
  · simp only [if_neg c]
    show IsFar h t none
    intro m hm
    exact c (List.contains_iff_mem.2 (way_mem h1 m t ht hm))
end Up

namespace Up
open Rp11

def noService : Service := ⟨0, 0, 0, 0, []⟩

structure WFS (S : Service) : Prop where
  c1 : 1 ≤ S.copies
  c2 : S.copies ≤ 2
  nd : S.need < S.copies
  v1 : 1 ≤ S.versions
  v3 : S.versions ≤ 3
  gl : S.goal < S.versions
  mv : ∀ m ∈ S.moves, m.1 < S.versions ∧ m.2 < S.versions ∧ m.1 ≠ m.2
  so : S.moves.Pairwise (fun a b => a.1 < b.1 ∨ (a.1 = b.1 ∧ a.2 < b.2))

def Shape : List Service → State → Prop
  | [], t => t = []
  | S :: ss, t => ∃ r u, t = r :: u ∧ r.length = S.versions ∧ r.sum = S.copies ∧ Shape ss u

def ClashOk (ss : List Service) (c : Nat × Nat × Nat × Nat) : Prop :=
  c.1 < ss.length ∧ c.2.1 < (ss.getD c.1 noService).versions ∧ c.2.2.1 < ss.length ∧ c.2.2.2 < (ss.getD c.2.2.1 noService).versions

structure WF (h : House) : Prop where
  len : h.services.length ≤ 3
  cl : h.clashes.length ≤ 20
  ser : ∀ S ∈ h.services, WFS S
  shape : Shape h.services h.now
  clv : ∀ c ∈ h.clashes, ClashOk h.services c

theorem Shape.length : ∀ {ss : List Service} {t : State}, Shape ss t → t.length = ss.length
  | [], t, h => by rw [show t = [] from h]; rfl
  | S :: ss, t, ⟨r, u, e, _, _, h⟩ => by rw [e, List.length_cons, List.length_cons, h.length]

theorem Shape.row : ∀ {ss : List Service} {t : State}, Shape ss t → ∀ (s : Nat), s < ss.length →
    (t.getD s []).length = (ss.getD s noService).versions ∧ (t.getD s []).sum = (ss.getD s noService).copies
  | [], t, _, s, hs => absurd hs (Nat.not_lt_zero _)
  | S :: ss, t, ⟨r, u, e, h1, h2, h⟩, 0, _ => by subst e; exact ⟨h1, h2⟩
  | S :: ss, t, ⟨r, u, e, _, _, h⟩, s + 1, hs => by
    subst e
    have := h.row s (by simpa using hs)
    simpa using this

theorem Shape.set : ∀ {ss : List Service} {t : State}, Shape ss t → ∀ (s : Nat) (r : List Nat), s < ss.length →
    r.length = (ss.getD s noService).versions → r.sum = (ss.getD s noService).copies → Shape ss (t.set s r)
  | [], t, _, s, _, hs, _, _ => absurd hs (Nat.not_lt_zero _)
  | S :: ss, t, ⟨r0, u, e, h1, h2, h⟩, 0, r, _, hl, hsum => by
    subst e
    exact ⟨r, u, rfl, by simpa using hl, by simpa using hsum, h⟩
  | S :: ss, t, ⟨r0, u, e, h1, h2, h⟩, s + 1, r, hs, hl, hsum => by
    subst e
    exact ⟨r0, u.set s r, rfl, h1, h2, h.set s r (by simpa using hs) (by simpa using hl) (by simpa using hsum)⟩

theorem Shape.snoc : ∀ {ss : List Service} {t : State}, Shape ss t → ∀ (S : Service) (r : List Nat),
    r.length = S.versions → r.sum = S.copies → Shape (ss ++ [S]) (t ++ [r])
  | [], t, h, S, r, hl, hs => by rw [show t = [] from h]; exact ⟨r, [], rfl, hl, hs, rfl⟩
  | S0 :: ss, t, ⟨r0, u, e, h1, h2, h⟩, S, r, hl, hs => by
    subst e
    exact ⟨r0, u ++ [r], rfl, h1, h2, h.snoc S r hl hs⟩

/-- the same counts asked -/
theorem Shape.congr : ∀ {ss st : List Service} {t : State}, Shape ss t → st.length = ss.length →
    (∀ s, s < ss.length → (st.getD s noService).versions = (ss.getD s noService).versions ∧ (st.getD s noService).copies = (ss.getD s noService).copies) → Shape st t
  | [], st, t, h, hl, _ => by
    have : st = [] := List.eq_nil_of_length_eq_zero hl
    subst this
    exact h
  | S :: ss, st, t, ⟨r, u, e, h1, h2, h⟩, hl, hc => by
    cases st with
    | nil => simp at hl
    | cons S' st =>
      refine ⟨r, u, e, ?_, ?_, h.congr (by simpa using hl) ?_⟩
      · have := (hc 0 (by simp)).1
        simp at this
        omega
      · have := (hc 0 (by simp)).2
        simp at this
        omega
      · intro s hs
        have := hc (s + 1) (by simpa using hs)
        simpa using this

theorem sum_set : ∀ (l : List Nat) (i a : Nat), i < l.length → (l.set i a).sum + l.getD i 0 = l.sum + a
  | [], i, a, h => absurd h (Nat.not_lt_zero _)
  | x :: l, 0, a, _ => by simp; omega
  | x :: l, i + 1, a, h => by
    have := sum_set l i a (by simpa using h)
    simp at this ⊢
    omega

theorem getD_set_ne {l : List Nat} {i j a : Nat} (h : i ≠ j) : (l.set i a).getD j 0 = l.getD j 0 := by
  simp [List.getD_eq_getElem?_getD, List.getElem?_set_ne h]

theorem can_of {h : House} {t : State} {x : Rp11.Step} (hc : h.can t x = true) : x.s < h.services.length ∧
    (x.v, x.w) ∈ (h.at_ x.s).moves ∧ 0 < x.k ∧ x.k ≤ count t x.s x.v ∧ (h.at_ x.s).need + x.k ≤ (h.at_ x.s).copies := by
  unfold House.can at hc
  simp only [Bool.and_eq_true, decide_eq_true_eq, List.contains_iff_mem] at hc
  exact ⟨hc.1, hc.2.1, hc.2.2.1, hc.2.2.2.1, hc.2.2.2.2⟩

theorem mem_steps {h : House} {t : State} {x : Rp11.Step} : x ∈ h.steps t ↔ h.may t x = true := by
  unfold House.steps
  rw [List.mem_filter]
  constructor
  · exact fun h => h.2
  · intro hm
    refine ⟨?_, hm⟩
    have hc : h.can t x = true := by
      unfold House.may at hm
      exact (Bool.and_eq_true _ _ ▸ hm).1
    obtain ⟨h1, h2, h3, h4, -⟩ := can_of hc
    refine List.mem_flatMap.2 ⟨x.s, List.mem_range.2 h1, List.mem_flatMap.2 ⟨(x.v, x.w), h2, List.mem_map.2 ⟨x.k - 1, List.mem_range.2 ?_, ?_⟩⟩⟩
    · show x.k - 1 < count t x.s x.v
      omega
    · cases x with
      | mk s v w k =>
        show Rp11.Step.mk s v w (k - 1 + 1) = Rp11.Step.mk s v w k
        have : k - 1 + 1 = k := by
          have : 0 < k := h3
          omega
        rw [this]

theorem may_can {h : House} {t : State} {x : Rp11.Step} (hm : h.may t x = true) : h.can t x = true := by
  unfold House.may at hm
  exact (Bool.and_eq_true _ _ ▸ hm).1

theorem shape_after {h : House} {t : State} {x : Rp11.Step} (hw : ∀ S ∈ h.services, WFS S) (hs : Shape h.services t)
    (hc : h.can t x = true) : Shape h.services (after t x) := by
  obtain ⟨h1, h2, h3, h4, h5⟩ := can_of hc
  obtain ⟨hl, hsum⟩ := hs.row x.s h1
  have hS : WFS (h.at_ x.s) := by
    have : h.at_ x.s = h.services[x.s] := by
      unfold House.at_
      simp [List.getD_eq_getElem?_getD, List.getElem?_eq_getElem h1]
    rw [this]
    exact hw _ (List.getElem_mem h1)
  obtain ⟨m1, m2, m3⟩ := hS.mv _ h2
  have e : h.services.getD x.s noService = h.at_ x.s := rfl
  rw [e] at hl hsum
  unfold after
  simp only
  generalize hg : t.getD x.s [] = c at hl hsum
  have h4' : x.k ≤ c.getD x.v 0 := by
    unfold count at h4
    rw [hg] at h4
    exact h4
  refine hs.set x.s _ h1 (by rw [List.length_set, List.length_set, e]; exact hl) ?_
  rw [e]
  have q1 := sum_set c x.v (c.getD x.v 0 - x.k) (by rw [hl]; exact m1)
  have q2 := sum_set (c.set x.v (c.getD x.v 0 - x.k)) x.w (c.getD x.w 0 + x.k) (by rw [List.length_set, hl]; exact m2)
  rw [getD_set_ne (show x.v ≠ x.w from m3)] at q2
  omega

/-- all rows of so many copies over so many versions -/
def rowsOf : Nat → Nat → List (List Nat)
  | c, 0 => if c = 0 then [[]] else []
  | c, v + 1 => (List.range (c + 1)).flatMap fun k => (rowsOf (c - k) v).map (k :: ·)

theorem mem_rowsOf : ∀ (v c : Nat) (r : List Nat), r.length = v → r.sum = c → r ∈ rowsOf c v
  | 0, c, r, hl, hs => by
    have : r = [] := List.eq_nil_of_length_eq_zero hl
    subst this
    have : c = 0 := by simpa using hs.symm
    subst this
    simp [rowsOf]
  | v + 1, c, r, hl, hs => by
    cases r with
    | nil => simp at hl
    | cons k r =>
      simp at hl hs
      unfold rowsOf
      exact List.mem_flatMap.2 ⟨k, List.mem_range.2 (by omega), List.mem_map.2 ⟨r, mem_rowsOf v (c - k) r hl (by omega), rfl⟩⟩

theorem rowsOf_length {c v : Nat} (hc : c ≤ 2) (hv : v ≤ 3) : (rowsOf c v).length ≤ 6 := by
  have : ∀ c, c < 3 → ∀ v, v < 4 → (rowsOf c v).length ≤ 6 := by decide
  exact this c (by omega) v (by omega)

def statesOf : List Service → List State
  | [] => [[]]
  | S :: ss => (rowsOf S.copies S.versions).flatMap fun r => (statesOf ss).map (r :: ·)

theorem mem_statesOf : ∀ {ss : List Service} {t : State}, Shape ss t → t ∈ statesOf ss
  | [], t, h => by rw [show t = [] from h]; simp [statesOf]
  | S :: ss, t, ⟨r, u, e, h1, h2, h⟩ => by
    subst e
    exact List.mem_flatMap.2 ⟨r, mem_rowsOf _ _ r h1 h2, List.mem_map.2 ⟨u, mem_statesOf h, rfl⟩⟩

theorem length_flatMap_const {α β : Type} (f : α → List β) (n : Nat) : ∀ (l : List α), (∀ a ∈ l, (f a).length = n) → (l.flatMap f).length = l.length * n
  | [], _ => by simp
  | a :: l, h => by
    rw [List.flatMap_cons, List.length_append, length_flatMap_const f n l (fun b hb => h b (List.mem_cons_of_mem _ hb)), h a List.mem_cons_self, List.length_cons, Nat.succ_mul]
    omega

theorem statesOf_length : ∀ (ss : List Service), (∀ S ∈ ss, WFS S) → (statesOf ss).length ≤ 6 ^ ss.length
  | [], _ => by simp [statesOf]
  | S :: ss, h => by
    unfold statesOf
    rw [length_flatMap_const _ (statesOf ss).length _ (by intro a _; rw [List.length_map])]
    have h1 := rowsOf_length (h S List.mem_cons_self).c2 (h S List.mem_cons_self).v3
    have h2 := statesOf_length ss (fun T hT => h T (List.mem_cons_of_mem _ hT))
    rw [List.length_cons, Nat.pow_succ, Nat.mul_comm (6 ^ ss.length)]
    exact Nat.mul_le_mul h1 h2

theorem pow_le {n : Nat} (h : n ≤ 3) : 6 ^ n ≤ 216 := by
  have : ∀ n, n < 4 → 6 ^ n ≤ 216 := by decide
  exact this n (by omega)

theorem shape_rowsOf : ∀ (v c : Nat) (r : List Nat), r ∈ rowsOf c v → r.length = v ∧ r.sum = c
  | 0, c, r, h => by
    unfold rowsOf at h
    split at h
    · rename_i e
      rw [List.mem_singleton] at h
      subst h
      exact ⟨rfl, e.symm⟩
    · exact nomatch h
  | v + 1, c, r, h => by
    unfold rowsOf at h
    obtain ⟨k, hk, hr⟩ := List.mem_flatMap.1 h
    obtain ⟨u, hu, rfl⟩ := List.mem_map.1 hr
    obtain ⟨h1, h2⟩ := shape_rowsOf v _ u hu
    have := List.mem_range.1 hk
    simp
    omega

theorem shape_statesOf : ∀ {ss : List Service} {t : State}, t ∈ statesOf ss → Shape ss t
  | [], t, h => by
    unfold statesOf at h
    exact List.mem_singleton.1 h
  | S :: ss, t, h => by
    unfold statesOf at h
    obtain ⟨r, hr, ht⟩ := List.mem_flatMap.1 h
    obtain ⟨u, hu, rfl⟩ := List.mem_map.1 ht
    obtain ⟨h1, h2⟩ := shape_rowsOf _ _ r hr
    exact ⟨r, u, rfl, h1, h2, shape_statesOf hu⟩

theorem closed_states {h : House} (hw : ∀ S ∈ h.services, WFS S) : Closed h (statesOf h.services) := by
  intro t ht x hx
  exact mem_statesOf (shape_after hw (shape_statesOf ht) (may_can (mem_steps.1 hx)))

/-- of a house as the calls make it the table tells the fewest steps -/
theorem wf_far {h : House} (hw : WF h) : ∃ r : List State, h.now ∈ r ∧ Closed h r ∧ ∀ t ∈ r, IsFar h t (far h.table t) :=
  table_far h (statesOf h.services) (closed_states hw.ser)
    (Nat.le_trans (statesOf_length _ hw.ser) (Nat.le_trans (pow_le hw.len) (by decide))) (mem_statesOf hw.shape)

theorem far_now {h : House} (hw : WF h) {o : Option Nat} (ho : IsFar h h.now o) : far h.table h.now = o := by
  obtain ⟨r, h1, _, h3⟩ := wf_far hw
  exact (h3 _ h1).unique ho

theorem far_next {h : House} (hw : WF h) {x : Rp11.Step} (hx : h.may h.now x = true) {o : Option Nat} (ho : IsFar h (after h.now x) o) :
    far h.table (after h.now x) = o := by
  obtain ⟨r, h1, h2, h3⟩ := wf_far hw
  exact (h3 _ (h2 _ h1 x (mem_steps.2 hx))).unique ho

/-- putting a move keeps the order -/
theorem putMove_mem (m : Nat × Nat) : ∀ (l : List (Nat × Nat)) (n : Nat × Nat), n ∈ putMove m l ↔ n = m ∨ n ∈ l
  | [], n => by simp [putMove]
  | a :: l, n => by
    unfold putMove
    split
    · simp
    · rw [List.mem_cons, putMove_mem m l n, List.mem_cons]
      constructor
      · rintro (h | h | h)
        · exact .inr (.inl h)
        · exact .inl h
        · exact .inr (.inr h)
      · rintro (h | h | h)
        · exact .inr (.inl h)
        · exact .inl h
        · exact .inr (.inr h)

theorem putMove_length (m : Nat × Nat) : ∀ (l : List (Nat × Nat)), (putMove m l).length = l.length + 1
  | [] => rfl
  | a :: l => by
    unfold putMove
    split
    · rfl
    · rw [List.length_cons, putMove_length m l, List.length_cons]

theorem putMove_sorted (m : Nat × Nat) : ∀ (l : List (Nat × Nat)), m ∉ l →
    l.Pairwise (fun a b => a.1 < b.1 ∨ (a.1 = b.1 ∧ a.2 < b.2)) →
    (putMove m l).Pairwise (fun a b => a.1 < b.1 ∨ (a.1 = b.1 ∧ a.2 < b.2))
  | [], _, _ => by simp [putMove]
  | a :: l, hm, hp => by
    have hp' := List.pairwise_cons.1 hp
    unfold putMove
    split
    · rename_i c
      rw [List.pairwise_cons]
      refine ⟨?_, hp⟩
      intro b hb
      rcases List.mem_cons.1 hb with rfl | hb
      · exact c
      · have := hp'.1 b hb
        omega
    · rename_i c
      rw [List.pairwise_cons]
      refine ⟨?_, putMove_sorted m l (fun h => hm (List.mem_cons_of_mem _ h)) hp'.2⟩
      intro b hb
      rcases (putMove_mem m l b).1 hb with rfl | hb
      · have hne : b ≠ a := fun e => hm (e ▸ List.mem_cons_self)
        have : ¬ (b.1 = a.1 ∧ b.2 = a.2) := fun e => hne (Prod.ext e.1 e.2)
        omega
      · exact hp'.1 b hb

end Up

namespace Up
open Rp11

theorem wf_init : WF Rp11.init where
  len := by decide
  cl := by decide
  ser := fun _ h => nomatch h
  shape := rfl
  clv := fun _ h => nomatch h

theorem at_getD (h : House) (s : Nat) : h.at_ s = h.services.getD s noService := rfl

theorem getD_mem {ss : List Service} {s : Nat} (hs : s < ss.length) : ss.getD s noService ∈ ss := by
  simp [List.getD_eq_getElem?_getD, List.getElem?_eq_getElem hs]

theorem getD_snoc_lt {ss : List Service} {S : Service} {s : Nat} (hs : s < ss.length) : (ss ++ [S]).getD s noService = ss.getD s noService := by
  simp [List.getD_eq_getElem?_getD, List.getElem?_append_left hs]

theorem getD_setS {ss : List Service} {S : Service} {i s : Nat} (hi : i < ss.length) :
    (ss.set i S).getD s noService = if i = s then S else ss.getD s noService := by
  simp only [List.getD_eq_getElem?_getD, List.getElem?_set]
  split
  · rename_i e
    subst e
    simp
  · rfl

/-- the first row of a service -/
theorem first_row {c v : Nat} (hv : 1 ≤ v) : ((List.range v).map fun k => if k = 0 then c else 0) = c :: List.replicate (v - 1) 0 := by
  obtain ⟨w, rfl⟩ : ∃ w, v = w + 1 := ⟨v - 1, by omega⟩
  rw [List.range_succ_eq_map, List.map_cons, if_pos rfl, List.map_map]
  congr 1
  rw [Nat.add_sub_cancel]
  apply List.ext_getElem
  · simp
  · intro i h1 h2
    simp

theorem set_wf {h : House} (hw : WF h) {s : Nat} (hs : s < h.services.length) {S : Service} (hS : WFS S)
    (hv : S.versions = (h.at_ s).versions) (hc : S.copies = (h.at_ s).copies) : WF { h with services := h.services.set s S } where
  len := by simpa using hw.len
  cl := hw.cl
  ser := by
    intro T hT
    rcases List.mem_or_eq_of_mem_set hT with h1 | h1
    · exact hw.ser T h1
    · exact h1 ▸ hS
  shape := by
    refine hw.shape.congr (by simp) ?_
    intro i hi
    rw [getD_setS hs]
    split
    · rename_i e
      subst e
      exact ⟨hv, hc⟩
    · exact ⟨rfl, rfl⟩
  clv := by
    intro c hc'
    obtain ⟨h1, h2, h3, h4⟩ := hw.clv c hc'
    have key : ∀ i, ((h.services.set s S).getD i noService).versions = (h.services.getD i noService).versions := by
      intro i
      rw [getD_setS hs]
      split
      · rename_i e
        subst e
        exact hv
      · rfl
    refine ⟨by simpa using h1, ?_, by simpa using h3, ?_⟩
    · show c.2.1 < ((h.services.set s S).getD c.1 noService).versions
      rw [key]; exact h2
    · show c.2.2.2 < ((h.services.set s S).getD c.2.2.1 noService).versions
      rw [key]; exact h4

theorem wf_step {h : House} (hw : WF h) (c : Rp11.Call) : WF (Rp11.step h c).1 := by
  cases c with
  | begins => exact wf_init
  | plan => exact hw
  | may => exact hw
  | now => exact hw
  | service c n v g =>
    unfold Rp11.step
    simp only
    split
    · exact hw
    · split
      · exact hw
      · rename_i h1 h2
        have hS : WFS ⟨c, n, v, g, []⟩ := by
          simp only [Rp11.COPIES, Rp11.VERSIONS] at h1
          refine ⟨?_, ?_, ?_, ?_, ?_, ?_, (fun _ h => nomatch h), List.Pairwise.nil⟩ <;> simp only <;> omega
        refine ⟨?_, hw.cl, ?_, ?_, ?_⟩
        · have := hw.len
          have h2' : ¬ h.services.length = 3 := h2
          simp only [List.length_append, List.length_singleton]
          omega
        · intro S hS'
          rcases List.mem_append.1 hS' with h3 | h3
          · exact hw.ser S h3
          · rw [List.mem_singleton] at h3
            exact h3 ▸ hS
        · refine hw.shape.snoc _ _ (by simp) ?_
          have : 1 ≤ v := hS.v1
          rw [first_row this]
          simp
        · intro d hd
          obtain ⟨k1, k2, k3, k4⟩ := hw.clv d hd
          refine ⟨by simp only [List.length_append, List.length_singleton]; omega, ?_, by simp only [List.length_append, List.length_singleton]; omega, ?_⟩
          · simp only
            rw [getD_snoc_lt k1]; exact k2
          · simp only
            rw [getD_snoc_lt k3]; exact k4
  | move s v w =>
    unfold Rp11.step
    simp only
    split
    · exact hw
    · split
      · exact hw
      · rename_i h1 h2
        have hs : s < h.services.length := by omega
        have hS := hw.ser _ (getD_mem hs)
        rw [← at_getD] at hS
        refine set_wf hw hs ⟨hS.c1, hS.c2, hS.nd, hS.v1, hS.v3, hS.gl, ?_, ?_⟩ rfl rfl
        · intro m hm
          rcases (putMove_mem _ _ m).1 hm with rfl | hm
          · exact ⟨by simp only; omega, by simp only; omega, fun e => h2 (.inl e)⟩
          · exact hS.mv m hm
        · exact putMove_sorted _ _ (fun hm => h2 (.inr (List.contains_iff_mem.2 hm))) hS.so
  | clash a x b y =>
    unfold Rp11.step
    simp only
    split
    · exact hw
    · split
      · exact hw
      · split
        · exact hw
        · split
          · exact hw
          · rename_i h1 h2 h3 h4
            refine ⟨hw.len, ?_, hw.ser, hw.shape, ?_⟩
            · have := hw.cl
              have h4' : ¬ h.clashes.length = 20 := h4
              simp only [List.length_append, List.length_singleton]
              omega
            · intro d hd
              rcases List.mem_append.1 hd with h5 | h5
              · exact hw.clv d h5
              · rw [List.mem_singleton] at h5
                subst h5
                simp only [at_getD] at h1
                exact ⟨by simp only; omega, by simp only; omega, by simp only; omega, by simp only; omega⟩
  | step s v w k =>
    unfold Rp11.step
    simp only
    split
    · exact hw
    · split
      · exact hw
      · rename_i h1 h2
        exact ⟨hw.len, hw.cl, hw.ser, shape_after (h := h) hw.ser hw.shape (by simpa using h1), hw.clv⟩
  | goal s v =>
    unfold Rp11.step
    simp only
    split
    · exact hw
    · rename_i h1
      have hs : s < h.services.length := by omega
      have hS := hw.ser _ (getD_mem hs)
      rw [← at_getD] at hS
      exact set_wf hw hs ⟨hS.c1, hS.c2, hS.nd, hS.v1, hS.v3, by simp only; omega, hS.mv, hS.so⟩ rfl rfl

/-- a flat map over an ordered list of pairs is one over all pairs -/
theorem flatMap_filter {α β : Type} (p : α → Bool) (f : α → List β) : ∀ (l : List α), (l.filter p).flatMap f = l.flatMap fun a => if p a = true then f a else []
  | [] => rfl
  | a :: l => by
    rw [List.filter_cons]
    cases c : p a with
    | true => simp only [if_true, List.flatMap_cons, flatMap_filter p f l, c]
    | false => simp only [Bool.false_eq_true, if_false, List.flatMap_cons, flatMap_filter p f l, c, List.nil_append]

abbrev Lt2 (a b : Nat × Nat) : Prop := a.1 < b.1 ∨ (a.1 = b.1 ∧ a.2 < b.2)

theorem sorted_unique : ∀ (l m : List (Nat × Nat)), l.Pairwise Lt2 → m.Pairwise Lt2 → (∀ x, x ∈ l ↔ x ∈ m) → l = m
  | [], [], _, _, _ => rfl
  | [], b :: m, _, _, h => nomatch (h b).2 List.mem_cons_self
  | a :: l, [], _, _, h => nomatch (h a).1 List.mem_cons_self
  | a :: l, b :: m, hl, hm, h => by
    have hl' := List.pairwise_cons.1 hl
    have hm' := List.pairwise_cons.1 hm
    have e : a = b := by
      rcases List.mem_cons.1 ((h a).1 List.mem_cons_self) with e | e
      · exact e
      · rcases List.mem_cons.1 ((h b).2 List.mem_cons_self) with e' | e'
        · exact e'.symm
        · have q1 := hm'.1 a e
          have q2 := hl'.1 b e'
          simp only [Lt2] at q1 q2
          omega
    subst e
    congr 1
    refine sorted_unique l m hl'.2 hm'.2 ?_
    intro x
    constructor
    · intro hx
      rcases List.mem_cons.1 ((h x).1 (List.mem_cons_of_mem _ hx)) with e | e
      · subst e
        have := hl'.1 x hx
        simp only [Lt2] at this
        omega
      · exact e
    · intro hx
      rcases List.mem_cons.1 ((h x).2 (List.mem_cons_of_mem _ hx)) with e | e
      · subst e
        have := hm'.1 x hx
        simp only [Lt2] at this
        omega
      · exact e

def pairsOf (v : Nat) : List (Nat × Nat) := (List.range v).flatMap fun a => (List.range v).map fun b => (a, b)

theorem mem_pairsOf {v : Nat} {m : Nat × Nat} : m ∈ pairsOf v ↔ m.1 < v ∧ m.2 < v := by
  unfold pairsOf
  rw [List.mem_flatMap]
  constructor
  · rintro ⟨a, ha, hm⟩
    obtain ⟨b, hb, rfl⟩ := List.mem_map.1 hm
    exact ⟨List.mem_range.1 ha, List.mem_range.1 hb⟩
  · rintro ⟨h1, h2⟩
    exact ⟨m.1, List.mem_range.2 h1, List.mem_map.2 ⟨m.2, List.mem_range.2 h2, rfl⟩⟩

theorem pairsOf_sorted {v : Nat} (hv : v ≤ 3) : (pairsOf v).Pairwise Lt2 := by
  have : ∀ v, v < 4 → (pairsOf v).Pairwise Lt2 := by decide
  exact this v (by omega)

theorem moves_eq {S : Service} (hS : WFS S) : S.moves = (pairsOf S.versions).filter fun m => S.moves.contains m := by
  apply sorted_unique
  · exact hS.so
  · exact (pairsOf_sorted hS.v3).filter _
  · intro x
    rw [List.mem_filter, mem_pairsOf, List.contains_iff_mem]
    exact ⟨fun h => ⟨⟨(hS.mv x h).1, (hS.mv x h).2.1⟩, h⟩, fun h => h.2⟩

end Up

namespace Up
open Rp11

theorem whole_id (c : List (List Int)) : PyRp11.whole c = c := by
  unfold PyRp11.whole
  split <;> rfl

theorem map_whole (cs : List (List (List Int))) : cs.map PyRp11.whole = cs := by
  have : PyRp11.whole = id := funext whole_id
  rw [this, List.map_id]

/-- the calls that are left, from a place on -/
def Left (l : List Int) (cs : List (List (List Int))) : Prop := ∃ f, PyFlat.calls PyRp11.shape f l = some cs

theorem left_nil {cs : List (List (List Int))} (h : Left [] cs) : cs = [] := by
  obtain ⟨f, hf⟩ := h
  cases f <;> (unfold PyFlat.calls at hf; exact (Option.some.inj hf).symm)

theorem left_shape {p : Int} {r : List Int} {cs : List (List (List Int))} (h : Left (p :: r) cs) :
    ∃ n, PyRp11.shape p = some (n, 0) ∧ n ≤ r.length ∧ ∃ cs', Left (r.drop n) cs' ∧ cs = [p :: r.take n] :: cs' := by
  obtain ⟨f, hf⟩ := h
  cases f with
  | zero => unfold PyFlat.calls at hf; exact nomatch hf
  | succ f =>
    unfold PyFlat.calls at hf
    unfold PyFlat.call at hf
    dsimp only at hf
    cases hs : PyRp11.shape p with
    | none => rw [hs] at hf; exact nomatch hf
    | some nk =>
      obtain ⟨n, k⟩ := nk
      rw [hs] at hf
      have hk : k = 0 := by
        unfold PyRp11.shape at hs
        repeat' split at hs
        all_goals first
          | (have e := (Prod.mk.inj (Option.some.inj hs)).2; exact e.symm)
          | cases hs
      subst hk
      simp only [PyFlat.rows] at hf
      by_cases c : r.length < n
      · rw [if_pos c] at hf; exact nomatch hf
      · rw [if_neg c] at hf
        simp only at hf
        cases hc : PyFlat.calls PyRp11.shape f (r.drop n) with
        | none => rw [hc] at hf; exact nomatch hf
        | some cs' =>
          rw [hc] at hf
          exact ⟨n, rfl, by omega, cs', ⟨f, hc⟩, (Option.some.inj hf).symm⟩

/-- the nine calls -/
inductive Next : Int → List Int → List (List (List Int)) → Prop
  | begins {r cs} : Left r cs → Next 0 r ([[0]] :: cs)
  | service {a b c d r cs} : Left r cs → Next 1 (a :: b :: c :: d :: r) ([[1, a, b, c, d]] :: cs)
  | move {a b c r cs} : Left r cs → Next 2 (a :: b :: c :: r) ([[2, a, b, c]] :: cs)
  | clash {a b c d r cs} : Left r cs → Next 3 (a :: b :: c :: d :: r) ([[3, a, b, c, d]] :: cs)
  | step {a b c d r cs} : Left r cs → Next 4 (a :: b :: c :: d :: r) ([[4, a, b, c, d]] :: cs)
  | plan {r cs} : Left r cs → Next 5 r ([[5]] :: cs)
  | may {r cs} : Left r cs → Next 6 r ([[6]] :: cs)
  | goal {a b r cs} : Left r cs → Next 7 (a :: b :: r) ([[7, a, b]] :: cs)
  | now {r cs} : Left r cs → Next 8 r ([[8]] :: cs)

theorem take2 {n : Nat} {r : List Int} (h : n + 1 ≤ r.length) : ∃ a r', r = a :: r' ∧ n ≤ r'.length := by
  cases r with
  | nil => simp at h
  | cons a r => exact ⟨a, r, rfl, by simpa using h⟩

theorem left_next {p : Int} {r : List Int} {cs : List (List (List Int))} (h : Left (p :: r) cs) : Next p r cs := by
  obtain ⟨n, hs, hn, cs', hl, rfl⟩ := left_shape h
  unfold PyRp11.shape at hs
  by_cases h0 : p = 0
  · subst h0; simp only [if_true] at hs
    have : n = 0 := (Prod.mk.inj (Option.some.inj hs)).1.symm
    subst this; exact .begins hl
  rw [if_neg h0] at hs
  by_cases h1 : p = 1
  · subst h1; simp only [if_true] at hs
    have : n = 4 := (Prod.mk.inj (Option.some.inj hs)).1.symm
    subst this
    obtain ⟨a, r, rfl, hn1⟩ := take2 hn
    obtain ⟨b, r, rfl, hn2⟩ := take2 hn1
    obtain ⟨c, r, rfl, hn3⟩ := take2 hn2
    obtain ⟨d, r, rfl, hn4⟩ := take2 hn3
    exact .service hl
  rw [if_neg h1] at hs
  by_cases h2 : p = 2
  · subst h2; simp only [if_true] at hs
    have : n = 3 := (Prod.mk.inj (Option.some.inj hs)).1.symm
    subst this
    obtain ⟨a, r, rfl, hn1⟩ := take2 hn
    obtain ⟨b, r, rfl, hn2⟩ := take2 hn1
    obtain ⟨c, r, rfl, hn3⟩ := take2 hn2
    exact .move hl
  rw [if_neg h2] at hs
  by_cases h3 : p = 3
  · subst h3; simp only [if_true] at hs
    have : n = 4 := (Prod.mk.inj (Option.some.inj hs)).1.symm
    subst this
    obtain ⟨a, r, rfl, hn1⟩ := take2 hn
    obtain ⟨b, r, rfl, hn2⟩ := take2 hn1
    obtain ⟨c, r, rfl, hn3⟩ := take2 hn2
    obtain ⟨d, r, rfl, hn4⟩ := take2 hn3
    exact .clash hl
  rw [if_neg h3] at hs
  by_cases h4 : p = 4
  · subst h4; simp only [if_true] at hs
    have : n = 4 := (Prod.mk.inj (Option.some.inj hs)).1.symm
    subst this
    obtain ⟨a, r, rfl, hn1⟩ := take2 hn
    obtain ⟨b, r, rfl, hn2⟩ := take2 hn1
    obtain ⟨c, r, rfl, hn3⟩ := take2 hn2
    obtain ⟨d, r, rfl, hn4⟩ := take2 hn3
    exact .step hl
  rw [if_neg h4] at hs
  by_cases h5 : p = 5
  · subst h5; simp only [if_true] at hs
    have : n = 0 := (Prod.mk.inj (Option.some.inj hs)).1.symm
    subst this; exact .plan hl
  rw [if_neg h5] at hs
  by_cases h6 : p = 6
  · subst h6; simp only [if_true] at hs
    have : n = 0 := (Prod.mk.inj (Option.some.inj hs)).1.symm
    subst this; exact .may hl
  rw [if_neg h6] at hs
  by_cases h7 : p = 7
  · subst h7; simp only [if_true] at hs
    have : n = 2 := (Prod.mk.inj (Option.some.inj hs)).1.symm
    subst this
    obtain ⟨a, r, rfl, hn1⟩ := take2 hn
    obtain ⟨b, r, rfl, hn2⟩ := take2 hn1
    exact .goal hl
  rw [if_neg h7] at hs
  by_cases h8 : p = 8
  · subst h8; simp only [if_true] at hs
    have : n = 0 := (Prod.mk.inj (Option.some.inj hs)).1.symm
    subst this; exact .now hl
  rw [if_neg h8] at hs
  exact nomatch hs

/-- what is told of the calls that are left -/
def tellLeft (h : House) (cs : List (List (List Int))) : List Int := PyFlat.told (PyFlat.played Rp11Neutral.step h cs)

theorem tellLeft_nil (h : House) : tellLeft h [] = [] := rfl

theorem tellLeft_cons (h : House) (c : List (List Int)) (cs : List (List (List Int))) :
    tellLeft h (c :: cs) = (((Rp11Neutral.step h c).2.length : Int) :: (Rp11Neutral.step h c).2) ++ tellLeft (Rp11Neutral.step h c).1 cs := rfl

/-- what is told of one call -/
def tell1 (a : Rp11.Ans) : List Int := (((a.l.length + 1 : Nat)) : Int) :: a.v :: a.l.map fun (n : Nat) => (n : Int)

theorem tellLeft_call {h : House} {c : List (List Int)} {cs : List (List (List Int))} {x : Rp11.Call} (hx : Rp11Neutral.callOf c = some x) :
    tellLeft h (c :: cs) = tell1 (Rp11.step h x).2 ++ tellLeft (Rp11.step h x).1 cs := by
  rw [tellLeft_cons]
  unfold Rp11Neutral.step
  rw [hx]
  simp only [Rp11Neutral.out, tell1, List.length_cons, List.length_map]

theorem asked_left {l : List Int} (h : PyRp11.answers_asked l = true) : ∃ cs, Left l cs ∧ cs ≠ [] ∧ cs.length ≤ 60 ∧
    PyRp11.answers l = tellLeft Rp11.init cs ∧ (PyRp11.answers l).length ≤ 10000000 ∧ (cs.filter Rp11Neutral.isPlan).length ≤ 6 := by
  unfold PyRp11.answers_asked at h
  cases hc : PyFlat.calls PyRp11.shape l.length l with
  | none => rw [hc] at h; exact nomatch h
  | some cs =>
    rw [hc] at h
    simp only [Bool.and_eq_true, map_whole] at h
    obtain ⟨⟨⟨⟨h1, h2⟩, h3⟩, h4⟩, h5⟩ := h
    refine ⟨cs, ⟨_, hc⟩, ?_, ?_, ?_, ?_, ?_⟩
    · rintro rfl
      simp at h1
    · simpa [PyFlat.atMost] using h2
    · unfold PyRp11.answers PyRp11.calls
      rw [hc]
      simp only [map_whole]
      rfl
    · simpa [PyFlat.short] using h5
    · unfold Rp11Neutral.asked at h4
      simp only [Bool.and_eq_true, decide_eq_true_eq] at h4
      exact h4.2.2.1.2

end Up

namespace Up
open Rp11

/-! ### forwards: all that can be come to, and from where -/
structure Fw (h : House) (t0 : State) (rs : List State) (pr : State → List State) (place : Nat) (done : List Rp11.Step) : Prop where
  nd : rs.Nodup
  hd : t0 ∈ rs
  sh : ∀ t ∈ rs, Shape h.services t
  cl : ∀ (j : Nat) t, j < place → rs[j]? = some t → ∀ x ∈ h.steps t, after t x ∈ rs ∧ t ∈ pr (after t x)
  cd : ∀ t, rs[place]? = some t → ∀ x ∈ done, after t x ∈ rs ∧ t ∈ pr (after t x)
  sd : ∀ u t, t ∈ pr u → t ∈ rs ∧ ∃ x ∈ h.steps t, after t x = u
  em : ∀ u, u ∉ rs → pr u = []
  sz : ∀ u, (pr u).length ≤ place * 54 + done.length

theorem fw_init {h : House} {t0 : State} (hs : Shape h.services t0) : Fw h t0 [t0] (fun _ => []) 0 [] where
  nd := by simp
  hd := by simp
  sh := fun t ht => by rw [List.mem_singleton] at ht; rw [ht]; exact hs
  cl := fun j t hj => absurd hj (by omega)
  cd := fun t _ x hx => nomatch hx
  sd := fun u t ht => nomatch ht
  em := fun u _ => rfl
  sz := fun u => Nat.zero_le _

theorem Fw.bound {h : House} {t0 : State} {rs pr place done} (f : Fw h t0 rs pr place done) (hw : ∀ S ∈ h.services, WFS S) (hl : h.services.length ≤ 3) : rs.length ≤ 216 := by
  have h1 := nodup_length_le rs (statesOf h.services) f.nd fun t ht => mem_statesOf (f.sh t ht)
  exact Nat.le_trans h1 (Nat.le_trans (statesOf_length _ hw) (pow_le hl))

def addS (rs : List State) (u : State) : List State := if u ∈ rs then rs else rs ++ [u]
def addP (pr : State → List State) (u t : State) : State → List State := fun v => if v = u then pr v ++ [t] else pr v
theorem mem_addS {rs : List State} {u v : State} : v ∈ addS rs u ↔ v ∈ rs ∨ v = u := by
  unfold addS
  split
  · next c =>
    constructor
    · exact .inl
    · rintro (q | q)
      · exact q
      · rw [q]; exact c
  · simp
theorem addS_get {rs : List State} {u t : State} {j : Nat} (hj : j < rs.length) : (addS rs u)[j]? = rs[j]? := by
  unfold addS
  split
  · rfl
  · rw [List.getElem?_append_left hj]
theorem mem_addP {pr : State → List State} {u t v s : State} : s ∈ addP pr u t v ↔ s ∈ pr v ∨ (v = u ∧ s = t) := by
  unfold addP
  split
  · next c =>
    rw [List.mem_append, List.mem_singleton]
    constructor
    · rintro (q | q)
      · exact .inl q
      · exact .inr ⟨c, q⟩
    · rintro (q | ⟨_, q⟩)
      · exact .inl q
      · exact .inr q
  · next c =>
    constructor
    · exact .inl
    · rintro (q | q)
      · exact q
      · exact absurd q.1 c

theorem Fw.step {h : House} {t0 : State} {rs pr place done} (f : Fw h t0 rs pr place done) (hw : ∀ S ∈ h.services, WFS S) {t : State} (ht : rs[place]? = some t) {x : Rp11.Step} (hx : x ∈ h.steps t) :
    Fw h t0 (addS rs (after t x)) (addP pr (after t x) t) place (done ++ [x]) := by
  have hp : place < rs.length := (List.getElem?_eq_some_iff.mp ht).1
  have tm : t ∈ rs := List.mem_of_getElem? ht
  have su : Shape h.services (after t x) := shape_after hw (f.sh t tm) (may_can (mem_steps.1 hx))
  refine ⟨?_, mem_addS.2 (.inl f.hd), ?_, ?_, ?_, ?_, ?_, ?_⟩
  · unfold addS
    split
    · exact f.nd
    · next c =>
      rw [List.nodup_append]
      refine ⟨f.nd, by simp, fun a ha b hb e => ?_⟩
      rw [List.mem_singleton] at hb
      exact c (by rw [← hb, ← e]; exact ha)
  · intro v hv
    rcases mem_addS.1 hv with q | q
    · exact f.sh v q
    · rw [q]; exact su
  · intro j v hj hv y hy
    rw [addS_get (t := t) (by omega)] at hv
    obtain ⟨a, b⟩ := f.cl j v hj hv y hy
    exact ⟨mem_addS.2 (.inl a), mem_addP.2 (.inl b)⟩
  · intro v hv y hy
    rw [addS_get (t := t) hp] at hv
    rcases List.mem_append.1 hy with q | q
    · obtain ⟨a, b⟩ := f.cd v hv y q
      exact ⟨mem_addS.2 (.inl a), mem_addP.2 (.inl b)⟩
    · rw [List.mem_singleton] at q
      rw [ht] at hv
      cases hv
      rw [q]
      exact ⟨mem_addS.2 (.inr rfl), mem_addP.2 (.inr ⟨rfl, rfl⟩)⟩
  · intro u s hs
    rcases mem_addP.1 hs with q | ⟨q, q2⟩
    · obtain ⟨a, b⟩ := f.sd u s q
      exact ⟨mem_addS.2 (.inl a), b⟩
    · rw [q, q2]
      exact ⟨mem_addS.2 (.inl tm), x, hx, rfl⟩
  · intro u hu
    have h1 : u ∉ rs := fun q => hu (mem_addS.2 (.inl q))
    have h2 : u ≠ after t x := fun q => hu (mem_addS.2 (.inr q))
    unfold addP
    rw [if_neg h2]
    exact f.em u h1
  · intro u
    have := f.sz u
    unfold addP
    rw [List.length_append, List.length_singleton]
    split
    · rw [List.length_append, List.length_singleton]; omega
    · omega

theorem flat_bound {α β : Type} {f : α → List β} {n : Nat} : ∀ (l : List α), (∀ a ∈ l, (f a).length ≤ n) → (l.flatMap f).length ≤ l.length * n
  | [], _ => by simp
  | a :: l, h => by
    rw [List.flatMap_cons, List.length_append, List.length_cons]
    have h1 := h a List.mem_cons_self
    have h2 := flat_bound l fun b hb => h b (List.mem_cons_of_mem _ hb)
    rw [Nat.succ_mul]
    omega
theorem moves_le9 {S : Service} (hS : WFS S) : S.moves.length ≤ 9 := by
  rw [moves_eq hS]
  have h1 := List.length_filter_le (fun m => S.moves.contains m) (pairsOf S.versions)
  have h2 : ∀ v, v < 4 → (pairsOf v).length ≤ 9 := by decide
  have h3 := h2 S.versions (by have := hS.v3; omega)
  exact Nat.le_trans h1 h3
theorem getD_le_sum : ∀ (l : List Nat) (i : Nat), l.getD i 0 ≤ l.sum
  | [], i => by simp
  | a :: l, 0 => by simp
  | a :: l, i + 1 => by
    have := getD_le_sum l i
    rw [List.getD_cons_succ, List.sum_cons]
    omega
theorem count_le {h : House} {t : State} (hs : Shape h.services t) {s : Nat} (h1 : s < h.services.length) (v : Nat) : count t s v ≤ (h.at_ s).copies := by
  obtain ⟨_, hsum⟩ := hs.row s h1
  have := getD_le_sum (t.getD s []) v
  have e : (h.at_ s).copies = (h.services.getD s noService).copies := rfl
  unfold count
  rw [e, ← hsum]
  exact this
theorem steps_bound {h : House} (hw : ∀ S ∈ h.services, WFS S) (hl : h.services.length ≤ 3) {t : State} (hs : Shape h.services t) : (h.steps t).length ≤ 54 := by
  unfold House.steps
  refine Nat.le_trans (List.length_filter_le _ _) (Nat.le_trans (flat_bound (n := 18) _ fun s hs' => ?_) (by rw [List.length_range]; omega))
  have h1 := List.mem_range.1 hs'
  have hS : WFS (h.at_ s) := hw _ (getD_mem h1)
  refine Nat.le_trans (flat_bound (n := 2) _ fun m hm => ?_) (by have := moves_le9 hS; omega)
  rw [List.length_map, List.length_range]
  exact Nat.le_trans (count_le hs h1 m.1) hS.c2
theorem Fw.next {h : House} {t0 : State} {rs pr place} {t : State} (hb : (h.steps t).length ≤ 54) (ht : rs[place]? = some t) (f : Fw h t0 rs pr place (h.steps t)) : Fw h t0 rs pr (place + 1) [] where
  nd := f.nd
  hd := f.hd
  sh := f.sh
  cl := fun j v hj hv x hx => by
    rcases Nat.lt_or_ge j place with c | c
    · exact f.cl j v c hv x hx
    · have e : j = place := by omega
      subst e
      rw [ht] at hv
      cases hv
      exact f.cd t ht x hx
  cd := fun t _ x hx => nomatch hx
  sd := f.sd
  em := f.em
  sz := fun u => by
    have := f.sz u
    rw [List.length_nil]
    omega
/-- what is known at the end of it -/
structure Pre (h : House) (t0 : State) (R : List State) (pr : State → List State) : Prop where
  nd : R.Nodup
  hd : t0 ∈ R
  cl : Closed h R
  fw : ∀ t ∈ R, ∀ x ∈ h.steps t, t ∈ pr (after t x)
  sd : ∀ u t, t ∈ pr u → t ∈ R ∧ ∃ x ∈ h.steps t, after t x = u
  em : ∀ u, u ∉ R → pr u = []
  len : R.length ≤ 216
  sz : ∀ u, (pr u).length ≤ 20000
theorem Fw.fin {h : House} {t0 : State} {rs pr place} (f : Fw h t0 rs pr place []) (hw : ∀ S ∈ h.services, WFS S) (hl : h.services.length ≤ 3) (hp : place = rs.length) : Pre h t0 rs pr where
  nd := f.nd
  hd := f.hd
  cl := fun t ht x hx => by
    obtain ⟨j, hj⟩ := List.mem_iff_getElem?.1 ht
    have := (List.getElem?_eq_some_iff.mp hj).1
    exact (f.cl j t (by omega) hj x hx).1
  fw := fun t ht x hx => by
    obtain ⟨j, hj⟩ := List.mem_iff_getElem?.1 ht
    have := (List.getElem?_eq_some_iff.mp hj).1
    exact (f.cl j t (by omega) hj x hx).2
  sd := f.sd
  em := f.em
  len := f.bound hw hl
  sz := fun u => by
    have h1 := f.sz u
    have h2 := f.bound hw hl
    rw [List.length_nil] at h1
    subst hp
    omega

/-! ### backwards: how many steps it takes -/
structure Bw (h : House) (R : List State) (pr : State → List State) (q : List State) (d : State → Nat) (place : Nat) (done : List State) : Prop where
  nd : q.Nodup
  g0 : h.goal ∈ q
  sub : ∀ t ∈ q, t = h.goal ∨ t ∈ R
  way : ∀ t ∈ q, Way h (d t) t
  mono : ∀ (i j : Nat) a b, i ≤ j → q[i]? = some a → q[j]? = some b → d a ≤ d b
  top : ∀ a b, q[place]? = some a → b ∈ q → d b ≤ d a + 1
  cl : ∀ (j : Nat) a, j < place → q[j]? = some a → ∀ t ∈ pr a, t ∈ q ∧ d t ≤ d a + 1
  cd : ∀ a, q[place]? = some a → ∀ t ∈ done, t ∈ q ∧ d t ≤ d a + 1
  dz : d h.goal = 0
  dl : ∀ t ∈ q, d t < q.length
theorem bw_init {h : House} {R : List State} {pr : State → List State} : Bw h R pr [h.goal] (fun _ => 0) 0 [] where
  nd := by simp
  g0 := by simp
  sub := fun t ht => by rw [List.mem_singleton] at ht; exact .inl ht
  way := fun t ht => by rw [List.mem_singleton] at ht; exact ht
  mono := fun _ _ _ _ _ _ _ => Nat.le_refl _
  top := fun _ _ _ _ => by omega
  cl := fun j _ hj => absurd hj (by omega)
  cd := fun _ _ t ht => nomatch ht
  dz := rfl
  dl := fun _ _ => by simp
theorem Bw.bound {h : House} {R pr q d place done} (b : Bw h R pr q d place done) (hR : R.length ≤ 216) : q.length ≤ 217 := by
  have h1 := nodup_length_le q (h.goal :: R) b.nd fun t ht => by
    rcases b.sub t ht with c | c
    · rw [c]; exact List.mem_cons_self
    · exact List.mem_cons_of_mem _ c
  rw [List.length_cons] at h1
  omega
def addD (d : State → Nat) (t : State) (n : Nat) : State → Nat := fun v => if v = t then n else d v
theorem Bw.old {h : House} {R pr q d place done} (b : Bw h R pr q d place done) {a t : State} (ha : q[place]? = some a) (ht : t ∈ q) : Bw h R pr q d place (done ++ [t]) where
  nd := b.nd
  g0 := b.g0
  sub := b.sub
  way := b.way
  mono := b.mono
  top := b.top
  cl := b.cl
  cd := fun a' ha' s hs => by
    rcases List.mem_append.1 hs with c | c
    · exact b.cd a' ha' s c
    · rw [List.mem_singleton] at c
      rw [c]
      exact ⟨ht, b.top a' t ha' ht⟩
  dz := b.dz
  dl := b.dl
theorem Bw.new {h : House} {R pr q d place done} (b : Bw h R pr q d place done) (pre : ∀ u t, t ∈ pr u → t ∈ R ∧ ∃ x ∈ h.steps t, after t x = u) {a t : State} (ha : q[place]? = some a) (hp : t ∈ pr a) (ht : t ∉ q) :
    Bw h R pr (q ++ [t]) (addD d t (d a + 1)) place (done ++ [t]) := by
  have hpl : place < q.length := (List.getElem?_eq_some_iff.mp ha).1
  have am : a ∈ q := List.mem_of_getElem? ha
  have keep : ∀ v ∈ q, addD d t (d a + 1) v = d v := fun v hv => by
    unfold addD
    exact if_neg fun e => ht (by rw [← e]; exact hv)
  have here : addD d t (d a + 1) t = d a + 1 := if_pos rfl
  have ga : (q ++ [t])[place]? = some a := by rw [List.getElem?_append_left hpl]; exact ha
  have cases' : ∀ {v : State}, v ∈ q ++ [t] → v ∈ q ∨ v = t := fun hv => by
    rcases List.mem_append.1 hv with c | c
    · exact .inl c
    · rw [List.mem_singleton] at c; exact .inr c
  refine ⟨?_, List.mem_append_left _ b.g0, ?_, ?_, ?_, ?_, ?_, ?_, ?_, ?_⟩
  · rw [List.nodup_append]
    refine ⟨b.nd, by simp, fun x hx y hy e => ?_⟩
    rw [List.mem_singleton] at hy
    exact ht (by rw [← hy, ← e]; exact hx)
  · intro v hv
    rcases cases' hv with c | c
    · exact b.sub v c
    · rw [c]; exact .inr (pre a t hp).1
  · intro v hv
    rcases cases' hv with c | c
    · rw [keep v c]; exact b.way v c
    · rw [c, here]
      obtain ⟨_, x, hx, e⟩ := pre a t hp
      exact ⟨x, hx, by rw [e]; exact b.way a am⟩
  · intro i j x y hij hx hy
    rcases Nat.lt_or_ge j q.length with cj | cj
    · rw [List.getElem?_append_left cj] at hy
      rw [List.getElem?_append_left (by omega)] at hx
      rw [keep x (List.mem_of_getElem? hx), keep y (List.mem_of_getElem? hy)]
      exact b.mono i j x y hij hx hy
    · have ey : y = t := by
        rw [List.getElem?_append_right cj] at hy
        exact List.mem_singleton.1 (List.mem_of_getElem? hy)
      rw [ey, here]
      rcases cases' (List.mem_of_getElem? hx) with c | c
      · rw [keep x c]; exact b.top a x ha c
      · rw [c, here]; exact Nat.le_refl _
  · intro a' v ha' hv
    rw [ga] at ha'
    cases ha'
    rw [keep a am]
    rcases cases' hv with c | c
    · rw [keep v c]; exact b.top a v ha c
    · rw [c, here]; exact Nat.le_refl _
  · intro j a' hj ha' s hs
    rw [List.getElem?_append_left (by omega)] at ha'
    obtain ⟨c1, c2⟩ := b.cl j a' hj ha' s hs
    rw [keep s c1, keep a' (List.mem_of_getElem? ha')]
    exact ⟨List.mem_append_left _ c1, c2⟩
  · intro a' ha' s hs
    rw [ga] at ha'
    cases ha'
    rw [keep a am]
    rcases List.mem_append.1 hs with c | c
    · obtain ⟨c1, c2⟩ := b.cd a ha s c
      rw [keep s c1]
      exact ⟨List.mem_append_left _ c1, c2⟩
    · rw [List.mem_singleton] at c
      rw [c, here]
      exact ⟨by simp, Nat.le_refl _⟩
  · rw [keep _ b.g0]; exact b.dz
  · intro v hv
    rw [List.length_append, List.length_singleton]
    rcases cases' hv with c | c
    · rw [keep v c]; have := b.dl v c; omega
    · rw [c, here]; have := b.dl a am; omega
theorem Bw.next {h : House} {R pr q d place} {a : State} (ha : q[place]? = some a) (b : Bw h R pr q d place (pr a)) : Bw h R pr q d (place + 1) [] where
  nd := b.nd
  g0 := b.g0
  sub := b.sub
  way := b.way
  mono := b.mono
  top := fun a' v ha' hv => by
    have h1 := b.top a v ha hv
    have h2 := b.mono place (place + 1) a a' (by omega) ha ha'
    omega
  cl := fun j a' hj ha' s hs => by
    rcases Nat.lt_or_ge j place with c | c
    · exact b.cl j a' c ha' s hs
    · have e : j = place := by omega
      subst e
      rw [ha] at ha'
      cases ha'
      exact b.cd a ha s hs
  cd := fun _ _ t ht => nomatch ht
  dz := b.dz
  dl := b.dl
/-- a table of steps: as far as a state that can be come to is asked, it tells the fewest -/
structure Tells (h : House) (R : List State) (F : State → Option Nat) : Prop where
  cl : Closed h R
  far : ∀ t ∈ R, IsFar h t (F t)
theorem Bw.fin {h : House} {t0 : State} {R pr q d place} (b : Bw h R pr q d place []) (hp : place = q.length) (pre : Pre h t0 R pr) : Tells h R (fun t => if t ∈ q then some (d t) else none) := by
  have all : ∀ n t, t ∈ R → Way h n t → t ∈ q ∧ d t ≤ n := by
    intro n
    induction n with
    | zero =>
      intro t _ hw
      have e : t = h.goal := hw
      rw [e]
      exact ⟨b.g0, by rw [b.dz]; exact Nat.le_refl _⟩
    | succ n ih =>
      intro t ht hw
      obtain ⟨x, hx, hw⟩ := hw
      obtain ⟨c1, c2⟩ := ih _ (pre.cl t ht x hx) hw
      obtain ⟨j, hj⟩ := List.mem_iff_getElem?.1 c1
      have hjl := (List.getElem?_eq_some_iff.mp hj).1
      obtain ⟨c3, c4⟩ := b.cl j _ (by omega) hj t (pre.fw t ht x hx)
      exact ⟨c3, by omega⟩
  refine ⟨pre.cl, fun t ht => ?_⟩
  by_cases c : t ∈ q
  · rw [if_pos c]
    exact ⟨b.way t c, fun m hm hw => by have := (all m t ht hw).2; omega⟩
  · rw [if_neg c]
    exact fun m hw => c (all m t ht hw).1
/-! ### the plan -/
theorem tells_table {h : House} (hw : WF h) {R : List State} {F : State → Option Nat} (T : Tells h R F) (hn : h.now ∈ R) :
    ∃ r : List State, h.now ∈ r ∧ Closed h r ∧ (∀ t ∈ r, t ∈ R) ∧ ∀ t ∈ r, far h.table t = F t := by
  obtain ⟨r, h1, h2, h3⟩ := wf_far hw
  refine ⟨r.filter fun t => decide (t ∈ R), List.mem_filter.2 ⟨h1, decide_eq_true hn⟩, ?_, ?_, ?_⟩
  · intro t ht x hx
    obtain ⟨a, b⟩ := List.mem_filter.1 ht
    exact List.mem_filter.2 ⟨h2 t a x hx, decide_eq_true (T.cl t (of_decide_eq_true b) x hx)⟩
  · exact fun t ht => of_decide_eq_true (List.mem_filter.1 ht).2
  · intro t ht
    obtain ⟨a, b⟩ := List.mem_filter.1 ht
    exact (h3 t a).unique (T.far t (of_decide_eq_true b))
/-- there is a step nearer -/
theorem nearer_some {h : House} {R : List State} {F : State → Option Nat} (T : Tells h R F) {t : State} (ht : t ∈ R) {n : Nat} (hF : F t = some (n + 1)) :
    ∃ x, (h.steps t).find? (fun x => F (after t x) == some n) = some x := by
  have f := T.far t ht
  rw [hF] at f
  obtain ⟨⟨x, hx, hw⟩, hm⟩ := f
  have hR := T.cl t ht x hx
  have g := T.far _ hR
  have e : F (after t x) = some n := by
    refine g.unique ⟨hw, fun m hlt hwm => hm (m + 1) (by omega) ⟨x, hx, hwm⟩⟩
  cases q : (h.steps t).find? (fun x => F (after t x) == some n) with
  | some y => exact ⟨y, rfl⟩
  | none =>
    have := List.find?_eq_none.1 q x hx
    rw [e] at this
    simp at this
theorem find_congr {α : Type} {p q : α → Bool} : ∀ {l : List α}, (∀ x ∈ l, p x = q x) → l.find? p = l.find? q
  | [], _ => rfl
  | a :: l, h => by
    rw [List.find?_cons, List.find?_cons, h a List.mem_cons_self, find_congr fun x hx => h x (List.mem_cons_of_mem _ hx)]
end Up

namespace Up
open PySem PySem.Spec PyProof.Rows L2
/-- xs[i], read for xs[i] op= e -/
theorem get_list {X : Cx} : PGet X (rIxL X.K) := by
  intro pn sh sg Hp0 xv yv va ia Q inv rx ry hyp
  obtain ⟨la, els, ix, el, rfl, rfl, hq, he, fin⟩ := hyp
  cases rx
  obtain ⟨tok, rfl⟩ := ry
  obtain ⟨vals, rel, isl, hz⟩ := inv.list hq
  obtain ⟨pl, g1, g2, g3, g4, g5⟩ := atI_get he
  obtain ⟨out, eo, ro⟩ := rel.get g2
  have hl := rel.length
  have hn := line63
  have last : EP X pn sg Q out sh := ⟨el, Hp0, inv, ro, fin⟩
  by_cases h0 : 0 ≤ ix
  · have hj : ix.toNat = pl := by
      rw [seqIndex_of h0 g5] at g1
      exact Option.some.inj g1
    exact wpAny_getItem_list isl.isList h0 (by omega) (by rw [hj]; simpa using eo) last
  · have hj : (ix + (vals.toArray.size : Int)).toNat = pl := by
      rw [seqIndex_neg (by omega) g4] at g1
      rw [List.size_toArray, ← hl]
      exact Option.some.inj g1
    exact wpAny_getItem_list_neg isl.isList (by omega) (by rw [List.size_toArray] <;> omega) (by omega) (by rw [hj]; simpa using eo) last
theorem hu65 {A : Around} {k : Nat} (hr : Room k A) : A.units + 65 < cLine := by
  have := hr.un
  omega
/-- a whole number of the module -/
theorem pe_gint {X : Cx} {x : Str} {n : Int} {pos : Pos} (hg : Gl X x) (hm : ∃ t, X.mg x = some (.int n t)) (hd : (x == ("__debug__" : Str)) = false := by decide) : PE X (.Name x pos) (tC (.int n)) := by
  obtain ⟨t, h⟩ := hm
  exact pe_glob hg h ⟨t, rfl⟩ hd
theorem pe_gref {X : Cx} {x : Str} {a : Addr} {pos : Pos} (hg : Gl X x) (hm : X.mg x = some (.ref a)) (hd : (x == ("__debug__" : Str)) = false := by decide) : PE X (.Name x pos) (tC (.ref a)) := pe_glob hg hm rfl hd
/-! the rules that name the written part, for comprehensions -/
theorem call_list_ofK {X : Cx} {K : PySem.W.Frag} (h : X.K = K) : CallR X (.type "list") (Evl.rListS K) := h ▸ call_list_of
theorem call_len_seqK {X : Cx} {K : PySem.W.Frag} (h : X.K = K) : CallR X (.builtin "len") (Evl.rLenS K) := h ▸ call_len_seq
theorem ix_listK {X : Cx} {K : PySem.W.Frag} (h : X.K = K) : IxR X (rIxL K) := h ▸ ix_list
theorem ix_tupK {X : Cx} {K : PySem.W.Frag} (h : X.K = K) : IxR X (rIxT K) := h ▸ ix_tup
/-- a dict of the module with int keys -/
def KDctI (K : PySem.W.Frag) (a : Addr) (i : Int) (v : V) : Prop := ∃ (kvs : Int → Option Value) (u : Value), (∀ (P : Program) (w : World) (h : Heap), K.In h → h.MapOf (PySem.intKind P w) a kvs) ∧ kvs i = some u ∧ RelV v u
def rIxDI (K : PySem.W.Frag) : R2 := fun x y H Q => ∃ p i v, x = .ref p ∧ y = .int i ∧ KDctI K p i v ∧ Q v H
theorem ix_kdictI {X : Cx} : IxR X (rIxDI X.K) := by
  intro value slice pn sh sg H0 xv yv va ia Q inv rx ry hyp hs
  obtain ⟨p, i, r, rfl, rfl, ⟨kvs, u0, hl, e, ru⟩, q⟩ := hyp
  obtain rfl : va = Value.ref p := rx
  obtain ⟨t, rfl⟩ := ry
  have hm := hl X.prog X.w sh.heap inv.kIn
  exact tail_any hm.typeIs slot_dict_getitem.lookup (wpAny_getItem_of (intKind_is X.prog X.w i t) hm e ⟨r, H0, inv.tok _, ru, q⟩) hs
theorem kdct_of {K : PySem.W.Frag} {a : Addr} {l : List DictEntry} {n : Nat} (hl : K.lookup a = some ⟨.type "dict", none, .dict l.toArray n, #[]⟩) (hk : ∀ e ∈ l, ∃ i t, DictEntry.key e = .int i t ∧ DictEntry.hash e = hashInt i)
    {i : Int} {u : Value} {v : V} (hf : findBy Value.isInt l.toArray i = some u) (r : RelV v u) : KDctI K a i v := by
  refine ⟨fun k => findBy Value.isInt l.toArray k, u, fun P w h X => ⟨_, l.toArray, n, X _ _ hl, ⟨rfl, rfl, rfl⟩, rfl, fun e he => ?_, fun _ => rfl⟩, hf, r⟩
  obtain ⟨i, t, e1, e2⟩ := hk e (by simpa using he)
  exact ⟨i, by rw [e1]; exact intKind_is P w i t, e2⟩
/-! places, scopes -/
def top (i : Nat) : Stmt := PySem.Challenge.pw_upgradeways_s01_answers.main.body.getD i (.Pass ⟨0, 0, 0, 0⟩)
abbrev s_Step_init : Stmt := inClass (top 1) 0
abbrev N_Step_init : List Str := ["self", "service", "old", "new", "copies"]
abbrev p_Step_init : List Str := ["self", "service", "old", "new", "copies"]
theorem sc_Step_init : FnScope N_Step_init p_Step_init (defScope s_Step_init) := ⟨rfl, rfl, rfl, by decide +kernel, rfl, by decide +kernel, by decide +kernel⟩
abbrev s_all_of_version : Stmt := top 2
abbrev N_all_of_version : List Str := ["versions", "version", "copies", "row"]
abbrev p_all_of_version : List Str := ["versions", "version", "copies"]
theorem sc_all_of_version : FnScope N_all_of_version p_all_of_version (defScope s_all_of_version) := ⟨rfl, rfl, rfl, by decide +kernel, rfl, by decide +kernel, by decide +kernel⟩
abbrev s_wanted_counts : Stmt := top 3
abbrev N_wanted_counts : List Str := ["services", "service"]
abbrev p_wanted_counts : List Str := ["services"]
theorem sc_wanted_counts : FnScope N_wanted_counts p_wanted_counts (defScope s_wanted_counts) := ⟨rfl, rfl, rfl, by decide +kernel, rfl, by decide +kernel, by decide +kernel⟩
abbrev s_is_there : Stmt := top 4
abbrev N_is_there : List Str := ["counts", "side"]
abbrev p_is_there : List Str := ["counts", "side"]
theorem sc_is_there : FnScope N_is_there p_is_there (defScope s_is_there) := ⟨rfl, rfl, rfl, by decide +kernel, rfl, by decide +kernel, by decide +kernel⟩
abbrev s_counts_behind : Stmt := top 5
abbrev N_counts_behind : List Str := ["counts", "step", "row"]
abbrev p_counts_behind : List Str := ["counts", "step"]
theorem sc_counts_behind : FnScope N_counts_behind p_counts_behind (defScope s_counts_behind) := ⟨rfl, rfl, rfl, by decide +kernel, rfl, by decide +kernel, by decide +kernel⟩
abbrev s_can_be_done : Stmt := top 6
abbrev N_can_be_done : List Str := ["services", "counts", "step", "stepping"]
abbrev p_can_be_done : List Str := ["services", "counts", "step"]
theorem sc_can_be_done : FnScope N_can_be_done p_can_be_done (defScope s_can_be_done) := ⟨rfl, rfl, rfl, by decide +kernel, rfl, by decide +kernel, by decide +kernel⟩
abbrev s_has_clash_between : Stmt := top 7
abbrev N_has_clash_between : List Str := ["clashes", "before", "behind", "clash", "first", "other"]
abbrev p_has_clash_between : List Str := ["clashes", "before", "behind"]
theorem sc_has_clash_between : FnScope N_has_clash_between p_has_clash_between (defScope s_has_clash_between) := ⟨rfl, rfl, rfl, by decide +kernel, rfl, by decide +kernel, by decide +kernel⟩
abbrev s_may_be_done : Stmt := top 8
abbrev N_may_be_done : List Str := ["services", "clashes", "counts", "step"]
abbrev p_may_be_done : List Str := ["services", "clashes", "counts", "step"]
theorem sc_may_be_done : FnScope N_may_be_done p_may_be_done (defScope s_may_be_done) := ⟨rfl, rfl, rfl, by decide +kernel, rfl, by decide +kernel, by decide +kernel⟩
abbrev s_steps_from : Stmt := top 9
abbrev N_steps_from : List Str := ["services", "clashes", "counts", "found", "service", "move", "copies", "step"]
abbrev p_steps_from : List Str := ["services", "clashes", "counts"]
theorem sc_steps_from : FnScope N_steps_from p_steps_from (defScope s_steps_from) := ⟨rfl, rfl, rfl, by decide +kernel, rfl, by decide +kernel, by decide +kernel⟩
abbrev s_counts_before : Stmt := top 10
abbrev N_counts_before : List Str := ["services", "clashes", "now", "before", "reached", "place", "counts", "step", "behind"]
abbrev p_counts_before : List Str := ["services", "clashes", "now"]
theorem sc_counts_before : FnScope N_counts_before p_counts_before (defScope s_counts_before) := ⟨rfl, rfl, rfl, by decide +kernel, rfl, by decide +kernel, by decide +kernel⟩
abbrev s_fewest_steps : Stmt := top 11
abbrev N_fewest_steps : List Str := ["services", "clashes", "now", "before", "wanted", "fewest", "reached", "place", "counts", "nearby"]
abbrev p_fewest_steps : List Str := ["services", "clashes", "now"]
theorem sc_fewest_steps : FnScope N_fewest_steps p_fewest_steps (defScope s_fewest_steps) := ⟨rfl, rfl, rfl, by decide +kernel, rfl, by decide +kernel, by decide +kernel⟩
abbrev s_first_step_nearer : Stmt := top 13
abbrev N_first_step_nearer : List Str := ["services", "clashes", "counts", "fewest", "nearer", "steps", "step"]
abbrev p_first_step_nearer : List Str := ["services", "clashes", "counts", "fewest"]
theorem sc_first_step_nearer : FnScope N_first_step_nearer p_first_step_nearer (defScope s_first_step_nearer) := ⟨rfl, rfl, rfl, by decide +kernel, rfl, by decide +kernel, by decide +kernel⟩
abbrev s_planned_steps : Stmt := top 12
abbrev N_planned_steps : List Str := ["services", "clashes", "now", "fewest", "planned", "counts", "step"]
abbrev p_planned_steps : List Str := ["services", "clashes", "now"]
theorem sc_planned_steps : FnScope N_planned_steps p_planned_steps (defScope s_planned_steps) := ⟨rfl, rfl, rfl, by decide +kernel, rfl, by decide +kernel, by decide +kernel⟩
abbrev s_Service_init : Stmt := inClass (top 38) 0
abbrev N_Service_init : List Str := ["self", "copies", "up", "versions", "wanted"]
abbrev p_Service_init : List Str := ["self", "copies", "up", "versions", "wanted"]
theorem sc_Service_init : FnScope N_Service_init p_Service_init (defScope s_Service_init) := ⟨rfl, rfl, rfl, by decide +kernel, rfl, by decide +kernel, by decide +kernel⟩
abbrev s_House_begin : Stmt := inClass (top 39) 1
abbrev N_House_begin : List Str := ["self"]
abbrev p_House_begin : List Str := ["self"]
theorem sc_House_begin : FnScope N_House_begin p_House_begin (defScope s_House_begin) := ⟨rfl, rfl, rfl, by decide +kernel, rfl, by decide +kernel, by decide +kernel⟩
abbrev s_House_init : Stmt := inClass (top 39) 0
abbrev N_House_init : List Str := ["self"]
abbrev p_House_init : List Str := ["self"]
theorem sc_House_init : FnScope N_House_init p_House_init (defScope s_House_init) := ⟨rfl, rfl, rfl, by decide +kernel, rfl, by decide +kernel, by decide +kernel⟩
abbrev s_are_in_range : Stmt := top 40
abbrev N_are_in_range : List Str := ["copies", "up", "versions", "wanted", "copies_fit", "versions_fit"]
abbrev p_are_in_range : List Str := ["copies", "up", "versions", "wanted"]
theorem sc_are_in_range : FnScope N_are_in_range p_are_in_range (defScope s_are_in_range) := ⟨rfl, rfl, rfl, by decide +kernel, rfl, by decide +kernel, by decide +kernel⟩
abbrev s_House_add_service : Stmt := inClass (top 39) 2
abbrev N_House_add_service : List Str := ["self", "copies", "up", "versions", "wanted"]
abbrev p_House_add_service : List Str := ["self", "copies", "up", "versions", "wanted"]
theorem sc_House_add_service : FnScope N_House_add_service p_House_add_service (defScope s_House_add_service) := ⟨rfl, rfl, rfl, by decide +kernel, rfl, by decide +kernel, by decide +kernel⟩
abbrev s_House_has_version : Stmt := inClass (top 39) 3
abbrev N_House_has_version : List Str := ["self", "service", "version"]
abbrev p_House_has_version : List Str := ["self", "service", "version"]
theorem sc_House_has_version : FnScope N_House_has_version p_House_has_version (defScope s_House_has_version) := ⟨rfl, rfl, rfl, by decide +kernel, rfl, by decide +kernel, by decide +kernel⟩
abbrev s_House_add_move : Stmt := inClass (top 39) 4
abbrev N_House_add_move : List Str := ["self", "service", "old", "new", "moves"]
abbrev p_House_add_move : List Str := ["self", "service", "old", "new"]
theorem sc_House_add_move : FnScope N_House_add_move p_House_add_move (defScope s_House_add_move) := ⟨rfl, rfl, rfl, by decide +kernel, rfl, by decide +kernel, by decide +kernel⟩
abbrev s_House_has_clash : Stmt := inClass (top 39) 6
abbrev N_House_has_clash : List Str := ["self", "one", "another"]
abbrev p_House_has_clash : List Str := ["self", "one", "another"]
theorem sc_House_has_clash : FnScope N_House_has_clash p_House_has_clash (defScope s_House_has_clash) := ⟨rfl, rfl, rfl, by decide +kernel, rfl, by decide +kernel, by decide +kernel⟩
abbrev s_House_add_clash : Stmt := inClass (top 39) 5
abbrev N_House_add_clash : List Str := ["self", "first", "version", "other", "otherversion", "one", "another"]
abbrev p_House_add_clash : List Str := ["self", "first", "version", "other", "otherversion"]
theorem sc_House_add_clash : FnScope N_House_add_clash p_House_add_clash (defScope s_House_add_clash) := ⟨rfl, rfl, rfl, by decide +kernel, rfl, by decide +kernel, by decide +kernel⟩
abbrev s_House_take_step : Stmt := inClass (top 39) 7
abbrev N_House_take_step : List Str := ["self", "service", "old", "new", "copies", "step"]
abbrev p_House_take_step : List Str := ["self", "service", "old", "new", "copies"]
theorem sc_House_take_step : FnScope N_House_take_step p_House_take_step (defScope s_House_take_step) := ⟨rfl, rfl, rfl, by decide +kernel, rfl, by decide +kernel, by decide +kernel⟩
abbrev s_step_numbers : Stmt := top 41
abbrev N_step_numbers : List Str := ["step"]
abbrev p_step_numbers : List Str := ["step"]
theorem sc_step_numbers : FnScope N_step_numbers p_step_numbers (defScope s_step_numbers) := ⟨rfl, rfl, rfl, by decide +kernel, rfl, by decide +kernel, by decide +kernel⟩
abbrev s_House_tell_plan : Stmt := inClass (top 39) 8
abbrev N_House_tell_plan : List Str := ["self", "steps", "told", "step"]
abbrev p_House_tell_plan : List Str := ["self"]
theorem sc_House_tell_plan : FnScope N_House_tell_plan p_House_tell_plan (defScope s_House_tell_plan) := ⟨rfl, rfl, rfl, by decide +kernel, rfl, by decide +kernel, by decide +kernel⟩
abbrev s_House_tell_may : Stmt := inClass (top 39) 9
abbrev N_House_tell_may : List Str := ["self", "steps", "fewest", "told", "step", "behind"]
abbrev p_House_tell_may : List Str := ["self"]
theorem sc_House_tell_may : FnScope N_House_tell_may p_House_tell_may (defScope s_House_tell_may) := ⟨rfl, rfl, rfl, by decide +kernel, rfl, by decide +kernel, by decide +kernel⟩
abbrev s_House_set_goal : Stmt := inClass (top 39) 10
abbrev N_House_set_goal : List Str := ["self", "service", "wanted"]
abbrev p_House_set_goal : List Str := ["self", "service", "wanted"]
theorem sc_House_set_goal : FnScope N_House_set_goal p_House_set_goal (defScope s_House_set_goal) := ⟨rfl, rfl, rfl, by decide +kernel, rfl, by decide +kernel, by decide +kernel⟩
abbrev s_House_tell_now : Stmt := inClass (top 39) 11
abbrev N_House_tell_now : List Str := ["self", "told", "row"]
abbrev p_House_tell_now : List Str := ["self"]
theorem sc_House_tell_now : FnScope N_House_tell_now p_House_tell_now (defScope s_House_tell_now) := ⟨rfl, rfl, rfl, by decide +kernel, rfl, by decide +kernel, by decide +kernel⟩
abbrev s_answer : Stmt := top 42
abbrev N_answer : List Str := ["house", "call", "given"]
abbrev p_answer : List Str := ["house", "call", "given"]
theorem sc_answer : FnScope N_answer p_answer (defScope s_answer) := ⟨rfl, rfl, rfl, by decide +kernel, rfl, by decide +kernel, by decide +kernel⟩
abbrev s_answers : Stmt := top 43
abbrev N_answers : List Str := ["calls", "house", "told", "place", "call", "end", "numbers"]
abbrev p_answers : List Str := ["calls"]
theorem sc_answers : FnScope N_answers p_answers (defScope s_answers) := ⟨rfl, rfl, rfl, by decide +kernel, rfl, by decide +kernel, by decide +kernel⟩
/-- where things stand -/
structure Ad where
  c_Step : Addr
  c_Service : Addr
  c_House : Addr
  a_Step_init : Addr
  d_Step_init : FuncData
  a_all_of_version : Addr
  d_all_of_version : FuncData
  a_wanted_counts : Addr
  d_wanted_counts : FuncData
  a_is_there : Addr
  d_is_there : FuncData
  a_counts_behind : Addr
  d_counts_behind : FuncData
  a_can_be_done : Addr
  d_can_be_done : FuncData
  a_has_clash_between : Addr
  d_has_clash_between : FuncData
  a_may_be_done : Addr
  d_may_be_done : FuncData
  a_steps_from : Addr
  d_steps_from : FuncData
  a_counts_before : Addr
  d_counts_before : FuncData
  a_fewest_steps : Addr
  d_fewest_steps : FuncData
  a_first_step_nearer : Addr
  d_first_step_nearer : FuncData
  a_planned_steps : Addr
  d_planned_steps : FuncData
  a_Service_init : Addr
  d_Service_init : FuncData
  a_House_begin : Addr
  d_House_begin : FuncData
  a_House_init : Addr
  d_House_init : FuncData
  a_are_in_range : Addr
  d_are_in_range : FuncData
  a_House_add_service : Addr
  d_House_add_service : FuncData
  a_House_has_version : Addr
  d_House_has_version : FuncData
  a_House_add_move : Addr
  d_House_add_move : FuncData
  a_House_has_clash : Addr
  d_House_has_clash : FuncData
  a_House_add_clash : Addr
  d_House_add_clash : FuncData
  a_House_take_step : Addr
  d_House_take_step : FuncData
  a_step_numbers : Addr
  d_step_numbers : FuncData
  a_House_tell_plan : Addr
  d_House_tell_plan : FuncData
  a_House_tell_may : Addr
  d_House_tell_may : FuncData
  a_House_set_goal : Addr
  d_House_set_goal : FuncData
  a_House_tell_now : Addr
  d_House_tell_now : FuncData
  a_answer : Addr
  d_answer : FuncData
  a_answers : Addr
  d_answers : FuncData
  e_NUMBERS_BEHIND : Addr
/-- what the top has written -/
structure Tx (K : PySem.W.Frag) (mg : Str → Option Value) (A : Ad) : Prop where
  cl_Step : Cls K A.c_Step
  mk_Step : Mk K A.c_Step A.a_Step_init
  g_Step : mg "Step" = some (.ref A.c_Step)
  n_Step_service : NoAttr K A.c_Step "service"
  n_Step_old : NoAttr K A.c_Step "old"
  n_Step_new : NoAttr K A.c_Step "new"
  n_Step_copies : NoAttr K A.c_Step "copies"
  cl_Service : Cls K A.c_Service
  mk_Service : Mk K A.c_Service A.a_Service_init
  g_Service : mg "Service" = some (.ref A.c_Service)
  n_Service_copies : NoAttr K A.c_Service "copies"
  n_Service_up : NoAttr K A.c_Service "up"
  n_Service_versions : NoAttr K A.c_Service "versions"
  n_Service_wanted : NoAttr K A.c_Service "wanted"
  n_Service_moves : NoAttr K A.c_Service "moves"
  cl_House : Cls K A.c_House
  mk_House : Mk K A.c_House A.a_House_init
  g_House : mg "House" = some (.ref A.c_House)
  n_House_services : NoAttr K A.c_House "services"
  n_House_clashes : NoAttr K A.c_House "clashes"
  n_House_counts : NoAttr K A.c_House "counts"
  F_Step_init : Fun K "__init__" "Step.__init__" s_Step_init A.a_Step_init A.d_Step_init
  b_Step_init : Binds K A.d_Step_init p_Step_init []
  F_all_of_version : Fun K "all_of_version" "all_of_version" s_all_of_version A.a_all_of_version A.d_all_of_version
  b_all_of_version : Binds K A.d_all_of_version p_all_of_version []
  g_all_of_version : mg "all_of_version" = some (.ref A.a_all_of_version)
  F_wanted_counts : Fun K "wanted_counts" "wanted_counts" s_wanted_counts A.a_wanted_counts A.d_wanted_counts
  b_wanted_counts : Binds K A.d_wanted_counts p_wanted_counts []
  g_wanted_counts : mg "wanted_counts" = some (.ref A.a_wanted_counts)
  F_is_there : Fun K "is_there" "is_there" s_is_there A.a_is_there A.d_is_there
  b_is_there : Binds K A.d_is_there p_is_there []
  g_is_there : mg "is_there" = some (.ref A.a_is_there)
  F_counts_behind : Fun K "counts_behind" "counts_behind" s_counts_behind A.a_counts_behind A.d_counts_behind
  b_counts_behind : Binds K A.d_counts_behind p_counts_behind []
  g_counts_behind : mg "counts_behind" = some (.ref A.a_counts_behind)
  F_can_be_done : Fun K "can_be_done" "can_be_done" s_can_be_done A.a_can_be_done A.d_can_be_done
  b_can_be_done : Binds K A.d_can_be_done p_can_be_done []
  g_can_be_done : mg "can_be_done" = some (.ref A.a_can_be_done)
  F_has_clash_between : Fun K "has_clash_between" "has_clash_between" s_has_clash_between A.a_has_clash_between A.d_has_clash_between
  b_has_clash_between : Binds K A.d_has_clash_between p_has_clash_between []
  g_has_clash_between : mg "has_clash_between" = some (.ref A.a_has_clash_between)
  F_may_be_done : Fun K "may_be_done" "may_be_done" s_may_be_done A.a_may_be_done A.d_may_be_done
  b_may_be_done : Binds K A.d_may_be_done p_may_be_done []
  g_may_be_done : mg "may_be_done" = some (.ref A.a_may_be_done)
  F_steps_from : Fun K "steps_from" "steps_from" s_steps_from A.a_steps_from A.d_steps_from
  b_steps_from : Binds K A.d_steps_from p_steps_from []
  g_steps_from : mg "steps_from" = some (.ref A.a_steps_from)
  F_counts_before : Fun K "counts_before" "counts_before" s_counts_before A.a_counts_before A.d_counts_before
  b_counts_before : Binds K A.d_counts_before p_counts_before []
  g_counts_before : mg "counts_before" = some (.ref A.a_counts_before)
  F_fewest_steps : Fun K "fewest_steps" "fewest_steps" s_fewest_steps A.a_fewest_steps A.d_fewest_steps
  b_fewest_steps : Binds K A.d_fewest_steps p_fewest_steps []
  g_fewest_steps : mg "fewest_steps" = some (.ref A.a_fewest_steps)
  F_first_step_nearer : Fun K "first_step_nearer" "first_step_nearer" s_first_step_nearer A.a_first_step_nearer A.d_first_step_nearer
  b_first_step_nearer : Binds K A.d_first_step_nearer p_first_step_nearer []
  g_first_step_nearer : mg "first_step_nearer" = some (.ref A.a_first_step_nearer)
  F_planned_steps : Fun K "planned_steps" "planned_steps" s_planned_steps A.a_planned_steps A.d_planned_steps
  b_planned_steps : Binds K A.d_planned_steps p_planned_steps []
  g_planned_steps : mg "planned_steps" = some (.ref A.a_planned_steps)
  F_Service_init : Fun K "__init__" "Service.__init__" s_Service_init A.a_Service_init A.d_Service_init
  b_Service_init : Binds K A.d_Service_init p_Service_init []
  F_House_begin : Fun K "begin" "House.begin" s_House_begin A.a_House_begin A.d_House_begin
  b_House_begin : Binds K A.d_House_begin p_House_begin []
  m_House_begin : Meth K A.c_House "begin" A.a_House_begin
  F_House_init : Fun K "__init__" "House.__init__" s_House_init A.a_House_init A.d_House_init
  b_House_init : Binds K A.d_House_init p_House_init []
  F_are_in_range : Fun K "are_in_range" "are_in_range" s_are_in_range A.a_are_in_range A.d_are_in_range
  b_are_in_range : Binds K A.d_are_in_range p_are_in_range []
  g_are_in_range : mg "are_in_range" = some (.ref A.a_are_in_range)
  F_House_add_service : Fun K "add_service" "House.add_service" s_House_add_service A.a_House_add_service A.d_House_add_service
  b_House_add_service : Binds K A.d_House_add_service p_House_add_service []
  m_House_add_service : Meth K A.c_House "add_service" A.a_House_add_service
  F_House_has_version : Fun K "has_version" "House.has_version" s_House_has_version A.a_House_has_version A.d_House_has_version
  b_House_has_version : Binds K A.d_House_has_version p_House_has_version []
  m_House_has_version : Meth K A.c_House "has_version" A.a_House_has_version
  F_House_add_move : Fun K "add_move" "House.add_move" s_House_add_move A.a_House_add_move A.d_House_add_move
  b_House_add_move : Binds K A.d_House_add_move p_House_add_move []
  m_House_add_move : Meth K A.c_House "add_move" A.a_House_add_move
  F_House_has_clash : Fun K "has_clash" "House.has_clash" s_House_has_clash A.a_House_has_clash A.d_House_has_clash
  b_House_has_clash : Binds K A.d_House_has_clash p_House_has_clash []
  m_House_has_clash : Meth K A.c_House "has_clash" A.a_House_has_clash
  F_House_add_clash : Fun K "add_clash" "House.add_clash" s_House_add_clash A.a_House_add_clash A.d_House_add_clash
  b_House_add_clash : Binds K A.d_House_add_clash p_House_add_clash []
  m_House_add_clash : Meth K A.c_House "add_clash" A.a_House_add_clash
  F_House_take_step : Fun K "take_step" "House.take_step" s_House_take_step A.a_House_take_step A.d_House_take_step
  b_House_take_step : Binds K A.d_House_take_step p_House_take_step []
  m_House_take_step : Meth K A.c_House "take_step" A.a_House_take_step
  F_step_numbers : Fun K "step_numbers" "step_numbers" s_step_numbers A.a_step_numbers A.d_step_numbers
  b_step_numbers : Binds K A.d_step_numbers p_step_numbers []
  g_step_numbers : mg "step_numbers" = some (.ref A.a_step_numbers)
  F_House_tell_plan : Fun K "tell_plan" "House.tell_plan" s_House_tell_plan A.a_House_tell_plan A.d_House_tell_plan
  b_House_tell_plan : Binds K A.d_House_tell_plan p_House_tell_plan []
  m_House_tell_plan : Meth K A.c_House "tell_plan" A.a_House_tell_plan
  F_House_tell_may : Fun K "tell_may" "House.tell_may" s_House_tell_may A.a_House_tell_may A.d_House_tell_may
  b_House_tell_may : Binds K A.d_House_tell_may p_House_tell_may []
  m_House_tell_may : Meth K A.c_House "tell_may" A.a_House_tell_may
  F_House_set_goal : Fun K "set_goal" "House.set_goal" s_House_set_goal A.a_House_set_goal A.d_House_set_goal
  b_House_set_goal : Binds K A.d_House_set_goal p_House_set_goal []
  m_House_set_goal : Meth K A.c_House "set_goal" A.a_House_set_goal
  F_House_tell_now : Fun K "tell_now" "House.tell_now" s_House_tell_now A.a_House_tell_now A.d_House_tell_now
  b_House_tell_now : Binds K A.d_House_tell_now p_House_tell_now []
  m_House_tell_now : Meth K A.c_House "tell_now" A.a_House_tell_now
  F_answer : Fun K "answer" "answer" s_answer A.a_answer A.d_answer
  b_answer : Binds K A.d_answer p_answer []
  g_answer : mg "answer" = some (.ref A.a_answer)
  F_answers : Fun K "answers" "answers" s_answers A.a_answers A.d_answers
  b_answers : Binds K A.d_answers p_answers []
  g_answers : mg "answers" = some (.ref A.a_answers)
  g_BEGINS : ∃ t, mg "BEGINS" = some (.int (0) t)
  g_BOTH_THERE : ∃ t, mg "BOTH_THERE" = some (.int (-5) t)
  g_CANNOT_BE_DONE : ∃ t, mg "CANNOT_BE_DONE" = some (.int (-2) t)
  g_CLASH : ∃ t, mg "CLASH" = some (.int (3) t)
  g_DONE : ∃ t, mg "DONE" = some (.int (0) t)
  g_FULL : ∃ t, mg "FULL" = some (.int (-7) t)
  g_GOAL : ∃ t, mg "GOAL" = some (.int (7) t)
  g_MAY : ∃ t, mg "MAY" = some (.int (6) t)
  g_MAY_NOT_BE_DONE : ∃ t, mg "MAY_NOT_BE_DONE" = some (.int (-5) t)
  g_MOST_CLASHES : ∃ t, mg "MOST_CLASHES" = some (.int (20) t)
  g_MOST_COPIES : ∃ t, mg "MOST_COPIES" = some (.int (2) t)
  g_MOST_SERVICES : ∃ t, mg "MOST_SERVICES" = some (.int (3) t)
  g_MOST_VERSIONS : ∃ t, mg "MOST_VERSIONS" = some (.int (3) t)
  g_MOVE : ∃ t, mg "MOVE" = some (.int (2) t)
  g_NOT_NEW : ∃ t, mg "NOT_NEW" = some (.int (-4) t)
  g_NO_SUCH : ∃ t, mg "NO_SUCH" = some (.int (-2) t)
  g_NO_WAY : ∃ t, mg "NO_WAY" = some (.int (-6) t)
  g_NO_WAY_ON : ∃ t, mg "NO_WAY_ON" = some (.int (0) t)
  g_NUMBERS_BEHIND : mg "NUMBERS_BEHIND" = some (.ref A.e_NUMBERS_BEHIND)
  k_NUMBERS_BEHIND : ∀ i n, (i, n) ∈ ([(0, 0), (1, 4), (2, 3), (3, 4), (4, 4), (5, 0), (6, 0), (7, 2), (8, 0)] : List (Int × Int)) → KDctI K A.e_NUMBERS_BEHIND i (.int n)
  g_OUT_OF_RANGE : ∃ t, mg "OUT_OF_RANGE" = some (.int (-1) t)
  g_PLAN : ∃ t, mg "PLAN" = some (.int (5) t)
  g_SERVICE : ∃ t, mg "SERVICE" = some (.int (1) t)
  g_STEP : ∃ t, mg "STEP" = some (.int (4) t)
  b_len : mg "len" = none
  b_list : mg "list" = none
  b_range : mg "range" = none
  b_sorted : mg "sorted" = none
  b_tuple : mg "tuple" = none

end Up

/-! Dicts whose keys are tuples of tuples of ints. -/
namespace Up
open PySem PySem.Spec PyProof.Rows L2 Evl
inductive All2 {α β : Type} (R : α → β → Prop) : List α → List β → Prop
  | nil : All2 R [] []
  | cons {a b l m} : R a b → All2 R l m → All2 R (a :: l) (b :: m)
theorem All2.imp {α β : Type} {R S : α → β → Prop} (h : ∀ a b, R a b → S a b) : ∀ {l : List α} {m : List β}, All2 R l m → All2 S l m
  | _, _, .nil => .nil
  | _, _, .cons r t => .cons (h _ _ r) (t.imp h)
theorem All2.length {α β : Type} {R : α → β → Prop} : ∀ {l : List α} {m : List β}, All2 R l m → l.length = m.length
  | _, _, .nil => rfl
  | _, _, .cons _ t => by rw [List.length_cons, List.length_cons, t.length]
theorem All2.get {α β : Type} {R : α → β → Prop} : ∀ {l : List α} {m : List β}, All2 R l m → ∀ {i : Nat} {b : β}, m[i]? = some b → ∃ a, l[i]? = some a ∧ R a b
  | _, _, .nil, i, b, h => by simp at h
  | _, _, .cons (a := a) r t, 0, b, h => ⟨a, rfl, by have e := Option.some.inj h; exact e ▸ r⟩
  | _, _, .cons r t, i + 1, b, h => t.get (i := i) h
theorem All2.getL {α β : Type} {R : α → β → Prop} : ∀ {l : List α} {m : List β}, All2 R l m → ∀ {i : Nat} {a : α}, l[i]? = some a → ∃ b, m[i]? = some b ∧ R a b
  | _, _, .nil, i, a, h => by simp at h
  | _, _, .cons (b := b) r t, 0, a, h => ⟨b, rfl, by have e := Option.some.inj h; exact e ▸ r⟩
  | _, _, .cons r t, i + 1, a, h => t.getL (i := i) h
theorem All2.snoc {α β : Type} {R : α → β → Prop} {a : α} {b : β} (r : R a b) : ∀ {l : List α} {m : List β}, All2 R l m → All2 R (l ++ [a]) (m ++ [b])
  | _, _, .nil => .cons r .nil
  | _, _, .cons q t => .cons q (t.snoc r)
theorem All2.impMem {α β : Type} {R S : α → β → Prop} : ∀ {l : List α} {m : List β}, All2 R l m → (∀ a b, a ∈ l → b ∈ m → R a b → S a b) → All2 S l m
  | _, _, .nil, _ => .nil
  | _, _, .cons r t, h => .cons (h _ _ List.mem_cons_self List.mem_cons_self r) (t.impMem fun a b ha hb => h a b (List.mem_cons_of_mem _ ha) (List.mem_cons_of_mem _ hb))
theorem All2.append {α β : Type} {R : α → β → Prop} : ∀ {l l' : List α} {m m' : List β}, All2 R l m → All2 R l' m' → All2 R (l ++ l') (m ++ m')
  | _, _, _, _, .nil, h => h
  | _, _, _, _, .cons q t, h => .cons q (t.append h)
theorem All2.take {α β : Type} {R : α → β → Prop} : ∀ {l : List α} {m : List β} (n : Nat), All2 R l m → All2 R (l.take n) (m.take n)
  | _, _, 0, _ => .nil
  | _, _, n + 1, .nil => .nil
  | _, _, n + 1, .cons q t => .cons q (t.take n)
theorem All2.drop {α β : Type} {R : α → β → Prop} : ∀ {l : List α} {m : List β} (n : Nat), All2 R l m → All2 R (l.drop n) (m.drop n)
  | _, _, 0, h => h
  | _, _, n + 1, .nil => .nil
  | _, _, n + 1, .cons q t => t.drop n
/-- one of the right list changes -/
theorem All2.setR {α β : Type} {R S : α → β → Prop} : ∀ {l : List α} {m : List β} (i : Nat) {a : α} {b : β}, All2 R l m → l[i]? = some a → S a b →
    (∀ (j : Nat) x y, l[j]? = some x → m[j]? = some y → j ≠ i → R x y → S x y) → All2 S l (m.set i b)
  | _, _, i, a, b, .nil, h, _, _ => by simp at h
  | _, _, 0, a, b, .cons (l := l) (m := m) r t, h, s, k => by
    have e := Option.some.inj h
    subst e
    refine .cons s ?_
    have : ∀ (l' : List α) (m' : List β), All2 R l' m' → (∀ (j : Nat) x y, l'[j]? = some x → m'[j]? = some y → R x y → S x y) → All2 S l' m' := by
      intro l' m' ht
      induction ht with
      | nil => intro _; exact .nil
      | cons r t ih => exact fun k => .cons (k 0 _ _ rfl rfl r) (ih fun j x y h1 h2 => k (j + 1) x y h1 h2)
    exact this _ _ t fun j x y h1 h2 => k (j + 1) x y h1 h2 (by omega)
  | _, _, i + 1, a, b, .cons r t, h, s, k => .cons (k 0 _ _ rfl rfl (by omega) r) (t.setR i h s fun j x y h1 h2 hj => k (j + 1) x y h1 h2 (by omega))

def iv (n : Nat) : V := .int (n : Int)
def ivs (l : List Nat) : List V := l.map iv
def rv (l : List Addr) : List V := l.map V.ref
theorem rv_snoc (ds : List Addr) (p : Addr) : rv ds ++ [V.ref p] = rv (ds ++ [p]) := by simp [rv]
theorem rv_get {ds : List Addr} {i : Nat} {d : Addr} (h : ds[i]? = some d) : (rv ds)[i]? = some (.ref d) := by simp [rv, h]
theorem rv_got {ds : List Addr} {i : Nat} {y : V} (h : (rv ds)[i]? = some y) : ∃ d, ds[i]? = some d ∧ y = .ref d := by
  simp only [rv, List.getElem?_map] at h
  cases q : ds[i]? with
  | none => rw [q] at h; cases h
  | some d => rw [q] at h; exact ⟨d, rfl, (Option.some.inj h).symm⟩
theorem rv_len (ds : List Addr) : (rv ds).length = ds.length := List.length_map _
/-- a row, a state: tuples -/
def RowAt (H : Hp) (t : Addr) (r : List Nat) : Prop := H t = some (.tup (ivs r))
def CountsAt (H : Hp) (l : Addr) (t : Rp11.State) : Prop := ∃ rows, H l = some (.tup (rv rows)) ∧ All2 (RowAt H) rows t
theorem RowAt.mono {H H' : Hp} (e : Ex H H') {t p} (h : RowAt H t p) : RowAt H' t p := e _ _ h
theorem CountsAt.mono {H H' : Hp} (e : Ex H H') {l t} (h : CountsAt H l t) : CountsAt H' l t := h.imp fun _ q => ⟨e _ _ q.1, q.2.imp fun _ _ => RowAt.mono e⟩

/-! ### keys -/
def nr (r : List Nat) : NestedKey := .tup (r.map fun n : Nat => NestedKey.num (n : Int))
def nk (t : Rp11.State) : NestedKey := .tup (t.map nr)
theorem nr_inj {a b : List Nat} (h : nr a = nr b) : a = b := by
  unfold nr at h
  injection h with h
  have : ∀ (a b : List Nat), a.map (fun n : Nat => NestedKey.num (n : Int)) = b.map (fun n : Nat => NestedKey.num (n : Int)) → a = b := by
    intro a
    induction a with
    | nil => intro b h; cases b with
      | nil => rfl
      | cons => simp at h
    | cons x a ih => intro b h; cases b with
      | nil => simp at h
      | cons y b =>
        simp only [List.map_cons, List.cons.injEq, NestedKey.num.injEq] at h
        rw [ih b h.2, show x = y by omega]
  exact this a b h
theorem nk_inj {a b : Rp11.State} (h : nk a = nk b) : a = b := by
  unfold nk at h
  injection h with h
  have : ∀ (a b : Rp11.State), a.map nr = b.map nr → a = b := by
    intro a
    induction a with
    | nil => intro b h; cases b with
      | nil => rfl
      | cons => simp at h
    | cons x a ih => intro b h; cases b with
      | nil => simp at h
      | cons y b =>
        simp only [List.map_cons, List.cons.injEq] at h
        rw [ih b h.2, nr_inj h.1]
  exact this a b h
theorem depth_nr (r : List Nat) : (nr r).depth = 1 := by
  have : ∀ l : List Nat, NestedKey.depthAll (l.map fun n : Nat => NestedKey.num (n : Int)) = 0 := by
    intro l
    induction l with
    | nil => rfl
    | cons a l ih => simp [NestedKey.depthAll, NestedKey.depth, ih]
  simp [nr, NestedKey.depth, this]
theorem depth_nk (t : Rp11.State) : (nk t).depth ≤ 8 := by
  have : ∀ l : Rp11.State, NestedKey.depthAll (l.map nr) ≤ 1 := by
    intro l
    induction l with
    | nil => simp [NestedKey.depthAll]
    | cons a l ih =>
      simp only [List.map_cons, NestedKey.depthAll, depth_nr]
      omega
  have := this t
  simp only [nk, NestedKey.depth]
  omega
section
variable {P : Program} {w : World} {H : Hp} {h : Heap}
theorem row_nested {b : Addr} {r : List Nat} (ok : HOk P w H h) (e : RowAt H b r) : NestedIs h (nr r) (.ref b) := by
  obtain ⟨_, its, rel, o, h1, h2, n, h3⟩ := (show ObjOk P w H h b (.tup (ivs r)) from ok b _ e)
  refine .tup h1 h2 h3 ?_
  have : ∀ (r : List Nat) (its : List Value), Vals (ivs r) its → NestedAll h (r.map fun n : Nat => NestedKey.num (n : Int)) its := by
    intro r
    induction r with
    | nil => intro its rel; cases rel; exact .nil
    | cons a r ih =>
      intro its rel
      cases rel with
      | cons q t =>
        obtain ⟨tk, rfl⟩ := q
        exact .cons (.int _ _) (ih _ t)
  simpa using this r its rel
theorem key_nested {b : Addr} {t : Rp11.State} (ok : HOk P w H h) (e : CountsAt H b t) : (nestedKind P w).is h (nk t) b := by
  obtain ⟨rows, e1, e2⟩ := e
  obtain ⟨_, its, rel, o, h1, h2, n, h3⟩ := (show ObjOk P w H h b (.tup (rv rows)) from ok b _ e1)
  refine ⟨.tup h1 h2 h3 ?_, depth_nk t⟩
  have : ∀ (rows : List Addr) (t : Rp11.State) (its : List Value), All2 (RowAt H) rows t → Vals (rv rows) its → NestedAll h (t.map nr) its := by
    intro rows t its e2
    induction e2 generalizing its with
    | nil => intro rel; cases rel; exact .nil
    | cons r _ ih =>
      intro rel
      cases rel with
      | cons q tl =>
        cases q
        exact .cons (row_nested ok r) (ih _ tl)
  simpa using this rows t its e2 rel

/-! ### the dict -/
abbrev DRel : List (Rp11.State × Addr × V) → List (NestedKey × Addr × Value) → Prop := Paired fun p q => nk p.1 = q.1 ∧ p.2.1 = q.2.1 ∧ RelV p.2.2 q.2.2
def DPhi (P : Program) (w : World) (d : Addr) (xs : List (Rp11.State × Addr × V)) (h : Heap) : Prop :=
  xs.length ≤ sizeLine ∧ (d == sysModules) = false ∧ ∃ ys, DRel xs ys ∧ ∃ o es ep, h.get? d = some o ∧ o.ExactDict ∧ o.data = .dict es ep ∧ es.toList = ys.map (entryOfKey (nestedKind P w)) ∧ (ys.map (·.1)).Nodup
def DN (P : Program) (w : World) (d : Addr) (xs : List (Rp11.State × Addr × V)) : HO := .ext (DPhi P w d xs)
def DictN (P : Program) (w : World) (H : Hp) (d : Addr) (xs : List (Rp11.State × Addr × V)) : Prop := H d = some (DN P w d xs) ∧ ∀ x ∈ xs, CountsAt H x.2.1 x.1
theorem DictN.mono {H' : Hp} {d : Addr} {xs} (e : Ex H H') (h : DictN P w H d xs) : DictN P w H' d xs := ⟨e _ _ h.1, fun x hx => (h.2 x hx).mono e⟩
def valN (xs : List (Rp11.State × Addr × V)) (t : Rp11.State) : Option V := (xs.find? fun x => decide (x.1 = t)).map (·.2.2)
theorem valN_nil {t : Rp11.State} : valN [] t = none := rfl
theorem valN_pos {p : Rp11.State × Addr × V} {r} {k} (e : p.1 = k) : valN (p :: r) k = some p.2.2 := by simp [valN, List.find?_cons, e]
theorem valN_neg {p : Rp11.State × Addr × V} {r} {k} (e : ¬ p.1 = k) : valN (p :: r) k = valN r k := by simp [valN, List.find?_cons, e]
theorem dn_ok {d : Addr} {xs} (p : DPhi P w d xs h) : ObjOk P w H h d (DN P w d xs) := by
  refine ⟨p, ?_, fun h1 h2 q k => ?_⟩
  · obtain ⟨_, _, _, _, o, _, _, e, _⟩ := p
    exact ⟨o, e⟩
  · obtain ⟨a, b, ys, c, o, es, ep, e, r⟩ := q
    exact ⟨a, b, ys, c, o, es, ep, k _ e, r⟩
theorem DRel.val {xs ys} (r : DRel xs ys) (t : Rp11.State) : RelO (valN xs t) ((atKey ys (nk t)).map (·.2)) := by
  induction r with
  | nil => exact True.intro
  | @cons p q ps qs h t' ih =>
    obtain ⟨h1, h2, h3⟩ := h
    by_cases e : p.1 = t
    · have e' : q.1 = nk t := by rw [← h1, e]
      have b : atKey (q :: qs) (nk t) = some q.2 := by simp [atKey, List.find?_cons, e']
      rw [valN_pos e, b]; exact h3
    · have e' : ¬ q.1 = nk t := fun z => e (nk_inj (h1.trans z))
      have b : atKey (q :: qs) (nk t) = atKey qs (nk t) := by simp [atKey, List.find?_cons, e']
      rw [valN_neg e, b]; exact ih
theorem dictN_rd {d : Addr} {xs} (ok : HOk P w H h) (e : DictN P w H d xs) : xs.length ≤ sizeLine ∧ (d == sysModules) = false ∧ ∃ ys, DRel xs ys ∧ h.DictOfH (nestedKind P w) d ys := by
  obtain ⟨⟨z, hd, ys, r, o, es, ep, h1, h2, h3, h4, h5⟩, _, _⟩ := (show ObjOk P w H h d (DN P w d xs) from ok d _ e.1)
  refine ⟨z, hd, ys, r, o, es, ep, h1, h2, h3, h4, ?_, h5⟩
  have all : ∀ {l m}, DRel l m → (∀ x ∈ l, CountsAt H x.2.1 x.1) → ∀ y ∈ m, (nestedKind P w).is h y.1 y.2.1 := by
    intro l m q
    induction q with
    | nil => intro _ y hy; exact nomatch hy
    | @cons p q ps qs hq t ih =>
      intro hk y hy
      rcases List.mem_cons.mp hy with e | hy'
      · subst e
        rw [← hq.1, ← hq.2.1]
        exact key_nested ok (hk p List.mem_cons_self)
      · exact ih (fun x hx => hk x (List.mem_cons_of_mem _ hx)) y hy'
  exact all r e.2
theorem DRel.snoc {xs ys} {t : Rp11.State} {b : Addr} {v : V} {u : Value} (r : DRel xs ys) (rv : RelV v u) : DRel (xs ++ [(t, b, v)]) (ys ++ [(nk t, b, u)]) := Paired.snoc r ⟨rfl, rfl, rv⟩
end
section
variable {X : Cx} {pn : List (Addr × Obj)} {σ : L2.St} {H : Hp} {s : Shared} {d b : Addr} {t : Rp11.State} {xs : List (Rp11.State × Addr × V)} {v : V} {r : Value} {A : Around} {E : Value → Shared → Prop}
theorem room_n (hu : A.units + 65 < cLine) : (nestedKind X.prog X.w).room A.in1 := by
  show A.units + 1 + 8 < cLine
  omega
theorem room_n0 (hu : A.units + 65 < cLine) : (nestedKind X.prog X.w).room A := by
  show A.units + 8 < cLine
  omega
theorem n_type (I : Inv X pn σ H s) (e : DictN X.prog X.w H d xs) : s.TypeIs (.ref d) "dict" := by
  obtain ⟨_, _, ys, _, dd⟩ := dictN_rd I.hok e
  exact dd.typeIs
theorem n_getItem {Q : Value → Shared → Prop} (hu : A.units + 65 < cLine) (I : Inv X pn σ H s) (e : DictN X.prog X.w H d xs) (k : CountsAt H b t) (l : valN xs t = some v) (h : ∀ w' s', Inv X pn σ H s' → RelV v w' → Q w' s') :
    wpAny (model X.prog X.w) A (getItem (.ref d) (.ref b)) Q E s := by
  obtain ⟨z, hd, ys, rel, dd⟩ := dictN_rd I.hok e
  obtain ⟨w', hw, rw'⟩ := RelO.some_of (v := v) (o := (atKey ys (nk t)).map (·.2)) (by rw [← l]; exact rel.val t)
  obtain ⟨en, hen, hen2⟩ := Option.map_eq_some_iff.mp hw
  refine wpAny_getItem_heap (room_n hu) (key_nested I.hok k) dd hen ?_
  rw [hen2]
  exact h w' _ (I.tok _) rw'
theorem n_in {Q : Value → Shared → Prop} (hu : A.units + 65 < cLine) (I : Inv X pn σ H s) (e : DictN X.prog X.w H d xs) (k : CountsAt H b t) (h : ∀ s', Inv X pn σ H s' → Q (.bool (valN xs t).isSome) s') :
    wpAny (model X.prog X.w) A (compareOp .In (.ref b) (.ref d)) Q E s := by
  obtain ⟨z, hd, ys, rel, dd⟩ := dictN_rd I.hok e
  refine wpAny_in_heap (room_n hu) (key_nested I.hok k) hd dd ?_
  have q := (rel.val t).isSome_eq
  rw [Option.isSome_map] at q
  rw [← q]
  exact h _ (I.tok _)
theorem n_notIn {Q : Value → Shared → Prop} (hu : A.units + 65 < cLine) (I : Inv X pn σ H s) (e : DictN X.prog X.w H d xs) (k : CountsAt H b t) (h : ∀ s', Inv X pn σ H s' → Q (.bool (!(valN xs t).isSome)) s') :
    wpAny (model X.prog X.w) A (compareOp .NotIn (.ref b) (.ref d)) Q E s := by
  obtain ⟨z, hd, ys, rel, dd⟩ := dictN_rd I.hok e
  refine wpAny_notIn_heap (room_n hu) (key_nested I.hok k) hd dd ?_
  have q := (rel.val t).isSome_eq
  rw [Option.isSome_map] at q
  rw [← q]
  exact h _ (I.tok _)
theorem n_get1 {Q : Value → Shared → Prop} (hu : A.units + 65 < cLine) (I : Inv X pn σ H s) (e : DictN X.prog X.w H d xs) (k : CountsAt H b t) (h : ∀ w' s', Inv X pn σ H s' → RelV ((valN xs t).getD .non) w' → Q w' s') :
    wpAny (model X.prog X.w) A (call (.builtin "dict.get") [.ref d, .ref b]) Q E s := by
  obtain ⟨z, hd, ys, rel, dd⟩ := dictN_rd I.hok e
  refine call_meetsIn PySem.F.slot_dict_get dd.typeIs PySem.F.entry_dict_get (PySem.F.args_dict_get_2 _ _) (meetsH_dict_get (nestedKind X.prog X.w) d b hd) ⟨room_n hu, _, ys, key_nested I.hok k, dd, h _ _ (I.tok _) ?_⟩
  exact (rel.val t).getD rfl
theorem n_get2 {x : V} {Q : Value → Shared → Prop} (hu : A.units + 65 < cLine) (I : Inv X pn σ H s) (e : DictN X.prog X.w H d xs) (k : CountsAt H b t) (rx : RelV x r) (h : ∀ w' s', Inv X pn σ H s' → RelV ((valN xs t).getD x) w' → Q w' s') :
    wpAny (model X.prog X.w) A (call (.builtin "dict.get") [.ref d, .ref b, r]) Q E s := by
  obtain ⟨z, hd, ys, rel, dd⟩ := dictN_rd I.hok e
  refine call_meetsIn PySem.F.slot_dict_get dd.typeIs PySem.F.entry_dict_get (PySem.F.args_dict_get_3 _ _ _) (meetsH_dict_get_default (nestedKind X.prog X.w) d b hd r) ⟨room_n hu, _, ys, key_nested I.hok k, dd, h _ _ (I.tok _) ?_⟩
  exact (rel.val t).getD rx
theorem storedH_new {ys : List (NestedKey × Addr × Value)} {k : NestedKey} {u : Value} (h : atKey ys k = none) : storedH ys k b u = ys ++ [(k, b, u)] := by
  unfold storedH
  rw [h]
  exact if_neg (by decide)
/-- d[t] = v, a new key -/
theorem n_setItem {Q : Unit → Shared → Prop} (hu : A.units + 65 < cLine) (I : Inv X pn σ H s) (e : DictN X.prog X.w H d xs) (k : CountsAt H b t) (l : valN xs t = none) (hz : xs.length < sizeLine) (rv : RelV v r)
    (h : ∀ s', Inv X pn σ (upd H d (DN X.prog X.w d (xs ++ [(t, b, v)]))) s' → Q () s') : wpAny (model X.prog X.w) A (setItem (.ref d) (.ref b) r) Q E s := by
  obtain ⟨z, hd, ys, rel, dd⟩ := dictN_rd I.hok e
  have hz' : ys.length ≤ sizeLine := by rw [← Paired.length rel]; exact z
  have hn : atKey ys (nk t) = none := by
    have q := RelO.none_of (o := (atKey ys (nk t)).map (·.2)) (by rw [← l]; exact rel.val t)
    exact Option.map_eq_none_iff.mp q
  refine wpAny_setItem_heap (hsz := hz') (room_n hu) (key_nested I.hok k) dd fun h' dd' hs => h _ ?_
  obtain ⟨q, en, ep, hq, h2, h3, h4, _, h5⟩ := dd'
  rw [storedH_new hn] at h4 h5
  refine d_write I (by rw [e.1]; exact True.intro) hs ⟨q, hq⟩ (dn_ok ⟨?_, hd, _, rel.snoc rv, q, en, ep, hq, h2, h3, h4, h5⟩)
  rw [List.length_append, List.length_singleton]
  omega
end

/-! ### rules -/
section
variable (P : Program)
variable (w : World)
def tNGet (td ty : TE) : TE := fun σ H Q => td σ H fun x H1 => ty σ H1 fun y H2 => ∃ d xs b t v, x = .ref d ∧ y = .ref b ∧ DictN P w H2 d xs ∧ CountsAt H2 b t ∧ valN xs t = some v ∧ Q v H2
def tNIn (ty td : TE) : TE := fun σ H Q => ty σ H fun y H1 => td σ H1 fun x H2 => ∃ d xs b t, x = .ref d ∧ y = .ref b ∧ DictN P w H2 d xs ∧ CountsAt H2 b t ∧ Q (.bl (valN xs t).isSome) H2
def tNNotIn (ty td : TE) : TE := fun σ H Q => ty σ H fun y H1 => td σ H1 fun x H2 => ∃ d xs b t, x = .ref d ∧ y = .ref b ∧ DictN P w H2 d xs ∧ CountsAt H2 b t ∧ Q (.bl (!(valN xs t).isSome)) H2
def sNPut (td ty tv : TE) : TS := fun D σ H => tv σ H fun v H1 => td σ H1 fun x H2 => ty σ H2 fun y H3 => ∃ d xs b t, x = .ref d ∧ y = .ref b ∧ DictN P w H3 d xs ∧ CountsAt H3 b t ∧ valN xs t = none ∧ xs.length < sizeLine ∧ D.nx σ (upd H3 d (DN P w d (xs ++ [(t, b, v)])))
def tNGet1 (td ty : TE) : TE := fun σ H Q => td σ H fun x H1 => ∃ d, x = .ref d ∧ (∃ xs, DictN P w H1 d xs) ∧ ty σ H1 fun y H2 => ∃ xs b t, y = .ref b ∧ DictN P w H2 d xs ∧ CountsAt H2 b t ∧ Q ((valN xs t).getD .non) H2
def tNGet2 (td ty tx : TE) : TE := fun σ H Q => td σ H fun x H1 => ∃ d, x = .ref d ∧ (∃ xs, DictN P w H1 d xs) ∧ ty σ H1 fun y H2 => tx σ H2 fun z H3 => ∃ xs b t, y = .ref b ∧ DictN P w H3 d xs ∧ CountsAt H3 b t ∧ Q ((valN xs t).getD z) H3
/-- {k: v} -/
def tNDisp (tk tv : TE) : TE := fun σ H Q => ∀ p, H p = none → tk σ (upd H p (DN P w p [])) fun y H1 => tv σ H1 fun v H2 => ∃ b t, y = .ref b ∧ H2 p = some (DN P w p []) ∧ CountsAt H2 b t ∧ Q (.ref p) (upd H2 p (DN P w p [(t, b, v)]))
end
section
variable {X : Cx} {P : Program} {w : World} {o i e f value : Expr} {pos pos' tpos apos cpos : Pos} {td ty tv tx tk : TE}
theorem pe_nget (hP : X.prog = P) (hw : X.w = w) (hu : X.A.units + 65 < cLine) (ho : PE X o td) (hi : PE X i ty) (hs : NoSl i) : PE X (.Subscript o i pos) (tNGet P w td ty) := by
  subst hP hw
  refine ⟨fun pn s σ H Q I h => ?_⟩
  refine subD_of PySem.F.slot_dict_getitem.lookup hs (thn (ho.run pn s σ H _ I h) fun uv s1 ⟨x, H1, I1, rx, q1⟩ => thn (hi.run pn s1 σ H1 _ I1 q1) fun kv s2 ⟨y, H2, I2, ry, d, xs, b, t, v, ex, ey, g, k, l, q2⟩ => ?_)
  subst ex ey
  obtain rfl : uv = Value.ref d := rx
  obtain rfl : kv = Value.ref b := ry
  exact ⟨n_type I2 g, n_getItem hu I2 g k l fun w' s3 I3 rw' => ⟨v, H2, I3, rw', q2⟩⟩
theorem pc_nin (hP : X.prog = P) (hw : X.w = w) (hu : X.A.units + 65 < cLine) (hi : PE X i ty) (ho : PE X o td) : PC X .In i o (tNIn P w ty td) := by
  subst hP hw
  refine ⟨fun pn s σ H Q I h => ?_⟩
  refine thn (hi.run pn s σ H _ I h) fun kv s1 ⟨y, H1, I1, ry, q1⟩ => thn (ho.run pn s1 σ H1 _ I1 q1) fun uv s2 ⟨x, H2, I2, rx, d, xs, b, t, ex, ey, g, k, q2⟩ => ?_
  subst ex ey
  obtain rfl : uv = Value.ref d := rx
  obtain rfl : kv = Value.ref b := ry
  exact n_in hu I2 g k fun s3 I3 => ⟨.bl _, H2, I3, rfl, q2⟩
theorem pc_nnotin (hP : X.prog = P) (hw : X.w = w) (hu : X.A.units + 65 < cLine) (hi : PE X i ty) (ho : PE X o td) : PC X .NotIn i o (tNNotIn P w ty td) := by
  subst hP hw
  refine ⟨fun pn s σ H Q I h => ?_⟩
  refine thn (hi.run pn s σ H _ I h) fun kv s1 ⟨y, H1, I1, ry, q1⟩ => thn (ho.run pn s1 σ H1 _ I1 q1) fun uv s2 ⟨x, H2, I2, rx, d, xs, b, t, ex, ey, g, k, q2⟩ => ?_
  subst ex ey
  obtain rfl : uv = Value.ref d := rx
  obtain rfl : kv = Value.ref b := ry
  exact n_notIn hu I2 g k fun s3 I3 => ⟨.bl _, H2, I3, rfl, q2⟩
theorem ps_nput (hP : X.prog = P) (hw : X.w = w) (hu : X.A.units + 65 < cLine) (ho : PE X o td) (hi : PE X i ty) (hv : PE X value tv) (hs : swapsWith value (some (.Subscript o i pos')) pos.line X.env = pure false) :
    PS X (.Assign [.Subscript o i pos'] value pos) (sNPut P w td ty tv) := by
  subst hP hw
  refine ⟨fun pn s σ H D I h => ?_⟩
  refine wpAny_Assign_Subscript (thn (hv.run pn s σ H _ I h) fun r s1 ⟨v, H1, I1, rv, q1⟩ => thn (ho.run pn s1 σ H1 _ I1 q1) fun uv s2 ⟨x, H2, I2, rx, q2⟩ => thn (hi.run pn s2 σ H2 _ I2 q2) fun kv s3 ⟨y, H3, I3, ry, d, xs, b, t, ex, ey, g, k, l, hz, q3⟩ => ?_) hs
  subst ex ey
  obtain rfl : uv = Value.ref d := rx
  obtain rfl : kv = Value.ref b := ry
  exact n_setItem hu I3 g k l hz rv fun s4 I4 => ⟨σ, _, I4, q3⟩
theorem n_noDict {pn : List (Addr × Obj)} {σ : L2.St} {H : Hp} {s : Shared} {d : Addr} {xs} (I : Inv X pn σ H s) (g : DictN X.prog X.w H d xs) :
    ∀ b, Value.ref d = .ref b → ∃ ob, s.heap.get? b = some ob ∧ ob.dict = none := fun b q => by
  cases q
  obtain ⟨_, _, ys, _, dd⟩ := dictN_rd I.hok g
  obtain ⟨ob, _, _, k1, k2, _⟩ := dd
  exact ⟨ob, k1, k2.2.1⟩
theorem pe_nget1 (hP : X.prog = P) (hw : X.w = w) (hu : X.A.units + 65 < cLine) (ho : PE X o td) (he : PE X e ty) (m : M1 X o "get" apos e cpos) : PE X (.Call (.Attribute o "get" apos) [e] [] cpos) (tNGet1 P w td ty) := by
  subst hP hw
  refine ⟨fun pn s σ H Q I h => ?_⟩
  refine wpAny_Call_method m.base m.few m.line PySem.F.plainAttrs_dict PySem.F.slot_dict_get PySem.F.type_dict_get (thn (ho.run pn s σ H _ I h) fun uv s1 ⟨x, H1, I1, rx, d, ex, ⟨xs0, g0⟩, q1⟩ => ?_)
  subst ex
  obtain rfl : uv = Value.ref d := rx
  refine ⟨n_type I1 g0, n_noDict I1 g0, ?_⟩
  rw [m.trees]
  refine Calls.callWith_builtin rfl (Calls.evalArgs_plain (Calls.spliced_cons (thn (he.run pn s1 σ H1 _ I1 q1) fun kv s2 ⟨y, H2, I2, ry, xs, b, t, ey, g, k, q2⟩ => Calls.spliced_nil ?_)))
  subst ey
  obtain rfl : kv = Value.ref b := ry
  exact n_get1 hu I2 g k fun w' s3 I3 rw' => ⟨_, H2, I3, rw', q2⟩
theorem pe_nget2 (hP : X.prog = P) (hw : X.w = w) (hu : X.A.units + 65 < cLine) (ho : PE X o td) (he : PE X e ty) (hf : PE X f tx) (m : M2 X o "get" apos e f cpos) : PE X (.Call (.Attribute o "get" apos) [e, f] [] cpos) (tNGet2 P w td ty tx) := by
  subst hP hw
  refine ⟨fun pn s σ H Q I h => ?_⟩
  refine wpAny_Call_method m.base m.few m.line PySem.F.plainAttrs_dict PySem.F.slot_dict_get PySem.F.type_dict_get (thn (ho.run pn s σ H _ I h) fun uv s1 ⟨x, H1, I1, rx, d, ex, ⟨xs0, g0⟩, q1⟩ => ?_)
  subst ex
  obtain rfl : uv = Value.ref d := rx
  refine ⟨n_type I1 g0, n_noDict I1 g0, ?_⟩
  rw [m.trees]
  refine Calls.callWith_builtin rfl (Calls.evalArgs_plain (Calls.spliced_cons (thn (he.run pn s1 σ H1 _ I1 q1) fun kv s2 ⟨y, H2, I2, ry, q2⟩ =>
    Calls.spliced_cons (thn (hf.run pn s2 σ H2 _ I2 q2) fun fv s3 ⟨z, H3, I3, rz, xs, b, t, ey, g, k, q3⟩ => Calls.spliced_nil ?_))))
  subst ey
  obtain rfl : kv = Value.ref b := ry
  exact n_get2 hu I3 g k rz fun w' s4 I4 rw' => ⟨_, H3, I4, rw', q3⟩
theorem pe_ndisp {k v : Expr} (hP : X.prog = P) (hw : X.w = w) (hu : X.A.units + 65 < cLine) (hk : PE X k tk) (hv : PE X v tv) : PE X (.Dict [some k] [v] pos) (tNDisp P w tk tv) := by
  subst hP hw
  refine ⟨fun pn s σ H Q I q => ?_⟩
  have hfr := I.hok.fresh (Nat.le_refl s.heap.objs.size)
  have hd0 : (s.heap.objs.size == sysModules) = false := beq_eq_false_iff_ne.mpr (Ne.symm (Nat.ne_of_lt I.big))
  have new0 : DPhi X.prog X.w s.heap.objs.size [] (s.heap.push { cls := .type "dict", data := .dict #[] }) := by
    obtain ⟨o, es, ep, h1, h2, h3, h4, _, h5⟩ := Heap.DictOfH.new (knd := nestedKind X.prog X.w) s.heap
    exact ⟨Nat.zero_le _, hd0, [], .nil, o, es, ep, h1, h2, h3, h4, h5⟩
  have I1 := I.laid (a := s.heap.objs.size) (o := DN X.prog X.w s.heap.objs.size []) (h' := s.heap.push { cls := .type "dict", data := .dict #[] }) (t' := s.toks) (fun _ _ q => Heap.get?_push_of_some _ q) (Nat.le_refl _) (dn_ok new0)
  rw [arm_eval_Dict, zip_pairTrees [some k] [v] X.env pos rfl rfl, dictDisplay_pairs (pairTrees [some k] [v] X.env pos) (by intro z; cases z) (by show 1 < 17; decide)]
  refine wpAny_bind (wpAny_standAt (wpAny_bind (wpAny_subDictH (knd := nestedKind X.prog X.w) (room_n0 hu) (by show 1 ≤ 15; decide) ?_)))
  refine pairTrees_cons_walk (thn (hk.run pn _ σ _ _ I1 (q _ hfr)) fun uv s1 ⟨y, H1, I2, ry, q1⟩ => thn (hv.run pn s1 σ H1 _ I2 q1) fun r s2 ⟨v, H2, I3, rv, b, t, ey, e, kk, q2⟩ => pairTrees_nil_walk ?_)
  subst ey
  obtain rfl : uv = Value.ref b := ry
  obtain ⟨z, hd, ys, rel, dd⟩ := dictN_rd (xs := []) I3.hok ⟨e, fun x hx => nomatch hx⟩
  cases rel
  refine ⟨[(nk t, b, r)], ⟨rfl, rfl, key_nested I3.hok kk, trivial⟩, dd, fun h' tk dd' hs => wpAny_pure ⟨.ref s.heap.objs.size, _, ?_, rfl, q2⟩⟩
  obtain ⟨o, en, ep, hq, h2, h3, h4, _, h5⟩ := dd'
  exact d_write I3 (by rw [e]; exact True.intro) hs ⟨o, hq⟩ (dn_ok ⟨by show 1 ≤ sizeLine; decide, hd, [(nk t, b, r)], .cons ⟨rfl, rfl, rv⟩ .nil, o, en, ep, hq, h2, h3, h4, h5⟩)
end
end Up

namespace Up
open PySem PySem.Spec PyProof.Rows L2 Evl

/-! ### how a house lies in the heap -/
def PairAt (H : Hp) (t : Addr) (p : Nat × Nat) : Prop := H t = some (.tup [iv p.1, iv p.2])
def svF (S : Rp11.Service) (m : Addr) : List (Str × V) := [("copies", iv S.copies), ("up", iv S.need), ("versions", iv S.versions), ("wanted", iv S.goal), ("moves", .ref m)]
def hoF (ls lc ln : Addr) : List (Str × V) := [("services", .ref ls), ("clashes", .ref lc), ("counts", .ref ln)]
def MovesAt (H : Hp) (m : Addr) (ms : List (Nat × Nat)) : Prop := ∃ ts, H m = some (.lst (rv ts)) ∧ All2 (PairAt H) ts ms
structure SvAt (A : Ad) (H : Hp) (p : Addr × Addr) (S : Rp11.Service) : Prop where
  obj : ∃ dx, H p.1 = some (.ins A.c_Service dx (svF S p.2))
  mv : MovesAt H p.2 S.moves
def ClashAt (H : Hp) (t : Addr) (c : Nat × Nat × Nat × Nat) : Prop := ∃ x y, H t = some (.tup [.ref x, .ref y]) ∧ PairAt H x (c.1, c.2.1) ∧ PairAt H y (c.2.2.1, c.2.2.2)
def ClashesAt (H : Hp) (l : Addr) (cs : List (Nat × Nat × Nat × Nat)) : Prop := ∃ ts, H l = some (.lst (rv ts)) ∧ All2 (ClashAt H) ts cs
def stF (x : Rp11.Step) : List (Str × V) := [("service", iv x.s), ("old", iv x.v), ("new", iv x.w), ("copies", iv x.k)]
def StepAt (A : Ad) (H : Hp) (p : Addr) (x : Rp11.Step) : Prop := ∃ dx, H p = some (.ins A.c_Step dx (stF x))
def StepsAt (A : Ad) (H : Hp) (l : Addr) (xs : List Rp11.Step) : Prop := ∃ ps, H l = some (.lst (rv ps)) ∧ All2 (StepAt A H) ps xs
def SvsAt (A : Ad) (H : Hp) (ls : Addr) (ss : List Rp11.Service) : Prop := ∃ sv : List (Addr × Addr), H ls = some (.lst (rv (sv.map (·.1)))) ∧ All2 (SvAt A H) sv ss
/-- what the search reads of a house -/
structure HsAt (A : Ad) (H : Hp) (ls lc : Addr) (h : Rp11.House) : Prop where
  sv : SvsAt A H ls h.services
  lc : ClashesAt H lc h.clashes
structure Lay where
  ls : Addr
  lc : Addr
  ln : Addr
  sv : List (Addr × Addr)
def Lay.lists (L : Lay) : List Addr := L.ls :: L.lc :: L.sv.map (·.2)
structure HouseAt (A : Ad) (H : Hp) (a : Addr) (L : Lay) (h : Rp11.House) : Prop where
  obj : ∃ dx, H a = some (.ins A.c_House dx (hoF L.ls L.lc L.ln))
  ls : H L.ls = some (.lst (rv (L.sv.map (·.1))))
  sv : All2 (SvAt A H) L.sv h.services
  lc : ClashesAt H L.lc h.clashes
  ct : CountsAt H L.ln h.now
  nd : L.lists.Nodup
  nds : (L.sv.map (·.1)).Nodup
theorem HouseAt.hs {A : Ad} {H : Hp} {a : Addr} {L : Lay} {h : Rp11.House} (x : HouseAt A H a L h) : HsAt A H L.ls L.lc h := ⟨⟨L.sv, x.ls, x.sv⟩, x.lc⟩

section mono
variable {A : Ad} {H H' : Hp} (e : Ex H H')
include e
theorem PairAt.mono {t p} (h : PairAt H t p) : PairAt H' t p := e _ _ h
theorem MovesAt.mono {t p} (h : MovesAt H t p) : MovesAt H' t p := h.imp fun _ q => ⟨e _ _ q.1, q.2.imp fun _ _ => PairAt.mono e⟩
theorem SvAt.mono {p S} (h : SvAt A H p S) : SvAt A H' p S := ⟨h.obj.imp fun _ => e _ _, h.mv.mono e⟩
theorem ClashAt.mono {t c} (h : ClashAt H t c) : ClashAt H' t c := by
  obtain ⟨x, y, h1, h2, h3⟩ := h
  exact ⟨x, y, e _ _ h1, h2.mono e, h3.mono e⟩
theorem ClashesAt.mono {l cs} (h : ClashesAt H l cs) : ClashesAt H' l cs := h.imp fun _ q => ⟨e _ _ q.1, q.2.imp fun _ _ => ClashAt.mono e⟩
theorem StepAt.mono {p x} (h : StepAt A H p x) : StepAt A H' p x := h.imp fun _ => e _ _
theorem StepsAt.mono {p x} (h : StepsAt A H p x) : StepsAt A H' p x := h.imp fun _ q => ⟨e _ _ q.1, q.2.imp fun _ _ => StepAt.mono e⟩
theorem SvsAt.mono {ls ss} (h : SvsAt A H ls ss) : SvsAt A H' ls ss := h.imp fun _ q => ⟨e _ _ q.1, q.2.imp fun _ _ => SvAt.mono e⟩
theorem HsAt.mono {ls lc h} (x : HsAt A H ls lc h) : HsAt A H' ls lc h := ⟨x.sv.mono e, x.lc.mono e⟩
theorem HouseAt.mono {a L h} (x : HouseAt A H a L h) : HouseAt A H' a L h :=
  ⟨x.obj.imp fun _ => e _ _, e _ _ x.ls, x.sv.imp fun _ _ => SvAt.mono e, x.lc.mono e, x.ct.mono e, x.nd, x.nds⟩
end mono

/-! ### fields -/
theorem lk_here {f : Str} {x : V} {more : List (Str × V)} : ((f, x) :: more).lookup f = some x := by
  rw [List.lookup_cons, beq_self_eq_true f]
theorem lk_past {f other : Str} {x : V} {more : List (Str × V)} (ne : (f == other) = false) : ((other, x) :: more).lookup f = more.lookup f := by
  rw [List.lookup_cons, ne]
theorem put_here {f : Str} {new x : V} {more : List (Str × V)} : putF f new ((f, x) :: more) = (f, new) :: more := if_pos rfl
theorem put_past {f other : Str} {new x : V} {more : List (Str × V)} (ne : ¬ other = f) : putF f new ((other, x) :: more) = (other, x) :: putF f new more := if_neg ne
section
variable (S : Rp11.Service) (m ls lc ln : Addr)
theorem sv_copies : (svF S m).lookup ("copies" : Str) = some (iv S.copies) := lk_here
theorem sv_up : (svF S m).lookup ("up" : Str) = some (iv S.need) := (lk_past (by decide +kernel)).trans lk_here
theorem sv_versions : (svF S m).lookup ("versions" : Str) = some (iv S.versions) := (lk_past (by decide +kernel)).trans ((lk_past (by decide +kernel)).trans lk_here)
theorem sv_wanted : (svF S m).lookup ("wanted" : Str) = some (iv S.goal) := (lk_past (by decide +kernel)).trans ((lk_past (by decide +kernel)).trans ((lk_past (by decide +kernel)).trans lk_here))
theorem sv_moves : (svF S m).lookup ("moves" : Str) = some (.ref m) := (lk_past (by decide +kernel)).trans ((lk_past (by decide +kernel)).trans ((lk_past (by decide +kernel)).trans ((lk_past (by decide +kernel)).trans lk_here)))
theorem ho_services : (hoF ls lc ln).lookup ("services" : Str) = some (.ref ls) := lk_here
theorem ho_clashes : (hoF ls lc ln).lookup ("clashes" : Str) = some (.ref lc) := (lk_past (by decide +kernel)).trans lk_here
theorem ho_counts : (hoF ls lc ln).lookup ("counts" : Str) = some (.ref ln) := (lk_past (by decide +kernel)).trans ((lk_past (by decide +kernel)).trans lk_here)
omit S m ls lc ln in
theorem st_service (x : Rp11.Step) : (stF x).lookup ("service" : Str) = some (iv x.s) := lk_here
omit S m ls lc ln in
theorem st_old (x : Rp11.Step) : (stF x).lookup ("old" : Str) = some (iv x.v) := (lk_past (by decide +kernel)).trans lk_here
omit S m ls lc ln in
theorem st_new (x : Rp11.Step) : (stF x).lookup ("new" : Str) = some (iv x.w) := (lk_past (by decide +kernel)).trans ((lk_past (by decide +kernel)).trans lk_here)
omit S m ls lc ln in
theorem st_copies (x : Rp11.Step) : (stF x).lookup ("copies" : Str) = some (iv x.k) := (lk_past (by decide +kernel)).trans ((lk_past (by decide +kernel)).trans ((lk_past (by decide +kernel)).trans lk_here))
/-- no attribute bears a method's name -/
theorem ho_no {k : Str} (h1 : (k == ("services" : Str)) = false) (h2 : (k == ("clashes" : Str)) = false) (h3 : (k == ("counts" : Str)) = false) : (hoF ls lc ln).lookup k = none :=
  (lk_past h1).trans ((lk_past h2).trans ((lk_past h3).trans rfl))
end

/-! ### readings -/
section
variable {K : PySem.W.Frag} {σ : L2.St} {H H' : Hp} {ta tb te : TE} {x y z v : V}
theorem ev_fld {a C dx : Addr} {fs : List (Str × V)} {f : Str} (ha : Ev ta σ H (.ref a)) (ho : H a = some (.ins C dx fs)) (c : Cls K C) (n : NoAttr K C f) (l : fs.lookup f = some v) : Ev (tFld K ta f) σ H v := fun H1 e Q q =>
  ha H1 e _ fun H2 e2 => ⟨a, C, dx, fs, v, rfl, (e.trans e2) _ _ ho, c, n, l, q H2 e2⟩
theorem ev_meth {a C dx : Addr} {fs : List (Str × V)} {m : Str} {sp : Sp} {E : XK} {t : TA} {vs : List V} (ha : Ev ta σ H (.ref a)) (ho : H a = some (.ins C dx fs)) (l : fs.lookup m = none) (hv : EvA t σ H vs) (hs : SpV sp (.ref a :: vs) H z) :
    Ev (tMeth C m sp [] E ta t) σ H z := fun H1 e Q q => ha H1 e _ fun H2 e2 => ⟨a, dx, fs, rfl, (e.trans e2) _ _ ho, l, hv H2 (e.trans e2) _ fun H3 e3 => by
  have := hs H3 ((e.trans e2).trans e3) Q (fun H4 e4 => q H4 ((e2.trans e3).trans e4)) E
  simpa using this⟩
end
/-! ### what evaluates to something of a kind -/
def EvP (te : TE) (σ : L2.St) (H : Hp) (R : V → Hp → Prop) : Prop := ∀ H1, Ex H H1 → ∀ Q : VK, (∀ v H2, Ex H1 H2 → R v H2 → Q v H2) → te σ H1 Q
def RetP (R : V → Hp → Prop) (H : Hp) (Q : VK) : Prop := ∀ v H2, Ex H H2 → R v H2 → Q v H2
section
variable {σ : L2.St} {H H' : Hp} {te : TE} {R : V → Hp → Prop} {D : Ends} {tz : TS}
theorem EvP.mono (e : Ex H H') (h : EvP te σ H R) : EvP te σ H' R := fun H1 a Q q => h H1 (e.trans a) Q q
theorem RetP.go {Q : VK} (k : RetP R H Q) (e : Ex H H') {v : V} {H2 : Hp} (e2 : Ex H' H2) (r : R v H2) : Q v H2 := k v H2 (e.trans e2) r
theorem ep_call {sp : Sp} {E : XK} {ta : TA} {vs : List V} (h : EvA ta σ H vs) (k : ∀ H1, Ex H H1 → ∀ Q, RetP R H1 Q → sp vs H1 Q E) : EvP (tCall sp [] E ta) σ H R := fun H1 e Q q => h H1 e _ fun H2 e2 => by
  have := k H2 (e.trans e2) Q fun v H3 e3 r => q v H3 (e2.trans e3) r
  simpa using this
theorem q_asgP {i : Nat} (h : EvP te σ H R) (k : ∀ v H1, Ex H H1 → R v H1 → tz D (σ.set i (some v)) H1) : tSeq (tAsg te (gName i)) tz D σ H := h H (Ex.refl H) _ fun v H1 e r => k v H1 e r
theorem s_retP (h : EvP te σ H R) (k : ∀ v H1, Ex H H1 → R v H1 → D.rt v H1) : tRet te D σ H := h H (Ex.refl H) _ fun v H1 e r => k v H1 e r
def isC (t : Rp11.State) : V → Hp → Prop := fun v H => ∃ p, v = .ref p ∧ CountsAt H p t
def isS (A : Ad) (x : Rp11.Step) : V → Hp → Prop := fun v H => ∃ p, v = .ref p ∧ StepAt A H p x
end
section
variable {A : Ad} {K : PySem.W.Frag} {mg : Str → Option Value} {T : Tx K mg A} {σ : L2.St} {H : Hp} {ta tb : TE} {a : Addr} {L : Lay} {h : Rp11.House}
include T
theorem ev_services (x : HouseAt A H a L h) (ha : Ev ta σ H (.ref a)) : Ev (tFld K ta "services") σ H (.ref L.ls) := ev_fld ha x.obj.choose_spec T.cl_House T.n_House_services (ho_services _ _ _)
theorem ev_clashes (x : HouseAt A H a L h) (ha : Ev ta σ H (.ref a)) : Ev (tFld K ta "clashes") σ H (.ref L.lc) := ev_fld ha x.obj.choose_spec T.cl_House T.n_House_clashes (ho_clashes _ _ _)
theorem ev_counts (x : HouseAt A H a L h) (ha : Ev ta σ H (.ref a)) : Ev (tFld K ta "counts") σ H (.ref L.ln) := ev_fld ha x.obj.choose_spec T.cl_House T.n_House_counts (ho_counts _ _ _)
theorem ev_copies {p : Addr × Addr} {S : Rp11.Service} (x : SvAt A H p S) (ha : Ev ta σ H (.ref p.1)) : Ev (tFld K ta "copies") σ H (iv S.copies) := ev_fld ha x.obj.choose_spec T.cl_Service T.n_Service_copies (sv_copies _ _)
theorem ev_up {p : Addr × Addr} {S : Rp11.Service} (x : SvAt A H p S) (ha : Ev ta σ H (.ref p.1)) : Ev (tFld K ta "up") σ H (iv S.need) := ev_fld ha x.obj.choose_spec T.cl_Service T.n_Service_up (sv_up _ _)
theorem ev_versions {p : Addr × Addr} {S : Rp11.Service} (x : SvAt A H p S) (ha : Ev ta σ H (.ref p.1)) : Ev (tFld K ta "versions") σ H (iv S.versions) := ev_fld ha x.obj.choose_spec T.cl_Service T.n_Service_versions (sv_versions _ _)
theorem ev_wanted {p : Addr × Addr} {S : Rp11.Service} (x : SvAt A H p S) (ha : Ev ta σ H (.ref p.1)) : Ev (tFld K ta "wanted") σ H (iv S.goal) := ev_fld ha x.obj.choose_spec T.cl_Service T.n_Service_wanted (sv_wanted _ _)
theorem ev_moves {p : Addr × Addr} {S : Rp11.Service} (x : SvAt A H p S) (ha : Ev ta σ H (.ref p.1)) : Ev (tFld K ta "moves") σ H (.ref p.2) := ev_fld ha x.obj.choose_spec T.cl_Service T.n_Service_moves (sv_moves _ _)
theorem ev_sservice {p : Addr} {y : Rp11.Step} (x : StepAt A H p y) (ha : Ev ta σ H (.ref p)) : Ev (tFld K ta "service") σ H (iv y.s) := ev_fld ha x.choose_spec T.cl_Step T.n_Step_service (st_service _)
theorem ev_sold {p : Addr} {y : Rp11.Step} (x : StepAt A H p y) (ha : Ev ta σ H (.ref p)) : Ev (tFld K ta "old") σ H (iv y.v) := ev_fld ha x.choose_spec T.cl_Step T.n_Step_old (st_old _)
theorem ev_snew {p : Addr} {y : Rp11.Step} (x : StepAt A H p y) (ha : Ev ta σ H (.ref p)) : Ev (tFld K ta "new") σ H (iv y.w) := ev_fld ha x.choose_spec T.cl_Step T.n_Step_new (st_new _)
theorem ev_scopies {p : Addr} {y : Rp11.Step} (x : StepAt A H p y) (ha : Ev ta σ H (.ref p)) : Ev (tFld K ta "copies") σ H (iv y.k) := ev_fld ha x.choose_spec T.cl_Step T.n_Step_copies (st_copies _)
omit T in
/-- services[s], of the list -/
theorem ev_serviceL {ls : Addr} {ss : List Rp11.Service} (x : SvsAt A H ls ss) {s : Nat} {S : Rp11.Service} (hs : ss[s]? = some S) (ha : Ev ta σ H (.ref ls)) (hb : Ev tb σ H (iv s)) :
    ∃ p, SvAt A H p S ∧ Ev (tOp (rIxL K) ta tb) σ H (.ref p.1) := by
  obtain ⟨sv, h1, h2⟩ := x
  obtain ⟨p, hp, q⟩ := h2.get hs
  refine ⟨p, q, ev_op ha hb (rv_ixL (sq_of h1) (atI_nat ?_))⟩
  simp [rv, hp]
omit T in
/-- services[s] -/
theorem ev_service (x : HouseAt A H a L h) {s : Nat} (hs : s < h.services.length) (ha : Ev ta σ H (.ref L.ls)) (hb : Ev tb σ H (iv s)) :
    ∃ p S, L.sv[s]? = some p ∧ h.services[s]? = some S ∧ SvAt A H p S ∧ Ev (tOp (rIxL K) ta tb) σ H (.ref p.1) := by
  obtain ⟨p, hp, q⟩ := x.sv.get (List.getElem?_eq_getElem hs)
  refine ⟨p, _, hp, List.getElem?_eq_getElem hs, q, ev_op ha hb (rv_ixL (sq_of x.ls) (atI_nat ?_))⟩
  simp [rv, hp]
end
end Up

namespace Up
open PySem PySem.Spec PyProof.Rows L2 Evl
section
variable {P : Program} {w : World} {K : PySem.W.Frag} {mg : Str → Option Value} {base : Heap} {A : Ad}
def sp_are_in_range : Sp := fun vs H Q _ => ∃ c n v g : Nat, vs = [iv c, iv n, iv v, iv g] ∧ RetV (.bl (decide (¬ (c = 0 ∨ 2 < c ∨ c ≤ n ∨ v = 0 ∨ 3 < v ∨ v ≤ g)))) H Q
theorem ok_are_in_range (T : Tx K mg A) : FnOk P w K mg base CX0 1 A.a_are_in_range A.d_are_in_range p_are_in_range sp_are_in_range := by
  refine T.F_are_in_range.ok sc_are_in_range (fun vs H Q E h => ?_) (fun cdv A' outer s H vs Q E hr h => ?_)
  · obtain ⟨c, n, v, g, rfl, _⟩ := h
    rfl
  · obtain ⟨c, n, v, g, rfl, k⟩ := h
    refine ⟨_, (pss_cons (ps_set (i := 4) sc_are_in_range.nd rfl (Or.inl rfl) (pe_and (pe_cmpR op_le pe_int (pv 0) (nomark _)) (pe_and (pe_cmpR op_le (pv 0) (pe_gint rfl T.g_MOST_COPIES) (nomark _)) (pe_one (pe_cmpR op_lt (pv 1) (pv 0) (nomark _))))))
      (pss_cons (ps_set (i := 5) sc_are_in_range.nd rfl (Or.inl rfl) (pe_and (pe_cmpR op_le pe_int (pv 2) (nomark _)) (pe_and (pe_cmpR op_le (pv 2) (pe_gint rfl T.g_MOST_VERSIONS) (nomark _)) (pe_one (pe_cmpR op_lt (pv 3) (pv 2) (nomark _))))))
      (pss_one (ps_ret (pe_and (pv 4) (pe_one (pv 5))))))), ?_⟩
    refine q_asg (ev_andV (ev_op ev_c (ev_var rfl) rv_I0) fun _ => ev_andV (ev_op (ev_var rfl) ev_c rv_I0) fun _ => ev_op (ev_var rfl) (ev_var rfl) rv_I0) fun H1 e1 => ?_
    refine q_asg (ev_andV (ev_op ev_c (ev_var rfl) rv_I0) fun _ => ev_andV (ev_op (ev_var rfl) ev_c rv_I0) fun _ => ev_op (ev_var rfl) (ev_var rfl) rv_I0) fun H2 e2 => ?_
    refine s_ret (ev_andV (ev_var rfl) fun _ => ev_var rfl) fun H3 e3 => ?_
    refine cast ?_ (k H3 ((e1.trans e2).trans e3))
    congr 2
    rw [Bool.eq_iff_iff]
    simp only [Bool.and_eq_true, decide_eq_true_eq]
    omega

def hasVersion (h : Rp11.House) (s v : Nat) : Prop := s < h.services.length ∧ v < (h.services.getD s noService).versions
instance (h : Rp11.House) (s v : Nat) : Decidable (hasVersion h s v) := inferInstanceAs (Decidable (_ ∧ _))
def sp_House_has_version (A : Ad) : Sp := fun vs H Q _ => ∃ (a : Addr) (L : Lay) (h : Rp11.House) (s v : Nat), vs = [.ref a, iv s, iv v] ∧ HouseAt A H a L h ∧ RetV (.bl (decide (hasVersion h s v))) H Q
theorem ok_House_has_version (T : Tx K mg A) : FnOk P w K mg base CX0 1 A.a_House_has_version A.d_House_has_version p_House_has_version (sp_House_has_version A) := by
  refine T.F_House_has_version.ok sc_House_has_version (fun vs H Q E h => ?_) (fun cdv A' outer s H vs Q E hr h => ?_)
  · obtain ⟨a, L, h, s, v, rfl, _⟩ := h
    rfl
  · obtain ⟨a, L, h, s, v, rfl, x, k⟩ := h
    refine ⟨_, (pss_one (ps_ret (pe_and (pe_cmpR op_lt (pv 1) (pe_callB call_len_seq (by rfl) T.b_len PySem.boot_len (pa_cons (pe_fld (pv 0) rfl) pa_nil)) (nomark _)) (pe_one (pe_cmpR op_lt (pv 2) (pe_fld (pe_ix ix_list (pe_fld (pv 0) rfl) (pv 1) (fun _ _ => rfl)) rfl) (nomark _)))))), ?_⟩
    by_cases hs : s < h.services.length
    · obtain ⟨p, S, hp, hS, xS, ev⟩ := ev_service (K := K) x hs (ev_services (T := T) (ta := tVar 0) (σ := start N_House_has_version [.ref a, iv s, iv v]) x (ev_var rfl)) (tb := tVar 1) (ev_var rfl)
      refine s_ret (ev_andV (ev_op (ev_var rfl) (ev_len (ev_services (T := T) x (ev_var rfl)) (sq_of x.ls)) rv_I0) fun _ => ev_op (ev_var rfl) (ev_versions (T := T) xS ev) rv_I0) fun H1 e1 => ?_
      refine cast ?_ (k H1 e1)
      congr 2
      rw [Bool.eq_iff_iff]
      have hl := x.sv.length
      simp only [Bool.and_eq_true, decide_eq_true_eq, hasVersion, rv, List.length_map, List.getD_eq_getElem?_getD, hS, Option.getD_some]
      omega
    · have hl := x.sv.length
      refine s_ret (v := .bl false) (ev_is (ev_andV (b := false) (ev_op (ev_var rfl) (ev_len (ev_services (T := T) x (ev_var rfl)) (sq_of x.ls)) rv_I0) fun q => ?_) ?_) fun H1 e1 => ?_
      · exfalso
        simp only [decide_eq_true_eq, rv, List.length_map] at q
        omega
      · rw [Bool.and_false]
      · refine cast ?_ (k H1 e1)
        congr 2
        rw [decide_eq_false]
        exact fun q => hs q.1

def sp_is_there : Sp := fun vs H Q _ => ∃ (l c : Addr) (t : Rp11.State) (s v : Nat) (r : List Nat), vs = [.ref l, .ref c] ∧ CountsAt H l t ∧ PairAt H c (s, v) ∧ t[s]? = some r ∧ v < r.length ∧
  RetV (.bl (decide (0 < Rp11.count t s v))) H Q
theorem count_of {t : Rp11.State} {s v : Nat} {r : List Nat} (h : t[s]? = some r) : Rp11.count t s v = r.getD v 0 := by
  unfold Rp11.count
  have e : t.getD s [] = r := by simp [List.getD_eq_getElem?_getD, h]
  rw [e]
theorem ivs_get {r : List Nat} {v : Nat} (h : v < r.length) : (ivs r)[v]? = some (iv (r.getD v 0)) := by
  simp [ivs, List.getD_eq_getElem?_getD, List.getElem?_eq_getElem h]
/-- counts[s][v] -/
theorem ev_count {σ : L2.St} {H : Hp} {tc ts tv : TE} {l : Addr} {t : Rp11.State} {s v : Nat} {r : List Nat} (x : CountsAt H l t) (h1 : t[s]? = some r) (hv : v < r.length) (hc : Ev tc σ H (.ref l)) (hs : Ev ts σ H (iv s)) (hv' : Ev tv σ H (iv v)) :
    Ev (tOp (rIxT K) (tOp (rIxT K) tc ts) tv) σ H (iv (r.getD v 0)) := by
  obtain ⟨rows, x1, x2⟩ := x
  obtain ⟨b, hb, xb⟩ := x2.get h1
  exact ev_op (ev_op hc hs (rv_ixT (st_of x1) (atI_nat (v := .ref b) (rv_get hb)))) hv' (rv_ixT (st_of xb) (atI_nat (ivs_get hv)))
theorem ok_is_there (T : Tx K mg A) : FnOk P w K mg base CX0 1 A.a_is_there A.d_is_there p_is_there sp_is_there := by
  refine T.F_is_there.ok sc_is_there (fun vs H Q E h => ?_) (fun cdv A' outer s H vs Q E hr h => ?_)
  · obtain ⟨l, c, t, s, v, r, rfl, _⟩ := h
    rfl
  · obtain ⟨l, c, t, s, v, r, rfl, x, hc, hr1, hv, k⟩ := h
    refine ⟨_, (pss_one (ps_ret (pe_cmpR op_gt (pe_ix ix_tup (pe_ix ix_tup (pv 0) (pe_ix ix_tup (pv 1) pe_int (fun _ _ => rfl)) (fun _ _ => rfl)) (pe_ix ix_tup (pv 1) pe_int (fun _ _ => rfl)) (fun _ _ => rfl)) pe_int (nomark _)))), ?_⟩
    refine s_ret (ev_op (ev_count x hr1 hv (ev_var rfl) (ev_op (ev_var rfl) ev_c (rv_ixT (st_of hc) (atI_nat (j := 0) rfl))) (ev_op (ev_var rfl) ev_c (rv_ixT (st_of hc) (atI_nat (j := 1) rfl)))) ev_c rv_I0) fun H1 e1 => ?_
    refine cast ?_ (k H1 e1)
    congr 2
    rw [Bool.eq_iff_iff, count_of hr1]
    simp only [decide_eq_true_eq]
    omega
/-! ### pairs as data -/
def pairD (p : Nat × Nat) : PyData := .tuple [.int p.1, .int p.2]
def clashD (c : Nat × Nat × Nat × Nat) : PyData := .tuple [pairD (c.1, c.2.1), pairD (c.2.2.1, c.2.2.2)]
theorem PairAt.dp {H : Hp} {t : Addr} {p : Nat × Nat} (h : PairAt H t p) : Dp K H (.ref t) (pairD p) := .tup (st_of h) (.cons (.int _) (.cons (.int _) .nil))
theorem ClashAt.dp {H : Hp} {t : Addr} {c : Nat × Nat × Nat × Nat} (h : ClashAt H t c) : Dp K H (.ref t) (clashD c) := by
  obtain ⟨x, y, h1, h2, h3⟩ := h
  exact .tup (st_of h1) (.cons h2.dp (.cons h3.dp .nil))
theorem dpAll {α : Type} {R : Addr → α → Prop} {f : α → PyData} {H : Hp} (hR : ∀ t a, R t a → Dp K H (.ref t) (f a)) : ∀ {ts : List Addr} {l : List α}, All2 R ts l → DpAll K H (rv ts) (l.map f)
  | _, _, .nil => .nil
  | _, _, .cons r t => .cons (hR _ _ r) (dpAll hR t)
theorem pairD_lay (p : Nat × Nat) : (pairD p).canLay0 = true := by simp [pairD, PyData.canLay0, PyData.canLayAll0]
theorem pairD_depth (p : Nat × Nat) : (pairD p).depth = 1 := by simp [pairD, PyData.depth, PyData.depthAll]
theorem clashD_lay (c : Nat × Nat × Nat × Nat) : (clashD c).canLay0 = true := by simp [clashD, pairD, PyData.canLay0, PyData.canLayAll0]
theorem clashD_depth (c : Nat × Nat × Nat × Nat) : (clashD c).depth = 2 := by simp [clashD, pairD, PyData.depth, PyData.depthAll]
theorem lay_all {α : Type} {f : α → PyData} (h : ∀ a, (f a).canLay0 = true) : ∀ l : List α, PyData.canLayAll0 (l.map f) = true
  | [] => by simp [PyData.canLayAll0]
  | z :: zs => by simp [PyData.canLayAll0, h z, lay_all h zs]
theorem depth_all {α : Type} {f : α → PyData} {n : Nat} (h : ∀ a, (f a).depth ≤ n) : ∀ l : List α, PyData.depthAll (l.map f) ≤ n
  | [] => by simp [PyData.depthAll]
  | z :: zs => by
    have h1 := depth_all h zs
    have h2 := h z
    simp only [List.map_cons, PyData.depthAll]
    omega
theorem shaped_of {d : PyData} (h : d.canLay0 = true) (h2 : d.depth ≤ 64) : SeqAt.shaped d = true := by
  show (d.canLay0 && decide (d.depth ≤ 64)) = true
  rw [Bool.and_eq_true]
  exact ⟨h, decide_eq_true h2⟩
theorem shaped_list {α : Type} {f : α → PyData} {n : Nat} (h : ∀ a, (f a).canLay0 = true) (h2 : ∀ a, (f a).depth ≤ n) (hn : n ≤ 62) (l : List α) : SeqAt.shaped (.list (l.map f)) = true := by
  refine shaped_of (by simp only [PyData.canLay0]; exact lay_all h l) ?_
  have := depth_all h2 l
  simp only [PyData.depth]
  omega
theorem pairD_shaped (p : Nat × Nat) : SeqAt.shaped (pairD p) = true := shaped_of (pairD_lay p) (by rw [pairD_depth]; decide)
theorem clashD_shaped (c : Nat × Nat × Nat × Nat) : SeqAt.shaped (clashD c) = true := shaped_of (clashD_lay c) (by rw [clashD_depth]; decide)
theorem pairsD_shaped (l : List (Nat × Nat)) : SeqAt.shaped (.list (l.map pairD)) = true := shaped_list (n := 1) pairD_lay (fun a => by rw [pairD_depth]; exact Nat.le_refl _) (by decide) l
theorem clashesD_shaped (l : List (Nat × Nat × Nat × Nat)) : SeqAt.shaped (.list (l.map clashD)) = true := shaped_list (n := 2) clashD_lay (fun a => by rw [clashD_depth]; exact Nat.le_refl _) (by decide) l
theorem beq_nat (a b : Nat) : ((a : Int) == (b : Int)) = decide (a = b) := by
  rw [Bool.eq_iff_iff, beq_iff_eq, decide_eq_true_eq]
  omega
theorem pairD_eqv (p q : Nat × Nat) : PyData.eqv (pairD p) (pairD q) = decide (p = q) := by
  have e : PyData.eqv (pairD p) (pairD q) = (((p.1 : Int) == (q.1 : Int)) && (((p.2 : Int) == (q.2 : Int)) && true)) := by simp only [pairD, PyData.eqv, PyData.eqvAll]
  rw [e, beq_nat, beq_nat, Bool.eq_iff_iff]
  simp only [Bool.and_true, Bool.and_eq_true, decide_eq_true_eq]
  exact ⟨fun h => Prod.ext h.1 h.2, fun h => by rw [h]; exact ⟨rfl, rfl⟩⟩
theorem clashD_eqv (p q : Nat × Nat × Nat × Nat) : PyData.eqv (clashD p) (clashD q) = decide (p = q) := by
  have e : PyData.eqv (clashD p) (clashD q) = (PyData.eqv (pairD (p.1, p.2.1)) (pairD (q.1, q.2.1)) && (PyData.eqv (pairD (p.2.2.1, p.2.2.2)) (pairD (q.2.2.1, q.2.2.2)) && true)) := by simp only [clashD, pairD, PyData.eqv, PyData.eqvAll]
  rw [e, pairD_eqv, pairD_eqv, Bool.eq_iff_iff]
  simp only [Bool.and_true, Bool.and_eq_true, decide_eq_true_eq, Prod.mk.injEq]
  exact ⟨fun h => Prod.ext h.1.1 (Prod.ext h.1.2 (Prod.ext h.2.1 h.2.2)), fun h => by rw [h]; exact ⟨⟨rfl, rfl⟩, rfl, rfl⟩⟩
theorem any_eqv {α : Type} [DecidableEq α] {f : α → PyData} (h : ∀ p q, PyData.eqv (f p) (f q) = decide (p = q)) (l : List α) (m : α) [Decidable (m ∈ l)] : (l.map f).any (fun z => PyData.eqv z (f m)) = decide (m ∈ l) := by
  rw [Bool.eq_iff_iff, List.any_eq_true, decide_eq_true_eq]
  constructor
  · rintro ⟨z, hz, e⟩
    obtain ⟨a, ha, rfl⟩ := List.mem_map.1 hz
    rw [h, decide_eq_true_eq] at e
    exact e ▸ ha
  · intro hm
    exact ⟨f m, List.mem_map.2 ⟨m, hm, rfl⟩, by rw [h]; simp⟩
/-- m in a list of pairs -/
theorem rv_inP {H : Hp} {t l : Addr} {m : Nat × Nat} {ms : List (Nat × Nat)} (ht : PairAt H t m) (hl : MovesAt H l ms) : RV (rInD K) (.ref t) (.ref l) H (.bl (decide (m ∈ ms))) := fun H1 e Q q => by
  obtain ⟨ts, h1, h2⟩ := hl.mono e
  refine ⟨pairD m, ms.map pairD, (ht.mono e).dp, .lst (sq_of h1) (dpAll (f := pairD) (fun _ _ h => h.dp) h2), pairD_shaped _, pairsD_shaped _, ?_⟩
  rw [any_eqv pairD_eqv]
  exact q H1 (Ex.refl H1)
theorem rv_ninP {H : Hp} {t l : Addr} {m : Nat × Nat} {ms : List (Nat × Nat)} (ht : PairAt H t m) (hl : MovesAt H l ms) : RV (rNotInD K) (.ref t) (.ref l) H (.bl (!decide (m ∈ ms))) := fun H1 e Q q => by
  obtain ⟨ts, h1, h2⟩ := hl.mono e
  refine ⟨pairD m, ms.map pairD, (ht.mono e).dp, .lst (sq_of h1) (dpAll (f := pairD) (fun _ _ h => h.dp) h2), pairD_shaped _, pairsD_shaped _, ?_⟩
  rw [any_eqv pairD_eqv]
  exact q H1 (Ex.refl H1)
theorem rv_inC {H : Hp} {t l : Addr} {m : Nat × Nat × Nat × Nat} {ms : List (Nat × Nat × Nat × Nat)} (ht : ClashAt H t m) (hl : ClashesAt H l ms) : RV (rInD K) (.ref t) (.ref l) H (.bl (decide (m ∈ ms))) := fun H1 e Q q => by
  obtain ⟨ts, h1, h2⟩ := hl.mono e
  refine ⟨clashD m, ms.map clashD, (ht.mono e).dp, .lst (sq_of h1) (dpAll (f := clashD) (fun _ _ h => h.dp) h2), clashD_shaped _, clashesD_shaped _, ?_⟩
  rw [any_eqv clashD_eqv]
  exact q H1 (Ex.refl H1)
theorem rv_eqP {H : Hp} {t l : Addr} {m n : Nat × Nat} (ht : PairAt H t m) (hl : PairAt H l n) : RV (rEqD K) (.ref t) (.ref l) H (.bl (decide (m = n))) := fun H1 e Q q => by
  refine ⟨pairD m, pairD n, (ht.mono e).dp, (hl.mono e).dp, pairD_shaped _, pairD_shaped _, ?_⟩
  rw [pairD_eqv]
  exact q H1 (Ex.refl H1)
/-- the first operand a new tuple -/
theorem ev_opU1 {σ : L2.St} {H : Hp} {ta tb : TE} {r : R2} {y z : V} {xs : List V} (ha : EvU ta σ H xs) (hb : Ev tb σ H y) (hr : ∀ p H1, H1 p = some (.tup xs) → Ex H H1 → RV r (.ref p) y H1 z) : Ev (tOp r ta tb) σ H z := fun H1 e Q q =>
  ha H1 e _ fun p H2 _ e2 hp => hb H2 (e.trans e2) _ fun H3 e3 => hr p H3 (e3 p _ hp) ((e.trans e2).trans e3) H3 (Ex.refl H3) Q fun H4 e4 => q H4 ((e2.trans e3).trans e4)

def sp_House_has_clash (A : Ad) : Sp := fun vs H Q _ => ∃ (a : Addr) (L : Lay) (h : Rp11.House) (x y : Addr) (p q : Nat × Nat), vs = [.ref a, .ref x, .ref y] ∧ HouseAt A H a L h ∧ PairAt H x p ∧ PairAt H y q ∧
  RetV (.bl (decide ((p.1, p.2, q.1, q.2) ∈ h.clashes ∨ (q.1, q.2, p.1, p.2) ∈ h.clashes))) H Q
theorem ok_House_has_clash (T : Tx K mg A) : FnOk P w K mg base CX0 1 A.a_House_has_clash A.d_House_has_clash p_House_has_clash (sp_House_has_clash A) := by
  refine T.F_House_has_clash.ok sc_House_has_clash (fun vs H Q E h => ?_) (fun cdv A' outer s H vs Q E hr h => ?_)
  · obtain ⟨a, L, h, x, y, p, q, rfl, _⟩ := h
    rfl
  · obtain ⟨a, L, h, x, y, p, q, rfl, X, hx, hy, k⟩ := h
    refine ⟨_, (pss_one (ps_ret (pe_or (pe_cmpR (op_inD (hu65 hr)) (pe_tup (pa_cons (pv 1) (pa_cons (pv 2) pa_nil))) (pe_fld (pv 0) rfl) (by rfl)) (pe_one (pe_cmpR (op_inD (hu65 hr)) (pe_tup (pa_cons (pv 2) (pa_cons (pv 1) pa_nil))) (pe_fld (pv 0) rfl) (by rfl)))))), ?_⟩
    refine s_ret (ev_orV (ev_opU1 (eu_tup (ea_cons (ev_var rfl) (ea_cons (ev_var rfl) ea_nil)) (by show 2 ≤ 100000; decide)) (ev_clashes (T := T) X (ev_var rfl)) fun t H1 ht e1 => rv_inC (m := (p.1, p.2, q.1, q.2)) ⟨x, y, ht, hx.mono e1, hy.mono e1⟩ (X.lc.mono e1))
      fun _ => ev_opU1 (eu_tup (ea_cons (ev_var rfl) (ea_cons (ev_var rfl) ea_nil)) (by show 2 ≤ 100000; decide)) (ev_clashes (T := T) X (ev_var rfl)) fun t H1 ht e1 => rv_inC (m := (q.1, q.2, p.1, p.2)) ⟨y, x, ht, hy.mono e1, hx.mono e1⟩ (X.lc.mono e1)) fun H1 e1 => ?_
    refine cast ?_ (k H1 e1)
    congr 2
    rw [Bool.eq_iff_iff]
    simp only [Bool.or_eq_true, decide_eq_true_eq]
/-! ### the house as the specification has it: its moves in order -/
def sortMoves (l : List (Nat × Nat)) : List (Nat × Nat) := l.foldl (fun acc m => Rp11.putMove m acc) []
def absS (S : Rp11.Service) : Rp11.Service := { S with moves := sortMoves S.moves }
def absH (h : Rp11.House) : Rp11.House := { h with services := h.services.map absS }
theorem sort_snoc (l : List (Nat × Nat)) (m : Nat × Nat) : sortMoves (l ++ [m]) = Rp11.putMove m (sortMoves l) := by
  unfold sortMoves
  rw [List.foldl_append]
  rfl
theorem mem_sort_aux : ∀ (l acc : List (Nat × Nat)) (n : Nat × Nat), n ∈ l.foldl (fun acc m => Rp11.putMove m acc) acc ↔ n ∈ acc ∨ n ∈ l
  | [], acc, n => by simp
  | m :: l, acc, n => by
    rw [List.foldl_cons, mem_sort_aux l, putMove_mem, List.mem_cons]
    constructor
    · rintro ((h | h) | h)
      · exact .inr (.inl h)
      · exact .inl h
      · exact .inr (.inr h)
    · rintro (h | h | h)
      · exact .inl (.inr h)
      · exact .inl (.inl h)
      · exact .inr h
theorem mem_sort (l : List (Nat × Nat)) (n : Nat × Nat) : n ∈ sortMoves l ↔ n ∈ l := by
  unfold sortMoves
  rw [mem_sort_aux]
  simp
theorem len_sort_aux : ∀ (l acc : List (Nat × Nat)), (l.foldl (fun acc m => Rp11.putMove m acc) acc).length = acc.length + l.length
  | [], acc => rfl
  | m :: l, acc => by
    rw [List.foldl_cons, len_sort_aux l, putMove_length, List.length_cons]
    omega
theorem len_sort (l : List (Nat × Nat)) : (sortMoves l).length = l.length := by
  unfold sortMoves
  rw [len_sort_aux]
  simp
theorem contains_sort [BEq (Nat × Nat)] [LawfulBEq (Nat × Nat)] (l : List (Nat × Nat)) (n : Nat × Nat) : (sortMoves l).contains n = l.contains n := by
  rw [Bool.eq_iff_iff, List.contains_iff_mem, List.contains_iff_mem, mem_sort]
theorem abs_len (h : Rp11.House) : (absH h).services.length = h.services.length := List.length_map _
theorem abs_at (h : Rp11.House) (s : Nat) : (absH h).at_ s = absS (h.at_ s) := by
  show (h.services.map absS).getD s _ = absS (h.services.getD s _)
  simp only [List.getD_eq_getElem?_getD, List.getElem?_map]
  cases h.services[s]? <;> rfl
theorem at_of_get {h : Rp11.House} {s : Nat} {S : Rp11.Service} (e : h.services[s]? = some S) : h.at_ s = S := by
  show h.services.getD s _ = S
  rw [List.getD_eq_getElem?_getD, e]
  rfl
theorem abs_can (h : Rp11.House) (t : Rp11.State) (x : Rp11.Step) : (absH h).can t x = h.can t x := by
  unfold Rp11.House.can
  rw [abs_len, abs_at]
  simp only [absS]
  rw [contains_sort]
  rfl
theorem abs_safe (h : Rp11.House) (t u : Rp11.State) : (absH h).safe t u = h.safe t u := rfl
theorem abs_may (h : Rp11.House) (t : Rp11.State) (x : Rp11.Step) : (absH h).may t x = h.may t x := by
  unfold Rp11.House.may
  rw [abs_can, abs_safe]
/-- what the form of the house says of a service -/
structure Got (h : Rp11.House) (t : Rp11.State) (s : Nat) (S : Rp11.Service) (r : List Nat) : Prop where
  at_ : h.services[s]? = some S
  row : t[s]? = some r
  len : r.length = S.versions
  c1 : 1 ≤ S.copies
  c2 : S.copies ≤ 2
  v1 : 1 ≤ S.versions
  v3 : S.versions ≤ 3
  nd : S.need < S.copies
  gl : S.goal < S.versions
  mv : ∀ m ∈ S.moves, m.1 < S.versions ∧ m.2 < S.versions ∧ m.1 ≠ m.2
theorem got {h : Rp11.House} {t : Rp11.State} (hw : ∀ S ∈ (absH h).services, WFS S) (ht : Shape (absH h).services t) {s : Nat} (hs : s < h.services.length) : ∃ S r, Got h t s S r := by
  have hl := ht.length
  rw [abs_len] at hl
  have e1 : h.services[s]? = some h.services[s] := List.getElem?_eq_getElem hs
  have e2 : t[s]? = some t[s] := List.getElem?_eq_getElem (by omega)
  have hr := (ht.row s (by rw [abs_len]; exact hs)).1
  have e3 : (absH h).services.getD s noService = absS h.services[s] := by
    show (h.services.map absS).getD s noService = _
    rw [List.getD_eq_getElem?_getD, List.getElem?_map, e1]
    rfl
  rw [List.getD_eq_getElem?_getD, e2, e3] at hr
  have hW : WFS (absS h.services[s]) := hw _ (List.mem_map.2 ⟨_, List.getElem_mem hs, rfl⟩)
  exact ⟨_, _, e1, e2, hr, hW.c1, hW.c2, hW.v1, hW.v3, hW.nd, hW.gl, fun m hm => hW.mv m ((mem_sort _ _).2 hm)⟩
theorem Shape_abs_len {h : Rp11.House} {t : Rp11.State} (ht : Shape (absH h).services t) : t.length = h.services.length := by
  rw [ht.length, abs_len]

def sp_can_be_done (A : Ad) : Sp := fun vs H Q _ => ∃ (ls l p : Addr) (h : Rp11.House) (t : Rp11.State) (x : Rp11.Step), vs = [.ref ls, .ref l, .ref p] ∧ SvsAt A H ls h.services ∧ CountsAt H l t ∧ StepAt A H p x ∧ (∀ S ∈ (absH h).services, WFS S) ∧ Shape (absH h).services t ∧
  RetV (.bl (h.can t x)) H Q
theorem ok_can_be_done (T : Tx K mg A) : FnOk P w K mg base CX0 1 A.a_can_be_done A.d_can_be_done p_can_be_done (sp_can_be_done A) := by
  refine T.F_can_be_done.ok sc_can_be_done (fun vs H Q E h => ?_) (fun cdv A' outer s H vs Q E hr h => ?_)
  · obtain ⟨ls, l, p, h, t, x, rfl, _⟩ := h
    rfl
  · obtain ⟨ls, l, p, h, t, x, rfl, xs, xc, xp, hw, hsh, hk⟩ := h
    refine ⟨_, (pss_cons (ps_if (PW.pt (pw_or (pt_cmpR op_ge (pe_fld (pv 2) rfl) (pe_callB call_len_seq (by rfl) T.b_len PySem.boot_len (pa_cons (pv 0) pa_nil)) (nomark _)) (pw_or1 (pt_cmpR op_eq (pe_fld (pv 2) rfl) pe_int (nomark _))))) (pss_one (ps_ret pe_bl)) pss_nil)
      (pss_cons (ps_set (i := 3) sc_can_be_done.nd rfl (Or.inl rfl) (pe_ix ix_list (pv 0) (pe_fld (pv 2) rfl) (fun _ _ => rfl)))
      (pss_cons (ps_if (pt_cmpR (op_notInD (hu65 hr)) (pe_tup (pa_cons (pe_fld (pv 2) rfl) (pa_cons (pe_fld (pv 2) rfl) pa_nil))) (pe_fld (pv 3) rfl) (by rfl)) (pss_one (ps_ret pe_bl)) pss_nil)
      (pss_one (ps_ret (pe_and (pe_cmpR op_le (pe_fld (pv 2) rfl) (pe_ix ix_tup (pe_ix ix_tup (pv 1) (pe_fld (pv 2) rfl) (fun _ _ => rfl)) (pe_fld (pv 2) rfl) (fun _ _ => rfl)) (nomark _)) (pe_one (pe_cmpR op_le (pe_op op_add (pe_fld (pv 3) rfl) (pe_fld (pv 2) rfl)) (pe_fld (pv 3) rfl) (nomark _))))))))), ?_⟩
    obtain ⟨sv, xl, xsv⟩ := id xs
    have hl := xsv.length
    refine q_when (et_or (et_test (ev_op (ev_sservice (T := T) xp (ev_var rfl)) (ev_len (ev_var rfl) (sq_of xl)) rv_I0)) fun _ => et_test (ev_op (ev_scopies (T := T) xp (ev_var rfl)) ev_c (rv_eq rfl))) (fun hb H1 e1 => ?_) (fun hb H1 e1 => ?_)
    · refine s_ret ev_c fun H2 e2 => ?_
      refine cast ?_ (hk H2 (e1.trans e2))
      congr 2
      cases hc : h.can t x with
      | false => rfl
      | true =>
        obtain ⟨q1, q2, q3, q4, q5⟩ := can_of hc
        simp only [Bool.or_eq_true, decide_eq_true_eq, rv, List.length_map, iv, V.int.injEq] at hb q1 q3
        omega
    · simp only [Bool.or_eq_false_iff, decide_eq_false_iff_not, rv, List.length_map, iv, V.int.injEq] at hb
      have hs : x.s < h.services.length := by omega
      obtain ⟨S, r, G⟩ := got (t := t) hw hsh hs
      have hat := at_of_get G.at_
      obtain ⟨p1, xS, ev⟩ := ev_serviceL (K := K) (σ := start N_can_be_done [.ref ls, .ref l, .ref p]) (xs.mono e1) G.at_ (ta := tVar 0) (ev_var rfl) (ev_sservice (T := T) (xp.mono e1) (ta := tVar 2) (ev_var rfl))
      refine q_asg ev fun H2 e2 => ?_
      have xS2 := xS.mono e2
      have xp2 := xp.mono (e1.trans e2)
      refine q_when (et_test (ev_opU1 (eu_tup (ea_cons (ev_sold (T := T) xp2 (ev_var rfl)) (ea_cons (ev_snew (T := T) xp2 (ev_var rfl)) ea_nil)) (by show 2 ≤ 100000; decide)) (ev_moves (T := T) xS2 (ev_var rfl)) fun t H3 ht e3 => rv_ninP (m := (x.v, x.w)) ht (xS2.mv.mono e3))) (fun hb2 H3 e3 => ?_) (fun hb2 H3 e3 => ?_)
      · refine s_ret ev_c fun H4 e4 => ?_
        refine cast ?_ (hk H4 (((e1.trans e2).trans e3).trans e4))
        congr 2
        cases hc : h.can t x with
        | false => rfl
        | true =>
          obtain ⟨q1, q2, q3, q4, q5⟩ := can_of hc
          rw [hat] at q2
          simp only [Bool.not_eq_true', decide_eq_false_iff_not] at hb2
          exact absurd q2 hb2
      · simp only [Bool.not_eq_false', decide_eq_true_eq] at hb2
        have hv : x.v < r.length := by
          rw [G.len]
          exact (G.mv _ hb2).1
        have xS3 := xS2.mono e3
        have xp3 := xp2.mono e3
        have xc3 := xc.mono ((e1.trans e2).trans e3)
        refine s_ret (ev_andV (ev_op (ev_scopies (T := T) xp3 (ev_var rfl)) (ev_count xc3 G.row hv (ev_var rfl) (ev_sservice (T := T) xp3 (ev_var rfl)) (ev_sold (T := T) xp3 (ev_var rfl))) rv_I0)
          fun _ => ev_op (ev_op (ev_up (T := T) xS3 (ev_var rfl)) (ev_scopies (T := T) xp3 (ev_var rfl)) rv_I0) (ev_copies (T := T) xS3 (ev_var rfl)) rv_I0) fun H4 e4 => ?_
        refine cast ?_ (hk H4 (((e1.trans e2).trans e3).trans e4))
        congr 2
        rw [Bool.eq_iff_iff]
        have hcount := count_of (v := x.v) G.row
        unfold Rp11.House.can
        simp only [Bool.and_eq_true, decide_eq_true_eq, hat, List.contains_iff_mem, hcount]
        constructor
        · rintro ⟨-, -, -, q4, q5⟩
          exact ⟨by omega, by omega⟩
        · rintro ⟨q4, q5⟩
          exact ⟨hs, hb2, by omega, by omega, by omega⟩

/-- a place of a state that is asked -/
def Inside (t : Rp11.State) (s v : Nat) : Prop := ∃ r, t[s]? = some r ∧ v < r.length
theorem sp_there {H : Hp} {l c : Addr} {t : Rp11.State} {s v : Nat} (x : CountsAt H l t) (hc : PairAt H c (s, v)) (hi : Inside t s v) : SpV sp_is_there [.ref l, .ref c] H (.bl (decide (0 < Rp11.count t s v))) := fun H1 e Q q E => by
  obtain ⟨r, h1, h2⟩ := hi
  exact ⟨l, c, t, s, v, r, rfl, x.mono e, hc.mono e, h1, h2, q⟩
end
end Up

namespace Up
open PySem PySem.Spec PyProof.Rows L2 Evl
section
variable {P : Program} {w : World} {K : PySem.W.Frag} {mg : Str → Option Value} {base : Heap} {A : Ad}
/-- both versions of a clash are there, before or behind -/
def clashing (t u : Rp11.State) (c : Nat × Nat × Nat × Nat) : Bool :=
  (decide (0 < Rp11.count t c.1 c.2.1) || decide (0 < Rp11.count u c.1 c.2.1)) && (decide (0 < Rp11.count t c.2.2.1 c.2.2.2) || decide (0 < Rp11.count u c.2.2.1 c.2.2.2))
theorem safe_eq (h : Rp11.House) (t u : Rp11.State) : h.safe t u = h.clashes.all fun c => !clashing t u c := rfl
def InsideC (t : Rp11.State) (c : Nat × Nat × Nat × Nat) : Prop := Inside t c.1 c.2.1 ∧ Inside t c.2.2.1 c.2.2.2
def sp_has_clash_between (A : Ad) : Sp := fun vs H Q _ => ∃ (lc : Addr) (h : Rp11.House) (l1 l2 : Addr) (t u : Rp11.State), vs = [.ref lc, .ref l1, .ref l2] ∧ ClashesAt H lc h.clashes ∧ CountsAt H l1 t ∧ CountsAt H l2 u ∧
  (∀ c ∈ h.clashes, InsideC t c ∧ InsideC u c) ∧ RetV (.bl (!h.safe t u)) H Q
theorem ok_has_clash_between (T : Tx K mg A) (G_is_there : FnOk P w K mg base CX0 1 A.a_is_there A.d_is_there p_is_there sp_is_there) :
    FnOk P w K mg base CX0 2 A.a_has_clash_between A.d_has_clash_between p_has_clash_between (sp_has_clash_between A) := by
  refine T.F_has_clash_between.ok sc_has_clash_between (fun vs H Q E h => ?_) (fun cdv A' outer s H vs Q E hr h => ?_)
  · obtain ⟨lc, h, l1, l2, t, u, rfl, _⟩ := h
    rfl
  · obtain ⟨lc, h, l1, l2, t, u, rfl, X, x1, x2, hin, k⟩ := h
    refine ⟨_, (pss_cons (ps_for PassesOwn.never rfl (pi_list (pv 0)) (pg_name (i := 3) sc_has_clash_between.nd rfl (Or.inl rfl)) (pss_cons (ps_set (i := 4) sc_has_clash_between.nd rfl (Or.inl rfl) (pe_or (pe_call G_is_there (hr.mono (by decide)) rfl T.g_is_there T.F_is_there.kp T.b_is_there .nil pass0 (pa_cons (pv 1) (pa_cons (pe_ix ix_tup (pv 3) pe_int (fun _ _ => rfl)) pa_nil))) (pe_one (pe_call G_is_there (hr.mono (by decide)) rfl T.g_is_there T.F_is_there.kp T.b_is_there .nil pass0 (pa_cons (pv 2) (pa_cons (pe_ix ix_tup (pv 3) pe_int (fun _ _ => rfl)) pa_nil))))))
      (pss_cons (ps_set (i := 5) sc_has_clash_between.nd rfl (Or.inl rfl) (pe_or (pe_call G_is_there (hr.mono (by decide)) rfl T.g_is_there T.F_is_there.kp T.b_is_there .nil pass0 (pa_cons (pv 1) (pa_cons (pe_ix ix_tup (pv 3) pe_int (fun _ _ => rfl)) pa_nil))) (pe_one (pe_call G_is_there (hr.mono (by decide)) rfl T.g_is_there T.F_is_there.kp T.b_is_there .nil pass0 (pa_cons (pv 2) (pa_cons (pe_ix ix_tup (pv 3) pe_int (fun _ _ => rfl)) pa_nil))))))
      (pss_one (ps_if (PW.pt (pw_and (pt_val (pv 4)) (pw_and1 (pt_val (pv 5))))) (pss_one (ps_ret pe_bl)) pss_nil)))))
      (pss_one (ps_ret pe_bl))), ?_⟩
    obtain ⟨ts, hts, hcs⟩ := X
    have hlen := hcs.length
    refine q_forLn (ev_var rfl) (sq_of hts) (fun i σ' H' => Ex H H' ∧ (∃ v3 v4 v5, σ' = [some (.ref lc), some (.ref l1), some (.ref l2), v3, v4, v5]) ∧ ((h.clashes.take i).all fun c => !clashing t u c) = true)
      (fun H1 e1 => ⟨e1, ⟨none, none, none, rfl⟩, by simp⟩) (fun i σ' H' _ ⟨e, _⟩ => sq_of (e _ _ hts)) ?_ ?_
    · rintro i y σ' H' hi ⟨e, ⟨v3, v4, v5, rfl⟩, hall⟩
      obtain ⟨ct, hct, rfl⟩ := rv_got hi
      obtain ⟨c, hc, px, py, hq, hx, hy⟩ := hcs.getL hct
      have hm : c ∈ h.clashes := List.mem_of_getElem? hc
      obtain ⟨⟨i1, i2⟩, i3, i4⟩ := hin c hm
      have there1 : ∀ {σ : L2.St} {H2 : Hp} {p q : Addr} {z : Rp11.State} {s v j l : Nat} {ref : Addr}, H2 ct = some (.tup [.ref px, .ref py]) → σ[3]? = some (some (.ref ct)) → σ[l]? = some (some (.ref ref)) → ([V.ref px, V.ref py] : List V)[j]? = some (.ref p) → CountsAt H2 ref z → PairAt H2 p (s, v) → Inside z s v →
          Ev (tCall sp_is_there [] E0 (tCons (tVar l) (tCons (tOp (rIxT K) (tVar 3) (tC (.int (j : Int)))) tNil))) σ H2 (.bl (decide (0 < Rp11.count z s v))) := by
        intro σ H2 p q z s v j l ref g1 g2 g3 g4 g5 g6 g7
        exact ev_call (ea_cons (ev_var g3) (ea_cons (ev_op (ev_var g2) ev_c (rv_ixT (st_of g1) (atI_nat g4))) ea_nil)) (sp_there g5 g6 g7)
      refine q_asg (ev_orV (there1 (q := ct) (j := 0) (e _ _ hq) rfl rfl rfl (x1.mono e) (hx.mono e) i1) fun _ => there1 (q := ct) (j := 0) (e _ _ hq) rfl rfl rfl (x2.mono e) (hx.mono e) i3) fun H1 e1 => ?_
      have ee := e.trans e1
      refine q_asg (ev_orV (there1 (q := ct) (j := 1) (ee _ _ hq) rfl rfl rfl (x1.mono ee) (hy.mono ee) i2) fun _ => there1 (q := ct) (j := 1) (ee _ _ hq) rfl rfl rfl (x2.mono ee) (hy.mono ee) i4) fun H2 e2 => ?_
      refine s_when (et_and (et_test (ev_var rfl)) fun _ => et_test (ev_var rfl)) (fun hb H3 e3 => ?_) (fun hb H3 e3 => ?_)
      · refine s_ret ev_c fun H4 e4 => ?_
        refine cast ?_ (k H4 (((ee.trans e2).trans e3).trans e4))
        congr 2
        rw [safe_eq]
        cases hs : (h.clashes.all fun c => !clashing t u c) with
        | false => rfl
        | true =>
          rw [List.all_eq_true] at hs
          have := hs c hm
          rw [show clashing t u c = true from hb] at this
          cases this
      · refine ⟨(ee.trans e2).trans e3, ⟨_, _, _, rfl⟩, ?_⟩
        have ec : h.clashes.take (i + 1) = h.clashes.take i ++ [c] := by
          rw [List.take_add_one, hc]
          rfl
        rw [ec, List.all_append, hall, Bool.true_and, List.all_cons, List.all_nil, Bool.and_true, show clashing t u c = false from hb]
        rfl
    · rintro σ' H' ⟨e, ⟨v3, v4, v5, rfl⟩, hall⟩
      refine s_ret ev_c fun H1 e1 => ?_
      refine cast ?_ (k H1 (e.trans e1))
      congr 2
      rw [safe_eq]
      have : (rv ts).length = h.clashes.length := by simp [rv, hlen]
      rw [this, List.take_length] at hall
      rw [hall]
      rfl
end
end Up

namespace Up
open PySem PySem.Spec PyProof.Rows L2 Evl
/-- all but what stands at x is as it was -/
def Off (x : Addr) (H H' : Hp) : Prop := ∀ b o, H b = some o → b ≠ x → H' b = some o
theorem Off.of_ex {x : Addr} {H H' : Hp} (e : Ex H H') : Off x H H' := fun b o h _ => e b o h
theorem Off.upd {x : Addr} {H H' : Hp} {o : HO} (e : Ex H H') : Off x H (L2.upd H' x o) := fun b o h hb => by
  rw [upd_ne hb]
  exact e b _ h
theorem Off.trans {x : Addr} {H H1 H2 : Hp} (a : Off x H H1) (b : Off x H1 H2) : Off x H H2 := fun c o h hc => b c o (a c o h hc) hc

section
variable {P : Program} {w : World} {K : PySem.W.Frag} {mg : Str → Option Value} {base : Heap} {A : Ad}
section
variable {σ : L2.St} {H : Hp} {ta tb te tv : TE} {D : Ends} {tz : TS}
def isT (xs : List V) : V → Hp → Prop := fun v H => ∃ p, v = .ref p ∧ H p = some (.tup xs)
theorem ep_U {xs : List V} (h : EvU te σ H xs) : EvP te σ H (isT xs) := fun H1 e Q q => h H1 e Q fun p H2 _ e2 hp => q _ H2 e2 ⟨p, rfl, hp⟩
theorem cut_whole {xs : List V} {lo hi : Option Int} (h : HT.sIx xs.length 0 lo = 0 ∧ HT.sIx xs.length xs.length hi = xs.length) : cutV xs lo hi = xs := by
  unfold cutV
  rw [h.1, h.2]
  simp
theorem ep_sl {tl th : TO} {a : Addr} {xs : List V} {lo hi : Option Int} (h : Ev te σ H (.ref a)) (h1 : EvO tl σ H lo) (h2 : EvO th σ H hi) (hs : H a = some (.tup xs)) : EvP (tSl (rSlA K) te tl th) σ H (isT (cutV xs lo hi)) := fun H1 e Q q =>
  h H1 e _ fun H2 e2 => h1 H2 (e.trans e2) _ fun H3 e3 => h2 H3 ((e.trans e2).trans e3) _ fun H4 e4 => ⟨a, xs, rfl, st_of ((((e.trans e2).trans e3).trans e4) _ _ hs), fun hw => q _ H4 ((e2.trans e3).trans e4) ⟨a, rfl, by rw [cut_whole hw]; exact (((e.trans e2).trans e3).trans e4) _ _ hs⟩,
      fun _ p hp => q _ _ (((e2.trans e3).trans e4).trans (Ex.new hp)) ⟨p, rfl, upd_same⟩⟩
theorem rv_catA {a b : Addr} {xs ys : List V} {Q : VK} {H : Hp} (ha : H a = some (.tup xs)) (hb : H b = some (.tup ys)) (hz : xs.length + ys.length ≤ 100000) (q : RetP (isT (xs ++ ys)) H Q) : rCatA K (.ref a) (.ref b) H Q := by
  refine ⟨a, b, xs, ys, rfl, rfl, st_of ha, st_of hb, sz_of hz, fun h0 => ?_, fun _ h0 => ?_, fun _ _ p hp => q _ _ (Ex.new hp) ⟨p, rfl, upd_same⟩⟩
  · refine q _ H (Ex.refl H) ⟨b, rfl, ?_⟩
    rw [h0]
    exact hb
  · refine q _ H (Ex.refl H) ⟨a, rfl, ?_⟩
    rw [h0, List.append_nil]
    exact ha
def rTupOf (K : PySem.W.Frag) : List V → Hp → VK → Prop := fun xs H Q => ∃ p ys, xs = [.ref p] ∧ ((SqL K H p ys ∧ ∀ l, H l = none → Q (.ref l) (upd H l (.tup ys))) ∨ (SqT K H p ys ∧ Q (.ref p) H))
theorem eu_tuple {p : Addr} {xs : List V} (ha : Ev ta σ H (.ref p)) (h : H p = some (.lst xs)) : EvU (tCB (rTupOf K) (tCons ta tNil)) σ H xs := fun H1 e Q q =>
  ha H1 e _ fun H2 e2 => ⟨p, xs, rfl, .inl ⟨sq_of ((e.trans e2) _ _ h), fun l hl => q l _ (fresh_back e2 hl) (e2.trans (Ex.new hl)) upd_same⟩⟩
theorem ep_tup1 {xs : List V} (h : EvP te σ H (isT xs)) : EvP (tTup (tCons te tNil)) σ H (fun v H => ∃ q p, v = .ref q ∧ H q = some (.tup [.ref p]) ∧ H p = some (.tup xs)) := fun H1 e Q q =>
  h H1 e _ fun v H2 e2 ⟨p, hv, hp⟩ => ⟨by show 1 ≤ sizeLine; decide, fun r hr => q _ _ (e2.trans (Ex.new hr)) ⟨r, p, rfl, by rw [upd_same, hv], (Ex.new hr) _ _ hp⟩⟩
theorem el_listT {p : Addr} {xs : List V} (ha : Ev ta σ H (.ref p)) (h : H p = some (.tup xs)) : EvL (tCB (rListS K) (tCons ta tNil)) σ H xs := fun H1 e Q q =>
  ha H1 e _ fun H2 e2 => ⟨p, xs, rfl, Or.inr (st_of ((e.trans e2) _ _ h)), fun l hl => q l _ (fresh_back e2 hl) (e2.trans (Ex.new hl)) upd_same⟩
theorem q_fld {a C dx : Addr} {fs : List (Str × V)} {f : Str} {v : V} (hv : Ev tv σ H v) (ha : Ev ta σ H (.ref a)) (ho : H a = some (.ins C dx fs)) (c : Cls K C) (n : NoAttr K C f) (hl : fs.length < 1000)
    (k : ∀ H1, Ex H H1 → tz D σ (upd H1 a (.ins C dx (putF f v fs)))) : tSeq (sFld K ta tv f) tz D σ H :=
  hv H (Ex.refl H) _ fun H1 e1 => ha H1 e1 _ fun H2 e2 => ⟨a, C, dx, fs, rfl, (e1.trans e2) _ _ ho, c, n, hl, k H2 (e1.trans e2)⟩
theorem q_fldL {a C dx : Addr} {fs : List (Str × V)} {f : Str} {xs : List V} (hv : EvL tv σ H xs) (ha : ∀ H1, Ex H H1 → Ev ta σ H1 (.ref a)) (ho : H a = some (.ins C dx fs)) (c : Cls K C) (n : NoAttr K C f) (hl : fs.length < 1000)
    (k : ∀ p H1, H p = none → Ex H H1 → H1 p = some (.lst xs) → tz D σ (upd H1 a (.ins C dx (putF f (.ref p) fs)))) : tSeq (sFld K ta tv f) tz D σ H :=
  hv H (Ex.refl H) _ fun p H1 hp e1 h1 => ha H1 e1 H1 (Ex.refl H1) _ fun H2 e2 => ⟨a, C, dx, fs, rfl, (e1.trans e2) _ _ ho, c, n, hl, k p H2 hp (e1.trans e2) (e2 _ _ h1)⟩
theorem s_fldL {a C dx : Addr} {fs : List (Str × V)} {f : Str} {xs : List V} (hv : EvL tv σ H xs) (ha : ∀ H1, Ex H H1 → Ev ta σ H1 (.ref a)) (ho : H a = some (.ins C dx fs)) (c : Cls K C) (n : NoAttr K C f) (hl : fs.length < 1000)
    (k : ∀ p H1, H p = none → Ex H H1 → H1 p = some (.lst xs) → D.nx σ (upd H1 a (.ins C dx (putF f (.ref p) fs)))) : sFld K ta tv f D σ H :=
  hv H (Ex.refl H) _ fun p H1 hp e1 h1 => ha H1 e1 H1 (Ex.refl H1) _ fun H2 e2 => ⟨a, C, dx, fs, rfl, (e1.trans e2) _ _ ho, c, n, hl, k p H2 hp (e1.trans e2) (e2 _ _ h1)⟩

theorem s_fld {a C dx : Addr} {fs : List (Str × V)} {f : Str} {v : V} (hv : Ev tv σ H v) (ha : Ev ta σ H (.ref a)) (ho : H a = some (.ins C dx fs)) (c : Cls K C) (n : NoAttr K C f) (hl : fs.length < 1000)
    (k : ∀ H1, Ex H H1 → D.nx σ (upd H1 a (.ins C dx (putF f v fs)))) : sFld K ta tv f D σ H :=
  hv H (Ex.refl H) _ fun H1 e1 => ha H1 e1 _ fun H2 e2 => ⟨a, C, dx, fs, rfl, (e1.trans e2) _ _ ho, c, n, hl, k H2 (e1.trans e2)⟩
end
theorem ivs_set (r : List Nat) (i n : Nat) : (ivs r).set i (iv n) = ivs (r.set i n) := by simp [ivs, List.map_set]
/-- xs[i] op= e -/
theorem q_augS {to ti te : TE} {f : Int → Int → Int} {D : Ends} {σ : L2.St} {H : Hp} {tz : TS} {l : Addr} {xs : List V} {j : Nat} {x y : Int} (hl : H l = some (.lst xs)) (ho : Ev to σ H (.ref l)) (hi : Ev ti σ H (.int (j : Int))) (he : Ev te σ H (.int y)) (hx : xs[j]? = some (.int x))
    (k : ∀ H1, Ex H H1 → tz D σ (upd H1 l (.lst (xs.set j (.int (f x y)))))) : tSeq (tAugS to ti te (rIxL K) (ipI f) rSetL) tz D σ H :=
  ho H (Ex.refl H) _ fun H1 e1 => hi H1 e1 _ fun H2 e2 => ⟨l, xs, (j : Int), .int x, rfl, rfl, sq_of ((e1.trans e2) _ _ hl), atI_nat hx, he H2 (e1.trans e2) _ fun H3 e3 => ⟨x, y, rfl, rfl,
    ⟨l, xs, (j : Int), j, rfl, rfl, ((e1.trans e2).trans e3) _ _ hl, ixN_nat (List.getElem?_eq_some_iff.mp hx).1, k H3 ((e1.trans e2).trans e3)⟩⟩⟩
theorem putF_new {f : Str} {v : V} : ∀ {fs : List (Str × V)} {ks : List Str}, fs.map (·.1) = ks → ks.contains f = false → putF f v fs = fs ++ [(f, v)]
  | [], _, _, _ => rfl
  | (g, x) :: fs, _, e, h => by
    subst e
    simp only [List.map_cons, List.contains_cons, Bool.or_eq_false_iff] at h
    have hne : ¬ g = f := fun q => by
      rw [q, beq_self_eq_true] at h
      cases h.1
    rw [put_past hne, putF_new rfl h.2]
    rfl
theorem putF_small {f : Str} {v : V} : ∀ {fs : List (Str × V)} {n : Nat}, fs.length < n → (putF f v fs).length < n + 1
  | [], n, h => by show 1 < n + 1; exact Nat.succ_lt_succ h
  | (g, x) :: fs, n, h => by
    by_cases e : g = f
    · subst e
      rw [put_here]
      exact Nat.lt_succ_of_lt h
    · rw [put_past e]
      cases n with
      | zero => simp at h
      | succ n => exact Nat.succ_lt_succ (putF_small (by simpa using h))
/-! ### Step(..) -/
theorem stF_new (x : Rp11.Step) : putF "copies" (iv x.k) (putF "new" (iv x.w) (putF "old" (iv x.v) (putF "service" (iv x.s) []))) = stF x := by
  rw [putF_new (f := "service") (ks := []) rfl rfl, putF_new (f := "old") (ks := ["service"]) rfl (by decide +kernel), putF_new (f := "new") (ks := ["service", "old"]) rfl (by decide +kernel),
    putF_new (f := "copies") (ks := ["service", "old", "new"]) rfl (by decide +kernel)]
  rfl
def sp_Step_init (A : Ad) : Sp := fun vs H Q _ => ∃ (p dx : Addr) (x : Rp11.Step), vs = [.ref p, iv x.s, iv x.v, iv x.w, iv x.k] ∧ H p = some (.ins A.c_Step dx []) ∧ ∀ H', Off p H H' → H' p = some (.ins A.c_Step dx (stF x)) → Q .non H'
theorem ok_Step_init (T : Tx K mg A) : FnOk P w K mg base CX0 1 A.a_Step_init A.d_Step_init p_Step_init (sp_Step_init A) := by
  refine T.F_Step_init.ok sc_Step_init (fun vs H Q E h => ?_) (fun cdv A' outer s H vs Q E hr h => ?_)
  · obtain ⟨p, dx, x, rfl, _⟩ := h
    rfl
  · obtain ⟨p, dx, x, rfl, hp, k⟩ := h
    refine ⟨_, (pss_cons (ps_fld (pv 0) (pv 1) rfl)
      (pss_cons (ps_fld (pv 0) (pv 2) rfl)
      (pss_cons (ps_fld (pv 0) (pv 3) rfl)
      (pss_one (ps_fld (pv 0) (pv 4) rfl))))), ?_⟩
    refine q_fld (v := iv x.s) (ev_var rfl) (ev_var rfl) hp T.cl_Step T.n_Step_service (by show 0 < 1000; decide) fun H1 e1 => ?_
    refine q_fld (v := iv x.v) (ev_var rfl) (ev_var rfl) upd_same T.cl_Step T.n_Step_old (putF_small (by decide)) fun H2 e2 => ?_
    refine q_fld (v := iv x.w) (ev_var rfl) (ev_var rfl) upd_same T.cl_Step T.n_Step_new (putF_small (putF_small (by decide))) fun H3 e3 => ?_
    refine s_fld (v := iv x.k) (ev_var rfl) (ev_var rfl) upd_same T.cl_Step T.n_Step_copies (putF_small (putF_small (putF_small (by decide)))) fun H4 e4 => ?_
    have o1 : Off p H (upd H1 p (.ins A.c_Step dx (putF "service" (iv x.s) []))) := .upd e1
    have o2 := o1.trans (Off.upd (o := .ins A.c_Step dx (putF "old" (iv x.v) (putF "service" (iv x.s) []))) e2)
    have o3 := o2.trans (Off.upd (o := .ins A.c_Step dx (putF "new" (iv x.w) (putF "old" (iv x.v) (putF "service" (iv x.s) [])))) e3)
    exact k _ (o3.trans (Off.upd e4)) (by rw [upd_same, stF_new])
/-- the new step -/
theorem ep_step {σ : L2.St} {H : Hp} {ta : TA} {E : XK} (x : Rp11.Step) (h : EvA ta σ H [iv x.s, iv x.v, iv x.w, iv x.k]) : EvP (tMake A.c_Step (sp_Step_init A) [] E ta) σ H (isS A x) := fun H1 e Q q =>
  h H1 e _ fun H2 e2 => fun p dx np ndx nex => by
    refine ⟨p, dx, x, rfl, upd_same, fun H4 off h4 => ⟨rfl, q _ H4 (e2.trans fun b o hb => ?_) ⟨p, rfl, dx, h4⟩⟩⟩
    exact off b o (by rw [upd_ne (ne_of_none hb np), upd_ne (ne_of_none hb ndx)]; exact hb) (ne_of_none hb np)

/-! ### counts_behind -/
theorem after_eq {t : Rp11.State} {s v w k : Nat} {r : List Nat} (h : t[s]? = some r) : Rp11.after t ⟨s, v, w, k⟩ = t.set s ((r.set v (r.getD v 0 - k)).set w (r.getD w 0 + k)) := by
  unfold Rp11.after
  have e : t.getD s [] = r := by simp [List.getD_eq_getElem?_getD, h]
  simp only [e]
/-- what a step needs of a state -/
structure Fits (t : Rp11.State) (x : Rp11.Step) (r : List Nat) : Prop where
  len : t.length ≤ 3
  row : t[x.s]? = some r
  rl : r.length ≤ 3
  v : x.v < r.length
  w : x.w < r.length
  ne : x.v ≠ x.w
  k : x.k ≤ r.getD x.v 0
def sp_counts_behind (A : Ad) : Sp := fun vs H Q _ => ∃ (l p : Addr) (t : Rp11.State) (x : Rp11.Step) (r : List Nat), vs = [.ref l, .ref p] ∧ CountsAt H l t ∧ StepAt A H p x ∧ Fits t x r ∧ RetP (isC (Rp11.after t x)) H Q
theorem set_parts {α : Type} : ∀ (l : List α) (i : Nat) (a : α), i < l.length → l.set i a = l.take i ++ [a] ++ l.drop (i + 1)
  | [], i, a, h => by simp at h
  | b :: l, 0, a, _ => by simp
  | b :: l, i + 1, a, h => by
    have := set_parts l i a (by simpa using h)
    simp only [List.set_cons_succ, List.take_succ_cons, List.drop_succ_cons, List.cons_append, this]
theorem cut_take (rows : List Addr) (s : Nat) : cutV (rv rows) none (some (s : Int)) = rv (rows.take s) := by
  unfold cutV
  rw [HT.sIx_none, HT.sIx_nat, rv_len, List.drop_zero, Nat.sub_zero]
  simp only [rv, List.map_take]
  rw [List.take_eq_take_iff]
  simp
theorem cut_drop (rows : List Addr) (s : Nat) : cutV (rv rows) (some (s : Int)) none = rv (rows.drop s) := by
  unfold cutV
  rw [HT.sIx_none, HT.sIx_nat, rv_len]
  simp only [rv, List.map_drop]
  by_cases c : s ≤ rows.length
  · rw [Nat.min_eq_left c, List.take_of_length_le (by simp)]
  · rw [Nat.min_eq_right (by omega), List.drop_of_length_le (by simp), List.drop_of_length_le (by simp; omega)]
    simp
theorem ok_counts_behind (T : Tx K mg A) : FnOk P w K mg base CX0 1 A.a_counts_behind A.d_counts_behind p_counts_behind (sp_counts_behind A) := by
  refine T.F_counts_behind.ok sc_counts_behind (fun vs H Q E h => ?_) (fun cdv A' outer s H vs Q E hr h => ?_)
  · obtain ⟨l, p, t, x, r, rfl, _⟩ := h
    rfl
  · obtain ⟨l, p, t, x, r, rfl, xc, xp, F, kk⟩ := h
    refine ⟨_, (pss_cons (ps_set (i := 2) sc_counts_behind.nd rfl (Or.inl rfl) (pe_callTy call_list_of (by rfl) T.b_list (by decide +kernel) (pa_cons (pe_ix ix_tup (pv 0) (pe_fld (pv 1) rfl) (fun _ _ => rfl)) pa_nil)))
      (pss_cons (ps_augS (pv 2) (pe_fld (pv 1) rfl) get_list (pe_fld (pv 1) rfl) ip_sub set_list)
      (pss_cons (ps_augS (pv 2) (pe_fld (pv 1) rfl) get_list (pe_fld (pv 1) rfl) ip_add set_list)
      (pss_one (ps_ret (pe_op op_catA (pe_op op_catA (pe_slice sl_tupA (pv 0) po_none (po_some (pe_fld (pv 1) rfl))) (pe_tup (pa_cons (pe_callTy call_tuple_of (by rfl) T.b_tuple (by decide +kernel) (pa_cons (pv 2) pa_nil)) pa_nil))) (pe_slice sl_tupA (pv 0) (po_some (pe_op op_add (pe_fld (pv 1) rfl) pe_int)) po_none))))))), ?_⟩
    obtain ⟨rows, xl, xr⟩ := xc
    have hlen := xr.length
    obtain ⟨b, hb, xb⟩ := xr.get F.row
    refine q_asgL (el_listT (ev_op (ev_var rfl) (ev_sservice (T := T) xp (ev_var rfl)) (rv_ixT (st_of xl) (atI_nat (rv_get hb)))) xb) fun d H1 nd e1 h1 => ?_
    have e4 : ((r.getD x.v 0 : Nat) : Int) - (x.k : Int) = ((r.getD x.v 0 - x.k : Nat) : Int) := by have := F.k; omega
    refine q_augS (K := K) h1 (ev_var rfl) (ev_sold (T := T) (xp.mono e1) (ev_var rfl)) (ev_scopies (T := T) (xp.mono e1) (ev_var rfl)) (ivs_get F.v) fun H2 e2 => ?_
    have h4 : upd H2 d (.lst ((ivs r).set x.v (.int (((r.getD x.v 0 : Nat) : Int) - (x.k : Int))))) = upd H2 d (.lst (ivs (r.set x.v (r.getD x.v 0 - x.k)))) := by
      rw [e4, ← ivs_set]
      rfl
    rw [h4]
    have x2 : Ex H (upd H2 d (.lst (ivs (r.set x.v (r.getD x.v 0 - x.k))))) := Ex.mut (e1.trans e2) nd
    have e5 : (r.set x.v (r.getD x.v 0 - x.k)).getD x.w 0 = r.getD x.w 0 := getD_set_ne F.ne
    refine q_augS (K := K) upd_same (ev_var rfl) (ev_snew (T := T) (xp.mono x2) (ev_var rfl)) (ev_scopies (T := T) (xp.mono x2) (ev_var rfl)) (ivs_get (by rw [List.length_set]; exact F.w)) fun H5 e5' => ?_
    have h6 : upd H5 d (.lst ((ivs (r.set x.v (r.getD x.v 0 - x.k))).set x.w (.int ((((r.set x.v (r.getD x.v 0 - x.k)).getD x.w 0 : Nat) : Int) + (x.k : Int))))) = upd H5 d (.lst (ivs ((r.set x.v (r.getD x.v 0 - x.k)).set x.w (r.getD x.w 0 + x.k)))) := by
      rw [e5, ← ivs_set (r.set x.v (r.getD x.v 0 - x.k)) x.w (r.getD x.w 0 + x.k)]
      rfl
    rw [h6]
    generalize hr' : (r.set x.v (r.getD x.v 0 - x.k)).set x.w (r.getD x.w 0 + x.k) = r'
    have x5 : Ex H (upd H5 d (.lst (ivs r'))) := Ex.mut (x2.trans e5') nd
    have xp5 := xp.mono x5
    refine s_retP (R := isC (Rp11.after t x)) (fun H6 e6 Q q => ?_) fun v H6 e6 rr => kk v H6 (x5.trans e6) rr
    refine ep_sl (K := K) (xs := rv rows) (ev_var rfl) eo_none (eo_some (ev_sservice (T := T) xp5 (ev_var rfl))) (x5 _ _ xl) H6 e6 _ fun v1 H7 e7 ⟨a1, hv1, g1⟩ => ?_
    subst hv1
    refine ep_tup1 (ep_U (eu_tuple (K := K) (ev_var rfl) upd_same)) H7 (e6.trans e7) _ fun v2 H8 e8 ⟨a3, a2, hv2, g3, g2⟩ => ?_
    subst hv2
    refine rv_catA (K := K) (e8 _ _ g1) g3 (by rw [cut_take, rv_len, List.length_take]; show _ + 1 ≤ 100000; have := F.len; omega) fun v4 H10 e10 ⟨a4, hv4, g4⟩ => ?_
    subst hv4
    have x10 := (e7.trans e8).trans e10
    refine ep_sl (K := K) (xs := rv rows) (ev_var rfl) (eo_some (ev_op (ev_sservice (T := T) xp5 (ev_var rfl)) ev_c rv_I0)) eo_none (x5 _ _ xl) H10 (e6.trans x10) _ fun v5 H11 e11 ⟨a5, hv5, g5⟩ => ?_
    subst hv5
    have e1' : ((x.s : Int) + 1) = ((x.s + 1 : Nat) : Int) := by omega
    rw [e1', cut_drop] at g5
    rw [cut_take] at g4
    refine rv_catA (K := K) (e11 _ _ g4) g5 (by rw [List.length_append, rv_len, rv_len, List.length_take, List.length_drop]; show _ + 1 + _ ≤ 100000; have := F.len; omega) fun v6 H12 e12 ⟨a6, hv6, g6⟩ => ?_
    subst hv6
    refine q _ H12 ((x10.trans e11).trans e12) ⟨a6, rfl, rows.take x.s ++ [a2] ++ rows.drop (x.s + 1), by rw [g6]; simp [rv], ?_⟩
    rw [after_eq F.row, hr', set_parts t x.s r' (List.getElem?_eq_some_iff.mp F.row).1]
    have X := ((x5.trans e6).trans (x10.trans e11)).trans e12
    have xr' := xr.imp fun _ _ q => RowAt.mono X q
    exact ((xr'.take x.s).append (.cons (((e10.trans e11).trans e12) _ _ g2) .nil)).append (xr'.drop (x.s + 1))
/-! ### may_be_done -/
theorem fits_of {h : Rp11.House} {t : Rp11.State} {x : Rp11.Step} (hw : ∀ S ∈ (absH h).services, WFS S) (hl : h.services.length ≤ 3) (hs : Shape (absH h).services t) (hc : h.can t x = true) : ∃ r, Fits t x r := by
  obtain ⟨c1, c2, c3, c4, c5⟩ := can_of hc
  obtain ⟨S, r, G⟩ := got (t := t) hw hs c1
  rw [at_of_get G.at_] at c2 c5
  rw [count_of G.row] at c4
  obtain ⟨m1, m2, m3⟩ := G.mv _ c2
  exact ⟨r, by rw [Shape_abs_len hs]; exact hl, G.row, by rw [G.len]; exact G.v3, by rw [G.len]; exact m1, by rw [G.len]; exact m2, m3, c4⟩
theorem ep_behind {σ : L2.St} {H : Hp} {ta : TA} {E : XK} {l p : Addr} {t : Rp11.State} {x : Rp11.Step} {r : List Nat} (h : EvA ta σ H [.ref l, .ref p]) (xc : CountsAt H l t) (xp : StepAt A H p x) (F : Fits t x r) :
    EvP (tCall (sp_counts_behind A) [] E ta) σ H (isC (Rp11.after t x)) := ep_call h fun H1 e Q q => ⟨l, p, t, x, r, rfl, xc.mono e, xp.mono e, F, q⟩
/-- the form of what is asked -/
structure Good (h : Rp11.House) (t : Rp11.State) : Prop where
  ser : ∀ S ∈ (absH h).services, WFS S
  len : h.services.length ≤ 3
  clv : ∀ c ∈ h.clashes, hasVersion h c.1 c.2.1 ∧ hasVersion h c.2.2.1 c.2.2.2
  shape : Shape (absH h).services t
theorem inside_of {h : Rp11.House} {t : Rp11.State} (hw : ∀ S ∈ (absH h).services, WFS S) (ht : Shape (absH h).services t) {s v : Nat} (hv : hasVersion h s v) : Inside t s v := by
  obtain ⟨S, r, G⟩ := got hw ht hv.1
  refine ⟨r, G.row, ?_⟩
  have := hv.2
  rw [List.getD_eq_getElem?_getD, G.at_] at this
  rw [G.len]
  exact this
theorem Good.after {h : Rp11.House} {t : Rp11.State} (g : Good h t) {x : Rp11.Step} (hc : h.can t x = true) : Good h (Rp11.after t x) :=
  ⟨g.ser, g.len, g.clv, shape_after (h := absH h) g.ser g.shape (by rw [abs_can]; exact hc)⟩
theorem Good.insideC {h : Rp11.House} {t : Rp11.State} (g : Good h t) {c : Nat × Nat × Nat × Nat} (hc : c ∈ h.clashes) : InsideC t c := ⟨inside_of g.ser g.shape (g.clv c hc).1, inside_of g.ser g.shape (g.clv c hc).2⟩
theorem Good.fits {h : Rp11.House} {t : Rp11.State} (g : Good h t) {x : Rp11.Step} (hc : h.can t x = true) : ∃ r, Fits t x r := fits_of g.ser g.len g.shape hc
def sp_may_be_done (A : Ad) : Sp := fun vs H Q _ => ∃ (ls lc l p : Addr) (h : Rp11.House) (t : Rp11.State) (x : Rp11.Step), vs = [.ref ls, .ref lc, .ref l, .ref p] ∧ HsAt A H ls lc h ∧ CountsAt H l t ∧ StepAt A H p x ∧ Good h t ∧
  RetV (.bl (h.may t x)) H Q
theorem ok_may_be_done (T : Tx K mg A) (G_can_be_done : FnOk P w K mg base CX0 1 A.a_can_be_done A.d_can_be_done p_can_be_done (sp_can_be_done A))
    (G_counts_behind : FnOk P w K mg base CX0 1 A.a_counts_behind A.d_counts_behind p_counts_behind (sp_counts_behind A))
    (G_has_clash_between : FnOk P w K mg base CX0 2 A.a_has_clash_between A.d_has_clash_between p_has_clash_between (sp_has_clash_between A)) :
    FnOk P w K mg base CX0 3 A.a_may_be_done A.d_may_be_done p_may_be_done (sp_may_be_done A) := by
  refine T.F_may_be_done.ok sc_may_be_done (fun vs H Q E h => ?_) (fun cdv A' outer s H vs Q E hr h => ?_)
  · obtain ⟨ls, lc, l, p, h, t, x, rfl, _⟩ := h
    rfl
  · obtain ⟨ls, lc, l, p, h, t, x, rfl, hs, xc, xp, g, kk⟩ := h
    refine ⟨_, (pss_cons (ps_if (pt_not (pt_val (pe_call G_can_be_done (hr.mono (by decide)) rfl T.g_can_be_done T.F_can_be_done.kp T.b_can_be_done .nil pass0 (pa_cons (pv 0) (pa_cons (pv 2) (pa_cons (pv 3) pa_nil)))))) (pss_one (ps_ret pe_bl)) pss_nil)
      (pss_one (ps_ret (pe_not (pe_call G_has_clash_between (hr.mono (by decide)) rfl T.g_has_clash_between T.F_has_clash_between.kp T.b_has_clash_between .nil pass0 (pa_cons (pv 1) (pa_cons (pv 2) (pa_cons (pe_call G_counts_behind (hr.mono (by decide)) rfl T.g_counts_behind T.F_counts_behind.kp T.b_counts_behind .nil pass0 (pa_cons (pv 2) (pa_cons (pv 3) pa_nil))) pa_nil)))))))), ?_⟩
    refine q_when (et_not (et_test (ev_call (ea_cons (ev_var rfl) (ea_cons (ev_var rfl) (ea_cons (ev_var rfl) ea_nil))) (z := .bl (h.can t x)) fun H1 e Q q E => ⟨ls, l, p, h, t, x, rfl, hs.sv.mono e, xc.mono e, xp.mono e, g.ser, g.shape, q⟩))) (fun hb H1 e1 => ?_) (fun hb H1 e1 => ?_)
    · refine s_ret ev_c fun H2 e2 => ?_
      refine cast ?_ (kk H2 (e1.trans e2))
      congr 2
      have : h.can t x = false := by simpa using hb
      unfold Rp11.House.may
      rw [this, Bool.false_and]
    · have hc : h.can t x = true := by simpa using hb
      obtain ⟨r, F⟩ := g.fits hc
      have em : h.may t x = h.safe t (Rp11.after t x) := by
        unfold Rp11.House.may
        rw [hc, Bool.true_and]
      rw [em] at kk
      refine s_ret (v := .bl (h.safe t (Rp11.after t x))) (ev_is (ev_notV (a := !h.safe t (Rp11.after t x)) (fun H2 e2 Q q => ?_)) (by rw [Bool.not_not])) fun H2 e2 => kk H2 (e1.trans e2)
      have X := e1.trans e2
      refine ⟨_, rfl, _, rfl, ?_⟩
      refine ep_behind (A := A) (ta := tCons (tVar 2) (tCons (tVar 3) tNil)) (ea_cons (ev_var rfl) (ea_cons (ev_var rfl) ea_nil)) (xc.mono X) (xp.mono X) F H2 (Ex.refl H2) _ fun v H3 e3 ⟨b, hb', xb⟩ => ?_
      subst hb'
      exact ⟨lc, h, l, b, t, Rp11.after t x, rfl, hs.lc.mono (X.trans e3), xc.mono (X.trans e3), xb, fun c hc' => ⟨g.insideC hc', (g.after hc).insideC hc'⟩, fun H4 e4 => q H4 (e3.trans e4)⟩
/-! ### all_of_version, wanted_counts -/
def rowOf (v g c : Nat) : List Nat := (List.range v).map fun k => if k = g then c else 0
def sp_all_of_version : Sp := fun vs H Q _ => ∃ v g c : Nat, vs = [iv v, iv g, iv c] ∧ g < v ∧ v ≤ 3 ∧ RetP (isT (ivs (rowOf v g c))) H Q
theorem row_set (v g c : Nat) : (List.replicate v 0).set g c = rowOf v g c := by
  apply List.ext_getElem?
  intro i
  unfold rowOf
  rw [List.getElem?_set, List.getElem?_map]
  by_cases hi : i < v
  · by_cases e : g = i
    · subst e
      simp [hi]
    · have e' : ¬ i = g := fun q => e q.symm
      simp [e, e', hi, List.getElem?_replicate]
  · by_cases e : g = i
    · subst e
      simp [hi]
    · simp [e, hi, List.getElem?_replicate]
theorem el_rep {σ : L2.St} {H : Hp} {ta tb : TE} {xs : List V} {k : Nat} (ha : EvL ta σ H xs) (hb : Ev tb σ H (.int (k : Int))) (hk : k ≤ 100000) (hz : xs.length * k ≤ 100000) : EvL (tOp rRep ta tb) σ H (List.replicate k xs).flatten := fun H1 e Q q =>
  ha H1 e _ fun p H2 hp e2 h2 => hb H2 (e.trans e2) _ fun H3 e3 => ⟨p, (k : Int), xs, rfl, rfl, e3 _ _ h2, by omega, by omega, by rw [Int.toNat_natCast]; exact sz_of hz, fun r hr => by
    rw [Int.toNat_natCast]
    exact q r _ (fresh_back (e2.trans e3) hr) ((e2.trans e3).trans (Ex.new hr)) upd_same⟩
theorem ok_all_of_version (T : Tx K mg A) : FnOk P w K mg base CX0 1 A.a_all_of_version A.d_all_of_version p_all_of_version sp_all_of_version := by
  refine T.F_all_of_version.ok sc_all_of_version (fun vs H Q E h => ?_) (fun cdv A' outer s H vs Q E hr h => ?_)
  · obtain ⟨v, g, c, rfl, _⟩ := h
    rfl
  · obtain ⟨v, g, c, rfl, hg, hv, kk⟩ := h
    refine ⟨_, (pss_cons (ps_set (i := 3) sc_all_of_version.nd rfl (Or.inl rfl) (pe_op op_rep (pe_lst (pa_cons pe_int pa_nil)) (pv 0)))
      (pss_cons (ps_asg (pv 2) (pg_sub (pv 3) (pv 1) set_list))
      (pss_one (ps_ret (pe_callTy call_tuple_of (by rfl) T.b_tuple (by decide +kernel) (pa_cons (pv 3) pa_nil)))))), ?_⟩
    refine q_asgL (el_rep (k := v) (el_lst (ea_cons ev_c ea_nil) (by show 1 ≤ 100000; decide)) (ev_var rfl) (by omega) (by show 1 * v ≤ 100000; omega)) fun p H1 np e1 h1 => ?_
    have z : (List.replicate v [V.int 0]).flatten = ivs (List.replicate v 0) := by simp [ivs, iv]
    rw [z] at h1
    refine q_setL h1 (v := iv c) (ev_var rfl) (ev_var rfl) (ev_var rfl) (by simp [ivs]; exact hg) fun H2 e2 => ?_
    rw [ivs_set, row_set]
    refine s_retU (eu_tuple (K := K) (ev_var rfl) upd_same) fun q H3 nq e3 h3 => ?_
    exact kk _ H3 ((Ex.mut (e1.trans e2) np).trans e3) ⟨q, rfl, h3⟩
end
end Up

namespace Up
open PySem PySem.Spec PyProof.Rows L2 Evl
section
variable {P : Program} {w : World} {K : PySem.W.Frag} {mg : Str → Option Value} {base : Heap} {A : Ad}
theorem pe_fldK {X : Cx} {e : Expr} {te : TE} {f : Str} {pos : Pos} {K : PySem.W.Frag} (h : X.K = K) (he : PE X e te) (hb : attributeBase e f X.env (eval e X.env) = eval e X.env) : PE X (.Attribute e f pos) (tFld K te f) := h ▸ pe_fld he hb
/-- [new tuple for x in xs] -/
theorem lc_tups {a : Addr} {xs : List V} {tl te : TE} {j : Nat} {vs : List Nat} {σ : L2.St} {H : Hp} (ys : Nat → List V) (h : Ev tl σ H (.ref a)) (hx : SqL K H a xs) (hz : xs.length ≤ 40000) (hw : ∀ x, wipe ((wipe σ vs).set j (some x)) vs = wipe σ vs)
    (he : ∀ (i : Nat) (x : V) H1, Ex H H1 → xs[i]? = some x → EvP te ((wipe σ vs).set j (some x)) H1 (isT (ys i))) :
    EvP (tLc (iList K tl) (gName j) tYes te vs) σ H (fun v H2 => ∃ D ds, v = .ref D ∧ H2 D = some (.lst (rv ds)) ∧ ds.length = xs.length ∧ ∀ (i : Nat) d, ds[i]? = some d → H2 d = some (.tup (ys i))) := fun H0 e0 Q q => h H0 e0 _ fun H1 e1 => ⟨a, rfl, ⟨xs, ex_l (e0.trans e1) hx⟩, fun D hD =>
  lc_list (xs := xs) (fun i H' => Ex H1 H' ∧ ∃ ds : List Addr, ds.length = i ∧ H' D = some (.lst (rv ds)) ∧ ∀ (m : Nat) d, ds[m]? = some d → H' d = some (.tup (ys m)))
    ⟨Ex.new hD, [], rfl, upd_same, (fun m d h => by simp at h)⟩ (fun i H' _ p => ex_l ((e0.trans e1).trans p.1) hx)
    (fun i x H' hi p => ⟨hw x, by
      obtain ⟨e2, ds, hl, hD2, hd⟩ := p
      show te ((wipe σ vs).set j (some x)) H' _
      refine he i x H' ((e0.trans e1).trans e2) hi H' (Ex.refl H') _ fun v H4 e4 ⟨p, hv, h4⟩ => ?_
      subst hv
      have hil := (List.getElem?_eq_some_iff.mp hi).1
      refine ⟨rv ds, e4 _ _ hD2, sz_lt (by simp only [rv, List.length_map]; omega), Ex.mut (e2.trans e4) hD, ds ++ [p], by simp [hl], ?_, ?_⟩
      · rw [upd_same, rv_snoc]
      · intro m d hm
        rcases Nat.lt_or_ge m ds.length with hlt | hge
        · rw [List.getElem?_append_left hlt] at hm
          have g := e4 _ _ (hd m d hm)
          rw [upd_ne (ne_of g (e4 _ _ hD2) (by intro z; cases z))]
          exact g
        · rw [List.getElem?_append_right hge] at hm
          have hm0 : m = ds.length := by
            rcases Nat.lt_or_ge (m - ds.length) 1 with c | c
            · omega
            · rw [List.getElem?_eq_none (by simpa using c)] at hm
              cases hm
          subst hm0
          simp only [Nat.sub_self, List.getElem?_cons_zero, Option.some.injEq] at hm
          subst hm
          rw [upd_ne (ne_of h4 (e4 _ _ hD2) (by intro z; cases z)), hl]
          exact h4⟩)
    (fun H' p => by
      obtain ⟨e2, ds, hl, hD2, hd⟩ := p
      exact q _ H' (e1.trans e2) ⟨D, ds, rfl, hD2, hl, hd⟩)⟩
theorem ep_tupOf {te : TE} {σ : L2.St} {H : Hp} {R R2 : V → Hp → Prop} (h : EvP te σ H R) (k : ∀ v H1, Ex H H1 → R v H1 → ∃ D xs, v = .ref D ∧ H1 D = some (.lst xs) ∧ ∀ p, H1 p = none → R2 (.ref p) (upd H1 p (.tup xs))) :
    EvP (tCB (rTupOf K) (tCons te tNil)) σ H R2 := fun H1 e Q q => h H1 e _ fun v H2 e2 r => by
  obtain ⟨D, xs, rfl, hD, g⟩ := k v H2 (e.trans e2) r
  exact ⟨D, xs, rfl, .inl ⟨sq_of hD, fun p hp => q _ _ (e2.trans (Ex.new hp)) (g p hp)⟩⟩
theorem all2_rows {H : Hp} : ∀ (l : List Addr) (m : Rp11.State), l.length = m.length → (∀ (i : Nat) d, l[i]? = some d → H d = some (.tup (ivs (m.getD i [])))) → All2 (RowAt H) l m
  | [], [], _, _ => .nil
  | [], _ :: _, h, _ => by simp at h
  | _ :: _, [], h, _ => by simp at h
  | a :: l, c :: m, h, k => .cons (k 0 a rfl) (all2_rows l m (by simpa using h) fun i d hi => k (i + 1) d hi)
theorem goal_rows (h : Rp11.House) : (absH h).goal = h.services.map fun S => rowOf S.versions S.goal S.copies := by
  unfold Rp11.House.goal absH rowOf
  simp only [List.map_map]
  rfl
def sp_wanted_counts (A : Ad) : Sp := fun vs H Q _ => ∃ (ls : Addr) (h : Rp11.House), vs = [.ref ls] ∧ SvsAt A H ls h.services ∧ (∀ S ∈ (absH h).services, WFS S) ∧ h.services.length ≤ 3 ∧ RetP (isC (absH h).goal) H Q
theorem ok_wanted_counts (T : Tx K mg A) (G_all_of_version : FnOk P w K mg base CX0 1 A.a_all_of_version A.d_all_of_version p_all_of_version sp_all_of_version) :
    FnOk P w K mg base CX0 2 A.a_wanted_counts A.d_wanted_counts p_wanted_counts (sp_wanted_counts A) := by
  refine T.F_wanted_counts.ok sc_wanted_counts (fun vs H Q E h => ?_) (fun cdv A' outer s H vs Q E hr h => ?_)
  · obtain ⟨ls, h, rfl, _⟩ := h
    rfl
  · obtain ⟨ls, h, rfl, xs, hw, hl3, kk⟩ := h
    refine ⟨_, (pss_one (ps_ret (pe_callTy call_tuple_of (by rfl) T.b_tuple (by decide +kernel) (pa_cons (pe_lc (own := [("service", 1)]) (g := gName 1) rfl sc_wanted_counts.nd (pi_list (pv 0)) (blkOk_by (own := [("service", 1)]) (N := N_wanted_counts) (sc := defScope s_wanted_counts) (by decide +kernel)) (fun _ _ _ _ _ => pg_name (i := 1) sc_wanted_counts.nd rfl (Or.inl rfl)) (fun _ _ _ _ _ => pts_nil) (fun _ _ _ _ _ => (pe_call G_all_of_version (hr.mono (by decide)) rfl T.g_all_of_version T.F_all_of_version.kp T.b_all_of_version .nil pass0 (pa_cons (pe_fldK (K := K) rfl (pv 1) rfl) (pa_cons (pe_fldK (K := K) rfl (pv 1) rfl) (pa_cons (pe_fldK (K := K) rfl (pv 1) rfl) pa_nil)))))) pa_nil)))), ?_⟩
    obtain ⟨sv, xl, xsv⟩ := xs
    have hlen := xsv.length
    refine s_retP (R := isC (absH h).goal) (ep_tupOf (K := K) (lc_tups (K := K) (fun i => ivs ((absH h).goal.getD i [])) (ev_var rfl) (sq_of xl) (by simp only [rv, List.length_map]; omega) (fun _ => rfl) (fun i x H2 e2 hi => ?_)) ?_) fun v H1 e1 r => kk v H1 e1 r
    · obtain ⟨p1, hp1, rfl⟩ := rv_got hi
      rw [List.getElem?_map] at hp1
      cases hsv : sv[i]? with
      | none => rw [hsv] at hp1; cases hp1
      | some p =>
        rw [hsv] at hp1
        cases hp1
        obtain ⟨S, hS, xS⟩ := xsv.getL hsv
        have hW : WFS (absS S) := hw _ (List.mem_map.2 ⟨S, List.mem_of_getElem? hS, rfl⟩)
        have xS2 := xS.mono e2
        have e : (absH h).goal.getD i [] = rowOf S.versions S.goal S.copies := by
          rw [goal_rows, List.getD_eq_getElem?_getD, List.getElem?_map, hS]
          rfl
        rw [e]
        exact ep_call (ea_cons (ev_versions (T := T) xS2 (ev_var rfl)) (ea_cons (ev_wanted (T := T) xS2 (ev_var rfl)) (ea_cons (ev_copies (T := T) xS2 (ev_var rfl)) ea_nil))) fun H3 e3 Q q => ⟨S.versions, S.goal, S.copies, rfl, hW.gl, hW.v3, q⟩
    · rintro v H2 e2 ⟨D, ds, rfl, hD, hdl, hd⟩
      refine ⟨D, rv ds, rfl, hD, fun p hp => ⟨p, rfl, ds, upd_same, ?_⟩⟩
      refine all2_rows ds _ ?_ fun i d hi => (Ex.new hp) _ _ (hd i d hi)
      rw [hdl, goal_rows]
      simp only [rv, List.length_map]
      exact hlen
/-! ### loops over a list that is made there -/
theorem s_forP {tl : TE} {σ : L2.St} {H : Hp} {R : V → Hp → Prop} {D : Ends} {tu : TS} {j : Nat} (h : EvP tl σ H R)
    (k : ∀ v H1, Ex H H1 → R v H1 → ∃ a xs, v = .ref a ∧ SqL K H1 a xs ∧ ∃ Pv : Nat → L2.St → Hp → Prop, Pv 0 σ H1 ∧ (∀ i σ' H', i ≤ xs.length → Pv i σ' H' → SqL K H' a xs) ∧
      (∀ i x σ' H', xs[i]? = some x → Pv i σ' H' → tu { D with nx := Pv (i + 1), ct := Pv (i + 1), bk := D.nx } (σ'.set j (some x)) H') ∧ ∀ σ' H', Pv xs.length σ' H' → D.nx σ' H') : tFor (iList K tl) (gName j) tu D σ H :=
  h H (Ex.refl H) _ fun v H1 e r => by
    obtain ⟨a, xs, rfl, hx, Pv, h0, h1, h2, h3⟩ := k v H1 e r
    exact ⟨a, rfl, ⟨xs, hx⟩, for_list Pv h0 h1 h2 h3⟩
/-! ### sorted(moves) -/
def pk (H : Hp) : V → Int × Int
  | .ref t => match H t with
    | some (.tup [.int i, .int j]) => (i, j)
    | _ => (0, 0)
  | _ => (0, 0)
theorem pk_of {H : Hp} {t : Addr} {m : Nat × Nat} (h : PairAt H t m) : pk H (.ref t) = ((m.1 : Int), (m.2 : Int)) := by
  have h' : H t = some (.tup [.int (m.1 : Int), .int (m.2 : Int)]) := h
  simp only [pk, h']
theorem putMove_perm (m : Nat × Nat) : ∀ l : List (Nat × Nat), (Rp11.putMove m l).Perm (m :: l)
  | [] => List.Perm.refl _
  | n :: r => by
    unfold Rp11.putMove
    split
    · exact List.Perm.refl _
    · exact ((putMove_perm m r).cons n).trans (List.Perm.swap m n r)
theorem sort_perm_aux : ∀ l acc : List (Nat × Nat), (l.foldl (fun acc m => Rp11.putMove m acc) acc).Perm (l ++ acc)
  | [], acc => List.Perm.refl _
  | m :: l, acc => by
    rw [List.foldl_cons]
    refine (sort_perm_aux l _).trans (((putMove_perm m acc).append_left l).trans ?_)
    exact List.perm_middle
theorem sort_perm (l : List (Nat × Nat)) : (sortMoves l).Perm l := by
  have := sort_perm_aux l []
  rwa [List.append_nil] at this
theorem lt2_nodup {l : List (Nat × Nat)} (h : l.Pairwise Lt2) : l.Nodup := by
  refine h.imp fun {a b} q e => ?_
  subst e
  unfold Lt2 at q
  omega
/-- a list of pairs that lie there, rearranged and in order -/
theorem sorted_pairs {H : Hp} {ts : List Addr} {ms : List (Nat × Nat)} {ys : List V} (hm : All2 (PairAt H) ts ms) (ho : (sortMoves ms).Pairwise Lt2) (hs : SrtO.Srtd (ltP (pk H)) ys) (hp : ys.Perm (rv ts)) :
    ∃ ts', ys = rv ts' ∧ All2 (PairAt H) ts' (sortMoves ms) := by
  have back : ∀ y ∈ ys, ∃ t m, y = .ref t ∧ PairAt H t m ∧ m ∈ ms := fun y hy => by
    have := hp.mem_iff.1 hy
    obtain ⟨t, ht, rfl⟩ := List.mem_map.1 this
    obtain ⟨i, hi⟩ := List.mem_iff_getElem?.1 ht
    obtain ⟨m, hm', q⟩ := hm.getL hi
    exact ⟨t, m, rfl, q, List.mem_of_getElem? hm'⟩
  have lay : ∀ l : List V, (∀ y ∈ l, ∃ t m, y = .ref t ∧ PairAt H t m ∧ m ∈ ms) → ∃ ts' ms', l = rv ts' ∧ All2 (PairAt H) ts' ms' := by
    intro l
    induction l with
    | nil => exact fun _ => ⟨[], [], rfl, .nil⟩
    | cons y l ih =>
      intro h
      obtain ⟨t, m, rfl, q, _⟩ := h y List.mem_cons_self
      obtain ⟨ts', ms', e, a⟩ := ih fun z hz => h z (List.mem_cons_of_mem _ hz)
      exact ⟨t :: ts', m :: ms', by rw [e]; rfl, .cons q a⟩
  obtain ⟨ts', ms', rfl, a⟩ := lay ys back
  refine ⟨ts', rfl, ?_⟩
  have keys : ∀ {l : List Addr} {m : List (Nat × Nat)}, All2 (PairAt H) l m → (rv l).map (pk H) = m.map fun p => ((p.1 : Int), (p.2 : Int)) := by
    intro l m q
    induction q with
    | nil => rfl
    | cons r _ ih =>
      show pk H (.ref _) :: (rv _).map (pk H) = _
      rw [pk_of r, ih]
      rfl
  have inj : ∀ {l m : List (Nat × Nat)}, (l.map fun p => ((p.1 : Int), (p.2 : Int))).Perm (m.map fun p => ((p.1 : Int), (p.2 : Int))) → l.Perm m := by
    intro l m q
    have := q.map (fun p : Int × Int => (p.1.toNat, p.2.toNat))
    simpa [List.map_map, Function.comp_def] using this
  have perm : ms'.Perm ms := inj (by
    rw [← keys a, ← keys hm]
    exact hp.map _)
  have nd : ms'.Nodup := ((perm.trans (sort_perm ms).symm).nodup_iff).2 (lt2_nodup ho)
  have so : ms'.Pairwise Lt2 := by
    have h1 : (ms'.map fun p => ((p.1 : Int), (p.2 : Int))).Pairwise fun x y => SrtO.lexB y x = false := by
      rw [← keys a]
      exact List.pairwise_map.2 hs
    have h2 := List.pairwise_map.1 h1
    have h3 := h2.and nd
    refine h3.imp fun {x y} q => ?_
    have h4 := SrtO.lexB_no.1 q.1
    have h5 : x ≠ y := q.2
    have h6 : ¬ (x.1 = y.1 ∧ x.2 = y.2) := fun z => h5 (Prod.ext z.1 z.2)
    unfold Lt2
    simp only at h4
    omega
  have e : ms' = sortMoves ms := sorted_unique _ _ so ho fun x => by rw [perm.mem_iff, (sort_perm ms).mem_iff]
  rw [← e]
  exact a
theorem ep_sorted {σ : L2.St} {H : Hp} {ta : TE} {l : Addr} {ms : List (Nat × Nat)} (ha : Ev ta σ H (.ref l)) (hl : MovesAt H l ms) (ho : (sortMoves ms).Pairwise Lt2) :
    EvP (tCB (rSortedPO K) (tCons ta tNil)) σ H (fun v H2 => ∃ a ts, v = .ref a ∧ H a = none ∧ H2 a = some (.lst (rv ts)) ∧ All2 (PairAt H2) ts (sortMoves ms)) := fun H1 e Q q =>
  ha H1 e _ fun H2 e2 => by
    obtain ⟨ts, h1, h2⟩ := hl.mono (e.trans e2)
    refine ⟨l, rv ts, pk H2, rfl, sq_of h1, fun y hy => ?_, fun ys p hs hb hp => ?_⟩
    · obtain ⟨t, ht, rfl⟩ := List.mem_map.1 hy
      obtain ⟨i, hi⟩ := List.mem_iff_getElem?.1 ht
      obtain ⟨m, _, r⟩ := h2.getL hi
      exact ⟨t, rfl, by rw [pk_of r]; exact r⟩
    · obtain ⟨ts', rfl, a⟩ := sorted_pairs h2 ho hs hb.perm
      exact q _ _ (e2.trans (Ex.new hp)) ⟨p, ts', rfl, fresh_back (e.trans e2) hp, upd_same, a.imp fun _ _ => PairAt.mono (Ex.new hp)⟩
/-! ### the steps, as the program gathers them -/
def stK (h : Rp11.House) (t : Rp11.State) (s : Nat) (m : Nat × Nat) (n : Nat) : List Rp11.Step := ((List.range n).map fun k => (⟨s, m.1, m.2, k + 1⟩ : Rp11.Step)).filter fun x => h.may t x
def stM (h : Rp11.House) (t : Rp11.State) (s : Nat) (ms : List (Nat × Nat)) : List Rp11.Step := ms.flatMap fun m => stK h t s m (h.at_ s).copies
def stS (h : Rp11.House) (t : Rp11.State) (n : Nat) : List Rp11.Step := (List.range n).flatMap fun s => stM h t s (sortMoves (h.at_ s).moves)
theorem stK_succ (h : Rp11.House) (t : Rp11.State) (s : Nat) (m : Nat × Nat) (n : Nat) : stK h t s m (n + 1) = stK h t s m n ++ if h.may t ⟨s, m.1, m.2, n + 1⟩ = true then [⟨s, m.1, m.2, n + 1⟩] else [] := by
  unfold stK
  rw [List.range_succ, List.map_append, List.filter_append]
  congr 1
  simp only [List.map_cons, List.map_nil, List.filter_cons, List.filter_nil]
theorem stM_snoc (h : Rp11.House) (t : Rp11.State) (s : Nat) (ms : List (Nat × Nat)) (m : Nat × Nat) : stM h t s (ms ++ [m]) = stM h t s ms ++ stK h t s m (h.at_ s).copies := by
  unfold stM
  rw [List.flatMap_append]
  simp
theorem stS_succ (h : Rp11.House) (t : Rp11.State) (n : Nat) : stS h t (n + 1) = stS h t n ++ stM h t n (sortMoves (h.at_ n).moves) := by
  unfold stS
  rw [List.range_succ, List.flatMap_append]
  simp
theorem filter_flat {α β : Type} (p : β → Bool) (f : α → List β) : ∀ l : List α, (l.flatMap f).filter p = l.flatMap fun a => (f a).filter p
  | [] => rfl
  | a :: l => by rw [List.flatMap_cons, List.filter_append, filter_flat p f l, List.flatMap_cons]
theorem flatMap_cong {α β : Type} {f g : α → List β} : ∀ {l : List α}, (∀ a ∈ l, f a = g a) → l.flatMap f = l.flatMap g
  | [], _ => rfl
  | a :: l, h => by rw [List.flatMap_cons, List.flatMap_cons, h a List.mem_cons_self, flatMap_cong fun b hb => h b (List.mem_cons_of_mem _ hb)]
theorem stK_le {h : Rp11.House} {t : Rp11.State} {s : Nat} {m : Nat × Nat} : ∀ (d n : Nat), (∀ k, n ≤ k → h.may t ⟨s, m.1, m.2, k + 1⟩ = false) → stK h t s m (n + d) = stK h t s m n
  | 0, n, _ => rfl
  | d + 1, n, hk => by
    rw [← Nat.add_assoc, stK_succ, stK_le d n hk, hk (n + d) (by omega)]
    simp
theorem stS_steps {h : Rp11.House} {t : Rp11.State} (g : Good h t) : stS h t h.services.length = (absH h).steps t := by
  unfold Rp11.House.steps stS
  rw [filter_flat, abs_len]
  refine flatMap_cong fun s hs => ?_
  have h1 := List.mem_range.1 hs
  rw [filter_flat]
  unfold stM
  have em : ((absH h).at_ s).moves = sortMoves (h.at_ s).moves := by rw [abs_at]; rfl
  rw [em]
  refine flatMap_cong fun m hm => ?_
  have hc : Rp11.count t s m.1 ≤ (h.at_ s).copies := by
    have := count_le (h := absH h) g.shape (s := s) (by rw [abs_len]; exact h1) m.1
    rw [abs_at] at this
    exact this
  obtain ⟨d, hd⟩ := Nat.le.dest hc
  have e1 : stK h t s m (h.at_ s).copies = stK h t s m (Rp11.count t s m.1) := by
    rw [← hd]
    refine stK_le d _ fun k hk => ?_
    cases q : h.may t ⟨s, m.1, m.2, k + 1⟩ with
    | false => rfl
    | true =>
      have := (can_of (may_can q)).2.2.2.1
      simp only at this
      omega
  rw [e1]
  unfold stK
  refine List.filter_congr fun x _ => ?_
  rw [abs_may]
theorem stK_len (h : Rp11.House) (t : Rp11.State) (s : Nat) (m : Nat × Nat) (n : Nat) : (stK h t s m n).length ≤ n := by
  unfold stK
  refine Nat.le_trans (List.length_filter_le _ _) ?_
  simp
structure Acc (A : Ad) (H0 : Hp) (fd : Addr) (acc : List Rp11.Step) (H : Hp) : Prop where
  ex : Ex H0 H
  nw : H0 fd = none
  at_ : StepsAt A H fd acc
theorem Acc.go {A : Ad} {H0 H H' : Hp} {fd : Addr} {acc : List Rp11.Step} (a : Acc A H0 fd acc H) (e : Ex H H') : Acc A H0 fd acc H' := ⟨a.ex.trans e, a.nw, a.at_.mono e⟩
theorem StepAt.upd {A : Ad} {H : Hp} {fd p : Addr} {x : Rp11.Step} {xs ys : List V} (h : StepAt A H p x) (hf : H fd = some (.lst xs)) : StepAt A (upd H fd (.lst ys)) p x := by
  obtain ⟨dx, h⟩ := h
  exact ⟨dx, by rw [upd_ne (ne_of h hf (by intro z; cases z))]; exact h⟩
theorem Acc.app {A : Ad} {H0 H : Hp} {fd p : Addr} {acc : List Rp11.Step} {x : Rp11.Step} {ps : List Addr} (a : Acc A H0 fd acc H) (hf : H fd = some (.lst (rv ps))) (hp : All2 (StepAt A H) ps acc) (hx : StepAt A H p x) :
    Acc A H0 fd (acc ++ [x]) (upd H fd (.lst (rv ps ++ [.ref p]))) :=
  ⟨Ex.mut a.ex a.nw, a.nw, ps ++ [p], by rw [upd_same, rv_snoc], (hp.imp fun _ _ q => q.upd hf).snoc (hx.upd hf)⟩
theorem stM_len (h : Rp11.House) (t : Rp11.State) (s : Nat) (hc : (h.at_ s).copies ≤ 2) (ms : List (Nat × Nat)) : (stM h t s ms).length ≤ ms.length * 2 := flat_bound ms fun m _ => Nat.le_trans (stK_len h t s m _) hc
/-! ### steps_from -/
def RetSt (A : Ad) (xs : List Rp11.Step) (H : Hp) (Q : VK) : Prop := ∀ p H2, H p = none → Ex H H2 → StepsAt A H2 p xs → Q (.ref p) H2
def sp_steps_from (A : Ad) : Sp := fun vs H Q _ => ∃ (ls lc l : Addr) (h : Rp11.House) (t : Rp11.State), vs = [.ref ls, .ref lc, .ref l] ∧ HsAt A H ls lc h ∧ CountsAt H l t ∧ Good h t ∧ RetSt A ((absH h).steps t) H Q
theorem at_wfs {h : Rp11.House} (hw : ∀ S ∈ (absH h).services, WFS S) {s : Nat} {S : Rp11.Service} (hS : h.services[s]? = some S) : WFS (absS S) := hw _ (List.mem_map.2 ⟨S, List.mem_of_getElem? hS, rfl⟩)
theorem ok_steps_from (T : Tx K mg A) (G_Step_init : FnOk P w K mg base CX0 1 A.a_Step_init A.d_Step_init p_Step_init (sp_Step_init A))
    (G_may_be_done : FnOk P w K mg base CX0 3 A.a_may_be_done A.d_may_be_done p_may_be_done (sp_may_be_done A)) :
    FnOk P w K mg base CX0 4 A.a_steps_from A.d_steps_from p_steps_from (sp_steps_from A) := by
  refine T.F_steps_from.ok sc_steps_from (fun vs H Q E h => ?_) (fun cdv A' outer s H vs Q E hr h => ?_)
  · obtain ⟨ls, lc, l, h, t, rfl, _⟩ := h
    rfl
  · obtain ⟨ls, lc, l, h, t, rfl, hs, xc, g, kk⟩ := h
    refine ⟨_, (pss_cons (ps_set (i := 3) sc_steps_from.nd rfl (Or.inl rfl) (pe_lst pa_nil))
      (pss_cons (ps_for PassesOwn.never rfl (pi_range1 rfl T.b_range (pa_cons (pe_callB call_len_seq (by rfl) T.b_len PySem.boot_len (pa_cons (pv 0) pa_nil)) pa_nil)) (pg_name (i := 4) sc_steps_from.nd rfl (Or.inl rfl)) (pss_one (ps_for PassesOwn.never rfl (pi_list (pe_callB cr_sortedPO (by rfl) T.b_sorted (by decide +kernel) (pa_cons (pe_fld (pe_ix ix_list (pv 0) (pv 4) (fun _ _ => rfl)) rfl) pa_nil))) (pg_name (i := 5) sc_steps_from.nd rfl (Or.inl rfl)) (pss_one (ps_for PassesOwn.never rfl (pi_range2 rfl T.b_range (pa_cons pe_int (pa_cons (pe_op op_add (pe_fld (pe_ix ix_list (pv 0) (pv 4) (fun _ _ => rfl)) rfl) pe_int) pa_nil))) (pg_name (i := 6) sc_steps_from.nd rfl (Or.inl rfl)) (pss_cons (ps_set (i := 7) sc_steps_from.nd rfl (Or.inl rfl) (pe_make T.mk_Step G_Step_init (hr.mono (by decide)) rfl T.g_Step T.b_Step_init .nil pass0 (pa_cons (pv 4) (pa_cons (pe_ix ix_tup (pv 5) pe_int (fun _ _ => rfl)) (pa_cons (pe_ix ix_tup (pv 5) pe_int (fun _ _ => rfl)) (pa_cons (pv 6) pa_nil))))))
      (pss_one (ps_if (pt_val (pe_call G_may_be_done (hr.mono (by decide)) rfl T.g_may_be_done T.F_may_be_done.kp T.b_may_be_done .nil pass0 (pa_cons (pv 0) (pa_cons (pv 1) (pa_cons (pv 2) (pa_cons (pv 7) pa_nil)))))) (pss_one (ps_expr (pe_bm PySem.F.plainAttrs_list PySem.F.slot_list_append PySem.F.type_list_append mt_append (pv 3) (pa_cons (pv 7) pa_nil)))) pss_nil))))))))
      (pss_one (ps_ret (pv 3))))), ?_⟩
    refine q_asgL (el_lst ea_nil (by decide)) fun fd H1 nf e1 h1 => ?_
    obtain ⟨sv, xl, xsv⟩ := id hs.sv
    have hlen := xsv.length
    have hb3 : ∀ n, n ≤ 3 → (stS h t n).length ≤ 54 := fun n hn => by
      unfold stS
      refine Nat.le_trans (flat_bound (n := 18) _ fun s hs' => ?_) (by rw [List.length_range]; omega)
      by_cases hsl : s < h.services.length
      · have hW := at_wfs g.ser (List.getElem?_eq_getElem hsl)
        have hat := at_of_get (List.getElem?_eq_getElem hsl)
        refine Nat.le_trans (stM_len h t s (by rw [hat]; exact hW.c2) _) ?_
        rw [hat]
        have := moves_le9 hW
        have e : (absS h.services[s]).moves = sortMoves h.services[s].moves := rfl
        rw [e] at this
        omega
      · have hat : h.at_ s = noService := by
          show h.services.getD s _ = _
          rw [List.getD_eq_getElem?_getD, List.getElem?_eq_none (by omega)]
          rfl
        unfold stM
        rw [hat]
        simp [noService, sortMoves]
    refine q_forR1 (n := (h.services.length : Int)) (fun H2 e2 Q q => ev_len (K := K) (ev_var rfl) (sq_of (e1 _ _ xl)) H2 e2 _ fun H3 e3 => ?_) ⟨by omega, by have := g.len; omega⟩
      (fun n σ' H' => (∃ v4 v5 v6 v7, σ' = [some (.ref ls), some (.ref lc), some (.ref l), some (.ref fd), v4, v5, v6, v7]) ∧ Acc A H fd (stS h t n) H')
      (fun H2 e2 => ⟨⟨none, none, none, none, rfl⟩, e1.trans e2, nf, [], e2 _ _ h1, .nil⟩) ?_ ?_
    · have : ((rv (sv.map (·.1))).length : Int) = (h.services.length : Int) := by simp only [rv, List.length_map]; omega
      rw [this]
      exact q H3 e3
    · rintro n σ' H' hn ⟨⟨v4, v5, v6, v7, rfl⟩, ac⟩
      have hnl : n < h.services.length := by omega
      obtain ⟨S, r, G⟩ := got (t := t) g.ser g.shape hnl
      have hat := at_of_get G.at_
      have hW := at_wfs g.ser G.at_
      obtain ⟨p1, xS, ev⟩ := ev_serviceL (K := K) (σ := [some (.ref ls), some (.ref lc), some (.ref l), some (.ref fd), some (iv n), v5, v6, v7]) (hs.sv.mono ac.ex) G.at_ (ta := tVar 0) (ev_var rfl) (tb := tVar 4) (ev_var rfl)
      refine s_forP (K := K) (ep_sorted (ev_moves (T := T) xS ev) xS.mv hW.so) ?_
      rintro v H2 e2 ⟨a, ts, rfl, na, ha, hts⟩
      have hl9 : (sortMoves S.moves).length ≤ 9 := moves_le9 hW
      have htl := hts.length
      refine ⟨a, rv ts, rfl, sq_of ha, (fun i σ' H' => (∃ v5 v6 v7, σ' = [some (.ref ls), some (.ref lc), some (.ref l), some (.ref fd), some (iv n), v5, v6, v7]) ∧ Acc A H fd (stS h t n ++ stM h t n ((sortMoves S.moves).take i)) H' ∧ H' a = some (.lst (rv ts)) ∧ All2 (PairAt H') ts (sortMoves S.moves)),
        ⟨⟨v5, v6, v7, rfl⟩, by rw [List.take_zero]; simp only [stM, List.flatMap_nil, List.append_nil]; exact ac.go e2, ha, hts⟩, fun i σ' H' _ q => sq_of q.2.2.1, ?_, ?_⟩
      · rintro i y σ' H3 hi ⟨⟨v5, v6, v7, rfl⟩, ac3, ha3, hts3⟩
        obtain ⟨mt, hmt, rfl⟩ := rv_got hi
        obtain ⟨m, hm, xm⟩ := hts3.getL hmt
        have hil : i < 9 := by have := (List.getElem?_eq_some_iff.mp hm).1; omega
        have naf : a ≠ fd := fun e => by
          obtain ⟨ps, q1, _⟩ := ac.at_
          rw [e, q1] at na
          cases na
        have hs3 := hs.mono ac3.ex
        obtain ⟨p3, xS3, ev3⟩ := ev_serviceL (K := K) (σ := [some (.ref ls), some (.ref lc), some (.ref l), some (.ref fd), some (iv n), some (.ref mt), v6, v7]) hs3.sv G.at_ (ta := tVar 0) (ev_var rfl) (tb := tVar 4) (ev_var rfl)
        have htake : (sortMoves S.moves).take (i + 1) = (sortMoves S.moves).take i ++ [m] := by
          rw [List.take_add_one, hm]
          rfl
        refine s_forR2 (lo := 1) (n := (S.copies : Int) + 1) (ea_cons ev_c (ea_cons (ev_op (ev_copies (T := T) xS3 ev3) ev_c rv_I0) ea_nil)) ⟨by omega, by omega, by omega, by have := hW.c2; show (S.copies : Int) + 1 ≤ 100000; have : S.copies ≤ 2 := this; omega⟩
          (fun k σ' H' => (∃ v6 v7, σ' = [some (.ref ls), some (.ref lc), some (.ref l), some (.ref fd), some (iv n), some (.ref mt), v6, v7]) ∧ Acc A H fd (stS h t n ++ stM h t n ((sortMoves S.moves).take i) ++ stK h t n m k) H' ∧ H' a = some (.lst (rv ts)) ∧ All2 (PairAt H') ts (sortMoves S.moves))
          (fun H4 e4 => ⟨⟨v6, v7, rfl⟩, by simp only [stK, List.range_zero, List.map_nil, List.filter_nil, List.append_nil]; exact ac3.go e4, e4 _ _ ha3, hts3.imp fun _ _ => PairAt.mono e4⟩) ?_ ?_
        · rintro k σ' H4 hk ⟨⟨v6, v7, rfl⟩, ac4, ha4, hts4⟩
          have ek : (1 : Int) + (k : Int) = ((k + 1 : Nat) : Int) := by omega
          rw [ek]
          obtain ⟨m', hm', xm4⟩ := hts4.getL hmt
          rw [hm] at hm'
          cases hm'
          have hk2 : k < 2 := by have : S.copies ≤ 2 := hW.c2; omega
          refine q_asgP (ep_step ⟨n, m.1, m.2, k + 1⟩ (ea_cons (ev_var rfl) (ea_cons (ev_op (ev_var rfl) ev_c (rv_ixT (st_of xm4) (atI_nat (j := 0) rfl))) (ea_cons (ev_op (ev_var rfl) ev_c (rv_ixT (st_of xm4) (atI_nat (j := 1) rfl))) (ea_cons (ev_var rfl) ea_nil))))) fun v5' H5 e5 ⟨p, hv5, xp⟩ => ?_
          subst hv5
          have ac5 := ac4.go e5
          refine s_when (et_test (ev_call (ea_cons (ev_var rfl) (ea_cons (ev_var rfl) (ea_cons (ev_var rfl) (ea_cons (ev_var rfl) ea_nil)))) (z := .bl (h.may t ⟨n, m.1, m.2, k + 1⟩)) fun H6 e6 Q q E =>
            ⟨ls, lc, l, p, h, t, ⟨n, m.1, m.2, k + 1⟩, rfl, hs.mono (ac5.ex.trans e6), xc.mono (ac5.ex.trans e6), xp.mono e6, g, q⟩)) (fun hb H6 e6 => ?_) (fun hb H6 e6 => ?_)
          · have ac6 := ac5.go e6
            obtain ⟨ps, hf, hps⟩ := ac6.at_
            have hpl := hps.length
            refine s_app hf (ev_var rfl) (ev_var rfl) ?_ fun H7 e7 => ⟨⟨_, _, rfl⟩, ?_, ?_, ?_⟩
            · rw [rv_len, hpl, List.length_append, List.length_append]
              have b1 := hb3 n (by have := g.len; omega)
              have b2 := stM_len h t n (by rw [hat]; exact hW.c2) ((sortMoves S.moves).take i)
              have b3 := stK_len h t n m k
              rw [List.length_take] at b2
              omega
            · rw [stK_succ, if_pos hb, ← List.append_assoc]
              exact (ac6.go e7).app (e7 _ _ hf) (hps.imp fun _ _ => StepAt.mono e7) ((xp.mono e6).mono e7)
            · rw [upd_ne naf]
              exact e7 _ _ (e6 _ _ (e5 _ _ ha4))
            · refine hts4.imp fun _ _ q => ?_
              have q7 := ((PairAt.mono e5 q).mono e6).mono e7
              show (upd H7 fd _) _ = _
              rw [upd_ne (ne_of q7 (e7 _ _ hf) (by intro z; cases z))]
              exact q7
          · refine ⟨⟨_, _, rfl⟩, ?_, e6 _ _ (e5 _ _ ha4), hts4.imp fun _ _ q => (PairAt.mono e5 q).mono e6⟩
            rw [stK_succ, hb]
            simp only [Bool.false_eq_true, if_false, List.append_nil]
            exact ac5.go e6
        · rintro σ' H4 ⟨⟨v6, v7, rfl⟩, ac4, ha4, hts4⟩
          refine ⟨⟨_, _, _, rfl⟩, ?_, ha4, hts4⟩
          have ec : ((S.copies : Int) + 1 - 1).toNat = S.copies := by omega
          rw [ec, List.append_assoc] at ac4
          rw [htake, stM_snoc, hat]
          exact ac4
      · rintro σ' H3 ⟨⟨v5, v6, v7, rfl⟩, ac3, ha3, hts3⟩
        refine ⟨⟨_, _, _, _, rfl⟩, ?_⟩
        rw [rv_len, htl, List.take_length] at ac3
        rw [stS_succ, hat]
        exact ac3
    · rintro σ' H' ⟨⟨v4, v5, v6, v7, rfl⟩, ac⟩
      rw [Int.toNat_natCast, stS_steps g] at ac
      refine s_ret (ev_var rfl) fun H2 e2 => ?_
      exact kk fd H2 nf (ac.ex.trans e2) (ac.at_.mono e2)
end
end Up

namespace Up
open PySem PySem.Spec PyProof.Rows L2 Evl
section
variable {P : Program} {w : World} {K : PySem.W.Frag} {mg : Str → Option Value} {base : Heap} {A : Ad}
/-! ### reading a dict -/
theorem valN_mem : ∀ {xs : List (Rp11.State × Addr × V)} {u : Rp11.State}, u ∈ xs.map (·.1) → ∃ x ∈ xs, x.1 = u ∧ valN xs u = some x.2.2
  | [], u, h => by simp at h
  | p :: r, u, h => by
    by_cases e : p.1 = u
    · exact ⟨p, List.mem_cons_self, e, valN_pos e⟩
    · have h' : u ∈ r.map (·.1) := by
        rcases List.mem_cons.1 h with q | q
        · exact absurd q.symm e
        · exact q
      obtain ⟨x, hx, e1, e2⟩ := valN_mem h'
      exact ⟨x, List.mem_cons_of_mem _ hx, e1, by rw [valN_neg e]; exact e2⟩
theorem valN_not : ∀ {xs : List (Rp11.State × Addr × V)} {u : Rp11.State}, u ∉ xs.map (·.1) → valN xs u = none
  | [], u, h => rfl
  | p :: r, u, h => by
    have e : ¬ p.1 = u := fun q => h (by rw [List.map_cons, q]; exact List.mem_cons_self)
    rw [valN_neg e]
    exact valN_not fun q => h (by rw [List.map_cons]; exact List.mem_cons_of_mem _ q)
theorem valN_is {xs : List (Rp11.State × Addr × V)} {u : Rp11.State} [Decidable (u ∈ xs.map (·.1))] : (valN xs u).isSome = decide (u ∈ xs.map (·.1)) := by
  by_cases c : u ∈ xs.map (·.1)
  · obtain ⟨x, _, _, e⟩ := valN_mem c
    rw [e, decide_eq_true c]
    rfl
  · rw [valN_not c, decide_eq_false c]
    rfl
section
variable {σ : L2.St} {H : Hp} {td ty tv tx : TE} {d b : Addr} {t : Rp11.State} {xs : List (Rp11.State × Addr × V)} {v : V}
theorem ev_nget (hd : Ev td σ H (.ref d)) (hy : Ev ty σ H (.ref b)) (x : DictN P w H d xs) (k : CountsAt H b t) (l : valN xs t = some v) : Ev (tNGet P w td ty) σ H v := fun H1 e Q q =>
  hd H1 e _ fun H2 e2 => hy H2 (e.trans e2) _ fun H3 e3 => ⟨d, xs, b, t, v, rfl, rfl, x.mono ((e.trans e2).trans e3), k.mono ((e.trans e2).trans e3), l, q H3 (e2.trans e3)⟩
theorem ev_nin (hy : Ev ty σ H (.ref b)) (hd : Ev td σ H (.ref d)) (x : DictN P w H d xs) (k : CountsAt H b t) : Ev (tNIn P w ty td) σ H (.bl (valN xs t).isSome) := fun H1 e Q q =>
  hy H1 e _ fun H2 e2 => hd H2 (e.trans e2) _ fun H3 e3 => ⟨d, xs, b, t, rfl, rfl, x.mono ((e.trans e2).trans e3), k.mono ((e.trans e2).trans e3), q H3 (e2.trans e3)⟩
theorem ev_nnotin (hy : Ev ty σ H (.ref b)) (hd : Ev td σ H (.ref d)) (x : DictN P w H d xs) (k : CountsAt H b t) : Ev (tNNotIn P w ty td) σ H (.bl (!(valN xs t).isSome)) := fun H1 e Q q =>
  hy H1 e _ fun H2 e2 => hd H2 (e.trans e2) _ fun H3 e3 => ⟨d, xs, b, t, rfl, rfl, x.mono ((e.trans e2).trans e3), k.mono ((e.trans e2).trans e3), q H3 (e2.trans e3)⟩
end
/-! ### lists of states, a dict of such lists -/
def CListAt (H : Hp) (l : Addr) (ts : List Rp11.State) : Prop := ∃ bs, H l = some (.lst (rv bs)) ∧ All2 (CountsAt H) bs ts
theorem CListAt.mono {H H' : Hp} (e : Ex H H') {l ts} (h : CListAt H l ts) : CListAt H' l ts := h.imp fun _ q => ⟨e _ _ q.1, q.2.imp fun _ _ => CountsAt.mono e⟩
section off
variable {H H' : Hp} {x : Addr} {o : HO} (e : Off x H H') (hx : H x = some o) (nt : ∀ xs, o ≠ .tup xs)
include e hx nt
theorem RowAt.off {t p} (h : RowAt H t p) : RowAt H' t p := e _ _ h (ne_of h hx (fun q => nt _ q.symm))
theorem CountsAt.off {b t} (h : CountsAt H b t) : CountsAt H' b t := by
  obtain ⟨rows, h1, h2⟩ := h
  exact ⟨rows, e _ _ h1 (ne_of h1 hx (fun q => nt _ q.symm)), h2.imp fun _ _ q => q.off e hx nt⟩
theorem CListAt.off {l ts} (h : CListAt H l ts) (hl : l ≠ x) : CListAt H' l ts := h.imp fun _ q => ⟨e _ _ q.1 hl, q.2.imp fun _ _ r => r.off e hx nt⟩
omit hx nt in
theorem StepsAt.off {A : Ad} {l ss} (h : StepsAt A H l ss) (hl : l ≠ x) (hi : ∀ C dx fs, H x ≠ some (.ins C dx fs)) : StepsAt A H' l ss := h.imp fun _ q => ⟨e _ _ q.1 hl, q.2.imp fun p _ r => by
  obtain ⟨dx, r⟩ := r
  exact ⟨dx, e _ _ r fun z => hi _ _ _ (z ▸ r)⟩⟩
end off
def eN (e : Rp11.State × Addr × Addr) : Rp11.State × Addr × V := (e.1, e.2.1, .ref e.2.2)
theorem eN_keys (es : List (Rp11.State × Addr × Addr)) : (es.map eN).map (·.1) = es.map (·.1) := by simp [eN]
structure Bst (P : Program) (w : World) (H0 : Hp) (d q : Addr) (es : List (Rp11.State × Addr × Addr)) (pr : Rp11.State → List Rp11.State) (H : Hp) : Prop where
  ex : Ex H0 H
  nd0 : H0 d = none
  nq : H0 q = none
  dict : H d = some (DN P w d (es.map eN))
  keys : ∀ e ∈ es, CountsAt H e.2.1 e.1
  lnd : (es.map (·.2.2)).Nodup
  lst : ∀ e ∈ es, H0 e.2.2 = none ∧ CListAt H e.2.2 (pr e.1)
  qn : q ∉ es.map (·.2.2)
theorem Bst.go {H0 H H' : Hp} {d q es pr} (b : Bst P w H0 d q es pr H) (e : Ex H H') : Bst P w H0 d q es pr H' :=
  ⟨b.ex.trans e, b.nd0, b.nq, e _ _ b.dict, fun x hx => (b.keys x hx).mono e, b.lnd, fun x hx => ⟨(b.lst x hx).1, (b.lst x hx).2.mono e⟩, b.qn⟩
theorem Bst.dictN {H0 H : Hp} {d q es pr} (b : Bst P w H0 d q es pr H) : DictN P w H d (es.map eN) := ⟨b.dict, fun x hx => by
  obtain ⟨e, he, rfl⟩ := List.mem_map.1 hx
  exact b.keys e he⟩
theorem dn_tup {d xs} : ∀ ys, DN P w d xs ≠ .tup ys := fun ys h => by unfold DN at h; cases h
theorem lst_tup {xs : List V} : ∀ ys, HO.lst xs ≠ .tup ys := fun ys h => by cases h
theorem dn_lst {d xs} {ys : List V} : HO.lst ys ≠ DN P w d xs := fun h => by unfold DN at h; cases h
/-- a new key with a new list -/
theorem Bst.new {H0 H : Hp} {d q es pr} (b : Bst P w H0 d q es pr H) {u : Rp11.State} {ub l : Addr} (hu : CountsAt H ub u) (hl0 : H0 l = none) (hl : H l = some (.lst [])) (hnl : l ∉ es.map (·.2.2)) (hlq : l ≠ q) (hp : pr u = []) :
    Bst P w H0 d q (es ++ [(u, ub, l)]) pr (upd H d (DN P w d (es.map eN ++ [(u, ub, .ref l)]))) := by
  have off : Off d H (upd H d (DN P w d (es.map eN ++ [(u, ub, .ref l)]))) := Off.upd (Ex.refl H)
  have ld : ∀ {l : Addr} {ts}, CListAt H l ts → l ≠ d := fun h => by
    obtain ⟨bs, h1, _⟩ := h
    exact ne_of h1 b.dict dn_lst
  refine ⟨Ex.mut b.ex b.nd0, b.nd0, b.nq, by rw [upd_same, List.map_append]; rfl, ?_, ?_, ?_, ?_⟩
  · intro e he
    rcases List.mem_append.1 he with c | c
    · exact (b.keys e c).off off b.dict dn_tup
    · rw [List.mem_singleton] at c
      rw [c]
      exact hu.off off b.dict dn_tup
  · rw [List.map_append, List.nodup_append]
    refine ⟨b.lnd, by simp, fun x hx y hy z => ?_⟩
    simp only [List.map_cons, List.map_nil, List.mem_singleton] at hy
    exact hnl (by rw [← hy, ← z]; exact hx)
  · intro e he
    rcases List.mem_append.1 he with c | c
    · exact ⟨(b.lst e c).1, (b.lst e c).2.off off b.dict dn_tup (ld (b.lst e c).2)⟩
    · rw [List.mem_singleton] at c
      rw [c]
      refine ⟨hl0, [], ?_, ?_⟩
      · show (upd H d _) l = _
        rw [upd_ne (ne_of hl b.dict dn_lst)]
        exact hl
      · show All2 _ [] (pr u)
        rw [hp]
        exact .nil
  · rw [List.map_append, List.mem_append]
    rintro (c | c)
    · exact b.qn c
    · simp only [List.map_cons, List.map_nil, List.mem_singleton] at c
      exact hlq c.symm
/-- the queue changes -/
theorem Bst.q {H0 H : Hp} {d q es pr} (b : Bst P w H0 d q es pr H) {xs ys : List V} (hq : H q = some (.lst xs)) : Bst P w H0 d q es pr (upd H q (.lst ys)) := by
  have off : Off q H (upd H q (.lst ys)) := Off.upd (Ex.refl H)
  refine ⟨Ex.mut b.ex b.nq, b.nd0, b.nq, ?_, fun e he => (b.keys e he).off off hq lst_tup, b.lnd, fun e he => ⟨(b.lst e he).1, (b.lst e he).2.off off hq lst_tup ?_⟩, b.qn⟩
  · rw [upd_ne (Ne.symm (ne_of hq b.dict dn_lst))]
    exact b.dict
  · exact fun z => b.qn (by rw [← z]; exact List.mem_map.2 ⟨e, he, rfl⟩)
/-- a list of the dict grows -/
theorem Bst.app {H0 H : Hp} {d q es pr} (b : Bst P w H0 d q es pr H) (kn : (es.map (·.1)).Nodup) {e : Rp11.State × Addr × Addr} (he : e ∈ es) {bs : List Addr} (hb : H e.2.2 = some (.lst (rv bs))) (ha : All2 (CountsAt H) bs (pr e.1)) {c : Addr} {t : Rp11.State} (hc : CountsAt H c t) :
    Bst P w H0 d q es (addP pr e.1 t) (upd H e.2.2 (.lst (rv bs ++ [.ref c]))) := by
  have off : Off e.2.2 H (upd H e.2.2 (.lst (rv bs ++ [.ref c]))) := Off.upd (Ex.refl H)
  refine ⟨Ex.mut b.ex (b.lst e he).1, b.nd0, b.nq, ?_, fun x hx => (b.keys x hx).off off hb lst_tup, b.lnd, fun x hx => ⟨(b.lst x hx).1, ?_⟩, b.qn⟩
  · rw [upd_ne (Ne.symm (ne_of hb b.dict dn_lst))]
    exact b.dict
  · by_cases z : x = e
    · subst z
      refine ⟨bs ++ [c], by rw [upd_same, rv_snoc], ?_⟩
      have e1 : addP pr x.1 t x.1 = pr x.1 ++ [t] := if_pos rfl
      rw [e1]
      exact (ha.imp fun _ _ r => r.off off hb lst_tup).snoc (hc.off off hb lst_tup)
    · have ne : x.2.2 ≠ e.2.2 := fun y => by
        obtain ⟨i, hi⟩ := List.mem_iff_getElem?.1 hx
        obtain ⟨j, hj⟩ := List.mem_iff_getElem?.1 he
        have := nd_ix b.lnd (x := x.2.2) (i := i) (j := j) (by rw [List.getElem?_map, hi]; rfl) (by rw [List.getElem?_map, hj, y]; rfl)
        subst this
        rw [hi] at hj
        exact z (Option.some.inj hj)
      have ne1 : ¬ x.1 = e.1 := fun y => by
        obtain ⟨i, hi⟩ := List.mem_iff_getElem?.1 hx
        obtain ⟨j, hj⟩ := List.mem_iff_getElem?.1 he
        have := nd_ix kn (x := x.1) (i := i) (j := j) (by rw [List.getElem?_map, hi]; rfl) (by rw [List.getElem?_map, hj, y]; rfl)
        subst this
        rw [hi] at hj
        exact z (Option.some.inj hj)
      have e1 : addP pr e.1 t x.1 = pr x.1 := if_neg ne1
      rw [e1]
      exact (b.lst x hx).2.off off hb lst_tup ne
/-! ### counts_before -/
structure BefAt (P : Program) (w : World) (H : Hp) (d : Addr) (es : List (Rp11.State × Addr × Addr)) (pr : Rp11.State → List Rp11.State) : Prop where
  dict : DictN P w H d (es.map eN)
  lst : ∀ e ∈ es, CListAt H e.2.2 (pr e.1)
theorem BefAt.mono {H H' : Hp} {d es pr} (e : Ex H H') (b : BefAt P w H d es pr) : BefAt P w H' d es pr := ⟨b.dict.mono e, fun x hx => (b.lst x hx).mono e⟩
def BWh (P : Program) (w : World) (H0 : Hp) (ls lc l d q : Addr) (h : Rp11.House) (t0 : Rp11.State) (place : Nat) (σ : L2.St) (H : Hp) : Prop :=
  ∃ (es : List (Rp11.State × Addr × Addr)) (pr : Rp11.State → List Rp11.State), place ≤ es.length ∧ (∃ v6 v7 v8, σ = [some (.ref ls), some (.ref lc), some (.ref l), some (.ref d), some (.ref q), some (iv place), v6, v7, v8]) ∧ Bst P w H0 d q es pr H ∧ CListAt H q (es.map (·.1)) ∧ Fw (absH h) t0 (es.map (·.1)) pr place []
/-- within a turn of the loop over the steps of t = the place-th that was come to -/
def BIn (P : Program) (w : World) (A : Ad) (H0 : Hp) (ls lc l d q c a : Addr) (ps : List Addr) (h : Rp11.House) (t0 t : Rp11.State) (place : Nat) (n : Nat) (σ : L2.St) (H : Hp) : Prop :=
  ∃ (es : List (Rp11.State × Addr × Addr)) (pr : Rp11.State → List Rp11.State), place < es.length ∧ (∃ v7 v8, σ = [some (.ref ls), some (.ref lc), some (.ref l), some (.ref d), some (.ref q), some (iv place), some (.ref c), v7, v8]) ∧ Bst P w H0 d q es pr H ∧ CListAt H q (es.map (·.1)) ∧
    Fw (absH h) t0 (es.map (·.1)) pr place (((absH h).steps t).take n) ∧ H a = some (.lst (rv ps)) ∧ All2 (StepAt A H) ps ((absH h).steps t) ∧ a ∉ es.map (·.2.2) ∧ (es.map (·.1))[place]? = some t ∧ CountsAt H c t
theorem before_last {H0 H8 : Hp} {ls lc l d q c a sp ub : Addr} {ps : List Addr} {h : Rp11.House} {t0 t : Rp11.State} {place i : Nat} {x : Rp11.Step} {es : List (Rp11.State × Addr × Addr)} {pr : Rp11.State → List Rp11.State} {D : Ends} (hlt : place < es.length) (b8 : Bst P w H0 d q es pr H8) (xq8 : CListAt H8 q (es.map (·.1)))
    (um : Rp11.after t x ∈ es.map (·.1)) (f8 : Fw (absH h) t0 (es.map (·.1)) (addP pr (Rp11.after t x) t) place (((absH h).steps t).take (i + 1))) (sz : ∀ u, (pr u).length < 100000) (ha8 : H8 a = some (.lst (rv ps))) (hpa8 : All2 (StepAt A H8) ps ((absH h).steps t)) (nae8 : a ∉ es.map (·.2.2))
    (ht8 : (es.map (·.1))[place]? = some t) (xc8 : CountsAt H8 c t) (xu8 : CountsAt H8 ub (Rp11.after t x)) (k : ∀ σ H, BIn P w A H0 ls lc l d q c a ps h t0 t place (i + 1) σ H → D.nx σ H) :
    tDrop (tBM K "list" rAppend (tNGet P w (tVar 3) (tVar 8)) (tCons (tVar 6) tNil)) D [some (.ref ls), some (.ref lc), some (.ref l), some (.ref d), some (.ref q), some (iv place), some (.ref c), some (.ref sp), some (.ref ub)] H8 := by
  obtain ⟨z, hz, ez, vz⟩ := valN_mem (xs := es.map eN) (u := Rp11.after t x) (by rw [eN_keys]; exact um)
  obtain ⟨e, he, rfl⟩ := List.mem_map.1 hz
  have ez' : e.1 = Rp11.after t x := ez
  obtain ⟨_, bs, hbs, hba⟩ := b8.lst e he
  have hbl := hba.length
  refine s_app (K := K) hbs (ev_nget (ev_var rfl) (ev_var rfl) b8.dictN xu8 vz) (ev_var rfl) (by rw [rv_len, hbl]; exact sz _) fun H9 e9 => k _ _ ?_
  have b9 := b8.go e9
  have off : Off e.2.2 H9 (upd H9 e.2.2 (.lst (rv bs ++ [.ref c]))) := Off.upd (Ex.refl H9)
  have hbs9 := e9 _ _ hbs
  have lm : e.2.2 ∈ es.map (·.2.2) := List.mem_map.2 ⟨e, he, rfl⟩
  refine ⟨es, _, hlt, ⟨_, _, rfl⟩, b9.app f8.nd he hbs9 (hba.imp fun _ _ => CountsAt.mono e9) (xc8.mono e9), (xq8.mono e9).off off hbs9 lst_tup (fun z => b8.qn (by rw [z]; exact lm)), by rw [ez']; exact f8, off _ _ (e9 _ _ ha8) (fun z => nae8 (by rw [z]; exact lm)), ?_, nae8, ht8, (xc8.mono e9).off off hbs9 lst_tup⟩
  exact (hpa8.imp fun _ _ r => r.mono e9).imp fun _ _ r => r.upd hbs9
def sp_counts_before (P : Program) (w : World) (A : Ad) : Sp := fun vs H Q _ => ∃ (ls lc l : Addr) (h : Rp11.House) (t : Rp11.State), vs = [.ref ls, .ref lc, .ref l] ∧ HsAt A H ls lc h ∧ CountsAt H l t ∧ Good h t ∧
  RetP (fun v H2 => ∃ (d : Addr) (es : List (Rp11.State × Addr × Addr)) (pr : Rp11.State → List Rp11.State), v = .ref d ∧ Pre (absH h) t (es.map (·.1)) pr ∧ BefAt P w H2 d es pr) H Q
theorem ok_counts_before (T : Tx K mg A) (G_steps_from : FnOk P w K mg base CX0 4 A.a_steps_from A.d_steps_from p_steps_from (sp_steps_from A))
    (G_counts_behind : FnOk P w K mg base CX0 1 A.a_counts_behind A.d_counts_behind p_counts_behind (sp_counts_behind A)) :
    FnOk P w K mg base CX0 5 A.a_counts_before A.d_counts_before p_counts_before (sp_counts_before P w A) := by
  refine T.F_counts_before.ok sc_counts_before (fun vs H Q E h => ?_) (fun cdv A' outer s H vs Q E hr h => ?_)
  · obtain ⟨ls, lc, l, h, t0, rfl, _⟩ := h
    rfl
  · obtain ⟨ls, lc, l, h, t0, rfl, hs, xc, g, kk⟩ := h
    refine ⟨_, (pss_cons (ps_set (i := 3) sc_counts_before.nd rfl (Or.inl rfl) (pe_ndisp (P := P) (w := w) rfl rfl (hu65 hr) (pv 2) (pe_lst pa_nil)))
      (pss_cons (ps_set (i := 4) sc_counts_before.nd rfl (Or.inl rfl) (pe_lst (pa_cons (pv 2) pa_nil)))
      (pss_cons (ps_set (i := 5) sc_counts_before.nd rfl (Or.inl rfl) pe_int)
      (pss_cons (ps_while PassesOwn.never (pt_cmpR op_lt (pv 5) (pe_callB call_len_seq (by rfl) T.b_len PySem.boot_len (pa_cons (pv 4) pa_nil)) (nomark _)) (pss_cons (ps_set (i := 6) sc_counts_before.nd rfl (Or.inl rfl) (pe_ix ix_list (pv 4) (pv 5) (fun _ _ => rfl)))
      (pss_cons (ps_for PassesOwn.never rfl (pi_list (pe_call G_steps_from (hr.mono (by decide)) rfl T.g_steps_from T.F_steps_from.kp T.b_steps_from .nil pass0 (pa_cons (pv 0) (pa_cons (pv 1) (pa_cons (pv 6) pa_nil))))) (pg_name (i := 7) sc_counts_before.nd rfl (Or.inl rfl)) (pss_cons (ps_set (i := 8) sc_counts_before.nd rfl (Or.inl rfl) (pe_call G_counts_behind (hr.mono (by decide)) rfl T.g_counts_behind T.F_counts_behind.kp T.b_counts_behind .nil pass0 (pa_cons (pv 6) (pa_cons (pv 7) pa_nil))))
      (pss_cons (ps_if (pt_cmp (pc_nnotin (P := P) (w := w) rfl rfl (hu65 hr) (pv 8) (pv 3))) (pss_cons (ps_nput (P := P) (w := w) rfl rfl (hu65 hr) (pv 3) (pv 8) (pe_lst pa_nil) rfl)
      (pss_one (ps_expr (pe_bm PySem.F.plainAttrs_list PySem.F.slot_list_append PySem.F.type_list_append mt_append (pv 4) (pa_cons (pv 8) pa_nil))))) pss_nil)
      (pss_one (ps_expr (pe_bm PySem.F.plainAttrs_list PySem.F.slot_list_append PySem.F.type_list_append mt_append (pe_nget (P := P) (w := w) rfl rfl (hu65 hr) (pv 3) (pv 8) (fun _ _ => rfl)) (pa_cons (pv 6) pa_nil)))))))
      (pss_one (ps_aug (i := 5) sc_counts_before.nd rfl (Or.inl rfl) pe_int ip_add)))))
      (pss_one (ps_ret (pv 3))))))), ?_⟩
    -- before = {now: []}
    refine fun d nd => ⟨.ref l, rfl, ?_⟩
    refine ⟨by show 0 ≤ sizeLine; decide, fun l0 nl0 => ?_⟩
    have ed : Ex H (upd H d (DN P w d [])) := Ex.new nd
    have el : Ex (upd H d (DN P w d [])) (upd (upd H d (DN P w d [])) l0 (.lst [])) := Ex.new nl0
    have hld : l0 ≠ d := fun e => by rw [e, upd_same] at nl0; cases nl0
    refine ⟨l, t0, rfl, by rw [upd_ne (Ne.symm hld), upd_same], (xc.mono ed).mono el, ?_⟩
    have nl0' : H l0 = none := by rwa [upd_ne hld] at nl0
    have ex1 : Ex H (upd (upd (upd H d (DN P w d [])) l0 (.lst [])) d (DN P w d [(t0, l, .ref l0)])) := Ex.mut (ed.trans el) nd
    -- reached = [now]
    refine q_asgL (el_lst (ea_cons (ev_var rfl) ea_nil) (by show 1 ≤ 100000; decide)) fun q H1 nq e1 h1 => ?_
    have nq0 : H q = none := fresh_back ex1 nq
    have hql : q ≠ l0 := fun e => by rw [e, upd_ne hld, upd_same] at nq; cases nq
    have b0 : Bst P w H d q [(t0, l, l0)] (fun _ => []) H1 := by
      refine ⟨ex1.trans e1, nd, nq0, e1 _ _ (by rw [upd_same]; rfl), ?_, by simp, ?_, by simpa using hql⟩
      · intro e he
        rw [List.mem_singleton] at he
        rw [he]
        exact xc.mono (ex1.trans e1)
      · intro e he
        rw [List.mem_singleton] at he
        rw [he]
        exact ⟨nl0', [], e1 _ _ (by rw [upd_ne hld, upd_same]; rfl), .nil⟩
    have q0 : CListAt H1 q [t0] := ⟨[l], h1, .cons (xc.mono (ex1.trans e1)) .nil⟩
    refine q_asg ev_c fun H2 e2 => ?_
    -- the loop
    refine q_while (fun m σ' H' => ∃ place, m + place = 217 ∧ BWh P w H ls lc l d q h t0 place σ' H') 217 ⟨0, rfl, [(t0, l, l0)], _, Nat.zero_le _, ⟨none, none, none, rfl⟩, b0.go e2, q0.mono e2, fw_init g.shape⟩ ?_
    rintro m σ' H' ⟨place, hm, es, pr, hpl, ⟨v6, v7, v8, rfl⟩, b, xq, f⟩
    have hb216 : es.length ≤ 216 := by
      have := f.bound g.ser (by rw [abs_len]; exact g.len)
      rwa [List.length_map] at this
    obtain ⟨qs, hq, hqs⟩ := id xq
    have hql' := hqs.length
    rw [List.length_map] at hql'
    refine ⟨_, et_test (ev_op (ev_var rfl) (ev_len (ev_var rfl) (sq_of hq)) rv_I0), fun hb H3 e3 => ?_, fun hb H3 e3 => ?_⟩
    · simp only [decide_eq_true_eq, rv_len] at hb
      have hlt : place < es.length := by omega
      obtain ⟨t, ht⟩ : ∃ t, (es.map (·.1))[place]? = some t := ⟨_, List.getElem?_eq_getElem (by rw [List.length_map]; exact hlt)⟩
      obtain ⟨c, hc, xct⟩ := hqs.get ht
      have tm : t ∈ es.map (·.1) := List.mem_of_getElem? ht
      have gt : Good h t := ⟨g.ser, g.len, g.clv, f.sh t tm⟩
      have hb54 := steps_bound (h := absH h) g.ser (by rw [abs_len]; exact g.len) (f.sh t tm)
      refine ⟨BWh P w H ls lc l d q h t0 (place + 1), ?_, ?_⟩
      · rintro σ2 H2 ⟨es', pr', h1', h2', h3', h4', h5'⟩
        have hb' : es'.length ≤ 216 := by
          have := h5'.bound g.ser (by rw [abs_len]; exact g.len)
          rwa [List.length_map] at this
        exact ⟨m - 1, by omega, place + 1, by omega, es', pr', h1', h2', h3', h4', h5'⟩
      · refine q_asg (ev_op (ev_var rfl) (ev_var rfl) (rv_ixL (sq_of (e3 _ _ hq)) (atI_nat (rv_get hc)))) fun H4 e4 => ?_
        have b4 := b.go (e3.trans e4)
        have xc4 := xct.mono (e3.trans e4)
        refine s_forP (K := K) (R := fun v H5 => ∃ a, v = .ref a ∧ H4 a = none ∧ StepsAt A H5 a ((absH h).steps t)) (fun H5 e5 Q qq => ?_) ?_
        · refine ⟨_, rfl, _, rfl, _, rfl, ls, lc, c, h, t, rfl, hs.mono (b4.ex.trans e5), xc4.mono e5, gt, fun p H6 np e6 xs => qq _ H6 e6 ⟨p, rfl, fresh_back e5 np, xs⟩⟩
        · rintro v H5 e5 ⟨a, rfl, na, xa⟩
          obtain ⟨ps, hps, hpa⟩ := id xa
          have hpl' := hpa.length
          have naq : a ≠ q := fun z => by
            rw [z, e4 _ _ (e3 _ _ hq)] at na
            cases na
          refine ⟨a, rv ps, rfl, sq_of hps, BIn P w A H ls lc l d q c a ps h t0 t place, ?_, fun i σ' H' _ qq => ?_, ?_, ?_⟩
          · refine ⟨es, pr, hlt, ⟨v7, v8, rfl⟩, b4.go e5, xq.mono ((e3.trans e4).trans e5), by rw [List.take_zero]; exact f, hps, hpa, fun z => ?_, ht, xc4.mono e5⟩
            obtain ⟨e, he, z⟩ := List.mem_map.1 z
            obtain ⟨_, bs, hbs, _⟩ := b4.lst e he
            rw [← z, hbs] at na
            cases na
          · obtain ⟨_, _, _, _, _, _, _, z, _⟩ := qq
            exact sq_of z
          · rintro i y σ' H6 hi ⟨es, pr, hlt, ⟨v7, v8, rfl⟩, b6, xq6, f6, ha6, hpa6, nae, ht6, xc6⟩
            obtain ⟨sp, hsp, rfl⟩ := rv_got hi
            obtain ⟨x, hx, xx⟩ := hpa6.getL hsp
            have xm : x ∈ (absH h).steps t := List.mem_of_getElem? hx
            have hmay : h.may t x = true := by rw [← abs_may]; exact mem_steps.1 xm
            obtain ⟨r, Ft⟩ := gt.fits (may_can hmay)
            have htake : ((absH h).steps t).take (i + 1) = ((absH h).steps t).take i ++ [x] := by
              rw [List.take_add_one, hx]
              rfl
            have f7 := f6.step g.ser ht6 xm
            rw [← htake] at f7
            have ib : i < 54 := by have := (List.getElem?_eq_some_iff.mp hx).1; omega
            have hb216' : es.length ≤ 216 := by
              have := f6.bound g.ser (by rw [abs_len]; exact g.len)
              rwa [List.length_map] at this
            refine q_asgP (ep_behind (ea_cons (ev_var rfl) (ea_cons (ev_var rfl) ea_nil)) xc6 xx Ft) fun v7' H7 e7 ⟨ub, hv7, xu⟩ => ?_
            subst hv7
            have b7 := b6.go e7
            have sz7 : ∀ u, (pr u).length < 100000 := fun u => by
              have h1 := f6.sz u
              rw [List.length_take] at h1
              omega
            have hpa7 := hpa6.imp fun _ _ r => StepAt.mono e7 r
            have ek : (es.map eN).map (·.1) = es.map (·.1) := eN_keys es
            refine q_when (et_B (ev_nnotin (ev_var rfl) (ev_var rfl) b7.dictN xu)) (fun hb8 H8 e8 => ?_) (fun hb8 H8 e8 => ?_)
            · have un : Rp11.after t x ∉ es.map (·.1) := fun z => by
                rw [valN_is, ek, decide_eq_true z] at hb8
                cases hb8
              have b8 := b7.go e8
              have vn : valN (es.map eN) (Rp11.after t x) = none := valN_not (by rw [ek]; exact un)
              -- before[behind] = []
              refine ⟨by show 0 ≤ sizeLine; decide, fun nl nnl => ⟨_, rfl, _, rfl, ?_⟩⟩
              have e9 : Ex H8 (upd H8 nl (.lst [])) := Ex.new nnl
              have b9 := b8.go e9
              refine ⟨d, es.map eN, ub, _, rfl, rfl, b9.dictN, xu.mono (e8.trans e9), vn, sz_lt (by rw [List.length_map]; omega), ?_⟩
              have nle : nl ∉ es.map (·.2.2) := fun z => by
                obtain ⟨e, he, z⟩ := List.mem_map.1 z
                obtain ⟨_, bs, hbs, _⟩ := b8.lst e he
                rw [← z, hbs] at nnl
                cases nnl
              obtain ⟨qs6, hq6, hqs6⟩ := xq6.mono ((e7.trans e8).trans e9)
              have nlq : nl ≠ q := fun z => by
                obtain ⟨qs', hq', _⟩ := xq6.mono (e7.trans e8)
                rw [z, hq'] at nnl
                cases nnl
              have b10 := b9.new (xu.mono (e8.trans e9)) (fresh_back b8.ex nnl) upd_same nle nlq (f6.em _ un)
              have off : Off d (upd H8 nl (.lst [])) (upd (upd H8 nl (.lst [])) d (DN P w d (es.map eN ++ [(Rp11.after t x, ub, .ref nl)]))) := Off.upd (Ex.refl _)
              have qd : q ≠ d := ne_of hq6 b9.dict dn_lst
              have xq10 := (xq6.mono ((e7.trans e8).trans e9)).off off b9.dict dn_tup qd
              obtain ⟨qs10, hq10, hqs10⟩ := id xq10
              have hql10 := hqs10.length
              rw [List.length_map] at hql10
              -- reached.append(behind)
              refine s_app (K := K) hq10 (ev_var rfl) (ev_var rfl) (by rw [rv_len]; omega) fun H11 e11 => ?_
              have b11 := (b10.go e11).q (ys := rv qs10 ++ [.ref ub]) (e11 _ _ hq10)
              have off2 : Off q H11 (upd H11 q (.lst (rv qs10 ++ [.ref ub]))) := Off.upd (Ex.refl _)
              have hq11 := e11 _ _ hq10
              have xu11 := ((xu.mono (e8.trans e9)).off off b9.dict dn_tup).mono e11
              have ad : a ≠ d := ne_of ((e8.trans e9) _ _ (e7 _ _ ha6)) b9.dict dn_lst
              have eas : (es ++ [(Rp11.after t x, ub, nl)]).map (·.1) = addS (es.map (·.1)) (Rp11.after t x) := by
                unfold addS
                rw [if_neg un, List.map_append]
                rfl
              have hpa10 : All2 (StepAt A (upd (upd H8 nl (.lst [])) d (DN P w d (es.map eN ++ [(Rp11.after t x, ub, .ref nl)])))) ps ((absH h).steps t) := (hpa7.imp fun _ _ r => r.mono (e8.trans e9)).imp fun p _ r => by
                obtain ⟨dx, r⟩ := r
                exact ⟨dx, off _ _ r (ne_of r b9.dict (fun z => by unfold DN at z; cases z))⟩
              refine before_last (K := K) (x := x) (by rw [List.length_append]; omega) b11 ⟨qs10 ++ [ub], by rw [upd_same, rv_snoc], ?_⟩ (by rw [eas]; exact mem_addS.2 (.inr rfl)) (by rw [eas]; exact f7) sz7
                (off2 _ _ (e11 _ _ (off _ _ ((e8.trans e9) _ _ (e7 _ _ ha6)) ad)) naq) ((hpa10.imp fun _ _ r => r.mono e11).imp fun _ _ r => r.upd hq11) ?_ ?_ ((((xc6.mono (e7.trans (e8.trans e9))).off off b9.dict dn_tup).mono e11).off off2 hq11 lst_tup) (xu11.off off2 hq11 lst_tup) (fun _ _ z => z)
              · rw [eas]
                unfold addS
                rw [if_neg un]
                exact ((hqs10.imp fun _ _ r => r.mono e11).imp fun _ _ r => r.off off2 hq11 lst_tup).snoc (xu11.off off2 hq11 lst_tup)
              · rw [List.map_append, List.mem_append]
                rintro (z | z)
                · exact nae z
                · simp only [List.map_cons, List.map_nil, List.mem_singleton] at z
                  rw [← z, e8 _ _ (e7 _ _ ha6)] at nnl
                  cases nnl
              · rw [eas, addS_get (t := t) (by rw [List.length_map]; exact hlt)]
                exact ht6
            · have um : Rp11.after t x ∈ es.map (·.1) := Decidable.byContradiction fun z => by
                rw [valN_is, ek, decide_eq_false z] at hb8
                cases hb8
              have eas : addS (es.map (·.1)) (Rp11.after t x) = es.map (·.1) := if_pos um
              rw [eas] at f7
              exact before_last (K := K) (x := x) hlt (b7.go e8) (xq6.mono (e7.trans e8)) um f7 sz7 (e8 _ _ (e7 _ _ ha6)) (hpa7.imp fun _ _ r => r.mono e8) nae ht6 (xc6.mono (e7.trans e8)) (xu.mono e8) (fun _ _ z => z)
          · rintro σ' H6 ⟨es, pr, hlt, ⟨v7, v8, rfl⟩, b6, xq6, f6, ha6, hpa6, nae, ht6, xc6⟩
            rw [rv_len, hpl', List.take_length] at f6
            refine s_aug (f := fun x y => x + y) rfl ev_c fun H7 e7 => ⟨es, pr, hlt, ⟨_, _, _, rfl⟩, b6.go e7, xq6.mono e7, f6.next hb54 ht6⟩
    · simp only [decide_eq_false_iff_not, rv_len] at hb
      refine s_ret (ev_var rfl) fun H4 e4 => ?_
      have b4 := b.go (e3.trans e4)
      exact kk _ H4 b4.ex ⟨d, es, pr, rfl, f.fin g.ser (by rw [abs_len]; exact g.len) (by rw [List.length_map]; omega), b4.dictN, fun e he => (b4.lst e he).2⟩
end
end Up

namespace Up
open PySem PySem.Spec PyProof.Rows L2 Evl
section
variable {P : Program} {w : World} {K : PySem.W.Frag} {mg : Str → Option Value} {base : Heap} {A : Ad}
def eF (d : Rp11.State → Nat) (e : Rp11.State × Addr) : Rp11.State × Addr × V := (e.1, e.2, iv (d e.1))
theorem eF_keys (d : Rp11.State → Nat) (es : List (Rp11.State × Addr)) : (es.map (eF d)).map (·.1) = es.map (·.1) := by simp [eF]
structure Fst (P : Program) (w : World) (H0 : Hp) (f q : Addr) (es : List (Rp11.State × Addr)) (d : Rp11.State → Nat) (H : Hp) : Prop where
  ex : Ex H0 H
  nf : H0 f = none
  nq : H0 q = none
  dict : H f = some (DN P w f (es.map (eF d)))
  keys : ∀ e ∈ es, CountsAt H e.2 e.1
theorem Fst.go {H0 H H' : Hp} {f q es d} (b : Fst P w H0 f q es d H) (e : Ex H H') : Fst P w H0 f q es d H' := ⟨b.ex.trans e, b.nf, b.nq, e _ _ b.dict, fun x hx => (b.keys x hx).mono e⟩
theorem Fst.dictN {H0 H : Hp} {f q es d} (b : Fst P w H0 f q es d H) : DictN P w H f (es.map (eF d)) := ⟨b.dict, fun x hx => by
  obtain ⟨e, he, rfl⟩ := List.mem_map.1 hx
  exact b.keys e he⟩
theorem eF_add {d : Rp11.State → Nat} {es : List (Rp11.State × Addr)} {t : Rp11.State} {b : Addr} {n : Nat} (h : t ∉ es.map (·.1)) : (es ++ [(t, b)]).map (eF (addD d t n)) = es.map (eF d) ++ [(t, b, iv n)] := by
  rw [List.map_append]
  congr 1
  · refine List.map_congr_left fun e he => ?_
    have : ¬ e.1 = t := fun z => h (List.mem_map.2 ⟨e, he, z⟩)
    simp only [eF, addD, if_neg this]
  · simp only [List.map_cons, List.map_nil, eF, addD, if_true]
theorem Fst.new {H0 H : Hp} {f q es d} (b : Fst P w H0 f q es d H) {t : Rp11.State} {tb : Addr} {n : Nat} (ht : CountsAt H tb t) (hn : t ∉ es.map (·.1)) :
    Fst P w H0 f q (es ++ [(t, tb)]) (addD d t n) (upd H f (DN P w f (es.map (eF d) ++ [(t, tb, iv n)]))) := by
  have off : Off f H (upd H f (DN P w f (es.map (eF d) ++ [(t, tb, iv n)]))) := Off.upd (Ex.refl H)
  refine ⟨Ex.mut b.ex b.nf, b.nf, b.nq, by rw [upd_same, eF_add hn], fun e he => ?_⟩
  rcases List.mem_append.1 he with c | c
  · exact (b.keys e c).off off b.dict dn_tup
  · rw [List.mem_singleton] at c
    rw [c]
    exact ht.off off b.dict dn_tup
theorem Fst.q {H0 H : Hp} {f q es d} (b : Fst P w H0 f q es d H) {xs ys : List V} (hq : H q = some (.lst xs)) : Fst P w H0 f q es d (upd H q (.lst ys)) := by
  have off : Off q H (upd H q (.lst ys)) := Off.upd (Ex.refl H)
  refine ⟨Ex.mut b.ex b.nq, b.nf, b.nq, ?_, fun e he => (b.keys e he).off off hq lst_tup⟩
  rw [upd_ne (Ne.symm (ne_of hq b.dict dn_lst))]
  exact b.dict
/-- what the program's table tells -/
def FarAt (P : Program) (w : World) (H : Hp) (f : Addr) (F : Rp11.State → Option Nat) : Prop := ∃ xs, DictN P w H f xs ∧ ∀ t, valN xs t = (F t).map iv
theorem FarAt.mono {H H' : Hp} {f F} (e : Ex H H') (h : FarAt P w H f F) : FarAt P w H' f F := h.imp fun _ q => ⟨q.1.mono e, q.2⟩
theorem val_eF {es : List (Rp11.State × Addr)} {d : Rp11.State → Nat} (t : Rp11.State) [Decidable (t ∈ es.map (·.1))] : valN (es.map (eF d)) t = (if t ∈ es.map (·.1) then some (d t) else none).map iv := by
  by_cases c : t ∈ es.map (·.1)
  · obtain ⟨x, hx, e1, e2⟩ := valN_mem (xs := es.map (eF d)) (u := t) (by rw [eF_keys]; exact c)
    obtain ⟨e, he, rfl⟩ := List.mem_map.1 hx
    rw [if_pos c, e2]
    have e1' : e.1 = t := e1
    show some (iv (d e.1)) = _
    rw [e1']
    rfl
  · rw [if_neg c, valN_not (by rw [eF_keys]; exact c)]
    rfl
structure Told (h : Rp11.House) (t : Rp11.State) (R : List Rp11.State) (F : Rp11.State → Option Nat) : Prop where
  tells : Tells (absH h) R F
  now : t ∈ R
  small : ∀ t n, F t = some n → n ≤ 217
def sp_fewest_steps (P : Program) (w : World) (A : Ad) : Sp := fun vs H Q _ => ∃ (ls lc l : Addr) (h : Rp11.House) (t : Rp11.State), vs = [.ref ls, .ref lc, .ref l] ∧ HsAt A H ls lc h ∧ CountsAt H l t ∧ Good h t ∧
  RetP (fun v H2 => ∃ (f : Addr) (R : List Rp11.State) (F : Rp11.State → Option Nat), v = .ref f ∧ Told h t R F ∧ FarAt P w H2 f F) H Q
/-- at the head of the loop; within a turn -/
def FWh (P : Program) (w : World) (H0 : Hp) (s3 : List (Option V)) (f q : Addr) (h : Rp11.House) (R : List Rp11.State) (pr : Rp11.State → List Rp11.State) (place : Nat) (σ : L2.St) (H : Hp) : Prop :=
  ∃ (es : List (Rp11.State × Addr)) (d : Rp11.State → Nat), place ≤ es.length ∧ (∃ v8 v9, σ = s3 ++ [some (.ref f), some (.ref q), some (iv place), v8, v9]) ∧ Fst P w H0 f q es d H ∧ CListAt H q (es.map (·.1)) ∧ Bw (absH h) R pr (es.map (·.1)) d place []
def FIn (P : Program) (w : World) (H0 : Hp) (s3 : List (Option V)) (f q c a : Addr) (bs : List Addr) (h : Rp11.House) (R : List Rp11.State) (pr : Rp11.State → List Rp11.State) (t : Rp11.State) (place : Nat) (n : Nat) (σ : L2.St) (H : Hp) : Prop :=
  ∃ (es : List (Rp11.State × Addr)) (d : Rp11.State → Nat), place < es.length ∧ (∃ v9, σ = s3 ++ [some (.ref f), some (.ref q), some (iv place), some (.ref c), v9]) ∧ Fst P w H0 f q es d H ∧ CListAt H q (es.map (·.1)) ∧ Bw (absH h) R pr (es.map (·.1)) d place ((pr t).take n) ∧
    H a = some (.lst (rv bs)) ∧ All2 (CountsAt H) bs (pr t) ∧ (es.map (·.1))[place]? = some t ∧ CountsAt H c t
theorem ok_fewest_steps (T : Tx K mg A) (G_counts_before : FnOk P w K mg base CX0 5 A.a_counts_before A.d_counts_before p_counts_before (sp_counts_before P w A))
    (G_wanted_counts : FnOk P w K mg base CX0 2 A.a_wanted_counts A.d_wanted_counts p_wanted_counts (sp_wanted_counts A)) :
    FnOk P w K mg base CX0 6 A.a_fewest_steps A.d_fewest_steps p_fewest_steps (sp_fewest_steps P w A) := by
  refine T.F_fewest_steps.ok sc_fewest_steps (fun vs H Q E h => ?_) (fun cdv A' outer s H vs Q E hr h => ?_)
  · obtain ⟨ls, lc, l, h, t0, rfl, _⟩ := h
    rfl
  · obtain ⟨ls, lc, l, h, t0, rfl, hs, xc, g, kk⟩ := h
    refine ⟨_, (pss_cons (ps_set (i := 3) sc_fewest_steps.nd rfl (Or.inl rfl) (pe_call G_counts_before (hr.mono (by decide)) rfl T.g_counts_before T.F_counts_before.kp T.b_counts_before .nil pass0 (pa_cons (pv 0) (pa_cons (pv 1) (pa_cons (pv 2) pa_nil)))))
      (pss_cons (ps_set (i := 4) sc_fewest_steps.nd rfl (Or.inl rfl) (pe_call G_wanted_counts (hr.mono (by decide)) rfl T.g_wanted_counts T.F_wanted_counts.kp T.b_wanted_counts .nil pass0 (pa_cons (pv 0) pa_nil)))
      (pss_cons (ps_set (i := 5) sc_fewest_steps.nd rfl (Or.inl rfl) (pe_ndisp (P := P) (w := w) rfl rfl (hu65 hr) (pv 4) pe_int))
      (pss_cons (ps_set (i := 6) sc_fewest_steps.nd rfl (Or.inl rfl) (pe_lst (pa_cons (pv 4) pa_nil)))
      (pss_cons (ps_set (i := 7) sc_fewest_steps.nd rfl (Or.inl rfl) pe_int)
      (pss_cons (ps_while PassesOwn.never (pt_cmpR op_lt (pv 7) (pe_callB call_len_seq (by rfl) T.b_len PySem.boot_len (pa_cons (pv 6) pa_nil)) (nomark _)) (pss_cons (ps_set (i := 8) sc_fewest_steps.nd rfl (Or.inl rfl) (pe_ix ix_list (pv 6) (pv 7) (fun _ _ => rfl)))
      (pss_cons (ps_for PassesOwn.never rfl (pi_list (pe_nget2 (P := P) (w := w) rfl rfl (hu65 hr) (pv 3) (pv 8) (pe_lst pa_nil) ⟨rfl, rfl, rfl, rfl⟩)) (pg_name (i := 9) sc_fewest_steps.nd rfl (Or.inl rfl)) (pss_one (ps_if (pt_cmp (pc_nnotin (P := P) (w := w) rfl rfl (hu65 hr) (pv 9) (pv 5))) (pss_cons (ps_nput (P := P) (w := w) rfl rfl (hu65 hr) (pv 5) (pv 9) (pe_op op_add (pe_nget (P := P) (w := w) rfl rfl (hu65 hr) (pv 5) (pv 8) (fun _ _ => rfl)) pe_int) rfl)
      (pss_one (ps_expr (pe_bm PySem.F.plainAttrs_list PySem.F.slot_list_append PySem.F.type_list_append mt_append (pv 6) (pa_cons (pv 9) pa_nil))))) pss_nil)))
      (pss_one (ps_aug (i := 7) sc_fewest_steps.nd rfl (Or.inl rfl) pe_int ip_add)))))
      (pss_one (ps_ret (pv 5))))))))), ?_⟩
    refine q_asgP (ep_call (ea_cons (ev_var rfl) (ea_cons (ev_var rfl) (ea_cons (ev_var rfl) ea_nil))) fun H1 e1 Q q => ⟨ls, lc, l, h, t0, rfl, hs.mono e1, xc.mono e1, g, q⟩) fun v3 H1 e1 ⟨bd, bes, pr, hv3, pre, xb⟩ => ?_
    subst hv3
    refine q_asgP (ep_call (ea_cons (ev_var rfl) ea_nil) fun H2 e2 Q q => ⟨ls, h, rfl, hs.sv.mono (e1.trans e2), g.ser, g.len, q⟩) fun v4 H2 e2 ⟨wa, hv4, xw⟩ => ?_
    subst hv4
    have xb2 := xb.mono e2
    -- fewest = {wanted: 0}
    refine fun f nf => ⟨.ref wa, rfl, ?_⟩
    have ef : Ex H2 (upd H2 f (DN P w f [])) := Ex.new nf
    refine ⟨wa, (absH h).goal, rfl, upd_same, xw.mono ef, ?_⟩
    have ex1 : Ex H2 (upd (upd H2 f (DN P w f [])) f (DN P w f [((absH h).goal, wa, .int 0)])) := Ex.mut ef nf
    refine q_asgL (el_lst (ea_cons (ev_var rfl) ea_nil) (by show 1 ≤ 100000; decide)) fun q H3 nq e3 h3 => ?_
    have nq0 : H2 q = none := fresh_back ex1 nq
    have xx3 := ex1.trans e3
    have f0 : Fst P w H2 f q [((absH h).goal, wa)] (fun _ => 0) H3 := by
      refine ⟨xx3, nf, nq0, e3 _ _ (by rw [upd_same]; rfl), fun e he => ?_⟩
      rw [List.mem_singleton] at he
      rw [he]
      exact xw.mono xx3
    have q0 : CListAt H3 q [(absH h).goal] := ⟨[wa], h3, .cons (xw.mono xx3) .nil⟩
    refine q_asg ev_c fun H4 e4 => ?_
    refine q_while (fun m σ' H' => ∃ place, m + place = 218 ∧ FWh P w H2 [some (.ref ls), some (.ref lc), some (.ref l), some (.ref bd), some (.ref wa)] f q h (bes.map (·.1)) pr place σ' H') 218 ⟨0, rfl, [((absH h).goal, wa)], _, Nat.zero_le _, ⟨none, none, rfl⟩, f0.go e4, q0.mono e4, bw_init⟩ ?_
    rintro m σ' H' ⟨place, hm, es, d, hpl, ⟨v8, v9, rfl⟩, b, xq, bw⟩
    obtain ⟨qs, hq, hqs⟩ := id xq
    have hql' := hqs.length
    rw [List.length_map] at hql'
    refine ⟨_, et_test (ev_op (ev_var rfl) (ev_len (ev_var rfl) (sq_of hq)) rv_I0), fun hb H5 e5 => ?_, fun hb H5 e5 => ?_⟩
    · simp only [decide_eq_true_eq, rv_len] at hb
      have hlt : place < es.length := by omega
      obtain ⟨t, ht⟩ : ∃ t, (es.map (·.1))[place]? = some t := ⟨_, List.getElem?_eq_getElem (by rw [List.length_map]; exact hlt)⟩
      obtain ⟨c, hc, xct⟩ := hqs.get ht
      refine ⟨FWh P w H2 [some (.ref ls), some (.ref lc), some (.ref l), some (.ref bd), some (.ref wa)] f q h (bes.map (·.1)) pr (place + 1), ?_, ?_⟩
      · rintro σ2 H6 ⟨es', d', h1', h2', h3', h4', h5'⟩
        have hb' := h5'.bound pre.len
        rw [List.length_map] at hb'
        exact ⟨m - 1, by omega, place + 1, by omega, es', d', h1', h2', h3', h4', h5'⟩
      · refine q_asg (ev_op (ev_var rfl) (ev_var rfl) (rv_ixL (sq_of (e5 _ _ hq)) (atI_nat (rv_get hc)))) fun H6 e6 => ?_
        have b6 := b.go (e5.trans e6)
        have xc6 := xct.mono (e5.trans e6)
        have hq6 := e6 _ _ (e5 _ _ hq)
        refine s_forP (K := K) (R := fun v H7 => ∃ a bs, v = .ref a ∧ a ≠ q ∧ H7 a = some (.lst (rv bs)) ∧ All2 (CountsAt H7) bs (pr t)) (fun H7 e7 Q qq => ?_) ?_
        · have xb7 := xb2.mono (b6.ex.trans e7)
          refine ⟨.ref bd, rfl, bd, rfl, ⟨_, xb7.dict⟩, .ref c, rfl, by show 0 ≤ sizeLine; decide, fun z nz => ?_⟩
          have e8 : Ex H7 (upd H7 z (.lst [])) := Ex.new nz
          refine ⟨bes.map eN, c, t, rfl, xb7.dict.mono e8, (xc6.mono e7).mono e8, ?_⟩
          by_cases cm : t ∈ bes.map (·.1)
          · obtain ⟨y, hy, ey, vy⟩ := valN_mem (xs := bes.map eN) (u := t) (by rw [eN_keys]; exact cm)
            obtain ⟨e, he, rfl⟩ := List.mem_map.1 hy
            rw [vy]
            have ey' : e.1 = t := ey
            obtain ⟨bs, g1, g2⟩ := (xb7.lst e he).mono e8
            rw [ey'] at g2
            obtain ⟨bs2, g3, _⟩ := xb2.lst e he
            exact qq _ _ e8 ⟨e.2.2, bs, rfl, ne_of_none g3 b.nq, g1, g2⟩
          · rw [valN_not (by rw [eN_keys]; exact cm)]
            refine qq _ _ e8 ⟨z, [], rfl, fun zz => ?_, upd_same, by rw [pre.em t cm]; exact .nil⟩
            rw [zz, e7 _ _ hq6] at nz
            cases nz
        · rintro v H7 e7 ⟨a, bs, rfl, naq, ha, hba⟩
          have hbl := hba.length
          refine ⟨a, rv bs, rfl, sq_of ha, FIn P w H2 [some (.ref ls), some (.ref lc), some (.ref l), some (.ref bd), some (.ref wa)] f q c a bs h (bes.map (·.1)) pr t place, ?_, fun i σ' H' _ qq => ?_, ?_, ?_⟩
          · exact ⟨es, d, hlt, ⟨v9, rfl⟩, b6.go e7, xq.mono ((e5.trans e6).trans e7), by rw [List.take_zero]; exact bw, ha, hba, ht, xc6.mono e7⟩
          · obtain ⟨_, _, _, _, _, _, _, z, _⟩ := qq
            exact sq_of z
          · rintro i y σ' H8 hi ⟨es, d, hlt, ⟨v9, rfl⟩, b8, xq8, bw8, ha8, hba8, ht8, xc8⟩
            obtain ⟨nb, hnb, rfl⟩ := rv_got hi
            obtain ⟨u, hu, xu⟩ := hba8.getL hnb
            have um : u ∈ pr t := List.mem_of_getElem? hu
            have htake : (pr t).take (i + 1) = (pr t).take i ++ [u] := by
              rw [List.take_add_one, hu]
              rfl
            have ek : (es.map (eF d)).map (·.1) = es.map (·.1) := eF_keys d es
            have hb217 := bw8.bound pre.len
            rw [List.length_map] at hb217
            refine s_when (et_B (ev_nnotin (ev_var rfl) (ev_var rfl) b8.dictN xu)) (fun hb9 H9 e9 => ?_) (fun hb9 H9 e9 => ?_)
            · have un : u ∉ es.map (·.1) := fun z => by
                rw [valN_is, ek, decide_eq_true z] at hb9
                cases hb9
              have b9 := b8.go e9
              have tm : t ∈ es.map (·.1) := List.mem_of_getElem? ht8
              have vt : valN (es.map (eF d)) t = some (iv (d t)) := by rw [val_eF, if_pos tm]; rfl
              have vn : valN (es.map (eF d)) u = none := valN_not (by rw [ek]; exact un)
              -- fewest[nearby] = fewest[counts] + 1
              refine ev_op (r := rI0 fun i j => .int (i + j)) (z := iv (d t + 1)) (ev_nget (ev_var rfl) (ev_var rfl) b9.dictN (xc8.mono e9) vt) ev_c (fun Ha ea Qa qa => ⟨(d t : Int), 1, rfl, rfl, qa Ha (Ex.refl Ha)⟩) H9 (Ex.refl H9) _ fun H10 e10 => ?_
              refine ⟨_, rfl, _, rfl, ?_⟩
              have b10 := b9.go e10
              refine ⟨f, es.map (eF d), nb, u, rfl, rfl, b10.dictN, xu.mono (e9.trans e10), vn, sz_lt (by rw [List.length_map]; omega), ?_⟩
              have b11 := b10.new (n := d t + 1) (xu.mono (e9.trans e10)) un
              have off : Off f H10 (upd H10 f (DN P w f (es.map (eF d) ++ [(u, nb, iv (d t + 1))]))) := Off.upd (Ex.refl _)
              obtain ⟨qs10, hq10, hqs10⟩ := xq8.mono (e9.trans e10)
              have hql10 := hqs10.length
              rw [List.length_map] at hql10
              have qf : q ≠ f := ne_of hq10 b10.dict dn_lst
              have hq11 := off _ _ hq10 qf
              have hqs11 := hqs10.imp fun _ _ r => CountsAt.off off b10.dict dn_tup r
              refine s_app (K := K) hq11 (ev_var rfl) (ev_var rfl) (by rw [rv_len]; omega) fun H12 e12 => ?_
              have hq12 := e12 _ _ hq11
              have off2 : Off q H12 (upd H12 q (.lst (rv qs10 ++ [.ref nb]))) := Off.upd (Ex.refl _)
              have up : ∀ {b t}, CountsAt H8 b t → CountsAt (upd H12 q (.lst (rv qs10 ++ [.ref nb]))) b t := fun r => (((r.mono (e9.trans e10)).off off b10.dict dn_tup).mono e12).off off2 hq12 lst_tup
              have em : (es ++ [(u, nb)]).map (·.1) = es.map (·.1) ++ [u] := by rw [List.map_append]; rfl
              have af : a ≠ f := ne_of ((e9.trans e10) _ _ ha8) b10.dict dn_lst
              refine ⟨es ++ [(u, nb)], addD d u (d t + 1), by rw [List.length_append]; omega, ⟨_, rfl⟩, (b11.go e12).q hq12, ⟨qs10 ++ [nb], by rw [upd_same, rv_snoc], ?_⟩, ?_, off2 _ _ (e12 _ _ (off _ _ ((e9.trans e10) _ _ ha8) af)) naq, hba8.imp fun _ _ r => up r, ?_, up xc8⟩
              · rw [em]
                exact (hqs11.imp fun _ _ r => (r.mono e12).off off2 hq12 lst_tup).snoc (up xu)
              · rw [em, htake]
                exact bw8.new pre.sd ht8 um un
              · rw [em, List.getElem?_append_left (by rw [List.length_map]; exact hlt)]
                exact ht8
            · have um' : u ∈ es.map (·.1) := Decidable.byContradiction fun z => by
                rw [valN_is, ek, decide_eq_false z] at hb9
                cases hb9
              refine ⟨es, d, hlt, ⟨_, rfl⟩, b8.go e9, xq8.mono e9, ?_, e9 _ _ ha8, hba8.imp fun _ _ r => r.mono e9, ht8, xc8.mono e9⟩
              rw [htake]
              exact bw8.old ht8 um'
          · rintro σ' H8 ⟨es, d, hlt, ⟨v9, rfl⟩, b8, xq8, bw8, ha8, hba8, ht8, xc8⟩
            rw [rv_len, hbl, List.take_length] at bw8
            refine s_aug (f := fun x y => x + y) rfl ev_c fun H9 e9 => ⟨es, d, hlt, ⟨_, _, rfl⟩, b8.go e9, xq8.mono e9, bw8.next ht8⟩
    · simp only [decide_eq_false_iff_not, rv_len] at hb
      refine s_ret (ev_var rfl) fun H6 e6 => ?_
      have b6 := b.go (e5.trans e6)
      have hb217 := bw.bound pre.len
      refine kk _ H6 (((e1.trans e2).trans b6.ex)) ⟨f, bes.map (·.1), _, rfl, ⟨bw.fin (by rw [List.length_map]; omega) pre, pre.hd, fun u n hu => ?_⟩, es.map (eF d), b6.dictN, fun u => val_eF u⟩
      by_cases c : u ∈ es.map (·.1)
      · rw [if_pos c] at hu
        have := bw.dl u c
        have e := Option.some.inj hu
        omega
      · rw [if_neg c] at hu
        cases hu
end
end Up

namespace Up
open PySem PySem.Spec PyProof.Rows L2 Evl
section
variable {P : Program} {w : World} {K : PySem.W.Frag} {mg : Str → Option Value} {base : Heap} {A : Ad}
theorem ev_nget1 {σ : L2.St} {H : Hp} {td ty : TE} {f : Addr} {u : Rp11.State} {xs : List (Rp11.State × Addr × V)} (hd : Ev td σ H (.ref f)) (hy : EvP ty σ H (isC u)) (x : DictN P w H f xs) : Ev (tNGet1 P w td ty) σ H ((valN xs u).getD .non) := fun H1 e Q q =>
  hd H1 e _ fun H2 e2 => ⟨f, rfl, ⟨xs, x.mono (e.trans e2)⟩, hy H2 (e.trans e2) _ fun v H3 e3 ⟨b, hv, k⟩ => by
    subst hv
    exact ⟨xs, b, u, rfl, x.mono ((e.trans e2).trans e3), k, q H3 (e2.trans e3)⟩⟩
/-- the first of those that are given -/
theorem given_first {ps : List Addr} {xs : List Rp11.Step} {R : Addr → Rp11.Step → Prop} (ha : All2 R ps xs) {p : Rp11.Step → Bool} {x : Rp11.Step} (hf : xs.find? p = some x) (n : Nat) (hn : n = xs.length) :
    ∃ a, R a x ∧ (given n (fun i => p (xs.getD i ⟨0, 0, 0, 0⟩)) (fun i => .ref (ps.getD i 0)))[0]? = some (.ref a) := by
  subst hn
  obtain ⟨h1, i, hi, e1, e2⟩ := List.find?_eq_some_iff_getElem.1 hf
  have hx : xs[i]? = some x := by rw [List.getElem?_eq_getElem hi, e1]
  obtain ⟨a, hpa, r⟩ := ha.get hx
  refine ⟨a, r, ?_⟩
  unfold given
  rw [List.getElem?_map, ← List.head?_eq_getElem?, List.head?_filter]
  have : (List.range xs.length).find? (fun i => p (xs.getD i ⟨0, 0, 0, 0⟩)) = some i := by
    rw [List.find?_range_eq_some]
    refine ⟨?_, List.mem_range.2 hi, fun j hj => ?_⟩
    · rw [List.getD_eq_getElem?_getD, hx]
      exact h1
    · have := e2 j hj
      rw [List.getD_eq_getElem?_getD, List.getElem?_eq_getElem (by omega)]
      simpa using this
  rw [this]
  simp only [Option.map_some, List.getD_eq_getElem?_getD, hpa, Option.getD_some]
def sp_first_step_nearer (P : Program) (w : World) (A : Ad) : Sp := fun vs H Q _ => ∃ (ls lc l f : Addr) (h : Rp11.House) (t : Rp11.State) (F : Rp11.State → Option Nat) (n : Nat) (x : Rp11.Step), vs = [.ref ls, .ref lc, .ref l, .ref f] ∧ HsAt A H ls lc h ∧ CountsAt H l t ∧ Good h t ∧ FarAt P w H f F ∧ F t = some (n + 1) ∧
  ((absH h).steps t).find? (fun x => F (Rp11.after t x) == some n) = some x ∧ RetP (isS A x) H Q
theorem ok_first_step_nearer (T : Tx K mg A) (G_steps_from : FnOk P w K mg base CX0 4 A.a_steps_from A.d_steps_from p_steps_from (sp_steps_from A))
    (G_counts_behind : FnOk P w K mg base CX0 1 A.a_counts_behind A.d_counts_behind p_counts_behind (sp_counts_behind A)) :
    FnOk P w K mg base CX0 5 A.a_first_step_nearer A.d_first_step_nearer p_first_step_nearer (sp_first_step_nearer P w A) := by
  refine T.F_first_step_nearer.ok sc_first_step_nearer (fun vs H Q E h => ?_) (fun cdv A' outer s H vs Q E hr h => ?_)
  · obtain ⟨ls, lc, l, f, h, t, F, n, x, rfl, _⟩ := h
    rfl
  · obtain ⟨ls, lc, l, f, h, t, F, n, x, rfl, hs, xc, g, xf, hF, hfind, kk⟩ := h
    refine ⟨_, (pss_cons (ps_set (i := 4) sc_first_step_nearer.nd rfl (Or.inr rfl) (pe_op op_sub (pe_nget (P := P) (w := w) rfl rfl (hu65 hr) (pv 3) (pv 2) (fun _ _ => rfl)) pe_int))
      (pss_cons (ps_set (i := 5) sc_first_step_nearer.nd rfl (Or.inl rfl) (pe_call G_steps_from (hr.mono (by decide)) rfl T.g_steps_from T.F_steps_from.kp T.b_steps_from .nil pass0 (pa_cons (pv 0) (pa_cons (pv 1) (pa_cons (pv 2) pa_nil)))))
      (pss_one (ps_ret (pe_ix ix_list (pe_lc (own := [("step", 6)]) (g := gName 6) rfl sc_first_step_nearer.nd (pi_list (pv 5)) (blkOk_by (own := [("step", 6)]) (N := N_first_step_nearer) (sc := defScope s_first_step_nearer) (by decide +kernel)) (fun _ _ _ _ _ => pg_name (i := 6) sc_first_step_nearer.nd rfl (Or.inl rfl)) (fun _ _ _ _ _ => (pts_one (pt_cmpR op_eq (pe_nget1 (P := P) (w := w) rfl rfl (hu65 hr) (pv 3) (pe_call G_counts_behind (hr.mono (by decide)) rfl T.g_counts_behind T.F_counts_behind.kp T.b_counts_behind .nil pass0 (pa_cons (pv 2) (pa_cons (pv 6) pa_nil))) ⟨rfl, rfl, rfl, rfl⟩) (pv 4) (nomark _)))) (fun _ _ _ _ _ => (pv 6))) pe_int (fun _ _ => rfl)))))), ?_⟩
    obtain ⟨xs, xd, hv⟩ := xf
    have vt : valN xs t = some (iv (n + 1)) := by rw [hv, hF]; rfl
    refine q_asg (v := iv n) (ev_is (ev_op (ev_nget (ev_var rfl) (ev_var rfl) xd xc vt) ev_c rv_I0) (by show V.int (((n + 1 : Nat) : Int) - 1) = V.int (n : Int); congr 1; omega)) fun H1 e1 => ?_
    refine q_asgP (R := fun v H2 => ∃ a, v = .ref a ∧ StepsAt A H2 a ((absH h).steps t)) (ep_call (ea_cons (ev_var rfl) (ea_cons (ev_var rfl) (ea_cons (ev_var rfl) ea_nil))) fun H2 e2 Q q => ⟨ls, lc, l, h, t, rfl, hs.mono (e1.trans e2), xc.mono (e1.trans e2), g, fun p H3 np e3 xs => q _ H3 e3 ⟨p, rfl, xs⟩⟩) fun v5 H2 e2 ⟨a, hv5, xa⟩ => ?_
    subst hv5
    obtain ⟨ps, hps, hpa⟩ := xa
    have hpl := hpa.length
    obtain ⟨p0, hp0, hgiv⟩ := given_first hpa hfind ps.length hpl
    have hb54 := steps_bound (h := absH h) g.ser (by rw [abs_len]; exact g.len) g.shape
    have ee := e1.trans e2
    refine s_ret (v := .ref p0) (ev_opL1 (xs := given (rv ps).length (fun i => F (Rp11.after t (((absH h).steps t).getD i ⟨0, 0, 0, 0⟩)) == some n) (fun i => .ref (ps.getD i 0))) (el_lcL (K := K) _ _ (ev_var rfl) (sq_of hps) (by rw [rv_len]; omega) (fun _ => rfl) ?_ ?_) (fun H3 e3 => ev_c) fun p H3 hp e3 => rv_ixL (sq_of hp) (atI_nat (j := 0) (by rw [rv_len]; exact hgiv))) fun H3 e3 => ?_
    · intro i y H3 e3 hi
      obtain ⟨sp, hsp, rfl⟩ := rv_got hi
      obtain ⟨z, hz, xz⟩ := hpa.getL hsp
      have zm : z ∈ (absH h).steps t := List.mem_of_getElem? hz
      have hmay : h.may t z = true := by rw [← abs_may]; exact mem_steps.1 zm
      obtain ⟨r, Ft⟩ := g.fits (may_can hmay)
      have ez : ((absH h).steps t).getD i ⟨0, 0, 0, 0⟩ = z := by rw [List.getD_eq_getElem?_getD, hz]; rfl
      rw [ez]
      refine et_is (et_test (ev_op (ev_nget1 (ev_var rfl) (ep_behind (ea_cons (ev_var rfl) (ea_cons (ev_var rfl) ea_nil)) (xc.mono (ee.trans e3)) (xz.mono e3) Ft) (xd.mono (ee.trans e3))) (ev_var rfl) (rv_eq ?_))) ?_
      · rw [hv]
        cases F (Rp11.after t z) <;> rfl
      · rw [hv]
        cases F (Rp11.after t z) with
        | none => rfl
        | some m =>
          rw [Bool.eq_iff_iff]
          simp only [Option.map_some, Option.getD_some, decide_eq_true_eq, iv, V.int.injEq, beq_iff_eq, Option.some.injEq]
          omega
    · intro i y H3 e3 hi _
      obtain ⟨sp, hsp, rfl⟩ := rv_got hi
      have e : ps.getD i 0 = sp := by rw [List.getD_eq_getElem?_getD, hsp]; rfl
      rw [e]
      exact ev_var rfl
    · exact kk _ H3 (ee.trans e3) ⟨p0, rfl, hp0.mono e3⟩
/-! ### planned_steps -/
theorem FarAt.off {H H' : Hp} {x f : Addr} {o : HO} {F : Rp11.State → Option Nat} (e : Off x H H') (hx : H x = some o) (nt : ∀ xs, o ≠ .tup xs) (nd : ∀ d xs, o ≠ DN P w d xs) (h : FarAt P w H f F) : FarAt P w H' f F := by
  obtain ⟨xs, h1, h2⟩ := h
  exact ⟨xs, ⟨e _ _ h1.1 (ne_of h1.1 hx fun z => nd _ _ z.symm), fun y hy => (h1.2 y hy).off e hx nt⟩, h2⟩
def sp_planned_steps (P : Program) (w : World) (A : Ad) : Sp := fun vs H Q _ => ∃ (ls lc l : Addr) (h : Rp11.House), vs = [.ref ls, .ref lc, .ref l] ∧ HsAt A H ls lc h ∧ CountsAt H l h.now ∧ Good h h.now ∧ WF (absH h) ∧
  (Rp11.far (absH h).table h.now = none → RetV .non H Q) ∧ ∀ n, Rp11.far (absH h).table h.now = some n → n ≤ 217 → ((absH h).way (absH h).table n h.now).length = n → RetSt A ((absH h).way (absH h).table n h.now) H Q
/-- at the head of the loop: m steps are still to go -/
def PWh (P : Program) (w : World) (A : Ad) (H0 : Hp) (ls lc l f pl : Addr) (h : Rp11.House) (F : Rp11.State → Option Nat) (r : List Rp11.State) (n m : Nat) (σ : L2.St) (H : Hp) : Prop :=
  ∃ (t : Rp11.State) (c : Addr) (acc : List Rp11.Step), (∃ v6, σ = [some (.ref ls), some (.ref lc), some (.ref l), some (.ref f), some (.ref pl), some (.ref c), v6]) ∧ Acc A H0 pl acc H ∧ CountsAt H c t ∧ FarAt P w H f F ∧ Good h t ∧ t ∈ r ∧ F t = some m ∧ acc.length + m = n ∧
    acc ++ (absH h).way (absH h).table m t = (absH h).way (absH h).table n h.now
theorem way_next {h : Rp11.House} {t : Rp11.State} {n : Nat} {x : Rp11.Step} {F : Rp11.State → Option Nat} (hx : (h.steps t).find? (fun x => F (Rp11.after t x) == some n) = some x) (hF : ∀ x ∈ h.steps t, Rp11.far h.table (Rp11.after t x) = F (Rp11.after t x)) : h.way h.table (n + 1) t = x :: h.way h.table n (Rp11.after t x) := by
  have e : (h.steps t).find? (fun x => Rp11.far h.table (Rp11.after t x) == some n) = some x := by
    rw [← hx]
    refine find_congr fun y hy => ?_
    rw [hF y hy]
  show (match (h.steps t).find? (fun x => Rp11.far h.table (Rp11.after t x) == some n) with
    | some x => x :: h.way h.table n (Rp11.after t x)
    | none => []) = _
  rw [e]
theorem ok_planned_steps (T : Tx K mg A) (G_fewest_steps : FnOk P w K mg base CX0 6 A.a_fewest_steps A.d_fewest_steps p_fewest_steps (sp_fewest_steps P w A))
    (G_first_step_nearer : FnOk P w K mg base CX0 5 A.a_first_step_nearer A.d_first_step_nearer p_first_step_nearer (sp_first_step_nearer P w A))
    (G_counts_behind : FnOk P w K mg base CX0 1 A.a_counts_behind A.d_counts_behind p_counts_behind (sp_counts_behind A)) :
    FnOk P w K mg base CX0 7 A.a_planned_steps A.d_planned_steps p_planned_steps (sp_planned_steps P w A) := by
  refine T.F_planned_steps.ok sc_planned_steps (fun vs H Q E h => ?_) (fun cdv A' outer s H vs Q E hr h => ?_)
  · obtain ⟨ls, lc, l, h, rfl, _⟩ := h
    rfl
  · obtain ⟨ls, lc, l, h, rfl, hs, xc, g, hw, k0, k1⟩ := h
    refine ⟨_, (pss_cons (ps_set (i := 3) sc_planned_steps.nd rfl (Or.inl rfl) (pe_call G_fewest_steps (hr.mono (by decide)) rfl T.g_fewest_steps T.F_fewest_steps.kp T.b_fewest_steps .nil pass0 (pa_cons (pv 0) (pa_cons (pv 1) (pa_cons (pv 2) pa_nil)))))
      (pss_cons (ps_if (pt_cmp (pc_nnotin (P := P) (w := w) rfl rfl (hu65 hr) (pv 2) (pv 3))) (pss_one (ps_ret pe_non)) pss_nil)
      (pss_cons (ps_set (i := 4) sc_planned_steps.nd rfl (Or.inl rfl) (pe_lst pa_nil))
      (pss_cons (ps_set (i := 5) sc_planned_steps.nd rfl (Or.inl rfl) (pv 2))
      (pss_cons (ps_while PassesOwn.never (pt_cmpR op_gt (pe_nget (P := P) (w := w) rfl rfl (hu65 hr) (pv 3) (pv 5) (fun _ _ => rfl)) pe_int (nomark _)) (pss_cons (ps_set (i := 6) sc_planned_steps.nd rfl (Or.inl rfl) (pe_call G_first_step_nearer (hr.mono (by decide)) rfl T.g_first_step_nearer T.F_first_step_nearer.kp T.b_first_step_nearer .nil pass0 (pa_cons (pv 0) (pa_cons (pv 1) (pa_cons (pv 5) (pa_cons (pv 3) pa_nil))))))
      (pss_cons (ps_expr (pe_bm PySem.F.plainAttrs_list PySem.F.slot_list_append PySem.F.type_list_append mt_append (pv 4) (pa_cons (pv 6) pa_nil)))
      (pss_one (ps_set (i := 5) sc_planned_steps.nd rfl (Or.inl rfl) (pe_call G_counts_behind (hr.mono (by decide)) rfl T.g_counts_behind T.F_counts_behind.kp T.b_counts_behind .nil pass0 (pa_cons (pv 5) (pa_cons (pv 6) pa_nil))))))))
      (pss_one (ps_ret (pv 4)))))))), ?_⟩
    refine q_asgP (ep_call (ea_cons (ev_var rfl) (ea_cons (ev_var rfl) (ea_cons (ev_var rfl) ea_nil))) fun H1 e1 Q q => ⟨ls, lc, l, h, h.now, rfl, hs.mono e1, xc.mono e1, g, q⟩) fun v3 H1 e1 ⟨f, R, F, hv3, td, xf⟩ => ?_
    subst hv3
    obtain ⟨r, r1, r2, r3, r4⟩ := tells_table hw td.tells td.now
    have hfn : Rp11.far (absH h).table h.now = F h.now := r4 _ r1
    obtain ⟨xs, xd, hv⟩ := id xf
    refine q_when (et_B (ev_nnotin (ev_var rfl) (ev_var rfl) xd (xc.mono e1))) (fun hb H2 e2 => ?_) (fun hb H2 e2 => ?_)
    · have hF : F h.now = none := by
        rw [hv] at hb
        cases q : F h.now with
        | none => rfl
        | some m => rw [q] at hb; cases hb
      refine s_ret ev_c fun H3 e3 => k0 (by rw [hfn, hF]) H3 ((e1.trans e2).trans e3)
    · obtain ⟨n, hF⟩ : ∃ n, F h.now = some n := by
        rw [hv] at hb
        cases q : F h.now with
        | none => rw [q] at hb; cases hb
        | some m => exact ⟨m, rfl⟩
      have hn217 := td.small _ _ hF
      have kk := k1 n (by rw [hfn, hF]) hn217
      refine q_asgL (el_lst ea_nil (by decide)) fun pl H3 npl e3 h3 => ?_
      refine q_asg (ev_var rfl) fun H4 e4 => ?_
      have E4 := ((e1.trans e2).trans e3).trans e4
      have npl0 : H pl = none := fresh_back (e1.trans e2) npl
      refine q_while (PWh P w A H ls lc l f pl h F r n) n ⟨h.now, l, [], ⟨none, rfl⟩, ⟨E4, npl0, [], e4 _ _ h3, .nil⟩, xc.mono E4, xf.mono ((e2.trans e3).trans e4), g, r1, hF, by simp, by simp⟩ ?_
      rintro m σ' H' ⟨t, c, acc, ⟨v6, rfl⟩, ac, xct, xf', gt, tr, hFt, hlen, hway⟩
      obtain ⟨xs, xd, hv⟩ := id xf'
      have vt : valN xs t = some (iv m) := by rw [hv, hFt]; rfl
      refine ⟨_, et_test (ev_op (ev_nget (ev_var rfl) (ev_var rfl) xd xct vt) ev_c rv_I0), fun hb H5 e5 => ?_, fun hb H5 e5 => ?_⟩
      · simp only [decide_eq_true_eq] at hb
        obtain ⟨m', rfl⟩ : ∃ m', m = m' + 1 := ⟨m - 1, by omega⟩
        obtain ⟨x, hx⟩ := nearer_some td.tells (r3 t tr) hFt
        have xm : x ∈ (absH h).steps t := List.mem_of_find?_eq_some hx
        have hxF : F (Rp11.after t x) = some m' := by
          have := List.find?_some hx
          simpa using this
        have hmay : h.may t x = true := by rw [← abs_may]; exact mem_steps.1 xm
        obtain ⟨rr, Ft⟩ := gt.fits (may_can hmay)
        refine ⟨fun σ2 H2 => PWh P w A H ls lc l f pl h F r n m' σ2 H2, fun σ2 H2 q => ⟨m', by omega, q⟩, ?_⟩
        refine q_asgP (ep_call (ea_cons (ev_var rfl) (ea_cons (ev_var rfl) (ea_cons (ev_var rfl) (ea_cons (ev_var rfl) ea_nil)))) fun H6 e6 Q q => ⟨ls, lc, c, f, h, t, F, m', x, rfl, hs.mono (ac.ex.trans (e5.trans e6)), xct.mono (e5.trans e6), gt, xf'.mono (e5.trans e6), hFt, hx, q⟩) fun v6' H6 e6 ⟨p, hv6, xp⟩ => ?_
        subst hv6
        have ac6 := ac.go (e5.trans e6)
        obtain ⟨ps, hps, hpa⟩ := ac6.at_
        have hpl := hpa.length
        refine q_app (K := K) hps (ev_var rfl) (ev_var rfl) (by rw [rv_len]; omega) fun H7 e7 => ?_
        have off : Off pl H7 (upd H7 pl (.lst (rv ps ++ [.ref p]))) := Off.upd (Ex.refl _)
        have hps7 := e7 _ _ hps
        have ac8 := (ac6.go e7).app hps7 (hpa.imp fun _ _ z => StepAt.mono e7 z) (xp.mono e7)
        have xc8 := (xct.mono ((e5.trans e6).trans e7)).off off hps7 lst_tup
        have xf8 := (xf'.mono ((e5.trans e6).trans e7)).off off hps7 lst_tup fun _ _ => dn_lst
        have h9 := ep_behind (σ := [some (.ref ls), some (.ref lc), some (.ref l), some (.ref f), some (.ref pl), some (.ref c), some (.ref p)]) (ta := tCons (tVar 5) (tCons (tVar 6) tNil)) (E := E0) (ea_cons (ev_var rfl) (ea_cons (ev_var rfl) ea_nil)) xc8 ((xp.mono e7).upd hps7) Ft
        refine h9 _ (Ex.refl _) _ fun v9 H9 e9 ⟨c', hv9, xc9⟩ => ?_
        subst hv9
        refine ⟨Rp11.after t x, c', acc ++ [x], ⟨_, rfl⟩, ac8.go e9, xc9, xf8.mono e9, gt.after (may_can hmay), r2 t tr x xm, hxF, by rw [List.length_append, List.length_singleton]; omega, ?_⟩
        rw [way_next hx fun y hy => r4 _ (r2 t tr y hy)] at hway
        rw [← hway, List.append_assoc]
        rfl
      · simp only [decide_eq_false_iff_not] at hb
        have m0 : m = 0 := by omega
        subst m0
        have hacc : acc = (absH h).way (absH h).table n h.now := by
          rw [← hway]
          show acc = acc ++ []
          rw [List.append_nil]
        refine s_ret (ev_var rfl) fun H6 e6 => ?_
        have kk := kk (by rw [← hacc]; omega)
        rw [← hacc] at kk
        exact kk pl H6 npl0 (ac.ex.trans (e5.trans e6)) (ac.at_.mono (e5.trans e6))
end
end Up

namespace Up
open PySem PySem.Spec PyProof.Rows L2 Evl
section off
variable {A : Ad} {H H' : Hp} {x : Addr} {o : HO} (e : Off x H H') (hx : H x = some o) (nt : ∀ xs, o ≠ .tup xs)
include e hx nt
theorem PairAt.off {t p} (h : PairAt H t p) : PairAt H' t p := e _ _ h (ne_of h hx (fun q => nt _ q.symm))
theorem ClashAt.off {t c} (h : ClashAt H t c) : ClashAt H' t c := by
  obtain ⟨a, b, h1, h2, h3⟩ := h
  exact ⟨a, b, e _ _ h1 (ne_of h1 hx (fun q => nt _ q.symm)), h2.off e hx nt, h3.off e hx nt⟩
theorem MovesAt.off {t p} (h : MovesAt H t p) (ht : t ≠ x) : MovesAt H' t p := h.imp fun _ q => ⟨e _ _ q.1 ht, q.2.imp fun _ _ h => h.off e hx nt⟩
theorem SvAt.off {p S} (h : SvAt A H p S) (h1 : p.1 ≠ x) (h2 : p.2 ≠ x) : SvAt A H' p S := ⟨h.obj.imp fun _ q => e _ _ q h1, h.mv.off e hx nt h2⟩
theorem ClashesAt.off {l cs} (h : ClashesAt H l cs) (hl : l ≠ x) : ClashesAt H' l cs := h.imp fun _ q => ⟨e _ _ q.1 hl, q.2.imp fun _ _ h => h.off e hx nt⟩
theorem svs_off {sv : List (Addr × Addr)} {ss : List Rp11.Service} (h : All2 (SvAt A H) sv ss) (h1 : ∀ p ∈ sv, p.1 ≠ x) (h2 : ∀ p ∈ sv, p.2 ≠ x) : All2 (SvAt A H') sv ss :=
  h.impMem fun a b ha _ q => q.off e hx nt (h1 a ha) (h2 a ha)
end off

/-! ### what a call may change -/
def foot (a : Addr) (L : Lay) : List Addr := a :: L.ls :: L.lc :: (L.sv.map (·.1) ++ L.sv.map (·.2))
structure Chg (S : List Addr) (H H' : Hp) : Prop where
  keep : ∀ b o, H b = some o → b ∉ S → H' b = some o
  tr : ∀ b, H' b = none → H b = none
theorem Chg.of_ex {S : List Addr} {H H' : Hp} (e : Ex H H') : Chg S H H' := ⟨fun b o h _ => e b o h, fun b h => fresh_back e h⟩
theorem Chg.upd {S : List Addr} {H H' : Hp} {x : Addr} {o : HO} (c : Chg S H H') (hx : x ∈ S) : Chg S H (L2.upd H' x o) := by
  refine ⟨fun b u h hb => ?_, fun b h => c.tr b ?_⟩
  · have hne : b ≠ x := fun e => hb (by rw [e]; exact hx)
    rw [upd_ne hne]
    exact c.keep b u h hb
  · by_cases e : b = x
    · rw [e, upd_same] at h
      cases h
    · rwa [upd_ne e] at h
theorem Chg.ex {S : List Addr} {H H1 H2 : Hp} (c : Chg S H H1) (e : Ex H1 H2) : Chg S H H2 := ⟨fun b o h hb => e b o (c.keep b o h hb), fun b h => c.tr b (fresh_back e h)⟩
theorem Chg.trans {S : List Addr} {H H1 H2 : Hp} (c : Chg S H H1) (d : Chg S H1 H2) : Chg S H H2 := ⟨fun b o h hb => d.keep b o (c.keep b o h hb) hb, fun b h => c.tr b (d.tr b h)⟩
structure HChg (a : Addr) (L : Lay) (H : Hp) (L' : Lay) (H' : Hp) : Prop where
  chg : Chg (foot a L) H H'
  fresh : ∀ b ∈ foot a L', b ∈ foot a L ∨ H b = none
theorem HChg.of_ex {a : Addr} {L : Lay} {H H' : Hp} (e : Ex H H') : HChg a L H L H' := ⟨.of_ex e, fun b hb => .inl hb⟩
theorem HChg.ex {a : Addr} {L L' : Lay} {H H1 H2 : Hp} (c : HChg a L H L' H1) (e : Ex H1 H2) : HChg a L H L' H2 := ⟨c.chg.ex e, c.fresh⟩

section
variable {P : Program} {w : World} {K : PySem.W.Frag} {mg : Str → Option Value} {base : Heap} {A : Ad}
/-! ### Service.__init__ -/
theorem svF_new (c n v g : Nat) (m : Addr) : putF "moves" (.ref m) (putF "wanted" (iv g) (putF "versions" (iv v) (putF "up" (iv n) (putF "copies" (iv c) [])))) = svF ⟨c, n, v, g, []⟩ m := by
  rw [putF_new (f := "copies") (ks := []) rfl rfl, putF_new (f := "up") (ks := ["copies"]) rfl (by decide +kernel), putF_new (f := "versions") (ks := ["copies", "up"]) rfl (by decide +kernel),
    putF_new (f := "wanted") (ks := ["copies", "up", "versions"]) rfl (by decide +kernel), putF_new (f := "moves") (ks := ["copies", "up", "versions", "wanted"]) rfl (by decide +kernel)]
  rfl
def sp_Service_init (A : Ad) : Sp := fun vs H Q _ => ∃ (p dx : Addr) (c n v g : Nat), vs = [.ref p, iv c, iv n, iv v, iv g] ∧ H p = some (.ins A.c_Service dx []) ∧
  ∀ H' m, Off p H H' → H m = none → SvAt A H' (p, m) ⟨c, n, v, g, []⟩ → Q .non H'
theorem ok_Service_init (T : Tx K mg A) : FnOk P w K mg base CX0 1 A.a_Service_init A.d_Service_init p_Service_init (sp_Service_init A) := by
  refine T.F_Service_init.ok sc_Service_init (fun vs H Q E h => ?_) (fun cdv A' outer s H vs Q E hr h => ?_)
  · obtain ⟨p, dx, c, n, v, g, rfl, _⟩ := h
    rfl
  · obtain ⟨p, dx, c, n, v, g, rfl, hp, k⟩ := h
    refine ⟨_, (pss_cons (ps_fld (pv 0) (pv 1) rfl)
      (pss_cons (ps_fld (pv 0) (pv 2) rfl)
      (pss_cons (ps_fld (pv 0) (pv 3) rfl)
      (pss_cons (ps_fld (pv 0) (pv 4) rfl)
      (pss_one (ps_fld (pv 0) (pe_lst pa_nil) rfl)))))), ?_⟩
    refine q_fld (v := iv c) (ev_var rfl) (ev_var rfl) hp T.cl_Service T.n_Service_copies (by show 0 < 1000; decide) fun H1 e1 => ?_
    refine q_fld (v := iv n) (ev_var rfl) (ev_var rfl) upd_same T.cl_Service T.n_Service_up (putF_small (by decide)) fun H2 e2 => ?_
    refine q_fld (v := iv v) (ev_var rfl) (ev_var rfl) upd_same T.cl_Service T.n_Service_versions (putF_small (putF_small (by decide))) fun H3 e3 => ?_
    refine q_fld (v := iv g) (ev_var rfl) (ev_var rfl) upd_same T.cl_Service T.n_Service_wanted (putF_small (putF_small (putF_small (by decide)))) fun H4 e4 => ?_
    refine s_fldL (xs := []) (el_lst ea_nil (by decide)) (fun H1 _ => ev_var rfl) upd_same T.cl_Service T.n_Service_moves (putF_small (putF_small (putF_small (putF_small (by decide))))) fun m H5 hm e5 h5 => ?_
    have o1 : Off p H (upd H1 p (.ins A.c_Service dx (putF "copies" (iv c) []))) := .upd e1
    have o2 := o1.trans (Off.upd (o := .ins A.c_Service dx (putF "up" (iv n) (putF "copies" (iv c) []))) e2)
    have o3 := o2.trans (Off.upd (o := .ins A.c_Service dx (putF "versions" (iv v) (putF "up" (iv n) (putF "copies" (iv c) [])))) e3)
    have o4 := o3.trans (Off.upd (o := .ins A.c_Service dx (putF "wanted" (iv g) (putF "versions" (iv v) (putF "up" (iv n) (putF "copies" (iv c) []))))) e4)
    have hpm : m ≠ p := fun e => by
      rw [e, upd_same] at hm
      cases hm
    refine k _ m (o4.trans (Off.upd e5)) ?_ ⟨⟨dx, ?_⟩, [], ?_, .nil⟩
    · cases q : H m with
      | none => rfl
      | some o => rw [o4 m o q hpm] at hm; cases hm
    · rw [upd_same, svF_new]
    · rw [upd_ne hpm]
      exact h5
/-! ### begin, __init__ -/
theorem ho_put {fs : List (Str × V)} (h : fs = [] ∨ ∃ x y z, fs = hoF x y z) (ls lc ln : Addr) : putF "counts" (.ref ln) (putF "clashes" (.ref lc) (putF "services" (.ref ls) fs)) = hoF ls lc ln := by
  rcases h with rfl | ⟨x, y, z, rfl⟩
  · rw [putF_new (f := "services") (ks := []) rfl rfl, putF_new (f := "clashes") (ks := ["services"]) rfl (by decide +kernel), putF_new (f := "counts") (ks := ["services", "clashes"]) rfl (by decide +kernel)]
    rfl
  · unfold hoF
    rw [put_here, put_past (by decide +kernel), put_here, put_past (by decide +kernel), put_past (by decide +kernel), put_here]
theorem ho_small {fs : List (Str × V)} (h : fs = [] ∨ ∃ x y z, fs = hoF x y z) : fs.length < 997 := by
  rcases h with rfl | ⟨x, y, z, rfl⟩
  · decide
  · show 3 < 997
    decide
def NewHouse (A : Ad) (H : Hp) (a : Addr) (L : Lay) (H' : Hp) : Prop := Off a H H' ∧ (∀ b, H' b = none → H b = none) ∧ HouseAt A H' a L Rp11.init ∧ L.sv = [] ∧ H L.ls = none ∧ H L.lc = none
theorem q_fldU {σ : L2.St} {H : Hp} {ta tv : TE} {D : Ends} {tz : TS} {a C dx : Addr} {fs : List (Str × V)} {f : Str} {xs : List V} (hv : EvU tv σ H xs) (ha : ∀ H1, Ex H H1 → Ev ta σ H1 (.ref a)) (ho : H a = some (.ins C dx fs)) (c : Cls K C) (n : NoAttr K C f) (hl : fs.length < 1000)
    (k : ∀ p H1, H p = none → Ex H H1 → H1 p = some (.tup xs) → tz D σ (upd H1 a (.ins C dx (putF f (.ref p) fs)))) : tSeq (sFld K ta tv f) tz D σ H :=
  hv H (Ex.refl H) _ fun p H1 hp e1 h1 => ha H1 e1 H1 (Ex.refl H1) _ fun H2 e2 => ⟨a, C, dx, fs, rfl, (e1.trans e2) _ _ ho, c, n, hl, k p H2 hp (e1.trans e2) (e2 _ _ h1)⟩
def sp_House_begin (A : Ad) : Sp := fun vs H Q _ => ∃ (a dx : Addr) (fs : List (Str × V)), vs = [.ref a] ∧ H a = some (.ins A.c_House dx fs) ∧ (fs = [] ∨ ∃ x y z, fs = hoF x y z) ∧ ∀ H' L, NewHouse A H a L H' → Q (.int 0) H'
theorem ok_House_begin (T : Tx K mg A) : FnOk P w K mg base CX0 1 A.a_House_begin A.d_House_begin p_House_begin (sp_House_begin A) := by
  refine T.F_House_begin.ok sc_House_begin (fun vs H Q E h => ?_) (fun cdv A' outer s H vs Q E hr h => ?_)
  · obtain ⟨a, dx, fs, rfl, _⟩ := h
    rfl
  · obtain ⟨a, dx, fs, rfl, ha, hfs, k⟩ := h
    refine ⟨_, (pss_cons (ps_fld (pv 0) (pe_lst pa_nil) rfl)
      (pss_cons (ps_fld (pv 0) (pe_lst pa_nil) rfl)
      (pss_cons (ps_fld (pv 0) (pe_tup pa_nil) rfl)
      (pss_one (ps_ret (pe_gint rfl T.g_DONE)))))), ?_⟩
    have sm := ho_small hfs
    refine q_fldL (xs := []) (el_lst ea_nil (by decide)) (fun H1 _ => ev_var rfl) ha T.cl_House T.n_House_services (by omega) fun ls H1 n1 e1 h1 => ?_
    refine q_fldL (xs := []) (el_lst ea_nil (by decide)) (fun H1 _ => ev_var rfl) upd_same T.cl_House T.n_House_clashes (Nat.lt_trans (putF_small sm) (by decide)) fun lc H2 n2 e2 h2 => ?_
    refine q_fldU (xs := []) (eu_tup ea_nil (by decide)) (fun H1 _ => ev_var rfl) upd_same T.cl_House T.n_House_counts (Nat.lt_trans (putF_small (putF_small sm)) (by decide)) fun ln H3 n3 e3 h3 => ?_
    have lsa : ls ≠ a := ne_of h1 (e1 _ _ ha) (by intro q; cases q)
    have g1 := e2 ls _ (by rw [upd_ne lsa]; exact h1)
    have lca : lc ≠ a := fun e => by
      rw [e, upd_same] at n2
      cases n2
    have lna : ln ≠ a := fun e => by
      rw [e, upd_same] at n3
      cases n3
    rw [upd_ne lca] at n2
    rw [upd_ne lna] at n3
    have lcls : lc ≠ ls := Ne.symm (ne_of_none h1 n2)
    have k1 := e3 ls _ (by rw [upd_ne lsa]; exact g1)
    have k2 := e3 lc _ (by rw [upd_ne lca]; exact h2)
    have o1 : Off a H (upd H1 a (.ins A.c_House dx (putF "services" (.ref ls) fs))) := .upd e1
    have o2 := o1.trans (Off.upd (o := .ins A.c_House dx (putF "clashes" (.ref lc) (putF "services" (.ref ls) fs))) e2)
    have o3 := o2.trans (Off.upd (o := .ins A.c_House dx (putF "counts" (.ref ln) (putF "clashes" (.ref lc) (putF "services" (.ref ls) fs)))) e3)
    have tr : ∀ b, (upd H3 a (.ins A.c_House dx (putF "counts" (.ref ln) (putF "clashes" (.ref lc) (putF "services" (.ref ls) fs))))) b = none → H b = none := by
      intro b hb
      cases q : H b with
      | none => rfl
      | some o =>
        by_cases e : b = a
        · rw [e, upd_same] at hb
          cases hb
        · rw [o3 b o q e] at hb
          cases hb
    refine s_ret ev_c fun H4 e4 => ?_
    refine k H4 ⟨ls, lc, ln, []⟩ ⟨fun b o h hb => e4 _ _ (o3 b o h hb), fun b h => tr b (fresh_back e4 h), ?_, rfl, n1, fresh_back e1 n2⟩
    refine ⟨⟨dx, e4 _ _ (by rw [upd_same, ho_put hfs])⟩, e4 _ _ (by rw [upd_ne lsa]; exact k1), .nil, ⟨[], e4 _ _ (by rw [upd_ne lca]; exact k2), .nil⟩, ⟨[], e4 _ _ (by rw [upd_ne lna]; exact h3), .nil⟩, ?_, by simp⟩
    show [ls, lc].Nodup
    simp [Ne.symm lcls]
def sp_House_init (A : Ad) : Sp := fun vs H Q _ => ∃ (a dx : Addr), vs = [.ref a] ∧ H a = some (.ins A.c_House dx []) ∧ ∀ H' L, NewHouse A H a L H' → Q .non H'
theorem ok_House_init (T : Tx K mg A) (G_House_begin : FnOk P w K mg base CX0 1 A.a_House_begin A.d_House_begin p_House_begin (sp_House_begin A)) : FnOk P w K mg base CX0 2 A.a_House_init A.d_House_init p_House_init (sp_House_init A) := by
  refine T.F_House_init.ok sc_House_init (fun vs H Q E h => ?_) (fun cdv A' outer s H vs Q E hr h => ?_)
  · obtain ⟨a, dx, rfl, _⟩ := h
    rfl
  · obtain ⟨a, dx, rfl, ha, k⟩ := h
    refine ⟨_, (pss_one (ps_expr (pe_meth0 (pv 0) T.cl_House T.m_House_begin G_House_begin (hr.mono (by decide)) T.b_House_begin .nil pass0))), ?_⟩
    exact ⟨_, rfl, a, dx, [], rfl, ha, rfl, a, dx, [], rfl, ha, .inl rfl, fun H' L N => k H' L N⟩

end
end Up

namespace Up
open PySem PySem.Spec PyProof.Rows L2 Evl
section
variable {P : Program} {w : World} {K : PySem.W.Frag} {mg : Str → Option Value} {base : Heap} {A : Ad}
/-! ### the calls that change the house -/
def MutTo (A : Ad) (a : Addr) (L : Lay) (H : Hp) (h' : Rp11.House) (ans : Int) (Q : VK) : Prop := ∀ H' L', HouseAt A H' a L' h' → HChg a L H L' H' → Q (.int ans) H'
theorem MutTo.stay {a : Addr} {L : Lay} {H H' : Hp} {h h' : Rp11.House} {ans n : Int} {Q : VK} (k : MutTo A a L H h' ans Q) (e1 : h' = h) (e2 : ans = n) (x : HouseAt A H a L h) (e : Ex H H') : Q (.int n) H' := by
  subst e1 e2
  exact k H' L (x.mono e) (.of_ex e)
theorem sp_has {a : Addr} {L : Lay} {h : Rp11.House} {H : Hp} (x : HouseAt A H a L h) (s v : Nat) : SpV (sp_House_has_version A) [.ref a, iv s, iv v] H (.bl (decide (hasVersion h s v))) := fun H1 e Q q E => ⟨a, L, h, s, v, rfl, x.mono e, q⟩
theorem nd_mv {L : Lay} (nd : L.lists.Nodup) {s : Nat} {p : Addr × Addr} (hp : L.sv[s]? = some p) : L.ls ≠ p.2 ∧ L.lc ≠ p.2 ∧ ∀ (j : Nat) q, L.sv[j]? = some q → j ≠ s → q.2 ≠ p.2 := by
  have hm : p.2 ∈ L.sv.map (·.2) := List.mem_map.2 ⟨p, List.mem_of_getElem? hp, rfl⟩
  unfold Lay.lists at nd
  simp only [List.nodup_cons, List.mem_cons, not_or] at nd
  obtain ⟨⟨_, n3⟩, n5, n9⟩ := nd
  refine ⟨fun e => n3 (e ▸ hm), fun e => n5 (e ▸ hm), fun j q hq hj e => hj ?_⟩
  exact nd_ix n9 (x := p.2) (by rw [List.getElem?_map, hq, ← e]; rfl) (by rw [List.getElem?_map, hp]; rfl)
def mMove (h : Rp11.House) (s v w : Nat) : Rp11.House × Int :=
  if ¬ (hasVersion h s v ∧ hasVersion h s w) then (h, -2) else if v = w ∨ (v, w) ∈ (h.at_ s).moves then (h, -4) else
    ({ h with services := h.services.set s { h.at_ s with moves := (h.at_ s).moves ++ [(v, w)] } }, (((h.at_ s).moves.length + 1 : Nat) : Int))
def sp_House_add_move (A : Ad) : Sp := fun vs H Q _ => ∃ (a : Addr) (L : Lay) (h : Rp11.House) (s v w : Nat), vs = [.ref a, iv s, iv v, iv w] ∧ HouseAt A H a L h ∧ WF (absH h) ∧ MutTo A a L H (mMove h s v w).1 (mMove h s v w).2 Q
theorem ok_House_add_move (T : Tx K mg A) (G_House_has_version : FnOk P w K mg base CX0 1 A.a_House_has_version A.d_House_has_version p_House_has_version (sp_House_has_version A)) : FnOk P w K mg base CX0 2 A.a_House_add_move A.d_House_add_move p_House_add_move (sp_House_add_move A) := by
  refine T.F_House_add_move.ok sc_House_add_move (fun vs H Q E h => ?_) (fun cdv A' outer s H vs Q E hr h => ?_)
  · obtain ⟨a, L, h, s, v, w, rfl, _⟩ := h
    rfl
  · obtain ⟨a, L, h, s, v, w, rfl, X, hw, k⟩ := h
    refine ⟨_, (pss_cons (ps_if (PW.pt (pw_or (pt_not (pt_val (pe_meth (pv 0) T.cl_House T.m_House_has_version G_House_has_version (hr.mono (by decide)) T.b_House_has_version .nil pass0 (pa_cons (pv 1) (pa_cons (pv 2) pa_nil))))) (pw_or1 (pt_not (pt_val (pe_meth (pv 0) T.cl_House T.m_House_has_version G_House_has_version (hr.mono (by decide)) T.b_House_has_version .nil pass0 (pa_cons (pv 1) (pa_cons (pv 3) pa_nil)))))))) (pss_one (ps_ret (pe_gint rfl T.g_NO_SUCH))) pss_nil)
      (pss_cons (ps_set (i := 4) sc_House_add_move.nd rfl (Or.inl rfl) (pe_fld (pe_ix ix_list (pe_fld (pv 0) rfl) (pv 1) (fun _ _ => rfl)) rfl))
      (pss_cons (ps_if (PW.pt (pw_or (pt_cmpR op_eq (pv 2) (pv 3) (nomark _)) (pw_or1 (pt_cmpR (op_inD (hu65 hr)) (pe_tup (pa_cons (pv 2) (pa_cons (pv 3) pa_nil))) (pv 4) (by rfl))))) (pss_one (ps_ret (pe_gint rfl T.g_NOT_NEW))) pss_nil)
      (pss_cons (ps_expr (pe_bm PySem.F.plainAttrs_list PySem.F.slot_list_append PySem.F.type_list_append mt_append (pv 4) (pa_cons (pe_tup (pa_cons (pv 2) (pa_cons (pv 3) pa_nil))) pa_nil)))
      (pss_one (ps_ret (pe_callB call_len_seq (by rfl) T.b_len PySem.boot_len (pa_cons (pv 4) pa_nil)))))))), ?_⟩
    have nm : ∀ {ls lc ln : Addr}, (hoF ls lc ln).lookup ("has_version" : Str) = none := ho_no _ _ _ (by decide +kernel) (by decide +kernel) (by decide +kernel)
    refine q_when (et_or (et_not (et_test (ev_meth (ev_var rfl) X.obj.choose_spec nm (ea_cons (ev_var rfl) (ea_cons (ev_var rfl) ea_nil)) (sp_has X s v)))) fun _ => et_not (et_test (ev_meth (ev_var rfl) X.obj.choose_spec nm (ea_cons (ev_var rfl) (ea_cons (ev_var rfl) ea_nil)) (sp_has X s w)))) (fun hb H1 e1 => ?_) (fun hb H1 e1 => ?_)
    · refine s_ret ev_c fun H2 e2 => ?_
      have hc : ¬ (hasVersion h s v ∧ hasVersion h s w) := by
        simp only [Bool.or_eq_true, Bool.not_eq_true', decide_eq_false_iff_not] at hb
        rintro ⟨q1, q2⟩
        rcases hb with hb | hb
        · exact hb q1
        · exact hb q2
      refine k.stay ?_ ?_ X (e1.trans e2)
      · unfold mMove; rw [if_pos hc]
      · unfold mMove; rw [if_pos hc]
    · simp only [Bool.or_eq_false_iff, Bool.not_eq_false', decide_eq_true_eq] at hb
      have hc : ¬ ¬ (hasVersion h s v ∧ hasVersion h s w) := fun q => q hb
      have hs : s < h.services.length := hb.1.1
      have X1 := X.mono e1
      obtain ⟨p, S, hp, hS, xS, ev⟩ := ev_service (K := K) X1 hs (ev_services (T := T) (ta := tVar 0) (σ := start N_House_add_move [.ref a, iv s, iv v, iv w]) X1 (ev_var rfl)) (tb := tVar 1) (ev_var rfl)
      have hat := at_of_get hS
      refine q_asg (ev_moves (T := T) xS ev) fun H2 e2 => ?_
      have X2 := X1.mono e2
      have xS2 := xS.mono e2
      refine q_when (et_or (et_test (ev_op (ev_var rfl) (ev_var rfl) (rv_eq rfl))) fun _ => et_test (ev_opU1 (eu_tup (ea_cons (ev_var rfl) (ea_cons (ev_var rfl) ea_nil)) (by show 2 ≤ 100000; decide)) (ev_var rfl) fun t H3 ht e3 => rv_inP (m := (v, w)) ht (xS2.mv.mono e3))) (fun hb2 H3 e3 => ?_) (fun hb2 H3 e3 => ?_)
      · refine s_ret ev_c fun H4 e4 => ?_
        simp only [Bool.or_eq_true, decide_eq_true_eq, iv, V.int.injEq] at hb2
        have hc2 : v = w ∨ (v, w) ∈ (h.at_ s).moves := by
          rw [hat]
          exact hb2.imp (fun q => by omega) id
        refine k.stay ?_ ?_ X (((e1.trans e2).trans e3).trans e4)
        · unfold mMove; rw [if_neg hc, if_pos hc2]
        · unfold mMove; rw [if_neg hc, if_pos hc2]
      · simp only [Bool.or_eq_false_iff, decide_eq_false_iff_not, iv, V.int.injEq] at hb2
        have hc2 : ¬ (v = w ∨ (v, w) ∈ (h.at_ s).moves) := by
          rw [hat]
          rintro (q | q)
          · exact hb2.1 (by rw [q])
          · exact hb2.2 q
        have X3 := X2.mono e3
        obtain ⟨ts, hts, hms⟩ := (xS2.mono e3).mv
        have hsm : ts.length ≤ 9 := by
          have hW : WFS (absS S) := hw.ser _ (List.mem_map.2 ⟨S, List.mem_of_getElem? hS, rfl⟩)
          have h1 := moves_le9 hW
          have h2 : (absS S).moves.length = S.moves.length := len_sort _
          have h3 := hms.length
          omega
        refine q_appU hts (ev_var rfl) (eu_tup (ea_cons (ev_var rfl) (ea_cons (ev_var rfl) ea_nil)) (by show 2 ≤ 100000; decide)) (by simp only [rv, List.length_map]; omega) fun t H4 nt e4 ht => ?_
        refine s_ret (ev_len (xs := rv ts ++ [.ref t]) (ev_var rfl) (sq_of upd_same)) fun H5 e5 => ?_
        rw [rv_snoc] at e5 ⊢
        have off : Off p.2 H3 H5 := Off.trans (Off.upd e4) (Off.of_ex e5)
        have ntup : ∀ xs, HO.lst (rv ts) ≠ HO.tup xs := fun xs q => by cases q
        obtain ⟨d1, d2, d5⟩ := nd_mv X.nd hp
        have hans : ((rv (ts ++ [t])).length : Int) = (mMove h s v w).2 := by
          unfold mMove
          rw [if_neg hc, if_neg hc2, hat]
          have := hms.length
          simp only [rv, List.length_map, List.length_append, List.length_singleton, this]
        rw [hans]
        refine k H5 L ?_ ⟨?_, fun b hb => .inl hb⟩
        · have hh : (mMove h s v w).1 = { h with services := h.services.set s { S with moves := S.moves ++ [(v, w)] } } := by
            unfold mMove
            rw [if_neg hc, if_neg hc2, hat]
          rw [hh]
          obtain ⟨dx, hobj⟩ := X3.obj
          refine ⟨⟨dx, off _ _ hobj (ne_of hobj hts (by intro q; cases q))⟩, off _ _ X3.ls d1, ?_, X3.lc.off off hts ntup d2, X3.ct.off off hts ntup, X3.nd, X3.nds⟩
          refine X3.sv.setR s hp ?_ ?_
          · obtain ⟨ds, hs'⟩ := (xS2.mono e3).obj
            refine ⟨⟨ds, off _ _ hs' (ne_of hs' hts (by intro q; cases q))⟩, ts ++ [t], e5 _ _ upd_same, ?_⟩
            exact (hms.imp fun _ _ q => q.off off hts ntup).snoc (show PairAt H5 t (v, w) from e5 _ _ (by rw [upd_ne (ne_of ht (e4 _ _ hts) (by intro q; cases q))]; exact ht))
          · intro j x y hx hy hj hxy
            obtain ⟨ds, hs'⟩ := hxy.obj
            exact hxy.off off hts ntup (ne_of hs' hts (by intro q; cases q)) (d5 j x hx hj)
        · refine Chg.ex (Chg.upd (Chg.of_ex (((e1.trans e2).trans e3).trans e4)) ?_) e5
          unfold foot
          have hm : p.2 ∈ L.sv.map (·.2) := List.mem_map.2 ⟨p, List.mem_of_getElem? hp, rfl⟩
          simp only [List.mem_cons, List.mem_append]
          exact .inr (.inr (.inr (.inr hm)))
theorem abs_versions (h : Rp11.House) (s : Nat) : ((absH h).services.getD s noService).versions = (h.services.getD s noService).versions := by
  have := abs_at h s
  show ((absH h).at_ s).versions = (h.at_ s).versions
  rw [this]
  rfl
theorem clash_has {h : Rp11.House} (hw : WF (absH h)) {c : Nat × Nat × Nat × Nat} (hc : c ∈ h.clashes) : hasVersion h c.1 c.2.1 ∧ hasVersion h c.2.2.1 c.2.2.2 := by
  obtain ⟨h1, h2, h3, h4⟩ := hw.clv c hc
  rw [abs_len] at h1 h3
  rw [abs_versions] at h2 h4
  exact ⟨⟨h1, h2⟩, h3, h4⟩
theorem nd_ls {L : Lay} (nd : L.lists.Nodup) : L.lc ≠ L.ls ∧ (∀ p ∈ L.sv, p.2 ≠ L.ls ∧ p.2 ≠ L.lc) := by
  unfold Lay.lists at nd
  simp only [List.nodup_cons, List.mem_cons, not_or] at nd
  obtain ⟨⟨n1, n3⟩, n6, _⟩ := nd
  refine ⟨fun e => n1 e.symm, fun p hp => ?_⟩
  have hm : p.2 ∈ L.sv.map (·.2) := List.mem_map.2 ⟨p, hp, rfl⟩
  exact ⟨fun e => n3 (e ▸ hm), fun e => n6 (e ▸ hm)⟩
theorem good_now {h : Rp11.House} (hw : WF (absH h)) : Good h h.now := ⟨hw.ser, by have := hw.len; rwa [abs_len] at this, fun c hc => clash_has hw hc, hw.shape⟩
/-- what the specification answers, of the program's own house -/
def mStep (h : Rp11.House) (c : Rp11.Call) : Rp11.House × Int := ((Rp11.step h c).1, (Rp11.step h c).2.v)
def sp_House_add_clash (A : Ad) : Sp := fun vs H Q _ => ∃ (a : Addr) (L : Lay) (h : Rp11.House) (s v s' v' : Nat), vs = [.ref a, iv s, iv v, iv s', iv v'] ∧ HouseAt A H a L h ∧ WF (absH h) ∧ MutTo A a L H (mStep h (.clash s v s' v')).1 (mStep h (.clash s v s' v')).2 Q
theorem mClash_eq (h : Rp11.House) (s v s' v' : Nat) : mStep h (.clash s v s' v') = if ¬ (hasVersion h s v ∧ hasVersion h s' v') then (h, -2) else if (s, v) = (s', v') ∨ ((s, v, s', v') ∈ h.clashes ∨ (s', v', s, v) ∈ h.clashes) then (h, -4) else
    if 0 < Rp11.count h.now s v ∧ 0 < Rp11.count h.now s' v' then (h, -5) else if h.clashes.length = 20 then (h, -7) else ({ h with clashes := h.clashes ++ [(s, v, s', v')] }, ((h.clashes.length + 1 : Nat) : Int)) := by
  unfold mStep Rp11.step
  simp only
  by_cases c1 : hasVersion h s v ∧ hasVersion h s' v'
  · have c1' : ¬ (h.services.length ≤ s ∨ (h.at_ s).versions ≤ v ∨ h.services.length ≤ s' ∨ (h.at_ s').versions ≤ v') := by
      obtain ⟨⟨a1, a2⟩, a3, a4⟩ := c1
      rw [← at_getD] at a2 a4
      omega
    rw [if_neg c1', if_neg (show ¬ ¬ (hasVersion h s v ∧ hasVersion h s' v') from fun q => q c1)]
    by_cases c2 : (s, v) = (s', v') ∨ ((s, v, s', v') ∈ h.clashes ∨ (s', v', s, v) ∈ h.clashes)
    · have c2' : h.clashes.contains (s, v, s', v') = true ∨ h.clashes.contains (s', v', s, v) = true ∨ s = s' ∧ v = v' := by
        rcases c2 with q | q | q
        · exact .inr (.inr (Prod.mk.inj q))
        · exact .inl (List.contains_iff_mem.2 q)
        · exact .inr (.inl (List.contains_iff_mem.2 q))
      rw [if_pos c2, if_pos c2']
      rfl
    · have c2' : ¬ (h.clashes.contains (s, v, s', v') = true ∨ h.clashes.contains (s', v', s, v) = true ∨ s = s' ∧ v = v') := by
        rintro (q | q | q)
        · exact c2 (.inr (.inl (List.contains_iff_mem.1 q)))
        · exact c2 (.inr (.inr (List.contains_iff_mem.1 q)))
        · exact c2 (.inl (Prod.ext q.1 q.2))
      rw [if_neg c2, if_neg c2']
      by_cases c3 : 0 < Rp11.count h.now s v ∧ 0 < Rp11.count h.now s' v'
      · rw [if_pos c3, if_pos c3]
        rfl
      · rw [if_neg c3, if_neg c3]
        by_cases c4 : h.clashes.length = 20
        · rw [if_pos c4, if_pos (show h.clashes.length = Rp11.CLASHES from c4)]
          rfl
        · rw [if_neg c4, if_neg (show ¬ h.clashes.length = Rp11.CLASHES from c4)]
          rfl
  · have c1' : (h.services.length ≤ s ∨ (h.at_ s).versions ≤ v ∨ h.services.length ≤ s' ∨ (h.at_ s').versions ≤ v') := by
      unfold hasVersion at c1
      rw [← at_getD, ← at_getD] at c1
      omega
    rw [if_pos c1', if_pos c1]
    rfl
theorem ok_House_add_clash (T : Tx K mg A) (G_House_has_version : FnOk P w K mg base CX0 1 A.a_House_has_version A.d_House_has_version p_House_has_version (sp_House_has_version A))
    (G_House_has_clash : FnOk P w K mg base CX0 1 A.a_House_has_clash A.d_House_has_clash p_House_has_clash (sp_House_has_clash A)) (G_is_there : FnOk P w K mg base CX0 1 A.a_is_there A.d_is_there p_is_there sp_is_there) :
    FnOk P w K mg base CX0 2 A.a_House_add_clash A.d_House_add_clash p_House_add_clash (sp_House_add_clash A) := by
  refine T.F_House_add_clash.ok sc_House_add_clash (fun vs H Q E h => ?_) (fun cdv A' outer s H vs Q E hr h => ?_)
  · obtain ⟨a, L, h, s, v, s', v', rfl, _⟩ := h
    rfl
  · obtain ⟨a, L, h, s, v, s', v', rfl, X, hw, k⟩ := h
    rw [mClash_eq] at k
    refine ⟨_, (pss_cons (ps_if (PW.pt (pw_or (pt_not (pt_val (pe_meth (pv 0) T.cl_House T.m_House_has_version G_House_has_version (hr.mono (by decide)) T.b_House_has_version .nil pass0 (pa_cons (pv 1) (pa_cons (pv 2) pa_nil))))) (pw_or1 (pt_not (pt_val (pe_meth (pv 0) T.cl_House T.m_House_has_version G_House_has_version (hr.mono (by decide)) T.b_House_has_version .nil pass0 (pa_cons (pv 3) (pa_cons (pv 4) pa_nil)))))))) (pss_one (ps_ret (pe_gint rfl T.g_NO_SUCH))) pss_nil)
      (pss_cons (ps_set (i := 5) sc_House_add_clash.nd rfl (Or.inl rfl) (pe_tup (pa_cons (pv 1) (pa_cons (pv 2) pa_nil))))
      (pss_cons (ps_set (i := 6) sc_House_add_clash.nd rfl (Or.inl rfl) (pe_tup (pa_cons (pv 3) (pa_cons (pv 4) pa_nil))))
      (pss_cons (ps_if (PW.pt (pw_or (pt_cmpR (op_eqD hr.units) (pv 5) (pv 6) (nomark _)) (pw_or1 (pt_val (pe_meth (pv 0) T.cl_House T.m_House_has_clash G_House_has_clash (hr.mono (by decide)) T.b_House_has_clash .nil pass0 (pa_cons (pv 5) (pa_cons (pv 6) pa_nil))))))) (pss_one (ps_ret (pe_gint rfl T.g_NOT_NEW))) pss_nil)
      (pss_cons (ps_if (PW.pt (pw_and (pt_val (pe_call G_is_there (hr.mono (by decide)) rfl T.g_is_there T.F_is_there.kp T.b_is_there .nil pass0 (pa_cons (pe_fld (pv 0) rfl) (pa_cons (pv 5) pa_nil)))) (pw_and1 (pt_val (pe_call G_is_there (hr.mono (by decide)) rfl T.g_is_there T.F_is_there.kp T.b_is_there .nil pass0 (pa_cons (pe_fld (pv 0) rfl) (pa_cons (pv 6) pa_nil))))))) (pss_one (ps_ret (pe_gint rfl T.g_BOTH_THERE))) pss_nil)
      (pss_cons (ps_if (pt_cmpR op_eq (pe_callB call_len_seq (by rfl) T.b_len PySem.boot_len (pa_cons (pe_fld (pv 0) rfl) pa_nil)) (pe_gint rfl T.g_MOST_CLASHES) (nomark _)) (pss_one (ps_ret (pe_gint rfl T.g_FULL))) pss_nil)
      (pss_cons (ps_expr (pe_bm PySem.F.plainAttrs_list PySem.F.slot_list_append PySem.F.type_list_append mt_append (pe_fld (pv 0) rfl) (pa_cons (pe_tup (pa_cons (pv 5) (pa_cons (pv 6) pa_nil))) pa_nil)))
      (pss_one (ps_ret (pe_callB call_len_seq (by rfl) T.b_len PySem.boot_len (pa_cons (pe_fld (pv 0) rfl) pa_nil))))))))))), ?_⟩
    have nm : ∀ {ls lc ln : Addr}, (hoF ls lc ln).lookup ("has_version" : Str) = none := ho_no _ _ _ (by decide +kernel) (by decide +kernel) (by decide +kernel)
    have nm2 : ∀ {ls lc ln : Addr}, (hoF ls lc ln).lookup ("has_clash" : Str) = none := ho_no _ _ _ (by decide +kernel) (by decide +kernel) (by decide +kernel)
    refine q_when (et_or (et_not (et_test (ev_meth (ev_var rfl) X.obj.choose_spec nm (ea_cons (ev_var rfl) (ea_cons (ev_var rfl) ea_nil)) (sp_has X s v)))) fun _ => et_not (et_test (ev_meth (ev_var rfl) X.obj.choose_spec nm (ea_cons (ev_var rfl) (ea_cons (ev_var rfl) ea_nil)) (sp_has X s' v')))) (fun hb H1 e1 => ?_) (fun hb H1 e1 => ?_)
    · refine s_ret ev_c fun H2 e2 => ?_
      have hc : ¬ (hasVersion h s v ∧ hasVersion h s' v') := by
        simp only [Bool.or_eq_true, Bool.not_eq_true', decide_eq_false_iff_not] at hb
        rintro ⟨q1, q2⟩
        rcases hb with hb | hb
        · exact hb q1
        · exact hb q2
      rw [if_pos hc] at k
      exact k.stay rfl rfl X (e1.trans e2)
    · simp only [Bool.or_eq_false_iff, Bool.not_eq_false', decide_eq_true_eq] at hb
      rw [if_neg (fun q => q hb)] at k
      refine q_asgU (eu_tup (ea_cons (ev_var rfl) (ea_cons (ev_var rfl) ea_nil)) (by show 2 ≤ 100000; decide)) fun p1 H2 n1 e2 h1 => ?_
      refine q_asgU (eu_tup (ea_cons (ev_var rfl) (ea_cons (ev_var rfl) ea_nil)) (by show 2 ≤ 100000; decide)) fun p2 H3 n2 e3 h2 => ?_
      have E3 := (e1.trans e2).trans e3
      have X3 := X.mono E3
      have P1 : PairAt H3 p1 (s, v) := e3 _ _ h1
      have P2 : PairAt H3 p2 (s', v') := h2
      refine q_when (et_or (et_test (ev_op (ev_var rfl) (ev_var rfl) (rv_eqP P1 P2))) fun _ => et_test (ev_meth (ev_var rfl) X3.obj.choose_spec nm2 (ea_cons (ev_var rfl) (ea_cons (ev_var rfl) ea_nil)) (z := .bl (decide ((s, v, s', v') ∈ h.clashes ∨ (s', v', s, v) ∈ h.clashes)))
        fun H4 e4 Q q E => ⟨a, L, h, p1, p2, (s, v), (s', v'), rfl, X3.mono e4, P1.mono e4, P2.mono e4, q⟩)) (fun hb2 H4 e4 => ?_) (fun hb2 H4 e4 => ?_)
      · refine s_ret ev_c fun H5 e5 => ?_
        simp only [Bool.or_eq_true, decide_eq_true_eq] at hb2
        rw [if_pos hb2] at k
        exact k.stay rfl rfl X ((E3.trans e4).trans e5)
      · simp only [Bool.or_eq_false_iff, decide_eq_false_iff_not] at hb2
        rw [if_neg (fun q => q.elim hb2.1 hb2.2)] at k
        have X4 := X3.mono e4
        have th : ∀ {s v : Nat} {i : Nat} {p : Addr} {σ : L2.St}, hasVersion h s v → PairAt H4 p (s, v) → σ[i]? = some (some (.ref p)) → σ[0]? = some (some (.ref a)) → Ev (tCall sp_is_there [] E0 (tCons (tFld K (tVar 0) "counts") (tCons (tVar i) tNil))) σ H4 (.bl (decide (0 < Rp11.count h.now s v))) := by
          intro s v i p σ g1 g2 g3 g4
          exact ev_call (ea_cons (ev_counts (T := T) X4 (ev_var g4)) (ea_cons (ev_var g3) ea_nil)) (sp_there X4.ct g2 (inside_of hw.ser hw.shape g1))
        refine q_when (et_and (et_test (th hb.1 (P1.mono e4) rfl rfl)) fun _ => et_test (th hb.2 (P2.mono e4) rfl rfl)) (fun hb3 H5 e5 => ?_) (fun hb3 H5 e5 => ?_)
        · refine s_ret ev_c fun H6 e6 => ?_
          simp only [Bool.and_eq_true, decide_eq_true_eq] at hb3
          rw [if_pos hb3] at k
          exact k.stay rfl rfl X (((E3.trans e4).trans e5).trans e6)
        · have hb3' : ¬ (0 < Rp11.count h.now s v ∧ 0 < Rp11.count h.now s' v') := fun q => by
            rw [decide_eq_true q.1, decide_eq_true q.2] at hb3
            cases hb3
          rw [if_neg hb3'] at k
          have X5 := X4.mono e5
          obtain ⟨ts, hts, hcs⟩ := X5.lc
          have hlen := hcs.length
          refine q_when (et_test (ev_op (ev_len (ev_clashes (T := T) X5 (ev_var rfl)) (sq_of hts)) ev_c (rv_eq rfl))) (fun hb4 H6 e6 => ?_) (fun hb4 H6 e6 => ?_)
          · refine s_ret ev_c fun H7 e7 => ?_
            simp only [decide_eq_true_eq, V.int.injEq, rv, List.length_map] at hb4
            rw [if_pos (by omega)] at k
            exact k.stay rfl rfl X ((((E3.trans e4).trans e5).trans e6).trans e7)
          · simp only [decide_eq_false_iff_not, V.int.injEq, rv, List.length_map] at hb4
            rw [if_neg (by omega)] at k
            have hcl : h.clashes.length ≤ 20 := hw.cl
            have X6 := X5.mono e6
            have E6 := ((E3.trans e4).trans e5).trans e6
            have hts6 := e6 _ _ hts
            refine q_appU hts6 (ev_clashes (T := T) X6 (ev_var rfl)) (eu_tup (ea_cons (ev_var rfl) (ea_cons (ev_var rfl) ea_nil)) (by show 2 ≤ 100000; decide)) (by simp only [rv, List.length_map]; omega) fun t H7 nt e7 ht => ?_
            rw [rv_snoc]
            have off0 : Off L.lc H6 (upd H7 L.lc (.lst (rv (ts ++ [t])))) := Off.upd e7
            obtain ⟨dx, hobj⟩ := X6.obj
            have hobj0 := off0 _ _ hobj (ne_of hobj hts6 (by intro q; cases q))
            refine s_ret (ev_len (xs := rv (ts ++ [t])) (ev_fld (ev_var rfl) hobj0 T.cl_House T.n_House_clashes (ho_clashes _ _ _)) (sq_of upd_same)) fun H8 e8 => ?_
            have off : Off L.lc H6 H8 := off0.trans (Off.of_ex e8)
            have ntup : ∀ xs, HO.lst (rv ts) ≠ HO.tup xs := fun xs q => by cases q
            obtain ⟨d1, d7⟩ := nd_ls X.nd
            have hans : ((rv (ts ++ [t])).length : Int) = ((h.clashes.length + 1 : Nat) : Int) := by
              simp only [rv, List.length_map, List.length_append, List.length_singleton, hlen]
            rw [hans]
            refine k H8 L ?_ ⟨?_, fun b hb => .inl hb⟩
            · refine ⟨⟨dx, e8 _ _ hobj0⟩, off _ _ X6.ls (Ne.symm d1), svs_off off hts6 ntup X6.sv (fun p hp => ?_) (fun p hp => (d7 p hp).2), ⟨ts ++ [t], e8 _ _ upd_same, ?_⟩, X6.ct.off off hts6 ntup, X6.nd, X6.nds⟩
              · obtain ⟨i, hi⟩ := List.mem_iff_getElem?.1 hp
                obtain ⟨S, _, q⟩ := X6.sv.getL hi
                obtain ⟨ds, hs'⟩ := q.obj
                exact ne_of hs' hts6 (by intro q; cases q)
              · refine ((hcs.imp fun _ _ q => q.mono e6).imp fun _ _ q => q.off off hts6 ntup).snoc ⟨p1, p2, ?_, ?_, ?_⟩
                · exact e8 _ _ (by rw [upd_ne (ne_of ht (e7 _ _ hts6) (by intro q; cases q))]; exact ht)
                · exact (P1.mono ((e4.trans e5).trans e6)).off off hts6 ntup
                · exact (P2.mono ((e4.trans e5).trans e6)).off off hts6 ntup
            · refine Chg.ex (Chg.upd (Chg.of_ex (E6.trans e7)) ?_) e8
              unfold foot
              simp
end
end Up

namespace Up
open PySem PySem.Spec PyProof.Rows L2 Evl
section
variable {P : Program} {w : World} {K : PySem.W.Frag} {mg : Str → Option Value} {base : Heap} {A : Ad}
theorem mStep_eq (h : Rp11.House) (s v w k : Nat) : mStep h (.step s v w k) = if h.can h.now ⟨s, v, w, k⟩ = false then (h, -2) else if h.may h.now ⟨s, v, w, k⟩ = false then (h, -5) else ({ h with now := Rp11.after h.now ⟨s, v, w, k⟩ }, 0) := by
  unfold mStep Rp11.step
  simp only
  by_cases c1 : h.can h.now ⟨s, v, w, k⟩ = false
  · rw [if_pos c1, if_pos c1]
    rfl
  · rw [if_neg c1, if_neg c1]
    by_cases c2 : h.may h.now ⟨s, v, w, k⟩ = false
    · rw [if_pos c2, if_pos c2]
      rfl
    · rw [if_neg c2, if_neg c2]
      rfl
theorem ho_put3 (ls lc ln p : Addr) : putF "counts" (.ref p) (hoF ls lc ln) = hoF ls lc p := by
  unfold hoF
  rw [put_past (by decide +kernel), put_past (by decide +kernel), put_here]
/-- the house's counts anew -/
theorem HouseAt.recount {H4 H6 : Hp} {a dx p : Addr} {L : Lay} {h : Rp11.House} {t : Rp11.State} (X4 : HouseAt A H4 a L h) (hobj : H4 a = some (.ins A.c_House dx (hoF L.ls L.lc L.ln))) (off : Off a H4 H6) (h6 : H6 a = some (.ins A.c_House dx (hoF L.ls L.lc p))) (xc : CountsAt H4 p t) :
    HouseAt A H6 a { L with ln := p } { h with now := t } := by
  have ntup : ∀ xs, HO.ins A.c_House dx (hoF L.ls L.lc L.ln) ≠ HO.tup xs := fun xs q => by cases q
  have ina : ∀ {b : Addr} {xs : List V}, H4 b = some (.lst xs) → b ≠ a := fun q => ne_of q hobj (by intro z; cases z)
  obtain ⟨tc, htc, _⟩ := X4.lc
  have svs : ∀ p ∈ L.sv, (∃ S, SvAt A H4 p S) := fun p hp => by
    obtain ⟨i, hi⟩ := List.mem_iff_getElem?.1 hp
    obtain ⟨S, _, q⟩ := X4.sv.getL hi
    exact ⟨S, q⟩
  refine ⟨⟨dx, h6⟩, off _ _ X4.ls (ina X4.ls), svs_off off hobj ntup X4.sv (fun q hq => ?_) (fun q hq => ?_), X4.lc.off off hobj ntup (ina htc), xc.off off hobj ntup, X4.nd, X4.nds⟩
  · obtain ⟨S, xS⟩ := svs q hq
    obtain ⟨ds, hs'⟩ := xS.obj
    refine ne_of hs' hobj ?_
    intro z
    have := (HO.ins.inj z).2.2
    exact absurd (congrArg List.length this) (show ¬ (5 : Nat) = 3 by decide)
  · obtain ⟨S, xS⟩ := svs q hq
    obtain ⟨ts, hts, _⟩ := xS.mv
    exact ina hts
theorem q_fldP {σ : L2.St} {H : Hp} {ta tv : TE} {D : Ends} {tz : TS} {R : V → Hp → Prop} {a C dx : Addr} {fs : List (Str × V)} {f : Str} (hv : EvP tv σ H R) (ha : ∀ H1, Ex H H1 → Ev ta σ H1 (.ref a)) (ho : H a = some (.ins C dx fs)) (c : Cls K C) (n : NoAttr K C f) (hl : fs.length < 1000)
    (hR : ∀ v H1 H2, Ex H1 H2 → R v H1 → R v H2) (k : ∀ v H1, Ex H H1 → R v H1 → tz D σ (upd H1 a (.ins C dx (putF f v fs)))) : tSeq (sFld K ta tv f) tz D σ H :=
  hv H (Ex.refl H) _ fun v H1 e1 r => ha H1 e1 H1 (Ex.refl H1) _ fun H2 e2 => ⟨a, C, dx, fs, rfl, (e1.trans e2) _ _ ho, c, n, hl, k v H2 (e1.trans e2) (hR v H1 H2 e2 r)⟩
theorem isC_up {t : Rp11.State} : ∀ v H1 H2, Ex H1 H2 → isC t v H1 → isC t v H2 := fun v H1 H2 e r => r.imp fun _ q => ⟨q.1, q.2.mono e⟩
def sp_House_take_step (A : Ad) : Sp := fun vs H Q _ => ∃ (a : Addr) (L : Lay) (h : Rp11.House) (s v w k : Nat), vs = [.ref a, iv s, iv v, iv w, iv k] ∧ HouseAt A H a L h ∧ WF (absH h) ∧ MutTo A a L H (mStep h (.step s v w k)).1 (mStep h (.step s v w k)).2 Q
theorem ok_House_take_step (T : Tx K mg A) (G_Step_init : FnOk P w K mg base CX0 1 A.a_Step_init A.d_Step_init p_Step_init (sp_Step_init A)) (G_can_be_done : FnOk P w K mg base CX0 1 A.a_can_be_done A.d_can_be_done p_can_be_done (sp_can_be_done A))
    (G_may_be_done : FnOk P w K mg base CX0 3 A.a_may_be_done A.d_may_be_done p_may_be_done (sp_may_be_done A))
    (G_counts_behind : FnOk P w K mg base CX0 1 A.a_counts_behind A.d_counts_behind p_counts_behind (sp_counts_behind A)) :
    FnOk P w K mg base CX0 4 A.a_House_take_step A.d_House_take_step p_House_take_step (sp_House_take_step A) := by
  refine T.F_House_take_step.ok sc_House_take_step (fun vs H Q E h => ?_) (fun cdv A' outer s H vs Q E hr h => ?_)
  · obtain ⟨a, L, h, s, v, w', k, rfl, _⟩ := h
    rfl
  · obtain ⟨a, L, h, s, v, w', k, rfl, X, hw, kk⟩ := h
    rw [mStep_eq] at kk
    refine ⟨_, (pss_cons (ps_set (i := 5) sc_House_take_step.nd rfl (Or.inl rfl) (pe_make T.mk_Step G_Step_init (hr.mono (by decide)) rfl T.g_Step T.b_Step_init .nil pass0 (pa_cons (pv 1) (pa_cons (pv 2) (pa_cons (pv 3) (pa_cons (pv 4) pa_nil))))))
      (pss_cons (ps_if (pt_not (pt_val (pe_call G_can_be_done (hr.mono (by decide)) rfl T.g_can_be_done T.F_can_be_done.kp T.b_can_be_done .nil pass0 (pa_cons (pe_fld (pv 0) rfl) (pa_cons (pe_fld (pv 0) rfl) (pa_cons (pv 5) pa_nil)))))) (pss_one (ps_ret (pe_gint rfl T.g_CANNOT_BE_DONE))) pss_nil)
      (pss_cons (ps_if (pt_not (pt_val (pe_call G_may_be_done (hr.mono (by decide)) rfl T.g_may_be_done T.F_may_be_done.kp T.b_may_be_done .nil pass0 (pa_cons (pe_fld (pv 0) rfl) (pa_cons (pe_fld (pv 0) rfl) (pa_cons (pe_fld (pv 0) rfl) (pa_cons (pv 5) pa_nil))))))) (pss_one (ps_ret (pe_gint rfl T.g_MAY_NOT_BE_DONE))) pss_nil)
      (pss_cons (ps_fld (pv 0) (pe_call G_counts_behind (hr.mono (by decide)) rfl T.g_counts_behind T.F_counts_behind.kp T.b_counts_behind .nil pass0 (pa_cons (pe_fld (pv 0) rfl) (pa_cons (pv 5) pa_nil))) rfl)
      (pss_one (ps_ret (pe_gint rfl T.g_DONE))))))), ?_⟩
    have g := good_now hw
    refine q_asgP (ep_step ⟨s, v, w', k⟩ (ea_cons (ev_var rfl) (ea_cons (ev_var rfl) (ea_cons (ev_var rfl) (ea_cons (ev_var rfl) ea_nil))))) fun v5 H1 e1 ⟨p, hv5, xp⟩ => ?_
    subst hv5
    have X1 := X.mono e1
    refine q_when (et_not (et_test (ev_call (ea_cons (ev_services (T := T) X1 (ev_var rfl)) (ea_cons (ev_counts (T := T) X1 (ev_var rfl)) (ea_cons (ev_var rfl) ea_nil))) (z := .bl (h.can h.now ⟨s, v, w', k⟩)) fun H4 e4 Q q E => ⟨L.ls, L.ln, p, h, h.now, _, rfl, (X1.mono e4).hs.sv, (X1.mono e4).ct, xp.mono e4, g.ser, g.shape, q⟩))) (fun hb H2 e2 => ?_) (fun hb H2 e2 => ?_)
    · refine s_ret ev_c fun H3 e3 => ?_
      rw [if_pos (by simpa using hb)] at kk
      exact kk.stay rfl rfl X ((e1.trans e2).trans e3)
    · have hcan : h.can h.now ⟨s, v, w', k⟩ = true := by simpa using hb
      rw [if_neg (by simp [hcan])] at kk
      have X2 := X1.mono e2
      have xp2 := xp.mono e2
      refine q_when (et_not (et_test (ev_call (ea_cons (ev_services (T := T) X2 (ev_var rfl)) (ea_cons (ev_clashes (T := T) X2 (ev_var rfl)) (ea_cons (ev_counts (T := T) X2 (ev_var rfl)) (ea_cons (ev_var rfl) ea_nil)))) (z := .bl (h.may h.now ⟨s, v, w', k⟩)) fun H4 e4 Q q E => ⟨L.ls, L.lc, L.ln, p, h, h.now, _, rfl, (X2.mono e4).hs, (X2.mono e4).ct, xp2.mono e4, g, q⟩))) (fun hb2 H3 e3 => ?_) (fun hb2 H3 e3 => ?_)
      · refine s_ret ev_c fun H4 e4 => ?_
        rw [if_pos (by simpa using hb2)] at kk
        exact kk.stay rfl rfl X (((e1.trans e2).trans e3).trans e4)
      · rw [if_neg (by simpa using hb2)] at kk
        have X3 := X2.mono e3
        obtain ⟨r, Ft⟩ := g.fits hcan
        obtain ⟨dx, hobj⟩ := X3.obj
        refine q_fldP (K := K) (ep_behind (ea_cons (ev_counts (T := T) X3 (ev_var rfl)) (ea_cons (ev_var rfl) ea_nil)) X3.ct (xp2.mono e3) Ft) (fun H1 _ => ev_var rfl) hobj T.cl_House T.n_House_counts (by show 3 < 1000; decide) isC_up fun v5 H5 e5 ⟨b, hv5, xb⟩ => ?_
        subst hv5
        refine s_ret ev_c fun H6 e6 => ?_
        rw [ho_put3] at e6
        have off : Off a H5 H6 := Off.trans (Off.upd (Ex.refl H5)) (Off.of_ex e6)
        refine kk H6 { L with ln := b } ((X3.mono e5).recount (e5 _ _ hobj) off (e6 _ _ upd_same) xb) ⟨?_, fun b hb => .inl hb⟩
        refine Chg.ex (Chg.upd (Chg.of_ex (((e1.trans e2).trans e3).trans e5)) ?_) e6
        unfold foot
        simp
/-! ### set_goal -/
theorem sv_put (S : Rp11.Service) (m : Addr) (g : Nat) : putF "wanted" (iv g) (svF S m) = svF { S with goal := g } m := by
  unfold svF
  rw [put_past (by decide +kernel), put_past (by decide +kernel), put_past (by decide +kernel), put_here]
def mGoal (h : Rp11.House) (s v : Nat) : Rp11.House × Int := if ¬ hasVersion h s v then (h, -2) else ({ h with services := h.services.set s { h.at_ s with goal := v } }, 0)
def sp_House_set_goal (A : Ad) : Sp := fun vs H Q _ => ∃ (a : Addr) (L : Lay) (h : Rp11.House) (s v : Nat), vs = [.ref a, iv s, iv v] ∧ HouseAt A H a L h ∧ MutTo A a L H (mGoal h s v).1 (mGoal h s v).2 Q
theorem ok_House_set_goal (T : Tx K mg A) (G_House_has_version : FnOk P w K mg base CX0 1 A.a_House_has_version A.d_House_has_version p_House_has_version (sp_House_has_version A)) :
    FnOk P w K mg base CX0 2 A.a_House_set_goal A.d_House_set_goal p_House_set_goal (sp_House_set_goal A) := by
  refine T.F_House_set_goal.ok sc_House_set_goal (fun vs H Q E h => ?_) (fun cdv A' outer s H vs Q E hr h => ?_)
  · obtain ⟨a, L, h, s, v, rfl, _⟩ := h
    rfl
  · obtain ⟨a, L, h, s, v, rfl, X, kk⟩ := h
    refine ⟨_, (pss_cons (ps_if (pt_not (pt_val (pe_meth (pv 0) T.cl_House T.m_House_has_version G_House_has_version (hr.mono (by decide)) T.b_House_has_version .nil pass0 (pa_cons (pv 1) (pa_cons (pv 2) pa_nil))))) (pss_one (ps_ret (pe_gint rfl T.g_NO_SUCH))) pss_nil)
      (pss_cons (ps_fld (pe_ix ix_list (pe_fld (pv 0) rfl) (pv 1) (fun _ _ => rfl)) (pv 2) rfl)
      (pss_one (ps_ret (pe_gint rfl T.g_DONE))))), ?_⟩
    have nm : ∀ {ls lc ln : Addr}, (hoF ls lc ln).lookup ("has_version" : Str) = none := ho_no _ _ _ (by decide +kernel) (by decide +kernel) (by decide +kernel)
    refine q_when (et_not (et_test (ev_meth (ev_var rfl) X.obj.choose_spec nm (ea_cons (ev_var rfl) (ea_cons (ev_var rfl) ea_nil)) (sp_has X s v)))) (fun hb H1 e1 => ?_) (fun hb H1 e1 => ?_)
    · refine s_ret ev_c fun H2 e2 => ?_
      have hc : ¬ hasVersion h s v := by simpa using hb
      unfold mGoal at kk
      rw [if_pos hc] at kk
      exact kk.stay rfl rfl X (e1.trans e2)
    · have hc : hasVersion h s v := by simpa using hb
      unfold mGoal at kk
      rw [if_neg (fun q => q hc)] at kk
      have X1 := X.mono e1
      obtain ⟨p, S, hp, hS, xS, ev⟩ := ev_service (K := K) X1 hc.1 (ev_services (T := T) (ta := tVar 0) (σ := start N_House_set_goal [.ref a, iv s, iv v]) X1 (ev_var rfl)) (tb := tVar 1) (ev_var rfl)
      have hat := at_of_get hS
      rw [hat] at kk
      obtain ⟨dx, hobj⟩ := xS.obj
      refine q_fld (v := iv v) (ev_var rfl) ev hobj T.cl_Service T.n_Service_wanted (by show 5 < 1000; decide) fun H2 e2 => ?_
      rw [sv_put]
      refine s_ret ev_c fun H3 e3 => ?_
      have X2 := X1.mono e2
      have hobj2 := e2 _ _ hobj
      have off : Off p.1 H2 H3 := Off.trans (Off.upd (Ex.refl H2)) (Off.of_ex e3)
      have ntup : ∀ xs, HO.ins A.c_Service dx (svF S p.2) ≠ HO.tup xs := fun xs q => by cases q
      have inl : ∀ {b : Addr} {xs : List V}, H2 b = some (.lst xs) → b ≠ p.1 := fun q => ne_of q hobj2 (by intro z; cases z)
      obtain ⟨dh, hh⟩ := X2.obj
      obtain ⟨tc, htc, _⟩ := X2.lc
      refine kk H3 L ?_ ⟨?_, fun b hb => .inl hb⟩
      · refine ⟨⟨dh, off _ _ hh (ne_of hh hobj2 fun z => ?_)⟩, off _ _ X2.ls (inl X2.ls), ?_, X2.lc.off off hobj2 ntup (inl htc), X2.ct.off off hobj2 ntup, X2.nd, X2.nds⟩
        · have := (HO.ins.inj z).2.2
          exact absurd (congrArg List.length this) (show ¬ (3 : Nat) = 5 by decide)
        · refine X2.sv.setR s hp ⟨⟨dx, e3 _ _ upd_same⟩, ?_⟩ ?_
          · obtain ⟨ts, hts, _⟩ := (xS.mono e2).mv
            exact (xS.mono e2).mv.off off hobj2 ntup (inl hts)
          · intro j x y hx hy hj hxy
            obtain ⟨ts, hts, _⟩ := hxy.mv
            refine hxy.off off hobj2 ntup (fun z => hj ?_) (inl hts)
            exact nd_ix X.nds (x := x.1) (by rw [List.getElem?_map, hx]; rfl) (by rw [List.getElem?_map, hp, z]; rfl)
      · refine Chg.ex (Chg.upd (Chg.of_ex (e1.trans e2)) ?_) e3
        unfold foot
        have hm : p.1 ∈ L.sv.map (·.1) := List.mem_map.2 ⟨p, List.mem_of_getElem? hp, rfl⟩
        simp only [List.mem_cons, List.mem_append]
        exact .inr (.inr (.inr (.inl hm)))
/-- xs.append(e), e of any kind -/
theorem q_app0 {σ : L2.St} {H : Hp} {ta te : TE} {D : Ends} {tz : TS} {l : Addr} {xs : List V} (hl : H l = some (.lst xs)) (ha : Ev ta σ H (.ref l)) (h : ∀ H1, Ex H H1 → te σ H1 fun v H2 => rAppend (.ref l) [v] H2 fun _ H3 => tz D σ H3) :
    tSeq (tDrop (tBM K "list" rAppend ta (tCons te tNil))) tz D σ H := ha H (Ex.refl H) _ fun H1 e1 => ⟨Or.inl ⟨rfl, xs, sq_of (e1 l _ hl)⟩, h H1 e1⟩
theorem mService_eq (h : Rp11.House) (c n v g : Nat) : mStep h (.service c n v g) = if (c = 0 ∨ 2 < c ∨ c ≤ n ∨ v = 0 ∨ 3 < v ∨ v ≤ g) then (h, -1) else if h.services.length = 3 then (h, -7) else
    ({ h with services := h.services ++ [⟨c, n, v, g, []⟩], now := h.now ++ [(List.range v).map fun k => if k = 0 then c else 0] }, (h.services.length : Int)) := by
  unfold mStep Rp11.step
  simp only
  by_cases c1 : (c = 0 ∨ 2 < c ∨ c ≤ n ∨ v = 0 ∨ 3 < v ∨ v ≤ g)
  · rw [if_pos c1, if_pos (show c = 0 ∨ Rp11.COPIES < c ∨ c ≤ n ∨ v = 0 ∨ Rp11.VERSIONS < v ∨ v ≤ g from c1)]
    rfl
  · rw [if_neg c1, if_neg (show ¬ (c = 0 ∨ Rp11.COPIES < c ∨ c ≤ n ∨ v = 0 ∨ Rp11.VERSIONS < v ∨ v ≤ g) from c1)]
    by_cases c2 : h.services.length = 3
    · rw [if_pos c2, if_pos (show h.services.length = Rp11.SERVICES from c2)]
      rfl
    · rw [if_neg c2, if_neg (show ¬ h.services.length = Rp11.SERVICES from c2)]
      rfl
def sp_House_add_service (A : Ad) : Sp := fun vs H Q _ => ∃ (a : Addr) (L : Lay) (h : Rp11.House) (c n v g : Nat), vs = [.ref a, iv c, iv n, iv v, iv g] ∧ HouseAt A H a L h ∧ WF (absH h) ∧ MutTo A a L H (mStep h (.service c n v g)).1 (mStep h (.service c n v g)).2 Q
theorem ok_House_add_service (T : Tx K mg A) (G_are_in_range : FnOk P w K mg base CX0 1 A.a_are_in_range A.d_are_in_range p_are_in_range sp_are_in_range)
    (G_Service_init : FnOk P w K mg base CX0 1 A.a_Service_init A.d_Service_init p_Service_init (sp_Service_init A)) (G_all_of_version : FnOk P w K mg base CX0 1 A.a_all_of_version A.d_all_of_version p_all_of_version sp_all_of_version) :
    FnOk P w K mg base CX0 3 A.a_House_add_service A.d_House_add_service p_House_add_service (sp_House_add_service A) := by
  refine T.F_House_add_service.ok sc_House_add_service (fun vs H Q E h => ?_) (fun cdv A' outer s H vs Q E hr h => ?_)
  · obtain ⟨a, L, h, c, n, v, g, rfl, _⟩ := h
    rfl
  · obtain ⟨a, L, h, c, n, v, g, rfl, X, hw, kk⟩ := h
    rw [mService_eq] at kk
    refine ⟨_, (pss_cons (ps_if (pt_not (pt_val (pe_call G_are_in_range (hr.mono (by decide)) rfl T.g_are_in_range T.F_are_in_range.kp T.b_are_in_range .nil pass0 (pa_cons (pv 1) (pa_cons (pv 2) (pa_cons (pv 3) (pa_cons (pv 4) pa_nil))))))) (pss_one (ps_ret (pe_gint rfl T.g_OUT_OF_RANGE))) pss_nil)
      (pss_cons (ps_if (pt_cmpR op_eq (pe_callB call_len_seq (by rfl) T.b_len PySem.boot_len (pa_cons (pe_fld (pv 0) rfl) pa_nil)) (pe_gint rfl T.g_MOST_SERVICES) (nomark _)) (pss_one (ps_ret (pe_gint rfl T.g_FULL))) pss_nil)
      (pss_cons (ps_expr (pe_bm PySem.F.plainAttrs_list PySem.F.slot_list_append PySem.F.type_list_append mt_append (pe_fld (pv 0) rfl) (pa_cons (pe_make T.mk_Service G_Service_init (hr.mono (by decide)) rfl T.g_Service T.b_Service_init .nil pass0 (pa_cons (pv 1) (pa_cons (pv 2) (pa_cons (pv 3) (pa_cons (pv 4) pa_nil))))) pa_nil)))
      (pss_cons (ps_fld (pv 0) (pe_op op_catA (pe_fld (pv 0) rfl) (pe_tup (pa_cons (pe_call G_all_of_version (hr.mono (by decide)) rfl T.g_all_of_version T.F_all_of_version.kp T.b_all_of_version .nil pass0 (pa_cons (pv 3) (pa_cons pe_int (pa_cons (pv 1) pa_nil)))) pa_nil))) rfl)
      (pss_one (ps_ret (pe_op op_sub (pe_callB call_len_seq (by rfl) T.b_len PySem.boot_len (pa_cons (pe_fld (pv 0) rfl) pa_nil)) pe_int))))))), ?_⟩
    refine q_when (et_not (et_test (ev_call (ea_cons (ev_var rfl) (ea_cons (ev_var rfl) (ea_cons (ev_var rfl) (ea_cons (ev_var rfl) ea_nil)))) (z := .bl (decide (¬ (c = 0 ∨ 2 < c ∨ c ≤ n ∨ v = 0 ∨ 3 < v ∨ v ≤ g)))) fun H4 e4 Q q E => ⟨c, n, v, g, rfl, q⟩))) (fun hb H1 e1 => ?_) (fun hb H1 e1 => ?_)
    · refine s_ret ev_c fun H2 e2 => ?_
      have hb' : (c = 0 ∨ 2 < c ∨ c ≤ n ∨ v = 0 ∨ 3 < v ∨ v ≤ g) := by
        simp only [Bool.not_eq_true', decide_eq_false_iff_not] at hb
        exact Decidable.not_not.1 hb
      rw [if_pos hb'] at kk
      exact kk.stay rfl rfl X (e1.trans e2)
    · have hb' : ¬ (c = 0 ∨ 2 < c ∨ c ≤ n ∨ v = 0 ∨ 3 < v ∨ v ≤ g) := by
        simp only [Bool.not_eq_false', decide_eq_true_eq] at hb
        exact hb
      rw [if_neg hb'] at kk
      have X1 := X.mono e1
      have hlen := X.sv.length
      refine q_when (et_test (ev_op (ev_len (ev_services (T := T) X1 (ev_var rfl)) (sq_of X1.ls)) ev_c (rv_eq rfl))) (fun hb2 H2 e2 => ?_) (fun hb2 H2 e2 => ?_)
      · refine s_ret ev_c fun H3 e3 => ?_
        simp only [decide_eq_true_eq, V.int.injEq, rv, List.length_map] at hb2
        rw [if_pos (by omega)] at kk
        exact kk.stay rfl rfl X ((e1.trans e2).trans e3)
      · simp only [decide_eq_false_iff_not, V.int.injEq, rv, List.length_map] at hb2
        rw [if_neg (by omega)] at kk
        have h3 := hw.len
        rw [abs_len] at h3
        have X2 := X1.mono e2
        have E2 := e1.trans e2
        refine q_app0 X2.ls (ev_services (T := T) X2 (ev_var rfl)) fun H3 e3 => ?_
        refine ⟨_, rfl, _, rfl, _, rfl, _, rfl, fun x dx nx ndx nex => ?_⟩
        refine ⟨x, dx, c, n, v, g, rfl, upd_same, fun H4 m off nm xS => ⟨rfl, ?_⟩⟩
        -- Service(..): all else as it was
        have e4 : Ex H3 H4 := fun b o hb => off b o (by rw [upd_ne (ne_of_none hb nx), upd_ne (ne_of_none hb ndx)]; exact hb) (ne_of_none hb nx)
        have nxm : m ≠ x := fun e => by
          rw [e, upd_same] at nm
          cases nm
        have nm3 : H3 m = none := by
          rw [upd_ne nxm] at nm
          by_cases e : m = dx
          · rw [e, upd_same] at nm
            cases nm
          · rwa [upd_ne e] at nm
        have E4 := (E2.trans e3).trans e4
        have X4 := X.mono E4
        refine ⟨L.ls, _, _, rfl, rfl, X4.ls, sz_lt (by simp only [rv, List.length_map]; omega), ?_⟩
        have ls1 : rv (L.sv.map (·.1)) ++ [V.ref x] = rv ((L.sv ++ [(x, m)]).map (·.1)) := by simp [rv]
        rw [ls1]
        obtain ⟨d1, d7⟩ := nd_ls X.nd
        have off1 : Off L.ls H4 (upd H4 L.ls (.lst (rv ((L.sv ++ [(x, m)]).map (·.1))))) := Off.upd (Ex.refl H4)
        have ntup : ∀ {ys : List V} xs, HO.lst ys ≠ HO.tup xs := fun xs q => by cases q
        obtain ⟨dh, hobj⟩ := X4.obj
        have svs : ∀ q ∈ L.sv, ∃ S, SvAt A H4 q S := fun q hq => by
          obtain ⟨i, hi⟩ := List.mem_iff_getElem?.1 hq
          obtain ⟨S, _, q⟩ := X4.sv.getL hi
          exact ⟨S, q⟩
        have hm0 : H m = none := fresh_back (E2.trans e3) nm3
        have hx0 : H x = none := fresh_back (E2.trans e3) nx
        have tls : L.ls ≠ m := ne_of_none X.ls hm0
        -- behind the first append
        have obj5 := off1 _ _ hobj (ne_of hobj X4.ls (by intro q; cases q))
        have sv5 : All2 (SvAt A (upd H4 L.ls (.lst (rv ((L.sv ++ [(x, m)]).map (·.1)))))) (L.sv ++ [(x, m)]) (h.services ++ [⟨c, n, v, g, []⟩]) := by
          refine (svs_off off1 X4.ls ntup X4.sv (fun q hq => ?_) (fun q hq => (d7 q hq).1)).snoc (xS.off off1 X4.ls ntup ?_ (Ne.symm tls))
          · obtain ⟨S, xs⟩ := svs q hq
            obtain ⟨ds, hs'⟩ := xs.obj
            exact ne_of hs' X4.ls (by intro q; cases q)
          · obtain ⟨ds, hs'⟩ := xS.obj
            exact ne_of hs' X4.ls (by intro q; cases q)
        have lc5 := X4.lc.off off1 X4.ls ntup d1
        have ct5 := X4.ct.off off1 X4.ls ntup
        have nd5 : (L.ls :: L.lc :: (L.sv ++ [(x, m)]).map (·.2)).Nodup := by
          have nd := X.nd
          unfold Lay.lists at nd
          have tmv : ∀ b ∈ L.sv.map (·.2), H b ≠ none := fun b hb => by
            obtain ⟨q, hq, rfl⟩ := List.mem_map.1 hb
            obtain ⟨i, hi⟩ := List.mem_iff_getElem?.1 hq
            obtain ⟨S, _, xS⟩ := X.sv.getL hi
            obtain ⟨ts, hts, _⟩ := xS.mv
            rw [hts]
            simp
          have t1 : H L.ls ≠ none := by rw [X.ls]; simp
          have t2 : H L.lc ≠ none := by
            obtain ⟨tt, q, _⟩ := X.lc
            rw [q]
            simp
          simp only [List.map_append, List.map_cons, List.map_nil, List.nodup_cons, List.mem_cons, List.mem_append, List.not_mem_nil, or_false, not_or, List.nodup_append, List.nodup_nil, and_true, true_and, not_false_eq_true] at nd ⊢
          obtain ⟨⟨n1, n3⟩, n6, n10⟩ := nd
          exact ⟨⟨n1, n3, fun e => t1 (e ▸ hm0)⟩, ⟨n6, fun e => t2 (e ▸ hm0)⟩, n10, fun b hb c hc e => tmv b hb (by rw [e, hc]; exact hm0)⟩
        have nds5 : ((L.sv ++ [(x, m)]).map (·.1)).Nodup := by
          rw [List.map_append, List.nodup_append]
          refine ⟨X.nds, by simp, ?_⟩
          intro b hb c' hc e
          simp only [List.map_cons, List.map_nil, List.mem_singleton] at hc
          obtain ⟨q, hq, rfl⟩ := List.mem_map.1 hb
          obtain ⟨i, hi⟩ := List.mem_iff_getElem?.1 hq
          obtain ⟨S, _, xS⟩ := X.sv.getL hi
          obtain ⟨ds, hs'⟩ := xS.obj
          rw [e, hc, hx0] at hs'
          cases hs'
        have X5 : HouseAt A (upd H4 L.ls (.lst (rv ((L.sv ++ [(x, m)]).map (·.1))))) a { L with sv := L.sv ++ [(x, m)] } { h with services := h.services ++ [⟨c, n, v, g, []⟩] } := ⟨⟨dh, obj5⟩, upd_same, sv5, lc5, ct5, nd5, nds5⟩
        have hv1 : 1 ≤ v := by omega
        have hv3 : v ≤ 3 := by omega
        -- self.counts + (row,)
        obtain ⟨rows, hln, hrows⟩ := id ct5
        have hrl := hrows.length
        have hnl : h.now.length ≤ 3 := by
          have := Shape_abs_len (t := h.now) hw.shape
          omega
        refine q_fldP (K := K) (R := isC (h.now ++ [rowOf v 0 c])) (fun H5 e5 Q q => ?_) (fun H1 _ => ev_var rfl) obj5 T.cl_House T.n_House_counts (by show 3 < 1000; decide) isC_up fun v5 H5 e5 ⟨b, hv5, xb⟩ => ?_
        · refine ev_counts (K := K) (T := T) (σ := start N_House_add_service [.ref a, iv c, iv n, iv v, iv g]) X5 (ta := tVar 0) (ev_var rfl) H5 e5 _ fun H6 e6 => ?_
          refine ep_tup1 (te := tCall sp_all_of_version [] E0 (tCons (tVar 3) (tCons (tC (.int 0)) (tCons (tVar 1) tNil)))) (σ := start N_House_add_service [.ref a, iv c, iv n, iv v, iv g]) (xs := ivs (rowOf v 0 c)) (ep_call (ea_cons (ev_var rfl) (ea_cons ev_c (ea_cons (ev_var rfl) ea_nil))) fun H7 e7 Q q => ⟨v, 0, c, rfl, by omega, hv3, q⟩) H6 (Ex.refl H6) _ fun v6 H7 e7 ⟨q1, r1, hv6, g1, g2⟩ => ?_
          subst hv6
          have ee := (e5.trans e6).trans e7
          refine rv_catA (K := K) (ee _ _ hln) g1 (by rw [rv_len]; show _ + 1 ≤ 100000; omega) fun v7 H8 e8 ⟨b, hv7, g3⟩ => ?_
          subst hv7
          refine q _ H8 ((e6.trans e7).trans e8) ⟨b, rfl, rows ++ [r1], by rw [g3, rv_snoc], ?_⟩
          exact (hrows.imp fun _ _ z => z.mono (ee.trans e8)).snoc (show RowAt H8 r1 _ from e8 _ _ g2)
        · subst hv5
          rw [ho_put3]
          have off : Off a H5 (upd H5 a (.ins A.c_House dh (hoF L.ls L.lc b))) := Off.upd (Ex.refl H5)
          have X6 := (X5.mono e5).recount (e5 _ _ obj5) off upd_same xb
          have ls6 := X6.ls
          refine s_ret (ev_op (ev_len (ev_services (T := T) X6 (ev_var rfl)) (sq_of ls6)) ev_c rv_I0) fun H7 e7 => ?_
          have hans : ((rv ((L.sv ++ [(x, m)]).map (·.1))).length : Int) - 1 = (h.services.length : Int) := by
            simp only [rv, List.length_map, List.length_append, List.length_singleton]
            omega
          show Q (.int (((rv ((L.sv ++ [(x, m)]).map (·.1))).length : Int) - 1)) H7
          rw [hans]
          refine kk H7 { L with ln := b, sv := L.sv ++ [(x, m)] } (X6.mono e7) ⟨?_, ?_⟩
          · refine Chg.ex (Chg.upd (Chg.ex (Chg.upd (Chg.of_ex E4) ?_) e5) ?_) e7
            · unfold foot
              simp
            · unfold foot
              simp
          · intro b hb
            unfold foot at hb ⊢
            simp only [List.mem_cons, List.mem_append, List.map_append, List.map_cons, List.map_nil, List.not_mem_nil, or_false] at hb ⊢
            rcases hb with hb | hb | hb | (hb | hb) | (hb | hb)
            · exact .inl (.inl hb)
            · exact .inl (.inr (.inl hb))
            · exact .inl (.inr (.inr (.inl hb)))
            · exact .inl (.inr (.inr (.inr (.inl hb))))
            · exact .inr (hb ▸ hx0)
            · exact .inl (.inr (.inr (.inr (.inr hb))))
            · exact .inr (hb ▸ hm0)
end
end Up

namespace Up
open PySem PySem.Spec PyProof.Rows L2 Evl
/-! ### xs.extend(t), t a tuple -/
section
theorem ext_tup (l b : Addr) (xs ys : Array Value) (m k : Nat) (dd : Option Addr) (sl : Array (Option Value)) (h0 : ¬(!xs.isEmpty && Builtin.List.listTooLong (xs.size + ys.size)) = true) (h1 : xs.size ≤ sizeLine) (h2 : xs.size + ys.size ≤ sizeLine + 1) :
    Meets (Builtin.«list.extend» ⟨[.ref l, .ref b], []⟩) (fun _ R s => s.heap.get? l = some { cls := .type "list", dict := none, data := .seq xs m, slots := #[] } ∧
      s.heap.get? b = some { cls := .type "tuple", dict := dd, data := .seq ys k, slots := sl } ∧ R (.ok (.ret Value.none)) { s with heap := s.heap.update l (Obj.mapSeq fun z => z ++ ys), toks := s.toks }) :=
  .of_wp fun prog w A R sh hyp => by
    obtain ⟨hp, gl, dp, tk, os⟩ := sh
    obtain ⟨hl, hb, last⟩ := hyp
    have f1 := PySem.AutoSeq1.idx_int
    have f2 := PySem.AutoSeq1.sub_tuple_tuple
    have f3 := PySem.AutoSeq1.sub_list_list
    have f4 := PySem.AutoSeq1.sub_tuple_list
    have f5 := PySem.AutoSeq1.sub_list_tuple
    have hz : (xs ++ ys).size ≤ sizeLine + 1 := by
      rw [Array.size_append]
      exact h2
    wp_walk using (wpAny_updateSeq hl rfl (hz := h1) (_hz' := hz)), wpAny_loadPart' hl, wpAny_loadPart' hb
    exact ⟨_, rfl, last⟩
end
def rExtendT : V → List V → Hp → VK → Prop := fun x vs H Q => ∃ l b xs zs, x = .ref l ∧ vs = [.ref b] ∧ H l = some (.lst xs) ∧ H b = some (.tup zs) ∧ xs.length + zs.length ≤ sizeLine ∧ Q .non (upd H l (.lst (xs ++ zs)))
theorem mt_extendT {X : Cx} : MtM X "list.extend" rExtendT := by
  intro pn sh sg H0 xv vs va us Q inv rx rvs hyp
  obtain ⟨l, b, xs, zs, rfl, rfl, hL, hT, hz, fin⟩ := hyp
  cases rx
  obtain ⟨ua, rfl, ru⟩ := rvs.one
  cases ru
  obtain ⟨z, lv, n, r1, hl, e1⟩ := inv.lstM hL
  obtain ⟨z2, tv, r2, o, e2, hc, n2, hd⟩ := inv.hok b _ hT
  obtain ⟨cls, dd, data, sl⟩ := o
  simp only at hc hd
  subst hc hd
  have hl2 := r2.length
  have hsum : lv.toArray.size + tv.toArray.size ≤ sizeLine := by
    show lv.length + tv.length ≤ sizeLine
    omega
  have short : ¬ (!lv.toArray.isEmpty && Builtin.List.listTooLong (lv.toArray.size + tv.toArray.size)) = true := by
    rw [notLongL hsum, Bool.and_false]
    decide
  refine call_meets PySem.F.slot_list_extend ⟨_, e1, rfl⟩ PySem.F.entry_list_extend (PySem.F.args_list_extend_2 _ _)
    (ext_tup l b lv.toArray tv.toArray n n2 dd sl short (by show lv.length ≤ sizeLine; omega) (by omega)) ⟨e1, e2, ?_⟩
  refine ⟨.non, _, inv.lset (its' := lv ++ tv) hL e1 (by simp) (r1.append r2) ?_, rfl, fin⟩
  rw [List.length_append]
  omega
section
variable {P : Program} {w : World} {K : PySem.W.Frag} {mg : Str → Option Value} {base : Heap} {A : Ad}
section
variable {σ : L2.St} {H : Hp} {ta te : TE} {D : Ends} {tz : TS}
theorem q_asgCall {sp : Sp} {ta : TA} {vs : List V} {i : Nat} {E : XK} (h : EvA ta σ H vs) (k : ∀ H1, Ex H H1 → sp (vs ++ []) H1 (fun v H2 => tz D (σ.set i (some v)) H2) E) : tSeq (tAsg (tCall sp [] E ta) (gName i)) tz D σ H := h H (Ex.refl H) _ k
theorem s_extL {l : Addr} {xs ys : List V} (hl : H l = some (.lst xs)) (ha : Ev ta σ H (.ref l)) (h : EvL te σ H ys) (hz : xs.length + ys.length ≤ 100000) (k : ∀ H1, Ex H H1 → D.nx σ (upd H1 l (.lst (xs ++ ys)))) :
    tDrop (tBM K "list" rExtend ta (tCons te tNil)) D σ H := ha H (Ex.refl H) _ fun H1 e1 =>
  ⟨Or.inl ⟨rfl, xs, sq_of (e1 l _ hl)⟩, h H1 e1 _ fun b H2 _ e2 hb => ⟨l, b, xs, ys, rfl, rfl, (e1.trans e2) l _ hl, hb, sz_of hz, k H2 (e1.trans e2)⟩⟩
theorem q_extL {l : Addr} {xs ys : List V} (hl : H l = some (.lst xs)) (ha : Ev ta σ H (.ref l)) (h : EvL te σ H ys) (hz : xs.length + ys.length ≤ 100000) (k : ∀ H1, Ex H H1 → tz D σ (upd H1 l (.lst (xs ++ ys)))) :
    tSeq (tDrop (tBM K "list" rExtend ta (tCons te tNil))) tz D σ H := s_extL (D := { D with nx := tz D }) hl ha h hz k
theorem s_extT {l b : Addr} {xs ys : List V} (hl : H l = some (.lst xs)) (hb : H b = some (.tup ys)) (ha : Ev ta σ H (.ref l)) (h : Ev te σ H (.ref b)) (hz : xs.length + ys.length ≤ 100000) (k : ∀ H1, Ex H H1 → D.nx σ (upd H1 l (.lst (xs ++ ys)))) :
    tDrop (tBM K "list" rExtendT ta (tCons te tNil)) D σ H := ha H (Ex.refl H) _ fun H1 e1 =>
  ⟨Or.inl ⟨rfl, xs, sq_of (e1 l _ hl)⟩, h H1 e1 _ fun H2 e2 => ⟨l, b, xs, ys, rfl, rfl, (e1.trans e2) l _ hl, (e1.trans e2) b _ hb, sz_of hz, k H2 (e1.trans e2)⟩⟩
end
def sp_step_numbers (A : Ad) : Sp := fun vs H Q _ => ∃ (p : Addr) (x : Rp11.Step), vs = [.ref p] ∧ StepAt A H p x ∧ RetL (ivs (Rp11.numbers x)) H Q
theorem ok_step_numbers (T : Tx K mg A) : FnOk P w K mg base CX0 1 A.a_step_numbers A.d_step_numbers p_step_numbers (sp_step_numbers A) := by
  refine T.F_step_numbers.ok sc_step_numbers (fun vs H Q E h => ?_) (fun cdv A' outer s H vs Q E hr h => ?_)
  · obtain ⟨p, x, rfl, _⟩ := h
    rfl
  · obtain ⟨p, x, rfl, xp, kk⟩ := h
    refine ⟨_, (pss_one (ps_ret (pe_lst (pa_cons (pe_fld (pv 0) rfl) (pa_cons (pe_fld (pv 0) rfl) (pa_cons (pe_fld (pv 0) rfl) (pa_cons (pe_fld (pv 0) rfl) pa_nil))))))), ?_⟩
    exact s_retL (el_lst (ea_cons (ev_sservice (T := T) xp (ev_var rfl)) (ea_cons (ev_sold (T := T) xp (ev_var rfl)) (ea_cons (ev_snew (T := T) xp (ev_var rfl)) (ea_cons (ev_scopies (T := T) xp (ev_var rfl)) ea_nil)))) (by show 4 ≤ 100000; decide)) fun q H1 nq e1 h1 => kk q H1 nq e1 h1
theorem el_numbers {σ : L2.St} {H : Hp} {ta : TA} {E : XK} {p : Addr} {x : Rp11.Step} (h : EvA ta σ H [.ref p]) (xp : StepAt A H p x) : EvL (tCall (sp_step_numbers A) [] E ta) σ H (ivs (Rp11.numbers x)) :=
  el_call h fun H1 e Q q E => ⟨p, x, rfl, xp.mono e, q⟩
/-- what a call answers, as the program tells it -/
def outV (a : Rp11.Ans) : List V := .int a.v :: ivs a.l
def sp_tell (A : Ad) (c : Rp11.Call) : Sp := fun vs H Q _ => ∃ (a : Addr) (L : Lay) (h : Rp11.House), vs = [.ref a] ∧ HouseAt A H a L h ∧ WF (absH h) ∧ RetL (outV (Rp11.step (absH h) c).2) H Q
theorem ivs_len (a : List Nat) : (ivs a).length = a.length := List.length_map _
theorem num_len (x : Rp11.Step) : (Rp11.numbers x).length = 4 := rfl
theorem ivs_app (a b : List Nat) : ivs (a ++ b) = ivs a ++ ivs b := by simp [ivs]
theorem flat_len {α : Type} {f : α → List Nat} {n : Nat} (hf : ∀ a, (f a).length = n) (l : List α) : (l.flatMap f).length = l.length * n := length_flatMap_const f n l fun a _ => hf a
theorem flat_take {α : Type} {f : α → List Nat} {l : List α} {i : Nat} {a : α} (h : l[i]? = some a) : (l.take (i + 1)).flatMap f = (l.take i).flatMap f ++ f a := by
  rw [List.take_add_one, h, List.flatMap_append]
  simp
/-! ### now -/
theorem ok_House_tell_now (T : Tx K mg A) : FnOk P w K mg base CX0 1 A.a_House_tell_now A.d_House_tell_now p_House_tell_now (sp_tell A .now) := by
  refine T.F_House_tell_now.ok sc_House_tell_now (fun vs H Q E h => ?_) (fun cdv A' outer s H vs Q E hr h => ?_)
  · obtain ⟨a, L, h, rfl, _⟩ := h
    rfl
  · obtain ⟨a, L, h, rfl, X, hw, kk⟩ := h
    refine ⟨_, (pss_cons (ps_set (i := 1) sc_House_tell_now.nd rfl (Or.inl rfl) (pe_lst (pa_cons (pe_callB call_len_seq (by rfl) T.b_len PySem.boot_len (pa_cons (pe_fld (pv 0) rfl) pa_nil)) pa_nil)))
      (pss_cons (ps_for PassesOwn.never rfl (pi_tup (pe_fld (pv 0) rfl)) (pg_name (i := 2) sc_House_tell_now.nd rfl (Or.inl rfl)) (pss_one (ps_expr (pe_bm PySem.F.plainAttrs_list PySem.F.slot_list_extend PySem.F.type_list_extend mt_extendT (pv 1) (pa_cons (pv 2) pa_nil)))))
      (pss_one (ps_ret (pv 1))))), ?_⟩
    have hsl := X.sv.length
    have hnl : h.now.length = h.services.length := Shape_abs_len hw.shape
    have h3 := hw.len
    rw [abs_len] at h3
    refine q_asgL (el_lst (ea_cons (ev_len (ev_services (T := T) X (ev_var rfl)) (sq_of X.ls)) ea_nil) (by show 1 ≤ 100000; decide)) fun l H1 nl e1 h1 => ?_
    obtain ⟨rows, hln, hrows⟩ := (X.mono e1).ct
    have hrl := hrows.length
    have hrow3 : ∀ r ∈ h.now, r.length ≤ 3 := fun r hr => by
      obtain ⟨i, hi⟩ := List.mem_iff_getElem?.1 hr
      obtain ⟨S, r', G⟩ := got (t := h.now) hw.ser hw.shape (s := i) (by have := (List.getElem?_eq_some_iff.mp hi).1; omega)
      have e := G.row
      rw [hi] at e
      cases e
      rw [G.len]
      exact G.v3
    have hfl : ∀ i, ((h.now.take i).flatMap fun c => c).length ≤ 9 := fun i => by
      refine Nat.le_trans (flat_bound (n := 3) _ fun r hr => hrow3 r (List.mem_of_mem_take hr)) ?_
      rw [List.length_take]
      omega
    refine q_forT (K := K) (g := gName 2) (ev_counts (T := T) (X.mono e1) (ev_var rfl)) (st_of hln) (fun i σ' H' => (∃ v2, σ' = [some (.ref a), some (.ref l), v2]) ∧ Ex H H' ∧ H' L.ln = some (.tup (rv rows)) ∧ All2 (RowAt H') rows h.now ∧ H' l = some (.lst (.int ((rv (L.sv.map (·.1))).length : Int) :: ivs ((h.now.take i).flatMap fun c => c))))
      (fun H2 e2 => ⟨⟨none, rfl⟩, e1.trans e2, e2 _ _ hln, hrows.imp fun _ _ => RowAt.mono e2, e2 _ _ h1⟩) (fun i σ' H' _ z => st_of z.2.2.1) ?_ ?_
    · rintro i y σ' H2 hi ⟨⟨v2, rfl⟩, ex2, hl2, hr2, h2⟩
      obtain ⟨b, hb, rfl⟩ := rv_got hi
      obtain ⟨r, hr', xr⟩ := hr2.getL hb
      refine s_extT (K := K) h2 xr (ev_var rfl) (ev_var rfl) ?_ fun H3 e3 => ⟨⟨_, rfl⟩, Ex.mut (ex2.trans e3) nl, ?_, ?_, ?_⟩
      · have := hfl i
        have := hrow3 r (List.mem_of_getElem? hr')
        simp only [ivs, List.length_cons, List.length_map]
        omega
      · rw [upd_ne (ne_of (e3 _ _ hl2) (e3 _ _ h2) (by intro z; cases z))]
        exact e3 _ _ hl2
      · exact hr2.imp fun _ _ z => (RowAt.mono e3 z).off (Off.upd (Ex.refl H3)) (e3 _ _ h2) lst_tup
      · rw [upd_same, flat_take hr', ivs_app]
        rfl
    · rintro σ' H2 ⟨⟨v2, rfl⟩, ex2, hl2, hr2, h2⟩
      refine s_ret (ev_var rfl) fun H3 e3 => kk l H3 nl (ex2.trans e3) ?_
      rw [rv_len rows, hrl, List.take_length] at h2
      rw [e3 _ _ h2]
      have : ((rv (L.sv.map (·.1))).length : Int) = (h.now.length : Int) := by simp only [rv, List.length_map]; omega
      rw [this]
      rfl
/-! ### plan -/
theorem plan_none {h : Rp11.House} (e : Rp11.far h.table h.now = none) : outV (Rp11.step h .plan).2 = [.int (-6)] := by
  unfold Rp11.step
  simp only [e]
  rfl
theorem plan_some {h : Rp11.House} {n : Nat} (e : Rp11.far h.table h.now = some n) : outV (Rp11.step h .plan).2 = .int (n : Int) :: ivs ((h.way h.table n h.now).flatMap Rp11.numbers) := by
  unfold Rp11.step
  simp only [e]
  rfl
theorem ok_House_tell_plan (T : Tx K mg A) (G_planned_steps : FnOk P w K mg base CX0 7 A.a_planned_steps A.d_planned_steps p_planned_steps (sp_planned_steps P w A))
    (G_step_numbers : FnOk P w K mg base CX0 1 A.a_step_numbers A.d_step_numbers p_step_numbers (sp_step_numbers A)) :
    FnOk P w K mg base CX0 8 A.a_House_tell_plan A.d_House_tell_plan p_House_tell_plan (sp_tell A .plan) := by
  refine T.F_House_tell_plan.ok sc_House_tell_plan (fun vs H Q E h => ?_) (fun cdv A' outer s H vs Q E hr h => ?_)
  · obtain ⟨a, L, h, rfl, _⟩ := h
    rfl
  · obtain ⟨a, L, h, rfl, X, hw, kk⟩ := h
    refine ⟨_, (pss_cons (ps_set (i := 1) sc_House_tell_plan.nd rfl (Or.inl rfl) (pe_call G_planned_steps (hr.mono (by decide)) rfl T.g_planned_steps T.F_planned_steps.kp T.b_planned_steps .nil pass0 (pa_cons (pe_fld (pv 0) rfl) (pa_cons (pe_fld (pv 0) rfl) (pa_cons (pe_fld (pv 0) rfl) pa_nil)))))
      (pss_cons (ps_if (pt_cmpR op_isN (pv 1) pe_non (nomark _)) (pss_one (ps_ret (pe_lst (pa_cons (pe_gint rfl T.g_NO_WAY) pa_nil)))) pss_nil)
      (pss_cons (ps_set (i := 2) sc_House_tell_plan.nd rfl (Or.inl rfl) (pe_lst (pa_cons (pe_callB call_len_seq (by rfl) T.b_len PySem.boot_len (pa_cons (pv 1) pa_nil)) pa_nil)))
      (pss_cons (ps_for PassesOwn.never rfl (pi_list (pv 1)) (pg_name (i := 3) sc_House_tell_plan.nd rfl (Or.inl rfl)) (pss_one (ps_expr (pe_bm PySem.F.plainAttrs_list PySem.F.slot_list_extend PySem.F.type_list_extend mt_extend (pv 2) (pa_cons (pe_call G_step_numbers (hr.mono (by decide)) rfl T.g_step_numbers T.F_step_numbers.kp T.b_step_numbers .nil pass0 (pa_cons (pv 3) pa_nil)) pa_nil)))))
      (pss_one (ps_ret (pv 2))))))), ?_⟩
    refine q_asgCall (ea_cons (ev_services (T := T) X (ev_var rfl)) (ea_cons (ev_clashes (T := T) X (ev_var rfl)) (ea_cons (ev_counts (T := T) X (ev_var rfl)) ea_nil))) fun H1 e1 => ?_
    have X1 := X.mono e1
    refine ⟨L.ls, L.lc, L.ln, h, rfl, X1.hs, X1.ct, good_now hw, hw, fun hnone => ?_, fun n hn hn217 hlen => ?_⟩
    · intro H2 e2
      refine q_when (et_test (ev_op (z := .bl true) (ev_var rfl) ev_c fun H3 e3 Q q => ⟨rfl, q H3 (Ex.refl H3)⟩)) (fun _ H3 e3 => ?_) (fun hb => by cases hb)
      refine s_retL (el_lst (ea_cons ev_c ea_nil) (by show 1 ≤ 100000; decide)) fun p H4 np e4 h4 => ?_
      refine kk p H4 (fresh_back ((e1.trans e2).trans e3) np) (((e1.trans e2).trans e3).trans e4) ?_
      rw [plan_none (h := absH h) hnone]
      exact h4
    · intro pl H2 npl e2 xs
      obtain ⟨ps, hps, hpa⟩ := xs
      have hpl := hpa.length
      refine q_when (et_test (ev_op (z := .bl false) (ev_var rfl) ev_c fun H3 e3 Q q => ⟨rfl, q H3 (Ex.refl H3)⟩)) (fun hb => by cases hb) (fun _ H3 e3 => ?_)
      refine q_asgL (el_lst (ea_cons (ev_len (ev_var rfl) (sq_of (e3 _ _ hps))) ea_nil) (by show 1 ≤ 100000; decide)) fun l H4 nl e4 h4 => ?_
      have nl0 : H l = none := fresh_back ((e1.trans e2).trans e3) nl
      have hfl : ∀ i, (((absH h).way (absH h).table n h.now).take i |>.flatMap Rp11.numbers).length ≤ 868 := fun i => by
        rw [flat_len (n := 4) (fun _ => rfl), List.length_take]
        omega
      have npl' : pl ≠ l := ne_of_none (e3 _ _ hps) nl
      refine q_forLn (K := K) (ev_var rfl) (sq_of (e4 _ _ (e3 _ _ hps))) (fun i σ' H' => (∃ v3, σ' = [some (.ref a), some (.ref pl), some (.ref l), v3]) ∧ Ex H H' ∧ H' pl = some (.lst (rv ps)) ∧ All2 (StepAt A H') ps ((absH h).way (absH h).table n h.now) ∧ H' l = some (.lst (.int ((rv ps).length : Int) :: ivs ((((absH h).way (absH h).table n h.now).take i).flatMap Rp11.numbers))))
        (fun H5 e5 => ⟨⟨none, rfl⟩, (((e1.trans e2).trans e3).trans e4).trans e5, e5 _ _ (e4 _ _ (e3 _ _ hps)), hpa.imp fun _ _ z => StepAt.mono ((e3.trans e4).trans e5) z, e5 _ _ h4⟩) (fun i σ' H' _ z => sq_of z.2.2.1) ?_ ?_
      · rintro i y σ' H5 hi ⟨⟨v3, rfl⟩, ex5, hp5, ha5, h5⟩
        obtain ⟨p, hp, rfl⟩ := rv_got hi
        obtain ⟨x, hx, xp⟩ := ha5.getL hp
        refine s_extL (K := K) h5 (ev_var rfl) (el_numbers (ea_cons (ev_var rfl) ea_nil) xp) ?_ fun H6 e6 => ⟨⟨_, rfl⟩, Ex.mut (ex5.trans e6) nl0, ?_, ?_, ?_⟩
        · have := hfl i
          simp only [List.length_cons, ivs_len, num_len]
          omega
        · rw [upd_ne npl']
          exact e6 _ _ hp5
        · exact ha5.imp fun _ _ z => (StepAt.mono e6 z).upd (e6 _ _ h5)
        · rw [upd_same, flat_take hx, ivs_app]
          rfl
      · rintro σ' H5 ⟨⟨v3, rfl⟩, ex5, hp5, ha5, h5⟩
        refine s_ret (ev_var rfl) fun H6 e6 => kk l H6 nl0 (ex5.trans e6) ?_
        rw [rv_len, hpl, List.take_length, hlen] at h5
        rw [e6 _ _ h5, plan_some (h := absH h) hn]
        rfl
/-! ### may -/
def nearOf (F : Rp11.State → Option Nat) (u : Rp11.State) : Nat := match F u with
  | some n => n + 1
  | none => 0
theorem may_out {h : Rp11.House} {F : Rp11.State → Option Nat} (hF : ∀ x ∈ h.steps h.now, Rp11.far h.table (Rp11.after h.now x) = F (Rp11.after h.now x)) :
    outV (Rp11.step h .may).2 = .int ((h.steps h.now).length : Int) :: ivs ((h.steps h.now).flatMap fun x => Rp11.numbers x ++ [nearOf F (Rp11.after h.now x)]) := by
  unfold Rp11.step
  simp only [outV]
  congr 2
  refine flatMap_cong fun x hx => ?_
  unfold nearOf
  rw [hF x hx]
  cases F (Rp11.after h.now x) <;> rfl
theorem ok_House_tell_may (T : Tx K mg A) (G_steps_from : FnOk P w K mg base CX0 4 A.a_steps_from A.d_steps_from p_steps_from (sp_steps_from A)) (G_fewest_steps : FnOk P w K mg base CX0 6 A.a_fewest_steps A.d_fewest_steps p_fewest_steps (sp_fewest_steps P w A))
    (G_counts_behind : FnOk P w K mg base CX0 1 A.a_counts_behind A.d_counts_behind p_counts_behind (sp_counts_behind A)) (G_step_numbers : FnOk P w K mg base CX0 1 A.a_step_numbers A.d_step_numbers p_step_numbers (sp_step_numbers A)) :
    FnOk P w K mg base CX0 7 A.a_House_tell_may A.d_House_tell_may p_House_tell_may (sp_tell A .may) := by
  refine T.F_House_tell_may.ok sc_House_tell_may (fun vs H Q E h => ?_) (fun cdv A' outer s H vs Q E hr h => ?_)
  · obtain ⟨a, L, h, rfl, _⟩ := h
    rfl
  · obtain ⟨a, L, h, rfl, X, hw, kk⟩ := h
    refine ⟨_, (pss_cons (ps_set (i := 1) sc_House_tell_may.nd rfl (Or.inl rfl) (pe_call G_steps_from (hr.mono (by decide)) rfl T.g_steps_from T.F_steps_from.kp T.b_steps_from .nil pass0 (pa_cons (pe_fld (pv 0) rfl) (pa_cons (pe_fld (pv 0) rfl) (pa_cons (pe_fld (pv 0) rfl) pa_nil)))))
      (pss_cons (ps_set (i := 2) sc_House_tell_may.nd rfl (Or.inl rfl) (pe_call G_fewest_steps (hr.mono (by decide)) rfl T.g_fewest_steps T.F_fewest_steps.kp T.b_fewest_steps .nil pass0 (pa_cons (pe_fld (pv 0) rfl) (pa_cons (pe_fld (pv 0) rfl) (pa_cons (pe_fld (pv 0) rfl) pa_nil)))))
      (pss_cons (ps_set (i := 3) sc_House_tell_may.nd rfl (Or.inl rfl) (pe_lst (pa_cons (pe_callB call_len_seq (by rfl) T.b_len PySem.boot_len (pa_cons (pv 1) pa_nil)) pa_nil)))
      (pss_cons (ps_for PassesOwn.never rfl (pi_list (pv 1)) (pg_name (i := 4) sc_House_tell_may.nd rfl (Or.inl rfl)) (pss_cons (ps_set (i := 5) sc_House_tell_may.nd rfl (Or.inl rfl) (pe_call G_counts_behind (hr.mono (by decide)) rfl T.g_counts_behind T.F_counts_behind.kp T.b_counts_behind .nil pass0 (pa_cons (pe_fld (pv 0) rfl) (pa_cons (pv 4) pa_nil))))
      (pss_cons (ps_expr (pe_bm PySem.F.plainAttrs_list PySem.F.slot_list_extend PySem.F.type_list_extend mt_extend (pv 3) (pa_cons (pe_call G_step_numbers (hr.mono (by decide)) rfl T.g_step_numbers T.F_step_numbers.kp T.b_step_numbers .nil pass0 (pa_cons (pv 4) pa_nil)) pa_nil)))
      (pss_one (ps_expr (pe_bm PySem.F.plainAttrs_list PySem.F.slot_list_append PySem.F.type_list_append mt_append (pv 3) (pa_cons (pe_ifExp (pt_cmp (pc_nin (P := P) (w := w) rfl rfl (hu65 hr) (pv 5) (pv 2))) (pe_op op_add (pe_nget (P := P) (w := w) rfl rfl (hu65 hr) (pv 2) (pv 5) (fun _ _ => rfl)) pe_int) (pe_gint rfl T.g_NO_WAY_ON)) pa_nil)))))))
      (pss_one (ps_ret (pv 3))))))), ?_⟩
    have g := good_now hw
    refine q_asgP (R := fun v H2 => ∃ pl, v = .ref pl ∧ StepsAt A H2 pl ((absH h).steps h.now)) (ep_call (ea_cons (ev_services (T := T) X (ev_var rfl)) (ea_cons (ev_clashes (T := T) X (ev_var rfl)) (ea_cons (ev_counts (T := T) X (ev_var rfl)) ea_nil))) fun H2 e2 Q q => ⟨L.ls, L.lc, L.ln, h, h.now, rfl, (X.mono e2).hs, (X.mono e2).ct, g, fun p H3 np e3 xs => q _ H3 e3 ⟨p, rfl, xs⟩⟩) fun v1 H1 e1 ⟨pl, hv1, xs⟩ => ?_
    subst hv1
    have X1 := X.mono e1
    refine q_asgP (ep_call (ea_cons (ev_services (T := T) X1 (ev_var rfl)) (ea_cons (ev_clashes (T := T) X1 (ev_var rfl)) (ea_cons (ev_counts (T := T) X1 (ev_var rfl)) ea_nil))) fun H2 e2 Q q => ⟨L.ls, L.lc, L.ln, h, h.now, rfl, (X1.mono e2).hs, (X1.mono e2).ct, g, q⟩) fun v2 H2 e2 ⟨f, R, F, hv2, td, xf⟩ => ?_
    subst hv2
    obtain ⟨r, r1, r2, r3, r4⟩ := tells_table hw td.tells td.now
    have hout := may_out (h := absH h) (F := F) fun x hx => r4 _ (r2 _ r1 x hx)
    obtain ⟨ps, hps, hpa⟩ := xs.mono e2
    have hpl := hpa.length
    have hb54 := steps_bound (h := absH h) g.ser (by rw [abs_len]; exact g.len) g.shape
    refine q_asgL (el_lst (ea_cons (ev_len (ev_var rfl) (sq_of hps)) ea_nil) (by show 1 ≤ 100000; decide)) fun l H3 nl e3 h3 => ?_
    have nl0 : H l = none := fresh_back (e1.trans e2) nl
    have npl' : pl ≠ l := ne_of_none hps nl
    have hfl : ∀ i, ((((absH h).steps h.now).take i).flatMap fun x => Rp11.numbers x ++ [nearOf F (Rp11.after h.now x)]).length ≤ 270 := fun i => by
      rw [flat_len (n := 5) (fun _ => rfl), List.length_take]
      omega
    refine q_forLn (K := K) (ev_var rfl) (sq_of (e3 _ _ hps)) (fun i σ' H' => (∃ v4 v5, σ' = [some (.ref a), some (.ref pl), some (.ref f), some (.ref l), v4, v5]) ∧ Ex H H' ∧ H' pl = some (.lst (rv ps)) ∧ All2 (StepAt A H') ps ((absH h).steps h.now) ∧ FarAt P w H' f F ∧
        H' l = some (.lst (.int ((rv ps).length : Int) :: ivs ((((absH h).steps h.now).take i).flatMap fun x => Rp11.numbers x ++ [nearOf F (Rp11.after h.now x)]))))
      (fun H4 e4 => ⟨⟨none, none, rfl⟩, ((e1.trans e2).trans e3).trans e4, e4 _ _ (e3 _ _ hps), hpa.imp fun _ _ z => StepAt.mono (e3.trans e4) z, xf.mono (e3.trans e4), e4 _ _ h3⟩) (fun i σ' H' _ z => sq_of z.2.2.1) ?_ ?_
    · rintro i y σ' H4 hi ⟨⟨v4, v5, rfl⟩, ex4, hp4, ha4, xf4, h4⟩
      obtain ⟨p, hp, rfl⟩ := rv_got hi
      obtain ⟨x, hx, xp⟩ := ha4.getL hp
      have xm : x ∈ (absH h).steps h.now := List.mem_of_getElem? hx
      have hmay : h.may h.now x = true := by rw [← abs_may]; exact mem_steps.1 xm
      obtain ⟨rr, Ft⟩ := g.fits (may_can hmay)
      have X4 := X.mono ex4
      refine q_asgP (ep_behind (ea_cons (ev_counts (T := T) X4 (ev_var rfl)) (ea_cons (ev_var rfl) ea_nil)) X4.ct xp Ft) fun v5 H5 e5 ⟨b, hv5, xb⟩ => ?_
      subst hv5
      have hfi := hfl i
      refine q_extL (K := K) (e5 _ _ h4) (ev_var rfl) (el_numbers (ea_cons (ev_var rfl) ea_nil) (xp.mono e5)) ?_ fun H6 e6 => ?_
      · simp only [List.length_cons, ivs_len, num_len]
        omega
      have hl6 := e6 _ _ (e5 _ _ h4)
      have off : Off l H6 (upd H6 l (.lst (.int ((rv ps).length : Int) :: ivs ((((absH h).steps h.now).take i).flatMap fun x => Rp11.numbers x ++ [nearOf F (Rp11.after h.now x)]) ++ ivs (Rp11.numbers x)))) := Off.upd (Ex.refl _)
      have xf6 := (xf4.mono (e5.trans e6)).off off hl6 lst_tup fun _ _ => dn_lst
      have xb6 := (xb.mono e6).off off hl6 lst_tup
      obtain ⟨xs, xd, hv⟩ := id xf6
      refine s_app (K := K) (v := iv (nearOf F (Rp11.after h.now x))) upd_same (ev_var rfl) (ev_if (et_B (ev_nin (ev_var rfl) (ev_var rfl) xd xb6)) (fun hb => ?_) (fun hb => ?_)) ?_ fun H7 e7 => ⟨⟨_, _, rfl⟩, Ex.mut ((Ex.mut ((ex4.trans e5).trans e6) nl0).trans e7) nl0, ?_, ?_, ?_, ?_⟩
      · rw [hv] at hb
        cases q : F (Rp11.after h.now x) with
        | none => rw [q] at hb; cases hb
        | some m =>
          have vx : valN xs (Rp11.after h.now x) = some (iv m) := by rw [hv, q]; rfl
          refine ev_is (ev_op (ev_nget (ev_var rfl) (ev_var rfl) xd xb6 vx) ev_c rv_I0) ?_
          unfold nearOf
          rw [q]
          rfl
      · rw [hv] at hb
        cases q : F (Rp11.after h.now x) with
        | none =>
          refine ev_is ev_c ?_
          unfold nearOf
          rw [q]
          rfl
        | some m => rw [q] at hb; cases hb
      · simp only [List.length_append, List.length_cons, ivs_len, num_len]
        omega
      · rw [upd_ne npl']
        exact e7 _ _ (off _ _ (e6 _ _ (e5 _ _ hp4)) npl')
      · exact ha4.imp fun _ _ z => ((((StepAt.mono e5 z).mono e6).upd hl6).mono e7).upd (e7 _ _ upd_same)
      · exact (xf6.mono e7).off (Off.upd (Ex.refl H7)) (e7 _ _ upd_same) lst_tup fun _ _ => dn_lst
      · rw [upd_same, flat_take hx, ivs_app, ivs_app]
        simp [ivs]
    · rintro σ' H4 ⟨⟨v4, v5, rfl⟩, ex4, hp4, ha4, xf4, h4⟩
      refine s_ret (ev_var rfl) fun H5 e5 => kk l H5 nl0 (ex4.trans e5) ?_
      rw [rv_len, hpl, List.take_length] at h4
      rw [e5 _ _ h4, hout]
      rfl
end
end Up

namespace Up
open Rp11
/-! ### the program's own house and the specification's go on alike -/
theorem abs_now (h : House) : (absH h).now = h.now := rfl
theorem abs_clashes (h : House) : (absH h).clashes = h.clashes := rfl
theorem abs_init : absH Rp11.init = Rp11.init := rfl
theorem abs_set (h : House) (s : Nat) (S : Service) : absH { h with services := h.services.set s S } = { absH h with services := (absH h).services.set s (absS S) } := by
  unfold absH
  simp only [List.map_set]
theorem abs_has (h : House) (s v : Nat) : hasVersion (absH h) s v ↔ hasVersion h s v := by
  unfold hasVersion
  rw [abs_len, abs_versions]
theorem step_move (h : House) (s v w : Nat) : Rp11.step h (.move s v w) = if ¬ (hasVersion h s v ∧ hasVersion h s w) then (h, ok (-2)) else if v = w ∨ (v, w) ∈ (h.at_ s).moves then (h, ok (-4)) else
    ({ h with services := h.services.set s { h.at_ s with moves := putMove (v, w) (h.at_ s).moves } }, ok ((h.at_ s).moves.length + 1 : Nat)) := by
  unfold Rp11.step
  simp only
  by_cases c1 : hasVersion h s v ∧ hasVersion h s w
  · have c1' : ¬ (h.services.length ≤ s ∨ (h.at_ s).versions ≤ v ∨ (h.at_ s).versions ≤ w) := by
      obtain ⟨⟨a1, a2⟩, a3, a4⟩ := c1
      rw [← at_getD] at a2 a4
      omega
    rw [if_neg c1', if_neg (show ¬ ¬ (hasVersion h s v ∧ hasVersion h s w) from fun q => q c1)]
    by_cases c2 : v = w ∨ (v, w) ∈ (h.at_ s).moves
    · rw [if_pos c2, if_pos (show v = w ∨ (h.at_ s).moves.contains (v, w) = true from c2.imp id List.contains_iff_mem.2)]
    · rw [if_neg c2, if_neg (show ¬ (v = w ∨ (h.at_ s).moves.contains (v, w) = true) from fun q => c2 (q.imp id List.contains_iff_mem.1))]
  · have c1' : (h.services.length ≤ s ∨ (h.at_ s).versions ≤ v ∨ (h.at_ s).versions ≤ w) := by
      unfold hasVersion at c1
      rw [← at_getD] at c1
      omega
    rw [if_pos c1', if_pos c1]
theorem move_abs (h : House) (s v w : Nat) : Rp11.step (absH h) (.move s v w) = (absH (mMove h s v w).1, ok (mMove h s v w).2) := by
  rw [step_move]
  unfold mMove
  have e : (v, w) ∈ ((absH h).at_ s).moves ↔ (v, w) ∈ (h.at_ s).moves := by rw [abs_at]; exact mem_sort _ _
  by_cases c1 : ¬ (hasVersion h s v ∧ hasVersion h s w)
  · rw [if_pos c1, if_pos (show ¬ (hasVersion (absH h) s v ∧ hasVersion (absH h) s w) from fun q => c1 ⟨(abs_has _ _ _).1 q.1, (abs_has _ _ _).1 q.2⟩)]
  · rw [if_neg c1, if_neg (show ¬ ¬ (hasVersion (absH h) s v ∧ hasVersion (absH h) s w) from fun q => c1 fun r => q ⟨(abs_has _ _ _).2 r.1, (abs_has _ _ _).2 r.2⟩)]
    by_cases c2 : v = w ∨ (v, w) ∈ (h.at_ s).moves
    · rw [if_pos c2, if_pos (show v = w ∨ (v, w) ∈ ((absH h).at_ s).moves from c2.imp id e.2)]
    · rw [if_neg c2, if_neg (show ¬ (v = w ∨ (v, w) ∈ ((absH h).at_ s).moves) from fun q => c2 (q.imp id e.1))]
      simp only [abs_set, abs_at]
      refine Prod.ext ?_ ?_
      · simp only [absS, sort_snoc]
      · simp only [absS, len_sort]
theorem service_abs (h : House) (c n v g : Nat) : Rp11.step (absH h) (.service c n v g) = (absH (mStep h (.service c n v g)).1, ok (mStep h (.service c n v g)).2) := by
  unfold mStep Rp11.step
  simp only [abs_len]
  by_cases c1 : (c = 0 ∨ Rp11.COPIES < c ∨ c ≤ n ∨ v = 0 ∨ Rp11.VERSIONS < v ∨ v ≤ g)
  · rw [if_pos c1, if_pos c1]
    rfl
  · rw [if_neg c1, if_neg c1]
    by_cases c2 : h.services.length = Rp11.SERVICES
    · rw [if_pos c2, if_pos c2]
      rfl
    · rw [if_neg c2, if_neg c2]
      refine Prod.ext ?_ rfl
      simp only [absH, List.map_append, List.map_cons, List.map_nil]
      rfl
theorem clash_abs (h : House) (a x b y : Nat) : Rp11.step (absH h) (.clash a x b y) = (absH (mStep h (.clash a x b y)).1, ok (mStep h (.clash a x b y)).2) := by
  have ea : ((absH h).at_ a).versions = (h.at_ a).versions := by rw [abs_at]; rfl
  have eb : ((absH h).at_ b).versions = (h.at_ b).versions := by rw [abs_at]; rfl
  unfold mStep Rp11.step
  simp only [abs_len, ea, eb]
  by_cases c1 : (h.services.length ≤ a ∨ (h.at_ a).versions ≤ x ∨ h.services.length ≤ b ∨ (h.at_ b).versions ≤ y)
  · rw [if_pos c1, if_pos c1]
    rfl
  · rw [if_neg c1, if_neg c1]
    by_cases c2 : h.clashes.contains (a, x, b, y) = true ∨ h.clashes.contains (b, y, a, x) = true ∨ a = b ∧ x = y
    · rw [if_pos c2, if_pos (show (absH h).clashes.contains (a, x, b, y) = true ∨ (absH h).clashes.contains (b, y, a, x) = true ∨ a = b ∧ x = y from c2)]
      rfl
    · rw [if_neg c2, if_neg (show ¬ ((absH h).clashes.contains (a, x, b, y) = true ∨ (absH h).clashes.contains (b, y, a, x) = true ∨ a = b ∧ x = y) from c2)]
      by_cases c3 : 0 < count h.now a x ∧ 0 < count h.now b y
      · rw [if_pos c3, if_pos (show 0 < count (absH h).now a x ∧ 0 < count (absH h).now b y from c3)]
        rfl
      · rw [if_neg c3, if_neg (show ¬ (0 < count (absH h).now a x ∧ 0 < count (absH h).now b y) from c3)]
        by_cases c4 : h.clashes.length = Rp11.CLASHES
        · rw [if_pos c4, if_pos (show (absH h).clashes.length = Rp11.CLASHES from c4)]
          rfl
        · rw [if_neg c4, if_neg (show ¬ (absH h).clashes.length = Rp11.CLASHES from c4)]
          rfl
theorem step_abs (h : House) (s v w k : Nat) : Rp11.step (absH h) (.step s v w k) = (absH (mStep h (.step s v w k)).1, ok (mStep h (.step s v w k)).2) := by
  unfold mStep Rp11.step
  simp only [abs_can, abs_may, abs_now]
  by_cases c1 : h.can h.now ⟨s, v, w, k⟩ = false
  · rw [if_pos c1, if_pos c1]
    rfl
  · rw [if_neg c1, if_neg c1]
    by_cases c2 : h.may h.now ⟨s, v, w, k⟩ = false
    · rw [if_pos c2, if_pos c2]
      rfl
    · rw [if_neg c2, if_neg c2]
      rfl
theorem goal_abs (h : House) (s v : Nat) : Rp11.step (absH h) (.goal s v) = (absH (mGoal h s v).1, ok (mGoal h s v).2) := by
  have ea : ((absH h).at_ s).versions = (h.at_ s).versions := by rw [abs_at]; rfl
  unfold mGoal Rp11.step
  simp only [abs_len, ea]
  by_cases c1 : hasVersion h s v
  · have c1' : ¬ (h.services.length ≤ s ∨ (h.at_ s).versions ≤ v) := by
      obtain ⟨a1, a2⟩ := c1
      rw [← at_getD] at a2
      omega
    rw [if_neg c1', if_neg (show ¬ ¬ hasVersion h s v from fun q => q c1)]
    simp only [abs_set, abs_at]
    rfl
  · have c1' : (h.services.length ≤ s ∨ (h.at_ s).versions ≤ v) := by
      unfold hasVersion at c1
      rw [← at_getD] at c1
      omega
    rw [if_pos c1', if_pos c1]
end Up

namespace Up
open PySem PySem.Spec PyProof.Rows L2 Evl
section
variable {P : Program} {w : World} {K : PySem.W.Frag} {mg : Str → Option Value} {base : Heap} {A : Ad}
section
variable {σ : L2.St} {H : Hp} {ta tb te t1 t2 t3 : TE} {D : Ends} {tz : TS}
def zvs (l : List Int) : List V := l.map V.int
theorem q_asgCall2L {sp : Sp} {v1 v2 : V} {xs : List V} {i : Nat} {E : XK} (h1 : Ev t1 σ H v1) (h2 : Ev t2 σ H v2) (h3 : EvL t3 σ H xs)
    (k : ∀ p H1, H p = none → Ex H H1 → H1 p = some (.lst xs) → sp [v1, v2, .ref p] H1 (fun v H2 => tz D (σ.set i (some v)) H2) E) : tSeq (tAsg (tCall sp [] E (tCons t1 (tCons t2 (tCons t3 tNil)))) (gName i)) tz D σ H :=
  h1 H (Ex.refl H) _ fun H1 e1 => h2 H1 e1 _ fun H2 e2 => h3 H2 (e1.trans e2) _ fun p H3 hp e3 h3 => k p H3 (fresh_back (e1.trans e2) hp) ((e1.trans e2).trans e3) h3
theorem q_appS {l : Addr} {xs : List V} {v : V} (hl : H l = some (.lst xs)) (ha : Ev ta σ H (.ref l)) (h : Ev te σ H v) (hz : xs.length < sizeLine) (k : ∀ H1, Ex H H1 → tz D σ (upd H1 l (.lst (xs ++ [v])))) :
    tSeq (tDrop (tBM K "list" rAppend ta (tCons te tNil))) tz D σ H := ha H (Ex.refl H) _ fun H1 e1 =>
  ⟨Or.inl ⟨rfl, xs, sq_of (e1 l _ hl)⟩, h H1 e1 _ fun H2 e2 => ⟨l, xs, v, rfl, rfl, (e1.trans e2) l _ hl, hz, k H2 (e1.trans e2)⟩⟩
theorem q_ext {l b : Addr} {xs zs : List V} (hl : H l = some (.lst xs)) (hb : H b = some (.lst zs)) (ha : Ev ta σ H (.ref l)) (h : Ev te σ H (.ref b)) (hz : xs.length + zs.length ≤ sizeLine) (k : ∀ H1, Ex H H1 → tz D σ (upd H1 l (.lst (xs ++ zs)))) :
    tSeq (tDrop (tBM K "list" rExtend ta (tCons te tNil))) tz D σ H := ha H (Ex.refl H) _ fun H1 e1 =>
  ⟨Or.inl ⟨rfl, xs, sq_of (e1 l _ hl)⟩, h H1 e1 _ fun H2 e2 => ⟨l, b, xs, zs, rfl, rfl, (e1.trans e2) l _ hl, (e1.trans e2) b _ hb, hz, k H2 (e1.trans e2)⟩⟩
end
theorem cut_nat {xs : List V} {i j : Nat} (hi : i ≤ xs.length) (hj : j ≤ xs.length) : cutV xs (some (i : Int)) (some (j : Int)) = (xs.drop i).take (j - i) := by
  unfold cutV HT.sIx
  have a1 : ¬ ((i : Int) < 0) := by omega
  have a2 : ¬ ((j : Int) < 0) := by omega
  simp only [a1, a2, if_false, Int.toNat_natCast]
  congr 1
  · omega
  · congr 1
    omega
theorem left_call {p : Int} {r : List Int} {cs : List (List (List Int))} (h : Left (p :: r) cs) : ∃ n x cs', PyRp11.shape p = some (n, 0) ∧ n ≤ r.length ∧ Left (r.drop n) cs' ∧ cs = [p :: r.take n] :: cs' ∧ Rp11Neutral.callOf [p :: r.take n] = some x := by
  have hn := left_next h
  cases hn with
  | begins l => exact ⟨0, _, _, rfl, Nat.zero_le _, l, rfl, rfl⟩
  | service l => exact ⟨4, _, _, rfl, by simp, l, rfl, rfl⟩
  | move l => exact ⟨3, _, _, rfl, by simp, l, rfl, rfl⟩
  | clash l => exact ⟨4, _, _, rfl, by simp, l, rfl, rfl⟩
  | step l => exact ⟨4, _, _, rfl, by simp, l, rfl, rfl⟩
  | plan l => exact ⟨0, _, _, rfl, Nat.zero_le _, l, rfl, rfl⟩
  | may l => exact ⟨0, _, _, rfl, Nat.zero_le _, l, rfl, rfl⟩
  | goal l => exact ⟨2, _, _, rfl, by simp, l, rfl, rfl⟩
  | now l => exact ⟨0, _, _, rfl, Nat.zero_le _, l, rfl, rfl⟩

/-- what answer does with the house: one call -/
def sp_answer (A : Ad) : Sp := fun vs H Q _ => ∃ (a g : Addr) (L : Lay) (h : Rp11.House) (p : Int) (args : List Int) (x : Rp11.Call), vs = [.ref a, .int p, .ref g] ∧ HouseAt A H a L h ∧ WF (absH h) ∧ H g = some (.lst (zvs args)) ∧ g ∉ foot a L ∧
  (∀ z ∈ args, 0 ≤ z) ∧ Rp11Neutral.callOf [p :: args] = some x ∧
  ∀ (H' : Hp) (L' : Lay) (h' : Rp11.House) (q : Addr), HouseAt A H' a L' h' → absH h' = (Rp11.step (absH h) x).1 → HChg a L H L' H' → H q = none → q ∉ foot a L' → H' q = some (.lst (zvs (Rp11Neutral.out (Rp11.step (absH h) x).2))) → Q (.ref q) H'
theorem foot_some {H : Hp} {a : Addr} {L : Lay} {h : Rp11.House} (X : HouseAt A H a L h) : ∀ b ∈ foot a L, H b ≠ none := fun b hb => by
  unfold foot at hb
  simp only [List.mem_cons, List.mem_append] at hb
  rcases hb with rfl | rfl | rfl | hb | hb
  · obtain ⟨d, q⟩ := X.obj
    rw [q]
    simp
  · rw [X.ls]
    simp
  · obtain ⟨ts, q, _⟩ := X.lc
    rw [q]
    simp
  · obtain ⟨q, hq, rfl⟩ := List.mem_map.1 hb
    obtain ⟨i, hi⟩ := List.mem_iff_getElem?.1 hq
    obtain ⟨S, _, xS⟩ := X.sv.getL hi
    obtain ⟨ds, hs'⟩ := xS.obj
    rw [hs']
    simp
  · obtain ⟨q, hq, rfl⟩ := List.mem_map.1 hb
    obtain ⟨i, hi⟩ := List.mem_iff_getElem?.1 hq
    obtain ⟨S, _, xS⟩ := X.sv.getL hi
    obtain ⟨ts, hts, _⟩ := xS.mv
    rw [hts]
    simp
/-! ### answer -/
theorem q_skip {σ : L2.St} {H : Hp} {D : Ends} {tu tz : TS} {p c : Int} (hp : σ[1]? = some (some (.int p))) (hne : p ≠ c) (k : ∀ H1, Ex H H1 → tz D σ H1) : tSeq (tIfS (tTest (tOp rEq (tVar 1) (tC (.int c)))) tu tNext) tz D σ H :=
  q_when (et_test (ev_op (ev_var hp) ev_c (rv_eq rfl))) (fun hb => by
    rw [decide_eq_true_eq] at hb
    injection hb with hb
    exact absurd hb hne) fun _ H1 e1 => k H1 e1
theorem q_take {σ : L2.St} {H : Hp} {D : Ends} {tu tz : TS} {c : Int} (hp : σ[1]? = some (some (.int c))) (k : ∀ H1, Ex H H1 → tu { D with nx := tz D } σ H1) : tSeq (tIfS (tTest (tOp rEq (tVar 1) (tC (.int c)))) tu tNext) tz D σ H :=
  q_when (et_test (ev_op (ev_var hp) ev_c (rv_eq rfl))) (fun _ H1 e1 => k H1 e1) fun hb => by simp at hb
theorem HChg.pre {a : Addr} {L L' : Lay} {H H1 H2 : Hp} (e : Ex H H1) (c : HChg a L H1 L' H2) : HChg a L H L' H2 :=
  ⟨⟨fun b o h hb => c.chg.keep b o (e b o h) hb, fun b h => fresh_back e (c.chg.tr b h)⟩, fun b hb => (c.fresh b hb).imp id (fresh_back e)⟩
/-- what is wanted behind a call -/
def Want (A : Ad) (a : Addr) (L : Lay) (h : Rp11.House) (x : Rp11.Call) (H : Hp) (Q : VK) : Prop := ∀ (H' : Hp) (L' : Lay) (h' : Rp11.House) (q : Addr), HouseAt A H' a L' h' → absH h' = (Rp11.step (absH h) x).1 → HChg a L H L' H' → H q = none → q ∉ foot a L' → H' q = some (.lst (zvs (Rp11Neutral.out (Rp11.step (absH h) x).2))) → Q (.ref q) H'
theorem Want.mono {a : Addr} {L : Lay} {h : Rp11.House} {x : Rp11.Call} {H H1 : Hp} {Q : VK} (k : Want A a L h x H Q) (e : Ex H H1) : Want A a L h x H1 Q := fun H' L' h' q X eh c nq nf hq => k H' L' h' q X eh (c.pre e) (fresh_back e nq) nf hq
/-- the answer is one number, put into a new list -/
def One (Q : VK) : VK := fun v H => 1 ≤ sizeLine ∧ ∀ p, H p = none → Q (.ref p) (upd H p (.lst [v]))
theorem Want.one {a : Addr} {L : Lay} {h h' : Rp11.House} {x : Rp11.Call} {H : Hp} {Q : VK} {n : Int} (k : Want A a L h x H Q) (e : Rp11.step (absH h) x = (absH h', Rp11.ok n)) : MutTo A a L H h' n (One Q) := fun H' L' X' c => by
  refine ⟨by decide, fun p np => ?_⟩
  have en : Ex H' (upd H' p (.lst [.int n])) := Ex.new np
  refine k _ L' h' p (X'.mono en) (by rw [e]) (c.ex en) (c.chg.tr p np) (fun hm => foot_some X' p hm np) ?_
  rw [upd_same, e]
  rfl
theorem Want.tell {a : Addr} {L : Lay} {h : Rp11.House} {x : Rp11.Call} {H : Hp} {Q : VK} (k : Want A a L h x H Q) (X : HouseAt A H a L h) (e : (Rp11.step (absH h) x).1 = absH h) : RetL (outV (Rp11.step (absH h) x).2) H Q := fun p H2 np e2 hp => by
  refine k H2 L h p (X.mono e2) e.symm (.of_ex e2) np (fun hm => foot_some X p hm np) ?_
  rw [hp]
  simp [outV, zvs, Rp11Neutral.out, ivs, iv]
theorem ret_one {σ : L2.St} {H : Hp} {D : Ends} {a dx : Addr} {fs : List (Str × V)} {m : Str} {sp : Sp} {E : XK} {t : TA} {vs : List V} (ha : σ[0]? = some (some (.ref a))) (ho : H a = some (.ins A.c_House dx fs)) (l : fs.lookup m = none) (hv : EvA t σ H vs)
    (k : ∀ H1, Ex H H1 → sp (.ref a :: (vs ++ [])) H1 (One D.rt) E) : tRet (tLst (tCons (tMeth A.c_House m sp [] E (tVar 0) t) tNil)) D σ H :=
  ⟨.ref a, ha, a, dx, fs, rfl, ho, l, hv H (Ex.refl H) _ fun H1 e1 => k H1 e1⟩
theorem ret_tell {σ : L2.St} {H : Hp} {D : Ends} {a dx : Addr} {fs : List (Str × V)} {m : Str} {sp : Sp} {E : XK} (ha : σ[0]? = some (some (.ref a))) (ho : H a = some (.ins A.c_House dx fs)) (l : fs.lookup m = none)
    (k : sp [.ref a] H D.rt E) : tRet (tMeth A.c_House m sp [] E (tVar 0) tNil) D σ H :=
  ⟨.ref a, ha, a, dx, fs, rfl, ho, l, k⟩
inductive Kind : Int → List Int → Rp11.Call → Prop
  | begins : Kind 0 [] .begins
  | service {c n v g} : Kind 1 [c, n, v, g] (.service c.toNat n.toNat v.toNat g.toNat)
  | move {s v w} : Kind 2 [s, v, w] (.move s.toNat v.toNat w.toNat)
  | clash {a x b y} : Kind 3 [a, x, b, y] (.clash a.toNat x.toNat b.toNat y.toNat)
  | step {s v w k} : Kind 4 [s, v, w, k] (.step s.toNat v.toNat w.toNat k.toNat)
  | plan : Kind 5 [] .plan
  | may : Kind 6 [] .may
  | goal {s v} : Kind 7 [s, v] (.goal s.toNat v.toNat)
  | now : Kind 8 [] .now
theorem kind_of {p : Int} {args : List Int} {x : Rp11.Call} (h : Rp11Neutral.callOf [p :: args] = some x) : Kind p args x := by
  unfold Rp11Neutral.callOf at h
  split at h
  all_goals first | cases h | skip
  all_goals (rename_i e; injection e with e1 e2; injection e1 with e3 e4; subst e3 e4; constructor)
theorem ev_arg {σ : L2.St} {H : Hp} {g : Addr} {args : List Int} {i : Nat} {z : Int} (hg : H g = some (.lst (zvs args))) (hs : σ[2]? = some (some (.ref g))) (hz : args[i]? = some z) (h0 : 0 ≤ z) : Ev (tOp (rIxL K) (tVar 2) (tC (.int (i : Int)))) σ H (iv z.toNat) :=
  ev_op (ev_var hs) ev_c (rv_ixL (sq_of hg) (atI_nat (by
    simp only [zvs, List.getElem?_map, hz, Option.map_some, iv]
    congr 2
    omega)))
theorem ok_answer (T : Tx K mg A) (G_House_begin : FnOk P w K mg base CX0 1 A.a_House_begin A.d_House_begin p_House_begin (sp_House_begin A)) (G_House_add_service : FnOk P w K mg base CX0 3 A.a_House_add_service A.d_House_add_service p_House_add_service (sp_House_add_service A))
    (G_House_add_move : FnOk P w K mg base CX0 2 A.a_House_add_move A.d_House_add_move p_House_add_move (sp_House_add_move A)) (G_House_add_clash : FnOk P w K mg base CX0 2 A.a_House_add_clash A.d_House_add_clash p_House_add_clash (sp_House_add_clash A))
    (G_House_take_step : FnOk P w K mg base CX0 4 A.a_House_take_step A.d_House_take_step p_House_take_step (sp_House_take_step A)) (G_House_tell_plan : FnOk P w K mg base CX0 8 A.a_House_tell_plan A.d_House_tell_plan p_House_tell_plan (sp_tell A .plan))
    (G_House_tell_may : FnOk P w K mg base CX0 7 A.a_House_tell_may A.d_House_tell_may p_House_tell_may (sp_tell A .may)) (G_House_set_goal : FnOk P w K mg base CX0 2 A.a_House_set_goal A.d_House_set_goal p_House_set_goal (sp_House_set_goal A))
    (G_House_tell_now : FnOk P w K mg base CX0 1 A.a_House_tell_now A.d_House_tell_now p_House_tell_now (sp_tell A .now)) : FnOk P w K mg base CX0 9 A.a_answer A.d_answer p_answer (sp_answer A) := by
  refine T.F_answer.ok sc_answer (fun vs H Q E h => ?_) (fun cdv A' outer s H vs Q E hr h => ?_)
  · obtain ⟨a, g, L, h, p, args, x, rfl, _⟩ := h
    rfl
  · obtain ⟨a, g, L, h, p, args, x, rfl, X, hw, hg, ngf, hpos, hx, kk⟩ := h
    have kk : Want A a L h x H Q := kk
    refine ⟨_, (pss_cons (ps_if (pt_cmpR op_eq (pv 1) (pe_gint rfl T.g_BEGINS) (nomark _)) (pss_one (ps_ret (pe_lst (pa_cons (pe_meth0 (pv 0) T.cl_House T.m_House_begin G_House_begin (hr.mono (by decide)) T.b_House_begin .nil pass0) pa_nil)))) pss_nil)
      (pss_cons (ps_if (pt_cmpR op_eq (pv 1) (pe_gint rfl T.g_SERVICE) (nomark _)) (pss_one (ps_ret (pe_lst (pa_cons (pe_meth (pv 0) T.cl_House T.m_House_add_service G_House_add_service (hr.mono (by decide)) T.b_House_add_service .nil pass0 (pa_cons (pe_ix ix_list (pv 2) pe_int (fun _ _ => rfl)) (pa_cons (pe_ix ix_list (pv 2) pe_int (fun _ _ => rfl)) (pa_cons (pe_ix ix_list (pv 2) pe_int (fun _ _ => rfl)) (pa_cons (pe_ix ix_list (pv 2) pe_int (fun _ _ => rfl)) pa_nil))))) pa_nil)))) pss_nil)
      (pss_cons (ps_if (pt_cmpR op_eq (pv 1) (pe_gint rfl T.g_MOVE) (nomark _)) (pss_one (ps_ret (pe_lst (pa_cons (pe_meth (pv 0) T.cl_House T.m_House_add_move G_House_add_move (hr.mono (by decide)) T.b_House_add_move .nil pass0 (pa_cons (pe_ix ix_list (pv 2) pe_int (fun _ _ => rfl)) (pa_cons (pe_ix ix_list (pv 2) pe_int (fun _ _ => rfl)) (pa_cons (pe_ix ix_list (pv 2) pe_int (fun _ _ => rfl)) pa_nil)))) pa_nil)))) pss_nil)
      (pss_cons (ps_if (pt_cmpR op_eq (pv 1) (pe_gint rfl T.g_CLASH) (nomark _)) (pss_one (ps_ret (pe_lst (pa_cons (pe_meth (pv 0) T.cl_House T.m_House_add_clash G_House_add_clash (hr.mono (by decide)) T.b_House_add_clash .nil pass0 (pa_cons (pe_ix ix_list (pv 2) pe_int (fun _ _ => rfl)) (pa_cons (pe_ix ix_list (pv 2) pe_int (fun _ _ => rfl)) (pa_cons (pe_ix ix_list (pv 2) pe_int (fun _ _ => rfl)) (pa_cons (pe_ix ix_list (pv 2) pe_int (fun _ _ => rfl)) pa_nil))))) pa_nil)))) pss_nil)
      (pss_cons (ps_if (pt_cmpR op_eq (pv 1) (pe_gint rfl T.g_STEP) (nomark _)) (pss_one (ps_ret (pe_lst (pa_cons (pe_meth (pv 0) T.cl_House T.m_House_take_step G_House_take_step (hr.mono (by decide)) T.b_House_take_step .nil pass0 (pa_cons (pe_ix ix_list (pv 2) pe_int (fun _ _ => rfl)) (pa_cons (pe_ix ix_list (pv 2) pe_int (fun _ _ => rfl)) (pa_cons (pe_ix ix_list (pv 2) pe_int (fun _ _ => rfl)) (pa_cons (pe_ix ix_list (pv 2) pe_int (fun _ _ => rfl)) pa_nil))))) pa_nil)))) pss_nil)
      (pss_cons (ps_if (pt_cmpR op_eq (pv 1) (pe_gint rfl T.g_PLAN) (nomark _)) (pss_one (ps_ret (pe_meth0 (pv 0) T.cl_House T.m_House_tell_plan G_House_tell_plan (hr.mono (by decide)) T.b_House_tell_plan .nil pass0))) pss_nil)
      (pss_cons (ps_if (pt_cmpR op_eq (pv 1) (pe_gint rfl T.g_MAY) (nomark _)) (pss_one (ps_ret (pe_meth0 (pv 0) T.cl_House T.m_House_tell_may G_House_tell_may (hr.mono (by decide)) T.b_House_tell_may .nil pass0))) pss_nil)
      (pss_cons (ps_if (pt_cmpR op_eq (pv 1) (pe_gint rfl T.g_GOAL) (nomark _)) (pss_one (ps_ret (pe_lst (pa_cons (pe_meth (pv 0) T.cl_House T.m_House_set_goal G_House_set_goal (hr.mono (by decide)) T.b_House_set_goal .nil pass0 (pa_cons (pe_ix ix_list (pv 2) pe_int (fun _ _ => rfl)) (pa_cons (pe_ix ix_list (pv 2) pe_int (fun _ _ => rfl)) pa_nil))) pa_nil)))) pss_nil)
      (pss_one (ps_ret (pe_meth0 (pv 0) T.cl_House T.m_House_tell_now G_House_tell_now (hr.mono (by decide)) T.b_House_tell_now .nil pass0))))))))))), ?_⟩
    obtain ⟨dx, hobj⟩ := X.obj
    have nm : ∀ {m : Str} {ls lc ln : Addr}, (m == ("services" : Str)) = false → (m == ("clashes" : Str)) = false → (m == ("counts" : Str)) = false → (hoF ls lc ln).lookup m = none := fun h1 h2 h3 => ho_no _ _ _ h1 h2 h3
    cases kind_of hx with
    | begins =>
      refine q_take rfl fun H1 e1 => ?_
      refine ret_one rfl (e1 _ _ hobj) (nm (by decide +kernel) (by decide +kernel) (by decide +kernel)) ea_nil fun H2 e2 => ?_
      have E2 := e1.trans e2
      refine ⟨a, dx, _, rfl, E2 _ _ hobj, .inr ⟨_, _, _, rfl⟩, fun H3 L3 N => ?_⟩
      obtain ⟨off, tr, X3, sv3, f1, f2⟩ := N
      refine (kk.mono E2).one (h' := Rp11.init) (n := 0) rfl H3 L3 X3 ⟨⟨fun b o hb nb => off b o hb (fun z => nb (by rw [z]; unfold foot; simp)), tr⟩, fun b hb => ?_⟩
      unfold foot at hb
      rw [sv3] at hb
      simp only [List.map_nil, List.append_nil, List.mem_cons, List.not_mem_nil, or_false] at hb
      rcases hb with rfl | rfl | rfl
      · exact .inl (by unfold foot; simp)
      · exact .inr f1
      · exact .inr f2
    | @service c n v gg =>
      have z1 := hpos c (by simp)
      have z2 := hpos n (by simp)
      have z3 := hpos v (by simp)
      have z4 := hpos gg (by simp)
      refine q_skip rfl (by decide) fun H1 e1 => ?_
      refine q_take rfl fun H2 e2 => ?_
      have E2 := e1.trans e2
      have hg2 := E2 _ _ hg
      refine ret_one rfl (E2 _ _ hobj) (nm (by decide +kernel) (by decide +kernel) (by decide +kernel)) (ea_cons (ev_arg (i := 0) hg2 rfl rfl z1) (ea_cons (ev_arg (i := 1) hg2 rfl rfl z2) (ea_cons (ev_arg (i := 2) hg2 rfl rfl z3) (ea_cons (ev_arg (i := 3) hg2 rfl rfl z4) ea_nil)))) fun H3 e3 => ?_
      exact ⟨a, L, h, _, _, _, _, rfl, X.mono (E2.trans e3), hw, (kk.mono (E2.trans e3)).one (service_abs h _ _ _ _)⟩
    | @move s v w' =>
      have z1 := hpos s (by simp)
      have z2 := hpos v (by simp)
      have z3 := hpos w' (by simp)
      refine q_skip rfl (by decide) fun H1 e1 => q_skip rfl (by decide) fun H2 e2 => q_take rfl fun H3 e3 => ?_
      have E3 := (e1.trans e2).trans e3
      have hg3 := E3 _ _ hg
      refine ret_one rfl (E3 _ _ hobj) (nm (by decide +kernel) (by decide +kernel) (by decide +kernel)) (ea_cons (ev_arg (i := 0) hg3 rfl rfl z1) (ea_cons (ev_arg (i := 1) hg3 rfl rfl z2) (ea_cons (ev_arg (i := 2) hg3 rfl rfl z3) ea_nil))) fun H4 e4 => ?_
      exact ⟨a, L, h, _, _, _, rfl, X.mono (E3.trans e4), hw, (kk.mono (E3.trans e4)).one (move_abs h _ _ _)⟩
    | @clash s v s' v' =>
      have z1 := hpos s (by simp)
      have z2 := hpos v (by simp)
      have z3 := hpos s' (by simp)
      have z4 := hpos v' (by simp)
      refine q_skip rfl (by decide) fun H1 e1 => q_skip rfl (by decide) fun H2 e2 => q_skip rfl (by decide) fun H3 e3 => q_take rfl fun H4 e4 => ?_
      have E3 := ((e1.trans e2).trans e3).trans e4
      have hg3 := E3 _ _ hg
      refine ret_one rfl (E3 _ _ hobj) (nm (by decide +kernel) (by decide +kernel) (by decide +kernel)) (ea_cons (ev_arg (i := 0) hg3 rfl rfl z1) (ea_cons (ev_arg (i := 1) hg3 rfl rfl z2) (ea_cons (ev_arg (i := 2) hg3 rfl rfl z3) (ea_cons (ev_arg (i := 3) hg3 rfl rfl z4) ea_nil)))) fun H5 e5 => ?_
      exact ⟨a, L, h, _, _, _, _, rfl, X.mono (E3.trans e5), hw, (kk.mono (E3.trans e5)).one (clash_abs h _ _ _ _)⟩
    | @step s v w' k =>
      have z1 := hpos s (by simp)
      have z2 := hpos v (by simp)
      have z3 := hpos w' (by simp)
      have z4 := hpos k (by simp)
      refine q_skip rfl (by decide) fun H1 e1 => q_skip rfl (by decide) fun H2 e2 => q_skip rfl (by decide) fun H3 e3 => q_skip rfl (by decide) fun H4 e4 => q_take rfl fun H5 e5 => ?_
      have E3 := (((e1.trans e2).trans e3).trans e4).trans e5
      have hg3 := E3 _ _ hg
      refine ret_one rfl (E3 _ _ hobj) (nm (by decide +kernel) (by decide +kernel) (by decide +kernel)) (ea_cons (ev_arg (i := 0) hg3 rfl rfl z1) (ea_cons (ev_arg (i := 1) hg3 rfl rfl z2) (ea_cons (ev_arg (i := 2) hg3 rfl rfl z3) (ea_cons (ev_arg (i := 3) hg3 rfl rfl z4) ea_nil)))) fun H6 e6 => ?_
      exact ⟨a, L, h, _, _, _, _, rfl, X.mono (E3.trans e6), hw, (kk.mono (E3.trans e6)).one (step_abs h _ _ _ _)⟩
    | plan =>
      refine q_skip rfl (by decide) fun H1 e1 => q_skip rfl (by decide) fun H2 e2 => q_skip rfl (by decide) fun H3 e3 => q_skip rfl (by decide) fun H4 e4 => q_skip rfl (by decide) fun H5 e5 => q_take rfl fun H6 e6 => ?_
      have E3 := ((((e1.trans e2).trans e3).trans e4).trans e5).trans e6
      refine ret_tell rfl (E3 _ _ hobj) (nm (by decide +kernel) (by decide +kernel) (by decide +kernel)) ?_
      exact ⟨a, L, h, rfl, X.mono E3, hw, (kk.mono E3).tell (X.mono E3) rfl⟩
    | may =>
      refine q_skip rfl (by decide) fun H1 e1 => q_skip rfl (by decide) fun H2 e2 => q_skip rfl (by decide) fun H3 e3 => q_skip rfl (by decide) fun H4 e4 => q_skip rfl (by decide) fun H5 e5 => q_skip rfl (by decide) fun H6 e6 => q_take rfl fun H7 e7 => ?_
      have E3 := (((((e1.trans e2).trans e3).trans e4).trans e5).trans e6).trans e7
      refine ret_tell rfl (E3 _ _ hobj) (nm (by decide +kernel) (by decide +kernel) (by decide +kernel)) ?_
      exact ⟨a, L, h, rfl, X.mono E3, hw, (kk.mono E3).tell (X.mono E3) rfl⟩
    | @goal s v =>
      have z1 := hpos s (by simp)
      have z2 := hpos v (by simp)
      refine q_skip rfl (by decide) fun H1 e1 => q_skip rfl (by decide) fun H2 e2 => q_skip rfl (by decide) fun H3 e3 => q_skip rfl (by decide) fun H4 e4 => q_skip rfl (by decide) fun H5 e5 => q_skip rfl (by decide) fun H6 e6 => q_skip rfl (by decide) fun H7 e7 => q_take rfl fun H8 e8 => ?_
      have E3 := ((((((e1.trans e2).trans e3).trans e4).trans e5).trans e6).trans e7).trans e8
      have hg3 := E3 _ _ hg
      refine ret_one rfl (E3 _ _ hobj) (nm (by decide +kernel) (by decide +kernel) (by decide +kernel)) (ea_cons (ev_arg (i := 0) hg3 rfl rfl z1) (ea_cons (ev_arg (i := 1) hg3 rfl rfl z2) ea_nil)) fun H9 e9 => ?_
      exact ⟨a, L, h, _, _, rfl, X.mono (E3.trans e9), (kk.mono (E3.trans e9)).one (goal_abs h _ _)⟩
    | now =>
      refine q_skip rfl (by decide) fun H1 e1 => q_skip rfl (by decide) fun H2 e2 => q_skip rfl (by decide) fun H3 e3 => q_skip rfl (by decide) fun H4 e4 => q_skip rfl (by decide) fun H5 e5 => q_skip rfl (by decide) fun H6 e6 => q_skip rfl (by decide) fun H7 e7 => q_skip rfl (by decide) fun H8 e8 => ?_
      have E3 := ((((((e1.trans e2).trans e3).trans e4).trans e5).trans e6).trans e7).trans e8
      refine ret_tell rfl (E3 _ _ hobj) (nm (by decide +kernel) (by decide +kernel) (by decide +kernel)) ?_
      exact ⟨a, L, h, rfl, X.mono E3, hw, (kk.mono E3).tell (X.mono E3) rfl⟩
def sp_answers (K : PySem.W.Frag) : Sp := fun vs H Q _ => ∃ (a : Addr) (ns : List Int), vs = [.ref a] ∧ SqL K H a (ns.map V.int) ∧ ns.length ≤ 300 ∧ (∀ z ∈ ns, 0 ≤ z) ∧ PyRp11.answers_asked ns = true ∧ ∀ (H' : Hp) (p : Addr), H' p = some (.lst ((PyRp11.answers ns).map V.int)) → Q (.ref p) H'
/-- between two calls -/
structure Turn (A : Ad) (K : PySem.W.Frag) (H0 H : Hp) (ns : List Int) (a l : Addr) (place : Nat) : Prop where
  ex : Ex H0 H
  new : H0 l = none
  pl : place ≤ ns.length
  st : ∃ L h told cs, HouseAt A H a L h ∧ WF (absH h) ∧ (∀ b ∈ foot a L, H0 b = none) ∧ l ∉ foot a L ∧ H l = some (.lst (zvs told)) ∧ Left (ns.drop place) cs ∧ PyRp11.answers ns = told ++ tellLeft (absH h) cs
theorem Turn.mono {H0 H H' : Hp} {ns : List Int} {a l : Addr} {place : Nat} (t : Turn A K H0 H ns a l place) (e : Ex H H') : Turn A K H0 H' ns a l place := by
  obtain ⟨h1, h2, h3, L, h, told, cs, x, wf, fr, nl, hl, lf, ea⟩ := t
  exact ⟨h1.trans e, h2, h3, L, h, told, cs, x.mono e, wf, fr, nl, e _ _ hl, lf, ea⟩
theorem ok_answers (T : Tx K mg A) (hT : ∀ p n, PyRp11.shape p = some (n, 0) → KDctI K A.e_NUMBERS_BEHIND p (.int (n : Int))) (G_House_init : FnOk P w K mg base CX0 2 A.a_House_init A.d_House_init p_House_init (sp_House_init A))
    (G_answer : FnOk P w K mg base CX0 9 A.a_answer A.d_answer p_answer (sp_answer A)) : FnOk P w K mg base CX0 10 A.a_answers A.d_answers p_answers (sp_answers K) := by
  refine T.F_answers.ok sc_answers (fun vs H Q E h => ?_) (fun cdv A' outer s H vs Q E hr h => ?_)
  · obtain ⟨a, ns, rfl, _⟩ := h
    rfl
  · obtain ⟨ca, ns, rfl, hS, hlen, hpos, hask, k⟩ := h
    refine ⟨_, (pss_cons (ps_set (i := 1) sc_answers.nd rfl (Or.inl rfl) (pe_make0 T.mk_House G_House_init (hr.mono (by decide)) rfl T.g_House T.b_House_init .nil pass0))
      (pss_cons (ps_set (i := 2) sc_answers.nd rfl (Or.inl rfl) (pe_lst pa_nil))
      (pss_cons (ps_set (i := 3) sc_answers.nd rfl (Or.inl rfl) pe_int)
      (pss_cons (ps_while PassesOwn.never (pt_cmpR op_lt (pv 3) (pe_callB call_len_seq (by rfl) T.b_len PySem.boot_len (pa_cons (pv 0) pa_nil)) (nomark _)) (pss_cons (ps_set (i := 4) sc_answers.nd rfl (Or.inl rfl) (pe_ix ix_list (pv 0) (pv 3) (fun _ _ => rfl)))
      (pss_cons (ps_set (i := 5) sc_answers.nd rfl (Or.inl rfl) (pe_op op_add (pe_op op_add (pv 3) pe_int) (pe_ix ix_kdictI (pe_gref rfl T.g_NUMBERS_BEHIND) (pv 4) (fun _ _ => rfl))))
      (pss_cons (ps_set (i := 6) sc_answers.nd rfl (Or.inl rfl) (pe_call G_answer (hr.mono (by decide)) rfl T.g_answer T.F_answer.kp T.b_answer .nil pass0 (pa_cons (pv 1) (pa_cons (pv 4) (pa_cons (pe_slice sl_list (pv 0) (po_some (pe_op op_add (pv 3) pe_int)) (po_some (pv 5))) pa_nil)))))
      (pss_cons (ps_expr (pe_bm PySem.F.plainAttrs_list PySem.F.slot_list_append PySem.F.type_list_append mt_append (pv 2) (pa_cons (pe_callB call_len_seq (by rfl) T.b_len PySem.boot_len (pa_cons (pv 6) pa_nil)) pa_nil)))
      (pss_cons (ps_expr (pe_bm PySem.F.plainAttrs_list PySem.F.slot_list_extend PySem.F.type_list_extend mt_extend (pv 2) (pa_cons (pv 6) pa_nil)))
      (pss_one (ps_set (i := 3) sc_answers.nd rfl (Or.inl rfl) (pv 5)))))))))
      (pss_one (ps_ret (pv 2))))))), ?_⟩
    obtain ⟨cs0, hl0, hne, h60, ea0, hshort, h6⟩ := asked_left hask
    -- house = House()
    intro a dx na ndx nad
    refine ⟨a, dx, rfl, upd_same, fun H1 L1 N => ⟨rfl, ?_⟩⟩
    obtain ⟨off, tr, X1, sv1, f1, f2⟩ := N
    have e1 : Ex H H1 := fun b o hb => off b o (by rw [upd_ne (ne_of_none hb na), upd_ne (ne_of_none hb ndx)]; exact hb) (ne_of_none hb na)
    have back : ∀ b, (upd (upd H dx (.own a)) a (.ins A.c_House dx [])) b = none → H b = none := fun b hb => by
      cases q : H b with
      | none => rfl
      | some o =>
        rw [upd_ne (ne_of_none q na), upd_ne (ne_of_none q ndx), q] at hb
        cases hb
    have fr1 : ∀ b ∈ foot a L1, H b = none := fun b hb => by
      unfold foot at hb
      rw [sv1] at hb
      simp only [List.map_nil, List.append_nil, List.mem_cons, List.not_mem_nil, or_false] at hb
      rcases hb with rfl | rfl | rfl
      · exact na
      · exact back _ f1
      · exact back _ f2
    -- told = []; place = 0
    refine q_asgL (xs := []) (el_lst ea_nil (by decide)) fun l H2 nl e2 hl => ?_
    refine q_asg ev_c fun H3 e3 => ?_
    have T0 : Turn A K H H3 ns a l 0 := by
      refine ⟨(e1.trans e2).trans e3, fresh_back e1 nl, Nat.zero_le _, L1, Rp11.init, [], cs0, X1.mono (e2.trans e3), wf_init, fr1, fun hm => foot_some X1 l hm nl, e3 _ _ hl, by simpa using hl0, ea0⟩
    refine q_while (fun m σ' H' => ∃ (place : Nat) (v4 v5 v6 : Option V), σ' = [some (.ref ca), some (.ref a), some (.ref l), some (iv place), v4, v5, v6] ∧ m = ns.length - place ∧ Turn A K H H' ns a l place) ns.length ⟨0, none, none, none, rfl, rfl, T0⟩ ?_
    rintro m σ' H' ⟨place, v4, v5, v6, rfl, rfl, t⟩
    have hS' := ex_l t.ex hS
    refine ⟨_, et_test (ev_op (ev_var rfl) (ev_len (ev_var rfl) hS') rv_I0), fun hb H4 e4 => ?_, fun hb H4 e4 => ?_⟩
    · simp only [decide_eq_true_eq, List.length_map] at hb
      have hp : place < ns.length := by omega
      have t4 := t.mono e4
      obtain ⟨ex4, new4, pl4, L, h, told, cs, X, wf, fr, nfl, hl4, lf, ea⟩ := t4
      obtain ⟨p, r, hpr⟩ : ∃ p r, ns.drop place = p :: r := by
        cases q : ns.drop place with
        | nil => rw [List.drop_eq_nil_iff] at q; omega
        | cons p r => exact ⟨p, r, rfl⟩
      rw [hpr] at lf
      obtain ⟨n, x, cs', hsh, hn, lf', rfl, hx⟩ := left_call lf
      have hget : ns[place]? = some p := by
        have q := congrArg (fun l => l[0]?) hpr
        simpa using q
      have hr' : ns.drop (place + 1) = r := by
        have q := congrArg (fun l => l.drop 1) hpr
        simpa [Nat.add_comm] using q
      have hrl : r.length = ns.length - (place + 1) := by
        rw [← hr', List.length_drop]
      have hS4 := ex_l ex4 hS
      refine ⟨fun σ2 H2 => ∃ (place' : Nat) (v4 v5 v6 : Option V), σ2 = [some (.ref ca), some (.ref a), some (.ref l), some (iv place'), v4, v5, v6] ∧ place < place' ∧ Turn A K H H2 ns a l place', ?_, ?_⟩
      · rintro σ2 H2 ⟨place', w4, w5, w6, rfl, hlt, t'⟩
        exact ⟨ns.length - place', by omega, place', w4, w5, w6, rfl, rfl, t'⟩
      -- call = calls[place]
      refine q_asg (ev_op (ev_var rfl) (ev_var rfl) (rv_ixL (v := .int p) hS4 (atI_nat (by simp [hget])))) fun H5 e5 => ?_
      -- end = place + 1 + NUMBERS_BEHIND[call]
      have rvd : RV (rIxDI K) (.ref A.e_NUMBERS_BEHIND) (.int p) H5 (.int (n : Int)) := fun H1 _ Q q => ⟨_, p, _, rfl, rfl, hT p n hsh, q H1 (Ex.refl H1)⟩
      refine q_asg (v := iv (place + 1 + n)) (ev_is (ev_op (ev_op (ev_var rfl) ev_c rv_I0) (ev_op ev_c (ev_var rfl) rvd) rv_I0) (by show V.int _ = V.int _; congr 1)) fun H6 e6 => ?_
      have X6 := X.mono (e5.trans e6)
      have hS6 := ex_l (e5.trans e6) hS4
      -- numbers = answer(house, call, calls[place + 1:end])
      refine q_asgCall2L (ev_var rfl) (ev_var rfl) (el_sl (lo := some ((place + 1 : Nat) : Int)) (hi := some ((place + 1 + n : Nat) : Int)) (ev_var rfl) (eo_some (ev_is (ev_op (ev_var rfl) ev_c rv_I0) (by show V.int _ = V.int _; congr 1))) (eo_some (ev_var rfl)) hS6) fun g H7 ng e7 hg => ?_
      have hcut : cutV (ns.map V.int) (some ((place + 1 : Nat) : Int)) (some ((place + 1 + n : Nat) : Int)) = zvs (r.take n) := by
        rw [cut_nat (by simp only [List.length_map]; omega) (by simp only [List.length_map]; omega), ← List.map_drop, ← List.map_take, hr']
        have : place + 1 + n - (place + 1) = n := by omega
        rw [this]
        rfl
      rw [hcut] at hg
      have X7 := X6.mono e7
      refine ⟨a, g, L, h, p, r.take n, x, rfl, X7, wf, hg, fun hm => foot_some X6 g hm ng, fun z hz => hpos z ?_, hx, fun H8 L8 h8 q X8 eh8 C8 nq nqf hq => ?_⟩
      · have h1 := List.mem_of_mem_take hz
        rw [← hr'] at h1
        exact List.mem_of_mem_drop h1
      have hl7 : H7 l = some (.lst (zvs told)) := e7 _ _ (e6 _ _ (e5 _ _ hl4))
      have hl8 := C8.chg.keep l _ hl7 nfl
      have nlf8 : l ∉ foot a L8 := fun hm => by
        rcases C8.fresh l hm with q | q
        · exact nfl q
        · rw [hl7] at q
          cases q
      have fr8 : ∀ b ∈ foot a L8, H b = none := fun b hb => by
        rcases C8.fresh b hb with q | q
        · exact fr b q
        · exact fresh_back (((ex4.trans e5).trans e6).trans e7) q
      have ex8 : Ex H H8 := fun b o hb => C8.chg.keep b o ((((ex4.trans e5).trans e6).trans e7) b o hb) fun hm => by
        rw [fr b hm] at hb
        cases hb
      have wf8 : WF (absH h8) := by
        rw [eh8]
        exact wf_step wf x
      have etell := tellLeft_call (h := absH h) (cs := cs') hx
      have hout : (Rp11Neutral.out (Rp11.step (absH h) x).2).length + 1 + told.length ≤ 10000000 := by
        have q := hshort
        rw [ea, etell] at q
        simp only [List.length_append, tell1, List.length_cons, List.length_map] at q
        simp only [Rp11Neutral.out, List.length_cons, List.length_map]
        omega
      -- told.append(len(numbers))
      refine q_appS (v := .int ((zvs (Rp11Neutral.out (Rp11.step (absH h) x).2)).length : Int)) hl8 (ev_var rfl) (ev_len (ev_var rfl) (sq_of hq)) (by simp only [zvs, List.length_map]; show _ < 16777216; omega) fun H9 e9 => ?_
      have hql : q ≠ l := Ne.symm (ne_of_none hl7 nq)
      -- told.extend(numbers)
      refine q_ext (zs := zvs (Rp11Neutral.out (Rp11.step (absH h) x).2)) (upd_same) (by rw [upd_ne hql]; exact e9 _ _ hq) (ev_var rfl) (ev_var rfl) (by simp only [zvs, List.length_append, List.length_map, List.length_singleton]; show _ ≤ 16777216; omega) fun H10 e10 => ?_
      -- place = end
      refine s_asg (ev_var rfl) fun H11 e11 => ?_
      have off9 : Off l H8 (upd H9 l (.lst (zvs told ++ [.int ((zvs (Rp11Neutral.out (Rp11.step (absH h) x).2)).length : Int)]))) := Off.upd e9
      have off10 := off9.trans (Off.upd (o := .lst (zvs told ++ [.int ((zvs (Rp11Neutral.out (Rp11.step (absH h) x).2)).length : Int)] ++ zvs (Rp11Neutral.out (Rp11.step (absH h) x).2))) e10)
      have off11 : Off l H8 H11 := off10.trans (Off.of_ex e11)
      have ntup : ∀ {ys : List V} xs, HO.lst ys ≠ HO.tup xs := fun xs q => by cases q
      have fm : ∀ b, b ∈ foot a L8 → b ≠ l := fun b hb e => nlf8 (e ▸ hb)
      have X11 : HouseAt A H11 a L8 h8 := by
        obtain ⟨d, hobj⟩ := X8.obj
        refine ⟨⟨d, off11 _ _ hobj (fm _ (by unfold foot; simp))⟩, off11 _ _ X8.ls (fm _ (by unfold foot; simp)), svs_off off11 hl8 ntup X8.sv (fun p hp => fm _ ?_) (fun p hp => fm _ ?_), X8.lc.off off11 hl8 ntup (fm _ (by unfold foot; simp)), X8.ct.off off11 hl8 ntup, X8.nd, X8.nds⟩
        · unfold foot
          simp only [List.mem_cons, List.mem_append]
          exact .inr (.inr (.inr (.inl (List.mem_map.2 ⟨p, hp, rfl⟩))))
        · unfold foot
          simp only [List.mem_cons, List.mem_append]
          exact .inr (.inr (.inr (.inr (List.mem_map.2 ⟨p, hp, rfl⟩))))
      refine ⟨place + 1 + n, _, _, _, rfl, by omega, fun b o hb => off11 b o (ex8 b o hb) (ne_of_none hb new4), new4, by omega, L8, h8, told ++ (((Rp11Neutral.out (Rp11.step (absH h) x).2).length : Int) :: Rp11Neutral.out (Rp11.step (absH h) x).2), cs', X11, wf8, fr8, nlf8, ?_, ?_, ?_⟩
      · refine e11 _ _ ?_
        rw [upd_same]
        simp [zvs]
      · have : ns.drop (place + 1 + n) = r.drop n := by
          rw [← hr', List.drop_drop]
        rw [this]
        exact lf'
      · rw [ea, etell, eh8]
        simp [tell1, Rp11Neutral.out]
    · simp only [decide_eq_false_iff_not, List.length_map] at hb
      have hp : place = ns.length := by have := t.pl; omega
      have t4 := t.mono e4
      obtain ⟨ex4, new4, pl4, L, h, told, cs, X, wf, fr, nfl, hl4, lf, ea⟩ := t4
      rw [hp, List.drop_length] at lf
      have := left_nil lf
      subst this
      rw [tellLeft_nil, List.append_nil] at ea
      refine s_ret (ev_var rfl) fun H5 e5 => ?_
      refine k H5 l ?_
      rw [ea]
      exact e5 _ _ hl4
end
end Up

namespace Up
open PySem PySem.Spec PyProof.Rows L2
open PySem.W (Codec)
theorem tx_mk {K : PySem.W.Frag} {h : Heap} {mg : Str → Option Value} (X : K.In h) (G : h.Ns mainGlobals mg)
    {c_Step c_Service c_House f_Step_init f_all_of_version f_wanted_counts f_is_there f_counts_behind f_can_be_done f_has_clash_between f_may_be_done f_steps_from f_counts_before f_fewest_steps f_first_step_nearer f_planned_steps f_Service_init f_House_begin f_House_init f_are_in_range f_House_add_service f_House_has_version f_House_add_move f_House_has_clash f_House_add_clash f_House_take_step f_step_numbers f_House_tell_plan f_House_tell_may f_House_set_goal f_House_tell_now f_answer f_answers : Addr}
    {od_Step_init an_Step_init : Option Addr} {sl_Step_init : Array (Option Value)} {oc_Step_init kV_Step_init dc_Step_init pm_Step_init cd_Step_init ct_Step_init : Value}
    {od_all_of_version an_all_of_version : Option Addr} {sl_all_of_version : Array (Option Value)} {oc_all_of_version kV_all_of_version dc_all_of_version pm_all_of_version cd_all_of_version ct_all_of_version : Value}
    {od_wanted_counts an_wanted_counts : Option Addr} {sl_wanted_counts : Array (Option Value)} {oc_wanted_counts kV_wanted_counts dc_wanted_counts pm_wanted_counts cd_wanted_counts ct_wanted_counts : Value}
    {od_is_there an_is_there : Option Addr} {sl_is_there : Array (Option Value)} {oc_is_there kV_is_there dc_is_there pm_is_there cd_is_there ct_is_there : Value}
    {od_counts_behind an_counts_behind : Option Addr} {sl_counts_behind : Array (Option Value)} {oc_counts_behind kV_counts_behind dc_counts_behind pm_counts_behind cd_counts_behind ct_counts_behind : Value}
    {od_can_be_done an_can_be_done : Option Addr} {sl_can_be_done : Array (Option Value)} {oc_can_be_done kV_can_be_done dc_can_be_done pm_can_be_done cd_can_be_done ct_can_be_done : Value}
    {od_has_clash_between an_has_clash_between : Option Addr} {sl_has_clash_between : Array (Option Value)} {oc_has_clash_between kV_has_clash_between dc_has_clash_between pm_has_clash_between cd_has_clash_between ct_has_clash_between : Value}
    {od_may_be_done an_may_be_done : Option Addr} {sl_may_be_done : Array (Option Value)} {oc_may_be_done kV_may_be_done dc_may_be_done pm_may_be_done cd_may_be_done ct_may_be_done : Value}
    {od_steps_from an_steps_from : Option Addr} {sl_steps_from : Array (Option Value)} {oc_steps_from kV_steps_from dc_steps_from pm_steps_from cd_steps_from ct_steps_from : Value}
    {od_counts_before an_counts_before : Option Addr} {sl_counts_before : Array (Option Value)} {oc_counts_before kV_counts_before dc_counts_before pm_counts_before cd_counts_before ct_counts_before : Value}
    {od_fewest_steps an_fewest_steps : Option Addr} {sl_fewest_steps : Array (Option Value)} {oc_fewest_steps kV_fewest_steps dc_fewest_steps pm_fewest_steps cd_fewest_steps ct_fewest_steps : Value}
    {od_first_step_nearer an_first_step_nearer : Option Addr} {sl_first_step_nearer : Array (Option Value)} {oc_first_step_nearer kV_first_step_nearer dc_first_step_nearer pm_first_step_nearer cd_first_step_nearer ct_first_step_nearer : Value}
    {od_planned_steps an_planned_steps : Option Addr} {sl_planned_steps : Array (Option Value)} {oc_planned_steps kV_planned_steps dc_planned_steps pm_planned_steps cd_planned_steps ct_planned_steps : Value}
    {od_Service_init an_Service_init : Option Addr} {sl_Service_init : Array (Option Value)} {oc_Service_init kV_Service_init dc_Service_init pm_Service_init cd_Service_init ct_Service_init : Value}
    {od_House_begin an_House_begin : Option Addr} {sl_House_begin : Array (Option Value)} {oc_House_begin kV_House_begin dc_House_begin pm_House_begin cd_House_begin ct_House_begin : Value}
    {od_House_init an_House_init : Option Addr} {sl_House_init : Array (Option Value)} {oc_House_init kV_House_init dc_House_init pm_House_init cd_House_init ct_House_init : Value}
    {od_are_in_range an_are_in_range : Option Addr} {sl_are_in_range : Array (Option Value)} {oc_are_in_range kV_are_in_range dc_are_in_range pm_are_in_range cd_are_in_range ct_are_in_range : Value}
    {od_House_add_service an_House_add_service : Option Addr} {sl_House_add_service : Array (Option Value)} {oc_House_add_service kV_House_add_service dc_House_add_service pm_House_add_service cd_House_add_service ct_House_add_service : Value}
    {od_House_has_version an_House_has_version : Option Addr} {sl_House_has_version : Array (Option Value)} {oc_House_has_version kV_House_has_version dc_House_has_version pm_House_has_version cd_House_has_version ct_House_has_version : Value}
    {od_House_add_move an_House_add_move : Option Addr} {sl_House_add_move : Array (Option Value)} {oc_House_add_move kV_House_add_move dc_House_add_move pm_House_add_move cd_House_add_move ct_House_add_move : Value}
    {od_House_has_clash an_House_has_clash : Option Addr} {sl_House_has_clash : Array (Option Value)} {oc_House_has_clash kV_House_has_clash dc_House_has_clash pm_House_has_clash cd_House_has_clash ct_House_has_clash : Value}
    {od_House_add_clash an_House_add_clash : Option Addr} {sl_House_add_clash : Array (Option Value)} {oc_House_add_clash kV_House_add_clash dc_House_add_clash pm_House_add_clash cd_House_add_clash ct_House_add_clash : Value}
    {od_House_take_step an_House_take_step : Option Addr} {sl_House_take_step : Array (Option Value)} {oc_House_take_step kV_House_take_step dc_House_take_step pm_House_take_step cd_House_take_step ct_House_take_step : Value}
    {od_step_numbers an_step_numbers : Option Addr} {sl_step_numbers : Array (Option Value)} {oc_step_numbers kV_step_numbers dc_step_numbers pm_step_numbers cd_step_numbers ct_step_numbers : Value}
    {od_House_tell_plan an_House_tell_plan : Option Addr} {sl_House_tell_plan : Array (Option Value)} {oc_House_tell_plan kV_House_tell_plan dc_House_tell_plan pm_House_tell_plan cd_House_tell_plan ct_House_tell_plan : Value}
    {od_House_tell_may an_House_tell_may : Option Addr} {sl_House_tell_may : Array (Option Value)} {oc_House_tell_may kV_House_tell_may dc_House_tell_may pm_House_tell_may cd_House_tell_may ct_House_tell_may : Value}
    {od_House_set_goal an_House_set_goal : Option Addr} {sl_House_set_goal : Array (Option Value)} {oc_House_set_goal kV_House_set_goal dc_House_set_goal pm_House_set_goal cd_House_set_goal ct_House_set_goal : Value}
    {od_House_tell_now an_House_tell_now : Option Addr} {sl_House_tell_now : Array (Option Value)} {oc_House_tell_now kV_House_tell_now dc_House_tell_now pm_House_tell_now cd_House_tell_now ct_House_tell_now : Value}
    {od_answer an_answer : Option Addr} {sl_answer : Array (Option Value)} {oc_answer kV_answer dc_answer pm_answer cd_answer ct_answer : Value}
    {od_answers an_answers : Option Addr} {sl_answers : Array (Option Value)} {oc_answers kV_answers dc_answers pm_answers cd_answers ct_answers : Value}
    {t_BEGINS : Tok}
    {t_BOTH_THERE : Tok}
    {t_CANNOT_BE_DONE : Tok}
    {t_CLASH : Tok}
    {t_DONE : Tok}
    {t_FULL : Tok}
    {t_GOAL : Tok}
    {t_MAY : Tok}
    {t_MAY_NOT_BE_DONE : Tok}
    {t_MOST_CLASHES : Tok}
    {t_MOST_COPIES : Tok}
    {t_MOST_SERVICES : Tok}
    {t_MOST_VERSIONS : Tok}
    {t_MOVE : Tok}
    {t_NOT_NEW : Tok}
    {t_NO_SUCH : Tok}
    {t_NO_WAY : Tok}
    {t_NO_WAY_ON : Tok}
    {e_NUMBERS_BEHIND : Addr} {n_NUMBERS_BEHIND : Nat} {t0_NUMBERS_BEHIND u0_NUMBERS_BEHIND t1_NUMBERS_BEHIND u1_NUMBERS_BEHIND t2_NUMBERS_BEHIND u2_NUMBERS_BEHIND t3_NUMBERS_BEHIND u3_NUMBERS_BEHIND t4_NUMBERS_BEHIND u4_NUMBERS_BEHIND t5_NUMBERS_BEHIND u5_NUMBERS_BEHIND t6_NUMBERS_BEHIND u6_NUMBERS_BEHIND t7_NUMBERS_BEHIND u7_NUMBERS_BEHIND t8_NUMBERS_BEHIND u8_NUMBERS_BEHIND : Tok}
    {t_OUT_OF_RANGE : Tok}
    {t_PLAN : Tok}
    {t_SERVICE : Tok}
    {t_STEP : Tok}
    (aC_Step : PySem.W.nsIn K mainGlobals "Step" = some (some (.ref c_Step)))
    (pg_Step : PySem.W.plainGet K c_Step Str.empty = true)
    (hd_Step : PySem.W.hasDictIn K c_Step = true)
    (po_Step : PySem.W.plainOver K c_Step = true)
    (sa_Step : PySem.W.findIn K (.ref c_Step) "__setattr__" = some (some (.builtin "object.__setattr__")))
    (mk_Step : PySem.W.makesIn K c_Step = true)
    (kc_Step : PySem.W.keepIn K (.ref c_Step) = true)
    (n_Step_service : PySem.W.findIn K (.ref c_Step) "service" = some none)
    (n_Step_old : PySem.W.findIn K (.ref c_Step) "old" = some none)
    (n_Step_new : PySem.W.findIn K (.ref c_Step) "new" = some none)
    (n_Step_copies : PySem.W.findIn K (.ref c_Step) "copies" = some none)
    (aC_Service : PySem.W.nsIn K mainGlobals "Service" = some (some (.ref c_Service)))
    (pg_Service : PySem.W.plainGet K c_Service Str.empty = true)
    (hd_Service : PySem.W.hasDictIn K c_Service = true)
    (po_Service : PySem.W.plainOver K c_Service = true)
    (sa_Service : PySem.W.findIn K (.ref c_Service) "__setattr__" = some (some (.builtin "object.__setattr__")))
    (mk_Service : PySem.W.makesIn K c_Service = true)
    (kc_Service : PySem.W.keepIn K (.ref c_Service) = true)
    (n_Service_copies : PySem.W.findIn K (.ref c_Service) "copies" = some none)
    (n_Service_up : PySem.W.findIn K (.ref c_Service) "up" = some none)
    (n_Service_versions : PySem.W.findIn K (.ref c_Service) "versions" = some none)
    (n_Service_wanted : PySem.W.findIn K (.ref c_Service) "wanted" = some none)
    (n_Service_moves : PySem.W.findIn K (.ref c_Service) "moves" = some none)
    (aC_House : PySem.W.nsIn K mainGlobals "House" = some (some (.ref c_House)))
    (pg_House : PySem.W.plainGet K c_House Str.empty = true)
    (hd_House : PySem.W.hasDictIn K c_House = true)
    (po_House : PySem.W.plainOver K c_House = true)
    (sa_House : PySem.W.findIn K (.ref c_House) "__setattr__" = some (some (.builtin "object.__setattr__")))
    (mk_House : PySem.W.makesIn K c_House = true)
    (kc_House : PySem.W.keepIn K (.ref c_House) = true)
    (n_House_services : PySem.W.findIn K (.ref c_House) "services" = some none)
    (n_House_clashes : PySem.W.findIn K (.ref c_House) "clashes" = some none)
    (n_House_counts : PySem.W.findIn K (.ref c_House) "counts" = some none)
    (a_Step_init : PySem.W.findIn K (.ref c_Step) "__init__" = some (some (.ref f_Step_init)))
    (i_Step_init : PySem.W.isFn K (.ref f_Step_init) = true)
    (l_Step_init : K.lookup f_Step_init = some ⟨oc_Step_init, od_Step_init, .func (PySem.W.fnOf "__init__" "Step.__init__" (defArgs s_Step_init) (defBody s_Step_init) (defScope s_Step_init) .none kV_Step_init dc_Step_init pm_Step_init an_Step_init cd_Step_init ct_Step_init), sl_Step_init⟩)
    (c_Step_init : PySem.W.codeIn K cd_Step_init "Step.__init__" = true)
    (k_Step_init : PySem.W.keepIn K (.ref f_Step_init) = true)
    (a_all_of_version : PySem.W.nsIn K mainGlobals "all_of_version" = some (some (.ref f_all_of_version)))
    (l_all_of_version : K.lookup f_all_of_version = some ⟨oc_all_of_version, od_all_of_version, .func (PySem.W.fnOf "all_of_version" "all_of_version" (defArgs s_all_of_version) (defBody s_all_of_version) (defScope s_all_of_version) .none kV_all_of_version dc_all_of_version pm_all_of_version an_all_of_version cd_all_of_version ct_all_of_version), sl_all_of_version⟩)
    (c_all_of_version : PySem.W.codeIn K cd_all_of_version "all_of_version" = true)
    (k_all_of_version : PySem.W.keepIn K (.ref f_all_of_version) = true)
    (a_wanted_counts : PySem.W.nsIn K mainGlobals "wanted_counts" = some (some (.ref f_wanted_counts)))
    (l_wanted_counts : K.lookup f_wanted_counts = some ⟨oc_wanted_counts, od_wanted_counts, .func (PySem.W.fnOf "wanted_counts" "wanted_counts" (defArgs s_wanted_counts) (defBody s_wanted_counts) (defScope s_wanted_counts) .none kV_wanted_counts dc_wanted_counts pm_wanted_counts an_wanted_counts cd_wanted_counts ct_wanted_counts), sl_wanted_counts⟩)
    (c_wanted_counts : PySem.W.codeIn K cd_wanted_counts "wanted_counts" = true)
    (k_wanted_counts : PySem.W.keepIn K (.ref f_wanted_counts) = true)
    (a_is_there : PySem.W.nsIn K mainGlobals "is_there" = some (some (.ref f_is_there)))
    (l_is_there : K.lookup f_is_there = some ⟨oc_is_there, od_is_there, .func (PySem.W.fnOf "is_there" "is_there" (defArgs s_is_there) (defBody s_is_there) (defScope s_is_there) .none kV_is_there dc_is_there pm_is_there an_is_there cd_is_there ct_is_there), sl_is_there⟩)
    (c_is_there : PySem.W.codeIn K cd_is_there "is_there" = true)
    (k_is_there : PySem.W.keepIn K (.ref f_is_there) = true)
    (a_counts_behind : PySem.W.nsIn K mainGlobals "counts_behind" = some (some (.ref f_counts_behind)))
    (l_counts_behind : K.lookup f_counts_behind = some ⟨oc_counts_behind, od_counts_behind, .func (PySem.W.fnOf "counts_behind" "counts_behind" (defArgs s_counts_behind) (defBody s_counts_behind) (defScope s_counts_behind) .none kV_counts_behind dc_counts_behind pm_counts_behind an_counts_behind cd_counts_behind ct_counts_behind), sl_counts_behind⟩)
    (c_counts_behind : PySem.W.codeIn K cd_counts_behind "counts_behind" = true)
    (k_counts_behind : PySem.W.keepIn K (.ref f_counts_behind) = true)
    (a_can_be_done : PySem.W.nsIn K mainGlobals "can_be_done" = some (some (.ref f_can_be_done)))
    (l_can_be_done : K.lookup f_can_be_done = some ⟨oc_can_be_done, od_can_be_done, .func (PySem.W.fnOf "can_be_done" "can_be_done" (defArgs s_can_be_done) (defBody s_can_be_done) (defScope s_can_be_done) .none kV_can_be_done dc_can_be_done pm_can_be_done an_can_be_done cd_can_be_done ct_can_be_done), sl_can_be_done⟩)
    (c_can_be_done : PySem.W.codeIn K cd_can_be_done "can_be_done" = true)
    (k_can_be_done : PySem.W.keepIn K (.ref f_can_be_done) = true)
    (a_has_clash_between : PySem.W.nsIn K mainGlobals "has_clash_between" = some (some (.ref f_has_clash_between)))
    (l_has_clash_between : K.lookup f_has_clash_between = some ⟨oc_has_clash_between, od_has_clash_between, .func (PySem.W.fnOf "has_clash_between" "has_clash_between" (defArgs s_has_clash_between) (defBody s_has_clash_between) (defScope s_has_clash_between) .none kV_has_clash_between dc_has_clash_between pm_has_clash_between an_has_clash_between cd_has_clash_between ct_has_clash_between), sl_has_clash_between⟩)
    (c_has_clash_between : PySem.W.codeIn K cd_has_clash_between "has_clash_between" = true)
    (k_has_clash_between : PySem.W.keepIn K (.ref f_has_clash_between) = true)
    (a_may_be_done : PySem.W.nsIn K mainGlobals "may_be_done" = some (some (.ref f_may_be_done)))
    (l_may_be_done : K.lookup f_may_be_done = some ⟨oc_may_be_done, od_may_be_done, .func (PySem.W.fnOf "may_be_done" "may_be_done" (defArgs s_may_be_done) (defBody s_may_be_done) (defScope s_may_be_done) .none kV_may_be_done dc_may_be_done pm_may_be_done an_may_be_done cd_may_be_done ct_may_be_done), sl_may_be_done⟩)
    (c_may_be_done : PySem.W.codeIn K cd_may_be_done "may_be_done" = true)
    (k_may_be_done : PySem.W.keepIn K (.ref f_may_be_done) = true)
    (a_steps_from : PySem.W.nsIn K mainGlobals "steps_from" = some (some (.ref f_steps_from)))
    (l_steps_from : K.lookup f_steps_from = some ⟨oc_steps_from, od_steps_from, .func (PySem.W.fnOf "steps_from" "steps_from" (defArgs s_steps_from) (defBody s_steps_from) (defScope s_steps_from) .none kV_steps_from dc_steps_from pm_steps_from an_steps_from cd_steps_from ct_steps_from), sl_steps_from⟩)
    (c_steps_from : PySem.W.codeIn K cd_steps_from "steps_from" = true)
    (k_steps_from : PySem.W.keepIn K (.ref f_steps_from) = true)
    (a_counts_before : PySem.W.nsIn K mainGlobals "counts_before" = some (some (.ref f_counts_before)))
    (l_counts_before : K.lookup f_counts_before = some ⟨oc_counts_before, od_counts_before, .func (PySem.W.fnOf "counts_before" "counts_before" (defArgs s_counts_before) (defBody s_counts_before) (defScope s_counts_before) .none kV_counts_before dc_counts_before pm_counts_before an_counts_before cd_counts_before ct_counts_before), sl_counts_before⟩)
    (c_counts_before : PySem.W.codeIn K cd_counts_before "counts_before" = true)
    (k_counts_before : PySem.W.keepIn K (.ref f_counts_before) = true)
    (a_fewest_steps : PySem.W.nsIn K mainGlobals "fewest_steps" = some (some (.ref f_fewest_steps)))
    (l_fewest_steps : K.lookup f_fewest_steps = some ⟨oc_fewest_steps, od_fewest_steps, .func (PySem.W.fnOf "fewest_steps" "fewest_steps" (defArgs s_fewest_steps) (defBody s_fewest_steps) (defScope s_fewest_steps) .none kV_fewest_steps dc_fewest_steps pm_fewest_steps an_fewest_steps cd_fewest_steps ct_fewest_steps), sl_fewest_steps⟩)
    (c_fewest_steps : PySem.W.codeIn K cd_fewest_steps "fewest_steps" = true)
    (k_fewest_steps : PySem.W.keepIn K (.ref f_fewest_steps) = true)
    (a_first_step_nearer : PySem.W.nsIn K mainGlobals "first_step_nearer" = some (some (.ref f_first_step_nearer)))
    (l_first_step_nearer : K.lookup f_first_step_nearer = some ⟨oc_first_step_nearer, od_first_step_nearer, .func (PySem.W.fnOf "first_step_nearer" "first_step_nearer" (defArgs s_first_step_nearer) (defBody s_first_step_nearer) (defScope s_first_step_nearer) .none kV_first_step_nearer dc_first_step_nearer pm_first_step_nearer an_first_step_nearer cd_first_step_nearer ct_first_step_nearer), sl_first_step_nearer⟩)
    (c_first_step_nearer : PySem.W.codeIn K cd_first_step_nearer "first_step_nearer" = true)
    (k_first_step_nearer : PySem.W.keepIn K (.ref f_first_step_nearer) = true)
    (a_planned_steps : PySem.W.nsIn K mainGlobals "planned_steps" = some (some (.ref f_planned_steps)))
    (l_planned_steps : K.lookup f_planned_steps = some ⟨oc_planned_steps, od_planned_steps, .func (PySem.W.fnOf "planned_steps" "planned_steps" (defArgs s_planned_steps) (defBody s_planned_steps) (defScope s_planned_steps) .none kV_planned_steps dc_planned_steps pm_planned_steps an_planned_steps cd_planned_steps ct_planned_steps), sl_planned_steps⟩)
    (c_planned_steps : PySem.W.codeIn K cd_planned_steps "planned_steps" = true)
    (k_planned_steps : PySem.W.keepIn K (.ref f_planned_steps) = true)
    (a_Service_init : PySem.W.findIn K (.ref c_Service) "__init__" = some (some (.ref f_Service_init)))
    (i_Service_init : PySem.W.isFn K (.ref f_Service_init) = true)
    (l_Service_init : K.lookup f_Service_init = some ⟨oc_Service_init, od_Service_init, .func (PySem.W.fnOf "__init__" "Service.__init__" (defArgs s_Service_init) (defBody s_Service_init) (defScope s_Service_init) .none kV_Service_init dc_Service_init pm_Service_init an_Service_init cd_Service_init ct_Service_init), sl_Service_init⟩)
    (c_Service_init : PySem.W.codeIn K cd_Service_init "Service.__init__" = true)
    (k_Service_init : PySem.W.keepIn K (.ref f_Service_init) = true)
    (a_House_begin : PySem.W.findIn K (.ref c_House) "begin" = some (some (.ref f_House_begin)))
    (i_House_begin : PySem.W.isFn K (.ref f_House_begin) = true)
    (l_House_begin : K.lookup f_House_begin = some ⟨oc_House_begin, od_House_begin, .func (PySem.W.fnOf "begin" "House.begin" (defArgs s_House_begin) (defBody s_House_begin) (defScope s_House_begin) .none kV_House_begin dc_House_begin pm_House_begin an_House_begin cd_House_begin ct_House_begin), sl_House_begin⟩)
    (c_House_begin : PySem.W.codeIn K cd_House_begin "House.begin" = true)
    (k_House_begin : PySem.W.keepIn K (.ref f_House_begin) = true)
    (a_House_init : PySem.W.findIn K (.ref c_House) "__init__" = some (some (.ref f_House_init)))
    (i_House_init : PySem.W.isFn K (.ref f_House_init) = true)
    (l_House_init : K.lookup f_House_init = some ⟨oc_House_init, od_House_init, .func (PySem.W.fnOf "__init__" "House.__init__" (defArgs s_House_init) (defBody s_House_init) (defScope s_House_init) .none kV_House_init dc_House_init pm_House_init an_House_init cd_House_init ct_House_init), sl_House_init⟩)
    (c_House_init : PySem.W.codeIn K cd_House_init "House.__init__" = true)
    (k_House_init : PySem.W.keepIn K (.ref f_House_init) = true)
    (a_are_in_range : PySem.W.nsIn K mainGlobals "are_in_range" = some (some (.ref f_are_in_range)))
    (l_are_in_range : K.lookup f_are_in_range = some ⟨oc_are_in_range, od_are_in_range, .func (PySem.W.fnOf "are_in_range" "are_in_range" (defArgs s_are_in_range) (defBody s_are_in_range) (defScope s_are_in_range) .none kV_are_in_range dc_are_in_range pm_are_in_range an_are_in_range cd_are_in_range ct_are_in_range), sl_are_in_range⟩)
    (c_are_in_range : PySem.W.codeIn K cd_are_in_range "are_in_range" = true)
    (k_are_in_range : PySem.W.keepIn K (.ref f_are_in_range) = true)
    (a_House_add_service : PySem.W.findIn K (.ref c_House) "add_service" = some (some (.ref f_House_add_service)))
    (i_House_add_service : PySem.W.isFn K (.ref f_House_add_service) = true)
    (l_House_add_service : K.lookup f_House_add_service = some ⟨oc_House_add_service, od_House_add_service, .func (PySem.W.fnOf "add_service" "House.add_service" (defArgs s_House_add_service) (defBody s_House_add_service) (defScope s_House_add_service) .none kV_House_add_service dc_House_add_service pm_House_add_service an_House_add_service cd_House_add_service ct_House_add_service), sl_House_add_service⟩)
    (c_House_add_service : PySem.W.codeIn K cd_House_add_service "House.add_service" = true)
    (k_House_add_service : PySem.W.keepIn K (.ref f_House_add_service) = true)
    (a_House_has_version : PySem.W.findIn K (.ref c_House) "has_version" = some (some (.ref f_House_has_version)))
    (i_House_has_version : PySem.W.isFn K (.ref f_House_has_version) = true)
    (l_House_has_version : K.lookup f_House_has_version = some ⟨oc_House_has_version, od_House_has_version, .func (PySem.W.fnOf "has_version" "House.has_version" (defArgs s_House_has_version) (defBody s_House_has_version) (defScope s_House_has_version) .none kV_House_has_version dc_House_has_version pm_House_has_version an_House_has_version cd_House_has_version ct_House_has_version), sl_House_has_version⟩)
    (c_House_has_version : PySem.W.codeIn K cd_House_has_version "House.has_version" = true)
    (k_House_has_version : PySem.W.keepIn K (.ref f_House_has_version) = true)
    (a_House_add_move : PySem.W.findIn K (.ref c_House) "add_move" = some (some (.ref f_House_add_move)))
    (i_House_add_move : PySem.W.isFn K (.ref f_House_add_move) = true)
    (l_House_add_move : K.lookup f_House_add_move = some ⟨oc_House_add_move, od_House_add_move, .func (PySem.W.fnOf "add_move" "House.add_move" (defArgs s_House_add_move) (defBody s_House_add_move) (defScope s_House_add_move) .none kV_House_add_move dc_House_add_move pm_House_add_move an_House_add_move cd_House_add_move ct_House_add_move), sl_House_add_move⟩)
    (c_House_add_move : PySem.W.codeIn K cd_House_add_move "House.add_move" = true)
    (k_House_add_move : PySem.W.keepIn K (.ref f_House_add_move) = true)
    (a_House_has_clash : PySem.W.findIn K (.ref c_House) "has_clash" = some (some (.ref f_House_has_clash)))
    (i_House_has_clash : PySem.W.isFn K (.ref f_House_has_clash) = true)
    (l_House_has_clash : K.lookup f_House_has_clash = some ⟨oc_House_has_clash, od_House_has_clash, .func (PySem.W.fnOf "has_clash" "House.has_clash" (defArgs s_House_has_clash) (defBody s_House_has_clash) (defScope s_House_has_clash) .none kV_House_has_clash dc_House_has_clash pm_House_has_clash an_House_has_clash cd_House_has_clash ct_House_has_clash), sl_House_has_clash⟩)
    (c_House_has_clash : PySem.W.codeIn K cd_House_has_clash "House.has_clash" = true)
    (k_House_has_clash : PySem.W.keepIn K (.ref f_House_has_clash) = true)
    (a_House_add_clash : PySem.W.findIn K (.ref c_House) "add_clash" = some (some (.ref f_House_add_clash)))
    (i_House_add_clash : PySem.W.isFn K (.ref f_House_add_clash) = true)
    (l_House_add_clash : K.lookup f_House_add_clash = some ⟨oc_House_add_clash, od_House_add_clash, .func (PySem.W.fnOf "add_clash" "House.add_clash" (defArgs s_House_add_clash) (defBody s_House_add_clash) (defScope s_House_add_clash) .none kV_House_add_clash dc_House_add_clash pm_House_add_clash an_House_add_clash cd_House_add_clash ct_House_add_clash), sl_House_add_clash⟩)
    (c_House_add_clash : PySem.W.codeIn K cd_House_add_clash "House.add_clash" = true)
    (k_House_add_clash : PySem.W.keepIn K (.ref f_House_add_clash) = true)
    (a_House_take_step : PySem.W.findIn K (.ref c_House) "take_step" = some (some (.ref f_House_take_step)))
    (i_House_take_step : PySem.W.isFn K (.ref f_House_take_step) = true)
    (l_House_take_step : K.lookup f_House_take_step = some ⟨oc_House_take_step, od_House_take_step, .func (PySem.W.fnOf "take_step" "House.take_step" (defArgs s_House_take_step) (defBody s_House_take_step) (defScope s_House_take_step) .none kV_House_take_step dc_House_take_step pm_House_take_step an_House_take_step cd_House_take_step ct_House_take_step), sl_House_take_step⟩)
    (c_House_take_step : PySem.W.codeIn K cd_House_take_step "House.take_step" = true)
    (k_House_take_step : PySem.W.keepIn K (.ref f_House_take_step) = true)
    (a_step_numbers : PySem.W.nsIn K mainGlobals "step_numbers" = some (some (.ref f_step_numbers)))
    (l_step_numbers : K.lookup f_step_numbers = some ⟨oc_step_numbers, od_step_numbers, .func (PySem.W.fnOf "step_numbers" "step_numbers" (defArgs s_step_numbers) (defBody s_step_numbers) (defScope s_step_numbers) .none kV_step_numbers dc_step_numbers pm_step_numbers an_step_numbers cd_step_numbers ct_step_numbers), sl_step_numbers⟩)
    (c_step_numbers : PySem.W.codeIn K cd_step_numbers "step_numbers" = true)
    (k_step_numbers : PySem.W.keepIn K (.ref f_step_numbers) = true)
    (a_House_tell_plan : PySem.W.findIn K (.ref c_House) "tell_plan" = some (some (.ref f_House_tell_plan)))
    (i_House_tell_plan : PySem.W.isFn K (.ref f_House_tell_plan) = true)
    (l_House_tell_plan : K.lookup f_House_tell_plan = some ⟨oc_House_tell_plan, od_House_tell_plan, .func (PySem.W.fnOf "tell_plan" "House.tell_plan" (defArgs s_House_tell_plan) (defBody s_House_tell_plan) (defScope s_House_tell_plan) .none kV_House_tell_plan dc_House_tell_plan pm_House_tell_plan an_House_tell_plan cd_House_tell_plan ct_House_tell_plan), sl_House_tell_plan⟩)
    (c_House_tell_plan : PySem.W.codeIn K cd_House_tell_plan "House.tell_plan" = true)
    (k_House_tell_plan : PySem.W.keepIn K (.ref f_House_tell_plan) = true)
    (a_House_tell_may : PySem.W.findIn K (.ref c_House) "tell_may" = some (some (.ref f_House_tell_may)))
    (i_House_tell_may : PySem.W.isFn K (.ref f_House_tell_may) = true)
    (l_House_tell_may : K.lookup f_House_tell_may = some ⟨oc_House_tell_may, od_House_tell_may, .func (PySem.W.fnOf "tell_may" "House.tell_may" (defArgs s_House_tell_may) (defBody s_House_tell_may) (defScope s_House_tell_may) .none kV_House_tell_may dc_House_tell_may pm_House_tell_may an_House_tell_may cd_House_tell_may ct_House_tell_may), sl_House_tell_may⟩)
    (c_House_tell_may : PySem.W.codeIn K cd_House_tell_may "House.tell_may" = true)
    (k_House_tell_may : PySem.W.keepIn K (.ref f_House_tell_may) = true)
    (a_House_set_goal : PySem.W.findIn K (.ref c_House) "set_goal" = some (some (.ref f_House_set_goal)))
    (i_House_set_goal : PySem.W.isFn K (.ref f_House_set_goal) = true)
    (l_House_set_goal : K.lookup f_House_set_goal = some ⟨oc_House_set_goal, od_House_set_goal, .func (PySem.W.fnOf "set_goal" "House.set_goal" (defArgs s_House_set_goal) (defBody s_House_set_goal) (defScope s_House_set_goal) .none kV_House_set_goal dc_House_set_goal pm_House_set_goal an_House_set_goal cd_House_set_goal ct_House_set_goal), sl_House_set_goal⟩)
    (c_House_set_goal : PySem.W.codeIn K cd_House_set_goal "House.set_goal" = true)
    (k_House_set_goal : PySem.W.keepIn K (.ref f_House_set_goal) = true)
    (a_House_tell_now : PySem.W.findIn K (.ref c_House) "tell_now" = some (some (.ref f_House_tell_now)))
    (i_House_tell_now : PySem.W.isFn K (.ref f_House_tell_now) = true)
    (l_House_tell_now : K.lookup f_House_tell_now = some ⟨oc_House_tell_now, od_House_tell_now, .func (PySem.W.fnOf "tell_now" "House.tell_now" (defArgs s_House_tell_now) (defBody s_House_tell_now) (defScope s_House_tell_now) .none kV_House_tell_now dc_House_tell_now pm_House_tell_now an_House_tell_now cd_House_tell_now ct_House_tell_now), sl_House_tell_now⟩)
    (c_House_tell_now : PySem.W.codeIn K cd_House_tell_now "House.tell_now" = true)
    (k_House_tell_now : PySem.W.keepIn K (.ref f_House_tell_now) = true)
    (a_answer : PySem.W.nsIn K mainGlobals "answer" = some (some (.ref f_answer)))
    (l_answer : K.lookup f_answer = some ⟨oc_answer, od_answer, .func (PySem.W.fnOf "answer" "answer" (defArgs s_answer) (defBody s_answer) (defScope s_answer) .none kV_answer dc_answer pm_answer an_answer cd_answer ct_answer), sl_answer⟩)
    (c_answer : PySem.W.codeIn K cd_answer "answer" = true)
    (k_answer : PySem.W.keepIn K (.ref f_answer) = true)
    (a_answers : PySem.W.nsIn K mainGlobals "answers" = some (some (.ref f_answers)))
    (l_answers : K.lookup f_answers = some ⟨oc_answers, od_answers, .func (PySem.W.fnOf "answers" "answers" (defArgs s_answers) (defBody s_answers) (defScope s_answers) .none kV_answers dc_answers pm_answers an_answers cd_answers ct_answers), sl_answers⟩)
    (c_answers : PySem.W.codeIn K cd_answers "answers" = true)
    (k_answers : PySem.W.keepIn K (.ref f_answers) = true)
    (g_BEGINS : PySem.W.nsIn K mainGlobals "BEGINS" = some (some (.int (0) t_BEGINS)))
    (g_BOTH_THERE : PySem.W.nsIn K mainGlobals "BOTH_THERE" = some (some (.int (-5) t_BOTH_THERE)))
    (g_CANNOT_BE_DONE : PySem.W.nsIn K mainGlobals "CANNOT_BE_DONE" = some (some (.int (-2) t_CANNOT_BE_DONE)))
    (g_CLASH : PySem.W.nsIn K mainGlobals "CLASH" = some (some (.int (3) t_CLASH)))
    (g_DONE : PySem.W.nsIn K mainGlobals "DONE" = some (some (.int (0) t_DONE)))
    (g_FULL : PySem.W.nsIn K mainGlobals "FULL" = some (some (.int (-7) t_FULL)))
    (g_GOAL : PySem.W.nsIn K mainGlobals "GOAL" = some (some (.int (7) t_GOAL)))
    (g_MAY : PySem.W.nsIn K mainGlobals "MAY" = some (some (.int (6) t_MAY)))
    (g_MAY_NOT_BE_DONE : PySem.W.nsIn K mainGlobals "MAY_NOT_BE_DONE" = some (some (.int (-5) t_MAY_NOT_BE_DONE)))
    (g_MOST_CLASHES : PySem.W.nsIn K mainGlobals "MOST_CLASHES" = some (some (.int (20) t_MOST_CLASHES)))
    (g_MOST_COPIES : PySem.W.nsIn K mainGlobals "MOST_COPIES" = some (some (.int (2) t_MOST_COPIES)))
    (g_MOST_SERVICES : PySem.W.nsIn K mainGlobals "MOST_SERVICES" = some (some (.int (3) t_MOST_SERVICES)))
    (g_MOST_VERSIONS : PySem.W.nsIn K mainGlobals "MOST_VERSIONS" = some (some (.int (3) t_MOST_VERSIONS)))
    (g_MOVE : PySem.W.nsIn K mainGlobals "MOVE" = some (some (.int (2) t_MOVE)))
    (g_NOT_NEW : PySem.W.nsIn K mainGlobals "NOT_NEW" = some (some (.int (-4) t_NOT_NEW)))
    (g_NO_SUCH : PySem.W.nsIn K mainGlobals "NO_SUCH" = some (some (.int (-2) t_NO_SUCH)))
    (g_NO_WAY : PySem.W.nsIn K mainGlobals "NO_WAY" = some (some (.int (-6) t_NO_WAY)))
    (g_NO_WAY_ON : PySem.W.nsIn K mainGlobals "NO_WAY_ON" = some (some (.int (0) t_NO_WAY_ON)))
    (g_NUMBERS_BEHIND : PySem.W.nsIn K mainGlobals "NUMBERS_BEHIND" = some (some (.ref e_NUMBERS_BEHIND)))
    (l_NUMBERS_BEHIND : K.lookup e_NUMBERS_BEHIND = some ⟨.type "dict", none, .dict #[⟨0, .int 0 t0_NUMBERS_BEHIND, .int 0 u0_NUMBERS_BEHIND⟩, ⟨1, .int 1 t1_NUMBERS_BEHIND, .int 4 u1_NUMBERS_BEHIND⟩, ⟨2, .int 2 t2_NUMBERS_BEHIND, .int 3 u2_NUMBERS_BEHIND⟩, ⟨3, .int 3 t3_NUMBERS_BEHIND, .int 4 u3_NUMBERS_BEHIND⟩, ⟨4, .int 4 t4_NUMBERS_BEHIND, .int 4 u4_NUMBERS_BEHIND⟩, ⟨5, .int 5 t5_NUMBERS_BEHIND, .int 0 u5_NUMBERS_BEHIND⟩, ⟨6, .int 6 t6_NUMBERS_BEHIND, .int 0 u6_NUMBERS_BEHIND⟩, ⟨7, .int 7 t7_NUMBERS_BEHIND, .int 2 u7_NUMBERS_BEHIND⟩, ⟨8, .int 8 t8_NUMBERS_BEHIND, .int 0 u8_NUMBERS_BEHIND⟩] n_NUMBERS_BEHIND, #[]⟩)
    (g_OUT_OF_RANGE : PySem.W.nsIn K mainGlobals "OUT_OF_RANGE" = some (some (.int (-1) t_OUT_OF_RANGE)))
    (g_PLAN : PySem.W.nsIn K mainGlobals "PLAN" = some (some (.int (5) t_PLAN)))
    (g_SERVICE : PySem.W.nsIn K mainGlobals "SERVICE" = some (some (.int (1) t_SERVICE)))
    (g_STEP : PySem.W.nsIn K mainGlobals "STEP" = some (some (.int (4) t_STEP)))
    (b_len : PySem.W.nsIn K mainGlobals "len" = some none)
    (b_list : PySem.W.nsIn K mainGlobals "list" = some none)
    (b_range : PySem.W.nsIn K mainGlobals "range" = some none)
    (b_sorted : PySem.W.nsIn K mainGlobals "sorted" = some none)
    (b_tuple : PySem.W.nsIn K mainGlobals "tuple" = some none)
    : ∃ A : Ad, A.a_answers = f_answers ∧ Tx K mg A ∧ ∀ (s : Shared) (us : List Value), us.length = p_answers.length → BindsTo s A.d_answers ⟨us, []⟩ (p_answers.zip us) := by
  have F_Step_init := fun_mk (st := s_Step_init) l_Step_init c_Step_init k_Step_init
  have B_Step_init := F_Step_init.binds (ps := p_Step_init) fun _ _ _ _ _ _ us hl => match us, hl with | [_, _, _, _, _], _ => rfl
  have F_all_of_version := fun_mk (st := s_all_of_version) l_all_of_version c_all_of_version k_all_of_version
  have B_all_of_version := F_all_of_version.binds (ps := p_all_of_version) fun _ _ _ _ _ _ us hl => match us, hl with | [_, _, _], _ => rfl
  have F_wanted_counts := fun_mk (st := s_wanted_counts) l_wanted_counts c_wanted_counts k_wanted_counts
  have B_wanted_counts := F_wanted_counts.binds (ps := p_wanted_counts) fun _ _ _ _ _ _ us hl => match us, hl with | [_], _ => rfl
  have F_is_there := fun_mk (st := s_is_there) l_is_there c_is_there k_is_there
  have B_is_there := F_is_there.binds (ps := p_is_there) fun _ _ _ _ _ _ us hl => match us, hl with | [_, _], _ => rfl
  have F_counts_behind := fun_mk (st := s_counts_behind) l_counts_behind c_counts_behind k_counts_behind
  have B_counts_behind := F_counts_behind.binds (ps := p_counts_behind) fun _ _ _ _ _ _ us hl => match us, hl with | [_, _], _ => rfl
  have F_can_be_done := fun_mk (st := s_can_be_done) l_can_be_done c_can_be_done k_can_be_done
  have B_can_be_done := F_can_be_done.binds (ps := p_can_be_done) fun _ _ _ _ _ _ us hl => match us, hl with | [_, _, _], _ => rfl
  have F_has_clash_between := fun_mk (st := s_has_clash_between) l_has_clash_between c_has_clash_between k_has_clash_between
  have B_has_clash_between := F_has_clash_between.binds (ps := p_has_clash_between) fun _ _ _ _ _ _ us hl => match us, hl with | [_, _, _], _ => rfl
  have F_may_be_done := fun_mk (st := s_may_be_done) l_may_be_done c_may_be_done k_may_be_done
  have B_may_be_done := F_may_be_done.binds (ps := p_may_be_done) fun _ _ _ _ _ _ us hl => match us, hl with | [_, _, _, _], _ => rfl
  have F_steps_from := fun_mk (st := s_steps_from) l_steps_from c_steps_from k_steps_from
  have B_steps_from := F_steps_from.binds (ps := p_steps_from) fun _ _ _ _ _ _ us hl => match us, hl with | [_, _, _], _ => rfl
  have F_counts_before := fun_mk (st := s_counts_before) l_counts_before c_counts_before k_counts_before
  have B_counts_before := F_counts_before.binds (ps := p_counts_before) fun _ _ _ _ _ _ us hl => match us, hl with | [_, _, _], _ => rfl
  have F_fewest_steps := fun_mk (st := s_fewest_steps) l_fewest_steps c_fewest_steps k_fewest_steps
  have B_fewest_steps := F_fewest_steps.binds (ps := p_fewest_steps) fun _ _ _ _ _ _ us hl => match us, hl with | [_, _, _], _ => rfl
  have F_first_step_nearer := fun_mk (st := s_first_step_nearer) l_first_step_nearer c_first_step_nearer k_first_step_nearer
  have B_first_step_nearer := F_first_step_nearer.binds (ps := p_first_step_nearer) fun _ _ _ _ _ _ us hl => match us, hl with | [_, _, _, _], _ => rfl
  have F_planned_steps := fun_mk (st := s_planned_steps) l_planned_steps c_planned_steps k_planned_steps
  have B_planned_steps := F_planned_steps.binds (ps := p_planned_steps) fun _ _ _ _ _ _ us hl => match us, hl with | [_, _, _], _ => rfl
  have F_Service_init := fun_mk (st := s_Service_init) l_Service_init c_Service_init k_Service_init
  have B_Service_init := F_Service_init.binds (ps := p_Service_init) fun _ _ _ _ _ _ us hl => match us, hl with | [_, _, _, _, _], _ => rfl
  have F_House_begin := fun_mk (st := s_House_begin) l_House_begin c_House_begin k_House_begin
  have B_House_begin := F_House_begin.binds (ps := p_House_begin) fun _ _ _ _ _ _ us hl => match us, hl with | [_], _ => rfl
  have F_House_init := fun_mk (st := s_House_init) l_House_init c_House_init k_House_init
  have B_House_init := F_House_init.binds (ps := p_House_init) fun _ _ _ _ _ _ us hl => match us, hl with | [_], _ => rfl
  have F_are_in_range := fun_mk (st := s_are_in_range) l_are_in_range c_are_in_range k_are_in_range
  have B_are_in_range := F_are_in_range.binds (ps := p_are_in_range) fun _ _ _ _ _ _ us hl => match us, hl with | [_, _, _, _], _ => rfl
  have F_House_add_service := fun_mk (st := s_House_add_service) l_House_add_service c_House_add_service k_House_add_service
  have B_House_add_service := F_House_add_service.binds (ps := p_House_add_service) fun _ _ _ _ _ _ us hl => match us, hl with | [_, _, _, _, _], _ => rfl
  have F_House_has_version := fun_mk (st := s_House_has_version) l_House_has_version c_House_has_version k_House_has_version
  have B_House_has_version := F_House_has_version.binds (ps := p_House_has_version) fun _ _ _ _ _ _ us hl => match us, hl with | [_, _, _], _ => rfl
  have F_House_add_move := fun_mk (st := s_House_add_move) l_House_add_move c_House_add_move k_House_add_move
  have B_House_add_move := F_House_add_move.binds (ps := p_House_add_move) fun _ _ _ _ _ _ us hl => match us, hl with | [_, _, _, _], _ => rfl
  have F_House_has_clash := fun_mk (st := s_House_has_clash) l_House_has_clash c_House_has_clash k_House_has_clash
  have B_House_has_clash := F_House_has_clash.binds (ps := p_House_has_clash) fun _ _ _ _ _ _ us hl => match us, hl with | [_, _, _], _ => rfl
  have F_House_add_clash := fun_mk (st := s_House_add_clash) l_House_add_clash c_House_add_clash k_House_add_clash
  have B_House_add_clash := F_House_add_clash.binds (ps := p_House_add_clash) fun _ _ _ _ _ _ us hl => match us, hl with | [_, _, _, _, _], _ => rfl
  have F_House_take_step := fun_mk (st := s_House_take_step) l_House_take_step c_House_take_step k_House_take_step
  have B_House_take_step := F_House_take_step.binds (ps := p_House_take_step) fun _ _ _ _ _ _ us hl => match us, hl with | [_, _, _, _, _], _ => rfl
  have F_step_numbers := fun_mk (st := s_step_numbers) l_step_numbers c_step_numbers k_step_numbers
  have B_step_numbers := F_step_numbers.binds (ps := p_step_numbers) fun _ _ _ _ _ _ us hl => match us, hl with | [_], _ => rfl
  have F_House_tell_plan := fun_mk (st := s_House_tell_plan) l_House_tell_plan c_House_tell_plan k_House_tell_plan
  have B_House_tell_plan := F_House_tell_plan.binds (ps := p_House_tell_plan) fun _ _ _ _ _ _ us hl => match us, hl with | [_], _ => rfl
  have F_House_tell_may := fun_mk (st := s_House_tell_may) l_House_tell_may c_House_tell_may k_House_tell_may
  have B_House_tell_may := F_House_tell_may.binds (ps := p_House_tell_may) fun _ _ _ _ _ _ us hl => match us, hl with | [_], _ => rfl
  have F_House_set_goal := fun_mk (st := s_House_set_goal) l_House_set_goal c_House_set_goal k_House_set_goal
  have B_House_set_goal := F_House_set_goal.binds (ps := p_House_set_goal) fun _ _ _ _ _ _ us hl => match us, hl with | [_, _, _], _ => rfl
  have F_House_tell_now := fun_mk (st := s_House_tell_now) l_House_tell_now c_House_tell_now k_House_tell_now
  have B_House_tell_now := F_House_tell_now.binds (ps := p_House_tell_now) fun _ _ _ _ _ _ us hl => match us, hl with | [_], _ => rfl
  have F_answer := fun_mk (st := s_answer) l_answer c_answer k_answer
  have B_answer := F_answer.binds (ps := p_answer) fun _ _ _ _ _ _ us hl => match us, hl with | [_, _, _], _ => rfl
  have F_answers := fun_mk (st := s_answers) l_answers c_answers k_answers
  have B_answers := F_answers.binds (ps := p_answers) fun _ _ _ _ _ _ us hl => match us, hl with | [_], _ => rfl
  have kd_NUMBERS_BEHIND : ∀ i n, (i, n) ∈ ([(0, 0), (1, 4), (2, 3), (3, 4), (4, 4), (5, 0), (6, 0), (7, 2), (8, 0)] : List (Int × Int)) → KDctI K e_NUMBERS_BEHIND i (.int n) := by
    intro i n hin
    have hk : ∀ e ∈ [(⟨0, .int 0 t0_NUMBERS_BEHIND, .int 0 u0_NUMBERS_BEHIND⟩ : DictEntry), (⟨1, .int 1 t1_NUMBERS_BEHIND, .int 4 u1_NUMBERS_BEHIND⟩ : DictEntry), (⟨2, .int 2 t2_NUMBERS_BEHIND, .int 3 u2_NUMBERS_BEHIND⟩ : DictEntry), (⟨3, .int 3 t3_NUMBERS_BEHIND, .int 4 u3_NUMBERS_BEHIND⟩ : DictEntry), (⟨4, .int 4 t4_NUMBERS_BEHIND, .int 4 u4_NUMBERS_BEHIND⟩ : DictEntry), (⟨5, .int 5 t5_NUMBERS_BEHIND, .int 0 u5_NUMBERS_BEHIND⟩ : DictEntry), (⟨6, .int 6 t6_NUMBERS_BEHIND, .int 0 u6_NUMBERS_BEHIND⟩ : DictEntry), (⟨7, .int 7 t7_NUMBERS_BEHIND, .int 2 u7_NUMBERS_BEHIND⟩ : DictEntry), (⟨8, .int 8 t8_NUMBERS_BEHIND, .int 0 u8_NUMBERS_BEHIND⟩ : DictEntry)], ∃ i t, DictEntry.key e = .int i t ∧ DictEntry.hash e = hashInt i := by
      intro e he
      simp only [List.mem_cons, List.not_mem_nil, or_false] at he
      rcases he with rfl | rfl | rfl | rfl | rfl | rfl | rfl | rfl | rfl
      · exact ⟨0, _, rfl, (show (0 : Int) = hashInt 0 by decide +kernel)⟩
      · exact ⟨1, _, rfl, (show (1 : Int) = hashInt 1 by decide +kernel)⟩
      · exact ⟨2, _, rfl, (show (2 : Int) = hashInt 2 by decide +kernel)⟩
      · exact ⟨3, _, rfl, (show (3 : Int) = hashInt 3 by decide +kernel)⟩
      · exact ⟨4, _, rfl, (show (4 : Int) = hashInt 4 by decide +kernel)⟩
      · exact ⟨5, _, rfl, (show (5 : Int) = hashInt 5 by decide +kernel)⟩
      · exact ⟨6, _, rfl, (show (6 : Int) = hashInt 6 by decide +kernel)⟩
      · exact ⟨7, _, rfl, (show (7 : Int) = hashInt 7 by decide +kernel)⟩
      · exact ⟨8, _, rfl, (show (8 : Int) = hashInt 8 by decide +kernel)⟩
    simp only [List.mem_cons, List.not_mem_nil, or_false, Prod.mk.injEq] at hin
    rcases hin with ⟨rfl, rfl⟩ | ⟨rfl, rfl⟩ | ⟨rfl, rfl⟩ | ⟨rfl, rfl⟩ | ⟨rfl, rfl⟩ | ⟨rfl, rfl⟩ | ⟨rfl, rfl⟩ | ⟨rfl, rfl⟩ | ⟨rfl, rfl⟩
    · exact kdct_of l_NUMBERS_BEHIND hk rfl ⟨_, rfl⟩
    · exact kdct_of l_NUMBERS_BEHIND hk rfl ⟨_, rfl⟩
    · exact kdct_of l_NUMBERS_BEHIND hk rfl ⟨_, rfl⟩
    · exact kdct_of l_NUMBERS_BEHIND hk rfl ⟨_, rfl⟩
    · exact kdct_of l_NUMBERS_BEHIND hk rfl ⟨_, rfl⟩
    · exact kdct_of l_NUMBERS_BEHIND hk rfl ⟨_, rfl⟩
    · exact kdct_of l_NUMBERS_BEHIND hk rfl ⟨_, rfl⟩
    · exact kdct_of l_NUMBERS_BEHIND hk rfl ⟨_, rfl⟩
    · exact kdct_of l_NUMBERS_BEHIND hk rfl ⟨_, rfl⟩
  exact ⟨⟨c_Step, c_Service, c_House, f_Step_init, (PySem.W.fnOf "__init__" "Step.__init__" (defArgs s_Step_init) (defBody s_Step_init) (defScope s_Step_init) .none kV_Step_init dc_Step_init pm_Step_init an_Step_init cd_Step_init ct_Step_init), f_all_of_version, (PySem.W.fnOf "all_of_version" "all_of_version" (defArgs s_all_of_version) (defBody s_all_of_version) (defScope s_all_of_version) .none kV_all_of_version dc_all_of_version pm_all_of_version an_all_of_version cd_all_of_version ct_all_of_version), f_wanted_counts, (PySem.W.fnOf "wanted_counts" "wanted_counts" (defArgs s_wanted_counts) (defBody s_wanted_counts) (defScope s_wanted_counts) .none kV_wanted_counts dc_wanted_counts pm_wanted_counts an_wanted_counts cd_wanted_counts ct_wanted_counts), f_is_there, (PySem.W.fnOf "is_there" "is_there" (defArgs s_is_there) (defBody s_is_there) (defScope s_is_there) .none kV_is_there dc_is_there pm_is_there an_is_there cd_is_there ct_is_there), f_counts_behind, (PySem.W.fnOf "counts_behind" "counts_behind" (defArgs s_counts_behind) (defBody s_counts_behind) (defScope s_counts_behind) .none kV_counts_behind dc_counts_behind pm_counts_behind an_counts_behind cd_counts_behind ct_counts_behind), f_can_be_done, (PySem.W.fnOf "can_be_done" "can_be_done" (defArgs s_can_be_done) (defBody s_can_be_done) (defScope s_can_be_done) .none kV_can_be_done dc_can_be_done pm_can_be_done an_can_be_done cd_can_be_done ct_can_be_done), f_has_clash_between, (PySem.W.fnOf "has_clash_between" "has_clash_between" (defArgs s_has_clash_between) (defBody s_has_clash_between) (defScope s_has_clash_between) .none kV_has_clash_between dc_has_clash_between pm_has_clash_between an_has_clash_between cd_has_clash_between ct_has_clash_between), f_may_be_done, (PySem.W.fnOf "may_be_done" "may_be_done" (defArgs s_may_be_done) (defBody s_may_be_done) (defScope s_may_be_done) .none kV_may_be_done dc_may_be_done pm_may_be_done an_may_be_done cd_may_be_done ct_may_be_done), f_steps_from, (PySem.W.fnOf "steps_from" "steps_from" (defArgs s_steps_from) (defBody s_steps_from) (defScope s_steps_from) .none kV_steps_from dc_steps_from pm_steps_from an_steps_from cd_steps_from ct_steps_from), f_counts_before, (PySem.W.fnOf "counts_before" "counts_before" (defArgs s_counts_before) (defBody s_counts_before) (defScope s_counts_before) .none kV_counts_before dc_counts_before pm_counts_before an_counts_before cd_counts_before ct_counts_before), f_fewest_steps, (PySem.W.fnOf "fewest_steps" "fewest_steps" (defArgs s_fewest_steps) (defBody s_fewest_steps) (defScope s_fewest_steps) .none kV_fewest_steps dc_fewest_steps pm_fewest_steps an_fewest_steps cd_fewest_steps ct_fewest_steps), f_first_step_nearer, (PySem.W.fnOf "first_step_nearer" "first_step_nearer" (defArgs s_first_step_nearer) (defBody s_first_step_nearer) (defScope s_first_step_nearer) .none kV_first_step_nearer dc_first_step_nearer pm_first_step_nearer an_first_step_nearer cd_first_step_nearer ct_first_step_nearer), f_planned_steps, (PySem.W.fnOf "planned_steps" "planned_steps" (defArgs s_planned_steps) (defBody s_planned_steps) (defScope s_planned_steps) .none kV_planned_steps dc_planned_steps pm_planned_steps an_planned_steps cd_planned_steps ct_planned_steps), f_Service_init, (PySem.W.fnOf "__init__" "Service.__init__" (defArgs s_Service_init) (defBody s_Service_init) (defScope s_Service_init) .none kV_Service_init dc_Service_init pm_Service_init an_Service_init cd_Service_init ct_Service_init), f_House_begin, (PySem.W.fnOf "begin" "House.begin" (defArgs s_House_begin) (defBody s_House_begin) (defScope s_House_begin) .none kV_House_begin dc_House_begin pm_House_begin an_House_begin cd_House_begin ct_House_begin), f_House_init, (PySem.W.fnOf "__init__" "House.__init__" (defArgs s_House_init) (defBody s_House_init) (defScope s_House_init) .none kV_House_init dc_House_init pm_House_init an_House_init cd_House_init ct_House_init), f_are_in_range, (PySem.W.fnOf "are_in_range" "are_in_range" (defArgs s_are_in_range) (defBody s_are_in_range) (defScope s_are_in_range) .none kV_are_in_range dc_are_in_range pm_are_in_range an_are_in_range cd_are_in_range ct_are_in_range), f_House_add_service, (PySem.W.fnOf "add_service" "House.add_service" (defArgs s_House_add_service) (defBody s_House_add_service) (defScope s_House_add_service) .none kV_House_add_service dc_House_add_service pm_House_add_service an_House_add_service cd_House_add_service ct_House_add_service), f_House_has_version, (PySem.W.fnOf "has_version" "House.has_version" (defArgs s_House_has_version) (defBody s_House_has_version) (defScope s_House_has_version) .none kV_House_has_version dc_House_has_version pm_House_has_version an_House_has_version cd_House_has_version ct_House_has_version), f_House_add_move, (PySem.W.fnOf "add_move" "House.add_move" (defArgs s_House_add_move) (defBody s_House_add_move) (defScope s_House_add_move) .none kV_House_add_move dc_House_add_move pm_House_add_move an_House_add_move cd_House_add_move ct_House_add_move), f_House_has_clash, (PySem.W.fnOf "has_clash" "House.has_clash" (defArgs s_House_has_clash) (defBody s_House_has_clash) (defScope s_House_has_clash) .none kV_House_has_clash dc_House_has_clash pm_House_has_clash an_House_has_clash cd_House_has_clash ct_House_has_clash), f_House_add_clash, (PySem.W.fnOf "add_clash" "House.add_clash" (defArgs s_House_add_clash) (defBody s_House_add_clash) (defScope s_House_add_clash) .none kV_House_add_clash dc_House_add_clash pm_House_add_clash an_House_add_clash cd_House_add_clash ct_House_add_clash), f_House_take_step, (PySem.W.fnOf "take_step" "House.take_step" (defArgs s_House_take_step) (defBody s_House_take_step) (defScope s_House_take_step) .none kV_House_take_step dc_House_take_step pm_House_take_step an_House_take_step cd_House_take_step ct_House_take_step), f_step_numbers, (PySem.W.fnOf "step_numbers" "step_numbers" (defArgs s_step_numbers) (defBody s_step_numbers) (defScope s_step_numbers) .none kV_step_numbers dc_step_numbers pm_step_numbers an_step_numbers cd_step_numbers ct_step_numbers), f_House_tell_plan, (PySem.W.fnOf "tell_plan" "House.tell_plan" (defArgs s_House_tell_plan) (defBody s_House_tell_plan) (defScope s_House_tell_plan) .none kV_House_tell_plan dc_House_tell_plan pm_House_tell_plan an_House_tell_plan cd_House_tell_plan ct_House_tell_plan), f_House_tell_may, (PySem.W.fnOf "tell_may" "House.tell_may" (defArgs s_House_tell_may) (defBody s_House_tell_may) (defScope s_House_tell_may) .none kV_House_tell_may dc_House_tell_may pm_House_tell_may an_House_tell_may cd_House_tell_may ct_House_tell_may), f_House_set_goal, (PySem.W.fnOf "set_goal" "House.set_goal" (defArgs s_House_set_goal) (defBody s_House_set_goal) (defScope s_House_set_goal) .none kV_House_set_goal dc_House_set_goal pm_House_set_goal an_House_set_goal cd_House_set_goal ct_House_set_goal), f_House_tell_now, (PySem.W.fnOf "tell_now" "House.tell_now" (defArgs s_House_tell_now) (defBody s_House_tell_now) (defScope s_House_tell_now) .none kV_House_tell_now dc_House_tell_now pm_House_tell_now an_House_tell_now cd_House_tell_now ct_House_tell_now), f_answer, (PySem.W.fnOf "answer" "answer" (defArgs s_answer) (defBody s_answer) (defScope s_answer) .none kV_answer dc_answer pm_answer an_answer cd_answer ct_answer), f_answers, (PySem.W.fnOf "answers" "answers" (defArgs s_answers) (defBody s_answers) (defScope s_answers) .none kV_answers dc_answers pm_answers an_answers cd_answers ct_answers), e_NUMBERS_BEHIND⟩, rfl, ⟨⟨pg_Step, hd_Step, po_Step, sa_Step⟩, ⟨mk_Step, a_Step_init, i_Step_init, kc_Step⟩, PySem.W.mg_of X G aC_Step, n_Step_service, n_Step_old, n_Step_new, n_Step_copies, ⟨pg_Service, hd_Service, po_Service, sa_Service⟩, ⟨mk_Service, a_Service_init, i_Service_init, kc_Service⟩, PySem.W.mg_of X G aC_Service, n_Service_copies, n_Service_up, n_Service_versions, n_Service_wanted, n_Service_moves, ⟨pg_House, hd_House, po_House, sa_House⟩, ⟨mk_House, a_House_init, i_House_init, kc_House⟩, PySem.W.mg_of X G aC_House, n_House_services, n_House_clashes, n_House_counts, F_Step_init, B_Step_init, F_all_of_version, B_all_of_version, PySem.W.mg_of X G a_all_of_version, F_wanted_counts, B_wanted_counts, PySem.W.mg_of X G a_wanted_counts, F_is_there, B_is_there, PySem.W.mg_of X G a_is_there, F_counts_behind, B_counts_behind, PySem.W.mg_of X G a_counts_behind, F_can_be_done, B_can_be_done, PySem.W.mg_of X G a_can_be_done, F_has_clash_between, B_has_clash_between, PySem.W.mg_of X G a_has_clash_between, F_may_be_done, B_may_be_done, PySem.W.mg_of X G a_may_be_done, F_steps_from, B_steps_from, PySem.W.mg_of X G a_steps_from, F_counts_before, B_counts_before, PySem.W.mg_of X G a_counts_before, F_fewest_steps, B_fewest_steps, PySem.W.mg_of X G a_fewest_steps, F_first_step_nearer, B_first_step_nearer, PySem.W.mg_of X G a_first_step_nearer, F_planned_steps, B_planned_steps, PySem.W.mg_of X G a_planned_steps, F_Service_init, B_Service_init, F_House_begin, B_House_begin, ⟨a_House_begin, i_House_begin, k_House_begin⟩, F_House_init, B_House_init, F_are_in_range, B_are_in_range, PySem.W.mg_of X G a_are_in_range, F_House_add_service, B_House_add_service, ⟨a_House_add_service, i_House_add_service, k_House_add_service⟩, F_House_has_version, B_House_has_version, ⟨a_House_has_version, i_House_has_version, k_House_has_version⟩, F_House_add_move, B_House_add_move, ⟨a_House_add_move, i_House_add_move, k_House_add_move⟩, F_House_has_clash, B_House_has_clash, ⟨a_House_has_clash, i_House_has_clash, k_House_has_clash⟩, F_House_add_clash, B_House_add_clash, ⟨a_House_add_clash, i_House_add_clash, k_House_add_clash⟩, F_House_take_step, B_House_take_step, ⟨a_House_take_step, i_House_take_step, k_House_take_step⟩, F_step_numbers, B_step_numbers, PySem.W.mg_of X G a_step_numbers, F_House_tell_plan, B_House_tell_plan, ⟨a_House_tell_plan, i_House_tell_plan, k_House_tell_plan⟩, F_House_tell_may, B_House_tell_may, ⟨a_House_tell_may, i_House_tell_may, k_House_tell_may⟩, F_House_set_goal, B_House_set_goal, ⟨a_House_set_goal, i_House_set_goal, k_House_set_goal⟩, F_House_tell_now, B_House_tell_now, ⟨a_House_tell_now, i_House_tell_now, k_House_tell_now⟩, F_answer, B_answer, PySem.W.mg_of X G a_answer, F_answers, B_answers, PySem.W.mg_of X G a_answers, ⟨_, PySem.W.mg_of X G g_BEGINS⟩, ⟨_, PySem.W.mg_of X G g_BOTH_THERE⟩, ⟨_, PySem.W.mg_of X G g_CANNOT_BE_DONE⟩, ⟨_, PySem.W.mg_of X G g_CLASH⟩, ⟨_, PySem.W.mg_of X G g_DONE⟩, ⟨_, PySem.W.mg_of X G g_FULL⟩, ⟨_, PySem.W.mg_of X G g_GOAL⟩, ⟨_, PySem.W.mg_of X G g_MAY⟩, ⟨_, PySem.W.mg_of X G g_MAY_NOT_BE_DONE⟩, ⟨_, PySem.W.mg_of X G g_MOST_CLASHES⟩, ⟨_, PySem.W.mg_of X G g_MOST_COPIES⟩, ⟨_, PySem.W.mg_of X G g_MOST_SERVICES⟩, ⟨_, PySem.W.mg_of X G g_MOST_VERSIONS⟩, ⟨_, PySem.W.mg_of X G g_MOVE⟩, ⟨_, PySem.W.mg_of X G g_NOT_NEW⟩, ⟨_, PySem.W.mg_of X G g_NO_SUCH⟩, ⟨_, PySem.W.mg_of X G g_NO_WAY⟩, ⟨_, PySem.W.mg_of X G g_NO_WAY_ON⟩, PySem.W.mg_of X G g_NUMBERS_BEHIND, kd_NUMBERS_BEHIND, ⟨_, PySem.W.mg_of X G g_OUT_OF_RANGE⟩, ⟨_, PySem.W.mg_of X G g_PLAN⟩, ⟨_, PySem.W.mg_of X G g_SERVICE⟩, ⟨_, PySem.W.mg_of X G g_STEP⟩, PySem.W.mg_none_of X G b_len, PySem.W.mg_none_of X G b_list, PySem.W.mg_none_of X G b_range, PySem.W.mg_none_of X G b_sorted, PySem.W.mg_none_of X G b_tuple⟩, fun s us hu => match us, hu with | [_], _ => .of_eq rfl⟩

theorem behind_of {K : PySem.W.Frag} {mg : Str → Option Value} {A : Ad} (T : Tx K mg A) : ∀ (p : Int) (n : Nat), PyRp11.shape p = some (n, 0) → KDctI K A.e_NUMBERS_BEHIND p (.int (n : Int)) := fun p n h => by
  refine T.k_NUMBERS_BEHIND p n ?_
  unfold PyRp11.shape at h
  repeat' split at h
  all_goals first | (cases h) | skip
  all_goals (simp_all)
theorem ok_all {P : Program} {w : World} {K : PySem.W.Frag} {mg : Str → Option Value} {base : Heap} {A : Ad} (T : Tx K mg A) : FnOk P w K mg base CX0 10 A.a_answers A.d_answers p_answers (sp_answers K) := by
  have g_st := ok_Step_init (P := P) (w := w) (base := base) T
  have g_all := ok_all_of_version (P := P) (w := w) (base := base) T
  have g_want := ok_wanted_counts T g_all
  have g_is := ok_is_there (P := P) (w := w) (base := base) T
  have g_beh := ok_counts_behind (P := P) (w := w) (base := base) T
  have g_can := ok_can_be_done (P := P) (w := w) (base := base) T
  have g_btw := ok_has_clash_between T g_is
  have g_may := ok_may_be_done T g_can g_beh g_btw
  have g_from := ok_steps_from T g_st g_may
  have g_bef := ok_counts_before T g_from g_beh
  have g_few := ok_fewest_steps T g_bef g_want
  have g_fst := ok_first_step_nearer T g_from g_beh
  have g_plan := ok_planned_steps T g_few g_fst g_beh
  have g_num := ok_step_numbers (P := P) (w := w) (base := base) T
  have g_beg := ok_House_begin (P := P) (w := w) (base := base) T
  have g_has := ok_House_has_version (P := P) (w := w) (base := base) T
  have g_hc := ok_House_has_clash (P := P) (w := w) (base := base) T
  have g_ans := ok_answer T g_beg (ok_House_add_service T (ok_are_in_range T) (ok_Service_init T) g_all) (ok_House_add_move T g_has) (ok_House_add_clash T g_has g_hc g_is) (ok_House_take_step T g_st g_can g_may g_beh)
    (ok_House_tell_plan T g_plan g_num) (ok_House_tell_may T g_from g_few g_beh g_num) (ok_House_set_goal T g_has) (ok_House_tell_now T)
  exact ok_answers T (behind_of T) (ok_House_init T g_beg) g_ans
theorem all_mk {P : Program} {w : World} {K : PySem.W.Frag} {h : Heap} {mg : Str → Option Value} {fa : Addr} (X : K.In h) (G : h.Ns mainGlobals mg) (hfa : mg "answers" = some (.ref fa))
    {c_Step c_Service c_House f_Step_init f_all_of_version f_wanted_counts f_is_there f_counts_behind f_can_be_done f_has_clash_between f_may_be_done f_steps_from f_counts_before f_fewest_steps f_first_step_nearer f_planned_steps f_Service_init f_House_begin f_House_init f_are_in_range f_House_add_service f_House_has_version f_House_add_move f_House_has_clash f_House_add_clash f_House_take_step f_step_numbers f_House_tell_plan f_House_tell_may f_House_set_goal f_House_tell_now f_answer f_answers : Addr}
    {od_Step_init an_Step_init : Option Addr} {sl_Step_init : Array (Option Value)} {oc_Step_init kV_Step_init dc_Step_init pm_Step_init cd_Step_init ct_Step_init : Value}
    {od_all_of_version an_all_of_version : Option Addr} {sl_all_of_version : Array (Option Value)} {oc_all_of_version kV_all_of_version dc_all_of_version pm_all_of_version cd_all_of_version ct_all_of_version : Value}
    {od_wanted_counts an_wanted_counts : Option Addr} {sl_wanted_counts : Array (Option Value)} {oc_wanted_counts kV_wanted_counts dc_wanted_counts pm_wanted_counts cd_wanted_counts ct_wanted_counts : Value}
    {od_is_there an_is_there : Option Addr} {sl_is_there : Array (Option Value)} {oc_is_there kV_is_there dc_is_there pm_is_there cd_is_there ct_is_there : Value}
    {od_counts_behind an_counts_behind : Option Addr} {sl_counts_behind : Array (Option Value)} {oc_counts_behind kV_counts_behind dc_counts_behind pm_counts_behind cd_counts_behind ct_counts_behind : Value}
    {od_can_be_done an_can_be_done : Option Addr} {sl_can_be_done : Array (Option Value)} {oc_can_be_done kV_can_be_done dc_can_be_done pm_can_be_done cd_can_be_done ct_can_be_done : Value}
    {od_has_clash_between an_has_clash_between : Option Addr} {sl_has_clash_between : Array (Option Value)} {oc_has_clash_between kV_has_clash_between dc_has_clash_between pm_has_clash_between cd_has_clash_between ct_has_clash_between : Value}
    {od_may_be_done an_may_be_done : Option Addr} {sl_may_be_done : Array (Option Value)} {oc_may_be_done kV_may_be_done dc_may_be_done pm_may_be_done cd_may_be_done ct_may_be_done : Value}
    {od_steps_from an_steps_from : Option Addr} {sl_steps_from : Array (Option Value)} {oc_steps_from kV_steps_from dc_steps_from pm_steps_from cd_steps_from ct_steps_from : Value}
    {od_counts_before an_counts_before : Option Addr} {sl_counts_before : Array (Option Value)} {oc_counts_before kV_counts_before dc_counts_before pm_counts_before cd_counts_before ct_counts_before : Value}
    {od_fewest_steps an_fewest_steps : Option Addr} {sl_fewest_steps : Array (Option Value)} {oc_fewest_steps kV_fewest_steps dc_fewest_steps pm_fewest_steps cd_fewest_steps ct_fewest_steps : Value}
    {od_first_step_nearer an_first_step_nearer : Option Addr} {sl_first_step_nearer : Array (Option Value)} {oc_first_step_nearer kV_first_step_nearer dc_first_step_nearer pm_first_step_nearer cd_first_step_nearer ct_first_step_nearer : Value}
    {od_planned_steps an_planned_steps : Option Addr} {sl_planned_steps : Array (Option Value)} {oc_planned_steps kV_planned_steps dc_planned_steps pm_planned_steps cd_planned_steps ct_planned_steps : Value}
    {od_Service_init an_Service_init : Option Addr} {sl_Service_init : Array (Option Value)} {oc_Service_init kV_Service_init dc_Service_init pm_Service_init cd_Service_init ct_Service_init : Value}
    {od_House_begin an_House_begin : Option Addr} {sl_House_begin : Array (Option Value)} {oc_House_begin kV_House_begin dc_House_begin pm_House_begin cd_House_begin ct_House_begin : Value}
    {od_House_init an_House_init : Option Addr} {sl_House_init : Array (Option Value)} {oc_House_init kV_House_init dc_House_init pm_House_init cd_House_init ct_House_init : Value}
    {od_are_in_range an_are_in_range : Option Addr} {sl_are_in_range : Array (Option Value)} {oc_are_in_range kV_are_in_range dc_are_in_range pm_are_in_range cd_are_in_range ct_are_in_range : Value}
    {od_House_add_service an_House_add_service : Option Addr} {sl_House_add_service : Array (Option Value)} {oc_House_add_service kV_House_add_service dc_House_add_service pm_House_add_service cd_House_add_service ct_House_add_service : Value}
    {od_House_has_version an_House_has_version : Option Addr} {sl_House_has_version : Array (Option Value)} {oc_House_has_version kV_House_has_version dc_House_has_version pm_House_has_version cd_House_has_version ct_House_has_version : Value}
    {od_House_add_move an_House_add_move : Option Addr} {sl_House_add_move : Array (Option Value)} {oc_House_add_move kV_House_add_move dc_House_add_move pm_House_add_move cd_House_add_move ct_House_add_move : Value}
    {od_House_has_clash an_House_has_clash : Option Addr} {sl_House_has_clash : Array (Option Value)} {oc_House_has_clash kV_House_has_clash dc_House_has_clash pm_House_has_clash cd_House_has_clash ct_House_has_clash : Value}
    {od_House_add_clash an_House_add_clash : Option Addr} {sl_House_add_clash : Array (Option Value)} {oc_House_add_clash kV_House_add_clash dc_House_add_clash pm_House_add_clash cd_House_add_clash ct_House_add_clash : Value}
    {od_House_take_step an_House_take_step : Option Addr} {sl_House_take_step : Array (Option Value)} {oc_House_take_step kV_House_take_step dc_House_take_step pm_House_take_step cd_House_take_step ct_House_take_step : Value}
    {od_step_numbers an_step_numbers : Option Addr} {sl_step_numbers : Array (Option Value)} {oc_step_numbers kV_step_numbers dc_step_numbers pm_step_numbers cd_step_numbers ct_step_numbers : Value}
    {od_House_tell_plan an_House_tell_plan : Option Addr} {sl_House_tell_plan : Array (Option Value)} {oc_House_tell_plan kV_House_tell_plan dc_House_tell_plan pm_House_tell_plan cd_House_tell_plan ct_House_tell_plan : Value}
    {od_House_tell_may an_House_tell_may : Option Addr} {sl_House_tell_may : Array (Option Value)} {oc_House_tell_may kV_House_tell_may dc_House_tell_may pm_House_tell_may cd_House_tell_may ct_House_tell_may : Value}
    {od_House_set_goal an_House_set_goal : Option Addr} {sl_House_set_goal : Array (Option Value)} {oc_House_set_goal kV_House_set_goal dc_House_set_goal pm_House_set_goal cd_House_set_goal ct_House_set_goal : Value}
    {od_House_tell_now an_House_tell_now : Option Addr} {sl_House_tell_now : Array (Option Value)} {oc_House_tell_now kV_House_tell_now dc_House_tell_now pm_House_tell_now cd_House_tell_now ct_House_tell_now : Value}
    {od_answer an_answer : Option Addr} {sl_answer : Array (Option Value)} {oc_answer kV_answer dc_answer pm_answer cd_answer ct_answer : Value}
    {od_answers an_answers : Option Addr} {sl_answers : Array (Option Value)} {oc_answers kV_answers dc_answers pm_answers cd_answers ct_answers : Value}
    {t_BEGINS : Tok}
    {t_BOTH_THERE : Tok}
    {t_CANNOT_BE_DONE : Tok}
    {t_CLASH : Tok}
    {t_DONE : Tok}
    {t_FULL : Tok}
    {t_GOAL : Tok}
    {t_MAY : Tok}
    {t_MAY_NOT_BE_DONE : Tok}
    {t_MOST_CLASHES : Tok}
    {t_MOST_COPIES : Tok}
    {t_MOST_SERVICES : Tok}
    {t_MOST_VERSIONS : Tok}
    {t_MOVE : Tok}
    {t_NOT_NEW : Tok}
    {t_NO_SUCH : Tok}
    {t_NO_WAY : Tok}
    {t_NO_WAY_ON : Tok}
    {e_NUMBERS_BEHIND : Addr} {n_NUMBERS_BEHIND : Nat} {t0_NUMBERS_BEHIND u0_NUMBERS_BEHIND t1_NUMBERS_BEHIND u1_NUMBERS_BEHIND t2_NUMBERS_BEHIND u2_NUMBERS_BEHIND t3_NUMBERS_BEHIND u3_NUMBERS_BEHIND t4_NUMBERS_BEHIND u4_NUMBERS_BEHIND t5_NUMBERS_BEHIND u5_NUMBERS_BEHIND t6_NUMBERS_BEHIND u6_NUMBERS_BEHIND t7_NUMBERS_BEHIND u7_NUMBERS_BEHIND t8_NUMBERS_BEHIND u8_NUMBERS_BEHIND : Tok}
    {t_OUT_OF_RANGE : Tok}
    {t_PLAN : Tok}
    {t_SERVICE : Tok}
    {t_STEP : Tok}
    (aC_Step : PySem.W.nsIn K mainGlobals "Step" = some (some (.ref c_Step)))
    (pg_Step : PySem.W.plainGet K c_Step Str.empty = true)
    (hd_Step : PySem.W.hasDictIn K c_Step = true)
    (po_Step : PySem.W.plainOver K c_Step = true)
    (sa_Step : PySem.W.findIn K (.ref c_Step) "__setattr__" = some (some (.builtin "object.__setattr__")))
    (mk_Step : PySem.W.makesIn K c_Step = true)
    (kc_Step : PySem.W.keepIn K (.ref c_Step) = true)
    (n_Step_service : PySem.W.findIn K (.ref c_Step) "service" = some none)
    (n_Step_old : PySem.W.findIn K (.ref c_Step) "old" = some none)
    (n_Step_new : PySem.W.findIn K (.ref c_Step) "new" = some none)
    (n_Step_copies : PySem.W.findIn K (.ref c_Step) "copies" = some none)
    (aC_Service : PySem.W.nsIn K mainGlobals "Service" = some (some (.ref c_Service)))
    (pg_Service : PySem.W.plainGet K c_Service Str.empty = true)
    (hd_Service : PySem.W.hasDictIn K c_Service = true)
    (po_Service : PySem.W.plainOver K c_Service = true)
    (sa_Service : PySem.W.findIn K (.ref c_Service) "__setattr__" = some (some (.builtin "object.__setattr__")))
    (mk_Service : PySem.W.makesIn K c_Service = true)
    (kc_Service : PySem.W.keepIn K (.ref c_Service) = true)
    (n_Service_copies : PySem.W.findIn K (.ref c_Service) "copies" = some none)
    (n_Service_up : PySem.W.findIn K (.ref c_Service) "up" = some none)
    (n_Service_versions : PySem.W.findIn K (.ref c_Service) "versions" = some none)
    (n_Service_wanted : PySem.W.findIn K (.ref c_Service) "wanted" = some none)
    (n_Service_moves : PySem.W.findIn K (.ref c_Service) "moves" = some none)
    (aC_House : PySem.W.nsIn K mainGlobals "House" = some (some (.ref c_House)))
    (pg_House : PySem.W.plainGet K c_House Str.empty = true)
    (hd_House : PySem.W.hasDictIn K c_House = true)
    (po_House : PySem.W.plainOver K c_House = true)
    (sa_House : PySem.W.findIn K (.ref c_House) "__setattr__" = some (some (.builtin "object.__setattr__")))
    (mk_House : PySem.W.makesIn K c_House = true)
    (kc_House : PySem.W.keepIn K (.ref c_House) = true)
    (n_House_services : PySem.W.findIn K (.ref c_House) "services" = some none)
    (n_House_clashes : PySem.W.findIn K (.ref c_House) "clashes" = some none)
    (n_House_counts : PySem.W.findIn K (.ref c_House) "counts" = some none)
    (a_Step_init : PySem.W.findIn K (.ref c_Step) "__init__" = some (some (.ref f_Step_init)))
    (i_Step_init : PySem.W.isFn K (.ref f_Step_init) = true)
    (l_Step_init : K.lookup f_Step_init = some ⟨oc_Step_init, od_Step_init, .func (PySem.W.fnOf "__init__" "Step.__init__" (defArgs s_Step_init) (defBody s_Step_init) (defScope s_Step_init) .none kV_Step_init dc_Step_init pm_Step_init an_Step_init cd_Step_init ct_Step_init), sl_Step_init⟩)
    (c_Step_init : PySem.W.codeIn K cd_Step_init "Step.__init__" = true)
    (k_Step_init : PySem.W.keepIn K (.ref f_Step_init) = true)
    (a_all_of_version : PySem.W.nsIn K mainGlobals "all_of_version" = some (some (.ref f_all_of_version)))
    (l_all_of_version : K.lookup f_all_of_version = some ⟨oc_all_of_version, od_all_of_version, .func (PySem.W.fnOf "all_of_version" "all_of_version" (defArgs s_all_of_version) (defBody s_all_of_version) (defScope s_all_of_version) .none kV_all_of_version dc_all_of_version pm_all_of_version an_all_of_version cd_all_of_version ct_all_of_version), sl_all_of_version⟩)
    (c_all_of_version : PySem.W.codeIn K cd_all_of_version "all_of_version" = true)
    (k_all_of_version : PySem.W.keepIn K (.ref f_all_of_version) = true)
    (a_wanted_counts : PySem.W.nsIn K mainGlobals "wanted_counts" = some (some (.ref f_wanted_counts)))
    (l_wanted_counts : K.lookup f_wanted_counts = some ⟨oc_wanted_counts, od_wanted_counts, .func (PySem.W.fnOf "wanted_counts" "wanted_counts" (defArgs s_wanted_counts) (defBody s_wanted_counts) (defScope s_wanted_counts) .none kV_wanted_counts dc_wanted_counts pm_wanted_counts an_wanted_counts cd_wanted_counts ct_wanted_counts), sl_wanted_counts⟩)
    (c_wanted_counts : PySem.W.codeIn K cd_wanted_counts "wanted_counts" = true)
    (k_wanted_counts : PySem.W.keepIn K (.ref f_wanted_counts) = true)
    (a_is_there : PySem.W.nsIn K mainGlobals "is_there" = some (some (.ref f_is_there)))
    (l_is_there : K.lookup f_is_there = some ⟨oc_is_there, od_is_there, .func (PySem.W.fnOf "is_there" "is_there" (defArgs s_is_there) (defBody s_is_there) (defScope s_is_there) .none kV_is_there dc_is_there pm_is_there an_is_there cd_is_there ct_is_there), sl_is_there⟩)
    (c_is_there : PySem.W.codeIn K cd_is_there "is_there" = true)
    (k_is_there : PySem.W.keepIn K (.ref f_is_there) = true)
    (a_counts_behind : PySem.W.nsIn K mainGlobals "counts_behind" = some (some (.ref f_counts_behind)))
    (l_counts_behind : K.lookup f_counts_behind = some ⟨oc_counts_behind, od_counts_behind, .func (PySem.W.fnOf "counts_behind" "counts_behind" (defArgs s_counts_behind) (defBody s_counts_behind) (defScope s_counts_behind) .none kV_counts_behind dc_counts_behind pm_counts_behind an_counts_behind cd_counts_behind ct_counts_behind), sl_counts_behind⟩)
    (c_counts_behind : PySem.W.codeIn K cd_counts_behind "counts_behind" = true)
    (k_counts_behind : PySem.W.keepIn K (.ref f_counts_behind) = true)
    (a_can_be_done : PySem.W.nsIn K mainGlobals "can_be_done" = some (some (.ref f_can_be_done)))
    (l_can_be_done : K.lookup f_can_be_done = some ⟨oc_can_be_done, od_can_be_done, .func (PySem.W.fnOf "can_be_done" "can_be_done" (defArgs s_can_be_done) (defBody s_can_be_done) (defScope s_can_be_done) .none kV_can_be_done dc_can_be_done pm_can_be_done an_can_be_done cd_can_be_done ct_can_be_done), sl_can_be_done⟩)
    (c_can_be_done : PySem.W.codeIn K cd_can_be_done "can_be_done" = true)
    (k_can_be_done : PySem.W.keepIn K (.ref f_can_be_done) = true)
    (a_has_clash_between : PySem.W.nsIn K mainGlobals "has_clash_between" = some (some (.ref f_has_clash_between)))
    (l_has_clash_between : K.lookup f_has_clash_between = some ⟨oc_has_clash_between, od_has_clash_between, .func (PySem.W.fnOf "has_clash_between" "has_clash_between" (defArgs s_has_clash_between) (defBody s_has_clash_between) (defScope s_has_clash_between) .none kV_has_clash_between dc_has_clash_between pm_has_clash_between an_has_clash_between cd_has_clash_between ct_has_clash_between), sl_has_clash_between⟩)
    (c_has_clash_between : PySem.W.codeIn K cd_has_clash_between "has_clash_between" = true)
    (k_has_clash_between : PySem.W.keepIn K (.ref f_has_clash_between) = true)
    (a_may_be_done : PySem.W.nsIn K mainGlobals "may_be_done" = some (some (.ref f_may_be_done)))
    (l_may_be_done : K.lookup f_may_be_done = some ⟨oc_may_be_done, od_may_be_done, .func (PySem.W.fnOf "may_be_done" "may_be_done" (defArgs s_may_be_done) (defBody s_may_be_done) (defScope s_may_be_done) .none kV_may_be_done dc_may_be_done pm_may_be_done an_may_be_done cd_may_be_done ct_may_be_done), sl_may_be_done⟩)
    (c_may_be_done : PySem.W.codeIn K cd_may_be_done "may_be_done" = true)
    (k_may_be_done : PySem.W.keepIn K (.ref f_may_be_done) = true)
    (a_steps_from : PySem.W.nsIn K mainGlobals "steps_from" = some (some (.ref f_steps_from)))
    (l_steps_from : K.lookup f_steps_from = some ⟨oc_steps_from, od_steps_from, .func (PySem.W.fnOf "steps_from" "steps_from" (defArgs s_steps_from) (defBody s_steps_from) (defScope s_steps_from) .none kV_steps_from dc_steps_from pm_steps_from an_steps_from cd_steps_from ct_steps_from), sl_steps_from⟩)
    (c_steps_from : PySem.W.codeIn K cd_steps_from "steps_from" = true)
    (k_steps_from : PySem.W.keepIn K (.ref f_steps_from) = true)
    (a_counts_before : PySem.W.nsIn K mainGlobals "counts_before" = some (some (.ref f_counts_before)))
    (l_counts_before : K.lookup f_counts_before = some ⟨oc_counts_before, od_counts_before, .func (PySem.W.fnOf "counts_before" "counts_before" (defArgs s_counts_before) (defBody s_counts_before) (defScope s_counts_before) .none kV_counts_before dc_counts_before pm_counts_before an_counts_before cd_counts_before ct_counts_before), sl_counts_before⟩)
    (c_counts_before : PySem.W.codeIn K cd_counts_before "counts_before" = true)
    (k_counts_before : PySem.W.keepIn K (.ref f_counts_before) = true)
    (a_fewest_steps : PySem.W.nsIn K mainGlobals "fewest_steps" = some (some (.ref f_fewest_steps)))
    (l_fewest_steps : K.lookup f_fewest_steps = some ⟨oc_fewest_steps, od_fewest_steps, .func (PySem.W.fnOf "fewest_steps" "fewest_steps" (defArgs s_fewest_steps) (defBody s_fewest_steps) (defScope s_fewest_steps) .none kV_fewest_steps dc_fewest_steps pm_fewest_steps an_fewest_steps cd_fewest_steps ct_fewest_steps), sl_fewest_steps⟩)
    (c_fewest_steps : PySem.W.codeIn K cd_fewest_steps "fewest_steps" = true)
    (k_fewest_steps : PySem.W.keepIn K (.ref f_fewest_steps) = true)
    (a_first_step_nearer : PySem.W.nsIn K mainGlobals "first_step_nearer" = some (some (.ref f_first_step_nearer)))
    (l_first_step_nearer : K.lookup f_first_step_nearer = some ⟨oc_first_step_nearer, od_first_step_nearer, .func (PySem.W.fnOf "first_step_nearer" "first_step_nearer" (defArgs s_first_step_nearer) (defBody s_first_step_nearer) (defScope s_first_step_nearer) .none kV_first_step_nearer dc_first_step_nearer pm_first_step_nearer an_first_step_nearer cd_first_step_nearer ct_first_step_nearer), sl_first_step_nearer⟩)
    (c_first_step_nearer : PySem.W.codeIn K cd_first_step_nearer "first_step_nearer" = true)
    (k_first_step_nearer : PySem.W.keepIn K (.ref f_first_step_nearer) = true)
    (a_planned_steps : PySem.W.nsIn K mainGlobals "planned_steps" = some (some (.ref f_planned_steps)))
    (l_planned_steps : K.lookup f_planned_steps = some ⟨oc_planned_steps, od_planned_steps, .func (PySem.W.fnOf "planned_steps" "planned_steps" (defArgs s_planned_steps) (defBody s_planned_steps) (defScope s_planned_steps) .none kV_planned_steps dc_planned_steps pm_planned_steps an_planned_steps cd_planned_steps ct_planned_steps), sl_planned_steps⟩)
    (c_planned_steps : PySem.W.codeIn K cd_planned_steps "planned_steps" = true)
    (k_planned_steps : PySem.W.keepIn K (.ref f_planned_steps) = true)
    (a_Service_init : PySem.W.findIn K (.ref c_Service) "__init__" = some (some (.ref f_Service_init)))
    (i_Service_init : PySem.W.isFn K (.ref f_Service_init) = true)
    (l_Service_init : K.lookup f_Service_init = some ⟨oc_Service_init, od_Service_init, .func (PySem.W.fnOf "__init__" "Service.__init__" (defArgs s_Service_init) (defBody s_Service_init) (defScope s_Service_init) .none kV_Service_init dc_Service_init pm_Service_init an_Service_init cd_Service_init ct_Service_init), sl_Service_init⟩)
    (c_Service_init : PySem.W.codeIn K cd_Service_init "Service.__init__" = true)
    (k_Service_init : PySem.W.keepIn K (.ref f_Service_init) = true)
    (a_House_begin : PySem.W.findIn K (.ref c_House) "begin" = some (some (.ref f_House_begin)))
    (i_House_begin : PySem.W.isFn K (.ref f_House_begin) = true)
    (l_House_begin : K.lookup f_House_begin = some ⟨oc_House_begin, od_House_begin, .func (PySem.W.fnOf "begin" "House.begin" (defArgs s_House_begin) (defBody s_House_begin) (defScope s_House_begin) .none kV_House_begin dc_House_begin pm_House_begin an_House_begin cd_House_begin ct_House_begin), sl_House_begin⟩)
    (c_House_begin : PySem.W.codeIn K cd_House_begin "House.begin" = true)
    (k_House_begin : PySem.W.keepIn K (.ref f_House_begin) = true)
    (a_House_init : PySem.W.findIn K (.ref c_House) "__init__" = some (some (.ref f_House_init)))
    (i_House_init : PySem.W.isFn K (.ref f_House_init) = true)
    (l_House_init : K.lookup f_House_init = some ⟨oc_House_init, od_House_init, .func (PySem.W.fnOf "__init__" "House.__init__" (defArgs s_House_init) (defBody s_House_init) (defScope s_House_init) .none kV_House_init dc_House_init pm_House_init an_House_init cd_House_init ct_House_init), sl_House_init⟩)
    (c_House_init : PySem.W.codeIn K cd_House_init "House.__init__" = true)
    (k_House_init : PySem.W.keepIn K (.ref f_House_init) = true)
    (a_are_in_range : PySem.W.nsIn K mainGlobals "are_in_range" = some (some (.ref f_are_in_range)))
    (l_are_in_range : K.lookup f_are_in_range = some ⟨oc_are_in_range, od_are_in_range, .func (PySem.W.fnOf "are_in_range" "are_in_range" (defArgs s_are_in_range) (defBody s_are_in_range) (defScope s_are_in_range) .none kV_are_in_range dc_are_in_range pm_are_in_range an_are_in_range cd_are_in_range ct_are_in_range), sl_are_in_range⟩)
    (c_are_in_range : PySem.W.codeIn K cd_are_in_range "are_in_range" = true)
    (k_are_in_range : PySem.W.keepIn K (.ref f_are_in_range) = true)
    (a_House_add_service : PySem.W.findIn K (.ref c_House) "add_service" = some (some (.ref f_House_add_service)))
    (i_House_add_service : PySem.W.isFn K (.ref f_House_add_service) = true)
    (l_House_add_service : K.lookup f_House_add_service = some ⟨oc_House_add_service, od_House_add_service, .func (PySem.W.fnOf "add_service" "House.add_service" (defArgs s_House_add_service) (defBody s_House_add_service) (defScope s_House_add_service) .none kV_House_add_service dc_House_add_service pm_House_add_service an_House_add_service cd_House_add_service ct_House_add_service), sl_House_add_service⟩)
    (c_House_add_service : PySem.W.codeIn K cd_House_add_service "House.add_service" = true)
    (k_House_add_service : PySem.W.keepIn K (.ref f_House_add_service) = true)
    (a_House_has_version : PySem.W.findIn K (.ref c_House) "has_version" = some (some (.ref f_House_has_version)))
    (i_House_has_version : PySem.W.isFn K (.ref f_House_has_version) = true)
    (l_House_has_version : K.lookup f_House_has_version = some ⟨oc_House_has_version, od_House_has_version, .func (PySem.W.fnOf "has_version" "House.has_version" (defArgs s_House_has_version) (defBody s_House_has_version) (defScope s_House_has_version) .none kV_House_has_version dc_House_has_version pm_House_has_version an_House_has_version cd_House_has_version ct_House_has_version), sl_House_has_version⟩)
    (c_House_has_version : PySem.W.codeIn K cd_House_has_version "House.has_version" = true)
    (k_House_has_version : PySem.W.keepIn K (.ref f_House_has_version) = true)
    (a_House_add_move : PySem.W.findIn K (.ref c_House) "add_move" = some (some (.ref f_House_add_move)))
    (i_House_add_move : PySem.W.isFn K (.ref f_House_add_move) = true)
    (l_House_add_move : K.lookup f_House_add_move = some ⟨oc_House_add_move, od_House_add_move, .func (PySem.W.fnOf "add_move" "House.add_move" (defArgs s_House_add_move) (defBody s_House_add_move) (defScope s_House_add_move) .none kV_House_add_move dc_House_add_move pm_House_add_move an_House_add_move cd_House_add_move ct_House_add_move), sl_House_add_move⟩)
    (c_House_add_move : PySem.W.codeIn K cd_House_add_move "House.add_move" = true)
    (k_House_add_move : PySem.W.keepIn K (.ref f_House_add_move) = true)
    (a_House_has_clash : PySem.W.findIn K (.ref c_House) "has_clash" = some (some (.ref f_House_has_clash)))
    (i_House_has_clash : PySem.W.isFn K (.ref f_House_has_clash) = true)
    (l_House_has_clash : K.lookup f_House_has_clash = some ⟨oc_House_has_clash, od_House_has_clash, .func (PySem.W.fnOf "has_clash" "House.has_clash" (defArgs s_House_has_clash) (defBody s_House_has_clash) (defScope s_House_has_clash) .none kV_House_has_clash dc_House_has_clash pm_House_has_clash an_House_has_clash cd_House_has_clash ct_House_has_clash), sl_House_has_clash⟩)
    (c_House_has_clash : PySem.W.codeIn K cd_House_has_clash "House.has_clash" = true)
    (k_House_has_clash : PySem.W.keepIn K (.ref f_House_has_clash) = true)
    (a_House_add_clash : PySem.W.findIn K (.ref c_House) "add_clash" = some (some (.ref f_House_add_clash)))
    (i_House_add_clash : PySem.W.isFn K (.ref f_House_add_clash) = true)
    (l_House_add_clash : K.lookup f_House_add_clash = some ⟨oc_House_add_clash, od_House_add_clash, .func (PySem.W.fnOf "add_clash" "House.add_clash" (defArgs s_House_add_clash) (defBody s_House_add_clash) (defScope s_House_add_clash) .none kV_House_add_clash dc_House_add_clash pm_House_add_clash an_House_add_clash cd_House_add_clash ct_House_add_clash), sl_House_add_clash⟩)
    (c_House_add_clash : PySem.W.codeIn K cd_House_add_clash "House.add_clash" = true)
    (k_House_add_clash : PySem.W.keepIn K (.ref f_House_add_clash) = true)
    (a_House_take_step : PySem.W.findIn K (.ref c_House) "take_step" = some (some (.ref f_House_take_step)))
    (i_House_take_step : PySem.W.isFn K (.ref f_House_take_step) = true)
    (l_House_take_step : K.lookup f_House_take_step = some ⟨oc_House_take_step, od_House_take_step, .func (PySem.W.fnOf "take_step" "House.take_step" (defArgs s_House_take_step) (defBody s_House_take_step) (defScope s_House_take_step) .none kV_House_take_step dc_House_take_step pm_House_take_step an_House_take_step cd_House_take_step ct_House_take_step), sl_House_take_step⟩)
    (c_House_take_step : PySem.W.codeIn K cd_House_take_step "House.take_step" = true)
    (k_House_take_step : PySem.W.keepIn K (.ref f_House_take_step) = true)
    (a_step_numbers : PySem.W.nsIn K mainGlobals "step_numbers" = some (some (.ref f_step_numbers)))
    (l_step_numbers : K.lookup f_step_numbers = some ⟨oc_step_numbers, od_step_numbers, .func (PySem.W.fnOf "step_numbers" "step_numbers" (defArgs s_step_numbers) (defBody s_step_numbers) (defScope s_step_numbers) .none kV_step_numbers dc_step_numbers pm_step_numbers an_step_numbers cd_step_numbers ct_step_numbers), sl_step_numbers⟩)
    (c_step_numbers : PySem.W.codeIn K cd_step_numbers "step_numbers" = true)
    (k_step_numbers : PySem.W.keepIn K (.ref f_step_numbers) = true)
    (a_House_tell_plan : PySem.W.findIn K (.ref c_House) "tell_plan" = some (some (.ref f_House_tell_plan)))
    (i_House_tell_plan : PySem.W.isFn K (.ref f_House_tell_plan) = true)
    (l_House_tell_plan : K.lookup f_House_tell_plan = some ⟨oc_House_tell_plan, od_House_tell_plan, .func (PySem.W.fnOf "tell_plan" "House.tell_plan" (defArgs s_House_tell_plan) (defBody s_House_tell_plan) (defScope s_House_tell_plan) .none kV_House_tell_plan dc_House_tell_plan pm_House_tell_plan an_House_tell_plan cd_House_tell_plan ct_House_tell_plan), sl_House_tell_plan⟩)
    (c_House_tell_plan : PySem.W.codeIn K cd_House_tell_plan "House.tell_plan" = true)
    (k_House_tell_plan : PySem.W.keepIn K (.ref f_House_tell_plan) = true)
    (a_House_tell_may : PySem.W.findIn K (.ref c_House) "tell_may" = some (some (.ref f_House_tell_may)))
    (i_House_tell_may : PySem.W.isFn K (.ref f_House_tell_may) = true)
    (l_House_tell_may : K.lookup f_House_tell_may = some ⟨oc_House_tell_may, od_House_tell_may, .func (PySem.W.fnOf "tell_may" "House.tell_may" (defArgs s_House_tell_may) (defBody s_House_tell_may) (defScope s_House_tell_may) .none kV_House_tell_may dc_House_tell_may pm_House_tell_may an_House_tell_may cd_House_tell_may ct_House_tell_may), sl_House_tell_may⟩)
    (c_House_tell_may : PySem.W.codeIn K cd_House_tell_may "House.tell_may" = true)
    (k_House_tell_may : PySem.W.keepIn K (.ref f_House_tell_may) = true)
    (a_House_set_goal : PySem.W.findIn K (.ref c_House) "set_goal" = some (some (.ref f_House_set_goal)))
    (i_House_set_goal : PySem.W.isFn K (.ref f_House_set_goal) = true)
    (l_House_set_goal : K.lookup f_House_set_goal = some ⟨oc_House_set_goal, od_House_set_goal, .func (PySem.W.fnOf "set_goal" "House.set_goal" (defArgs s_House_set_goal) (defBody s_House_set_goal) (defScope s_House_set_goal) .none kV_House_set_goal dc_House_set_goal pm_House_set_goal an_House_set_goal cd_House_set_goal ct_House_set_goal), sl_House_set_goal⟩)
    (c_House_set_goal : PySem.W.codeIn K cd_House_set_goal "House.set_goal" = true)
    (k_House_set_goal : PySem.W.keepIn K (.ref f_House_set_goal) = true)
    (a_House_tell_now : PySem.W.findIn K (.ref c_House) "tell_now" = some (some (.ref f_House_tell_now)))
    (i_House_tell_now : PySem.W.isFn K (.ref f_House_tell_now) = true)
    (l_House_tell_now : K.lookup f_House_tell_now = some ⟨oc_House_tell_now, od_House_tell_now, .func (PySem.W.fnOf "tell_now" "House.tell_now" (defArgs s_House_tell_now) (defBody s_House_tell_now) (defScope s_House_tell_now) .none kV_House_tell_now dc_House_tell_now pm_House_tell_now an_House_tell_now cd_House_tell_now ct_House_tell_now), sl_House_tell_now⟩)
    (c_House_tell_now : PySem.W.codeIn K cd_House_tell_now "House.tell_now" = true)
    (k_House_tell_now : PySem.W.keepIn K (.ref f_House_tell_now) = true)
    (a_answer : PySem.W.nsIn K mainGlobals "answer" = some (some (.ref f_answer)))
    (l_answer : K.lookup f_answer = some ⟨oc_answer, od_answer, .func (PySem.W.fnOf "answer" "answer" (defArgs s_answer) (defBody s_answer) (defScope s_answer) .none kV_answer dc_answer pm_answer an_answer cd_answer ct_answer), sl_answer⟩)
    (c_answer : PySem.W.codeIn K cd_answer "answer" = true)
    (k_answer : PySem.W.keepIn K (.ref f_answer) = true)
    (a_answers : PySem.W.nsIn K mainGlobals "answers" = some (some (.ref f_answers)))
    (l_answers : K.lookup f_answers = some ⟨oc_answers, od_answers, .func (PySem.W.fnOf "answers" "answers" (defArgs s_answers) (defBody s_answers) (defScope s_answers) .none kV_answers dc_answers pm_answers an_answers cd_answers ct_answers), sl_answers⟩)
    (c_answers : PySem.W.codeIn K cd_answers "answers" = true)
    (k_answers : PySem.W.keepIn K (.ref f_answers) = true)
    (g_BEGINS : PySem.W.nsIn K mainGlobals "BEGINS" = some (some (.int (0) t_BEGINS)))
    (g_BOTH_THERE : PySem.W.nsIn K mainGlobals "BOTH_THERE" = some (some (.int (-5) t_BOTH_THERE)))
    (g_CANNOT_BE_DONE : PySem.W.nsIn K mainGlobals "CANNOT_BE_DONE" = some (some (.int (-2) t_CANNOT_BE_DONE)))
    (g_CLASH : PySem.W.nsIn K mainGlobals "CLASH" = some (some (.int (3) t_CLASH)))
    (g_DONE : PySem.W.nsIn K mainGlobals "DONE" = some (some (.int (0) t_DONE)))
    (g_FULL : PySem.W.nsIn K mainGlobals "FULL" = some (some (.int (-7) t_FULL)))
    (g_GOAL : PySem.W.nsIn K mainGlobals "GOAL" = some (some (.int (7) t_GOAL)))
    (g_MAY : PySem.W.nsIn K mainGlobals "MAY" = some (some (.int (6) t_MAY)))
    (g_MAY_NOT_BE_DONE : PySem.W.nsIn K mainGlobals "MAY_NOT_BE_DONE" = some (some (.int (-5) t_MAY_NOT_BE_DONE)))
    (g_MOST_CLASHES : PySem.W.nsIn K mainGlobals "MOST_CLASHES" = some (some (.int (20) t_MOST_CLASHES)))
    (g_MOST_COPIES : PySem.W.nsIn K mainGlobals "MOST_COPIES" = some (some (.int (2) t_MOST_COPIES)))
    (g_MOST_SERVICES : PySem.W.nsIn K mainGlobals "MOST_SERVICES" = some (some (.int (3) t_MOST_SERVICES)))
    (g_MOST_VERSIONS : PySem.W.nsIn K mainGlobals "MOST_VERSIONS" = some (some (.int (3) t_MOST_VERSIONS)))
    (g_MOVE : PySem.W.nsIn K mainGlobals "MOVE" = some (some (.int (2) t_MOVE)))
    (g_NOT_NEW : PySem.W.nsIn K mainGlobals "NOT_NEW" = some (some (.int (-4) t_NOT_NEW)))
    (g_NO_SUCH : PySem.W.nsIn K mainGlobals "NO_SUCH" = some (some (.int (-2) t_NO_SUCH)))
    (g_NO_WAY : PySem.W.nsIn K mainGlobals "NO_WAY" = some (some (.int (-6) t_NO_WAY)))
    (g_NO_WAY_ON : PySem.W.nsIn K mainGlobals "NO_WAY_ON" = some (some (.int (0) t_NO_WAY_ON)))
    (g_NUMBERS_BEHIND : PySem.W.nsIn K mainGlobals "NUMBERS_BEHIND" = some (some (.ref e_NUMBERS_BEHIND)))
    (l_NUMBERS_BEHIND : K.lookup e_NUMBERS_BEHIND = some ⟨.type "dict", none, .dict #[⟨0, .int 0 t0_NUMBERS_BEHIND, .int 0 u0_NUMBERS_BEHIND⟩, ⟨1, .int 1 t1_NUMBERS_BEHIND, .int 4 u1_NUMBERS_BEHIND⟩, ⟨2, .int 2 t2_NUMBERS_BEHIND, .int 3 u2_NUMBERS_BEHIND⟩, ⟨3, .int 3 t3_NUMBERS_BEHIND, .int 4 u3_NUMBERS_BEHIND⟩, ⟨4, .int 4 t4_NUMBERS_BEHIND, .int 4 u4_NUMBERS_BEHIND⟩, ⟨5, .int 5 t5_NUMBERS_BEHIND, .int 0 u5_NUMBERS_BEHIND⟩, ⟨6, .int 6 t6_NUMBERS_BEHIND, .int 0 u6_NUMBERS_BEHIND⟩, ⟨7, .int 7 t7_NUMBERS_BEHIND, .int 2 u7_NUMBERS_BEHIND⟩, ⟨8, .int 8 t8_NUMBERS_BEHIND, .int 0 u8_NUMBERS_BEHIND⟩] n_NUMBERS_BEHIND, #[]⟩)
    (g_OUT_OF_RANGE : PySem.W.nsIn K mainGlobals "OUT_OF_RANGE" = some (some (.int (-1) t_OUT_OF_RANGE)))
    (g_PLAN : PySem.W.nsIn K mainGlobals "PLAN" = some (some (.int (5) t_PLAN)))
    (g_SERVICE : PySem.W.nsIn K mainGlobals "SERVICE" = some (some (.int (1) t_SERVICE)))
    (g_STEP : PySem.W.nsIn K mainGlobals "STEP" = some (some (.int (4) t_STEP)))
    (b_len : PySem.W.nsIn K mainGlobals "len" = some none)
    (b_list : PySem.W.nsIn K mainGlobals "list" = some none)
    (b_range : PySem.W.nsIn K mainGlobals "range" = some none)
    (b_sorted : PySem.W.nsIn K mainGlobals "sorted" = some none)
    (b_tuple : PySem.W.nsIn K mainGlobals "tuple" = some none)
    : ∃ fd : FuncData, (∀ (s : Shared) (us : List Value), us.length = p_answers.length → BindsTo s fd ⟨us, []⟩ (p_answers.zip us)) ∧ ∀ base : Heap, K.In base → base.Ns mainGlobals mg → FnOk P w K mg base CX0 10 fa fd p_answers (sp_answers K) := by
  have e := hfa.symm.trans (PySem.W.mg_of X G a_answers)
  cases e
  obtain ⟨A, eA, T, hB⟩ := tx_mk X G aC_Step pg_Step hd_Step po_Step sa_Step mk_Step kc_Step n_Step_service n_Step_old n_Step_new n_Step_copies aC_Service pg_Service hd_Service po_Service sa_Service mk_Service kc_Service n_Service_copies n_Service_up n_Service_versions n_Service_wanted n_Service_moves aC_House pg_House hd_House po_House sa_House mk_House kc_House n_House_services n_House_clashes n_House_counts a_Step_init i_Step_init l_Step_init c_Step_init k_Step_init a_all_of_version l_all_of_version c_all_of_version k_all_of_version a_wanted_counts l_wanted_counts c_wanted_counts k_wanted_counts a_is_there l_is_there c_is_there k_is_there a_counts_behind l_counts_behind c_counts_behind k_counts_behind a_can_be_done l_can_be_done c_can_be_done k_can_be_done a_has_clash_between l_has_clash_between c_has_clash_between k_has_clash_between a_may_be_done l_may_be_done c_may_be_done k_may_be_done a_steps_from l_steps_from c_steps_from k_steps_from a_counts_before l_counts_before c_counts_before k_counts_before a_fewest_steps l_fewest_steps c_fewest_steps k_fewest_steps a_first_step_nearer l_first_step_nearer c_first_step_nearer k_first_step_nearer a_planned_steps l_planned_steps c_planned_steps k_planned_steps a_Service_init i_Service_init l_Service_init c_Service_init k_Service_init a_House_begin i_House_begin l_House_begin c_House_begin k_House_begin a_House_init i_House_init l_House_init c_House_init k_House_init a_are_in_range l_are_in_range c_are_in_range k_are_in_range a_House_add_service i_House_add_service l_House_add_service c_House_add_service k_House_add_service a_House_has_version i_House_has_version l_House_has_version c_House_has_version k_House_has_version a_House_add_move i_House_add_move l_House_add_move c_House_add_move k_House_add_move a_House_has_clash i_House_has_clash l_House_has_clash c_House_has_clash k_House_has_clash a_House_add_clash i_House_add_clash l_House_add_clash c_House_add_clash k_House_add_clash a_House_take_step i_House_take_step l_House_take_step c_House_take_step k_House_take_step a_step_numbers l_step_numbers c_step_numbers k_step_numbers a_House_tell_plan i_House_tell_plan l_House_tell_plan c_House_tell_plan k_House_tell_plan a_House_tell_may i_House_tell_may l_House_tell_may c_House_tell_may k_House_tell_may a_House_set_goal i_House_set_goal l_House_set_goal c_House_set_goal k_House_set_goal a_House_tell_now i_House_tell_now l_House_tell_now c_House_tell_now k_House_tell_now a_answer l_answer c_answer k_answer a_answers l_answers c_answers k_answers g_BEGINS g_BOTH_THERE g_CANNOT_BE_DONE g_CLASH g_DONE g_FULL g_GOAL g_MAY g_MAY_NOT_BE_DONE g_MOST_CLASHES g_MOST_COPIES g_MOST_SERVICES g_MOST_VERSIONS g_MOVE g_NOT_NEW g_NO_SUCH g_NO_WAY g_NO_WAY_ON g_NUMBERS_BEHIND l_NUMBERS_BEHIND g_OUT_OF_RANGE g_PLAN g_SERVICE g_STEP b_len b_list b_range b_sorted b_tuple
  subst eA
  exact ⟨A.d_answers, hB, fun base _ _ => ok_all T⟩

end Up
open PySem PySem.W PyProof.Rows
set_option maxRecDepth 100000 in
set_option maxHeartbeats 0 in
theorem PySem.Challenge.cw_upgradeways_s01_answers_holds : PySem.Challenge.rw_upgradeways_s01_answers.Holds := by
  w_on; k_headS; (case hw => exact ⟨[.list [.int 0]], by decide +kernel, by decide +kernel⟩)
  k_fillS
  refine L2.walk_specK (r := PySem.Challenge.rw_upgradeways_s01_answers) (k := 10) (CX := L2.CX0) (ps := Up.p_answers) (sp := Up.sp_answers) (by decide +kernel) rfl rfl ⟨rfl, by decide, by decide⟩ (fun w h Y => PySem.W.kIn_of Y) ?F ?S (fun _ _ _ _ z => z)
  case F =>
    intro w mg fa h Y KX G hmg
    refine' Up.all_mk KX G hmg ?h_aC_Step ?h_pg_Step ?h_hd_Step ?h_po_Step ?h_sa_Step ?h_mk_Step ?h_kc_Step ?h_n_Step_service ?h_n_Step_old ?h_n_Step_new ?h_n_Step_copies ?h_aC_Service ?h_pg_Service ?h_hd_Service ?h_po_Service ?h_sa_Service ?h_mk_Service ?h_kc_Service ?h_n_Service_copies ?h_n_Service_up ?h_n_Service_versions ?h_n_Service_wanted ?h_n_Service_moves ?h_aC_House ?h_pg_House ?h_hd_House ?h_po_House ?h_sa_House ?h_mk_House ?h_kc_House ?h_n_House_services ?h_n_House_clashes ?h_n_House_counts ?h_a_Step_init ?h_i_Step_init ?h_l_Step_init ?h_c_Step_init ?h_k_Step_init ?h_a_all_of_version ?h_l_all_of_version ?h_c_all_of_version ?h_k_all_of_version ?h_a_wanted_counts ?h_l_wanted_counts ?h_c_wanted_counts ?h_k_wanted_counts ?h_a_is_there ?h_l_is_there ?h_c_is_there ?h_k_is_there ?h_a_counts_behind ?h_l_counts_behind ?h_c_counts_behind ?h_k_counts_behind ?h_a_can_be_done ?h_l_can_be_done ?h_c_can_be_done ?h_k_can_be_done ?h_a_has_clash_between ?h_l_has_clash_between ?h_c_has_clash_between ?h_k_has_clash_between ?h_a_may_be_done ?h_l_may_be_done ?h_c_may_be_done ?h_k_may_be_done ?h_a_steps_from ?h_l_steps_from ?h_c_steps_from ?h_k_steps_from ?h_a_counts_before ?h_l_counts_before ?h_c_counts_before ?h_k_counts_before ?h_a_fewest_steps ?h_l_fewest_steps ?h_c_fewest_steps ?h_k_fewest_steps ?h_a_first_step_nearer ?h_l_first_step_nearer ?h_c_first_step_nearer ?h_k_first_step_nearer ?h_a_planned_steps ?h_l_planned_steps ?h_c_planned_steps ?h_k_planned_steps ?h_a_Service_init ?h_i_Service_init ?h_l_Service_init ?h_c_Service_init ?h_k_Service_init ?h_a_House_begin ?h_i_House_begin ?h_l_House_begin ?h_c_House_begin ?h_k_House_begin ?h_a_House_init ?h_i_House_init ?h_l_House_init ?h_c_House_init ?h_k_House_init ?h_a_are_in_range ?h_l_are_in_range ?h_c_are_in_range ?h_k_are_in_range ?h_a_House_add_service ?h_i_House_add_service ?h_l_House_add_service ?h_c_House_add_service ?h_k_House_add_service ?h_a_House_has_version ?h_i_House_has_version ?h_l_House_has_version ?h_c_House_has_version ?h_k_House_has_version ?h_a_House_add_move ?h_i_House_add_move ?h_l_House_add_move ?h_c_House_add_move ?h_k_House_add_move ?h_a_House_has_clash ?h_i_House_has_clash ?h_l_House_has_clash ?h_c_House_has_clash ?h_k_House_has_clash ?h_a_House_add_clash ?h_i_House_add_clash ?h_l_House_add_clash ?h_c_House_add_clash ?h_k_House_add_clash ?h_a_House_take_step ?h_i_House_take_step ?h_l_House_take_step ?h_c_House_take_step ?h_k_House_take_step ?h_a_step_numbers ?h_l_step_numbers ?h_c_step_numbers ?h_k_step_numbers ?h_a_House_tell_plan ?h_i_House_tell_plan ?h_l_House_tell_plan ?h_c_House_tell_plan ?h_k_House_tell_plan ?h_a_House_tell_may ?h_i_House_tell_may ?h_l_House_tell_may ?h_c_House_tell_may ?h_k_House_tell_may ?h_a_House_set_goal ?h_i_House_set_goal ?h_l_House_set_goal ?h_c_House_set_goal ?h_k_House_set_goal ?h_a_House_tell_now ?h_i_House_tell_now ?h_l_House_tell_now ?h_c_House_tell_now ?h_k_House_tell_now ?h_a_answer ?h_l_answer ?h_c_answer ?h_k_answer ?h_a_answers ?h_l_answers ?h_c_answers ?h_k_answers ?h_g_BEGINS ?h_g_BOTH_THERE ?h_g_CANNOT_BE_DONE ?h_g_CLASH ?h_g_DONE ?h_g_FULL ?h_g_GOAL ?h_g_MAY ?h_g_MAY_NOT_BE_DONE ?h_g_MOST_CLASHES ?h_g_MOST_COPIES ?h_g_MOST_SERVICES ?h_g_MOST_VERSIONS ?h_g_MOVE ?h_g_NOT_NEW ?h_g_NO_SUCH ?h_g_NO_WAY ?h_g_NO_WAY_ON ?h_g_NUMBERS_BEHIND ?h_l_NUMBERS_BEHIND ?h_g_OUT_OF_RANGE ?h_g_PLAN ?h_g_SERVICE ?h_g_STEP ?h_b_len ?h_b_list ?h_b_range ?h_b_sorted ?h_b_tuple
    (case h_aC_Step => k_is)
    (case h_pg_Step => k_is)
    (case h_hd_Step => k_is)
    (case h_po_Step => k_is)
    (case h_sa_Step => k_is)
    (case h_mk_Step => k_is)
    (case h_kc_Step => k_is)
    (case h_n_Step_service => k_is)
    (case h_n_Step_old => k_is)
    (case h_n_Step_new => k_is)
    (case h_n_Step_copies => k_is)
    (case h_aC_Service => k_is)
    (case h_pg_Service => k_is)
    (case h_hd_Service => k_is)
    (case h_po_Service => k_is)
    (case h_sa_Service => k_is)
    (case h_mk_Service => k_is)
    (case h_kc_Service => k_is)
    (case h_n_Service_copies => k_is)
    (case h_n_Service_up => k_is)
    (case h_n_Service_versions => k_is)
    (case h_n_Service_wanted => k_is)
    (case h_n_Service_moves => k_is)
    (case h_aC_House => k_is)
    (case h_pg_House => k_is)
    (case h_hd_House => k_is)
    (case h_po_House => k_is)
    (case h_sa_House => k_is)
    (case h_mk_House => k_is)
    (case h_kc_House => k_is)
    (case h_n_House_services => k_is)
    (case h_n_House_clashes => k_is)
    (case h_n_House_counts => k_is)
    (case h_a_Step_init => k_is)
    (case h_i_Step_init => k_is)
    (case h_l_Step_init => k_is)
    (case h_c_Step_init => k_is)
    (case h_k_Step_init => k_is)
    (case h_a_all_of_version => k_is)
    (case h_l_all_of_version => k_is)
    (case h_c_all_of_version => k_is)
    (case h_k_all_of_version => k_is)
    (case h_a_wanted_counts => k_is)
    (case h_l_wanted_counts => k_is)
    (case h_c_wanted_counts => k_is)
    (case h_k_wanted_counts => k_is)
    (case h_a_is_there => k_is)
    (case h_l_is_there => k_is)
    (case h_c_is_there => k_is)
    (case h_k_is_there => k_is)
    (case h_a_counts_behind => k_is)
    (case h_l_counts_behind => k_is)
    (case h_c_counts_behind => k_is)
    (case h_k_counts_behind => k_is)
    (case h_a_can_be_done => k_is)
    (case h_l_can_be_done => k_is)
    (case h_c_can_be_done => k_is)
    (case h_k_can_be_done => k_is)
    (case h_a_has_clash_between => k_is)
    (case h_l_has_clash_between => k_is)
    (case h_c_has_clash_between => k_is)
    (case h_k_has_clash_between => k_is)
    (case h_a_may_be_done => k_is)
    (case h_l_may_be_done => k_is)
    (case h_c_may_be_done => k_is)
    (case h_k_may_be_done => k_is)
    (case h_a_steps_from => k_is)
    (case h_l_steps_from => k_is)
    (case h_c_steps_from => k_is)
    (case h_k_steps_from => k_is)
    (case h_a_counts_before => k_is)
    (case h_l_counts_before => k_is)
    (case h_c_counts_before => k_is)
    (case h_k_counts_before => k_is)
    (case h_a_fewest_steps => k_is)
    (case h_l_fewest_steps => k_is)
    (case h_c_fewest_steps => k_is)
    (case h_k_fewest_steps => k_is)
    (case h_a_first_step_nearer => k_is)
    (case h_l_first_step_nearer => k_is)
    (case h_c_first_step_nearer => k_is)
    (case h_k_first_step_nearer => k_is)
    (case h_a_planned_steps => k_is)
    (case h_l_planned_steps => k_is)
    (case h_c_planned_steps => k_is)
    (case h_k_planned_steps => k_is)
    (case h_a_Service_init => k_is)
    (case h_i_Service_init => k_is)
    (case h_l_Service_init => k_is)
    (case h_c_Service_init => k_is)
    (case h_k_Service_init => k_is)
    (case h_a_House_begin => k_is)
    (case h_i_House_begin => k_is)
    (case h_l_House_begin => k_is)
    (case h_c_House_begin => k_is)
    (case h_k_House_begin => k_is)
    (case h_a_House_init => k_is)
    (case h_i_House_init => k_is)
    (case h_l_House_init => k_is)
    (case h_c_House_init => k_is)
    (case h_k_House_init => k_is)
    (case h_a_are_in_range => k_is)
    (case h_l_are_in_range => k_is)
    (case h_c_are_in_range => k_is)
    (case h_k_are_in_range => k_is)
    (case h_a_House_add_service => k_is)
    (case h_i_House_add_service => k_is)
    (case h_l_House_add_service => k_is)
    (case h_c_House_add_service => k_is)
    (case h_k_House_add_service => k_is)
    (case h_a_House_has_version => k_is)
    (case h_i_House_has_version => k_is)
    (case h_l_House_has_version => k_is)
    (case h_c_House_has_version => k_is)
    (case h_k_House_has_version => k_is)
    (case h_a_House_add_move => k_is)
    (case h_i_House_add_move => k_is)
    (case h_l_House_add_move => k_is)
    (case h_c_House_add_move => k_is)
    (case h_k_House_add_move => k_is)
    (case h_a_House_has_clash => k_is)
    (case h_i_House_has_clash => k_is)
    (case h_l_House_has_clash => k_is)
    (case h_c_House_has_clash => k_is)
    (case h_k_House_has_clash => k_is)
    (case h_a_House_add_clash => k_is)
    (case h_i_House_add_clash => k_is)
    (case h_l_House_add_clash => k_is)
    (case h_c_House_add_clash => k_is)
    (case h_k_House_add_clash => k_is)
    (case h_a_House_take_step => k_is)
    (case h_i_House_take_step => k_is)
    (case h_l_House_take_step => k_is)
    (case h_c_House_take_step => k_is)
    (case h_k_House_take_step => k_is)
    (case h_a_step_numbers => k_is)
    (case h_l_step_numbers => k_is)
    (case h_c_step_numbers => k_is)
    (case h_k_step_numbers => k_is)
    (case h_a_House_tell_plan => k_is)
    (case h_i_House_tell_plan => k_is)
    (case h_l_House_tell_plan => k_is)
    (case h_c_House_tell_plan => k_is)
    (case h_k_House_tell_plan => k_is)
    (case h_a_House_tell_may => k_is)
    (case h_i_House_tell_may => k_is)
    (case h_l_House_tell_may => k_is)
    (case h_c_House_tell_may => k_is)
    (case h_k_House_tell_may => k_is)
    (case h_a_House_set_goal => k_is)
    (case h_i_House_set_goal => k_is)
    (case h_l_House_set_goal => k_is)
    (case h_c_House_set_goal => k_is)
    (case h_k_House_set_goal => k_is)
    (case h_a_House_tell_now => k_is)
    (case h_i_House_tell_now => k_is)
    (case h_l_House_tell_now => k_is)
    (case h_c_House_tell_now => k_is)
    (case h_k_House_tell_now => k_is)
    (case h_a_answer => k_is)
    (case h_l_answer => k_is)
    (case h_c_answer => k_is)
    (case h_k_answer => k_is)
    (case h_a_answers => k_is)
    (case h_l_answers => k_is)
    (case h_c_answers => k_is)
    (case h_k_answers => k_is)
    (case h_g_BEGINS => k_is)
    (case h_g_BOTH_THERE => k_is)
    (case h_g_CANNOT_BE_DONE => k_is)
    (case h_g_CLASH => k_is)
    (case h_g_DONE => k_is)
    (case h_g_FULL => k_is)
    (case h_g_GOAL => k_is)
    (case h_g_MAY => k_is)
    (case h_g_MAY_NOT_BE_DONE => k_is)
    (case h_g_MOST_CLASHES => k_is)
    (case h_g_MOST_COPIES => k_is)
    (case h_g_MOST_SERVICES => k_is)
    (case h_g_MOST_VERSIONS => k_is)
    (case h_g_MOVE => k_is)
    (case h_g_NOT_NEW => k_is)
    (case h_g_NO_SUCH => k_is)
    (case h_g_NO_WAY => k_is)
    (case h_g_NO_WAY_ON => k_is)
    (case h_g_NUMBERS_BEHIND => k_is)
    (case h_l_NUMBERS_BEHIND => k_is)
    (case h_g_OUT_OF_RANGE => k_is)
    (case h_g_PLAN => k_is)
    (case h_g_SERVICE => k_is)
    (case h_g_STEP => k_is)
    (case h_b_len => k_is)
    (case h_b_list => k_is)
    (case h_b_range => k_is)
    (case h_b_sorted => k_is)
    (case h_b_tuple => k_is)
  case S =>
    intro K H xs a hO hwi hask hx
    cases hx with
    | cons h1 h2 =>
      cases h2
      cases h1 with
      | lst hs ha =>
        have e := L2.ints_dw a.1 _ ha
        subst e
        have q : ((Codec.inLen 0 300 a.1 && a.1.all (Codec.inInt 0 4294967295)) && true) = true := hwi
        rw [Bool.and_eq_true, Bool.and_eq_true] at q
        exact ⟨_, a.1, rfl, hs, (Codec.inNat_iff.mp q.1.1).2, fun z hz => ((Codec.inInt_iff.mp (List.all_eq_true.mp q.1.2 z hz)).1), hask, fun H' p hp => .lst (L2.SqL.of hp) (L2.dw_ints _)⟩
