import PyProof.Rows.All
import Wide.All
import OpenK.AllK
import Wide.FinOn
import PyProof.EqAt
import PyProof.EqKinds
import PyProof.TupleCall
import Open.SpecLaws
import KE.OsGo
import KE.SortKeyHeap
import KE.DatumOrd
import HandS.ForSpec
import HandS.ForMost
import HandS.Lambda
import HandS.Nested
import HandS.OwnEq
import HandS.SortKw
import KE.SortCalls
import HandS.More
import HandS.TupLe
import HandS.WrittenGet
import HandS.DictEq
import HandS.DeepEq
import HandS.Base
import HandS.Call
import HandS.List
import HandS.Dict
import HandS.Iter
import KE.KDictZip
import PyProof.ListNew
import PyProof.CollectWalk
import HandS.Words
import PySem.Challenge.RW_manyhandsheet_s01_answers
import KE.KNestM
import KE.OsRun
section
set_option autoImplicit false
namespace My
open Sq28
/-! ## Trees -/
def Srt (t : Tree) : Prop := t.Pairwise fun p q => p.thing < q.thing
theorem get_mem {t : Tree} {x : Nat} {p : Place} (h : get t x = some p) : p ∈ t ∧ p.thing = x := by
  unfold Sq28.get at h
  exact ⟨List.mem_of_find?_eq_some h, by have := List.find?_some h; simpa using this⟩
theorem get_none {t : Tree} {x : Nat} : get t x = none ↔ ∀ p ∈ t, p.thing ≠ x := by
  unfold Sq28.get
  rw [List.find?_eq_none]
  simp
theorem get_of_mem : ∀ {t : Tree} {p : Place}, Srt t → p ∈ t → get t p.thing = some p
  | [], p, _, h => by cases h
  | q :: t, p, hs, h => by
    rw [Srt, List.pairwise_cons] at hs
    unfold Sq28.get
    rw [List.find?_cons]
    rcases List.mem_cons.mp h with e | h
    · rw [e]; simp
    · have := hs.1 p h
      have e : (q.thing == p.thing) = false := by simp; omega
      rw [e]
      exact get_of_mem (t := t) hs.2 h
theorem put_srt {t : Tree} (p : Place) (hs : Srt t) : Srt (put p t) := by
  unfold Srt put
  rw [List.pairwise_append]
  refine ⟨List.Pairwise.filter _ hs, ?_, ?_⟩
  · rw [List.pairwise_cons]
    refine ⟨fun q hq => ?_, List.Pairwise.filter _ hs⟩
    have := (List.mem_filter.mp hq).2
    simpa using this
  · intro a ha b hb
    have h1 : a.thing < p.thing := by have := (List.mem_filter.mp ha).2; simpa using this
    rcases List.mem_cons.mp hb with e | hb
    · rw [e]; exact h1
    · have h2 : p.thing < b.thing := by have := (List.mem_filter.mp hb).2; simpa using this
      omega
theorem mem_put {t : Tree} {p q : Place} : q ∈ put p t ↔ q = p ∨ (q ∈ t ∧ q.thing ≠ p.thing) := by
  unfold put
  simp only [List.mem_append, List.mem_cons, List.mem_filter, decide_eq_true_eq]
  constructor
  · rintro (⟨h1, h2⟩ | h | ⟨h1, h2⟩)
    · exact .inr ⟨h1, by omega⟩
    · exact .inl h
    · exact .inr ⟨h1, by omega⟩
  · rintro (h | ⟨h1, h2⟩)
    · exact .inr (.inl h)
    · rcases Nat.lt_or_gt_of_ne h2 with h | h
      · exact .inl ⟨h1, h⟩
      · exact .inr (.inr ⟨h1, h⟩)
theorem get_put_same {t : Tree} {p : Place} (hs : Srt t) : get (put p t) p.thing = some p := get_of_mem (put_srt p hs) (mem_put.mpr (.inl rfl))
theorem get_put_ne {t : Tree} {p : Place} {x : Nat} (hs : Srt t) (h : x ≠ p.thing) : get (put p t) x = get t x := by
  cases e : get t x with
  | none =>
    rw [get_none] at e ⊢
    intro q hq
    rcases mem_put.mp hq with z | ⟨z, _⟩
    · rw [z]; exact h.symm
    · exact e q z
  | some q =>
    obtain ⟨h1, h2⟩ := get_mem e
    rw [← h2]
    exact get_of_mem (put_srt p hs) (mem_put.mpr (.inr ⟨h1, by rw [h2]; exact h⟩))
/-- the same things at the same places: the same tree -/
theorem tree_ext : ∀ {t u : Tree}, Srt t → Srt u → (∀ p, p ∈ t ↔ p ∈ u) → t = u
  | [], [], _, _, _ => rfl
  | [], q :: u, _, _, h => by have := (h q).mpr (List.mem_cons_self ..); cases this
  | p :: t, [], _, _, h => by have := (h p).mp (List.mem_cons_self ..); cases this
  | p :: t, q :: u, hs, hu, h => by
    rw [Srt, List.pairwise_cons] at hs hu
    have e : p = q := by
      rcases List.mem_cons.mp ((h p).mp (List.mem_cons_self ..)) with e | h1
      · exact e
      · rcases List.mem_cons.mp ((h q).mpr (List.mem_cons_self ..)) with e | h2
        · exact e.symm
        · have := hs.1 q h2
          have := hu.1 p h1
          omega
    subst e
    refine congrArg (List.cons p) (tree_ext hs.2 hu.2 fun r => ⟨fun hr => ?_, fun hr => ?_⟩)
    · rcases List.mem_cons.mp ((h r).mp (List.mem_cons_of_mem _ hr)) with e | h1
      · have := hs.1 r hr
        rw [e] at this
        omega
      · exact h1
    · rcases List.mem_cons.mp ((h r).mpr (List.mem_cons_of_mem _ hr)) with e | h1
      · have := hu.1 r hr
        rw [e] at this
        omega
      · exact h1
theorem tree_ext_get {t u : Tree} (hs : Srt t) (hu : Srt u) (h : ∀ x, get t x = get u x) : t = u := by
  refine tree_ext hs hu fun p => ⟨fun hp => ?_, fun hp => ?_⟩
  · have := get_of_mem hs hp
    rw [h] at this
    exact (get_mem this).1
  · have := get_of_mem hu hp
    rw [← h] at this
    exact (get_mem this).1
/-! ## The chain above a thing ends -/
inductive Ends (t : Tree) : Nat → Nat → Prop
  | stop {x : Nat} : get t x = none → Ends t x 0
  | up {x n : Nat} {p : Place} : get t x = some p → Ends t p.under n → Ends t x (n + 1)
theorem Ends.det {t : Tree} {x n : Nat} (h : Ends t x n) : ∀ {m : Nat}, Ends t x m → n = m := by
  induction h with
  | stop h0 =>
    intro m h
    cases h with
    | stop _ => rfl
    | up h1 _ => rw [h0] at h1; cases h1
  | up h0 _ ih =>
    intro m h
    cases h with
    | stop h1 => rw [h0] at h1; cases h1
    | up h1 h2 =>
      rw [h0] at h1
      cases h1
      rw [ih h2]
/-- the chain itself, as far as it ends -/
inductive Chain (t : Tree) : Nat → List Nat → Prop
  | stop {x : Nat} : get t x = none → Chain t x [x]
  | up {x : Nat} {l : List Nat} {p : Place} : get t x = some p → Chain t p.under l → Chain t x (x :: l)
theorem Ends.chain {t : Tree} {x n : Nat} (h : Ends t x n) : ∃ l, Chain t x l ∧ l.length = n + 1 := by
  induction h with
  | stop h0 => exact ⟨_, .stop h0, rfl⟩
  | up h0 _ ih =>
    obtain ⟨l, h1, h2⟩ := ih
    exact ⟨_, .up h0 h1, by rw [List.length_cons, h2]⟩
theorem Chain.det {t : Tree} {x : Nat} {l : List Nat} (h : Chain t x l) : ∀ {m : List Nat}, Chain t x m → l = m := by
  induction h with
  | stop h0 =>
    intro m h
    cases h with
    | stop _ => rfl
    | up h1 _ => rw [h0] at h1; cases h1
  | up h0 _ ih =>
    intro m h
    cases h with
    | stop h1 => rw [h0] at h1; cases h1
    | up h1 h2 =>
      rw [h0] at h1
      cases h1
      rw [ih h2]
/-- what stands in a chain has a chain that is its tail -/
theorem Chain.tail {t : Tree} {x y : Nat} {l : List Nat} (h : Chain t x l) : y ∈ l → ∃ a b, l = a ++ b ∧ Chain t y b := by
  induction h with
  | stop h0 =>
    intro hy
    obtain rfl := List.mem_singleton.mp hy
    exact ⟨[], _, rfl, .stop h0⟩
  | @up x l p h0 hc ih =>
    intro hy
    rcases List.mem_cons.mp hy with e | hy
    · subst e
      exact ⟨[], _, rfl, .up h0 hc⟩
    · obtain ⟨a, b, e, hb⟩ := ih hy
      exact ⟨x :: a, b, by rw [e]; rfl, hb⟩
theorem Chain.nodup {t : Tree} {x : Nat} {l : List Nat} (h : Chain t x l) : l.Nodup := by
  induction h with
  | stop h0 => simp
  | @up x l p h0 hc ih =>
    rw [List.nodup_cons]
    refine ⟨fun hx => ?_, ih⟩
    obtain ⟨a, b, e, hb⟩ := hc.tail hx
    have := (Chain.up h0 hc).det hb
    have hl : (x :: l).length = b.length := by rw [this]
    rw [e, List.length_cons, List.length_append] at hl
    omega
theorem Chain.head {t : Tree} {x : Nat} {l : List Nat} (h : Chain t x l) : ∃ r, l = x :: r := by
  cases h with
  | stop _ => exact ⟨_, rfl⟩
  | up _ _ => exact ⟨_, rfl⟩
/-- pigeons -/
theorem nodup_len : ∀ {l m : List Nat}, l.Nodup → (∀ x ∈ l, x ∈ m) → l.length ≤ m.length
  | [], m, _, _ => Nat.zero_le _
  | x :: l, m, hn, h => by
    rw [List.nodup_cons] at hn
    have hx := h x (List.mem_cons_self ..)
    have := nodup_len (l := l) (m := m.erase x) hn.2 fun y hy => by
      have hne : y ≠ x := fun e => hn.1 (e ▸ hy)
      exact (List.mem_erase_of_ne hne).mpr (h y (List.mem_cons_of_mem _ hy))
    rw [List.length_erase_of_mem hx] at this
    have : 0 < m.length := List.length_pos_of_mem hx
    rw [List.length_cons]
    omega
theorem Chain.init {t : Tree} {x : Nat} {l : List Nat} (h : Chain t x l) : ∃ i y, l = i ++ [y] ∧ get t y = none ∧ ∀ z ∈ i, z ∈ t.map (·.thing) := by
  induction h with
  | @stop x h0 => exact ⟨[], x, rfl, h0, fun z hz => by cases hz⟩
  | @up x l p h0 hc ih =>
    obtain ⟨i, y, e, h1, h2⟩ := ih
    refine ⟨x :: i, y, by rw [e]; rfl, h1, fun z hz => ?_⟩
    rcases List.mem_cons.mp hz with e | hz
    · obtain ⟨h3, h4⟩ := get_mem h0
      exact List.mem_map.mpr ⟨p, h3, by rw [h4, e]⟩
    · exact h2 z hz
theorem Chain.len {t : Tree} {x : Nat} {l : List Nat} (h : Chain t x l) : l.length ≤ t.length + 1 := by
  obtain ⟨i, y, e, _, h2⟩ := h.init
  have hn := h.nodup
  rw [e] at hn
  have := nodup_len (List.nodup_append.mp hn).1 h2
  rw [List.length_map] at this
  rw [e, List.length_append]
  simp
  omega
theorem line_chain {t : Tree} {x : Nat} {l : List Nat} (h : Chain t x l) : ∀ {f : Nat}, l.length ≤ f → line t f x = l := by
  induction h with
  | @stop x h0 =>
    intro f hf
    cases f with
    | zero => simp at hf
    | succ f => rw [line, h0]
  | @up x l p h0 hc ih =>
    intro f hf
    cases f with
    | zero => simp at hf
    | succ f =>
      rw [line, h0]
      show x :: line t f p.under = _
      rw [ih (by rw [List.length_cons] at hf; omega)]
/-- every chain ends -/
def Good (t : Tree) : Prop := ∀ x, ∃ l, Chain t x l
theorem Good.above {t : Tree} (g : Good t) (x : Nat) : Chain t x (above t x) := by
  obtain ⟨l, h⟩ := g x
  have e : Sq28.above t x = l := line_chain h h.len
  rw [e]
  exact h
theorem above_none {t : Tree} {x : Nat} (g : Good t) (h : get t x = none) : above t x = [x] := (g.above x).det (.stop h)
theorem above_some {t : Tree} {x : Nat} {p : Place} (g : Good t) (h : get t x = some p) : above t x = x :: above t p.under := (g.above x).det (.up h (g.above p.under))
theorem good_nil : Good [] := fun x => ⟨[x], .stop rfl⟩
theorem chain_put_out {t : Tree} {q : Place} {y : Nat} {l : List Nat} (hs : Srt t) (h : Chain t y l) : q.thing ∉ l → Chain (put q t) y l := by
  induction h with
  | @stop x h0 =>
    intro hx
    exact .stop (by rw [get_put_ne hs fun e => hx (by rw [e]; simp)]; exact h0)
  | @up x l p h0 hc ih =>
    intro hx
    refine .up (p := p) ?_ (ih fun z => hx (List.mem_cons_of_mem _ z))
    rw [get_put_ne hs fun e => hx (by rw [e]; simp)]
    exact h0
theorem good_put {t : Tree} {q : Place} (hs : Srt t) (g : Good t) (h : q.thing ∉ above t q.under) : Good (put q t) := by
  have hu : Chain (put q t) q.under (above t q.under) := chain_put_out hs (g.above _) h
  have hq : Chain (put q t) q.thing (q.thing :: above t q.under) := .up (get_put_same hs) hu
  intro x
  obtain ⟨l, hl⟩ := g x
  suffices H : ∀ y m, Chain t y m → ∃ l, Chain (put q t) y l from H x l hl
  intro y m hm
  induction hm with
  | @stop z h0 =>
    by_cases e : z = q.thing
    · rw [e]; exact ⟨_, hq⟩
    · exact ⟨_, .stop (by rw [get_put_ne hs e]; exact h0)⟩
  | @up z l p h0 hc ih =>
    by_cases e : z = q.thing
    · rw [e]; exact ⟨_, hq⟩
    · obtain ⟨l', hl'⟩ := ih
      exact ⟨_, .up (by rw [get_put_ne hs e]; exact h0) hl'⟩
/-! ## The tree of some deeds -/
structure Tr (t : Tree) : Prop where
  srt : Srt t
  good : Good t
  two : ∀ p ∈ t, 2 ≤ p.thing ∧ p.thing < 64
theorem Tr.nil : Tr [] := ⟨List.Pairwise.nil, good_nil, fun p h => by cases h⟩
theorem Tr.root {t : Tree} (h : Tr t) : get t 0 = none := get_none.mpr fun p hp => by have := (h.two p hp).1; omega
theorem Tr.bin {t : Tree} (h : Tr t) : get t 1 = none := get_none.mpr fun p hp => by have := (h.two p hp).1; omega
theorem Tr.len {t : Tree} (h : Tr t) : t.length ≤ 62 := by
  have hn : (t.map (·.thing)).Nodup := by
    rw [List.nodup_iff_pairwise_ne, List.pairwise_map]
    exact h.srt.imp fun h => by omega
  have := nodup_len (m := (List.range 62).map (· + 2)) hn fun x hx => by
    obtain ⟨p, hp, e⟩ := List.mem_map.mp hx
    have := h.two p hp
    rw [List.mem_map]
    exact ⟨x - 2, List.mem_range.mpr (by omega), by omega⟩
  rw [List.length_map, List.length_map, List.length_range] at this
  exact this
theorem Tr.done {t : Tree} {d : Deed} (h : Tr t) (h2 : 2 ≤ d.thing) (h3 : d.thing < 64) : Tr (done t d) := by
  unfold Sq28.done
  split
  · rename_i ho
    have hc : d.thing ∉ Sq28.above t d.under := by
      intro hc
      unfold outcome at ho
      split at ho
      · cases ho
      · rw [if_pos (by simpa using hc)] at ho
        cases ho
    refine ⟨put_srt _ h.srt, good_put h.srt h.good hc, fun p hp => ?_⟩
    rcases mem_put.mp hp with e | ⟨hp, _⟩
    · rw [e]; exact ⟨h2, h3⟩
    · exact h.two p hp
  · exact h
theorem tr_foldl : ∀ (l : List Deed) (t : Tree), Tr t → (∀ d ∈ l, 2 ≤ d.thing ∧ d.thing < 64) → Tr (l.foldl done t)
  | [], t, h, _ => h
  | d :: l, t, h, hd => tr_foldl l _ (h.done (hd d (List.mem_cons_self ..)).1 (hd d (List.mem_cons_self ..)).2) fun e he => hd e (List.mem_cons_of_mem _ he)
theorem tr_treeOf {l : List Deed} (h : ∀ d ∈ l, 2 ≤ d.thing ∧ d.thing < 64) : Tr (treeOf l) := tr_foldl l [] Tr.nil h
/-! ## What is within a thing -/
theorem under_len {t : Tree} {x n : Nat} (h : Ends t x n) (hs : Srt t) {p : Place} (hp : p ∈ under t x) : Ends t p.thing (n + 1) := by
  obtain ⟨h1, h2⟩ := List.mem_filter.mp hp
  have e : p.under = x := by simpa using h2
  exact .up (get_of_mem hs h1) (by rw [e]; exact h)
theorem Ends.le {t : Tree} {x n : Nat} (h : Ends t x n) : n ≤ t.length := by
  obtain ⟨l, h1, h2⟩ := h.chain
  have := h1.len
  omega
theorem listed_more {t : Tree} (hs : Srt t) : ∀ (f : Nat) {x n d : Nat}, Ends t x n → t.length + 1 ≤ f + n → listed t f d x = listed t (f + 1) d x
  | 0, x, n, d, h, hf => by have := h.le; omega
  | f + 1, x, n, d, h, hf => by
    rw [listed, listed]
    unfold List.flatMap
    refine congrArg List.flatten (List.map_congr_left fun p hp => ?_)
    rw [listed_more hs f (under_len h hs hp) (by omega)]
theorem listed_to {t : Tree} (hs : Srt t) {x n d : Nat} (h : Ends t x n) {f : Nat} (hf : t.length + 1 ≤ f + n) : ∀ k, listed t (f + k) d x = listed t f d x
  | 0 => rfl
  | k + 1 => by
    show listed t ((f + k) + 1) d x = _
    rw [← listed_more hs (f + k) h (by omega)]
    exact listed_to hs h hf k
theorem chain_ends {t : Tree} {x : Nat} {l : List Nat} (h : Chain t x l) : Ends t x (l.length - 1) := by
  induction h with
  | stop h0 => exact .stop h0
  | @up x l p h0 hc ih =>
    have := Ends.up h0 ih
    obtain ⟨r, e⟩ := hc.head
    rw [e] at this ⊢
    exact this
theorem Good.ends {t : Tree} (g : Good t) (x : Nat) : ∃ n, Ends t x n := by
  obtain ⟨l, h⟩ := g x
  exact ⟨_, chain_ends h⟩
/-- all within x, the depth of what's right under it being d -/
def inner (t : Tree) (d x : Nat) : List (Place × Nat) := listed t (t.length + 1) d x
theorem inner_eq {t : Tree} (hs : Srt t) (g : Good t) (d x : Nat) : inner t d x = (under t x).flatMap fun p => (p, d) :: inner t (d + 1) p.thing := by
  unfold inner
  obtain ⟨n, hn⟩ := g.ends x
  have e := listed_to (d := d) hs hn (f := t.length + 1) (by omega) 1
  rw [← e]
  show listed t (t.length + 1 + 1) d x = _
  rw [listed]
end My
end
section
set_option autoImplicit false
set_option linter.unusedVariables false
namespace My
open Sq28
/-! ## Stamps -/
theorem before_iff {a b : Stamp} : a.before b = true ↔ a.count < b.count ∨ (a.count = b.count ∧ a.hand < b.hand) := by
  unfold Stamp.before
  simp
theorem stamp_ext {a b : Stamp} (h1 : a.count = b.count) (h2 : a.hand = b.hand) : a = b := by
  cases a; cases b; cases h1; cases h2; rfl
theorem before_irr {a : Stamp} : ¬ a.before a = true := by rw [before_iff]; omega
theorem before_trans {a b c : Stamp} (h1 : a.before b = true) (h2 : b.before c = true) : a.before c = true := by rw [before_iff] at *; omega
theorem before_tri (a b : Stamp) : a.before b = true ∨ a = b ∨ b.before a = true := by
  rw [before_iff, before_iff]
  by_cases h : a = b
  · exact .inr (.inl h)
  · have : ¬ (a.count = b.count ∧ a.hand = b.hand) := fun ⟨x, y⟩ => h (stamp_ext x y)
    omega
/-! ## Deeds by their stamps -/
def SrtD (l : List Deed) : Prop := l.Pairwise fun d e => d.stamp.before e.stamp = true
theorem SrtD.uniq {l : List Deed} (h : SrtD l) : ∀ {d e : Deed}, d ∈ l → e ∈ l → d.stamp = e.stamp → d = e := by
  induction l with
  | nil => intro d e hd; cases hd
  | cons x l ih =>
    rw [SrtD, List.pairwise_cons] at h
    intro d e hd he hs
    rcases List.mem_cons.mp hd with z | hd <;> rcases List.mem_cons.mp he with y | he
    · rw [z, y]
    · have := h.1 e he
      rw [← z, hs] at this
      exact (before_irr this).elim
    · have := h.1 d hd
      rw [← y, hs] at this
      exact (before_irr this).elim
    · exact ih h.2 hd he hs
theorem SrtD.nodup {l : List Deed} (h : SrtD l) : l.Nodup := by
  rw [List.nodup_iff_pairwise_ne]
  exact h.imp fun {a b} hab e => by rw [e] at hab; exact before_irr hab
theorem srtD_ext : ∀ {l m : List Deed}, SrtD l → SrtD m → (∀ d, d ∈ l ↔ d ∈ m) → l = m
  | [], [], _, _, _ => rfl
  | [], q :: u, _, _, h => by have := (h q).mpr (List.mem_cons_self ..); cases this
  | p :: t, [], _, _, h => by have := (h p).mp (List.mem_cons_self ..); cases this
  | p :: t, q :: u, hs, hu, h => by
    rw [SrtD, List.pairwise_cons] at hs hu
    have e : p = q := by
      rcases List.mem_cons.mp ((h p).mp (List.mem_cons_self ..)) with e | h1
      · exact e
      · rcases List.mem_cons.mp ((h q).mpr (List.mem_cons_self ..)) with e | h2
        · exact e.symm
        · exact (before_irr (before_trans (hs.1 q h2) (hu.1 p h1))).elim
    subst e
    refine congrArg (List.cons p) (srtD_ext hs.2 hu.2 fun r => ⟨fun hr => ?_, fun hr => ?_⟩)
    · rcases List.mem_cons.mp ((h r).mp (List.mem_cons_of_mem _ hr)) with e | h1
      · have := hs.1 r hr
        rw [e] at this
        exact (before_irr this).elim
      · exact h1
    · rcases List.mem_cons.mp ((h r).mpr (List.mem_cons_of_mem _ hr)) with e | h1
      · have := hu.1 r hr
        rw [e] at this
        exact (before_irr this).elim
      · exact h1
theorem learn_mem {d : Deed} : ∀ {l : List Deed}, (∀ e ∈ l, e.stamp = d.stamp → e = d) → ∀ e, e ∈ learn d l ↔ e = d ∨ e ∈ l
  | [], _, e => by simp [learn]
  | x :: l, h, e => by
    rw [learn]
    split
    · simp
    · split
      · rename_i h1 h2
        have := h x (List.mem_cons_self ..) h2.symm
        rw [this]
        simp
      · rw [List.mem_cons, learn_mem (fun y hy => h y (List.mem_cons_of_mem _ hy)), List.mem_cons]
        constructor
        · rintro (z | z | z)
          · exact .inr (.inl z)
          · exact .inl z
          · exact .inr (.inr z)
        · rintro (z | z | z)
          · exact .inr (.inl z)
          · exact .inl z
          · exact .inr (.inr z)
theorem learn_srt {d : Deed} : ∀ {l : List Deed}, SrtD l → (∀ e ∈ l, e.stamp = d.stamp → e = d) → SrtD (learn d l)
  | [], _, _ => by simp [learn, SrtD]
  | x :: l, hs, h => by
    have hs' := hs
    rw [SrtD, List.pairwise_cons] at hs
    rw [learn]
    split
    · rename_i h1
      rw [SrtD, List.pairwise_cons]
      refine ⟨fun y hy => ?_, hs'⟩
      rcases List.mem_cons.mp hy with e | hy
      · rw [e]; exact h1
      · exact before_trans h1 (hs.1 y hy)
    · split
      · exact hs'
      · rename_i h1 h2
        have hl := learn_srt hs.2 fun y hy => h y (List.mem_cons_of_mem _ hy)
        rw [SrtD, List.pairwise_cons]
        refine ⟨fun y hy => ?_, hl⟩
        rcases (learn_mem (fun y hy => h y (List.mem_cons_of_mem _ hy)) y).mp hy with e | hy
        · rw [e]
          rcases before_tri x.stamp d.stamp with z | z | z
          · exact z
          · exact (h2 z.symm).elim
          · exact (h1 z).elim
        · exact hs.1 y hy
theorem learn_last {d : Deed} : ∀ {l : List Deed}, (∀ e ∈ l, e.stamp.before d.stamp = true) → learn d l = l ++ [d]
  | [], _ => rfl
  | x :: l, h => by
    have hx := h x (List.mem_cons_self ..)
    rw [learn, if_neg fun z => before_irr (before_trans hx z), if_neg fun z => by rw [z] at hx; exact before_irr hx, learn_last fun e he => h e (List.mem_cons_of_mem _ he)]
    rfl
theorem learn_in {d : Deed} : ∀ {l : List Deed}, SrtD l → d ∈ l → learn d l = l
  | [], _, h => by cases h
  | x :: l, hs, h => by
    rw [SrtD, List.pairwise_cons] at hs
    rw [learn]
    rcases List.mem_cons.mp h with e | h
    · subst e
      rw [if_neg before_irr, if_pos rfl]
    · have hx := hs.1 d h
      rw [if_neg fun z => before_irr (before_trans hx z), if_neg fun z => by rw [z] at hx; exact before_irr hx, learn_in hs.2 h]
theorem perm_srt {l m : List Deed} (hp : l.Perm m) (hm : SrtD m) (hl : l.Pairwise fun d e => ¬ e.stamp.before d.stamp = true) : l = m := by
  refine srtD_ext ?_ hm fun d => hp.mem_iff
  have hn : l.Nodup := hp.nodup_iff.mpr hm.nodup
  rw [List.nodup_iff_pairwise_ne] at hn
  have h2 := List.Pairwise.and_mem.mp (List.Pairwise.and hl hn)
  refine h2.imp fun {a b} ⟨ha, hb, h3, h4⟩ => ?_
  rcases before_tri a.stamp b.stamp with z | z | z
  · exact z
  · exact (h4 (hm.uniq (hp.mem_iff.mp ha) (hp.mem_iff.mp hb) z)).elim
  · exact (h3 z).elim
/-- the members of a list of deeds tell it -/
theorem same_len {l m : List Deed} (h1 : l.Nodup) (h2 : m.Nodup) (h : ∀ d, d ∈ l ↔ d ∈ m) : l.Perm m := by
  rw [List.perm_iff_count]
  intro d
  rw [List.Nodup.count h1, List.Nodup.count h2]
  by_cases hd : d ∈ l
  · rw [if_pos hd, if_pos ((h d).mp hd)]
  · rw [if_neg hd, if_neg fun z => hd ((h d).mpr z)]
/-! ## The house -/
structure WF (h : House) : Prop where
  ids : ∀ (i : Nat) (d : Deed), h.all[i]? = some d → d.id = i
  rng : ∀ d : Deed, d ∈ h.all → 2 ≤ d.thing ∧ d.thing < 64 ∧ d.under < 64 ∧ d.label ≤ 1000000000
  hand : ∀ d : Deed, d ∈ h.all → ∃ l, h.desks[d.stamp.hand]? = some l ∧ d ∈ l
  desk : ∀ (k : Nat) (l : List Deed), h.desks[k]? = some l → SrtD l ∧ ∀ d ∈ l, d ∈ h.all
  nd : 1 ≤ h.desks.length ∧ h.desks.length ≤ 8
  len : h.all.length ≤ 100
theorem WF.uniq {h : House} (w : WF h) {d e : Deed} (hd : d ∈ h.all) (he : e ∈ h.all) (hs : d.stamp = e.stamp) : d = e := by
  obtain ⟨l, h1, h2⟩ := w.hand d hd
  obtain ⟨m, h3, h4⟩ := w.hand e he
  rw [hs, h3] at h1
  cases h1
  exact (w.desk _ _ h3).1.uniq h2 h4 hs
theorem WF.at_id {h : House} (w : WF h) {d : Deed} (hd : d ∈ h.all) : h.all[d.id]? = some d := by
  obtain ⟨i, hi⟩ := List.mem_iff_getElem?.mp hd
  rw [w.ids i d hi]
  exact hi
theorem WF.id_lt {h : House} (w : WF h) {d : Deed} (hd : d ∈ h.all) : d.id < h.all.length := (List.getElem?_eq_some_iff.mp (w.at_id hd)).1
theorem WF.id_inj {h : House} (w : WF h) {d e : Deed} (hd : d ∈ h.all) (he : e ∈ h.all) (hi : d.id = e.id) : d = e := by
  have := w.at_id hd
  rw [hi, w.at_id he] at this
  exact (Option.some.inj this).symm
theorem WF.desk_len {h : House} (w : WF h) {k : Nat} {l : List Deed} (hk : h.desks[k]? = some l) : l.length ≤ h.all.length := by
  obtain ⟨h1, h2⟩ := w.desk k l hk
  have hn : (l.map (·.id)).Nodup := by
    rw [List.nodup_iff_pairwise_ne, List.pairwise_map]
    have h3 := List.Pairwise.and_mem.mp (List.nodup_iff_pairwise_ne.mp h1.nodup)
    exact h3.imp fun {a b} ⟨ha, hb, hne⟩ z => hne (w.id_inj (h2 a ha) (h2 b hb) z)
  have := nodup_len (m := List.range h.all.length) hn fun x hx => by
    obtain ⟨p, hp, e⟩ := List.mem_map.mp hx
    have := w.id_lt (h2 p hp)
    rw [List.mem_range]
    omega
  rw [List.length_map, List.length_range] at this
  exact this
theorem desk_of {h : House} {k : Nat} {l : List Deed} (hk : h.desks[k]? = some l) : h.desk k = l := by unfold House.desk; rw [hk]; rfl
theorem desk_get {h : House} {k : Nat} (hk : k < h.desks.length) : h.desks[k]? = some (h.desk k) := by
  unfold House.desk
  rw [List.getElem?_eq_getElem hk]
  rfl
theorem WF.srt {h : House} (w : WF h) {k : Nat} (hk : k < h.desks.length) : SrtD (h.desk k) := (w.desk k _ (desk_get hk)).1
theorem WF.sub {h : House} (w : WF h) {k : Nat} (hk : k < h.desks.length) : ∀ d ∈ h.desk k, d ∈ h.all := (w.desk k _ (desk_get hk)).2
theorem WF.tr {h : House} (w : WF h) {k : Nat} (hk : k < h.desks.length) : Tr (h.tree k) := tr_treeOf fun d hd => ⟨(w.rng d (w.sub hk d hd)).1, (w.rng d (w.sub hk d hd)).2.1⟩
theorem wf_fresh : WF fresh := ⟨fun i d h => by simp [fresh] at h, fun d h => by simp [fresh] at h, fun d h => by simp [fresh] at h, fun k l h => by
  cases k with
  | zero => simp [fresh] at h; subst h; exact ⟨List.Pairwise.nil, fun d h => by cases h⟩
  | succ k => simp [fresh] at h, by simp [fresh], by simp [fresh]⟩
theorem wf_begin {n : Nat} (h1 : 1 ≤ n) (h2 : n ≤ 8) : WF ⟨[], List.replicate n []⟩ := ⟨fun i d h => by simp at h, fun d h => by simp at h, fun d h => by simp at h, fun k l h => by
  have : l = [] := by
    have := List.mem_of_getElem? h
    exact (List.mem_replicate.mp this).2
  subst this
  exact ⟨List.Pairwise.nil, fun d h => by cases h⟩, by simpa using ⟨h1, h2⟩, by simp⟩
theorem foldl_max_le : ∀ (l : List Deed) (m : Nat), m ≤ l.foldl (fun (m : Nat) d => max m d.stamp.count) m ∧ ∀ d ∈ l, d.stamp.count ≤ l.foldl (fun (m : Nat) d => max m d.stamp.count) m
  | [], m => ⟨Nat.le_refl _, fun d h => by cases h⟩
  | x :: l, m => by
    obtain ⟨h1, h2⟩ := foldl_max_le l (max m x.stamp.count)
    rw [List.foldl_cons]
    refine ⟨by omega, fun d hd => ?_⟩
    rcases List.mem_cons.mp hd with e | hd
    · rw [e]; omega
    · exact h2 d hd
theorem next_gt {h : House} {k : Nat} {d : Deed} (hd : d ∈ h.desk k) : d.stamp.count < h.next k := by
  have := (foldl_max_le (h.desk k) 0).2 d hd
  unfold House.next
  omega
/-- what move puts behind -/
theorem move_learn {h : House} {k i x u v : Nat} : learn ⟨i, ⟨h.next k, k⟩, x, u, v⟩ (h.desk k) = h.desk k ++ [⟨i, ⟨h.next k, k⟩, x, u, v⟩] :=
  learn_last fun e he => before_iff.mpr (.inl (next_gt he))
theorem set_get {α : Type} {l : List α} {k j : Nat} {x y : α} (h : (l.set k x)[j]? = some y) : (j = k ∧ y = x) ∨ (j ≠ k ∧ l[j]? = some y) := by
  by_cases e : k = j
  · subst e
    rw [List.getElem?_set_self'] at h
    cases q : l[k]? with
    | none => rw [q] at h; cases h
    | some z => rw [q] at h; exact .inl ⟨rfl, (Option.some.inj h).symm⟩
  · rw [List.getElem?_set_ne e] at h
    exact .inr ⟨fun z => e z.symm, h⟩
theorem wf_move {h : House} (w : WF h) {k x u v : Nat} (hk : k < h.desks.length) (hx : 2 ≤ x) (hx2 : x < 64) (hu : u < 64) (hv : v ≤ 1000000000) (hl : h.all.length < 100) :
    WF (House.set ⟨h.all ++ [⟨h.all.length, ⟨h.next k, k⟩, x, u, v⟩], h.desks⟩ k (h.desk k ++ [⟨h.all.length, ⟨h.next k, k⟩, x, u, v⟩])) := by
  have hsrt : SrtD (h.desk k ++ [⟨h.all.length, ⟨h.next k, k⟩, x, u, v⟩]) := by
    rw [SrtD, List.pairwise_append]
    refine ⟨w.srt hk, by simp, fun a ha b hb => ?_⟩
    rw [List.mem_singleton.mp hb]
    exact before_iff.mpr (.inl (next_gt ha))
  refine ⟨fun i d hi => ?_, fun d hd => ?_, fun d hd => ?_, fun j l hj => ?_, ?_, ?_⟩
  · have hi : (h.all ++ [⟨h.all.length, ⟨h.next k, k⟩, x, u, v⟩])[i]? = some d := hi
    by_cases hlt : i < h.all.length
    · rw [List.getElem?_append_left hlt] at hi
      exact w.ids i d hi
    · rw [List.getElem?_append_right (by omega)] at hi
      cases e : i - h.all.length with
      | zero =>
        rw [e] at hi
        have : _ = d := Option.some.inj hi
        rw [← this]
        show h.all.length = i
        omega
      | succ n => rw [e] at hi; simp at hi
  · rcases List.mem_append.mp (show d ∈ h.all ++ [_] from hd) with hd | hd
    · exact w.rng d hd
    · rw [List.mem_singleton.mp hd]
      exact ⟨hx, hx2, hu, hv⟩
  · show ∃ l, (h.desks.set k _)[d.stamp.hand]? = some l ∧ d ∈ l
    rcases List.mem_append.mp (show d ∈ h.all ++ [_] from hd) with hd | hd
    · obtain ⟨l, h1, h2⟩ := w.hand d hd
      by_cases e : k = d.stamp.hand
      · refine ⟨h.desk k ++ [⟨h.all.length, ⟨h.next k, k⟩, x, u, v⟩], ?_, ?_⟩
        · rw [← e, List.getElem?_set_self hk]
        · rw [← e] at h1
          rw [desk_of h1]
          exact List.mem_append.mpr (.inl h2)
      · exact ⟨l, by rw [List.getElem?_set_ne e]; exact h1, h2⟩
    · rw [List.mem_singleton.mp hd]
      exact ⟨_, List.getElem?_set_self hk, by simp⟩
  · have hj : (h.desks.set k _)[j]? = some l := hj
    rcases set_get hj with ⟨_, e⟩ | ⟨_, e⟩
    · rw [e]
      refine ⟨hsrt, fun d hd => ?_⟩
      rcases List.mem_append.mp hd with z | z
      · exact List.mem_append.mpr (.inl (w.sub hk d z))
      · exact List.mem_append.mpr (.inr z)
    · exact ⟨(w.desk j l e).1, fun d hd => List.mem_append.mpr (.inl ((w.desk j l e).2 d hd))⟩
  · show 1 ≤ (h.desks.set k _).length ∧ (h.desks.set k _).length ≤ 8
    rw [List.length_set]
    exact w.nd
  · show (h.all ++ [_]).length ≤ 100
    rw [List.length_append]
    simp
    omega
/-- a desk that knows more, by stamps -/
theorem wf_set {h : House} (w : WF h) {k : Nat} {m : List Deed} (hk : k < h.desks.length) (hs : SrtD m) (hm : ∀ d ∈ m, d ∈ h.all) (hsup : ∀ d ∈ h.desk k, d ∈ m) : WF (h.set k m) := by
  refine ⟨w.ids, w.rng, fun d hd => ?_, fun j l hj => ?_, ?_, w.len⟩
  · show ∃ l, (h.desks.set k _)[d.stamp.hand]? = some l ∧ d ∈ l
    obtain ⟨l, h1, h2⟩ := w.hand d hd
    by_cases e : k = d.stamp.hand
    · refine ⟨m, by rw [← e, List.getElem?_set_self hk], ?_⟩
      rw [← e] at h1
      rw [← desk_of h1] at h2
      exact hsup d h2
    · exact ⟨l, by rw [List.getElem?_set_ne e]; exact h1, h2⟩
  · have hj : (h.desks.set k _)[j]? = some l := hj
    rcases set_get hj with ⟨_, e⟩ | ⟨_, e⟩
    · rw [e]; exact ⟨hs, hm⟩
    · exact w.desk j l e
  · show 1 ≤ (h.desks.set k _).length ∧ (h.desks.set k _).length ≤ 8
    rw [List.length_set]
    exact w.nd
theorem desk_set {h : House} {k : Nat} {m : List Deed} (hk : k < h.desks.length) : (h.set k m).desk k = m := by
  unfold House.desk House.set
  rw [List.getElem?_set_self hk]
  rfl
theorem desk_set_ne {h : House} {k j : Nat} {m : List Deed} (hk : k ≠ j) : (h.set k m).desk j = h.desk j := by
  unfold House.desk House.set
  rw [List.getElem?_set_ne hk]
/-! ## tell -/
theorem learn_new {h : House} (w : WF h) {k : Nat} {d : Deed} (hk : k < h.desks.length) (hd : d ∈ h.all) : SrtD (learn d (h.desk k)) ∧ ∀ e, e ∈ learn d (h.desk k) ↔ e = d ∨ e ∈ h.desk k :=
  ⟨learn_srt (w.srt hk) fun e he hs => w.uniq (w.sub hk e he) hd hs, learn_mem fun e he hs => w.uniq (w.sub hk e he) hd hs⟩
theorem tell_perm {h : House} (w : WF h) {k : Nat} {d : Deed} (hk : k < h.desks.length) (hd : d ∈ h.all) (hn : d ∉ h.desk k) : (h.desk k ++ [d]).Perm (learn d (h.desk k)) := by
  obtain ⟨h1, h2⟩ := learn_new w hk hd
  refine same_len ?_ h1.nodup fun e => ?_
  · rw [List.nodup_append]
    refine ⟨(w.srt hk).nodup, by simp, fun a ha b hb e => ?_⟩
    rw [List.mem_singleton.mp hb] at e
    rw [e] at ha
    exact hn ha
  · rw [h2, List.mem_append, List.mem_singleton]
    exact Or.comm
theorem wf_tell {h : House} (w : WF h) {k : Nat} {d : Deed} (hk : k < h.desks.length) (hd : d ∈ h.all) : WF (h.set k (learn d (h.desk k))) := by
  obtain ⟨h1, h2⟩ := learn_new w hk hd
  refine wf_set w hk h1 (fun e he => ?_) fun e he => (h2 e).mpr (.inr he)
  rcases (h2 e).mp he with z | z
  · rw [z]; exact hd
  · exact w.sub hk e z
/-! ## meet -/
def joined (a b : List Deed) : List Deed := b.foldl (fun (m : List Deed) d => learn d m) a
theorem joined_ok {u : List Deed} (hu : ∀ d ∈ u, ∀ e ∈ u, d.stamp = e.stamp → d = e) : ∀ (b a : List Deed), SrtD a → (∀ d ∈ a, d ∈ u) → (∀ d ∈ b, d ∈ u) → SrtD (joined a b) ∧ ∀ e, e ∈ joined a b ↔ e ∈ a ∨ e ∈ b
  | [], a, hs, _, _ => ⟨hs, fun e => by simp [joined]⟩
  | d :: b, a, hs, ha, hb => by
    have hd := hb d (List.mem_cons_self ..)
    have hq : ∀ e ∈ a, e.stamp = d.stamp → e = d := fun e he hs => hu e (ha e he) d hd hs
    have hm := learn_mem hq
    obtain ⟨h1, h2⟩ := joined_ok hu b (learn d a) (learn_srt hs hq) (fun e he => by
      rcases (hm e).mp he with z | z
      · rw [z]; exact hd
      · exact ha e z) fun e he => hb e (List.mem_cons_of_mem _ he)
    refine ⟨h1, fun e => ?_⟩
    show e ∈ joined (learn d a) b ↔ _
    rw [h2, hm, List.mem_cons]
    constructor
    · rintro ((z | z) | z)
      · exact .inr (.inl z)
      · exact .inl z
      · exact .inr (.inr z)
    · rintro (z | z | z)
      · exact .inl (.inr z)
      · exact .inl (.inl z)
      · exact .inr z
theorem WF.joined {h : House} (w : WF h) {k j : Nat} (hk : k < h.desks.length) (hj : j < h.desks.length) : SrtD (joined (h.desk k) (h.desk j)) ∧ ∀ e, e ∈ My.joined (h.desk k) (h.desk j) ↔ e ∈ h.desk k ∨ e ∈ h.desk j :=
  joined_ok (u := h.all) (fun d hd e he hs => w.uniq hd he hs) _ _ (w.srt hk) (w.sub hk) (w.sub hj)
theorem union_perm {a b l : List Deed} (ha : SrtD a) (hb : SrtD b) (hl : SrtD l) (h : ∀ e, e ∈ l ↔ e ∈ a ∨ e ∈ b) : (a ++ b.filter fun d => decide (d ∉ a)).Perm l := by
  refine same_len ?_ hl.nodup fun e => ?_
  · rw [List.nodup_append]
    refine ⟨ha.nodup, hb.nodup.filter _, fun x hx y hy e => ?_⟩
    have := (List.mem_filter.mp hy).2
    rw [← e] at this
    simp at this
    exact this hx
  · rw [h, List.mem_append, List.mem_filter]
    simp
    constructor
    · rintro (z | ⟨z, _⟩)
      · exact .inl z
      · exact .inr z
    · rintro (z | z)
      · exact .inl z
      · by_cases q : e ∈ a
        · exact .inl q
        · exact .inr ⟨z, q⟩
theorem union_len {a b l : List Deed} (ha : SrtD a) (hb : SrtD b) (hl : SrtD l) (h : ∀ e, e ∈ l ↔ e ∈ a ∨ e ∈ b) : l.length = a.length + (b.filter fun d => decide (d ∉ a)).length := by
  rw [← (union_perm ha hb hl h).length_eq, List.length_append]
theorem wf_meet {h : House} (w : WF h) {k j : Nat} (hk : k < h.desks.length) (hj : j < h.desks.length) : WF ((h.set k (joined (h.desk k) (h.desk j))).set j (joined (h.desk k) (h.desk j))) := by
  obtain ⟨h1, h2⟩ := w.joined hk hj
  have hall : ∀ d ∈ My.joined (h.desk k) (h.desk j), d ∈ h.all := fun d hd => by
    rcases (h2 d).mp hd with z | z
    · exact w.sub hk d z
    · exact w.sub hj d z
  have w1 : WF (h.set k (My.joined (h.desk k) (h.desk j))) := wf_set w hk h1 hall fun d hd => (h2 d).mpr (.inl hd)
  refine wf_set w1 (by show j < (h.desks.set k _).length; rw [List.length_set]; exact hj) h1 hall fun d hd => ?_
  by_cases e : k = j
  · subst e
    rw [desk_set hk] at hd
    exact hd
  · rw [desk_set_ne e] at hd
    exact (h2 d).mpr (.inr hd)
/-! ## ids and deeds -/
def idv (l : List Deed) : List Int := l.map fun d => (d.id : Int)
theorem back_in {h : House} (w : WF h) : ∀ (l : List Deed), (∀ d ∈ l, d ∈ h.all) → (idv l).filterMap (fun i => h.all[i.toNat]?) = l
  | [], _ => rfl
  | d :: l, hl => by
    have e := w.at_id (hl d (List.mem_cons_self ..))
    show List.filterMap _ ((d.id : Int) :: idv l) = _
    rw [List.filterMap_cons_some (b := d) (by simpa using e), back_in w l fun e he => hl e (List.mem_cons_of_mem _ he)]
theorem back_out {h : House} (w : WF h) {l : List Deed} (hl : ∀ d ∈ l, d ∈ h.all) : ∀ out : List Int, (∀ i ∈ out, ∃ d, d ∈ l ∧ i = (d.id : Int)) → idv (out.filterMap fun i => h.all[i.toNat]?) = out
  | [], _ => rfl
  | i :: out, ho => by
    obtain ⟨d, hd, e⟩ := ho i (List.mem_cons_self ..)
    have e2 := w.at_id (hl d hd)
    rw [List.filterMap_cons_some (b := d) (by rw [e]; simpa using e2)]
    show (d.id : Int) :: idv _ = _
    rw [back_out w hl out fun j hj => ho j (List.mem_cons_of_mem _ hj), e]
/-- some numbers that are those of l in another order, by stamps: those of m -/
theorem ids_sorted {h : House} (w : WF h) {l m : List Deed} {out : List Int} (hl : ∀ d ∈ l, d ∈ h.all) (hp : l.Perm m) (hm : SrtD m) (hout : out.Perm (idv l))
    (hs : out.Pairwise fun i j => ∀ d e, h.all[i.toNat]? = some d → h.all[j.toNat]? = some e → ¬ e.stamp.before d.stamp = true) : out = idv m := by
  have hmem : ∀ i ∈ out, ∃ d, d ∈ l ∧ i = (d.id : Int) := fun i hi => by
    obtain ⟨d, hd, e⟩ := List.mem_map.mp (hout.mem_iff.mp hi)
    exact ⟨d, hd, e.symm⟩
  have key : ∃ o : List Deed, out = idv o ∧ o.Perm l := by
    refine ⟨out.filterMap fun i => h.all[i.toNat]?, (back_out w hl out hmem).symm, ?_⟩
    have := hout.filterMap fun i => h.all[i.toNat]?
    rw [back_in w l hl] at this
    exact this
  obtain ⟨o, rfl, ho⟩ := key
  refine congrArg idv (perm_srt (ho.trans hp) hm ?_)
  unfold idv at hs
  rw [List.pairwise_map] at hs
  have h2 := List.Pairwise.and_mem.mp hs
  refine h2.imp fun {a b} ⟨ha, hb, h3⟩ => ?_
  have ha' := w.at_id (hl a (ho.mem_iff.mp ha))
  have hb' := w.at_id (hl b (ho.mem_iff.mp hb))
  exact h3 a b (by simpa using ha') (by simpa using hb')
end My
end
section
set_option autoImplicit false
set_option linter.unusedVariables false
namespace My
open Sq28
/-! ## What is within: each once -/
theorem chain_mem_ends {t : Tree} {z : Nat} {l : List Nat} (h : Chain t z l) : ∀ {y y' n : Nat}, y ∈ l → y' ∈ l → Ends t y n → Ends t y' n → y = y' := by
  induction h with
  | @stop x h0 =>
    intro y y' n hy hy' _ _
    rw [List.mem_singleton.mp hy, List.mem_singleton.mp hy']
  | @up x l p h0 hc ih =>
    intro y y' n hy hy' e e'
    have key : ∀ {u : Nat}, u ∈ l → ¬ Ends t u n ∨ ¬ Ends t x n := fun {u} hu => by
      by_cases hx : Ends t x n
      · refine .inl fun eu => ?_
        obtain ⟨a, b, el, hb⟩ := hc.tail hu
        have h1 := (chain_ends hb).det eu
        have h2 := (chain_ends (Chain.up h0 hc)).det hx
        obtain ⟨r, er⟩ := hb.head
        rw [el, List.length_cons, List.length_append] at h2
        rw [er] at h1 h2
        simp at h1 h2
        omega
      · exact .inr hx
    rcases List.mem_cons.mp hy with z | hy <;> rcases List.mem_cons.mp hy' with z' | hy'
    · rw [z, z']
    · rw [z] at e
      rcases key hy' with k | k
      · exact (k e').elim
      · exact (k e).elim
    · rw [z'] at e'
      rcases key hy with k | k
      · exact (k e).elim
      · exact (k e').elim
    · exact ih hy hy' e e'
theorem under_mem {t : Tree} {x : Nat} {p : Place} : p ∈ under t x ↔ p ∈ t ∧ p.under = x := by
  unfold under
  rw [List.mem_filter]
  simp
theorem above_self {t : Tree} (g : Good t) (x : Nat) : x ∈ above t x := by
  obtain ⟨r, e⟩ := (g.above x).head
  rw [e]
  exact List.mem_cons_self ..
theorem above_up {t : Tree} (hs : Srt t) (g : Good t) {p : Place} (hp : p ∈ t) {z : Nat} (h : p.thing ∈ above t z) : p.under ∈ above t z := by
  obtain ⟨a, b, e, hb⟩ := (g.above z).tail h
  have e2 := hb.det (.up (get_of_mem hs hp) (g.above p.under))
  rw [e, e2]
  exact List.mem_append.mpr (.inr (List.mem_cons_of_mem _ (above_self g _)))
theorem listed_mem {t : Tree} (hs : Srt t) (g : Good t) : ∀ (f : Nat) {d x n : Nat} {r : Place × Nat}, Ends t x n → r ∈ listed t f d x → r.1 ∈ t ∧ x ∈ above t r.1.thing ∧ ∃ m, n < m ∧ Ends t r.1.thing m
  | 0, d, x, n, r, _, h => by rw [listed] at h; cases h
  | f + 1, d, x, n, r, hx, h => by
    rw [listed] at h
    obtain ⟨p, hp, h⟩ := List.mem_flatMap.mp h
    obtain ⟨h1, h2⟩ := under_mem.mp hp
    have ep := under_len hx hs hp
    have hup : ∀ z, p.thing ∈ above t z → x ∈ above t z := fun z hz => by rw [← h2]; exact above_up hs g h1 hz
    rcases List.mem_cons.mp h with e | h
    · rw [e]
      exact ⟨h1, hup _ (above_self g _), n + 1, Nat.lt_succ_self _, ep⟩
    · obtain ⟨a1, a2, m, a3, a4⟩ := listed_mem hs g f ep h
      exact ⟨a1, hup _ a2, m, by omega, a4⟩
theorem listed_nodup {t : Tree} (hs : Srt t) (g : Good t) : ∀ (f : Nat) {d x n : Nat}, Ends t x n → (listed t f d x).Pairwise fun a b => a.1.thing ≠ b.1.thing
  | 0, d, x, n, _ => by rw [listed]; exact List.Pairwise.nil
  | f + 1, d, x, n, hx => by
    rw [listed, List.pairwise_flatMap]
    have deep : ∀ p ∈ under t x, ∀ r ∈ (p, d) :: listed t f (d + 1) p.thing, p.thing ∈ above t r.1.thing := fun p hp r hr => by
      rcases List.mem_cons.mp hr with e | hr
      · rw [e]; exact above_self g _
      · exact (listed_mem hs g f (under_len hx hs hp) hr).2.1
    refine ⟨fun p hp => ?_, ?_⟩
    · rw [List.pairwise_cons]
      refine ⟨fun r hr e => ?_, listed_nodup hs g f (under_len hx hs hp)⟩
      obtain ⟨_, _, m, h1, h2⟩ := listed_mem hs g f (under_len hx hs hp) hr
      have e : p.thing = r.1.thing := e
      rw [← e] at h2
      have := h2.det (under_len hx hs hp)
      omega
    · have hu : (under t x).Pairwise fun p q => p.thing < q.thing := List.Pairwise.filter _ hs
      refine (List.Pairwise.and_mem.mp hu).imp fun {p q} ⟨hp, hq, hlt⟩ a ha b hb e => ?_
      have h1 := deep p hp a ha
      have h2 := deep q hq b hb
      have e : a.1.thing = b.1.thing := e
      rw [e] at h1
      have := chain_mem_ends (g.above b.1.thing) h1 h2 (under_len hx hs hp) (under_len hx hs hq)
      omega
theorem inner_len {t : Tree} (hs : Srt t) (g : Good t) (d x : Nat) : (inner t d x).length ≤ t.length := by
  obtain ⟨n, hn⟩ := g.ends x
  have h1 : ((inner t d x).map fun r => r.1.thing).Nodup := by
    rw [List.nodup_iff_pairwise_ne, List.pairwise_map]
    exact listed_nodup hs g _ hn
  have := nodup_len (m := t.map (·.thing)) h1 fun y hy => by
    obtain ⟨r, hr, e⟩ := List.mem_map.mp hy
    exact List.mem_map.mpr ⟨r.1, (listed_mem hs g _ hn hr).1, e⟩
  rw [List.length_map, List.length_map] at this
  exact this
/-! ## The list that waits -/
/-- what is still to be told -/
def rest (t : Tree) (stk : List (Place × Nat)) : List (Place × Nat) := stk.reverse.flatMap fun r => r :: inner t (r.2 + 1) r.1.thing
theorem rest_snoc (t : Tree) (stk : List (Place × Nat)) (r : Place × Nat) : rest t (stk ++ [r]) = r :: (inner t (r.2 + 1) r.1.thing ++ rest t stk) := by
  unfold rest
  rw [List.reverse_append]
  simp
theorem rest_more {t : Tree} (hs : Srt t) (g : Good t) (stk : List (Place × Nat)) (d x : Nat) : rest t (stk ++ (under t x).reverse.map fun p => (p, d)) = inner t d x ++ rest t stk := by
  unfold rest
  rw [List.reverse_append, List.flatMap_append, List.map_reverse, List.reverse_reverse, inner_eq hs g d x]
  congr 1
  rw [List.flatMap_map]
theorem rest_len (t : Tree) (stk : List (Place × Nat)) : stk.length ≤ (rest t stk).length := by
  unfold rest
  rw [← List.length_reverse]
  generalize stk.reverse = l
  induction l with
  | nil => simp
  | cons r l ih =>
    rw [List.flatMap_cons, List.length_append, List.length_cons, List.length_cons]
    omega
end My
end
section
set_option autoImplicit false
set_option linter.unusedVariables false
namespace My
open Sq28
/-! ## A list of calls -/
theorem whole_id (c : List (List Int)) : PySq28.whole c = c := by
  unfold PySq28.whole
  split <;> rfl
theorem calls_some {l : List Int} {raw : List (List (List Int))} (h : PyFlat.calls PySq28.shape l.length l = some raw) : PySq28.answers l = PyFlat.told (PyFlat.played Sq28Neutral.step Sq28Neutral.start raw) := by
  unfold PySq28.answers PySq28.calls
  rw [h]
  have e : raw.map PySq28.whole = raw := by
    rw [show PySq28.whole = id from funext whole_id, List.map_id]
  show PyFlat.told (PyFlat.played Sq28Neutral.step Sq28Neutral.start (raw.map PySq28.whole)) = _
  rw [e]
theorem shape_rows {p : Int} {n k : Nat} (h : PySq28.shape p = some (n, k)) : k = 0 ∧ n ≤ 4 := by
  unfold PySq28.shape at h
  repeat (split at h; · cases h; exact ⟨rfl, by decide⟩)
  cases h
theorem calls_cons {f : Nat} {p : Int} {r : List Int} {cs : List (List (List Int))} (h : PyFlat.calls PySq28.shape (f + 1) (p :: r) = some cs) :
    ∃ n cs', PySq28.shape p = some (n, 0) ∧ n ≤ r.length ∧ cs = [p :: r.take n] :: cs' ∧ PyFlat.calls PySq28.shape f (r.drop n) = some cs' := by
  rw [PyFlat.calls] at h
  cases e : PySq28.shape p with
  | none =>
    have ec : PyFlat.call PySq28.shape (p :: r) = none := by
      simp only [PyFlat.call, e]
    rw [ec] at h
    cases h
  | some nk =>
    obtain ⟨n, k⟩ := nk
    obtain ⟨rfl, _⟩ := shape_rows e
    by_cases c : r.length < n
    · have ec : PyFlat.call PySq28.shape (p :: r) = none := by
        simp only [PyFlat.call, e, c, if_true]
      rw [ec] at h
      cases h
    · have ec : PyFlat.call PySq28.shape (p :: r) = some ([p :: r.take n], r.drop n) := by
        simp only [PyFlat.call, e, c, if_false, PyFlat.rows]
      rw [ec] at h
      cases e2 : PyFlat.calls PySq28.shape f (r.drop n) with
      | none => simp only [e2] at h; cases h
      | some cs' =>
        simp only [e2] at h
        exact ⟨n, cs', rfl, by omega, (Option.some.inj h).symm, e2⟩
theorem calls_nil {f : Nat} : PyFlat.calls PySq28.shape f [] = some [] := by cases f <;> rfl
/-- one call told -/
theorem told_cons (s : House) (c : List (List Int)) (cs : List (List (List Int))) : PyFlat.told (PyFlat.played Sq28Neutral.step s (c :: cs)) = ((Sq28Neutral.step s c).2.length : Int) :: ((Sq28Neutral.step s c).2 ++ PyFlat.told (PyFlat.played Sq28Neutral.step (Sq28Neutral.step s c).1 cs)) := by
  rw [PyFlat.played]
  unfold PyFlat.told
  rw [List.flatMap_cons]
  rfl
theorem step_of {s : House} {c : List (List Int)} {x : Sq28.Call} (h : Sq28Neutral.callOf c = some x) : Sq28Neutral.step s c = ((s.step x).1, (s.step x).2.value :: (s.step x).2.out) := by
  unfold Sq28Neutral.step
  rw [h]
end My
end
section
set_option autoImplicit false
set_option linter.unusedVariables false
namespace My
open Sq28
/-! ## The calls 7 to 11 -/
theorem srt_nodup {t : Tree} (hs : Srt t) : (t.map (·.thing)).Nodup := by
  unfold List.Nodup
  rw [List.pairwise_map]
  exact hs.imp fun {p q} h => Nat.ne_of_lt h
/-- two trees of as many things, the one's all in the other -/
theorem tree_same {t u : Tree} (hs : Srt t) (hu : Srt u) (hl : t.length = u.length) (h : ∀ p ∈ t, get u p.thing = some p) : t = u := by
  have sub : ∀ p ∈ t, p ∈ u := fun p hp => (get_mem (h p hp)).1
  refine tree_ext hs hu fun p => ⟨sub p, fun hp => ?_⟩
  rcases Classical.em (p ∈ t) with hc | hc
  · exact hc
  exfalso
  have hn : p.thing ∉ t.map (·.thing) := fun z => by
    obtain ⟨q, hq, e⟩ := List.mem_map.mp z
    have h1 := h q hq
    have e' : q.thing = p.thing := e
    rw [e', get_of_mem hu hp] at h1
    cases h1
    exact hc hq
  have k := nodup_len (l := p.thing :: t.map (·.thing)) (m := u.map (·.thing)) (List.nodup_cons.mpr ⟨hn, srt_nodup hs⟩) fun x hx => by
    rcases List.mem_cons.mp hx with e | hx
    · rw [e]; exact List.mem_map.mpr ⟨p, hp, rfl⟩
    · obtain ⟨q, hq, e⟩ := List.mem_map.mp hx
      exact List.mem_map.mpr ⟨q, sub q hq, e⟩
  rw [List.length_cons, List.length_map, List.length_map] at k
  omega
/-- the same deeds: the same numbers -/
theorem idv_inj {h : House} (w : WF h) {l m : List Deed} (hl : ∀ d ∈ l, d ∈ h.all) (hm : ∀ d ∈ m, d ∈ h.all) : idv l = idv m ↔ l = m := by
  refine ⟨fun e => ?_, fun e => by rw [e]⟩
  rw [← back_in w l hl, e, back_in w m hm]
theorem outcomes_len : ∀ (l : List Deed) (t : Tree), (outcomes t l).length = l.length
  | [], t => rfl
  | d :: l, t => by
    rw [outcomes, List.length_cons, List.length_cons, outcomes_len l]
theorem outcomes_fst : ∀ (l : List Deed) (t : Tree), (outcomes t l).map (·.1) = l
  | [], t => rfl
  | d :: l, t => by
    rw [outcomes, List.map_cons, outcomes_fst l]
theorem outcomes_app : ∀ (l m : List Deed) (t : Tree), outcomes t (l ++ m) = outcomes t l ++ outcomes (l.foldl done t) m
  | [], m, t => rfl
  | d :: l, m, t => by
    show (d, outcome t d) :: outcomes (done t d) (l ++ m) = (d, outcome t d) :: (outcomes (done t d) l ++ outcomes (l.foldl done (done t d)) m)
    rw [outcomes_app l m]
theorem outcome_le (t : Tree) (d : Deed) : outcome t d = 1 ∨ outcome t d = 2 ∨ outcome t d = 3 := by
  unfold outcome
  split
  · exact .inr (.inl rfl)
  · split
    · exact .inr (.inr rfl)
    · exact .inl rfl
theorem above_len {t : Tree} (g : Tr t) (x : Nat) : (above t x).length ≤ 63 := by
  have h := (g.good.above x).len
  have := g.len
  omega
end My
end
section
set_option Elab.async false
set_option linter.all false
set_option maxRecDepth 100000
set_option maxHeartbeats 2000000
namespace SK
open PySem PyProof.Rows L2 LamX NdefX
/-! ### a lambda with one parameter: told as a nested function (HandS.Nested), its body an expression -/
abbrev lamQ (X : Cx) : Str := X.env.qual ++ "<lambda>"
abbrev lamCl (X : Cx) (scope : Scope) : List (Str × Addr) := cloFrom X.env.cells scope.names []
abbrev lamNF (X : Cx) (params : Arguments) (scope : Scope) (c' : Addr) : NF := ⟨"<lambda>", lamQ X, params, [], scope, lamCl X scope, c'⟩
abbrev lamFd (X : Cx) (params : Arguments) (body : Expr) (scope : Scope) (pm : Value) (c' : Addr) (ctv : Value) : FuncData := PySem.W.kla_fn "<lambda>" (lamQ X) params body scope (lamCl X scope) pm (.ref c') ctv
abbrev lamOb (X : Cx) (params : Arguments) (body : Expr) (scope : Scope) (pm : Value) (c' : Addr) (ctv : Value) : Obj := PySem.W.kla_obj "<lambda>" (lamQ X) params body scope (lamCl X scope) pm c' ctv
abbrev lamIn (X : Cx) (params : Arguments) (scope : Scope) (N : List Str) (A : Around) (s : Shared) (H : Hp) (f c' : Addr) : Cx := ncx C8.CX0 X.prog X.w X.K X.mg X.base N (lamNF X params scope c') f A X.stack s H C8.E0
theorem lam_call1 {X : Cx} {pins : List (Addr × Obj)} {σ : L2.St} {H : Hp} {s : Shared} {A : Around} {f c' : Addr} {pm ctv : Value} {params : Arguments} {body : Expr} {scope : Scope} {x : Str} {N fr : List Str} {js : List Nat} {k : Nat} {v : V} {u : Value} {Q : VK} {tb : TE} {E : Value → Shared → Prop}
    (I : Inv X pins σ H s) (S : NScope N [x] fr scope) (cp : Caps X (lamCl X scope) fr js) (hf : s.heap.get? f = some (lamOb X params body scope pm c' ctv)) (hc : H c' = some (CodeO c' (lamQ X)))
    (hbind : bindArgs (lamFd X params body scope pm c' ctv) ⟨[u], []⟩ = pure [(x, u)]) (sb : Sub X (k + 1) A) (rv : RelV v u)
    (hbody : PE (lamIn X params scope N A s H f c') body tb) (ht : tb (startF N [v] (js.map (slotAt σ))) H Q) : wpAny (model X.prog X.w) A (call (.ref f) [u]) (EP X pins σ Q) E s := by
  have here : Env0 X.prog X.w X.K X.mg X.base A X.stack s H := { I.env0 with frames := sb.fr.trans I.env0.frames }
  have runs : codeAny (model X.prog X.w) A (.call (.ref f) ⟨[u], []⟩) (CR C8.CX0 X.stack X.prog X.w H s Q C8.E0) s := by
    refine PySem.W.kla_callFunE sb.room.depth hf rfl S.co S.gen rfl (codeO_at I.hok hc) ?_
    rw [hbind]
    refine wpAny_pure (wpAny_newFunctionEnv S.nocell (fun y hy => by rw [List.mem_singleton.mp hy]; exact S.par x (List.mem_singleton.mpr rfl)) (fun g names only => ⟨I.nolimit.fresh _ only, PySem.W.kla_codeExpr ?_⟩) S.kind)
    have grown : ∀ b o, s.heap.get? b = some o → g.get? b = some o := fun b o e =>
      only.extBut b o (fun z => absurd (Heap.lt_size e) (by rw [z]; exact Nat.lt_irrefl _)) (Heap.get?_push_of_some _ e)
    have J := inv_startN (CX := C8.CX0) (E := C8.E0) (F := lamNF X params scope c') (f := f) (tk := s.toks + 1) S sb.room.hd here rfl (.cons rv .nil) (cells_of I cp) names grown
    exact wpAny_mono (hbody.run [] _ _ H Q J ht) (fun _ _ ⟨y, G, L, ry, qy⟩ => ⟨y, G, L.os, L.bare, L.base, L.hok, ry, qy⟩) fun _ _ z => z
  refine wpAny_call (codeAny_mono runs fun r s' z => ?_)
  match r, z with
  | .ok (.ret _), z => exact I.after z
  | .error _, z => exact (show False from z).elim
end SK
end
section
set_option Elab.async false
set_option linter.all false
set_option maxRecDepth 100000
set_option maxHeartbeats 2000000
namespace SK
open PySem PyProof.Rows L2 LamX NdefX
section
variable {X : Cx} {pins : List (Addr × Obj)} {σ : L2.St} {H : Hp} {s : Shared}
/-- no cell of the frame is the object at a -/
theorem notCell {a : Addr} {o : Obj} (I : Inv X pins σ H s) (ha : s.heap.get? a = some o) (hd : ∀ v, o.data ≠ .cell v) (x : Str) (c : Addr) (e : X.env.cells.lookup x = some c) : c ≠ a := fun z => by
  obtain ⟨v, oc, h1, h2⟩ := I.cell x c e
  rw [z, ha] at h1
  exact hd v (by rw [Option.some.inj h1]; exact h2)
/-- the last pinned object, ours alone, is another now -/
theorem repin {a : Addr} {o o' : Obj} {h' : Heap} {t' : Nat} (I : Inv X (pins ++ [(a, o)]) σ H s) (k : ∀ b u, b ≠ a → s.heap.get? b = some u → h'.get? b = some u) (ha : h'.get? a = some o') (hs : X.s_0.heap.objs.size ≤ a)
    (hn : ∀ p ∈ X.pn ++ pins, p.1 ≠ a) (hd : ∀ v, o'.data ≠ .cell v) : Inv X (pins ++ [(a, o')]) σ H { s with heap := h', toks := t' } := by
  obtain ⟨p1, p2, p3, p4, p5⟩ := I.pin (a, o) (List.mem_append_right _ (List.mem_append_right _ (List.mem_singleton.mpr rfl)))
  have J := (I.unpinned).turned (t' := t') (it := a) k p2 p3 (.inr hs) (fun x c => notCell I p1 p5 x c) hn
  refine J.pins_of fun p hp => (List.mem_append.mp hp).elim (fun z => J.pin p (List.mem_append_right _ z)) fun z => ?_
  obtain rfl := List.mem_singleton.mp z
  exact ⟨ha, p2, p3, p4, hd⟩
/-- a list that was ours alone is shown, and another object of ours is let go -/
theorem show_list {a kS : Addr} {o o2 : Obj} {ys : List V} {out : List Value} {n : Nat} {h' : Heap} {t' : Nat} (I : Inv X (pins ++ [(a, o), (kS, o2)]) σ H s) (k : ∀ b u, b ≠ a → b ≠ kS → s.heap.get? b = some u → h'.get? b = some u) (ha : h'.get? a = some (seqObj "list" out.toArray n))
    (hz : ys.length ≤ sizeLine) (rv : Vals ys out) (hs : X.s_0.heap.objs.size ≤ a) (hsk : X.s_0.heap.objs.size ≤ kS) (hn : ∀ p ∈ X.pn ++ pins, p.1 ≠ a) (hnk : ∀ p ∈ X.pn ++ pins, p.1 ≠ kS) :
    Inv X pins σ (upd H a (.lst ys)) { s with heap := h', toks := t' } := by
  obtain ⟨p1, p2, p3, p4, p5⟩ := I.pin (a, o) (by simp)
  obtain ⟨q1, q2, q3, q4, q5⟩ := I.pin (kS, o2) (by simp)
  have J : Inv X pins σ H s := I.unpinned
  have apart : ∀ {b : Addr}, b ∉ ([a, kS] : List Addr) → b ≠ a ∧ b ≠ kS := fun {b} hb => ⟨fun z => hb (z ▸ by simp), fun z => hb (z ▸ by simp)⟩
  have known : ∀ {b : Addr} {u : HO}, H b = some u → b ≠ a ∧ b ≠ kS := fun e => ⟨ne_of_none e p2, ne_of_none e q2⟩
  have stays : ∀ {b : Addr} {u : HO}, H b = some u → upd H a (.lst ys) b = some u := fun e => (upd_ne (known e).1).trans e
  have left : ∀ b u, b ∉ ([a, kS] : List Addr) → s.heap.get? b = some u → h'.get? b = some u := fun b u hb => k b u (apart hb).1 (apart hb).2
  refine J.step (g' := s.gens) (d' := s.drawn) (ch := [a, kS]) (fun b hb => ?_) (fun b u _ _ hb e _ => left b u hb e) (fun b u _ _ hb e _ => ⟨u.slots, left b u hb e⟩)
    (fun b u hb _ e => (upd_ne (apart hb).1).trans e) (fun b u hb e => ⟨u, left b u hb e⟩) (fun _ _ e => stays e) (fun _ _ _ e => stays e) (fun _ _ e => ⟨#[], by rw [stays e]; simp⟩) (fun m hm => ?_) (fun b u e => ?_) J.bare
  · simp only [List.mem_cons, List.not_mem_nil, or_false] at hb
    rcases hb with rfl | rfl
    · exact ⟨.inr hs, p3, notCell I p1 p5, hn⟩
    · exact ⟨.inr hsk, q3, notCell I q1 q5, hnk⟩
  · obtain ⟨fo, es, ep, at_, rest⟩ := hm
    exact ⟨fo, es, ep, k _ fo (Ne.symm p3) (Ne.symm q3) at_, rest⟩
  · by_cases hb : b = a
    · subst hb
      rw [upd_same] at e
      cases e
      exact ⟨hz, out, n, rv, ha⟩
    · rw [upd_ne hb] at e
      refine (J.hok b u e).stay (fun c v hc q => ?_) (fun _ q => stays q) fun _ _ q => stays q
      rcases hc with rfl | z
      · exact k c v (known e).1 (known e).2 q
      · exact k c v (known z).1 (known z).2 q
/-- a tracked pair of ints reads as data, no list in it -/
theorem pair_reads (hok : HOk X.prog X.w H s.heap) {t : Addr} {a b : Int} (h : H t = some (.tup [.int a, .int b])) : ∃ as, Reads s.heap (.ref t) (.tuple [.int a, .int b]) as := by
  obtain ⟨_, its, r, isT⟩ := (show ObjOk X.prog X.w H s.heap t (.tup [.int a, .int b]) from hok t _ h)
  obtain ⟨u1, u2, rfl, ⟨t1, rfl⟩, ⟨t2, rfl⟩⟩ := vals2 r
  obtain ⟨as, q⟩ := PySem.W.holds_pair (h := s.heap) (l := t) (x := a) (y := b) isT (PySem.W.holds_int a t1) (PySem.W.holds_int b t2)
  exact ⟨as, q⟩
theorem each_ints : ∀ {vs : List Value} {ns : List Int}, IntsAre vs ns → PySem.W.EachIs (fun v n => ∃ t, v = Value.int n t) vs ns
  | _, _, .nil => .nil
  | _, _, .cons _ t h => .cons ⟨t, rfl⟩ (each_ints h)
theorem ints_of_each : ∀ {vs : List Value} {ns : List Int}, PySem.W.EachIs (fun v n => ∃ t, v = Value.int n t) vs ns → IntsAre vs ns
  | _, _, .nil => .nil
  | _, _, .cons ⟨t, e⟩ h => e ▸ .cons _ t (ints_of_each h)
theorem each_map {α β γ : Type} {R : β → γ → Prop} (f : α → β) (g : α → γ) : ∀ l : List α, (∀ x ∈ l, R (f x) (g x)) → PySem.W.EachIs R (l.map f) (l.map g)
  | [], _ => .nil
  | x :: l, h => .cons (h x (List.mem_cons_self ..)) (each_map f g l fun y hy => h y (List.mem_cons_of_mem _ hy))
/-- the key of a number, as data -/
abbrev keyD (key : Int → Int × Int) (n : Int) : PyData := .tuple [.int (key n).1, .int (key n).2]
theorem lex_le {p q : Int × Int} (h : decide (p.1 < q.1 ∨ (p.1 = q.1 ∧ p.2 ≤ q.2)) = true) : SrtO.lexB q p = false := by
  rw [SrtO.lexB_no]
  have := of_decide_eq_true h
  omega
/-- sorted(xs, key=lambda x: body): ints, each key a pair of ints that stands already -/
theorem sorted_lam_run {f c' a : Addr} {pm ctv : Value} {params : Arguments} {body : Expr} {scope : Scope} {x : Str} {N fr : List Str} {js : List Nat} {k : Nat} {Q : VK} {tb : TE} {ns : List Int} (I : Inv X pins σ H s) (S : NScope N [x] fr scope) (cp : Caps X (lamCl X scope) fr js)
    (hf : s.heap.get? f = some (lamOb X params body scope pm c' ctv)) (hfn : H f = none) (hfl : f ≠ X.env.locals) (hfr : f ∉ X.fs) (hc : H c' = some (CodeO c' (lamQ X)))
    (hbind : ∀ u, bindArgs (lamFd X params body scope pm c' ctv) ⟨[u], []⟩ = pure [(x, u)]) (hr : Room (k + 3) X.A)
    (hbody : ∀ (A : Around) (s : Shared), Room k (A.deeper (envF (lamNF X params scope c') f s.heap.objs.size)) → PE (lamIn X params scope N A s H f c') body tb)
    (hs : SqL X.K H a (ns.map V.int)) (kad : Int → Addr) (key : Int → Int × Int)
    (hk : ∀ n ∈ ns, tb (startF N [.int n] (js.map (slotAt σ))) H (fun v H' => v = .ref (kad n) ∧ H' = H) ∧ H (kad n) = some (.tup [.int (key n).1, .int (key n).2]))
    (q : ∀ (ns' : List Int) (p : Addr), ns'.Perm ns → ns'.Pairwise (fun i j => SrtO.lexB (key j) (key i) = false) → H p = none → Q (.ref p) (upd H p (.lst (ns'.map V.int)))) :
    wpAny (model X.prog X.w) X.A (call (.builtin "sorted") [.ref a] [(Str.ofString "key", .ref f)]) (EP X pins σ Q) X.xe s := by
  obtain ⟨vs, rv, isl, small⟩ := I.list hs
  have hints := rv.ints
  have len : vs.length = ns.length := hints.length
  rw [List.length_map, ← len] at small
  refine PySem.W.sorted_of_sort isl.isList small (ksk_s1 _ _) (fun _ => ksk_l1 _ _) fun E' => ?_
  rw [ksk_t1]
  generalize hL : s.heap.objs.size + 1 = L
  have atL : (PySem.W.copyHeap s.heap vs).get? L = some (seqObj "list" vs.toArray 0) := hL ▸ PySem.W.copyHeap_at s.heap vs
  obtain ⟨e1, at1⟩ : ∃ e1, ((PySem.W.copyHeap s.heap vs).update L (Obj.mapSeq fun _ => (#[] : Array Value))).get? L = some (seqObj "list" #[] e1) := ⟨_, get?_update_seq atL fun _ => #[]⟩
  unfold ksk_tree
  refine wpAny_bind (listItems_at atL rfl (wpAny_bind (listUpdate_at atL rfl (wpAny_bind (seqEpoch_at at1 rfl (wpAny_bind (wpAny_newTuple (wpAny_bind (wpAny_newList (wpAny_holding ?_) (Nat.zero_le _))) small)))) ?_ (Nat.zero_le _))))
  rotate_left
  · rw [List.size_toArray]
    exact small
  generalize hK : (((PySem.W.copyHeap s.heap vs).update L (Obj.mapSeq fun _ => (#[] : Array Value))).push (seqObj "tuple" vs.toArray 0)).objs.size = kS
  have szC : (PySem.W.copyHeap s.heap vs).objs.size = s.heap.objs.size + 2 := by
    unfold PySem.W.copyHeap
    rw [size_push', Heap.size_update, size_push']
  have eK : kS = s.heap.objs.size + 3 := by rw [← hK, size_push', Heap.size_update, szC]
  have old2 : ∀ b o, s.heap.get? b = some o → (PySem.W.sortingHeap (PySem.W.copyHeap s.heap vs) L vs).get? b = some o := fun b o e => by
    rw [← hL]
    exact PySem.W.sorting_copy_old e
  have atL2 : (PySem.W.sortingHeap (PySem.W.copyHeap s.heap vs) L vs).get? L = some (seqObj "list" #[] e1) := Heap.get?_push_of_some _ (Heap.get?_push_of_some _ at1)
  have atK2 : (PySem.W.sortingHeap (PySem.W.copyHeap s.heap vs) L vs).get? kS = some (seqObj "list" #[] 0) := hK ▸ Heap.get?_push_size _ rfl
  show wpAny _ _ (ksk_rest L (.ref f) false vs.toArray e1 (.ref kS)) _ _ { s with heap := PySem.W.sortingHeap (PySem.W.copyHeap s.heap vs) L vs }
  generalize PySem.W.sortingHeap (PySem.W.copyHeap s.heap vs) L vs = g at old2 atL2 atK2 ⊢
  have geL : s.heap.objs.size ≤ L := by omega
  have geK : s.heap.objs.size ≤ kS := by omega
  have hLK : kS ≠ L := by omega
  have old : ∀ p ∈ X.pn ++ pins, p.1 < s.heap.objs.size := fun p hp => Heap.lt_size (I.pin p hp).1
  have newL : ∀ p ∈ X.pn ++ pins, p.1 ≠ L := fun p hp z => absurd (old p hp) (by rw [z]; exact Nat.not_lt.mpr geL)
  have newK : ∀ p ∈ X.pn ++ pins, p.1 ≠ kS := fun p hp z => absurd (old p hp) (by rw [z]; exact Nat.not_lt.mpr geK)
  have ours : ∀ {b : Addr} {o : Obj}, s.heap.objs.size ≤ b → g.get? b = some o → (∀ v, o.data ≠ .cell v) → g.get? b = some o ∧ H b = none ∧ b ≠ X.env.locals ∧ b ∉ X.fs ∧ ∀ v, o.data ≠ .cell v := fun {b o} hb e hd =>
    ⟨e, I.hok.fresh hb, fun z => absurd I.lt (by rw [← z]; exact Nat.not_lt.mpr hb), I.nofs hb, hd⟩
  let P0 := pins ++ [(f, lamOb X params body scope pm c' ctv), (L, seqObj "list" #[] e1)]
  have inP : ∀ p ∈ P0, p ∈ pins ∨ p = (f, lamOb X params body scope pm c' ctv) ∨ p = (L, seqObj "list" #[] e1) := fun p hp => by simpa [P0] using hp
  have I2 : Inv X (P0 ++ [(kS, seqObj "list" #[] 0)]) σ H { s with heap := g } := by
    have J : Inv X pins σ H { s with heap := g } := I.kept (t' := s.toks) old2
    refine J.pins_of fun p hp => (List.mem_append.mp hp).elim (fun z => ?_) fun z => ?_
    · rcases inP p z with z | rfl | rfl
      · exact J.pin p (List.mem_append_right _ z)
      · exact ⟨old2 _ _ hf, hfn, hfl, hfr, fun v z => by cases z⟩
      · exact ours geL atL2 fun v z => by cases z
    · obtain rfl := List.mem_singleton.mp z
      exact ours geK atK2 fun v z => by cases z
  have neK : ∀ p ∈ X.pn ++ P0, p.1 ≠ kS := fun p hp => by
    rcases List.mem_append.mp hp with z | z
    · exact newK p (List.mem_append_left _ z)
    · rcases inP p z with z | rfl | rfl
      · exact newK p (List.mem_append_right _ z)
      · exact fun z => absurd (Heap.lt_size hf) (by rw [show f = kS from z]; exact Nat.not_lt.mpr geK)
      · exact hLK.symm
  unfold ksk_rest
  refine wpAny_bind (wpAny_rule ?_)
  rw [← Array.forIn_toList, List.toList_toArray]
  refine wpAny_bind (ksk_fold (fun i s' => ∃ kA e, Inv X (P0 ++ [(kS, seqObj "list" kA e)]) σ H s' ∧ kA.toList = (ns.take i).map fun n => Value.ref (kad n)) vs 0 _ ⟨#[], 0, I2, rfl⟩ ?turn ?last)
  case turn =>
    rintro j u s' hu ⟨kA, e, J, hkA⟩
    rw [Nat.zero_add] at hkA ⊢
    have hj : j < ns.length := len ▸ (List.getElem?_eq_some_iff.mp hu).1
    have hn : ns[j]? = some ns[j] := List.getElem?_eq_getElem hj
    obtain ⟨u', hu', ru⟩ := rv.get (i := j) (x := .int ns[j]) (by rw [List.getElem?_map, hn]; rfl)
    obtain rfl : u = u' := Option.some.inj (hu.symm.trans hu')
    have pf := J.pin (f, lamOb X params body scope pm c' ctv) (by simp [P0])
    have sb : Sub X (k + 1) X.A.in1.in1 := ⟨(Room.in1 (k := k + 2) hr).in1, rfl⟩
    have few : kA.size = j := by
      have z := congrArg List.length hkA
      rw [List.length_map, List.length_take, Array.length_toList] at z
      omega
    have told := hk _ (List.getElem_mem hj)
    refine wpAny_bind (wpAny_attempt (wpAny_mono (lam_call1 (E := fun _ _ => False) J S cp pf.1 hc (hbind u) sb ru (hbody _ s' (sb.room.deeper _)) told.1) (fun w s'' z => ?_) fun _ _ z => z.elim))
    obtain ⟨y, G, J1, ry, rfl, rfl⟩ := z
    cases ry
    have pk := J1.pin (kS, seqObj "list" kA e) (by simp)
    have only := Heap.SameBut.update s''.heap kS (Obj.mapSeq (·.push (Value.ref (kad ns[j]))))
    obtain ⟨e2, at2⟩ : ∃ e2, (s''.heap.update kS (Obj.mapSeq (·.push (Value.ref (kad ns[j]))))).get? kS = some (seqObj "list" (kA.push (Value.ref (kad ns[j]))) e2) := ⟨_, get?_update_seq pk.1 _⟩
    refine wpAny_bind (listUpdate_at pk.1 rfl (wpAny_pure ⟨rfl, _, e2, repin (t' := s''.toks) J1 (fun b u hb z => (only.2 b hb).trans z) at2 (Nat.le_trans I.sz geK) neK (fun v z => by cases z), ?_⟩) (by omega) (by rw [Array.size_push]; omega))
    rw [Array.toList_push, hkA, List.take_add_one, hn, List.map_append]
    rfl
  case last =>
    rintro s' ⟨kA, e, J, hkA⟩
    rw [Nat.zero_add, len, List.take_length] at hkA
    have pk := J.pin (kS, seqObj "list" kA e) (by simp)
    have pL := J.pin (L, seqObj "list" #[] e1) (by simp [P0])
    have keys : PySem.W.EachIs (fun v d => ∃ as, Reads s'.heap v d as) kA.toList (ns.map (keyD key)) := hkA ▸ each_map _ _ ns fun n hn => pair_reads J.hok (hk n hn).2
    have alikeK : PySem.W.AllAlike (ns.map (keyD key)) := fun d hd d' hd' => by
      obtain ⟨n, _, rfl⟩ := List.mem_map.mp hd
      obtain ⟨m, _, rfl⟩ := List.mem_map.mp hd'
      simp [PySem.W.alike, PySem.W.alikeAll]
    have sortK : PySem.W.Sortable (ns.map (keyD key)) := .inl fun d hd => by
      obtain ⟨n, _, rfl⟩ := List.mem_map.mp hd
      exact ⟨_, _, rfl⟩
    have room : ∀ d, d ∈ ns.map (keyD key) → X.A.in1.in1.units + d.depth < cLine := fun d hd => by
      obtain ⟨n, _, rfl⟩ := List.mem_map.mp hd
      have := hr.un
      show X.A.units + 1 + 1 + 1 < cLine
      omega
    -- all but the store of keys
    let hid : Hp := fun b => if b = kS then some (.tbl #[]) else none
    have vis : ∀ {b : Addr} {o : Obj}, b ≠ kS → s'.heap.get? b = some o → (hidT s'.heap hid).get? b = some o := fun hb e => hidT_get e (if_neg hb)
    have hidK : (hidT s'.heap hid).get? kS = none := by
      cases z : (hidT s'.heap hid).get? kS with
      | none => rfl
      | some o => exact absurd (of_hidT z).2 (by simp [hid])
    have size : kA.size = vs.length := by rw [← Array.length_toList, hkA, List.length_map, len]
    refine wpAny_bind (listItems_at pk.1 rfl (PySem.W.keyH_end (κ := PySem.W.dataKind s'.heap (ns.map (keyD key))) (h₁ := hidT s'.heap hid) (fun b o _ z => (of_hidT z).1) hidK pk.1 pL.1 hLK (PySem.W.SortsAt.data keys alikeK sortK room) size small fun h' tk c kept atE => ⟨rfl, ?_⟩))
    have out := PySem.W.keyedOut_each (rev := false) (keyD key) ⟨s'.heap, kA.toList, alikeK, rfl, keys⟩ (each_ints hints)
    have perm : (ns.mergeSort (PySem.W.dataLe false (keyD key))).Perm ns := List.mergeSort_perm _ _
    have order : (ns.mergeSort (PySem.W.dataLe false (keyD key))).Pairwise (fun i j => SrtO.lexB (key j) (key i) = false) := by
      refine (PySem.W.sort_pairwise (PySem.W.sortLe_total _ _ _) ns).imp fun {i j} z => lex_le ?_
      have e := congrFun (congrFun (PySem.W.dataLe_ii (fun n => (key n).1) (fun n => (key n).2)) i) j
      exact e.symm.trans z
    have J2 : Inv X (pins ++ [(L, seqObj "list" #[] e1), (kS, seqObj "list" kA e)]) σ H s' := J.pins_of fun p hp => by
      simp only [List.mem_append, List.mem_cons, List.not_mem_nil, or_false] at hp
      rcases hp with z | rfl | rfl
      · exact J.pin p (by simp [P0, z])
      · exact pL
      · exact pk
    exact ⟨.ref L, upd H L (.lst ((ns.mergeSort (PySem.W.dataLe false (keyD key))).map V.int)), show_list J2 (fun b u h1 h2 z => kept b u h1 (vis h2 z)) atE (by rw [List.length_map, perm.length_eq, ← len]; exact small) (vals_of_ints (ints_of_each out))
      (Nat.le_trans I.sz geL) (Nat.le_trans I.sz geK) newL newK, rfl, q _ _ perm order pL.2.1⟩
end
end SK
end
section
set_option Elab.async false
set_option linter.all false
set_option maxRecDepth 100000
set_option maxHeartbeats 2000000
namespace SK
open PySem PyProof.Rows L2 LamX NdefX
def tSortLam (K : PySem.W.Frag) (T : List (Addr × Str)) (N : List Str) (js : List Nat) (ta : TA) (tb : TE) : TE := fun σ H Q => ta σ H fun vs H1 => Tabs T H1 ∧ ∃ (a : Addr) (ns : List Int), vs = [.ref a] ∧
  ∀ H2, ExtN H1 H2 → Tabs T H2 → ∃ (kad : Int → Addr) (key : Int → Int × Int), SqL K H2 a (ns.map V.int) ∧
    (∀ n ∈ ns, tb (startF N [.int n] (js.map (slotAt σ))) H2 (fun v H' => v = .ref (kad n) ∧ H' = H2) ∧ H2 (kad n) = some (.tup [.int (key n).1, .int (key n).2])) ∧
    ∀ (ns' : List Int) (p : Addr), ns'.Perm ns → ns'.Pairwise (fun i j => SrtO.lexB (key j) (key i) = false) → H2 p = none → Q (.ref p) (upd H2 p (.lst (ns'.map V.int)))
theorem pe_sortedLam {X : Cx} {T : List (Addr × Str)} {c P : Addr} {params : Arguments} {body e : Expr} {scope : Scope} {x : Str} {N fr : List Str} {js : List Nat} {k : Nat} {ta : TA} {tb : TE} {p lpos kpos pos : Pos} (hg : Gl X "sorted") (hm : X.mg "sorted" = none) (ha : PA X [e] ta)
    (TB : TabB X.base X.mg c P) (hcode : X.env.code = .ref c) (hmT : (P, lamQ X) ∈ T) (hu : ∀ p ∈ T, p.1 = P → p.2 = lamQ X) (S : NScope N [x] fr scope) (hfr : ndefB X.env.scope scope fr = true) (hjs : js.map (fun j => X.N[j]?) = fr.map some) (hdef : defaultsOf params X.env = ([], []))
    (hbind : ∀ (q : Str) (cl : List (Str × Addr)) (pm cv ctv u : Value), bindArgs (PySem.W.kla_fn "<lambda>" q params body scope cl pm cv ctv) ⟨[u], []⟩ = pure [(x, u)])
    (hr : Room (k + 3) X.A) (hbody : ∀ (A : Around) (s : Shared) (H : Hp) (f c' : Addr), Room k (A.deeper (envF (lamNF X params scope c') f s.heap.objs.size)) → PE (lamIn X params scope N A s H f c') body tb)
    (he : backTo pos (starEach [e] X.env) = (false, eval e X.env) :: backTo pos (starEach [] X.env) := by rfl) (hpl : (backTo pos (starEach [e] X.env)).any (·.1) = false := by rfl) :
    PE X (.Call (.Name "sorted" p) [e] [⟨some "key", .Lambda params body scope lpos, kpos⟩] pos) (tSortLam X.K T N js ta tb) := by
  constructor
  intro pins s σ H Q I h
  refine wpAny_Call_Name_kw (ld_blt I hg hm (u := .builtin "sorted") (by decide +kernel) ?_ (by decide) (by decide))
  refine PyProof.Rows.callWith_kw (thn (ha.run pos pins s σ H _ I h) fun us s1 ⟨vs, H1, I1, r1, tabs, a, ns, ev, told⟩ => ?_) he hpl (by rfl) (by rfl)
  subst ev
  obtain rfl := Vals.ref1 r1
  show wpAny _ _ (evalAll ((do let v ← eval (.Lambda params body scope lpos) X.env; standAt pos; pure v) :: [])) _ _ s1
  have caps := fun ok => Caps.made (X := X) ok (ndef_free hfr) (ndef_fr hfr) hjs
  have cells : ∀ y ∈ scope.names, y.2 = .free → ∃ c, X.env.cells.lookup y.1 = some c := fun y hy z => I.ok.has _ (ndef_free hfr y hy z)
  refine wpAny_evalAll_cons (wpAny_bind (lam_make2 I1 TB hcode hmT hu tabs hdef cells fun f c' pm ctv H2 s2 I2 more tabs2 isF noF apart isC => wpAny_bind (wpAny_standAt (wpAny_pure (wpAny_evalAll_nil ?_)))))
  obtain ⟨kad, key, hs, hk, q⟩ := told H2 more tabs2
  refine sorted_lam_run (k := k) I2 S (caps I2.ok) isF noF (fun z => ?_) (fun z => apart ?_) isC (fun u => hbind _ _ _ _ _ _) hr (fun A s hr' => hbody A s H2 f c' hr') hs kad key hk q
  · obtain ⟨m, ⟨o, es, ep, ho, hd, _⟩, _⟩ := I2.loc
    have e := isF.symm.trans (z ▸ ho)
    rw [← Option.some.inj e] at hd
    cases hd
  · rcases I2.ok.stk with e | ⟨e, fl⟩
    · exact e ▸ z
    · rw [e, frs, List.filterMap_cons, fl]
      exact .tail _ z
end SK
end
section
set_option Elab.async false
set_option linter.all false
set_option maxRecDepth 100000
set_option maxHeartbeats 2000000
namespace SK
open PySem PyProof.Rows L2 LamX
/-! ### max(xs, default=d) of a list of ints, from the library's rule for ordered data -/
theorem maxOf_ints : ∀ (x : Int) (xs : List Int), PySem.W.maxOf x xs ∈ x :: xs ∧ ∀ y ∈ x :: xs, y ≤ PySem.W.maxOf x xs
  | x, [] => ⟨List.mem_singleton.mpr rfl, fun y hy => Int.le_of_eq (List.mem_singleton.mp hy)⟩
  | x, z :: zs => by
    have e : PySem.W.maxOf x (z :: zs) = PySem.W.maxOf (if x < z then z else x) zs := by
      show zs.foldl _ (if decide (x < z) = true then z else x) = _
      by_cases h : x < z <;> simp [h, PySem.W.maxOf]
    obtain ⟨m1, m2⟩ := maxOf_ints (if x < z then z else x) zs
    rw [e]
    have top := m2 _ (List.mem_cons_self ..)
    refine ⟨?_, fun y hy => ?_⟩
    · rcases List.mem_cons.mp m1 with q | q
      · rw [q]
        by_cases h : x < z
        · rw [if_pos h]; simp
        · rw [if_neg h]; simp
      · exact List.mem_cons_of_mem _ (List.mem_cons_of_mem _ q)
    · simp only [List.mem_cons] at hy
      rcases hy with rfl | rfl | hy
      · by_cases h : y < z
        · rw [if_pos h] at top ⊢; omega
        · rw [if_neg h] at top ⊢; exact top
      · by_cases h : x < y
        · rw [if_pos h] at top ⊢; exact top
        · rw [if_neg h] at top ⊢; omega
      · exact m2 y (List.mem_cons_of_mem _ hy)
def rMaxD (K : PySem.W.Frag) : List V → List V → Hp → VK → Prop := fun vs zs H Q => ∃ (a : Addr) (ns : List Int) (d : V), vs = [V.ref a] ∧ zs = [d] ∧ SqL K H a (ns.map V.int) ∧ (ns = [] → Q d H) ∧ ∀ m, m ∈ ns → (∀ y, y ∈ ns → y ≤ m) → Q (.int m) H
theorem cr_maxD {X : Cx} (hc : X.calm = true) (hu : X.A.units + 1 < cLine) : CallRK X (.builtin "max") [Str.ofString "default"] (rMaxD X.K) := fun pins s σ H vs zs us ws Q I r rz h => by
  obtain ⟨a, ns, d, rfl, rfl, hs, none_, some_⟩ := h
  obtain ⟨items, rv, isl, _⟩ := I.list hs
  obtain ⟨wd, rfl, rd⟩ := vals1 rz
  rw [Vals.ref1 r]
  refine PySem.W.max_list_datum_default (xs := ns) (I.ok.hd hc) isl.isList (PySem.W.HoldAll.of_ints rv.ints) hu (fun e h' tk k => ⟨d, H, I.kept k, rd, none_ e⟩) fun y ys _ v h' tk e _ hv k => ?_
  obtain ⟨t, rfl⟩ := PySem.W.int_of_holds hv
  obtain ⟨m1, m2⟩ := maxOf_ints y ys
  subst e
  exact ⟨.int _, H, I.kept k, ⟨t, rfl⟩, some_ _ m1 m2⟩
end SK
end
section
set_option Elab.async false
set_option linter.all false
set_option maxRecDepth 100000
set_option maxHeartbeats 2000000
namespace SK
open PySem PyProof.Rows L2 LamX
/-! ### t > u of two pairs of ints, from the library's order of data -/
/-- a pair of ints that is tracked, or written down by the head, as the library tells data -/
theorem pair_holds {X : Cx} {pins : List (Addr × Obj)} {σ : L2.St} {H : Hp} {s : Shared} (I : Inv X pins σ H s) {a : Addr} {p : Int × Int} (h : SqT X.K H a [.int p.1, .int p.2]) : PySem.W.Holds s.heap (.ref a) p := by
  obtain ⟨_, r, isT, _⟩ := I.tuple h
  obtain ⟨_, _, rfl, ⟨_, rfl⟩, ⟨_, rfl⟩⟩ := vals2 r
  exact PySem.W.holds_pair isT (PySem.W.holds_int ..) (PySem.W.holds_int ..)
def rGtP (K : PySem.W.Frag) : R2 := fun x y H Q => ∃ (a b : Addr) (p q : Int × Int), x = .ref a ∧ y = .ref b ∧ SqT K H a [.int p.1, .int p.2] ∧ SqT K H b [.int q.1, .int q.2] ∧ Q (.bl (SrtO.lexB q p)) H
theorem op_gtP {X : Cx} (hu : X.A.units + 1 < cLine) : OpR X (compareOp .Gt) (rGtP X.K) := fun pins s σ H x y v u Q I rx ry ⟨a, b, p, q, ex, ey, ha, hb, told⟩ => by
  subst ex ey
  cases rx
  cases ry
  exact PySem.W.gt_datum (pair_holds I ha) (pair_holds I hb) hu ⟨.bl _, H, I, rfl, told⟩
/-! ### xs.extend(t), t a tuple -/
def rExtendT (K : PySem.W.Frag) : V → List V → Hp → VK → Prop := fun x vs H Q => ∃ l b xs zs, x = .ref l ∧ vs = [.ref b] ∧ H l = some (.lst xs) ∧ SqT K H b zs ∧ xs.length + zs.length ≤ sizeLine ∧ Q .non (upd H l (.lst (xs ++ zs)))
theorem mt_extendT {X : Cx} : MtM X "list.extend" (rExtendT X.K) := fun pins s σ H x vs v us Q I rx rv ⟨l, b, xs, zs, ex, ev, mine, other, room, told⟩ => by
  subst ex ev
  cases rx
  rw [Vals.ref1 rv]
  obtain ⟨_, its, n, r, _, at_⟩ := I.lstM mine
  obtain ⟨new, r2, ⟨o, ho, cls, n2, dat⟩, _⟩ := I.tuple other
  have l1 := r.length
  have l2 := r2.length
  refine wpAny_call_entry F.slot_list_extend ⟨_, at_, rfl⟩ F.entry_list_extend ?_ (F.args_list_extend_2 _ _)
  show wpAny _ _ (Builtin.List.listExtendWith (.ref l) (.ref b) .none) _ _ s
  unfold Builtin.List.listExtendWith
  refine wpAny_bind (wpAny_typeOf ⟨o, ho, cls⟩ ?_)
  rw [if_pos (by simp)]
  refine wpAny_bind (listItems_at ho dat (wpAny_bind (listItems_at at_ rfl ?_)))
  rw [notLongL (by rw [List.size_toArray, List.size_toArray]; omega), Bool.and_false, if_neg Bool.false_ne_true]
  refine wpAny_bind (listUpdate_at at_ rfl ?_ (by rw [List.size_toArray]; omega) (by rw [Array.size_append, List.size_toArray, List.size_toArray]; omega))
  refine wpAny_pure ⟨.none, rfl, .non, _, I.lset (its' := its ++ new) mine at_ (by simp) (r.append r2) ?_, rfl, told⟩
  rw [List.length_append]
  exact room
/-! ### sorted(d, reverse=b), a dict with int keys -/
/-- sorted(x, ..): what x gives, laid in a new list, and that list's sort -/
theorem sorted_from {prog : Program} {w : World} {A : Around} {E : Value → Shared → Prop} {s : Shared} {u : Value} {kw : List (Str × Value)} {Q : Value → Shared → Prop} (ok1 : argsOk "sorted" ⟨[u], kw⟩) (ok2 : ∀ x, argsOk "list.sort" ⟨[x], kw⟩)
    (h : wpAny (model prog w) A.in1 (collect u) (fun us s' => us.length ≤ sizeLine ∧
      wpAny (model prog w) A.in1.in1 (Builtin.«list.sort» ⟨[.ref s'.heap.objs.size], kw⟩) (fun fin s'' => fin = .done (.ret .none) ∧ Q (.ref s'.heap.objs.size) s'') E { s' with heap := s'.heap.push (seqObj "list" us.toArray 0) }) E s) :
    wpAny (model prog w) A (call (.builtin "sorted") [u] kw) Q E s := by
  refine call_function_entry_kw kind_sorted plain_sorted entry_sorted ok1 (wpAny_bind (m := checkCount "sorted" 1 1 [u].length) (wpAny_pure (wpAny_bind (wpAny_mono h (fun us s' ⟨few, sorts⟩ => ?_) fun _ _ z => z))))
  refine wpAny_bind (wpAny_newList (wpAny_bind (wpAny_holding (wpAny_call_entry_kw slot_list_sort ⟨_, Heap.get?_push_size _ rfl, rfl⟩ entry_list_sort (wpAny_mono sorts (fun fin s'' z => ?_) fun _ _ z => z) (ok2 _)))) few)
  exact ⟨_, z.1, wpAny_pure ⟨_, rfl, z.2⟩⟩
def rSortedDR (b : Bool) : List V → List V → Hp → VK → Prop := fun xs zs H Q => ∃ (a : Addr) (kvs : List (Key × V)) (ks : List Int), xs = [.ref a] ∧ zs = [.bl b] ∧ Rd H a (.dK kvs) ∧ kvs.map (·.1) = ks.map Sum.inl ∧ ks.length < 64 ∧
    ∀ (ys : List Int) (p : Addr), ys.Perm ks → Ordered b ys → H p = none → Q (.ref p) (upd H p (.lst (ys.map V.int)))
theorem cr_sortedDR {X : Cx} {b : Bool} (hcalm : X.calm = true) : CallRK X (.builtin "sorted") [Str.ofString "reverse"] (rSortedDR b) := fun pins s σ H xs zs us ws Q I r rz ⟨a, kvs, ks, ex, ez, hd, keys, few, told⟩ => by
  subst ex ez
  rw [Vals.ref1 r]
  obtain ⟨_, rfl, e⟩ := vals1 rz
  cases e
  obtain ⟨_, lo, es, rel, dict⟩ := dk_rd I.hok hd
  obtain ⟨ep, at_⟩ := dict.dictAt
  have ekeys : es.map (·.1) = ks.map Sum.inl := rel.keys.symm.trans keys
  have elen : es.length = ks.length := by simpa using congrArg List.length ekeys
  have h64 : (64 : Nat) ≤ sizeLine := by decide
  refine sorted_from (args_sorted_rev _ _) (fun _ => args_list_sort_rev _ _) (PySem.W.kdu_collect (PySem.W.kdl_dict (knd := mixKind X.prog X.w) lo) (I.ok.hd hcalm) at_ (by omega) fun g tk acc kept items => ?_)
  have hints : IntsAre acc.toList ks := ints_each (by rw [Array.length_toList, items.1, elen]) fun j v at_j => by
    obtain ⟨key, val, e1, e2⟩ := items.2 j v (by simpa using at_j)
    have e3 : (ks.map Sum.inl)[j]? = some key := by rw [← ekeys, List.getElem?_map, e1, Option.map_some]
    rw [List.getElem?_map, Option.map_eq_some_iff] at e3
    obtain ⟨n, hn, rfl⟩ := e3
    rcases keyIs_shape (k := .inl n) (v := v) e2 with ⟨i, t, ek, ev⟩ | ⟨_, _, ek, _⟩
    · cases ek
      exact ⟨n, t, hn, ev⟩
    · cases ek
  have J : Inv X pins σ H { s with heap := g, toks := tk } := I.kept kept
  have small : acc.toList.length ≤ sizeLine := by rw [hints.length]; omega
  have laid : (g.push (seqObj "list" acc.toList.toArray 0)).get? g.objs.size = some (seqObj "list" acc.toList.toArray 0) := Heap.get?_push_size _ rfl
  refine ⟨small, SrtR.list_sort_ordR SrtO.swo_int laid small (fun two => SrtO.ints_sortable hints two) fun out h1 h2 => ⟨rfl, ?_⟩⟩
  obtain ⟨ys, isY, perm, order⟩ := SrtR.ints_outR hints h1 h2
  obtain ⟨e', at'⟩ := sortedHeap_at (vs := acc.toList) (out := if b = true then out.toArray.reverse else out.toArray) laid
  have fits : (ys.map V.int).length ≤ sizeLine := by
    rw [List.length_map, perm.length_eq]
    omega
  have isL : ObjOk X.prog X.w (upd H g.objs.size (.lst (ys.map V.int))) _ g.objs.size (.lst (ys.map V.int)) := ⟨fits, _, e', vals_of_ints isY, (Array.toArray_toList (xs := _)).symm ▸ at'⟩
  refine ⟨.ref g.objs.size, _, J.laid (t' := tk) (fun c o z => ?_) (Nat.le_refl _) isL, rfl, told ys _ perm order (J.hok.fresh (Nat.le_refl _))⟩
  have lt : c < g.objs.size := Heap.lt_size z
  refine (sortedHeap_old (Nat.ne_of_lt lt) (Nat.lt_trans lt ?_)).trans (Heap.get?_push_of_some _ z)
  exact Heap.lt_size laid
end SK
end
section
set_option Elab.async false
set_option linter.all false
set_option maxRecDepth 100000
set_option maxHeartbeats 2000000
namespace SK
open PySem PyProof.Rows L2 LamX
/-! ### d == e of two dicts whose values are pairs of ints -/
def PairsE (K : PySem.W.Frag) (H : Hp) (x y : V) (e : Bool) : Prop := ∃ (a b : Addr) (p q : Int × Int), x = .ref a ∧ y = .ref b ∧ SqT K H a [.int p.1, .int p.2] ∧ SqT K H b [.int q.1, .int q.2] ∧ e = decide (p = q)
inductive HitsV (K : PySem.W.Frag) (H : Hp) (ls : List (Key × V)) : List (Key × V) → Bool → Prop
  | nil : HitsV K H ls [] true
  | miss {k : Key} {v : V} {r : List (Key × V)} : valV ls k = none → HitsV K H ls ((k, v) :: r) false
  | hit {k : Key} {v y : V} {r : List (Key × V)} {e b : Bool} : valV ls k = some y → PairsE K H v y e → HitsV K H ls r b → HitsV K H ls ((k, v) :: r) (e && b)
section
variable {X : Cx} {pins : List (Addr × Obj)} {σ : L2.St} {H : Hp} {s : Shared} {A : Around}
theorem pairs_eqP (I : Inv X pins σ H s) (hu : A.units + 1 < cLine) {x y : V} {v u : Value} {e : Bool} (h : PairsE X.K H x y e) (rx : RelV x v) (ry : RelV y u) : SeqAt.EqP X.prog X.w A s v u e := by
  obtain ⟨a, b, p, q, rfl, rfl, ha, hb, rfl⟩ := h
  cases rx
  cases ry
  exact (PySem.W.eqAt_datum (pair_holds I ha) (pair_holds I hb) hu).eqP
theorem hitsV_run (I : Inv X pins σ H s) (hu : A.units + 1 < cLine) {ls : List (Key × V)} {vb : List (Key × Value)} (rb : KV ls vb) {ks : List (Key × V)} {r : Bool} (h : HitsV X.K H ls ks r) : ∀ {va : List (Key × Value)}, KV ks va → PySem.W.KeqHitsP X.prog X.w A s vb va r := by
  induction h with
  | nil => exact fun ra => match ra with | .nil => .nil
  | @miss k v r hm =>
    intro va ra
    match ra with
    | .cons (b := (k', v')) ⟨h1, h2⟩ t =>
      have ek : k = k' := h1
      subst ek
      have rel := rb.val k
      rw [hm] at rel
      refine .miss ?_
      cases e : valueAt vb k with
      | none => rfl
      | some z =>
        rw [e] at rel
        exact (show False from rel).elim
  | @hit k v y r e b hy he _ ih =>
    intro va ra
    match ra with
    | .cons (b := (k', v')) ⟨h1, h2⟩ t =>
      have ek : k = k' := h1
      subst ek
      obtain ⟨z, hz, rz⟩ := (show RelO (some y) (valueAt vb k) from hy ▸ rb.val k).some_of
      exact .hit hz (pairs_eqP I hu he h2 rz) (ih t)
end
def rEqP (K : PySem.W.Frag) : R2 := fun x y H Q => ∃ (a b : Addr) (ks ls : List (Key × V)) (r : Bool), x = .ref a ∧ y = .ref b ∧ H a = some (.dK ks) ∧ H b = some (.dK ls) ∧ HitsV K H ls ks r ∧ Q (.bl (ks.length == ls.length && r)) H
theorem op_eqP {X : Cx} (hu : X.A.units + 4 < cLine) : OpR X (compareOp .Eq) (rEqP X.K) := fun pins s σ H x y v u Q I rx ry ⟨a, b, ks, ls, r, ex, ey, ha, hb, hits, told⟩ => by
  subst ex ey
  cases rx
  cases ry
  have da : ObjOk X.prog X.w H s.heap a (.dK ks) := I.hok a _ ha
  have db : ObjOk X.prog X.w H s.heap b (.dK ls) := I.hok b _ hb
  obtain ⟨_, ya, va, ra, da⟩ := da
  obtain ⟨_, yb, vb, rb, db⟩ := db
  refine PySem.W.rcP_dicts (knd := mixKind X.prog X.w) (r := r) ya yb da db (by omega) (fun _ => hitsV_run I (A := X.A.in1) (show X.A.units + 1 + 1 < cLine by omega) rb hits ra) _ _ ?_
  rw [← ra.length, ← rb.length]
  exact ⟨.bl (ks.length == ls.length && r), H, I, rfl, told⟩
/-! ### xs == ys of two lists of ints -/
def rEqI (K : PySem.W.Frag) : R2 := fun x y H Q => ∃ (a b : Addr) (ns ms : List Int), x = .ref a ∧ y = .ref b ∧ SqL K H a (ns.map V.int) ∧ SqL K H b (ms.map V.int) ∧ Q (.bl (decide (ns = ms))) H
theorem ints_hold {X : Cx} {pins : List (Addr × Obj)} {σ : L2.St} {H : Hp} {s : Shared} (I : Inv X pins σ H s) {a : Addr} {ns : List Int} (h : SqL X.K H a (ns.map V.int)) : PySem.W.Holds s.heap (.ref a) ns := by
  obtain ⟨vs, r, isL, _⟩ := I.list h
  exact PySem.W.holds_list isL.isList (PySem.W.HoldAll.of_ints r.ints)
theorem op_eqI {X : Cx} (hu : X.A.units + 4 < cLine) : OpR X (compareOp .Eq) (rEqI X.K) := fun pins s σ H x y v u Q I rx ry ⟨a, b, ns, ms, ex, ey, ha, hb, told⟩ => by
  subst ex ey
  cases rx
  cases ry
  exact PySem.W.eq_datum (ints_hold I ha) (ints_hold I hb) (show X.A.units + 1 < cLine by omega) ⟨.bl _, H, I, rfl, told⟩
end SK
end
section
set_option Elab.async false
set_option linter.all false
set_option maxRecDepth 100000
set_option maxHeartbeats 2000000
namespace SK
open PySem PyProof.Rows L2
/-! ### list(x) is an extend of a new list -/
section
variable {prog : Program} {w : World} {A : Around} {E : Value → Shared → Prop} {s : Shared} {Q : Value → Shared → Prop}
/-- what the code behind list.__init__ may end with, Q told of the new list -/
abbrev InitEnd (prog : Program) (w : World) (A : Around) (Q : Value → Shared → Prop) (E : Value → Shared → Prop) (l : Addr) : PySem.Fin → Shared → Prop := fun fin s' => match fin with
  | .done f => wants (fun r s₂ => r = .none ∧ Q (.ref l) s₂) E (.ok f) s'
  | .again c' => c'.quiet = true ∧ codeAny (model prog w) A.in1 c' (wants (fun r s₂ => r = .none ∧ Q (.ref l) s₂) E) s'
theorem list_from {u : Value} (h : ∀ (g : Heap) (c : Nat), (∀ b o, s.heap.get? b = some o → g.get? b = some o) → g.get? s.heap.objs.size = some { cls := .type "list", data := .seq #[] c } →
      wpAny (model prog w) A.in1.in1 (Builtin.List.listExtendWith (.ref s.heap.objs.size) u .none) (InitEnd prog w A Q E s.heap.objs.size) (fun e s' => E e s') { s with heap := g }) :
    wpAny (model prog w) A (call (.type "list") [u]) Q E s := by
  have fresh : (s.heap.push { cls := .type "list", data := .seq #[] }).get? s.heap.objs.size = some { cls := .type "list", data := .seq #[] } := Heap.get?_push_size _ rfl
  refine callType_codes (Q₁ := fun v s' => v = .ref s.heap.objs.size ∧ s' = { s with heap := s.heap.push { cls := .type "list", data := .seq #[] } })
    F.called_list (F.typeCall_list_1 _) F.entry_list_init (code_list_new _ ⟨rfl, rfl⟩) fun v s' z => ?_
  obtain ⟨rfl, rfl⟩ := z
  refine ⟨⟨_, fresh, rfl⟩, F.args_list_init_2 _ _, wpAny_bind (listItems_at fresh rfl (wpAny_bind (listUpdate_at fresh rfl (wpAny_bind (wpAny_letGo (h _ _ (fun b o e => ?_) (Heap.get?_update_self _ fresh rfl)))) (Nat.zero_le _) (Nat.zero_le _))))⟩
  rw [Heap.get?_update_ne _ _ _ _ (Nat.ne_of_lt (Heap.lt_size e))]
  exact Heap.get?_push_of_some _ e
/-! ### the extend of a list by a zip -/
theorem zip_no_len : typeLookup (.type "zip") "__len__" = pure none := am_miss_of_fast (by decide +kernel)
theorem zip_no_hint : typeLookup (.type "zip") "__length_hint__" = pure none := am_miss_of_fast (by decide +kernel)
theorem extend_zip {z TI TO l : Addr} {c : Nat} {res : Value} {P : PySem.Fin → Shared → Prop} (isZ : IsZip s.heap z TI TO .none) (ne : l ≠ z) (at_ : s.heap.get? l = some { cls := .type "list", data := .seq #[] c })
    (h : ∀ (g : Heap) (c' : Nat), (∀ b o, b ≠ l → s.heap.get? b = some o → g.get? b = some o) → g.get? l = some { cls := .type "list", data := .seq #[] c' } →
      P (.again (.builtin "list.extend.loop" ⟨[.ref l, .ref z, res], []⟩)) { s with heap := g }) :
    wpAny (model prog w) A (Builtin.List.listExtendWith (.ref l) (.ref z) res) P E s := by
  have ty : s.TypeIs (.ref z) "zip" := ⟨_, isZ, rfl⟩
  unfold Builtin.List.listExtendWith
  refine wpAny_bind (wpAny_typeOf ty ?_)
  rw [if_neg (by simp [Builtin.List.listSameRef, ne])]
  refine wpAny_bind (wpAny_pyIter_zip isZ (wpAny_bind (wpAny_holding ?_)))
  unfold Builtin.List.listLengthHint
  refine wpAny_bind (wpAny_specialOf ty zip_no_len ?_)
  refine wpAny_bind (m := specialOf (Value.ref z) (Str.ofString "__length_hint__")) (wpAny_specialOf ty zip_no_hint (wpAny_pure ?_))
  have two : ∀ {g : Heap} {k : Nat}, g.get? l = some { cls := .type "list", data := .seq #[] k } → ∃ k', (g.update l (Obj.mapSeq (·.push Value.none))).get? l = some { cls := .type "list", data := .seq #[Value.none] k' } := fun e => ⟨_, Heap.get?_update_self (Obj.mapSeq (·.push Value.none)) e rfl⟩
  obtain ⟨k1, at1⟩ := two at_
  refine wpAny_bind (m := rule "list.extend.makes-room") (wpAny_rule (wpAny_bind (wpAny_bind (listUpdate_at at_ rfl (listUpdate_at at1 rfl (wpAny_pure (h _ _ (fun b o hb e => ?_) (Heap.get?_update_self _ at1 rfl))) (by decide) (by decide)) (Nat.zero_le _) (by decide)))))
  rw [Heap.get?_update_ne _ _ _ _ hb, Heap.get?_update_ne _ _ _ _ hb]
  exact e
end
/-! ### its loop: every pair is a new tuple, kept in the list -/
/-- the objects of a zip of the lists at a and b that has given out i pairs; S, where these are kept, is none of them -/
structure ZipAt (z TI TO i1 i2 a b S : Addr) (i : Nat) (h : Heap) : Prop where
  ins : IsPair h TI (.ref i1) (.ref i2)
  it1 : h.IsListIter i1 a i
  it2 : h.IsListIter i2 b i
  out : ∃ x y, IsPair h TO x y
  now : IsZip h z TI TO .none ∨ ∃ T f oT, IsZipHeld h z TI TO T f ∧ h.get? T = some oT ∧ T ≠ z ∧ T ≠ i1 ∧ T ≠ i2 ∧ T ≠ S
theorem ZipAt.stays {z TI TO i1 i2 a b S : Addr} {i : Nat} {h h' : Heap} (Z : ZipAt z TI TO i1 i2 a b S i h) (hS : S ∉ [z, TI, TO, i1, i2]) (k : ∀ c o, c ≠ S → h.get? c = some o → h'.get? c = some o) : ZipAt z TI TO i1 i2 a b S i h' := by
  have ne : ∀ c ∈ [z, TI, TO, i1, i2], c ≠ S := fun c hc e => hS (e ▸ hc)
  refine ⟨k _ _ (ne TI (by simp)) Z.ins, Z.it1.at fun o => k _ o (ne i1 (by simp)), Z.it2.at fun o => k _ o (ne i2 (by simp)), ?_, ?_⟩
  · obtain ⟨x, y, e⟩ := Z.out
    exact ⟨x, y, k _ _ (ne TO (by simp)) e⟩
  · exact Z.now.imp (k _ _ (ne z (by simp))) fun ⟨T, f, oT, e1, e2, r1, r2, r3, r4⟩ => ⟨T, f, oT, k _ _ (ne z (by simp)) e1, k _ _ r4 e2, r1, r2, r3, r4⟩
theorem ZipAt.below {z TI TO i1 i2 a b S : Addr} {i : Nat} {h : Heap} (Z : ZipAt z TI TO i1 i2 a b S i h) : ∀ c ∈ [z, TI, TO, i1, i2], c < h.objs.size := by
  have hz : ∃ o, h.get? z = some o := Z.now.elim (fun e => ⟨_, e⟩) fun ⟨_, _, _, e, _⟩ => ⟨_, e⟩
  obtain ⟨_, hz⟩ := hz
  obtain ⟨_, _, hO⟩ := Z.out
  obtain ⟨_, h1, _⟩ := Z.it1
  obtain ⟨_, h2, _⟩ := Z.it2
  intro c hc
  simp only [List.mem_cons, List.not_mem_nil, or_false] at hc
  rcases hc with rfl | rfl | rfl | rfl | rfl
  · exact Heap.lt_size hz
  · exact Heap.lt_size Z.ins
  · exact Heap.lt_size hO
  · exact Heap.lt_size h1
  · exact Heap.lt_size h2
/-- one draw, whichever way the zip stands: a new pair, or the end -/
theorem zip_draw {prog : Program} {w : World} {A : Around} {E : Value → Shared → Prop} {s : Shared} {Q : Option Value → Shared → Prop} {z TI TO i1 i2 a b S : Addr} {i : Nat} {xs ys : Array Value} (hA : A.handled = none) (D : ZipApart z TI TO i1 i2 a b) (Z : ZipAt z TI TO i1 i2 a b S i s.heap)
    (hSl : S < s.heap.objs.size) (l1 : s.heap.IsList a xs) (l2 : s.heap.IsList b ys)
    (more : ∀ x y h', xs[i]? = some x → ys[i]? = some y → IsPair h' s.heap.objs.size x y → (∀ c o, c ∉ [z, TI, TO, i1, i2] → s.heap.get? c = some o → h'.get? c = some o) → ZipAt z TI TO i1 i2 a b S (i + 1) h' → Q (some (.ref s.heap.objs.size)) { s with heap := h' })
    (last : ∀ h', xs[i]? = none ∨ ys[i]? = none → (∀ c o, c ∉ [z, TI, TO, i1, i2] → s.heap.get? c = some o → h'.get? c = some o) → Q none { s with heap := h' }) :
    wpAny (model prog w) A (pyNext (.ref z)) Q E s := by
  have new : ∀ c ∈ [z, TI, TO, i1, i2], s.heap.objs.size ≠ c := fun c hc => Nat.ne_of_gt (Z.below c hc)
  have off : ∀ {c d : Addr}, c ∉ [z, TI, TO, i1, i2] → d ∈ [z, TI, TO, i1, i2] → c ≠ d := fun hc hd e => hc (e ▸ hd)
  obtain ⟨x0, y0, hO⟩ := Z.out
  have both : (∃ x y, xs[i]? = some x ∧ ys[i]? = some y) ∨ xs[i]? = none ∨ ys[i]? = none := by
    cases e1 : xs[i]? with
    | none => exact .inr (.inl rfl)
    | some x =>
      cases e2 : ys[i]? with
      | none => exact .inr (.inr rfl)
      | some y => exact .inl ⟨x, y, rfl, rfl⟩
  rcases both with ⟨x, y, hx, hy⟩ | stop
  · rcases Z.now with hz | ⟨T, f, oT, hz, hT, r1, r2, r3, r4⟩
    · refine wpAny_pyNext_zip_item D hz Z.ins hO Z.it1 Z.it2 l1 l2 hx hy fun h' z' O' n1 n2 isT _ k => more x y h' hx hy isT (fun c o hc => k c o (off hc (by simp)) (off hc (by simp)) (off hc (by simp)) (off hc (by simp))) ?_
      exact ⟨k _ _ D.TIz D.TITO D.TIi1 D.TIi2 Z.ins, n1, n2, ⟨_, _, O'⟩, .inr ⟨_, false, _, z', isT, new z (by simp), new i1 (by simp), new i2 (by simp), Nat.ne_of_gt hSl⟩⟩
    · refine wpAny_pyNext_zip_item_held D hz hT Z.ins Z.it1 Z.it2 l1 l2 hx hy fun h' z' n1 n2 isT _ k => more x y h' hx hy isT (fun c o hc => k c o (off hc (by simp)) (off hc (by simp)) (off hc (by simp))) ?_
      exact ⟨k _ _ D.TIz D.TIi1 D.TIi2 Z.ins, n1, n2, ⟨_, _, k _ _ D.TOz D.TOi1 D.TOi2 hO⟩, .inr ⟨T, true, oT, z', k _ _ r1 r2 r3 hT, r1, r2, r3, r4⟩⟩
  · rcases Z.now with hz | ⟨T, f, oT, hz, hT, _⟩
    · exact wpAny_pyNext_zip_end hA D hz Z.ins hO Z.it1 Z.it2 l1 l2 stop fun h' k => last h' stop fun c o hc => k c o (off hc (by simp)) (off hc (by simp)) (off hc (by simp)) (off hc (by simp))
    · exact wpAny_pyNext_zip_end_held hA D hz hT Z.ins Z.it1 Z.it2 l1 l2 stop fun h' k => last h' stop fun c o hc => k c o (off hc (by simp)) (off hc (by simp)) (off hc (by simp))
/-- the pairs at Ts are (x, y), as far as they go -/
def Zipped (H : Hp) (Ts : List Addr) (xs ys : List V) : Prop := ∀ (i : Nat) (T : Addr) (x y : V), Ts[i]? = some T → xs[i]? = some x → ys[i]? = some y → H T = some (.tup [x, y])
theorem Zipped.snoc {H : Hp} {Ts : List Addr} {xs ys : List V} {T S : Addr} {x y : V} {o : HO} (h : Zipped H Ts xs ys) (hT : H T = none) (hS : ∀ p, H S ≠ some (.tup p)) (ne : T ≠ S) (hx : xs[Ts.length]? = some x) (hy : ys[Ts.length]? = some y) : Zipped (upd (upd H T (.tup [x, y])) S o) (Ts ++ [T]) xs ys := fun i U x' y' hU hx' hy' => by
  by_cases hi : i < Ts.length
  · rw [List.getElem?_append_left hi] at hU
    have e := h i U x' y' hU hx' hy'
    rw [upd_ne (fun q => hS _ (q ▸ e)), upd_ne (ne_of_none e hT)]
    exact e
  · have hi' : i < (Ts ++ [T]).length := (List.getElem?_eq_some_iff.mp hU).1
    rw [List.length_append, List.length_singleton] at hi'
    obtain rfl : i = Ts.length := by omega
    rw [List.getElem?_concat_length] at hU
    cases hU
    rw [upd_ne ne, upd_same, Option.some.inj (hx'.symm.trans hx), Option.some.inj (hy'.symm.trans hy)]
section
variable {X : Cx} {pins : List (Addr × Obj)} {σ : L2.St} {H1 : Hp} {z TI TO i1 i2 a b S : Addr} {xs ys : List V} {A : Around} {R : Result → Shared → Prop} {res : Value}
theorem lz_loop (hA : A.handled = none) (D : ZipApart z TI TO i1 i2 a b) (hS : S ∉ [z, TI, TO, i1, i2]) (hSn : H1 S = none) (hqx : SqL X.K H1 a xs) (hqy : SqL X.K H1 b ys)
    (hend : ∀ (s : Shared) (H : Hp) (Ts : List Addr), Inv X pins σ H s → Same H1 H → H S = some (.lst (Ts.map V.ref)) → Ts.length = min xs.length ys.length → Zipped H Ts xs ys → R (.ok (.ret res)) s) :
    ∀ (k : Nat) (s : Shared) (H : Hp) (Ts : List Addr), Ts.length + k = min xs.length ys.length → Inv X pins σ H s → (∀ c ∈ [z, TI, TO, i1, i2], FpOk X pins H c) → ZipAt z TI TO i1 i2 a b S Ts.length s.heap →
      Same H1 H → H S = some (.lst (Ts.map V.ref)) → Zipped H Ts xs ys → codeAny (model X.prog X.w) A (.builtin "list.extend.loop" ⟨[.ref S, .ref z, res], []⟩) R s := by
  intro k
  induction k with
  | zero =>
    intro s H Ts hk I hf Z sm hSH hp
    obtain ⟨us, ru, isA, _⟩ := I.list (sm.seq hqx)
    obtain ⟨ws, rw', isB, _⟩ := I.list (sm.seq hqy)
    have lu := ru.length
    have lw := rw'.length
    refine codeAny_builtin F.entry_extend_loop ?_
    rw [Around.under_plainId F.plain_extend_loop]
    refine wpAny_bind (zip_draw (A := A.in1) hA D Z (I.hok S _ hSH).lt isA.isList isB.isList (fun x y _ hx hy => ?_) fun h' _ keep => wpAny_pure (hend _ H Ts (I.turnedL (t' := s.toks) keep hf) sm hSH (by omega) hp))
    have h1 : Ts.length < us.length := by simpa using (Array.getElem?_eq_some_iff.mp hx).1
    have h2 : Ts.length < ws.length := by simpa using (Array.getElem?_eq_some_iff.mp hy).1
    omega
  | succ k ih =>
    intro s H Ts hk I hf Z sm hSH hp
    obtain ⟨us, ru, isA, _⟩ := I.list (sm.seq hqx)
    obtain ⟨ws, rw', isB, few⟩ := I.list (sm.seq hqy)
    have lu := ru.length
    have lw := rw'.length
    have new : H s.heap.objs.size = none := I.hok.fresh (Nat.le_refl _)
    have ltS : S < s.heap.objs.size := (I.hok S _ hSH).lt
    have gx : xs[Ts.length]? = some (xs[Ts.length]'(by omega)) := List.getElem?_eq_getElem _
    have gy : ys[Ts.length]? = some (ys[Ts.length]'(by omega)) := List.getElem?_eq_getElem _
    generalize xs[Ts.length]'_ = x at gx
    generalize ys[Ts.length]'_ = y at gy
    obtain ⟨u, hu, rx⟩ := ru.get gx
    obtain ⟨v, hv, ry⟩ := rw'.get gy
    refine codeAny_builtin F.entry_extend_loop ?_
    rw [Around.under_plainId F.plain_extend_loop]
    refine wpAny_bind (zip_draw (A := A.in1) hA D Z ltS isA.isList isB.isList (fun u' v' h' eu ev isT keep Z' => ?_) fun h' stop _ => ?_)
    · obtain rfl : u' = u := Option.some.inj (eu.symm.trans (by simpa using hu))
      obtain rfl : v' = v := Option.some.inj (ev.symm.trans (by simpa using hv))
      have I1 : Inv X pins σ (upd H s.heap.objs.size (.tup [x, y])) { s with heap := h' } := I.turnedNew (t' := s.toks) keep hf (Nat.le_refl _) (show ObjOk X.prog X.w _ h' s.heap.objs.size (.tup [x, y]) from ⟨show 2 ≤ sizeLine by decide, [u', v'], .cons rx (.cons ry .nil), ⟨_, isT, rfl, _, rfl⟩⟩)
      have atS : upd H s.heap.objs.size (.tup [x, y]) S = some (.lst (Ts.map V.ref)) := (upd_ne (Nat.ne_of_lt ltS)).trans hSH
      obtain ⟨_, kept, n, rk, lk, ek⟩ := I1.lstM atS
      rw [List.length_map] at lk
      have I2 := I1.lset (t' := s.toks) (its' := kept ++ [.ref s.heap.objs.size]) (f := (·.push (.ref s.heap.objs.size))) (ys := (Ts ++ [s.heap.objs.size]).map V.ref) atS ek (by simp) (by rw [List.map_append]; exact rk.append (.cons rfl .nil)) (by simp; omega)
      refine wpAny_bind (listUpdate_at ek rfl (wpAny_pure ⟨plainId_quiet F.plain_extend_loop _, ?_⟩) (by rw [List.size_toArray]; omega) (by rw [Array.size_push, List.size_toArray]; omega))
      refine ih _ _ (Ts ++ [s.heap.objs.size]) (by rw [List.length_append, List.length_singleton]; omega) I2 (fun c hc => ⟨?_, (hf c hc).2⟩) ?_ (fun c o e => ?_) upd_same (hp.snoc new (fun p e => by rw [hSH] at e; cases e) (Nat.ne_of_gt ltS) gx gy)
      · rw [upd_ne (fun q : c = S => hS (q ▸ hc)), upd_ne (Nat.ne_of_lt (Z.below c hc))]
        exact (hf c hc).1
      · rw [List.length_append]
        exact Z'.stays hS fun c o hc e => (Heap.get?_update_ne _ _ _ _ hc).trans e
      · rw [upd_ne (ne_of_none e hSn), upd_ne (ne_of_none (sm c o e) new)]
        exact sm c o e
    · rw [List.getElem?_toArray, List.getElem?_toArray, hu, hv] at stop
      rcases stop with e | e <;> cases e
end
theorem five_of {n d m : Nat} (h : d ∈ [n + 4, n + 2, n + 3, n, n + 1]) (hm : m = n + 5) : n ≤ d ∧ d ≠ m := by
  simp only [List.mem_cons, List.not_mem_nil, or_false] at h
  omega
/-- list(zip(xs, ys)): a new list of new pairs -/
def tListZip (K : PySem.W.Frag) (ta : TA) : TE := fun σ H Q => ta σ H fun vs H1 => ∃ a b xs ys, vs = [.ref a, .ref b] ∧ SqL K H1 a xs ∧ SqL K H1 b ys ∧
  ∀ (H2 : Hp) (l : Addr) (Ts : List Addr), Same H1 H2 → H1 l = none → H2 l = some (.lst (Ts.map V.ref)) → Ts.length = min xs.length ys.length → Zipped H2 Ts xs ys → Q (.ref l) H2
theorem pe_listZip {X : Cx} {e e2 : Expr} {ta : TA} {p p2 pos pos2 : Pos} (hc : X.calm = true) (hg : Gl X "list") (hm : X.mg "list" = none) (hg2 : Gl X "zip") (hm2 : X.mg "zip" = none) (ha : PA X [e, e2] ta)
    (hs : starEach [e, e2] X.env = (false, eval e X.env) :: starEach [e2] X.env := by rfl) (hpl : (backTo pos2 (starEach [e2] X.env)).any (·.1) = false := by rfl)
    (hz : starEach [.Call (.Name "zip" p2) [e, e2] [] pos2] X.env = (false, eval (.Call (.Name "zip" p2) [e, e2] [] pos2) X.env) :: starEach [] X.env := by rfl) :
    PE X (.Call (.Name "list" p) [.Call (.Name "zip" p2) [e, e2] [] pos2] [] pos) (tListZip X.K ta) := by
  refine ⟨fun pins s σ H Q I h => Call_ (ld_blt I hg hm boot_list (PyProof.Rows.callWith_type1 (args_cons ?_ hz) hz))⟩
  refine Call_ (ld_blt I hg2 hm2 PyProof.Rows.boot_zip (PyProof.Rows.callWith_type1 (thn (ha.run pos2 pins s σ H _ I h) fun us s1 ⟨vs, H1, I1, r, a, b, xs, ys, ev, hqx, hqy, told⟩ => ?_) hs hpl))
  subst ev
  obtain ⟨_, _, rfl, ra, rb⟩ := vals2 r
  cases ra
  cases rb
  obtain ⟨_, _, isA, _⟩ := I1.list hqx
  obtain ⟨_, _, isB, _⟩ := I1.list hqy
  refine call_zip_2 isA.isList isB.isList fun g isZ isI isO n1 n2 size kept => args_nil (list_from fun g2 c kept2 atL => ?_)
  have J : Inv X pins σ H1 { s1 with heap := g } := I1.kept (t' := s1.toks) kept
  have S0 : g.objs.size ∉ [s1.heap.objs.size + 4, s1.heap.objs.size + 2, s1.heap.objs.size + 3, s1.heap.objs.size, s1.heap.objs.size + 1] := by simp [size]
  have new : H1 g.objs.size = none := J.hok.fresh (Nat.le_refl _)
  refine extend_zip (kept2 _ _ isZ) (fun z => S0 (by rw [z]; simp)) atL fun g3 c' kept3 atL3 => ⟨plainId_quiet F.plain_extend_loop _, ?_⟩
  have all : ∀ d o, g.get? d = some o → g3.get? d = some o := fun d o e => kept3 d o (Nat.ne_of_lt (Heap.lt_size e)) (kept2 d o e)
  have J2 : Inv X pins σ (upd H1 g.objs.size (.lst [])) { s1 with heap := g3 } := J.laid (t' := s1.toks) all (Nat.le_refl _) (show ObjOk X.prog X.w _ g3 g.objs.size (.lst []) from ⟨Nat.zero_le _, [], c', .nil, atL3⟩)
  refine lz_loop (A := X.A.in1) (H1 := H1) (I.ok.hd hc) (PySem.W.ktu_apart s1.heap.objs.size a b isA.lt isB.lt) S0 new hqx hqy (fun s' H2 Ts K sm e1 e2 e3 => ⟨rfl, .ref g.objs.size, H2, K, rfl, told H2 _ Ts sm new e1 e2 e3⟩) _ _ _ [] (Nat.zero_add _) J2 (fun d hd => ⟨?_, ?_⟩)
    ⟨all _ _ isI, n1.at fun o => all _ o, n2.at fun o => all _ o, ⟨_, _, all _ _ isO⟩, .inl (all _ _ isZ)⟩ (fun d o e => (upd_ne (ne_of_none e new)).trans e) upd_same fun i T x y e => by cases e
  · exact (upd_ne (five_of hd size).2).trans (I1.hok.fresh (five_of hd size).1)
  · exact (I1.fpOk (five_of hd size).1 (I1.hok.fresh (five_of hd size).1)).2
end SK
end
section
set_option Elab.async false
set_option linter.all false
set_option maxRecDepth 100000
set_option maxHeartbeats 2000000
namespace SK
open PySem PyProof.Rows L2 LamX
open PySem.W (WData Codec OpenSpec WellAll ReadsW WRecords)
/-! ### the end of a Spec row whose program makes lambdas: the tables of code objects are tracked beside the arguments -/
mutual
theorem dw_ext {K : PySem.W.Frag} {H H' : Hp} (x : L2.Ext H H') : ∀ (d : WData) (v : V), Dw K H v d → Dw K H' v d
  | .none, _, h => by cases h; exact .non
  | .bool b, _, h => by cases h; exact .bl b
  | .int i, _, h => by cases h; exact .int i
  | .str s, _, h => by cases h; exact .str s
  | .bytes b, _, h => by cases h; exact .byt _
  | .list ds, _, h => by
    cases h with
    | lst hs ha => exact .lst (hs.ext x) (dw_extAll x ds _ ha)
  | .tuple ds, _, h => by
    cases h with
    | tup hs ha => exact .tup (hs.ext x) (dw_extAll x ds _ ha)
  | .float _, _, h => by cases h
  | .dict _, _, h => by cases h
  | .bytearray _, _, h => by cases h
  | .set _, _, h => by cases h
  | .frozenset _, _, h => by cases h
  | .obj _ _, _, h => by cases h
theorem dw_extAll {K : PySem.W.Frag} {H H' : Hp} (x : L2.Ext H H') : ∀ (ds : List WData) (vs : List V), DwAll K H vs ds → DwAll K H' vs ds
  | [], _, h => by cases h; exact .nil
  | d :: ds, _, h => by
    cases h with
    | cons h1 h2 => exact .cons (dw_ext x d _ h1) (dw_extAll x ds _ h2)
end
/-- what is tracked at the call: H, told of the heap h. The arguments are known to the object, the tables are empty, and nothing else is tracked -/
structure Laid (P : Program) (w : World) (K : PySem.W.Frag) (tabs : List Addr) (h : Heap) (vals : List Value) (ds : List WData) (H : Hp) : Prop where
  ok : HOk P w H h
  tab : ∀ t ∈ tabs, H t = some (.tbl #[])
  args : DwAll K H (vals.map toV) ds
  out : ∀ b u, H b = some u → K.lookup b = none
  two : ∀ b u, H b = some u → (b ∈ tabs ∧ u = .tbl #[]) ∨ ∃ o v, u = .frz o v ∧ ∃ xs n, o.data = .seq xs n
section
variable {P : Program} {w : World} {K : PySem.W.Frag} {tabs : List Addr} {h : Heap} {vals : List Value} {ds : List WData} {H : Hp}
theorem laid_of (KX : K.In h) (hT : ∀ t ∈ tabs, h.get? t = some { cls := .none, data := .fields #[] }) (nT : ∀ t ∈ tabs, K.lookup t = none) (hwl : WellAll w.params h vals ds) (hpl : plWs ds = true) (hwt : ∀ d ∈ ds, d.weight ≤ 1048576) :
    Vals (vals.map toV) vals ∧ ∃ H, Laid P w K tabs h vals ds H := by
  obtain ⟨A, inA, ar⟩ := area_all ds vals hwl hpl hwt
  have seq : ∀ {b u}, argH K h A b = some u → ∃ o xs n, h.get? b = some o ∧ o.data = .seq xs n ∧ ∃ v, u = .frz o v := fun q => by
    obtain ⟨_, vs, _, _, ⟨e, rfl⟩ | ⟨e, rfl⟩⟩ := argH_is ar q
    · exact ⟨_, _, _, e, rfl, _, rfl⟩
    · exact ⟨_, _, _, e, rfl, _, rfl⟩
  have apart : ∀ {b u}, argH K h A b = some u → b ∉ tabs := fun q ht => by
    obtain ⟨o, xs, n, e, d, _⟩ := seq q
    rw [hT _ ht] at e
    cases e
    cases d
  let H : Hp := fun b => if b ∈ tabs then some (.tbl #[]) else argH K h A b
  have grows : L2.Ext (argH K h A) H := fun b u q => (if_neg (apart q)).trans q
  have split : ∀ {b u}, H b = some u → (b ∈ tabs ∧ u = .tbl #[]) ∨ argH K h A b = some u := fun {b u} q => by
    by_cases hb : b ∈ tabs
    · exact .inl ⟨hb, (Option.some.inj ((show H b = _ from if_pos hb).symm.trans q)).symm⟩
    · exact .inr ((show H b = _ from if_neg hb).symm.trans q)
  refine ⟨vals_toV inA, H, fun b u q => ?_, fun t ht => if_pos ht, dw_extAll grows ds _ (dw_all KX ar ds vals hwl hpl inA), fun b u q => ?_, fun b u q => ?_⟩
  · rcases split q with ⟨hb, rfl⟩ | q
    · exact hT b hb
    · exact (argH_ok ar b u q).stay (fun _ _ _ e => e) (fun _ e => grows _ _ e) fun _ _ e => grows _ _ e
  · rcases split q with ⟨hb, _⟩ | q
    · exact nT b hb
    · exact (argH_is ar q).1
  · refine (split q).imp id fun q => ?_
    obtain ⟨o, xs, n, _, d, v, e⟩ := seq q
    exact ⟨o, v, e, xs, n, d⟩
/-- what looks otherwise than a list, a tuple or an empty table is not tracked, so it is seen -/
theorem Laid.sees (L : Laid P w K tabs h vals ds H) (hT : ∀ t ∈ tabs, h.get? t = some { cls := .none, data := .fields #[] }) {b : Addr} {o : Obj} (e : h.get? b = some o) (h1 : ∀ xs n, o.data ≠ .seq xs n) (h2 : o.data ≠ .fields #[]) : (hidT h H).get? b = some o := by
  refine hidT_get e ?_
  cases q : H b with
  | none => rfl
  | some u =>
    exfalso
    rcases L.two b u q with ⟨hb, _⟩ | ⟨ob, v, rfl, xs, n, d⟩
    · exact h2 (by rw [← Option.some.inj ((hT b hb).symm.trans e)])
    · obtain ⟨at_, _⟩ := L.ok b _ q
      exact h1 xs n (by rw [← Option.some.inj (at_.symm.trans e)]; exact d)
theorem Laid.names (L : Laid P w K tabs h vals ds H) (hT : ∀ t ∈ tabs, h.get? t = some { cls := .none, data := .fields #[] }) {b : Addr} {m : Str → Option Value} (n : h.Ns b m) : (hidT h H).Ns b m := by
  obtain ⟨o, es, ep, e, d, r⟩ := n
  exact ⟨o, es, ep, L.sees hT e (fun _ _ z => by rw [d] at z; cases z) (fun z => by rw [d] at z; cases z), d, r⟩
theorem Laid.kin (L : Laid P w K tabs h vals ds H) (KX : K.In h) : K.In (hidT h H) := fun b o e => hidT_get (KX b o e) (by
  cases q : H b with
  | none => rfl
  | some u => exact nomatch (L.out b u q).symm.trans e)
/-- what the making of a lambda asks of a code object and its table -/
theorem Laid.tabB (L : Laid P w K tabs h vals ds H) (hT : ∀ t ∈ tabs, h.get? t = some { cls := .none, data := .fields #[] }) {mg : Str → Option Value} (hns : h.Ns mainGlobals mg) {c t : Addr} (ht : t ∈ tabs) (hc : PySem.W.CodeHd h c t)
    (hbm : ∃ (bm : Addr) (ob : Obj), mg "__builtins__" = some (.ref bm) ∧ bm ≠ builtinsNs ∧ h.get? bm = some ob ∧ ob.cls = .type "module" ∧ ob.dict = some builtinsNs ∧ ob.data = .plain) : TabB (hidT h H) mg c t := by
  have isNs := hns
  obtain ⟨ns, es, ep, nsAt, nsData, _⟩ := isNs
  refine ⟨?_, ?_, fun z => ?_⟩
  · obtain ⟨o, us, x1, x2, x3, x4, x5, x6, x7, at_, cls, data, row, rest⟩ := hc
    refine ⟨o, us, x1, x2, x3, x4, x5, x6, x7, L.sees hT at_ (fun _ _ z => nomatch data.symm.trans z) (fun z => ?_), cls, data, row, rest⟩
    rw [Data.fields.inj (data.symm.trans z)] at row
    simp at row
  · obtain ⟨bm, ob, g1, g2, at_, g3, g4, plain⟩ := hbm
    refine ⟨bm, ob, g1, g2, fun z => ?_, fun z => ?_, L.sees hT at_ (fun _ _ y => nomatch plain.symm.trans y) (fun y => nomatch plain.symm.trans y), g3, g4, plain⟩
    · rw [z, nsAt] at at_
      exact nomatch nsData.symm.trans ((congrArg Obj.data (Option.some.inj at_)).trans plain)
    · rw [z, hT t ht] at at_
      exact nomatch (congrArg Obj.data (Option.some.inj at_)).trans plain
  · rw [z, hT t ht] at nsAt
    exact nomatch (congrArg Obj.data (Option.some.inj nsAt)).trans nsData
/-- behind the call: all that is no table stands as it stood; a table may have grown -/
theorem Laid.after (L : Laid P w K tabs h vals ds H) {H' : Hp} {h' : Heap} (un : Un (frs []) [] H H' h h') (ok' : HOk P w H' h') : (∀ b o, b ∉ tabs → h.get? b = some o → h'.get? b = some o) ∧ ∀ t ∈ tabs, ∃ more, h'.get? t = some { cls := .none, data := .fields more } := by
  refine ⟨fun b o hb e => ?_, fun t ht => ?_⟩
  · cases q : H b with
    | none => exact un.keep b o e q (fun z => nomatch z) (fun z => nomatch z)
    | some u =>
      rcases L.two b u q with ⟨z, _⟩ | ⟨ob, v, rfl, _⟩
      · exact absurd z hb
      · rw [Option.some.inj (e.symm.trans (L.ok b _ q).1)]
        exact (ok' b _ (un.frzs b ob v q)).1
  · obtain ⟨more, z⟩ := un.tbls t #[] (L.tab t ht)
    exact ⟨_, ok' t _ z⟩
end
/-- what is known of the row's def at the head's heap h: cs, the code objects that make lambdas and their tables -/
structure SpecOfT (r : OpenSpec) (w : World) (K : PySem.W.Frag) (CX : CXT) (k : Nat) (ps : List Str) (mg : Str → Option Value) (fa : Addr) (h : Heap) (fd : FuncData) (cs : List (Addr × Addr)) (sp : Sp) : Prop where
  empty : ∀ t ∈ cs.map (·.2), h.get? t = some { cls := .none, data := .fields #[] }
  out : ∀ t ∈ cs.map (·.2), K.lookup t = none
  code : ∀ p ∈ cs, PySem.W.CodeHd h p.1 p.2
  binds : ∀ (s : Shared) (us : List Value), us.length = ps.length → BindsTo s fd ⟨us, []⟩ (ps.zip us)
  asks : ∀ (H : Hp) (xs : List V) (a : Codec.denoteAll r.args), (∀ t ∈ cs.map (·.2), H t = some (.tbl #[])) → Codec.withinAll r.args a = true → Codec.app r.args r.asked a = true → DwAll K H xs (Codec.encAll r.args a) →
    sp xs H (fun v H' => Dw K H' v (r.ret.enc (Codec.app r.args r.f a))) fun _ _ _ => False
  keeps : ∀ base : Heap, K.In base → base.Ns mainGlobals mg → (∀ p ∈ cs, TabB base mg p.1 p.2) → FnOk r.prog w K mg base CX k fa fd ps sp
theorem walk_specT {r : OpenSpec} {k : Nat} {q : Program} {loose : List Str} {XP : (Str → Option Value) → Heap → Prop} {YP : World → Heap → Prop} {d : DefRec} {K : Params → PySem.W.Frag} {CX : CXT} {ps : List Str}
    (well : r.wellSaid = true) (hdf : d.params.defaults = []) (hlen : r.args.length = ps.length) (hr : Room k callerA) (hY : ∀ (w : World) (h : Heap), YP w h → (K w.params).In h)
    (F : ∀ (w : World) (mg : Str → Option Value) (fa : Addr) (h : Heap), YP w h → (K w.params).In h → h.Ns mainGlobals mg → mg d.name = some (.ref fa) → ∃ fd cs sp, SpecOfT r w (K w.params) CX k ps mg fa h fd cs sp)
    (never : ∀ (H : Hp) (s : Shared) (e : Value) (s' : Shared), CX [] H s (fun _ _ _ => False) e s' → False) :
    PySem.W.WalkOS q loose XP YP r d [] (fun f vs => PySem.call f vs) := fun w s₀ s₁ mg mb G Y fa _ _ _ _ _ _ _ _ _ _ hmg bare args vals as pre layable _ hwl _ => by
  obtain ⟨a, dec, asked⟩ := PySem.W.os_pre_some pre
  obtain ⟨rfl, within⟩ := Codec.encAll_of_decAll r.args args a dec
  have KX := hY w _ Y
  obtain ⟨fd, cs, sp, S⟩ := F w mg fa _ Y KX G.T.g hmg
  obtain ⟨rel, H, L⟩ := laid_of (P := r.prog) (w := w) KX S.empty S.out hwl (pl_encAll _ _) (layable_weight layable)
  have mod : L2.Mod (K w.params) mg (hidT s₁.heap H) := by
    obtain ⟨mc, l1, l2⟩ := G.T.nolimit
    exact ⟨L.kin KX, L.names S.empty G.T.g, ⟨mb, L.names S.empty G.T.b, G.T.builtins⟩, mc, L.names S.empty l1, l2⟩
  have here : Env0 r.prog w (K w.params) mg (hidT s₁.heap H) callerA [] s₁ H := { frames := rfl, mod := mod, bs := fun _ _ e => of_hidT e, bsz := Nat.le_of_eq (hidT_size _ _), funs := trivial, frf := fun _ z => (nomatch z), hok := L.ok, bare := .of_eq bare }
  have len : vals.length = ps.length := by rw [wellAll_len hwl, encAll_len, hlen]
  have fn := S.keeps _ (L.kin KX) (L.names S.empty G.T.g) fun p hp => L.tabB S.empty G.T.g (List.mem_map_of_mem hp) (S.code p hp) G.T.bmain
  refine PySem.W.enter_call (codeAny_mono (fn.run callerA [] s₁ H ⟨vals, []⟩ vals _ _ _ hr here (S.binds s₁ vals len) rel (S.asks H _ a L.tab within asked L.args)) fun res s' z => ?_)
  match res, z with
  | .error e, z => exact (never H s₁ e s' z).elim
  | .ok (.ret u), ⟨v, H', os, still, un, ok', rv, ans⟩ =>
    obtain ⟨same, grown⟩ := L.after un ok'
    have KX' : (K w.params).In s'.heap := fun b o e => same b o (fun ht => nomatch (S.out b ht).symm.trans e) (KX b o e)
    obtain ⟨as', reads⟩ := Dw.reads (R := []) (cl := classAt s₀.heap) ok' KX' _ v u ans rv
    have tables : ∀ {b o}, b ∈ cs.map (·.2) → s₁.heap.get? b = some o → ∃ more, s'.heap.get? b = some { cls := .none, data := .fields more } ∧ isCodeTable s₁.heap b ∧ o = { cls := .none, data := .fields #[] } := fun {b o} ht e => by
      obtain ⟨more, at_⟩ := grown b ht
      obtain ⟨p, hp, rfl⟩ := List.mem_map.mp ht
      exact ⟨more, at_, ((S.code p hp).tab (S.empty _ ht)).isCodeTable, Option.some.inj (e.symm.trans (S.empty _ ht))⟩
    refine ⟨.inl ⟨u, _, as', rfl, fun _ => rfl, reads, (OpenSpec.post_iff well within _ _).mpr rfl, fun y => nomatch (show false = true from y)⟩, ⟨fun b o e => ?_, fun b o e => ?_⟩, os, still⟩
    · refine (Decidable.em (b ∈ cs.map (·.2))).elim (fun ht => ?_) fun no => .inl (same b o no e)
      obtain ⟨more, at_, isT, rfl⟩ := tables ht e
      exact .inr (.inl ⟨isT, rfl, #[], more, rfl, by simpa using at_⟩)
    · refine (Decidable.em (b ∈ cs.map (·.2))).elim (fun ht => ?_) fun no => ⟨o, same b o no e⟩
      obtain ⟨more, at_, _⟩ := tables ht e
      exact ⟨_, at_⟩
end SK
end
section
set_option Elab.async false
set_option linter.all false
set_option maxRecDepth 100000
set_option maxHeartbeats 2000000
namespace Pf
open PySem PySem.Spec PyProof.Rows L2 LamX SK
open Sq28 (Deed House)
abbrev STree := Sq28.Tree
abbrev SPlace := Sq28.Place
/-! ### the heap: what is kept -/
theorem Same.extN {H H' : Hp} (s : Same H H') : ExtN H H' := ExtN.of s
theorem same_upd {H : Hp} {p : Addr} {o : HO} (h : H p = none) : Same H (upd H p o) := fun b u e => by rw [upd_ne (ne_of_none e h)]; exact e
theorem sqL_extN {K : PySem.W.Frag} {H H' : Hp} {a : Addr} {xs : List V} (e : ExtN H H') (h : SqL K H a xs) : SqL K H' a xs :=
  h.elim (fun h => .inl (h.elim (fun h => .inl (e _ _ h (fun ps z => by cases z))) fun ⟨o, h⟩ => .inr ⟨o, e _ _ h (fun ps z => by cases z)⟩)) fun h => .inr h
/-! ### fields -/
theorem lk_here {k : Str} {v : V} {r : List (Str × V)} : List.lookup k ((k, v) :: r) = some v := by
  have e : (k == k) = true := beq_self_eq_true k
  simp only [List.lookup, e]
theorem lk_past {k g : Str} {v : V} {r : List (Str × V)} (h : (k == g) = false) : List.lookup k ((g, v) :: r) = List.lookup k r := by
  simp only [List.lookup, h]
theorem put_here {f : Str} {v x : V} {r : List (Str × V)} : putF f v ((f, x) :: r) = (f, v) :: r := if_pos rfl
theorem put_past {f g : Str} {v x : V} {r : List (Str × V)} (h : ¬ g = f) : putF f v ((g, x) :: r) = (g, x) :: putF f v r := if_neg h
/-! ### a deed -/
def dF (t : Addr) (d : Deed) : List (Str × V) := [("stamp", .ref t), ("thing", .int d.thing), ("under", .int d.under), ("label", .int d.label)]
theorem dF_stamp (t : Addr) (d : Deed) : (dF t d).lookup ("stamp" : Str) = some (.ref t) := lk_here
theorem dF_thing (t : Addr) (d : Deed) : (dF t d).lookup ("thing" : Str) = some (.int d.thing) := (lk_past (by decide +kernel)).trans lk_here
theorem dF_under (t : Addr) (d : Deed) : (dF t d).lookup ("under" : Str) = some (.int d.under) := (lk_past (by decide +kernel)).trans ((lk_past (by decide +kernel)).trans lk_here)
theorem dF_label (t : Addr) (d : Deed) : (dF t d).lookup ("label" : Str) = some (.int d.label) := (lk_past (by decide +kernel)).trans ((lk_past (by decide +kernel)).trans ((lk_past (by decide +kernel)).trans lk_here))
theorem dF_new (t : Addr) (d : Deed) : putF "label" (.int d.label) (putF "under" (.int d.under) (putF "thing" (.int d.thing) (putF "stamp" (.ref t) []))) = dF t d := by
  show putF "label" _ (putF "under" _ (putF "thing" _ [("stamp", V.ref t)])) = _
  rw [put_past (by decide +kernel)]
  show putF "label" _ (putF "under" _ [("stamp", V.ref t), ("thing", _)]) = _
  rw [put_past (by decide +kernel), put_past (by decide +kernel)]
  show putF "label" _ [("stamp", V.ref t), ("thing", _), ("under", _)] = _
  rw [put_past (by decide +kernel), put_past (by decide +kernel), put_past (by decide +kernel)]
  rfl
def DeedAt (CD : Addr) (H : Hp) (a : Addr) (d : Deed) : Prop := ∃ dx t, H a = some (.ins CD dx (dF t d)) ∧ H t = some (.tup [.int d.stamp.count, .int d.stamp.hand])
theorem DeedAt.ext {CD : Addr} {H H' : Hp} {a : Addr} {d : Deed} (e : ExtN H H') (h : DeedAt CD H a d) : DeedAt CD H' a d := by
  obtain ⟨dx, t, h1, h2⟩ := h
  exact ⟨dx, t, e _ _ h1 (fun ps z => by cases z), e _ _ h2 (fun ps z => by cases z)⟩
/-- deeds, one an address -/
structure DeedsAt (CD : Addr) (H : Hp) (das : List Addr) (l : List Deed) : Prop where
  len : das.length = l.length
  each : ∀ (i : Nat) (a : Addr) (d : Deed), das[i]? = some a → l[i]? = some d → DeedAt CD H a d
theorem DeedsAt.ext {CD : Addr} {H H' : Hp} {das : List Addr} {l : List Deed} (e : ExtN H H') (h : DeedsAt CD H das l) : DeedsAt CD H' das l := ⟨h.len, fun i a d h1 h2 => (h.each i a d h1 h2).ext e⟩
theorem DeedsAt.at_ {CD : Addr} {H : Hp} {das : List Addr} {l : List Deed} (h : DeedsAt CD H das l) {i : Nat} {d : Deed} (hi : l[i]? = some d) : ∃ a, das[i]? = some a ∧ DeedAt CD H a d := by
  have hlt : i < das.length := by rw [h.len]; exact (List.getElem?_eq_some_iff.mp hi).1
  exact ⟨das[i], List.getElem?_eq_getElem hlt, h.each i _ d (List.getElem?_eq_getElem hlt) hi⟩
theorem DeedsAt.nil {CD : Addr} {H : Hp} : DeedsAt CD H [] [] := ⟨rfl, fun i a d h _ => by simp at h⟩
theorem DeedsAt.snoc {CD : Addr} {H : Hp} {das : List Addr} {l : List Deed} {a : Addr} {d : Deed} (h : DeedsAt CD H das l) (hd : DeedAt CD H a d) : DeedsAt CD H (das ++ [a]) (l ++ [d]) := by
  refine ⟨by rw [List.length_append, List.length_append, h.len]; rfl, fun i b e h1 h2 => ?_⟩
  by_cases hi : i < das.length
  · rw [List.getElem?_append_left hi] at h1
    rw [List.getElem?_append_left (by rw [← h.len]; exact hi)] at h2
    exact h.each i b e h1 h2
  · rw [List.getElem?_append_right (by omega)] at h1
    rw [List.getElem?_append_right (by rw [← h.len]; omega), ← h.len] at h2
    cases j : i - das.length with
    | zero =>
      rw [j] at h1 h2
      cases (Option.some.inj h1 : a = b)
      cases (Option.some.inj h2 : d = e)
      exact hd
    | succ n => rw [j] at h1; simp at h1
/-! ### what a desk knows -/
structure ListsAt (H : Hp) (kas : List Addr) (desks : List (List Deed)) : Prop where
  len : kas.length = desks.length
  each : ∀ (k : Nat) (a : Addr) (l : List Deed), kas[k]? = some a → desks[k]? = some l → H a = some (.lst ((My.idv l).map V.int))
theorem ListsAt.ext {H H' : Hp} {kas : List Addr} {desks : List (List Deed)} (e : ExtN H H') (h : ListsAt H kas desks) : ListsAt H' kas desks := ⟨h.len, fun i a d h1 h2 => e _ _ (h.each i a d h1 h2) (fun ps z => by cases z)⟩
theorem ListsAt.at_ {H : Hp} {kas : List Addr} {h : House} (x : ListsAt H kas h.desks) {k : Nat} (hk : k < h.desks.length) : ∃ a, kas[k]? = some a ∧ H a = some (.lst ((My.idv (h.desk k)).map V.int)) := by
  have hlt : k < kas.length := by rw [x.len]; exact hk
  exact ⟨kas[k], List.getElem?_eq_getElem hlt, x.each k _ _ (List.getElem?_eq_getElem hlt) (My.desk_get hk)⟩
theorem ListsAt.set {H : Hp} {kas : List Addr} {desks : List (List Deed)} {k : Nat} {a : Addr} {l : List Deed} (x : ListsAt H kas desks) (ha : H a = some (.lst ((My.idv l).map V.int))) : ListsAt H (kas.set k a) (desks.set k l) := by
  refine ⟨by rw [List.length_set, List.length_set, x.len], fun j b m h1 h2 => ?_⟩
  rcases My.set_get h1 with ⟨e1, e2⟩ | ⟨e1, e2⟩
  · rcases My.set_get h2 with ⟨_, e4⟩ | ⟨e3, _⟩
    · rw [e2, e4]; exact ha
    · exact absurd e1 e3
  · rcases My.set_get h2 with ⟨e3, _⟩ | ⟨_, e4⟩
    · exact absurd e3 e1
    · exact x.each j b m e2 e4
/-! ### the house -/
def hF (l1 l2 : Addr) : List (Str × V) := [("done", .ref l1), ("known", .ref l2)]
theorem hF_done (l1 l2 : Addr) : (hF l1 l2).lookup ("done" : Str) = some (.ref l1) := lk_here
theorem hF_known (l1 l2 : Addr) : (hF l1 l2).lookup ("known" : Str) = some (.ref l2) := (lk_past (by decide +kernel)).trans lk_here
theorem hF_no (l1 l2 : Addr) {m : Str} (h1 : (m == ("done" : Str)) = false) (h2 : (m == ("known" : Str)) = false) : (hF l1 l2).lookup m = none := (lk_past h1).trans ((lk_past h2).trans rfl)
theorem hF_pd (l1 l2 m : Addr) : putF "done" (.ref m) (hF l1 l2) = hF m l2 := put_here
theorem hF_pk (l1 l2 m : Addr) : putF "known" (.ref m) (hF l1 l2) = hF l1 m := (put_past (by decide +kernel)).trans (congrArg _ put_here)
theorem hF_new (l1 l2 : Addr) : putF "known" (.ref l2) (putF "done" (.ref l1) []) = hF l1 l2 := (put_past (by decide +kernel)).trans rfl
/-- a house: the instance at a, its list of deeds at l1, of what desks know at l2 -/
structure HouseAt (C CD : Addr) (H : Hp) (a dx l1 l2 : Addr) (das kas : List Addr) (h : House) : Prop where
  hi : H a = some (.ins C dx (hF l1 l2))
  hd : H l1 = some (.lst (das.map V.ref))
  hk : H l2 = some (.lst (kas.map V.ref))
  ds : DeedsAt CD H das h.all
  ls : ListsAt H kas h.desks
  ne : l1 ≠ l2
  ne1 : ∀ k ∈ kas, k ≠ l1
  ne2 : ∀ k ∈ kas, k ≠ l2
theorem HouseAt.ext {C CD : Addr} {H H' : Hp} {a dx l1 l2 : Addr} {das kas : List Addr} {h : House} (e : ExtN H H') (x : HouseAt C CD H a dx l1 l2 das kas h) : HouseAt C CD H' a dx l1 l2 das kas h :=
  ⟨e _ _ x.hi (fun ps z => by cases z), e _ _ x.hd (fun ps z => by cases z), e _ _ x.hk (fun ps z => by cases z), x.ds.ext e, x.ls.ext e, x.ne, x.ne1, x.ne2⟩
/-- .. and what the caller keeps, H0, apart from it -/
structure HS (T : List (Addr × Str)) (C CD : Addr) (H0 H : Hp) (a dx l1 l2 : Addr) (das kas : List Addr) (h : House) : Prop where
  at_ : HouseAt C CD H a dx l1 l2 das kas h
  same : Same H0 H
  na : H0 a = none
  n1 : H0 l1 = none
  n2 : H0 l2 = none
  nk : ∀ k ∈ kas, H0 k = none
  tabs : Tabs T H
  nt : ∀ b o, H0 b = some o → ∀ ps, o ≠ .tbl ps
  wf : My.WF h
theorem tabs_at {T : List (Addr × Str)} {H : Hp} (t : Tabs T H) {q : Addr × Str} (hq : q ∈ T) : ∃ ps, H q.1 = some (.tbl ps) := by
  obtain ⟨ps, h, _⟩ := t q hq
  exact ⟨ps, h⟩
/-- new objects alone -/
theorem HS.grow {T : List (Addr × Str)} {C CD : Addr} {H0 H H' : Hp} {a dx l1 l2 : Addr} {das kas : List Addr} {h : House} (x : HS T C CD H0 H a dx l1 l2 das kas h) (s : Same H H') : HS T C CD H0 H' a dx l1 l2 das kas h :=
  ⟨x.at_.ext (Same.extN s), x.same.trans s, x.na, x.n1, x.n2, x.nk, x.tabs.ext s, x.nt, x.wf⟩
/-- new objects, tables grown -/
theorem HS.growN {T : List (Addr × Str)} {C CD : Addr} {H0 H H' : Hp} {a dx l1 l2 : Addr} {das kas : List Addr} {h : House} (x : HS T C CD H0 H a dx l1 l2 das kas h) (s : ExtN H H') (t : Tabs T H') : HS T C CD H0 H' a dx l1 l2 das kas h :=
  ⟨x.at_.ext s, fun b o e => s b o (x.same b o e) (x.nt b o e), x.na, x.n1, x.n2, x.nk, t, x.nt, x.wf⟩
/-! ### a tree -/
/-- the dict at p holds t -/
structure TreeAt (H : Hp) (p : Addr) (kvs : List (Key × V)) (t : STree) : Prop where
  at_ : H p = some (.dK kvs)
  none_ : ∀ x : Nat, Sq28.get t x = none → valV kvs (Sum.inl (x : Int)) = none
  some_ : ∀ (x : Nat) (q : SPlace), Sq28.get t x = some q → ∃ b, valV kvs (Sum.inl (x : Int)) = some (.ref b) ∧ H b = some (.tup [.int q.under, .int q.label])
  keys : (kvs.map (·.1)).Perm (t.map fun q => (Sum.inl (q.thing : Int) : Key))
theorem TreeAt.ext {H H' : Hp} {p : Addr} {kvs : List (Key × V)} {t : STree} (e : ExtN H H') (x : TreeAt H p kvs t) : TreeAt H' p kvs t :=
  ⟨e _ _ x.at_ (fun ps z => by cases z), x.none_, fun y q h => by
    obtain ⟨b, h1, h2⟩ := x.some_ y q h
    exact ⟨b, h1, e _ _ h2 (fun ps z => by cases z)⟩, x.keys⟩
theorem TreeAt.nil {H : Hp} {p : Addr} (h : H p = some (.dK [])) : TreeAt H p [] [] := ⟨h, fun _ _ => rfl, (fun x q h => by cases h), List.Perm.nil⟩
theorem TreeAt.isSome {H : Hp} {p : Addr} {kvs : List (Key × V)} {t : STree} (x : TreeAt H p kvs t) (n : Nat) : (valV kvs (Sum.inl (n : Int))).isSome = (Sq28.get t n).isSome := by
  cases e : Sq28.get t n with
  | none => rw [x.none_ n e]; rfl
  | some q =>
    obtain ⟨b, h1, _⟩ := x.some_ n q e
    rw [h1]
    rfl
theorem TreeAt.len {H : Hp} {p : Addr} {kvs : List (Key × V)} {t : STree} (x : TreeAt H p kvs t) : kvs.length = t.length := by
  have := x.keys.length_eq
  rw [List.length_map, List.length_map] at this
  exact this
end Pf
end
section
set_option Elab.async false
set_option linter.all false
set_option maxRecDepth 100000
set_option maxHeartbeats 2000000
namespace Pf
open PySem PySem.Spec PyProof.Rows L2 LamX SK
open Sq28 (Deed House)
/-- a module's whole number -/
theorem pe_num {X : Cx} {x : Str} {i : Int} {t : Tok} {pos : Pos} (hg : Gl X x) (hm : X.mg x = some (.int i t)) (hd : (x == ("__debug__" : Str)) = false := by decide) : PE X (.Name x pos) (tC (.int i)) := pe_glob hg hm (v := .int i) ⟨t, rfl⟩ hd
theorem ifT {c : Bool} {A B : Prop} (hc : c = true) (h : A) : if c = true then A else B := by
  rw [if_pos hc]
  exact h
theorem ifF {c : Bool} {A B : Prop} (hc : c = false) (h : B) : if c = true then A else B := by
  rw [hc, if_neg Bool.false_ne_true]
  exact h
/-! ### the text by places -/
def topS (i : Nat) : Stmt := PySem.Challenge.pw_manyhandsheet_s01_answers.main.body.getD i (.Pass ⟨0, 0, 0, 0⟩)
abbrev sThere : Stmt := topS 7
abbrev sAbove : Stmt := topS 8
abbrev sComes : Stmt := topS 9
/-! ### what the top has written -/
structure TxA (K : PySem.W.Frag) (mg : Str → Option Value) : Prop where
  ROOT : ∃ t, mg "ROOT" = some (.int 0 t)
  BIN : ∃ t, mg "BIN" = some (.int 1 t)
  PUT : ∃ t, mg "PUT" = some (.int 1 t)
  NOT_THERE : ∃ t, mg "NOT_THERE" = some (.int 2 t)
  WITHIN : ∃ t, mg "WITHIN_ITSELF" = some (.int 3 t)
section
variable {P : Program} {w : World} {K : PySem.W.Frag} {mg : Str → Option Value} {base : Heap}
/-! ### is_there -/
def spThere : Sp := fun vs H Q _ => ∃ (p : Addr) (kvs : List (Key × V)) (t : STree) (x : Nat), vs = [.ref p, .int x] ∧ TreeAt H p kvs t ∧ Q (.bl (Sq28.there t x)) H
theorem scThere : FnScope ["tree", "thing"] ["tree", "thing"] (defScope sThere) := ⟨rfl, rfl, rfl, by decide +kernel, rfl, by decide +kernel, by decide +kernel⟩
theorem ok_there {f : Addr} {fd : FuncData} (F : Fun K "is_there" "is_there" sThere f fd) (T : TxA K mg) : FnOk P w K mg base CX0 1 f fd ["tree", "thing"] spThere := by
  refine F.ok scThere (fun vs H Q E h => ?_) (fun cdv A outer s H vs Q E hr h => ?_)
  · obtain ⟨p, kvs, t, x, rfl, _⟩ := h
    rfl
  · obtain ⟨p, kvs, t, x, rfl, ht, q⟩ := h
    obtain ⟨tR, hR⟩ := T.ROOT
    obtain ⟨tB, hB⟩ := T.BIN
    have hu := hu_of hr
    refine ⟨_, pss_one (ps_ret (pe_or (pe_cmpR op_eq (pv 1) (pe_num rfl hR) (nomark _)) (pe_or (pe_cmpR op_eq (pv 1) (pe_num rfl hB) (nomark _)) (pe_one (pe_cmp (pc_din hu (pv 1) (pv 0)) rfl))))), ?_⟩
    refine ⟨_, rfl, rfl, _, rfl, ite2 (fun h0 => ?_) fun h0 => ?_⟩
    · have e0 : x = 0 := by simpa using h0
      have e : Sq28.there t x = true := by rw [e0]; rfl
      rw [e] at q
      exact q
    · have e0 : ¬ x = 0 := by simpa using h0
      refine ⟨_, rfl, rfl, _, rfl, ite2 (fun h1 => ?_) fun h1 => ?_⟩
      · have e1 : x = 1 := by have := of_decide_eq_true h1; injection this with this; omega
        have e : Sq28.there t x = true := by rw [e1]; rfl
        rw [e] at q
        exact q
      · have e1 : ¬ x = 1 := fun z => h1 (decide_eq_true (by rw [z]; rfl))
        refine ⟨_, rfl, _, rfl, p, _, rfl, DGet.k (k := Sum.inl (x : Int)) ht.at_, ?_⟩
        rw [ht.isSome]
        have e : Sq28.there t x = (Sq28.get t x).isSome := by
          unfold Sq28.there
          have a1 : (x == Sq28.ROOT) = false := by unfold Sq28.ROOT; simpa using e0
          have a2 : (x == Sq28.BIN) = false := by unfold Sq28.BIN; simpa using e1
          rw [a1, a2]
          rfl
        rw [e] at q
        exact q
/-! ### all_above -/
/-- numbers of things, as values -/
def thV (l : List Nat) : List V := l.map fun n : Nat => V.int (n : Int)
theorem thV_app (l m : List Nat) : thV (l ++ m) = thV l ++ thV m := List.map_append
theorem thV_len (l : List Nat) : (thV l).length = l.length := List.length_map _
theorem thV_flat (l : List Nat) : (thV l).all flatV = true := by
  unfold thV
  rw [List.all_map]
  exact List.all_eq_true.mpr fun _ _ => rfl
theorem thV_in (x : Nat) (l : List Nat) : inV (V.int (x : Int)) (thV l) = l.contains x := by
  unfold inV thV
  rw [List.any_map]
  by_cases c : x ∈ l
  · rw [List.contains_iff_mem.mpr c, List.any_eq_true]
    exact ⟨x, c, by show ((x : Int) == (x : Int)) = true; simp⟩
  · have e : l.contains x = false := by
      cases h : l.contains x with
      | false => rfl
      | true => exact absurd (List.contains_iff_mem.mp h) c
    rw [e, List.any_eq_false]
    intro y hy z
    have z : ((y : Int) == (x : Int)) = true := z
    have : y = x := by simp at z; omega
    exact c (this ▸ hy)
theorem above_pos (t : STree) (tr : My.Tr t) (x : Nat) : 0 < (Sq28.above t x).length := by
  obtain ⟨r, er⟩ := (tr.good.above x).head
  rw [er]
  exact Nat.succ_pos _
def spAbove : Sp := fun vs H Q _ => ∃ (p : Addr) (kvs : List (Key × V)) (t : STree) (x : Nat), vs = [.ref p, .int x] ∧ TreeAt H p kvs t ∧ My.Tr t ∧ ∀ (H' : Hp) (r : Addr), Same H H' → H r = none → H' r = some (.lst (thV (Sq28.above t x))) → Q (.ref r) H'
theorem scAbove : FnScope ["tree", "thing", "found", "step"] ["tree", "thing"] (defScope sAbove) := ⟨rfl, rfl, rfl, by decide +kernel, rfl, by decide +kernel, by decide +kernel⟩
theorem ok_above {f : Addr} {fd : FuncData} (F : Fun K "all_above" "all_above" sAbove f fd) : FnOk P w K mg base CX0 1 f fd ["tree", "thing"] spAbove := by
  refine F.ok scAbove (fun vs H Q E h => ?_) (fun cdv A outer s H vs Q E hr h => ?_)
  · obtain ⟨p, kvs, t, x, rfl, _⟩ := h
    rfl
  · obtain ⟨p, kvs, t, x, rfl, ht, tr, q⟩ := h
    have g := tr.good
    have hu := hu_of hr
    refine ⟨_, pss_cons (ps_set (i := 2) scAbove.nd rfl (Or.inl rfl) (pe_lst (pa_cons (pv 1) pa_nil))) (pss_cons (ps_set (i := 3) scAbove.nd rfl (Or.inl rfl) (pv 1)) (pss_cons (ps_while PassesOwn.never (pt_cmp (pc_din hu (pv 3) (pv 0)))
      (pss_cons (ps_set (i := 3) scAbove.nd rfl (Or.inl rfl) (pe_ix ix_tup (pe_dget hu (pv 0) (pv 3) (fun _ _ => rfl)) pe_int (fun _ _ => rfl)))
      (pss_one (ps_expr (pe_bm PySem.F.plainAttrs_list PySem.F.slot_list_append PySem.F.type_list_append mt_append (pv 2) (pa_cons (pv 3) pa_nil))))))
      (pss_one (ps_ret (pv 2))))), ?_⟩
    refine ⟨_, rfl, (by show 1 ≤ sizeLine; decide), fun r hr0 => ?_⟩
    refine ⟨_, rfl, ?_⟩
    refine ⟨fun m σ H' => ∃ (y : Nat) (pre : List Nat), σ = [some (.ref p), some (.int x), some (.ref r), some (.int y)] ∧ Same H H' ∧ H' r = some (.lst (thV (pre ++ [y]))) ∧ m = (Sq28.above t y).length ∧ Sq28.above t x = pre ++ Sq28.above t y,
      ⟨_, x, [], rfl, same_upd hr0, upd_same, rfl, rfl⟩, ?_⟩
    rintro m σ H1 ⟨y, pre, rfl, s1, hr1, rfl, hc⟩
    have ht1 := ht.ext (Same.extN s1)
    refine ⟨_, rfl, _, rfl, p, _, rfl, DGet.k (k := Sum.inl (y : Int)) ht1.at_, _, rfl, ?_⟩
    rw [ht.isSome]
    cases e : Sq28.get t y with
    | none =>
      refine iteF ?_
      refine ⟨_, rfl, q H1 r s1 hr0 ?_⟩
      rw [hc, My.above_none g e]
      exact hr1
    | some z =>
      refine iteT ?_
      obtain ⟨b, hb1, hb2⟩ := ht1.some_ y z e
      have ea := My.above_some g e
      have hlen := My.above_len tr x
      have hpos := above_pos t tr z.under
      rw [hc, ea, List.length_append, List.length_cons] at hlen
      refine ⟨fun σ' H' => ∃ m', m' < (Sq28.above t y).length ∧ ∃ (y : Nat) (pre : List Nat), σ' = [some (.ref p), some (.int x), some (.ref r), some (.int y)] ∧ Same H H' ∧ H' r = some (.lst (thV (pre ++ [y]))) ∧ m' = (Sq28.above t y).length ∧ Sq28.above t x = pre ++ Sq28.above t y, fun σ' H' h => h, ?_⟩
      refine ⟨_, rfl, _, rfl, p, _, rfl, ?_, b, _, _, _, rfl, rfl, SqT.of hb2, atI_nat (j := 0) rfl, ?_⟩
      · rw [← hb1]
        exact DGet.k (k := Sum.inl (y : Int)) ht1.at_
      refine ⟨_, rfl, .inl ⟨rfl, _, SqL.of hr1⟩, _, rfl, r, _, _, rfl, rfl, hr1, ?_, ?_⟩
      · rw [thV_len, List.length_append]
        exact Nat.lt_of_le_of_lt (show _ ≤ 63 by show pre.length + 1 ≤ 63; omega) (by decide)
      · refine ⟨_, ?_, z.under, pre ++ [y], rfl, fun b' o e' => ?_, ?_, rfl, ?_⟩
        · rw [ea, List.length_cons]
          exact Nat.lt_succ_self _
        · rw [upd_ne (ne_of_none e' hr0)]
          exact s1 _ _ e'
        · rw [upd_same, thV_app (pre ++ [y])]
          rfl
        · rw [hc, ea, List.append_assoc]
          rfl
/-! ### what_comes -/
def spComes : Sp := fun vs H Q _ => ∃ (p : Addr) (kvs : List (Key × V)) (t : STree) (x u : Nat), vs = [.ref p, .int x, .int u] ∧ TreeAt H p kvs t ∧ My.Tr t ∧ ∀ d : Deed, d.thing = x → d.under = u → ∀ H' : Hp, Same H H' → Q (.int (Sq28.outcome t d)) H'
theorem scComes : FnScope ["tree", "thing", "under"] ["tree", "thing", "under"] (defScope sComes) := ⟨rfl, rfl, rfl, by decide +kernel, rfl, by decide +kernel, by decide +kernel⟩
theorem ok_comes {f f1 f2 : Addr} {fd fd1 fd2 : FuncData} (F : Fun K "what_comes" "what_comes" sComes f fd) (T : TxA K mg) (F1 : Fun K "is_there" "is_there" sThere f1 fd1) (g1 : mg "is_there" = some (.ref f1)) (b1 : Binds K fd1 ["tree", "thing"] [])
    (F2 : Fun K "all_above" "all_above" sAbove f2 fd2) (g2 : mg "all_above" = some (.ref f2)) (b2 : Binds K fd2 ["tree", "thing"] []) : FnOk P w K mg base CX0 2 f fd ["tree", "thing", "under"] spComes := by
  have G1 : FnOk P w K mg base CX0 1 f1 fd1 ["tree", "thing"] spThere := ok_there F1 T
  have G2 : FnOk P w K mg base CX0 1 f2 fd2 ["tree", "thing"] spAbove := ok_above F2
  refine F.ok scComes (fun vs H Q E h => ?_) (fun cdv A outer s H vs Q E hr h => ?_)
  · obtain ⟨p, kvs, t, x, u, rfl, _⟩ := h
    rfl
  · obtain ⟨p, kvs, t, x, u, rfl, ht, tr, q⟩ := h
    obtain ⟨t1, h1⟩ := T.NOT_THERE
    obtain ⟨t2, h2⟩ := T.WITHIN
    obtain ⟨t3, h3⟩ := T.PUT
    refine ⟨_, pss_cons (ps_if (pt_not (pt_val (pe_call G1 hr rfl g1 F1.kp b1 .nil pass0 (pa_cons (pv 0) (pa_cons (pv 2) pa_nil))))) (pss_one (ps_ret (pe_num rfl h1))) pss_nil)
      (pss_cons (ps_if (pt_cmpR op_in_seq (pv 1) (pe_call G2 hr rfl g2 F2.kp b2 .nil pass0 (pa_cons (pv 0) (pa_cons (pv 2) pa_nil))) (by rfl)) (pss_one (ps_ret (pe_num rfl h2))) pss_nil)
      (pss_one (ps_ret (pe_num rfl h3)))), ?_⟩
    refine ⟨_, rfl, _, rfl, p, kvs, t, u, rfl, ht, _, rfl, ?_⟩
    have q0 := q ⟨0, ⟨0, 0⟩, x, u, 0⟩ rfl rfl
    unfold Sq28.outcome at q0
    cases e : Sq28.there t u with
    | false =>
      refine iteT ?_
      rw [if_pos e] at q0
      exact q0 H (Same.refl H)
    | true =>
      refine iteF ?_
      rw [if_neg (by rw [e]; decide)] at q0
      refine ⟨_, rfl, _, rfl, _, rfl, p, kvs, t, u, rfl, ht, tr, fun H' r s1 hr0 hr1 => ?_⟩
      refine ⟨r, _, rfl, .inl (SqL.of hr1), rfl, thV_flat _, _, rfl, ?_⟩
      cases e2 : (Sq28.above t u).contains x with
      | true =>
        refine ifT ((thV_in _ _).trans e2) ?_
        rw [if_pos e2] at q0
        exact q0 H' s1
      | false =>
        refine ifF ((thV_in _ _).trans e2) ?_
        rw [if_neg (by rw [e2]; decide)] at q0
        exact q0 H' s1
end
end Pf
end
section
set_option Elab.async false
set_option linter.all false
set_option maxRecDepth 100000
set_option maxHeartbeats 2000000
namespace Pf
open PySem PySem.Spec PyProof.Rows L2 LamX SK
open Sq28 (Deed House)
abbrev sDo : Stmt := topS 10
abbrev sTreeOf : Stmt := topS 11
abbrev sEach : Stmt := topS 12
theorem nat_perm {l m : List Nat} (h1 : l.Nodup) (h2 : m.Nodup) (h : ∀ d, d ∈ l ↔ d ∈ m) : l.Perm m := by
  rw [List.perm_iff_count]
  intro d
  rw [List.Nodup.count h1, List.Nodup.count h2]
  by_cases hd : d ∈ l
  · rw [if_pos hd, if_pos ((h d).mp hd)]
  · rw [if_neg hd, if_neg fun z => hd ((h d).mpr z)]
theorem srt_nodup {t : STree} (h : My.Srt t) : (t.map (·.thing)).Nodup := by
  rw [List.nodup_iff_pairwise_ne, List.pairwise_map]
  exact h.imp fun h => by omega
theorem keys_eq (t : STree) : (t.map fun q => (Sum.inl (q.thing : Int) : Key)) = (t.map (·.thing)).map fun n : Nat => (Sum.inl (n : Int) : Key) := by
  rw [List.map_map]
  rfl
/-- tree[x] = (u, l) -/
theorem TreeAt.put {H : Hp} {p b : Addr} {kvs : List (Key × V)} {t : STree} {x u l : Nat} (ht : TreeAt H p kvs t) (hs : My.Srt t) (hb : H b = some (.tup [.int u, .int l])) :
    TreeAt (upd H p (.dK (putK kvs (Sum.inl (x : Int)) (.ref b)))) p (putK kvs (Sum.inl (x : Int)) (.ref b)) (Sq28.put ⟨x, u, l⟩ t) := by
  have nt : ∀ c xs, H c = some (.tup xs) → upd H p (.dK (putK kvs (Sum.inl (x : Int)) (.ref b))) c = some (.tup xs) := fun c xs e => by
    rw [upd_ne (ne_of e ht.at_ (by intro z; cases z))]
    exact e
  have inj : ∀ y : Nat, (Sum.inl (y : Int) : Key) = Sum.inl (x : Int) ↔ y = x := fun y => ⟨fun z => by injection z with z; omega, fun z => by rw [z]⟩
  refine ⟨upd_same, fun y h => ?_, fun y q h => ?_, ?_⟩
  · by_cases e : y = x
    · rw [e] at h
      have := My.get_put_same (p := ⟨x, u, l⟩) hs
      have h' : Sq28.get (Sq28.put ⟨x, u, l⟩ t) x = some ⟨x, u, l⟩ := this
      rw [h'] at h
      cases h
    · rw [My.get_put_ne hs (p := ⟨x, u, l⟩) e] at h
      rw [valV_put, if_neg fun z => e ((inj y).mp z)]
      exact ht.none_ y h
  · by_cases e : y = x
    · rw [e] at h ⊢
      have h' : Sq28.get (Sq28.put ⟨x, u, l⟩ t) x = some ⟨x, u, l⟩ := My.get_put_same (p := ⟨x, u, l⟩) hs
      rw [h'] at h
      cases h
      exact ⟨b, by rw [valV_put, if_pos rfl], nt _ _ hb⟩
    · rw [My.get_put_ne hs (p := ⟨x, u, l⟩) e] at h
      obtain ⟨c, h1, h2⟩ := ht.some_ y q h
      exact ⟨c, by rw [valV_put, if_neg fun z => e ((inj y).mp z)]; exact h1, nt _ _ h2⟩
  · have hk := ht.keys
    rw [keys_eq] at hk ⊢
    have mem : ∀ y, y ∈ (Sq28.put ⟨x, u, l⟩ t).map (·.thing) ↔ y = x ∨ y ∈ t.map (·.thing) := fun y => by
      rw [List.mem_map, List.mem_map]
      constructor
      · rintro ⟨q, hq, e⟩
        rcases My.mem_put.mp hq with z | ⟨z, _⟩
        · left; rw [← e, z]
        · exact .inr ⟨q, z, e⟩
      · rintro (z | ⟨q, hq, e⟩)
        · exact ⟨⟨x, u, l⟩, My.mem_put.mpr (.inl rfl), z.symm⟩
        · by_cases c : y = x
          · exact ⟨⟨x, u, l⟩, My.mem_put.mpr (.inl rfl), c.symm⟩
          · exact ⟨q, My.mem_put.mpr (.inr ⟨hq, by rw [e]; exact c⟩), e⟩
    cases e : Sq28.get t x with
    | none =>
      rw [putK_new _ (ht.none_ x e), List.map_append]
      have hp : ((Sq28.put ⟨x, u, l⟩ t).map (·.thing)).Perm (t.map (·.thing) ++ [x]) := by
        refine nat_perm (srt_nodup (My.put_srt _ hs)) ?_ fun y => ?_
        · rw [List.nodup_append]
          refine ⟨srt_nodup hs, by simp, fun a ha c hc z => ?_⟩
          rw [List.mem_singleton.mp hc] at z
          obtain ⟨q, hq, e2⟩ := List.mem_map.mp ha
          exact My.get_none.mp e q hq (e2.trans z)
        · rw [mem, List.mem_append, List.mem_singleton]
          exact Or.comm
      refine (List.Perm.append_right _ hk).trans ?_
      have := (hp.map fun n : Nat => (Sum.inl (n : Int) : Key)).symm
      rw [List.map_append] at this
      exact this
    | some q =>
      obtain ⟨c, h1, _⟩ := ht.some_ x q e
      have hsame : (putK kvs (Sum.inl (x : Int)) (.ref b)).map (·.1) = kvs.map (·.1) := by
        unfold putK
        rw [valV_any, h1, if_pos (show (some (V.ref c)).isSome = true from rfl), List.map_map]
        refine List.map_congr_left fun kv _ => ?_
        show (if kv.1 = Sum.inl (x : Int) then (kv.1, V.ref b) else kv).1 = kv.1
        split <;> rfl
      rw [hsame]
      refine hk.trans ((nat_perm (srt_nodup hs) (srt_nodup (My.put_srt _ hs)) fun y => ?_).map _)
      rw [mem]
      constructor
      · exact .inr
      · rintro (z | z)
        · obtain ⟨h2, h3⟩ := My.get_mem e
          exact List.mem_map.mpr ⟨q, h2, h3.trans z.symm⟩
        · exact z
structure TxD (K : PySem.W.Frag) (CD : Addr) : Prop where
  cl : Cls K CD
  nS : NoAttr K CD "stamp"
  nT : NoAttr K CD "thing"
  nU : NoAttr K CD "under"
  nL : NoAttr K CD "label"
section
variable {P : Program} {w : World} {K : PySem.W.Frag} {mg : Str → Option Value} {base : Heap}
theorem outcome_same {t : STree} {d e : Deed} (h1 : d.thing = e.thing) (h2 : d.under = e.under) : Sq28.outcome t d = Sq28.outcome t e := by
  unfold Sq28.outcome
  rw [h1, h2]
theorem take_more {α : Type} {l : List α} {i : Nat} {x : α} (h : l[i]? = some x) : l.take (i + 1) = l.take i ++ [x] := by
  rw [List.take_add_one, h]
  rfl
theorem TreeAt.list {H : Hp} {p b : Addr} {kvs : List (Key × V)} {t : STree} {xs : List V} {o : HO} (x : TreeAt H p kvs t) (hb : H b = some (.lst xs)) : TreeAt (upd H b o) p kvs t :=
  ⟨by rw [upd_ne (ne_of x.at_ hb (by intro z; cases z))]; exact x.at_, x.none_, fun y q h => by
    obtain ⟨c, h1, h2⟩ := x.some_ y q h
    exact ⟨c, h1, by rw [upd_ne (ne_of h2 hb (by intro z; cases z))]; exact h2⟩, x.keys⟩
theorem ref_at {as : List Addr} {i : Nat} {y : V} (hi : (as.map V.ref)[i]? = some y) : ∃ z, as[i]? = some z ∧ y = V.ref z := by
  rw [List.getElem?_map] at hi
  cases e : as[i]? with
  | none => rw [e] at hi; cases hi
  | some z => rw [e] at hi; exact ⟨z, rfl, (Option.some.inj hi).symm⟩
/-! ### do_deed -/
def spDo (CD : Addr) : Sp := fun vs H Q _ => ∃ (p da : Addr) (kvs : List (Key × V)) (t : STree) (d : Deed), vs = [.ref p, .ref da] ∧ TreeAt H p kvs t ∧ My.Tr t ∧ DeedAt CD H da d ∧
  ∀ (H' : Hp) (kvs' : List (Key × V)), (∀ b o, b ≠ p → H b = some o → H' b = some o) → TreeAt H' p kvs' (Sq28.done t d) → Q (.int (Sq28.outcome t d)) H'
theorem scDo : FnScope ["tree", "deed", "comes"] ["tree", "deed"] (defScope sDo) := ⟨rfl, rfl, rfl, by decide +kernel, rfl, by decide +kernel, by decide +kernel⟩
theorem ok_do {f f1 CD : Addr} {fd fd1 : FuncData} (F : Fun K "do_deed" "do_deed" sDo f fd) (T : TxA K mg) (TD : TxD K CD) (G1 : FnOk P w K mg base CX0 2 f1 fd1 ["tree", "thing", "under"] spComes) (k1 : PySem.W.keepIn K (.ref f1) = true) (g1 : mg "what_comes" = some (.ref f1)) (b1 : Binds K fd1 ["tree", "thing", "under"] []) :
    FnOk P w K mg base CX0 3 f fd ["tree", "deed"] (spDo CD) := by
  refine F.ok scDo (fun vs H Q E h => ?_) (fun cdv A outer s H vs Q E hr h => ?_)
  · obtain ⟨p, da, kvs, t, d, rfl, _⟩ := h
    rfl
  · obtain ⟨p, da, kvs, t, d, rfl, t0, tr, hd, q⟩ := h
    obtain ⟨tP, hP⟩ := T.PUT
    have hu := hu_of hr
    refine ⟨_, pss_cons (ps_set (i := 2) scDo.nd rfl (Or.inl rfl) (pe_call G1 hr rfl g1 k1 b1 .nil pass0 (pa_cons (pv 0) (pa_cons (pe_fld (pv 1) rfl) (pa_cons (pe_fld (pv 1) rfl) pa_nil)))))
      (pss_cons (ps_if (pt_cmpR op_eq (pv 2) (pe_num rfl hP) (nomark _))
          (pss_one (ps_dput hu (pv 0) (pe_fld (pv 1) rfl) (pe_tup (pa_cons (pe_fld (pv 1) rfl) (pa_cons (pe_fld (pv 1) rfl) pa_nil))) rfl)) pss_nil)
      (pss_one (ps_ret (pv 2)))), ?_⟩
    obtain ⟨dx, tp, h1, h2⟩ := id hd
    refine ⟨_, rfl, _, rfl, da, CD, dx, _, _, rfl, h1, TD.cl, TD.nT, dF_thing _ _, _, rfl, da, CD, dx, _, _, rfl, h1, TD.cl, TD.nU, dF_under _ _, p, kvs, t, d.thing, d.under, rfl, t0, tr, ?_⟩
    intro d' e1 e2 H5 s5
    rw [outcome_same (d := d') (e := d) e1 e2]
    have t5 := t0.ext (Same.extN s5)
    replace h1 := s5 _ _ h1
    refine ⟨_, rfl, rfl, _, rfl, ?_⟩
    by_cases c : Sq28.outcome t d = 1
    · have ec : decide (V.int ((Sq28.outcome t d : Nat) : Int) = V.int 1) = true := decide_eq_true (by rw [c]; rfl)
      refine ifT ec ?_
      have ed : Sq28.done t d = Sq28.put ⟨d.thing, d.under, d.label⟩ t := if_pos c
      rw [ed] at q
      refine ⟨_, rfl, da, CD, dx, _, _, rfl, h1, TD.cl, TD.nU, dF_under _ _, _, rfl, da, CD, dx, _, _, rfl, h1, TD.cl, TD.nL, dF_label _ _, (by show 2 ≤ sizeLine; decide), fun b hb => ?_⟩
      have s6 := same_upd (o := .tup [.int d.under, .int d.label]) hb
      refine ⟨_, rfl, _, rfl, da, CD, dx, _, _, rfl, s6 _ _ h1, TD.cl, TD.nT, dF_thing _ _, p, _, rfl, .inl ⟨kvs, Sum.inl (d.thing : Int), s6 _ _ t5.at_, rfl, ?_, rfl⟩, ?_⟩
      · rw [t5.len]
        exact Nat.lt_of_le_of_lt tr.len (by decide)
      · refine ⟨_, rfl, q _ (putK kvs (Sum.inl (d.thing : Int)) (.ref b)) (fun b' o nb e => ?_) ?_⟩
        · rw [upd_ne nb]
          exact s6 _ _ (s5 _ _ e)
        · exact (t5.ext (Same.extN s6)).put tr.srt upd_same
    · have ec : decide (V.int ((Sq28.outcome t d : Nat) : Int) = V.int 1) = false := decide_eq_false (fun z => c (by injection z with z; omega))
      refine ifF ec ?_
      have ed : Sq28.done t d = t := if_neg c
      rw [ed] at q
      exact ⟨_, rfl, q _ kvs (fun b o _ e => s5 _ _ e) t5⟩
theorem treeOf_step {l : List Deed} {i : Nat} {d : Deed} (h : l[i]? = some d) : Sq28.treeOf (l.take (i + 1)) = Sq28.done (Sq28.treeOf (l.take i)) d := by
  unfold Sq28.treeOf
  rw [take_more h, List.foldl_append]
  rfl
/-! ### tree_of -/
def spTreeOf (K : PySem.W.Frag) (CD : Addr) : Sp := fun vs H Q _ => ∃ (a : Addr) (das : List Addr) (l : List Deed), vs = [.ref a] ∧ SqL K H a (das.map V.ref) ∧ DeedsAt CD H das l ∧ (∀ d ∈ l, 2 ≤ d.thing ∧ d.thing < 64) ∧
  ∀ (H' : Hp) (p : Addr) (kvs : List (Key × V)), Same H H' → H p = none → TreeAt H' p kvs (Sq28.treeOf l) → Q (.ref p) H'
theorem scTreeOf : FnScope ["deeds", "tree", "deed"] ["deeds"] (defScope sTreeOf) := ⟨rfl, rfl, rfl, by decide +kernel, rfl, by decide +kernel, by decide +kernel⟩
theorem ok_treeOf {f f1 CD : Addr} {fd fd1 : FuncData} (F : Fun K "tree_of" "tree_of" sTreeOf f fd) (G1 : FnOk P w K mg base CX0 3 f1 fd1 ["tree", "deed"] (spDo CD)) (k1 : PySem.W.keepIn K (.ref f1) = true) (g1 : mg "do_deed" = some (.ref f1)) (b1 : Binds K fd1 ["tree", "deed"] []) :
    FnOk P w K mg base CX0 4 f fd ["deeds"] (spTreeOf K CD) := by
  refine F.ok scTreeOf (fun vs H Q E h => ?_) (fun cdv A outer s H vs Q E hr h => ?_)
  · obtain ⟨a, das, l, rfl, _⟩ := h
    rfl
  · obtain ⟨a, das, l, rfl, hS, hD, hl, q⟩ := h
    refine ⟨_, pss_cons (ps_set (i := 1) scTreeOf.nd rfl (Or.inl rfl) pe_dnewK)
      (pss_cons (ps_for PassesOwn.never rfl (pi_list (pv 0)) (pg_name (i := 2) scTreeOf.nd rfl (Or.inl rfl))
        (pss_one (ps_expr (pe_call G1 hr rfl g1 k1 b1 .nil pass0 (pa_cons (pv 1) (pa_cons (pv 2) pa_nil))))))
      (pss_one (ps_ret (pv 1)))), ?_⟩
    intro p hp
    have s0 := same_upd (o := .dK []) hp
    refine ⟨_, rfl, a, rfl, ⟨_, s0.seq hS⟩, for_list (K := K) (a := a) (xs := das.map V.ref) (fun i σ H' => ∃ (v : Option V) (kvs : List (Key × V)), σ = [some (.ref a), some (.ref p), v] ∧ Same H H' ∧ TreeAt H' p kvs (Sq28.treeOf (l.take i)))
      ⟨none, [], rfl, s0, TreeAt.nil upd_same⟩ (fun i σ H' _ ⟨_, _, _, s5, _⟩ => s5.seq hS) ?_ ?_⟩
    · rintro i y σ H' hi ⟨v, kvs, rfl, s5, t5⟩
      obtain ⟨da, hda, rfl⟩ := ref_at hi
      have hil : i < l.length := by rw [← hD.len]; exact (List.getElem?_eq_some_iff.mp hda).1
      have hd0 : l[i]? = some l[i] := List.getElem?_eq_getElem hil
      generalize l[i] = d at hd0
      have tr : My.Tr (Sq28.treeOf (l.take i)) := My.tr_treeOf fun e he => hl e (List.mem_of_mem_take he)
      refine ⟨_, rfl, _, rfl, p, da, kvs, _, d, rfl, t5, tr, (hD.each i da d hda hd0).ext (Same.extN s5), fun H6 kvs6 k6 t6 => ?_⟩
      refine ⟨_, kvs6, rfl, fun b o e => k6 b o (ne_of_none e hp) (s5 _ _ e), ?_⟩
      rw [treeOf_step hd0]
      exact t6
    · rintro σ H' ⟨v, kvs, rfl, s5, t5⟩
      rw [List.length_map, hD.len, List.take_length] at t5
      exact ⟨_, rfl, q H' p kvs s5 hp t5⟩
/-! ### what_comes_of_each -/
def spEach (K : PySem.W.Frag) (CD : Addr) : Sp := fun vs H Q _ => ∃ (a : Addr) (das : List Addr) (l : List Deed), vs = [.ref a] ∧ SqL K H a (das.map V.ref) ∧ DeedsAt CD H das l ∧ (∀ d ∈ l, 2 ≤ d.thing ∧ d.thing < 64) ∧ l.length ≤ 100 ∧
  ∀ (H' : Hp) (r : Addr), Same H H' → H r = none → H' r = some (.lst (thV ((Sq28.outcomes [] l).map (·.2)))) → Q (.ref r) H'
theorem scEach : FnScope ["deeds", "tree", "each", "deed"] ["deeds"] (defScope sEach) := ⟨rfl, rfl, rfl, by decide +kernel, rfl, by decide +kernel, by decide +kernel⟩
theorem ok_each {f f1 CD : Addr} {fd fd1 : FuncData} (F : Fun K "what_comes_of_each" "what_comes_of_each" sEach f fd) (G1 : FnOk P w K mg base CX0 3 f1 fd1 ["tree", "deed"] (spDo CD)) (k1 : PySem.W.keepIn K (.ref f1) = true) (g1 : mg "do_deed" = some (.ref f1)) (b1 : Binds K fd1 ["tree", "deed"] []) :
    FnOk P w K mg base CX0 4 f fd ["deeds"] (spEach K CD) := by
  refine F.ok scEach (fun vs H Q E h => ?_) (fun cdv A outer s H vs Q E hr h => ?_)
  · obtain ⟨a, das, l, rfl, _⟩ := h
    rfl
  · obtain ⟨a, das, l, rfl, hS, hD, hl, hlen, q⟩ := h
    refine ⟨_, pss_cons (ps_set (i := 1) scEach.nd rfl (Or.inl rfl) pe_dnewK)
      (pss_cons (ps_set (i := 2) scEach.nd rfl (Or.inl rfl) (pe_lst pa_nil))
      (pss_cons (ps_for PassesOwn.never rfl (pi_list (pv 0)) (pg_name (i := 3) scEach.nd rfl (Or.inl rfl))
        (pss_one (ps_expr (pe_bm PySem.F.plainAttrs_list PySem.F.slot_list_append PySem.F.type_list_append mt_append (pv 2) (pa_cons (pe_call G1 hr rfl g1 k1 b1 .nil pass0 (pa_cons (pv 1) (pa_cons (pv 3) pa_nil))) pa_nil)))))
      (pss_one (ps_ret (pv 2))))), ?_⟩
    intro p hp
    have s0 := same_upd (o := .dK []) hp
    refine ⟨Nat.zero_le _, fun r hr0 => ?_⟩
    have npr : p ≠ r := fun z => by rw [z, upd_same] at hr0; cases hr0
    have hr1 : H r = none := by rw [upd_ne npr.symm] at hr0; exact hr0
    have s1 := same_upd (o := .lst []) hr0
    refine ⟨_, rfl, a, rfl, ⟨_, (s0.trans s1).seq hS⟩, for_list (K := K) (a := a) (xs := das.map V.ref) (fun i σ H' => ∃ (v : Option V) (kvs : List (Key × V)), σ = [some (.ref a), some (.ref p), some (.ref r), v] ∧ Same H H' ∧ TreeAt H' p kvs (Sq28.treeOf (l.take i)) ∧ H' r = some (.lst (thV ((Sq28.outcomes [] (l.take i)).map (·.2)))))
      ⟨none, [], rfl, s0.trans s1, TreeAt.nil (by rw [upd_ne npr, upd_same]), upd_same⟩ (fun i σ H' _ ⟨_, _, _, s5, _⟩ => s5.seq hS) ?_ ?_⟩
    · rintro i y σ H' hi ⟨v, kvs, rfl, s5, t5, r5⟩
      obtain ⟨da, hda, rfl⟩ := ref_at hi
      have hil : i < l.length := by rw [← hD.len]; exact (List.getElem?_eq_some_iff.mp hda).1
      have hd0 : l[i]? = some l[i] := List.getElem?_eq_getElem hil
      generalize l[i] = d at hd0
      have tr : My.Tr (Sq28.treeOf (l.take i)) := My.tr_treeOf fun e he => hl e (List.mem_of_mem_take he)
      refine ⟨_, rfl, .inl ⟨rfl, _, SqL.of r5⟩, _, rfl, _, rfl, p, da, kvs, _, d, rfl, t5, tr, (hD.each i da d hda hd0).ext (Same.extN s5), fun H6 kvs6 k6 t6 => ?_⟩
      have r6 := k6 r _ npr.symm r5
      refine ⟨r, _, _, rfl, rfl, r6, ?_, ?_⟩
      · rw [thV_len, List.length_map, My.outcomes_len, List.length_take]
        exact Nat.lt_of_le_of_lt (show _ ≤ 100 by omega) (by decide)
      · refine ⟨_, kvs6, rfl, fun b o e => ?_, ?_, ?_⟩
        · rw [upd_ne (ne_of_none e hr1)]
          exact k6 b o (ne_of_none e hp) (s5 _ _ e)
        · rw [treeOf_step hd0]
          exact t6.list r6
        · rw [upd_same, take_more hd0, My.outcomes_app, List.map_append, thV_app]
          rfl
    · rintro σ H' ⟨v, kvs, rfl, s5, t5, r5⟩
      rw [List.length_map, hD.len, List.take_length] at r5
      exact ⟨_, rfl, q H' r s5 hr1 r5⟩
end
end Pf
end
section
set_option Elab.async false
set_option linter.all false
set_option maxRecDepth 100000
set_option maxHeartbeats 2000000
namespace Pf
open PySem PySem.Spec PyProof.Rows L2 LamX SK
open Sq28 (Deed House)
abbrev sRight : Stmt := topS 13
abbrev sWithin : Stmt := topS 14
/-- the keys, as numbers -/
theorem TreeAt.nums {H : Hp} {p : Addr} {kvs : List (Key × V)} {t : STree} (ht : TreeAt H p kvs t) : ∃ ks : List Int, kvs.map (·.1) = ks.map Sum.inl ∧ ks.Perm (t.map fun q => (q.thing : Int)) := by
  have gen : ∀ l : List Key, (∀ k ∈ l, ∃ i : Int, k = Sum.inl i) → l = (l.filterMap Sum.getLeft?).map Sum.inl := by
    intro l
    induction l with
    | nil => intro _; rfl
    | cons k l ih =>
      intro h
      obtain ⟨i, rfl⟩ := h k (List.mem_cons_self ..)
      show Sum.inl i :: l = Sum.inl i :: (l.filterMap Sum.getLeft?).map Sum.inl
      rw [← ih fun k hk => h k (List.mem_cons_of_mem _ hk)]
  refine ⟨(kvs.map (·.1)).filterMap Sum.getLeft?, gen _ fun k hk => ?_, ?_⟩
  · obtain ⟨q, _, e⟩ := List.mem_map.mp (ht.keys.mem_iff.mp hk)
    exact ⟨_, e.symm⟩
  · have := ht.keys.filterMap Sum.getLeft?
    have e : (t.map fun q => (Sum.inl (q.thing : Int) : Key)).filterMap Sum.getLeft? = t.map fun q => (q.thing : Int) := by
      rw [List.filterMap_map]
      clear this ht
      induction t with
      | nil => rfl
      | cons q t ih =>
        show (q.thing : Int) :: t.filterMap (Sum.getLeft? ∘ fun q => (Sum.inl (q.thing : Int) : Key)) = _
        rw [ih]
        rfl
    rw [e] at this
    exact this
/-- .. backwards -/
theorem nums_down {t : STree} {ks ys : List Int} (hs : My.Srt t) (h1 : ks.Perm (t.map fun q => (q.thing : Int))) (h2 : ys.Perm ks) (h3 : Ordered true ys) : ys = t.reverse.map fun q => (q.thing : Int) := by
  have h3 : ys.Pairwise (· ≥ ·) := h3
  refine List.Perm.eq_of_pairwise (le := fun a b : Int => a ≥ b) (fun a b _ _ x y => by omega) h3 ?_ ((h2.trans h1).trans ?_)
  · rw [List.map_reverse, List.pairwise_reverse, List.pairwise_map]
    exact hs.imp fun h => by omega
  · rw [List.map_reverse]
    exact (List.reverse_perm _).symm
section
variable {P : Program} {w : World} {K : PySem.W.Frag} {mg : Str → Option Value} {base : Heap}
/-! ### right_under -/
def spRight : Sp := fun vs H Q _ => ∃ (p : Addr) (kvs : List (Key × V)) (t : STree) (x : Nat), vs = [.ref p, .int x] ∧ TreeAt H p kvs t ∧ My.Tr t ∧
  ∀ (H' : Hp) (r : Addr), Same H H' → H r = none → H' r = some (.lst (((Sq28.under t x).reverse.map fun q => (q.thing : Int)).map V.int)) → Q (.ref r) H'
theorem scRight : FnScope ["tree", "top", "thing"] ["tree", "top"] (defScope sRight) := ⟨rfl, rfl, rfl, by decide +kernel, rfl, by decide +kernel, by decide +kernel⟩
theorem ok_right {f : Addr} {fd : FuncData} (F : Fun K "right_under" "right_under" sRight f fd) (gs : mg "sorted" = none) : FnOk P w K mg base CX0 1 f fd ["tree", "top"] spRight := by
  refine F.ok scRight (fun vs H Q E h => ?_) (fun cdv A outer s H vs Q E hr h => ?_)
  · obtain ⟨p, kvs, t, x, rfl, _⟩ := h
    rfl
  · obtain ⟨p, kvs, t, x, rfl, ht, tr, q⟩ := h
    have hu := hu_of hr
    refine ⟨_, pss_one (ps_ret (pe_lc (own := [("thing", 2)]) (g := gName 2) rfl scRight.nd (pi_list (pe_callBK (cr_sortedDR (b := true) rfl) (by rfl) gs (by decide +kernel) (pa_cons (pv 0) pa_nil) (pk_cons pe_bl pk_nil)))
      (blkOk_by (own := [("thing", 2)]) (N := ["tree", "top", "thing"]) (sc := defScope sRight) (by decide +kernel)) (fun _ _ _ _ _ => pg_name (i := 2) scRight.nd rfl (Or.inl rfl))
      (fun _ _ _ _ _ => pts_one (pt_cmpR op_eq (pe_ix (r := rIxT K) ix_tup (pe_dget hu (pv 0) (pv 2) (fun _ _ => rfl)) pe_int (fun _ _ => rfl)) (pv 1) (nomark _))) (fun _ _ _ _ _ => pv 2))), ?_⟩
    obtain ⟨ks, k1, k2⟩ := ht.nums
    have hlen : ks.length < 64 := by
      have := k2.length_eq
      rw [List.length_map] at this
      have := tr.len
      omega
    refine ⟨_, rfl, p, kvs, ks, rfl, rfl, .inl ht.at_, k1, hlen, fun ys r h1 h2 hr0 => ?_⟩
    have ey := nums_down tr.srt k2 h1 h2
    subst ey
    have s1 := same_upd (o := .lst ((t.reverse.map fun q => (q.thing : Int)).map V.int)) hr0
    have hr1 : upd H r (.lst ((t.reverse.map fun q => (q.thing : Int)).map V.int)) r = some (.lst ((t.reverse.map fun q => (q.thing : Int)).map V.int)) := upd_same
    generalize upd H r (.lst ((t.reverse.map fun q => (q.thing : Int)).map V.int)) = H1 at s1 hr1
    refine ⟨r, rfl, ⟨_, SqL.of hr1⟩, fun D hD => ?_⟩
    refine lc_list (K := K) (a := r) (xs := (t.reverse.map fun q => (q.thing : Int)).map V.int)
      (fun i H' => Same H1 H' ∧ H' D = some (.lst ((((t.reverse.take i).filter fun q => q.under == x).map fun q => (q.thing : Int)).map V.int)))
      ⟨same_upd hD, upd_same⟩ (fun i H' _ ⟨s5, _⟩ => s5.seq (SqL.of hr1)) ?_ ?_
    · rintro i y H' hi ⟨s5, hD5⟩
      obtain ⟨z, hz, rfl⟩ : ∃ z, t.reverse[i]? = some z ∧ y = V.int (z.thing : Int) := by
        rw [List.getElem?_map, List.getElem?_map] at hi
        cases e : t.reverse[i]? with
        | none => rw [e] at hi; cases hi
        | some z => rw [e] at hi; exact ⟨z, rfl, (Option.some.inj hi).symm⟩
      have hzt : z ∈ t := List.mem_reverse.mp (List.mem_of_getElem? hz)
      obtain ⟨b, hb1, hb2⟩ := (ht.ext (Same.extN (s1.trans s5))).some_ z.thing z (My.get_of_mem tr.srt hzt)
      refine ⟨rfl, _, rfl, _, rfl, p, _, rfl, ?_, b, _, _, _, rfl, rfl, SqT.of hb2, atI_nat (j := 0) rfl, _, rfl, rfl, _, rfl, ?_⟩
      · rw [← hb1]
        exact DGet.k (k := Sum.inl (z.thing : Int)) (s5 _ _ (s1 _ _ ht.at_))
      · by_cases c : z.under = x
        · have ec : decide (V.int (z.under : Int) = V.int x) = true := decide_eq_true (by rw [c])
          rw [ec]
          refine iteT ?_
          refine ⟨_, rfl, _, hD5, ?_, ?_⟩
          · rw [List.length_map, List.length_map]
            have e1 := List.length_filter_le (fun q : SPlace => q.under == x) (t.reverse.take i)
            rw [List.length_take, List.length_reverse] at e1
            have := tr.len
            exact Nat.lt_of_le_of_lt (Nat.le_trans e1 (Nat.le_trans (Nat.min_le_right _ _) this)) (by decide)
          · refine ⟨fun b' o e => ?_, ?_⟩
            · rw [upd_ne (ne_of_none e hD)]
              exact s5 _ _ e
            · rw [upd_same, take_more hz, List.filter_append, List.map_append, List.map_append]
              have ef : [z].filter (fun q : SPlace => q.under == x) = [z] := by
                rw [List.filter_cons_of_pos (by simpa using c)]
                rfl
              rw [ef]
              rfl
        · have ec : decide (V.int (z.under : Int) = V.int x) = false := decide_eq_false fun e => c (by injection e with e; omega)
          rw [ec]
          refine iteF ⟨s5, ?_⟩
          rw [hD5, take_more hz, List.filter_append]
          have ef : [z].filter (fun q : SPlace => q.under == x) = [] := by
            rw [List.filter_cons_of_neg (by simpa using c)]
            rfl
          rw [ef, List.append_nil]
    · rintro H' ⟨s5, hD5⟩
      refine q H' D (s1.trans s5) (s1.free hD) ?_
      rw [hD5, List.length_map, List.length_map, List.take_length]
      unfold Sq28.under
      rw [List.filter_reverse]
end
end Pf
end
section
set_option Elab.async false
set_option linter.all false
set_option maxRecDepth 100000
set_option maxHeartbeats 2000000
namespace Pf
open PySem PySem.Spec PyProof.Rows L2 LamX SK
open Sq28 (Deed House)
/-- addresses, each with its thing -/
structure EachAt {α : Type} (R : Addr → α → Prop) (as : List Addr) (l : List α) : Prop where
  len : as.length = l.length
  each : ∀ (i : Nat) (a : Addr) (x : α), as[i]? = some a → l[i]? = some x → R a x
theorem EachAt.nil {α : Type} {R : Addr → α → Prop} : EachAt R [] [] := ⟨rfl, fun i a d h _ => by simp at h⟩
theorem EachAt.mono {α : Type} {R S : Addr → α → Prop} {as : List Addr} {l : List α} (h : EachAt R as l) (f : ∀ a x, R a x → S a x) : EachAt S as l := ⟨h.len, fun i a x h1 h2 => f a x (h.each i a x h1 h2)⟩
theorem EachAt.append {α : Type} {R : Addr → α → Prop} {as bs : List Addr} {l m : List α} (h : EachAt R as l) (h' : EachAt R bs m) : EachAt R (as ++ bs) (l ++ m) := by
  refine ⟨by rw [List.length_append, List.length_append, h.len, h'.len], fun i b e h1 h2 => ?_⟩
  by_cases hi : i < as.length
  · rw [List.getElem?_append_left hi] at h1
    rw [List.getElem?_append_left (by rw [← h.len]; exact hi)] at h2
    exact h.each i b e h1 h2
  · rw [List.getElem?_append_right (by omega)] at h1
    rw [List.getElem?_append_right (by rw [← h.len]; omega), ← h.len] at h2
    exact h'.each _ b e h1 h2
theorem EachAt.one {α : Type} {R : Addr → α → Prop} {a : Addr} {x : α} (h : R a x) : EachAt R [a] [x] := by
  refine ⟨rfl, fun i b e h1 h2 => ?_⟩
  cases i with
  | zero =>
    cases (Option.some.inj h1 : a = b)
    cases (Option.some.inj h2 : x = e)
    exact h
  | succ n => simp at h1
theorem EachAt.at_ {α : Type} {R : Addr → α → Prop} {as : List Addr} {l : List α} (h : EachAt R as l) {i : Nat} {d : α} (hi : l[i]? = some d) : ∃ a, as[i]? = some a ∧ R a d := by
  have hlt : i < as.length := by rw [h.len]; exact (List.getElem?_eq_some_iff.mp hi).1
  exact ⟨as[i], List.getElem?_eq_getElem hlt, h.each i _ d (List.getElem?_eq_getElem hlt) hi⟩
/-- the last one -/
theorem EachAt.last {α : Type} {R : Addr → α → Prop} {as : List Addr} {l : List α} {x : α} (h : EachAt R as (l ++ [x])) : ∃ bs a, as = bs ++ [a] ∧ EachAt R bs l ∧ R a x := by
  have hl : as.length = l.length + 1 := by rw [h.len, List.length_append]; rfl
  have hne : as ≠ [] := fun e => by rw [e] at hl; simp at hl
  refine ⟨as.dropLast, as.getLast hne, (List.dropLast_concat_getLast hne).symm, ⟨?_, fun i a y h1 h2 => ?_⟩, ?_⟩
  · rw [List.length_dropLast, hl]; rfl
  · have hil : i < l.length := (List.getElem?_eq_some_iff.mp h2).1
    have h3 : (l ++ [x])[i]? = some y := by rw [List.getElem?_append_left hil]; exact h2
    have h4 : as[i]? = some a := by
      rw [← List.dropLast_concat_getLast hne, List.getElem?_append_left (by rw [List.length_dropLast, hl]; exact hil)]
      exact h1
    exact h.each i a y h4 h3
  · refine h.each l.length _ x ?_ ?_
    · have e : as[as.length - 1]? = some (as.getLast hne) := by rw [← List.getLast?_eq_getElem?, List.getLast?_eq_some_getLast hne]
      rw [hl] at e
      exact e
    · rw [List.getElem?_append_right (Nat.le_refl _)]
      simp
/-- what waits: a tuple of a thing and how deep -/
def WaitAt (H : Hp) (a : Addr) (r : SPlace × Nat) : Prop := H a = some (.tup [.int (r.1.thing : Int), .int (r.2 : Int)])
/-- a row: thing, how deep, label -/
def RowAt (H : Hp) (a : Addr) (r : SPlace × Nat) : Prop := H a = some (.tup [.int (r.1.thing : Int), .int (r.2 : Int), .int (r.1.label : Int)])
theorem WaitAt.ext {H H' : Hp} {a : Addr} {r : SPlace × Nat} (e : ExtN H H') (h : WaitAt H a r) : WaitAt H' a r := e _ _ h (fun ps z => by cases z)
theorem RowAt.ext {H H' : Hp} {a : Addr} {r : SPlace × Nat} (e : ExtN H H') (h : RowAt H a r) : RowAt H' a r := e _ _ h (fun ps z => by cases z)
section
variable {P : Program} {w : World} {K : PySem.W.Frag} {mg : Str → Option Value} {base : Heap}
/-- [(thing, d) for thing in xs]: the tuples are new -/
def lc_pairs {r D : Addr} {us : List SPlace} {d : Nat} {H1 : Hp} {g : TG} {te : TE} {vs : List Nat} {σ : L2.St} {Qd : Hp → Prop} (hr1 : H1 r = some (.lst ((us.map fun q => (q.thing : Int)).map V.int))) (hD : H1 D = none) (hl : us.length ≤ 1000)
    (hs : ∀ (z : SPlace) (H' : Hp) (R : Hp → Prop), Same H1 H' → (∀ b, H' b = none → ∃ acc, (upd H' b (.tup [.int (z.thing : Int), .int (d : Int)])) D = some (.lst acc) ∧ acc.length < sizeLine ∧ R (upd (upd H' b (.tup [.int (z.thing : Int), .int (d : Int)])) D (.lst (acc ++ [.ref b])))) →
      g (.int (z.thing : Int)) (wipe σ vs) H' fun σ2 H2 => wipe σ2 vs = wipe σ vs ∧ tYes σ2 H2 fun b H3 => if b = true then te σ2 H3 fun y H4 => ∃ acc, H4 D = some (.lst acc) ∧ acc.length < sizeLine ∧ R (upd H4 D (.lst (acc ++ [y]))) else R H3)
    (hd : ∀ (H' : Hp) (as : List Addr), Same H1 H' → H' D = some (.lst (as.map V.ref)) → EachAt (WaitAt H') as (us.map fun q => (q, d)) → Qd H') :=
  lc_list (K := K) (g := g) (tt := tYes) (te := te) (vs := vs) (σ := σ) (H1 := H1) (D := D) (Qd := Qd) (a := r) (xs := (us.map fun q => (q.thing : Int)).map V.int)
    (fun i H' => Same H1 H' ∧ ∃ as : List Addr, H' D = some (.lst (as.map V.ref)) ∧ EachAt (WaitAt H') as ((us.take i).map fun q => (q, d)))
    ⟨same_upd hD, [], upd_same, EachAt.nil⟩ (fun i H' _ ⟨s5, _⟩ => s5.seq (SqL.of hr1))
    (by
      rintro i y H' hi ⟨s5, as, hD5, hE⟩
      obtain ⟨z, hz, rfl⟩ : ∃ z, us[i]? = some z ∧ y = V.int (z.thing : Int) := by
        rw [List.getElem?_map, List.getElem?_map] at hi
        cases e : us[i]? with
        | none => rw [e] at hi; cases hi
        | some z => rw [e] at hi; exact ⟨z, rfl, (Option.some.inj hi).symm⟩
      refine hs z H' _ s5 fun b hb => ?_
      have nDb : D ≠ b := ne_of_none hD5 hb
      refine ⟨as.map V.ref, by rw [upd_ne nDb]; exact hD5, ?_, fun b' o e => ?_, as ++ [b], ?_, ?_⟩
      · have := hE.len
        rw [List.length_map, List.length_take] at this
        rw [List.length_map, this]
        exact Nat.lt_of_le_of_lt (Nat.le_trans (Nat.min_le_right _ _) hl) (by decide)
      · rw [upd_ne (ne_of_none e hD), upd_ne (ne_of_none (s5 _ _ e) hb)]
        exact s5 _ _ e
      · rw [upd_same, List.map_append]
        rfl
      · rw [take_more hz, List.map_append]
        refine (hE.mono fun a x hx => ?_).append (EachAt.one ?_)
        · show _ = _
          have hx : H' a = some (.tup [.int (x.1.thing : Int), .int (x.2 : Int)]) := hx
          rw [upd_ne (ne_of hx hD5 (by intro z; cases z)), upd_ne (ne_of_none hx hb)]
          exact hx
        · show _ = _
          rw [upd_ne nDb.symm, upd_same])
    (by
      rintro H' ⟨s5, as, hD5, hE⟩
      rw [List.length_map, List.length_map, List.take_length] at hE
      exact hd H' as s5 hD5 hE)
/-! ### all_within -/
def spWithin : Sp := fun vs H Q _ => ∃ (p : Addr) (kvs : List (Key × V)) (t : STree) (x : Nat), vs = [.ref p, .int x] ∧ TreeAt H p kvs t ∧ My.Tr t ∧
  ∀ (H' : Hp) (r : Addr) (as : List Addr), Same H H' → H r = none → H' r = some (.lst (as.map V.ref)) → EachAt (RowAt H') as (My.inner t 1 x) → Q (.ref r) H'
/-- between two turns: what was told, what waits -/
def WithinI (t : STree) (H : Hp) (p : Addr) (x : Nat) (r D : Addr) : Nat → L2.St → Hp → Prop := fun m σ H' => ∃ (v3 v5 v6 v7 : Option V) (ras was : List Addr) (done stk : List (SPlace × Nat)), σ = [some (.ref p), some (.int x), some (.ref r), v3, some (.ref D), v5, v6, v7] ∧ Same H H' ∧
      H' r = some (.lst (ras.map V.ref)) ∧ EachAt (RowAt H') ras done ∧ H' D = some (.lst (was.map V.ref)) ∧ EachAt (WaitAt H') was stk ∧ done ++ My.rest t stk = My.inner t 1 x ∧ (∀ s ∈ stk, s.1 ∈ t) ∧ m = (My.rest t stk).length
theorem scWithin : FnScope ["tree", "top", "rows", "thing", "waiting", "step", "deep", "inner"] ["tree", "top"] (defScope sWithin) := ⟨rfl, rfl, rfl, by decide +kernel, rfl, by decide +kernel, by decide +kernel⟩
theorem ok_within {f f1 : Addr} {fd fd1 : FuncData} (F : Fun K "all_within" "all_within" sWithin f fd) (G1 : FnOk P w K mg base CX0 1 f1 fd1 ["tree", "top"] spRight) (k1 : PySem.W.keepIn K (.ref f1) = true) (g1 : mg "right_under" = some (.ref f1)) (b1 : Binds K fd1 ["tree", "top"] [])
    (gl : mg "len" = none) : FnOk P w K mg base CX0 2 f fd ["tree", "top"] spWithin := by
  refine F.ok scWithin (fun vs H Q E h => ?_) (fun cdv A outer s H vs Q E hr h => ?_)
  · obtain ⟨p, kvs, t, x, rfl, _⟩ := h
    rfl
  · obtain ⟨p, kvs, t, x, rfl, ht, tr, q⟩ := h
    have hu := hu_of hr
    refine ⟨_, pss_cons (ps_set (i := 2) scWithin.nd rfl (Or.inl rfl) (pe_lst pa_nil))
      (pss_cons (ps_setLc (i := 4) (own := [("thing", 3)]) (g := gName 3) (tt := tYes) rfl scWithin.nd rfl rfl (sw_true rfl rfl rfl (by decide +kernel)) (pi_list (pe_call G1 hr rfl g1 k1 b1 .nil pass0 (pa_cons (pv 0) (pa_cons (pv 1) pa_nil))))
        (blkOk_by (own := [("thing", 3)]) (N := ["tree", "top", "rows", "thing", "waiting", "step", "deep", "inner"]) (sc := defScope sWithin) (by decide +kernel)) (fun _ _ _ _ _ => pg_name (i := 3) scWithin.nd rfl (Or.inl rfl)) (fun _ _ _ _ _ => pts_nil) (fun _ _ _ _ _ => pe_tup (pa_cons (pv 3) (pa_cons pe_int pa_nil))))
      (pss_cons (ps_while PassesOwn.never (pt_cmpR op_gt (pe_callB call_len_seq (by rfl) gl PySem.boot_len (pa_cons (pv 4) pa_nil)) pe_int (nomark _))
        (pss_cons (ps_set (i := 5) scWithin.nd rfl (Or.inl rfl) (pe_bm0 PySem.F.plainAttrs_list PySem.F.slot_list_pop PySem.F.type_list_pop mt_pop (pv 4)))
        (pss_cons (ps_set (i := 3) scWithin.nd rfl (Or.inl rfl) (pe_ix ix_tup (pv 5) pe_int (fun _ _ => rfl)))
        (pss_cons (ps_set (i := 6) scWithin.nd rfl (Or.inr rfl) (pe_ix ix_tup (pv 5) pe_int (fun _ _ => rfl)))
        (pss_cons (ps_expr (pe_bm PySem.F.plainAttrs_list PySem.F.slot_list_append PySem.F.type_list_append mt_append (pv 2) (pa_cons (pe_tup (pa_cons (pv 3) (pa_cons (pv 6) (pa_cons (pe_ix ix_tup (pe_dget hu (pv 0) (pv 3) (fun _ _ => rfl)) pe_int (fun _ _ => rfl)) pa_nil)))) pa_nil)))
        (pss_one (ps_expr (pe_bm PySem.F.plainAttrs_list PySem.F.slot_list_extend PySem.F.type_list_extend mt_extend (pv 4) (pa_cons (pe_lc (own := [("inner", 7)]) (g := gName 7) (tt := tYes) rfl scWithin.nd (pi_list (pe_call G1 hr rfl g1 k1 b1 .nil pass0 (pa_cons (pv 0) (pa_cons (pv 3) pa_nil))))
          (blkOk_by (own := [("inner", 7)]) (N := ["tree", "top", "rows", "thing", "waiting", "step", "deep", "inner"]) (sc := defScope sWithin) (by decide +kernel)) (fun _ _ _ _ _ => pg_name (i := 7) scWithin.nd rfl (Or.inl rfl)) (fun _ _ _ _ _ => pts_nil)
          (fun _ _ _ _ _ => pe_tup (pa_cons (pv 7) (pa_cons (pe_op op_add (pv 6) pe_int) pa_nil)))) pa_nil)))))))))
      (pss_one (ps_ret (pv 2))))), ?_⟩
    refine ⟨Nat.zero_le _, fun r hr0 => ?_⟩
    have s1 := same_upd (o := .lst []) hr0
    refine ⟨_, rfl, _, rfl, p, kvs, t, x, rfl, ht.ext (Same.extN s1), tr, fun H2 u s2 hu0 hu2 => ?_⟩
    have hlen : ∀ y, (Sq28.under t y).length ≤ 62 := fun y => Nat.le_trans (List.length_filter_le _ _) tr.len
    refine ⟨u, rfl, ⟨_, SqL.of hu2⟩, fun D hD => lc_pairs (d := 1) hu2 hD (by rw [List.length_reverse]; have := hlen x; omega) (fun z H' R s5 k => ⟨rfl, _, rfl, (by show 2 ≤ sizeLine; decide), fun b hb => k b hb⟩) fun H3 was s3 hD3 hE3 => ?_⟩
    have s13 : Same H H3 := (s1.trans s2).trans s3
    have hr3 : H3 r = some (.lst []) := s3 _ _ (s2 _ _ upd_same)
    have hD0 : H D = none := (s1.trans s2).free hD
    have nrD : r ≠ D := ne_of_none (s2 _ _ upd_same) hD
    refine ⟨WithinI t H p x r D, ?_, ?_⟩
    · refine ⟨_, none, none, none, none, [], was, [], _, rfl, s13, hr3, EachAt.nil, hD3, hE3, ?_, ?_, rfl⟩
      · have := My.rest_more tr.srt tr.good [] 1 x
        simp only [List.nil_append] at this ⊢
        rw [this]
        simp [My.rest]
      · intro s hs
        obtain ⟨z, hz, e⟩ := List.mem_map.mp hs
        rw [← e]
        exact (My.under_mem.mp (List.mem_reverse.mp hz)).1
    · rintro m σ H' ⟨v3, v5, v6, v7, ras, was, done, stk, rfl, s5, hr5, hE5, hD5, hW5, hinv, hst, rfl⟩
      refine ⟨_, rfl, D, _, rfl, .inl (SqL.of hD5), _, _, rfl, rfl, _, rfl, ?_⟩
      rcases List.eq_nil_or_concat stk with e | ⟨stk', rr, e⟩
      · subst e
        have el : was = [] := by
          have := hW5.len
          exact List.eq_nil_of_length_eq_zero this
        subst el
        have ec : decide ((0 : Int) < ((([] : List Addr).map V.ref).length : Nat)) = false := rfl
        refine iteF ?_
        refine ⟨_, rfl, ?_⟩
        refine q H' r ras s5 hr0 hr5 ?_
        rw [← hinv]
        simpa [My.rest] using hE5
      · rw [List.concat_eq_append] at e
        subst e
        obtain ⟨bs, wa, rfl, hWb, hwa⟩ := hW5.last
        have ec : decide ((0 : Int) < (((bs ++ [wa]).map V.ref).length : Nat)) = true := by
          rw [List.length_map, List.length_append]
          exact decide_eq_true (by simp)
        rw [ec]
        refine iteT ?_
        have hwa : H' wa = some (.tup [.int (rr.1.thing : Int), .int (rr.2 : Int)]) := hwa
        have hrr : rr.1 ∈ t := hst rr (List.mem_append.mpr (.inr (List.mem_singleton.mpr rfl)))
        obtain ⟨b0, hb1, hb2⟩ := (ht.ext (Same.extN s5)).some_ rr.1.thing rr.1 (My.get_of_mem tr.srt hrr)
        have ebs : ((bs ++ [wa]).map V.ref).dropLast = bs.map V.ref := by
          rw [List.map_append]
          exact List.dropLast_concat
        have elast : ((bs ++ [wa]).map V.ref)[((bs ++ [wa]).map V.ref).length - 1]? = some (V.ref wa) := by
          rw [List.map_append, List.length_append]
          simp
        -- the pop
        have a1 : ∀ c o, c ≠ D → H' c = some o → upd H' D (.lst ((bs ++ [wa]).map V.ref).dropLast) c = some o := fun c o hc e => by rw [upd_ne hc]; exact e
        have aD : upd H' D (.lst ((bs ++ [wa]).map V.ref).dropLast) D = some (.lst (bs.map V.ref)) := by rw [upd_same, ebs]
        have nT : ∀ c xs, H' c = some (.tup xs) → c ≠ D ∧ c ≠ r := fun c xs e => ⟨ne_of e hD5 (by intro z; cases z), ne_of e hr5 (by intro z; cases z)⟩
        have npD : p ≠ D := ne_of (s5 _ _ ht.at_) hD5 (by intro z; cases z)
        have npr : p ≠ r := ne_of (s5 _ _ ht.at_) hr5 (by intro z; cases z)
        have aH : ∀ c, upd H' D (.lst ((bs ++ [wa]).map V.ref).dropLast) c = none → c ≠ D ∧ H' c = none := fun c e => by
          have hc : c ≠ D := fun z => by rw [z, upd_same] at e; cases e
          rw [upd_ne hc] at e
          exact ⟨hc, e⟩
        have awa := a1 _ _ (nT _ _ hwa).1 hwa
        have ab0 := a1 _ _ (nT _ _ hb2).1 hb2
        have ap := a1 _ _ npD (s5 _ _ ht.at_)
        refine ⟨fun σ' H1 => ∃ m', m' < (My.rest t (stk' ++ [rr])).length ∧ WithinI t H p x r D m' σ' H1, fun σ' H1 h => h, ?_⟩
        refine ⟨_, rfl, .inl ⟨rfl, _, SqL.of hD5⟩, D, _, .ref wa, rfl, rfl, hD5, elast, ?_⟩
        generalize upd H' D (.lst ((bs ++ [wa]).map V.ref).dropLast) = Ha at a1 aD aH awa ab0 ap
        -- thing = step[0]; deep = step[1]
        refine ⟨_, rfl, wa, _, _, _, rfl, rfl, SqT.of awa, atI_nat (j := 0) rfl, ?_⟩
        refine ⟨_, rfl, wa, _, _, _, rfl, rfl, SqT.of awa, atI_nat (j := 1) rfl, ?_⟩
        -- rows.append(..)
        have ar := a1 _ _ nrD hr5
        refine ⟨_, rfl, .inl ⟨rfl, _, SqL.of ar⟩, _, rfl, _, rfl, _, rfl, _, rfl, p, _, rfl, ?_, b0, _, _, _, rfl, rfl, SqT.of ab0, atI_nat (j := 1) rfl, (by show 3 ≤ sizeLine; decide), fun b hb => ?_⟩
        · rw [← hb1]
          exact DGet.k (k := Sum.inl (rr.1.thing : Int)) ap
        obtain ⟨nbD, hb'⟩ := aH b hb
        have nrb : r ≠ b := ne_of_none ar hb
        have hdl : done.length ≤ 62 := by
          have e1 := congrArg List.length hinv
          rw [List.length_append] at e1
          have := My.inner_len tr.srt tr.good 1 x
          have := tr.len
          omega
        refine ⟨r, _, _, rfl, rfl, (by rw [upd_ne nrb]; exact ar), ?_, ?_⟩
        · rw [List.length_map, hE5.len]
          exact Nat.lt_of_le_of_lt hdl (by decide)
        -- all but D and r stands; b is new
        have c1 : ∀ c o, c ≠ D → c ≠ r → H' c = some o → upd (upd Ha b (.tup [.int (rr.1.thing : Int), .int (rr.2 : Int), .int (rr.1.label : Int)])) r (.lst (ras.map V.ref ++ [.ref b])) c = some o := fun c o h1 h2 e => by
          rw [upd_ne h2, upd_ne (ne_of_none e hb')]
          exact a1 _ _ h1 e
        have cD : upd (upd Ha b (.tup [.int (rr.1.thing : Int), .int (rr.2 : Int), .int (rr.1.label : Int)])) r (.lst (ras.map V.ref ++ [.ref b])) D = some (.lst (bs.map V.ref)) := by
          rw [upd_ne nrD.symm, upd_ne nbD.symm]
          exact aD
        have cr : upd (upd Ha b (.tup [.int (rr.1.thing : Int), .int (rr.2 : Int), .int (rr.1.label : Int)])) r (.lst (ras.map V.ref ++ [.ref b])) r = some (.lst ((ras ++ [b]).map V.ref)) := by
          rw [upd_same, List.map_append]
          rfl
        have cb : upd (upd Ha b (.tup [.int (rr.1.thing : Int), .int (rr.2 : Int), .int (rr.1.label : Int)])) r (.lst (ras.map V.ref ++ [.ref b])) b = some (.tup [.int (rr.1.thing : Int), .int (rr.2 : Int), .int (rr.1.label : Int)]) := by
          rw [upd_ne nrb.symm, upd_same]
        generalize upd (upd Ha b (.tup [.int (rr.1.thing : Int), .int (rr.2 : Int), .int (rr.1.label : Int)])) r (.lst (ras.map V.ref ++ [.ref b])) = Hc at c1 cD cr cb
        have sc : Same H Hc := fun c o e => c1 c o (ne_of_none e hD0) (ne_of_none e hr0) (s5 _ _ e)
        -- waiting.extend([..])
        refine ⟨_, rfl, .inl ⟨rfl, _, SqL.of cD⟩, _, rfl, _, rfl, p, kvs, t, rr.1.thing, rfl, ht.ext (Same.extN sc), tr, fun H8 u8 s8 hu80 hu8 => ?_⟩
        refine ⟨u8, rfl, ⟨_, SqL.of hu8⟩, fun D2 hD2 => lc_pairs (d := rr.2 + 1) hu8 hD2 (by rw [List.length_reverse]; have := hlen rr.1.thing; omega) (fun z H9 R s9 k => ⟨rfl, _, rfl, _, rfl, _, _, rfl, rfl, (by show 2 ≤ sizeLine; decide), fun b hb => k b hb⟩) fun H9 ws s9 hD9 hE9 => ?_⟩
        have s89 : Same Hc H9 := s8.trans s9
        have dD := s89 _ _ cD
        have hrest : My.rest t (stk' ++ (Sq28.under t rr.1.thing).reverse.map fun q => (q, rr.2 + 1)) = My.inner t (rr.2 + 1) rr.1.thing ++ My.rest t stk' := My.rest_more tr.srt tr.good _ _ _
        have hinv' : done ++ rr :: (My.inner t (rr.2 + 1) rr.1.thing ++ My.rest t stk') = My.inner t 1 x := by rw [← hinv, My.rest_snoc]
        refine ⟨D, D2, _, _, rfl, rfl, dD, hD9, ?_, ?_⟩
        · have e1 := My.rest_len t (stk' ++ (Sq28.under t rr.1.thing).reverse.map fun q => (q, rr.2 + 1))
          rw [hrest] at e1
          have e2 := congrArg List.length hinv'
          have e3 := My.inner_len tr.srt tr.good 1 x
          have e4 := tr.len
          have e5 := hE9.len
          have e6 := hWb.len
          rw [List.length_append, List.length_cons] at e2
          rw [List.length_append, List.length_map, List.length_reverse] at e1
          rw [List.length_map, List.length_reverse] at e5
          rw [List.length_map, List.length_map, e5, e6]
          exact Nat.le_trans (show _ ≤ 62 by omega) (by decide)
        · have d1 : ∀ c o, c ≠ D → H9 c = some o → upd H9 D (.lst (bs.map V.ref ++ ws.map V.ref)) c = some o := fun c o h e => by rw [upd_ne h]; exact e
          have dT : ∀ c xs, H9 c = some (.tup xs) → upd H9 D (.lst (bs.map V.ref ++ ws.map V.ref)) c = some (.tup xs) := fun c xs e => d1 c _ (ne_of e dD (by intro z; cases z)) e
          have eT : ∀ c xs, H' c = some (.tup xs) → H9 c = some (.tup xs) := fun c xs e => s89 _ _ (c1 c _ (nT c xs e).1 (nT c xs e).2 e)
          refine ⟨(My.rest t (stk' ++ (Sq28.under t rr.1.thing).reverse.map fun q => (q, rr.2 + 1))).length, ?_, _, _, _, _, ras ++ [b], bs ++ ws, done ++ [rr], stk' ++ (Sq28.under t rr.1.thing).reverse.map fun q => (q, rr.2 + 1), rfl, fun c o e => d1 c o (ne_of_none e hD0) (s89 _ _ (sc _ _ e)), d1 r _ nrD (s89 _ _ cr), ?_, ?_, ?_, ?_, ?_, rfl⟩
          · rw [hrest, My.rest_snoc, List.length_cons]
            exact Nat.lt_succ_self _
          · exact (hE5.mono fun a y hy => dT _ _ (eT _ _ hy)).append (EachAt.one (dT _ _ (s89 _ _ cb)))
          · rw [upd_same, List.map_append]
          · exact (hWb.mono fun a y hy => dT _ _ (eT _ _ hy)).append (hE9.mono fun a y hy => dT _ _ hy)
          · rw [hrest, List.append_assoc]
            exact hinv'
          · intro s hs
            rcases List.mem_append.mp hs with h | h
            · exact hst s (List.mem_append.mpr (.inl h))
            · obtain ⟨z, hz, e⟩ := List.mem_map.mp h
              rw [← e]
              exact (My.under_mem.mp (List.mem_reverse.mp hz)).1
end
end Pf
end
section
set_option Elab.async false
set_option linter.all false
set_option maxRecDepth 100000
set_option maxHeartbeats 2000000
namespace Pf
open PySem PySem.Spec PyProof.Rows L2 LamX SK
open Sq28 (Deed House)
/-! ### two trees, the same or not -/
theorem valV_of_mem : ∀ {kvs : List (Key × V)} {k : Key} {v : V}, (kvs.map (·.1)).Nodup → (k, v) ∈ kvs → valV kvs k = some v
  | [], _, _, _, h => by cases h
  | (k', v') :: r, k, v, hn, h => by
    rw [List.map_cons, List.nodup_cons] at hn
    unfold valV
    rw [List.find?_cons]
    rcases List.mem_cons.mp h with e | h
    · cases e
      rw [decide_eq_true rfl]
      rfl
    · have ne : ¬ k' = k := fun z => hn.1 (List.mem_map.mpr ⟨(k, v), h, z.symm⟩)
      rw [decide_eq_false ne]
      exact valV_of_mem hn.2 h
theorem TreeAt.nodup {H : Hp} {p : Addr} {kvs : List (Key × V)} {t : STree} (x : TreeAt H p kvs t) (g : My.Srt t) : (kvs.map (·.1)).Nodup := by
  refine x.keys.nodup_iff.mpr ?_
  have e : (t.map fun q => (Sum.inl (q.thing : Int) : Key)) = (t.map (·.thing)).map fun n : Nat => (Sum.inl (n : Int) : Key) := by
    rw [List.map_map]
    rfl
  rw [e]
  have h := My.srt_nodup g
  unfold List.Nodup at h ⊢
  rw [List.pairwise_map]
  exact h.imp fun {a b} hab z => hab (Int.ofNat.inj (Sum.inl.inj z))
theorem TreeAt.entry {H : Hp} {p : Addr} {kvs : List (Key × V)} {t : STree} (x : TreeAt H p kvs t) (g : My.Srt t) {k : Key} {v : V} (h : (k, v) ∈ kvs) :
    ∃ q, q ∈ t ∧ k = Sum.inl (q.thing : Int) ∧ ∃ b, v = .ref b ∧ H b = some (.tup [.int q.under, .int q.label]) := by
  have hk := x.keys.mem_iff.mp (List.mem_map.mpr ⟨(k, v), h, rfl⟩)
  obtain ⟨q, hq, e⟩ := List.mem_map.mp hk
  have e : k = Sum.inl (q.thing : Int) := e.symm
  obtain ⟨b, h1, h2⟩ := x.some_ q.thing q (My.get_of_mem g hq)
  have h3 := valV_of_mem (x.nodup g) h
  rw [e, h1] at h3
  exact ⟨q, hq, e, b, (Option.some.inj h3).symm, h2⟩
theorem place_ext {p q : SPlace} (h : p.thing = q.thing) (e : ((p.under : Int), (p.label : Int)) = ((q.under : Int), (q.label : Int))) : p = q := by
  obtain ⟨a, b, c⟩ := p
  obtain ⟨a', b', c'⟩ := q
  have h1 := (Prod.mk.inj e).1
  have h2 := (Prod.mk.inj e).2
  have h1 : b = b' := Int.ofNat.inj h1
  have h2 : c = c' := Int.ofNat.inj h2
  have h : a = a' := h
  rw [h, h1, h2]
theorem hits_of {K : PySem.W.Frag} {H : Hp} {p1 p2 : Addr} {k1 k2 : List (Key × V)} {t1 t2 : STree} (x : TreeAt H p1 k1 t1) (y : TreeAt H p2 k2 t2) (g1 : My.Srt t1) (g2 : My.Srt t2) :
    ∀ l : List (Key × V), (∀ e ∈ l, e ∈ k1) → ∃ r, HitsV K H k2 l r ∧ (r = true ↔ ∀ e ∈ l, ∀ q ∈ t1, e.1 = Sum.inl (q.thing : Int) → Sq28.get t2 q.thing = some q)
  | [], _ => ⟨true, .nil, by simp⟩
  | (k, v) :: l, hs => by
    obtain ⟨r, hr, hi⟩ := hits_of x y g1 g2 l fun e he => hs e (List.mem_cons_of_mem _ he)
    obtain ⟨q, hq, ek, b, ev, hb⟩ := x.entry g1 (hs _ List.mem_cons_self)
    have only : ∀ q' ∈ t1, k = Sum.inl (q'.thing : Int) → q' = q := fun q' hq' e => by
      have e2 : q'.thing = q.thing := Int.ofNat.inj (Sum.inl.inj (e.symm.trans ek))
      have h1 := My.get_of_mem g1 hq'
      rw [e2, My.get_of_mem g1 hq] at h1
      exact (Option.some.inj h1).symm
    cases e2 : Sq28.get t2 q.thing with
    | none =>
      refine ⟨false, .miss (by rw [ek]; exact y.none_ _ e2), by simp, fun z => ?_⟩
      have := z (k, v) List.mem_cons_self q hq ek
      rw [e2] at this
      cases this
    | some q2 =>
      obtain ⟨b2, h1, h2⟩ := y.some_ _ q2 e2
      have hq2 := My.get_mem e2
      refine ⟨_, .hit (by rw [ek]; exact h1) ⟨b, b2, (q.under, q.label), (q2.under, q2.label), ev, rfl, .of hb, .of h2, rfl⟩ hr, ?_⟩
      rw [Bool.and_eq_true, decide_eq_true_iff, hi]
      refine ⟨fun z e he q' hq' hk => ?_, fun z => ⟨?_, fun e he => z e (List.mem_cons_of_mem _ he)⟩⟩
      · rcases List.mem_cons.mp he with rfl | he
        · rw [only q' hq' hk, e2, place_ext hq2.2.symm z.1]
        · exact z.2 e he q' hq' hk
      · have := z (k, v) List.mem_cons_self q hq ek
        rw [e2] at this
        cases this
        rfl
theorem trees_eq {K : PySem.W.Frag} {H : Hp} {p1 p2 : Addr} {k1 k2 : List (Key × V)} {t1 t2 : STree} (x : TreeAt H p1 k1 t1) (y : TreeAt H p2 k2 t2) (g1 : My.Tr t1) (g2 : My.Tr t2) : ∃ r, HitsV K H k2 k1 r ∧ (k1.length == k2.length && r) = decide (t1 = t2) := by
  obtain ⟨r, hr, hi⟩ := hits_of (K := K) x y g1.srt g2.srt k1 fun e he => he
  refine ⟨r, hr, ?_⟩
  rw [x.len, y.len]
  by_cases e : t1 = t2
  · rw [decide_eq_true e, hi.mpr fun e1 _ q hq _ => by rw [← e]; exact My.get_of_mem g1.srt hq, e]
    simp
  · rw [decide_eq_false e]
    refine Bool.eq_false_iff.mpr fun z => e ?_
    rw [Bool.and_eq_true] at z
    refine My.tree_same g1.srt g2.srt (eq_of_beq z.1) fun p hp => ?_
    obtain ⟨e1, he1, ek⟩ := List.mem_map.mp (x.keys.mem_iff.mpr (List.mem_map.mpr ⟨p, hp, rfl⟩))
    exact hi.mp z.2 e1 he1 p hp ek
end Pf
end
section
set_option Elab.async false
set_option linter.all false
set_option maxRecDepth 100000
set_option maxHeartbeats 2000000
namespace Pf
open PySem PySem.Spec PyProof.Rows L2 LamX SK
open Sq28 (Deed House)
abbrev sDeedInit : Stmt := inClass (topS 34) 0
abbrev sInit : Stmt := inClass (topS 35) 0
abbrev sHas : Stmt := inClass (topS 35) 11
abbrev sGreatest : Stmt := inClass (topS 35) 12
abbrev sTreeAt : Stmt := inClass (topS 35) 13
abbrev sWouldCome : Stmt := inClass (topS 35) 14
abbrev sDawc : Stmt := inClass (topS 35) 15
abbrev sMay : Stmt := topS 36
theorem putF_len (f : Str) (v : V) : ∀ fs : List (Str × V), (putF f v fs).length ≤ fs.length + 1
  | [] => Nat.le_refl _
  | (g, x) :: r => by
    by_cases e : g = f
    · subst e
      rw [put_here]
      simp
    · rw [put_past e, List.length_cons, List.length_cons]
      exact Nat.succ_le_succ (putF_len f v r)
theorem few1 {f : Str} {v : V} : (putF f v []).length < 1000 := Nat.lt_of_le_of_lt (putF_len _ _ _) (by show 1 < 1000; decide)
theorem few2 {f g : Str} {v x : V} : (putF f v (putF g x [])).length < 1000 := Nat.lt_of_le_of_lt (Nat.le_trans (putF_len _ _ _) (Nat.succ_le_succ (putF_len _ _ _))) (by show 2 < 1000; decide)
theorem few3 {f g h : Str} {v x y : V} : (putF f v (putF g x (putF h y []))).length < 1000 := Nat.lt_of_le_of_lt (Nat.le_trans (putF_len _ _ _) (Nat.succ_le_succ (Nat.le_trans (putF_len _ _ _) (Nat.succ_le_succ (putF_len _ _ _))))) (by show 3 < 1000; decide)
structure TxH (K : PySem.W.Frag) (C : Addr) : Prop where
  cl : Cls K C
  nD : NoAttr K C "done"
  nK : NoAttr K C "known"
section
variable {P : Program} {w : World} {K : PySem.W.Frag} {mg : Str → Option Value} {base : Heap}
/-- [vo z for z in us if keep z]: what is read is left as it is -/
def lc_pure {α : Type} {r D : Addr} {us : List α} {vi vo : α → V} {keep : α → Bool} {H1 : Hp} {g : TG} {tt : TT} {te : TE} {vs : List Nat} {σ : L2.St} {Qd : Hp → Prop} (hr1 : SqL K H1 r (us.map vi)) (hD : H1 D = none) (hl : us.length ≤ 1000)
    (hs : ∀ z ∈ us, ∀ (H' : Hp) (R1 : V → Hp → Prop) (R2 : Hp → Prop), Same H1 H' → (keep z = true → R1 (vo z) H') → (keep z = false → R2 H') →
      g (vi z) (wipe σ vs) H' fun σ2 H2 => wipe σ2 vs = wipe σ vs ∧ tt σ2 H2 fun b H3 => if b = true then te σ2 H3 R1 else R2 H3)
    (hd : ∀ H' : Hp, Same H1 H' → H' D = some (.lst ((us.filter keep).map vo)) → Qd H') :=
  lc_list (K := K) (g := g) (tt := tt) (te := te) (vs := vs) (σ := σ) (D := D) (Qd := Qd) (a := r) (xs := us.map vi) (fun i H' => Same H1 H' ∧ H' D = some (.lst (((us.take i).filter keep).map vo)))
    ⟨same_upd hD, upd_same⟩ (fun i H' _ ⟨s5, _⟩ => s5.seq hr1)
    (by
      rintro i y H' hi ⟨s5, hD5⟩
      obtain ⟨z, hz, rfl⟩ : ∃ z, us[i]? = some z ∧ y = vi z := by
        rw [List.getElem?_map] at hi
        cases e : us[i]? with
        | none => rw [e] at hi; cases hi
        | some z => rw [e] at hi; exact ⟨z, rfl, (Option.some.inj hi).symm⟩
      refine hs z (List.mem_of_getElem? hz) H' _ _ s5 (fun hk => ?_) fun hk => ?_
      · refine ⟨_, hD5, ?_, fun b' o e => ?_, ?_⟩
        · rw [List.length_map]
          have e1 := List.length_filter_le keep (us.take i)
          rw [List.length_take] at e1
          exact Nat.lt_of_le_of_lt (Nat.le_trans e1 (Nat.le_trans (Nat.min_le_right _ _) hl)) (by decide)
        · rw [upd_ne (ne_of_none e hD)]
          exact s5 _ _ e
        · have ef : [z].filter keep = [z] := by rw [List.filter_cons_of_pos hk]; rfl
          rw [upd_same, take_more hz, List.filter_append, List.map_append, ef]
          rfl
      · have ef : [z].filter keep = [] := by rw [List.filter_cons_of_neg (by rw [hk]; decide)]; rfl
        refine ⟨s5, ?_⟩
        rw [hD5, take_more hz, List.filter_append, ef, List.append_nil])
    (by
      rintro H' ⟨s5, hD5⟩
      rw [List.length_map, List.take_length] at hD5
      exact hd H' s5 hD5)
/-! ### may_put -/
def spMay : Sp := fun vs H Q _ => ∃ x u : Nat, vs = [.int x, .int u] ∧ Q (.bl (decide (2 ≤ x ∧ x < 64 ∧ u < 64))) H
theorem scMay : FnScope ["thing", "under"] ["thing", "under"] (defScope sMay) := ⟨rfl, rfl, rfl, by decide +kernel, rfl, by decide +kernel, by decide +kernel⟩
theorem ok_may {f : Addr} {fd : FuncData} (F : Fun K "may_put" "may_put" sMay f fd) (T : TxA K mg) (hl : ∃ t, mg "LAST_THING" = some (.int 63 t)) : FnOk P w K mg base CX0 1 f fd ["thing", "under"] spMay := by
  refine F.ok scMay (fun vs H Q E h => ?_) (fun cdv A outer s H vs Q E hr h => ?_)
  · obtain ⟨x, u, rfl, _⟩ := h
    rfl
  · obtain ⟨x, u, rfl, q⟩ := h
    obtain ⟨tR, hR⟩ := T.ROOT
    obtain ⟨tB, hB⟩ := T.BIN
    obtain ⟨tL, hL⟩ := hl
    have eqT : ∀ {i j : Int}, i = j → (!decide (V.int i = V.int j)) = false := fun e => by rw [decide_eq_true (by rw [e])]; rfl
    have eqF : ∀ {i j : Int}, i ≠ j → (!decide (V.int i = V.int j)) = true := fun e => by rw [decide_eq_false (fun z => e (by injection z))]; rfl
    refine ⟨_, pss_one (ps_ret (pe_and (pe_cmpR op_ne (pv 0) (pe_num rfl hR) (nomark _)) (pe_and (pe_cmpR op_ne (pv 0) (pe_num rfl hB) (nomark _)) (pe_and (pe_cmpR op_le (pv 0) (pe_num rfl hL) (nomark _)) (pe_one (pe_cmpR op_le (pv 1) (pe_num rfl hL) (nomark _))))))), ?_⟩
    refine ⟨_, rfl, rfl, _, rfl, ?_⟩
    by_cases c0 : x = 0
    · have e : decide (2 ≤ x ∧ x < 64 ∧ u < 64) = false := decide_eq_false (by omega)
      rw [e] at q
      exact ifF (eqT (by omega)) q
    refine ifT (eqF (by omega)) ?_
    refine ⟨_, rfl, rfl, _, rfl, ?_⟩
    by_cases c1 : x = 1
    · have e : decide (2 ≤ x ∧ x < 64 ∧ u < 64) = false := decide_eq_false (by omega)
      rw [e] at q
      exact ifF (eqT (by omega)) q
    refine ifT (eqF (by omega)) ?_
    refine ⟨_, rfl, _, _, rfl, rfl, _, rfl, ?_⟩
    by_cases c2 : x < 64
    · refine ifT (decide_eq_true (by omega)) ?_
      refine ⟨_, rfl, _, _, rfl, rfl, ?_⟩
      have e : decide (2 ≤ x ∧ x < 64 ∧ u < 64) = decide ((u : Int) ≤ 63) := by
        by_cases c : u < 64
        · rw [decide_eq_true (show 2 ≤ x ∧ x < 64 ∧ u < 64 by omega), decide_eq_true (show (u : Int) ≤ 63 by omega)]
        · rw [decide_eq_false (show ¬ (2 ≤ x ∧ x < 64 ∧ u < 64) by omega), decide_eq_false (show ¬ (u : Int) ≤ 63 by omega)]
      rw [e] at q
      exact q
    · have e : decide (2 ≤ x ∧ x < 64 ∧ u < 64) = false := decide_eq_false (by omega)
      rw [e] at q
      exact ifF (decide_eq_false (by omega)) q
/-! ### Deed.__init__ -/
def spDeedInit (CD : Addr) : Sp := fun vs H Q _ => ∃ (p dx t : Addr) (d : Deed), vs = [.ref p, .ref t, .int d.thing, .int d.under, .int d.label] ∧ H p = some (.ins CD dx []) ∧
  ∀ H' : Hp, H' p = some (.ins CD dx (dF t d)) → (∀ b o, H b = some o → b ≠ p → H' b = some o) → (∀ b, H b = none → H' b = none) → Q .non H'
theorem scDeedInit : FnScope ["self", "stamp", "thing", "under", "label"] ["self", "stamp", "thing", "under", "label"] (defScope sDeedInit) := ⟨rfl, rfl, rfl, by decide +kernel, rfl, by decide +kernel, by decide +kernel⟩
theorem ok_deedInit {f CD : Addr} {fd : FuncData} (F : Fun K "__init__" "Deed.__init__" sDeedInit f fd) (TD : TxD K CD) : FnOk P w K mg base CX0 1 f fd ["self", "stamp", "thing", "under", "label"] (spDeedInit CD) := by
  refine F.ok scDeedInit (fun vs H Q E h => ?_) (fun cdv A outer s H vs Q E hr h => ?_)
  · obtain ⟨p, dx, t, d, rfl, _⟩ := h
    rfl
  · obtain ⟨p, dx, t, d, rfl, hp, k⟩ := h
    refine ⟨_, pss_cons (ps_fld (pv 0) (pv 1) rfl) (pss_cons (ps_fld (pv 0) (pv 2) rfl) (pss_cons (ps_fld (pv 0) (pv 3) rfl) (pss_one (ps_fld (pv 0) (pv 4) rfl)))), ?_⟩
    refine ⟨_, rfl, _, rfl, p, CD, dx, [], rfl, hp, TD.cl, TD.nS, (by show 0 < 1000; decide), ?_⟩
    refine ⟨_, rfl, _, rfl, p, CD, dx, _, rfl, upd_same, TD.cl, TD.nT, few1, ?_⟩
    refine ⟨_, rfl, _, rfl, p, CD, dx, _, rfl, upd_same, TD.cl, TD.nU, few2, ?_⟩
    refine ⟨_, rfl, _, rfl, p, CD, dx, _, rfl, upd_same, TD.cl, TD.nL, few3, ?_⟩
    refine k _ (by rw [upd_same, dF_new]) (fun b o e hb => by rw [upd_ne hb, upd_ne hb, upd_ne hb, upd_ne hb]; exact e) fun b e => ?_
    have hb : b ≠ p := fun z => by rw [z, hp] at e; cases e
    rw [upd_ne hb, upd_ne hb, upd_ne hb, upd_ne hb]
    exact e
end
end Pf
end
section
set_option Elab.async false
set_option linter.all false
set_option maxRecDepth 100000
set_option maxHeartbeats 2000000
namespace Pf
open PySem PySem.Spec PyProof.Rows L2 LamX SK
open Sq28 (Deed House)
section
variable {P : Program} {w : World} {K : PySem.W.Frag} {mg : Str → Option Value} {base : Heap}
/-! ### House.__init__ -/
def spInit (C CD : Addr) : Sp := fun vs H Q _ => ∃ p dx : Addr, vs = [.ref p] ∧ H p = some (.ins C dx []) ∧
  ∀ (H' : Hp) (l1 l2 : Addr) (kas : List Addr), HouseAt C CD H' p dx l1 l2 [] kas Sq28.fresh → H l1 = none → H l2 = none → (∀ k ∈ kas, H k = none) → (∀ b o, H b = some o → b ≠ p → H' b = some o) → Q .non H'
theorem scInit : FnScope ["self"] ["self"] (defScope sInit) := ⟨rfl, rfl, rfl, by decide +kernel, rfl, by decide +kernel, by decide +kernel⟩
theorem ok_init {f C CD : Addr} {fd : FuncData} (F : Fun K "__init__" "House.__init__" sInit f fd) (TH : TxH K C) : FnOk P w K mg base CX0 1 f fd ["self"] (spInit C CD) := by
  refine F.ok scInit (fun vs H Q E h => ?_) (fun cdv A outer s H vs Q E hr h => ?_)
  · obtain ⟨p, dx, rfl, _⟩ := h
    rfl
  · obtain ⟨p, dx, rfl, hp, k⟩ := h
    refine ⟨_, pss_cons (ps_fld (pv 0) (pe_lst pa_nil) rfl) (pss_one (ps_fld (pv 0) (pe_lst (pa_cons (pe_lst pa_nil) pa_nil)) rfl)), ?_⟩
    refine ⟨Nat.zero_le _, fun l1 h1 => ?_⟩
    have n1 : p ≠ l1 := ne_of_none hp h1
    refine ⟨_, rfl, p, C, dx, [], rfl, (by rw [upd_ne n1]; exact hp), TH.cl, TH.nD, (by show 0 < 1000; decide), ?_⟩
    have q1 : upd (upd H l1 (.lst [])) p (.ins C dx (putF "done" (.ref l1) [])) p = some (.ins C dx (putF "done" (.ref l1) [])) := upd_same
    have q2 : upd (upd H l1 (.lst [])) p (.ins C dx (putF "done" (.ref l1) [])) l1 = some (.lst []) := by rw [upd_ne n1.symm, upd_same]
    have q3 : ∀ b o, H b = some o → b ≠ p → upd (upd H l1 (.lst [])) p (.ins C dx (putF "done" (.ref l1) [])) b = some o := fun b o e hb => by rw [upd_ne hb, upd_ne (ne_of_none e h1)]; exact e
    have q4 : ∀ b, upd (upd H l1 (.lst [])) p (.ins C dx (putF "done" (.ref l1) [])) b = none → H b = none := fun b e => by
      have e1 : b ≠ p := fun z => by rw [z, upd_same] at e; cases e
      rw [upd_ne e1] at e
      have e2 : b ≠ l1 := fun z => by rw [z, upd_same] at e; cases e
      rw [upd_ne e2] at e
      exact e
    generalize upd (upd H l1 (.lst [])) p (.ins C dx (putF "done" (.ref l1) [])) = H1 at q1 q2 q3 q4
    refine ⟨Nat.zero_le _, fun l3 h3 => ⟨(by show 1 ≤ sizeLine; decide), fun l2 h2 => ?_⟩⟩
    have n32 : l3 ≠ l2 := fun z => by rw [← z, upd_same] at h2; cases h2
    have h2' : H1 l2 = none := by rw [upd_ne n32.symm] at h2; exact h2
    have np3 : p ≠ l3 := ne_of_none q1 h3
    have np2 : p ≠ l2 := ne_of_none q1 h2'
    refine ⟨_, rfl, p, C, dx, _, rfl, (by rw [upd_ne np2, upd_ne np3]; exact q1), TH.cl, TH.nK, few1, ?_⟩
    have n12 : l1 ≠ l2 := ne_of_none q2 h2'
    have n13 : l1 ≠ l3 := ne_of_none q2 h3
    refine k _ l1 l2 [l3] ⟨by rw [upd_same, hF_new], ?_, ?_, DeedsAt.nil, ⟨rfl, fun i a l e1 e2 => ?_⟩, n12, ?_, ?_⟩ h1 (q4 _ h2') (fun z hz => by rw [List.mem_singleton.mp hz]; exact q4 _ h3) fun b o e hb => ?_
    · rw [upd_ne n1.symm, upd_ne n12, upd_ne n13]
      exact q2
    · rw [upd_ne np2.symm, upd_same]
      rfl
    · cases i with
      | zero =>
        cases (Option.some.inj e1 : l3 = a)
        cases (Option.some.inj e2 : [] = l)
        rw [upd_ne np3.symm, upd_ne n32, upd_same]
        rfl
      | succ n => simp at e1
    · intro z hz
      rw [List.mem_singleton.mp hz]
      exact n13.symm
    · intro z hz
      rw [List.mem_singleton.mp hz]
      exact n32
    · have e1 := q3 b o e hb
      rw [upd_ne hb, upd_ne (ne_of_none e1 h2'), upd_ne (ne_of_none e1 h3)]
      exact e1
/-! ### has_desk -/
def spHas (C CD : Addr) : Sp := fun vs H Q _ => ∃ (a dx l1 l2 : Addr) (das kas : List Addr) (h : House) (k : Nat), vs = [.ref a, .int k] ∧ HouseAt C CD H a dx l1 l2 das kas h ∧ Q (.bl (decide (k < h.desks.length))) H
theorem scHas : FnScope ["self", "desk"] ["self", "desk"] (defScope sHas) := ⟨rfl, rfl, rfl, by decide +kernel, rfl, by decide +kernel, by decide +kernel⟩
theorem ok_has {f C CD : Addr} {fd : FuncData} (F : Fun K "has_desk" "House.has_desk" sHas f fd) (TH : TxH K C) (gl : mg "len" = none) : FnOk P w K mg base CX0 1 f fd ["self", "desk"] (spHas C CD) := by
  refine F.ok scHas (fun vs H Q E h => ?_) (fun cdv A outer s H vs Q E hr h => ?_)
  · obtain ⟨a, dx, l1, l2, das, kas, h, k, rfl, _⟩ := h
    rfl
  · obtain ⟨a, dx, l1, l2, das, kas, h, k, rfl, x, q⟩ := h
    refine ⟨_, pss_one (ps_ret (pe_cmpR op_lt (pv 1) (pe_callB call_len_seq (by rfl) gl PySem.boot_len (pa_cons (pe_fld (pv 0) rfl) pa_nil)) (nomark _))), ?_⟩
    refine ⟨_, rfl, _, rfl, a, C, dx, _, _, rfl, x.hi, TH.cl, TH.nK, hF_known _ _, l2, _, rfl, .inl (SqL.of x.hk), _, _, rfl, rfl, ?_⟩
    have e : decide (k < h.desks.length) = decide ((k : Int) < ((kas.map V.ref).length : Nat)) := by
      rw [List.length_map, x.ls.len]
      by_cases c : k < h.desks.length
      · rw [decide_eq_true c, decide_eq_true (by omega)]
      · rw [decide_eq_false c, decide_eq_false (by omega)]
    rw [e] at q
    exact q
/-- where a deed stands -/
def adr (das : List Addr) (d : Deed) : Addr := das.getD d.id 0
theorem HouseAt.deed {C CD : Addr} {H : Hp} {a dx l1 l2 : Addr} {das kas : List Addr} {h : House} (x : HouseAt C CD H a dx l1 l2 das kas h) (wf : My.WF h) {d : Deed} (hd : d ∈ h.all) : (das.map V.ref)[d.id]? = some (V.ref (adr das d)) ∧ DeedAt CD H (adr das d) d := by
  obtain ⟨b, h1, h2⟩ := x.ds.at_ (wf.at_id hd)
  have e : adr das d = b := by
    unfold adr
    rw [List.getD_eq_getElem?_getD, h1]
    rfl
  rw [e]
  refine ⟨?_, h2⟩
  rw [List.getElem?_map, h1]
  rfl
theorem idv_map (l : List Deed) : (My.idv l).map V.int = l.map fun d => V.int (d.id : Int) := by
  unfold My.idv
  rw [List.map_map]
  rfl
theorem foldl_max_mem : ∀ (l : List Deed) (m : Nat), l.foldl (fun (m : Nat) d => max m d.stamp.count) m = m ∨ ∃ d ∈ l, l.foldl (fun (m : Nat) d => max m d.stamp.count) m = d.stamp.count
  | [], m => .inl rfl
  | x :: l, m => by
    rw [List.foldl_cons]
    rcases foldl_max_mem l (max m x.stamp.count) with h | ⟨d, hd, h⟩
    · rw [h]
      by_cases c : m ≤ x.stamp.count
      · exact .inr ⟨x, List.mem_cons_self .., by omega⟩
      · exact .inl (by omega)
    · exact .inr ⟨d, List.mem_cons_of_mem _ hd, h⟩
/-! ### greatest_count -/
def spGreatest (C CD : Addr) : Sp := fun vs H Q _ => ∃ (a dx l1 l2 : Addr) (das kas : List Addr) (h : House) (k : Nat), vs = [.ref a, .int k] ∧ HouseAt C CD H a dx l1 l2 das kas h ∧ My.WF h ∧ k < h.desks.length ∧
  ∀ H' : Hp, Same H H' → Q (.int (((h.desk k).foldl (fun (m : Nat) d => max m d.stamp.count) 0 : Nat) : Int)) H'
theorem scGreatest : FnScope ["self", "desk", "number"] ["self", "desk"] (defScope sGreatest) := ⟨rfl, rfl, rfl, by decide +kernel, rfl, by decide +kernel, by decide +kernel⟩
theorem ok_greatest {f C CD : Addr} {fd : FuncData} (F : Fun K "greatest_count" "House.greatest_count" sGreatest f fd) (TH : TxH K C) (TD : TxD K CD) (gm : mg "max" = none) : FnOk P w K mg base CX0 1 f fd ["self", "desk"] (spGreatest C CD) := by
  refine F.ok scGreatest (fun vs H Q E h => ?_) (fun cdv A outer s H vs Q E hr h => ?_)
  · obtain ⟨a, dx, l1, l2, das, kas, h, k, rfl, _⟩ := h
    rfl
  · obtain ⟨a, dx, l1, l2, das, kas, h, k, rfl, x, wf, hk, q⟩ := h
    have hu1 : (A.deeper (envOfC "House.greatest_count" (defScope sGreatest) s.heap.objs.size f cdv)).units + 1 < cLine := by have := hr.un; omega
    refine ⟨_, pss_one (ps_ret (pe_callBK (cr_maxD rfl hu1) (by rfl) gm (by decide +kernel)
      (pa_cons (pe_lc (own := [("number", 2)]) (g := gName 2) (tt := tYes) (te := tOp (rIxT K) (tFld K (tOp (rIxL K) (tFld K (tVar 0) "done") (tVar 2)) "stamp") (tC (.int 0))) rfl scGreatest.nd (pi_list (pe_ix ix_list (pe_fld (pv 0) rfl) (pv 1) (fun _ _ => rfl)))
        (blkOk_by (own := [("number", 2)]) (N := ["self", "desk", "number"]) (sc := defScope sGreatest) (by decide +kernel)) (fun _ _ _ _ _ => pg_name (i := 2) scGreatest.nd rfl (Or.inl rfl)) (fun _ _ _ _ _ => pts_nil)
        (fun _ _ _ _ _ => pe_ix ix_tup (pe_fld (pe_ix ix_list (pe_fld (pv 0) rfl) (pv 2) (fun _ _ => rfl)) rfl) pe_int (fun _ _ => rfl))) pa_nil) (pk_cons pe_int pk_nil))), ?_⟩
    obtain ⟨ka, hka, hkl⟩ := x.ls.at_ hk
    refine ⟨_, rfl, a, C, dx, _, _, rfl, x.hi, TH.cl, TH.nK, hF_known _ _, _, rfl, l2, _, _, _, rfl, rfl, SqL.of x.hk, atI_nat (by rw [List.getElem?_map, hka]; rfl), ka, rfl, ⟨_, SqL.of hkl⟩, fun D hD => ?_⟩
    refine lc_pure (K := K) (us := h.desk k) (vi := fun d => V.int (d.id : Int)) (vo := fun d => V.int (d.stamp.count : Int)) (keep := fun _ => true) (by rw [← idv_map]; exact SqL.of hkl) hD ?_ ?_ ?_
    · have := wf.desk_len (My.desk_get hk)
      have := wf.len
      omega
    · intro d hd H' R1 R2 s5 r1 _
      have x5 := x.ext (Same.extN s5)
      obtain ⟨e1, dxx, tp, h1, h2⟩ := x5.deed wf (wf.sub hk d hd)
      exact ⟨rfl, _, rfl, a, C, dx, _, _, rfl, x5.hi, TH.cl, TH.nD, hF_done _ _, _, rfl, l1, _, _, _, rfl, rfl, SqL.of x5.hd, atI_nat e1, adr das d, CD, dxx, _, _, rfl, h1, TD.cl, TD.nS, dF_stamp _ _, tp, _, _, _, rfl, rfl, SqT.of h2, atI_nat (j := 0) rfl, r1 rfl⟩
    · intro H' s5 hD5
      have ef : ((h.desk k).filter fun _ => true) = h.desk k := List.filter_eq_self.mpr fun _ _ => rfl
      rw [ef] at hD5
      refine ⟨D, (h.desk k).map fun d => (d.stamp.count : Int), .int 0, rfl, rfl, SqL.of (by rw [hD5, List.map_map]; rfl), fun e => ?_, fun m hm hle => ?_⟩
      · have e' : h.desk k = [] := List.map_eq_nil_iff.mp e
        have := q H' s5
        rw [e'] at this
        exact this
      · obtain ⟨d, hd, ed⟩ := List.mem_map.mp hm
        have a1 := (My.foldl_max_le (h.desk k) 0).2 d hd
        have a2 : (((h.desk k).foldl (fun (m : Nat) d => max m d.stamp.count) 0 : Nat) : Int) = m := by
          rcases foldl_max_mem (h.desk k) 0 with e | ⟨d', hd', e⟩
          · omega
          · have := hle _ (List.mem_map.mpr ⟨d', hd', rfl⟩)
            omega
        have := q H' s5
        rw [a2] at this
        exact this
/-! ### tree_at -/
def spTreeAt (C CD : Addr) : Sp := fun vs H Q _ => ∃ (a dx l1 l2 : Addr) (das kas : List Addr) (h : House) (k : Nat), vs = [.ref a, .int k] ∧ HouseAt C CD H a dx l1 l2 das kas h ∧ My.WF h ∧ k < h.desks.length ∧
  ∀ (H' : Hp) (p : Addr) (kvs : List (Key × V)), Same H H' → H p = none → TreeAt H' p kvs (h.tree k) → Q (.ref p) H'
theorem scTreeAt : FnScope ["self", "desk", "number"] ["self", "desk"] (defScope sTreeAt) := ⟨rfl, rfl, rfl, by decide +kernel, rfl, by decide +kernel, by decide +kernel⟩
theorem ok_treeAt {f f1 C CD : Addr} {fd fd1 : FuncData} (F : Fun K "tree_at" "House.tree_at" sTreeAt f fd) (TH : TxH K C) (TD : TxD K CD) (G1 : FnOk P w K mg base CX0 4 f1 fd1 ["deeds"] (spTreeOf K CD)) (k1 : PySem.W.keepIn K (.ref f1) = true) (g1 : mg "tree_of" = some (.ref f1)) (b1 : Binds K fd1 ["deeds"] []) :
    FnOk P w K mg base CX0 5 f fd ["self", "desk"] (spTreeAt C CD) := by
  refine F.ok scTreeAt (fun vs H Q E h => ?_) (fun cdv A outer s H vs Q E hr h => ?_)
  · obtain ⟨a, dx, l1, l2, das, kas, h, k, rfl, _⟩ := h
    rfl
  · obtain ⟨a, dx, l1, l2, das, kas, h, k, rfl, x, wf, hk, q⟩ := h
    refine ⟨_, pss_one (ps_ret (pe_call G1 hr rfl g1 k1 b1 .nil pass0
      (pa_cons (pe_lc (own := [("number", 2)]) (g := gName 2) (tt := tYes) (te := tOp (rIxL K) (tFld K (tVar 0) "done") (tVar 2)) rfl scTreeAt.nd (pi_list (pe_ix ix_list (pe_fld (pv 0) rfl) (pv 1) (fun _ _ => rfl)))
        (blkOk_by (own := [("number", 2)]) (N := ["self", "desk", "number"]) (sc := defScope sTreeAt) (by decide +kernel)) (fun _ _ _ _ _ => pg_name (i := 2) scTreeAt.nd rfl (Or.inl rfl)) (fun _ _ _ _ _ => pts_nil)
        (fun _ _ _ _ _ => pe_ix ix_list (pe_fld (pv 0) rfl) (pv 2) (fun _ _ => rfl))) pa_nil))), ?_⟩
    obtain ⟨ka, hka, hkl⟩ := x.ls.at_ hk
    refine ⟨_, rfl, a, C, dx, _, _, rfl, x.hi, TH.cl, TH.nK, hF_known _ _, _, rfl, l2, _, _, _, rfl, rfl, SqL.of x.hk, atI_nat (by rw [List.getElem?_map, hka]; rfl), ka, rfl, ⟨_, SqL.of hkl⟩, fun D hD => ?_⟩
    refine lc_pure (K := K) (us := h.desk k) (vi := fun d => V.int (d.id : Int)) (vo := fun d => V.ref (adr das d)) (keep := fun _ => true) (by rw [← idv_map]; exact SqL.of hkl) hD ?_ ?_ ?_
    · have := wf.desk_len (My.desk_get hk)
      have := wf.len
      omega
    · intro d hd H' R1 R2 s5 r1 _
      have x5 := x.ext (Same.extN s5)
      obtain ⟨e1, _⟩ := x5.deed wf (wf.sub hk d hd)
      exact ⟨rfl, _, rfl, a, C, dx, _, _, rfl, x5.hi, TH.cl, TH.nD, hF_done _ _, _, rfl, l1, _, _, _, rfl, rfl, SqL.of x5.hd, atI_nat e1, r1 rfl⟩
    · intro H' s5 hD5
      have ef : ((h.desk k).filter fun _ => true) = h.desk k := List.filter_eq_self.mpr fun _ _ => rfl
      rw [ef] at hD5
      have x5 := x.ext (Same.extN s5)
      refine ⟨D, (h.desk k).map (adr das), h.desk k, rfl, SqL.of (by rw [hD5, List.map_map]; rfl), ⟨List.length_map _, fun i b d e1 e2 => ?_⟩, fun d hd => ?_, fun H2 p kvs s6 hp ht => q H2 p kvs (s5.trans s6) (s5.free hp) ht⟩
      · rw [List.getElem?_map, e2] at e1
        cases (Option.some.inj e1 : adr das d = b)
        exact (x5.deed wf (wf.sub hk d (List.mem_of_getElem? e2))).2
      · have := wf.rng d (wf.sub hk d hd)
        exact ⟨this.1, this.2.1⟩
end
end Pf
end
section
set_option Elab.async false
set_option linter.all false
set_option maxRecDepth 100000
set_option maxHeartbeats 2000000
namespace Pf
open PySem PySem.Spec PyProof.Rows L2 LamX SK
open Sq28 (Deed House)
section
variable {P : Program} {w : World} {K : PySem.W.Frag} {mg : Str → Option Value} {base : Heap}
/-! ### would_come -/
def spWouldCome (C CD : Addr) : Sp := fun vs H Q _ => ∃ (a dx l1 l2 : Addr) (das kas : List Addr) (h : House) (k y u : Nat), vs = [.ref a, .int k, .int y, .int u] ∧ HouseAt C CD H a dx l1 l2 das kas h ∧ My.WF h ∧ k < h.desks.length ∧
  ∀ d : Deed, d.thing = y → d.under = u → ∀ H' : Hp, Same H H' → Q (.int (Sq28.outcome (h.tree k) d)) H'
theorem scWouldCome : FnScope ["self", "desk", "thing", "under"] ["self", "desk", "thing", "under"] (defScope sWouldCome) := ⟨rfl, rfl, rfl, by decide +kernel, rfl, by decide +kernel, by decide +kernel⟩
theorem ok_wouldCome {f fT fC C CD : Addr} {fd fdT fdC : FuncData} (F : Fun K "would_come" "House.would_come" sWouldCome f fd) (TH : TxH K C)
    (GT : FnOk P w K mg base CX0 5 fT fdT ["self", "desk"] (spTreeAt C CD)) (mT : Meth K C "tree_at" fT) (bT : Binds K fdT ["self", "desk"] [])
    (GC : FnOk P w K mg base CX0 2 fC fdC ["tree", "thing", "under"] spComes) (kC : PySem.W.keepIn K (.ref fC) = true) (gC : mg "what_comes" = some (.ref fC)) (bC : Binds K fdC ["tree", "thing", "under"] []) :
    FnOk P w K mg base CX0 6 f fd ["self", "desk", "thing", "under"] (spWouldCome C CD) := by
  refine F.ok scWouldCome (fun vs H Q E h => ?_) (fun cdv A outer s H vs Q E hr h => ?_)
  · obtain ⟨a, dx, l1, l2, das, kas, h, k, y, u, rfl, _⟩ := h
    rfl
  · obtain ⟨a, dx, l1, l2, das, kas, h, k, y, u, rfl, x, wf, hk, q⟩ := h
    have hr2 : Room 2 _ := hr.mono (by decide)
    refine ⟨_, pss_one (ps_ret (pe_call GC hr2 rfl gC kC bC .nil pass0 (pa_cons (pe_meth (pv 0) TH.cl mT GT hr bT .nil pass0 (pa_cons (pv 1) pa_nil)) (pa_cons (pv 2) (pa_cons (pv 3) pa_nil))))), ?_⟩
    refine ⟨_, rfl, a, dx, _, rfl, x.hi, hF_no _ _ (by decide +kernel) (by decide +kernel), _, rfl, a, dx, l1, l2, das, kas, h, k, rfl, x, wf, hk, fun Ht pt kvs st hpt ht => ?_⟩
    exact ⟨_, rfl, _, rfl, pt, kvs, h.tree k, y, u, rfl, ht, wf.tr hk, fun d e1 e2 H' s' => q d e1 e2 H' (st.trans s')⟩
/-! ### deeds_and_what_comes -/
/-- a pair of a deed's number and what comes of it -/
def PairAt (H : Hp) (T : Addr) (e : Deed × Nat) : Prop := H T = some (.tup [.int (e.1.id : Int), .int (e.2 : Int)])
theorem PairAt.ext {H H' : Hp} {a : Addr} {r : Deed × Nat} (e : ExtN H H') (h : PairAt H a r) : PairAt H' a r := e _ _ h (fun ps z => by cases z)
def spDawc (C CD : Addr) : Sp := fun vs H Q _ => ∃ (a dx l1 l2 : Addr) (das kas : List Addr) (h : House) (k : Nat), vs = [.ref a, .int k] ∧ HouseAt C CD H a dx l1 l2 das kas h ∧ My.WF h ∧ k < h.desks.length ∧
  ∀ (H' : Hp) (r : Addr) (Ts : List Addr), Same H H' → H r = none → H' r = some (.lst (Ts.map V.ref)) → EachAt (PairAt H') Ts (Sq28.outcomes [] (h.desk k)) → Q (.ref r) H'
theorem scDawc : FnScope ["self", "desk", "known", "each", "number"] ["self", "desk"] (defScope sDawc) := ⟨rfl, rfl, rfl, by decide +kernel, rfl, by decide +kernel, by decide +kernel⟩
theorem ok_dawc {f f1 C CD : Addr} {fd fd1 : FuncData} (F : Fun K "deeds_and_what_comes" "House.deeds_and_what_comes" sDawc f fd) (TH : TxH K C) (TD : TxD K CD) (gl : mg "list" = none) (gz : mg "zip" = none)
    (G1 : FnOk P w K mg base CX0 4 f1 fd1 ["deeds"] (spEach K CD)) (k1 : PySem.W.keepIn K (.ref f1) = true) (g1 : mg "what_comes_of_each" = some (.ref f1)) (b1 : Binds K fd1 ["deeds"] []) :
    FnOk P w K mg base CX0 5 f fd ["self", "desk"] (spDawc C CD) := by
  refine F.ok scDawc (fun vs H Q E h => ?_) (fun cdv A outer s H vs Q E hr h => ?_)
  · obtain ⟨a, dx, l1, l2, das, kas, h, k, rfl, _⟩ := h
    rfl
  · obtain ⟨a, dx, l1, l2, das, kas, h, k, rfl, x, wf, hk, q⟩ := h
    refine ⟨_, pss_cons (ps_set (i := 2) scDawc.nd rfl (Or.inl rfl) (pe_ix ix_list (pe_fld (pv 0) rfl) (pv 1) (fun _ _ => rfl)))
      (pss_cons (ps_set (i := 3) scDawc.nd rfl (Or.inl rfl) (pe_call G1 hr rfl g1 k1 b1 .nil pass0
        (pa_cons (pe_lc (own := [("number", 4)]) (g := gName 4) (tt := tYes) (te := tOp (rIxL K) (tFld K (tVar 0) "done") (tVar 4)) rfl scDawc.nd (pi_list (pv 2))
          (blkOk_by (own := [("number", 4)]) (N := ["self", "desk", "known", "each", "number"]) (sc := defScope sDawc) (by decide +kernel)) (fun _ _ _ _ _ => pg_name (i := 4) scDawc.nd rfl (Or.inl rfl)) (fun _ _ _ _ _ => pts_nil)
          (fun _ _ _ _ _ => pe_ix ix_list (pe_fld (pv 0) rfl) (pv 4) (fun _ _ => rfl))) pa_nil)))
      (pss_one (ps_ret (pe_listZip rfl (by rfl) gl (by rfl) gz (pa_cons (pv 2) (pa_cons (pv 3) pa_nil)))))), ?_⟩
    obtain ⟨ka, hka, hkl⟩ := x.ls.at_ hk
    have hlen : (h.desk k).length ≤ 100 := Nat.le_trans (wf.desk_len (My.desk_get hk)) wf.len
    refine ⟨_, rfl, a, C, dx, _, _, rfl, x.hi, TH.cl, TH.nK, hF_known _ _, _, rfl, l2, _, _, _, rfl, rfl, SqL.of x.hk, atI_nat (by rw [List.getElem?_map, hka]; rfl), ?_⟩
    refine ⟨_, rfl, ka, rfl, ⟨_, SqL.of hkl⟩, fun D hD => ?_⟩
    refine lc_pure (K := K) (us := h.desk k) (vi := fun d => V.int (d.id : Int)) (vo := fun d => V.ref (adr das d)) (keep := fun _ => true) (by rw [← idv_map]; exact SqL.of hkl) hD (by omega) ?_ ?_
    · intro d hd H' R1 R2 s5 r1 _
      have x5 := x.ext (Same.extN s5)
      obtain ⟨e1, _⟩ := x5.deed wf (wf.sub hk d hd)
      exact ⟨rfl, _, rfl, a, C, dx, _, _, rfl, x5.hi, TH.cl, TH.nD, hF_done _ _, _, rfl, l1, _, _, _, rfl, rfl, SqL.of x5.hd, atI_nat e1, r1 rfl⟩
    · intro H' s5 hD5
      have ef : ((h.desk k).filter fun _ => true) = h.desk k := List.filter_eq_self.mpr fun _ _ => rfl
      rw [ef] at hD5
      have x5 := x.ext (Same.extN s5)
      refine ⟨D, (h.desk k).map (adr das), h.desk k, rfl, SqL.of (by rw [hD5, List.map_map]; rfl), ⟨List.length_map _, fun i b d e1 e2 => ?_⟩, fun d hd => ?_, hlen, fun H6 r s6 hr0 hr6 => ?_⟩
      · rw [List.getElem?_map, e2] at e1
        cases (Option.some.inj e1 : adr das d = b)
        exact (x5.deed wf (wf.sub hk d (List.mem_of_getElem? e2))).2
      · have := wf.rng d (wf.sub hk d hd)
        exact ⟨this.1, this.2.1⟩
      · have s06 : Same H H6 := s5.trans s6
        refine ⟨_, rfl, _, rfl, ka, r, _, _, rfl, SqL.of (s06 _ _ hkl), SqL.of hr6, fun H7 l Ts s7 hl7 hT7 hlen7 hz => ?_⟩
        have el1 : ((My.idv (h.desk k)).map V.int).length = (h.desk k).length := by rw [idv_map, List.length_map]
        have el2 : (thV ((Sq28.outcomes [] (h.desk k)).map (·.2))).length = (h.desk k).length := by rw [thV_len, List.length_map, My.outcomes_len]
        rw [el1, el2, Nat.min_self] at hlen7
        refine q H7 l Ts (s06.trans s7) (s06.free hl7) hT7 ⟨by rw [hlen7, My.outcomes_len], fun i T e h1 h2 => ?_⟩
        refine hz i T _ _ h1 ?_ ?_
        · rw [idv_map, ← My.outcomes_fst (h.desk k) [], List.map_map, List.getElem?_map, h2]
          rfl
        · unfold thV
          rw [List.map_map, List.getElem?_map, h2]
          rfl
end
end Pf
end
section
set_option Elab.async false
set_option linter.all false
set_option maxRecDepth 100000
set_option maxHeartbeats 2000000
namespace Pf
open PySem PySem.Spec PyProof.Rows L2 LamX NdefX SK
open Sq28 (Deed House)
abbrev sBy : Stmt := inClass (topS 35) 16
/-- the table of by_stamps's code object, and what its lambda is called -/
def TT (Pt : Addr) : List (Addr × Str) := [(Pt, (envOfC "House.by_stamps" (defScope sBy) 0 0 .none).qual ++ "<lambda>")]
/-- new, but for tables -/
def FreshN (H : Hp) (p : Addr) : Prop := ∀ b o, H b = some o → (∀ ps, o ≠ .tbl ps) → b ≠ p
section
variable {P : Program} {w : World} {K : PySem.W.Frag} {mg : Str → Option Value} {base : Heap}
/-! ### by_stamps -/
def spBy (K : PySem.W.Frag) (T : List (Addr × Str)) (C CD : Addr) : Sp := fun vs H Q _ => ∃ (a dx l1 l2 n : Addr) (das kas : List Addr) (h : House) (l m : List Deed), vs = [.ref a, .ref n] ∧ HouseAt C CD H a dx l1 l2 das kas h ∧ My.WF h ∧ Tabs T H ∧
  SqL K H n ((My.idv l).map V.int) ∧ (∀ d ∈ l, d ∈ h.all) ∧ l.Perm m ∧ My.SrtD m ∧
  ∀ (H' : Hp) (p : Addr), ExtN H H' → Tabs T H' → FreshN H p → H' p = some (.lst ((My.idv m).map V.int)) → Q (.ref p) H'
theorem scBy : FnScope ["self", "numbers"] ["self", "numbers"] (defScope sBy) := ⟨rfl, rfl, rfl, by decide +kernel, rfl, by decide +kernel, by decide +kernel⟩
theorem ok_by {f C CD c Pt : Addr} {oc kV doc pm ct : Value} {od an : Option Addr} {osl : Array (Option Value)} (lk : K.lookup f = some ⟨oc, od, .func (PySem.W.fnOf "by_stamps" "House.by_stamps" (defArgs sBy) (defBody sBy) (defScope sBy) .none kV doc pm an (.ref c) ct), osl⟩)
    (hcd : PySem.W.codeIn K (.ref c) "House.by_stamps" = true) (TB : TabB base mg c Pt) (TH : TxH K C) (TD : TxD K CD) (gs : mg "sorted" = none) :
    FnOk P w K mg base CX0 4 f (PySem.W.fnOf "by_stamps" "House.by_stamps" (defArgs sBy) (defBody sBy) (defScope sBy) .none kV doc pm an (.ref c) ct) ["self", "numbers"] (spBy K (TT Pt) C CD) := by
  refine fn_of lk hcd scBy (fun vs H Q E h => ?_) fun A outer s H vs Q E hr h => ?_
  · obtain ⟨a, dx, l1, l2, n, das, kas, h, l, m, rfl, _⟩ := h
    rfl
  · obtain ⟨a, dx, l1, l2, n, das, kas, h, l, m, rfl, x, wf, tb, hS, hl, hp, hm, q⟩ := h
    refine ⟨_, pss_one (ps_ret (pe_sortedLam (T := TT Pt) (k := 0) (x := "number") (N := ["number", "self"]) (fr := ["self"]) (js := [0]) (tb := tFld K (tOp (rIxL K) (tFld K (tVar 1) "done") (tVar 0)) "stamp") (by rfl) gs (pa_cons (pv 1) pa_nil) TB rfl (List.mem_singleton.mpr rfl)
      (fun p hp _ => by rw [List.mem_singleton.mp hp]; rfl) (nscope_by (by decide +kernel)) (show ndefB (defScope sBy) _ _ = true by decide +kernel) rfl rfl (fun _ _ _ _ _ u => rfl) hr
      (fun A s H f c' hr' => pe_fld (pe_ix ix_list (pe_fld (pv 1) rfl) (pv 0) (fun _ _ => rfl)) rfl))), ?_⟩
    refine ⟨_, rfl, tb, n, My.idv l, rfl, fun H2 eN T2 => ?_⟩
    have x2 := x.ext eN
    have hall : ∀ i : Int, ∃ z : Addr × (Int × Int), i ∈ My.idv l → ∃ d dxx, d ∈ h.all ∧ i = (d.id : Int) ∧ H2 (adr das d) = some (.ins CD dxx (dF z.1 d)) ∧ H2 z.1 = some (.tup [.int z.2.1, .int z.2.2]) ∧ z.2 = ((d.stamp.count : Int), (d.stamp.hand : Int)) := fun i => by
      by_cases hi : i ∈ My.idv l
      · obtain ⟨d, hd, e⟩ := List.mem_map.mp hi
        obtain ⟨_, dxx, t, h1, h2⟩ := x2.deed wf (hl d hd)
        exact ⟨(t, ((d.stamp.count : Int), (d.stamp.hand : Int))), fun _ => ⟨d, dxx, hl d hd, e.symm, h1, h2, rfl⟩⟩
      · exact ⟨(0, (0, 0)), fun z => absurd z hi⟩
    obtain ⟨z, hz⟩ := Classical.skolem.mp hall
    refine ⟨fun i => (z i).1, fun i => (z i).2, sqL_extN eN hS, fun i hi => ?_, fun ns' p h1 h2 h3 => ?_⟩
    · obtain ⟨d, dxx, hd, rfl, e1, e2, e3⟩ := hz i hi
      obtain ⟨e4, _⟩ := x2.deed wf hd
      exact ⟨⟨_, rfl, a, C, dx, _, _, rfl, x2.hi, TH.cl, TH.nD, hF_done _ _, _, rfl, l1, _, _, _, rfl, rfl, SqL.of x2.hd, atI_nat e4, adr das d, CD, dxx, _, _, rfl, e1, TD.cl, TD.nS, dF_stamp _ _, rfl, rfl⟩, e2⟩
    · have eo : ns' = My.idv m := My.ids_sorted wf hl hp hm h1 (by
        refine (List.Pairwise.and_mem.mp h2).imp fun {i j} ⟨hi, hj, hk⟩ d e hd he => ?_
        obtain ⟨d', _, hd', ei, _, _, e3⟩ := hz i (h1.mem_iff.mp hi)
        obtain ⟨e', _, he', ej, _, _, e5⟩ := hz j (h1.mem_iff.mp hj)
        have ed : d = d' := by
          rw [ei] at hd
          have := wf.at_id hd'
          simp only [Int.toNat_natCast] at hd
          rw [this] at hd
          exact (Option.some.inj hd).symm
        have ee : e = e' := by
          rw [ej] at he
          have := wf.at_id he'
          simp only [Int.toNat_natCast] at he
          rw [this] at he
          exact (Option.some.inj he).symm
        have hk : SrtO.lexB (z j).2 (z i).2 = false := hk
        rw [e3, e5, SrtO.lexB_no] at hk
        rw [My.before_iff, ed, ee]
        intro c
        apply hk
        simp only
        omega)
      subst eo
      refine q _ p (fun b o e nt => ?_) (T2.ext (same_upd h3)) ?_ upd_same
      · have e2 := eN b o e nt
        rw [upd_ne (ne_of_none e2 h3)]
        exact e2
      · exact fun b o e nt => ne_of_none (eN b o e nt) h3
end
end Pf
end
section
set_option Elab.async false
set_option linter.all false
set_option maxRecDepth 100000
set_option maxHeartbeats 2000000
namespace Pf
open PySem PySem.Spec PyProof.Rows L2 LamX SK
open Sq28 (Deed House)
abbrev sBegin : Stmt := inClass (topS 35) 1
/-- an answer as numbers -/
def ans (o : Sq28.Out) : List Int := o.value :: o.out
/-- what follows a call: the house then, the answer a list at p -/
def After (T : List (Addr × Str)) (C CD : Addr) (H0 : Hp) (a : Addr) (r : House × Sq28.Out) (Q : VK) : Prop :=
  ∀ (H' : Hp) (dx l1 l2 : Addr) (das kas : List Addr) (p : Addr), HS T C CD H0 H' a dx l1 l2 das kas r.1 → H' p = some (.lst ((ans r.2).map V.int)) → H0 p = none → Q (.ref p) H'
structure TxN (K : PySem.W.Frag) (mg : Str → Option Value) : Prop where
  DESKS : ∃ t, mg "MOST_DESKS" = some (.int 8 t)
  DEEDS : ∃ t, mg "MOST_DEEDS" = some (.int 100 t)
  LABEL : ∃ t, mg "GREATEST_LABEL" = some (.int 1000000000 t)
  OUT : ∃ t, mg "OUT_OF_RANGE" = some (.int (-1) t)
  SUCH : ∃ t, mg "NO_SUCH" = some (.int (-2) t)
  MORE : ∃ t, mg "NO_MORE_DEEDS" = some (.int (-5) t)
  LAST : ∃ t, mg "LAST_THING" = some (.int 63 t)
/-- a refusal: all is as it was, a new list of one number -/
theorem After.says {T : List (Addr × Str)} {C CD : Addr} {H0 H : Hp} {a dx l1 l2 : Addr} {das kas : List Addr} {h : House} {r : House × Sq28.Out} {Q : VK} (x : HS T C CD H0 H a dx l1 l2 das kas h) (q : After T C CD H0 a r Q) {z : Int} (e : r = (h, Sq28.says z)) {p : Addr} (hp : H p = none) : Q (.ref p) (upd H p (.lst [.int z])) := by
  subst e
  exact q _ dx l1 l2 das kas p (x.grow (same_upd hp)) upd_same (x.same.free hp)
section
variable {P : Program} {w : World} {K : PySem.W.Frag} {mg : Str → Option Value} {base : Heap}
/-! ### begin -/
def spBegin (T : List (Addr × Str)) (C CD : Addr) : Sp := fun vs H Q _ => ∃ (H0 : Hp) (a dx l1 l2 : Addr) (das kas : List Addr) (h : House) (n : Nat), vs = [.ref a, .int n] ∧ HS T C CD H0 H a dx l1 l2 das kas h ∧ After T C CD H0 a (h.step (.begin_ n)) Q
theorem scBegin : FnScope ["self", "desks", "desk"] ["self", "desks"] (defScope sBegin) := ⟨rfl, rfl, rfl, by decide +kernel, rfl, by decide +kernel, by decide +kernel⟩
theorem ok_begin {f C CD : Addr} {fd : FuncData} {T : List (Addr × Str)} (F : Fun K "begin" "House.begin" sBegin f fd) (TH : TxH K C) (TN : TxN K mg) (gr : mg "range" = none) : FnOk P w K mg base CX0 1 f fd ["self", "desks"] (spBegin T C CD) := by
  refine F.ok scBegin (fun vs H Q E h => ?_) (fun cdv A outer s H vs Q E hr h => ?_)
  · obtain ⟨H0, a, dx, l1, l2, das, kas, h, n, rfl, _⟩ := h
    rfl
  · obtain ⟨H0, a, dx, l1, l2, das, kas, h, n, rfl, x, q⟩ := h
    obtain ⟨t1, h1⟩ := TN.DESKS
    obtain ⟨t2, h2⟩ := TN.OUT
    refine ⟨_, pss_cons (ps_if (PW.pt (pw_or (pt_cmpR op_lt (pv 1) pe_int (nomark _)) (pw_or1 (pt_cmpR op_gt (pv 1) (pe_num rfl h1) (nomark _))))) (pss_one (ps_ret (pe_lst (pa_cons (pe_num rfl h2) pa_nil)))) pss_nil)
      (pss_cons (ps_fld (pv 0) (pe_lst pa_nil) rfl)
      (pss_cons (ps_fld (pv 0) (pe_lc (own := [("desk", 2)]) (g := gName 2) (tt := tYes) rfl scBegin.nd (pi_range1 (by rfl) gr (pa_cons (pv 1) pa_nil)) (blkOk_by (own := [("desk", 2)]) (N := ["self", "desks", "desk"]) (sc := defScope sBegin) (by decide +kernel))
        (fun _ _ _ _ _ => pg_name (i := 2) scBegin.nd rfl (Or.inl rfl)) (fun _ _ _ _ _ => pts_nil) (fun _ _ _ _ _ => pe_lst pa_nil)) rfl)
      (pss_one (ps_ret (pe_lst (pa_cons pe_int pa_nil)))))), ?_⟩
    have bad : n = 0 ∨ 8 < n → h.step (.begin_ n) = (h, Sq28.says (-1)) := fun c => if_pos c
    have good : ¬ (n = 0 ∨ 8 < n) → h.step (.begin_ n) = (⟨[], List.replicate n []⟩, Sq28.says 0) := fun c => if_neg c
    refine ⟨_, rfl, _, _, rfl, rfl, _, rfl, ?_⟩
    by_cases c1 : n = 0
    · have e1 : decide ((n : Int) < 1) = true := decide_eq_true (by omega)
      rw [e1]
      refine iteT ?_
      refine iteT ?_
      exact ⟨(by show 1 ≤ sizeLine; decide), fun p hp => After.says x q (bad (.inl c1)) hp⟩
    · have e1 : decide ((n : Int) < 1) = false := decide_eq_false (by omega)
      rw [e1]
      refine iteF ?_
      refine ⟨_, rfl, _, _, rfl, rfl, _, rfl, ?_⟩
      by_cases c2 : 8 < n
      · have e2 : decide ((8 : Int) < n) = true := decide_eq_true (by omega)
        rw [e2]
        refine iteT ?_
        exact ⟨(by show 1 ≤ sizeLine; decide), fun p hp => After.says x q (bad (.inr c2)) hp⟩
      · have e2 : decide ((8 : Int) < n) = false := decide_eq_false (by omega)
        rw [e2]
        refine iteF ?_
        have ia := x.at_.hi
        refine ⟨Nat.zero_le _, fun m1 hm1 => ?_⟩
        have na1 : a ≠ m1 := ne_of_none ia hm1
        refine ⟨_, rfl, a, C, dx, _, rfl, (by rw [upd_ne na1]; exact ia), TH.cl, TH.nD, (by show 2 < 1000; decide), ?_⟩
        have p1 : upd (upd H m1 (.lst [])) a (.ins C dx (putF "done" (.ref m1) (hF l1 l2))) a = some (.ins C dx (hF m1 l2)) := by rw [upd_same, hF_pd]
        have p2 : upd (upd H m1 (.lst [])) a (.ins C dx (putF "done" (.ref m1) (hF l1 l2))) m1 = some (.lst []) := by rw [upd_ne na1.symm, upd_same]
        have p3 : ∀ b o, H b = some o → b ≠ a → upd (upd H m1 (.lst [])) a (.ins C dx (putF "done" (.ref m1) (hF l1 l2))) b = some o := fun b o e hb => by rw [upd_ne hb, upd_ne (ne_of_none e hm1)]; exact e
        have p4 : ∀ b, upd (upd H m1 (.lst [])) a (.ins C dx (putF "done" (.ref m1) (hF l1 l2))) b = none → H b = none := fun b e => by
          have e1 : b ≠ a := fun z => by rw [z, upd_same] at e; cases e
          rw [upd_ne e1] at e
          have e2 : b ≠ m1 := fun z => by rw [z, upd_same] at e; cases e
          rw [upd_ne e2] at e
          exact e
        generalize upd (upd H m1 (.lst [])) a (.ins C dx (putF "done" (.ref m1) (hF l1 l2))) = H1 at p1 p2 p3 p4
        refine ⟨_, rfl, (n : Int), rfl, by omega, by omega, fun D hD => ?_⟩
        rw [Int.toNat_natCast]
        refine lc_range (lo := 0) (n := n) (fun i H' => Same H1 H' ∧ ∃ ks : List Addr, H' D = some (.lst (ks.map V.ref)) ∧ ks.length = i ∧ ∀ k ∈ ks, H' k = some (.lst []) ∧ H1 k = none ∧ k ≠ D)
          ⟨same_upd hD, [], upd_same, rfl, fun k hk => by cases hk⟩ ?_ ?_
        · rintro i H' hi ⟨s5, ks, hD5, hl, hks⟩
          refine ⟨rfl, Nat.zero_le _, fun b hb => ?_⟩
          have nDb : D ≠ b := ne_of_none hD5 hb
          refine ⟨ks.map V.ref, by rw [upd_ne nDb]; exact hD5, ?_, fun b' o e => ?_, ks ++ [b], ?_, ?_, fun k hk => ?_⟩
          · rw [List.length_map, hl]
            exact Nat.lt_of_le_of_lt (show i ≤ 8 by omega) (by decide)
          · rw [upd_ne (ne_of_none e hD), upd_ne (ne_of_none (s5 _ _ e) hb)]
            exact s5 _ _ e
          · rw [upd_same, List.map_append]
            rfl
          · rw [List.length_append, hl]
            rfl
          · rcases List.mem_append.mp hk with hk | hk
            · obtain ⟨a1, a2, a3⟩ := hks k hk
              exact ⟨by rw [upd_ne a3, upd_ne (ne_of_none a1 hb)]; exact a1, a2, a3⟩
            · rw [List.mem_singleton.mp hk]
              exact ⟨by rw [upd_ne nDb.symm, upd_same], s5.free hb, nDb.symm⟩
        · rintro H' ⟨s5, ks, hD5, hl, hks⟩
          have h5a := s5 _ _ p1
          have naD : a ≠ D := ne_of_none p1 hD
          have n1D : m1 ≠ D := ne_of_none p2 hD
          refine ⟨_, rfl, a, C, dx, _, rfl, h5a, TH.cl, TH.nK, (by show 2 < 1000; decide), (by show 1 ≤ sizeLine; decide), fun p hp => ?_⟩
          rw [good (by omega)] at q
          have hp' : H' p = none := by
            have e1 : p ≠ a := fun z => by rw [z, upd_same] at hp; cases hp
            rw [upd_ne e1] at hp
            exact hp
          have s6 := same_upd (o := .lst [.int 0]) hp
          refine q _ dx m1 D [] ks p ((show HS T C CD H0 (upd H' a (.ins C dx (putF "known" (.ref D) (hF m1 l2)))) a dx m1 D [] ks ⟨[], List.replicate n []⟩ from ⟨⟨by rw [upd_same, hF_pk], ?_, ?_, DeedsAt.nil, ⟨by rw [hl, List.length_replicate], fun i k l e1 e2 => ?_⟩, n1D, fun k hk => ?_, fun k hk => (hks k hk).2.2⟩, fun b o e => ?_, x.na, x.same.free hm1, x.same.free (p4 _ hD), fun k hk => x.same.free (p4 _ (hks k hk).2.1), ?_, x.nt, My.wf_begin (by omega) (by omega)⟩).grow s6) upd_same (x.same.free (p4 _ (s5.free hp')))
          · rw [upd_ne na1.symm]
            exact s5 _ _ p2
          · rw [upd_ne naD.symm]
            exact hD5
          · have e3 := List.mem_of_getElem? e2
            rw [(List.mem_replicate.mp e3).2]
            obtain ⟨b1, b2, _⟩ := hks k (List.mem_of_getElem? e1)
            rw [upd_ne (ne_of b1 h5a (by intro z; cases z))]
            exact b1
          · exact fun z => by
              have := (hks k hk).2.1
              rw [z, p2] at this
              cases this
          · have e1 : b ≠ a := fun z => by rw [z, x.na] at e; cases e
            rw [upd_ne e1]
            exact s5 _ _ (p3 b o (x.same _ _ e) e1)
          · intro t ht
            obtain ⟨ps, hps, rest⟩ := x.tabs t ht
            have keep : ∀ b o, H b = some o → b ≠ a → upd H' a (.ins C dx (putF "known" (.ref D) (hF m1 l2))) b = some o := fun b o e hb => by rw [upd_ne hb]; exact s5 _ _ (p3 b o e hb)
            refine ⟨ps, keep _ _ hps (ne_of hps ia (by intro z; cases z)), rest.1, fun pos cv hc => ?_⟩
            obtain ⟨c0, e1, e2⟩ := rest.2 pos cv hc
            exact ⟨c0, e1, keep _ _ e2 (ne_of e2 ia (by intro z; cases z))⟩
end
end Pf
end
section
set_option Elab.async false
set_option linter.all false
set_option maxRecDepth 100000
set_option maxHeartbeats 2000000
namespace Pf
open PySem PySem.Spec PyProof.Rows L2 LamX SK
open Sq28 (Deed House)
abbrev sMove : Stmt := inClass (topS 35) 2
/-! ### a list written -/
theorem DeedsAt.list {CD : Addr} {H : Hp} {das : List Addr} {l : List Deed} {b : Addr} {xs : List V} {o : HO} (h : DeedsAt CD H das l) (hb : H b = some (.lst xs)) : DeedsAt CD (upd H b o) das l := by
  refine ⟨h.len, fun i a d h1 h2 => ?_⟩
  obtain ⟨dx, t, e1, e2⟩ := h.each i a d h1 h2
  exact ⟨dx, t, by rw [upd_ne (ne_of e1 hb (by intro z; cases z))]; exact e1, by rw [upd_ne (ne_of e2 hb (by intro z; cases z))]; exact e2⟩
theorem ListsAt.list {H : Hp} {kas : List Addr} {desks : List (List Deed)} {b : Addr} {o : HO} (h : ListsAt H kas desks) (hb : ∀ k ∈ kas, k ≠ b) : ListsAt (upd H b o) kas desks :=
  ⟨h.len, fun i a l h1 h2 => by rw [upd_ne (hb a (List.mem_of_getElem? h1))]; exact h.each i a l h1 h2⟩
theorem tabs_list {T : List (Addr × Str)} {H : Hp} {b : Addr} {xs : List V} {o : HO} (t : Tabs T H) (hb : H b = some (.lst xs)) : Tabs T (upd H b o) := by
  intro q hq
  obtain ⟨ps, h1, h2, h3⟩ := t q hq
  refine ⟨ps, by rw [upd_ne (ne_of h1 hb (by intro z; cases z))]; exact h1, h2, fun pos cv hc => ?_⟩
  obtain ⟨c0, e1, e2⟩ := h3 pos cv hc
  exact ⟨c0, e1, by rw [upd_ne (ne_of e2 hb (by intro z; cases z))]; exact e2⟩
/-- done.append(..) -/
theorem HouseAt.push {C CD : Addr} {H : Hp} {a dx l1 l2 da : Addr} {das kas : List Addr} {h : House} {d : Deed} (x : HouseAt C CD H a dx l1 l2 das kas h) (hd : DeedAt CD H da d) :
    HouseAt C CD (upd H l1 (.lst (das.map V.ref ++ [.ref da]))) a dx l1 l2 (das ++ [da]) kas ⟨h.all ++ [d], h.desks⟩ := by
  refine ⟨by rw [upd_ne (ne_of x.hi x.hd (by intro z; cases z))]; exact x.hi, by rw [upd_same, List.map_append]; rfl, by rw [upd_ne x.ne.symm]; exact x.hk, ?_, x.ls.list x.ne1, x.ne, x.ne1, x.ne2⟩
  refine (x.ds.list x.hd).snoc ?_
  obtain ⟨dxx, t, e1, e2⟩ := hd
  exact ⟨dxx, t, by rw [upd_ne (ne_of e1 x.hd (by intro z; cases z))]; exact e1, by rw [upd_ne (ne_of e2 x.hd (by intro z; cases z))]; exact e2⟩
/-- known[k] = n -/
theorem HouseAt.known {C CD : Addr} {H : Hp} {a dx l1 l2 n : Addr} {das kas : List Addr} {h : House} {k : Nat} {m : List Deed} (x : HouseAt C CD H a dx l1 l2 das kas h) (hn : H n = some (.lst ((My.idv m).map V.int))) (n1 : n ≠ l1) (n2 : n ≠ l2) :
    HouseAt C CD (upd H l2 (.lst ((kas.map V.ref).set k (.ref n)))) a dx l1 l2 das (kas.set k n) (h.set k m) := by
  have hmem : ∀ z ∈ kas.set k n, z = n ∨ z ∈ kas := fun z hz => by
    obtain ⟨i, hi⟩ := List.mem_iff_getElem?.mp hz
    rcases My.set_get hi with ⟨_, e⟩ | ⟨_, e⟩
    · exact .inl e
    · exact .inr (List.mem_of_getElem? e)
  refine ⟨by rw [upd_ne (ne_of x.hi x.hk (by intro z; cases z))]; exact x.hi, by rw [upd_ne x.ne]; exact x.hd, by rw [upd_same, List.map_set], x.ds.list x.hk, (x.ls.list x.ne2).set (by rw [upd_ne n2]; exact hn), x.ne, fun z hz => ?_, fun z hz => ?_⟩
  · rcases hmem z hz with e | e
    · rw [e]; exact n1
    · exact x.ne1 z e
  · rcases hmem z hz with e | e
    · rw [e]; exact n2
    · exact x.ne2 z e
section
variable {P : Program} {w : World} {K : PySem.W.Frag} {mg : Str → Option Value} {base : Heap}
/-! ### move -/
def spMove (T : List (Addr × Str)) (C CD : Addr) : Sp := fun vs H Q _ => ∃ (H0 : Hp) (a dx l1 l2 : Addr) (das kas : List Addr) (h : House) (k x u v : Nat), vs = [.ref a, .int k, .int x, .int u, .int v] ∧ HS T C CD H0 H a dx l1 l2 das kas h ∧ After T C CD H0 a (h.step (.move k x u v)) Q
theorem scMove : FnScope ["self", "desk", "thing", "under", "label", "number", "count", "comes"] ["self", "desk", "thing", "under", "label"] (defScope sMove) := ⟨rfl, rfl, rfl, by decide +kernel, rfl, by decide +kernel, by decide +kernel⟩
theorem ok_move {f fH fM fG fW fD C CD : Addr} {fd fdH fdM fdG fdW fdD : FuncData} {T : List (Addr × Str)} (F : Fun K "move" "House.move" sMove f fd) (TH : TxH K C) (TD : TxD K CD) (TN : TxN K mg) (gl : mg "len" = none)
    (GH : FnOk P w K mg base CX0 1 fH fdH ["self", "desk"] (spHas C CD)) (mH : Meth K C "has_desk" fH) (bH : Binds K fdH ["self", "desk"] [])
    (GM : FnOk P w K mg base CX0 1 fM fdM ["thing", "under"] spMay) (kM : PySem.W.keepIn K (.ref fM) = true) (gM : mg "may_put" = some (.ref fM)) (bM : Binds K fdM ["thing", "under"] [])
    (GG : FnOk P w K mg base CX0 1 fG fdG ["self", "desk"] (spGreatest C CD)) (mG : Meth K C "greatest_count" fG) (bG : Binds K fdG ["self", "desk"] [])
    (GW : FnOk P w K mg base CX0 6 fW fdW ["self", "desk", "thing", "under"] (spWouldCome C CD)) (mW : Meth K C "would_come" fW) (bW : Binds K fdW ["self", "desk", "thing", "under"] [])
    (GD : FnOk P w K mg base CX0 1 fD fdD ["self", "stamp", "thing", "under", "label"] (spDeedInit CD)) (MD : Mk K CD fD) (gD : mg "Deed" = some (.ref CD)) (bD : Binds K fdD ["self", "stamp", "thing", "under", "label"] []) :
    FnOk P w K mg base CX0 7 f fd ["self", "desk", "thing", "under", "label"] (spMove T C CD) := by
  refine F.ok scMove (fun vs H Q E h => ?_) (fun cdv A outer s H vs Q E hr h => ?_)
  · obtain ⟨H0, a, dx, l1, l2, das, kas, h, k, x, u, v, rfl, _⟩ := h
    rfl
  · obtain ⟨H0, a, dx, l1, l2, das, kas, h, k, y, u, v, rfl, x, q⟩ := h
    obtain ⟨t1, h1⟩ := TN.SUCH
    obtain ⟨t2, h2⟩ := TN.OUT
    obtain ⟨t3, h3⟩ := TN.MORE
    obtain ⟨t5, h5⟩ := TN.LABEL
    obtain ⟨t6, h6⟩ := TN.DEEDS
    have hr1 : Room 1 _ := hr.mono (by decide)
    have hr2 : Room 2 _ := hr.mono (by decide)
    refine ⟨_, pss_cons (ps_if (pt_not (pt_val (pe_meth (pv 0) TH.cl mH GH hr1 bH .nil pass0 (pa_cons (pv 1) pa_nil)))) (pss_one (ps_ret (pe_lst (pa_cons (pe_num rfl h1) pa_nil)))) pss_nil)
      (pss_cons (ps_if (PW.pt (pw_or (pt_not (pt_val (pe_call GM hr1 rfl gM kM bM .nil pass0 (pa_cons (pv 2) (pa_cons (pv 3) pa_nil))))) (pw_or1 (pt_cmpR op_gt (pv 4) (pe_num rfl h5) (nomark _))))) (pss_one (ps_ret (pe_lst (pa_cons (pe_num rfl h2) pa_nil)))) pss_nil)
      (pss_cons (ps_if (pt_cmpR op_ge (pe_callB call_len_seq (by rfl) gl PySem.boot_len (pa_cons (pe_fld (pv 0) rfl) pa_nil)) (pe_num rfl h6) (nomark _)) (pss_one (ps_ret (pe_lst (pa_cons (pe_num rfl h3) pa_nil)))) pss_nil)
      (pss_cons (ps_set (i := 5) scMove.nd rfl (Or.inl rfl) (pe_callB call_len_seq (by rfl) gl PySem.boot_len (pa_cons (pe_fld (pv 0) rfl) pa_nil)))
      (pss_cons (ps_set (i := 6) scMove.nd rfl (Or.inl rfl) (pe_op op_add (pe_meth (pv 0) TH.cl mG GG hr1 bG .nil pass0 (pa_cons (pv 1) pa_nil)) pe_int))
      (pss_cons (ps_set (i := 7) scMove.nd rfl (Or.inl rfl) (pe_meth (pv 0) TH.cl mW GW hr bW .nil pass0 (pa_cons (pv 1) (pa_cons (pv 2) (pa_cons (pv 3) pa_nil)))))
      (pss_cons (ps_expr (pe_bm PySem.F.plainAttrs_list PySem.F.slot_list_append PySem.F.type_list_append mt_append (pe_fld (pv 0) rfl) (pa_cons (pe_make MD GD hr2 rfl gD bD .nil pass0 (pa_cons (pe_tup (pa_cons (pv 6) (pa_cons (pv 1) pa_nil))) (pa_cons (pv 2) (pa_cons (pv 3) (pa_cons (pv 4) pa_nil))))) pa_nil)))
      (pss_cons (ps_asg (pe_op op_cat (pe_ix ix_list (pe_fld (pv 0) rfl) (pv 1) (fun _ _ => rfl)) (pe_lst (pa_cons (pv 5) pa_nil))) (pg_sub (pe_fld (pv 0) rfl) (pv 1) set_list))
      (pss_one (ps_ret (pe_lst (pa_cons (pv 5) (pa_cons (pv 6) (pa_cons (pv 7) pa_nil))))))))))))), ?_⟩
    have ia := x.at_.hi
    have hlenD : (das.map V.ref).length = h.all.length := by rw [List.length_map, x.at_.ds.len]
    refine ⟨_, rfl, a, dx, _, rfl, ia, hF_no _ _ (by decide +kernel) (by decide +kernel), _, rfl, a, dx, l1, l2, das, kas, h, k, rfl, x.at_, _, rfl, ?_⟩
    by_cases ck : k < h.desks.length
    · have e1 : (!decide (k < h.desks.length)) = false := by rw [decide_eq_true ck]; rfl
      refine ifF e1 ?_
      have bad : y < 2 ∨ 64 ≤ y ∨ 64 ≤ u ∨ 1000000000 < v → h.step (.move k y u v) = (h, Sq28.says (-1)) := fun c => by
        show (if h.desks.length ≤ k then _ else if y < 2 ∨ 64 ≤ y ∨ 64 ≤ u ∨ Sq28.LABEL < v then (h, Sq28.says (-1)) else _) = _
        rw [if_neg (by omega), if_pos (by unfold Sq28.LABEL; exact c)]
      refine ⟨_, rfl, _, rfl, y, u, rfl, _, rfl, ?_⟩
      by_cases cy : 2 ≤ y ∧ y < 64 ∧ u < 64
      · have e2 : (!decide (2 ≤ y ∧ y < 64 ∧ u < 64)) = false := by rw [decide_eq_true cy]; rfl
        refine ifF e2 ?_
        · refine ⟨_, rfl, _, _, rfl, rfl, _, rfl, ?_⟩
          by_cases cv : 1000000000 < v
          · have e4 : decide ((1000000000 : Int) < v) = true := decide_eq_true (by omega)
            refine ifT e4 ?_
            exact ⟨(by show 1 ≤ sizeLine; decide), fun p hp => After.says x q (bad (by omega)) hp⟩
          · have e4 : decide ((1000000000 : Int) < v) = false := decide_eq_false (by omega)
            refine ifF e4 ?_
            refine ⟨_, rfl, a, C, dx, _, _, rfl, ia, TH.cl, TH.nD, hF_done _ _, l1, _, rfl, .inl (SqL.of x.at_.hd), _, _, rfl, rfl, _, rfl, ?_⟩
            by_cases cl : 100 ≤ h.all.length
            · have e5 : decide ((100 : Int) ≤ ((das.map V.ref).length : Nat)) = true := decide_eq_true (by rw [hlenD]; omega)
              refine ifT e5 ?_
              refine ⟨(by show 1 ≤ sizeLine; decide), fun p hp => After.says x q ?_ hp⟩
              show (if h.desks.length ≤ k then _ else if y < 2 ∨ 64 ≤ y ∨ 64 ≤ u ∨ Sq28.LABEL < v then _ else if 100 ≤ h.all.length then (h, Sq28.says (-5)) else _) = _
              rw [if_neg (by omega), if_neg (by unfold Sq28.LABEL; omega), if_pos cl]
            · have e5 : decide ((100 : Int) ≤ ((das.map V.ref).length : Nat)) = false := decide_eq_false (by rw [hlenD]; omega)
              refine ifF e5 ?_
              have good : h.step (.move k y u v) = (House.set ⟨h.all ++ [⟨h.all.length, ⟨h.next k, k⟩, y, u, v⟩], h.desks⟩ k (h.desk k ++ [⟨h.all.length, ⟨h.next k, k⟩, y, u, v⟩]), ⟨(h.all.length : Int), Sq28.ints [h.next k, Sq28.outcome (h.tree k) ⟨h.all.length, ⟨h.next k, k⟩, y, u, v⟩]⟩) := by
                show (if h.desks.length ≤ k then _ else if y < 2 ∨ 64 ≤ y ∨ 64 ≤ u ∨ Sq28.LABEL < v then _ else if 100 ≤ h.all.length then _ else (House.set _ k (Sq28.learn ⟨h.all.length, ⟨h.next k, k⟩, y, u, v⟩ (h.desk k)), _)) = _
                rw [if_neg (by omega), if_neg (by unfold Sq28.LABEL; omega), if_neg cl, My.move_learn]
              have wf' := My.wf_move (x := y) (u := u) (v := v) x.wf ck cy.1 cy.2.1 (by omega) (by omega) (by omega)
              -- number = len(self.done)
              refine ⟨_, rfl, a, C, dx, _, _, rfl, ia, TH.cl, TH.nD, hF_done _ _, l1, _, rfl, .inl (SqL.of x.at_.hd), ?_⟩
              -- count = self.greatest_count(desk) + 1
              refine ⟨_, rfl, a, dx, _, rfl, ia, hF_no _ _ (by decide +kernel) (by decide +kernel), _, rfl, a, dx, l1, l2, das, kas, h, k, rfl, x.at_, x.wf, ck, fun Hg sg => ⟨_, _, rfl, rfl, ?_⟩⟩
              have xg := x.grow sg
              -- comes = self.would_come(desk, thing, under)
              refine ⟨_, rfl, a, dx, _, rfl, xg.at_.hi, hF_no _ _ (by decide +kernel) (by decide +kernel), _, rfl, _, rfl, _, rfl, a, dx, l1, l2, das, kas, h, k, y, u, rfl, xg.at_, xg.wf, ck, fun d ed1 ed2 Ht st => ?_⟩
              have xt := xg.grow st
              rw [outcome_same (d := d) (e := ⟨h.all.length, ⟨h.next k, k⟩, y, u, v⟩) ed1 ed2]
              clear ed1 ed2 d
              rw [good] at q
              have ed : ∃ d : Deed, d = ⟨h.all.length, ⟨h.next k, k⟩, y, u, v⟩ := ⟨_, rfl⟩
              obtain ⟨d, ed⟩ := ed
              have ec : ((h.desk k).foldl (fun (m : Nat) d => max m d.stamp.count) 0 : Nat) + 1 = h.next k := rfl
              rw [← ed] at q wf' ⊢
              -- self.done.append(Deed((count, desk), thing, under, label))
              refine ⟨_, rfl, a, C, dx, _, _, rfl, xt.at_.hi, TH.cl, TH.nD, hF_done _ _, .inl ⟨rfl, _, SqL.of xt.at_.hd⟩, _, rfl, _, rfl, (by show 2 ≤ sizeLine; decide), fun tp htp => ?_⟩
              refine ⟨_, rfl, _, rfl, _, rfl, fun da dxd nda ndx nne => ?_⟩
              refine ⟨da, dxd, tp, d, by rw [ed]; rfl, upd_same, fun Hd hda keep _ => ⟨rfl, ?_⟩⟩
              have s1 := same_upd (o := .tup [.int ((((h.desk k).foldl (fun (m : Nat) d => max m d.stamp.count) 0 : Nat) : Int) + 1), .int (k : Int)]) htp
              have htp1 : upd Ht tp (.tup [.int ((((h.desk k).foldl (fun (m : Nat) d => max m d.stamp.count) 0 : Nat) : Int) + 1), .int (k : Int)]) tp = some (.tup [.int (d.stamp.count : Int), .int (d.stamp.hand : Int)]) := by
                rw [upd_same, ed]
                show some (HO.tup [V.int _, V.int _]) = some (HO.tup [V.int ((h.next k : Nat) : Int), V.int (k : Int)])
                rw [← ec]
                rfl
              generalize upd Ht tp (.tup [.int ((((h.desk k).foldl (fun (m : Nat) d => max m d.stamp.count) 0 : Nat) : Int) + 1), .int (k : Int)]) = H1 at s1 htp1 nda ndx keep
              have s2 : Same H1 Hd := fun b o e => keep b o (by rw [upd_ne (ne_of_none e nda), upd_ne (ne_of_none e ndx)]; exact e) (ne_of_none e nda)
              have xd := (xt.grow s1).grow s2
              have hdeed : DeedAt CD Hd da d := ⟨dxd, tp, hda, s2 _ _ htp1⟩
              refine ⟨l1, _, _, rfl, rfl, xd.at_.hd, ?_, ?_⟩
              · rw [hlenD]
                exact Nat.lt_of_le_of_lt (show h.all.length ≤ 100 by omega) (by decide)
              have hp := xd.at_.push hdeed
              have tp' := tabs_list (o := .lst (das.map V.ref ++ [.ref da])) xd.tabs xd.at_.hd
              have sp : ∀ b o, b ≠ l1 → Hd b = some o → upd Hd l1 (.lst (das.map V.ref ++ [.ref da])) b = some o := fun b o hb e => by rw [upd_ne hb]; exact e
              generalize upd Hd l1 (.lst (das.map V.ref ++ [.ref da])) = Hp at hp tp' sp
              -- self.known[desk] = self.known[desk] + [number]
              obtain ⟨ka, hka, hkl⟩ := hp.ls.at_ (h := ⟨h.all ++ [d], h.desks⟩) ck
              have hkl : Hp ka = some (.lst ((My.idv (h.desk k)).map V.int)) := hkl
              have hkam : ka ∈ kas := List.mem_of_getElem? hka
              refine ⟨_, rfl, a, C, dx, _, _, rfl, hp.hi, TH.cl, TH.nK, hF_known _ _, _, rfl, l2, _, _, _, rfl, rfl, SqL.of hp.hk, atI_nat (by rw [List.getElem?_map, hka]; rfl), _, rfl, (by show 1 ≤ sizeLine; decide), fun m hm => ?_⟩
              have s3 := same_upd (o := .lst [V.int (((das.map V.ref).length : Nat) : Int)]) hm
              have hm3 : upd Hp m (.lst [V.int (((das.map V.ref).length : Nat) : Int)]) m = some (.lst [V.int (d.id : Int)]) := by
                rw [upd_same, hlenD, ed]
              generalize upd Hp m (.lst [V.int (((das.map V.ref).length : Nat) : Int)]) = H3 at s3 hm3
              refine ⟨ka, m, _, _, rfl, rfl, s3 _ _ hkl, hm3, ?_, fun n hn => ?_⟩
              · rw [List.length_map]
                have e1 := x.wf.desk_len (My.desk_get ck)
                have e2 : (My.idv (h.desk k)).length = (h.desk k).length := List.length_map _
                exact Nat.le_trans (show _ ≤ 101 by rw [e2]; show _ + 1 ≤ 101; omega) (by decide)
              have s4 := same_upd (o := .lst ((My.idv (h.desk k)).map V.int ++ [V.int (d.id : Int)])) hn
              have hn4 : upd H3 n (.lst ((My.idv (h.desk k)).map V.int ++ [V.int (d.id : Int)])) n = some (.lst ((My.idv (h.desk k ++ [d])).map V.int)) := by
                rw [upd_same]
                unfold My.idv
                rw [List.map_append, List.map_append]
                rfl
              have nn1 : n ≠ l1 := fun z => by
                have := s3 _ _ hp.hd
                rw [← z, hn] at this
                cases this
              have nn2 : n ≠ l2 := fun z => by
                have := s3 _ _ hp.hk
                rw [← z, hn] at this
                cases this
              generalize upd H3 n (.lst ((My.idv (h.desk k)).map V.int ++ [V.int (d.id : Int)])) = H4 at s4 hn4
              have h4 := hp.ext (Same.extN (s3.trans s4))
              refine ⟨_, rfl, a, C, dx, _, _, rfl, h4.hi, TH.cl, TH.nK, hF_known _ _, _, rfl, l2, _, _, k, rfl, rfl, h4.hk, ?_, ?_⟩
              · unfold ixN
                rw [if_pos (by omega), List.length_map, h4.ls.len, if_pos (by show (k : Int) < ((h.desks.length : Nat) : Int); omega)]
                rfl
              have h5 := h4.known (k := k) hn4 nn1 nn2
              have t5 := tabs_list (o := .lst ((kas.map V.ref).set k (.ref n))) ((tp'.ext s3).ext s4) h4.hk
              have s5 : ∀ b o, b ≠ l2 → H4 b = some o → upd H4 l2 (.lst ((kas.map V.ref).set k (.ref n))) b = some o := fun b o hb e => by rw [upd_ne hb]; exact e
              generalize upd H4 l2 (.lst ((kas.map V.ref).set k (.ref n))) = H5 at h5 t5 s5
              -- return [number, count, comes]
              refine ⟨_, rfl, _, rfl, _, rfl, (by show 3 ≤ sizeLine; decide), fun p hp' => ?_⟩
              have hs : HS T C CD H0 H5 a dx l1 l2 (das ++ [da]) (kas.set k n) (House.set ⟨h.all ++ [d], h.desks⟩ k (h.desk k ++ [d])) := by
                refine ⟨h5, fun b o e => s5 b o (fun z => by rw [z, x.n2] at e; cases e) (s4 _ _ (s3 _ _ (sp b o (fun z => by rw [z, x.n1] at e; cases e) (xd.same _ _ e)))), x.na, x.n1, x.n2, fun z hz => ?_, t5, x.nt, wf'⟩
                obtain ⟨i, hi⟩ := List.mem_iff_getElem?.mp hz
                rcases My.set_get hi with ⟨_, e⟩ | ⟨_, e⟩
                · rw [e]
                  cases e0 : H0 n with
                  | none => rfl
                  | some o =>
                    have := s3 _ _ (sp n o nn1 (xd.same _ _ e0))
                    rw [hn] at this
                    cases this
                · exact x.nk z (List.mem_of_getElem? e)
              refine q _ dx l1 l2 _ _ p (hs.grow (same_upd hp')) ?_ (hs.same.free hp')
              rw [upd_same, hlenD]
              rfl
      · have e2 : (!decide (2 ≤ y ∧ y < 64 ∧ u < 64)) = true := by rw [decide_eq_false cy]; rfl
        refine ifT e2 ?_
        refine iteT ?_
        exact ⟨(by show 1 ≤ sizeLine; decide), fun p hp => After.says x q (bad (by omega)) hp⟩
    · have e1 : (!decide (k < h.desks.length)) = true := by rw [decide_eq_false ck]; rfl
      refine ifT e1 ?_
      refine ⟨(by show 1 ≤ sizeLine; decide), fun p hp => After.says x q ?_ hp⟩
      show (if h.desks.length ≤ k then (h, Sq28.says (-2)) else _) = _
      rw [if_pos (by omega)]
end
end Pf
end
section
set_option Elab.async false
set_option linter.all false
set_option maxRecDepth 100000
set_option maxHeartbeats 2000000
namespace Pf
open PySem PySem.Spec PyProof.Rows L2 LamX SK
open Sq28 (Deed House)
abbrev sTell : Stmt := inClass (topS 35) 3
abbrev sMeet : Stmt := inClass (topS 35) 4
abbrev sShow : Stmt := inClass (topS 35) 5
abbrev sLine : Stmt := inClass (topS 35) 6
abbrev sDeeds : Stmt := inClass (topS 35) 7
abbrev sSame : Stmt := inClass (topS 35) 8
abbrev sWould : Stmt := inClass (topS 35) 9
abbrev sMoves : Stmt := inClass (topS 35) 10
abbrev sCounted : Stmt := topS 37
section
variable {P : Program} {w : World} {K : PySem.W.Frag} {mg : Str → Option Value} {base : Heap}
/-- known[k] = n, all the house's -/
theorem HS.known {T : List (Addr × Str)} {C CD : Addr} {H0 H : Hp} {a dx l1 l2 n : Addr} {das kas : List Addr} {h : House} {k : Nat} {m : List Deed} (x : HS T C CD H0 H a dx l1 l2 das kas h) (hn : H n = some (.lst ((My.idv m).map V.int))) (n1 : n ≠ l1) (n2 : n ≠ l2) (n0 : H0 n = none) (wf : My.WF (h.set k m)) :
    HS T C CD H0 (upd H l2 (.lst ((kas.map V.ref).set k (.ref n)))) a dx l1 l2 das (kas.set k n) (h.set k m) :=
  ⟨x.at_.known hn n1 n2, fun b o e => by rw [upd_ne (fun z => by rw [z, x.n2] at e; cases e)]; exact x.same _ _ e, x.na, x.n1, x.n2, fun z hz => by
    obtain ⟨i, hi⟩ := List.mem_iff_getElem?.mp hz
    rcases My.set_get hi with ⟨_, e⟩ | ⟨_, e⟩
    · rw [e]; exact n0
    · exact x.nk z (List.mem_of_getElem? e), tabs_list x.tabs x.at_.hk, x.nt, wf⟩
theorem HS.fresh {T : List (Addr × Str)} {C CD : Addr} {H0 H : Hp} {a dx l1 l2 p : Addr} {das kas : List Addr} {h : House} (x : HS T C CD H0 H a dx l1 l2 das kas h) (f : FreshN H p) : H0 p = none := by
  cases e : H0 p with
  | none => rfl
  | some o => exact absurd rfl (f p o (x.same _ _ e) (x.nt _ _ e))
/-! ### show -/
def flat (rows : List (SPlace × Nat)) : List Int := rows.flatMap fun r => [(r.1.thing : Int), (r.2 : Int), (r.1.label : Int)]
theorem flat_len (rows : List (SPlace × Nat)) : (flat rows).length = 3 * rows.length := by
  unfold flat
  induction rows with
  | nil => rfl
  | cons r l ih =>
    rw [List.flatMap_cons, List.length_append, ih]
    show 3 + 3 * l.length = 3 * (l.length + 1)
    omega
theorem told_ans (t : STree) (x : Nat) : ans (Sq28.told (Sq28.all t x)) = (((My.inner t 1 x).length : Nat) : Int) :: flat (My.inner t 1 x) := by
  show _ :: Sq28.ints ((Sq28.all t x).flatMap fun r => [r.1.thing, r.2, r.1.label]) = _
  refine congrArg (List.cons _) ?_
  show ((My.inner t 1 x).flatMap fun r => [r.1.thing, r.2, r.1.label]).map Int.ofNat = flat (My.inner t 1 x)
  unfold flat
  rw [List.map_flatMap]
  rfl
/-! ### counted -/
/-- rows of numbers, each a tuple -/
def NumsAt (H : Hp) (a : Addr) (r : List Int) : Prop := H a = some (.tup (r.map V.int))
theorem flatten_len {rows : List (List Int)} (h : ∀ r ∈ rows, r.length ≤ 3) : rows.flatten.length ≤ 3 * rows.length := by
  induction rows with
  | nil => exact Nat.le_refl _
  | cons r l ih =>
    have h1 := h r (List.mem_cons_self ..)
    have h2 := ih fun r hr => h r (List.mem_cons_of_mem _ hr)
    rw [List.flatten_cons, List.length_append, List.length_cons]
    omega
def spCounted : Sp := fun vs H Q _ => ∃ (a : Addr) (as : List Addr) (rows : List (List Int)), vs = [.ref a] ∧ H a = some (.lst (as.map V.ref)) ∧ EachAt (NumsAt H) as rows ∧ (∀ r ∈ rows, r.length ≤ 3) ∧ rows.length ≤ 100 ∧
  ∀ (H' : Hp) (p : Addr), Same H H' → H p = none → H' p = some (.lst ((((rows.length : Nat) : Int) :: rows.flatten).map V.int)) → Q (.ref p) H'
theorem scCounted : FnScope ["rows", "answer", "row"] ["rows"] (defScope sCounted) := ⟨rfl, rfl, rfl, by decide +kernel, rfl, by decide +kernel, by decide +kernel⟩
theorem ok_counted {f : Addr} {fd : FuncData} (F : Fun K "counted" "counted" sCounted f fd) (gl : mg "len" = none) : FnOk P w K mg base CX0 1 f fd ["rows"] spCounted := by
  refine F.ok scCounted (fun vs H Q E h => ?_) (fun cdv A outer s H vs Q E hr h => ?_)
  · obtain ⟨a, as, rows, rfl, _⟩ := h
    rfl
  · obtain ⟨r, as, rows, rfl, hr2, hE, h3, h100, q⟩ := h
    refine ⟨_, pss_cons (ps_set (i := 1) scCounted.nd rfl (Or.inl rfl) (pe_lst (pa_cons (pe_callB call_len_seq (by rfl) gl PySem.boot_len (pa_cons (pv 0) pa_nil)) pa_nil)))
      (pss_cons (ps_for PassesOwn.never rfl (pi_list (pv 0)) (pg_name (i := 2) scCounted.nd rfl (Or.inl rfl)) (pss_one (ps_expr (pe_bm PySem.F.plainAttrs_list PySem.F.slot_list_extend PySem.F.type_list_extend mt_extendT (pv 1) (pa_cons (pv 2) pa_nil)))))
      (pss_one (ps_ret (pv 1)))), ?_⟩
    refine ⟨_, rfl, r, _, rfl, .inl (SqL.of hr2), (by show 1 ≤ sizeLine; decide), fun p hp => ?_⟩
    have s3 := same_upd (o := .lst [V.int (((as.map V.ref).length : Nat) : Int)]) hp
    refine ⟨_, rfl, r, rfl, ⟨_, SqL.of (s3 _ _ hr2)⟩, for_list (K := K) (a := r) (xs := as.map V.ref) (fun i σ H' => ∃ v : Option V, σ = [some (.ref r), some (.ref p), v] ∧ Same H H' ∧ H' p = some (.lst ((((rows.length : Nat) : Int) :: (rows.take i).flatten).map V.int)))
      ⟨none, rfl, s3, ?_⟩ (fun i σ H' _ ⟨_, _, s5, _⟩ => s5.seq (SqL.of hr2)) ?_ ?_⟩
    · rw [upd_same, List.length_map, hE.len]
      rfl
    · rintro i z σ H' hi ⟨v, rfl, s5, hp5⟩
      obtain ⟨ra, hra, rfl⟩ := ref_at hi
      have hir : i < rows.length := by rw [← hE.len]; exact (List.getElem?_eq_some_iff.mp hra).1
      have hri : rows[i]? = some rows[i] := List.getElem?_eq_getElem hir
      generalize rows[i] = rr at hri
      have hrow : H ra = some (.tup (rr.map V.int)) := hE.each i ra rr hra hri
      refine ⟨_, rfl, .inl ⟨rfl, _, SqL.of hp5⟩, _, rfl, p, ra, _, _, rfl, rfl, hp5, SqT.of (s5 _ _ hrow), ?_, ?_⟩
      · have e1 := flatten_len (rows := rows.take i) fun r hr => h3 r (List.mem_of_mem_take hr)
        have e2 := h3 rr (List.mem_of_getElem? hri)
        rw [List.length_take] at e1
        rw [List.length_map, List.length_cons, List.length_map]
        exact Nat.le_trans (show _ ≤ 400 by omega) (by decide)
      · refine ⟨_, rfl, fun b o e => ?_, ?_⟩
        · rw [upd_ne (ne_of_none e hp)]
          exact s5 _ _ e
        · rw [upd_same, take_more hri, List.flatten_append, ← List.cons_append, List.map_append]
          simp
    · rintro σ H' ⟨v, rfl, s5, hp5⟩
      rw [List.length_map, hE.len, List.take_length] at hp5
      exact ⟨_, rfl, q H' p s5 hp hp5⟩
/-! ### show -/
theorem flat_rows (rows : List (SPlace × Nat)) : (rows.map fun r => [(r.1.thing : Int), (r.2 : Int), (r.1.label : Int)]).flatten = flat rows := by
  unfold flat
  rw [List.flatMap_def]
def spShow (T : List (Addr × Str)) (C CD : Addr) : Sp := fun vs H Q _ => ∃ (H0 : Hp) (a dx l1 l2 : Addr) (das kas : List Addr) (h : House) (k x : Nat), vs = [.ref a, .int k, .int x] ∧ HS T C CD H0 H a dx l1 l2 das kas h ∧
  After T C CD H0 a (if h.desks.length ≤ k then (h, Sq28.says (-2)) else (h, Sq28.told (Sq28.all (h.tree k) x))) Q
theorem scShow : FnScope ["self", "desk", "top"] ["self", "desk", "top"] (defScope sShow) := ⟨rfl, rfl, rfl, by decide +kernel, rfl, by decide +kernel, by decide +kernel⟩
theorem ok_show {f fH fT fW fN C CD : Addr} {fd fdH fdT fdW fdN : FuncData} {T : List (Addr × Str)} (F : Fun K "show" "House.show" sShow f fd) (TH : TxH K C) (TN : TxN K mg)
    (GH : FnOk P w K mg base CX0 1 fH fdH ["self", "desk"] (spHas C CD)) (mH : Meth K C "has_desk" fH) (bH : Binds K fdH ["self", "desk"] [])
    (GT : FnOk P w K mg base CX0 5 fT fdT ["self", "desk"] (spTreeAt C CD)) (mT : Meth K C "tree_at" fT) (bT : Binds K fdT ["self", "desk"] [])
    (GW : FnOk P w K mg base CX0 2 fW fdW ["tree", "top"] spWithin) (kW : PySem.W.keepIn K (.ref fW) = true) (gW : mg "all_within" = some (.ref fW)) (bW : Binds K fdW ["tree", "top"] [])
    (GN : FnOk P w K mg base CX0 1 fN fdN ["rows"] spCounted) (kN : PySem.W.keepIn K (.ref fN) = true) (gN : mg "counted" = some (.ref fN)) (bN : Binds K fdN ["rows"] []) :
    FnOk P w K mg base CX0 6 f fd ["self", "desk", "top"] (spShow T C CD) := by
  refine F.ok scShow (fun vs H Q E h => ?_) (fun cdv A outer s H vs Q E hr h => ?_)
  · obtain ⟨H0, a, dx, l1, l2, das, kas, h, k, x, rfl, _⟩ := h
    rfl
  · obtain ⟨H0, a, dx, l1, l2, das, kas, h, k, y, rfl, x, q⟩ := h
    obtain ⟨t1, h1⟩ := TN.SUCH
    have hr1 : Room 1 _ := hr.mono (by decide)
    have hr2 : Room 2 _ := hr.mono (by decide)
    refine ⟨_, pss_cons (ps_if (pt_not (pt_val (pe_meth (pv 0) TH.cl mH GH hr1 bH .nil pass0 (pa_cons (pv 1) pa_nil)))) (pss_one (ps_ret (pe_lst (pa_cons (pe_num rfl h1) pa_nil)))) pss_nil)
      (pss_one (ps_ret (pe_call GN hr1 rfl gN kN bN .nil pass0 (pa_cons (pe_call GW hr2 rfl gW kW bW .nil pass0 (pa_cons (pe_meth (pv 0) TH.cl mT GT hr bT .nil pass0 (pa_cons (pv 1) pa_nil)) (pa_cons (pv 2) pa_nil))) pa_nil)))), ?_⟩
    refine ⟨_, rfl, a, dx, _, rfl, x.at_.hi, hF_no _ _ (by decide +kernel) (by decide +kernel), _, rfl, a, dx, l1, l2, das, kas, h, k, rfl, x.at_, _, rfl, ?_⟩
    by_cases ck : k < h.desks.length
    · refine ifF (by rw [decide_eq_true ck]; rfl) ?_
      rw [if_neg (by omega)] at q
      refine ⟨_, rfl, a, dx, _, rfl, x.at_.hi, hF_no _ _ (by decide +kernel) (by decide +kernel), _, rfl, a, dx, l1, l2, das, kas, h, k, rfl, x.at_, x.wf, ck, fun Ht pt kvs st hpt ht => ?_⟩
      have tr := x.wf.tr ck
      refine ⟨_, rfl, pt, kvs, h.tree k, y, rfl, ht, tr, fun H2 r as s2 hr0 hr2 hE => ?_⟩
      have s02 : Same H H2 := st.trans s2
      have hlen : (My.inner (h.tree k) 1 y).length ≤ 62 := Nat.le_trans (My.inner_len tr.srt tr.good 1 y) tr.len
      refine ⟨r, as, (My.inner (h.tree k) 1 y).map fun r => [(r.1.thing : Int), (r.2 : Int), (r.1.label : Int)], rfl, hr2, ⟨by rw [List.length_map]; exact hE.len, fun i a' z e1 e2 => ?_⟩, fun z hz => ?_, by rw [List.length_map]; omega, fun H' p s5 hp hp5 => ?_⟩
      · rw [List.getElem?_map] at e2
        cases e : (My.inner (h.tree k) 1 y)[i]? with
        | none => rw [e] at e2; cases e2
        | some rr =>
          rw [e] at e2
          cases e2
          exact hE.each i a' rr e1 e
      · obtain ⟨rr, _, e⟩ := List.mem_map.mp hz
        rw [← e]
        exact Nat.le_refl _
      · refine q H' dx l1 l2 das kas p ((x.grow s02).grow s5) ?_ ((x.grow s02).same.free hp)
        rw [hp5, told_ans, flat_rows, List.length_map]
    · refine ifT (by rw [decide_eq_false ck]; rfl) ?_
      exact ⟨(by show 1 ≤ sizeLine; decide), fun p hp => After.says x q (if_pos (by omega)) hp⟩
end
end Pf
end
section
set_option Elab.async false
set_option linter.all false
set_option maxRecDepth 100000
set_option maxHeartbeats 2000000
namespace Pf
open PySem PySem.Spec PyProof.Rows L2 LamX SK
open Sq28 (Deed House)
/-! ### numbers of deeds -/
theorem ids_flat (l : List Deed) : ((My.idv l).map V.int).all flatV = true := by
  rw [List.all_map]
  exact List.all_eq_true.mpr fun _ _ => rfl
theorem ids_in {h : House} (wf : My.WF h) {l : List Deed} {d : Deed} (hl : ∀ e ∈ l, e ∈ h.all) (hd : d ∈ h.all) : inV (V.int (d.id : Int)) ((My.idv l).map V.int) = decide (d ∈ l) := by
  unfold inV
  rw [idv_map, List.any_map]
  by_cases c : d ∈ l
  · rw [decide_eq_true c, List.any_eq_true]
    exact ⟨d, c, by show ((d.id : Int) == (d.id : Int)) = true; simp⟩
  · rw [decide_eq_false c, List.any_eq_false]
    intro e he z
    have z : ((e.id : Int) == (d.id : Int)) = true := z
    have : e = d := wf.id_inj (hl e he) hd (by simp at z; omega)
    exact c (this ▸ he)
theorem ids_len (l : List Deed) : ((My.idv l).map V.int).length = l.length := by rw [List.length_map]; exact List.length_map _
section
variable {P : Program} {w : World} {K : PySem.W.Frag} {mg : Str → Option Value} {base : Heap}
/-! ### tell -/
def spTell (T : List (Addr × Str)) (C CD : Addr) : Sp := fun vs H Q _ => ∃ (H0 : Hp) (a dx l1 l2 : Addr) (das kas : List Addr) (h : House) (i k : Nat), vs = [.ref a, .int i, .int k] ∧ HS T C CD H0 H a dx l1 l2 das kas h ∧ After T C CD H0 a (h.step (.tell i k)) Q
theorem scTell : FnScope ["self", "number", "desk", "known", "stamp", "later", "other"] ["self", "number", "desk"] (defScope sTell) := ⟨rfl, rfl, rfl, by decide +kernel, rfl, by decide +kernel, by decide +kernel⟩
theorem ok_tell {f fH fB C CD : Addr} {fd fdH fdB : FuncData} {T : List (Addr × Str)} (F : Fun K "tell" "House.tell" sTell f fd) (TH : TxH K C) (TD : TxD K CD) (TN : TxN K mg) (gl : mg "len" = none)
    (GH : FnOk P w K mg base CX0 1 fH fdH ["self", "desk"] (spHas C CD)) (mH : Meth K C "has_desk" fH) (bH : Binds K fdH ["self", "desk"] [])
    (GB : FnOk P w K mg base CX0 4 fB fdB ["self", "numbers"] (spBy K T C CD)) (mB : Meth K C "by_stamps" fB) (bB : Binds K fdB ["self", "numbers"] []) :
    FnOk P w K mg base CX0 5 f fd ["self", "number", "desk"] (spTell T C CD) := by
  refine F.ok scTell (fun vs H Q E h => ?_) (fun cdv A outer s H vs Q E hr h => ?_)
  · obtain ⟨H0, a, dx, l1, l2, das, kas, h, i, k, rfl, _⟩ := h
    rfl
  · obtain ⟨H0, a, dx, l1, l2, das, kas, h, i, k, rfl, x, q⟩ := h
    obtain ⟨t1, h1⟩ := TN.SUCH
    have hr1 : Room 1 _ := hr.mono (by decide)
    have hu1 : (A.deeper (envOfC "House.tell" (defScope sTell) s.heap.objs.size f cdv)).units + 1 < cLine := by have := hr.un; omega
    refine ⟨_, pss_cons (ps_if (PW.pt (pw_or (pt_cmpR op_ge (pv 1) (pe_callB call_len_seq (by rfl) gl PySem.boot_len (pa_cons (pe_fld (pv 0) rfl) pa_nil)) (nomark _)) (pw_or1 (pt_not (pt_val (pe_meth (pv 0) TH.cl mH GH hr1 bH .nil pass0 (pa_cons (pv 2) pa_nil))))))) (pss_one (ps_ret (pe_lst (pa_cons (pe_num rfl h1) pa_nil)))) pss_nil)
      (pss_cons (ps_set (i := 3) scTell.nd rfl (Or.inl rfl) (pe_ix ix_list (pe_fld (pv 0) rfl) (pv 2) (fun _ _ => rfl)))
      (pss_cons (ps_if (pt_cmpR op_in_seq (pv 1) (pv 3) (by rfl)) (pss_one (ps_ret (pe_lst (pa_cons (pe_callB call_len_seq (by rfl) gl PySem.boot_len (pa_cons (pv 3) pa_nil)) (pa_cons pe_int pa_nil))))) pss_nil)
      (pss_cons (ps_set (i := 4) scTell.nd rfl (Or.inr rfl) (pe_fld (pe_ix ix_list (pe_fld (pv 0) rfl) (pv 1) (fun _ _ => rfl)) rfl))
      (pss_cons (ps_setLc (i := 5) (own := [("other", 6)]) (g := gName 6) (tt := tTest (tOp (rGtP K) (tFld K (tOp (rIxL K) (tFld K (tVar 0) "done") (tVar 6)) "stamp") (tVar 4))) rfl scTell.nd rfl rfl (sw_true rfl rfl rfl (by decide +kernel)) (pi_list (pv 3))
        (blkOk_by (own := [("other", 6)]) (N := ["self", "number", "desk", "known", "stamp", "later", "other"]) (sc := defScope sTell) (by decide +kernel)) (fun _ _ _ _ _ => pg_name (i := 6) scTell.nd rfl (Or.inl rfl))
        (fun _ _ _ _ _ => pts_one (pt_cmpR (op_gtP hu1) (pe_fld (pe_ix ix_list (pe_fld (pv 0) rfl) (pv 6) (fun _ _ => rfl)) rfl) (pv 4) (nomark _))) (fun _ _ _ _ _ => pv 6))
      (pss_cons (ps_asg (pe_meth (pv 0) TH.cl mB GB hr bB .nil pass0 (pa_cons (pe_op op_cat (pv 3) (pe_lst (pa_cons (pv 1) pa_nil))) pa_nil)) (pg_sub (pe_fld (pv 0) rfl) (pv 2) set_list))
      (pss_one (ps_ret (pe_lst (pa_cons (pe_op op_add (pe_callB call_len_seq (by rfl) gl PySem.boot_len (pa_cons (pv 3) pa_nil)) pe_int) (pa_cons (pe_callB call_len_seq (by rfl) gl PySem.boot_len (pa_cons (pv 5) pa_nil)) pa_nil)))))))))), ?_⟩
    have hlenD : (das.map V.ref).length = h.all.length := by rw [List.length_map, x.at_.ds.len]
    refine ⟨_, rfl, _, rfl, a, C, dx, _, _, rfl, x.at_.hi, TH.cl, TH.nD, hF_done _ _, l1, _, rfl, .inl (SqL.of x.at_.hd), _, _, rfl, rfl, _, rfl, ?_⟩
    by_cases ci : h.all.length ≤ i
    · refine ifT (decide_eq_true (by rw [hlenD]; omega)) ?_
      refine iteT ?_
      refine ⟨(by show 1 ≤ sizeLine; decide), fun p hp => After.says x q ?_ hp⟩
      have e : h.all[i]? = none := List.getElem?_eq_none ci
      show (match h.all[i]? with
        | none => (h, Sq28.says (-2))
        | some d => _) = _
      rw [e]
    · refine ifF (decide_eq_false (by rw [hlenD]; omega)) ?_
      refine ⟨_, rfl, a, dx, _, rfl, x.at_.hi, hF_no _ _ (by decide +kernel) (by decide +kernel), _, rfl, a, dx, l1, l2, das, kas, h, k, rfl, x.at_, _, rfl, ?_⟩
      obtain ⟨d, hd⟩ : ∃ d, h.all[i]? = some d := ⟨_, List.getElem?_eq_getElem (by omega)⟩
      have hdm : d ∈ h.all := List.mem_of_getElem? hd
      have hid : d.id = i := x.wf.ids i d hd
      have estep : h.step (.tell i k) = if h.desks.length ≤ k then (h, Sq28.says (-2)) else if (h.desk k).contains d = true then (h, ⟨((h.desk k).length : Int), [0]⟩) else (h.set k (Sq28.learn d (h.desk k)), ⟨(((h.set k (Sq28.learn d (h.desk k))).desk k).length : Int), [(Sq28.later d (h.desk k) : Int)]⟩) := by
        show (match h.all[i]? with
          | none => _
          | some d => _) = _
        rw [hd]
      rw [estep] at q
      clear estep
      by_cases ck : k < h.desks.length
      · refine ifF (by rw [decide_eq_true ck]; rfl) ?_
        rw [if_neg (by omega)] at q
        obtain ⟨ka, hka, hkl⟩ := x.at_.ls.at_ ck
        refine ⟨_, rfl, a, C, dx, _, _, rfl, x.at_.hi, TH.cl, TH.nK, hF_known _ _, _, rfl, l2, _, _, _, rfl, rfl, SqL.of x.at_.hk, atI_nat (by rw [List.getElem?_map, hka]; rfl), ?_⟩
        refine ⟨_, rfl, _, rfl, ka, _, rfl, .inl (SqL.of hkl), rfl, ids_flat _, _, rfl, ?_⟩
        have hin : inV (V.int (i : Int)) ((My.idv (h.desk k)).map V.int) = decide (d ∈ h.desk k) := by
          rw [← hid]
          exact ids_in x.wf (x.wf.sub ck) hdm
        by_cases cd : d ∈ h.desk k
        · refine ifT (hin.trans (decide_eq_true cd)) ?_
          rw [if_pos (by simpa using cd)] at q
          refine ⟨_, rfl, ka, _, rfl, .inl (SqL.of hkl), (by show 2 ≤ sizeLine; decide), fun p hp => ?_⟩
          refine q _ dx l1 l2 das kas p (x.grow (same_upd hp)) ?_ (x.same.free hp)
          rw [upd_same, ids_len]
          rfl
        · refine ifF (hin.trans (decide_eq_false cd)) ?_
          rw [if_neg (by simpa using cd)] at q
          obtain ⟨e1, dxx, tp, g1, g2⟩ := x.at_.deed x.wf hdm
          rw [hid] at e1
          refine ⟨_, rfl, a, C, dx, _, _, rfl, x.at_.hi, TH.cl, TH.nD, hF_done _ _, _, rfl, l1, _, _, _, rfl, rfl, SqL.of x.at_.hd, atI_nat e1, adr das d, CD, dxx, _, _, rfl, g1, TD.cl, TD.nS, dF_stamp _ _, ?_⟩
          refine ⟨_, rfl, ka, rfl, ⟨_, SqL.of hkl⟩, fun D hD => ?_⟩
          refine lc_pure (K := K) (us := h.desk k) (vi := fun e => V.int (e.id : Int)) (vo := fun e => V.int (e.id : Int)) (keep := fun e => d.stamp.before e.stamp) (by rw [← idv_map]; exact SqL.of hkl) hD ?_ ?_ ?_
          · have := x.wf.desk_len (My.desk_get ck)
            have := x.wf.len
            omega
          · intro e he H' R1 R2 s5 r1 r2
            have x5 := x.at_.ext (Same.extN s5)
            obtain ⟨e2, dx2, tp2, g3, g4⟩ := x5.deed x.wf (x.wf.sub ck e he)
            refine ⟨rfl, _, rfl, a, C, dx, _, _, rfl, x5.hi, TH.cl, TH.nD, hF_done _ _, _, rfl, l1, _, _, _, rfl, rfl, SqL.of x5.hd, atI_nat e2, adr das e, CD, dx2, _, _, rfl, g3, TD.cl, TD.nS, dF_stamp _ _, _, rfl, tp2, tp, ((e.stamp.count : Int), (e.stamp.hand : Int)), ((d.stamp.count : Int), (d.stamp.hand : Int)), rfl, rfl, SqT.of g4, SqT.of (s5 _ _ g2), _, rfl, ?_⟩
            have eb : SrtO.lexB ((d.stamp.count : Int), (d.stamp.hand : Int)) ((e.stamp.count : Int), (e.stamp.hand : Int)) = d.stamp.before e.stamp := by
              rw [Bool.eq_iff_iff, SrtO.lexB_iff, My.before_iff]
              simp only
              omega
            rw [eb]
            cases c : d.stamp.before e.stamp with
            | true => exact iteT ⟨_, rfl, r1 c⟩
            | false => exact iteF (r2 c)
          · intro H' s5 hD5
            have x5 := x.grow s5
            have hkl5 := s5 _ _ hkl
            -- self.known[desk] = self.by_stamps(known + [number])
            refine ⟨_, rfl, a, dx, _, rfl, x5.at_.hi, hF_no _ _ (by decide +kernel) (by decide +kernel), _, rfl, _, rfl, (by show 1 ≤ sizeLine; decide), fun m hm => ?_⟩
            have s6 := same_upd (o := .lst [V.int (i : Int)]) hm
            have hm6 : upd H' m (.lst [V.int (i : Int)]) m = some (.lst [V.int (i : Int)]) := upd_same
            generalize upd H' m (.lst [V.int (i : Int)]) = H6 at s6 hm6
            refine ⟨ka, m, _, _, rfl, rfl, s6 _ _ hkl5, hm6, ?_, fun n hn => ?_⟩
            · rw [ids_len]
              have e1 := x.wf.desk_len (My.desk_get ck)
              have e2 := x.wf.len
              exact Nat.le_trans (show _ ≤ 101 by show _ + 1 ≤ 101; omega) (by decide)
            have s7 := same_upd (o := .lst ((My.idv (h.desk k)).map V.int ++ [V.int (i : Int)])) hn
            have hn7 : upd H6 n (.lst ((My.idv (h.desk k)).map V.int ++ [V.int (i : Int)])) n = some (.lst ((My.idv (h.desk k ++ [d])).map V.int)) := by
              rw [upd_same, ← hid]
              unfold My.idv
              rw [List.map_append, List.map_append]
              rfl
            generalize upd H6 n (.lst ((My.idv (h.desk k)).map V.int ++ [V.int (i : Int)])) = H7 at s7 hn7
            have x7 := (x5.grow s6).grow s7
            refine ⟨a, dx, l1, l2, n, das, kas, h, h.desk k ++ [d], Sq28.learn d (h.desk k), rfl, x7.at_, x.wf, x7.tabs, SqL.of hn7, fun e he => ?_, My.tell_perm x.wf ck hdm cd, (My.learn_new x.wf ck hdm).1, fun H8 p8 e8 t8 f8 hp8 => ?_⟩
            · rcases List.mem_append.mp he with z | z
              · exact x.wf.sub ck e z
              · rw [List.mem_singleton.mp z]; exact hdm
            have x8 := x7.growN e8 t8
            refine ⟨_, rfl, a, C, dx, _, _, rfl, x8.at_.hi, TH.cl, TH.nK, hF_known _ _, _, rfl, l2, _, _, k, rfl, rfl, x8.at_.hk, ?_, ?_⟩
            · unfold ixN
              rw [if_pos (by omega), List.length_map, x8.at_.ls.len, if_pos (by omega)]
              rfl
            have np1 : p8 ≠ l1 := (f8 l1 _ x7.at_.hd (fun ps z => by cases z)).symm
            have np2 : p8 ≠ l2 := (f8 l2 _ x7.at_.hk (fun ps z => by cases z)).symm
            have x9 := x8.known (k := k) hp8 np1 np2 (x7.fresh f8) (My.wf_tell x.wf ck hdm)
            have hka9 : upd H8 l2 (.lst ((kas.map V.ref).set k (.ref p8))) ka = some (.lst ((My.idv (h.desk k)).map V.int)) := by
              rw [upd_ne (x.at_.ne2 ka (List.mem_of_getElem? hka))]
              exact e8 _ _ (s7 _ _ (s6 _ _ hkl5)) (fun ps z => by cases z)
            have hD9 : upd H8 l2 (.lst ((kas.map V.ref).set k (.ref p8))) D = some (.lst (((h.desk k).filter fun e => d.stamp.before e.stamp).map fun e => V.int (e.id : Int))) := by
              rw [upd_ne (fun z => by rw [z, x.at_.hk] at hD; cases hD)]
              exact e8 _ _ (s7 _ _ (s6 _ _ hD5)) (fun ps z => by cases z)
            refine ⟨_, rfl, ka, _, rfl, .inl (SqL.of hka9), _, _, rfl, rfl, _, rfl, D, _, rfl, .inl (SqL.of hD9), (by show 2 ≤ sizeLine; decide), fun p hp => ?_⟩
            refine q _ dx l1 l2 das _ p (x9.grow (same_upd hp)) ?_ (x9.same.free hp)
            rw [upd_same, ids_len, List.length_map]
            have e1 : ((h.set k (Sq28.learn d (h.desk k))).desk k).length = (h.desk k).length + 1 := by
              rw [My.desk_set ck, ← (My.tell_perm x.wf ck hdm cd).length_eq, List.length_append]
              rfl
            show _ = some (HO.lst [V.int (((h.set k (Sq28.learn d (h.desk k))).desk k).length : Int), V.int ((Sq28.later d (h.desk k) : Nat) : Int)])
            rw [e1]
            rfl
      · refine ifT (by rw [decide_eq_false ck]; rfl) ?_
        rw [if_pos (by omega)] at q
        exact ⟨(by show 1 ≤ sizeLine; decide), fun p hp => After.says x q rfl hp⟩
end
end Pf
end
section
set_option Elab.async false
set_option linter.all false
set_option maxRecDepth 100000
set_option maxHeartbeats 2000000
namespace Pf
open PySem PySem.Spec PyProof.Rows L2 LamX SK
open Sq28 (Deed House)
section
variable {P : Program} {w : World} {K : PySem.W.Frag} {mg : Str → Option Value} {base : Heap}
/-! ### meet -/
def spMeet (T : List (Addr × Str)) (C CD : Addr) : Sp := fun vs H Q _ => ∃ (H0 : Hp) (a dx l1 l2 : Addr) (das kas : List Addr) (h : House) (k j : Nat), vs = [.ref a, .int k, .int j] ∧ HS T C CD H0 H a dx l1 l2 das kas h ∧ After T C CD H0 a (h.step (.meet k j)) Q
theorem scMeet : FnScope ["self", "desk", "other", "first", "second", "new_to_first", "new_to_second", "number"] ["self", "desk", "other"] (defScope sMeet) := ⟨rfl, rfl, rfl, by decide +kernel, rfl, by decide +kernel, by decide +kernel⟩
theorem ok_meet {f fH fB C CD : Addr} {fd fdH fdB : FuncData} {T : List (Addr × Str)} (F : Fun K "meet" "House.meet" sMeet f fd) (TH : TxH K C) (TD : TxD K CD) (TN : TxN K mg) (gl : mg "len" = none)
    (GH : FnOk P w K mg base CX0 1 fH fdH ["self", "desk"] (spHas C CD)) (mH : Meth K C "has_desk" fH) (bH : Binds K fdH ["self", "desk"] [])
    (GB : FnOk P w K mg base CX0 4 fB fdB ["self", "numbers"] (spBy K T C CD)) (mB : Meth K C "by_stamps" fB) (bB : Binds K fdB ["self", "numbers"] []) :
    FnOk P w K mg base CX0 5 f fd ["self", "desk", "other"] (spMeet T C CD) := by
  refine F.ok scMeet (fun vs H Q E h => ?_) (fun cdv A outer s H vs Q E hr h => ?_)
  · obtain ⟨H0, a, dx, l1, l2, das, kas, h, k, j, rfl, _⟩ := h
    rfl
  · obtain ⟨H0, a, dx, l1, l2, das, kas, h, k, j, rfl, x, q⟩ := h
    obtain ⟨t1, h1⟩ := TN.SUCH
    have hr1 : Room 1 _ := hr.mono (by decide)
    refine ⟨_, pss_cons (ps_if (PW.pt (pw_or (pt_not (pt_val (pe_meth (pv 0) TH.cl mH GH hr1 bH .nil pass0 (pa_cons (pv 1) pa_nil)))) (pw_or1 (pt_not (pt_val (pe_meth (pv 0) TH.cl mH GH hr1 bH .nil pass0 (pa_cons (pv 2) pa_nil))))))) (pss_one (ps_ret (pe_lst (pa_cons (pe_num rfl h1) pa_nil)))) pss_nil)
      (pss_cons (ps_set (i := 3) scMeet.nd rfl (Or.inr rfl) (pe_ix ix_list (pe_fld (pv 0) rfl) (pv 1) (fun _ _ => rfl)))
      (pss_cons (ps_set (i := 4) scMeet.nd rfl (Or.inr rfl) (pe_ix ix_list (pe_fld (pv 0) rfl) (pv 2) (fun _ _ => rfl)))
      (pss_cons (ps_setLc (i := 5) (own := [("number", 7)]) (g := gName 7) (tt := tTest (tOp (rIn K true) (tVar 7) (tVar 3))) rfl scMeet.nd rfl rfl (sw_true rfl rfl rfl (by decide +kernel)) (pi_list (pv 4))
        (blkOk_by (own := [("number", 7)]) (N := ["self", "desk", "other", "first", "second", "new_to_first", "new_to_second", "number"]) (sc := defScope sMeet) (by decide +kernel)) (fun _ _ _ _ _ => pg_name (i := 7) scMeet.nd rfl (Or.inl rfl))
        (fun _ _ _ _ _ => pts_one (pt_cmpR op_notIn_seq (pv 7) (pv 3) (by rfl))) (fun _ _ _ _ _ => pv 7))
      (pss_cons (ps_setLc (i := 6) (own := [("number", 7)]) (g := gName 7) (tt := tTest (tOp (rIn K true) (tVar 7) (tVar 4))) rfl scMeet.nd rfl rfl (sw_true rfl rfl rfl (by decide +kernel)) (pi_list (pv 3))
        (blkOk_by (own := [("number", 7)]) (N := ["self", "desk", "other", "first", "second", "new_to_first", "new_to_second", "number"]) (sc := defScope sMeet) (by decide +kernel)) (fun _ _ _ _ _ => pg_name (i := 7) scMeet.nd rfl (Or.inl rfl))
        (fun _ _ _ _ _ => pts_one (pt_cmpR op_notIn_seq (pv 7) (pv 4) (by rfl))) (fun _ _ _ _ _ => pv 7))
      (pss_cons (ps_asg (pe_meth (pv 0) TH.cl mB GB hr bB .nil pass0 (pa_cons (pe_op op_cat (pv 3) (pv 5)) pa_nil)) (pg_sub (pe_fld (pv 0) rfl) (pv 1) set_list))
      (pss_cons (ps_asg (pe_meth (pv 0) TH.cl mB GB hr bB .nil pass0 (pa_cons (pe_op op_cat (pv 4) (pv 6)) pa_nil)) (pg_sub (pe_fld (pv 0) rfl) (pv 2) set_list))
      (pss_one (ps_ret (pe_lst (pa_cons (pe_op op_add (pe_callB call_len_seq (by rfl) gl PySem.boot_len (pa_cons (pv 3) pa_nil)) (pe_callB call_len_seq (by rfl) gl PySem.boot_len (pa_cons (pv 5) pa_nil))) (pa_cons (pe_callB call_len_seq (by rfl) gl PySem.boot_len (pa_cons (pv 5) pa_nil)) (pa_cons (pe_callB call_len_seq (by rfl) gl PySem.boot_len (pa_cons (pv 6) pa_nil)) pa_nil)))))))))))), ?_⟩
    refine ⟨_, rfl, a, dx, _, rfl, x.at_.hi, hF_no _ _ (by decide +kernel) (by decide +kernel), _, rfl, a, dx, l1, l2, das, kas, h, k, rfl, x.at_, _, rfl, ?_⟩
    have bad : h.desks.length ≤ k ∨ h.desks.length ≤ j → h.step (.meet k j) = (h, Sq28.says (-2)) := fun c => if_pos c
    by_cases ck : k < h.desks.length
    · refine ifF (by rw [decide_eq_true ck]; rfl) ?_
      refine ⟨_, rfl, a, dx, _, rfl, x.at_.hi, hF_no _ _ (by decide +kernel) (by decide +kernel), _, rfl, a, dx, l1, l2, das, kas, h, j, rfl, x.at_, _, rfl, ?_⟩
      by_cases cj : j < h.desks.length
      · refine ifF (by rw [decide_eq_true cj]; rfl) ?_
        have good : h.step (.meet k j) = ((h.set k (My.joined (h.desk k) (h.desk j))).set j (My.joined (h.desk k) (h.desk j)), ⟨((My.joined (h.desk k) (h.desk j)).length : Int), Sq28.ints [(My.joined (h.desk k) (h.desk j)).length - (h.desk k).length, (My.joined (h.desk k) (h.desk j)).length - (h.desk j).length]⟩) := if_neg (by omega)
        rw [good] at q
        obtain ⟨ka, hka, hkl⟩ := x.at_.ls.at_ ck
        obtain ⟨kb, hkb, hkm⟩ := x.at_.ls.at_ cj
        obtain ⟨hL, hLm⟩ := x.wf.joined ck cj
        have lA : (h.desk k).length ≤ 100 := Nat.le_trans (x.wf.desk_len (My.desk_get ck)) x.wf.len
        have lB : (h.desk j).length ≤ 100 := Nat.le_trans (x.wf.desk_len (My.desk_get cj)) x.wf.len
        have uA := My.union_perm (x.wf.srt ck) (x.wf.srt cj) hL hLm
        have uB := My.union_perm (x.wf.srt cj) (x.wf.srt ck) hL fun e => (hLm e).trans Or.comm
        have nA := My.union_len (x.wf.srt ck) (x.wf.srt cj) hL hLm
        have nB := My.union_len (x.wf.srt cj) (x.wf.srt ck) hL fun e => (hLm e).trans Or.comm
        have wf1 : My.WF (h.set k (My.joined (h.desk k) (h.desk j))) := My.wf_set x.wf ck hL (fun d hd => ((hLm d).mp hd).elim (x.wf.sub ck d) (x.wf.sub cj d)) fun d hd => (hLm d).mpr (.inl hd)
        have wf2 := My.wf_meet x.wf ck cj
        generalize hLe : My.joined (h.desk k) (h.desk j) = L at q hL hLm uA uB nA nB wf1 wf2
        have sub : ∀ {z : List Deed}, (∀ d ∈ z, d ∈ h.desk k ∨ d ∈ h.desk j) → ∀ d ∈ z, d ∈ h.all := fun {z} hz d hd => (hz d hd).elim (x.wf.sub ck d) (x.wf.sub cj d)
        -- first, second
        refine ⟨_, rfl, a, C, dx, _, _, rfl, x.at_.hi, TH.cl, TH.nK, hF_known _ _, _, rfl, l2, _, _, _, rfl, rfl, SqL.of x.at_.hk, atI_nat (by rw [List.getElem?_map, hka]; rfl), ?_⟩
        refine ⟨_, rfl, a, C, dx, _, _, rfl, x.at_.hi, TH.cl, TH.nK, hF_known _ _, _, rfl, l2, _, _, _, rfl, rfl, SqL.of x.at_.hk, atI_nat (by rw [List.getElem?_map, hkb]; rfl), ?_⟩
        -- new_to_first
        refine ⟨_, rfl, kb, rfl, ⟨_, SqL.of hkm⟩, fun D hD => ?_⟩
        refine lc_pure (K := K) (us := h.desk j) (vi := fun e => V.int (e.id : Int)) (vo := fun e => V.int (e.id : Int)) (keep := fun e => decide (e ∉ h.desk k)) (by rw [← idv_map]; exact SqL.of hkm) hD (by omega) ?_ ?_
        · intro e he H' R1 R2 s5 r1 r2
          refine ⟨rfl, _, rfl, _, rfl, ka, _, rfl, .inl (SqL.of (s5 _ _ hkl)), rfl, ids_flat _, _, rfl, ?_⟩
          have hin := ids_in x.wf (x.wf.sub ck) (x.wf.sub cj e he)
          by_cases c : e ∈ h.desk k
          · exact ifF (by rw [hin, decide_eq_true c]; rfl) (r2 (decide_eq_false (fun z => z c)))
          · exact ifT (by rw [hin, decide_eq_false c]; rfl) ⟨_, rfl, r1 (decide_eq_true c)⟩
        intro H1 s1 hD1
        have x1 := x.grow s1
        -- new_to_second
        refine ⟨_, rfl, ka, rfl, ⟨_, SqL.of (s1 _ _ hkl)⟩, fun D2 hD2 => ?_⟩
        refine lc_pure (K := K) (us := h.desk k) (vi := fun e => V.int (e.id : Int)) (vo := fun e => V.int (e.id : Int)) (keep := fun e => decide (e ∉ h.desk j)) (by rw [← idv_map]; exact SqL.of (s1 _ _ hkl)) hD2 (by omega) ?_ ?_
        · intro e he H' R1 R2 s5 r1 r2
          refine ⟨rfl, _, rfl, _, rfl, kb, _, rfl, .inl (SqL.of (s5 _ _ (s1 _ _ hkm))), rfl, ids_flat _, _, rfl, ?_⟩
          have hin := ids_in x.wf (x.wf.sub cj) (x.wf.sub ck e he)
          by_cases c : e ∈ h.desk j
          · exact ifF (by rw [hin, decide_eq_true c]; rfl) (r2 (decide_eq_false (fun z => z c)))
          · exact ifT (by rw [hin, decide_eq_false c]; rfl) ⟨_, rfl, r1 (decide_eq_true c)⟩
        intro H2 s2 hD22
        have x2 := x1.grow s2
        have eA : H2 ka = some (.lst ((My.idv (h.desk k)).map V.int)) := s2 _ _ (s1 _ _ hkl)
        have eB : H2 kb = some (.lst ((My.idv (h.desk j)).map V.int)) := s2 _ _ (s1 _ _ hkm)
        have eD : H2 D = some (.lst (((h.desk j).filter fun e => decide (e ∉ h.desk k)).map fun e => V.int (e.id : Int))) := s2 _ _ hD1
        have nD2 : D ≠ l2 := fun z => by rw [z, x.at_.hk] at hD; cases hD
        have nE2 : D2 ≠ l2 := fun z => by rw [z, x1.at_.hk] at hD2; cases hD2
        have na2 : ka ≠ l2 := x.at_.ne2 ka (List.mem_of_getElem? hka)
        have nb2 : kb ≠ l2 := x.at_.ne2 kb (List.mem_of_getElem? hkb)
        clear hD hD2 hD1 s1 s2 x1 hkl hkm
        have fA : ((h.desk j).filter fun e => decide (e ∉ h.desk k)).length ≤ 100 := Nat.le_trans (List.length_filter_le _ _) lB
        have fB : ((h.desk k).filter fun e => decide (e ∉ h.desk j)).length ≤ 100 := Nat.le_trans (List.length_filter_le _ _) lA
        generalize hFA : ((h.desk j).filter fun e => decide (e ∉ h.desk k)) = FA at *
        generalize hFB : ((h.desk k).filter fun e => decide (e ∉ h.desk j)) = FB at *
        have idm : ∀ z : List Deed, (z.map fun e => V.int (e.id : Int)) = (My.idv z).map V.int := fun z => (idv_map z).symm
        rw [idm] at eD hD22
        -- self.known[desk] = self.by_stamps(first + new_to_first)
        refine ⟨_, rfl, a, dx, _, rfl, x2.at_.hi, hF_no _ _ (by decide +kernel) (by decide +kernel), _, rfl, _, rfl, ka, D, _, _, rfl, rfl, eA, eD, ?_, fun n hn => ?_⟩
        · rw [ids_len, ids_len]
          exact Nat.le_trans (show _ ≤ 200 by omega) (by decide)
        have s3 := same_upd (o := .lst ((My.idv (h.desk k)).map V.int ++ (My.idv FA).map V.int)) hn
        have hn3 : upd H2 n (.lst ((My.idv (h.desk k)).map V.int ++ (My.idv FA).map V.int)) n = some (.lst ((My.idv (h.desk k ++ FA)).map V.int)) := by
          rw [upd_same]
          unfold My.idv
          rw [List.map_append, List.map_append]
        generalize upd H2 n (.lst ((My.idv (h.desk k)).map V.int ++ (My.idv FA).map V.int)) = H3 at s3 hn3
        have x3 := x2.grow s3
        refine ⟨a, dx, l1, l2, n, das, kas, h, h.desk k ++ FA, L, rfl, x3.at_, x.wf, x3.tabs, SqL.of hn3, sub (fun d hd => ?_), uA, hL, fun H4 p4 e4 t4 f4 hp4 => ?_⟩
        · rcases List.mem_append.mp hd with z | z
          · exact .inl z
          · rw [← hFA] at z
            exact .inr (List.mem_filter.mp z).1
        have x4 := x3.growN e4 t4
        have keep4 : ∀ b xs, H2 b = some (.lst xs) → H4 b = some (.lst xs) := fun b xs e => e4 _ _ (s3 _ _ e) (fun ps z => by cases z)
        refine ⟨_, rfl, a, C, dx, _, _, rfl, x4.at_.hi, TH.cl, TH.nK, hF_known _ _, _, rfl, l2, _, _, k, rfl, rfl, x4.at_.hk, ?_, ?_⟩
        · unfold ixN
          rw [if_pos (by omega), List.length_map, x4.at_.ls.len, if_pos (by omega)]
          rfl
        have x5 := x4.known (k := k) hp4 (f4 l1 _ x3.at_.hd (fun ps z => by cases z)).symm (f4 l2 _ x3.at_.hk (fun ps z => by cases z)).symm (x3.fresh f4) wf1
        have keep5 : ∀ b o, b ≠ l2 → H4 b = some o → upd H4 l2 (.lst ((kas.map V.ref).set k (.ref p4))) b = some o := fun b o hb e => by rw [upd_ne hb]; exact e
        generalize upd H4 l2 (.lst ((kas.map V.ref).set k (.ref p4))) = H5 at x5 keep5
        have eA5 := keep5 _ _ na2 (keep4 _ _ eA)
        have eB5 := keep5 _ _ nb2 (keep4 _ _ eB)
        have eD5 := keep5 _ _ nD2 (keep4 _ _ eD)
        have eE5 := keep5 _ _ nE2 (keep4 _ _ hD22)
        -- self.known[other] = self.by_stamps(second + new_to_second)
        refine ⟨_, rfl, a, dx, _, rfl, x5.at_.hi, hF_no _ _ (by decide +kernel) (by decide +kernel), _, rfl, _, rfl, kb, D2, _, _, rfl, rfl, eB5, eE5, ?_, fun n6 hn6 => ?_⟩
        · rw [ids_len, ids_len]
          exact Nat.le_trans (show _ ≤ 200 by omega) (by decide)
        have s6 := same_upd (o := .lst ((My.idv (h.desk j)).map V.int ++ (My.idv FB).map V.int)) hn6
        have hn66 : upd H5 n6 (.lst ((My.idv (h.desk j)).map V.int ++ (My.idv FB).map V.int)) n6 = some (.lst ((My.idv (h.desk j ++ FB)).map V.int)) := by
          rw [upd_same]
          unfold My.idv
          rw [List.map_append, List.map_append]
        generalize upd H5 n6 (.lst ((My.idv (h.desk j)).map V.int ++ (My.idv FB).map V.int)) = H6 at s6 hn66
        have x6 := x5.grow s6
        refine ⟨a, dx, l1, l2, n6, das, kas.set k p4, h.set k L, h.desk j ++ FB, L, rfl, x6.at_, wf1, x6.tabs, SqL.of hn66, sub (fun d hd => ?_), uB, hL, fun H7 p7 e7 t7 f7 hp7 => ?_⟩
        · rcases List.mem_append.mp hd with z | z
          · exact .inr z
          · rw [← hFB] at z
            exact .inl (List.mem_filter.mp z).1
        have x7 := x6.growN e7 t7
        have keep7 : ∀ b xs, H5 b = some (.lst xs) → H7 b = some (.lst xs) := fun b xs e => e7 _ _ (s6 _ _ e) (fun ps z => by cases z)
        refine ⟨_, rfl, a, C, dx, _, _, rfl, x7.at_.hi, TH.cl, TH.nK, hF_known _ _, _, rfl, l2, _, _, j, rfl, rfl, x7.at_.hk, ?_, ?_⟩
        · unfold ixN
          rw [if_pos (by omega), List.length_map, x7.at_.ls.len, if_pos (by show (j : Int) < (((h.desks.set k L).length : Nat) : Int); rw [List.length_set]; omega)]
          rfl
        have x8 := x7.known (k := j) hp7 (f7 l1 _ x6.at_.hd (fun ps z => by cases z)).symm (f7 l2 _ x6.at_.hk (fun ps z => by cases z)).symm (x6.fresh f7) wf2
        have keep8 : ∀ b o, b ≠ l2 → H7 b = some o → upd H7 l2 (.lst (((kas.set k p4).map V.ref).set j (.ref p7))) b = some o := fun b o hb e => by rw [upd_ne hb]; exact e
        generalize upd H7 l2 (.lst (((kas.set k p4).map V.ref).set j (.ref p7))) = H8 at x8 keep8
        have eA8 := keep8 _ _ na2 (keep7 _ _ eA5)
        have eD8 := keep8 _ _ nD2 (keep7 _ _ eD5)
        have eE8 := keep8 _ _ nE2 (keep7 _ _ eE5)
        refine ⟨_, rfl, ka, _, rfl, .inl (SqL.of eA8), _, rfl, D, _, rfl, .inl (SqL.of eD8), _, _, rfl, rfl, _, rfl, D, _, rfl, .inl (SqL.of eD8), _, rfl, D2, _, rfl, .inl (SqL.of eE8), (by show 3 ≤ sizeLine; decide), fun p hp => ?_⟩
        refine q _ dx l1 l2 das _ p (x8.grow (same_upd hp)) ?_ (x8.same.free hp)
        rw [upd_same, ids_len, ids_len, ids_len]
        show some (HO.lst [V.int (((h.desk k).length : Int) + (FA.length : Int)), V.int (FA.length : Int), V.int (FB.length : Int)]) = some (HO.lst [V.int (L.length : Int), V.int ((L.length - (h.desk k).length : Nat) : Int), V.int ((L.length - (h.desk j).length : Nat) : Int)])
        have z1 : L.length - (h.desk k).length = FA.length := by omega
        have z2 : L.length - (h.desk j).length = FB.length := by omega
        rw [z1, z2, nA]
        rfl
      · refine ifT (by rw [decide_eq_false cj]; rfl) ?_
        exact ⟨(by show 1 ≤ sizeLine; decide), fun p hp => After.says x q (bad (by omega)) hp⟩
    · refine ifT (by rw [decide_eq_false ck]; rfl) ?_
      refine iteT ?_
      exact ⟨(by show 1 ≤ sizeLine; decide), fun p hp => After.says x q (bad (by omega)) hp⟩
end
end Pf
end
section
set_option Elab.async false
set_option linter.all false
set_option maxRecDepth 100000
set_option maxHeartbeats 2000000
namespace Pf
open PySem PySem.Spec PyProof.Rows L2 LamX SK
open Sq28 (Deed House)
section
variable {P : Program} {w : World} {K : PySem.W.Frag} {mg : Str → Option Value} {base : Heap}
theorem thV_ints (l : List Nat) : thV l = (Sq28.ints l).map V.int := by
  unfold thV Sq28.ints
  rw [List.map_map]
  rfl
/-! ### line -/
def spLine (T : List (Addr × Str)) (C CD : Addr) : Sp := fun vs H Q _ => ∃ (H0 : Hp) (a dx l1 l2 : Addr) (das kas : List Addr) (h : House) (k x : Nat), vs = [.ref a, .int k, .int x] ∧ HS T C CD H0 H a dx l1 l2 das kas h ∧ After T C CD H0 a (h.step (.line k x)) Q
theorem scLine : FnScope ["self", "desk", "thing", "tree", "found"] ["self", "desk", "thing"] (defScope sLine) := ⟨rfl, rfl, rfl, by decide +kernel, rfl, by decide +kernel, by decide +kernel⟩
theorem ok_line {f fH fT fE fA C CD : Addr} {fd fdH fdT fdE fdA : FuncData} {T : List (Addr × Str)} (F : Fun K "line" "House.line" sLine f fd) (TH : TxH K C) (TN : TxN K mg) (TNT : ∃ t, mg "NO_SUCH_THING" = some (.int (-3) t)) (gl : mg "len" = none)
    (GH : FnOk P w K mg base CX0 1 fH fdH ["self", "desk"] (spHas C CD)) (mH : Meth K C "has_desk" fH) (bH : Binds K fdH ["self", "desk"] [])
    (GT : FnOk P w K mg base CX0 5 fT fdT ["self", "desk"] (spTreeAt C CD)) (mT : Meth K C "tree_at" fT) (bT : Binds K fdT ["self", "desk"] [])
    (GE : FnOk P w K mg base CX0 1 fE fdE ["tree", "thing"] spThere) (kE : PySem.W.keepIn K (.ref fE) = true) (gE : mg "is_there" = some (.ref fE)) (bE : Binds K fdE ["tree", "thing"] [])
    (GA : FnOk P w K mg base CX0 1 fA fdA ["tree", "thing"] spAbove) (kA : PySem.W.keepIn K (.ref fA) = true) (gA : mg "all_above" = some (.ref fA)) (bA : Binds K fdA ["tree", "thing"] []) :
    FnOk P w K mg base CX0 6 f fd ["self", "desk", "thing"] (spLine T C CD) := by
  refine F.ok scLine (fun vs H Q E h => ?_) (fun cdv A outer s H vs Q E hr h => ?_)
  · obtain ⟨H0, a, dx, l1, l2, das, kas, h, k, x, rfl, _⟩ := h
    rfl
  · obtain ⟨H0, a, dx, l1, l2, das, kas, h, k, y, rfl, x, q⟩ := h
    obtain ⟨t1, h1⟩ := TN.SUCH
    obtain ⟨t2, h2⟩ := TNT
    have hr1 : Room 1 _ := hr.mono (by decide)
    refine ⟨_, pss_cons (ps_if (pt_not (pt_val (pe_meth (pv 0) TH.cl mH GH hr1 bH .nil pass0 (pa_cons (pv 1) pa_nil)))) (pss_one (ps_ret (pe_lst (pa_cons (pe_num rfl h1) pa_nil)))) pss_nil)
      (pss_cons (ps_set (i := 3) scLine.nd rfl (Or.inl rfl) (pe_meth (pv 0) TH.cl mT GT hr bT .nil pass0 (pa_cons (pv 1) pa_nil)))
      (pss_cons (ps_if (pt_not (pt_val (pe_call GE hr1 rfl gE kE bE .nil pass0 (pa_cons (pv 3) (pa_cons (pv 2) pa_nil))))) (pss_one (ps_ret (pe_lst (pa_cons (pe_num rfl h2) pa_nil)))) pss_nil)
      (pss_cons (ps_set (i := 4) scLine.nd rfl (Or.inl rfl) (pe_call GA hr1 rfl gA kA bA .nil pass0 (pa_cons (pv 3) (pa_cons (pv 2) pa_nil))))
      (pss_one (ps_ret (pe_op op_cat (pe_lst (pa_cons (pe_callB call_len_seq (by rfl) gl PySem.boot_len (pa_cons (pv 4) pa_nil)) pa_nil)) (pv 4))))))), ?_⟩
    refine ⟨_, rfl, a, dx, _, rfl, x.at_.hi, hF_no _ _ (by decide +kernel) (by decide +kernel), _, rfl, a, dx, l1, l2, das, kas, h, k, rfl, x.at_, _, rfl, ?_⟩
    have estep : h.step (.line k y) = if h.desks.length ≤ k then (h, Sq28.says (-2)) else if Sq28.there (h.tree k) y = false then (h, Sq28.says (-3)) else (h, ⟨(Sq28.above (h.tree k) y).length, Sq28.ints (Sq28.above (h.tree k) y)⟩) := rfl
    rw [estep] at q
    clear estep
    by_cases ck : k < h.desks.length
    · refine ifF (by rw [decide_eq_true ck]; rfl) ?_
      rw [if_neg (by omega)] at q
      refine ⟨_, rfl, a, dx, _, rfl, x.at_.hi, hF_no _ _ (by decide +kernel) (by decide +kernel), _, rfl, a, dx, l1, l2, das, kas, h, k, rfl, x.at_, x.wf, ck, fun Ht pt kvs st hpt ht => ?_⟩
      have tr := x.wf.tr ck
      have xt := x.grow st
      refine ⟨_, rfl, _, rfl, pt, kvs, h.tree k, y, rfl, ht, _, rfl, ?_⟩
      cases e : Sq28.there (h.tree k) y with
      | false =>
        refine iteT ?_
        rw [if_pos e] at q
        exact ⟨(by show 1 ≤ sizeLine; decide), fun p hp => After.says xt q rfl hp⟩
      | true =>
        refine iteF ?_
        rw [if_neg (by rw [e]; decide)] at q
        refine ⟨_, rfl, _, rfl, pt, kvs, h.tree k, y, rfl, ht, tr, fun H2 r s2 hr0 hr2 => ?_⟩
        have x2 := xt.grow s2
        refine ⟨_, rfl, r, _, rfl, .inl (SqL.of hr2), (by show 1 ≤ sizeLine; decide), fun m hm => ?_⟩
        have s3 := same_upd (o := .lst [V.int (((thV (Sq28.above (h.tree k) y)).length : Nat) : Int)]) hm
        refine ⟨_, rfl, m, r, _, _, rfl, rfl, upd_same, s3 _ _ hr2, ?_, fun p hp => ?_⟩
        · rw [thV_len]
          have := My.above_len tr y
          exact Nat.le_trans (show _ ≤ 64 by show 1 + _ ≤ 64; omega) (by decide)
        · refine q _ dx l1 l2 das kas p ((x2.grow s3).grow (same_upd hp)) ?_ ((x2.grow s3).same.free hp)
          rw [upd_same, thV_len, thV_ints]
          rfl
    · refine ifT (by rw [decide_eq_false ck]; rfl) ?_
      rw [if_pos (by omega)] at q
      exact ⟨(by show 1 ≤ sizeLine; decide), fun p hp => After.says x q rfl hp⟩
/-! ### deeds -/
def spDeeds (T : List (Addr × Str)) (C CD : Addr) : Sp := fun vs H Q _ => ∃ (H0 : Hp) (a dx l1 l2 : Addr) (das kas : List Addr) (h : House) (k : Nat), vs = [.ref a, .int k] ∧ HS T C CD H0 H a dx l1 l2 das kas h ∧ After T C CD H0 a (h.step (.deeds k)) Q
theorem scDeeds : FnScope ["self", "desk"] ["self", "desk"] (defScope sDeeds) := ⟨rfl, rfl, rfl, by decide +kernel, rfl, by decide +kernel, by decide +kernel⟩
theorem ok_deeds {f fH fW fN C CD : Addr} {fd fdH fdW fdN : FuncData} {T : List (Addr × Str)} (F : Fun K "deeds" "House.deeds" sDeeds f fd) (TH : TxH K C) (TN : TxN K mg)
    (GH : FnOk P w K mg base CX0 1 fH fdH ["self", "desk"] (spHas C CD)) (mH : Meth K C "has_desk" fH) (bH : Binds K fdH ["self", "desk"] [])
    (GW : FnOk P w K mg base CX0 5 fW fdW ["self", "desk"] (spDawc C CD)) (mW : Meth K C "deeds_and_what_comes" fW) (bW : Binds K fdW ["self", "desk"] [])
    (GN : FnOk P w K mg base CX0 1 fN fdN ["rows"] spCounted) (kN : PySem.W.keepIn K (.ref fN) = true) (gN : mg "counted" = some (.ref fN)) (bN : Binds K fdN ["rows"] []) :
    FnOk P w K mg base CX0 6 f fd ["self", "desk"] (spDeeds T C CD) := by
  refine F.ok scDeeds (fun vs H Q E h => ?_) (fun cdv A outer s H vs Q E hr h => ?_)
  · obtain ⟨H0, a, dx, l1, l2, das, kas, h, k, rfl, _⟩ := h
    rfl
  · obtain ⟨H0, a, dx, l1, l2, das, kas, h, k, rfl, x, q⟩ := h
    obtain ⟨t1, h1⟩ := TN.SUCH
    have hr1 : Room 1 _ := hr.mono (by decide)
    refine ⟨_, pss_cons (ps_if (pt_not (pt_val (pe_meth (pv 0) TH.cl mH GH hr1 bH .nil pass0 (pa_cons (pv 1) pa_nil)))) (pss_one (ps_ret (pe_lst (pa_cons (pe_num rfl h1) pa_nil)))) pss_nil)
      (pss_one (ps_ret (pe_call GN hr1 rfl gN kN bN .nil pass0 (pa_cons (pe_meth (pv 0) TH.cl mW GW hr bW .nil pass0 (pa_cons (pv 1) pa_nil)) pa_nil)))), ?_⟩
    refine ⟨_, rfl, a, dx, _, rfl, x.at_.hi, hF_no _ _ (by decide +kernel) (by decide +kernel), _, rfl, a, dx, l1, l2, das, kas, h, k, rfl, x.at_, _, rfl, ?_⟩
    have estep : h.step (.deeds k) = if h.desks.length ≤ k then (h, Sq28.says (-2)) else (h, ⟨(h.desk k).length, Sq28.ints ((Sq28.outcomes [] (h.desk k)).flatMap fun x => [x.1.id, x.2])⟩) := rfl
    rw [estep] at q
    clear estep
    by_cases ck : k < h.desks.length
    · refine ifF (by rw [decide_eq_true ck]; rfl) ?_
      rw [if_neg (by omega)] at q
      have hlen : (h.desk k).length ≤ 100 := Nat.le_trans (x.wf.desk_len (My.desk_get ck)) x.wf.len
      refine ⟨_, rfl, a, dx, _, rfl, x.at_.hi, hF_no _ _ (by decide +kernel) (by decide +kernel), _, rfl, a, dx, l1, l2, das, kas, h, k, rfl, x.at_, x.wf, ck, fun H2 r Ts s2 hr0 hr2 hE => ?_⟩
      refine ⟨r, Ts, (Sq28.outcomes [] (h.desk k)).map fun e => [(e.1.id : Int), (e.2 : Int)], rfl, hr2, ⟨by rw [List.length_map]; exact hE.len, fun i a' z e1 e2 => ?_⟩, fun z hz => ?_, by rw [List.length_map, My.outcomes_len]; exact hlen, fun H' p s5 hp hp5 => ?_⟩
      · rw [List.getElem?_map] at e2
        cases e : (Sq28.outcomes [] (h.desk k))[i]? with
        | none => rw [e] at e2; cases e2
        | some rr =>
          rw [e] at e2
          cases e2
          exact hE.each i a' rr e1 e
      · obtain ⟨rr, _, e⟩ := List.mem_map.mp hz
        rw [← e]
        exact Nat.le_succ _
      · refine q H' dx l1 l2 das kas p ((x.grow s2).grow s5) ?_ ((x.grow s2).same.free hp)
        rw [hp5, List.length_map, My.outcomes_len]
        show _ = some (HO.lst ((((h.desk k).length : Int) :: Sq28.ints ((Sq28.outcomes [] (h.desk k)).flatMap fun x => [x.1.id, x.2])).map V.int))
        unfold Sq28.ints
        rw [List.map_flatMap, List.flatMap_def]
        rfl
    · refine ifT (by rw [decide_eq_false ck]; rfl) ?_
      rw [if_pos (by omega)] at q
      exact ⟨(by show 1 ≤ sizeLine; decide), fun p hp => After.says x q rfl hp⟩
/-! ### would -/
def spWould (T : List (Addr × Str)) (C CD : Addr) : Sp := fun vs H Q _ => ∃ (H0 : Hp) (a dx l1 l2 : Addr) (das kas : List Addr) (h : House) (k x u : Nat), vs = [.ref a, .int k, .int x, .int u] ∧ HS T C CD H0 H a dx l1 l2 das kas h ∧ After T C CD H0 a (h.step (.would k x u)) Q
theorem scWould : FnScope ["self", "desk", "thing", "under"] ["self", "desk", "thing", "under"] (defScope sWould) := ⟨rfl, rfl, rfl, by decide +kernel, rfl, by decide +kernel, by decide +kernel⟩
theorem ok_would {f fH fM fW C CD : Addr} {fd fdH fdM fdW : FuncData} {T : List (Addr × Str)} (F : Fun K "would" "House.would" sWould f fd) (TH : TxH K C) (TN : TxN K mg)
    (GH : FnOk P w K mg base CX0 1 fH fdH ["self", "desk"] (spHas C CD)) (mH : Meth K C "has_desk" fH) (bH : Binds K fdH ["self", "desk"] [])
    (GM : FnOk P w K mg base CX0 1 fM fdM ["thing", "under"] spMay) (kM : PySem.W.keepIn K (.ref fM) = true) (gM : mg "may_put" = some (.ref fM)) (bM : Binds K fdM ["thing", "under"] [])
    (GW : FnOk P w K mg base CX0 6 fW fdW ["self", "desk", "thing", "under"] (spWouldCome C CD)) (mW : Meth K C "would_come" fW) (bW : Binds K fdW ["self", "desk", "thing", "under"] []) :
    FnOk P w K mg base CX0 7 f fd ["self", "desk", "thing", "under"] (spWould T C CD) := by
  refine F.ok scWould (fun vs H Q E h => ?_) (fun cdv A outer s H vs Q E hr h => ?_)
  · obtain ⟨H0, a, dx, l1, l2, das, kas, h, k, x, u, rfl, _⟩ := h
    rfl
  · obtain ⟨H0, a, dx, l1, l2, das, kas, h, k, y, u, rfl, x, q⟩ := h
    obtain ⟨t1, h1⟩ := TN.SUCH
    obtain ⟨t2, h2⟩ := TN.OUT
    have hr1 : Room 1 _ := hr.mono (by decide)
    refine ⟨_, pss_cons (ps_if (pt_not (pt_val (pe_meth (pv 0) TH.cl mH GH hr1 bH .nil pass0 (pa_cons (pv 1) pa_nil)))) (pss_one (ps_ret (pe_lst (pa_cons (pe_num rfl h1) pa_nil)))) pss_nil)
      (pss_cons (ps_if (pt_not (pt_val (pe_call GM hr1 rfl gM kM bM .nil pass0 (pa_cons (pv 2) (pa_cons (pv 3) pa_nil))))) (pss_one (ps_ret (pe_lst (pa_cons (pe_num rfl h2) pa_nil)))) pss_nil)
      (pss_one (ps_ret (pe_lst (pa_cons (pe_meth (pv 0) TH.cl mW GW hr bW .nil pass0 (pa_cons (pv 1) (pa_cons (pv 2) (pa_cons (pv 3) pa_nil)))) pa_nil))))), ?_⟩
    refine ⟨_, rfl, a, dx, _, rfl, x.at_.hi, hF_no _ _ (by decide +kernel) (by decide +kernel), _, rfl, a, dx, l1, l2, das, kas, h, k, rfl, x.at_, _, rfl, ?_⟩
    have estep : h.step (.would k y u) = if h.desks.length ≤ k then (h, Sq28.says (-2)) else if y < 2 ∨ 64 ≤ y ∨ 64 ≤ u then (h, Sq28.says (-1)) else (h, Sq28.says (Sq28.outcome (h.tree k) ⟨0, ⟨0, 0⟩, y, u, 0⟩ : Nat)) := rfl
    rw [estep] at q
    clear estep
    by_cases ck : k < h.desks.length
    · refine ifF (by rw [decide_eq_true ck]; rfl) ?_
      rw [if_neg (by omega)] at q
      refine ⟨_, rfl, _, rfl, y, u, rfl, _, rfl, ?_⟩
      by_cases cy : 2 ≤ y ∧ y < 64 ∧ u < 64
      · refine ifF (by rw [decide_eq_true cy]; rfl) ?_
        rw [if_neg (by omega)] at q
        refine ⟨_, rfl, a, dx, _, rfl, x.at_.hi, hF_no _ _ (by decide +kernel) (by decide +kernel), _, rfl, _, rfl, _, rfl, a, dx, l1, l2, das, kas, h, k, y, u, rfl, x.at_, x.wf, ck, fun d e1 e2 H2 s2 => ?_⟩
        rw [outcome_same (d := d) (e := ⟨0, ⟨0, 0⟩, y, u, 0⟩) e1 e2]
        exact ⟨(by show 1 ≤ sizeLine; decide), fun p hp => After.says (x.grow s2) q rfl hp⟩
      · refine ifT (by rw [decide_eq_false cy]; rfl) ?_
        rw [if_pos (by omega)] at q
        exact ⟨(by show 1 ≤ sizeLine; decide), fun p hp => After.says x q rfl hp⟩
    · refine ifT (by rw [decide_eq_false ck]; rfl) ?_
      rw [if_pos (by omega)] at q
      exact ⟨(by show 1 ≤ sizeLine; decide), fun p hp => After.says x q rfl hp⟩
end
end Pf
end
section
set_option Elab.async false
set_option linter.all false
set_option maxRecDepth 100000
set_option maxHeartbeats 2000000
namespace Pf
open PySem PySem.Spec PyProof.Rows L2 LamX SK
open Sq28 (Deed House)
section
variable {P : Program} {w : World} {K : PySem.W.Frag} {mg : Str → Option Value} {base : Heap}
/-! ### same -/
def spSame (T : List (Addr × Str)) (C CD : Addr) : Sp := fun vs H Q _ => ∃ (H0 : Hp) (a dx l1 l2 : Addr) (das kas : List Addr) (h : House) (k j : Nat), vs = [.ref a, .int k, .int j] ∧ HS T C CD H0 H a dx l1 l2 das kas h ∧ After T C CD H0 a (h.step (.same k j)) Q
theorem scSame : FnScope ["self", "desk", "other", "same_deeds", "same_trees"] ["self", "desk", "other"] (defScope sSame) := ⟨rfl, rfl, rfl, by decide +kernel, rfl, by decide +kernel, by decide +kernel⟩
theorem ok_same {f fH fT C CD : Addr} {fd fdH fdT : FuncData} {T : List (Addr × Str)} (F : Fun K "same" "House.same" sSame f fd) (TH : TxH K C) (TN : TxN K mg)
    (GH : FnOk P w K mg base CX0 1 fH fdH ["self", "desk"] (spHas C CD)) (mH : Meth K C "has_desk" fH) (bH : Binds K fdH ["self", "desk"] [])
    (GT : FnOk P w K mg base CX0 5 fT fdT ["self", "desk"] (spTreeAt C CD)) (mT : Meth K C "tree_at" fT) (bT : Binds K fdT ["self", "desk"] []) :
    FnOk P w K mg base CX0 6 f fd ["self", "desk", "other"] (spSame T C CD) := by
  refine F.ok scSame (fun vs H Q E h => ?_) (fun cdv A outer s H vs Q E hr h => ?_)
  · obtain ⟨H0, a, dx, l1, l2, das, kas, h, k, j, rfl, _⟩ := h
    rfl
  · obtain ⟨H0, a, dx, l1, l2, das, kas, h, k, j, rfl, x, q⟩ := h
    obtain ⟨t1, h1⟩ := TN.SUCH
    have hr1 : Room 1 _ := hr.mono (by decide)
    have hu4 : (A.deeper (envOfC "House.same" (defScope sSame) s.heap.objs.size f cdv)).units + 4 < cLine := by have := hr.un; omega
    refine ⟨_, pss_cons (ps_if (PW.pt (pw_or (pt_not (pt_val (pe_meth (pv 0) TH.cl mH GH hr1 bH .nil pass0 (pa_cons (pv 1) pa_nil)))) (pw_or1 (pt_not (pt_val (pe_meth (pv 0) TH.cl mH GH hr1 bH .nil pass0 (pa_cons (pv 2) pa_nil))))))) (pss_one (ps_ret (pe_lst (pa_cons (pe_num rfl h1) pa_nil)))) pss_nil)
      (pss_cons (ps_set (i := 3) scSame.nd rfl (Or.inl rfl) (pe_cmpR (op_eqI hu4) (pe_ix ix_list (pe_fld (pv 0) rfl) (pv 1) (fun _ _ => rfl)) (pe_ix ix_list (pe_fld (pv 0) rfl) (pv 2) (fun _ _ => rfl)) (nomark _)))
      (pss_cons (ps_set (i := 4) scSame.nd rfl (Or.inl rfl) (pe_cmpR (op_eqP hu4) (pe_meth (pv 0) TH.cl mT GT hr bT .nil pass0 (pa_cons (pv 1) pa_nil)) (pe_meth (pv 0) TH.cl mT GT hr bT .nil pass0 (pa_cons (pv 2) pa_nil)) (nomark _)))
      (pss_one (ps_ret (pe_lst (pa_cons (pe_ifExp (pt_val (pv 3)) pe_int pe_int) (pa_cons (pe_ifExp (pt_val (pv 4)) pe_int pe_int) pa_nil))))))), ?_⟩
    refine ⟨_, rfl, a, dx, _, rfl, x.at_.hi, hF_no _ _ (by decide +kernel) (by decide +kernel), _, rfl, a, dx, l1, l2, das, kas, h, k, rfl, x.at_, _, rfl, ?_⟩
    have bad : h.desks.length ≤ k ∨ h.desks.length ≤ j → h.step (.same k j) = (h, Sq28.says (-2)) := fun c => if_pos c
    by_cases ck : k < h.desks.length
    · refine ifF (by rw [decide_eq_true ck]; rfl) ?_
      refine ⟨_, rfl, a, dx, _, rfl, x.at_.hi, hF_no _ _ (by decide +kernel) (by decide +kernel), _, rfl, a, dx, l1, l2, das, kas, h, j, rfl, x.at_, _, rfl, ?_⟩
      by_cases cj : j < h.desks.length
      · refine ifF (by rw [decide_eq_true cj]; rfl) ?_
        have good : h.step (.same k j) = (h, ⟨if h.desk k = h.desk j then 1 else 0, [if h.tree k = h.tree j then 1 else 0]⟩) := if_neg (by omega)
        rw [good] at q
        obtain ⟨ka, hka, hkl⟩ := x.at_.ls.at_ ck
        obtain ⟨kb, hkb, hkm⟩ := x.at_.ls.at_ cj
        refine ⟨_, rfl, a, C, dx, _, _, rfl, x.at_.hi, TH.cl, TH.nK, hF_known _ _, _, rfl, l2, _, _, _, rfl, rfl, SqL.of x.at_.hk, atI_nat (by rw [List.getElem?_map, hka]; rfl), ?_⟩
        refine ⟨_, rfl, a, C, dx, _, _, rfl, x.at_.hi, TH.cl, TH.nK, hF_known _ _, _, rfl, l2, _, _, _, rfl, rfl, SqL.of x.at_.hk, atI_nat (by rw [List.getElem?_map, hkb]; rfl), ka, kb, My.idv (h.desk k), My.idv (h.desk j), rfl, rfl, SqL.of hkl, SqL.of hkm, ?_⟩
        refine ⟨_, rfl, a, dx, _, rfl, x.at_.hi, hF_no _ _ (by decide +kernel) (by decide +kernel), _, rfl, a, dx, l1, l2, das, kas, h, k, rfl, x.at_, x.wf, ck, fun H2 p1 k1 s2 hp1 ht1 => ?_⟩
        have x2 := x.grow s2
        refine ⟨_, rfl, a, dx, _, rfl, x2.at_.hi, hF_no _ _ (by decide +kernel) (by decide +kernel), _, rfl, a, dx, l1, l2, das, kas, h, j, rfl, x2.at_, x2.wf, cj, fun H3 p2 k2 s3 hp2 ht2 => ?_⟩
        have x3 := x2.grow s3
        have ht1' := ht1.ext (Same.extN s3)
        obtain ⟨r, hr', er⟩ := trees_eq (K := K) ht1' ht2 (x.wf.tr ck) (x.wf.tr cj)
        refine ⟨p1, p2, k1, k2, r, rfl, rfl, ht1'.at_, ht2.at_, hr', ?_⟩
        have e1 : decide (My.idv (h.desk k) = My.idv (h.desk j)) = decide (h.desk k = h.desk j) := by
          by_cases c : h.desk k = h.desk j
          · rw [decide_eq_true c, decide_eq_true (by rw [c])]
          · rw [decide_eq_false c, decide_eq_false fun z => c ((My.idv_inj x.wf (x.wf.sub ck) (x.wf.sub cj)).mp z)]
        rw [er, e1]
        have fin : ∀ (p : Addr) (b1 b2 : Bool), b1 = decide (h.desk k = h.desk j) → b2 = decide (h.tree k = h.tree j) → H3 p = none → Q (.ref p) (upd H3 p (.lst [.int (if b1 = true then 1 else 0), .int (if b2 = true then 1 else 0)])) := fun p b1 b2 z1 z2 hp => by
          refine q _ dx l1 l2 das kas p (x3.grow (same_upd hp)) ?_ (x3.same.free hp)
          rw [upd_same, z1, z2]
          simp only [decide_eq_true_eq]
          rfl
        refine ⟨_, rfl, _, rfl, ?_⟩
        cases c1 : decide (h.desk k = h.desk j) with
        | true =>
          refine iteT ?_
          refine ⟨_, rfl, _, rfl, ?_⟩
          cases c2 : decide (h.tree k = h.tree j) with
          | true =>
            refine iteT ?_
            exact ⟨(by show 2 ≤ sizeLine; decide), fun p hp => fin p true true c1.symm c2.symm hp⟩
          | false =>
            refine iteF ?_
            exact ⟨(by show 2 ≤ sizeLine; decide), fun p hp => fin p true false c1.symm c2.symm hp⟩
        | false =>
          refine iteF ?_
          refine ⟨_, rfl, _, rfl, ?_⟩
          cases c2 : decide (h.tree k = h.tree j) with
          | true =>
            refine iteT ?_
            exact ⟨(by show 2 ≤ sizeLine; decide), fun p hp => fin p false true c1.symm c2.symm hp⟩
          | false =>
            refine iteF ?_
            exact ⟨(by show 2 ≤ sizeLine; decide), fun p hp => fin p false false c1.symm c2.symm hp⟩
      · refine ifT (by rw [decide_eq_false cj]; rfl) ?_
        exact ⟨(by show 1 ≤ sizeLine; decide), fun p hp => After.says x q (bad (by omega)) hp⟩
    · refine ifT (by rw [decide_eq_false ck]; rfl) ?_
      refine iteT ?_
      exact ⟨(by show 1 ≤ sizeLine; decide), fun p hp => After.says x q (bad (by omega)) hp⟩
end
end Pf
end
section
set_option Elab.async false
set_option linter.all false
set_option maxRecDepth 100000
set_option maxHeartbeats 2000000
namespace Pf
open PySem PySem.Spec PyProof.Rows L2 LamX SK
open Sq28 (Deed House)
theorem EachAt.zip {α : Type} {R : Addr → α → Prop} {as : List Addr} {l : List α} (h : EachAt R as l) : ∀ z ∈ as.zip l, R z.1 z.2 := fun z hz => by
  obtain ⟨i, hi⟩ := List.mem_iff_getElem?.mp hz
  obtain ⟨h1, h2⟩ := List.getElem?_zip_eq_some.mp hi
  exact h.each i z.1 z.2 h1 h2
theorem zip_fst {α β : Type} : ∀ {as : List α} {l : List β}, as.length = l.length → (as.zip l).map (·.1) = as
  | [], [], _ => rfl
  | [], _ :: _, h => by simp at h
  | _ :: _, [], h => by simp at h
  | a :: as, b :: l, h => by
    rw [List.zip_cons_cons, List.map_cons, zip_fst (by simpa using h)]
theorem zip_keep {α β γ : Type} (p : β → Bool) (f : β → γ) : ∀ {as : List α} {l : List β}, as.length = l.length → ((as.zip l).filter fun z => p z.2).map (fun z => f z.2) = (l.filter p).map f
  | [], [], _ => rfl
  | [], _ :: _, h => by simp at h
  | _ :: _, [], h => by simp at h
  | a :: as, b :: l, h => by
    have ih := zip_keep p f (as := as) (l := l) (by simpa using h)
    rw [List.zip_cons_cons, List.filter_cons, List.filter_cons]
    by_cases c : p b = true
    · rw [if_pos c, if_pos c, List.map_cons, List.map_cons, ih]
    · rw [if_neg c, if_neg c, ih]
section
variable {P : Program} {w : World} {K : PySem.W.Frag} {mg : Str → Option Value} {base : Heap}
/-! ### moves -/
def spMoves (T : List (Addr × Str)) (C CD : Addr) : Sp := fun vs H Q _ => ∃ (H0 : Hp) (a dx l1 l2 : Addr) (das kas : List Addr) (h : House) (k x : Nat), vs = [.ref a, .int k, .int x] ∧ HS T C CD H0 H a dx l1 l2 das kas h ∧ After T C CD H0 a (h.step (.moves k x)) Q
theorem scMoves : FnScope ["self", "desk", "thing", "put", "row", "found", "number"] ["self", "desk", "thing"] (defScope sMoves) := ⟨rfl, rfl, rfl, by decide +kernel, rfl, by decide +kernel, by decide +kernel⟩
theorem ok_moves {f fH fW C CD : Addr} {fd fdH fdW : FuncData} {T : List (Addr × Str)} (F : Fun K "moves" "House.moves" sMoves f fd) (TH : TxH K C) (TD : TxD K CD) (TA : TxA K mg) (TN : TxN K mg) (gl : mg "len" = none)
    (GH : FnOk P w K mg base CX0 1 fH fdH ["self", "desk"] (spHas C CD)) (mH : Meth K C "has_desk" fH) (bH : Binds K fdH ["self", "desk"] [])
    (GW : FnOk P w K mg base CX0 5 fW fdW ["self", "desk"] (spDawc C CD)) (mW : Meth K C "deeds_and_what_comes" fW) (bW : Binds K fdW ["self", "desk"] []) :
    FnOk P w K mg base CX0 6 f fd ["self", "desk", "thing"] (spMoves T C CD) := by
  refine F.ok scMoves (fun vs H Q E h => ?_) (fun cdv A outer s H vs Q E hr h => ?_)
  · obtain ⟨H0, a, dx, l1, l2, das, kas, h, k, x, rfl, _⟩ := h
    rfl
  · obtain ⟨H0, a, dx, l1, l2, das, kas, h, k, y, rfl, x, q⟩ := h
    obtain ⟨t1, h1⟩ := TN.SUCH
    obtain ⟨t2, h2⟩ := TA.PUT
    have hr1 : Room 1 _ := hr.mono (by decide)
    refine ⟨_, pss_cons (ps_if (pt_not (pt_val (pe_meth (pv 0) TH.cl mH GH hr1 bH .nil pass0 (pa_cons (pv 1) pa_nil)))) (pss_one (ps_ret (pe_lst (pa_cons (pe_num rfl h1) pa_nil)))) pss_nil)
      (pss_cons (ps_setLc (i := 3) (own := [("row", 4)]) (g := gName 4) (tt := tTest (tOp rEq (tOp (rIxT K) (tVar 4) (tC (.int 1))) (tC (.int 1)))) (te := tOp (rIxT K) (tVar 4) (tC (.int 0))) rfl scMoves.nd rfl rfl (sw_true rfl rfl rfl (by decide +kernel))
        (pi_list (pe_meth (pv 0) TH.cl mW GW hr bW .nil pass0 (pa_cons (pv 1) pa_nil)))
        (blkOk_by (own := [("row", 4)]) (N := ["self", "desk", "thing", "put", "row", "found", "number"]) (sc := defScope sMoves) (by decide +kernel)) (fun _ _ _ _ _ => pg_name (i := 4) scMoves.nd rfl (Or.inl rfl))
        (fun _ _ _ _ _ => pts_one (pt_cmpR op_eq (pe_ix ix_tup (pv 4) pe_int (fun _ _ => rfl)) (pe_num rfl h2) (nomark _))) (fun _ _ _ _ _ => pe_ix ix_tup (pv 4) pe_int (fun _ _ => rfl)))
      (pss_cons (ps_setLc (i := 5) (own := [("number", 6)]) (g := gName 6) (tt := tTest (tOp rEq (tFld K (tOp (rIxL K) (tFld K (tVar 0) "done") (tVar 6)) "thing") (tVar 2))) (te := tVar 6) rfl scMoves.nd rfl rfl (sw_true rfl rfl rfl (by decide +kernel)) (pi_list (pv 3))
        (blkOk_by (own := [("number", 6)]) (N := ["self", "desk", "thing", "put", "row", "found", "number"]) (sc := defScope sMoves) (by decide +kernel)) (fun _ _ _ _ _ => pg_name (i := 6) scMoves.nd rfl (Or.inl rfl))
        (fun _ _ _ _ _ => pts_one (pt_cmpR op_eq (pe_fld (pe_ix ix_list (pe_fld (pv 0) rfl) (pv 6) (fun _ _ => rfl)) rfl) (pv 2) (nomark _))) (fun _ _ _ _ _ => pv 6))
      (pss_one (ps_ret (pe_op op_cat (pe_lst (pa_cons (pe_callB call_len_seq (by rfl) gl PySem.boot_len (pa_cons (pv 5) pa_nil)) pa_nil)) (pv 5)))))), ?_⟩
    refine ⟨_, rfl, a, dx, _, rfl, x.at_.hi, hF_no _ _ (by decide +kernel) (by decide +kernel), _, rfl, a, dx, l1, l2, das, kas, h, k, rfl, x.at_, _, rfl, ?_⟩
    have estep : h.step (.moves k y) = if h.desks.length ≤ k then (h, Sq28.says (-2)) else (h, ⟨((Sq28.outcomes [] (h.desk k)).filter fun z => z.1.thing == y && z.2 == 1).length, Sq28.ints (((Sq28.outcomes [] (h.desk k)).filter fun z => z.1.thing == y && z.2 == 1).map fun z => z.1.id)⟩) := rfl
    rw [estep] at q
    clear estep
    by_cases ck : k < h.desks.length
    · refine ifF (by rw [decide_eq_true ck]; rfl) ?_
      rw [if_neg (by omega)] at q
      have hlen : (Sq28.outcomes [] (h.desk k)).length ≤ 100 := by
        rw [My.outcomes_len]
        exact Nat.le_trans (x.wf.desk_len (My.desk_get ck)) x.wf.len
      have hsub : ∀ z ∈ Sq28.outcomes [] (h.desk k), z.1 ∈ h.all := fun z hz => x.wf.sub ck z.1 (by
        rw [← My.outcomes_fst (h.desk k) []]
        exact List.mem_map.mpr ⟨z, hz, rfl⟩)
      refine ⟨_, rfl, a, dx, _, rfl, x.at_.hi, hF_no _ _ (by decide +kernel) (by decide +kernel), _, rfl, a, dx, l1, l2, das, kas, h, k, rfl, x.at_, x.wf, ck, fun H2 r Ts s2 hr0 hr2 hE => ?_⟩
      generalize Sq28.outcomes [] (h.desk k) = os at q hlen hsub hE
      have x2 := x.grow s2
      have eT : (Ts.zip os).map (fun z => V.ref z.1) = Ts.map V.ref := by
        have e := congrArg (List.map V.ref) (zip_fst hE.len)
        rw [List.map_map] at e
        exact e
      -- put
      refine ⟨r, rfl, ⟨_, SqL.of hr2⟩, fun D hD => ?_⟩
      refine lc_pure (K := K) (us := Ts.zip os) (vi := fun z => V.ref z.1) (vo := fun z => V.int (z.2.1.id : Int)) (keep := fun z => z.2.2 == 1) (by rw [eT]; exact SqL.of hr2) hD ?_ ?_ ?_
      · rw [List.length_zip]
        omega
      · intro z hz H' R1 R2 s5 r1 r2
        have hp : H' z.1 = some (.tup [.int (z.2.1.id : Int), .int (z.2.2 : Int)]) := s5 _ _ (hE.zip z hz)
        refine ⟨rfl, _, rfl, z.1, _, _, _, rfl, rfl, SqT.of hp, atI_nat (j := 1) rfl, rfl, _, rfl, ?_⟩
        by_cases c : z.2.2 = 1
        · refine ifT (decide_eq_true (by rw [c]; rfl)) ?_
          exact ⟨_, rfl, z.1, _, _, _, rfl, rfl, SqT.of hp, atI_nat (j := 0) rfl, r1 (by simpa using c)⟩
        · refine ifF (decide_eq_false (fun e => c (by injection e with e; omega))) ?_
          exact r2 (by simpa using c)
      · intro H3 s3 hD3
        rw [zip_keep (fun z : Deed × Nat => z.2 == 1) (fun z => V.int (z.1.id : Int)) hE.len] at hD3
        have x3 := x2.grow s3
        have hlen2 := List.length_filter_le (fun z : Deed × Nat => z.2 == 1) os
        have hsub2 : ∀ z ∈ os.filter fun z => z.2 == 1, z.1 ∈ h.all := fun z hz => hsub z (List.mem_filter.mp hz).1
        have eff : (os.filter fun z => z.2 == 1).filter (fun z => z.1.thing == y) = os.filter fun z => z.1.thing == y && z.2 == 1 := List.filter_filter
        generalize (os.filter fun z => z.2 == 1) = ps at hD3 hlen2 hsub2 eff
        -- found
        refine ⟨_, rfl, D, rfl, ⟨_, SqL.of hD3⟩, fun D2 hD2 => ?_⟩
        refine lc_pure (K := K) (us := ps) (vi := fun z => V.int (z.1.id : Int)) (vo := fun z => V.int (z.1.id : Int)) (keep := fun z => z.1.thing == y) (SqL.of hD3) hD2 (by omega) ?_ ?_
        · intro z hz H' R1 R2 s5 r1 r2
          have x5 := x3.at_.ext (Same.extN s5)
          obtain ⟨e2, dx2, tp2, g3, g4⟩ := x5.deed x.wf (hsub2 z hz)
          refine ⟨rfl, _, rfl, a, C, dx, _, _, rfl, x5.hi, TH.cl, TH.nD, hF_done _ _, _, rfl, l1, _, _, _, rfl, rfl, SqL.of x5.hd, atI_nat e2, adr das z.1, CD, dx2, _, _, rfl, g3, TD.cl, TD.nT, dF_thing _ _, _, rfl, rfl, _, rfl, ?_⟩
          by_cases c : z.1.thing = y
          · refine ifT (decide_eq_true (by rw [c])) ?_
            exact ⟨_, rfl, r1 (by simpa using c)⟩
          · refine ifF (decide_eq_false (fun e => c (by injection e with e; omega))) ?_
            exact r2 (by simpa using c)
        · intro H4 s4 hD4
          have x4 := x3.grow s4
          rw [eff] at hD4
          have hlen4 := List.length_filter_le (fun z : Deed × Nat => z.1.thing == y && z.2 == 1) os
          generalize (os.filter fun z => z.1.thing == y && z.2 == 1) = fs at q hD4 hlen4
          refine ⟨_, rfl, D2, _, rfl, .inl (SqL.of hD4), (by show 1 ≤ sizeLine; decide), fun m hm => ?_⟩
          have s5 := same_upd (o := .lst [V.int (((fs.map fun z => V.int (z.1.id : Int)).length : Nat) : Int)]) hm
          refine ⟨_, rfl, m, D2, _, _, rfl, rfl, upd_same, s5 _ _ hD4, ?_, fun p hp => ?_⟩
          · rw [List.length_map]
            exact Nat.le_trans (show _ ≤ 101 by show 1 + _ ≤ 101; omega) (by decide)
          · refine q _ dx l1 l2 das kas p ((x4.grow s5).grow (same_upd hp)) ?_ ((x4.grow s5).same.free hp)
            rw [upd_same, List.length_map]
            show _ = some (HO.lst (((fs.length : Int) :: Sq28.ints (fs.map fun z => z.1.id)).map V.int))
            unfold Sq28.ints
            rw [List.map_cons, List.map_map, List.map_map]
            rfl
    · refine ifT (by rw [decide_eq_false ck]; rfl) ?_
      rw [if_pos (by omega)] at q
      exact ⟨(by show 1 ≤ sizeLine; decide), fun p hp => After.says x q rfl hp⟩
end
end Pf
end
section
set_option Elab.async false
set_option linter.all false
set_option maxRecDepth 100000
set_option maxHeartbeats 2000000
namespace SK
open PySem PyProof.Rows L2 LamX
/-! ### d[i], a dict of the module, int keys -/
def intKeys (l : List DictEntry) : Bool := l.all fun e => match e.key with
  | .int x _ => e.hash == PySem.hashInt x
  | _ => false
theorem intKeys_all {l : List DictEntry} (h : intKeys l = true) : ∀ e ∈ l, ∃ x t, e.key = .int x t ∧ e.hash = PySem.hashInt x := fun e he => by
  have q := List.all_eq_true.mp h e he
  split at q
  · rename_i x t hk
    exact ⟨x, t, hk, by simpa using q⟩
  · cases q
def IDct (K : PySem.W.Frag) (a : Addr) (i : Int) (v : V) : Prop :=
  ∃ es n u, K.lookup a = some ⟨.type "dict", none, .dict es n, #[]⟩ ∧ intKeys es.toList = true ∧ findBy Value.isInt es i = some u ∧ RelV v u
def rIxI (K : PySem.W.Frag) : R2 := fun x y H Q => ∃ p i v, x = .ref p ∧ y = .int i ∧ IDct K p i v ∧ Q v H
theorem ix_idict {X : Cx} : IxR X (rIxI X.K) := fun value slice pins s σ H x y v u Q I rx ry ⟨p, i, r, ex, ey, ⟨es, n, u0, hl, hk, found, ru⟩, told⟩ hs => by
  subst ex ey
  cases rx
  obtain ⟨t, rfl⟩ := ry
  have hm : s.heap.MapOf (PySem.intKind X.prog X.w) p (fun k => findBy Value.isInt es k) := ⟨_, es, n, I.kIn _ _ hl, ⟨rfl, rfl, rfl⟩, rfl, fun e he => by
    obtain ⟨x, t, e1, e2⟩ := intKeys_all hk e (Array.mem_toList_iff.mpr he)
    exact ⟨x, by rw [e1]; exact intKind_is X.prog X.w x t, e2⟩, fun _ => rfl⟩
  exact tail_any hm.typeIs slot_dict_getitem.lookup (wpAny_getItem_of (intKind_is X.prog X.w i t) hm found ⟨r, H, I.tok _, ru, told⟩) hs
end SK
end
section
set_option Elab.async false
set_option linter.all false
set_option maxRecDepth 100000
set_option maxHeartbeats 2000000
namespace Pf
open PySem PySem.Spec PyProof.Rows L2 LamX SK
open Sq28 (Deed House)
abbrev sCall : Stmt := topS 38
abbrev sAnswers : Stmt := topS 39
structure TxC (K : PySem.W.Frag) (mg : Str → Option Value) : Prop where
  BEGIN : ∃ t, mg "CALL_BEGIN" = some (.int 1 t)
  MOVE : ∃ t, mg "CALL_MOVE" = some (.int 2 t)
  TELL : ∃ t, mg "CALL_TELL" = some (.int 3 t)
  MEET : ∃ t, mg "CALL_MEET" = some (.int 4 t)
  TREE : ∃ t, mg "CALL_TREE" = some (.int 5 t)
  BIN_ : ∃ t, mg "CALL_BIN" = some (.int 6 t)
  LINE : ∃ t, mg "CALL_LINE" = some (.int 7 t)
  DEEDS_ : ∃ t, mg "CALL_DEEDS" = some (.int 8 t)
  SAME : ∃ t, mg "CALL_SAME" = some (.int 9 t)
  WOULD : ∃ t, mg "CALL_WOULD" = some (.int 10 t)
section
variable {P : Program} {w : World} {K : PySem.W.Frag} {mg : Str → Option Value} {base : Heap}
/-! ### answer_call -/
def spCall (K : PySem.W.Frag) (T : List (Addr × Str)) (C CD : Addr) : Sp := fun vs H Q _ => ∃ (H0 : Hp) (a dx l1 l2 n : Addr) (das kas : List Addr) (h : House) (p : Int) (args : List Int), vs = [.ref a, .int p, .ref n] ∧ HS T C CD H0 H a dx l1 l2 das kas h ∧ SqL K H n (args.map V.int) ∧
  PySq28.shape p = some (args.length, 0) ∧ (∀ z ∈ args, 0 ≤ z) ∧ ∀ c, Sq28Neutral.callOf [p :: args] = some c → After T C CD H0 a (h.step c) Q
theorem scCall : FnScope ["house", "call", "numbers"] ["house", "call", "numbers"] (defScope sCall) := ⟨rfl, rfl, rfl, by decide +kernel, rfl, by decide +kernel, by decide +kernel⟩
theorem shape_le {p : Int} {n : Nat} (h : PySq28.shape p = some (n, 0)) : 1 ≤ p ∧ p ≤ 11 := by
  unfold PySq28.shape at h
  repeat (split at h; · rename_i e; omega)
  cases h
theorem len1 {l : List Int} (h : l.length = 1) (hz : ∀ z ∈ l, 0 ≤ z) : ∃ a : Nat, l = [(a : Int)] := by
  match l, h with
  | [a], _ => exact ⟨a.toNat, by rw [Int.toNat_of_nonneg (hz a (List.mem_cons_self ..))]⟩
theorem len2 {l : List Int} (h : l.length = 2) (hz : ∀ z ∈ l, 0 ≤ z) : ∃ a b : Nat, l = [(a : Int), (b : Int)] := by
  match l, h with
  | [a, b], _ =>
    obtain ⟨b', e⟩ := len1 (l := [b]) rfl fun z hz' => hz z (List.mem_cons_of_mem _ hz')
    cases e
    exact ⟨a.toNat, b', by rw [Int.toNat_of_nonneg (hz a (List.mem_cons_self ..))]⟩
theorem len3 {l : List Int} (h : l.length = 3) (hz : ∀ z ∈ l, 0 ≤ z) : ∃ a b c : Nat, l = [(a : Int), (b : Int), (c : Int)] := by
  match l, h with
  | [a, b, c], _ =>
    obtain ⟨b', c', e⟩ := len2 (l := [b, c]) rfl fun z hz' => hz z (List.mem_cons_of_mem _ hz')
    cases e
    exact ⟨a.toNat, b', c', by rw [Int.toNat_of_nonneg (hz a (List.mem_cons_self ..))]⟩
theorem len4 {l : List Int} (h : l.length = 4) (hz : ∀ z ∈ l, 0 ≤ z) : ∃ a b c d : Nat, l = [(a : Int), (b : Int), (c : Int), (d : Int)] := by
  match l, h with
  | [a, b, c, d], _ =>
    obtain ⟨c', d', e⟩ := len2 (l := [c, d]) rfl fun z hz' => hz z (List.mem_cons_of_mem _ (List.mem_cons_of_mem _ hz'))
    obtain ⟨a', b', e2⟩ := len2 (l := [a, b]) rfl fun z hz' => hz z (by
      rcases List.mem_cons.mp hz' with q | q
      · rw [q]; exact List.mem_cons_self ..
      · rw [List.mem_singleton.mp q]; exact List.mem_cons_of_mem _ (List.mem_cons_self ..))
    cases e
    cases e2
    exact ⟨a', b', c', d', rfl⟩
theorem ok_call {f f1 f2 f3 f4 f5 f7 f8 f9 f10 f11 C CD : Addr} {fd fd1 fd2 fd3 fd4 fd5 fd7 fd8 fd9 fd10 fd11 : FuncData} {T : List (Addr × Str)} (F : Fun K "answer_call" "answer_call" sCall f fd) (TH : TxH K C) (TA : TxA K mg) (TC : TxC K mg)
    (G1 : FnOk P w K mg base CX0 1 f1 fd1 ["self", "desks"] (spBegin T C CD)) (m1 : Meth K C "begin" f1) (b1 : Binds K fd1 ["self", "desks"] [])
    (G2 : FnOk P w K mg base CX0 7 f2 fd2 ["self", "desk", "thing", "under", "label"] (spMove T C CD)) (m2 : Meth K C "move" f2) (b2 : Binds K fd2 ["self", "desk", "thing", "under", "label"] [])
    (G3 : FnOk P w K mg base CX0 5 f3 fd3 ["self", "number", "desk"] (spTell T C CD)) (m3 : Meth K C "tell" f3) (b3 : Binds K fd3 ["self", "number", "desk"] [])
    (G4 : FnOk P w K mg base CX0 5 f4 fd4 ["self", "desk", "other"] (spMeet T C CD)) (m4 : Meth K C "meet" f4) (b4 : Binds K fd4 ["self", "desk", "other"] [])
    (G5 : FnOk P w K mg base CX0 6 f5 fd5 ["self", "desk", "top"] (spShow T C CD)) (m5 : Meth K C "show" f5) (b5 : Binds K fd5 ["self", "desk", "top"] [])
    (G7 : FnOk P w K mg base CX0 6 f7 fd7 ["self", "desk", "thing"] (spLine T C CD)) (m7 : Meth K C "line" f7) (b7 : Binds K fd7 ["self", "desk", "thing"] [])
    (G8 : FnOk P w K mg base CX0 6 f8 fd8 ["self", "desk"] (spDeeds T C CD)) (m8 : Meth K C "deeds" f8) (b8 : Binds K fd8 ["self", "desk"] [])
    (G9 : FnOk P w K mg base CX0 6 f9 fd9 ["self", "desk", "other"] (spSame T C CD)) (m9 : Meth K C "same" f9) (b9 : Binds K fd9 ["self", "desk", "other"] [])
    (G10 : FnOk P w K mg base CX0 7 f10 fd10 ["self", "desk", "thing", "under"] (spWould T C CD)) (m10 : Meth K C "would" f10) (b10 : Binds K fd10 ["self", "desk", "thing", "under"] [])
    (G11 : FnOk P w K mg base CX0 6 f11 fd11 ["self", "desk", "thing"] (spMoves T C CD)) (m11 : Meth K C "moves" f11) (b11 : Binds K fd11 ["self", "desk", "thing"] []) :
    FnOk P w K mg base CX0 8 f fd ["house", "call", "numbers"] (spCall K T C CD) := by
  refine F.ok scCall (fun vs H Q E h => ?_) (fun cdv A outer s H vs Q E hr h => ?_)
  · obtain ⟨H0, a, dx, l1, l2, n, das, kas, h, p, args, rfl, _⟩ := h
    rfl
  · obtain ⟨H0, a, dx, l1, l2, n, das, kas, h, p, args, rfl, x, hn, hsh, hz, q⟩ := h
    obtain ⟨t1, g1⟩ := TC.BEGIN
    obtain ⟨t2, g2⟩ := TC.MOVE
    obtain ⟨t3, g3⟩ := TC.TELL
    obtain ⟨t4, g4⟩ := TC.MEET
    obtain ⟨t5, g5⟩ := TC.TREE
    obtain ⟨t6, g6⟩ := TC.BIN_
    obtain ⟨t7, g7⟩ := TC.LINE
    obtain ⟨t8, g8⟩ := TC.DEEDS_
    obtain ⟨t9, g9⟩ := TC.SAME
    obtain ⟨t10, g10⟩ := TC.WOULD
    obtain ⟨tR, gR⟩ := TA.ROOT
    obtain ⟨tB, gB⟩ := TA.BIN
    have hr1 : Room 1 _ := hr.mono (by decide)
    have hr5 : Room 5 _ := hr.mono (by decide)
    have hr6 : Room 6 _ := hr.mono (by decide)
    refine ⟨_, (pss_cons (ps_if (pt_cmpR op_eq (pv 1) (pe_num rfl g1) (nomark _)) (pss_one (ps_ret (pe_meth (pv 0) TH.cl m1 G1 hr1 b1 .nil pass0 (pa_cons (pe_ix ix_list (pv 2) pe_int (fun _ _ => rfl)) pa_nil)))) pss_nil)
      (pss_cons (ps_if (pt_cmpR op_eq (pv 1) (pe_num rfl g2) (nomark _)) (pss_one (ps_ret (pe_meth (pv 0) TH.cl m2 G2 hr b2 .nil pass0 (pa_cons (pe_ix ix_list (pv 2) pe_int (fun _ _ => rfl)) (pa_cons (pe_ix ix_list (pv 2) pe_int (fun _ _ => rfl)) (pa_cons (pe_ix ix_list (pv 2) pe_int (fun _ _ => rfl)) (pa_cons (pe_ix ix_list (pv 2) pe_int (fun _ _ => rfl)) pa_nil))))))) pss_nil)
      (pss_cons (ps_if (pt_cmpR op_eq (pv 1) (pe_num rfl g3) (nomark _)) (pss_one (ps_ret (pe_meth (pv 0) TH.cl m3 G3 hr5 b3 .nil pass0 (pa_cons (pe_ix ix_list (pv 2) pe_int (fun _ _ => rfl)) (pa_cons (pe_ix ix_list (pv 2) pe_int (fun _ _ => rfl)) pa_nil))))) pss_nil)
      (pss_cons (ps_if (pt_cmpR op_eq (pv 1) (pe_num rfl g4) (nomark _)) (pss_one (ps_ret (pe_meth (pv 0) TH.cl m4 G4 hr5 b4 .nil pass0 (pa_cons (pe_ix ix_list (pv 2) pe_int (fun _ _ => rfl)) (pa_cons (pe_ix ix_list (pv 2) pe_int (fun _ _ => rfl)) pa_nil))))) pss_nil)
      (pss_cons (ps_if (pt_cmpR op_eq (pv 1) (pe_num rfl g5) (nomark _)) (pss_one (ps_ret (pe_meth (pv 0) TH.cl m5 G5 hr6 b5 .nil pass0 (pa_cons (pe_ix ix_list (pv 2) pe_int (fun _ _ => rfl)) (pa_cons (pe_num rfl gR) pa_nil))))) pss_nil)
      (pss_cons (ps_if (pt_cmpR op_eq (pv 1) (pe_num rfl g6) (nomark _)) (pss_one (ps_ret (pe_meth (pv 0) TH.cl m5 G5 hr6 b5 .nil pass0 (pa_cons (pe_ix ix_list (pv 2) pe_int (fun _ _ => rfl)) (pa_cons (pe_num rfl gB) pa_nil))))) pss_nil)
      (pss_cons (ps_if (pt_cmpR op_eq (pv 1) (pe_num rfl g7) (nomark _)) (pss_one (ps_ret (pe_meth (pv 0) TH.cl m7 G7 hr6 b7 .nil pass0 (pa_cons (pe_ix ix_list (pv 2) pe_int (fun _ _ => rfl)) (pa_cons (pe_ix ix_list (pv 2) pe_int (fun _ _ => rfl)) pa_nil))))) pss_nil)
      (pss_cons (ps_if (pt_cmpR op_eq (pv 1) (pe_num rfl g8) (nomark _)) (pss_one (ps_ret (pe_meth (pv 0) TH.cl m8 G8 hr6 b8 .nil pass0 (pa_cons (pe_ix ix_list (pv 2) pe_int (fun _ _ => rfl)) pa_nil)))) pss_nil)
      (pss_cons (ps_if (pt_cmpR op_eq (pv 1) (pe_num rfl g9) (nomark _)) (pss_one (ps_ret (pe_meth (pv 0) TH.cl m9 G9 hr6 b9 .nil pass0 (pa_cons (pe_ix ix_list (pv 2) pe_int (fun _ _ => rfl)) (pa_cons (pe_ix ix_list (pv 2) pe_int (fun _ _ => rfl)) pa_nil))))) pss_nil)
      (pss_cons (ps_if (pt_cmpR op_eq (pv 1) (pe_num rfl g10) (nomark _)) (pss_one (ps_ret (pe_meth (pv 0) TH.cl m10 G10 hr b10 .nil pass0 (pa_cons (pe_ix ix_list (pv 2) pe_int (fun _ _ => rfl)) (pa_cons (pe_ix ix_list (pv 2) pe_int (fun _ _ => rfl)) (pa_cons (pe_ix ix_list (pv 2) pe_int (fun _ _ => rfl)) pa_nil)))))) pss_nil)
      (pss_one (ps_ret (pe_meth (pv 0) TH.cl m11 G11 hr6 b11 .nil pass0 (pa_cons (pe_ix ix_list (pv 2) pe_int (fun _ _ => rfl)) (pa_cons (pe_ix ix_list (pv 2) pe_int (fun _ _ => rfl)) pa_nil))))))))))))))), ?_⟩
    have ia := x.at_.hi
    have eqT : ∀ {i j : Int}, i = j → decide (V.int i = V.int j) = true := fun e => decide_eq_true (by rw [e])
    have eqF : ∀ {i j : Int}, i ≠ j → decide (V.int i = V.int j) = false := fun e => decide_eq_false (fun z => e (by injection z))
    obtain ⟨p1, p11⟩ := shape_le hsh
    refine ⟨_, rfl, rfl, _, rfl, ?_⟩
    by_cases c1 : p = 1
    · subst c1
      refine ifT (eqT rfl) ?_
      have hl : args.length = 1 := (congrArg Prod.fst (Option.some.inj (show some ((1 : Nat), (0 : Nat)) = some (args.length, 0) from hsh))).symm
      obtain ⟨y, rfl⟩ := len1 hl hz
      exact ⟨_, rfl, a, dx, _, rfl, ia, hF_no _ _ (by decide +kernel) (by decide +kernel), _, rfl, n, _, _, _, rfl, rfl, hn, atI_nat (j := 0) rfl, H0, a, dx, l1, l2, das, kas, h, y, rfl, x, q _ rfl⟩
    refine ifF (eqF c1) ?_
    refine ⟨_, rfl, rfl, _, rfl, ?_⟩
    by_cases c2 : p = 2
    · subst c2
      refine ifT (eqT rfl) ?_
      have hl : args.length = 4 := (congrArg Prod.fst (Option.some.inj (show some ((4 : Nat), (0 : Nat)) = some (args.length, 0) from hsh))).symm
      obtain ⟨y1, y2, y3, y4, rfl⟩ := len4 hl hz
      exact ⟨_, rfl, a, dx, _, rfl, ia, hF_no _ _ (by decide +kernel) (by decide +kernel), _, rfl, n, _, _, _, rfl, rfl, hn, atI_nat (j := 0) rfl, _, rfl, n, _, _, _, rfl, rfl, hn, atI_nat (j := 1) rfl, _, rfl, n, _, _, _, rfl, rfl, hn, atI_nat (j := 2) rfl, _, rfl, n, _, _, _, rfl, rfl, hn, atI_nat (j := 3) rfl, H0, a, dx, l1, l2, das, kas, h, y1, y2, y3, y4, rfl, x, q _ rfl⟩
    refine ifF (eqF c2) ?_
    refine ⟨_, rfl, rfl, _, rfl, ?_⟩
    by_cases c3 : p = 3
    · subst c3
      refine ifT (eqT rfl) ?_
      have hl : args.length = 2 := (congrArg Prod.fst (Option.some.inj (show some ((2 : Nat), (0 : Nat)) = some (args.length, 0) from hsh))).symm
      obtain ⟨y1, y2, rfl⟩ := len2 hl hz
      exact ⟨_, rfl, a, dx, _, rfl, ia, hF_no _ _ (by decide +kernel) (by decide +kernel), _, rfl, n, _, _, _, rfl, rfl, hn, atI_nat (j := 0) rfl, _, rfl, n, _, _, _, rfl, rfl, hn, atI_nat (j := 1) rfl, H0, a, dx, l1, l2, das, kas, h, y1, y2, rfl, x, q _ rfl⟩
    refine ifF (eqF c3) ?_
    refine ⟨_, rfl, rfl, _, rfl, ?_⟩
    by_cases c4 : p = 4
    · subst c4
      refine ifT (eqT rfl) ?_
      have hl : args.length = 2 := (congrArg Prod.fst (Option.some.inj (show some ((2 : Nat), (0 : Nat)) = some (args.length, 0) from hsh))).symm
      obtain ⟨y1, y2, rfl⟩ := len2 hl hz
      exact ⟨_, rfl, a, dx, _, rfl, ia, hF_no _ _ (by decide +kernel) (by decide +kernel), _, rfl, n, _, _, _, rfl, rfl, hn, atI_nat (j := 0) rfl, _, rfl, n, _, _, _, rfl, rfl, hn, atI_nat (j := 1) rfl, H0, a, dx, l1, l2, das, kas, h, y1, y2, rfl, x, q _ rfl⟩
    refine ifF (eqF c4) ?_
    refine ⟨_, rfl, rfl, _, rfl, ?_⟩
    by_cases c5 : p = 5
    · subst c5
      refine ifT (eqT rfl) ?_
      have hl : args.length = 1 := (congrArg Prod.fst (Option.some.inj (show some ((1 : Nat), (0 : Nat)) = some (args.length, 0) from hsh))).symm
      obtain ⟨y, rfl⟩ := len1 hl hz
      exact ⟨_, rfl, a, dx, _, rfl, ia, hF_no _ _ (by decide +kernel) (by decide +kernel), _, rfl, n, _, _, _, rfl, rfl, hn, atI_nat (j := 0) rfl, H0, a, dx, l1, l2, das, kas, h, y, 0, rfl, x, q _ rfl⟩
    refine ifF (eqF c5) ?_
    refine ⟨_, rfl, rfl, _, rfl, ?_⟩
    by_cases c6 : p = 6
    · subst c6
      refine ifT (eqT rfl) ?_
      have hl : args.length = 1 := (congrArg Prod.fst (Option.some.inj (show some ((1 : Nat), (0 : Nat)) = some (args.length, 0) from hsh))).symm
      obtain ⟨y, rfl⟩ := len1 hl hz
      exact ⟨_, rfl, a, dx, _, rfl, ia, hF_no _ _ (by decide +kernel) (by decide +kernel), _, rfl, n, _, _, _, rfl, rfl, hn, atI_nat (j := 0) rfl, H0, a, dx, l1, l2, das, kas, h, y, 1, rfl, x, q _ rfl⟩
    refine ifF (eqF c6) ?_
    refine ⟨_, rfl, rfl, _, rfl, ?_⟩
    by_cases c7 : p = 7
    · subst c7
      refine ifT (eqT rfl) ?_
      have hl : args.length = 2 := (congrArg Prod.fst (Option.some.inj (show some ((2 : Nat), (0 : Nat)) = some (args.length, 0) from hsh))).symm
      obtain ⟨y1, y2, rfl⟩ := len2 hl hz
      exact ⟨_, rfl, a, dx, _, rfl, ia, hF_no _ _ (by decide +kernel) (by decide +kernel), _, rfl, n, _, _, _, rfl, rfl, hn, atI_nat (j := 0) rfl, _, rfl, n, _, _, _, rfl, rfl, hn, atI_nat (j := 1) rfl, H0, a, dx, l1, l2, das, kas, h, y1, y2, rfl, x, q _ rfl⟩
    refine ifF (eqF c7) ?_
    refine ⟨_, rfl, rfl, _, rfl, ?_⟩
    by_cases c8 : p = 8
    · subst c8
      refine ifT (eqT rfl) ?_
      have hl : args.length = 1 := (congrArg Prod.fst (Option.some.inj (show some ((1 : Nat), (0 : Nat)) = some (args.length, 0) from hsh))).symm
      obtain ⟨y, rfl⟩ := len1 hl hz
      exact ⟨_, rfl, a, dx, _, rfl, ia, hF_no _ _ (by decide +kernel) (by decide +kernel), _, rfl, n, _, _, _, rfl, rfl, hn, atI_nat (j := 0) rfl, H0, a, dx, l1, l2, das, kas, h, y, rfl, x, q _ rfl⟩
    refine ifF (eqF c8) ?_
    refine ⟨_, rfl, rfl, _, rfl, ?_⟩
    by_cases c9 : p = 9
    · subst c9
      refine ifT (eqT rfl) ?_
      have hl : args.length = 2 := (congrArg Prod.fst (Option.some.inj (show some ((2 : Nat), (0 : Nat)) = some (args.length, 0) from hsh))).symm
      obtain ⟨y1, y2, rfl⟩ := len2 hl hz
      exact ⟨_, rfl, a, dx, _, rfl, ia, hF_no _ _ (by decide +kernel) (by decide +kernel), _, rfl, n, _, _, _, rfl, rfl, hn, atI_nat (j := 0) rfl, _, rfl, n, _, _, _, rfl, rfl, hn, atI_nat (j := 1) rfl, H0, a, dx, l1, l2, das, kas, h, y1, y2, rfl, x, q _ rfl⟩
    refine ifF (eqF c9) ?_
    refine ⟨_, rfl, rfl, _, rfl, ?_⟩
    by_cases c10 : p = 10
    · subst c10
      refine ifT (eqT rfl) ?_
      have hl : args.length = 3 := (congrArg Prod.fst (Option.some.inj (show some ((3 : Nat), (0 : Nat)) = some (args.length, 0) from hsh))).symm
      obtain ⟨y1, y2, y3, rfl⟩ := len3 hl hz
      exact ⟨_, rfl, a, dx, _, rfl, ia, hF_no _ _ (by decide +kernel) (by decide +kernel), _, rfl, n, _, _, _, rfl, rfl, hn, atI_nat (j := 0) rfl, _, rfl, n, _, _, _, rfl, rfl, hn, atI_nat (j := 1) rfl, _, rfl, n, _, _, _, rfl, rfl, hn, atI_nat (j := 2) rfl, H0, a, dx, l1, l2, das, kas, h, y1, y2, y3, rfl, x, q _ rfl⟩
    refine ifF (eqF c10) ?_
    have c11 : p = 11 := by omega
    subst c11
    have hl : args.length = 2 := (congrArg Prod.fst (Option.some.inj (show some ((2 : Nat), (0 : Nat)) = some (args.length, 0) from hsh))).symm
    obtain ⟨y1, y2, rfl⟩ := len2 hl hz
    exact ⟨_, rfl, a, dx, _, rfl, ia, hF_no _ _ (by decide +kernel) (by decide +kernel), _, rfl, n, _, _, _, rfl, rfl, hn, atI_nat (j := 0) rfl, _, rfl, n, _, _, _, rfl, rfl, hn, atI_nat (j := 1) rfl, H0, a, dx, l1, l2, das, kas, h, y1, y2, rfl, x, q _ rfl⟩
end
end Pf
end
section
set_option Elab.async false
set_option linter.all false
set_option maxRecDepth 100000
set_option maxHeartbeats 2000000
namespace Pf
open PySem PySem.Spec PyProof.Rows L2 LamX SK
open Sq28 (Deed House)
/-- what was handed in at a, as far as it is tracked -/
theorem argS {K : PySem.W.Frag} {H : Hp} {a : Addr} {xs : List V} (h : SqL K H a xs) : ∃ S : Hp, Same S H ∧ SqL K S a xs ∧ ∀ b o, S b = some o → ∀ ps, o ≠ .tbl ps := by
  have just : ∀ {u o : HO} {b : Addr}, (if b = a then some u else none) = some o → b = a ∧ u = o := fun {u o b} z => by
    split at z
    · exact ⟨‹_›, Option.some.inj z⟩
    · cases z
  have sub : ∀ u : HO, H a = some u → (∀ ps, u ≠ .tbl ps) → SqL K (fun b => if b = a then some u else none) a xs → ∃ S : Hp, Same S H ∧ SqL K S a xs ∧ ∀ b o, S b = some o → ∀ ps, o ≠ .tbl ps := fun u e no q =>
    ⟨_, fun b o z => by rw [(just z).1, ← (just z).2]; exact e, q, fun b o z => by rw [← (just z).2]; exact no⟩
  match h with
  | .inl (.inl e) => exact sub _ e (fun _ z => by cases z) (.inl (.inl (if_pos rfl)))
  | .inl (.inr ⟨o, e⟩) => exact sub _ e (fun _ z => by cases z) (.inl (.inr ⟨o, if_pos rfl⟩))
  | .inr q => exact ⟨fun _ => none, fun _ _ e => (by cases e), .inr q, fun _ _ e => (by cases e)⟩
/-- that, and the list of answers at y -/
def kept (S : Hp) (y : Addr) (H : Hp) : Hp := fun b => if b = y then H b else S b
theorem kept_y {S : Hp} {y : Addr} {H : Hp} : kept S y H y = H y := if_pos rfl
theorem kept_ne {S : Hp} {y b : Addr} {H : Hp} (h : b ≠ y) : kept S y H b = S b := if_neg h
theorem kept_same {S : Hp} {y : Addr} {H : Hp} (s : Same S H) : Same (kept S y H) H := fun b o e => by
  by_cases h : b = y
  · rw [h, kept_y] at e
    rw [h]
    exact e
  · rw [kept_ne h] at e
    exact s _ _ e
theorem cut_nat {xs : List V} {i j : Nat} (h1 : i ≤ j) (h2 : j ≤ xs.length) : cutV xs (some (i : Int)) (some (j : Int)) = (xs.drop i).take (j - i) := by
  unfold cutV
  rw [HT.sIx_nat, HT.sIx_nat, Nat.min_eq_left h2, Nat.min_eq_left (Nat.le_trans h1 h2)]
/-- the list of answers written -/
theorem HS.write {T : List (Addr × Str)} {C CD : Addr} {S H0 H : Hp} {a dx l1 l2 y : Addr} {das kas : List Addr} {h : House} {us xs zs : List V} (x : HS T C CD (kept S y H0) H a dx l1 l2 das kas h) (hy0 : H0 y = some (.lst us)) (hS : S y = none) (hy : H y = some (.lst xs)) :
    HS T C CD (kept S y (upd H y (.lst zs))) (upd H y (.lst zs)) a dx l1 l2 das kas h := by
  have ne : ∀ b, kept S y H0 b = none → b ≠ y ∧ S b = none := fun b e => by
    have hb : b ≠ y := fun z => by rw [z, kept_y, hy0] at e; cases e
    rw [kept_ne hb] at e
    exact ⟨hb, e⟩
  have tr : ∀ b, kept S y H0 b = none → kept S y (upd H y (.lst zs)) b = none := fun b e => by rw [kept_ne (ne b e).1]; exact (ne b e).2
  refine ⟨⟨by rw [upd_ne (ne _ x.na).1]; exact x.at_.hi, by rw [upd_ne (ne _ x.n1).1]; exact x.at_.hd, by rw [upd_ne (ne _ x.n2).1]; exact x.at_.hk, x.at_.ds.list hy, x.at_.ls.list fun k hk => (ne _ (x.nk k hk)).1, x.at_.ne, x.at_.ne1, x.at_.ne2⟩, kept_same fun b o e => ?_, tr _ x.na, tr _ x.n1, tr _ x.n2, fun k hk => tr _ (x.nk k hk), tabs_list x.tabs hy, fun b o e ps z => ?_, x.wf⟩
  · have hb : b ≠ y := fun z => by rw [z, hS] at e; cases e
    rw [upd_ne hb]
    exact x.same _ _ (by rw [kept_ne hb]; exact e)
  · by_cases hb : b = y
    · rw [hb, kept_y, upd_same] at e
      cases e
      cases z
    · rw [kept_ne hb] at e
      exact x.nt b o (by rw [kept_ne hb]; exact e) ps z
theorem callOf_some {p : Int} {args : List Int} (h : PySq28.shape p = some (args.length, 0)) : ∃ c, Sq28Neutral.callOf [p :: args] = some c := by
  have key : ∀ (q : Int) (n : Nat), PySq28.shape q = some (n, 0) → p = q → args.length = n := fun q n e z => by
    rw [z, e] at h
    exact (congrArg Prod.fst (Option.some.inj h)).symm
  obtain ⟨h1, h2⟩ := shape_le h
  have cs : p = 1 ∨ p = 2 ∨ p = 3 ∨ p = 4 ∨ p = 5 ∨ p = 6 ∨ p = 7 ∨ p = 8 ∨ p = 9 ∨ p = 10 ∨ p = 11 := by omega
  rcases cs with e | e | e | e | e | e | e | e | e | e | e
  · have hl := key 1 1 rfl e
    match args, hl with
    | [a], _ => rw [e]; exact ⟨_, rfl⟩
  · have hl := key 2 4 rfl e
    match args, hl with
    | [a, b, c, d], _ => rw [e]; exact ⟨_, rfl⟩
  · have hl := key 3 2 rfl e
    match args, hl with
    | [a, b], _ => rw [e]; exact ⟨_, rfl⟩
  · have hl := key 4 2 rfl e
    match args, hl with
    | [a, b], _ => rw [e]; exact ⟨_, rfl⟩
  · have hl := key 5 1 rfl e
    match args, hl with
    | [a], _ => rw [e]; exact ⟨_, rfl⟩
  · have hl := key 6 1 rfl e
    match args, hl with
    | [a], _ => rw [e]; exact ⟨_, rfl⟩
  · have hl := key 7 2 rfl e
    match args, hl with
    | [a, b], _ => rw [e]; exact ⟨_, rfl⟩
  · have hl := key 8 1 rfl e
    match args, hl with
    | [a], _ => rw [e]; exact ⟨_, rfl⟩
  · have hl := key 9 2 rfl e
    match args, hl with
    | [a, b], _ => rw [e]; exact ⟨_, rfl⟩
  · have hl := key 10 3 rfl e
    match args, hl with
    | [a, b, c], _ => rw [e]; exact ⟨_, rfl⟩
  · have hl := key 11 2 rfl e
    match args, hl with
    | [a, b], _ => rw [e]; exact ⟨_, rfl⟩
section
variable {P : Program} {w : World} {K : PySem.W.Frag} {mg : Str → Option Value} {base : Heap}
/-! ### answers -/
def spAns (K : PySem.W.Frag) (T : List (Addr × Str)) : Sp := fun vs H Q _ => ∃ (a : Addr) (ns : List Int) (raw : List (List (List Int))), vs = [.ref a] ∧ SqL K H a (ns.map V.int) ∧ ns.length ≤ 1000 ∧ (∀ z ∈ ns, 0 ≤ z) ∧
  PyFlat.calls PySq28.shape ns.length ns = some raw ∧ (PySq28.answers ns).length ≤ 10000000 ∧ Tabs T H ∧ ∀ (H' : Hp) (p : Addr), H' p = some (.lst ((PySq28.answers ns).map V.int)) → Q (.ref p) H'
theorem scAns : FnScope ["calls", "house", "answered", "at", "call", "behind", "answer"] ["calls"] (defScope sAnswers) := ⟨rfl, rfl, rfl, by decide +kernel, rfl, by decide +kernel, by decide +kernel⟩
/-- between two turns -/
def AnsI (K : PySem.W.Frag) (T : List (Addr × Str)) (C CD : Addr) (S : Hp) (a x y : Addr) (ns : List Int) : Nat → L2.St → Hp → Prop := fun m σ H' => ∃ (i f : Nat) (v4 v5 v6 : Option V) (out : List Int) (cs : List (List (List Int))) (h : House) (dx l1 l2 : Addr) (das kas : List Addr),
  σ = [some (.ref a), some (.ref x), some (.ref y), some (.int i), v4, v5, v6] ∧ i ≤ ns.length ∧ m = ns.length - i ∧ HS T C CD (kept S y H') H' x dx l1 l2 das kas h ∧ H' y = some (.lst (out.map V.int)) ∧
  PyFlat.calls PySq28.shape f (ns.drop i) = some cs ∧ PySq28.answers ns = out ++ PyFlat.told (PyFlat.played Sq28Neutral.step h cs)
theorem ok_ans {f fI fC C CD aN : Addr} {fd fdI fdC : FuncData} {T : List (Addr × Str)} (F : Fun K "answers" "answers" sAnswers f fd) (gl : mg "len" = none)
    (GI : FnOk P w K mg base CX0 1 fI fdI ["self"] (spInit C CD)) (MI : Mk K C fI) (gH : mg "House" = some (.ref C)) (bI : Binds K fdI ["self"] [])
    (gN : mg "NUMBERS_OF_CALL" = some (.ref aN)) (hN : ∀ (p : Int) (n : Nat), PySq28.shape p = some (n, 0) → IDct K aN p (.int n))
    (GC : FnOk P w K mg base CX0 8 fC fdC ["house", "call", "numbers"] (spCall K T C CD)) (kC : PySem.W.keepIn K (.ref fC) = true) (gC : mg "answer_call" = some (.ref fC)) (bC : Binds K fdC ["house", "call", "numbers"] []) :
    FnOk P w K mg base CX0 9 f fd ["calls"] (spAns K T) := by
  refine F.ok scAns (fun vs H Q E h => ?_) (fun cdv A outer s H vs Q E hr h => ?_)
  · obtain ⟨a, ns, raw, rfl, _⟩ := h
    rfl
  · obtain ⟨a, ns, raw, rfl, hS, hlen, hpos, hraw, hbig, htab, q⟩ := h
    have hr2 : Room 2 _ := hr.mono (by decide)
    obtain ⟨S, sa1, sa2, sa3⟩ := argS hS
    refine ⟨_, pss_cons (ps_set (i := 1) scAns.nd rfl (Or.inl rfl) (pe_make0 MI GI hr2 rfl gH bI .nil pass0))
      (pss_cons (ps_set (i := 2) scAns.nd rfl (Or.inl rfl) (pe_lst pa_nil))
      (pss_cons (ps_set (i := 3) scAns.nd rfl (Or.inl rfl) pe_int)
      (pss_cons (ps_while PassesOwn.never (pt_cmpR op_lt (pv 3) (pe_callB call_len_seq (by rfl) gl PySem.boot_len (pa_cons (pv 0) pa_nil)) (nomark _))
        (pss_cons (ps_set (i := 4) scAns.nd rfl (Or.inl rfl) (pe_ix ix_list (pv 0) (pv 3) (fun _ _ => rfl)))
        (pss_cons (ps_set (i := 5) scAns.nd rfl (Or.inl rfl) (pe_op op_add (pe_op op_add (pv 3) pe_int) (pe_ix ix_idict (pe_glob (v := .ref aN) rfl gN rfl) (pv 4) (fun _ _ => rfl))))
        (pss_cons (ps_set (i := 6) scAns.nd rfl (Or.inl rfl) (pe_call GC hr rfl gC kC bC .nil pass0 (pa_cons (pv 1) (pa_cons (pv 4) (pa_cons (pe_slice sl_list (pv 0) (po_some (pe_op op_add (pv 3) pe_int)) (po_some (pv 5))) pa_nil)))))
        (pss_cons (ps_expr (pe_bm PySem.F.plainAttrs_list PySem.F.slot_list_append PySem.F.type_list_append mt_append (pv 2) (pa_cons (pe_callB call_len_seq (by rfl) gl PySem.boot_len (pa_cons (pv 6) pa_nil)) pa_nil)))
        (pss_cons (ps_expr (pe_bm PySem.F.plainAttrs_list PySem.F.slot_list_extend PySem.F.type_list_extend mt_extend (pv 2) (pa_cons (pv 6) pa_nil)))
        (pss_one (ps_set (i := 3) scAns.nd rfl (Or.inl rfl) (pv 5)))))))))
      (pss_one (ps_ret (pv 2)))))), ?_⟩
    -- house = House()
    intro x dx nx ndx nex
    refine ⟨x, dx, rfl, upd_same, fun H1 l1 l2 kas hx h1 h2 h3 keep => ⟨rfl, ?_⟩⟩
    have s1 : Same H H1 := fun b o e => keep b o (by rw [upd_ne (ne_of_none e nx), upd_ne (ne_of_none e ndx)]; exact e) (ne_of_none e nx)
    have fr : ∀ b, upd (upd H dx (.own x)) x (.ins C dx []) b = none → H b = none := fun b e => by
      have e1 : b ≠ x := fun z => by rw [z, upd_same] at e; cases e
      rw [upd_ne e1] at e
      have e2 : b ≠ dx := fun z => by rw [z, upd_same] at e; cases e
      rw [upd_ne e2] at e
      exact e
    refine ⟨Nat.zero_le _, fun y hy => ?_⟩
    have s2 := same_upd (o := .lst []) hy
    have hyy : upd H1 y (.lst []) y = some (.lst []) := upd_same
    have hx2 := hx.ext (Same.extN s2)
    have hyn : ∀ b o, H1 b = some o → b ≠ y := fun b o e => ne_of_none e hy
    generalize upd H1 y (.lst []) = H2 at s2 hyy hx2
    have hSy : S y = none := sa1.free (s1.free hy)
    have s02 : Same S H2 := (sa1.trans s1).trans s2
    have hkas : ∀ k ∈ kas, S k = none ∧ k ≠ y := fun k hk => by
      obtain ⟨i, hi⟩ := List.mem_iff_getElem?.mp hk
      have hil : i < Sq28.fresh.desks.length := by rw [← hx.ls.len]; exact (List.getElem?_eq_some_iff.mp hi).1
      exact ⟨sa1.free (fr _ (h3 k hk)), hyn _ _ (hx.ls.each i k _ hi (List.getElem?_eq_getElem hil))⟩
    refine ⟨AnsI K T C CD S a x y ns, ⟨_, 0, ns.length, none, none, none, [], raw, Sq28.fresh, dx, l1, l2, [], kas, rfl, Nat.zero_le _, rfl, ⟨hx2, kept_same s02, ?_, ?_, ?_, ?_, ?_, ?_, My.wf_fresh⟩, hyy, hraw, ?_⟩, ?_⟩
    · rw [kept_ne (hyn _ _ hx.hi)]
      exact sa1.free nx
    · rw [kept_ne (hyn _ _ hx.hd)]
      exact sa1.free (fr _ h1)
    · rw [kept_ne (hyn _ _ hx.hk)]
      exact sa1.free (fr _ h2)
    · intro k hk
      rw [kept_ne (hkas k hk).2]
      exact (hkas k hk).1
    · exact (htab.ext s1).ext s2
    · intro b o e ps z
      by_cases hb : b = y
      · rw [hb, kept_y, hyy] at e
        cases e
        cases z
      · rw [kept_ne hb] at e
        exact sa3 b o e ps z
    · rw [My.calls_some hraw]
      rfl
    · rintro m σ H3 ⟨i, f, v4, v5, v6, out, cs, h, dx, l1, l2, das, kas, rfl, hi, rfl, x3, hy3, hcs, hans⟩
      have s03 : Same S H3 := fun b o e => x3.same b o (by
        by_cases hb : b = y
        · rw [hb, hSy] at e
          cases e
        · rw [kept_ne hb]; exact e)
      have hS3 := s03.seq sa2
      refine ⟨_, rfl, _, rfl, a, _, rfl, .inl hS3, _, _, rfl, rfl, _, rfl, ?_⟩
      by_cases c : i < ns.length
      · refine ifT (decide_eq_true (by rw [List.length_map]; omega)) ?_
        have hd : ns.drop i = ns[i] :: ns.drop (i + 1) := List.drop_eq_getElem_cons c
        have hg : ns[i]? = some ns[i] := List.getElem?_eq_getElem c
        have hpi : 0 ≤ ns[i] := hpos _ (List.getElem_mem c)
        generalize ns[i] = p at hd hg hpi
        rw [hd] at hcs
        cases f with
        | zero => cases hcs
        | succ f =>
          obtain ⟨n, cs', hsh, hn, rfl, hcs'⟩ := My.calls_cons hcs
          rw [List.length_drop] at hn
          -- call = calls[at]; behind = at + 1 + NUMBERS_OF_CALL[call]
          refine ⟨fun σ' H' => ∃ m', m' < ns.length - i ∧ AnsI K T C CD S a x y ns m' σ' H', fun σ' H' h => h, ?_⟩
          refine ⟨_, rfl, _, rfl, a, _, _, _, rfl, rfl, hS3, atI_nat (by rw [List.getElem?_map, hg]; rfl), ?_⟩
          refine ⟨_, rfl, _, _, rfl, rfl, _, rfl, aN, p, _, rfl, rfl, hN p n hsh, _, _, rfl, rfl, ?_⟩
          -- answer = answer_call(house, call, calls[at + 1:behind])
          refine ⟨_, rfl, _, rfl, _, rfl, _, rfl, _, _, rfl, rfl, _, rfl, _, rfl, _, rfl, a, _, rfl, hS3, fun r hr0 => ?_⟩
          have ecut : cutV (ns.map V.int) (some ((i : Int) + 1)) (some ((i : Int) + 1 + (n : Int))) = ((ns.drop (i + 1)).take n).map V.int := by
            have e1 : ((i : Int) + 1) = ((i + 1 : Nat) : Int) := by omega
            have e2 : ((i : Int) + 1 + (n : Int)) = ((i + 1 + n : Nat) : Int) := by omega
            rw [e2, e1, cut_nat (by omega) (by rw [List.length_map]; omega), ← List.map_drop, ← List.map_take]
            congr 2
            omega
          rw [ecut]
          have hal : ((ns.drop (i + 1)).take n).length = n := by rw [List.length_take, List.length_drop]; omega
          have hap : ∀ z ∈ (ns.drop (i + 1)).take n, 0 ≤ z := fun z hz => hpos z (List.mem_of_mem_drop (List.mem_of_mem_take hz))
          have s4 := same_upd (o := .lst (((ns.drop (i + 1)).take n).map V.int)) hr0
          have hr4 : upd H3 r (.lst (((ns.drop (i + 1)).take n).map V.int)) r = some (.lst (((ns.drop (i + 1)).take n).map V.int)) := upd_same
          generalize upd H3 r (.lst (((ns.drop (i + 1)).take n).map V.int)) = H4 at s4 hr4
          obtain ⟨c0, hc0⟩ := callOf_some (p := p) (args := (ns.drop (i + 1)).take n) (by rw [hal]; exact hsh)
          have hst := My.step_of (s := h) hc0
          refine ⟨kept S y H3, x, dx, l1, l2, r, das, kas, h, p, (ns.drop (i + 1)).take n, rfl, x3.grow s4, SqL.of hr4, by rw [hal]; exact hsh, hap, fun c1 hc1 H5 dx5 l15 l25 das5 kas5 pa x5 hpa hp0 => ?_⟩
          rw [hc0] at hc1
          cases hc1
          rw [My.told_cons, hst] at hans
          have hans : PySq28.answers ns = out ++ ((((ans (h.step c0).2).length : Nat) : Int) :: (ans (h.step c0).2 ++ PyFlat.told (PyFlat.played Sq28Neutral.step (h.step c0).1 cs'))) := hans
          have npy : pa ≠ y := fun z => by rw [z, kept_y, hy3] at hp0; cases hp0
          have hy5 : H5 y = some (.lst (out.map V.int)) := x5.same y _ (by rw [kept_y]; exact hy3)
          have hlen' : out.length + 1 + (ans (h.step c0).2).length ≤ 10000000 := by
            have e1 := congrArg List.length hans
            rw [List.length_append, List.length_cons, List.length_append] at e1
            omega
          have hbound : ∀ k : Nat, k ≤ 10000000 → k < sizeLine := fun k hk => Nat.lt_of_le_of_lt hk (by decide)
          -- answered.append(len(answer))
          refine ⟨_, rfl, .inl ⟨rfl, _, SqL.of hy5⟩, _, rfl, pa, _, rfl, .inl (SqL.of hpa), y, _, _, rfl, rfl, hy5, ?_, ?_⟩
          · rw [List.length_map]
            exact hbound _ (by omega)
          have x6 := x5.write (zs := out.map V.int ++ [V.int ((((ans (h.step c0).2).map V.int).length : Nat) : Int)]) hy3 hSy hy5
          have hy6 : upd H5 y (.lst (out.map V.int ++ [V.int ((((ans (h.step c0).2).map V.int).length : Nat) : Int)])) y = some (.lst ((out ++ [(((ans (h.step c0).2).length : Nat) : Int)]).map V.int)) := by
            rw [upd_same, List.map_append, List.length_map]
            rfl
          have hp6' : upd H5 y (.lst (out.map V.int ++ [V.int ((((ans (h.step c0).2).map V.int).length : Nat) : Int)])) pa = some (.lst ((ans (h.step c0).2).map V.int)) := by
            rw [upd_ne npy]
            exact hpa
          generalize upd H5 y (.lst (out.map V.int ++ [V.int ((((ans (h.step c0).2).map V.int).length : Nat) : Int)])) = H6 at x6 hy6 hp6'
          -- answered.extend(answer)
          refine ⟨_, rfl, .inl ⟨rfl, _, SqL.of hy6⟩, _, rfl, y, pa, _, _, rfl, rfl, hy6, hp6', ?_, ?_⟩
          · rw [List.length_map, List.length_map, List.length_append]
            exact Nat.le_of_lt (hbound _ (by show out.length + 1 + _ ≤ _; omega))
          have x7 := x6.write (zs := (out ++ [(((ans (h.step c0).2).length : Nat) : Int)]).map V.int ++ (ans (h.step c0).2).map V.int) hy6 hSy hy6
          -- at = behind
          refine ⟨_, rfl, ns.length - (i + 1 + n), by omega, i + 1 + n, f, some (.int p), some (.int ((i : Int) + 1 + (n : Int))), some (.ref pa), out ++ [(((ans (h.step c0).2).length : Nat) : Int)] ++ ans (h.step c0).2, cs', (h.step c0).1, dx5, l15, l25, das5, kas5, ?_, by omega, rfl, x7, by rw [upd_same]; exact congrArg (fun z => some (HO.lst z)) List.map_append.symm, ?_, ?_⟩
          · have e2 : ((i : Int) + 1 + (n : Int)) = ((i + 1 + n : Nat) : Int) := by omega
            rw [← e2]
            rfl
          · rw [List.drop_drop] at hcs'
            exact hcs'
          · rw [hans, List.append_assoc, List.append_assoc]
            rfl
      · refine ifF (decide_eq_false (by rw [List.length_map]; omega)) ?_
        have ei : i = ns.length := by omega
        rw [ei, List.drop_length, My.calls_nil] at hcs
        cases hcs
        refine ⟨_, rfl, q H3 y ?_⟩
        rw [hans, hy3]
        show _ = some (HO.lst ((out ++ []).map V.int))
        rw [List.append_nil]
end
end Pf
end
section
set_option Elab.async false
set_option linter.all false
set_option maxRecDepth 100000
set_option maxHeartbeats 2000000
namespace SK
open PySem PySem.W PyProof.Rows
/-- a Hook that looks at some tables too -/
def addT (H : Hook) (ts : List Addr) : Hook where
  α := H.α × List (Option Obj)
  obs := fun s => (H.obs s, ts.map s.heap.get?)
  val := fun w => (H.val w, ts.map fun _ => some (tabObj #[]))
  says := fun w h => H.says w h ∧ ∀ P ∈ ts, h.get? P = some (tabObj #[])
  of := fun w s x => ⟨H.of w s (Prod.mk.inj x).1, List.map_inj_left.mp (Prod.mk.inj x).2⟩
  keeps := fun w h h' x k => ⟨H.keeps w h h' x.1 k, fun P hP => k _ _ (x.2 P hP)⟩
theorem addT_in {K : Params → Frag} {as : List Addr} {e : ∀ P, as = (K P).map (·.1)} {ts : List Addr} {w : World} {h : Heap} (Y : (addT (kHook K as e) ts).says w h) : (K w.params).In h := kIn_of Y.1
end SK
namespace Pf
open PySem PySem.Spec PyProof.Rows L2 LamX SK
open Sq28 (Deed House)
/-! ### what the top has written, by name -/
def GFun (K : PySem.W.Frag) (x : Str) (st : Stmt) : Prop := ∃ (f : Addr) (oc : Value) (od : Option Addr) (kV dc pm : Value) (an : Option Addr) (cd ct : Value) (sl : Array (Option Value)),
  PySem.W.nsIn K mainGlobals x = some (some (.ref f)) ∧ K.lookup f = some ⟨oc, od, .func (PySem.W.fnOf x x (defArgs st) (defBody st) (defScope st) .none kV dc pm an cd ct), sl⟩ ∧ PySem.W.codeIn K cd x = true ∧ PySem.W.keepIn K (.ref f) = true
def MFun (K : PySem.W.Frag) (C : Addr) (x q : Str) (st : Stmt) : Prop := ∃ (f : Addr) (oc : Value) (od : Option Addr) (kV dc pm : Value) (an : Option Addr) (cd ct : Value) (sl : Array (Option Value)),
  PySem.W.findIn K (.ref C) x = some (some (.ref f)) ∧ PySem.W.isFn K (.ref f) = true ∧ K.lookup f = some ⟨oc, od, .func (PySem.W.fnOf x q (defArgs st) (defBody st) (defScope st) .none kV dc pm an cd ct), sl⟩ ∧ PySem.W.codeIn K cd q = true ∧ PySem.W.keepIn K (.ref f) = true
def Num (K : PySem.W.Frag) (x : Str) (i : Int) : Prop := ∃ t, PySem.W.nsIn K mainGlobals x = some (some (.int i t))
structure CFun (K : PySem.W.Frag) (x : Str) (C : Addr) : Prop where
  at_ : PySem.W.nsIn K mainGlobals x = some (some (.ref C))
  cls : Cls K C
  mks : PySem.W.makesIn K C = true
  kc : PySem.W.keepIn K (.ref C) = true
section
variable {K : PySem.W.Frag} {h : Heap} {mg : Str → Option Value} {x q : Str} {st : Stmt} {C : Addr} {i : Int}
theorem GFun.out (g : GFun K x st) (X : K.In h) (G : h.Ns mainGlobals mg) : ∃ f fd, mg x = some (.ref f) ∧ Fun K x x st f fd := by
  obtain ⟨f, oc, od, kV, dc, pm, an, cd, ct, sl, a, l, c, k⟩ := g
  exact ⟨f, _, PySem.W.mg_of X G a, fun_mk (st := st) l c k⟩
theorem MFun.out (g : MFun K C x q st) : ∃ f fd, Meth K C x f ∧ Fun K x q st f fd := by
  obtain ⟨f, oc, od, kV, dc, pm, an, cd, ct, sl, a, i, l, c, k⟩ := g
  exact ⟨f, _, ⟨a, i, k⟩, fun_mk (st := st) l c k⟩
theorem Num.out (g : Num K x i) (X : K.In h) (G : h.Ns mainGlobals mg) : ∃ t, mg x = some (.int i t) := by
  exact g.imp fun _ => PySem.W.mg_of X G
end
/-- by_stamps, with its code object and that one's table -/
def BFun (K : PySem.W.Frag) (C Pt : Addr) : Prop := ∃ (f c : Addr) (oc : Value) (od : Option Addr) (kV dc pm : Value) (an : Option Addr) (ct : Value) (sl : Array (Option Value)),
  PySem.W.findIn K (.ref C) "by_stamps" = some (some (.ref f)) ∧ PySem.W.isFn K (.ref f) = true ∧ K.lookup f = some ⟨oc, od, .func (PySem.W.fnOf "by_stamps" "House.by_stamps" (defArgs sBy) (defBody sBy) (defScope sBy) .none kV dc pm an (.ref c) ct), sl⟩ ∧ PySem.W.codeIn K (.ref c) "House.by_stamps" = true ∧ PySem.W.keepIn K (.ref f) = true ∧
  PySem.W.codeHdIn K c Pt = true ∧ K.lookup Pt = none
/-- the dict of how many numbers a call has -/
def NDct (K : PySem.W.Frag) (x : Str) : Prop := ∃ (a : Addr) (es : Array DictEntry) (n : Nat), PySem.W.nsIn K mainGlobals x = some (some (.ref a)) ∧ K.lookup a = some ⟨.type "dict", none, .dict es n, #[]⟩ ∧ intKeys es.toList = true ∧
  (∃ t, findBy Value.isInt es 1 = some (.int 1 t)) ∧ (∃ t, findBy Value.isInt es 2 = some (.int 4 t)) ∧ (∃ t, findBy Value.isInt es 3 = some (.int 2 t)) ∧ (∃ t, findBy Value.isInt es 4 = some (.int 2 t)) ∧ (∃ t, findBy Value.isInt es 5 = some (.int 1 t)) ∧ (∃ t, findBy Value.isInt es 6 = some (.int 1 t)) ∧ (∃ t, findBy Value.isInt es 7 = some (.int 2 t)) ∧ (∃ t, findBy Value.isInt es 8 = some (.int 1 t)) ∧ (∃ t, findBy Value.isInt es 9 = some (.int 2 t)) ∧ (∃ t, findBy Value.isInt es 10 = some (.int 3 t)) ∧ (∃ t, findBy Value.isInt es 11 = some (.int 2 t))
theorem NDct.out {K : PySem.W.Frag} {h : Heap} {mg : Str → Option Value} {x : Str} (g : NDct K x) (X : K.In h) (G : h.Ns mainGlobals mg) : ∃ aN, mg x = some (.ref aN) ∧ ∀ (p : Int) (n : Nat), PySq28.shape p = some (n, 0) → IDct K aN p (.int n) := by
  obtain ⟨a, es, m, e, l, hk, ⟨t1, e1⟩, ⟨t2, e2⟩, ⟨t3, e3⟩, ⟨t4, e4⟩, ⟨t5, e5⟩, ⟨t6, e6⟩, ⟨t7, e7⟩, ⟨t8, e8⟩, ⟨t9, e9⟩, ⟨t10, e10⟩, ⟨t11, e11⟩⟩ := g
  refine ⟨a, PySem.W.mg_of X G e, fun p n hs => ?_⟩
  obtain ⟨h1, h11⟩ := shape_le hs
  have key : ∀ (q : Int) (k : Nat) (t : Tok), PySq28.shape q = some (k, 0) → findBy Value.isInt es q = some (.int k t) → p = q → IDct K a p (.int n) := fun q k t e1 e2 z => by
    rw [z, e1] at hs
    have : k = n := congrArg Prod.fst (Option.some.inj hs)
    subst this
    rw [z]
    exact ⟨es, m, _, l, hk, e2, ⟨t, rfl⟩⟩
  have cs : p = 1 ∨ p = 2 ∨ p = 3 ∨ p = 4 ∨ p = 5 ∨ p = 6 ∨ p = 7 ∨ p = 8 ∨ p = 9 ∨ p = 10 ∨ p = 11 := by omega
  rcases cs with z | z | z | z | z | z | z | z | z | z | z
  · exact key 1 1 t1 rfl e1 z
  · exact key 2 4 t2 rfl e2 z
  · exact key 3 2 t3 rfl e3 z
  · exact key 4 2 t4 rfl e4 z
  · exact key 5 1 t5 rfl e5 z
  · exact key 6 1 t6 rfl e6 z
  · exact key 7 2 t7 rfl e7 z
  · exact key 8 1 t8 rfl e8 z
  · exact key 9 2 t9 rfl e9 z
  · exact key 10 3 t10 rfl e10 z
  · exact key 11 2 t11 rfl e11 z
section
variable {K : PySem.W.Frag} {x q : Str} {st : Stmt} {C Pt : Addr} {i : Int} {f c : Addr} {oc : Value} {od : Option Addr} {kV dc pm : Value} {an : Option Addr} {cd ct : Value} {sl : Array (Option Value)}
theorem GFun.is (a : PySem.W.nsIn K mainGlobals x = some (some (.ref f))) (l : K.lookup f = some ⟨oc, od, .func (PySem.W.fnOf x x (defArgs st) (defBody st) (defScope st) .none kV dc pm an cd ct), sl⟩) (hc : PySem.W.codeIn K cd x = true) (k : PySem.W.keepIn K (.ref f) = true) : GFun K x st := ⟨f, oc, od, kV, dc, pm, an, cd, ct, sl, a, l, hc, k⟩
theorem MFun.is (a : PySem.W.findIn K (.ref C) x = some (some (.ref f))) (i : PySem.W.isFn K (.ref f) = true) (l : K.lookup f = some ⟨oc, od, .func (PySem.W.fnOf x q (defArgs st) (defBody st) (defScope st) .none kV dc pm an cd ct), sl⟩) (hc : PySem.W.codeIn K cd q = true) (k : PySem.W.keepIn K (.ref f) = true) : MFun K C x q st := ⟨f, oc, od, kV, dc, pm, an, cd, ct, sl, a, i, l, hc, k⟩
theorem Num.is {t : Tok} (h : PySem.W.nsIn K mainGlobals x = some (some (.int i t))) : Num K x i := ⟨t, h⟩
theorem BFun.is (a : PySem.W.findIn K (.ref C) "by_stamps" = some (some (.ref f))) (i : PySem.W.isFn K (.ref f) = true) (l : K.lookup f = some ⟨oc, od, .func (PySem.W.fnOf "by_stamps" "House.by_stamps" (defArgs sBy) (defBody sBy) (defScope sBy) .none kV dc pm an (.ref c) ct), sl⟩) (hc : PySem.W.codeIn K (.ref c) "House.by_stamps" = true) (k : PySem.W.keepIn K (.ref f) = true) (hd : PySem.W.codeHdIn K c Pt = true) (n : K.lookup Pt = none) : BFun K C Pt := ⟨f, c, oc, od, kV, dc, pm, an, ct, sl, a, i, l, hc, k, hd, n⟩
theorem NDct.is {a : Addr} {es : Array DictEntry} {n : Nat} {t1 t2 t3 t4 t5 t6 t7 t8 t9 t10 t11 : Tok} (e : PySem.W.nsIn K mainGlobals x = some (some (.ref a))) (l : K.lookup a = some ⟨.type "dict", none, .dict es n, #[]⟩) (hk : intKeys es.toList = true)
    (h1 : findBy Value.isInt es 1 = some (.int 1 t1)) (h2 : findBy Value.isInt es 2 = some (.int 4 t2)) (h3 : findBy Value.isInt es 3 = some (.int 2 t3)) (h4 : findBy Value.isInt es 4 = some (.int 2 t4)) (h5 : findBy Value.isInt es 5 = some (.int 1 t5)) (h6 : findBy Value.isInt es 6 = some (.int 1 t6)) (h7 : findBy Value.isInt es 7 = some (.int 2 t7)) (h8 : findBy Value.isInt es 8 = some (.int 1 t8)) (h9 : findBy Value.isInt es 9 = some (.int 2 t9)) (h10 : findBy Value.isInt es 10 = some (.int 3 t10)) (h11 : findBy Value.isInt es 11 = some (.int 2 t11)) : NDct K x := ⟨a, es, n, e, l, hk, ⟨t1, h1⟩, ⟨t2, h2⟩, ⟨t3, h3⟩, ⟨t4, h4⟩, ⟨t5, h5⟩, ⟨t6, h6⟩, ⟨t7, h7⟩, ⟨t8, h8⟩, ⟨t9, h9⟩, ⟨t10, h10⟩, ⟨t11, h11⟩⟩
end
structure All (K : PySem.W.Frag) (C CD Pt : Addr) : Prop where
  ROOT : Num K "ROOT" 0
  BIN : Num K "BIN" 1
  LAST : Num K "LAST_THING" 63
  PUT : Num K "PUT" 1
  NOT : Num K "NOT_THERE" 2
  WITHIN : Num K "WITHIN_ITSELF" 3
  DESKS : Num K "MOST_DESKS" 8
  DEEDS : Num K "MOST_DEEDS" 100
  LABEL : Num K "GREATEST_LABEL" 1000000000
  OUT : Num K "OUT_OF_RANGE" (-1)
  SUCH : Num K "NO_SUCH" (-2)
  THING : Num K "NO_SUCH_THING" (-3)
  MORE : Num K "NO_MORE_DEEDS" (-5)
  BEGIN : Num K "CALL_BEGIN" 1
  MOVE : Num K "CALL_MOVE" 2
  TELL : Num K "CALL_TELL" 3
  MEET : Num K "CALL_MEET" 4
  TREE : Num K "CALL_TREE" 5
  BIN_ : Num K "CALL_BIN" 6
  LINE : Num K "CALL_LINE" 7
  DEEDS_ : Num K "CALL_DEEDS" 8
  SAME : Num K "CALL_SAME" 9
  WOULD : Num K "CALL_WOULD" 10
  numbers : NDct K "NUMBERS_OF_CALL"
  len_ : PySem.W.nsIn K mainGlobals "len" = some none
  max_ : PySem.W.nsIn K mainGlobals "max" = some none
  sorted_ : PySem.W.nsIn K mainGlobals "sorted" = some none
  range_ : PySem.W.nsIn K mainGlobals "range" = some none
  list_ : PySem.W.nsIn K mainGlobals "list" = some none
  zip_ : PySem.W.nsIn K mainGlobals "zip" = some none
  there : GFun K "is_there" sThere
  above : GFun K "all_above" sAbove
  comes : GFun K "what_comes" sComes
  do_ : GFun K "do_deed" sDo
  treeOf : GFun K "tree_of" sTreeOf
  each_ : GFun K "what_comes_of_each" sEach
  right : GFun K "right_under" sRight
  within : GFun K "all_within" sWithin
  may : GFun K "may_put" sMay
  counted : GFun K "counted" sCounted
  call : GFun K "answer_call" sCall
  answers : GFun K "answers" sAnswers
  cD : CFun K "Deed" CD
  nS : NoAttr K CD "stamp"
  nT : NoAttr K CD "thing"
  nU : NoAttr K CD "under"
  nL : NoAttr K CD "label"
  cH : CFun K "House" C
  nD : NoAttr K C "done"
  nK : NoAttr K C "known"
  deedInit : MFun K CD "__init__" "Deed.__init__" sDeedInit
  init : MFun K C "__init__" "House.__init__" sInit
  begin_ : MFun K C "begin" "House.begin" sBegin
  move : MFun K C "move" "House.move" sMove
  tell : MFun K C "tell" "House.tell" sTell
  meet : MFun K C "meet" "House.meet" sMeet
  show_ : MFun K C "show" "House.show" sShow
  line : MFun K C "line" "House.line" sLine
  deeds : MFun K C "deeds" "House.deeds" sDeeds
  same : MFun K C "same" "House.same" sSame
  would : MFun K C "would" "House.would" sWould
  moves : MFun K C "moves" "House.moves" sMoves
  has : MFun K C "has_desk" "House.has_desk" sHas
  greatest : MFun K C "greatest_count" "House.greatest_count" sGreatest
  treeAt : MFun K C "tree_at" "House.tree_at" sTreeAt
  wouldCome : MFun K C "would_come" "House.would_come" sWouldCome
  dawc : MFun K C "deeds_and_what_comes" "House.deeds_and_what_comes" sDawc
  by_ : BFun K C Pt
theorem All.ex {K : PySem.W.Frag} {C CD Pt : Addr} (A : All K C CD Pt) : ∃ C CD, All K C CD Pt := ⟨C, CD, A⟩
/-- from these: answers keeps its promise -/
theorem all_ok {P : Program} {w : World} {K : PySem.W.Frag} {h : Heap} {mg : Str → Option Value} {C CD Pt fa : Addr} (A : All K C CD Pt) (X : K.In h) (G : h.Ns mainGlobals mg) (hfa : mg "answers" = some (.ref fa)) :
    ∃ (fd : FuncData) (c : Addr), PySem.W.codeHdIn K c Pt = true ∧ K.lookup Pt = none ∧ (∀ (s : Shared) (us : List Value), us.length = (["calls"] : List Str).length → BindsTo s fd ⟨us, []⟩ ((["calls"] : List Str).zip us)) ∧
      ∀ base : Heap, K.In base → base.Ns mainGlobals mg → TabB base mg c Pt → FnOk P w K mg base CX0 9 fa fd ["calls"] (spAns K (TT Pt)) := by
  have TA : TxA K mg := ⟨A.ROOT.out X G, A.BIN.out X G, A.PUT.out X G, A.NOT.out X G, A.WITHIN.out X G⟩
  have TN : TxN K mg := ⟨A.DESKS.out X G, A.DEEDS.out X G, A.LABEL.out X G, A.OUT.out X G, A.SUCH.out X G, A.MORE.out X G, A.LAST.out X G⟩
  have TC : TxC K mg := ⟨A.BEGIN.out X G, A.MOVE.out X G, A.TELL.out X G, A.MEET.out X G, A.TREE.out X G, A.BIN_.out X G, A.LINE.out X G, A.DEEDS_.out X G, A.SAME.out X G, A.WOULD.out X G⟩
  have TD : TxD K CD := ⟨A.cD.cls, A.nS, A.nT, A.nU, A.nL⟩
  have TH : TxH K C := ⟨A.cH.cls, A.nD, A.nK⟩
  have n_len := PySem.W.mg_none_of X G A.len_
  have n_max := PySem.W.mg_none_of X G A.max_
  have n_sorted := PySem.W.mg_none_of X G A.sorted_
  have n_range := PySem.W.mg_none_of X G A.range_
  have n_list := PySem.W.mg_none_of X G A.list_
  have n_zip := PySem.W.mg_none_of X G A.zip_
  obtain ⟨aN, gN, hN⟩ := A.numbers.out X G
  obtain ⟨f_there, d_there, g_there, F_there⟩ := A.there.out X G
  obtain ⟨f_above, d_above, g_above, F_above⟩ := A.above.out X G
  obtain ⟨f_comes, d_comes, g_comes, F_comes⟩ := A.comes.out X G
  obtain ⟨f_do_, d_do_, g_do_, F_do_⟩ := A.do_.out X G
  obtain ⟨f_treeOf, d_treeOf, g_treeOf, F_treeOf⟩ := A.treeOf.out X G
  obtain ⟨f_each_, d_each_, g_each_, F_each_⟩ := A.each_.out X G
  obtain ⟨f_right, d_right, g_right, F_right⟩ := A.right.out X G
  obtain ⟨f_within, d_within, g_within, F_within⟩ := A.within.out X G
  obtain ⟨f_may, d_may, g_may, F_may⟩ := A.may.out X G
  obtain ⟨f_counted, d_counted, g_counted, F_counted⟩ := A.counted.out X G
  obtain ⟨f_call, d_call, g_call, F_call⟩ := A.call.out X G
  obtain ⟨f_answers, d_answers, g_answers, F_answers⟩ := A.answers.out X G
  obtain ⟨f_deedInit, d_deedInit, M_deedInit, F_deedInit⟩ := A.deedInit.out
  obtain ⟨f_init, d_init, M_init, F_init⟩ := A.init.out
  obtain ⟨f_begin_, d_begin_, M_begin_, F_begin_⟩ := A.begin_.out
  obtain ⟨f_move, d_move, M_move, F_move⟩ := A.move.out
  obtain ⟨f_tell, d_tell, M_tell, F_tell⟩ := A.tell.out
  obtain ⟨f_meet, d_meet, M_meet, F_meet⟩ := A.meet.out
  obtain ⟨f_show_, d_show_, M_show_, F_show_⟩ := A.show_.out
  obtain ⟨f_line, d_line, M_line, F_line⟩ := A.line.out
  obtain ⟨f_deeds, d_deeds, M_deeds, F_deeds⟩ := A.deeds.out
  obtain ⟨f_same, d_same, M_same, F_same⟩ := A.same.out
  obtain ⟨f_would, d_would, M_would, F_would⟩ := A.would.out
  obtain ⟨f_moves, d_moves, M_moves, F_moves⟩ := A.moves.out
  obtain ⟨f_has, d_has, M_has, F_has⟩ := A.has.out
  obtain ⟨f_greatest, d_greatest, M_greatest, F_greatest⟩ := A.greatest.out
  obtain ⟨f_treeAt, d_treeAt, M_treeAt, F_treeAt⟩ := A.treeAt.out
  obtain ⟨f_wouldCome, d_wouldCome, M_wouldCome, F_wouldCome⟩ := A.wouldCome.out
  obtain ⟨f_dawc, d_dawc, M_dawc, F_dawc⟩ := A.dawc.out
  obtain ⟨fb, c, oc, od, kV, dc, pm, an, ct, sl, ab, ib, lb, cb, kb, hc, hP⟩ := A.by_
  cases (Option.some.inj (hfa.symm.trans g_answers) : Value.ref fa = Value.ref f_answers)
  have EB := fun_mk (st := sBy) lb cb kb
  have b_there := F_there.binds (ps := ["tree", "thing"]) fun _ _ _ _ _ _ us hl => match us, hl with | [_, _], _ => rfl
  have b_above := F_above.binds (ps := ["tree", "thing"]) fun _ _ _ _ _ _ us hl => match us, hl with | [_, _], _ => rfl
  have b_comes := F_comes.binds (ps := ["tree", "thing", "under"]) fun _ _ _ _ _ _ us hl => match us, hl with | [_, _, _], _ => rfl
  have b_do_ := F_do_.binds (ps := ["tree", "deed"]) fun _ _ _ _ _ _ us hl => match us, hl with | [_, _], _ => rfl
  have b_treeOf := F_treeOf.binds (ps := ["deeds"]) fun _ _ _ _ _ _ us hl => match us, hl with | [_], _ => rfl
  have b_each_ := F_each_.binds (ps := ["deeds"]) fun _ _ _ _ _ _ us hl => match us, hl with | [_], _ => rfl
  have b_right := F_right.binds (ps := ["tree", "top"]) fun _ _ _ _ _ _ us hl => match us, hl with | [_, _], _ => rfl
  have b_within := F_within.binds (ps := ["tree", "top"]) fun _ _ _ _ _ _ us hl => match us, hl with | [_, _], _ => rfl
  have b_may := F_may.binds (ps := ["thing", "under"]) fun _ _ _ _ _ _ us hl => match us, hl with | [_, _], _ => rfl
  have b_counted := F_counted.binds (ps := ["rows"]) fun _ _ _ _ _ _ us hl => match us, hl with | [_], _ => rfl
  have b_call := F_call.binds (ps := ["house", "call", "numbers"]) fun _ _ _ _ _ _ us hl => match us, hl with | [_, _, _], _ => rfl
  have b_deedInit := F_deedInit.binds (ps := ["self", "stamp", "thing", "under", "label"]) fun _ _ _ _ _ _ us hl => match us, hl with | [_, _, _, _, _], _ => rfl
  have b_init := F_init.binds (ps := ["self"]) fun _ _ _ _ _ _ us hl => match us, hl with | [_], _ => rfl
  have b_begin_ := F_begin_.binds (ps := ["self", "desks"]) fun _ _ _ _ _ _ us hl => match us, hl with | [_, _], _ => rfl
  have b_move := F_move.binds (ps := ["self", "desk", "thing", "under", "label"]) fun _ _ _ _ _ _ us hl => match us, hl with | [_, _, _, _, _], _ => rfl
  have b_tell := F_tell.binds (ps := ["self", "number", "desk"]) fun _ _ _ _ _ _ us hl => match us, hl with | [_, _, _], _ => rfl
  have b_meet := F_meet.binds (ps := ["self", "desk", "other"]) fun _ _ _ _ _ _ us hl => match us, hl with | [_, _, _], _ => rfl
  have b_show_ := F_show_.binds (ps := ["self", "desk", "top"]) fun _ _ _ _ _ _ us hl => match us, hl with | [_, _, _], _ => rfl
  have b_line := F_line.binds (ps := ["self", "desk", "thing"]) fun _ _ _ _ _ _ us hl => match us, hl with | [_, _, _], _ => rfl
  have b_deeds := F_deeds.binds (ps := ["self", "desk"]) fun _ _ _ _ _ _ us hl => match us, hl with | [_, _], _ => rfl
  have b_same := F_same.binds (ps := ["self", "desk", "other"]) fun _ _ _ _ _ _ us hl => match us, hl with | [_, _, _], _ => rfl
  have b_would := F_would.binds (ps := ["self", "desk", "thing", "under"]) fun _ _ _ _ _ _ us hl => match us, hl with | [_, _, _, _], _ => rfl
  have b_moves := F_moves.binds (ps := ["self", "desk", "thing"]) fun _ _ _ _ _ _ us hl => match us, hl with | [_, _, _], _ => rfl
  have b_has := F_has.binds (ps := ["self", "desk"]) fun _ _ _ _ _ _ us hl => match us, hl with | [_, _], _ => rfl
  have b_greatest := F_greatest.binds (ps := ["self", "desk"]) fun _ _ _ _ _ _ us hl => match us, hl with | [_, _], _ => rfl
  have b_treeAt := F_treeAt.binds (ps := ["self", "desk"]) fun _ _ _ _ _ _ us hl => match us, hl with | [_, _], _ => rfl
  have b_wouldCome := F_wouldCome.binds (ps := ["self", "desk", "thing", "under"]) fun _ _ _ _ _ _ us hl => match us, hl with | [_, _, _, _], _ => rfl
  have b_dawc := F_dawc.binds (ps := ["self", "desk"]) fun _ _ _ _ _ _ us hl => match us, hl with | [_, _], _ => rfl
  have nB := EB.binds (ps := ["self", "numbers"]) fun _ _ _ _ _ _ us hl => match us, hl with | [_, _], _ => rfl
  have b9 : ∀ (s : Shared) (us : List Value), us.length = (["calls"] : List Str).length → BindsTo s d_answers ⟨us, []⟩ ((["calls"] : List Str).zip us) := by
    obtain ⟨oc9, od9, kV9, dc9, pm9, an9, cd9, ct9, osl9, e9, lk9, hcd9⟩ := F_answers.ex
    rw [e9]
    exact fun s us hu => match us, hu with | [_], _ => .of_eq rfl
  refine ⟨d_answers, c, hc, hP, b9, fun base _ _ TB => ?_⟩
  have G_there : FnOk P w K mg base CX0 1 f_there d_there ["tree", "thing"] spThere := ok_there F_there TA
  have G_above : FnOk P w K mg base CX0 1 f_above d_above ["tree", "thing"] spAbove := ok_above F_above
  have G_comes : FnOk P w K mg base CX0 2 f_comes d_comes ["tree", "thing", "under"] spComes := ok_comes F_comes TA F_there g_there b_there F_above g_above b_above
  have G_do_ : FnOk P w K mg base CX0 3 f_do_ d_do_ ["tree", "deed"] (spDo CD) := ok_do F_do_ TA TD G_comes F_comes.kp g_comes b_comes
  have G_treeOf : FnOk P w K mg base CX0 4 f_treeOf d_treeOf ["deeds"] (spTreeOf K CD) := ok_treeOf F_treeOf G_do_ F_do_.kp g_do_ b_do_
  have G_each_ : FnOk P w K mg base CX0 4 f_each_ d_each_ ["deeds"] (spEach K CD) := ok_each F_each_ G_do_ F_do_.kp g_do_ b_do_
  have G_right : FnOk P w K mg base CX0 1 f_right d_right ["tree", "top"] spRight := ok_right F_right n_sorted
  have G_within : FnOk P w K mg base CX0 2 f_within d_within ["tree", "top"] spWithin := ok_within F_within G_right F_right.kp g_right b_right n_len
  have G_may : FnOk P w K mg base CX0 1 f_may d_may ["thing", "under"] spMay := ok_may F_may TA (A.LAST.out X G)
  have G_counted : FnOk P w K mg base CX0 1 f_counted d_counted ["rows"] spCounted := ok_counted F_counted n_len
  have G_deedInit : FnOk P w K mg base CX0 1 f_deedInit d_deedInit ["self", "stamp", "thing", "under", "label"] (spDeedInit CD) := ok_deedInit F_deedInit TD
  have G_init : FnOk P w K mg base CX0 1 f_init d_init ["self"] (spInit C CD) := ok_init F_init TH
  have GB : FnOk P w K mg base CX0 4 fb _ ["self", "numbers"] (spBy K (TT Pt) C CD) := ok_by lb cb TB TH TD n_sorted
  have G_has : FnOk P w K mg base CX0 1 f_has d_has ["self", "desk"] (spHas C CD) := ok_has F_has TH n_len
  have G_greatest : FnOk P w K mg base CX0 1 f_greatest d_greatest ["self", "desk"] (spGreatest C CD) := ok_greatest F_greatest TH TD n_max
  have G_treeAt : FnOk P w K mg base CX0 5 f_treeAt d_treeAt ["self", "desk"] (spTreeAt C CD) := ok_treeAt F_treeAt TH TD G_treeOf F_treeOf.kp g_treeOf b_treeOf
  have G_wouldCome : FnOk P w K mg base CX0 6 f_wouldCome d_wouldCome ["self", "desk", "thing", "under"] (spWouldCome C CD) := ok_wouldCome F_wouldCome TH G_treeAt M_treeAt b_treeAt G_comes F_comes.kp g_comes b_comes
  have G_dawc : FnOk P w K mg base CX0 5 f_dawc d_dawc ["self", "desk"] (spDawc C CD) := ok_dawc F_dawc TH TD n_list n_zip G_each_ F_each_.kp g_each_ b_each_
  have G_begin_ : FnOk P w K mg base CX0 1 f_begin_ d_begin_ ["self", "desks"] (spBegin (TT Pt) C CD) := ok_begin F_begin_ TH TN n_range
  have G_move : FnOk P w K mg base CX0 7 f_move d_move ["self", "desk", "thing", "under", "label"] (spMove (TT Pt) C CD) := ok_move F_move TH TD TN n_len G_has M_has b_has G_may F_may.kp g_may b_may G_greatest M_greatest b_greatest G_wouldCome M_wouldCome b_wouldCome G_deedInit ⟨A.cD.mks, M_deedInit.at_, M_deedInit.fn, A.cD.kc⟩ (PySem.W.mg_of X G A.cD.at_) b_deedInit
  have G_tell : FnOk P w K mg base CX0 5 f_tell d_tell ["self", "number", "desk"] (spTell (TT Pt) C CD) := ok_tell F_tell TH TD TN n_len G_has M_has b_has GB ⟨ab, ib, kb⟩ nB
  have G_meet : FnOk P w K mg base CX0 5 f_meet d_meet ["self", "desk", "other"] (spMeet (TT Pt) C CD) := ok_meet F_meet TH TD TN n_len G_has M_has b_has GB ⟨ab, ib, kb⟩ nB
  have G_show_ : FnOk P w K mg base CX0 6 f_show_ d_show_ ["self", "desk", "top"] (spShow (TT Pt) C CD) := ok_show F_show_ TH TN G_has M_has b_has G_treeAt M_treeAt b_treeAt G_within F_within.kp g_within b_within G_counted F_counted.kp g_counted b_counted
  have G_line : FnOk P w K mg base CX0 6 f_line d_line ["self", "desk", "thing"] (spLine (TT Pt) C CD) := ok_line F_line TH TN (A.THING.out X G) n_len G_has M_has b_has G_treeAt M_treeAt b_treeAt G_there F_there.kp g_there b_there G_above F_above.kp g_above b_above
  have G_deeds : FnOk P w K mg base CX0 6 f_deeds d_deeds ["self", "desk"] (spDeeds (TT Pt) C CD) := ok_deeds F_deeds TH TN G_has M_has b_has G_dawc M_dawc b_dawc G_counted F_counted.kp g_counted b_counted
  have G_same : FnOk P w K mg base CX0 6 f_same d_same ["self", "desk", "other"] (spSame (TT Pt) C CD) := ok_same F_same TH TN G_has M_has b_has G_treeAt M_treeAt b_treeAt
  have G_would : FnOk P w K mg base CX0 7 f_would d_would ["self", "desk", "thing", "under"] (spWould (TT Pt) C CD) := ok_would F_would TH TN G_has M_has b_has G_may F_may.kp g_may b_may G_wouldCome M_wouldCome b_wouldCome
  have G_moves : FnOk P w K mg base CX0 6 f_moves d_moves ["self", "desk", "thing"] (spMoves (TT Pt) C CD) := ok_moves F_moves TH TD TA TN n_len G_has M_has b_has G_dawc M_dawc b_dawc
  have G_call : FnOk P w K mg base CX0 8 f_call d_call ["house", "call", "numbers"] (spCall K (TT Pt) C CD) := ok_call F_call TH TA TC G_begin_ M_begin_ b_begin_ G_move M_move b_move G_tell M_tell b_tell G_meet M_meet b_meet G_show_ M_show_ b_show_ G_line M_line b_line G_deeds M_deeds b_deeds G_same M_same b_same G_would M_would b_would G_moves M_moves b_moves
  exact ok_ans F_answers n_len G_init ⟨A.cH.mks, M_init.at_, M_init.fn, A.cH.kc⟩ (PySem.W.mg_of X G A.cH.at_) b_init gN hN G_call F_call.kp g_call b_call
end Pf
end
section
set_option Elab.async false
set_option linter.all false
set_option maxRecDepth 100000
set_option maxHeartbeats 2000000
namespace Pf
open PySem PySem.Spec PyProof.Rows L2 LamX SK
open PySem.W (WData Codec OpenSpec)
theorem asked_is {l : List Int} (h : PySq28.answers_asked l = true) : ∃ raw, PyFlat.calls PySq28.shape l.length l = some raw ∧ (PySq28.answers l).length ≤ 10000000 := by
  unfold PySq28.answers_asked at h
  split at h
  · cases h
  · next raw e =>
    rw [Bool.and_eq_true] at h
    exact ⟨raw, e, of_decide_eq_true h.2⟩
theorem spec_at {w : World} {K : PySem.W.Frag} {h : Heap} {mg : Str → Option Value} {C CD Pt fa : Addr} (A : All K C CD Pt) (X : K.In h) (G : h.Ns mainGlobals mg) (hfa : mg "answers" = some (.ref fa)) (hT : h.get? Pt = some (PySem.W.tabObj #[])) : ∃ fd cs sp, SpecOfT PySem.Challenge.rw_manyhandsheet_s01_answers w K CX0 9 ["calls"] mg fa h fd cs sp := by
  obtain ⟨fd, c, hc, hP, hb, F⟩ := all_ok (P := PySem.Challenge.rw_manyhandsheet_s01_answers.prog) (w := w) A X G hfa
  refine ⟨fd, [(c, Pt)], spAns K (TT Pt), fun p hp => ?_, fun p hp => ?_, fun p hp => ?_, hb, fun H xs a hH hwi hask hx => ?_, fun base h1 h2 h3 => F base h1 h2 (h3 _ (List.mem_singleton.mpr rfl))⟩
  · cases List.mem_singleton.mp hp
    exact hT
  · cases List.mem_singleton.mp hp
    exact hP
  · cases List.mem_singleton.mp hp
    exact PySem.W.codeHd_of_K X hc
  · cases hx with
    | cons h1 h2 =>
      cases h2
      cases h1 with
      | lst hs ha =>
        have e := L2.ints_dw a.1 _ ha
        subst e
        have q : ((Codec.inLen 0 1000 a.1 && a.1.all (Codec.inInt 0 18446744073709551615)) && true) = true := hwi
        rw [Bool.and_eq_true, Bool.and_eq_true] at q
        have ask : PySq28.answers_asked a.1 = true := hask
        obtain ⟨raw, hr, hl⟩ := asked_is ask
        refine ⟨_, a.1, raw, rfl, hs, (Codec.inNat_iff.mp q.1.1).2, fun z hz => ?_, hr, hl, ?_, fun H' p hp => .lst (L2.SqL.of hp) (L2.dw_ints _)⟩
        · exact (Codec.inInt_iff.mp (List.all_eq_true.mp q.1.2 z hz)).1
        · intro p hp
          cases List.mem_singleton.mp hp
          exact ⟨#[], hH Pt (List.mem_singleton.mpr rfl), by constructor, fun pos cv z => by cases z⟩
end Pf
end
section
set_option Elab.async false
set_option linter.all false
set_option maxRecDepth 100000
open PySem PySem.W PyProof.Rows
local macro_rules | `(tactic| o_headS ($f:ident $k $a $e)) => `(tactic| o_headS (SK.addT ($f $k $a $e) [195]))
set_option maxHeartbeats 0 in
theorem PySem.Challenge.cw_manyhandsheet_s01_answers_holds : PySem.Challenge.rw_manyhandsheet_s01_answers.Holds := by
  w_on; k_headS; (case hw => exact ⟨[.list [.int 1, .int 1]], by decide +kernel, by decide +kernel⟩)
  k_fillS
  refine SK.walk_specT (r := PySem.Challenge.rw_manyhandsheet_s01_answers) (k := 9) (CX := L2.CX0) (ps := ["calls"]) (by decide +kernel) rfl rfl ⟨rfl, by decide, by decide⟩ (fun w h Y => SK.addT_in Y) ?F (fun _ _ _ _ z => z)
  intro w mg fa h Y KX G hmg
  have A : ∃ C CD, Pf.All (PySem.Challenge.cw_manyhandsheet_s01_answers_holds.heap_1 w.params) C CD 195 := by
    refine' Pf.All.ex ⟨Pf.Num.is ?qx0, Pf.Num.is ?qx1, Pf.Num.is ?qx2, Pf.Num.is ?qx3, Pf.Num.is ?qx4, Pf.Num.is ?qx5, Pf.Num.is ?qx6, Pf.Num.is ?qx7, Pf.Num.is ?qx8, Pf.Num.is ?qx9, Pf.Num.is ?qx10, Pf.Num.is ?qx11, Pf.Num.is ?qx12, Pf.Num.is ?qx13, Pf.Num.is ?qx14, Pf.Num.is ?qx15, Pf.Num.is ?qx16, Pf.Num.is ?qx17, Pf.Num.is ?qx18, Pf.Num.is ?qx19, Pf.Num.is ?qx20, Pf.Num.is ?qx21, Pf.Num.is ?qx22, Pf.NDct.is ?qx23 ?qx24 ?qx25 ?qx26 ?qx27 ?qx28 ?qx29 ?qx30 ?qx31 ?qx32 ?qx33 ?qx34 ?qx35 ?qx36, ?qx37, ?qx38, ?qx39, ?qx40, ?qx41, ?qx42, Pf.GFun.is ?qx43 ?qx44 ?qx45 ?qx46, Pf.GFun.is ?qx47 ?qx48 ?qx49 ?qx50, Pf.GFun.is ?qx51 ?qx52 ?qx53 ?qx54, Pf.GFun.is ?qx55 ?qx56 ?qx57 ?qx58, Pf.GFun.is ?qx59 ?qx60 ?qx61 ?qx62, Pf.GFun.is ?qx63 ?qx64 ?qx65 ?qx66, Pf.GFun.is ?qx67 ?qx68 ?qx69 ?qx70, Pf.GFun.is ?qx71 ?qx72 ?qx73 ?qx74, Pf.GFun.is ?qx75 ?qx76 ?qx77 ?qx78, Pf.GFun.is ?qx79 ?qx80 ?qx81 ?qx82, Pf.GFun.is ?qx83 ?qx84 ?qx85 ?qx86, Pf.GFun.is ?qx87 ?qx88 ?qx89 ?qx90, ⟨?qx91, ⟨?qx92, ?qx93, ?qx94, ?qx95⟩, ?qx96, ?qx97⟩, ?qx98, ?qx99, ?qx100, ?qx101, ⟨?qx102, ⟨?qx103, ?qx104, ?qx105, ?qx106⟩, ?qx107, ?qx108⟩, ?qx109, ?qx110, Pf.MFun.is ?qx111 ?qx112 ?qx113 ?qx114 ?qx115, Pf.MFun.is ?qx116 ?qx117 ?qx118 ?qx119 ?qx120, Pf.MFun.is ?qx121 ?qx122 ?qx123 ?qx124 ?qx125, Pf.MFun.is ?qx126 ?qx127 ?qx128 ?qx129 ?qx130, Pf.MFun.is ?qx131 ?qx132 ?qx133 ?qx134 ?qx135, Pf.MFun.is ?qx136 ?qx137 ?qx138 ?qx139 ?qx140, Pf.MFun.is ?qx141 ?qx142 ?qx143 ?qx144 ?qx145, Pf.MFun.is ?qx146 ?qx147 ?qx148 ?qx149 ?qx150, Pf.MFun.is ?qx151 ?qx152 ?qx153 ?qx154 ?qx155, Pf.MFun.is ?qx156 ?qx157 ?qx158 ?qx159 ?qx160, Pf.MFun.is ?qx161 ?qx162 ?qx163 ?qx164 ?qx165, Pf.MFun.is ?qx166 ?qx167 ?qx168 ?qx169 ?qx170, Pf.MFun.is ?qx171 ?qx172 ?qx173 ?qx174 ?qx175, Pf.MFun.is ?qx176 ?qx177 ?qx178 ?qx179 ?qx180, Pf.MFun.is ?qx181 ?qx182 ?qx183 ?qx184 ?qx185, Pf.MFun.is ?qx186 ?qx187 ?qx188 ?qx189 ?qx190, Pf.MFun.is ?qx191 ?qx192 ?qx193 ?qx194 ?qx195, Pf.BFun.is ?qx196 ?qx197 ?qx198 ?qx199 ?qx200 ?qx201 ?qx202⟩
    (case qx91 => k_is)
    (case qx92 => k_is)
    (case qx93 => k_is)
    (case qx94 => k_is)
    (case qx95 => k_is)
    (case qx96 => k_is)
    (case qx97 => k_is)
    (case qx102 => k_is)
    (case qx103 => k_is)
    (case qx104 => k_is)
    (case qx105 => k_is)
    (case qx106 => k_is)
    (case qx107 => k_is)
    (case qx108 => k_is)
    (case qx0 => k_is)
    (case qx1 => k_is)
    (case qx2 => k_is)
    (case qx3 => k_is)
    (case qx4 => k_is)
    (case qx5 => k_is)
    (case qx6 => k_is)
    (case qx7 => k_is)
    (case qx8 => k_is)
    (case qx9 => k_is)
    (case qx10 => k_is)
    (case qx11 => k_is)
    (case qx12 => k_is)
    (case qx13 => k_is)
    (case qx14 => k_is)
    (case qx15 => k_is)
    (case qx16 => k_is)
    (case qx17 => k_is)
    (case qx18 => k_is)
    (case qx19 => k_is)
    (case qx20 => k_is)
    (case qx21 => k_is)
    (case qx22 => k_is)
    (case qx23 => k_is)
    (case qx24 => k_is)
    (case qx25 => exact rfl)
    (case qx26 => exact rfl)
    (case qx27 => exact rfl)
    (case qx28 => exact rfl)
    (case qx29 => exact rfl)
    (case qx30 => exact rfl)
    (case qx31 => exact rfl)
    (case qx32 => exact rfl)
    (case qx33 => exact rfl)
    (case qx34 => exact rfl)
    (case qx35 => exact rfl)
    (case qx36 => exact rfl)
    (case qx37 => k_is)
    (case qx38 => k_is)
    (case qx39 => k_is)
    (case qx40 => k_is)
    (case qx41 => k_is)
    (case qx42 => k_is)
    (case qx43 => k_is)
    (case qx44 => k_is)
    (case qx45 => k_is)
    (case qx46 => k_is)
    (case qx47 => k_is)
    (case qx48 => k_is)
    (case qx49 => k_is)
    (case qx50 => k_is)
    (case qx51 => k_is)
    (case qx52 => k_is)
    (case qx53 => k_is)
    (case qx54 => k_is)
    (case qx55 => k_is)
    (case qx56 => k_is)
    (case qx57 => k_is)
    (case qx58 => k_is)
    (case qx59 => k_is)
    (case qx60 => k_is)
    (case qx61 => k_is)
    (case qx62 => k_is)
    (case qx63 => k_is)
    (case qx64 => k_is)
    (case qx65 => k_is)
    (case qx66 => k_is)
    (case qx67 => k_is)
    (case qx68 => k_is)
    (case qx69 => k_is)
    (case qx70 => k_is)
    (case qx71 => k_is)
    (case qx72 => k_is)
    (case qx73 => k_is)
    (case qx74 => k_is)
    (case qx75 => k_is)
    (case qx76 => k_is)
    (case qx77 => k_is)
    (case qx78 => k_is)
    (case qx79 => k_is)
    (case qx80 => k_is)
    (case qx81 => k_is)
    (case qx82 => k_is)
    (case qx83 => k_is)
    (case qx84 => k_is)
    (case qx85 => k_is)
    (case qx86 => k_is)
    (case qx87 => k_is)
    (case qx88 => k_is)
    (case qx89 => k_is)
    (case qx90 => k_is)
    (case qx98 => unfold L2.NoAttr; k_is)
    (case qx99 => unfold L2.NoAttr; k_is)
    (case qx100 => unfold L2.NoAttr; k_is)
    (case qx101 => unfold L2.NoAttr; k_is)
    (case qx109 => unfold L2.NoAttr; k_is)
    (case qx110 => unfold L2.NoAttr; k_is)
    (case qx111 => k_is)
    (case qx112 => k_is)
    (case qx113 => k_is)
    (case qx114 => k_is)
    (case qx115 => k_is)
    (case qx116 => k_is)
    (case qx117 => k_is)
    (case qx118 => k_is)
    (case qx119 => k_is)
    (case qx120 => k_is)
    (case qx121 => k_is)
    (case qx122 => k_is)
    (case qx123 => k_is)
    (case qx124 => k_is)
    (case qx125 => k_is)
    (case qx126 => k_is)
    (case qx127 => k_is)
    (case qx128 => k_is)
    (case qx129 => k_is)
    (case qx130 => k_is)
    (case qx131 => k_is)
    (case qx132 => k_is)
    (case qx133 => k_is)
    (case qx134 => k_is)
    (case qx135 => k_is)
    (case qx136 => k_is)
    (case qx137 => k_is)
    (case qx138 => k_is)
    (case qx139 => k_is)
    (case qx140 => k_is)
    (case qx141 => k_is)
    (case qx142 => k_is)
    (case qx143 => k_is)
    (case qx144 => k_is)
    (case qx145 => k_is)
    (case qx146 => k_is)
    (case qx147 => k_is)
    (case qx148 => k_is)
    (case qx149 => k_is)
    (case qx150 => k_is)
    (case qx151 => k_is)
    (case qx152 => k_is)
    (case qx153 => k_is)
    (case qx154 => k_is)
    (case qx155 => k_is)
    (case qx156 => k_is)
    (case qx157 => k_is)
    (case qx158 => k_is)
    (case qx159 => k_is)
    (case qx160 => k_is)
    (case qx161 => k_is)
    (case qx162 => k_is)
    (case qx163 => k_is)
    (case qx164 => k_is)
    (case qx165 => k_is)
    (case qx166 => k_is)
    (case qx167 => k_is)
    (case qx168 => k_is)
    (case qx169 => k_is)
    (case qx170 => k_is)
    (case qx171 => k_is)
    (case qx172 => k_is)
    (case qx173 => k_is)
    (case qx174 => k_is)
    (case qx175 => k_is)
    (case qx176 => k_is)
    (case qx177 => k_is)
    (case qx178 => k_is)
    (case qx179 => k_is)
    (case qx180 => k_is)
    (case qx181 => k_is)
    (case qx182 => k_is)
    (case qx183 => k_is)
    (case qx184 => k_is)
    (case qx185 => k_is)
    (case qx186 => k_is)
    (case qx187 => k_is)
    (case qx188 => k_is)
    (case qx189 => k_is)
    (case qx190 => k_is)
    (case qx191 => k_is)
    (case qx192 => k_is)
    (case qx193 => k_is)
    (case qx194 => k_is)
    (case qx195 => k_is)
    (case qx196 => k_is)
    (case qx197 => k_is)
    (case qx198 => k_is)
    (case qx199 => k_is)
    (case qx200 => k_is)
    (case qx201 => exact rfl)
    (case qx202 => exact rfl)
  obtain ⟨C, CD, A⟩ := A
  exact Pf.spec_at A KX G hmg (Y.2 195 (List.mem_singleton.mpr rfl))
end
