import PyProof.Rows.All
import Wide.All
import OpenK.AllK
import Wide.FinOn
import Open.SpecLaws
import KE.OsGo
import HandS.ForSpec
import HandS.ForMost
import HandS.Flow
import HandS.Zip
import HandS.CallLocal
import HandS.Codes
import HandS.SortKw
import KE.SortKeyHeap
import HandS.Walk
import PySem.Challenge.RW_movedboxes_s01_answers
set_option Elab.async false
namespace Mv
open Ge04
variable {α : Type}

/-- the world that stands at the addresses -/
def wd (as : List α) (f : α → Box) : World := as.map f
structure Good (as : List α) (f : α → Box) : Prop where
  nd : (as.map fun a => (f a).number).Nodup
  sz : ∀ a ∈ as, 1 ≤ (f a).w ∧ 1 ≤ (f a).h

theorem inj_of_nodup {β : Type} {g : α → β} : ∀ {as : List α}, (as.map g).Nodup → ∀ {a b : α}, a ∈ as → b ∈ as → g a = g b → a = b
  | [], _, _, _, ha, _, _ => nomatch ha
  | x :: r, h, a, b, ha, hb, e => by
    rw [List.map_cons, List.nodup_cons] at h
    rcases List.mem_cons.mp ha with rfl | ha'
    · rcases List.mem_cons.mp hb with rfl | hb'
      · rfl
      · exact absurd (List.mem_map.mpr ⟨b, hb', e.symm⟩) h.1
    · rcases List.mem_cons.mp hb with rfl | hb'
      · exact absurd (List.mem_map.mpr ⟨a, ha', e⟩) h.1
      · exact inj_of_nodup h.2 ha' hb' e
theorem nodup_of_map {β : Type} {g : α → β} {as : List α} (h : (as.map g).Nodup) : as.Nodup := by
  rw [List.nodup_iff_pairwise_ne] at *
  rw [List.pairwise_map] at h
  exact h.imp fun hn e => hn (by rw [e])

theorem Good.inj {as : List α} {f : α → Box} (g : Good as f) {a b : α} (ha : a ∈ as) (hb : b ∈ as) (e : (f a).number = (f b).number) : a = b :=
  inj_of_nodup (g := fun a => (f a).number) g.nd ha hb e
theorem Good.nodup {as : List α} {f : α → Box} (g : Good as f) : as.Nodup := nodup_of_map g.nd

/-- the number of the members that are not in a list -/
def left (l : World) (g : List Nat) : Nat := (l.filter fun b => !g.contains b.number).length
theorem left_le (l : World) (g : List Nat) : left l g ≤ l.length := List.length_filter_le _ _

theorem contains_iff {g : List Nat} {n : Nat} : g.contains n = true ↔ n ∈ g := by simp
theorem contains_false {g : List Nat} {n : Nat} : g.contains n = false ↔ n ∉ g := by
  rw [← contains_iff]; simp
theorem contains_congr {g h : List Nat} (e : ∀ n, n ∈ g ↔ n ∈ h) (n : Nat) : g.contains n = h.contains n := by
  rw [Bool.eq_iff_iff, contains_iff, contains_iff]; exact e n

/-- one more round leaves fewer -/
theorem left_lt {l : World} {g h : List Nat} {b : Box} (hb : b ∈ l) (hg : b.number ∉ g) (hh : b.number ∈ h) (sub : ∀ n ∈ g, n ∈ h) : left l h < left l g := by
  have key : ∀ (l : World), left l h ≤ left l g := by
    intro l
    unfold left
    refine (List.Sublist.length_le ?_)
    have : (l.filter fun b => !h.contains b.number) = (l.filter fun b => !g.contains b.number).filter fun b => !h.contains b.number := by
      rw [List.filter_filter]
      refine List.filter_congr fun c _ => ?_
      cases q : h.contains c.number with
      | true => simp
      | false =>
        have : g.contains c.number = false := contains_false.mpr fun z => (contains_false.mp q) (sub _ z)
        rw [this]
        rfl
    rw [this]
    exact List.filter_sublist
  induction l with
  | nil => cases hb
  | cons c r ih =>
    unfold left at *
    rcases List.mem_cons.mp hb with rfl | hb'
    · rw [List.filter_cons, List.filter_cons]
      have e1 : h.contains b.number = true := contains_iff.mpr hh
      have e2 : g.contains b.number = false := contains_false.mpr hg
      rw [e1, e2]
      have := key r
      simp only [Bool.not_true, Bool.false_eq_true, if_false, Bool.not_false, if_true, List.length_cons]
      omega
    · have i := ih hb'
      rw [List.filter_cons, List.filter_cons]
      cases q : h.contains c.number with
      | true =>
        simp only [Bool.not_true, Bool.false_eq_true, if_false]
        split
        · simp only [List.length_cons]; omega
        · exact i
      | false =>
        have : g.contains c.number = false := contains_false.mpr fun z => (contains_false.mp q) (sub _ z)
        rw [this]
        simp only [Bool.not_false, if_true, List.length_cons]
        omega

/-! ### what is pushed -/
def hits (l : World) (dx dy : Int) (g : List Nat) : World := l.filter fun b => !g.contains b.number && (l.filter fun b => g.contains b.number).any fun a => blocks (at_ a dx dy) b
theorem groupFrom_succ (l : World) (dx dy : Int) (k : Nat) (g : List Nat) : groupFrom l dx dy (k + 1) g = if hits l dx dy g = [] then some g else if ((hits l dx dy g).all fun b => b.pushed) = false then none else groupFrom l dx dy k (g ++ (hits l dx dy g).map fun b => b.number) := rfl
theorem mem_hits {l : World} {dx dy : Int} {g : List Nat} {b : Box} : b ∈ hits l dx dy g ↔ b ∈ l ∧ b.number ∉ g ∧ ∃ a ∈ l, a.number ∈ g ∧ blocks (at_ a dx dy) b = true := by
  unfold hits
  rw [List.mem_filter, Bool.and_eq_true, List.any_eq_true]
  constructor
  · rintro ⟨h1, h2, a, h3, h4⟩
    rw [List.mem_filter, contains_iff] at h3
    refine ⟨h1, ?_, a, h3.1, h3.2, h4⟩
    rw [Bool.not_eq_true'] at h2
    exact contains_false.mp h2
  · rintro ⟨h1, h2, a, h3, h4, h5⟩
    exact ⟨h1, by rw [contains_false.mpr h2]; rfl, a, List.mem_filter.mpr ⟨h3, contains_iff.mpr h4⟩, h5⟩

/-- a set S of numbers with: the first ones in it; closed; beyond the first ones all can be pushed: the group is S or less, and is there -/
theorem group_some {l : World} {dx dy : Int} {S : Nat → Prop} (hc : ∀ a ∈ l, ∀ b ∈ l, S a.number → blocks (at_ a dx dy) b = true → S b.number) (first : List Nat)
    (hp : ∀ b ∈ l, S b.number → b.number ∉ first → b.pushed = true) :
    ∀ (k : Nat) (g : List Nat), left l g < k → (∀ n ∈ g, S n) → (∀ n ∈ first, n ∈ g) → ∃ g', groupFrom l dx dy k g = some g' ∧ (∀ n ∈ g', S n) ∧ (∀ n ∈ g, n ∈ g') ∧ hits l dx dy g' = []
  | 0, _, h, _, _ => nomatch h
  | k + 1, g, h, hS, hf => by
    rw [groupFrom_succ]
    by_cases e : hits l dx dy g = []
    · rw [if_pos e]
      exact ⟨g, rfl, hS, fun _ z => z, e⟩
    · rw [if_neg e]
      have hin : ∀ b ∈ hits l dx dy g, S b.number ∧ b.number ∉ g ∧ b ∈ l := fun b hb => by
        obtain ⟨h1, h2, a, h3, h4, h5⟩ := mem_hits.mp hb
        exact ⟨hc a h3 b h1 (hS _ h4) h5, h2, h1⟩
      have all : ((hits l dx dy g).all fun b => b.pushed) = true := List.all_eq_true.mpr fun b hb => hp b (hin b hb).2.2 (hin b hb).1 fun z => (hin b hb).2.1 (hf _ z)
      rw [all, if_neg (by decide)]
      obtain ⟨b, hb⟩ := List.exists_mem_of_ne_nil _ e
      have lt : left l (g ++ (hits l dx dy g).map fun b => b.number) < left l g := left_lt (hin b hb).2.2 (hin b hb).2.1 (List.mem_append_right _ (List.mem_map.mpr ⟨b, hb, rfl⟩)) fun n hn => List.mem_append_left _ hn
      obtain ⟨g', e1, e2, e3, e4⟩ := group_some hc first hp k (g ++ (hits l dx dy g).map fun b => b.number) (by omega) (fun n hn => by
        rcases List.mem_append.mp hn with hn | hn
        · exact hS n hn
        · obtain ⟨c, hc', rfl⟩ := List.mem_map.mp hn
          exact (hin c hc').1) (fun n hn => List.mem_append_left _ (hf n hn))
      exact ⟨g', e1, e2, fun n hn => e3 n (List.mem_append_left _ hn), e4⟩

/-- if the group is there, then it holds the first ones, is closed, and beyond the first ones all can be pushed -/
theorem group_given {l : World} {dx dy : Int} : ∀ (k : Nat) (g g' : List Nat), left l g < k → groupFrom l dx dy k g = some g' →
    (∀ n ∈ g, n ∈ g') ∧ hits l dx dy g' = [] ∧ (∀ n ∈ g', n ∈ g ∨ ∃ b ∈ l, b.number = n ∧ b.pushed = true)
  | 0, _, _, h, _ => nomatch h
  | k + 1, g, g', h, e => by
    rw [groupFrom_succ] at e
    by_cases q : hits l dx dy g = []
    · rw [if_pos q] at e
      cases e
      exact ⟨fun _ z => z, q, fun _ z => .inl z⟩
    · rw [if_neg q] at e
      have hin : ∀ b ∈ hits l dx dy g, b.number ∉ g ∧ b ∈ l := fun b hb => by
        obtain ⟨h1, h2, _⟩ := mem_hits.mp hb
        exact ⟨h2, h1⟩
      cases all : ((hits l dx dy g).all fun b => b.pushed) with
      | false => rw [all, if_pos rfl] at e; cases e
      | true =>
        rw [all, if_neg (by decide)] at e
        obtain ⟨b, hb⟩ := List.exists_mem_of_ne_nil _ q
        have lt : left l (g ++ (hits l dx dy g).map fun b => b.number) < left l g := left_lt (hin b hb).2 (hin b hb).1 (List.mem_append_right _ (List.mem_map.mpr ⟨b, hb, rfl⟩)) fun n hn => List.mem_append_left _ hn
        obtain ⟨e1, e2, e3⟩ := group_given k _ g' (by omega) e
        refine ⟨fun n hn => e1 n (List.mem_append_left _ hn), e2, fun n hn => ?_⟩
        rcases e3 n hn with z | z
        · rcases List.mem_append.mp z with z | z
          · exact .inl z
          · obtain ⟨c, hc', rfl⟩ := List.mem_map.mp z
            exact .inr ⟨c, (hin c hc').2, rfl, List.all_eq_true.mp all c hc'⟩
        · exact .inr z
end Mv
namespace Mv
open Ge04
variable {α : Type}

theorem mem_wd {as : List α} {f : α → Box} {b : Box} : b ∈ wd as f ↔ ∃ a ∈ as, f a = b := List.mem_map
theorem wd_length (as : List α) (f : α → Box) : (wd as f).length = as.length := List.length_map _

inductive Reach (as : List α) (f : α → Box) (dx dy : Int) (asked : List α) : α → Prop
  | base {a : α} : a ∈ asked → Reach as f dx dy asked a
  | step {a b : α} : Reach as f dx dy asked a → a ∈ as → b ∈ as → blocks (at_ (f a) dx dy) (f b) = true → Reach as f dx dy asked b

/-- the outcome of pushing -/
structure Pushed (as : List α) (f : α → Box) (dx dy : Int) (asked p : List α) : Prop where
  sub : ∀ a ∈ p, a ∈ as
  nd : (asked ++ p).Nodup
  closed : ∀ a ∈ asked ++ p, ∀ b ∈ as, blocks (at_ (f a) dx dy) (f b) = true → b ∈ asked ++ p
  reach : ∀ a ∈ p, Reach as f dx dy asked a

def nums (f : α → Box) (xs : List α) : List Nat := xs.map fun a => (f a).number
theorem mem_nums {f : α → Box} {xs : List α} {n : Nat} : n ∈ nums f xs ↔ ∃ a ∈ xs, (f a).number = n := List.mem_map
theorem Good.mem_nums {as : List α} {f : α → Box} (g : Good as f) {xs : List α} (hx : ∀ a ∈ xs, a ∈ as) {a : α} (ha : a ∈ as) : (f a).number ∈ nums f xs ↔ a ∈ xs := by
  constructor
  · intro h
    obtain ⟨b, hb, e⟩ := Mv.mem_nums.mp h
    rw [← g.inj (hx b hb) ha e]
    exact hb
  · intro h
    exact Mv.mem_nums.mpr ⟨a, h, rfl⟩

theorem push_none {as : List α} {f : α → Box} {dx dy : Int} {asked p : List α} (g : Good as f) (ha : ∀ a ∈ asked, a ∈ as) (P : Pushed as f dx dy asked p) {b : α} (hb : b ∈ p) (hp : (f b).pushed = false) :
    groupFrom (wd as f) dx dy ((wd as f).length + 1) (nums f asked) = none := by
  cases e : groupFrom (wd as f) dx dy ((wd as f).length + 1) (nums f asked) with
  | none => rfl
  | some g' =>
    exfalso
    obtain ⟨h1, h2, h3⟩ := group_given _ _ _ (Nat.lt_succ_of_le (left_le _ _)) e
    have all : ∀ a, Reach as f dx dy asked a → (f a).number ∈ g' := fun a r => by
      induction r with
      | base z => exact h1 _ (mem_nums.mpr ⟨_, z, rfl⟩)
      | @step a b r ha' hb' q ih =>
        by_cases hg : (f b).number ∈ g'
        · exact hg
        · have : f b ∈ hits (wd as f) dx dy g' := mem_hits.mpr ⟨mem_wd.mpr ⟨b, hb', rfl⟩, hg, f a, mem_wd.mpr ⟨a, ha', rfl⟩, ih, q⟩
          rw [h2] at this
          cases this
    rcases h3 _ (all b (P.reach b hb)) with z | ⟨c, hc, en, ep⟩
    · have z' := (g.mem_nums ha (P.sub b hb)).mp z
      exact (List.nodup_append.mp P.nd).2.2 b z' b hb rfl
    · obtain ⟨d, hd, rfl⟩ := mem_wd.mp hc
      have := g.inj hd (P.sub b hb) en
      subst this
      rw [hp] at ep
      cases ep

theorem push_some {as : List α} {f : α → Box} {dx dy : Int} {asked p : List α} (g : Good as f) (ha : ∀ a ∈ asked, a ∈ as) (P : Pushed as f dx dy asked p) (hp : ∀ b ∈ p, (f b).pushed = true) :
    ∃ g', groupFrom (wd as f) dx dy ((wd as f).length + 1) (nums f asked) = some g' ∧ ∀ n, n ∈ g' ↔ n ∈ nums f (asked ++ p) := by
  have hap : ∀ a ∈ asked ++ p, a ∈ as := fun a h => by
    rcases List.mem_append.mp h with h | h
    · exact ha a h
    · exact P.sub a h
  obtain ⟨g', e1, e2, e3, e4⟩ := group_some (l := wd as f) (dx := dx) (dy := dy) (S := fun n => n ∈ nums f (asked ++ p))
    (by
      intro a h1 b h2 h3 h4
      obtain ⟨a', ha', rfl⟩ := mem_wd.mp h1
      obtain ⟨b', hb', rfl⟩ := mem_wd.mp h2
      exact (g.mem_nums hap hb').mpr (P.closed a' ((g.mem_nums hap ha').mp h3) b' hb' h4)) (nums f asked)
    (by
      intro b h1 h2 h3
      obtain ⟨b', hb', rfl⟩ := mem_wd.mp h1
      rcases List.mem_append.mp ((g.mem_nums hap hb').mp h2) with z | z
      · exact absurd ((g.mem_nums ha hb').mpr z) h3
      · exact hp b' z) _ _ (Nat.lt_succ_of_le (left_le _ _)) (fun n hn => by
      obtain ⟨a, ha', rfl⟩ := mem_nums.mp hn
      exact mem_nums.mpr ⟨a, List.mem_append_left _ ha', rfl⟩) (fun _ z => z)
  refine ⟨g', e1, fun n => ⟨e2 n, fun hn => ?_⟩⟩
  have all : ∀ a, Reach as f dx dy asked a → (f a).number ∈ g' := fun a r => by
    induction r with
    | base z => exact e3 _ (mem_nums.mpr ⟨_, z, rfl⟩)
    | @step a b r ha' hb' q ih =>
      by_cases hg : (f b).number ∈ g'
      · exact hg
      · have : f b ∈ hits (wd as f) dx dy g' := mem_hits.mpr ⟨mem_wd.mpr ⟨b, hb', rfl⟩, hg, f a, mem_wd.mpr ⟨a, ha', rfl⟩, ih, q⟩
        rw [e4] at this
        cases this
  obtain ⟨a, ha', rfl⟩ := mem_nums.mp hn
  rcases List.mem_append.mp ha' with z | z
  · exact all a (.base z)
  · exact all a (P.reach a z)

/-! ### what is carried -/
/-- the program's own test, without the numbers -/
def stOn (a b : Box) : Bool := decide (a.y + a.h = b.y) && (decide (a.x < b.x + b.w) && decide (b.x < a.x + a.w))
theorem standsOn_eq {a b : Box} : standsOn a b = (a.number != b.number && stOn a b) := rfl
def ridersOn (f : α → Box) (as cs : List α) : List α := as.filter fun a => (f a).hard && cs.any fun c => (f c).carries && stOn (f a) (f c)
def mores (l : World) (g : List Nat) : World := l.filter fun b => !g.contains b.number && (b.hard && l.any fun a => g.contains a.number && (a.carries && standsOn b a))
theorem loadFrom_succ (l : World) (k : Nat) (g : List Nat) : loadFrom l (k + 1) g = if mores l g = [] then g else loadFrom l k (g ++ (mores l g).map fun b => b.number) := rfl

/-- between two rounds: known is goers ++ found; of all but the newest what stands on them is known -/
structure Load (as : List α) (f : α → Box) (goers found newest : List α) : Prop where
  subG : ∀ a ∈ goers, a ∈ as
  subF : ∀ a ∈ found, a ∈ as
  new : ∀ a ∈ newest, a ∈ goers ++ found
  dis : ∀ a ∈ found, a ∉ goers
  nd : found.Nodup
  old : ∀ c ∈ goers ++ found, c ∉ newest → ∀ a ∈ as, (f a).hard = true → (f c).carries = true → stOn (f a) (f c) = true → a ∈ goers ++ found
def nextOf (as : List α) [DecidableEq α] (f : α → Box) (goers found newest : List α) : List α := (ridersOn f as newest).filter fun a => !(goers ++ found).contains a

section
variable [DecidableEq α] {as : List α} {f : α → Box} {goers found newest : List α}
theorem mem_next {a : α} : a ∈ nextOf as f goers found newest ↔ a ∈ as ∧ (f a).hard = true ∧ (∃ c ∈ newest, (f c).carries = true ∧ stOn (f a) (f c) = true) ∧ a ∉ goers ++ found := by
  unfold nextOf ridersOn
  rw [List.mem_filter, List.mem_filter, Bool.and_eq_true, List.any_eq_true]
  constructor
  · rintro ⟨⟨h1, h2, c, h3, h4⟩, h5⟩
    rw [Bool.and_eq_true] at h4
    refine ⟨h1, h2, ⟨c, h3, h4.1, h4.2⟩, fun z => ?_⟩
    rw [List.contains_iff_mem.mpr z] at h5
    cases h5
  · rintro ⟨h1, h2, ⟨c, h3, h4⟩, h5⟩
    refine ⟨⟨h1, h2, c, h3, by rw [Bool.and_eq_true]; exact h4⟩, ?_⟩
    cases q : (goers ++ found).contains a with
    | false => rfl
    | true => exact absurd (List.contains_iff_mem.mp q) h5

theorem no_self (g : Good as f) {a : α} (ha : a ∈ as) : stOn (f a) (f a) = false := by
  have := (g.sz a ha).2
  unfold stOn
  have e : ¬ ((f a).y + ((f a).h : Int) = (f a).y) := by omega
  rw [decide_eq_false e]
  rfl
theorem stands_at (g : Good as f) {a c : α} (ha : a ∈ as) (hc : c ∈ as) : standsOn (f a) (f c) = stOn (f a) (f c) := by
  rw [standsOn_eq]
  by_cases e : (f a).number = (f c).number
  · have := g.inj ha hc e
    subst this
    rw [no_self g ha, Bool.and_false]
  · have : ((f a).number != (f c).number) = true := by simpa using e
    rw [this, Bool.true_and]

/-- the specification's round is the program's -/
theorem mores_eq (g : Good as f) (L : Load as f goers found newest) {k : List Nat} (hk : ∀ n, n ∈ k ↔ n ∈ nums f (goers ++ found)) : mores (wd as f) k = (nextOf as f goers found newest).map f := by
  have sub : ∀ a ∈ goers ++ found, a ∈ as := fun a h => by
    rcases List.mem_append.mp h with h | h
    · exact L.subG a h
    · exact L.subF a h
  have inK : ∀ {a : α}, a ∈ as → (k.contains (f a).number = (goers ++ found).contains a) := fun {a} ha => by
    rw [Bool.eq_iff_iff, contains_iff, hk, g.mem_nums sub ha, List.contains_iff_mem]
  unfold mores nextOf ridersOn
  rw [List.filter_filter]
  show List.filter _ (as.map f) = _
  rw [List.filter_map]
  congr 1
  refine List.filter_congr fun a ha => ?_
  show (!k.contains (f a).number && ((f a).hard && (as.map f).any fun b => k.contains b.number && (b.carries && standsOn (f a) b))) = (!(goers ++ found).contains a && ((f a).hard && newest.any fun c => (f c).carries && stOn (f a) (f c)))
  rw [inK ha]
  cases hkn : (goers ++ found).contains a with
  | true => rfl
  | false =>
    cases hh : (f a).hard with
    | false => rfl
    | true =>
      have hna : a ∉ goers ++ found := fun z => by rw [List.contains_iff_mem.mpr z] at hkn; cases hkn
      simp only [Bool.not_false, Bool.true_and]
      rw [Bool.eq_iff_iff, List.any_eq_true, List.any_eq_true]
      constructor
      · rintro ⟨b, hb, hq⟩
        obtain ⟨c, hc, rfl⟩ := List.mem_map.mp hb
        rw [Bool.and_eq_true, Bool.and_eq_true] at hq
        obtain ⟨q1, q2, q3⟩ := hq
        rw [inK hc] at q1
        rw [stands_at g ha hc] at q3
        have q1 := List.contains_iff_mem.mp q1
        by_cases hn : c ∈ newest
        · exact ⟨c, hn, by rw [q2, q3]; rfl⟩
        · exact absurd (L.old c q1 hn a ha hh q2 q3) hna
      · rintro ⟨c, hc, hq⟩
        rw [Bool.and_eq_true] at hq
        have hcas := sub c (L.new c hc)
        refine ⟨f c, List.mem_map.mpr ⟨c, hcas, rfl⟩, ?_⟩
        rw [inK hcas, stands_at g ha hcas, hq.1, hq.2, List.contains_iff_mem.mpr (L.new c hc)]
        rfl
theorem next_load (hn : as.Nodup) (L : Load as f goers found newest) : Load as f goers (found ++ nextOf as f goers found newest) (nextOf as f goers found newest) where
  subG := L.subG
  subF := fun a h => by
    rcases List.mem_append.mp h with h | h
    · exact L.subF a h
    · exact (mem_next.mp h).1
  new := fun a h => List.mem_append_right _ (List.mem_append_right _ h)
  dis := fun a h => by
    rcases List.mem_append.mp h with h | h
    · exact L.dis a h
    · exact fun z => (mem_next.mp h).2.2.2 (List.mem_append_left _ z)
  nd := by
    rw [List.nodup_append]
    refine ⟨L.nd, (hn.filter _).filter _, fun a ha b hb e => ?_⟩
    subst e
    exact (mem_next.mp hb).2.2.2 (List.mem_append_right _ ha)
  old := fun c hc hcn a ha h1 h2 h3 => by
    rw [← List.append_assoc] at hc ⊢
    rcases List.mem_append.mp hc with hc | hc
    · by_cases hk : a ∈ goers ++ found
      · exact List.mem_append_left _ hk
      · by_cases hw : c ∈ newest
        · exact List.mem_append_right _ (mem_next.mpr ⟨ha, h1, ⟨c, hw, h2, h3⟩, hk⟩)
        · exact absurd (L.old c hc hw a ha h1 h2 h3) hk
    · exact absurd hc hcn
theorem load_start (hg : ∀ a ∈ goers, a ∈ as) : Load as f goers [] goers where
  subG := hg
  subF := fun _ z => nomatch z
  new := fun a h => List.mem_append_left _ h
  dis := fun _ z => nomatch z
  nd := .nil
  old := fun c hc hn => absurd (by simpa using hc) hn
theorem nums_append (f : α → Box) (xs ys : List α) : nums f (xs ++ ys) = nums f xs ++ nums f ys := List.map_append

/-- one round: k: the numbers of the goers in whatever order -/
theorem load_round (g : Good as f) (L : Load as f goers found newest) {k : List Nat} (hk : ∀ n, n ∈ k ↔ n ∈ nums f goers) (n : Nat) :
    loadFrom (wd as f) (n + 1) (k ++ nums f found) = if nextOf as f goers found newest = [] then k ++ nums f found else loadFrom (wd as f) n (k ++ nums f (found ++ nextOf as f goers found newest)) := by
  have e : mores (wd as f) (k ++ nums f found) = (nextOf as f goers found newest).map f := mores_eq g L fun n => by
    rw [nums_append, List.mem_append, List.mem_append, hk]
  rw [loadFrom_succ, e]
  by_cases q : nextOf as f goers found newest = []
  · rw [q]
    rfl
  · rw [if_neg q, if_neg (by rw [List.map_eq_nil_iff]; exact q), nums_append, List.map_map, List.append_assoc]
    rfl
/-- how many are still to be found -/
def toFind (as goers found : List α) : Nat := (as.filter fun a => !(goers ++ found).contains a).length
theorem toFind_le : toFind as goers found ≤ as.length := List.length_filter_le _ _
theorem filter_lt {p q : α → Bool} : ∀ {l : List α} {a : α}, a ∈ l → p a = true → q a = false → (∀ x ∈ l, q x = true → p x = true) → (l.filter q).length < (l.filter p).length
  | x :: r, a, ha, hp, hq, sub => by
    have le : (r.filter q).length ≤ (r.filter p).length := by
      have : r.filter q = (r.filter p).filter q := by
        rw [List.filter_filter]
        refine List.filter_congr fun c hc => ?_
        cases e : q c with
        | false => simp
        | true => rw [sub c (List.mem_cons_of_mem _ hc) e]; rfl
      rw [this]
      exact List.length_filter_le _ _
    rw [List.filter_cons, List.filter_cons]
    rcases List.mem_cons.mp ha with rfl | ha'
    · rw [hp, hq]
      simp only [Bool.false_eq_true, if_false, if_true, List.length_cons]
      omega
    · have ih := filter_lt ha' hp hq fun x hx => sub x (List.mem_cons_of_mem _ hx)
      cases e : q x with
      | false =>
        simp only [Bool.false_eq_true, if_false]
        split
        · simp only [List.length_cons]; omega
        · exact ih
      | true =>
        rw [sub x List.mem_cons_self e]
        simp only [if_true, List.length_cons]
        omega
theorem toFind_lt (h : nextOf as f goers found newest ≠ []) : toFind as goers (found ++ nextOf as f goers found newest) < toFind as goers found := by
  obtain ⟨b, hb⟩ := List.exists_mem_of_ne_nil _ h
  have hm := mem_next.mp hb
  refine filter_lt (a := b) hm.1 ?_ ?_ ?_
  · cases q : (goers ++ found).contains b with
    | false => rfl
    | true => exact absurd (List.contains_iff_mem.mp q) hm.2.2.2
  · rw [List.contains_iff_mem.mpr (List.mem_append_right _ (List.mem_append_right _ hb))]
    rfl
  · intro x _ hx
    cases q : (goers ++ found).contains x with
    | false => rfl
    | true =>
      have z : x ∈ goers ++ (found ++ nextOf as f goers found newest) := by
        rw [← List.append_assoc]
        exact List.mem_append_left _ (List.contains_iff_mem.mp q)
      rw [List.contains_iff_mem.mpr z] at hx
      cases hx
end
end Mv
namespace Mv
open Ge04
set_option linter.unusedSectionVars false
variable {α : Type} [DecidableEq α]

/-- those of S have gone one step -/
def sh (f : α → Box) (S : List α) (dx dy : Int) (a : α) : Box := if a ∈ S then at_ (f a) dx dy else f a
section
variable {as : List α} {f : α → Box} {S : List α} {dx dy : Int}
theorem sh_in {a : α} (h : a ∈ S) : sh f S dx dy a = at_ (f a) dx dy := if_pos h
theorem sh_out {a : α} (h : a ∉ S) : sh f S dx dy a = f a := if_neg h
theorem sh_number (a : α) : (sh f S dx dy a).number = (f a).number := by unfold sh; split <;> rfl
theorem sh_w (a : α) : (sh f S dx dy a).w = (f a).w := by unfold sh; split <;> rfl
theorem sh_h (a : α) : (sh f S dx dy a).h = (f a).h := by unfold sh; split <;> rfl
theorem sh_hard (a : α) : (sh f S dx dy a).hard = (f a).hard := by unfold sh; split <;> rfl
theorem sh_pushed (a : α) : (sh f S dx dy a).pushed = (f a).pushed := by unfold sh; split <;> rfl
theorem sh_carries (a : α) : (sh f S dx dy a).carries = (f a).carries := by unfold sh; split <;> rfl
theorem Good.sh (g : Good as f) : Good as (sh f S dx dy) where
  nd := by
    have : (as.map fun a => (Mv.sh f S dx dy a).number) = as.map fun a => (f a).number := List.map_congr_left fun a _ => sh_number a
    rw [this]
    exact g.nd
  sz := fun a ha => by rw [sh_w, sh_h]; exact g.sz a ha
theorem moved_eq {g : List Nat} (h : ∀ a ∈ as, (f a).number ∈ g ↔ a ∈ S) : moved (wd as f) g dx dy = wd as (sh f S dx dy) := by
  unfold moved wd
  rw [List.map_map]
  refine List.map_congr_left fun a ha => ?_
  show (if g.contains (f a).number = true then at_ (f a) dx dy else f a) = _
  unfold sh
  by_cases q : a ∈ S
  · rw [if_pos q, if_pos (contains_iff.mpr ((h a ha).mpr q))]
  · rw [if_neg q, if_neg fun z => q ((h a ha).mp (contains_iff.mp z))]
theorem nums_sh (xs : List α) : nums (sh f S dx dy) xs = nums f xs := List.map_congr_left fun a _ => sh_number a
end

/-! ### one alone -/
def inWay (f : α → Box) (as : List α) (b : Box) (dx dy : Int) : List α := as.filter fun a => blocks (at_ b dx dy) (f a)
section
variable {as : List α} {f : α → Box} {dx dy : Int}
theorem moving_one (g : Good as f) {r : α} (hr : r ∈ as) : ((wd as f).filter fun b => [(f r).number].contains b.number) = [f r] := by
  have key : ∀ (l : List α), (l.map fun a => (f a).number).Nodup → r ∈ l → ((l.map f).filter fun b => [(f r).number].contains b.number) = [f r] := by
    intro l
    induction l with
    | nil => intro _ h; cases h
    | cons a t ih =>
      intro hn hm
      rw [List.map_cons, List.nodup_cons] at hn
      rw [List.map_cons, List.filter_cons]
      rcases List.mem_cons.mp hm with rfl | hm'
      · have : [(f r).number].contains (f r).number = true := contains_iff.mpr List.mem_cons_self
        rw [this, if_pos rfl]
        congr 1
        rw [List.filter_eq_nil_iff]
        intro b hb hc
        obtain ⟨c, hc', rfl⟩ := List.mem_map.mp hb
        have := List.mem_singleton.mp (contains_iff.mp hc)
        exact hn.1 (List.mem_map.mpr ⟨c, hc', this⟩)
      · have : [(f r).number].contains (f a).number = false := contains_false.mpr fun z => hn.1 (List.mem_map.mpr ⟨r, hm', (List.mem_singleton.mp z).symm⟩)
        rw [this, if_neg (by decide)]
        exact ih hn.2 hm'
  exact key as g.nd hr
theorem hits_one (g : Good as f) {r : α} (hr : r ∈ as) : hits (wd as f) dx dy [(f r).number] = (inWay f as (f r) dx dy).map f := by
  unfold hits
  rw [moving_one g hr]
  unfold inWay
  show List.filter _ (as.map f) = _
  rw [List.filter_map]
  congr 1
  refine List.filter_congr fun a ha => ?_
  show (!([(f r).number].contains (f a).number) && ([f r].any fun a_1 => blocks (at_ a_1 dx dy) (f a))) = blocks (at_ (f r) dx dy) (f a)
  rw [List.any_cons, List.any_nil, Bool.or_false]
  by_cases e : (f a).number = (f r).number
  · have : [(f r).number].contains (f a).number = true := contains_iff.mpr (by rw [e]; exact List.mem_cons_self)
    rw [this]
    have b : blocks (at_ (f r) dx dy) (f a) = false := by
      unfold blocks
      have : ((at_ (f r) dx dy).number != (f a).number) = false := by
        show ((f r).number != (f a).number) = false
        rw [e]; simp
      rw [this, Bool.false_and]
    rw [b]
    rfl
  · have : [(f r).number].contains (f a).number = false := contains_false.mpr fun z => e (List.mem_singleton.mp z)
    rw [this]
    rfl
theorem group_grows {l : World} : ∀ (k : Nat) (g g' : List Nat), groupFrom l dx dy k g = some g' → g.length ≤ g'.length
  | 0, g, g', e => by cases e; exact Nat.le_refl _
  | k + 1, g, g', e => by
    rw [groupFrom_succ] at e
    split at e
    · cases e; exact Nat.le_refl _
    · split at e
      · cases e
      · have := group_grows k _ _ e
        rw [List.length_append] at this
        omega
theorem one_free (g : Good as f) {r : α} (hr : r ∈ as) (e : inWay f as (f r) dx dy = []) : groupFrom (wd as f) dx dy ((wd as f).length + 1) [(f r).number] = some [(f r).number] := by
  rw [groupFrom_succ, hits_one g hr, e]
  rfl
theorem one_held (g : Good as f) {r : α} (hr : r ∈ as) (e : inWay f as (f r) dx dy ≠ []) (j : Nat) : groupFrom (wd as f) dx dy ((wd as f).length + 1) [(f r).number] ≠ some [j] := by
  rw [groupFrom_succ, hits_one g hr, if_neg (by rw [List.map_eq_nil_iff]; exact e)]
  split
  · intro z; cases z
  · intro z
    have := group_grows _ _ _ z
    rw [List.length_append, List.length_map, List.length_map] at this
    have h2 : 0 < (inWay f as (f r) dx dy).length := List.length_pos_iff.mpr e
    simp only [List.length_cons, List.length_nil] at this
    omega
/-- one that is carried goes if it can -/
def ride (as : List α) (dx dy : Int) (f : α → Box) (r : α) : α → Box := if inWay f as (f r) dx dy = [] then sh f [r] dx dy else f
theorem ride_number (r a : α) : (ride as dx dy f r a).number = (f a).number := by
  unfold ride
  split
  · exact sh_number a
  · rfl
theorem Good.ride (g : Good as f) (r : α) : Good as (ride as dx dy f r) := by
  unfold Mv.ride
  split
  · exact g.sh
  · exact g
def rideW (dx dy : Int) (w : World) (k : Nat) : World := match groupFrom w dx dy (w.length + 1) [k] with
  | some [j] => moved w [j] dx dy
  | _ => w
theorem one_mem (g : Good as f) {r : α} (hr : r ∈ as) : ∀ a ∈ as, (f a).number ∈ [(f r).number] ↔ a ∈ [r] := fun a ha => by
  rw [List.mem_singleton, List.mem_singleton]
  exact ⟨fun e => g.inj ha hr e, fun e => by rw [e]⟩
theorem rideW_eq (g : Good as f) {r : α} (hr : r ∈ as) : rideW dx dy (wd as f) (f r).number = wd as (ride as dx dy f r) := by
  unfold rideW ride
  by_cases e : inWay f as (f r) dx dy = []
  · rw [one_free g hr e, if_pos e]
    exact moved_eq (one_mem g hr)
  · rw [if_neg e]
    split
    · rename_i j q
      exact absurd q (one_held g hr e j)
    · rfl
theorem rides_eq : ∀ {rs : List α} {f : α → Box}, Good as f → (∀ r ∈ rs, r ∈ as) → (nums f rs).foldl (rideW dx dy) (wd as f) = wd as (rs.foldl (ride as dx dy) f)
  | [], _, _, _ => rfl
  | r :: rs, f, g, h => by
    show (nums f rs).foldl (rideW dx dy) (rideW dx dy (wd as f) (f r).number) = _
    rw [rideW_eq g (h r List.mem_cons_self)]
    have e : nums f rs = nums (ride as dx dy f r) rs := List.map_congr_left fun a _ => (ride_number r a).symm
    rw [e]
    exact rides_eq (g.ride r) fun x hx => h x (List.mem_cons_of_mem _ hx)

/-! ### what is carried, as a whole -/
structure Carried (as : List α) (f : α → Box) (goers found : List α) : Prop where
  sub : ∀ a ∈ found, a ∈ as
  dis : ∀ a ∈ found, a ∉ goers
  nd : found.Nodup
  eq : ∀ k : List Nat, (∀ n, n ∈ k ↔ n ∈ nums f goers) → loadFrom (wd as f) (as.length + 1) k = k ++ nums f found
structure CarryInv (as : List α) (f : α → Box) (goers found newest : List α) : Prop where
  load : Load as f goers found newest
  rest : ∃ j, toFind as goers found < j ∧ ∀ k : List Nat, (∀ n, n ∈ k ↔ n ∈ nums f goers) → loadFrom (wd as f) (as.length + 1) k = loadFrom (wd as f) j (k ++ nums f found)
theorem carry_start {goers : List α} (hg : ∀ a ∈ goers, a ∈ as) : CarryInv as f goers [] goers :=
  ⟨load_start hg, as.length + 1, Nat.lt_succ_of_le toFind_le, fun k _ => by simp [nums]⟩
theorem carry_next {goers found newest : List α} (g : Good as f) (I : CarryInv as f goers found newest) : CarryInv as f goers (found ++ nextOf as f goers found newest) (nextOf as f goers found newest) := by
  obtain ⟨L, j, hj, e⟩ := I
  refine ⟨next_load g.nodup L, ?_⟩
  by_cases q : nextOf as f goers found newest = []
  · rw [q, List.append_nil]
    exact ⟨j, hj, e⟩
  · have lt := toFind_lt q
    obtain ⟨i, rfl⟩ : ∃ i, j = i + 1 := ⟨j - 1, by omega⟩
    refine ⟨i, by omega, fun k hk => ?_⟩
    rw [e k hk, load_round g L hk, if_neg q]
theorem carry_end {goers found : List α} (g : Good as f) (I : CarryInv as f goers found []) : Carried as f goers found := by
  obtain ⟨L, j, hj, e⟩ := I
  refine ⟨L.subF, L.dis, L.nd, fun k hk => ?_⟩
  obtain ⟨i, rfl⟩ : ∃ i, j = i + 1 := ⟨j - 1, by omega⟩
  rw [e k hk, load_round g L hk]
  have : nextOf as f goers found [] = [] := by
    rw [List.eq_nil_iff_forall_not_mem]
    intro a ha
    obtain ⟨_, _, ⟨c, hc, _⟩, _⟩ := mem_next.mp ha
    cases hc
  rw [if_pos this]

/-! ### one step -/
theorem find_wd (g : Good as f) {m : α} (hm : m ∈ as) : Ge04.find (wd as f) (f m).number = some (f m) := by
  have key : ∀ (l : List α), (l.map fun a => (f a).number).Nodup → m ∈ l → (l.map f).find? (fun b => b.number == (f m).number) = some (f m) := by
    intro l
    induction l with
    | nil => intro _ h; cases h
    | cons a t ih =>
      intro hn hm
      rw [List.map_cons, List.nodup_cons] at hn
      rw [List.map_cons, List.find?_cons]
      rcases List.mem_cons.mp hm with rfl | hm'
      · simp
      · have : ((f a).number == (f m).number) = false := by
          rw [beq_eq_false_iff_ne]
          exact fun z => hn.1 (List.mem_map.mpr ⟨m, hm', z.symm⟩)
        rw [this]
        exact ih hn.2 hm'
  exact key as g.nd hm
theorem find_none {n : Nat} (h : ∀ a ∈ as, (f a).number ≠ n) : Ge04.find (wd as f) n = none := by
  unfold Ge04.find wd
  rw [List.find?_eq_none]
  intro b hb
  obtain ⟨a, ha, rfl⟩ := List.mem_map.mp hb
  simpa using h a ha
theorem step_soft (g : Good as f) {m : α} (hm : m ∈ as) (h : (f m).hard = false) : stepOne (wd as f) (f m).number dx dy = some (wd as (sh f [m] dx dy)) := by
  unfold stepOne
  rw [find_wd g hm]
  show (if (f m).hard = false then _ else _) = _
  rw [if_pos h, moved_eq (one_mem g hm)]
def firstOf (l : World) (n : Nat) (dy : Int) : List Nat := if dy < 0 then loadFrom l (l.length + 1) [n] else [n]
theorem stepOne_hard (g : Good as f) {m : α} (hm : m ∈ as) (h : (f m).hard = true) : stepOne (wd as f) (f m).number dx dy = match groupFrom (wd as f) dx dy ((wd as f).length + 1) (firstOf (wd as f) (f m).number dy) with
    | none => none
    | some g => if dy < 0 then some (moved (wd as f) g dx dy) else some (((loadFrom (wd as f) ((wd as f).length + 1) g).filter fun k => !g.contains k).foldl (rideW dx dy) (moved (wd as f) g dx dy)) := by
  unfold stepOne firstOf
  rw [find_wd g hm]
  show (if (f m).hard = false then _ else _) = _
  rw [if_neg (by rw [h]; decide)]
  rfl
/-- what is asked to go: upward with what is carried -/
structure Asked (as : List α) (f : α → Box) (m : α) (dy : Int) (asked : List α) : Prop where
  sub : ∀ a ∈ asked, a ∈ as
  first : firstOf (wd as f) (f m).number dy = nums f asked
theorem asked_one {m : α} (hm : m ∈ as) (h : ¬ dy < 0) : Asked as f m dy [m] := by
  refine ⟨fun a ha => by rw [List.mem_singleton.mp ha]; exact hm, ?_⟩
  unfold firstOf
  rw [if_neg h]
  rfl
theorem asked_up {m : α} {found : List α} (hm : m ∈ as) (h : dy < 0) (c : Carried as f [m] found) : Asked as f m dy (m :: found) := by
  refine ⟨fun a ha => ?_, ?_⟩
  · rcases List.mem_cons.mp ha with rfl | ha
    · exact hm
    · exact c.sub a ha
  · unfold firstOf
    rw [if_pos h, wd_length, c.eq [(f m).number] fun n => by simp [nums]]
    rfl
theorem step_held (g : Good as f) {m b : α} {asked p : List α} (hm : m ∈ as) (h : (f m).hard = true) (A : Asked as f m dy asked) (P : Pushed as f dx dy asked p) (hb : b ∈ p) (hp : (f b).pushed = false) :
    stepOne (wd as f) (f m).number dx dy = none := by
  rw [stepOne_hard g hm h, A.first, push_none g A.sub P hb hp]
theorem gone_mem (g : Good as f) {S : List α} {k : List Nat} (hS : ∀ a ∈ S, a ∈ as) (e : ∀ n, n ∈ k ↔ n ∈ nums f S) : ∀ a ∈ as, (f a).number ∈ k ↔ a ∈ S := fun a ha => by
  rw [e, g.mem_nums hS ha]
theorem step_up (g : Good as f) {m : α} {asked p : List α} (hm : m ∈ as) (h : (f m).hard = true) (A : Asked as f m dy asked) (P : Pushed as f dx dy asked p) (hp : ∀ b ∈ p, (f b).pushed = true) (hd : dy < 0) :
    stepOne (wd as f) (f m).number dx dy = some (wd as (sh f (asked ++ p) dx dy)) := by
  obtain ⟨k, e1, e2⟩ := push_some g A.sub P hp
  rw [stepOne_hard g hm h, A.first, e1]
  show (if dy < 0 then _ else _) = _
  rw [if_pos hd, moved_eq (gone_mem g (fun a ha => by
    rcases List.mem_append.mp ha with z | z
    · exact A.sub a z
    · exact P.sub a z) e2)]
theorem step_side (g : Good as f) {m : α} {asked p rs : List α} (hm : m ∈ as) (h : (f m).hard = true) (A : Asked as f m dy asked) (P : Pushed as f dx dy asked p) (hp : ∀ b ∈ p, (f b).pushed = true) (hd : ¬ dy < 0) (c : Carried as f (asked ++ p) rs) :
    stepOne (wd as f) (f m).number dx dy = some (wd as (rs.foldl (ride as dx dy) (sh f (asked ++ p) dx dy))) := by
  obtain ⟨k, e1, e2⟩ := push_some g A.sub P hp
  have sub : ∀ a ∈ asked ++ p, a ∈ as := fun a ha => by
    rcases List.mem_append.mp ha with z | z
    · exact A.sub a z
    · exact P.sub a z
  rw [stepOne_hard g hm h, A.first, e1]
  show (if dy < 0 then _ else _) = _
  rw [if_neg hd, moved_eq (gone_mem g sub e2), wd_length, c.eq k e2, List.filter_append]
  have f1 : k.filter (fun n => !k.contains n) = [] := by
    rw [List.filter_eq_nil_iff]
    intro n hn
    rw [contains_iff.mpr hn]
    decide
  have f2 : (nums f rs).filter (fun n => !k.contains n) = nums f rs := by
    rw [List.filter_eq_self]
    intro n hn
    obtain ⟨a, ha, rfl⟩ := mem_nums.mp hn
    have : (f a).number ∉ k := fun z => c.dis a ha ((gone_mem g sub e2 a (c.sub a ha)).mp z)
    rw [contains_false.mpr this]
    rfl
  rw [f1, f2, List.nil_append, ← nums_sh (f := f) (S := asked ++ p) (dx := dx) (dy := dy) rs, rides_eq g.sh c.sub]
end
end Mv
namespace Mv
open Ge04
set_option linter.unusedSectionVars false
variable {α : Type} [DecidableEq α]

theorem nodup_len : ∀ {xs ys : List α}, xs.Nodup → (∀ a ∈ xs, a ∈ ys) → xs.length ≤ ys.length
  | [], _, _, _ => Nat.zero_le _
  | x :: r, ys, h, s => by
    rw [List.nodup_cons] at h
    have hx := s x List.mem_cons_self
    have i := nodup_len (ys := ys.erase x) h.2 fun a ha => by
      have ne : a ≠ x := fun z => h.1 (z ▸ ha)
      exact (List.mem_erase_of_ne ne).mpr (s a (List.mem_cons_of_mem _ ha))
    rw [List.length_erase_of_mem hx] at i
    have : 0 < ys.length := List.length_pos_of_mem hx
    rw [List.length_cons]
    omega

/-! ### what is pushed, found one by one -/
structure PushInv (as : List α) (f : α → Box) (dx dy : Int) (asked p : List α) (done : Nat) : Prop where
  sub : ∀ a ∈ p, a ∈ as
  nd : (asked ++ p).Nodup
  closed : ∀ a ∈ (asked ++ p).take done, ∀ b ∈ as, blocks (at_ (f a) dx dy) (f b) = true → b ∈ asked ++ p
  reach : ∀ a ∈ p, Reach as f dx dy asked a
  le : done ≤ (asked ++ p).length
section
variable {as : List α} {f : α → Box} {dx dy : Int} {asked p : List α} {done : Nat}
theorem push_start (hn : asked.Nodup) : PushInv as f dx dy asked [] 0 where
  sub := fun _ z => by cases z
  nd := by rw [List.append_nil]; exact hn
  closed := fun _ z => by cases z
  reach := fun _ z => by cases z
  le := Nat.zero_le _
theorem push_end (I : PushInv as f dx dy asked p done) (h : ¬ done < (asked ++ p).length) : Pushed as f dx dy asked p :=
  ⟨I.sub, I.nd, fun a ha => I.closed a (by rw [List.take_of_length_le (Nat.le_of_not_lt h)]; exact ha), I.reach⟩
def newIn (as : List α) (f : α → Box) (dx dy : Int) (known : List α) (a : α) : List α := (inWay f as (f a) dx dy).filter fun b => !known.contains b
theorem mem_newIn {known : List α} {a b : α} : b ∈ newIn as f dx dy known a ↔ b ∈ as ∧ blocks (at_ (f a) dx dy) (f b) = true ∧ b ∉ known := by
  unfold newIn inWay
  rw [List.mem_filter, List.mem_filter]
  constructor
  · rintro ⟨⟨h1, h2⟩, h3⟩
    refine ⟨h1, h2, fun z => ?_⟩
    rw [List.contains_iff_mem.mpr z] at h3
    cases h3
  · rintro ⟨h1, h2, h3⟩
    refine ⟨⟨h1, h2⟩, ?_⟩
    cases q : known.contains b with
    | false => rfl
    | true => exact absurd (List.contains_iff_mem.mp q) h3
theorem push_next (g : Good as f) (ha : ∀ a ∈ asked, a ∈ as) (I : PushInv as f dx dy asked p done) {a : α} (e : (asked ++ p)[done]? = some a) : PushInv as f dx dy asked (p ++ newIn as f dx dy (asked ++ p) a) (done + 1) := by
  have lt : done < (asked ++ p).length := (List.getElem?_eq_some_iff.mp e).1
  have am : a ∈ asked ++ p := List.mem_of_getElem? e
  have aas : a ∈ as := by
    rcases List.mem_append.mp am with z | z
    · exact ha a z
    · exact I.sub a z
  have ra : Reach as f dx dy asked a := by
    rcases List.mem_append.mp am with z | z
    · exact .base z
    · exact I.reach a z
  refine ⟨fun b hb => ?_, ?_, fun b hb c hc q => ?_, fun b hb => ?_, ?_⟩
  · rcases List.mem_append.mp hb with z | z
    · exact I.sub b z
    · exact (mem_newIn.mp z).1
  · rw [← List.append_assoc, List.nodup_append]
    refine ⟨I.nd, (g.nodup.filter _).filter _, fun x hx y hy e => ?_⟩
    subst e
    exact (mem_newIn.mp hy).2.2 hx
  · rw [← List.append_assoc] at hb ⊢
    rw [List.take_append_of_le_length (by omega), List.take_add_one, e] at hb
    rcases List.mem_append.mp hb with z | z
    · exact List.mem_append_left _ (I.closed b z c hc q)
    · have : b = a := by simpa using z
      subst this
      by_cases k : c ∈ asked ++ p
      · exact List.mem_append_left _ k
      · exact List.mem_append_right _ (mem_newIn.mpr ⟨hc, q, k⟩)
  · rcases List.mem_append.mp hb with z | z
    · exact I.reach b z
    · exact .step ra aas (mem_newIn.mp z).1 (mem_newIn.mp z).2.1
  · rw [← List.append_assoc, List.length_append]
    omega
theorem push_len (ha : ∀ a ∈ asked, a ∈ as) (I : PushInv as f dx dy asked p done) : (asked ++ p).length ≤ as.length := nodup_len I.nd fun a h => by
  rcases List.mem_append.mp h with z | z
  · exact ha a z
  · exact I.sub a z
end

/-! ### steps -/
theorem steps_zero (n : Nat) (dx dy : Int) (l : World) : steps n dx dy 0 l = (l, 0) := rfl
theorem steps_none {n : Nat} {dx dy : Int} {l : World} (h : stepOne l n dx dy = none) : ∀ k, steps n dx dy k l = (l, 0)
  | 0 => rfl
  | k + 1 => by
    show (match stepOne l n dx dy with | none => (l, 0) | some m => let r := steps n dx dy k m; (r.1, r.2 + 1)) = _
    rw [h]
theorem steps_some {n : Nat} {dx dy : Int} {l m : World} (h : stepOne l n dx dy = some m) (k : Nat) : steps n dx dy (k + 1) l = ((steps n dx dy k m).1, (steps n dx dy k m).2 + 1) := by
  show (match stepOne l n dx dy with | none => (l, 0) | some m => let r := steps n dx dy k m; (r.1, r.2 + 1)) = _
  rw [h]
/-- between two steps -/
structure StepsInv (n : Nat) (dx dy : Int) (most : Nat) (l0 : World) (c : Nat) (l : World) : Prop where
  le : c ≤ most
  eq : steps n dx dy most l0 = ((steps n dx dy (most - c) l).1, (steps n dx dy (most - c) l).2 + c)
section
variable {n : Nat} {dx dy : Int} {most c : Nat} {l0 l m : World}
theorem stepsInv_start : StepsInv n dx dy most l0 0 l0 := ⟨Nat.zero_le _, by simp⟩
theorem stepsInv_next (I : StepsInv n dx dy most l0 c l) (h : c < most) (e : stepOne l n dx dy = some m) : StepsInv n dx dy most l0 (c + 1) m := by
  refine ⟨h, ?_⟩
  have q : most - c = (most - (c + 1)) + 1 := by omega
  rw [I.eq, q, steps_some e]
  show (_, _) = (_, _)
  congr 1
  omega
theorem stepsInv_all (I : StepsInv n dx dy most l0 c l) (h : ¬ c < most) : steps n dx dy most l0 = (l, c) := by
  have : most - c = 0 := by omega
  rw [I.eq, this, steps_zero]
  simp
theorem stepsInv_stop (I : StepsInv n dx dy most l0 c l) (e : stepOne l n dx dy = none) : steps n dx dy most l0 = (l, c) := by
  rw [I.eq, steps_none e]
  simp
end

/-! ### a fall -/
section
variable {as : List α} {f : α → Box}
theorem fallOne_zero (n : Nat) (l : World) : fallOne 0 n l = (l, 0) := by unfold fallOne; rfl
theorem fallOne_held (g : Good as f) {r : α} (hr : r ∈ as) (e : inWay f as (f r) 0 1 ≠ []) : ∀ k, fallOne k (f r).number (wd as f) = (wd as f, 0)
  | 0 => fallOne_zero _ _
  | k + 1 => by
    unfold fallOne
    show (match groupFrom (wd as f) 0 1 ((wd as f).length + 1) [(f r).number] with | some [_] => _ | _ => _) = _
    split
    · rename_i j q
      exact absurd q (one_held g hr e j)
    · rfl
theorem fallOne_free (g : Good as f) {r : α} (hr : r ∈ as) (e : inWay f as (f r) 0 1 = []) (k : Nat) : fallOne (k + 1) (f r).number (wd as f) = ((fallOne k (f r).number (wd as (sh f [r] 0 1))).1, (fallOne k (f r).number (wd as (sh f [r] 0 1))).2 + 1) := by
  conv => lhs; unfold fallOne
  show (match groupFrom (wd as f) 0 1 ((wd as f).length + 1) [(f r).number] with | some [_] => _ | _ => _) = _
  rw [one_free g hr e, ← moved_eq (one_mem g hr)]
structure FallInv (n : Nat) (most : Nat) (l0 : World) (c : Nat) (l : World) : Prop where
  le : c ≤ most
  eq : fallOne most n l0 = ((fallOne (most - c) n l).1, (fallOne (most - c) n l).2 + c)
theorem fallInv_start {n most : Nat} {l0 : World} : FallInv n most l0 0 l0 := ⟨Nat.zero_le _, by simp⟩
theorem fallInv_next (g : Good as f) {r : α} (hr : r ∈ as) {most c : Nat} {l0 : World} (I : FallInv (f r).number most l0 c (wd as f)) (h : c < most) (e : inWay f as (f r) 0 1 = []) : FallInv (f r).number most l0 (c + 1) (wd as (sh f [r] 0 1)) := by
  refine ⟨h, ?_⟩
  have q : most - c = (most - (c + 1)) + 1 := by omega
  rw [I.eq, q, fallOne_free g hr e]
  show (_, _) = (_, _)
  congr 1
  omega
theorem fallInv_all {n most c : Nat} {l0 l : World} (I : FallInv n most l0 c l) (h : ¬ c < most) : fallOne most n l0 = (l, c) := by
  have : most - c = 0 := by omega
  rw [I.eq, this, fallOne_zero]
  simp
theorem fallInv_stop (g : Good as f) {r : α} (hr : r ∈ as) {most c : Nat} {l0 : World} (I : FallInv (f r).number most l0 c (wd as f)) (e : inWay f as (f r) 0 1 ≠ []) : fallOne most (f r).number l0 = (wd as f, c) := by
  rw [I.eq, fallOne_held g hr e]
  simp
end

/-! ### the order of a fall -/
def before (c b : Box) : Bool := decide (b.y + b.h < c.y + c.h) || ((b.y + b.h == c.y + c.h) && decide (c.number < b.number))
def put (b : Box) (m : List Box) : List Box := (m.takeWhile fun c => before c b) ++ (b :: (m.dropWhile fun c => before c b))
theorem fallOrder_eq (l : World) : fallOrder l = ((l.filter fun b => b.hard && b.pushed).foldr put []).map fun b => b.number := rfl
theorem before_iff {c b : Box} : before c b = true ↔ b.y + b.h < c.y + c.h ∨ (b.y + b.h = c.y + c.h ∧ c.number < b.number) := by
  unfold before
  simp
theorem before_total {c b : Box} (h : c.number ≠ b.number) (e : before c b = false) : before b c = true := by
  rw [before_iff]
  have : ¬ (before c b = true) := by rw [e]; decide
  rw [before_iff] at this
  omega
theorem before_trans {a b c : Box} (h1 : before a b = true) (h2 : before b c = true) : before a c = true := by
  rw [before_iff] at *
  omega
theorem put_perm (b : Box) (m : List Box) : (put b m).Perm (b :: m) := by
  unfold put
  refine List.perm_middle.trans ?_
  rw [List.takeWhile_append_dropWhile]
theorem put_sorted {b : Box} : ∀ {m : List Box}, m.Pairwise (fun a c => before a c = true) → (∀ c ∈ m, c.number ≠ b.number) → (put b m).Pairwise (fun a c => before a c = true)
  | [], _, _ => by simp [put]
  | x :: r, h, hn => by
    rw [List.pairwise_cons] at h
    unfold put
    rw [List.takeWhile_cons, List.dropWhile_cons]
    cases q : before x b with
    | true =>
      simp only [if_true, List.cons_append]
      have ih := put_sorted (b := b) h.2 fun c hc => hn c (List.mem_cons_of_mem _ hc)
      rw [List.pairwise_cons]
      refine ⟨fun c hc => ?_, ih⟩
      have : c ∈ put b r := hc
      rcases List.mem_cons.mp ((put_perm b r).mem_iff.mp this) with rfl | hc'
      · exact q
      · exact h.1 c hc'
    | false =>
      simp only [Bool.false_eq_true, if_false, List.nil_append]
      have bx := before_total (hn x List.mem_cons_self) q
      rw [List.pairwise_cons]
      refine ⟨fun c hc => ?_, List.pairwise_cons.mpr h⟩
      rcases List.mem_cons.mp hc with rfl | hc'
      · exact bx
      · exact before_trans bx (h.1 c hc')
theorem foldr_perm : ∀ l : List Box, (l.foldr put []).Perm l
  | [] => .nil
  | b :: r => (put_perm b _).trans ((foldr_perm r).cons b)
theorem foldr_sorted : ∀ {l : List Box}, (l.map fun b => b.number).Nodup → (l.foldr put []).Pairwise (fun a c => before a c = true)
  | [], _ => by simp
  | b :: r, h => by
    rw [List.map_cons, List.nodup_cons] at h
    refine put_sorted (foldr_sorted h.2) fun c hc e => h.1 ?_
    rw [← e]
    exact List.mem_map.mpr ⟨c, (foldr_perm r).mem_iff.mp hc, rfl⟩
theorem sorted_unique : ∀ {xs ys : List Box}, xs.Perm ys → xs.Pairwise (fun a c => before a c = true) → ys.Pairwise (fun a c => before a c = true) → xs = ys
  | [], ys, p, _, _ => (List.nil_perm.mp p).symm
  | x :: r, [], p, _, _ => nomatch List.perm_nil.mp p
  | x :: r, y :: t, p, h1, h2 => by
    rw [List.pairwise_cons] at h1 h2
    have e : x = y := by
      rcases List.mem_cons.mp (p.mem_iff.mp List.mem_cons_self) with e | e
      · exact e
      · rcases List.mem_cons.mp (p.mem_iff.mpr List.mem_cons_self) with e' | e'
        · exact e'.symm
        · have a := h1.1 y e'
          have b := h2.1 x e
          rw [before_iff] at a b
          omega
    subst e
    rw [sorted_unique (List.Perm.cons_inv p) h1.2 h2.2]
def fallers (as : List α) (f : α → Box) : List α := as.filter fun a => (f a).hard && (f a).pushed
theorem order_eq {as : List α} {f : α → Box} (g : Good as f) {ys : List α} (p : ys.Perm (fallers as f)) (h : ys.Pairwise fun a b => before (f b) (f a) = false) : nums f ys = fallOrder (wd as f) := by
  have nd : ((fallers as f).map fun a => (f a).number).Nodup := by
    have := g.nd
    rw [List.nodup_iff_pairwise_ne] at this ⊢
    exact this.sublist (List.filter_sublist.map _)
  have ndy : (ys.map fun a => (f a).number).Nodup := (p.map fun a => (f a).number).nodup_iff.mpr nd
  have e : (wd as f).filter (fun b => b.hard && b.pushed) = (fallers as f).map f := by
    unfold wd fallers
    rw [List.filter_map]
    rfl
  rw [fallOrder_eq, e]
  have hy : (ys.map f).Pairwise (fun a c => before a c = true) := by
    rw [List.pairwise_map]
    have n2 := ndy
    rw [List.nodup_iff_pairwise_ne, List.pairwise_map] at n2
    exact (h.and n2).imp fun ⟨a, b⟩ => before_total (Ne.symm b) a
  have hz := foldr_sorted (l := (fallers as f).map f) (by rw [List.map_map]; exact nd)
  rw [sorted_unique (((foldr_perm _).trans (p.map f).symm)) hz hy, List.map_map]
  rfl
end Mv
namespace Mv
open Ge04
/-! ### the calls of a list -/
def sizeOf (p : Int) : Option Nat := (PyGe04.shape p).map (·.1)
theorem shape_rows {p : Int} {n k : Nat} (h : PyGe04.shape p = some (n, k)) : k = 0 := by
  unfold PyGe04.shape at h
  repeat' split at h
  all_goals first | (injection h with h; injection h with _ h; exact h.symm) | cases h
/-- what's read off the list's front -/
theorem calls_cons {f : Nat} {p : Int} {r : List Int} {cs : List (List (List Int))} (h : PyFlat.calls PyGe04.shape f (p :: r) = some cs) :
    ∃ (n : Nat) (cs' : List (List (List Int))) (f' : Nat), PyGe04.shape p = some (n, 0) ∧ n ≤ r.length ∧ cs = [p :: r.take n] :: cs' ∧ PyFlat.calls PyGe04.shape f' (r.drop n) = some cs' := by
  cases f with
  | zero => cases h
  | succ f =>
    simp only [PyFlat.calls, PyFlat.call] at h
    cases e : PyGe04.shape p with
    | none => rw [e] at h; cases h
    | some nk =>
      obtain ⟨n, k⟩ := nk
      have := shape_rows e
      subst this
      rw [e] at h
      dsimp only at h
      by_cases hl : r.length < n
      · rw [if_pos hl] at h; cases h
      · rw [if_neg hl] at h
        simp only [PyFlat.rows] at h
        cases e2 : PyFlat.calls PyGe04.shape f (r.drop n) with
        | none => rw [e2] at h; cases h
        | some cs' =>
          rw [e2] at h
          cases h
          exact ⟨n, cs', f, rfl, by omega, rfl, e2⟩
theorem calls_nil {f : Nat} {cs : List (List (List Int))} (h : PyFlat.calls PyGe04.shape f [] = some cs) : cs = [] := by
  unfold PyFlat.calls at h
  cases h
  rfl
/-- the shapes, by their numbers -/
theorem shape_is {p : Int} {n k : Nat} (h : PyGe04.shape p = some (n, k)) : (p = 0 ∧ n = 7) ∨ (p = 1 ∧ n = 1) ∨ (p = 2 ∧ n = 3) ∨ (p = 3 ∧ n = 1) ∨ (p = 4 ∧ n = 1) ∨ (p = 5 ∧ n = 4) ∨ (p = 6 ∧ n = 5) ∨ (p = 7 ∧ n = 0) ∨ (p = 8 ∧ n = 1) ∨ (p = 9 ∧ n = 3) ∨ (p = 10 ∧ n = 0) := by
  unfold PyGe04.shape at h
  repeat' split at h
  all_goals first | (injection h with h; injection h with h _; omega) | cases h
theorem whole_head : ∀ (c : List (List Int)), (PyGe04.whole c).headD [] = c.headD [] := by
  intro c
  unfold PyGe04.whole
  split <;> rfl
/-- a machine's answers, one behind another -/
def play (s : St) (cs : List (List (List Int))) : List Int := PyFlat.told (PyFlat.played (fun s c => Ge04Neutral.step s (c.headD [])) s (cs.map PyGe04.whole))
theorem play_nil (s : St) : play s [] = [] := rfl
theorem play_cons (s : St) (c : List Int) (cs : List (List (List Int))) : play s ([c] :: cs) = ((Ge04Neutral.step s c).2.length : Int) :: (Ge04Neutral.step s c).2 ++ play (Ge04Neutral.step s c).1 cs := by
  unfold play PyFlat.told
  rw [List.map_cons]
  show ((Ge04Neutral.step s ((PyGe04.whole [c]).headD [])).2 :: PyFlat.played _ (Ge04Neutral.step s ((PyGe04.whole [c]).headD [])).1 (cs.map PyGe04.whole)).flatMap (fun a => (a.length : Int) :: a) = _
  rw [whole_head, List.flatMap_cons]
  rfl
/-- what is asked of the list -/
structure AskedL (ns : List Int) (cs : List (List (List Int))) : Prop where
  dec : PyFlat.calls PyGe04.shape ns.length ns = some cs
  each : ∀ c ∈ cs, Ge04Neutral.asked1 (c.headD []) = true
  few : (play init cs).length ≤ 10000000
  ans : PyGe04.answers ns = play init cs
theorem asked_of {ns : List Int} (h : PyGe04.answers_asked ns = true) : ∃ cs, AskedL ns cs := by
  unfold PyGe04.answers_asked at h
  cases e : PyFlat.calls PyGe04.shape ns.length ns with
  | none => rw [e] at h; cases h
  | some cs =>
    rw [e] at h
    simp only [Bool.and_eq_true] at h
    obtain ⟨⟨⟨⟨_, _⟩, _⟩, h4⟩, h5⟩ := h
    have ea : PyGe04.answers ns = play init cs := by
      unfold PyGe04.answers PyGe04.calls
      rw [e]
      rfl
    refine ⟨cs, e, fun c hc => ?_, ?_, ea⟩
    · unfold Ge04Neutral.asked at h4
      rw [Bool.and_eq_true] at h4
      have := List.all_eq_true.mp h4.1 ((PyGe04.whole c).headD []) (List.mem_map.mpr ⟨_, List.mem_map.mpr ⟨c, hc, rfl⟩, rfl⟩)
      rw [whole_head] at this
      exact this
    · unfold PyFlat.short at h5
      have := of_decide_eq_true h5
      rw [ea] at this
      exact this

/-! ### each call from its numbers -/
def bI (b : Bool) : Int := if b = true then 1 else 0
theorem bit_some {z : Int} {b : Bool} (h : Ge04Neutral.bit z = some b) : z = bI b := by
  unfold Ge04Neutral.bit at h
  split at h
  · cases h; assumption
  · split at h
    · cases h; assumption
    · cases h
theorem nat_some {z : Int} (h : Ge04Neutral.nat z = true) : ((z.toNat : Nat) : Int) = z := by
  unfold Ge04Neutral.nat at h
  rw [Bool.and_eq_true] at h
  exact Int.toNat_of_nonneg (of_decide_eq_true h.1)
theorem step_of {s : St} {c : List Int} {x : Call} (h : Ge04Neutral.callOf c = some x) : Ge04Neutral.step s c = Ge04.step s x := by
  unfold Ge04Neutral.step
  rw [h]
theorem call0 {args : List Int} (h : Ge04Neutral.asked1 (0 :: args) = true) : ∃ (x y : Int) (w h : Nat) (a p c : Bool), args = [x, y, (w : Int), (h : Int), bI a, bI p, bI c] ∧ Ge04Neutral.callOf (0 :: args) = some (.box x y w h a p c) := by
  unfold Ge04Neutral.asked1 at h
  rw [Option.isSome_iff_exists] at h
  obtain ⟨v, e⟩ := h
  have e0 := e
  unfold Ge04Neutral.callOf at e
  split at e
  case h_1 x y w h a p c heq =>
    injection heq with _ heq
    subst heq
    split at e
    · rename_i hb
      simp only [Bool.and_eq_true] at hb
      cases ea : Ge04Neutral.bit a with
      | none => rw [ea] at e; cases e
      | some a' =>
        cases ep : Ge04Neutral.bit p with
        | none => rw [ea, ep] at e; cases e
        | some p' =>
          cases ec : Ge04Neutral.bit c with
          | none => rw [ea, ep, ec] at e; cases e
          | some c' =>
            rw [ea, ep, ec] at e
            refine ⟨x, y, w.toNat, h.toNat, a', p', c', ?_, ?_⟩
            · rw [nat_some hb.2.2.1, nat_some hb.2.2.2, ← bit_some ea, ← bit_some ep, ← bit_some ec]
            · rw [e0, ← e]
              rfl
    · cases e
  all_goals first | (rename_i heq; injection heq with heq _; exact absurd heq (by decide)) | cases e
theorem call1 {args : List Int} (h : Ge04Neutral.asked1 (1 :: args) = true) : ∃ n : Nat, args = [(n : Int)] ∧ Ge04Neutral.callOf (1 :: args) = some (.gone n) := by
  unfold Ge04Neutral.asked1 at h
  rw [Option.isSome_iff_exists] at h
  obtain ⟨v, e⟩ := h
  have e0 := e
  unfold Ge04Neutral.callOf at e
  split at e
  case h_2 n heq =>
    injection heq with _ heq
    subst heq
    split at e
    · rename_i hb
      exact ⟨n.toNat, by rw [nat_some hb], by rw [e0, ← e]⟩
    · cases e
  all_goals first | (rename_i heq; injection heq with heq _; exact absurd heq (by decide)) | cases e
theorem call2 {args : List Int} (h : Ge04Neutral.asked1 (2 :: args) = true) : ∃ (n : Nat) (x y : Int), args = [(n : Int), x, y] ∧ Ge04Neutral.callOf (2 :: args) = some (.move n x y) := by
  unfold Ge04Neutral.asked1 at h
  rw [Option.isSome_iff_exists] at h
  obtain ⟨v, e⟩ := h
  have e0 := e
  unfold Ge04Neutral.callOf at e
  split at e
  case h_3 n x y heq =>
    injection heq with _ heq
    subst heq
    split at e
    · rename_i hb
      rw [Bool.and_eq_true] at hb
      exact ⟨n.toNat, x, y, by rw [nat_some hb.1], by rw [e0, ← e]⟩
    · cases e
  all_goals first | (rename_i heq; injection heq with heq _; exact absurd heq (by decide)) | cases e
theorem call3 {args : List Int} (h : Ge04Neutral.asked1 (3 :: args) = true) : ∃ n : Nat, args = [(n : Int)] ∧ Ge04Neutral.callOf (3 :: args) = some (.fall n) := by
  unfold Ge04Neutral.asked1 at h
  rw [Option.isSome_iff_exists] at h
  obtain ⟨v, e⟩ := h
  have e0 := e
  unfold Ge04Neutral.callOf at e
  split at e
  case h_4 n heq =>
    injection heq with _ heq
    subst heq
    split at e
    · rename_i hb
      exact ⟨n.toNat, by rw [nat_some hb], by rw [e0, ← e]⟩
    · cases e
  all_goals first | (rename_i heq; injection heq with heq _; exact absurd heq (by decide)) | cases e
theorem call4 {args : List Int} (h : Ge04Neutral.asked1 (4 :: args) = true) : ∃ n : Nat, args = [(n : Int)] ∧ Ge04Neutral.callOf (4 :: args) = some (.get n) := by
  unfold Ge04Neutral.asked1 at h
  rw [Option.isSome_iff_exists] at h
  obtain ⟨v, e⟩ := h
  have e0 := e
  unfold Ge04Neutral.callOf at e
  split at e
  case h_5 n heq =>
    injection heq with _ heq
    subst heq
    split at e
    · rename_i hb
      exact ⟨n.toNat, by rw [nat_some hb], by rw [e0, ← e]⟩
    · cases e
  all_goals first | (rename_i heq; injection heq with heq _; exact absurd heq (by decide)) | cases e
theorem call5 {args : List Int} (h : Ge04Neutral.asked1 (5 :: args) = true) : ∃ (x y : Int) (w h : Nat), args = [x, y, (w : Int), (h : Int)] ∧ Ge04Neutral.callOf (5 :: args) = some (.within x y w h) := by
  unfold Ge04Neutral.asked1 at h
  rw [Option.isSome_iff_exists] at h
  obtain ⟨v, e⟩ := h
  have e0 := e
  unfold Ge04Neutral.callOf at e
  split at e
  case h_6 x y w h heq =>
    injection heq with _ heq
    subst heq
    split at e
    · rename_i hb
      simp only [Bool.and_eq_true] at hb
      exact ⟨x, y, w.toNat, h.toNat, by rw [nat_some hb.2.2.1, nat_some hb.2.2.2], by rw [e0, ← e]⟩
    · cases e
  all_goals first | (rename_i heq; injection heq with heq _; exact absurd heq (by decide)) | cases e
theorem call6 {args : List Int} (h : Ge04Neutral.asked1 (6 :: args) = true) : ∃ (x y a b : Int) (k : Nat), args = [x, y, a, b, (k : Int)] ∧ Ge04Neutral.callOf (6 :: args) = some (.ray x y a b k) := by
  unfold Ge04Neutral.asked1 at h
  rw [Option.isSome_iff_exists] at h
  obtain ⟨v, e⟩ := h
  have e0 := e
  unfold Ge04Neutral.callOf at e
  split at e
  case h_7 x y a b k heq =>
    injection heq with _ heq
    subst heq
    split at e
    · rename_i hb
      simp only [Bool.and_eq_true] at hb
      exact ⟨x, y, a, b, k.toNat, by rw [nat_some hb.2.2.2.2], by rw [e0, ← e]⟩
    · cases e
  all_goals first | (rename_i heq; injection heq with heq _; exact absurd heq (by decide)) | cases e
theorem call7 {args : List Int} (h : Ge04Neutral.asked1 (7 :: args) = true) : args = [] ∧ Ge04Neutral.callOf (7 :: args) = some .overs := by
  unfold Ge04Neutral.asked1 at h
  rw [Option.isSome_iff_exists] at h
  obtain ⟨v, e⟩ := h
  have e0 := e
  unfold Ge04Neutral.callOf at e
  split at e
  case h_8 heq =>
    injection heq with _ heq
    subst heq
    exact ⟨rfl, by rw [e0, ← e]⟩
  all_goals first | (rename_i heq; injection heq with heq _; exact absurd heq (by decide)) | cases e
theorem call8 {args : List Int} (h : Ge04Neutral.asked1 (8 :: args) = true) : ∃ n : Nat, args = [(n : Int)] ∧ Ge04Neutral.callOf (8 :: args) = some (.on n) := by
  unfold Ge04Neutral.asked1 at h
  rw [Option.isSome_iff_exists] at h
  obtain ⟨v, e⟩ := h
  have e0 := e
  unfold Ge04Neutral.callOf at e
  split at e
  case h_9 n heq =>
    injection heq with _ heq
    subst heq
    split at e
    · rename_i hb
      exact ⟨n.toNat, by rw [nat_some hb], by rw [e0, ← e]⟩
    · cases e
  all_goals first | (rename_i heq; injection heq with heq _; exact absurd heq (by decide)) | cases e
theorem call9 {args : List Int} (h : Ge04Neutral.asked1 (9 :: args) = true) : ∃ (n : Nat) (x y : Int), args = [(n : Int), x, y] ∧ Ge04Neutral.callOf (9 :: args) = some (.free n x y) := by
  unfold Ge04Neutral.asked1 at h
  rw [Option.isSome_iff_exists] at h
  obtain ⟨v, e⟩ := h
  have e0 := e
  unfold Ge04Neutral.callOf at e
  split at e
  case h_10 n x y heq =>
    injection heq with _ heq
    subst heq
    split at e
    · rename_i hb
      rw [Bool.and_eq_true] at hb
      exact ⟨n.toNat, x, y, by rw [nat_some hb.1], by rw [e0, ← e]⟩
    · cases e
  all_goals first | (rename_i heq; injection heq with heq _; exact absurd heq (by decide)) | cases e
theorem call10 {args : List Int} (h : Ge04Neutral.asked1 (10 :: args) = true) : args = [] ∧ Ge04Neutral.callOf (10 :: args) = some .boxes := by
  unfold Ge04Neutral.asked1 at h
  rw [Option.isSome_iff_exists] at h
  obtain ⟨v, e⟩ := h
  have e0 := e
  unfold Ge04Neutral.callOf at e
  split at e
  case h_11 heq =>
    injection heq with _ heq
    subst heq
    exact ⟨rfl, by rw [e0, ← e]⟩
  all_goals first | (rename_i heq; injection heq with heq _; exact absurd heq (by decide)) | cases e
end Mv
namespace Mv
open Ge04
set_option linter.unusedSectionVars false
variable {α : Type} [DecidableEq α]
/-! ### one that isn't hard carries nothing -/
def hb (b : Box) : Box := { b with carries := b.hard && b.carries }
def hf (f : α → Box) (a : α) : Box := hb (f a)
section
variable {as : List α} {f : α → Box} {dx dy : Int}
theorem Good.hf (g : Good as f) : Good as (hf f) := ⟨g.nd, g.sz⟩
theorem wd_hf : wd as (hf f) = (wd as f).map hb := by
  unfold wd
  rw [List.map_map]
  rfl
theorem any_hb {l : World} {g : List Nat} (hg : ∀ b ∈ l, b.number ∈ g → b.hard = true) (b : Box) : ((l.map hb).any fun a => g.contains a.number && (a.carries && standsOn (hb b) a)) = (l.any fun a => g.contains a.number && (a.carries && standsOn b a)) := by
  rw [Bool.eq_iff_iff, List.any_eq_true, List.any_eq_true]
  constructor
  · rintro ⟨c, hc, q⟩
    obtain ⟨a, ha, rfl⟩ := List.mem_map.mp hc
    refine ⟨a, ha, ?_⟩
    have q : (g.contains a.number && ((a.hard && a.carries) && standsOn b a)) = true := q
    simp only [Bool.and_eq_true] at q ⊢
    exact ⟨q.1, q.2.1.2, q.2.2⟩
  · rintro ⟨a, ha, q⟩
    refine ⟨hb a, List.mem_map.mpr ⟨a, ha, rfl⟩, ?_⟩
    show (g.contains a.number && ((a.hard && a.carries) && standsOn b a)) = true
    simp only [Bool.and_eq_true] at q ⊢
    exact ⟨q.1, ⟨hg a ha (contains_iff.mp q.1), q.2.1⟩, q.2.2⟩
theorem mores_hb {l : World} {g : List Nat} (hg : ∀ b ∈ l, b.number ∈ g → b.hard = true) : mores (l.map hb) g = (mores l g).map hb := by
  unfold mores
  rw [List.filter_map]
  congr 1
  refine List.filter_congr fun b _ => ?_
  show (!g.contains b.number && (b.hard && (l.map hb).any fun a => g.contains a.number && (a.carries && standsOn (hb b) a))) = _
  rw [any_hb hg]
theorem load_hb {l : World} (hn : (l.map fun b => b.number).Nodup) : ∀ (k : Nat) (g : List Nat), (∀ b ∈ l, b.number ∈ g → b.hard = true) → loadFrom (l.map hb) k g = loadFrom l k g
  | 0, _, _ => rfl
  | k + 1, g, hg => by
    rw [loadFrom_succ, loadFrom_succ, mores_hb hg]
    by_cases e : mores l g = []
    · rw [e]
      rfl
    · rw [if_neg e, if_neg (by rw [List.map_eq_nil_iff]; exact e), List.map_map]
      refine load_hb hn k _ fun b hb' hm => ?_
      rcases List.mem_append.mp hm with z | z
      · exact hg b hb' z
      · obtain ⟨c, hc, en⟩ := List.mem_map.mp z
        have hcm := List.mem_filter.mp hc
        have := inj_of_nodup (g := fun b : Box => b.number) hn hcm.1 hb' en
        subst this
        have := hcm.2
        rw [Bool.and_eq_true, Bool.and_eq_true] at this
        exact this.2.1
theorem Carried.hard (g : Good as f) {goers found : List α} (hg : ∀ a ∈ goers, a ∈ as) (hh : ∀ a ∈ goers, (f a).hard = true) (c : Carried as (hf f) goers found) : Carried as f goers found := by
  refine ⟨c.sub, c.dis, c.nd, fun k hk => ?_⟩
  rw [← load_hb (l := wd as f) (by unfold wd; rw [List.map_map]; exact g.nd) _ k (fun b hb' hm => ?_), ← wd_hf]
  · exact c.eq k hk
  · obtain ⟨a, ha, rfl⟩ := mem_wd.mp hb'
    exact hh a ((g.mem_nums hg ha).mp ((hk _).mp hm))
theorem Carried.soft (g : Good as f) {m : α} (hm : m ∈ as) (hs : (f m).hard = false) {found : List α} (c : Carried as (hf f) [m] found) : found = [] := by
  have e := c.eq [(f m).number] (fun n => Iff.rfl)
  have z : mores (wd as (hf f)) [(f m).number] = [] := by
    rw [List.eq_nil_iff_forall_not_mem]
    intro b hb'
    have h := (List.mem_filter.mp hb').2
    rw [Bool.and_eq_true, Bool.and_eq_true, List.any_eq_true] at h
    obtain ⟨_, _, d, hd, q⟩ := h
    obtain ⟨a, ha, rfl⟩ := mem_wd.mp hd
    rw [Bool.and_eq_true, Bool.and_eq_true] at q
    have en : (f a).number = (f m).number := List.mem_singleton.mp (contains_iff.mp q.1)
    have := g.inj ha hm en
    subst this
    have qc : ((f a).hard && (f a).carries) = true := q.2.1
    rw [hs] at qc
    cases qc
  rw [loadFrom_succ, z, if_pos rfl] at e
  have l := congrArg List.length e
  rw [List.length_append] at l
  unfold nums at l
  rw [List.length_map] at l
  exact List.eq_nil_of_length_eq_zero (by omega)
theorem push_soft {m : α} (hs : (f m).hard = false) {p : List α} (P : Pushed as f dx dy [m] p) : p = [] := by
  have all : ∀ a, Reach as f dx dy [m] a → a = m := fun a r => by
    induction r with
    | base z => exact List.mem_singleton.mp z
    | @step a b r ha hb' q ih =>
      subst ih
      unfold blocks at q
      have e : (at_ (f a) dx dy).hard = false := hs
      rw [e, Bool.false_and, Bool.and_false] at q
      cases q
  rw [List.eq_nil_iff_forall_not_mem]
  intro a ha
  have := all a (P.reach a ha)
  subst this
  exact (List.nodup_append.mp P.nd).2.2 a List.mem_cons_self a ha rfl
theorem push_hard {asked p : List α} (P : Pushed as f dx dy asked p) : ∀ a ∈ p, (f a).hard = true := fun a ha => by
  cases P.reach a ha with
  | base z => exact absurd rfl ((List.nodup_append.mp P.nd).2.2 a z a ha)
  | step r h1 h2 q =>
    unfold blocks at q
    rw [Bool.and_eq_true, Bool.and_eq_true, Bool.and_eq_true] at q
    exact q.2.2.1
/-- what is asked to go, of a hard one and of another -/
structure AskS (as : List α) (f : α → Box) (m : α) (dy : Int) (asked : List α) : Prop where
  sub : ∀ a ∈ asked, a ∈ as
  asks : (f m).hard = true → Asked as f m dy asked
  soft : (f m).hard = false → asked = [m]
  side : ¬ dy < 0 → asked = [m]
theorem askS_one {m : α} (hm : m ∈ as) (h : ¬ dy < 0) : AskS as f m dy [m] :=
  ⟨fun a ha => by rw [List.mem_singleton.mp ha]; exact hm, fun _ => asked_one hm h, fun _ => rfl, fun _ => rfl⟩
theorem askS_up (g : Good as f) {m : α} {found : List α} (hm : m ∈ as) (h : dy < 0) (c : Carried as (hf f) [m] found) : AskS as f m dy (m :: found) := by
  refine ⟨fun a ha => ?_, fun hh => asked_up hm h (c.hard g (fun a ha => by rw [List.mem_singleton.mp ha]; exact hm) (fun a ha => by rw [List.mem_singleton.mp ha]; exact hh)), fun hs => by rw [c.soft g hm hs], fun z => absurd h z⟩
  rcases List.mem_cons.mp ha with rfl | ha
  · exact hm
  · exact c.sub a ha
theorem allS_held (g : Good as f) {m b : α} {asked p : List α} (hm : m ∈ as) (A : AskS as f m dy asked) (P : Pushed as f dx dy asked p) (hb' : b ∈ p) (hp : (f b).pushed = false) : stepOne (wd as f) (f m).number dx dy = none := by
  cases hh : (f m).hard with
  | true => exact step_held g hm hh (A.asks hh) P hb' hp
  | false =>
    have e := A.soft hh
    subst e
    rw [push_soft hh P] at hb'
    cases hb'
theorem allS_up (g : Good as f) {m : α} {asked p : List α} (hm : m ∈ as) (A : AskS as f m dy asked) (P : Pushed as f dx dy asked p) (hp : ∀ b ∈ p, (f b).pushed = true) (hd : dy < 0) :
    stepOne (wd as f) (f m).number dx dy = some (wd as (sh f (asked ++ p) dx dy)) := by
  cases hh : (f m).hard with
  | true => exact step_up g hm hh (A.asks hh) P hp hd
  | false =>
    have e := A.soft hh
    subst e
    rw [push_soft hh P, List.append_nil]
    exact step_soft g hm hh
theorem allS_side (g : Good as f) {m : α} {asked p rs : List α} (hm : m ∈ as) (A : AskS as f m dy asked) (P : Pushed as f dx dy asked p) (hp : ∀ b ∈ p, (f b).pushed = true) (hd : ¬ dy < 0) (c : Carried as (hf f) (asked ++ p) rs) :
    stepOne (wd as f) (f m).number dx dy = some (wd as (rs.foldl (ride as dx dy) (sh f (asked ++ p) dx dy))) := by
  cases hh : (f m).hard with
  | true =>
    refine step_side g hm hh (A.asks hh) P hp hd (c.hard g (fun a ha => ?_) (fun a ha => ?_))
    · rcases List.mem_append.mp ha with z | z
      · exact A.sub a z
      · exact P.sub a z
    · rcases List.mem_append.mp ha with z | z
      · rw [A.side hd] at z
        rw [List.mem_singleton.mp z]
        exact hh
      · exact push_hard P a z
  | false =>
    have e := A.soft hh
    subst e
    have ep := push_soft hh P
    subst ep
    rw [List.append_nil] at c ⊢
    rw [c.soft g hm hh]
    exact step_soft g hm hh
end
end Mv
namespace Mv
open Ge04
set_option linter.unusedSectionVars false
variable {α : Type} [DecidableEq α]
theorem over_comm (a b : Box) : over a b = over b a := by
  unfold over
  rw [Bool.eq_iff_iff]
  simp only [Bool.and_eq_true, decide_eq_true_eq]
  constructor <;> (rintro ⟨h1, h2, h3, h4⟩; exact ⟨h2, h1, h4, h3⟩)
theorem blocks_comm (a b : Box) : blocks a b = blocks b a := by
  unfold blocks
  have e : (a.number != b.number) = (b.number != a.number) := bne_comm
  rw [over_comm a b, e]
  cases a.hard <;> cases b.hard <;> rfl
theorem at_to (b : Box) (x y : Int) : at_ b (x - b.x) (y - b.y) = { b with x := x, y := y } := by
  unfold at_
  have e1 : b.x + (x - b.x) = x := by omega
  have e2 : b.y + (y - b.y) = y := by omega
  rw [e1, e2]
theorem free_eq (as : List α) (f : α → Box) (b : Box) (x y : Int) : ((wd as f).filter fun a => blocks a { b with x := x, y := y }).map (fun a => a.number) = nums f (inWay f as b (x - b.x) (y - b.y)) := by
  unfold wd inWay nums
  rw [List.filter_map, List.map_map, at_to]
  show List.map (fun a => (f a).number) _ = _
  congr 1
  exact List.filter_congr fun a _ => blocks_comm _ _
theorem nums_len (f : α → Box) (as : List α) : (nums f as).length = as.length := List.length_map _

/-! ### which lie over one another -/
def ov (f : α → Box) : List α → List (Nat × Nat)
  | [] => []
  | a :: r => (r.filter fun b => over (f a) (f b)).map (fun b => ((f a).number, (f b).number)) ++ ov f r
theorem ov_cons (f : α → Box) (a : α) (r : List α) : ov f (a :: r) = (r.filter fun b => over (f a) (f b)).map (fun b => ((f a).number, (f b).number)) ++ ov f r := rfl
theorem ov_len (f : α → Box) : ∀ as : List α, (ov f as).length ≤ as.length * as.length
  | [] => Nat.zero_le _
  | a :: r => by
    rw [ov_cons, List.length_append, List.length_map, List.length_cons]
    have h1 := ov_len f r
    have h2 := List.length_filter_le (fun b => over (f a) (f b)) r
    have h3 : (r.length + 1) * (r.length + 1) = r.length * r.length + r.length + r.length + 1 := by
      rw [Nat.mul_add, Nat.add_mul]
      omega
    omega
theorem ov_from {f : α → Box} : ∀ (s pre : List α), ((pre ++ s).map fun a => (f a).number).Pairwise (· < ·) →
    ((wd s f).flatMap fun a => ((wd (pre ++ s) f).filter fun b => decide (a.number < b.number) && over a b).map fun b => (a.number, b.number)) = ov f s
  | [], _, _ => rfl
  | a :: r, pre, h => by
    have e : pre ++ a :: r = (pre ++ [a]) ++ r := by simp
    have ih := ov_from r (pre ++ [a]) (by rw [← e]; exact h)
    rw [← e] at ih
    have ew : wd (a :: r) f = f a :: wd r f := rfl
    rw [ew, List.flatMap_cons, ih, ov_cons]
    congr 1
    rw [List.map_append, List.pairwise_append, List.map_cons, List.pairwise_cons] at h
    have lt1 : ∀ b ∈ pre, (f b).number < (f a).number := fun b hb => h.2.2 _ (List.mem_map.mpr ⟨b, hb, rfl⟩) _ List.mem_cons_self
    have lt2 : ∀ b ∈ r, (f a).number < (f b).number := fun b hb => h.2.1.1 _ (List.mem_map.mpr ⟨b, hb, rfl⟩)
    unfold wd
    rw [List.filter_map, List.map_map, List.filter_append, List.filter_cons]
    have hp : pre.filter ((fun b => decide ((f a).number < b.number) && over (f a) b) ∘ f) = [] := by
      rw [List.filter_eq_nil_iff]
      intro b hb
      show ¬ (decide ((f a).number < (f b).number) && over (f a) (f b)) = true
      have := lt1 b hb
      rw [decide_eq_false (by omega), Bool.false_and]
      exact Bool.false_ne_true
    have ha : ((fun b => decide ((f a).number < b.number) && over (f a) b) ∘ f) a = false := by
      show (decide ((f a).number < (f a).number) && over (f a) (f a)) = false
      rw [decide_eq_false (Nat.lt_irrefl _), Bool.false_and]
    have hr : r.filter ((fun b => decide ((f a).number < b.number) && over (f a) b) ∘ f) = r.filter fun b => over (f a) (f b) := List.filter_congr fun b hb => by
      show (decide ((f a).number < (f b).number) && over (f a) (f b)) = _
      rw [decide_eq_true (lt2 b hb), Bool.true_and]
    rw [hp, ha, hr]
    rfl
theorem overs_eq {as : List α} {f : α → Box} (h : (as.map fun a => (f a).number).Pairwise (· < ·)) : overs (wd as f) = ov f as := ov_from as [] h

/-! ### a ray -/
theorem ray_hit {l : World} {dx dy x y : Int} {k : Nat} (h : within (l.filter fun b => b.hard) (x + dx) (y + dy) 1 1 ≠ []) : ray l dx dy (k + 1) x y = some (0, within (l.filter fun b => b.hard) (x + dx) (y + dy) 1 1) := by
  show (if within (l.filter fun b => b.hard) (x + dx) (y + dy) 1 1 = [] then _ else _) = _
  rw [if_neg h]
theorem ray_miss {l : World} {dx dy x y : Int} {k : Nat} (h : within (l.filter fun b => b.hard) (x + dx) (y + dy) 1 1 = []) : ray l dx dy (k + 1) x y = (ray l dx dy k (x + dx) (y + dy)).map fun r => (r.1 + 1, r.2) := by
  show (if within (l.filter fun b => b.hard) (x + dx) (y + dy) 1 1 = [] then _ else _) = _
  rw [if_pos h]
structure RayInv (l : World) (dx dy : Int) (k : Nat) (x y : Int) (i : Nat) (x' y' : Int) : Prop where
  le : i ≤ k
  eq : ray l dx dy k x y = (ray l dx dy (k - i) x' y').map fun r => (r.1 + i, r.2)
section
variable {l : World} {dx dy x y x' y' : Int} {k i : Nat}
theorem rayInv_start : RayInv l dx dy k x y 0 x y := ⟨Nat.zero_le _, by cases ray l dx dy k x y <;> simp⟩
theorem rayInv_next (I : RayInv l dx dy k x y i x' y') (h : i < k) (e : within (l.filter fun b => b.hard) (x' + dx) (y' + dy) 1 1 = []) : RayInv l dx dy k x y (i + 1) (x' + dx) (y' + dy) := by
  refine ⟨h, ?_⟩
  have q : k - i = (k - (i + 1)) + 1 := by omega
  rw [I.eq, q, ray_miss e]
  cases ray l dx dy (k - (i + 1)) (x' + dx) (y' + dy) with
  | none => rfl
  | some r =>
    show some (r.1 + 1 + i, r.2) = some (r.1 + (i + 1), r.2)
    have : r.1 + 1 + i = r.1 + (i + 1) := by omega
    rw [this]
theorem rayInv_hit (I : RayInv l dx dy k x y i x' y') (h : i < k) (e : within (l.filter fun b => b.hard) (x' + dx) (y' + dy) 1 1 ≠ []) : ray l dx dy k x y = some (i, within (l.filter fun b => b.hard) (x' + dx) (y' + dy) 1 1) := by
  have q : k - i = (k - (i + 1)) + 1 := by omega
  rw [I.eq, q, ray_hit e]
  show some (0 + i, _) = _
  rw [Nat.zero_add]
theorem rayInv_end (I : RayInv l dx dy k x y k x' y') : ray l dx dy k x y = none := by
  rw [I.eq, Nat.sub_self]
  rfl
end
theorem within_hard (as : List α) (f : α → Box) (x y : Int) (w h : Nat) : within ((wd as f).filter fun b => b.hard) x y w h = nums f ((as.filter fun a => (f a).hard).filter fun a => over (f a) ⟨0, x, y, w, h, false, false, false⟩) := by
  unfold within wd nums
  rw [List.filter_map, List.filter_map, List.map_map]
  rfl

/-! ### what stands on what -/
section
variable {as : List α} {f : α → Box}
theorem on_below (g : Good as f) {m : α} (hm : m ∈ as) (hh : (f m).hard = true) : ((wd as f).filter fun a => a.hard && ((f m).hard && standsOn (f m) a)).map (fun a => a.number) = nums f ((as.filter fun a => (f a).hard).filter fun a => stOn (f m) (f a)) := by
  unfold wd nums
  rw [List.filter_map, List.map_map, List.filter_filter]
  show List.map (fun a => (f a).number) _ = _
  congr 1
  refine List.filter_congr fun a ha => ?_
  show ((f a).hard && ((f m).hard && standsOn (f m) (f a))) = _
  rw [hh, Bool.true_and, stands_at g hm ha, Bool.and_comm]
theorem on_above (g : Good as f) {m : α} (hm : m ∈ as) (hh : (f m).hard = true) : ((wd as f).filter fun a => a.hard && ((f m).hard && standsOn a (f m))).map (fun a => a.number) = nums f ((as.filter fun a => (f a).hard).filter fun a => stOn (f a) (f m)) := by
  unfold wd nums
  rw [List.filter_map, List.map_map, List.filter_filter]
  show List.map (fun a => (f a).number) _ = _
  congr 1
  refine List.filter_congr fun a ha => ?_
  show ((f a).hard && ((f m).hard && standsOn (f a) (f m))) = _
  rw [hh, Bool.true_and, stands_at g ha hm, Bool.and_comm]
theorem on_soft {l : World} {b : Box} {p : Box → Bool} (hh : b.hard = false) : (l.filter fun a => a.hard && (b.hard && p a)) = [] := by
  rw [List.filter_eq_nil_iff]
  intro a _
  rw [hh, Bool.false_and, Bool.and_false]
  exact Bool.false_ne_true
end
end Mv
set_option Elab.async false
set_option maxRecDepth 100000
set_option maxHeartbeats 2000000
namespace Mb
open PySem PySem.Spec PyProof.Rows L2
/-! ### the text by places -/
def top (i : Nat) : Stmt := PySem.Challenge.pw_movedboxes_s01_answers.main.body.getD i (.Pass ⟨0, 0, 0, 0⟩)

/-! ### the data -/
def bi (b : Bool) : Int := if b = true then 1 else 0
def bF (b : Ge04.Box) : List (Str × V) := [("number", .int b.number), ("across", .int b.x), ("down", .int b.y), ("wide", .int b.w), ("high", .int b.h), ("hard", .int (bi b.hard)), ("pushed", .int (bi b.pushed)), ("carries", .int (bi b.carries))]
theorem lk_here {k : Str} {v : V} {r : List (Str × V)} : List.lookup k ((k, v) :: r) = some v := by
  have e : (k == k) = true := beq_self_eq_true k
  simp only [List.lookup, e]
theorem lk_past {k g : Str} {v : V} {r : List (Str × V)} (h : (k == g) = false) : List.lookup k ((g, v) :: r) = List.lookup k r := by
  simp only [List.lookup, h]
theorem put_here {f : Str} {v x : V} {r : List (Str × V)} : putF f v ((f, x) :: r) = (f, v) :: r := if_pos rfl
theorem put_past {f g : Str} {v x : V} {r : List (Str × V)} (h : ¬ g = f) : putF f v ((g, x) :: r) = (g, x) :: putF f v r := if_neg h
theorem lk_number (b : Ge04.Box) : (bF b).lookup ("number" : Str) = some (V.int (b.number : Int)) := lk_here
theorem lk_across (b : Ge04.Box) : (bF b).lookup ("across" : Str) = some (V.int b.x) := (lk_past (by decide +kernel)).trans <| lk_here
theorem lk_down (b : Ge04.Box) : (bF b).lookup ("down" : Str) = some (V.int b.y) := (lk_past (by decide +kernel)).trans <| (lk_past (by decide +kernel)).trans <| lk_here
theorem lk_wide (b : Ge04.Box) : (bF b).lookup ("wide" : Str) = some (V.int (b.w : Int)) := (lk_past (by decide +kernel)).trans <| (lk_past (by decide +kernel)).trans <| (lk_past (by decide +kernel)).trans <| lk_here
theorem lk_high (b : Ge04.Box) : (bF b).lookup ("high" : Str) = some (V.int (b.h : Int)) := (lk_past (by decide +kernel)).trans <| (lk_past (by decide +kernel)).trans <| (lk_past (by decide +kernel)).trans <| (lk_past (by decide +kernel)).trans <| lk_here
theorem lk_hard (b : Ge04.Box) : (bF b).lookup ("hard" : Str) = some (V.int (bi b.hard)) := (lk_past (by decide +kernel)).trans <| (lk_past (by decide +kernel)).trans <| (lk_past (by decide +kernel)).trans <| (lk_past (by decide +kernel)).trans <| (lk_past (by decide +kernel)).trans <| lk_here
theorem lk_pushed (b : Ge04.Box) : (bF b).lookup ("pushed" : Str) = some (V.int (bi b.pushed)) := (lk_past (by decide +kernel)).trans <| (lk_past (by decide +kernel)).trans <| (lk_past (by decide +kernel)).trans <| (lk_past (by decide +kernel)).trans <| (lk_past (by decide +kernel)).trans <| (lk_past (by decide +kernel)).trans <| lk_here
theorem lk_carries (b : Ge04.Box) : (bF b).lookup ("carries" : Str) = some (V.int (bi b.carries)) := (lk_past (by decide +kernel)).trans <| (lk_past (by decide +kernel)).trans <| (lk_past (by decide +kernel)).trans <| (lk_past (by decide +kernel)).trans <| (lk_past (by decide +kernel)).trans <| (lk_past (by decide +kernel)).trans <| (lk_past (by decide +kernel)).trans <| lk_here
theorem put_across (b : Ge04.Box) (z : Int) : putF ("across" : Str) (V.int z) (bF b) = bF { b with x := z } := (put_past (by decide +kernel)).trans (congrArg _ put_here)
theorem put_down (b : Ge04.Box) (z : Int) : putF ("down" : Str) (V.int z) (bF b) = bF { b with y := z } := (put_past (by decide +kernel)).trans (congrArg _ ((put_past (by decide +kernel)).trans (congrArg _ put_here)))
theorem put_nil (f : Str) (v : V) : putF f v [] = [(f, v)] := rfl
theorem bF_new (n : Nat) (x y : Int) (w h : Nat) (a p c : Bool) : (putF ("carries" : Str) (V.int (bi c)) (putF ("pushed" : Str) (V.int (bi p)) (putF ("hard" : Str) (V.int (bi a)) (putF ("high" : Str) (V.int (h : Int)) (putF ("wide" : Str) (V.int (w : Int)) (putF ("down" : Str) (V.int y) (putF ("across" : Str) (V.int x) (putF ("number" : Str) (V.int (n : Int)) [])))))))) = bF ⟨n, x, y, w, h, a, p, c⟩ := by
  rw [put_nil]
  repeat first | rw [put_past (by decide +kernel)] | rw [put_nil]
  rfl
/-- a box stands at a -/
def BoxAt (C : Addr) (H : Hp) (a : Addr) (b : Ge04.Box) : Prop := ∃ dx, H a = some (.ins C dx (bF b))
end Mb
set_option Elab.async false
set_option maxRecDepth 100000
set_option maxHeartbeats 2000000
namespace Mb
open PySem PySem.Spec PyProof.Rows L2
/-- a def of the text, by its name, keeps its promise -/
def Df (P : Program) (w : World) (K : PySem.W.Frag) (mg : Str → Option Value) (base : Heap) (x : Str) (k : Nat) (ps : List Str) (sp : Sp) : Prop :=
  ∃ (f : Addr) (fd : FuncData), FnOk P w K mg base CX0 k f fd ps sp ∧ mg x = some (.ref f) ∧ PySem.W.keepIn K (.ref f) = true ∧ Binds K fd ps []
theorem pe_df {X : Cx} {x : Str} {k : Nat} {ps : List Str} {sp : Sp} {e : Expr} {es : List Expr} {t : TA} {p pos : Pos} (D : Df X.prog X.w X.K X.mg X.base x k ps sp) (hr : Room k X.A) (ha : PA X (e :: es) t) (hg : Gl X x := by rfl)
    (hdb : (x == ("__debug__" : Str)) = false := by decide) (he : starEach (e :: es) X.env = (false, eval e X.env) :: starEach es X.env := by rfl) (hpl : (backTo pos (starEach es X.env)).any (·.1) = false := by rfl) :
    PE X (.Call (.Name x p) (e :: es) [] pos) (tCall sp [] E0 t) := by
  obtain ⟨f, fd, F, m, kp, b⟩ := D
  exact pe_call F hr hg m kp b .nil pass0 ha hdb he hpl
theorem ite_and {c d : Bool} {R : Bool → Prop} (h : R (c && d)) : if c = true then R d else R false := by
  cases c with
  | true => exact iteT h
  | false => exact iteF h
theorem ite_or {c d : Bool} {R : Bool → Prop} (h : R (c || d)) : if c = true then R true else R d := by
  cases c with
  | true => exact iteT h
  | false => exact iteF h

structure Txt (K : PySem.W.Frag) (mg : Str → Option Value) (C : Addr) : Prop where
  cl : Cls K C
  nNumber : NoAttr K C "number"
  nAcross : NoAttr K C "across"
  nDown : NoAttr K C "down"
  nWide : NoAttr K C "wide"
  nHigh : NoAttr K C "high"
  nHard : NoAttr K C "hard"
  nPushed : NoAttr K C "pushed"
  nCarries : NoAttr K C "carries"
  gBox : mg "Box" = some (.ref C)
  gFar : ∃ t, mg "FARTHEST" = some (.int 1000 t)
  abs : mg "abs" = none

abbrev s_spans_meet : Stmt := top 7
abbrev s_has_place_in : Stmt := top 8
abbrev s_stands_on : Stmt := top 11
def meets (a l b m : Int) : Bool := decide (a < b + m) && decide (b < a + l)
def spSpans : Sp := fun vs H Q _ => ∃ a l b m : Int, vs = [.int a, .int l, .int b, .int m] ∧ Q (.bl (meets a l b m)) H
section
variable {P : Program} {w : World} {K : PySem.W.Frag} {mg : Str → Option Value} {base : Heap} {C : Addr}
theorem sc_spans_meet : FnScope ["start", "length", "other_start", "other_length"] ["start", "length", "other_start", "other_length"] (defScope s_spans_meet) := ⟨rfl, rfl, rfl, by decide +kernel, rfl, by decide +kernel, by decide +kernel⟩
theorem ok_spans_meet {f : Addr} {fd : FuncData} (F : Fun K "spans_meet" "spans_meet" s_spans_meet f fd) : FnOk P w K mg base CX0 1 f fd ["start", "length", "other_start", "other_length"] spSpans := by
  refine F.ok sc_spans_meet (fun vs H Q E h => ?_) (fun cdv A outer s H vs Q E hr h => ?_)
  · obtain ⟨_, _, _, _, rfl, _⟩ := h
    rfl
  · obtain ⟨a, l, b, m, rfl, q⟩ := h
    refine ⟨_, pss_one (ps_ret (pe_and (pe_cmpR op_lt (pv 0) (pe_op op_add (pv 2) (pv 3)) (nomark _)) (pe_one (pe_cmpR op_lt (pv 2) (pe_op op_add (pv 0) (pv 1)) (nomark _))))), ?_⟩
    refine ⟨_, rfl, _, rfl, _, rfl, _, _, rfl, rfl, _, _, rfl, rfl, _, rfl, ?_⟩
    refine ite2 (fun c => ?_) (fun c => ?_)
    · refine ⟨_, rfl, _, rfl, _, rfl, _, _, rfl, rfl, _, _, rfl, rfl, ?_⟩
      have e : meets a l b m = decide (b < a + l) := by unfold meets; rw [c, Bool.true_and]
      rw [e] at q
      exact q
    · have e : meets a l b m = false := by
        unfold meets
        rw [Bool.not_eq_true] at c
        rw [c, Bool.false_and]
      rw [e] at q
      exact q

/-! ### has_place_in -/
def spPlace (C : Addr) : Sp := fun vs H Q _ => ∃ (p : Addr) (b : Ge04.Box) (x y w h : Int), vs = [.ref p, .int x, .int y, .int w, .int h] ∧ BoxAt C H p b ∧ Q (.bl (meets b.x b.w x w && meets b.y b.h y h)) H
theorem sc_has_place_in : FnScope ["box", "across", "down", "wide", "high", "same_column", "same_row"] ["box", "across", "down", "wide", "high"] (defScope s_has_place_in) := ⟨rfl, rfl, rfl, by decide +kernel, rfl, by decide +kernel, by decide +kernel⟩
theorem ok_has_place_in {f : Addr} {fd : FuncData} (F : Fun K "has_place_in" "has_place_in" s_has_place_in f fd) (T : Txt K mg C) (D : Df P w K mg base "spans_meet" 1 ["start", "length", "other_start", "other_length"] spSpans) : FnOk P w K mg base CX0 2 f fd ["box", "across", "down", "wide", "high"] (spPlace C) := by
  refine F.ok sc_has_place_in (fun vs H Q E h => ?_) (fun cdv A outer s H vs Q E hr h => ?_)
  · obtain ⟨_, _, _, _, _, _, rfl, _⟩ := h
    rfl
  · obtain ⟨p, b, x, y, w, h, rfl, ⟨dx, hb⟩, q⟩ := h
    refine ⟨_, pss_cons (ps_set (i := 5) sc_has_place_in.nd rfl (Or.inl rfl) (pe_df D hr (pa_cons (pe_fld (pv 0) rfl) (pa_cons (pe_fld (pv 0) rfl) (pa_cons (pv 1) (pa_cons (pv 3) pa_nil))))))
      (pss_cons (ps_set (i := 6) sc_has_place_in.nd rfl (Or.inl rfl) (pe_df D hr (pa_cons (pe_fld (pv 0) rfl) (pa_cons (pe_fld (pv 0) rfl) (pa_cons (pv 2) (pa_cons (pv 4) pa_nil))))))
      (pss_one (ps_ret (pe_and (pv 5) (pe_one (pv 6)))))), ?_⟩
    refine ⟨_, rfl, p, C, dx, _, _, rfl, hb, T.cl, T.nAcross, lk_across b, _, rfl, p, C, dx, _, _, rfl, hb, T.cl, T.nWide, lk_wide b, _, rfl, _, rfl, b.x, b.w, x, w, rfl, ?_⟩
    refine ⟨_, rfl, p, C, dx, _, _, rfl, hb, T.cl, T.nDown, lk_down b, _, rfl, p, C, dx, _, _, rfl, hb, T.cl, T.nHigh, lk_high b, _, rfl, _, rfl, b.y, b.h, y, h, rfl, ?_⟩
    refine ⟨_, rfl, _, rfl, ?_⟩
    refine ite2 (fun c => ?_) (fun c => ?_)
    · refine ⟨_, rfl, ?_⟩
      rw [c, Bool.true_and] at q
      exact q
    · rw [Bool.not_eq_true] at c
      rw [c, Bool.false_and] at q
      exact q

/-! ### stands_on -/
def spStands (C : Addr) : Sp := fun vs H Q _ => ∃ (p r : Addr) (a b : Ge04.Box), vs = [.ref p, .ref r] ∧ BoxAt C H p a ∧ BoxAt C H r b ∧ Q (.bl (Mv.stOn a b)) H
theorem sc_stands_on : FnScope ["upper", "lower"] ["upper", "lower"] (defScope s_stands_on) := ⟨rfl, rfl, rfl, by decide +kernel, rfl, by decide +kernel, by decide +kernel⟩
theorem ok_stands_on {f : Addr} {fd : FuncData} (F : Fun K "stands_on" "stands_on" s_stands_on f fd) (T : Txt K mg C) (D : Df P w K mg base "spans_meet" 1 ["start", "length", "other_start", "other_length"] spSpans) : FnOk P w K mg base CX0 2 f fd ["upper", "lower"] (spStands C) := by
  refine F.ok sc_stands_on (fun vs H Q E h => ?_) (fun cdv A outer s H vs Q E hr h => ?_)
  · obtain ⟨_, _, _, _, rfl, _⟩ := h
    rfl
  · obtain ⟨p, r, a, b, rfl, ⟨dx, ha⟩, ⟨dy, hb⟩, q⟩ := h
    refine ⟨_, pss_cons (ps_if (pt_cmpR op_ne (pe_op op_add (pe_fld (pv 0) rfl) (pe_fld (pv 0) rfl)) (pe_fld (pv 1) rfl) (nomark _)) (pss_one (ps_ret pe_bl)) pss_nil)
      (pss_one (ps_ret (pe_df D hr (pa_cons (pe_fld (pv 0) rfl) (pa_cons (pe_fld (pv 0) rfl) (pa_cons (pe_fld (pv 1) rfl) (pa_cons (pe_fld (pv 1) rfl) pa_nil))))))), ?_⟩
    refine ⟨_, rfl, p, C, dx, _, _, rfl, ha, T.cl, T.nDown, lk_down a, _, rfl, p, C, dx, _, _, rfl, ha, T.cl, T.nHigh, lk_high a, _, _, rfl, rfl, _, rfl, r, C, dy, _, _, rfl, hb, T.cl, T.nDown, lk_down b, rfl, _, rfl, ?_⟩
    refine ite2 (fun c => ?_) (fun c => ?_)
    · have e : Mv.stOn a b = false := by
        unfold Mv.stOn
        have : ¬ (a.y + (a.h : Int) = b.y) := by
          intro z
          have c' : (!decide (V.int (a.y + (a.h : Int)) = V.int b.y)) = true := c
          rw [z] at c'
          simp at c'
        rw [decide_eq_false this, Bool.false_and]
      rw [e] at q
      exact q
    · have e : a.y + (a.h : Int) = b.y := by
        by_cases z : a.y + (a.h : Int) = b.y
        · exact z
        · exact absurd (show (!decide (V.int (a.y + (a.h : Int)) = V.int b.y)) = true by simp [z]) c
      refine ⟨_, rfl, p, C, dx, _, _, rfl, ha, T.cl, T.nAcross, lk_across a, _, rfl, p, C, dx, _, _, rfl, ha, T.cl, T.nWide, lk_wide a, _, rfl, r, C, dy, _, _, rfl, hb, T.cl, T.nAcross, lk_across b, _, rfl, r, C, dy, _, _, rfl, hb, T.cl, T.nWide, lk_wide b, a.x, a.w, b.x, b.w, rfl, ?_⟩
      have e2 : Mv.stOn a b = meets a.x a.w b.x b.w := by
        unfold Mv.stOn meets
        rw [decide_eq_true e, Bool.true_and]
      rw [e2] at q
      exact q

/-! ### have_common_place -/
abbrev s_have_common_place : Stmt := top 10
def spCommon (C : Addr) : Sp := fun vs H Q _ => ∃ (p r : Addr) (a b : Ge04.Box), vs = [.ref p, .ref r] ∧ BoxAt C H p a ∧ BoxAt C H r b ∧ Q (.bl (meets a.x a.w b.x b.w && meets a.y a.h b.y b.h)) H
theorem sc_have_common_place : FnScope ["box", "other"] ["box", "other"] (defScope s_have_common_place) := ⟨rfl, rfl, rfl, by decide +kernel, rfl, by decide +kernel, by decide +kernel⟩
theorem ok_have_common_place {f : Addr} {fd : FuncData} (F : Fun K "have_common_place" "have_common_place" s_have_common_place f fd) (T : Txt K mg C) (D : Df P w K mg base "has_place_in" 2 ["box", "across", "down", "wide", "high"] (spPlace C)) : FnOk P w K mg base CX0 3 f fd ["box", "other"] (spCommon C) := by
  refine F.ok sc_have_common_place (fun vs H Q E h => ?_) (fun cdv A outer s H vs Q E hr h => ?_)
  · obtain ⟨_, _, _, _, rfl, _⟩ := h
    rfl
  · obtain ⟨p, r, a, b, rfl, ha, ⟨dy, hb⟩, q⟩ := h
    refine ⟨_, pss_one (ps_ret (pe_df D hr (pa_cons (pv 0) (pa_cons (pe_fld (pv 1) rfl) (pa_cons (pe_fld (pv 1) rfl) (pa_cons (pe_fld (pv 1) rfl) (pa_cons (pe_fld (pv 1) rfl) pa_nil))))))), ?_⟩
    exact ⟨_, rfl, _, rfl, r, C, dy, _, _, rfl, hb, T.cl, T.nAcross, lk_across b, _, rfl, r, C, dy, _, _, rfl, hb, T.cl, T.nDown, lk_down b, _, rfl, r, C, dy, _, _, rfl, hb, T.cl, T.nWide, lk_wide b, _, rfl, r, C, dy, _, _, rfl, hb, T.cl, T.nHigh, lk_high b, p, a, _, _, _, _, rfl, ha, q⟩

/-! ### is_beyond -/
abbrev s_is_beyond : Stmt := top 6
def far (z : Int) : Bool := decide (1000 < (if z < 0 then -z else z))
def spBeyond : Sp := fun vs H Q _ => ∃ x y : Int, vs = [.int x, .int y] ∧ Q (.bl (far x || far y)) H
theorem sc_is_beyond : FnScope ["across", "down"] ["across", "down"] (defScope s_is_beyond) := ⟨rfl, rfl, rfl, by decide +kernel, rfl, by decide +kernel, by decide +kernel⟩
theorem ok_is_beyond {f : Addr} {fd : FuncData} (F : Fun K "is_beyond" "is_beyond" s_is_beyond f fd) (T : Txt K mg C) : FnOk P w K mg base CX0 1 f fd ["across", "down"] spBeyond := by
  refine F.ok sc_is_beyond (fun vs H Q E h => ?_) (fun cdv A outer s H vs Q E hr h => ?_)
  · obtain ⟨_, _, rfl, _⟩ := h
    rfl
  · obtain ⟨x, y, rfl, q⟩ := h
    obtain ⟨tF, gF⟩ := T.gFar
    refine ⟨_, pss_one (ps_ret (pe_or (pe_cmpR op_gt (pe_callB call_abs (by rfl) T.abs (by decide +kernel) (pa_cons (pv 0) pa_nil)) (pe_glob (v := V.int 1000) rfl gF ⟨_, rfl⟩) (nomark _))
      (pe_one (pe_cmpR op_gt (pe_callB call_abs (by rfl) T.abs (by decide +kernel) (pa_cons (pv 1) pa_nil)) (pe_glob (v := V.int 1000) rfl gF ⟨_, rfl⟩) (nomark _))))), ?_⟩
    refine ⟨_, rfl, _, rfl, _, _, rfl, rfl, _, rfl, ?_⟩
    refine ite2 (fun c => ?_) (fun c => ?_)
    · have e : far x = true := c
      rw [e, Bool.true_or] at q
      exact q
    · have e : far x = false := by
        rw [Bool.not_eq_true] at c
        exact c
      rw [e, Bool.false_or] at q
      exact ⟨_, rfl, _, rfl, _, _, rfl, rfl, q⟩

/-! ### row_of, Box -/
abbrev s_row_of : Stmt := top 3
abbrev s_box_init : Stmt := inClass (top 2) 0
def rowV (b : Ge04.Box) : List V := [.int b.x, .int b.y, .int b.w, .int b.h, .int (bi b.hard), .int (bi b.pushed), .int (bi b.carries)]
def spRow (C : Addr) : Sp := fun vs H Q _ => ∃ (p : Addr) (b : Ge04.Box), vs = [.ref p] ∧ BoxAt C H p b ∧ ∀ r, H r = none → Q (.ref r) (upd H r (.lst (rowV b)))
theorem sc_row_of : FnScope ["box"] ["box"] (defScope s_row_of) := ⟨rfl, rfl, rfl, by decide +kernel, rfl, by decide +kernel, by decide +kernel⟩
theorem ok_row_of {f : Addr} {fd : FuncData} (F : Fun K "row_of" "row_of" s_row_of f fd) (T : Txt K mg C) : FnOk P w K mg base CX0 1 f fd ["box"] (spRow C) := by
  refine F.ok sc_row_of (fun vs H Q E h => ?_) (fun cdv A outer s H vs Q E hr h => ?_)
  · obtain ⟨_, _, rfl, _⟩ := h
    rfl
  · obtain ⟨p, b, rfl, ⟨dx, hb⟩, q⟩ := h
    refine ⟨_, pss_one (ps_ret (pe_lst (pa_cons (pe_fld (pv 0) rfl) (pa_cons (pe_fld (pv 0) rfl) (pa_cons (pe_fld (pv 0) rfl) (pa_cons (pe_fld (pv 0) rfl) (pa_cons (pe_fld (pv 0) rfl) (pa_cons (pe_fld (pv 0) rfl) (pa_cons (pe_fld (pv 0) rfl) pa_nil))))))))), ?_⟩
    refine ⟨_, rfl, p, C, dx, _, _, rfl, hb, T.cl, T.nAcross, lk_across b, _, rfl, p, C, dx, _, _, rfl, hb, T.cl, T.nDown, lk_down b, _, rfl, p, C, dx, _, _, rfl, hb, T.cl, T.nWide, lk_wide b, _, rfl, p, C, dx, _, _, rfl, hb, T.cl, T.nHigh, lk_high b,
      _, rfl, p, C, dx, _, _, rfl, hb, T.cl, T.nHard, lk_hard b, _, rfl, p, C, dx, _, _, rfl, hb, T.cl, T.nPushed, lk_pushed b, _, rfl, p, C, dx, _, _, rfl, hb, T.cl, T.nCarries, lk_carries b, (by show 7 ≤ sizeLine; decide), fun r hr => ?_⟩
    exact q r hr
def spInit (K : PySem.W.Frag) (C : Addr) : Sp := fun vs H Q _ => ∃ (p dx r : Addr) (b : Ge04.Box), vs = [.ref p, .int b.number, .ref r] ∧ H p = some (.ins C dx []) ∧ SqL K H r (rowV b) ∧ Q .non (upd H p (.ins C dx (bF b)))
theorem sc_box_init : FnScope ["self", "number", "row"] ["self", "number", "row"] (defScope s_box_init) := ⟨rfl, rfl, rfl, by decide +kernel, rfl, by decide +kernel, by decide +kernel⟩
theorem seq_upd {K : PySem.W.Frag} {H : Hp} {p r : Addr} {o o' : HO} {xs : List V} (h : SqL K H r xs) (hp : H p = some o) (ho : ∀ ys, o ≠ .lst ys) (hf : ∀ a u, o ≠ .frz a u) : SqL K (upd H p o') r xs := by
  rcases h with (h | ⟨u, h⟩) | h
  · refine .inl (.inl ?_)
    rw [upd_ne (ne_of h hp (fun z => ho _ z.symm))]
    exact h
  · refine .inl (.inr ⟨u, ?_⟩)
    rw [upd_ne (ne_of h hp (fun z => hf _ _ z.symm))]
    exact h
  · exact .inr h
theorem ok_box_init {f : Addr} {fd : FuncData} (F : Fun K "__init__" "Box.__init__" s_box_init f fd) (T : Txt K mg C) : FnOk P w K mg base CX0 1 f fd ["self", "number", "row"] (spInit K C) := by
  refine F.ok sc_box_init (fun vs H Q E h => ?_) (fun cdv A outer s H vs Q E hr h => ?_)
  · obtain ⟨_, _, _, _, rfl, _⟩ := h
    rfl
  · obtain ⟨p, dx, r, b, rfl, hp, hl, q⟩ := h
    refine ⟨_, pss_cons (ps_fld (pv 0) (pv 1) rfl) (pss_cons (ps_fld (pv 0) (pe_ix ix_list (pv 2) pe_int (fun _ _ => rfl)) rfl) (pss_cons (ps_fld (pv 0) (pe_ix ix_list (pv 2) pe_int (fun _ _ => rfl)) rfl) (pss_cons (ps_fld (pv 0) (pe_ix ix_list (pv 2) pe_int (fun _ _ => rfl)) rfl)
      (pss_cons (ps_fld (pv 0) (pe_ix ix_list (pv 2) pe_int (fun _ _ => rfl)) rfl) (pss_cons (ps_fld (pv 0) (pe_ix ix_list (pv 2) pe_int (fun _ _ => rfl)) rfl) (pss_cons (ps_fld (pv 0) (pe_ix ix_list (pv 2) pe_int (fun _ _ => rfl)) rfl) (pss_one (ps_fld (pv 0) (pe_ix ix_list (pv 2) pe_int (fun _ _ => rfl)) rfl)))))))), ?_⟩
    have hl' : ∀ {fs : List (Str × V)}, SqL K (upd H p (.ins C dx fs)) r (rowV b) := fun {fs} => seq_upd hl hp (fun _ z => by cases z) (fun _ _ z => by cases z)
    refine ⟨_, rfl, _, rfl, p, C, dx, _, rfl, hp, T.cl, T.nNumber, (by show 0 < 1000; decide), ?_⟩
    refine ⟨_, rfl, r, _, 0, .int b.x, rfl, rfl, hl', rfl, _, rfl, p, C, dx, _, rfl, upd_same, T.cl, T.nAcross, (by show 1 < 1000; decide), ?_⟩
    simp only [upd_upd]
    refine ⟨_, rfl, r, _, 1, .int b.y, rfl, rfl, hl', rfl, _, rfl, p, C, dx, _, rfl, upd_same, T.cl, T.nDown, (by show 2 < 1000; decide), ?_⟩
    simp only [upd_upd]
    refine ⟨_, rfl, r, _, 2, .int b.w, rfl, rfl, hl', rfl, _, rfl, p, C, dx, _, rfl, upd_same, T.cl, T.nWide, (by show 3 < 1000; decide), ?_⟩
    simp only [upd_upd]
    refine ⟨_, rfl, r, _, 3, .int b.h, rfl, rfl, hl', rfl, _, rfl, p, C, dx, _, rfl, upd_same, T.cl, T.nHigh, (by show 4 < 1000; decide), ?_⟩
    simp only [upd_upd]
    refine ⟨_, rfl, r, _, 4, .int (bi b.hard), rfl, rfl, hl', rfl, _, rfl, p, C, dx, _, rfl, upd_same, T.cl, T.nHard, (by show 5 < 1000; decide), ?_⟩
    simp only [upd_upd]
    refine ⟨_, rfl, r, _, 5, .int (bi b.pushed), rfl, rfl, hl', rfl, _, rfl, p, C, dx, _, rfl, upd_same, T.cl, T.nPushed, (by show 6 < 1000; decide), ?_⟩
    simp only [upd_upd]
    refine ⟨_, rfl, r, _, 6, .int (bi b.carries), rfl, rfl, hl', rfl, _, rfl, p, C, dx, _, rfl, upd_same, T.cl, T.nCarries, (by show 7 < 1000; decide), ?_⟩
    simp only [upd_upd]
    show Q .non (upd H p (.ins C dx (putF "carries" (.int (bi b.carries)) _)))
    rw [bF_new]
    exact q
end
end Mb
set_option Elab.async false
set_option maxRecDepth 100000
set_option maxHeartbeats 2000000
namespace Mb
open PySem PySem.Spec PyProof.Rows L2
theorem take_more {α : Type} {l : List α} {i : Nat} {x : α} (h : l[i]? = some x) : l.take (i + 1) = l.take i ++ [x] := by
  rw [List.take_add_one, h]
  rfl
theorem get_ref {as : List Addr} {i : Nat} {x : V} (h : (as.map V.ref)[i]? = some x) : ∃ a, as[i]? = some a ∧ x = V.ref a ∧ a ∈ as := by
  rw [List.getElem?_map] at h
  cases e : as[i]? with
  | none => rw [e] at h; cases h
  | some a =>
    rw [e] at h
    exact ⟨a, rfl, (Option.some.inj h).symm, List.mem_of_getElem? e⟩
/-- boxes stand at these places -/
def Bxs (C : Addr) (H : Hp) (as : List Addr) (f : Addr → Ge04.Box) : Prop := ∀ a ∈ as, BoxAt C H a (f a)
theorem BoxAt.new {C : Addr} {H : Hp} {a p : Addr} {b : Ge04.Box} {o : HO} (h : BoxAt C H a b) (hp : H p = none) : BoxAt C (upd H p o) a b := by
  obtain ⟨dx, h⟩ := h
  exact ⟨dx, by rw [upd_ne (ne_of_none h hp)]; exact h⟩
theorem BoxAt.lst {C : Addr} {H : Hp} {a p : Addr} {b : Ge04.Box} {o : HO} {xs : List V} (h : BoxAt C H a b) (hp : H p = some (.lst xs)) : BoxAt C (upd H p o) a b := by
  obtain ⟨dx, h⟩ := h
  exact ⟨dx, by rw [upd_ne (ne_of h hp (by intro z; cases z))]; exact h⟩
theorem BoxAt.same {C : Addr} {H H' : Hp} {a : Addr} {b : Ge04.Box} (h : BoxAt C H a b) (s : Same H H') : BoxAt C H' a b := by
  obtain ⟨dx, h⟩ := h
  exact ⟨dx, s _ _ h⟩
theorem Bxs.new {C : Addr} {H : Hp} {as : List Addr} {f : Addr → Ge04.Box} {p : Addr} {o : HO} (h : Bxs C H as f) (hp : H p = none) : Bxs C (upd H p o) as f := fun a ha => (h a ha).new hp
theorem Bxs.same {C : Addr} {H H' : Hp} {as : List Addr} {f : Addr → Ge04.Box} (h : Bxs C H as f) (s : Same H H') : Bxs C H' as f := fun a ha => (h a ha).same s
theorem Same.new {H : Hp} {p : Addr} {o : HO} (hp : H p = none) : Same H (upd H p o) := fun b u e => by
  rw [upd_ne (ne_of_none e hp)]
  exact e

/-- a comprehension over a list of boxes whose test and item change nothing -/
theorem lc_gen {K : PySem.W.Frag} {L : Addr} {as : List Addr} {tt : TT} {te : TE} {j : Nat} {vs : List Nat} {σ : L2.St} {H : Hp} {D : Addr} {Qd : Hp → Prop} (p : Addr → Bool) (v : Addr → V) (hL : SqL K H L (as.map V.ref)) (hD : H D = none) (hlen : as.length ≤ 1000)
    (hj : ∀ a : Addr, wipe ((wipe σ vs).set j (some (V.ref a))) vs = wipe σ vs)
    (ht : ∀ a ∈ as, ∀ (acc : List V) (R : Bool → Hp → Prop), R (p a) (upd H D (.lst acc)) → tt ((wipe σ vs).set j (some (V.ref a))) (upd H D (.lst acc)) R)
    (he : ∀ a ∈ as, p a = true → ∀ (acc : List V) (R : V → Hp → Prop), R (v a) (upd H D (.lst acc)) → te ((wipe σ vs).set j (some (V.ref a))) (upd H D (.lst acc)) R)
    (hq : Qd (upd H D (.lst ((as.filter p).map v)))) :
    ∃ W : Nat → Nat → Hp → Prop, (∃ m, W 0 m (upd H D (.lst []))) ∧ ∀ i m H, W i m H →
      ((Itl K L).stop i H ∧ Qd H) ∨ ((Itl K L).go i H ∧ ∃ Nx : Hp → Prop, (∀ H', Nx H' → ∃ m', m' < m ∧ W (i + 1) m' H') ∧ ∀ x H', (Itl K L).yld i H x H' → gName j x (wipe σ vs) H' fun σ2 H2 => wipe σ2 vs = wipe σ vs ∧ tt σ2 H2 fun b H3 =>
        if b = true then te σ2 H3 fun y H4 => ∃ acc, H4 D = some (.lst acc) ∧ acc.length < sizeLine ∧ Nx (upd H4 D (.lst (acc ++ [y]))) else Nx H3) := by
  refine lc_list (K := K) (a := L) (xs := as.map V.ref) (fun i H' => H' = upd H D (.lst (((as.take i).filter p).map v))) rfl ?_ ?_ ?_
  · rintro i _ _ rfl
    exact (Same.new hD).seq hL
  · rintro i x _ hx rfl
    obtain ⟨a, ha, rfl, hm⟩ := get_ref hx
    refine ⟨hj a, ht a hm _ _ ?_⟩
    cases c : p a with
    | true =>
      rw [if_pos rfl]
      refine he a hm c _ _ ⟨_, upd_same, ?_, ?_⟩
      · refine small1000 ?_
        rw [List.length_map]
        exact Nat.le_trans (List.length_filter_le _ _) (Nat.le_trans (by rw [List.length_take]; omega) hlen)
      · rw [upd_upd, take_more ha, List.filter_append, List.map_append]
        have e : [a].filter p = [a] := by rw [List.filter_cons, c]; rfl
        rw [e]
        rfl
    | false =>
      rw [if_neg Bool.false_ne_true, take_more ha, List.filter_append]
      have e : [a].filter p = [] := by rw [List.filter_cons, c]; rfl
      rw [e, List.append_nil]
  · rintro _ rfl
    rw [List.length_map, List.take_length]
    exact hq
theorem filter_yes {α : Type} (l : List α) : l.filter (fun _ => true) = l := by simp
abbrev s_numbers_of : Stmt := top 5
abbrev s_in_way : Stmt := top 12
abbrev s_hard_ones : Stmt := top 9
def numV (f : Addr → Ge04.Box) (as : List Addr) : List V := as.map fun a => V.int ((f a).number : Int)
def spNumbers (C : Addr) : Sp := fun vs H Q _ => ∃ (L : Addr) (as : List Addr) (f : Addr → Ge04.Box), vs = [.ref L] ∧ H L = some (.lst (as.map V.ref)) ∧ as.length ≤ 1000 ∧ Bxs C H as f ∧ ∀ r, H r = none → Q (.ref r) (upd H r (.lst (numV f as)))
section
variable {P : Program} {w : World} {K : PySem.W.Frag} {mg : Str → Option Value} {base : Heap} {C : Addr}
theorem sc_numbers_of : FnScope ["boxes", "box"] ["boxes"] (defScope s_numbers_of) := ⟨rfl, rfl, rfl, by decide +kernel, rfl, by decide +kernel, by decide +kernel⟩
theorem ok_numbers_of {fa : Addr} {fd : FuncData} (F : Fun K "numbers_of" "numbers_of" s_numbers_of fa fd) (T : Txt K mg C) : FnOk P w K mg base CX0 1 fa fd ["boxes"] (spNumbers C) := by
  refine F.ok sc_numbers_of (fun vs H Q E h => ?_) (fun cdv A outer s H vs Q E hr h => ?_)
  · obtain ⟨_, _, _, rfl, _⟩ := h
    rfl
  · obtain ⟨L, as, f, rfl, hL, hlen, hb, q⟩ := h
    refine ⟨_, pss_one (ps_ret (pe_lc (own := [("box", 1)]) (g := gName 1) (tt := tYes) (te := tFld K (tVar 1) "number") rfl sc_numbers_of.nd (pi_list (pv 0)) (blkOk_by (N := ["boxes", "box"]) (sc := defScope s_numbers_of) (by decide +kernel))
      (by intro _ _ _ _ _; exact pg_name (i := 1) sc_numbers_of.nd rfl (Or.inl rfl)) (fun _ _ _ _ _ => pts_nil) (by intro _ _ _ _ _; exact pe_fld (pv 1) rfl))), ?_⟩
    refine ⟨_, rfl, L, rfl, ⟨_, SqL.of hL⟩, fun D hD => lc_gen (K := K) (fun _ => true) (fun a => V.int ((f a).number : Int)) (SqL.of hL) hD hlen (fun _ => rfl) (fun a _ acc R r => r) (fun a ha _ acc R r => ?_) ?_⟩
    · obtain ⟨dx, h1⟩ := (hb a ha).new (o := .lst acc) hD
      exact ⟨_, rfl, a, C, dx, _, _, rfl, h1, T.cl, T.nNumber, lk_number _, r⟩
    · rw [filter_yes]
      exact q D hD

/-! ### in_way -/
def spInWay (C : Addr) : Sp := fun vs H Q _ => ∃ (L p : Addr) (as : List Addr) (f : Addr → Ge04.Box) (b : Ge04.Box) (dx dy : Int), vs = [.ref L, .ref p, .int dx, .int dy] ∧ H L = some (.lst (as.map V.ref)) ∧ as.length ≤ 1000 ∧ Bxs C H as f ∧ BoxAt C H p b ∧
  ∀ H' r, Same H H' → H r = none → H' r = some (.lst ((Mv.inWay f as b dx dy).map V.ref)) → Q (.ref r) H'
theorem sc_in_way : FnScope ["boxes", "box", "over", "under", "across", "down", "others", "other"] ["boxes", "box", "over", "under"] (defScope s_in_way) := ⟨rfl, rfl, rfl, by decide +kernel, rfl, by decide +kernel, by decide +kernel⟩
theorem bi_eq (b : Bool) : decide (V.int (bi b) = V.int 1) = b := by cases b <;> decide
theorem bi_eq0 (b : Bool) : decide (V.int (bi b) = V.int 0) = !b := by cases b <;> decide
theorem num_ne (m n : Nat) : (!decide (V.int (m : Int) = V.int (n : Int))) = (m != n) := by
  by_cases e : m = n
  · subst e; simp
  · have : ¬ V.int (m : Int) = V.int (n : Int) := fun z => e (by injection z with z; omega)
    rw [decide_eq_false this]
    simp [e]
/-- the two tests of the program are the specification's -/
theorem way_eq (a b : Ge04.Box) (dx dy : Int) (hb : b.hard = true) : Ge04.blocks (Ge04.at_ b dx dy) a = ((a.hard && (a.number != b.number)) && (meets a.x a.w (b.x + dx) b.w && meets a.y a.h (b.y + dy) b.h)) := by
  unfold Ge04.blocks Ge04.over meets Ge04.at_
  rw [hb]
  simp only [Bool.true_and]
  have e : (b.number != a.number) = (a.number != b.number) := by
    rw [bne_comm]
  rw [e]
  cases a.hard <;> cases (a.number != b.number) <;> simp only [Bool.false_and, Bool.and_false, Bool.true_and, Bool.and_true]
  cases decide (b.x + dx < a.x + a.w) <;> cases decide (a.x < b.x + dx + b.w) <;> cases decide (b.y + dy < a.y + a.h) <;> cases decide (a.y < b.y + dy + b.h) <;> rfl
theorem way_soft (a b : Ge04.Box) (dx dy : Int) (hb : b.hard = false) : Ge04.blocks (Ge04.at_ b dx dy) a = false := by
  unfold Ge04.blocks Ge04.at_
  rw [hb]
  simp
/-! ### hard_ones -/
def hards (f : Addr → Ge04.Box) (as : List Addr) : List Addr := as.filter fun a => (f a).hard
theorem hards_len (f : Addr → Ge04.Box) (as : List Addr) : (hards f as).length ≤ as.length := List.length_filter_le _ _
theorem mem_hards {f : Addr → Ge04.Box} {as : List Addr} {a : Addr} (h : a ∈ hards f as) : a ∈ as := (List.mem_filter.mp h).1
def spHard (C : Addr) : Sp := fun vs H Q _ => ∃ (L : Addr) (as : List Addr) (f : Addr → Ge04.Box), vs = [.ref L] ∧ H L = some (.lst (as.map V.ref)) ∧ as.length ≤ 1000 ∧ Bxs C H as f ∧ ∀ r, H r = none → Q (.ref r) (upd H r (.lst ((hards f as).map V.ref)))
theorem sc_hard_ones : FnScope ["boxes", "box"] ["boxes"] (defScope s_hard_ones) := ⟨rfl, rfl, rfl, by decide +kernel, rfl, by decide +kernel, by decide +kernel⟩
theorem ok_hard_ones {fa : Addr} {fd : FuncData} (F : Fun K "hard_ones" "hard_ones" s_hard_ones fa fd) (T : Txt K mg C) : FnOk P w K mg base CX0 1 fa fd ["boxes"] (spHard C) := by
  refine F.ok sc_hard_ones (fun vs H Q E h => ?_) (fun cdv A outer s H vs Q E hr h => ?_)
  · obtain ⟨_, _, _, rfl, _⟩ := h
    rfl
  · obtain ⟨L, as, f, rfl, hL, hlen, hb, q⟩ := h
    refine ⟨_, pss_one (ps_ret (pe_lc (own := [("box", 1)]) (g := gName 1) (tt := tTest (tOp rEq (tFld K (tVar 1) "hard") (tC (.int 1)))) (te := tVar 1) rfl sc_hard_ones.nd (pi_list (pv 0)) (blkOk_by (N := ["boxes", "box"]) (sc := defScope s_hard_ones) (by decide +kernel))
      (by intro _ _ _ _ _; exact pg_name (i := 1) sc_hard_ones.nd rfl (Or.inl rfl)) (by intro _ _ _ _ _; exact pts_one (pt_cmpR op_eq (pe_fld (pv 1) rfl) pe_int (nomark _))) (by intro _ _ _ _ _; exact pv 1))), ?_⟩
    refine ⟨_, rfl, L, rfl, ⟨_, SqL.of hL⟩, fun D hD => lc_gen (K := K) (fun a => (f a).hard) V.ref (SqL.of hL) hD hlen (fun _ => rfl) (fun a ha acc R r => ?_) (fun a ha _ acc R r => ⟨_, rfl, r⟩) ?_⟩
    · obtain ⟨dx, h1⟩ := (hb a ha).new (o := .lst acc) hD
      refine ⟨_, rfl, a, C, dx, _, _, rfl, h1, T.cl, T.nHard, lk_hard _, rfl, _, rfl, ?_⟩
      rw [bi_eq]
      exact r
    · exact q D hD
end
end Mb
set_option Elab.async false
set_option maxRecDepth 100000
set_option maxHeartbeats 2000000
namespace Mb
open PySem PySem.Spec PyProof.Rows L2
section
variable {P : Program} {w : World} {K : PySem.W.Frag} {mg : Str → Option Value} {base : Heap} {C : Addr}
theorem tand_of {A B : TT} {σ : L2.St} {H : Hp} {R : Bool → Hp → Prop} {c d : Bool} (ha : ∀ R' : Bool → Hp → Prop, R' c H → A σ H R') (hb : c = true → ∀ R' : Bool → Hp → Prop, R' d H → B σ H R') (r : R (c && d) H) : tAnd A B σ H R := by
  refine ha _ ?_
  cases c with
  | true => exact iteT (hb rfl _ r)
  | false => exact iteF r
theorem ok_in_way {fa : Addr} {fd : FuncData} (F : Fun K "in_way" "in_way" s_in_way fa fd) (T : Txt K mg C) (DH : Df P w K mg base "hard_ones" 1 ["boxes"] (spHard C)) (D : Df P w K mg base "has_place_in" 2 ["box", "across", "down", "wide", "high"] (spPlace C)) : FnOk P w K mg base CX0 3 fa fd ["boxes", "box", "over", "under"] (spInWay C) := by
  refine F.ok sc_in_way (fun vs H Q E h => ?_) (fun cdv A outer s H vs Q E hr h => ?_)
  · obtain ⟨_, _, _, _, _, _, _, rfl, _⟩ := h
    rfl
  · obtain ⟨L, p, as, f, b, dx, dy, rfl, hL, hlen, hb, ⟨dp, hp⟩, q⟩ := h
    have hr1 : Room 1 _ := hr.mono (by decide)
    refine ⟨_, pss_cons (ps_if (pt_cmpR op_eq (pe_fld (pv 1) rfl) pe_int (nomark _)) (pss_one (ps_ret (pe_lst pa_nil))) pss_nil)
      (pss_cons (ps_set (i := 4) sc_in_way.nd rfl (Or.inr rfl) (pe_op op_add (pe_fld (pv 1) rfl) (pv 2)))
      (pss_cons (ps_set (i := 5) sc_in_way.nd rfl (Or.inr rfl) (pe_op op_add (pe_fld (pv 1) rfl) (pv 3)))
      (pss_cons (ps_setLc (i := 6) (own := [("other", 7)]) (g := gName 7) (tt := tTest (tOp rNe (tFld K (tVar 7) "number") (tFld K (tVar 1) "number"))) (te := tVar 7) rfl sc_in_way.nd rfl rfl
          (sw_true rfl rfl rfl (by decide +kernel)) (pi_list (pe_df DH hr1 (pa_cons (pv 0) pa_nil))) (blkOk_by (N := ["boxes", "box", "over", "under", "across", "down", "others", "other"]) (sc := defScope s_in_way) (by decide +kernel))
          (by intro _ _ _ _ _; exact pg_name (i := 7) sc_in_way.nd rfl (Or.inl rfl))
          (by intro _ _ _ _ _; exact pts_one (pt_cmpR op_ne (pe_fld (pv 7) rfl) (pe_fld (pv 1) rfl) (nomark _)))
          (by intro _ _ _ _ _; exact pv 7))
      (pss_one (ps_ret (pe_lc (own := [("other", 7)]) (g := gName 7) (tt := tB (tCall (spPlace C) [] E0 (tCons (tVar 7) (tCons (tVar 4) (tCons (tVar 5) (tCons (tFld K (tVar 1) "wide") (tCons (tFld K (tVar 1) "high") tNil))))))) (te := tVar 7) rfl sc_in_way.nd
          (pi_list (pv 6)) (blkOk_by (N := ["boxes", "box", "over", "under", "across", "down", "others", "other"]) (sc := defScope s_in_way) (by decide +kernel))
          (by intro _ _ _ _ _; exact pg_name (i := 7) sc_in_way.nd rfl (Or.inl rfl))
          (by intro _ _ _ _ _; exact pts_one (pt_val (pe_df D hr (pa_cons (pv 7) (pa_cons (pv 4) (pa_cons (pv 5) (pa_cons (pe_fld (pv 1) rfl) (pa_cons (pe_fld (pv 1) rfl) pa_nil))))))))
          (by intro _ _ _ _ _; exact pv 7))))))), ?_⟩
    refine ⟨_, rfl, p, C, dp, _, _, rfl, hp, T.cl, T.nHard, lk_hard b, rfl, _, rfl, ?_⟩
    rw [bi_eq0]
    cases hh : b.hard with
    | false =>
      refine iteT ⟨Nat.zero_le _, fun r hr => ?_⟩
      refine q _ r (Same.new hr) hr ?_
      have e : Mv.inWay f as b dx dy = [] := by
        unfold Mv.inWay
        rw [List.filter_eq_nil_iff]
        intro a _
        rw [way_soft _ _ _ _ hh]
        exact Bool.false_ne_true
      rw [e]
      exact upd_same
    | true =>
      refine iteF ?_
      refine ⟨_, rfl, p, C, dp, _, _, rfl, hp, T.cl, T.nAcross, lk_across b, _, rfl, _, _, rfl, rfl, ?_⟩
      refine ⟨_, rfl, p, C, dp, _, _, rfl, hp, T.cl, T.nDown, lk_down b, _, rfl, _, _, rfl, rfl, ?_⟩
      -- others
      refine ⟨_, rfl, L, as, f, rfl, hL, hlen, hb, fun h1 hh1 => ?_⟩
      have s1 : Same H (upd H h1 (.lst ((hards f as).map V.ref))) := Same.new hh1
      refine ⟨h1, rfl, ⟨_, SqL.of upd_same⟩, fun O hO => lc_gen (K := K) (fun a => (f a).number != b.number) V.ref (SqL.of upd_same) hO (Nat.le_trans (hards_len f as) hlen) (fun _ => rfl) (fun a ha acc R r => ?_) (fun a ha _ acc R r => ⟨_, rfl, r⟩) ?_⟩
      · obtain ⟨d1, h1⟩ := ((hb a (mem_hards ha)).same s1).new (o := .lst acc) hO
        have h2 := (Same.new (o := .lst acc) hO) _ _ (s1 _ _ hp)
        refine ⟨_, rfl, a, C, d1, _, _, rfl, h1, T.cl, T.nNumber, lk_number _, _, rfl, p, C, dp, _, _, rfl, h2, T.cl, T.nNumber, lk_number _, rfl, _, rfl, ?_⟩
        rw [num_ne]
        exact r
      · have s2 := s1.trans (Same.new (o := .lst (((hards f as).filter fun a => (f a).number != b.number).map V.ref)) hO)
        refine ⟨_, rfl, O, rfl, ⟨_, SqL.of upd_same⟩, fun R hR => lc_gen (K := K) (fun a => meets (f a).x (f a).w (b.x + dx) b.w && meets (f a).y (f a).h (b.y + dy) b.h) V.ref (SqL.of upd_same) hR (Nat.le_trans (List.length_filter_le _ _) (Nat.le_trans (hards_len f as) hlen)) (fun _ => rfl) (fun a ha acc S r => ?_) (fun a ha _ acc S r => ⟨_, rfl, r⟩) ?_⟩
        · have ha' := mem_hards (List.mem_filter.mp ha).1
          have b1 := ((hb a ha').same s2).new (o := .lst acc) hR
          have h2 := (Same.new (o := .lst acc) hR) _ _ (s2 _ _ hp)
          refine ⟨_, rfl, _, rfl, _, rfl, _, rfl, p, C, dp, _, _, rfl, h2, T.cl, T.nWide, lk_wide _, _, rfl, p, C, dp, _, _, rfl, h2, T.cl, T.nHigh, lk_high _, ?_⟩
          exact ⟨a, f a, _, _, _, _, rfl, b1, _, rfl, r⟩
        · refine q _ R (s2.trans (Same.new hR)) (s2.free hR) ?_
          rw [upd_same, List.filter_filter]
          have e : ((hards f as).filter fun a => (meets (f a).x (f a).w (b.x + dx) b.w && meets (f a).y (f a).h (b.y + dy) b.h) && ((f a).number != b.number)) = Mv.inWay f as b dx dy := by
            unfold Mv.inWay hards
            rw [List.filter_filter]
            refine List.filter_congr fun a _ => ?_
            rw [way_eq _ _ _ _ hh]
            cases (f a).hard <;> cases ((f a).number != b.number) <;> simp
          rw [e]
end
end Mb
set_option Elab.async false
set_option maxRecDepth 100000
set_option maxHeartbeats 2000000
namespace Mb
open PySem PySem.Spec PyProof.Rows L2
theorem while_m {c : TT} {tb : TS} {D : Ends} {σ : L2.St} {H : Hp} (Pv : Nat → L2.St → Hp → Prop) (h0 : ∃ m, Pv m σ H)
    (hs : ∀ m σ H, Pv m σ H → c σ H fun b H1 => if b = true then ∃ N : L2.St → Hp → Prop, (∀ σ' H', N σ' H' → ∃ m', m' < m ∧ Pv m' σ' H') ∧ tb { D with nx := N, ct := N, bk := D.nx } σ H1 else D.nx σ H1) : tWhile c tb D σ H := ⟨Pv, h0, hs⟩
structure Len (mg : Str → Option Value) : Prop where
  len : mg "len" = none
  list : mg "list" = none
  any : mg "any" = none
  sorted : mg "sorted" = none
  zip : mg "zip" = none
  range : mg "range" = none
  enumerate : mg "enumerate" = none
abbrev s_shift : Stmt := top 14
abbrev s_riders_on : Stmt := top 15
abbrev s_carried_by : Stmt := top 16
abbrev s_pushed_by : Stmt := top 17
def spShift (C : Addr) : Sp := fun vs H Q _ => ∃ (p d : Addr) (b : Ge04.Box) (dx dy : Int), vs = [.ref p, .int dx, .int dy] ∧ H p = some (.ins C d (bF b)) ∧ Q .non (upd H p (.ins C d (bF (Ge04.at_ b dx dy))))
def spRiders (C : Addr) : Sp := fun vs H Q _ => ∃ (L M : Addr) (as cs : List Addr) (f : Addr → Ge04.Box), vs = [.ref L, .ref M] ∧ H L = some (.lst (as.map V.ref)) ∧ H M = some (.lst (cs.map V.ref)) ∧ as.length ≤ 100 ∧ cs.length ≤ 100 ∧ Bxs C H as f ∧ Bxs C H cs f ∧
  ∀ H' r, Same H H' → H r = none → H' r = some (.lst ((Mv.ridersOn (Mv.hf f) as cs).map V.ref)) → Q (.ref r) H'
section
variable {P : Program} {w : World} {K : PySem.W.Frag} {mg : Str → Option Value} {base : Heap} {C : Addr}
theorem sc_shift : FnScope ["box", "over", "under"] ["box", "over", "under"] (defScope s_shift) := ⟨rfl, rfl, rfl, by decide +kernel, rfl, by decide +kernel, by decide +kernel⟩
theorem ok_shift {fa : Addr} {fd : FuncData} (F : Fun K "shift" "shift" s_shift fa fd) (T : Txt K mg C) : FnOk P w K mg base CX0 1 fa fd ["box", "over", "under"] (spShift C) := by
  refine F.ok sc_shift (fun vs H Q E h => ?_) (fun cdv A outer s H vs Q E hr h => ?_)
  · obtain ⟨_, _, _, _, _, rfl, _⟩ := h
    rfl
  · obtain ⟨p, d, b, dx, dy, rfl, hp, q⟩ := h
    refine ⟨_, pss_cons (ps_fldaug (pv 0) (pv 1) in_add) (pss_one (ps_fldaug (pv 0) (pv 2) in_add)), ?_⟩
    refine ⟨_, rfl, p, C, d, _, _, rfl, hp, T.cl, T.nAcross, lk_across b, _, rfl, _, _, rfl, rfl, d, _, hp, (by show 8 < 1000; decide), ?_⟩
    rw [put_across]
    refine ⟨_, rfl, p, C, d, _, _, rfl, upd_same, T.cl, T.nDown, lk_down _, _, rfl, _, _, rfl, rfl, d, _, upd_same, (by show 8 < 1000; decide), ?_⟩
    rw [put_down, upd_upd]
    exact q
theorem sc_riders_on : FnScope ["boxes", "goers", "carriers", "riders", "box", "goer", "carrier"] ["boxes", "goers"] (defScope s_riders_on) := ⟨rfl, rfl, rfl, by decide +kernel, rfl, by decide +kernel, by decide +kernel⟩
/-- the hard ones that carry -/
def carriersOf (f : Addr → Ge04.Box) (cs : List Addr) : List Addr := (hards f cs).filter fun c => (f c).carries
theorem riders_is (f : Addr → Ge04.Box) (as cs : List Addr) : ((hards f as).filter fun a => (carriersOf f cs).any fun c => Mv.stOn (f a) (f c)) = Mv.ridersOn (Mv.hf f) as cs := by
  unfold Mv.ridersOn hards carriersOf
  rw [List.filter_filter]
  refine List.filter_congr fun a _ => ?_
  show _ = ((f a).hard && cs.any fun c => ((f c).hard && (f c).carries) && Mv.stOn (f a) (f c))
  rw [Bool.and_comm]
  congr 1
  rw [Bool.eq_iff_iff, List.any_eq_true, List.any_eq_true]
  constructor
  · rintro ⟨c, hc, q⟩
    have h1 := List.mem_filter.mp hc
    have h2 := List.mem_filter.mp h1.1
    exact ⟨c, h2.1, by rw [h1.2, h2.2, q]; rfl⟩
  · rintro ⟨c, hc, q⟩
    rw [Bool.and_eq_true, Bool.and_eq_true] at q
    exact ⟨c, List.mem_filter.mpr ⟨List.mem_filter.mpr ⟨hc, q.1.1⟩, q.1.2⟩, q.2⟩
theorem ok_riders_on {fa : Addr} {fd : FuncData} (F : Fun K "riders_on" "riders_on" s_riders_on fa fd) (T : Txt K mg C) (B : Len mg) (DH : Df P w K mg base "hard_ones" 1 ["boxes"] (spHard C)) (D : Df P w K mg base "stands_on" 2 ["upper", "lower"] (spStands C)) : FnOk P w K mg base CX0 3 fa fd ["boxes", "goers"] (spRiders C) := by
  refine F.ok sc_riders_on (fun vs H Q E h => ?_) (fun cdv A outer s H vs Q E hr h => ?_)
  · obtain ⟨_, _, _, _, _, rfl, _⟩ := h
    rfl
  · obtain ⟨L, M, as, cs, f, rfl, hL, hM, la, lc, ba, bc, q⟩ := h
    have hr1 : Room 1 _ := hr.mono (by decide)
    refine ⟨_, pss_cons (ps_setLc (i := 2) (own := [("goer", 5)]) (g := gName 5) (tt := tTest (tOp rEq (tFld K (tVar 5) "carries") (tC (.int 1)))) (te := tVar 5) rfl sc_riders_on.nd rfl rfl
            (sw_true rfl rfl rfl (by decide +kernel)) (pi_list (pe_df DH hr1 (pa_cons (pv 1) pa_nil))) (blkOk_by (N := ["boxes", "goers", "carriers", "riders", "box", "goer", "carrier"]) (sc := defScope s_riders_on) (by decide +kernel))
            (by intro _ _ _ _ _; exact pg_name (i := 5) sc_riders_on.nd rfl (Or.inl rfl))
            (by intro _ _ _ _ _; exact pts_one (pt_cmpR op_eq (pe_fld (pv 5) rfl) pe_int (nomark _)))
            (by intro _ _ _ _ _; exact pv 5))
      (pss_cons (ps_set (i := 3) sc_riders_on.nd rfl (Or.inl rfl) (pe_lst pa_nil))
      (pss_cons (ps_for PassesOwn.never rfl (pi_list (pe_df DH hr1 (pa_cons (pv 0) pa_nil))) (pg_name (i := 4) sc_riders_on.nd rfl (Or.inr rfl))
        (pss_one (ps_if (pt_val (pe_callB (cr_any rfl) (by rfl) B.any (by decide +kernel) (pa_cons
            (pe_lc (own := [("carrier", 6)]) (g := gName 6) (tt := tYes) (te := tCall (spStands C) [] E0 (tCons (tVar 4) (tCons (tVar 6) tNil))) rfl sc_riders_on.nd (pi_list (pv 2))
              (blkOk_by (N := ["boxes", "goers", "carriers", "riders", "box", "goer", "carrier"]) (sc := defScope s_riders_on) (by decide +kernel))
              (by intro _ _ _ _ _; exact pg_name (i := 6) sc_riders_on.nd rfl (Or.inl rfl)) (fun _ _ _ _ _ => pts_nil) (by intro _ _ _ _ _; exact pe_df D hr (pa_cons (pv 4) (pa_cons (pv 6) pa_nil)))) pa_nil)))
          (pss_one (ps_expr (pe_bm PySem.F.plainAttrs_list PySem.F.slot_list_append PySem.F.type_list_append mt_append (pv 3) (pa_cons (pv 4) pa_nil)))) pss_nil)))
      (pss_one (ps_ret (pv 3))))), ?_⟩
    have lh : (hards f cs).length ≤ 100 := Nat.le_trans (hards_len f cs) lc
    have lk : (carriersOf f cs).length ≤ 100 := Nat.le_trans (List.length_filter_le _ _) lh
    have la2 : (hards f as).length ≤ 100 := Nat.le_trans (hards_len f as) la
    -- carriers
    refine ⟨_, rfl, M, cs, f, rfl, hM, by omega, bc, fun g1 hg1 => ?_⟩
    have s1 : Same H (upd H g1 (.lst ((hards f cs).map V.ref))) := Same.new hg1
    refine ⟨g1, rfl, ⟨_, SqL.of upd_same⟩, fun O hO => lc_gen (K := K) (fun c => (f c).carries) V.ref (SqL.of upd_same) hO (by omega) (fun _ => rfl) (fun c hc acc S r => ?_) (fun c hc _ acc S r => ⟨_, rfl, r⟩) ?_⟩
    · obtain ⟨d1, h1⟩ := ((bc c (mem_hards hc)).same s1).new (o := .lst acc) hO
      refine ⟨_, rfl, c, C, d1, _, _, rfl, h1, T.cl, T.nCarries, lk_carries _, rfl, _, rfl, ?_⟩
      rw [bi_eq]
      exact r
    have eC : ((hards f cs).filter fun c => (f c).carries) = carriersOf f cs := rfl
    rw [eC]
    have s2 := s1.trans (Same.new (o := .lst ((carriersOf f cs).map V.ref)) hO)
    -- riders = []
    refine ⟨Nat.zero_le _, fun R hR => ?_⟩
    have hR0 : H R = none := s2.free hR
    have s3 := s2.trans (Same.new (o := .lst []) hR)
    have hO3 := (Same.new (o := .lst []) hR) _ _ (upd_same (H := upd H g1 (.lst ((hards f cs).map V.ref))) (a := O) (o := .lst ((carriersOf f cs).map V.ref)))
    have nOR : O ≠ R := fun z => by rw [← z, upd_same] at hR; cases hR
    -- for box in hard_ones(boxes)
    refine ⟨_, rfl, L, as, f, rfl, s3 _ _ hL, by omega, ba.same s3, fun g2 hg2 => ?_⟩
    have n2R : g2 ≠ R := fun z => by rw [z, upd_same] at hg2; cases hg2
    have s4 := s3.trans (Same.new (o := .lst ((hards f as).map V.ref)) hg2)
    refine ⟨g2, rfl, ⟨_, SqL.of upd_same⟩, for_list (K := K) (a := g2) (xs := (hards f as).map V.ref) (fun i σ H' => ∃ v4 : Option V, σ = [some (.ref L), some (.ref M), some (.ref O), some (.ref R), v4, none, none] ∧ Same H H' ∧ H' g2 = some (.lst ((hards f as).map V.ref)) ∧ H' O = some (.lst ((carriersOf f cs).map V.ref)) ∧
      H' R = some (.lst ((((hards f as).take i).filter fun a => (carriersOf f cs).any fun c => Mv.stOn (f a) (f c)).map V.ref)))
      ⟨none, rfl, s4, upd_same, (Same.new hg2) _ _ hO3, (Same.new hg2) _ _ upd_same⟩ (fun i σ H' _ ⟨_, _, _, h, _⟩ => SqL.of h) ?_ ?_⟩
    · rintro i x σ H' hx ⟨v4, rfl, s5, hg5, hO5, hR5⟩
      obtain ⟨a, ha, rfl, hm⟩ := get_ref hx
      refine ⟨_, rfl, O, rfl, ⟨_, SqL.of hO5⟩, fun D hD => lc_gen (K := K) (fun _ => true) (fun c => V.bl (Mv.stOn (f a) (f c))) (SqL.of hO5) hD (by omega) (fun _ => rfl) (fun c _ acc S r => r) (fun c hc _ acc S r => ?_) ?_⟩
      · have h1 := ((bc c (mem_hards (List.mem_filter.mp hc).1)).same s5).new (o := .lst acc) hD
        have h2 := ((ba a (mem_hards hm)).same s5).new (o := .lst acc) hD
        exact ⟨_, rfl, _, rfl, a, c, f a, f c, rfl, h2, h1, r⟩
      · rw [filter_yes]
        have hD2 : (upd H' D (.lst ((carriersOf f cs).map fun c => V.bl (Mv.stOn (f a) (f c))))) D = some (.lst (((carriersOf f cs).map fun c => Mv.stOn (f a) (f c)).map V.bl)) := by rw [upd_same, List.map_map]; rfl
        have s6 : Same H' (upd H' D (.lst ((carriersOf f cs).map fun c => V.bl (Mv.stOn (f a) (f c))))) := Same.new hD
        have key : (((hards f as).take (i + 1)).filter fun a => (carriersOf f cs).any fun c => Mv.stOn (f a) (f c)) = (((hards f as).take i).filter fun a => (carriersOf f cs).any fun c => Mv.stOn (f a) (f c)) ++ (if ((carriersOf f cs).any fun c => Mv.stOn (f a) (f c)) = true then [a] else []) := by
          rw [take_more ha, List.filter_append, List.filter_cons, List.filter_nil]
        have ea : (((carriersOf f cs).map fun c => Mv.stOn (f a) (f c)).any id) = (carriersOf f cs).any fun c => Mv.stOn (f a) (f c) := by rw [List.any_map]; rfl
        refine ⟨D, _, rfl, SqL.of hD2, _, rfl, ?_⟩
        rw [ea]
        cases hy : (carriersOf f cs).any fun c => Mv.stOn (f a) (f c) with
        | false =>
          rw [hy, if_neg Bool.false_ne_true, List.append_nil] at key
          refine iteF ⟨some (.ref a), rfl, s5.trans s6, s6 _ _ hg5, s6 _ _ hO5, ?_⟩
          rw [key]
          exact s6 _ _ hR5
        | true =>
          rw [hy, if_pos rfl] at key
          refine iteT ⟨_, rfl, .inl ⟨rfl, _, SqL.of (s6 _ _ hR5)⟩, _, rfl, R, _, _, rfl, rfl, s6 _ _ hR5, small1000 ?_, some (.ref a), rfl, ?_, ?_, ?_, ?_⟩
          · rw [List.length_map]
            exact Nat.le_trans (List.length_filter_le _ _) (by rw [List.length_take]; omega)
          · intro b o e
            rw [upd_ne (ne_of_none e hR0)]
            exact s6 _ _ (s5 _ _ e)
          · rw [upd_ne n2R]
            exact s6 _ _ hg5
          · rw [upd_ne nOR]
            exact s6 _ _ hO5
          · rw [upd_same, key, List.map_append]
            rfl
    · rintro σ H' ⟨v4, rfl, s5, _, _, hR5⟩
      rw [List.length_map, List.take_length, riders_is] at hR5
      exact ⟨_, rfl, q H' R s5 hR0 hR5⟩
end
end Mb
set_option Elab.async false
set_option maxRecDepth 100000
set_option maxHeartbeats 2000000
namespace Mb
open PySem PySem.Spec PyProof.Rows L2
theorem numV_len (f : Addr → Ge04.Box) (as : List Addr) : (numV f as).length = as.length := List.length_map _
theorem numV_flat (f : Addr → Ge04.Box) (as : List Addr) : (numV f as).all flatV = true := by
  rw [List.all_eq_true]
  intro v hv
  obtain ⟨a, _, rfl⟩ := List.mem_map.mp hv
  rfl
theorem numV_append (f : Addr → Ge04.Box) (xs ys : List Addr) : numV f xs ++ numV f ys = numV f (xs ++ ys) := (List.map_append).symm
/-- a box's number is among those of the known ones just if it is one of these -/
theorem num_in {as known : List Addr} {f : Addr → Ge04.Box} (g : Mv.Good as f) (hk : ∀ a ∈ known, a ∈ as) {a : Addr} (ha : a ∈ as) : inV (.int ((f a).number : Int)) (numV f known) = known.contains a := by
  unfold inV numV
  rw [Bool.eq_iff_iff, List.any_eq_true, List.contains_iff_mem]
  constructor
  · rintro ⟨v, hv, e⟩
    obtain ⟨b, hb, rfl⟩ := List.mem_map.mp hv
    have e : (((f b).number : Int) == ((f a).number : Int)) = true := e
    have e := eq_of_beq e
    have : b = a := g.inj (hk b hb) ha (by omega)
    rw [← this]
    exact hb
  · intro h
    exact ⟨_, List.mem_map.mpr ⟨a, h, rfl⟩, show (((f a).number : Int) == ((f a).number : Int)) = true from beq_self_eq_true _⟩
structure Wld (C : Addr) (H : Hp) (L : Addr) (as : List Addr) (f : Addr → Ge04.Box) : Prop where
  lst : H L = some (.lst (as.map V.ref))
  bxs : Bxs C H as f
  good : Mv.Good as f
  few : as.length ≤ 100
theorem Wld.same {C : Addr} {H H' : Hp} {L : Addr} {as : List Addr} {f : Addr → Ge04.Box} (W : Wld C H L as f) (s : Same H H') : Wld C H' L as f := ⟨s _ _ W.lst, W.bxs.same s, W.good, W.few⟩
def spCarried (C : Addr) : Sp := fun vs H Q _ => ∃ (L G : Addr) (as goers : List Addr) (f : Addr → Ge04.Box), vs = [.ref L, .ref G] ∧ Wld C H L as f ∧ H G = some (.lst (goers.map V.ref)) ∧ goers.length ≤ 100 ∧ (∀ a ∈ goers, a ∈ as) ∧
  ∀ H' r found, Same H H' → H r = none → H' r = some (.lst (found.map V.ref)) → Mv.Carried as (Mv.hf f) goers found → Q (.ref r) H'
def spPushed (C : Addr) : Sp := fun vs H Q _ => ∃ (L G : Addr) (as asked : List Addr) (f : Addr → Ge04.Box) (dx dy : Int), vs = [.ref L, .ref G, .int dx, .int dy] ∧ Wld C H L as f ∧ H G = some (.lst (asked.map V.ref)) ∧ asked.Nodup ∧ (∀ a ∈ asked, a ∈ as) ∧
  ∀ H' r p, Same H H' → H r = none → H' r = some (.lst (p.map V.ref)) → Mv.Pushed as f dx dy asked p → Q (.ref r) H'
section
variable {P : Program} {w : World} {K : PySem.W.Frag} {mg : Str → Option Value} {base : Heap} {C : Addr}
theorem sc_carried_by : FnScope ["boxes", "goers", "found", "newest", "known", "box"] ["boxes", "goers"] (defScope s_carried_by) := ⟨rfl, rfl, rfl, by decide +kernel, rfl, by decide +kernel, by decide +kernel⟩
theorem ok_carried_by {fa : Addr} {fd : FuncData} (F : Fun K "carried_by" "carried_by" s_carried_by fa fd) (T : Txt K mg C) (DN : Df P w K mg base "numbers_of" 1 ["boxes"] (spNumbers C)) (DR : Df P w K mg base "riders_on" 3 ["boxes", "goers"] (spRiders C)) :
    FnOk P w K mg base CX0 4 fa fd ["boxes", "goers"] (spCarried C) := by
  refine F.ok sc_carried_by (fun vs H Q E h => ?_) (fun cdv A outer s H vs Q E hr h => ?_)
  · obtain ⟨_, _, _, _, _, rfl, _⟩ := h
    rfl
  · obtain ⟨L, G, as, goers, f, rfl, W, hG, lg, sg, q⟩ := h
    have hr1 : Room 1 _ := hr.mono (by decide)
    refine ⟨_, pss_cons (ps_set (i := 2) sc_carried_by.nd rfl (Or.inl rfl) (pe_lst pa_nil))
      (pss_cons (ps_set (i := 3) sc_carried_by.nd rfl (Or.inl rfl) (pv 1))
      (pss_cons (ps_while PassesOwn.never (pt_truth (pv 3) (by intro _; rfl))
        (pss_cons (ps_set (i := 4) sc_carried_by.nd rfl (Or.inr rfl) (pe_op op_cat (pe_df DN hr1 (pa_cons (pv 1) pa_nil)) (pe_df DN hr1 (pa_cons (pv 2) pa_nil))))
        (pss_cons (ps_setLc (i := 3) (own := [("box", 5)]) (g := gName 5) (tt := tTest (tOp (rIn K true) (tFld K (tVar 5) "number") (tVar 4))) (te := tVar 5) rfl sc_carried_by.nd rfl rfl
            (sw_true rfl rfl rfl (by decide +kernel)) (pi_list (pe_df DR hr (pa_cons (pv 0) (pa_cons (pv 3) pa_nil)))) (blkOk_by (N := ["boxes", "goers", "found", "newest", "known", "box"]) (sc := defScope s_carried_by) (by decide +kernel))
            (by intro _ _ _ _ _; exact pg_name (i := 5) sc_carried_by.nd rfl (Or.inl rfl))
            (by intro _ _ _ _ _; exact pts_one (pt_cmpR op_notIn_seq (pe_fld (pv 5) rfl) (pv 4) (by rfl)))
            (by intro _ _ _ _ _; exact pv 5))
        (pss_one (ps_expr (pe_bm PySem.F.plainAttrs_list PySem.F.slot_list_extend PySem.F.type_list_extend mt_extend (pv 2) (pa_cons (pv 3) pa_nil)))))))
      (pss_one (ps_ret (pv 2))))), ?_⟩
    refine ⟨Nat.zero_le _, fun R hR => ?_⟩
    have s0 : Same H (upd H R (.lst [])) := Same.new hR
    refine ⟨_, rfl, ?_⟩
    refine ⟨fun m σ H' => ∃ (found newest : List Addr) (N : Addr) (v4 : Option V), σ = [some (.ref L), some (.ref G), some (.ref R), some (.ref N), v4, none] ∧ Same H H' ∧ H' R = some (.lst (found.map V.ref)) ∧ H' N = some (.lst (newest.map V.ref)) ∧ N ≠ R ∧ newest.length ≤ 100 ∧
      Mv.CarryInv as (Mv.hf f) goers found newest ∧ m = 2 * Mv.toFind as goers found + (if newest = [] then 0 else 1), ⟨_, [], goers, G, none, rfl, s0, upd_same, s0 _ _ hG, ne_of_none hG hR, lg, Mv.carry_start sg, rfl⟩, ?_⟩
    rintro m σ H' ⟨found, newest, N, v4, rfl, s5, hR5, hN5, nNR, ln, I, rfl⟩
    have lf : found.length ≤ 100 := Nat.le_trans (Mv.nodup_len I.load.nd I.load.subF) W.few
    refine ⟨_, rfl, _, Or.inl ⟨_, SqL.of hN5, rfl⟩, ?_⟩
    have W5 := W.same s5
    cases newest with
    | nil => exact iteF ⟨_, rfl, q H' R found s5 hR hR5 (Mv.carry_end W.good.hf I)⟩
    | cons n0 nr =>
      refine iteT ?_
      refine ⟨fun σ' H' => ∃ m', m' < 2 * Mv.toFind as goers found + (if (n0 :: nr) = [] then 0 else 1) ∧ ∃ (found newest : List Addr) (N : Addr) (v4 : Option V), σ' = [some (.ref L), some (.ref G), some (.ref R), some (.ref N), v4, none] ∧ Same H H' ∧ H' R = some (.lst (found.map V.ref)) ∧ H' N = some (.lst (newest.map V.ref)) ∧ N ≠ R ∧ newest.length ≤ 100 ∧
      Mv.CarryInv as (Mv.hf f) goers found newest ∧ m' = 2 * Mv.toFind as goers found + (if newest = [] then 0 else 1), fun _ _ z => z, ?_⟩
      -- known = numbers_of(goers) + numbers_of(found)
      refine ⟨_, rfl, G, goers, f, rfl, s5 _ _ hG, by omega, fun a ha => W5.bxs a (sg a ha), fun r1 hr1 => ?_⟩
      have t1 : Same H' (upd H' r1 (.lst (numV f goers))) := Same.new hr1
      refine ⟨_, rfl, R, found, f, rfl, t1 _ _ hR5, by omega, fun a ha => (W5.bxs a (I.load.subF a ha)).same t1, fun r2 hr2 => ?_⟩
      have t2 := t1.trans (Same.new (o := .lst (numV f found)) hr2)
      refine ⟨r1, r2, numV f goers, numV f found, rfl, rfl, (by rw [upd_ne (ne_of_none upd_same hr2)]; exact upd_same), upd_same, (by rw [numV_len, numV_len]; exact Nat.le_of_lt (small1000 (by omega))), fun r3 hr3 => ?_⟩
      rw [numV_append]
      have t3 := t2.trans (Same.new (o := .lst (numV f (goers ++ found))) hr3)
      -- newest = [box for box in riders_on(boxes, newest) if box.number not in known]
      refine ⟨_, rfl, _, rfl, L, N, as, n0 :: nr, f, rfl, t3 _ _ W5.lst, t3 _ _ hN5, W.few, ln, W5.bxs.same t3, (fun a ha => ?_), fun H6 r6 s6 hr6 hl6 => ?_⟩
      · refine (W5.bxs a ?_).same t3
        rcases List.mem_append.mp (I.load.new a ha) with z | z
        · exact sg a z
        · exact I.load.subF a z
      have t6 := t3.trans s6
      have hk : ∀ a ∈ goers ++ found, a ∈ as := fun a ha => by
        rcases List.mem_append.mp ha with z | z
        · exact sg a z
        · exact I.load.subF a z
      have h3 : H6 r3 = some (.lst (numV f (goers ++ found))) := s6 _ _ upd_same
      refine ⟨r6, rfl, ⟨_, SqL.of hl6⟩, fun D hD => lc_gen (K := K) (fun a => !(goers ++ found).contains a) V.ref (SqL.of hl6) hD (Nat.le_trans (List.length_filter_le _ _) (by have := W.few; omega)) (fun _ => rfl) (fun a ha acc S r => ?_) (fun a ha _ acc S r => ⟨_, rfl, r⟩) ?_⟩
      · have haas : a ∈ as := (List.mem_filter.mp ha).1
        obtain ⟨d1, h1⟩ := ((W5.bxs a haas).same t6).new (o := .lst acc) hD
        refine ⟨_, rfl, a, C, d1, _, _, rfl, h1, T.cl, T.nNumber, lk_number _, _, rfl, r3, _, rfl, Or.inl (SqL.of ((Same.new hD) _ _ h3)), rfl, numV_flat _ _, _, rfl, ?_⟩
        have e := num_in W.good hk haas
        show S (!inV (.int ((f a).number : Int)) (numV f (goers ++ found))) _
        rw [e]
        exact r
      · -- found.extend(newest)
        have enx : (List.filter (fun a => !(goers ++ found).contains a) (Mv.ridersOn (Mv.hf f) as (n0 :: nr))) = Mv.nextOf as (Mv.hf f) goers found (n0 :: nr) := rfl
        rw [enx]
        have t7 := t6.trans (Same.new (o := .lst ((Mv.nextOf as (Mv.hf f) goers found (n0 :: nr)).map V.ref)) hD)
        have hR7 := t7 _ _ hR5
        have nDR : D ≠ R := fun z => by rw [z, t6 _ _ hR5] at hD; cases hD
        have lx : (Mv.nextOf as (Mv.hf f) goers found (n0 :: nr)).length ≤ 100 := Nat.le_trans (List.length_filter_le _ _) (Nat.le_trans (List.length_filter_le _ _) W.few)
        refine ⟨_, rfl, .inl ⟨rfl, _, SqL.of hR7⟩, _, rfl, R, D, _, _, rfl, rfl, hR7, upd_same, (by rw [List.length_map, List.length_map]; exact Nat.le_of_lt (small1000 (by omega))), ?_⟩
        refine ⟨_, ?_, found ++ Mv.nextOf as (Mv.hf f) goers found (n0 :: nr), Mv.nextOf as (Mv.hf f) goers found (n0 :: nr), D, some (.ref r3), rfl, ?_, ?_, ?_, nDR, lx, Mv.carry_next W.good.hf I, rfl⟩
        · rw [if_neg (List.cons_ne_nil _ _)]
          by_cases z : Mv.nextOf as (Mv.hf f) goers found (n0 :: nr) = []
          · rw [z, List.append_nil, if_pos rfl]
            omega
          · have := Mv.toFind_lt z
            rw [if_neg z]
            omega
        · intro b o e
          rw [upd_ne (ne_of_none e hR)]
          exact t7 _ _ (s5 _ _ e)
        · rw [upd_same, List.map_append]
        · rw [upd_ne nDR]
          exact upd_same
end
end Mb
set_option Elab.async false
set_option maxRecDepth 100000
set_option maxHeartbeats 2000000
namespace Mb
open PySem PySem.Spec PyProof.Rows L2
theorem cut_behind {xs ys : List Addr} : cutV ((xs ++ ys).map V.ref) (some (xs.length : Int)) none = ys.map V.ref := by
  unfold cutV
  rw [HT.sIx_nat, HT.sIx_none, List.length_map, List.length_append, Nat.min_eq_left (Nat.le_add_right _ _), List.map_append, List.drop_left' (List.length_map _)]
  refine List.take_of_length_le ?_
  rw [List.length_map]
  omega
section
variable {P : Program} {w : World} {K : PySem.W.Frag} {mg : Str → Option Value} {base : Heap} {C : Addr}
theorem sc_pushed_by : FnScope ["boxes", "asked", "over", "under", "going", "done", "known", "box"] ["boxes", "asked", "over", "under"] (defScope s_pushed_by) := ⟨rfl, rfl, rfl, by decide +kernel, rfl, by decide +kernel, by decide +kernel⟩
theorem ok_pushed_by {fa : Addr} {fd : FuncData} (F : Fun K "pushed_by" "pushed_by" s_pushed_by fa fd) (T : Txt K mg C) (B : Len mg) (DN : Df P w K mg base "numbers_of" 1 ["boxes"] (spNumbers C)) (DW : Df P w K mg base "in_way" 3 ["boxes", "box", "over", "under"] (spInWay C)) :
    FnOk P w K mg base CX0 4 fa fd ["boxes", "asked", "over", "under"] (spPushed C) := by
  refine F.ok sc_pushed_by (fun vs H Q E h => ?_) (fun cdv A outer s H vs Q E hr h => ?_)
  · obtain ⟨_, _, _, _, _, _, _, rfl, _⟩ := h
    rfl
  · obtain ⟨L, G, as, asked, f, dx, dy, rfl, W, hG, nd, sa, q⟩ := h
    have hr1 : Room 1 _ := hr.mono (by decide)
    refine ⟨_, pss_cons (ps_set (i := 4) sc_pushed_by.nd rfl (Or.inl rfl) (pe_callTy call_list_of (by rfl) B.list (by decide +kernel) (pa_cons (pv 1) pa_nil)))
      (pss_cons (ps_set (i := 5) sc_pushed_by.nd rfl (Or.inl rfl) pe_int)
      (pss_cons (ps_while PassesOwn.never (pt_cmpR op_lt (pv 5) (pe_callB call_len_seq (by rfl) B.len PySem.boot_len (pa_cons (pv 4) pa_nil)) (nomark _))
        (pss_cons (ps_set (i := 6) sc_pushed_by.nd rfl (Or.inr rfl) (pe_df DN hr1 (pa_cons (pv 4) pa_nil)))
        (pss_cons (ps_expr (pe_bm PySem.F.plainAttrs_list PySem.F.slot_list_extend PySem.F.type_list_extend mt_extend (pv 4) (pa_cons
          (pe_lc (own := [("box", 7)]) (g := gName 7) (tt := tTest (tOp (rIn K true) (tFld K (tVar 7) "number") (tVar 6))) (te := tVar 7) rfl sc_pushed_by.nd
            (pi_list (pe_df DW hr (pa_cons (pv 0) (pa_cons (pe_ix ix_list (pv 4) (pv 5) (fun _ _ => rfl)) (pa_cons (pv 2) (pa_cons (pv 3) pa_nil))))))
            (blkOk_by (N := ["boxes", "asked", "over", "under", "going", "done", "known", "box"]) (sc := defScope s_pushed_by) (by decide +kernel))
            (by intro _ _ _ _ _; exact pg_name (i := 7) sc_pushed_by.nd rfl (Or.inl rfl))
            (by intro _ _ _ _ _; exact pts_one (pt_cmpR op_notIn_seq (pe_fld (pv 7) rfl) (pv 6) (by rfl)))
            (by intro _ _ _ _ _; exact pv 7)) pa_nil)))
        (pss_one (ps_aug (i := 5) sc_pushed_by.nd rfl (.inl rfl) pe_int ip_add)))))
      (pss_one (ps_ret (pe_slice sl_list (pv 4) (po_some (pe_callB call_len_seq (by rfl) B.len PySem.boot_len (pa_cons (pv 1) pa_nil))) po_none))))), ?_⟩
    refine ⟨_, rfl, G, _, rfl, Or.inl (SqL.of hG), fun R hR => ?_⟩
    have s0 : Same H (upd H R (.lst (asked.map V.ref))) := Same.new hR
    refine ⟨fun m σ H' => ∃ (p : List Addr) (done : Nat) (v6 : Option V), σ = [some (.ref L), some (.ref G), some (.int dx), some (.int dy), some (.ref R), some (.int done), v6, none] ∧ Same H H' ∧ H' R = some (.lst ((asked ++ p).map V.ref)) ∧
      Mv.PushInv as f dx dy asked p done ∧ m = as.length - done, ⟨_, [], 0, none, rfl, s0, by rw [List.append_nil]; exact upd_same, Mv.push_start nd, rfl⟩, ?_⟩
    rintro m σ H' ⟨p, done, v6, rfl, s5, hR5, I, rfl⟩
    have W5 := W.same s5
    have le := Mv.push_len sa I
    have few := W.few
    refine ⟨_, rfl, _, rfl, R, _, rfl, Or.inl (SqL.of hR5), _, _, rfl, rfl, _, rfl, ?_⟩
    rw [List.length_map]
    refine ite2 (fun c => ?_) (fun c => ?_)
    · have lt : done < (asked ++ p).length := by
        have c := of_decide_eq_true c
        omega
      obtain ⟨a, ea⟩ : ∃ a, (asked ++ p)[done]? = some a := ⟨_, List.getElem?_eq_getElem lt⟩
      have am : a ∈ asked ++ p := List.mem_of_getElem? ea
      have hk : ∀ a ∈ asked ++ p, a ∈ as := fun a ha => by
        rcases List.mem_append.mp ha with z | z
        · exact sa a z
        · exact I.sub a z
      refine ⟨fun σ' H' => ∃ m', m' < as.length - done ∧ ∃ (p : List Addr) (done : Nat) (v6 : Option V), σ' = [some (.ref L), some (.ref G), some (.int dx), some (.int dy), some (.ref R), some (.int done), v6, none] ∧ Same H H' ∧ H' R = some (.lst ((asked ++ p).map V.ref)) ∧
        Mv.PushInv as f dx dy asked p done ∧ m' = as.length - done, fun _ _ z => z, ?_⟩
      -- known = numbers_of(going)
      refine ⟨_, rfl, R, asked ++ p, f, rfl, hR5, by omega, fun a ha => W5.bxs a (hk a ha), fun r1 hr1 => ?_⟩
      have t1 : Same H' (upd H' r1 (.lst (numV f (asked ++ p)))) := Same.new hr1
      -- going.extend(..)
      refine ⟨_, rfl, .inl ⟨rfl, _, SqL.of (t1 _ _ hR5)⟩, _, rfl, _, rfl, _, rfl, R, _, _, _, rfl, rfl, SqL.of (t1 _ _ hR5), atI_nat (j := done) (v := V.ref a) (by rw [List.getElem?_map, ea]; rfl), _, rfl, _, rfl,
        L, a, as, f, f a, dx, dy, rfl, t1 _ _ W5.lst, by omega, W5.bxs.same t1, (W5.bxs a (hk a am)).same t1, fun H6 r6 s6 hr6 hl6 => ?_⟩
      have t6 := t1.trans s6
      have h3 : H6 r1 = some (.lst (numV f (asked ++ p))) := s6 _ _ upd_same
      refine ⟨r6, rfl, ⟨_, SqL.of hl6⟩, fun D hD => lc_gen (K := K) (fun a => !(asked ++ p).contains a) V.ref (SqL.of hl6) hD (Nat.le_trans (List.length_filter_le _ _) (by omega)) (fun _ => rfl) (fun a ha acc S r => ?_) (fun a ha _ acc S r => ⟨_, rfl, r⟩) ?_⟩
      · have haas : a ∈ as := (List.mem_filter.mp ha).1
        obtain ⟨d1, h1⟩ := ((W5.bxs a haas).same t6).new (o := .lst acc) hD
        refine ⟨_, rfl, a, C, d1, _, _, rfl, h1, T.cl, T.nNumber, lk_number _, _, rfl, r1, _, rfl, Or.inl (SqL.of ((Same.new hD) _ _ h3)), rfl, numV_flat _ _, _, rfl, ?_⟩
        have e := num_in W.good hk haas
        show S (!inV (.int ((f a).number : Int)) (numV f (asked ++ p))) _
        rw [e]
        exact r
      · have enx : (List.filter (fun a => !(asked ++ p).contains a) (Mv.inWay f as (f a) dx dy)) = Mv.newIn as f dx dy (asked ++ p) a := rfl
        rw [enx]
        have t7 := t6.trans (Same.new (o := .lst ((Mv.newIn as f dx dy (asked ++ p) a).map V.ref)) hD)
        have hR7 := t7 _ _ hR5
        have lx : (Mv.newIn as f dx dy (asked ++ p) a).length ≤ 100 := Nat.le_trans (List.length_filter_le _ _) (Nat.le_trans (List.length_filter_le _ _) W.few)
        refine ⟨R, D, _, _, rfl, rfl, hR7, upd_same, (by rw [List.length_map, List.length_map]; exact Nat.le_of_lt (small1000 (by omega))), ?_⟩
        refine ⟨_, rfl, _, _, rfl, rfl, _, ?_, p ++ Mv.newIn as f dx dy (asked ++ p) a, done + 1, some (.ref r1), rfl, ?_, ?_, Mv.push_next W.good sa I ea, rfl⟩
        · omega
        · intro b o e
          rw [upd_ne (ne_of_none e hR)]
          exact t7 _ _ (s5 _ _ e)
        · rw [upd_same, ← List.map_append, List.append_assoc]
    · have nlt : ¬ done < (asked ++ p).length := fun z => c (decide_eq_true (by omega))
      refine ⟨_, rfl, _, rfl, G, _, rfl, Or.inl (SqL.of (s5 _ _ hG)), _, rfl, R, _, rfl, SqL.of hR5, fun r hr => ?_⟩
      rw [List.length_map, cut_behind]
      exact q _ r p (s5.trans (Same.new hr)) (s5.free hr) upd_same (Mv.push_end I nlt)
end
end Mb
set_option Elab.async false
set_option maxRecDepth 100000
set_option maxHeartbeats 2000000
namespace Mb
open PySem PySem.Spec PyProof.Rows L2
/-- all but what stands at these places is as it was -/
def Keep (as : List Addr) (H H' : Hp) : Prop := ∀ b o, H b = some o → b ∉ as → H' b = some o
theorem Keep.refl (as : List Addr) (H : Hp) : Keep as H H := fun _ _ h _ => h
theorem Keep.trans {as : List Addr} {H H1 H2 : Hp} (a : Keep as H H1) (b : Keep as H1 H2) : Keep as H H2 := fun c o h n => b c o (a c o h n) n
theorem Keep.of {as : List Addr} {H H1 : Hp} (s : Same H H1) : Keep as H H1 := fun c o h _ => s c o h
theorem Keep.free {as : List Addr} {H H1 : Hp} (k : Keep as H H1) {l : Addr} (h : H1 l = none) (n : l ∉ as) : H l = none := by
  cases q : H l with
  | none => rfl
  | some o => rw [k l o q n] at h; cases h
/-- the parts that a step doesn't change -/
structure Like (f f' : Addr → Ge04.Box) : Prop where
  number : ∀ a, (f' a).number = (f a).number
  w : ∀ a, (f' a).w = (f a).w
  h : ∀ a, (f' a).h = (f a).h
  rest : ∀ a, f' a = { f a with x := (f' a).x, y := (f' a).y }
theorem Like.refl (f : Addr → Ge04.Box) : Like f f := ⟨fun _ => rfl, fun _ => rfl, fun _ => rfl, fun _ => rfl⟩
theorem Like.trans {f g h : Addr → Ge04.Box} (a : Like f g) (b : Like g h) : Like f h := ⟨fun x => (b.number x).trans (a.number x), fun x => (b.w x).trans (a.w x), fun x => (b.h x).trans (a.h x), fun x => by
  have e1 := a.rest x
  have e2 := b.rest x
  rw [e1] at e2
  exact e2⟩
theorem Like.sh (f : Addr → Ge04.Box) (S : List Addr) (dx dy : Int) : Like f (Mv.sh f S dx dy) := ⟨Mv.sh_number, Mv.sh_w, Mv.sh_h, fun a => by unfold Mv.sh; split <;> rfl⟩
theorem Like.ride (as : List Addr) (dx dy : Int) (f : Addr → Ge04.Box) (r : Addr) : Like f (Mv.ride as dx dy f r) := by
  unfold Mv.ride
  split
  · exact Like.sh ..
  · exact Like.refl _
theorem Wld.notIn {C : Addr} {H : Hp} {L : Addr} {as : List Addr} {f : Addr → Ge04.Box} (W : Wld C H L as f) {p : Addr} {xs : List V} (h : H p = some (.lst xs)) : p ∉ as := fun hp => by
  obtain ⟨d, e⟩ := W.bxs p hp
  rw [h] at e
  cases e
theorem Wld.shift {C : Addr} {H : Hp} {L a d : Addr} {as : List Addr} {f : Addr → Ge04.Box} {dx dy : Int} (W : Wld C H L as f) (ha : a ∈ as) (h : H a = some (.ins C d (bF (f a)))) :
    Wld C (upd H a (.ins C d (bF (Ge04.at_ (f a) dx dy)))) L as (Mv.sh f [a] dx dy) where
  lst := by rw [upd_ne (ne_of W.lst h (by intro z; cases z))]; exact W.lst
  bxs := fun b hb => by
    by_cases e : b = a
    · subst e
      exact ⟨d, by rw [upd_same, Mv.sh_in List.mem_cons_self]⟩
    · obtain ⟨d', e'⟩ := W.bxs b hb
      exact ⟨d', by rw [upd_ne e, Mv.sh_out fun z => e (List.mem_singleton.mp z)]; exact e'⟩
  good := W.good.sh
  few := W.few
theorem Keep.shift {H : Hp} {a : Addr} {as : List Addr} {o : HO} (ha : a ∈ as) : Keep as H (upd H a o) := fun b u h n => by
  rw [upd_ne (fun z : b = a => n (by rw [z]; exact ha))]
  exact h
theorem sh_more {f : Addr → Ge04.Box} {S : List Addr} {a : Addr} {dx dy : Int} (h : a ∉ S) : Mv.sh (Mv.sh f S dx dy) [a] dx dy = Mv.sh f (S ++ [a]) dx dy := by
  funext x
  by_cases e : x = a
  · subst e
    rw [Mv.sh_in List.mem_cons_self, Mv.sh_in (List.mem_append_right _ List.mem_cons_self), Mv.sh_out h]
  · rw [Mv.sh_out fun z => e (List.mem_singleton.mp z)]
    by_cases m : x ∈ S
    · rw [Mv.sh_in m, Mv.sh_in (List.mem_append_left _ m)]
    · rw [Mv.sh_out m, Mv.sh_out fun z => ?_]
      rcases List.mem_append.mp z with z | z
      · exact m z
      · exact e (List.mem_singleton.mp z)
theorem sh_nil (f : Addr → Ge04.Box) (dx dy : Int) : Mv.sh f [] dx dy = f := by
  funext x
  exact Mv.sh_out fun z => nomatch z
abbrev s_step : Stmt := top 18
def spStep (C : Addr) : Sp := fun vs H Q _ => ∃ (L m : Addr) (as : List Addr) (f : Addr → Ge04.Box) (dx dy : Int), vs = [.ref L, .ref m, .int dx, .int dy] ∧ Wld C H L as f ∧ m ∈ as ∧
  (∀ H', Same H H' → Ge04.stepOne (Mv.wd as f) (f m).number dx dy = none → Q (.bl false) H') ∧
  (∀ H' f', Keep as H H' → Like f f' → Wld C H' L as f' → Ge04.stepOne (Mv.wd as f) (f m).number dx dy = some (Mv.wd as f') → Q (.bl true) H')
section
variable {P : Program} {w : World} {K : PySem.W.Frag} {mg : Str → Option Value} {base : Heap} {C : Addr}
theorem sc_step : FnScope ["boxes", "mover", "over", "under", "upward", "asked", "pushed", "going", "riders", "box", "rider"] ["boxes", "mover", "over", "under"] (defScope s_step) := ⟨rfl, rfl, rfl, by decide +kernel, rfl, by decide +kernel, by decide +kernel⟩
theorem any_zero (f : Addr → Ge04.Box) (p : List Addr) : ((p.map fun a => !(f a).pushed).any id) = true ↔ ∃ a ∈ p, (f a).pushed = false := by
  rw [List.any_eq_true]
  constructor
  · rintro ⟨b, hb, e⟩
    obtain ⟨a, ha, rfl⟩ := List.mem_map.mp hb
    refine ⟨a, ha, ?_⟩
    simpa using e
  · rintro ⟨a, ha, e⟩
    exact ⟨_, List.mem_map.mpr ⟨a, ha, rfl⟩, by simp [e]⟩
theorem ok_step {fa : Addr} {fd : FuncData} (F : Fun K "step" "step" s_step fa fd) (T : Txt K mg C) (B : Len mg) (DC : Df P w K mg base "carried_by" 4 ["boxes", "goers"] (spCarried C)) (DP : Df P w K mg base "pushed_by" 4 ["boxes", "asked", "over", "under"] (spPushed C))
    (DS : Df P w K mg base "shift" 1 ["box", "over", "under"] (spShift C)) (DW : Df P w K mg base "in_way" 3 ["boxes", "box", "over", "under"] (spInWay C)) : FnOk P w K mg base CX0 5 fa fd ["boxes", "mover", "over", "under"] (spStep C) := by
  refine F.ok sc_step (fun vs H Q E h => ?_) (fun cdv A outer s H vs Q E hr h => ?_)
  · obtain ⟨_, _, _, _, _, _, rfl, _⟩ := h
    rfl
  · obtain ⟨L, m, as, f, dx, dy, rfl, W, hm, qN, qS⟩ := h
    have hr1 : Room 1 _ := hr.mono (by decide)
    have hr3 : Room 3 _ := hr.mono (by decide)
    have few := W.few
    refine ⟨_, pss_cons (ps_set (i := 4) sc_step.nd rfl (Or.inl rfl) (pe_cmpR op_lt (pv 3) pe_int (nomark _)))
      (pss_cons (ps_set (i := 5) sc_step.nd rfl (Or.inl rfl) (pe_lst (pa_cons (pv 1) pa_nil)))
      (C8.pss_cut (ps_if (pt_val (pv 4)) (pss_one (ps_set (i := 5) sc_step.nd rfl (Or.inl rfl) (pe_op op_cat (pe_lst (pa_cons (pv 1) pa_nil)) (pe_df DC hr (pa_cons (pv 0) (pa_cons (pe_lst (pa_cons (pv 1) pa_nil)) pa_nil)))))) pss_nil)
      (pss_cons (ps_set (i := 6) sc_step.nd rfl (Or.inl rfl) (pe_df DP hr (pa_cons (pv 0) (pa_cons (pv 5) (pa_cons (pv 2) (pa_cons (pv 3) pa_nil))))))
      (pss_cons (ps_if (pt_val (pe_callB (cr_any rfl) (by rfl) B.any (by decide +kernel) (pa_cons
          (pe_lc (own := [("box", 9)]) (g := gName 9) (tt := tYes) (te := tOp rEq (tFld K (tVar 9) "pushed") (tC (.int 0))) rfl sc_step.nd (pi_list (pv 6))
            (blkOk_by (N := ["boxes", "mover", "over", "under", "upward", "asked", "pushed", "going", "riders", "box", "rider"]) (sc := defScope s_step) (by decide +kernel))
            (by intro _ _ _ _ _; exact pg_name (i := 9) sc_step.nd rfl (Or.inl rfl)) (fun _ _ _ _ _ => pts_nil) (by intro _ _ _ _ _; exact pe_cmpR op_eq (pe_fld (pv 9) rfl) pe_int (nomark _))) pa_nil))) (pss_one (ps_ret pe_bl)) pss_nil)
      (pss_cons (ps_set (i := 7) sc_step.nd rfl (Or.inl rfl) (pe_op op_cat (pv 5) (pv 6)))
      (C8.pss_cut (ps_set (i := 8) sc_step.nd rfl (Or.inl rfl) (pe_ifExp (pt_val (pv 4)) (pe_lst pa_nil) (pe_df DC hr (pa_cons (pv 0) (pa_cons (pv 7) pa_nil)))))
      (pss_cons (ps_for PassesOwn.never rfl (pi_list (pv 7)) (pg_name (i := 9) sc_step.nd rfl (Or.inl rfl)) (pss_one (ps_expr (pe_df DS hr1 (pa_cons (pv 9) (pa_cons (pv 2) (pa_cons (pv 3) pa_nil)))))))
      (pss_cons (ps_for PassesOwn.never rfl (pi_list (pv 8)) (pg_name (i := 10) sc_step.nd rfl (Or.inl rfl))
        (pss_one (ps_if (pt_not (pt_truth (pe_df DW hr3 (pa_cons (pv 0) (pa_cons (pv 10) (pa_cons (pv 2) (pa_cons (pv 3) pa_nil))))) (by intro _; rfl))) (pss_one (ps_expr (pe_df DS hr1 (pa_cons (pv 10) (pa_cons (pv 2) (pa_cons (pv 3) pa_nil)))))) pss_nil)))
      (pss_one (ps_ret pe_bl)))))))))), ?_⟩
    -- upward = under < 0; asked = [mover]
    refine ⟨_, rfl, _, _, rfl, rfl, _, rfl, (by show 1 ≤ sizeLine; decide), fun A1 hA1 => ?_⟩
    have s1 : Same H (upd H A1 (.lst [.ref m])) := Same.new hA1
    refine ⟨fun σ' H1 => ∃ (G : Addr) (asked : List Addr), σ' = [some (.ref L), some (.ref m), some (.int dx), some (.int dy), some (.bl (decide (dy < 0))), some (.ref G), none, none, none, none, none] ∧ Same H H1 ∧ H1 G = some (.lst (asked.map V.ref)) ∧ asked.Nodup ∧ Mv.AskS as f m dy asked, ?_, ?_⟩
    · refine ⟨_, rfl, _, rfl, ?_⟩
      refine ite2 (fun c => ?_) (fun c => ?_)
      · have up : dy < 0 := of_decide_eq_true c
        refine ⟨_, rfl, (by show 1 ≤ sizeLine; decide), fun A2 hA2 => ?_⟩
        have s2 := s1.trans (Same.new (o := .lst [.ref m]) hA2)
        refine ⟨_, rfl, _, rfl, (by show 1 ≤ sizeLine; decide), fun A3 hA3 => ?_⟩
        have s3 := s2.trans (Same.new (o := .lst [.ref m]) hA3)
        refine ⟨L, A3, as, [m], f, rfl, W.same s3, upd_same, (by show 1 ≤ 100; decide), (fun a ha => by rw [List.mem_singleton.mp ha]; exact hm), fun H4 r4 found s4 hr4 hl4 CA => ?_⟩
        have hA2' : H4 A2 = some (.lst [.ref m]) := s4 _ _ (by rw [upd_ne (ne_of_none upd_same hA3)]; exact upd_same)
        have lf : found.length ≤ 100 := Nat.le_trans (Mv.nodup_len CA.nd CA.sub) few
        refine ⟨A2, r4, _, _, rfl, rfl, hA2', hl4, (by rw [List.length_map]; exact Nat.le_of_lt (small1000 (by show 1 + found.length ≤ 1000; omega))), fun G hG => ?_⟩
        refine ⟨G, m :: found, rfl, (s3.trans s4).trans (Same.new hG), upd_same, ?_, Mv.askS_up W.good hm up CA⟩
        rw [List.nodup_cons]
        exact ⟨fun z => CA.dis m z List.mem_cons_self, CA.nd⟩
      · have up : ¬ dy < 0 := fun z => c (decide_eq_true z)
        refine ⟨A1, [m], rfl, s1, upd_same, ?_, Mv.askS_one hm up⟩
        simp
    · rintro σ' H1 ⟨G, asked, rfl, t1, hG, nd, AS⟩
      have W1 := W.same t1
      have la : asked.length ≤ 100 := Nat.le_trans (Mv.nodup_len nd AS.sub) few
      -- pushed = pushed_by(boxes, asked, over, under)
      refine ⟨_, rfl, _, rfl, _, rfl, _, rfl, L, G, as, asked, f, dx, dy, rfl, W1, hG, nd, AS.sub, fun H2 R p s2 hR hR2 PU => ?_⟩
      have W2 := W1.same s2
      have t2 := t1.trans s2
      have lp : p.length ≤ 100 := Nat.le_trans (Mv.nodup_len (List.nodup_append.mp PU.nd).2.1 PU.sub) few
      -- any([box.pushed == 0 for box in pushed])
      refine ⟨_, rfl, R, rfl, ⟨_, SqL.of hR2⟩, fun D hD => lc_gen (K := K) (fun _ => true) (fun a => V.bl (!(f a).pushed)) (SqL.of hR2) hD (by omega) (fun _ => rfl) (fun a _ acc S r => r) (fun a ha _ acc S r => ?_) ?_⟩
      · obtain ⟨d1, h1⟩ := (W2.bxs a (PU.sub a ha)).new (o := .lst acc) hD
        refine ⟨_, rfl, a, C, d1, _, _, rfl, h1, T.cl, T.nPushed, lk_pushed _, rfl, ?_⟩
        rw [bi_eq0]
        exact r
      · rw [filter_yes]
        have hD2 : (upd H2 D (.lst (p.map fun a => V.bl (!(f a).pushed)))) D = some (.lst ((p.map fun a => !(f a).pushed).map V.bl)) := by rw [upd_same, List.map_map]; rfl
        have t3 := t2.trans (Same.new (o := .lst (p.map fun a => V.bl (!(f a).pushed))) hD)
        have s3 : Same H2 (upd H2 D (.lst (p.map fun a => V.bl (!(f a).pushed)))) := Same.new hD
        have W3 := W.same t3
        refine ⟨D, _, rfl, SqL.of hD2, _, rfl, ?_⟩
        refine ite2 (fun c => ?_) (fun c => ?_)
        · obtain ⟨b, hb, hp⟩ := (any_zero f p).mp c
          exact qN _ t3 (Mv.allS_held W.good hm AS PU hb hp)
        · have hp : ∀ b ∈ p, (f b).pushed = true := fun b hb => by
            cases z : (f b).pushed with
            | true => rfl
            | false => exact absurd ((any_zero f p).mpr ⟨b, hb, z⟩) c
          -- going = asked + pushed
          refine ⟨_, rfl, _, rfl, G, R, _, _, rfl, rfl, s3 _ _ (s2 _ _ hG), s3 _ _ hR2, (by rw [List.length_map, List.length_map]; exact Nat.le_of_lt (small1000 (by omega))), fun GG hGG => ?_⟩
          rw [← List.map_append]
          have t4 := t3.trans (Same.new (o := .lst ((asked ++ p).map V.ref)) hGG)
          have W4 := W.same t4
          have sgo : ∀ a ∈ asked ++ p, a ∈ as := fun a ha => by
            rcases List.mem_append.mp ha with z | z
            · exact AS.sub a z
            · exact PU.sub a z
          have lgo : (asked ++ p).length ≤ 100 := Nat.le_trans (Mv.nodup_len PU.nd sgo) few
          -- riders
          refine ⟨fun σ' H' => ∃ (RR : Addr) (riders : List Addr), σ' = [some (.ref L), some (.ref m), some (.int dx), some (.int dy), some (.bl (decide (dy < 0))), some (.ref G), some (.ref R), some (.ref GG), some (.ref RR), none, none] ∧ Same H H' ∧ H' GG = some (.lst ((asked ++ p).map V.ref)) ∧
            H' RR = some (.lst (riders.map V.ref)) ∧ (∀ a ∈ riders, a ∈ as) ∧ Ge04.stepOne (Mv.wd as f) (f m).number dx dy = some (Mv.wd as (riders.foldl (Mv.ride as dx dy) (Mv.sh f (asked ++ p) dx dy))), ?_, ?_⟩
          · refine ⟨_, rfl, _, rfl, ?_⟩
            refine ite2 (fun c => ?_) (fun c => ?_)
            · have up : dy < 0 := of_decide_eq_true c
              refine ⟨Nat.zero_le _, fun RR hRR => ⟨RR, [], rfl, t4.trans (Same.new hRR), ?_, upd_same, (fun _ z => nomatch z), Mv.allS_up W.good hm AS PU hp up⟩⟩
              rw [upd_ne (ne_of_none upd_same hRR)]
              exact upd_same
            · have up : ¬ dy < 0 := fun z => c (decide_eq_true z)
              refine ⟨_, rfl, _, rfl, L, GG, as, asked ++ p, f, rfl, W4, upd_same, lgo, sgo, fun H5 RR riders s5 hRR hl5 CA => ?_⟩
              exact ⟨RR, riders, rfl, t4.trans s5, s5 _ _ upd_same, hl5, CA.sub, Mv.allS_side W.good hm AS PU hp up CA⟩
          · rintro σ' H5 ⟨RR, riders, rfl, t5, hGG5, hRR5, sri, est⟩
            have W5 := W.same t5
            have nGG := W5.notIn hGG5
            have nRR := W5.notIn hRR5
            -- for box in going: shift(box, over, under)
            refine ⟨_, rfl, GG, rfl, ⟨_, SqL.of hGG5⟩, for_list (K := K) (a := GG) (xs := (asked ++ p).map V.ref) (fun i σ H' => ∃ v9 : Option V, σ = [some (.ref L), some (.ref m), some (.int dx), some (.int dy), some (.bl (decide (dy < 0))), some (.ref G), some (.ref R), some (.ref GG), some (.ref RR), v9, none] ∧
              Keep as H5 H' ∧ Wld C H' L as (Mv.sh f ((asked ++ p).take i) dx dy)) ⟨none, rfl, Keep.refl _ _, by rw [List.take_zero, sh_nil]; exact W5⟩ (fun i σ H' _ ⟨_, _, k, _⟩ => SqL.of (k _ _ hGG5 nGG)) ?_ ?_⟩
            · rintro i x σ H' hx ⟨v9, rfl, k, W6⟩
              obtain ⟨a, ha, rfl, ham⟩ := get_ref hx
              obtain ⟨d1, h1⟩ := W6.bxs a (sgo a ham)
              have na : a ∉ (asked ++ p).take i := fun z => by
                obtain ⟨j, hj, e⟩ := List.mem_iff_getElem.mp z
                have e1 : (asked ++ p)[j]? = some a := by
                  rw [← e, List.getElem_take, List.getElem?_eq_getElem]
                have := nd_ix PU.nd e1 ha
                rw [List.length_take] at hj
                omega
              refine ⟨_, rfl, _, rfl, _, rfl, a, d1, _, dx, dy, rfl, h1, some (.ref a), rfl, k.trans (Keep.shift (sgo a ham)), ?_⟩
              have := W6.shift (dx := dx) (dy := dy) (sgo a ham) h1
              rw [sh_more na] at this
              rw [take_more ha]
              exact this
            · rintro σ H6 ⟨v9, rfl, k6, W6⟩
              rw [List.length_map, List.take_length] at W6
              have hRR6 := k6 _ _ hRR5 nRR
              -- for rider in riders
              refine ⟨_, rfl, RR, rfl, ⟨_, SqL.of hRR6⟩, for_list (K := K) (a := RR) (xs := riders.map V.ref) (fun i σ H' => ∃ v10 : Option V, σ = [some (.ref L), some (.ref m), some (.int dx), some (.int dy), some (.bl (decide (dy < 0))), some (.ref G), some (.ref R), some (.ref GG), some (.ref RR), v9, v10] ∧
                Keep as H6 H' ∧ Like f ((riders.take i).foldl (Mv.ride as dx dy) (Mv.sh f (asked ++ p) dx dy)) ∧ Wld C H' L as ((riders.take i).foldl (Mv.ride as dx dy) (Mv.sh f (asked ++ p) dx dy))) ⟨none, rfl, Keep.refl _ _, Like.sh .., W6⟩ (fun i σ H' _ ⟨_, _, k, _⟩ => SqL.of (k _ _ hRR6 nRR)) ?_ ?_⟩
              · rintro i x σ H' hx ⟨v10, rfl, k, lk, W7⟩
                obtain ⟨a, ha, rfl, ham⟩ := get_ref hx
                obtain ⟨d1, h1⟩ := W7.bxs a (sri a ham)
                rw [take_more ha, List.foldl_append]
                generalize ((riders.take i).foldl (Mv.ride as dx dy) (Mv.sh f (asked ++ p) dx dy)) = g at lk W7 h1 ⊢
                refine ⟨_, rfl, _, rfl, _, rfl, _, rfl, L, a, as, g, g a, dx, dy, rfl, W7.lst, by omega, W7.bxs, ⟨d1, h1⟩, fun H8 r8 s8 hr8 hl8 => ⟨_, Or.inl ⟨_, SqL.of hl8, rfl⟩, ?_⟩⟩
                have W8 := W7.same s8
                rw [List.isEmpty_map]
                cases ew : Mv.inWay g as (g a) dx dy with
                | nil =>
                  refine iteT ?_
                  refine ⟨_, rfl, _, rfl, _, rfl, a, d1, _, dx, dy, rfl, s8 _ _ h1, some (.ref a), rfl, (k.trans (Keep.of s8)).trans (Keep.shift (sri a ham)), ?_, ?_⟩
                  · exact lk.trans (Like.ride ..)
                  · show Wld C _ L as (Mv.ride as dx dy g a)
                    unfold Mv.ride
                    rw [if_pos ew]
                    exact W8.shift (sri a ham) (s8 _ _ h1)
                | cons y t =>
                  refine iteF ?_
                  refine ⟨some (.ref a), rfl, k.trans (Keep.of s8), lk.trans (Like.ride ..), ?_⟩
                  show Wld C _ L as (Mv.ride as dx dy g a)
                  unfold Mv.ride
                  rw [if_neg (by rw [ew]; exact List.cons_ne_nil _ _)]
                  exact W8
              · rintro σ H7 ⟨v10, rfl, k7, lk7, W7⟩
                rw [List.length_map, List.take_length] at W7 lk7
                exact qS H7 _ ((Keep.of t5).trans (k6.trans k7)) lk7 W7 est
end
end Mb
set_option Elab.async false
set_option maxRecDepth 100000
set_option maxHeartbeats 2000000
namespace Mb
open PySem PySem.Spec PyProof.Rows L2
abbrev s_steps_toward : Stmt := top 19
abbrev s_way_of : Stmt := top 20
abbrev s_move_box : Stmt := top 21
def spToward (C : Addr) : Sp := fun vs H Q _ => ∃ (L m : Addr) (as : List Addr) (f : Addr → Ge04.Box) (dx dy : Int) (k : Nat), vs = [.ref L, .ref m, .int dx, .int dy, .int (k : Int)] ∧ Wld C H L as f ∧ m ∈ as ∧
  (∀ H' f' (c : Nat), Keep as H H' → Like f f' → Wld C H' L as f' → Ge04.steps (f m).number dx dy k (Mv.wd as f) = (Mv.wd as f', c) → Q (.int (c : Int)) H')
def wayOf (z : Int) : Int := if z < 0 then -1 else 1
def spWay : Sp := fun vs H Q _ => ∃ z : Int, vs = [.int z] ∧ Q (.int (wayOf z)) H
def spMove (C : Addr) : Sp := fun vs H Q _ => ∃ (L m : Addr) (as : List Addr) (f : Addr → Ge04.Box) (dx dy : Int), vs = [.ref L, .ref m, .int dx, .int dy] ∧ Wld C H L as f ∧ m ∈ as ∧
  (∀ H' f' r (c d : Nat), Keep as H H' → Like f f' → Wld C H' L as f' → H r = none → H' r = some (.lst [.int (c : Int), .int (d : Int)]) → Ge04.move (Mv.wd as f) (f m).number dx dy = (Mv.wd as f', c, d) → Q (.ref r) H')
section
variable {P : Program} {w : World} {K : PySem.W.Frag} {mg : Str → Option Value} {base : Heap} {C : Addr}
theorem sc_steps_toward : FnScope ["boxes", "mover", "over", "under", "most", "count"] ["boxes", "mover", "over", "under", "most"] (defScope s_steps_toward) := ⟨rfl, rfl, rfl, by decide +kernel, rfl, by decide +kernel, by decide +kernel⟩
theorem ok_steps_toward {fa : Addr} {fd : FuncData} {lv : Nat} (F : Fun K "steps_toward" "steps_toward" s_steps_toward fa fd) (DS : Df P w K mg base "step" lv ["boxes", "mover", "over", "under"] (spStep C)) :
    FnOk P w K mg base CX0 (lv + 1) fa fd ["boxes", "mover", "over", "under", "most"] (spToward C) := by
  refine F.ok sc_steps_toward (fun vs H Q E h => ?_) (fun cdv A outer s H vs Q E hr h => ?_)
  · obtain ⟨_, _, _, _, _, _, _, rfl, _⟩ := h
    rfl
  · obtain ⟨L, m, as, f, dx, dy, k, rfl, W, hm, q⟩ := h
    refine ⟨_, pss_cons (ps_set (i := 5) sc_steps_toward.nd rfl (Or.inl rfl) pe_int)
      (pss_cons (ps_while PassesOwn.never (PW.pt (pw_and (pt_cmpR op_lt (pv 5) (pv 4) (nomark _)) (pw_and1 (pt_val (pe_df DS hr (pa_cons (pv 0) (pa_cons (pv 1) (pa_cons (pv 2) (pa_cons (pv 3) pa_nil)))))))))
        (pss_one (ps_aug (i := 5) sc_steps_toward.nd rfl (.inl rfl) pe_int ip_add)))
      (pss_one (ps_ret (pv 5)))), ?_⟩
    refine ⟨fun j σ H' => ∃ (c : Nat) (f' : Addr → Ge04.Box), σ = [some (.ref L), some (.ref m), some (.int dx), some (.int dy), some (.int (k : Int)), some (.int (c : Int))] ∧ Keep as H H' ∧ Like f f' ∧ Wld C H' L as f' ∧ Mv.StepsInv (f m).number dx dy k (Mv.wd as f) c (Mv.wd as f') ∧ j = k - c,
      ⟨_, 0, f, rfl, Keep.refl _ _, Like.refl _, W, Mv.stepsInv_start, rfl⟩, ?_⟩
    rintro j σ H' ⟨c, f', rfl, kp, lk, W', I, rfl⟩
    have en : (f' m).number = (f m).number := lk.number m
    refine ⟨_, rfl, _, rfl, _, _, rfl, rfl, _, rfl, ?_⟩
    refine ite2 (fun z => ?_) (fun z => ?_)
    · have lt : c < k := by
        have z := of_decide_eq_true z
        omega
      refine ⟨_, rfl, _, rfl, _, rfl, _, rfl, L, m, as, f', dx, dy, rfl, W', hm, fun H2 s2 e => ⟨_, rfl, iteF ?_⟩, fun H2 f2 k2 l2 W2 e => ⟨_, rfl, iteT ?_⟩⟩
      · rw [en] at e
        exact ⟨_, rfl, q H2 f' c (kp.trans (Keep.of s2)) lk (W'.same s2) (Mv.stepsInv_stop I e)⟩
      · rw [en] at e
        refine ⟨fun σ' H' => ∃ j', j' < k - c ∧ ∃ (c : Nat) (f' : Addr → Ge04.Box), σ' = [some (.ref L), some (.ref m), some (.int dx), some (.int dy), some (.int (k : Int)), some (.int (c : Int))] ∧ Keep as H H' ∧ Like f f' ∧ Wld C H' L as f' ∧ Mv.StepsInv (f m).number dx dy k (Mv.wd as f) c (Mv.wd as f') ∧ j' = k - c, fun _ _ z => z, ?_⟩
        refine ⟨_, rfl, _, _, rfl, rfl, _, ?_, c + 1, f2, rfl, kp.trans k2, lk.trans l2, W2, Mv.stepsInv_next I lt e, rfl⟩
        omega
    · have nlt : ¬ c < k := fun y => z (decide_eq_true (by omega))
      refine iteF ?_
      exact ⟨_, rfl, q H' f' c kp lk W' (Mv.stepsInv_all I nlt)⟩
theorem sc_way_of : FnScope ["number"] ["number"] (defScope s_way_of) := ⟨rfl, rfl, rfl, by decide +kernel, rfl, by decide +kernel, by decide +kernel⟩
theorem ok_way_of {fa : Addr} {fd : FuncData} (F : Fun K "way_of" "way_of" s_way_of fa fd) : FnOk P w K mg base CX0 1 fa fd ["number"] spWay := by
  refine F.ok sc_way_of (fun vs H Q E h => ?_) (fun cdv A outer s H vs Q E hr h => ?_)
  · obtain ⟨_, rfl, _⟩ := h
    rfl
  · obtain ⟨z, rfl, q⟩ := h
    refine ⟨_, pss_one (ps_ret (pe_ifExp (pt_cmpR op_lt (pv 0) pe_int (nomark _)) (pe_un un_neg pe_int) pe_int)), ?_⟩
    refine ⟨_, rfl, _, _, rfl, rfl, _, rfl, ?_⟩
    refine ite2 (fun c => ?_) (fun c => ?_)
    · have lt : z < 0 := of_decide_eq_true c
      have e : wayOf z = -1 := if_pos lt
      rw [e] at q
      exact ⟨_, rfl, q⟩
    · have lt : ¬ z < 0 := fun y => c (decide_eq_true y)
      have e : wayOf z = 1 := if_neg lt
      rw [e] at q
      exact q
theorem abs_nat (z : Int) : (if z < 0 then -z else z) = ((z.natAbs : Nat) : Int) := by
  split <;> omega
theorem sc_move_box : FnScope ["boxes", "mover", "across", "down", "steps_across", "steps_down"] ["boxes", "mover", "across", "down"] (defScope s_move_box) := ⟨rfl, rfl, rfl, by decide +kernel, rfl, by decide +kernel, by decide +kernel⟩
theorem ok_move_box {fa : Addr} {fd : FuncData} {lv : Nat} (F : Fun K "move_box" "move_box" s_move_box fa fd) (T : Txt K mg C) (DT : Df P w K mg base "steps_toward" (lv + 1) ["boxes", "mover", "over", "under", "most"] (spToward C)) (DW : Df P w K mg base "way_of" 1 ["number"] spWay) :
    FnOk P w K mg base CX0 (lv + 2) fa fd ["boxes", "mover", "across", "down"] (spMove C) := by
  refine F.ok sc_move_box (fun vs H Q E h => ?_) (fun cdv A outer s H vs Q E hr h => ?_)
  · obtain ⟨_, _, _, _, _, _, rfl, _⟩ := h
    rfl
  · obtain ⟨L, m, as, f, dx, dy, rfl, W, hm, q⟩ := h
    have hr1 : Room 1 _ := hr.mono (by omega)
    refine ⟨_, pss_cons (ps_set (i := 4) sc_move_box.nd rfl (Or.inl rfl) (pe_df DT hr (pa_cons (pv 0) (pa_cons (pv 1) (pa_cons (pe_df DW hr1 (pa_cons (pv 2) pa_nil)) (pa_cons pe_int (pa_cons (pe_callB call_abs (by rfl) T.abs (by decide +kernel) (pa_cons (pv 2) pa_nil)) pa_nil)))))))
      (pss_cons (ps_set (i := 5) sc_move_box.nd rfl (Or.inl rfl) (pe_df DT hr (pa_cons (pv 0) (pa_cons (pv 1) (pa_cons pe_int (pa_cons (pe_df DW hr1 (pa_cons (pv 3) pa_nil)) (pa_cons (pe_callB call_abs (by rfl) T.abs (by decide +kernel) (pa_cons (pv 3) pa_nil)) pa_nil)))))))
      (pss_one (ps_ret (pe_lst (pa_cons (pv 4) (pa_cons (pv 5) pa_nil)))))), ?_⟩
    refine ⟨_, rfl, _, rfl, _, rfl, dx, rfl, _, rfl, _, rfl, ?_⟩
    rw [abs_nat]
    refine ⟨L, m, as, f, wayOf dx, 0, dx.natAbs, rfl, W, hm, fun H1 f1 c k1 l1 W1 e1 => ?_⟩
    refine ⟨_, rfl, _, rfl, _, rfl, dy, rfl, _, rfl, _, rfl, ?_⟩
    rw [abs_nat]
    refine ⟨L, m, as, f1, 0, wayOf dy, dy.natAbs, rfl, W1, hm, fun H2 f2 d k2 l2 W2 e2 => ?_⟩
    rw [l1.number] at e2
    refine ⟨_, rfl, _, rfl, (by show 2 ≤ sizeLine; decide), fun r hr => ?_⟩
    have nr : r ∉ as := fun z => by
      obtain ⟨d', e⟩ := W2.bxs r z
      rw [hr] at e
      cases e
    refine q _ f2 r c d ((k1.trans k2).trans (Keep.of (Same.new hr))) (l1.trans l2) (W2.same (Same.new hr)) ((k1.trans k2).free hr nr) upd_same ?_
    unfold Ge04.move
    show (let a := Ge04.steps (f m).number (wayOf dx) 0 dx.natAbs (Mv.wd as f); let b := Ge04.steps (f m).number 0 (wayOf dy) dy.natAbs a.1; (b.1, a.2, b.2)) = _
    rw [e1]
    dsimp only
    rw [e2]
end
end Mb
set_option Elab.async false
set_option maxRecDepth 100000
set_option maxHeartbeats 2000000
namespace Mb
open PySem PySem.Spec PyProof.Rows L2
abbrev s_copies_of : Stmt := top 4
abbrev s_box_numbered : Stmt := top 36
abbrev s_is_size : Stmt := top 37
abbrev s_any_beyond : Stmt := top 40
abbrev s_moved_since : Stmt := top 41
def spNumbered (C : Addr) : Sp := fun vs H Q _ => ∃ (L : Addr) (as : List Addr) (f : Addr → Ge04.Box) (n : Int), vs = [.ref L, .int n] ∧ H L = some (.lst (as.map V.ref)) ∧ Bxs C H as f ∧
  (∀ a ∈ as, ((f a).number : Int) = n → Q (.ref a) H) ∧ ((∀ a ∈ as, ((f a).number : Int) ≠ n) → Q .non H)
def inSize (wide high most : Int) : Bool := (decide (1 ≤ wide) && decide (wide ≤ most)) && (decide (1 ≤ high) && decide (high ≤ most))
def spSize : Sp := fun vs H Q _ => ∃ x y z : Int, vs = [.int x, .int y, .int z] ∧ Q (.bl (inSize x y z)) H
def spAnyBeyond (C : Addr) : Sp := fun vs H Q _ => ∃ (L : Addr) (as : List Addr) (f : Addr → Ge04.Box), vs = [.ref L] ∧ Wld C H L as f ∧ ∀ H', Same H H' → Q (.bl (as.any fun a => far (f a).x || far (f a).y)) H'
section
variable {P : Program} {w : World} {K : PySem.W.Frag} {mg : Str → Option Value} {base : Heap} {C : Addr}
theorem sc_box_numbered : FnScope ["boxes", "number", "box"] ["boxes", "number"] (defScope s_box_numbered) := ⟨rfl, rfl, rfl, by decide +kernel, rfl, by decide +kernel, by decide +kernel⟩
theorem ok_box_numbered {fa : Addr} {fd : FuncData} (F : Fun K "box_numbered" "box_numbered" s_box_numbered fa fd) (T : Txt K mg C) : FnOk P w K mg base CX0 1 fa fd ["boxes", "number"] (spNumbered C) := by
  refine F.ok sc_box_numbered (fun vs H Q E h => ?_) (fun cdv A outer s H vs Q E hr h => ?_)
  · obtain ⟨_, _, _, _, rfl, _⟩ := h
    rfl
  · obtain ⟨L, as, f, n, rfl, hL, hb, qS, qN⟩ := h
    refine ⟨_, pss_cons (ps_for PassesOwn.never rfl (pi_list (pv 0)) (pg_name (i := 2) sc_box_numbered.nd rfl (Or.inl rfl)) (pss_one (ps_if (pt_cmpR op_eq (pe_fld (pv 2) rfl) (pv 1) (nomark _)) (pss_one (ps_ret (pv 2))) pss_nil))) (pss_one (ps_ret pe_non)), ?_⟩
    refine ⟨_, rfl, L, rfl, ⟨_, SqL.of hL⟩, for_list (K := K) (a := L) (xs := as.map V.ref) (fun i σ H' => ∃ v2 : Option V, σ = [some (.ref L), some (.int n), v2] ∧ H' = H ∧ ∀ a ∈ as.take i, ((f a).number : Int) ≠ n) ⟨none, rfl, rfl, fun _ z => nomatch z⟩ (fun i σ H' _ ⟨_, _, e, _⟩ => by rw [e]; exact SqL.of hL) ?_ ?_⟩
    · rintro i x σ _ hx ⟨v2, rfl, rfl, no⟩
      obtain ⟨a, ha, rfl, hm⟩ := get_ref hx
      obtain ⟨d1, h1⟩ := hb a hm
      refine ⟨_, rfl, a, C, d1, _, _, rfl, h1, T.cl, T.nNumber, lk_number _, _, rfl, rfl, _, rfl, ?_⟩
      refine ite2 (fun c => ?_) (fun c => ?_)
      · have e : V.int ((f a).number : Int) = V.int n := of_decide_eq_true c
        injection e with e
        exact ⟨_, rfl, qS a hm e⟩
      · refine ⟨some (.ref a), rfl, rfl, fun b hb' => ?_⟩
        rw [take_more ha] at hb'
        rcases List.mem_append.mp hb' with z | z
        · exact no b z
        · rw [List.mem_singleton.mp z]
          exact fun e => c (decide_eq_true (by rw [e]))
    · rintro σ _ ⟨v2, rfl, rfl, no⟩
      rw [List.length_map, List.take_length] at no
      exact qN no
theorem sc_is_size : FnScope ["wide", "high", "largest"] ["wide", "high", "largest"] (defScope s_is_size) := ⟨rfl, rfl, rfl, by decide +kernel, rfl, by decide +kernel, by decide +kernel⟩
theorem chain_of {c d : Bool} {R : Bool → Prop} (h : R (c && d)) : if c = true then R d else R false := ite_and h
theorem ok_is_size {fa : Addr} {fd : FuncData} (F : Fun K "is_size" "is_size" s_is_size fa fd) : FnOk P w K mg base CX0 1 fa fd ["wide", "high", "largest"] spSize := by
  refine F.ok sc_is_size (fun vs H Q E h => ?_) (fun cdv A outer s H vs Q E hr h => ?_)
  · obtain ⟨_, _, _, rfl, _⟩ := h
    rfl
  · obtain ⟨x, y, z, rfl, q⟩ := h
    refine ⟨_, pss_one (ps_ret (pe_and (pe_chain op_le op_le pe_int (pv 0) (pv 2)) (pe_one (pe_chain op_le op_le pe_int (pv 1) (pv 2))))), ?_⟩
    unfold inSize at q
    have second : ∀ (R : V → Hp → Prop), R (.bl (decide (1 ≤ y) && decide (y ≤ z))) H → tChain (rI0 fun i j => .bl (decide (i ≤ j))) (rI0 fun i j => .bl (decide (i ≤ j))) (tC (.int 1)) (tVar 1) (tVar 2) (start ["wide", "high", "largest"] [.int x, .int y, .int z]) H R := by
      intro R r
      refine ⟨_, rfl, _, _, rfl, rfl, _, rfl, ?_⟩
      refine ite2 (fun c => ?_) (fun c => ?_)
      · rw [c, Bool.true_and] at r
        exact ⟨_, rfl, _, _, rfl, rfl, r⟩
      · rw [Bool.not_eq_true] at c
        rw [c, Bool.false_and] at r
        exact r
    refine ⟨_, rfl, _, _, rfl, rfl, _, rfl, ?_⟩
    refine ite2 (fun c => ?_) (fun c => ?_)
    · rw [c, Bool.true_and] at q
      refine ⟨_, rfl, _, _, rfl, rfl, _, rfl, ?_⟩
      refine ite2 (fun c => ?_) (fun c => ?_)
      · rw [c, Bool.true_and] at q
        exact second _ q
      · rw [Bool.not_eq_true] at c
        rw [c, Bool.false_and] at q
        exact q
    · rw [Bool.not_eq_true] at c
      rw [c, Bool.false_and, Bool.false_and] at q
      exact ⟨_, rfl, iteF q⟩
theorem sc_any_beyond : FnScope ["boxes", "box"] ["boxes"] (defScope s_any_beyond) := ⟨rfl, rfl, rfl, by decide +kernel, rfl, by decide +kernel, by decide +kernel⟩
theorem ok_any_beyond {fa : Addr} {fd : FuncData} (F : Fun K "any_beyond" "any_beyond" s_any_beyond fa fd) (T : Txt K mg C) (B : Len mg) (DB : Df P w K mg base "is_beyond" 1 ["across", "down"] spBeyond) : FnOk P w K mg base CX0 2 fa fd ["boxes"] (spAnyBeyond C) := by
  refine F.ok sc_any_beyond (fun vs H Q E h => ?_) (fun cdv A outer s H vs Q E hr h => ?_)
  · obtain ⟨_, _, _, rfl, _⟩ := h
    rfl
  · obtain ⟨L, as, f, rfl, W, q⟩ := h
    refine ⟨_, pss_one (ps_ret (pe_callB (cr_any rfl) (by rfl) B.any (by decide +kernel) (pa_cons
          (pe_lc (own := [("box", 1)]) (g := gName 1) (tt := tYes) (te := tCall spBeyond [] E0 (tCons (tFld K (tVar 1) "across") (tCons (tFld K (tVar 1) "down") tNil))) rfl sc_any_beyond.nd (pi_list (pv 0))
            (blkOk_by (N := ["boxes", "box"]) (sc := defScope s_any_beyond) (by decide +kernel))
            (by intro _ _ _ _ _; exact pg_name (i := 1) sc_any_beyond.nd rfl (Or.inl rfl)) (fun _ _ _ _ _ => pts_nil) (by intro _ _ _ _ _; exact pe_df DB hr (pa_cons (pe_fld (pv 1) rfl) (pa_cons (pe_fld (pv 1) rfl) pa_nil)))) pa_nil))), ?_⟩
    refine ⟨_, rfl, L, rfl, ⟨_, SqL.of W.lst⟩, fun D hD => lc_gen (K := K) (fun _ => true) (fun a => V.bl (far (f a).x || far (f a).y)) (SqL.of W.lst) hD (by have := W.few; omega) (fun _ => rfl) (fun a _ acc S r => r) (fun a ha _ acc S r => ?_) ?_⟩
    · obtain ⟨d1, h1⟩ := (W.bxs a ha).new (o := .lst acc) hD
      exact ⟨_, rfl, a, C, d1, _, _, rfl, h1, T.cl, T.nAcross, lk_across _, _, rfl, a, C, d1, _, _, rfl, h1, T.cl, T.nDown, lk_down _, _, _, rfl, r⟩
    · rw [filter_yes]
      have hD2 : (upd H D (.lst (as.map fun a => V.bl (far (f a).x || far (f a).y)))) D = some (.lst ((as.map fun a => far (f a).x || far (f a).y).map V.bl)) := by rw [upd_same, List.map_map]; rfl
      refine ⟨D, _, rfl, SqL.of hD2, ?_⟩
      rw [List.any_map]
      exact q _ (Same.new hD)
end
end Mb
set_option Elab.async false
set_option maxRecDepth 100000
set_option maxHeartbeats 2000000
namespace Mb
open PySem PySem.Spec PyProof.Rows L2
def spCopies (C : Addr) : Sp := fun vs H Q _ => ∃ (L : Addr) (as : List Addr) (f : Addr → Ge04.Box), vs = [.ref L] ∧ Wld C H L as f ∧
  ∀ H' r (bs : List Addr) (g : Addr → Ge04.Box), Same H H' → H r = none → Wld C H' r bs g → (∀ b ∈ bs, H b = none) → Mv.wd bs g = Mv.wd as f → Q (.ref r) H'
section
variable {P : Program} {w : World} {K : PySem.W.Frag} {mg : Str → Option Value} {base : Heap} {C : Addr}
theorem sc_copies_of : FnScope ["boxes", "box"] ["boxes"] (defScope s_copies_of) := ⟨rfl, rfl, rfl, by decide +kernel, rfl, by decide +kernel, by decide +kernel⟩
theorem ok_copies_of {fa fI : Addr} {fd fdI : FuncData} (F : Fun K "copies_of" "copies_of" s_copies_of fa fd) (T : Txt K mg C) (M : Mk K C fI) (GI : FnOk P w K mg base CX0 1 fI fdI ["self", "number", "row"] (spInit K C)) (bI : Binds K fdI ["self", "number", "row"] [])
    (DR : Df P w K mg base "row_of" 1 ["box"] (spRow C)) : FnOk P w K mg base CX0 3 fa fd ["boxes"] (spCopies C) := by
  refine F.ok sc_copies_of (fun vs H Q E h => ?_) (fun cdv A outer s H vs Q E hr h => ?_)
  · obtain ⟨_, _, _, rfl, _⟩ := h
    rfl
  · obtain ⟨L, as, f, rfl, W, q⟩ := h
    have hr1 : Room 1 _ := hr.mono (by decide)
    have few := W.few
    refine ⟨_, pss_one (ps_ret (pe_lc (own := [("box", 1)]) (g := gName 1) (tt := tYes) (te := tMake C (spInit K C) [] E0 (tCons (tFld K (tVar 1) "number") (tCons (tCall (spRow C) [] E0 (tCons (tVar 1) tNil)) tNil))) rfl sc_copies_of.nd (pi_list (pv 0))
            (blkOk_by (N := ["boxes", "box"]) (sc := defScope s_copies_of) (by decide +kernel))
            (by intro _ _ _ _ _; exact pg_name (i := 1) sc_copies_of.nd rfl (Or.inl rfl)) (fun _ _ _ _ _ => pts_nil)
            (by intro _ _ _ _ _; exact pe_make M GI hr rfl T.gBox bI .nil pass0 (pa_cons (pe_fld (pv 1) rfl) (pa_cons (pe_df DR hr1 (pa_cons (pv 1) pa_nil)) pa_nil))))), ?_⟩
    refine ⟨_, rfl, L, rfl, ⟨_, SqL.of W.lst⟩, fun D hD => lc_list (K := K) (a := L) (xs := as.map V.ref) (fun i H' => ∃ (bs : List Addr) (g : Addr → Ge04.Box), Same H H' ∧ H' D = some (.lst (bs.map V.ref)) ∧ Bxs C H' bs g ∧ (∀ b ∈ bs, H b = none) ∧ Mv.wd bs g = Mv.wd (as.take i) f)
      ⟨[], f, Same.new hD, upd_same, (fun _ z => nomatch z), (fun _ z => nomatch z), rfl⟩ ?_ ?_ ?_⟩
    · rintro i H' _ ⟨bs, g, s5, _⟩
      exact SqL.of (s5 _ _ W.lst)
    · rintro i x H' hx ⟨bs, g, s5, hD5, hb5, fr5, e5⟩
      obtain ⟨a, ha, rfl, hm⟩ := get_ref hx
      obtain ⟨d1, h1⟩ := (W.bxs a hm).same s5
      have lb : bs.length ≤ 100 := by
        have z := congrArg List.length e5
        rw [Mv.wd_length, Mv.wd_length, List.length_take] at z
        omega
      refine ⟨rfl, ?_⟩
      dsimp only [tYes]
      rw [if_pos rfl]
      refine ⟨_, rfl, a, C, d1, _, _, rfl, h1, T.cl, T.nNumber, lk_number _, _, rfl, a, f a, rfl, ⟨d1, h1⟩, fun r hr => ?_⟩
      have s6 : Same H' (upd H' r (.lst (rowV (f a)))) := Same.new hr
      intro x dx hx hdx ne
      refine ⟨x, dx, r, f a, rfl, upd_same, SqL.of ?_, rfl, ?_⟩
      · rw [upd_ne (fun z => by rw [← z, upd_same] at hx; cases hx), upd_ne (fun z => by rw [← z, upd_same] at hdx; cases hdx)]
        exact upd_same
      · have s7 : Same (upd H' r (.lst (rowV (f a)))) (upd (upd (upd (upd H' r (.lst (rowV (f a)))) dx (.own x)) x (.ins C dx [])) x (.ins C dx (bF (f a)))) := fun b o e => by
          rw [upd_upd, upd_ne (ne_of_none e hx), upd_ne (ne_of_none e hdx)]
          exact e
        have s8 := s6.trans s7
        have nxD : D ≠ x := fun z => by
          rw [← z, s6 _ _ hD5] at hx
          cases hx
        have xH : H x = none := (s5.trans s6).free hx
        have nxb : x ∉ bs := fun z => by
          obtain ⟨d, e⟩ := hb5 x z
          rw [s6 _ _ e] at hx
          cases hx
        refine ⟨bs.map V.ref, s8 _ _ hD5, small1000 (by rw [List.length_map]; omega), bs ++ [x], (fun y => if y = x then f a else g y), ?_, ?_, ?_, ?_, ?_⟩
        · intro b o e
          rw [upd_ne (ne_of_none e hD)]
          exact s8 _ _ (s5 _ _ e)
        · rw [upd_same, List.map_append]
          rfl
        · intro b hb
          by_cases e : b = x
          · subst e
            refine ⟨dx, ?_⟩
            rw [upd_ne nxD.symm, upd_same]
            show _ = some (HO.ins C dx (bF (if b = b then f a else g b)))
            rw [if_pos rfl]
          · have hb' : b ∈ bs := by
              rcases List.mem_append.mp hb with z | z
              · exact z
              · exact absurd (List.mem_singleton.mp z) e
            have := ((hb5 b hb').same s8).lst (o := .lst (bs.map V.ref ++ [V.ref x])) (s8 _ _ hD5)
            show BoxAt C _ b (if b = x then f a else g b)
            rw [if_neg e]
            exact this
        · intro b hb
          rcases List.mem_append.mp hb with z | z
          · exact fr5 b z
          · rw [List.mem_singleton.mp z]
            exact xH
        · have e1 : Mv.wd bs (fun y => if y = x then f a else g y) = Mv.wd bs g := List.map_congr_left fun b hb => by
            have : b ≠ x := fun z => nxb (z ▸ hb)
            show (if b = x then f a else g b) = g b
            rw [if_neg this]
          unfold Mv.wd at e1 e5 ⊢
          rw [List.map_append, e1, e5, take_more ha, List.map_append]
          show _ ++ [if x = x then f a else g x] = _ ++ [f a]
          rw [if_pos rfl]
    · rintro H' ⟨bs, g, s5, hD5, hb5, fr5, e5⟩
      rw [List.length_map, List.take_length] at e5
      refine q H' D bs g s5 hD ⟨hD5, hb5, ?_, ?_⟩ fr5 e5
      · have e6 : bs.map (fun b => (g b).number) = as.map fun a => (f a).number := by
          have := congrArg (List.map fun b : Ge04.Box => b.number) e5
          unfold Mv.wd at this
          rw [List.map_map, List.map_map] at this
          exact this
        refine ⟨by rw [e6]; exact W.good.nd, fun b hb => ?_⟩
        have hm : g b ∈ Mv.wd as f := by rw [← e5]; exact List.mem_map.mpr ⟨b, hb, rfl⟩
        obtain ⟨a, ha, e⟩ := Mv.mem_wd.mp hm
        rw [← e]
        exact W.good.sz a ha
      · have z := congrArg List.length e5
        rw [Mv.wd_length, Mv.wd_length] at z
        omega

/-! ### moved_since -/
def elseP (f g : Addr → Ge04.Box) (p : Addr × Addr) : Bool := decide ((f p.1).x ≠ (g p.2).x) || decide ((f p.1).y ≠ (g p.2).y)
def toldV (f g : Addr → Ge04.Box) (ps : List (Addr × Addr)) : List V := (ps.filter (elseP f g)).flatMap fun p => [.int ((g p.2).number : Int), .int (g p.2).x, .int (g p.2).y]
def spSince (C : Addr) : Sp := fun vs H Q _ => ∃ (L M : Addr) (as bs : List Addr) (f g : Addr → Ge04.Box), vs = [.ref L, .ref M] ∧ Wld C H L as f ∧ Wld C H M bs g ∧ as.length = bs.length ∧
  ∀ H' r, Same H H' → H r = none → H' r = some (.lst (toldV f g (as.zip bs))) → Q (.ref r) H'
theorem sc_moved_since : FnScope ["before", "after", "told", "old", "new"] ["before", "after"] (defScope s_moved_since) := ⟨rfl, rfl, rfl, by decide +kernel, rfl, by decide +kernel, by decide +kernel⟩
theorem told_more {f g : Addr → Ge04.Box} {ps : List (Addr × Addr)} {i : Nat} {p : Addr × Addr} (h : ps[i]? = some p) : toldV f g (ps.take (i + 1)) = toldV f g (ps.take i) ++ (if elseP f g p = true then [.int ((g p.2).number : Int), .int (g p.2).x, .int (g p.2).y] else []) := by
  rw [take_more h]
  unfold toldV
  rw [List.filter_append, List.flatMap_append]
  congr 1
  rw [List.filter_cons, List.filter_nil]
  split <;> simp
theorem told_len (f g : Addr → Ge04.Box) (ps : List (Addr × Addr)) : (toldV f g ps).length ≤ 3 * ps.length := by
  unfold toldV
  rw [List.length_flatMap]
  have : ∀ l : List (Addr × Addr), (l.map fun p => ([V.int ((g p.2).number : Int), V.int (g p.2).x, V.int (g p.2).y] : List V).length).sum = 3 * l.length := by
    intro l
    induction l with
    | nil => rfl
    | cons a t ih =>
      rw [List.map_cons, List.sum_cons, ih, List.length_cons]
      simp only [List.length_cons, List.length_nil]
      omega
  rw [this]
  have := List.length_filter_le (elseP f g) ps
  omega
theorem ok_moved_since {fa : Addr} {fd : FuncData} (F : Fun K "moved_since" "moved_since" s_moved_since fa fd) (T : Txt K mg C) (B : Len mg) : FnOk P w K mg base CX0 1 fa fd ["before", "after"] (spSince C) := by
  refine F.ok sc_moved_since (fun vs H Q E h => ?_) (fun cdv A outer s H vs Q E hr h => ?_)
  · obtain ⟨_, _, _, _, _, _, rfl, _⟩ := h
    rfl
  · obtain ⟨L, M, as, bs, f, g, rfl, W, X, hl, q⟩ := h
    have few := W.few
    refine ⟨_, pss_cons (ps_set (i := 2) sc_moved_since.nd rfl (Or.inl rfl) (pe_lst pa_nil))
      (pss_cons (ps_for PassesOwn.never rfl (pi_zip (by rfl) B.zip (pa_cons (pv 0) (pa_cons (pv 1) pa_nil))) (pg_tup rfl (pgs_cons (pg_name (i := 3) sc_moved_since.nd rfl (.inl rfl)) (pgs_cons (pg_name (i := 4) sc_moved_since.nd rfl (.inl rfl)) pgs_nil)))
        (pss_one (ps_if (PW.pt (pw_or (pt_cmpR op_ne (pe_fld (pv 3) rfl) (pe_fld (pv 4) rfl) (nomark _)) (pw_or1 (pt_cmpR op_ne (pe_fld (pv 3) rfl) (pe_fld (pv 4) rfl) (nomark _)))))
          (pss_one (ps_expr (pe_bm PySem.F.plainAttrs_list PySem.F.slot_list_extend PySem.F.type_list_extend mt_extend (pv 2) (pa_cons (pe_lst (pa_cons (pe_fld (pv 4) rfl) (pa_cons (pe_fld (pv 4) rfl) (pa_cons (pe_fld (pv 4) rfl) pa_nil)))) pa_nil)))) pss_nil)))
      (pss_one (ps_ret (pv 2)))), ?_⟩
    refine ⟨Nat.zero_le _, fun R hR => ?_⟩
    have s0 : Same H (upd H R (.lst [])) := Same.new hR
    refine ⟨_, rfl, _, rfl, L, M, _, _, rfl, SqL.of (s0 _ _ W.lst), SqL.of (s0 _ _ X.lst), RZ.for_zipL (K := K) (a := L) (b := M) (xs := as.map V.ref) (ys := bs.map V.ref) (by rw [List.length_map, List.length_map]; exact hl)
      (fun i σ H' => ∃ v3 v4 : Option V, σ = [some (.ref L), some (.ref M), some (.ref R), v3, v4] ∧ Same H H' ∧ H' R = some (.lst (toldV f g ((as.zip bs).take i)))) ⟨none, none, rfl, s0, upd_same⟩ (fun i σ H' ⟨_, _, _, s5, _⟩ => ⟨SqL.of (s5 _ _ W.lst), SqL.of (s5 _ _ X.lst)⟩) ?_ ?_⟩
    · rintro i x y Tp σ H' hx hy ⟨v3, v4, rfl, s5, hR5⟩ hT
      obtain ⟨a, ha, rfl, ham⟩ := get_ref hx
      obtain ⟨b, hb, rfl, hbm⟩ := get_ref hy
      have hz : (as.zip bs)[i]? = some (a, b) := by
        rw [List.getElem?_zip_eq_some]
        exact ⟨ha, hb⟩
      have s6 : Same H' (upd H' Tp (.tup [.ref a, .ref b])) := Same.new hT
      obtain ⟨d1, h1⟩ := ((W.bxs a ham).same s5).same s6
      obtain ⟨d2, h2⟩ := ((X.bxs b hbm).same s5).same s6
      have key := told_more (f := f) (g := g) hz
      have far1 : (!decide (V.int (f a).x = V.int (g b).x)) = decide ((f a).x ≠ (g b).x) := by
        by_cases z : (f a).x = (g b).x
        · rw [z]; simp
        · simp [z]
      have far2 : (!decide (V.int (f a).y = V.int (g b).y)) = decide ((f a).y ≠ (g b).y) := by
        by_cases z : (f a).y = (g b).y
        · rw [z]; simp
        · simp [z]
      have yes : elseP f g (a, b) = true → ∀ (D : Ends), (∀ σ H', (∃ v3 v4 : Option V, σ = [some (.ref L), some (.ref M), some (.ref R), v3, v4] ∧ Same H H' ∧ H' R = some (.lst (toldV f g ((as.zip bs).take (i + 1))))) → D.nx σ H') →
          tDrop (tBM K "list" rExtend (tVar 2) (tCons (tLst (tCons (tFld K (tVar 4) "number") (tCons (tFld K (tVar 4) "across") (tCons (tFld K (tVar 4) "down") tNil)))) tNil)) D [some (.ref L), some (.ref M), some (.ref R), some (.ref a), some (.ref b)] (upd H' Tp (.tup [.ref a, .ref b])) := by
        intro c D nx
        rw [if_pos c] at key
        refine ⟨_, rfl, .inl ⟨rfl, _, SqL.of (s6 _ _ hR5)⟩, _, rfl, b, C, d2, _, _, rfl, h2, T.cl, T.nNumber, lk_number _, _, rfl, b, C, d2, _, _, rfl, h2, T.cl, T.nAcross, lk_across _, _, rfl, b, C, d2, _, _, rfl, h2, T.cl, T.nDown, lk_down _, (by show 3 ≤ sizeLine; decide), fun Y hY => ?_⟩
        have s7 := s6.trans (Same.new (o := .lst [.int ((g b).number : Int), .int (g b).x, .int (g b).y]) hY)
        have lt := told_len f g ((as.zip bs).take i)
        have lz : ((as.zip bs).take i).length ≤ 100 := by
          rw [List.length_take, List.length_zip]
          omega
        refine ⟨R, Y, _, _, rfl, rfl, s7 _ _ hR5, upd_same, Nat.le_of_lt (small1000 (by show _ + 3 ≤ 1000; omega)), nx _ _ ⟨some (.ref a), some (.ref b), rfl, ?_, ?_⟩⟩
        · intro c o e
          rw [upd_ne (ne_of_none e hR)]
          exact s7 _ _ (s5 _ _ e)
        · rw [upd_same, key]
      refine ⟨Tp, _, rfl, SqT.of upd_same, rfl, _, _, rfl, _, _, rfl, rfl, ?_⟩
      refine ⟨_, rfl, a, C, d1, _, _, rfl, h1, T.cl, T.nAcross, lk_across _, _, rfl, b, C, d2, _, _, rfl, h2, T.cl, T.nAcross, lk_across _, rfl, _, rfl, ?_⟩
      rw [far1]
      refine ite2 (fun c => ?_) (fun c => ?_)
      · refine iteT (yes ?_ _ fun _ _ z => z)
        unfold elseP
        rw [c, Bool.true_or]
      · refine ⟨_, rfl, a, C, d1, _, _, rfl, h1, T.cl, T.nDown, lk_down _, _, rfl, b, C, d2, _, _, rfl, h2, T.cl, T.nDown, lk_down _, rfl, _, rfl, ?_⟩
        rw [far2]
        refine ite2 (fun c2 => ?_) (fun c2 => ?_)
        · refine yes ?_ _ fun _ _ z => z
          unfold elseP
          rw [c2, Bool.or_true]
        · have no : elseP f g (a, b) = false := by
            unfold elseP
            rw [Bool.not_eq_true] at c c2
            rw [c, c2]
            rfl
          rw [no, if_neg Bool.false_ne_true, List.append_nil] at key
          refine ⟨some (.ref a), some (.ref b), rfl, s5.trans s6, ?_⟩
          rw [key]
          exact s6 _ _ hR5
    · rintro σ H' ⟨v3, v4, rfl, s5, hR5⟩
      refine ⟨_, rfl, q H' R s5 hR ?_⟩
      rw [List.length_map, List.take_of_length_le (by rw [List.length_zip]; omega)] at hR5
      exact hR5
end
end Mb
set_option Elab.async false
set_option maxRecDepth 100000
set_option maxHeartbeats 2000000
namespace Mb
open PySem PySem.Spec PyProof.Rows L2
abbrev s_is_way : Stmt := top 38
abbrev s_counted : Stmt := top 39
def countV (f : Addr → Ge04.Box) (as : List Addr) : List V := V.int (as.length : Int) :: numV f as
def spCounted (C : Addr) : Sp := fun vs H Q _ => ∃ (L : Addr) (as : List Addr) (f : Addr → Ge04.Box), vs = [.ref L] ∧ H L = some (.lst (as.map V.ref)) ∧ as.length ≤ 100 ∧ Bxs C H as f ∧
  ∀ H' r, Same H H' → H r = none → H' r = some (.lst (countV f as)) → Q (.ref r) H'
def isWay (x y : Int) : Bool := decide ((if x < 0 then -x else x) ≤ 1) && (decide ((if y < 0 then -y else y) ≤ 1) && (decide (x ≠ 0) || decide (y ≠ 0)))
def spIsWay : Sp := fun vs H Q _ => ∃ x y : Int, vs = [.int x, .int y] ∧ Q (.bl (isWay x y)) H
section
variable {P : Program} {w : World} {K : PySem.W.Frag} {mg : Str → Option Value} {base : Heap} {C : Addr}
theorem sc_counted : FnScope ["boxes"] ["boxes"] (defScope s_counted) := ⟨rfl, rfl, rfl, by decide +kernel, rfl, by decide +kernel, by decide +kernel⟩
theorem ok_counted {fa : Addr} {fd : FuncData} (F : Fun K "counted" "counted" s_counted fa fd) (B : Len mg) (DN : Df P w K mg base "numbers_of" 1 ["boxes"] (spNumbers C)) : FnOk P w K mg base CX0 2 fa fd ["boxes"] (spCounted C) := by
  refine F.ok sc_counted (fun vs H Q E h => ?_) (fun cdv A outer s H vs Q E hr h => ?_)
  · obtain ⟨_, _, _, rfl, _⟩ := h
    rfl
  · obtain ⟨L, as, f, rfl, hL, hl, hb, q⟩ := h
    refine ⟨_, pss_one (ps_ret (pe_op op_cat (pe_lst (pa_cons (pe_callB call_len_seq (by rfl) B.len PySem.boot_len (pa_cons (pv 0) pa_nil)) pa_nil)) (pe_df DN hr (pa_cons (pv 0) pa_nil)))), ?_⟩
    refine ⟨_, rfl, L, _, rfl, Or.inl (SqL.of hL), (by show 1 ≤ sizeLine; decide), fun r1 hr1 => ?_⟩
    have s1 := Same.new (o := .lst [.int ((as.map V.ref).length : Int)]) hr1
    refine ⟨_, rfl, L, as, f, rfl, s1 _ _ hL, by omega, hb.same s1, fun r2 hr2 => ?_⟩
    have s2 := s1.trans (Same.new (o := .lst (numV f as)) hr2)
    refine ⟨r1, r2, _, _, rfl, rfl, (Same.new hr2) _ _ upd_same, upd_same, (by rw [numV_len]; exact Nat.le_of_lt (small1000 (by show 1 + _ ≤ 1000; omega))), fun r3 hr3 => ?_⟩
    refine q _ r3 (s2.trans (Same.new hr3)) (s2.free hr3) ?_
    rw [upd_same, List.length_map]
    rfl
theorem int_ne (x y : Int) : (!decide (V.int x = V.int y)) = decide (x ≠ y) := by
  by_cases z : x = y
  · rw [z]; simp
  · simp [z]
theorem sc_is_way : FnScope ["over", "under"] ["over", "under"] (defScope s_is_way) := ⟨rfl, rfl, rfl, by decide +kernel, rfl, by decide +kernel, by decide +kernel⟩
theorem ok_is_way {fa : Addr} {fd : FuncData} (F : Fun K "is_way" "is_way" s_is_way fa fd) (T : Txt K mg C) : FnOk P w K mg base CX0 1 fa fd ["over", "under"] spIsWay := by
  refine F.ok sc_is_way (fun vs H Q E h => ?_) (fun cdv A outer s H vs Q E hr h => ?_)
  · obtain ⟨_, _, rfl, _⟩ := h
    rfl
  · obtain ⟨x, y, rfl, q⟩ := h
    refine ⟨_, pss_one (ps_ret (pe_and (pe_cmpR op_le (pe_callB call_abs (by rfl) T.abs (by decide +kernel) (pa_cons (pv 0) pa_nil)) pe_int (nomark _))
      (pe_and (pe_cmpR op_le (pe_callB call_abs (by rfl) T.abs (by decide +kernel) (pa_cons (pv 1) pa_nil)) pe_int (nomark _))
        (pe_one (pe_or (pe_cmpR op_ne (pv 0) pe_int (nomark _)) (pe_one (pe_cmpR op_ne (pv 1) pe_int (nomark _)))))))), ?_⟩
    unfold isWay at q
    refine ⟨_, rfl, _, rfl, _, _, rfl, rfl, _, rfl, ?_⟩
    refine ite2 (fun c => ?_) (fun c => ?_)
    · rw [c, Bool.true_and] at q
      refine ⟨_, rfl, _, rfl, _, _, rfl, rfl, _, rfl, ?_⟩
      refine ite2 (fun c => ?_) (fun c => ?_)
      · rw [c, Bool.true_and] at q
        refine ⟨_, rfl, rfl, _, rfl, ?_⟩
        rw [int_ne]
        refine ite2 (fun c => ?_) (fun c => ?_)
        · rw [c, Bool.true_or] at q
          exact q
        · rw [Bool.not_eq_true] at c
          rw [c, Bool.false_or] at q
          refine ⟨_, rfl, rfl, ?_⟩
          rw [int_ne]
          exact q
      · rw [Bool.not_eq_true] at c
        rw [c, Bool.false_and] at q
        exact q
    · rw [Bool.not_eq_true] at c
      rw [c, Bool.false_and] at q
      exact q
end
end Mb
set_option Elab.async false
set_option maxRecDepth 100000
set_option maxHeartbeats 4000000
/-! sorted(xs, key=f), f a def of one's own that gives a pair of whole numbers -/
namespace Ky
open PySem PySem.Spec PyProof.Rows L2
section
variable {X : Cx} {pins : List (Addr × Obj)} {σ : L2.St} {H : Hp} {s : Shared} {h' : Heap}
/-- what a new untracked object needs to be pinned -/
def Own (X : Cx) (pins : List (Addr × Obj)) (H : Hp) (it : Addr) : Prop :=
  H it = none ∧ it ≠ X.env.locals ∧ X.s_0.heap.objs.size ≤ it ∧ it ∉ X.fs ∧ ∀ p ∈ X.pn ++ pins, p.1 ≠ it
theorem own_of {it : Addr} (I : Inv X pins σ H s) (h : s.heap.objs.size ≤ it) : Own X pins H it :=
  ⟨I.hok.fresh h, fun z => absurd (z ▸ h) (Nat.not_le.mpr I.lt), Nat.le_trans I.sz h, I.nofs h, fun p hp z => absurd (Heap.lt_size (I.pin p hp).1) (by rw [z]; exact Nat.not_lt.mpr h)⟩
/-- an untracked object of ours is changed -/
theorem turn1 {it : Addr} {o : Obj} {t' : Nat} (I : Inv X pins σ H s) (ho : s.heap.get? it = some o) (hc : ∀ v, o.data ≠ .cell v) (w : Own X pins H it) (k : ∀ b u, b ≠ it → s.heap.get? b = some u → h'.get? b = some u) : Inv X pins σ H { s with heap := h', toks := t' } := by
  obtain ⟨w1, w2, w3, w4, w5⟩ := w
  refine I.turned k w1 w2 (.inr w3) (fun x c e z => ?_) w5
  obtain ⟨v, o', ho', hd⟩ := I.cell x c e
  rw [z, ho] at ho'
  cases ho'
  exact hc v hd
/-- an untracked object of ours is changed, and tracked from then on -/
theorem adopt {it : Addr} {o : Obj} {u : HO} {t' : Nat} (I : Inv X pins σ H s) (ho : s.heap.get? it = some o) (hc : ∀ v, o.data ≠ .cell v) (w : Own X pins H it) (k : ∀ b u, b ≠ it → s.heap.get? b = some u → h'.get? b = some u)
    (hi : ∃ o', h'.get? it = some o') (new : ObjOk X.prog X.w (upd H it u) h' it u) : Inv X pins σ (upd H it u) { s with heap := h', toks := t' } := by
  obtain ⟨w1, w2, w3, w4, w5⟩ := w
  have nit : ∀ b v, H b = some v → b ≠ it := fun b v e z => by rw [z, w1] at e; cases e
  refine I.step (g' := s.gens) (d' := s.drawn) (ch := [it]) (fun b hb => ?_) (fun b o _ _ hc e _ => k b o (fun z => hc (by simp [z])) e) (fun b o _ _ hc e _ => ⟨o.slots, k b o (fun z => hc (by simp [z])) e⟩) (fun b o hc e n => ?_)
    (fun b o hc e => ⟨o, k b o (fun z => hc (by simp [z])) e⟩) (fun b xs e => by rw [upd_ne (nit b _ e)]; exact e) (fun b o v e => by rw [upd_ne (nit b _ e)]; exact e) (fun b ps e => ⟨#[], by rw [upd_ne (nit b _ e), e]; simp⟩) (fun m hm => ?_) (fun b v e => ?_) I.bare
  · have e : b = it := by simpa using hb
    subst e
    refine ⟨.inr w3, w2, fun x c e z => ?_, w5⟩
    obtain ⟨v, o', ho', hd⟩ := I.cell x c e
    rw [z, ho] at ho'
    cases ho'
    exact hc v hd
  · rw [upd_ne (fun z => hc (by simp [z]))]
    exact n
  · obtain ⟨o, es, ep, ho, r⟩ := hm
    exact ⟨o, es, ep, k _ o (Ne.symm w2) ho, r⟩
  · by_cases hb : b = it
    · subst hb
      rw [upd_same] at e
      cases e
      exact new
    · rw [upd_ne hb] at e
      refine (I.hok b v e).stay (fun c v' hc q => k c v' ?_ q) (fun c q => by rw [upd_ne (nit c _ q)]; exact q) fun c xs q => by rw [upd_ne (nit c _ q)]; exact q
      rcases hc with z | z
      · rw [z]; exact hb
      · exact nit c _ z

/-- sorted(xs, key=f): f's promise sp gives of each item a new pair of whole numbers, over whatever heap that keeps what was there -/
def rSortedBy (K : PySem.W.Frag) (sp : Sp) (fo : Addr) : List V → List V → Hp → VK → Prop := fun vs zs H Q => ∃ (a : Addr) (xs : List V) (κ : V → Int × Int), vs = [V.ref a] ∧ zs = [V.ref fo] ∧ SqL K H a xs ∧ (∀ x ∈ xs, ∃ t, x = V.ref t) ∧
  (∀ x ∈ xs, ∀ H' : Hp, Same H H' → ∀ (Q' : VK) (E' : XK), (∀ t, H' t = none → Q' (.ref t) (upd H' t (.tup [.int (κ x).1, .int (κ x).2]))) → sp [x] H' Q' E') ∧
  ∀ (H' : Hp) (p : Addr) (ys : List V), Same H H' → H p = none → H' p = some (.lst ys) → ys.Perm xs → ys.Pairwise (fun x y => SrtO.lexB (κ y) (κ x) = false) → Q (.ref p) H'
/-- a def called deeper in the machine -/
theorem call_in2 {k : Nat} {f : Addr} {fd : FuncData} {ps : List Str} {sp : Sp} {us : List Value} {vs : List V} {Q : VK} (F : FnOk X.prog X.w X.K X.mg X.base CX0 k f fd ps sp) (hr : Room (k + 2) X.A) (hb : Binds X.K fd ps []) (I : Inv X pins σ H s) (r : Vals vs us) (h : sp vs H Q E0) (hl : us.length = ps.length) :
    wpAny (model X.prog X.w) X.A.in1.in1 (call (.ref f) us) (EP X pins σ Q) (fun _ _ => False) s := by
  have hb' := hb s us I.kIn (by rw [List.append_nil]; exact hl)
  rw [List.append_nil] at hb'
  refine wpAny_call (codeAny_mono (F.run X.A.in1.in1 X.stack s H ⟨us, []⟩ us vs Q E0 hr.in1.in1 I.env0.in1.in1 hb' r h) fun r s' hq => ?_)
  cases r with
  | error e => exact hq
  | ok fl =>
    cases fl with
    | ret u => exact I.after hq
    | next => exact False.elim hq
    | brk => exact False.elim hq
    | cont => exact False.elim hq
theorem seq_nocell (T : String) (xs : Array Value) (n : Nat) : ∀ v, (seqObj T xs n).data ≠ .cell v := fun v z => by cases z
theorem cr_sortedBy {k : Nat} {fo : Addr} {fd : FuncData} {x0 : Str} {sp : Sp} (F : FnOk X.prog X.w X.K X.mg X.base CX0 k fo fd [x0] sp) (hr : Room (k + 2) X.A) (hb : Binds X.K fd [x0] []) : CallRK X (.builtin "sorted") [Str.ofString "key"] (rSortedBy X.K sp fo) := by
  intro pins s σ H vs zs us ws Q I r rz h
  obtain ⟨a, xs, κ, rfl, rfl, hs, hx, hsp, q⟩ := h
  obtain ⟨its, rv, hl, hz⟩ := I.list hs
  obtain ⟨u, rfl, ru⟩ := vals1 r
  obtain rfl : u = Value.ref a := ru
  obtain ⟨w1, rfl, e1⟩ := vals1 rz
  obtain rfl : w1 = Value.ref fo := e1
  obtain ⟨ex, er⟩ := refs_back rv hx
  have hz' : its.length ≤ sizeLine := by rw [← rv.length]; exact hz
  have hZ := hz'
  rw [sizeLine_eq] at hZ
  refine PySem.W.sorted_of_sort hl.isList hz' (ksk_s1 _ _) (fun _ => ksk_l1 _ _) fun E' => ?_
  have ht : Builtin.«list.sort» ⟨[.ref (s.heap.objs.size + 1)], [Str.ofString "key"].zip [Value.ref fo]⟩ = ksk_tree (s.heap.objs.size + 1) (.ref fo) false := ksk_t1 fo _
  rw [ht]
  -- the machine's own objects: the copy at A, the keys at kS
  generalize hA : s.heap.objs.size + 1 = A
  have hA0 : s.heap.objs.size ≤ A := by omega
  have hoA : (PySem.W.copyHeap s.heap its).get? A = some (seqObj "list" its.toArray 0) := by rw [← hA]; exact PySem.W.copyHeap_at s.heap its
  have old0 : ∀ b o, s.heap.get? b = some o → b ≠ A ∧ (PySem.W.copyHeap s.heap its).get? b = some o := fun b o e => ⟨Nat.ne_of_lt (Nat.lt_of_lt_of_le (Heap.lt_size e) hA0), PySem.W.copyHeap_old e⟩
  have szC : s.heap.objs.size ≤ (PySem.W.copyHeap s.heap its).objs.size := Nat.le_trans hA0 (Nat.le_of_lt (Heap.lt_size hoA))
  generalize PySem.W.copyHeap s.heap its = hC at hoA old0 szC
  obtain ⟨e1, hoA1⟩ : ∃ e1, (hC.update A (Obj.mapSeq fun _ => (#[] : Array Value))).get? A = some (seqObj "list" #[] e1) := ⟨_, get?_update_seq hoA fun _ => #[]⟩
  have hkS : ((hC.update A (Obj.mapSeq fun _ => (#[] : Array Value))).push (seqObj "tuple" its.toArray 0)).objs.size = hC.objs.size + 1 := by rw [size_push', Heap.size_update]
  unfold ksk_tree
  refine wpAny_bind (listItems_at hoA rfl ?_)
  refine wpAny_bind (listUpdate_at hoA rfl ?_ (by rw [List.size_toArray]; exact hz') (Nat.zero_le _))
  refine wpAny_bind (seqEpoch_at hoA1 rfl ?_)
  refine wpAny_bind (wpAny_newTuple ?_ (by show its.length ≤ _; exact hz'))
  refine wpAny_bind (wpAny_newList ?_ (Nat.zero_le _))
  refine wpAny_holding ?_
  have old3 : ∀ b o, s.heap.get? b = some o → (((hC.update A (Obj.mapSeq fun _ => (#[] : Array Value))).push (seqObj "tuple" its.toArray 0)).push (seqObj "list" #[] 0)).get? b = some o := fun b o e => by
    refine Heap.get?_push_of_some _ (Heap.get?_push_of_some _ ?_)
    rw [Heap.get?_update_ne _ _ _ _ (old0 b o e).1]
    exact (old0 b o e).2
  have nA3 : (((hC.update A (Obj.mapSeq fun _ => (#[] : Array Value))).push (seqObj "tuple" its.toArray 0)).push (seqObj "list" #[] 0)).get? A = some (seqObj "list" #[] e1) := Heap.get?_push_of_some _ (Heap.get?_push_of_some _ hoA1)
  have nk3 : (((hC.update A (Obj.mapSeq fun _ => (#[] : Array Value))).push (seqObj "tuple" its.toArray 0)).push (seqObj "list" #[] 0)).get? ((hC.update A (Obj.mapSeq fun _ => (#[] : Array Value))).push (seqObj "tuple" its.toArray 0)).objs.size = some (seqObj "list" #[] 0) := Heap.get?_push_size _ rfl
  have hAk : A ≠ ((hC.update A (Obj.mapSeq fun _ => (#[] : Array Value))).push (seqObj "tuple" its.toArray 0)).objs.size := by
    rw [hkS]
    exact Nat.ne_of_lt (Nat.lt_succ_of_lt (Heap.lt_size hoA))
  have hk0 : s.heap.objs.size ≤ ((hC.update A (Obj.mapSeq fun _ => (#[] : Array Value))).push (seqObj "tuple" its.toArray 0)).objs.size := by rw [hkS]; omega
  generalize ((hC.update A (Obj.mapSeq fun _ => (#[] : Array Value))).push (seqObj "tuple" its.toArray 0)).objs.size = kS at nk3 hAk hk0
  show wpAny _ _ (ksk_rest A (.ref fo) false its.toArray e1 (.ref kS)) _ _ { s with heap := (((hC.update A (Obj.mapSeq fun _ => (#[] : Array Value))).push (seqObj "tuple" its.toArray 0)).push (seqObj "list" #[] 0)) }
  generalize (((hC.update A (Obj.mapSeq fun _ => (#[] : Array Value))).push (seqObj "tuple" its.toArray 0)).push (seqObj "list" #[] 0)) = h3 at old3 nA3 nk3
  have ownA := own_of I hA0
  have ownk := own_of I hk0
  have I3 : Inv X pins σ H { s with heap := h3, toks := s.toks } := I.kept old3
  have pinned : ∀ {H' : Hp} {s' : Shared} {kA : Array Value} {e : Nat}, Inv X pins σ H' s' → H' A = none → H' kS = none → s'.heap.get? A = some (seqObj "list" #[] e1) → s'.heap.get? kS = some (seqObj "list" kA e) → Inv X ((kS, seqObj "list" kA e) :: (A, seqObj "list" #[] e1) :: pins) σ H' s' := fun {H' s' kA e} I' fA fk gA gk =>
    I'.pins_of fun p hp => by
      rcases List.mem_cons.mp hp with rfl | hp
      · exact ⟨gk, fk, ownk.2.1, ownk.2.2.2.1, seq_nocell _ _ _⟩
      · rcases List.mem_cons.mp hp with rfl | hp
        · exact ⟨gA, fA, ownA.2.1, ownA.2.2.2.1, seq_nocell _ _ _⟩
        · exact I'.pin p (List.mem_append_right _ hp)
  have unpin : ∀ {H' : Hp} {s' : Shared} {kA : Array Value} {e : Nat}, Inv X ((kS, seqObj "list" kA e) :: (A, seqObj "list" #[] e1) :: pins) σ H' s' → Inv X pins σ H' s' ∧ H' A = none ∧ H' kS = none ∧ s'.heap.get? A = some (seqObj "list" #[] e1) ∧ s'.heap.get? kS = some (seqObj "list" kA e) := fun {H' s' kA e} I' =>
    ⟨I'.pins_of fun p hp => I'.pin p (List.mem_append_right _ (List.mem_cons_of_mem _ (List.mem_cons_of_mem _ hp))), (I'.pin _ (List.mem_append_right _ (List.mem_cons_of_mem _ List.mem_cons_self))).2.1, (I'.pin _ (List.mem_append_right _ List.mem_cons_self)).2.1,
      (I'.pin _ (List.mem_append_right _ (List.mem_cons_of_mem _ List.mem_cons_self))).1, (I'.pin _ (List.mem_append_right _ List.mem_cons_self)).1⟩
  unfold ksk_rest
  refine wpAny_bind (wpAny_rule ?_)
  first
    | rw [List.forIn_toArray]
    | (rw [← Array.forIn_toList]; simp only [List.toList_toArray])
    | rw [← Array.forIn_toList]
  refine wpAny_bind (ksk_fold (fun i s' => ∃ (H' : Hp) (kA : Array Value) (e : Nat) (ts : List Addr), Inv X ((kS, seqObj "list" kA e) :: (A, seqObj "list" #[] e1) :: pins) σ H' s' ∧ Same H H' ∧ kA.toList = ts.map Value.ref ∧ ts.length = i ∧
    ∀ (j : Nat) (t : Addr) (x : V), ts[j]? = some t → xs[j]? = some x → H' t = some (.tup [.int (κ x).1, .int (κ x).2])) its 0 _
    ⟨H, #[], 0, [], pinned I3 ownA.1 ownk.1 nA3 nk3, Same.refl _, rfl, rfl, fun j t x e => by simp at e⟩ ?step ?done)
  case step =>
    rintro j v s' hv ⟨H', kA, e, ts, I', s5, ek, el, hts⟩
    simp only [Nat.zero_add] at el ⊢
    have hj : j < its.length := (List.getElem?_eq_some_iff.mp hv).1
    obtain ⟨x, hxj⟩ : ∃ x, xs[j]? = some x := ⟨_, List.getElem?_eq_getElem (by rw [rv.length]; exact hj)⟩
    obtain ⟨v', ev', rxv⟩ := rv.get hxj
    rw [hv] at ev'
    cases ev'
    have hxm : x ∈ xs := List.mem_of_getElem? hxj
    refine wpAny_bind (wpAny_attempt (wpAny_mono (call_in2 (vs := [x]) (Q := fun y H2 => ∃ t, y = V.ref t ∧ H' t = none ∧ H2 = upd H' t (.tup [.int (κ x).1, .int (κ x).2])) F hr hb I' (.cons rxv .nil) (hsp x hxm H' s5 _ _ fun t ht => ⟨t, rfl, ht, rfl⟩) rfl) (fun v2 s2 he => ?_) fun _ _ hF => hF.elim))
    obtain ⟨y, H2, I2, ry, t, rfl, ht, rfl⟩ := he
    obtain rfl : v2 = Value.ref t := ry
    try dsimp only
    obtain ⟨J2, fA2, fk2, gA2, gk2⟩ := unpin I2
    have hkz : kA.size = j := by rw [← Array.length_toList, ek, List.length_map]; exact el
    obtain ⟨c2, hc2⟩ : ∃ c2, (s2.heap.update kS (Obj.mapSeq (·.push (.ref t)))).get? kS = some (seqObj "list" (kA.push (.ref t)) c2) := ⟨_, get?_update_seq gk2 (·.push (.ref t))⟩
    have s1 := Heap.SameBut.update s2.heap kS (Obj.mapSeq (·.push (Value.ref t)))
    refine wpAny_bind (listUpdate_at gk2 rfl ?_ (by rw [sizeLine_eq]; omega) (Nat.le_trans (Nat.le_of_eq (Array.size_push ..)) (by rw [sizeLine_eq]; omega)))
    have own2 : Own X pins (upd H' t (.tup [.int (κ x).1, .int (κ x).2])) kS := ⟨fk2, ownk.2⟩
    have I5 := turn1 (t' := s2.toks) J2 gk2 (seq_nocell _ _ _) own2 (fun b o hb e => (s1.2 b hb).trans e)
    refine wpAny_pure ⟨rfl, _, kA.push (.ref t), c2, ts ++ [t], pinned I5 fA2 fk2 ((s1.2 A hAk).trans gA2) hc2, ?_, ?_, ?_, ?_⟩
    · intro b o e
      rw [upd_ne (ne_of_none (s5 _ _ e) ht)]
      exact s5 _ _ e
    · rw [Array.toList_push, ek, List.map_append]
      rfl
    · rw [List.length_append, el]
      rfl
    · intro i t' x' e1' e2'
      by_cases hi : i < ts.length
      · rw [List.getElem?_append_left hi] at e1'
        have old := hts i t' x' e1' e2'
        rw [upd_ne (ne_of_none old ht)]
        exact old
      · have : i = ts.length := by
          have := (List.getElem?_eq_some_iff.mp e1').1
          rw [List.length_append] at this
          simp only [List.length_cons, List.length_nil] at this
          omega
        subst this
        rw [List.getElem?_append_right (Nat.le_refl _), Nat.sub_self] at e1'
        have : t = t' := by simpa using e1'
        subst this
        rw [el, hxj] at e2'
        cases e2'
        exact upd_same
  case done =>
    rintro s' ⟨H', kA, e, ts, I', s5, ek, el, hts⟩
    simp only [Nat.zero_add] at el
    obtain ⟨J, fA, fk, gA, gk⟩ := unpin I'
    try dsimp only
    refine wpAny_bind (listItems_at gk rfl ?_)
    have hlen : ts.length = its.length := el
    have hkz : kA.size = its.length := by rw [← Array.length_toList, ek, List.length_map]; exact el
    -- the keys' pairs
    let kk : Value → Int × Int := fun v => match v with
      | .ref t => match H' t with
        | some (.tup [.int i, .int j]) => (i, j)
        | _ => (0, 0)
      | _ => (0, 0)
    have kk_of : ∀ (j : Nat) (t : Addr) (x : V), ts[j]? = some t → xs[j]? = some x → kk (.ref t) = κ x := fun j t x e1 e2 => by
      show (match H' t with | some (.tup [.int i, .int j]) => (i, j) | _ => (0, 0)) = κ x
      rw [hts j t x e1 e2]
    have zip_of : ∀ p : Keyed, p ∈ (kA.zip its.toArray).toList → kk p.1 = κ (backV p.2) ∧ p.1 ∈ kA.toList ∧ p.2 ∈ its := fun p hp => by
      rw [ksk_zip] at hp
      obtain ⟨j, hj⟩ := List.mem_iff_getElem?.mp hp
      rw [List.getElem?_zip_eq_some] at hj
      obtain ⟨h1, h2⟩ := hj
      refine ⟨?_, List.mem_of_getElem? h1, List.mem_of_getElem? h2⟩
      rw [ek, List.getElem?_map] at h1
      cases e3 : ts[j]? with
      | none => rw [e3] at h1; cases h1
      | some t =>
        rw [e3] at h1
        have h1 : some (Value.ref t) = some p.1 := h1
        rw [← Option.some.inj h1]
        refine kk_of j t _ e3 ?_
        rw [ex, List.getElem?_map, h2]
        rfl
    have pairs : ∀ v ∈ kA.toList, Srt.IsPair s'.heap v (kk v).1 (kk v).2 := fun v hv => by
      rw [ek] at hv
      obtain ⟨t, ht, rfl⟩ := List.mem_map.mp hv
      obtain ⟨j, hj⟩ := List.mem_iff_getElem?.mp ht
      obtain ⟨x, hxj⟩ : ∃ x, xs[j]? = some x := ⟨_, List.getElem?_eq_getElem (by rw [rv.length, ← hlen]; exact (List.getElem?_eq_some_iff.mp hj).1)⟩
      rw [kk_of j t x hj hxj]
      obtain ⟨_, its2, r2, o, ho, hc, n, hd⟩ := J.hok _ _ (hts j t x hj hxj)
      obtain ⟨u1, u2, rfl, ri, rj⟩ := vals2 r2
      obtain ⟨t1, rfl⟩ := ri
      obtain ⟨t2, rfl⟩ := rj
      exact ⟨t, o, t1, t2, n, rfl, ho, hc, hd⟩
    have tail : ∀ st : SortSt, failedOf st = none → SrtO.Srtd (SrtO.lt2 fun v u => SrtO.lexB (kk v) (kk u)) (arrOf st).toList → (arrOf st).toList.Perm (kA.zip its.toArray).toList →
        wpAny (model X.prog X.w) X.A.in1.in1 (ksk_tail A false e1 (.ref kS) st) (fun f s' => f = .done (.ret .none) ∧ EP X pins σ Q (.ref A) s') E' s' := fun st hfl hso hpe => by
      have hout : ((arrOf st).map (·.2)).toList.Perm its := by
        rw [Array.toList_map]
        refine (hpe.map _).trans ?_
        rw [ksk_zip, List.map_snd_zip (Nat.le_of_eq (hkz.symm.trans Array.length_toList.symm))]
      have hol : ((arrOf st).map (·.2)).size = its.length := by rw [← Array.length_toList, hout.length_eq]
      have s1 := Heap.SameBut.update s'.heap kS (Obj.mapSeq fun _ => (#[] : Array Value))
      have gA1 : (s'.heap.update kS (Obj.mapSeq fun _ => (#[] : Array Value))).get? A = some (seqObj "list" #[] e1) := (s1.2 A hAk).trans gA
      have s2 := Heap.SameBut.update (s'.heap.update kS (Obj.mapSeq fun _ => (#[] : Array Value))) A (Obj.mapSeq fun _ => (arrOf st).map (·.2))
      obtain ⟨c2, hc2⟩ : ∃ c2, ((s'.heap.update kS (Obj.mapSeq fun _ => (#[] : Array Value))).update A (Obj.mapSeq fun _ => (arrOf st).map (·.2))).get? A = some (seqObj "list" ((arrOf st).map (·.2)) c2) := ⟨_, get?_update_seq gA1 fun _ => (arrOf st).map (·.2)⟩
      unfold ksk_tail
      try dsimp only
      refine wpAny_bind (listUpdate_at gk rfl ?_ (by rw [hkz]; exact hz') (Nat.zero_le _))
      refine wpAny_bind (wpAny_letGo ?_)
      refine wpAny_bind (seqEpoch_at gA1 rfl ?_)
      simp only [Bool.false_eq_true, if_false]
      refine wpAny_bind (listUpdate_at gA1 rfl ?_ (Nat.zero_le _) (by rw [hol]; exact Nat.le_succ_of_le hz'))
      rw [hfl]
      simp only [bne_self_eq_false, Bool.false_eq_true, if_false]
      have I6 := turn1 (t' := s'.toks) J gk (seq_nocell _ _ _) ⟨fk, ownk.2⟩ (fun b o hb e => (s1.2 b hb).trans e)
      have refs : ∀ u ∈ ((arrOf st).map (·.2)).toList, ∃ a, u = Value.ref a := fun u hu => er u (hout.mem_iff.mp hu)
      have I7 := adopt (t' := s'.toks) (u := .lst (((arrOf st).map (·.2)).toList.map backV)) I6 gA1 (seq_nocell _ _ _) ⟨fA, ownA.2⟩ (fun b o hb e => (s2.2 b hb).trans e) ⟨_, hc2⟩
        ⟨by rw [List.length_map, hout.length_eq]; exact hz', ((arrOf st).map (·.2)).toList, c2, vals_back refs, by rw [hc2, Array.toArray_toList]⟩
      refine wpAny_pure ⟨rfl, .ref A, _, I7, rfl, q _ A _ ?_ ownA.1 upd_same ?_ ?_⟩
      · intro b o e
        rw [upd_ne (ne_of_none (s5 _ _ e) fA)]
        exact s5 _ _ e
      · rw [ex]
        exact hout.map backV
      · rw [Array.toList_map, List.map_map, List.pairwise_map]
        refine hso.imp_of_mem fun {p r} hp hr' h => ?_
        have h : SrtO.lexB (kk r.1) (kk p.1) = false := h
        rw [(zip_of p (hpe.mem_iff.mp hp)).1, (zip_of r (hpe.mem_iff.mp hr')).1] at h
        exact h
    unfold ksk_end
    try dsimp only
    simp only [Bool.false_eq_true, if_false]
    by_cases h2 : its.toArray.size < 2
    · rw [if_pos h2, if_pos h2]
      refine wpAny_bind (wpAny_pure ?_)
      rw [StateT.run_pure]
      refine wpAny_bind (wpAny_pure ?_)
      try dsimp only
      refine tail (SortSt.mk' general' (kA.zip its.toArray) #[] 7 none) rfl ?_ (List.Perm.refl _)
      have hl2 : (kA.zip its.toArray).toList.length < 2 := by
        rw [ksk_zip, List.length_zip]
        rw [List.size_toArray] at h2
        omega
      show SrtO.Srtd _ (kA.zip its.toArray).toList
      generalize (kA.zip its.toArray).toList = l at hl2
      match l, hl2 with
      | [], _ => exact List.Pairwise.nil
      | [v], _ => exact List.pairwise_singleton _ _
      | _ :: _ :: l, h => exact absurd h (by rw [List.length_cons, List.length_cons]; omega)
    · rw [if_neg h2, if_neg h2]
      have S := SrtO.pairs_sortableO (prog := X.prog) (w := X.w) (A := X.A.in1.in1) (s := s') (a := A) (vs := kA.toList) (k := kk) (by rw [Array.length_toList, hkz]; rw [List.size_toArray] at h2; omega) pairs (fun o e => by
        rw [gA] at e
        cases e
        exact fun z => by
          injection z with z3
          exact absurd z3 (by decide))
      obtain ⟨κd, hkind, hT⟩ := S s'.heap (fun _ _ _ e => e)
      rw [Array.toArray_toList] at hkind
      refine wpAny_bind (hkind _ _ ?_)
      have hall : SrtO.AllL (fun p : Keyed => p.1 ∈ kA.toList) (kA.zip its.toArray).toList := fun p hp => (zip_of p hp).2.1
      refine wpAny_bind (wpAny_mono (SrtO.wpS_sortO (st0 := SortSt.mk' κd (kA.zip its.toArray) #[] 7 none)
        (Q := fun _ st' => SrtO.Srtd (SrtO.lt2 fun v u => SrtO.lexB (kk v) (kk u)) (arrOf st').toList ∧ SrtO.Stb (SrtO.lt2 fun v u => SrtO.lexB (kk v) (kk u)) (arrOf st').toList (kA.zip its.toArray).toList ∧ failedOf st' = none) (SrtO.swo2 (SrtO.swo_lex kk)) hT rfl hall rfl rfl fun st' a1 a2 a3 => ⟨a1, a2, a3⟩) ?_ fun _ _ e => e)
      rintro ⟨⟨⟩, st'⟩ s'' ⟨rfl, hp1, hp2, hf⟩
      try dsimp only
      exact tail st' hf hp1 hp2.perm
end
end Ky
set_option Elab.async false
set_option maxRecDepth 100000
set_option maxHeartbeats 2000000
namespace Mb
open PySem PySem.Spec PyProof.Rows L2
abbrev s_fall_order : Stmt := top 22
abbrev s_fall_all : Stmt := top 23
def keyOf (b : Ge04.Box) : Int × Int := (-(b.y + (b.h : Int)), (b.number : Int))
theorem key_before (a b : Ge04.Box) : SrtO.lexB (keyOf a) (keyOf b) = Mv.before a b := by
  rw [Bool.eq_iff_iff, SrtO.lexB_iff, Mv.before_iff]
  unfold keyOf
  simp only
  omega
def spOrder (C : Addr) : Sp := fun vs H Q _ => ∃ (p : Addr) (b : Ge04.Box), vs = [.ref p] ∧ BoxAt C H p b ∧ ∀ t, H t = none → Q (.ref t) (upd H t (.tup [.int (keyOf b).1, .int (keyOf b).2]))
def fellV (ps : List (Nat × Nat)) : List V := (ps.filter fun x => x.2 != 0).flatMap fun x => [.int (x.1 : Int), .int (x.2 : Int)]
def spFall (C : Addr) : Sp := fun vs H Q _ => ∃ (L : Addr) (as : List Addr) (f : Addr → Ge04.Box) (d : Nat), vs = [.ref L, .int (d : Int)] ∧ Wld C H L as f ∧
  ∀ H' f' r ps, Keep as H H' → Like f f' → Wld C H' L as f' → H r = none → H' r = some (.lst (fellV ps)) → Ge04.fallAll d (Mv.wd as f) = (Mv.wd as f', ps) → Q (.ref r) H'
def fallStep (d : Nat) (a : Ge04.World × List (Nat × Nat)) (n : Nat) : Ge04.World × List (Nat × Nat) := ((Ge04.fallOne d n a.1).1, a.2 ++ [(n, (Ge04.fallOne d n a.1).2)])
theorem fallAll_eq (d : Nat) (l : Ge04.World) : Ge04.fallAll d l = (Ge04.fallOrder l).foldl (fallStep d) (l, []) := rfl
theorem fellV_more (ps : List (Nat × Nat)) (n c : Nat) : fellV (ps ++ [(n, c)]) = fellV ps ++ (if 0 < c then [.int (n : Int), .int (c : Int)] else []) := by
  unfold fellV
  rw [List.filter_append, List.flatMap_append]
  congr 1
  rw [List.filter_cons, List.filter_nil]
  by_cases h : c = 0
  · subst h
    rfl
  · have e : ((n, c).2 != 0) = true := by simpa using h
    rw [e, if_pos rfl, if_pos (by omega)]
    rfl
theorem fellV_len (ps : List (Nat × Nat)) : (fellV ps).length ≤ 2 * ps.length := by
  unfold fellV
  rw [List.length_flatMap]
  have : ∀ l : List (Nat × Nat), (l.map fun x => ([V.int (x.1 : Int), V.int (x.2 : Int)] : List V).length).sum = 2 * l.length := by
    intro l
    induction l with
    | nil => rfl
    | cons a t ih =>
      rw [List.map_cons, List.sum_cons, ih, List.length_cons]
      simp only [List.length_cons, List.length_nil]
      omega
  rw [this]
  have := List.length_filter_le (fun x : Nat × Nat => x.2 != 0) ps
  omega
theorem fold_len (d : Nat) : ∀ (ns : List Nat) (a : Ge04.World × List (Nat × Nat)), (ns.foldl (fallStep d) a).2.length = a.2.length + ns.length
  | [], _ => rfl
  | n :: r, a => by
    rw [List.foldl_cons, fold_len d r]
    unfold fallStep
    rw [List.length_append, List.length_cons]
    simp only [List.length_cons, List.length_nil]
    omega
def unref : V → Addr
  | .ref a => a
  | _ => 0
theorem unref_map (xs : List Addr) : (xs.map V.ref).map unref = xs := by
  rw [List.map_map]
  have : (unref ∘ V.ref) = id := rfl
  rw [this, List.map_id]
theorem refs_of {ys : List V} {xs : List Addr} (p : ys.Perm (xs.map V.ref)) : ∃ zs : List Addr, ys = zs.map V.ref ∧ zs.Perm xs := by
  refine ⟨ys.map unref, ?_, ?_⟩
  · rw [List.map_map]
    have : ys.map (V.ref ∘ unref) = ys.map id := List.map_congr_left fun y hy => by
      obtain ⟨a, _, rfl⟩ := List.mem_map.mp (p.mem_iff.mp hy)
      rfl
    rw [this, List.map_id]
  · have := p.map unref
    rw [unref_map] at this
    exact this
def keyV (f : Addr → Ge04.Box) (v : V) : Int × Int := keyOf (f (unref v))
section
variable {P : Program} {w : World} {K : PySem.W.Frag} {mg : Str → Option Value} {base : Heap} {C : Addr}
theorem sc_fall_order : FnScope ["box"] ["box"] (defScope s_fall_order) := ⟨rfl, rfl, rfl, by decide +kernel, rfl, by decide +kernel, by decide +kernel⟩
theorem ok_fall_order {fa : Addr} {fd : FuncData} (F : Fun K "fall_order" "fall_order" s_fall_order fa fd) (T : Txt K mg C) : FnOk P w K mg base CX0 1 fa fd ["box"] (spOrder C) := by
  refine F.ok sc_fall_order (fun vs H Q E h => ?_) (fun cdv A outer s H vs Q E hr h => ?_)
  · obtain ⟨_, _, rfl, _⟩ := h
    rfl
  · obtain ⟨p, b, rfl, ⟨dx, hb⟩, q⟩ := h
    refine ⟨_, pss_one (ps_ret (pe_tup (pa_cons (pe_un un_neg (pe_op op_add (pe_fld (pv 0) rfl) (pe_fld (pv 0) rfl))) (pa_cons (pe_fld (pv 0) rfl) pa_nil)))), ?_⟩
    exact ⟨_, rfl, p, C, dx, _, _, rfl, hb, T.cl, T.nDown, lk_down b, _, rfl, p, C, dx, _, _, rfl, hb, T.cl, T.nHigh, lk_high b, _, _, rfl, rfl, _, rfl, _, rfl, p, C, dx, _, _, rfl, hb, T.cl, T.nNumber, lk_number b, (by show 2 ≤ sizeLine; decide), q⟩
theorem sc_fall_all : FnScope ["boxes", "most", "fell", "fallers", "box", "far"] ["boxes", "most"] (defScope s_fall_all) := ⟨rfl, rfl, rfl, by decide +kernel, rfl, by decide +kernel, by decide +kernel⟩
theorem ok_fall_all {fa : Addr} {fd : FuncData} (F : Fun K "fall_all" "fall_all" s_fall_all fa fd) (T : Txt K mg C) (B : Len mg) (DH : Df P w K mg base "hard_ones" 1 ["boxes"] (spHard C)) (DO : Df P w K mg base "fall_order" 1 ["box"] (spOrder C)) (DS : Df P w K mg base "shift" 1 ["box", "over", "under"] (spShift C))
    (DW : Df P w K mg base "in_way" 3 ["boxes", "box", "over", "under"] (spInWay C)) : FnOk P w K mg base CX0 4 fa fd ["boxes", "most"] (spFall C) := by
  refine F.ok sc_fall_all (fun vs H Q E h => ?_) (fun cdv A outer s H vs Q E hr h => ?_)
  · obtain ⟨_, _, _, _, rfl, _⟩ := h
    rfl
  · obtain ⟨L, as, f, d, rfl, W, q⟩ := h
    have hr1 : Room 1 _ := hr.mono (by decide)
    have few := W.few
    obtain ⟨fo, fdo, FO, mgo, kpo, bo⟩ := DO
    refine ⟨_, pss_cons (ps_set (i := 2) sc_fall_all.nd rfl (Or.inl rfl) (pe_lst pa_nil))
      (pss_cons (ps_setLc (i := 3) (own := [("box", 4)]) (g := gName 4) (tt := tTest (tOp rEq (tFld K (tVar 4) "pushed") (tC (.int 1)))) (te := tVar 4) rfl sc_fall_all.nd rfl rfl
          (sw_true rfl rfl rfl (by decide +kernel)) (pi_list (pe_df DH hr1 (pa_cons (pv 0) pa_nil))) (blkOk_by (N := ["boxes", "most", "fell", "fallers", "box", "far"]) (sc := defScope s_fall_all) (by decide +kernel))
          (by intro _ _ _ _ _; exact pg_name (i := 4) sc_fall_all.nd rfl (Or.inl rfl))
          (by intro _ _ _ _ _; exact pts_one (pt_cmpR op_eq (pe_fld (pv 4) rfl) pe_int (nomark _)))
          (by intro _ _ _ _ _; exact pv 4))
      (pss_cons (ps_for PassesOwn.never rfl (pi_list (pe_callBK (Ky.cr_sortedBy FO hr bo) (by rfl) B.sorted (by decide +kernel) (pa_cons (pv 3) pa_nil) (pk_cons (pe_glob (v := V.ref fo) rfl mgo rfl) pk_nil))) (pg_name (i := 4) sc_fall_all.nd rfl (Or.inl rfl))
        (pss_cons (ps_set (i := 5) sc_fall_all.nd rfl (Or.inl rfl) pe_int)
        (C8.pss_cut (ps_while PassesOwn.never (PW.pt (pw_and (pt_cmpR op_lt (pv 5) (pv 1) (nomark _)) (pw_and1 (pt_not (pt_truth (pe_df DW hr (pa_cons (pv 0) (pa_cons (pv 4) (pa_cons pe_int (pa_cons pe_int pa_nil))))) (by intro _; rfl))))))
          (pss_cons (ps_expr (pe_df DS hr1 (pa_cons (pv 4) (pa_cons pe_int (pa_cons pe_int pa_nil))))) (pss_one (ps_aug (i := 5) sc_fall_all.nd rfl (.inl rfl) pe_int ip_add))))
        (pss_one (ps_if (pt_cmpR op_gt (pv 5) pe_int (nomark _)) (pss_one (ps_expr (pe_bm PySem.F.plainAttrs_list PySem.F.slot_list_extend PySem.F.type_list_extend mt_extend (pv 2) (pa_cons (pe_lst (pa_cons (pe_fld (pv 4) rfl) (pa_cons (pv 5) pa_nil))) pa_nil)))) pss_nil)))))
      (pss_one (ps_ret (pv 2))))), ?_⟩
    refine ⟨Nat.zero_le _, fun R hR => ?_⟩
    have s0 : Same H (upd H R (.lst [])) := Same.new hR
    have W0 := W.same s0
    refine ⟨_, rfl, L, as, f, rfl, W0.lst, by omega, W0.bxs, fun g1 hg1 => ?_⟩
    have s01 := s0.trans (Same.new (o := .lst ((hards f as).map V.ref)) hg1)
    have lh := hards_len f as
    refine ⟨g1, rfl, ⟨_, SqL.of upd_same⟩, fun O hO => lc_gen (K := K) (fun a => (f a).pushed) V.ref (SqL.of upd_same) hO (by omega) (fun _ => rfl) (fun a ha acc S r => ?_) (fun a ha _ acc S r => ⟨_, rfl, r⟩) ?_⟩
    · obtain ⟨d1, h1⟩ := ((W.bxs a (mem_hards ha)).same s01).new (o := .lst acc) hO
      refine ⟨_, rfl, a, C, d1, _, _, rfl, h1, T.cl, T.nPushed, lk_pushed _, rfl, _, rfl, ?_⟩
      rw [bi_eq]
      exact r
    have eF : ((hards f as).filter fun a => (f a).pushed) = Mv.fallers as f := by
      unfold hards Mv.fallers
      rw [List.filter_filter]
      exact List.filter_congr fun a _ => Bool.and_comm _ _
    rw [eF]
    have s1 := s01.trans (Same.new (o := .lst ((Mv.fallers as f).map V.ref)) hO)
    have hR1 := (Same.new (o := .lst ((Mv.fallers as f).map V.ref)) hO) _ _ ((Same.new (o := .lst ((hards f as).map V.ref)) hg1) _ _ (upd_same (H := H) (a := R) (o := .lst [])))
    -- for box in sorted(fallers, key=fall_order)
    refine ⟨_, rfl, O, (Mv.fallers as f).map V.ref, keyV f, rfl, rfl, SqL.of upd_same, (fun x hx => ?_), (fun x hx H' s' Q' E' qk => ?_), fun H5 S ys s5 hS hS5 pe so => ?_⟩
    · obtain ⟨a, _, rfl⟩ := List.mem_map.mp hx
      exact ⟨a, rfl⟩
    · obtain ⟨a, ha, rfl⟩ := List.mem_map.mp hx
      exact ⟨a, f a, rfl, (W.bxs a (List.mem_filter.mp ha).1).same (s1.trans s'), qk⟩
    obtain ⟨zs, rfl, pz⟩ := refs_of pe
    have s6 := s1.trans s5
    have W5 := W.same s6
    have szs : ∀ a ∈ zs, a ∈ as := fun a ha => (List.mem_filter.mp (pz.mem_iff.mp ha)).1
    have eo : Mv.nums f zs = Ge04.fallOrder (Mv.wd as f) := by
      refine Mv.order_eq W.good pz ?_
      rw [List.pairwise_map] at so
      exact so.imp fun {a b} h => by rw [← key_before]; exact h
    have lz : zs.length ≤ 100 := Nat.le_trans (Nat.le_of_eq pz.length_eq) (Nat.le_trans (List.length_filter_le _ _) few)
    have hS0 : H S = none := s1.free hS
    have nRS : S ≠ R := fun z => by rw [z, hR1] at hS; cases hS
    refine ⟨S, rfl, ⟨_, SqL.of hS5⟩, for_list (K := K) (a := S) (xs := zs.map V.ref) (fun i σ H' => ∃ (v4 v5 : Option V) (f' : Addr → Ge04.Box) (ps : List (Nat × Nat)), σ = [some (.ref L), some (.int (d : Int)), some (.ref R), some (.ref O), v4, v5] ∧ Keep as H H' ∧ Like f f' ∧ Wld C H' L as f' ∧
      H' R = some (.lst (fellV ps)) ∧ H' S = some (.lst (zs.map V.ref)) ∧ ((Mv.nums f zs).take i).foldl (fallStep d) (Mv.wd as f, []) = (Mv.wd as f', ps)) ⟨none, none, f, [], rfl, Keep.of s6, Like.refl _, W5, s5 _ _ hR1, hS5, rfl⟩ (fun i σ H' _ ⟨_, _, _, _, _, _, _, _, _, h, _⟩ => SqL.of h) ?_ ?_⟩
    · rintro i x σ H' hx ⟨v4, v5, f', ps, rfl, kp, lk, W', hR', hS', ef⟩
      obtain ⟨a, ha, rfl, hm⟩ := get_ref hx
      have haas := szs a hm
      have en : (f' a).number = (f a).number := lk.number a
      have lps : ps.length ≤ 100 := by
        have z := fold_len d ((Mv.nums f zs).take i) (Mv.wd as f, [])
        rw [ef] at z
        have : ((Mv.nums f zs).take i).length ≤ zs.length := by
          rw [List.length_take]
          unfold Mv.nums
          rw [List.length_map]
          omega
        simp only [List.length_nil] at z
        omega
      have more : ((Mv.nums f zs).take (i + 1)).foldl (fallStep d) (Mv.wd as f, []) = fallStep d (Mv.wd as f', ps) (f a).number := by
        have : (Mv.nums f zs)[i]? = some (f a).number := by
          unfold Mv.nums
          rw [List.getElem?_map, ha]
          rfl
        rw [take_more this, List.foldl_append, ef]
        rfl
      refine ⟨fun σ' H1 => ∃ (c : Nat) (g : Addr → Ge04.Box), σ' = [some (.ref L), some (.int (d : Int)), some (.ref R), some (.ref O), some (.ref a), some (.int (c : Int))] ∧ Keep as H H1 ∧ Like f g ∧ Wld C H1 L as g ∧ H1 R = some (.lst (fellV ps)) ∧ H1 S = some (.lst (zs.map V.ref)) ∧
        Ge04.fallOne d (f a).number (Mv.wd as f') = (Mv.wd as g, c), ?_, ?_⟩
      · refine ⟨fun j σ H1 => ∃ (c : Nat) (g : Addr → Ge04.Box), σ = [some (.ref L), some (.int (d : Int)), some (.ref R), some (.ref O), some (.ref a), some (.int (c : Int))] ∧ Keep as H H1 ∧ Like f g ∧ Wld C H1 L as g ∧ H1 R = some (.lst (fellV ps)) ∧ H1 S = some (.lst (zs.map V.ref)) ∧
          Mv.FallInv (f a).number d (Mv.wd as f') c (Mv.wd as g) ∧ j = d - c, ⟨_, 0, f', rfl, kp, lk, W', hR', hS', Mv.fallInv_start, rfl⟩, ?_⟩
        rintro j σ H1 ⟨c, g, rfl, k1, l1, W1, hR1, hS1, I, rfl⟩
        have eg : (g a).number = (f a).number := l1.number a
        refine ⟨_, rfl, _, rfl, _, _, rfl, rfl, _, rfl, ?_⟩
        refine ite2 (fun z => ?_) (fun z => ?_)
        · have lt : c < d := by
            have z := of_decide_eq_true z
            omega
          refine ⟨_, rfl, _, rfl, L, a, as, g, g a, 0, 1, rfl, W1.lst, by omega, W1.bxs, W1.bxs a haas, fun H2 r2 s2 hr2 hl2 => ⟨_, Or.inl ⟨_, SqL.of hl2, rfl⟩, ?_⟩⟩
          rw [List.isEmpty_map]
          rw [← eg] at I
          cases ew : Mv.inWay g as (g a) 0 1 with
          | nil =>
            refine iteT ?_
            refine ⟨fun σ' H' => ∃ j', j' < d - c ∧ ∃ (c : Nat) (g : Addr → Ge04.Box), σ' = [some (.ref L), some (.int (d : Int)), some (.ref R), some (.ref O), some (.ref a), some (.int (c : Int))] ∧ Keep as H H' ∧ Like f g ∧ Wld C H' L as g ∧ H' R = some (.lst (fellV ps)) ∧ H' S = some (.lst (zs.map V.ref)) ∧
              Mv.FallInv (f a).number d (Mv.wd as f') c (Mv.wd as g) ∧ j' = d - c, fun _ _ z => z, ?_⟩
            have W2 := W1.same s2
            obtain ⟨d1, h1⟩ := W2.bxs a haas
            have nx := Mv.fallInv_next W1.good haas I lt ew
            rw [eg] at nx
            have W3 := W2.shift (dx := 0) (dy := 1) haas h1
            refine ⟨_, rfl, a, d1, _, 0, 1, rfl, h1, _, rfl, _, _, rfl, rfl, d - (c + 1), by omega, c + 1, Mv.sh g [a] 0 1, rfl, (k1.trans (Keep.of s2)).trans (Keep.shift haas), l1.trans (Like.sh ..), W3, ?_, ?_, nx, rfl⟩
            · exact (Keep.shift haas) _ _ (s2 _ _ hR1) (W2.notIn (s2 _ _ hR1))
            · exact (Keep.shift haas) _ _ (s2 _ _ hS1) (W2.notIn (s2 _ _ hS1))
          | cons y t =>
            refine iteF ?_
            refine ⟨c, g, rfl, k1.trans (Keep.of s2), l1, W1.same s2, s2 _ _ hR1, s2 _ _ hS1, ?_⟩
            have := Mv.fallInv_stop W1.good haas I (by rw [ew]; exact List.cons_ne_nil _ _)
            rw [eg] at this
            exact this
        · have nlt : ¬ c < d := fun y => z (decide_eq_true (by omega))
          exact iteF ⟨c, g, rfl, k1, l1, W1, hR1, hS1, Mv.fallInv_all I nlt⟩
      · rintro σ' H1 ⟨c, g, rfl, k1, l1, W1, hR1, hS1, e1⟩
        have eg : (g a).number = (f a).number := l1.number a
        have emore : fallStep d (Mv.wd as f', ps) (f a).number = (Mv.wd as g, ps ++ [((f a).number, c)]) := by
          unfold fallStep
          rw [e1]
        rw [emore] at more
        refine ⟨_, rfl, _, _, rfl, rfl, _, rfl, ?_⟩
        have fm := fellV_more ps (f a).number c
        refine ite2 (fun z => ?_) (fun z => ?_)
        · have pos : 0 < c := by
            have z := of_decide_eq_true z
            omega
          rw [if_pos pos] at fm
          obtain ⟨d1, h1⟩ := W1.bxs a haas
          refine ⟨_, rfl, .inl ⟨rfl, _, SqL.of hR1⟩, _, rfl, a, C, d1, _, _, rfl, h1, T.cl, T.nNumber, lk_number _, _, rfl, (by show 2 ≤ sizeLine; decide), fun Y hY => ?_⟩
          have sY : Same H1 (upd H1 Y (.lst [.int ((g a).number : Int), .int (c : Int)])) := Same.new hY
          have lf := fellV_len ps
          have WY := W1.same sY
          refine ⟨R, Y, _, _, rfl, rfl, sY _ _ hR1, upd_same, Nat.le_of_lt (small1000 (by show _ + 2 ≤ 1000; omega)), some (.ref a), some (.int (c : Int)), g, ps ++ [((f a).number, c)], rfl, ?_, l1, ?_, ?_, ?_, more⟩
          · intro b o e n
            rw [upd_ne (ne_of_none e hR)]
            exact sY _ _ (k1 _ _ e n)
          · have nRL : L ≠ R := ne_of_none W.lst hR
            refine ⟨by rw [upd_ne nRL]; exact WY.lst, fun b hb => (WY.bxs b hb).lst (sY _ _ hR1), WY.good, WY.few⟩
          · rw [upd_same, fm, eg]
          · rw [upd_ne nRS]
            exact sY _ _ hS1
        · have pos : ¬ 0 < c := fun y => z (decide_eq_true (by omega))
          rw [if_neg pos, List.append_nil] at fm
          refine ⟨some (.ref a), some (.int (c : Int)), g, ps ++ [((f a).number, c)], rfl, k1, l1, W1, ?_, hS1, more⟩
          rw [fm]
          exact hR1
    · rintro σ H' ⟨v4, v5, f', ps, rfl, kp, lk, W', hR', hS', ef⟩
      refine ⟨_, rfl, q H' f' R ps kp lk W' hR hR' ?_⟩
      rw [List.length_map, List.take_of_length_le (by unfold Mv.nums; rw [List.length_map]; exact Nat.le_refl _), eo] at ef
      exact ef
end
end Mb
set_option Elab.async false
set_option maxRecDepth 100000
set_option maxHeartbeats 2000000
namespace Mb
open PySem PySem.Spec PyProof.Rows L2
def wF (L : Addr) (n : Nat) : List (Str × V) := [("boxes", .ref L), ("fresh", .int (n : Int))]
theorem lk_boxes (L : Addr) (n : Nat) : (wF L n).lookup ("boxes" : Str) = some (V.ref L) := lk_here
theorem lk_fresh (L : Addr) (n : Nat) : (wF L n).lookup ("fresh" : Str) = some (V.int (n : Int)) := (lk_past (by decide +kernel)).trans lk_here
theorem put_boxes (L M : Addr) (n : Nat) : putF ("boxes" : Str) (V.ref M) (wF L n) = wF M n := put_here
theorem put_fresh (L : Addr) (n m : Nat) : putF ("fresh" : Str) (V.int (m : Int)) (wF L n) = wF L m := (put_past (by decide +kernel)).trans (congrArg _ put_here)
theorem wF_new (L : Addr) : putF ("fresh" : Str) (V.int 0) (putF ("boxes" : Str) (V.ref L) []) = wF L 0 := by
  rw [put_nil, put_past (by decide +kernel), put_nil]
  rfl
structure TxtW (K : PySem.W.Frag) (mg : Str → Option Value) (CW : Addr) : Prop where
  cl : Cls K CW
  nBoxes : NoAttr K CW "boxes"
  nFresh : NoAttr K CW "fresh"
  gWorld : mg "World" = some (.ref CW)
  gMost : ∃ t, mg "MOST_BOXES" = some (.int 16 t)
  gBox : ∃ t, mg "LARGEST_BOX" = some (.int 50 t)
  gRect : ∃ t, mg "LARGEST_RECTANGLE" = some (.int 2000 t)
  gMove : ∃ t, mg "LONGEST_MOVE" = some (.int 60 t)
  gOut : ∃ t, mg "OUT_OF_RANGE" = some (.int (-1) t)
  gNo : ∃ t, mg "NO_SUCH_BOX" = some (.int (-2) t)
  gTaken : ∃ t, mg "PLACE_TAKEN" = some (.int (-4) t)
  gToo : ∃ t, mg "TOO_MUCH" = some (.int (-5) t)
  gRay : ∃ t, mg "LONGEST_RAY" = some (.int 300 t)
  gNone : ∃ t, mg "NO_SUCH_PLACE" = some (.int (-6) t)
structure StOk (as : List Addr) (f : Addr → Ge04.Box) (n : Nat) : Prop where
  num : ∀ a ∈ as, (f a).number < n
  ok : ∀ a ∈ as, Ge04.boxOk (f a) = true
  few : as.length ≤ 16
  ord : (as.map fun a => (f a).number).Pairwise (· < ·)
/-- the world object at wa, its list at L, is the state st -/
def WoAt (CW C : Addr) (H : Hp) (wa L : Addr) (st : Ge04.St) : Prop := ∃ (as : List Addr) (f : Addr → Ge04.Box) (dx : Addr), H wa = some (.ins CW dx (wF L st.given)) ∧ Wld C H L as f ∧ st.boxes = Mv.wd as f ∧ StOk as f st.given
/-- all but the world and its list is as it was -/
def Fr2 (wa L : Addr) (H H' : Hp) : Prop := ∀ b o, H b = some o → b ≠ wa → b ≠ L → H' b = some o
theorem Fr2.of {wa L : Addr} {H H' : Hp} (s : Same H H') : Fr2 wa L H H' := fun b o e _ _ => s b o e
theorem WoAt.same {CW C : Addr} {H H' : Hp} {wa L : Addr} {st : Ge04.St} (w : WoAt CW C H wa L st) (s : Same H H') : WoAt CW C H' wa L st := by
  obtain ⟨as, f, dx, h1, h2, h3, h4⟩ := w
  exact ⟨as, f, dx, s _ _ h1, h2.same s, h3, h4⟩
def intsV (l : List Int) : List V := l.map V.int
/-- what answers the call p of the state -/
def spCall (K : PySem.W.Frag) (CW C : Addr) (p : Int) : Sp := fun vs H Q _ => ∃ (wa L row : Addr) (args : List Int) (st : Ge04.St), vs = [.ref wa, .ref row] ∧ SqL K H row (intsV args) ∧ WoAt CW C H wa L st ∧ Ge04Neutral.asked1 (p :: args) = true ∧
  ∀ (H' : Hp) (r L' : Addr), Fr2 wa L H H' → (L' = L ∨ H L' = none) → H r = none → r ≠ L' → H' r = some (.lst (intsV (Ge04Neutral.step st (p :: args)).2)) → WoAt CW C H' wa L' (Ge04Neutral.step st (p :: args)).1 → Q (.ref r) H'
theorem WoAt.fresh {CW C : Addr} {H : Hp} {wa L r : Addr} {st : Ge04.St} (w : WoAt CW C H wa L st) (h : H r = none) : r ≠ L := by
  obtain ⟨as, f, dx, h1, h2, h3, h4⟩ := w
  exact (ne_of_none h2.lst h).symm
abbrev s_world_init : Stmt := inClass (top 35) 0
abbrev s_answer_gone : Stmt := top 43
abbrev s_answer_get : Stmt := top 46
abbrev s_answer_within : Stmt := top 47
def spInitW (CW : Addr) : Sp := fun vs H Q _ => ∃ (p dx : Addr), vs = [.ref p] ∧ H p = some (.ins CW dx []) ∧ ∀ L, H L = none → Q .non (upd (upd H L (.lst [])) p (.ins CW dx (wF L 0)))
section
variable {P : Program} {w : World} {K : PySem.W.Frag} {mg : Str → Option Value} {base : Heap} {C CW : Addr}
theorem sc_world_init : FnScope ["self"] ["self"] (defScope s_world_init) := ⟨rfl, rfl, rfl, by decide +kernel, rfl, by decide +kernel, by decide +kernel⟩
theorem ok_world_init {fa : Addr} {fd : FuncData} (F : Fun K "__init__" "World.__init__" s_world_init fa fd) (T : TxtW K mg CW) : FnOk P w K mg base CX0 1 fa fd ["self"] (spInitW CW) := by
  refine F.ok sc_world_init (fun vs H Q E h => ?_) (fun cdv A outer s H vs Q E hr h => ?_)
  · obtain ⟨_, _, rfl, _⟩ := h
    rfl
  · obtain ⟨p, dx, rfl, hp, q⟩ := h
    refine ⟨_, pss_cons (ps_fld (pv 0) (pe_lst pa_nil) rfl) (pss_one (ps_fld (pv 0) pe_int rfl)), ?_⟩
    refine ⟨Nat.zero_le _, fun L hL => ?_⟩
    have hp1 : (upd H L (.lst [])) p = some (.ins CW dx []) := by rw [upd_ne (ne_of_none hp hL)]; exact hp
    refine ⟨_, rfl, p, CW, dx, [], rfl, hp1, T.cl, T.nBoxes, (by show 0 < 1000; decide), _, rfl, p, CW, dx, _, rfl, upd_same, T.cl, T.nFresh, (by show 1 < 1000; decide), ?_⟩
    rw [upd_upd, wF_new]
    exact q L hL
theorem sc_answer_get : FnScope ["world", "row", "box"] ["world", "row"] (defScope s_answer_get) := ⟨rfl, rfl, rfl, by decide +kernel, rfl, by decide +kernel, by decide +kernel⟩
theorem ok_answer_get {fa : Addr} {fd : FuncData} (F : Fun K "answer_get" "answer_get" s_answer_get fa fd) (T : TxtW K mg CW) (DN : Df P w K mg base "box_numbered" 1 ["boxes", "number"] (spNumbered C)) (DR : Df P w K mg base "row_of" 1 ["box"] (spRow C)) :
    FnOk P w K mg base CX0 2 fa fd ["world", "row"] (spCall K CW C 4) := by
  refine F.ok sc_answer_get (fun vs H Q E h => ?_) (fun cdv A outer s H vs Q E hr h => ?_)
  · obtain ⟨_, _, _, _, _, rfl, _⟩ := h
    rfl
  · obtain ⟨wa, L, row, args, st, rfl, hrow, wo, ask, q⟩ := h
    obtain ⟨n, rfl, ec⟩ := Mv.call4 ask
    rw [Mv.step_of ec] at q
    have wo0 := wo
    obtain ⟨as, f, dx, hw, W, eb, ok⟩ := wo
    obtain ⟨tN, gN⟩ := T.gNo
    refine ⟨_, pss_cons (ps_set (i := 2) sc_answer_get.nd rfl (Or.inl rfl) (pe_df DN hr (pa_cons (pe_fld (pv 0) rfl) (pa_cons (pe_ix ix_list (pv 1) pe_int (fun _ _ => rfl)) pa_nil))))
      (pss_cons (ps_if (pt_cmpR op_isN (pv 2) pe_non (nomark _)) (pss_one (ps_ret (pe_lst (pa_cons (pe_glob (v := V.int (-2)) rfl gN ⟨_, rfl⟩) pa_nil)))) pss_nil)
      (pss_one (ps_ret (pe_op op_cat (pe_lst (pa_cons pe_int pa_nil)) (pe_df DR hr (pa_cons (pv 2) pa_nil)))))), ?_⟩
    refine ⟨_, rfl, wa, CW, dx, _, _, rfl, hw, T.cl, T.nBoxes, lk_boxes _ _, _, rfl, row, _, 0, .int (n : Int), rfl, rfl, hrow, rfl, L, as, f, n, rfl, W.lst, W.bxs, fun a ha e => ?_, fun no => ?_⟩
    · refine ⟨_, rfl, rfl, _, rfl, iteF ?_⟩
      refine ⟨(by show 1 ≤ sizeLine; decide), fun r1 hr1 => ?_⟩
      have s1 : Same H (upd H r1 (.lst [.int 0])) := Same.new hr1
      refine ⟨_, rfl, a, f a, rfl, (W.bxs a ha).same s1, fun r2 hr2 => ?_⟩
      have s2 := s1.trans (Same.new (o := .lst (rowV (f a))) hr2)
      refine ⟨r1, r2, _, _, rfl, rfl, (by rw [upd_ne (ne_of_none upd_same hr2)]; exact upd_same), upd_same, (by show 1 + 7 ≤ sizeLine; decide), fun r3 hr3 => ?_⟩
      have s3 := s2.trans (Same.new (o := .lst ([.int 0] ++ rowV (f a))) hr3)
      have ef : Ge04.find st.boxes n = some (f a) := by
        rw [eb]
        have : (f a).number = n := by omega
        rw [← this]
        exact Mv.find_wd W.good ha
      refine q _ r3 L (Fr2.of s3) (.inl rfl) (s2.free hr3) (wo0.fresh (s2.free hr3)) ?_ (wo0.same s3)
      rw [upd_same]
      unfold Ge04.step
      dsimp only
      rw [ef]
      rfl
    · refine ⟨_, rfl, rfl, _, rfl, iteT ?_⟩
      refine ⟨(by show 1 ≤ sizeLine; decide), fun r1 hr1 => ?_⟩
      have s1 : Same H (upd H r1 (.lst [.int (-2)])) := Same.new hr1
      have ef : Ge04.find st.boxes n = none := by
        rw [eb]
        exact Mv.find_none fun a ha e => no a ha (by rw [e])
      refine q _ r1 L (Fr2.of s1) (.inl rfl) hr1 (wo0.fresh hr1) ?_ (wo0.same s1)
      rw [upd_same]
      unfold Ge04.step
      dsimp only
      rw [ef]
      rfl
end
end Mb
set_option Elab.async false
set_option maxRecDepth 100000
set_option maxHeartbeats 2000000
namespace Mb
open PySem PySem.Spec PyProof.Rows L2
theorem far_place (x y : Int) : (far x || far y) = !Ge04.placeOk x y := by
  unfold far Ge04.placeOk
  rw [Bool.eq_iff_iff]
  simp only [Bool.or_eq_true, decide_eq_true_eq, Bool.not_eq_true', Bool.and_eq_false_iff, decide_eq_false_iff_not]
  omega
theorem size_rect (w h : Nat) : (!inSize (w : Int) (h : Int) 2000) = true ↔ (w = 0 ∨ 2000 < w ∨ h = 0 ∨ 2000 < h) := by
  unfold inSize
  simp only [Bool.not_eq_true', Bool.and_eq_false_iff, decide_eq_false_iff_not]
  omega
theorem in_rect (b : Ge04.Box) (x y : Int) (w h : Nat) : (meets b.x b.w x w && meets b.y b.h y h) = Ge04.over b ⟨0, x, y, w, h, false, false, false⟩ := by
  unfold meets Ge04.over
  rw [Bool.and_assoc]
theorem ints_nums (f : Addr → Ge04.Box) (as : List Addr) : intsV (Ge04.ints (as.length :: Mv.nums f as)) = V.int (as.length : Int) :: numV f as := by
  unfold intsV Ge04.ints Mv.nums numV
  rw [List.map_cons, List.map_cons, List.map_map, List.map_map]
  rfl
section
variable {P : Program} {w : World} {K : PySem.W.Frag} {mg : Str → Option Value} {base : Heap} {C CW : Addr}
theorem sc_answer_within : FnScope ["world", "row", "inside", "box"] ["world", "row"] (defScope s_answer_within) := ⟨rfl, rfl, rfl, by decide +kernel, rfl, by decide +kernel, by decide +kernel⟩
theorem ok_answer_within {fa : Addr} {fd : FuncData} (F : Fun K "answer_within" "answer_within" s_answer_within fa fd) (T : TxtW K mg CW) (B : Len mg) (DB : Df P w K mg base "is_beyond" 1 ["across", "down"] spBeyond) (DZ : Df P w K mg base "is_size" 1 ["wide", "high", "largest"] spSize)
    (DP : Df P w K mg base "has_place_in" 2 ["box", "across", "down", "wide", "high"] (spPlace C)) (DN : Df P w K mg base "counted" 2 ["boxes"] (spCounted C)) : FnOk P w K mg base CX0 3 fa fd ["world", "row"] (spCall K CW C 5) := by
  refine F.ok sc_answer_within (fun vs H Q E h => ?_) (fun cdv A outer s H vs Q E hr h => ?_)
  · obtain ⟨_, _, _, _, _, rfl, _⟩ := h
    rfl
  · obtain ⟨wa, L, row, args, st, rfl, hrow, wo, ask, q⟩ := h
    obtain ⟨x, y, wd, hg, rfl, ec⟩ := Mv.call5 ask
    rw [Mv.step_of ec] at q
    have wo0 := wo
    obtain ⟨as, f, dx, hw, W, eb, ok⟩ := wo
    obtain ⟨tO, gO⟩ := T.gOut
    obtain ⟨tR, gR⟩ := T.gRect
    have hr1 : Room 1 _ := hr.mono (by decide)
    have few := W.few
    refine ⟨_, pss_cons (ps_if (PW.pt (pw_or (pt_val (pe_df DB hr1 (pa_cons (pe_ix ix_list (pv 1) pe_int (fun _ _ => rfl)) (pa_cons (pe_ix ix_list (pv 1) pe_int (fun _ _ => rfl)) pa_nil))))
          (pw_or1 (pt_not (pt_val (pe_df DZ hr1 (pa_cons (pe_ix ix_list (pv 1) pe_int (fun _ _ => rfl)) (pa_cons (pe_ix ix_list (pv 1) pe_int (fun _ _ => rfl)) (pa_cons (pe_glob (v := V.int 2000) rfl gR ⟨_, rfl⟩) pa_nil)))))))))
        (pss_one (ps_ret (pe_lst (pa_cons (pe_glob (v := V.int (-1)) rfl gO ⟨_, rfl⟩) pa_nil)))) pss_nil)
      (pss_cons (ps_setLc (i := 2) (own := [("box", 3)]) (g := gName 3) (tt := tB (tCall (spPlace C) [] E0 (tCons (tVar 3) (tCons (tOp (rIxL K) (tVar 1) (tC (.int 0))) (tCons (tOp (rIxL K) (tVar 1) (tC (.int 1))) (tCons (tOp (rIxL K) (tVar 1) (tC (.int 2))) (tCons (tOp (rIxL K) (tVar 1) (tC (.int 3))) tNil))))))) (te := tVar 3) rfl sc_answer_within.nd rfl rfl
          (sw_true rfl rfl rfl (by decide +kernel)) (pi_list (pe_fld (pv 0) rfl)) (blkOk_by (N := ["world", "row", "inside", "box"]) (sc := defScope s_answer_within) (by decide +kernel))
          (by intro _ _ _ _ _; exact pg_name (i := 3) sc_answer_within.nd rfl (Or.inl rfl))
          (by intro _ _ _ _ _; exact pts_one (pt_val (pe_df DP hr (pa_cons (pv 3) (pa_cons (pe_ix ix_list (pv 1) pe_int (fun _ _ => rfl)) (pa_cons (pe_ix ix_list (pv 1) pe_int (fun _ _ => rfl)) (pa_cons (pe_ix ix_list (pv 1) pe_int (fun _ _ => rfl)) (pa_cons (pe_ix ix_list (pv 1) pe_int (fun _ _ => rfl)) pa_nil))))))))
          (by intro _ _ _ _ _; exact pv 3))
      (pss_one (ps_ret (pe_df DN hr (pa_cons (pv 2) pa_nil))))), ?_⟩
    have out : ∀ r1, H r1 = none → (Ge04.placeOk x y = false ∨ wd = 0 ∨ 2000 < wd ∨ hg = 0 ∨ 2000 < hg) → Q (.ref r1) (upd H r1 (.lst [.int (-1)])) := fun r1 hr1 c => by
      have s1 : Same H (upd H r1 (.lst [.int (-1)])) := Same.new hr1
      refine q _ r1 L (Fr2.of s1) (.inl rfl) hr1 (wo0.fresh hr1) ?_ (wo0.same s1)
      rw [upd_same]
      unfold Ge04.step
      dsimp only
      rw [if_pos c]
      rfl
    refine ⟨_, rfl, row, _, 0, .int x, rfl, rfl, hrow, rfl, _, rfl, row, _, 1, .int y, rfl, rfl, hrow, rfl, x, y, rfl, _, rfl, ?_⟩
    rw [far_place]
    refine ite2 (fun c => ?_) (fun c => ?_)
    · exact iteT ⟨(by show 1 ≤ sizeLine; decide), fun r1 hr1 => out r1 hr1 (.inl (by simpa using c))⟩
    · have pl : Ge04.placeOk x y = true := by simpa using c
      refine ⟨_, rfl, row, _, 2, .int (wd : Int), rfl, rfl, hrow, rfl, _, rfl, row, _, 3, .int (hg : Int), rfl, rfl, hrow, rfl, _, _, _, rfl, _, rfl, ?_⟩
      refine ite2 (fun c2 => ?_) (fun c2 => ?_)
      · exact ⟨(by show 1 ≤ sizeLine; decide), fun r1 hr1 => out r1 hr1 (.inr ((size_rect wd hg).mp c2))⟩
      · have no : ¬ (Ge04.placeOk x y = false ∨ wd = 0 ∨ 2000 < wd ∨ hg = 0 ∨ 2000 < hg) := fun z => by
          rcases z with z | z
          · rw [pl] at z; cases z
          · exact c2 ((size_rect wd hg).mpr z)
        refine ⟨_, rfl, wa, CW, dx, _, _, rfl, hw, T.cl, T.nBoxes, lk_boxes _ _, L, rfl, ⟨_, SqL.of W.lst⟩, fun O hO => lc_gen (K := K) (fun a => Ge04.over (f a) ⟨0, x, y, wd, hg, false, false, false⟩) V.ref (SqL.of W.lst) hO (by omega) (fun _ => rfl) (fun a ha acc S r => ?_) (fun a ha _ acc S r => ⟨_, rfl, r⟩) ?_⟩
        · have hrow1 := (Same.new (o := .lst acc) hO).seq hrow
          have h1 := (W.bxs a ha).new (o := .lst acc) hO
          refine ⟨_, rfl, _, rfl, row, _, 0, .int x, rfl, rfl, hrow1, rfl, _, rfl, row, _, 1, .int y, rfl, rfl, hrow1, rfl, _, rfl, row, _, 2, .int (wd : Int), rfl, rfl, hrow1, rfl, _, rfl, row, _, 3, .int (hg : Int), rfl, rfl, hrow1, rfl, a, f a, _, _, _, _, rfl, h1, _, rfl, ?_⟩
          rw [in_rect]
          exact r
        · have s1 : Same H (upd H O (.lst ((as.filter fun a => Ge04.over (f a) ⟨0, x, y, wd, hg, false, false, false⟩).map V.ref))) := Same.new hO
          have lin : (as.filter fun a => Ge04.over (f a) ⟨0, x, y, wd, hg, false, false, false⟩).length ≤ 100 := Nat.le_trans (List.length_filter_le _ _) few
          refine ⟨_, rfl, O, as.filter fun a => Ge04.over (f a) ⟨0, x, y, wd, hg, false, false, false⟩, f, rfl, upd_same, lin, fun a ha => (W.bxs a (List.mem_filter.mp ha).1).same s1, fun H2 r s2 hr h2 => ?_⟩
          have s3 := s1.trans s2
          refine q _ r L (Fr2.of s3) (.inl rfl) (s1.free hr) (wo0.fresh (s1.free hr)) ?_ (wo0.same s3)
          rw [h2]
          unfold Ge04.step
          dsimp only
          rw [if_neg no, eb]
          have e1 : Ge04.within (Mv.wd as f) x y wd hg = Mv.nums f (as.filter fun a => Ge04.over (f a) ⟨0, x, y, wd, hg, false, false, false⟩) := by
            unfold Ge04.within Mv.wd Mv.nums
            rw [List.filter_map, List.map_map]
            rfl
          rw [e1, Mv.nums_len, ints_nums]
          rfl
theorem sc_answer_gone : FnScope ["world", "row", "box"] ["world", "row"] (defScope s_answer_gone) := ⟨rfl, rfl, rfl, by decide +kernel, rfl, by decide +kernel, by decide +kernel⟩
theorem num_ne' (m n : Nat) : (!decide (V.int (m : Int) = V.int (n : Int))) = (m != n) := num_ne m n
theorem ok_answer_gone {fa : Addr} {fd : FuncData} (F : Fun K "answer_gone" "answer_gone" s_answer_gone fa fd) (T : TxtW K mg CW) (TB : Txt K mg C) (B : Len mg) (DN : Df P w K mg base "box_numbered" 1 ["boxes", "number"] (spNumbered C)) :
    FnOk P w K mg base CX0 2 fa fd ["world", "row"] (spCall K CW C 1) := by
  refine F.ok sc_answer_gone (fun vs H Q E h => ?_) (fun cdv A outer s H vs Q E hr h => ?_)
  · obtain ⟨_, _, _, _, _, rfl, _⟩ := h
    rfl
  · obtain ⟨wa, L, row, args, st, rfl, hrow, wo, ask, q⟩ := h
    obtain ⟨n, rfl, ec⟩ := Mv.call1 ask
    rw [Mv.step_of ec] at q
    have wo0 := wo
    obtain ⟨as, f, dx, hw, W, eb, ok⟩ := wo
    obtain ⟨tN, gN⟩ := T.gNo
    have few := W.few
    refine ⟨_, pss_cons (ps_if (pt_cmpR op_isN (pe_df DN hr (pa_cons (pe_fld (pv 0) rfl) (pa_cons (pe_ix ix_list (pv 1) pe_int (fun _ _ => rfl)) pa_nil))) pe_non (nomark _)) (pss_one (ps_ret (pe_lst (pa_cons (pe_glob (v := V.int (-2)) rfl gN ⟨_, rfl⟩) pa_nil)))) pss_nil)
      (pss_cons (ps_fld (pv 0) (pe_lc (own := [("box", 2)]) (g := gName 2) (tt := tTest (tOp rNe (tFld K (tVar 2) "number") (tOp (rIxL K) (tVar 1) (tC (.int 0))))) (te := tVar 2) rfl sc_answer_gone.nd (pi_list (pe_fld (pv 0) rfl))
          (blkOk_by (N := ["world", "row", "box"]) (sc := defScope s_answer_gone) (by decide +kernel))
          (by intro _ _ _ _ _; exact pg_name (i := 2) sc_answer_gone.nd rfl (Or.inl rfl))
          (by intro _ _ _ _ _; exact pts_one (pt_cmpR op_ne (pe_fld (pv 2) rfl) (pe_ix ix_list (pv 1) pe_int (fun _ _ => rfl)) (nomark _)))
          (by intro _ _ _ _ _; exact pv 2)) rfl)
      (pss_one (ps_ret (pe_lst (pa_cons (pe_callB call_len_seq (by rfl) B.len PySem.boot_len (pa_cons (pe_fld (pv 0) rfl) pa_nil)) pa_nil))))), ?_⟩
    refine ⟨_, rfl, wa, CW, dx, _, _, rfl, hw, T.cl, T.nBoxes, lk_boxes _ _, _, rfl, row, _, 0, .int (n : Int), rfl, rfl, hrow, rfl, L, as, f, n, rfl, W.lst, W.bxs, fun a ha e => ?_, fun no => ?_⟩
    · have ef : Ge04.find st.boxes n = some (f a) := by
        rw [eb]
        have : (f a).number = n := by omega
        rw [← this]
        exact Mv.find_wd W.good ha
      refine ⟨rfl, _, rfl, iteF ?_⟩
      refine ⟨_, rfl, wa, CW, dx, _, _, rfl, hw, T.cl, T.nBoxes, lk_boxes _ _, L, rfl, ⟨_, SqL.of W.lst⟩, fun O hO => lc_gen (K := K) (fun a => (f a).number != n) V.ref (SqL.of W.lst) hO (by omega) (fun _ => rfl) (fun b hb acc S r => ?_) (fun b hb _ acc S r => ⟨_, rfl, r⟩) ?_⟩
      · have hrow1 := (Same.new (o := .lst acc) hO).seq hrow
        obtain ⟨d1, h1⟩ := (W.bxs b hb).new (o := .lst acc) hO
        refine ⟨_, rfl, b, C, d1, _, _, rfl, h1, TB.cl, TB.nNumber, lk_number _, _, rfl, row, _, 0, .int (n : Int), rfl, rfl, hrow1, rfl, rfl, _, rfl, ?_⟩
        rw [num_ne]
        exact r
      · have s1 : Same H (upd H O (.lst ((as.filter fun a => (f a).number != n).map V.ref))) := Same.new hO
        refine ⟨_, rfl, wa, CW, dx, _, rfl, s1 _ _ hw, T.cl, T.nBoxes, (by show 2 < 1000; decide), ?_⟩
        rw [put_boxes]
        have nOw : O ≠ wa := fun z => by rw [z, hw] at hO; cases hO
        have W1 : Wld C (upd (upd H O (.lst ((as.filter fun a => (f a).number != n).map V.ref))) wa (.ins CW dx (wF O st.given))) O (as.filter fun a => (f a).number != n) f := by
          refine ⟨by rw [upd_ne nOw]; exact upd_same, fun b hb => ?_, ⟨?_, fun b hb => W.good.sz b (List.mem_filter.mp hb).1⟩, Nat.le_trans (List.length_filter_le _ _) few⟩
          · obtain ⟨d1, h1⟩ := (W.bxs b (List.mem_filter.mp hb).1).same s1
            refine ⟨d1, ?_⟩
            rw [upd_ne (ne_of h1 (s1 _ _ hw) (fun z => ?_))]
            · exact h1
            · injection z with z1 z2 z3
              have : (bF (f b)).length = (wF L st.given).length := by rw [z3]
              exact absurd this (by show ¬ (8 = 2); decide)
          · have := W.good.nd
            rw [List.nodup_iff_pairwise_ne] at this ⊢
            exact this.sublist (List.filter_sublist.map _)
        refine ⟨_, rfl, wa, CW, dx, _, _, rfl, upd_same, T.cl, T.nBoxes, lk_boxes _ _, O, _, rfl, Or.inl (SqL.of W1.lst), (by show 1 ≤ sizeLine; decide), fun r hr => ?_⟩
        have s2 : Same (upd (upd H O (.lst ((as.filter fun a => (f a).number != n).map V.ref))) wa (.ins CW dx (wF O st.given))) (upd (upd (upd H O (.lst ((as.filter fun a => (f a).number != n).map V.ref))) wa (.ins CW dx (wF O st.given))) r (.lst [.int (((as.filter fun a => (f a).number != n).map V.ref).length : Int)])) := Same.new hr
        have nrw : r ≠ wa := fun z => by rw [z, upd_same] at hr; cases hr
        have nrO : r ≠ O := fun z => by rw [z, W1.lst] at hr; cases hr
        have hr0 : H r = none := by
          rw [upd_ne nrw, upd_ne nrO] at hr
          exact hr
        have est : Ge04.step st (.gone n) = (⟨Mv.wd (as.filter fun a => (f a).number != n) f, st.given⟩, [((as.filter fun a => (f a).number != n).length : Int)]) := by
          unfold Ge04.step
          dsimp only
          rw [ef]
          have e1 : (st.boxes.filter fun b => b.number != n) = Mv.wd (as.filter fun a => (f a).number != n) f := by
            rw [eb]
            unfold Mv.wd
            rw [List.filter_map]
            rfl
          rw [e1, Mv.wd_length]
          rfl
        rw [est] at q
        refine q _ r O (fun b o e n1 n2 => ?_) (.inr hO) hr0 nrO ?_ ⟨as.filter fun a => (f a).number != n, f, dx, ?_, W1.same s2, rfl, ⟨fun b hb => ok.num b (List.mem_filter.mp hb).1, fun b hb => ok.ok b (List.mem_filter.mp hb).1, Nat.le_trans (List.length_filter_le _ _) ok.few, ?_⟩⟩
        · refine s2 _ _ ?_
          rw [upd_ne n1]
          exact s1 _ _ e
        · rw [upd_same, List.length_map]
          rfl
        · rw [upd_ne nrw.symm]
          exact upd_same
        · exact ok.ord.sublist (List.filter_sublist.map _)
    · refine ⟨rfl, _, rfl, iteT ?_⟩
      refine ⟨(by show 1 ≤ sizeLine; decide), fun r1 hr1 => ?_⟩
      have s1 : Same H (upd H r1 (.lst [.int (-2)])) := Same.new hr1
      have ef : Ge04.find st.boxes n = none := by
        rw [eb]
        exact Mv.find_none fun a ha e => no a ha (by rw [e])
      have est : Ge04.step st (.gone n) = (st, [-2]) := by
        unfold Ge04.step
        dsimp only
        rw [ef]
        rfl
      rw [est] at q
      exact q _ r1 L (Fr2.of s1) (.inl rfl) hr1 (wo0.fresh hr1) upd_same (wo0.same s1)
end
end Mb
set_option Elab.async false
set_option maxRecDepth 100000
set_option maxHeartbeats 2000000
namespace Mb
open PySem PySem.Spec PyProof.Rows L2
abbrev s_answer_box : Stmt := top 42
abbrev s_answer_move : Stmt := top 44
abbrev s_answer_fall : Stmt := top 45
theorem at_zero (b : Ge04.Box) : Ge04.at_ b 0 0 = b := by
  unfold Ge04.at_
  rw [Int.add_zero, Int.add_zero]
theorem blocks_comm (a b : Ge04.Box) : Ge04.blocks a b = Ge04.blocks b a := by
  unfold Ge04.blocks Ge04.over
  rw [bne_comm]
  cases (b.number != a.number) <;> cases a.hard <;> cases b.hard <;> simp only [Bool.false_and, Bool.true_and, Bool.and_false]
  cases decide (a.x < b.x + b.w) <;> cases decide (b.x < a.x + a.w) <;> cases decide (a.y < b.y + b.h) <;> cases decide (b.y < a.y + a.h) <;> rfl
theorem way_stuck (f : Addr → Ge04.Box) (as : List Addr) (b : Ge04.Box) : (!(Mv.inWay f as b 0 0).isEmpty) = Ge04.stuck (Mv.wd as f) b := by
  unfold Mv.inWay Ge04.stuck Mv.wd
  rw [at_zero, List.any_map, Bool.eq_iff_iff, List.any_eq_true]
  constructor
  · intro h
    have : (as.filter fun a => Ge04.blocks b (f a)) ≠ [] := fun z => by rw [z] at h; cases h
    obtain ⟨c, hc⟩ := List.exists_mem_of_ne_nil _ this
    exact ⟨c, (List.mem_filter.mp hc).1, by show Ge04.blocks (f c) b = true; rw [blocks_comm]; exact (List.mem_filter.mp hc).2⟩
  · rintro ⟨c, hc, hp⟩
    have hp : Ge04.blocks (f c) b = true := hp
    rw [blocks_comm] at hp
    have : c ∈ as.filter fun a => Ge04.blocks b (f a) := List.mem_filter.mpr ⟨hc, hp⟩
    cases q : as.filter fun a => Ge04.blocks b (f a) with
    | nil => rw [q] at this; cases this
    | cons y t => rfl
theorem size_box (w h : Nat) : inSize (w : Int) (h : Int) 50 = (decide (1 ≤ w) && (decide (w ≤ 50) && (decide (1 ≤ h) && decide (h ≤ 50)))) := by
  unfold inSize
  rw [Bool.eq_iff_iff]
  simp only [Bool.and_eq_true, decide_eq_true_eq]
  omega
section
variable {P : Program} {w : World} {K : PySem.W.Frag} {mg : Str → Option Value} {base : Heap} {C CW : Addr}
theorem sc_answer_box : FnScope ["world", "row", "new"] ["world", "row"] (defScope s_answer_box) := ⟨rfl, rfl, rfl, by decide +kernel, rfl, by decide +kernel, by decide +kernel⟩
theorem ok_answer_box {fa fI : Addr} {fd fdI : FuncData} (F : Fun K "answer_box" "answer_box" s_answer_box fa fd) (T : TxtW K mg CW) (TB : Txt K mg C) (B : Len mg) (DB : Df P w K mg base "is_beyond" 1 ["across", "down"] spBeyond) (DZ : Df P w K mg base "is_size" 1 ["wide", "high", "largest"] spSize)
    (M : Mk K C fI) (GI : FnOk P w K mg base CX0 1 fI fdI ["self", "number", "row"] (spInit K C)) (bI : Binds K fdI ["self", "number", "row"] []) (DW : Df P w K mg base "in_way" 3 ["boxes", "box", "over", "under"] (spInWay C)) : FnOk P w K mg base CX0 4 fa fd ["world", "row"] (spCall K CW C 0) := by
  refine F.ok sc_answer_box (fun vs H Q E h => ?_) (fun cdv A outer s H vs Q E hr h => ?_)
  · obtain ⟨_, _, _, _, _, rfl, _⟩ := h
    rfl
  · obtain ⟨wa, L, row, args, st, rfl, hrow, wo, ask, q⟩ := h
    obtain ⟨x, y, wd, hg, ha, hp, hc, rfl, ec⟩ := Mv.call0 ask
    rw [Mv.step_of ec] at q
    have wo0 := wo
    obtain ⟨as, f, dx, hw, W, eb, ok⟩ := wo
    obtain ⟨tO, gO⟩ := T.gOut
    obtain ⟨tR, gR⟩ := T.gBox
    obtain ⟨tM, gM⟩ := T.gMost
    obtain ⟨tT, gT⟩ := T.gTaken
    obtain ⟨tU, gU⟩ := T.gToo
    have hr1 : Room 1 _ := hr.mono (by decide)
    have hr2 : Room 2 _ := hr.mono (by decide)
    have few := W.few
    let b : Ge04.Box := ⟨st.given, x, y, wd, hg, ha, hp, hc⟩
    have hrow' : SqL K H row (rowV b) := hrow
    refine ⟨_, pss_cons (ps_if (PW.pt (pw_or (pt_val (pe_df DB hr1 (pa_cons (pe_ix ix_list (pv 1) pe_int (fun _ _ => rfl)) (pa_cons (pe_ix ix_list (pv 1) pe_int (fun _ _ => rfl)) pa_nil))))
          (pw_or1 (pt_not (pt_val (pe_df DZ hr1 (pa_cons (pe_ix ix_list (pv 1) pe_int (fun _ _ => rfl)) (pa_cons (pe_ix ix_list (pv 1) pe_int (fun _ _ => rfl)) (pa_cons (pe_glob (v := V.int 50) rfl gR ⟨_, rfl⟩) pa_nil)))))))))
        (pss_one (ps_ret (pe_lst (pa_cons (pe_glob (v := V.int (-1)) rfl gO ⟨_, rfl⟩) pa_nil)))) pss_nil)
      (pss_cons (ps_if (pt_cmpR op_ge (pe_callB call_len_seq (by rfl) B.len PySem.boot_len (pa_cons (pe_fld (pv 0) rfl) pa_nil)) (pe_glob (v := V.int 16) rfl gM ⟨_, rfl⟩) (nomark _)) (pss_one (ps_ret (pe_lst (pa_cons (pe_glob (v := V.int (-5)) rfl gU ⟨_, rfl⟩) pa_nil)))) pss_nil)
      (pss_cons (ps_set (i := 2) sc_answer_box.nd rfl (Or.inl rfl) (pe_make M GI hr2 rfl TB.gBox bI .nil pass0 (pa_cons (pe_fld (pv 0) rfl) (pa_cons (pv 1) pa_nil))))
      (pss_cons (ps_if (pt_truth (pe_df DW hr (pa_cons (pe_fld (pv 0) rfl) (pa_cons (pv 2) (pa_cons pe_int (pa_cons pe_int pa_nil))))) (by intro _; rfl)) (pss_one (ps_ret (pe_lst (pa_cons (pe_glob (v := V.int (-4)) rfl gT ⟨_, rfl⟩) pa_nil)))) pss_nil)
      (pss_cons (ps_expr (pe_bm PySem.F.plainAttrs_list PySem.F.slot_list_append PySem.F.type_list_append mt_append (pe_fld (pv 0) rfl) (pa_cons (pv 2) pa_nil)))
      (pss_cons (ps_fldaug (pv 0) pe_int in_add)
      (pss_one (ps_ret (pe_lst (pa_cons (pe_fld (pv 2) rfl) pa_nil))))))))), ?_⟩
    have sp : Ge04.step st (.box x y wd hg ha hp hc) = if Ge04.boxOk b = false then (st, [-1]) else if 16 ≤ st.boxes.length then (st, [-5]) else if Ge04.stuck st.boxes b = true then (st, [-4]) else (⟨st.boxes ++ [b], st.given + 1⟩, Ge04.ints [st.given]) := rfl
    have eok : Ge04.boxOk b = (Ge04.placeOk x y && inSize (wd : Int) (hg : Int) 50) := by
      rw [size_box]
      rfl
    rw [sp] at q
    have out : ∀ r1, H r1 = none → Ge04.boxOk b = false → Q (.ref r1) (upd H r1 (.lst [.int (-1)])) := fun r1 hr1 c => by
      have s1 : Same H (upd H r1 (.lst [.int (-1)])) := Same.new hr1
      rw [if_pos c] at q
      exact q _ r1 L (Fr2.of s1) (.inl rfl) hr1 (wo0.fresh hr1) upd_same (wo0.same s1)
    refine ⟨_, rfl, row, _, 0, .int x, rfl, rfl, hrow, rfl, _, rfl, row, _, 1, .int y, rfl, rfl, hrow, rfl, x, y, rfl, _, rfl, ?_⟩
    rw [far_place]
    refine ite2 (fun c => ?_) (fun c => ?_)
    · refine iteT ⟨(by show 1 ≤ sizeLine; decide), fun r1 hr1 => out r1 hr1 ?_⟩
      rw [eok]
      have : Ge04.placeOk x y = false := by simpa using c
      rw [this, Bool.false_and]
    have pl : Ge04.placeOk x y = true := by simpa using c
    refine ⟨_, rfl, row, _, 2, .int (wd : Int), rfl, rfl, hrow, rfl, _, rfl, row, _, 3, .int (hg : Int), rfl, rfl, hrow, rfl, _, _, _, rfl, _, rfl, ?_⟩
    refine ite2 (fun c2 => ?_) (fun c2 => ?_)
    · refine ⟨(by show 1 ≤ sizeLine; decide), fun r1 hr1 => out r1 hr1 ?_⟩
      rw [eok]
      have : inSize (wd : Int) (hg : Int) 50 = false := by simpa using c2
      rw [this, Bool.and_false]
    have bok : Ge04.boxOk b = true := by
      rw [eok, pl]
      have : inSize (wd : Int) (hg : Int) 50 = true := by simpa using c2
      rw [this]
      rfl
    rw [if_neg (by rw [bok]; decide)] at q
    have elen : st.boxes.length = as.length := by rw [eb, Mv.wd_length]
    refine ⟨_, rfl, wa, CW, dx, _, _, rfl, hw, T.cl, T.nBoxes, lk_boxes _ _, L, _, rfl, Or.inl (SqL.of W.lst), _, _, rfl, rfl, _, rfl, ?_⟩
    rw [List.length_map]
    refine ite2 (fun c3 => ?_) (fun c3 => ?_)
    · have c3 := of_decide_eq_true c3
      rw [if_pos (by rw [elen]; omega)] at q
      refine ⟨(by show 1 ≤ sizeLine; decide), fun r1 hr1 => ?_⟩
      have s1 : Same H (upd H r1 (.lst [.int (-5)])) := Same.new hr1
      exact q _ r1 L (Fr2.of s1) (.inl rfl) hr1 (wo0.fresh hr1) upd_same (wo0.same s1)
    have l16 : as.length < 16 := by
      have : ¬ ((16 : Int) ≤ (as.length : Int)) := fun z => c3 (decide_eq_true z)
      omega
    rw [if_neg (by rw [elen]; omega)] at q
    -- new = Box(world.fresh, row)
    refine ⟨_, rfl, wa, CW, dx, _, _, rfl, hw, T.cl, T.nFresh, lk_fresh _ _, _, rfl, ?_⟩
    intro X dX hX hdX ne
    have s1 : Same H (upd (upd (upd H dX (.own X)) X (.ins C dX [])) X (.ins C dX (bF b))) := fun c o e => by
      rw [upd_upd, upd_ne (ne_of_none e hX), upd_ne (ne_of_none e hdX)]
      exact e
    have s1' : Same H (upd (upd H dX (.own X)) X (.ins C dX [])) := fun c o e => by
      rw [upd_ne (ne_of_none e hX), upd_ne (ne_of_none e hdX)]
      exact e
    refine ⟨X, dX, row, b, rfl, upd_same, s1'.seq hrow', rfl, ?_⟩
    have hX1 : (upd (upd (upd H dX (.own X)) X (.ins C dX [])) X (.ins C dX (bF b))) X = some (.ins C dX (bF b)) := upd_same
    generalize (upd (upd (upd H dX (.own X)) X (.ins C dX [])) X (.ins C dX (bF b))) = H1 at s1 hX1
    have W1 := W.same s1
    -- in_way(world.boxes, new, 0, 0)
    refine ⟨_, rfl, wa, CW, dx, _, _, rfl, s1 _ _ hw, T.cl, T.nBoxes, lk_boxes _ _, _, rfl, L, X, as, f, b, 0, 0, rfl, W1.lst, by omega, W1.bxs, ⟨dX, hX1⟩, fun H2 r2 s2 hr2 hl2 => ⟨_, Or.inl ⟨_, SqL.of hl2, rfl⟩, ?_⟩⟩
    have t2 := s1.trans s2
    rw [List.isEmpty_map, way_stuck]
    refine ite2 (fun c4 => ?_) (fun c4 => ?_)
    · rw [← eb] at c4
      rw [if_pos c4] at q
      refine ⟨(by show 1 ≤ sizeLine; decide), fun r1 hr1 => ?_⟩
      have s3 := t2.trans (Same.new (o := .lst [.int (-4)]) hr1)
      exact q _ r1 L (Fr2.of s3) (.inl rfl) (t2.free hr1) (wo0.fresh (t2.free hr1)) upd_same (wo0.same s3)
    rw [← eb] at c4
    rw [if_neg c4] at q
    have W2 := W1.same s2
    have hw2 := t2 _ _ hw
    have hX2 := s2 _ _ hX1
    have nLw : wa ≠ L := ne_of hw W.lst (by intro z; cases z)
    -- world.boxes.append(new)
    refine ⟨_, rfl, wa, CW, dx, _, _, rfl, hw2, T.cl, T.nBoxes, lk_boxes _ _, .inl ⟨rfl, _, SqL.of W2.lst⟩, _, rfl, L, _, _, rfl, rfl, W2.lst, (by rw [List.length_map]; exact small1000 (by omega)), ?_⟩
    have hw3 : (upd H2 L (.lst (as.map V.ref ++ [V.ref X]))) wa = some (.ins CW dx (wF L st.given)) := by rw [upd_ne nLw]; exact hw2
    have nLX : X ≠ L := ne_of hX2 W2.lst (by intro z; cases z)
    -- world.fresh += 1
    refine ⟨_, rfl, wa, CW, dx, _, _, rfl, hw3, T.cl, T.nFresh, lk_fresh _ _, _, _, rfl, rfl, dx, _, hw3, (by show 2 < 1000; decide), ?_⟩
    have ep : putF "fresh" (V.int ((st.given : Int) + 1)) (wF L st.given) = wF L (st.given + 1) := put_fresh L st.given (st.given + 1)
    rw [ep]
    have nXw : X ≠ wa := fun z => by rw [z, hw] at hX; cases hX
    have hX4 : (upd (upd H2 L (.lst (as.map V.ref ++ [V.ref X]))) wa (.ins CW dx (wF L (st.given + 1)))) X = some (.ins C dX (bF b)) := by rw [upd_ne nXw, upd_ne nLX]; exact hX2
    refine ⟨_, rfl, X, C, dX, _, _, rfl, hX4, TB.cl, TB.nNumber, lk_number b, (by show 1 ≤ sizeLine; decide), fun r hr => ?_⟩
    have nrw : r ≠ wa := fun z => by rw [z, upd_same] at hr; cases hr
    have nrL : r ≠ L := fun z => by rw [z, upd_ne nLw.symm, upd_same] at hr; cases hr
    have hr2 : H2 r = none := by
      rw [upd_ne nrw, upd_ne nrL] at hr
      exact hr
    have nX : X ∉ as := fun z => by
      obtain ⟨d, e⟩ := W.bxs X z
      rw [hX] at e
      cases e
    have keep : ∀ c o, H2 c = some o → c ≠ wa → c ≠ L → (upd (upd (upd H2 L (.lst (as.map V.ref ++ [V.ref X]))) wa (.ins CW dx (wF L (st.given + 1)))) r (.lst [.int (b.number : Int)])) c = some o := fun c o e n1 n2 => by
      rw [upd_ne (ne_of_none e hr2), upd_ne n1, upd_ne n2]
      exact e
    have ef : Mv.wd as (fun y => if y = X then b else f y) = Mv.wd as f := List.map_congr_left fun c hc => by
      have : c ≠ X := fun z => nX (z ▸ hc)
      show (if c = X then b else f c) = f c
      rw [if_neg this]
    have bsz : 1 ≤ wd ∧ 1 ≤ hg := by
      have z := bok
      rw [eok, size_box] at z
      simp only [Bool.and_eq_true, decide_eq_true_eq] at z
      exact ⟨z.2.1, z.2.2.2.1⟩
    have fX : ∀ c ∈ as, (if c = X then b else f c) = f c := fun c hc => if_neg (fun z : c = X => nX (by rw [← z]; exact hc))
    refine q _ r L (fun c o e n1 n2 => keep c o (t2 _ _ e) n1 n2) (.inl rfl) (t2.free hr2) nrL upd_same ⟨as ++ [X], (fun y => if y = X then b else f y), dx, ?_, ⟨?_, ?_, ⟨?_, ?_⟩, ?_⟩, ?_, ⟨?_, ?_, ?_, ?_⟩⟩
    · rw [upd_ne nrw.symm]
      exact upd_same
    · rw [upd_ne nrL.symm, upd_ne nLw.symm, upd_same, List.map_append]
      rfl
    · intro c hc
      by_cases e : c = X
      · subst e
        refine ⟨dX, ?_⟩
        show _ = some (HO.ins C dX (bF (if c = c then b else f c)))
        rw [if_pos rfl]
        exact keep c _ hX2 nXw nLX
      · have hc' : c ∈ as := by
          rcases List.mem_append.mp hc with z | z
          · exact z
          · exact absurd (List.mem_singleton.mp z) e
        obtain ⟨d, h⟩ := W2.bxs c hc'
        refine ⟨d, ?_⟩
        show _ = some (HO.ins C d (bF (if c = X then b else f c)))
        rw [if_neg e]
        refine keep c _ h (fun z => ?_) (ne_of h W2.lst (by intro z; cases z))
        rw [z, hw2] at h
        injection h with h
        injection h with _ _ h
        have : (wF L st.given).length = (bF (f wa)).length := by rw [h]
        exact absurd this (by show ¬ (2 = 8); decide)
    · rw [List.map_append, List.nodup_append]
      refine ⟨?_, by simp, fun m hm n hn z => ?_⟩
      · have : (as.map fun a => ((if a = X then b else f a) : Ge04.Box).number) = as.map fun a => (f a).number := List.map_congr_left fun c hc => by
          show ((if c = X then b else f c) : Ge04.Box).number = _
          rw [fX c hc]
        rw [this]
        exact W.good.nd
      · obtain ⟨c, hc, rfl⟩ := List.mem_map.mp hm
        obtain ⟨d, hd, rfl⟩ := List.mem_map.mp hn
        have hd := List.mem_singleton.mp hd
        subst hd
        have z : ((if c = d then b else f c) : Ge04.Box).number = ((if d = d then b else f d) : Ge04.Box).number := z
        rw [fX c hc, if_pos rfl] at z
        have := ok.num c hc
        have e : b.number = st.given := rfl
        omega
    · intro c hc
      show 1 ≤ ((if c = X then b else f c) : Ge04.Box).w ∧ 1 ≤ ((if c = X then b else f c) : Ge04.Box).h
      by_cases e : c = X
      · rw [if_pos e]
        exact bsz
      · rw [if_neg e]
        rcases List.mem_append.mp hc with z | z
        · exact W.good.sz c z
        · exact absurd (List.mem_singleton.mp z) e
    · rw [List.length_append]
      show as.length + 1 ≤ 100
      omega
    · show st.boxes ++ [b] = _
      rw [eb]
      unfold Mv.wd at ef ⊢
      rw [List.map_append, ef]
      show _ = _ ++ [if X = X then b else f X]
      rw [if_pos rfl]
    · intro c hc
      show ((if c = X then b else f c) : Ge04.Box).number < st.given + 1
      by_cases e : c = X
      · rw [if_pos e]
        exact Nat.lt_succ_self _
      · rw [if_neg e]
        rcases List.mem_append.mp hc with z | z
        · exact Nat.lt_succ_of_lt (ok.num c z)
        · exact absurd (List.mem_singleton.mp z) e
    · intro c hc
      show Ge04.boxOk (if c = X then b else f c) = true
      by_cases e : c = X
      · rw [if_pos e]
        exact bok
      · rw [if_neg e]
        rcases List.mem_append.mp hc with z | z
        · exact ok.ok c z
        · exact absurd (List.mem_singleton.mp z) e
    · rw [List.length_append]
      show as.length + 1 ≤ 16
      omega
    · have en : (as.map fun a => ((if a = X then b else f a) : Ge04.Box).number) = as.map fun a => (f a).number := List.map_congr_left fun c hc => by
        show ((if c = X then b else f c) : Ge04.Box).number = _
        rw [fX c hc]
      rw [List.map_append, List.pairwise_append]
      refine ⟨by rw [en]; exact ok.ord, List.pairwise_singleton _ _, fun m hm n hn => ?_⟩
      rw [en] at hm
      obtain ⟨c, hc, rfl⟩ := List.mem_map.mp hm
      obtain ⟨d, hd, rfl⟩ := List.mem_map.mp hn
      have hd := List.mem_singleton.mp hd
      subst hd
      show (f c).number < ((if d = d then b else f d) : Ge04.Box).number
      rw [if_pos rfl]
      exact ok.num c hc
end
end Mb
set_option Elab.async false
set_option maxRecDepth 100000
set_option maxHeartbeats 2000000
namespace Mb
open PySem PySem.Spec PyProof.Rows L2
theorem pair_eq {as bs : List Addr} {f g : Addr → Ge04.Box} (e : Mv.wd bs g = Mv.wd as f) {p : Addr × Addr} (h : p ∈ as.zip bs) : f p.1 = g p.2 := by
  obtain ⟨i, hi⟩ := List.mem_iff_getElem?.mp h
  rw [List.getElem?_zip_eq_some] at hi
  have h1 : (Mv.wd as f)[i]? = some (f p.1) := by
    unfold Mv.wd
    rw [List.getElem?_map, hi.1]
    rfl
  have h2 : (Mv.wd bs g)[i]? = some (g p.2) := by
    unfold Mv.wd
    rw [List.getElem?_map, hi.2]
    rfl
  rw [e, h1] at h2
  exact Option.some.inj h2
theorem sizes_of {b : Ge04.Box} (h : Ge04.boxOk b = true) : 1 ≤ b.w ∧ b.w ≤ 50 ∧ 1 ≤ b.h ∧ b.h ≤ 50 := by
  unfold Ge04.boxOk at h
  simp only [Bool.and_eq_true, decide_eq_true_eq] at h
  exact h.2
theorem any_ok {bs : List Addr} {g : Addr → Ge04.Box} (hs : ∀ b ∈ bs, 1 ≤ (g b).w ∧ (g b).w ≤ 50 ∧ 1 ≤ (g b).h ∧ (g b).h ≤ 50) : (bs.any fun b => far (g b).x || far (g b).y) = !((Mv.wd bs g).all Ge04.boxOk) := by
  rw [Bool.eq_iff_iff, List.any_eq_true, Bool.not_eq_true', ← Bool.not_eq_true, List.all_eq_true]
  constructor
  · rintro ⟨b, hb, hf⟩ all
    have := all (g b) (List.mem_map.mpr ⟨b, hb, rfl⟩)
    rw [far_place] at hf
    unfold Ge04.boxOk at this
    rw [Bool.and_eq_true] at this
    rw [this.1] at hf
    cases hf
  · intro h
    apply Classical.byContradiction
    intro no
    refine h fun c hc => ?_
    obtain ⟨b, hb, rfl⟩ := List.mem_map.mp hc
    have nf : ¬ ((far (g b).x || far (g b).y) = true) := fun z => no ⟨b, hb, z⟩
    rw [far_place] at nf
    have pl : Ge04.placeOk (g b).x (g b).y = true := by simpa using nf
    unfold Ge04.boxOk
    rw [pl]
    obtain ⟨h1, h2, h3, h4⟩ := hs b hb
    simp [h1, h2, h3, h4]
def elsewhere (l m : Ge04.World) : Ge04.World := m.filter fun b => Ge04.find l b.number != some b
theorem told_eq {as bs : List Addr} {f g g' : Addr → Ge04.Box} (good : Mv.Good as f) (e : Mv.wd bs g = Mv.wd as f) (lk : Like g g') (hl : as.length = bs.length) :
    ∃ ps : List (Addr × Addr), elsewhere (Mv.wd as f) (Mv.wd bs g') = ps.map (fun p => g' p.2) ∧ toldV f g' (as.zip bs) = ps.flatMap fun p => [.int ((g' p.2).number : Int), .int (g' p.2).x, .int (g' p.2).y] := by
  refine ⟨(as.zip bs).filter (elseP f g'), ?_, rfl⟩
  have e1 : Mv.wd bs g' = (as.zip bs).map fun p => g' p.2 := by
    unfold Mv.wd
    have : bs = (as.zip bs).map Prod.snd := (List.map_snd_zip (Nat.le_of_eq hl.symm)).symm
    conv => lhs; rw [this]
    rw [List.map_map]
    rfl
  unfold elsewhere
  rw [e1, List.filter_map]
  congr 1
  refine List.filter_congr fun p hp => ?_
  have ha : p.1 ∈ as := (List.of_mem_zip hp).1
  have e2 := pair_eq e hp
  have e3 : (g' p.2).number = (f p.1).number := by rw [lk.number, e2]
  show (Ge04.find (Mv.wd as f) (g' p.2).number != some (g' p.2)) = elseP f g' p
  rw [e3, Mv.find_wd good ha]
  have rest := lk.rest p.2
  rw [← e2] at rest
  unfold elseP
  by_cases hx : (f p.1).x = (g' p.2).x
  · by_cases hy : (f p.1).y = (g' p.2).y
    · have : f p.1 = g' p.2 := by rw [rest, ← hx, ← hy]
      rw [this]
      simp
    · have : f p.1 ≠ g' p.2 := fun z => hy (by rw [z])
      have e4 : (some (f p.1) != some (g' p.2)) = true := by simpa using this
      rw [e4]
      simp [hy]
  · have : f p.1 ≠ g' p.2 := fun z => hx (by rw [z])
    have e4 : (some (f p.1) != some (g' p.2)) = true := by simpa using this
    rw [e4]
    simp [hx]
theorem three_len {α : Type} (l : List α) (u v w : α → V) : (l.flatMap fun p => [u p, v p, w p]).length = 3 * l.length := by
  induction l with
  | nil => rfl
  | cons a t ih =>
    rw [List.flatMap_cons, List.length_append, ih, List.length_cons]
    simp only [List.length_cons, List.length_nil]
    omega
theorem two_len {α : Type} (l : List α) (u v : α → V) : (l.flatMap fun p => [u p, v p]).length = 2 * l.length := by
  induction l with
  | nil => rfl
  | cons a t ih =>
    rw [List.flatMap_cons, List.length_append, ih, List.length_cons]
    simp only [List.length_cons, List.length_nil]
    omega
theorem move_ans (ps : List (Addr × Addr)) (g' : Addr → Ge04.Box) (c d : Nat) : intsV (Ge04.ints [c, d, (ps.map fun p => g' p.2).length] ++ (ps.map fun p => g' p.2).flatMap fun b => [(b.number : Int), b.x, b.y]) =
    [.int (c : Int), .int (d : Int)] ++ [.int (ps.length : Int)] ++ ps.flatMap fun p => [.int ((g' p.2).number : Int), .int (g' p.2).x, .int (g' p.2).y] := by
  unfold intsV Ge04.ints
  rw [List.length_map, List.map_append, List.map_flatMap, List.flatMap_map]
  rfl
theorem fall_ans (ps : List (Nat × Nat)) : intsV (Ge04.ints ((ps.filter fun x => x.2 != 0).length :: (ps.filter fun x => x.2 != 0).flatMap fun x => [x.1, x.2])) = [.int ((ps.filter fun x => x.2 != 0).length : Int)] ++ fellV ps := by
  unfold intsV Ge04.ints fellV
  rw [List.map_map, List.map_cons, List.map_flatMap]
  rfl
section
variable {P : Program} {w : World} {K : PySem.W.Frag} {mg : Str → Option Value} {base : Heap} {C CW : Addr}
theorem sc_answer_move : FnScope ["world", "row", "boxes", "mover", "steps", "moved"] ["world", "row"] (defScope s_answer_move) := ⟨rfl, rfl, rfl, by decide +kernel, rfl, by decide +kernel, by decide +kernel⟩
theorem far60 (z : Int) : decide ((60 : Int) < (if z < 0 then -z else z)) = decide (60 < z.natAbs) := by
  rw [abs_nat, decide_eq_decide]
  omega
theorem ok_answer_move {fa : Addr} {fd : FuncData} {lv : Nat} (F : Fun K "answer_move" "answer_move" s_answer_move fa fd) (T : TxtW K mg CW) (TB : Txt K mg C) (B : Len mg) (DC : Df P w K mg base "copies_of" 3 ["boxes"] (spCopies C)) (DN : Df P w K mg base "box_numbered" 1 ["boxes", "number"] (spNumbered C))
    (DM : Df P w K mg base "move_box" (lv + 3) ["boxes", "mover", "across", "down"] (spMove C)) (DA : Df P w K mg base "any_beyond" 2 ["boxes"] (spAnyBeyond C)) (DS : Df P w K mg base "moved_since" 1 ["before", "after"] (spSince C)) :
    FnOk P w K mg base CX0 (lv + 4) fa fd ["world", "row"] (spCall K CW C 2) := by
  refine F.ok sc_answer_move (fun vs H Q E h => ?_) (fun cdv A outer s H vs Q E hr h => ?_)
  · obtain ⟨_, _, _, _, _, rfl, _⟩ := h
    rfl
  · obtain ⟨wa, L, row, args, st, rfl, hrow, wo, ask, q⟩ := h
    obtain ⟨n, dx, dy, rfl, ec⟩ := Mv.call2 ask
    rw [Mv.step_of ec] at q
    have wo0 := wo
    obtain ⟨as, f, dw, hw, W, eb, ok⟩ := wo
    obtain ⟨tO, gO⟩ := T.gOut
    obtain ⟨tN, gN⟩ := T.gNo
    obtain ⟨tU, gU⟩ := T.gToo
    obtain ⟨tM, gM⟩ := T.gMove
    have hr1 : Room 1 _ := hr.mono (by omega)
    have hr2 : Room 2 _ := hr.mono (by omega)
    have hr3 : Room 3 _ := hr.mono (by omega)
    have few := W.few
    refine ⟨_, pss_cons (ps_if (PW.pt (pw_or (pt_cmpR op_gt (pe_callB call_abs (by rfl) TB.abs (by decide +kernel) (pa_cons (pe_ix ix_list (pv 1) pe_int (fun _ _ => rfl)) pa_nil)) (pe_glob (v := V.int 60) rfl gM ⟨_, rfl⟩) (nomark _))
          (pw_or1 (pt_cmpR op_gt (pe_callB call_abs (by rfl) TB.abs (by decide +kernel) (pa_cons (pe_ix ix_list (pv 1) pe_int (fun _ _ => rfl)) pa_nil)) (pe_glob (v := V.int 60) rfl gM ⟨_, rfl⟩) (nomark _)))))
        (pss_one (ps_ret (pe_lst (pa_cons (pe_glob (v := V.int (-1)) rfl gO ⟨_, rfl⟩) pa_nil)))) pss_nil)
      (pss_cons (ps_set (i := 2) sc_answer_move.nd rfl (Or.inl rfl) (pe_df DC hr3 (pa_cons (pe_fld (pv 0) rfl) pa_nil)))
      (pss_cons (ps_set (i := 3) sc_answer_move.nd rfl (Or.inl rfl) (pe_df DN hr1 (pa_cons (pv 2) (pa_cons (pe_ix ix_list (pv 1) pe_int (fun _ _ => rfl)) pa_nil))))
      (pss_cons (ps_if (pt_cmpR op_isN (pv 3) pe_non (nomark _)) (pss_one (ps_ret (pe_lst (pa_cons (pe_glob (v := V.int (-2)) rfl gN ⟨_, rfl⟩) pa_nil)))) pss_nil)
      (pss_cons (ps_set (i := 4) sc_answer_move.nd rfl (Or.inl rfl) (pe_df DM hr (pa_cons (pv 2) (pa_cons (pv 3) (pa_cons (pe_ix ix_list (pv 1) pe_int (fun _ _ => rfl)) (pa_cons (pe_ix ix_list (pv 1) pe_int (fun _ _ => rfl)) pa_nil))))))
      (pss_cons (ps_if (pt_val (pe_df DA hr2 (pa_cons (pv 2) pa_nil))) (pss_one (ps_ret (pe_lst (pa_cons (pe_glob (v := V.int (-5)) rfl gU ⟨_, rfl⟩) pa_nil)))) pss_nil)
      (pss_cons (ps_set (i := 5) sc_answer_move.nd rfl (Or.inl rfl) (pe_df DS hr1 (pa_cons (pe_fld (pv 0) rfl) (pa_cons (pv 2) pa_nil))))
      (pss_cons (ps_fld (pv 0) (pv 2) rfl)
      (pss_one (ps_ret (pe_op op_cat (pe_op op_cat (pv 4) (pe_lst (pa_cons (pe_op op_fdiv (pe_callB call_len_seq (by rfl) B.len PySem.boot_len (pa_cons (pv 5) pa_nil)) pe_int) pa_nil))) (pv 5))))))))))), ?_⟩
    have sp : Ge04.step st (.move n dx dy) = if 60 < dx.natAbs ∨ 60 < dy.natAbs then (st, [-1]) else (match Ge04.find st.boxes n with
      | none => (st, [-2])
      | some _ => if ((Ge04.move st.boxes n dx dy).1.all Ge04.boxOk) = false then (st, [-5]) else ({ st with boxes := (Ge04.move st.boxes n dx dy).1 }, Ge04.ints [(Ge04.move st.boxes n dx dy).2.1, (Ge04.move st.boxes n dx dy).2.2, (elsewhere st.boxes (Ge04.move st.boxes n dx dy).1).length] ++ (elsewhere st.boxes (Ge04.move st.boxes n dx dy).1).flatMap fun b => [(b.number : Int), b.x, b.y])) := rfl
    rw [sp] at q
    have out : ∀ r1, H r1 = none → (60 < dx.natAbs ∨ 60 < dy.natAbs) → Q (.ref r1) (upd H r1 (.lst [.int (-1)])) := fun r1 hr1 c => by
      have s1 : Same H (upd H r1 (.lst [.int (-1)])) := Same.new hr1
      rw [if_pos c] at q
      exact q _ r1 L (Fr2.of s1) (.inl rfl) hr1 (wo0.fresh hr1) upd_same (wo0.same s1)
    refine ⟨_, rfl, row, _, 1, .int dx, rfl, rfl, hrow, rfl, _, rfl, _, _, rfl, rfl, _, rfl, ?_⟩
    rw [far60]
    refine ite2 (fun c => ?_) (fun c => ?_)
    · exact iteT ⟨(by show 1 ≤ sizeLine; decide), fun r1 hr1 => out r1 hr1 (.inl (of_decide_eq_true c))⟩
    refine ⟨_, rfl, row, _, 2, .int dy, rfl, rfl, hrow, rfl, _, rfl, _, _, rfl, rfl, _, rfl, ?_⟩
    rw [far60]
    refine ite2 (fun c2 => ?_) (fun c2 => ?_)
    · exact ⟨(by show 1 ≤ sizeLine; decide), fun r1 hr1 => out r1 hr1 (.inr (of_decide_eq_true c2))⟩
    have near : ¬ (60 < dx.natAbs ∨ 60 < dy.natAbs) := fun z => by
      rcases z with z | z
      · exact c (decide_eq_true z)
      · exact c2 (decide_eq_true z)
    rw [if_neg near] at q
    -- boxes = copies_of(world.boxes)
    refine ⟨_, rfl, wa, CW, dw, _, _, rfl, hw, T.cl, T.nBoxes, lk_boxes _ _, L, as, f, rfl, W, fun H1 r bs g s1 hr1' W1 fr1 e1 => ?_⟩
    have elen : bs.length = as.length := by
      have := congrArg List.length e1
      rw [Mv.wd_length, Mv.wd_length] at this
      exact this
    have ebs : st.boxes = Mv.wd bs g := by rw [eb, e1]
    have hrow1 := s1.seq hrow
    -- mover = box_numbered(boxes, row[0])
    refine ⟨_, rfl, _, rfl, row, _, 0, .int (n : Int), rfl, rfl, hrow1, rfl, r, bs, g, n, rfl, W1.lst, W1.bxs, fun m hm em => ?_, fun no => ?_⟩
    · have en : (g m).number = n := by omega
      have ef : Ge04.find st.boxes n = some (g m) := by
        rw [ebs, ← en]
        exact Mv.find_wd W1.good hm
      rw [ef] at q
      dsimp only at q
      refine ⟨_, rfl, rfl, _, rfl, iteF ?_⟩
      -- steps = move_box(boxes, mover, row[1], row[2])
      refine ⟨_, rfl, _, rfl, _, rfl, row, _, 1, .int dx, rfl, rfl, hrow1, rfl, _, rfl, row, _, 2, .int dy, rfl, rfl, hrow1, rfl, r, m, bs, g, dx, dy, rfl, W1, hm, fun H2 g' t c d k2 l2 W2 ht ht2 emv => ?_⟩
      have nbs : ∀ b o, H b = some o → b ∉ bs := fun b o e z => by rw [fr1 b z] at e; cases e
      have s2 : Same H H2 := fun b o e => k2 _ _ (s1 _ _ e) (nbs b o e)
      rw [en, ← ebs] at emv
      rw [emv] at q
      dsimp only at q
      have okg : ∀ b ∈ bs, Ge04.boxOk (g b) = true := fun b hb => by
        have hm : g b ∈ Mv.wd as f := by rw [← e1]; exact List.mem_map.mpr ⟨b, hb, rfl⟩
        obtain ⟨a, ha, e⟩ := Mv.mem_wd.mp hm
        rw [← e]
        exact ok.ok a ha
      have hs : ∀ b ∈ bs, 1 ≤ (g' b).w ∧ (g' b).w ≤ 50 ∧ 1 ≤ (g' b).h ∧ (g' b).h ≤ 50 := fun b hb => by
        rw [l2.w, l2.h]
        exact sizes_of (okg b hb)
      -- any_beyond(boxes)
      refine ⟨_, rfl, r, bs, g', rfl, W2, fun H3 s3 => ⟨_, rfl, ?_⟩⟩
      have t3 := s2.trans s3
      rw [any_ok hs]
      refine ite2 (fun cb => ?_) (fun cb => ?_)
      · have no : (Mv.wd bs g').all Ge04.boxOk = false := by simpa using cb
        rw [if_pos no] at q
        refine ⟨(by show 1 ≤ sizeLine; decide), fun r1 hr1 => ?_⟩
        have s4 := t3.trans (Same.new (o := .lst [.int (-5)]) hr1)
        exact q _ r1 L (Fr2.of s4) (.inl rfl) (t3.free hr1) (wo0.fresh (t3.free hr1)) upd_same (wo0.same s4)
      have yes : (Mv.wd bs g').all Ge04.boxOk = true := by simpa using cb
      rw [if_neg (by rw [yes]; decide)] at q
      -- moved = moved_since(world.boxes, boxes)
      refine ⟨_, rfl, wa, CW, dw, _, _, rfl, t3 _ _ hw, T.cl, T.nBoxes, lk_boxes _ _, _, rfl, L, r, as, bs, f, g', rfl, W.same t3, W2.same s3, elen.symm, fun H4 u s4 hu hu4 => ?_⟩
      have t4 := t3.trans s4
      obtain ⟨ps, ep1, ep2⟩ := told_eq W.good e1 l2 elen.symm
      rw [ep2] at hu4
      rw [eb] at q
      rw [ep1] at q
      -- world.boxes = boxes
      refine ⟨_, rfl, _, rfl, wa, CW, dw, _, rfl, t4 _ _ hw, T.cl, T.nBoxes, (by show 2 < 1000; decide), ?_⟩
      rw [put_boxes]
      have W4 := (W2.same s3).same s4
      have nrw : r ≠ wa := fun z => by rw [z, hw] at hr1'; cases hr1'
      have nuw : u ≠ wa := fun z => by rw [z, t3 _ _ hw] at hu; cases hu
      have ht4 := s4 _ _ (s3 _ _ ht2)
      have ntw : t ≠ wa := fun z => by rw [z, s1 _ _ hw] at ht; cases ht
      have hw4 := t4 _ _ hw
      have W5 : Wld C (upd H4 wa (.ins CW dw (wF r st.given))) r bs g' := by
        refine ⟨by rw [upd_ne nrw]; exact W4.lst, fun b hb => ?_, W4.good, W4.few⟩
        obtain ⟨d1, h1⟩ := W4.bxs b hb
        refine ⟨d1, ?_⟩
        rw [upd_ne (fun z => ?_)]
        · exact h1
        · rw [z, hw4] at h1
          injection h1 with h1
          injection h1 with _ _ h1
          have : (wF L st.given).length = (bF (g' wa)).length := by rw [h1]
          exact absurd this (by show ¬ (2 = 8); decide)
      have lps : ps.length ≤ 100 := by
        have := congrArg List.length ep1
        rw [List.length_map] at this
        have h2 : (elsewhere (Mv.wd as f) (Mv.wd bs g')).length ≤ bs.length := by
          rw [← Mv.wd_length bs g']
          exact List.length_filter_le _ _
        omega
      -- return steps + [len(moved) // 3] + moved
      have hu5 : (upd H4 wa (.ins CW dw (wF r st.given))) u = some (.lst (ps.flatMap fun p => [.int ((g' p.2).number : Int), .int (g' p.2).x, .int (g' p.2).y])) := by rw [upd_ne nuw]; exact hu4
      have ht5 : (upd H4 wa (.ins CW dw (wF r st.given))) t = some (.lst [.int (c : Int), .int (d : Int)]) := by rw [upd_ne ntw]; exact ht4
      refine ⟨_, rfl, _, rfl, u, _, rfl, Or.inl (SqL.of hu5), _, _, rfl, rfl, ⟨by decide, by decide⟩, (by show 1 ≤ sizeLine; decide), fun z1 hz1 => ?_⟩
      have v1 : Same (upd H4 wa (.ins CW dw (wF r st.given))) (upd (upd H4 wa (.ins CW dw (wF r st.given))) z1 (.lst [.int (((ps.flatMap fun p => [V.int ((g' p.2).number : Int), .int (g' p.2).x, .int (g' p.2).y]).length : Int) / 3)])) := Same.new hz1
      refine ⟨t, z1, _, _, rfl, rfl, v1 _ _ ht5, upd_same, (by show 2 + 1 ≤ sizeLine; decide), fun z2 hz2 => ?_⟩
      have v2 := v1.trans (Same.new (o := .lst ([.int (c : Int), .int (d : Int)] ++ [.int (((ps.flatMap fun p => [V.int ((g' p.2).number : Int), .int (g' p.2).x, .int (g' p.2).y]).length : Int) / 3)])) hz2)
      refine ⟨_, rfl, z2, u, _, _, rfl, rfl, upd_same, v2 _ _ hu5, ?_, fun z3 hz3 => ?_⟩
      · rw [three_len]
        exact Nat.le_of_lt (small1000 (by show 3 + _ ≤ 1000; omega))
      have v3 := v2.trans (Same.new (o := .lst ([.int (c : Int), .int (d : Int)] ++ [.int (((ps.flatMap fun p => [V.int ((g' p.2).number : Int), .int (g' p.2).x, .int (g' p.2).y]).length : Int) / 3)] ++ ps.flatMap fun p => [V.int ((g' p.2).number : Int), .int (g' p.2).x, .int (g' p.2).y])) hz3)
      have hz5 := v2.free hz3
      have n3w : z3 ≠ wa := fun z => by rw [z, upd_same] at hz5; cases hz5
      have n3r : z3 ≠ r := fun z => by rw [z, W5.lst] at hz5; cases hz5
      have hz4 : H4 z3 = none := by
        rw [upd_ne n3w] at hz5
        exact hz5
      have l3 : (((ps.flatMap fun p => [V.int ((g' p.2).number : Int), .int (g' p.2).x, .int (g' p.2).y]).length : Int) / 3) = (ps.length : Int) := by
        rw [three_len]
        omega
      refine q _ z3 r (fun b o e n1 n2 => v3 _ _ (by rw [upd_ne n1]; exact t4 _ _ e)) (.inr hr1') (t4.free hz4) n3r ?_ ⟨bs, g', dw, v3 _ _ upd_same, W5.same v3, rfl, ⟨?_, ?_, ?_, ?_⟩⟩
      · rw [upd_same]
        dsimp only
        rw [l3, move_ans]
      · intro b hb
        rw [l2.number]
        have hm : g b ∈ Mv.wd as f := by rw [← e1]; exact List.mem_map.mpr ⟨b, hb, rfl⟩
        obtain ⟨a, ha, e⟩ := Mv.mem_wd.mp hm
        rw [← e]
        exact ok.num a ha
      · intro b hb
        exact List.all_eq_true.mp yes (g' b) (List.mem_map.mpr ⟨b, hb, rfl⟩)
      · rw [elen]
        exact ok.few
      · have e6 : (bs.map fun b => (g' b).number) = as.map fun a => (f a).number := by
          have := congrArg (List.map fun b : Ge04.Box => b.number) e1
          unfold Mv.wd at this
          rw [List.map_map, List.map_map] at this
          rw [List.map_congr_left fun b _ => l2.number b]
          exact this
        rw [e6]
        exact ok.ord
    · have ef : Ge04.find st.boxes n = none := by
        rw [ebs]
        exact Mv.find_none fun a ha e => no a ha (by rw [e])
      rw [ef] at q
      dsimp only at q
      refine ⟨_, rfl, rfl, _, rfl, iteT ?_⟩
      refine ⟨(by show 1 ≤ sizeLine; decide), fun r1 hr1 => ?_⟩
      have s4 := s1.trans (Same.new (o := .lst [.int (-2)]) hr1)
      exact q _ r1 L (Fr2.of s4) (.inl rfl) (s1.free hr1) (wo0.fresh (s1.free hr1)) upd_same (wo0.same s4)
theorem sc_answer_fall : FnScope ["world", "row", "boxes", "fell"] ["world", "row"] (defScope s_answer_fall) := ⟨rfl, rfl, rfl, by decide +kernel, rfl, by decide +kernel, by decide +kernel⟩
theorem ok_answer_fall {fa : Addr} {fd : FuncData} (F : Fun K "answer_fall" "answer_fall" s_answer_fall fa fd) (T : TxtW K mg CW) (B : Len mg) (DC : Df P w K mg base "copies_of" 3 ["boxes"] (spCopies C))
    (DF : Df P w K mg base "fall_all" 4 ["boxes", "most"] (spFall C)) (DA : Df P w K mg base "any_beyond" 2 ["boxes"] (spAnyBeyond C)) :
    FnOk P w K mg base CX0 5 fa fd ["world", "row"] (spCall K CW C 3) := by
  refine F.ok sc_answer_fall (fun vs H Q E h => ?_) (fun cdv A outer s H vs Q E hr h => ?_)
  · obtain ⟨_, _, _, _, _, rfl, _⟩ := h
    rfl
  · obtain ⟨wa, L, row, args, st, rfl, hrow, wo, ask, q⟩ := h
    obtain ⟨n, rfl, ec⟩ := Mv.call3 ask
    rw [Mv.step_of ec] at q
    have wo0 := wo
    obtain ⟨as, f, dw, hw, W, eb, ok⟩ := wo
    obtain ⟨tO, gO⟩ := T.gOut
    obtain ⟨tU, gU⟩ := T.gToo
    obtain ⟨tM, gM⟩ := T.gMove
    have hr2 : Room 2 _ := hr.mono (by decide)
    have hr3 : Room 3 _ := hr.mono (by decide)
    have few := W.few
    refine ⟨_, pss_cons (ps_if (pt_cmpR op_gt (pe_ix ix_list (pv 1) pe_int (fun _ _ => rfl)) (pe_glob (v := V.int 60) rfl gM ⟨_, rfl⟩) (nomark _)) (pss_one (ps_ret (pe_lst (pa_cons (pe_glob (v := V.int (-1)) rfl gO ⟨_, rfl⟩) pa_nil)))) pss_nil)
      (pss_cons (ps_set (i := 2) sc_answer_fall.nd rfl (Or.inl rfl) (pe_df DC hr3 (pa_cons (pe_fld (pv 0) rfl) pa_nil)))
      (pss_cons (ps_set (i := 3) sc_answer_fall.nd rfl (Or.inl rfl) (pe_df DF hr (pa_cons (pv 2) (pa_cons (pe_ix ix_list (pv 1) pe_int (fun _ _ => rfl)) pa_nil))))
      (pss_cons (ps_if (pt_val (pe_df DA hr2 (pa_cons (pv 2) pa_nil))) (pss_one (ps_ret (pe_lst (pa_cons (pe_glob (v := V.int (-5)) rfl gU ⟨_, rfl⟩) pa_nil)))) pss_nil)
      (pss_cons (ps_fld (pv 0) (pv 2) rfl)
      (pss_one (ps_ret (pe_op op_cat (pe_lst (pa_cons (pe_op op_fdiv (pe_callB call_len_seq (by rfl) B.len PySem.boot_len (pa_cons (pv 3) pa_nil)) pe_int) pa_nil)) (pv 3)))))))), ?_⟩
    have sp : Ge04.step st (.fall n) = if 60 < n then (st, [-1]) else if ((Ge04.fallAll n st.boxes).1.all Ge04.boxOk) = false then (st, [-5]) else ({ st with boxes := (Ge04.fallAll n st.boxes).1 }, Ge04.ints (((Ge04.fallAll n st.boxes).2.filter fun x => x.2 != 0).length :: ((Ge04.fallAll n st.boxes).2.filter fun x => x.2 != 0).flatMap fun x => [x.1, x.2])) := rfl
    rw [sp] at q
    refine ⟨_, rfl, row, _, 0, .int (n : Int), rfl, rfl, hrow, rfl, _, _, rfl, rfl, _, rfl, ?_⟩
    refine ite2 (fun c => ?_) (fun c => ?_)
    · have c := of_decide_eq_true c
      refine ⟨(by show 1 ≤ sizeLine; decide), fun r1 hr1 => ?_⟩
      have s1 : Same H (upd H r1 (.lst [.int (-1)])) := Same.new hr1
      rw [if_pos (by omega)] at q
      exact q _ r1 L (Fr2.of s1) (.inl rfl) hr1 (wo0.fresh hr1) upd_same (wo0.same s1)
    have near : ¬ 60 < n := fun z => c (decide_eq_true (by omega))
    rw [if_neg near] at q
    refine ⟨_, rfl, wa, CW, dw, _, _, rfl, hw, T.cl, T.nBoxes, lk_boxes _ _, L, as, f, rfl, W, fun H1 r bs g s1 hr1' W1 fr1 e1 => ?_⟩
    have elen : bs.length = as.length := by
      have := congrArg List.length e1
      rw [Mv.wd_length, Mv.wd_length] at this
      exact this
    have ebs : st.boxes = Mv.wd bs g := by rw [eb, e1]
    have hrow1 := s1.seq hrow
    -- fell = fall_all(boxes, row[0])
    refine ⟨_, rfl, _, rfl, row, _, 0, .int (n : Int), rfl, rfl, hrow1, rfl, r, bs, g, n, rfl, W1, fun H2 g' t ps k2 l2 W2 ht ht2 efl => ?_⟩
    have nbs : ∀ b o, H b = some o → b ∉ bs := fun b o e z => by rw [fr1 b z] at e; cases e
    have s2 : Same H H2 := fun b o e => k2 _ _ (s1 _ _ e) (nbs b o e)
    rw [← ebs] at efl
    rw [efl] at q
    dsimp only at q
    have okg : ∀ b ∈ bs, Ge04.boxOk (g b) = true := fun b hb => by
      have hm : g b ∈ Mv.wd as f := by rw [← e1]; exact List.mem_map.mpr ⟨b, hb, rfl⟩
      obtain ⟨a, ha, e⟩ := Mv.mem_wd.mp hm
      rw [← e]
      exact ok.ok a ha
    have hs : ∀ b ∈ bs, 1 ≤ (g' b).w ∧ (g' b).w ≤ 50 ∧ 1 ≤ (g' b).h ∧ (g' b).h ≤ 50 := fun b hb => by
      rw [l2.w, l2.h]
      exact sizes_of (okg b hb)
    refine ⟨_, rfl, r, bs, g', rfl, W2, fun H3 s3 => ⟨_, rfl, ?_⟩⟩
    have t3 := s2.trans s3
    rw [any_ok hs]
    refine ite2 (fun cb => ?_) (fun cb => ?_)
    · have no : (Mv.wd bs g').all Ge04.boxOk = false := by simpa using cb
      rw [if_pos no] at q
      refine ⟨(by show 1 ≤ sizeLine; decide), fun r1 hr1 => ?_⟩
      have s4 := t3.trans (Same.new (o := .lst [.int (-5)]) hr1)
      exact q _ r1 L (Fr2.of s4) (.inl rfl) (t3.free hr1) (wo0.fresh (t3.free hr1)) upd_same (wo0.same s4)
    have yes : (Mv.wd bs g').all Ge04.boxOk = true := by simpa using cb
    rw [if_neg (by rw [yes]; decide)] at q
    refine ⟨_, rfl, _, rfl, wa, CW, dw, _, rfl, t3 _ _ hw, T.cl, T.nBoxes, (by show 2 < 1000; decide), ?_⟩
    rw [put_boxes]
    have W4 := W2.same s3
    have nrw : r ≠ wa := fun z => by rw [z, hw] at hr1'; cases hr1'
    have ht4 := s3 _ _ ht2
    have ntw : t ≠ wa := fun z => by rw [z, s1 _ _ hw] at ht; cases ht
    have hw4 := t3 _ _ hw
    have W5 : Wld C (upd H3 wa (.ins CW dw (wF r st.given))) r bs g' := by
      refine ⟨by rw [upd_ne nrw]; exact W4.lst, fun b hb => ?_, W4.good, W4.few⟩
      obtain ⟨d1, h1⟩ := W4.bxs b hb
      refine ⟨d1, ?_⟩
      rw [upd_ne (fun z => ?_)]
      · exact h1
      · rw [z, hw4] at h1
        injection h1 with h1
        injection h1 with _ _ h1
        have : (wF L st.given).length = (bF (g' wa)).length := by rw [h1]
        exact absurd this (by show ¬ (2 = 8); decide)
    have lps : ps.length ≤ 100 := by
      have z := congrArg (fun a => a.2.length) efl
      rw [fallAll_eq, fold_len] at z
      have z2 : (Ge04.fallOrder st.boxes).length ≤ bs.length := by
        rw [ebs, Mv.fallOrder_eq, List.length_map, (Mv.foldr_perm _).length_eq, ← Mv.wd_length bs g]
        exact List.length_filter_le _ _
      have z : 0 + (Ge04.fallOrder st.boxes).length = ps.length := z
      omega
    have lfe : (fellV ps).length = 2 * (ps.filter fun x => x.2 != 0).length := two_len _ _ _
    have lfi := List.length_filter_le (fun x : Nat × Nat => x.2 != 0) ps
    have ht5 : (upd H3 wa (.ins CW dw (wF r st.given))) t = some (.lst (fellV ps)) := by rw [upd_ne ntw]; exact ht4
    refine ⟨_, rfl, t, _, rfl, Or.inl (SqL.of ht5), _, _, rfl, rfl, ⟨by decide, by decide⟩, (by show 1 ≤ sizeLine; decide), fun z1 hz1 => ?_⟩
    have v1 : Same (upd H3 wa (.ins CW dw (wF r st.given))) (upd (upd H3 wa (.ins CW dw (wF r st.given))) z1 (.lst [.int (((fellV ps).length : Int) / 2)])) := Same.new hz1
    refine ⟨_, rfl, z1, t, _, _, rfl, rfl, upd_same, v1 _ _ ht5, (Nat.le_of_lt (small1000 (by show 1 + _ ≤ 1000; omega))), fun z3 hz3 => ?_⟩
    have v3 := v1.trans (Same.new (o := .lst ([.int (((fellV ps).length : Int) / 2)] ++ fellV ps)) hz3)
    have hz5 := v1.free hz3
    have n3w : z3 ≠ wa := fun z => by rw [z, upd_same] at hz5; cases hz5
    have n3r : z3 ≠ r := fun z => by rw [z, W5.lst] at hz5; cases hz5
    have hz4 : H3 z3 = none := by
      rw [upd_ne n3w] at hz5
      exact hz5
    have l3 : (((fellV ps).length : Int) / 2) = ((ps.filter fun x => x.2 != 0).length : Int) := by
      rw [lfe]
      omega
    refine q _ z3 r (fun b o e n1 n2 => v3 _ _ (by rw [upd_ne n1]; exact t3 _ _ e)) (.inr hr1') (t3.free hz4) n3r ?_ ⟨bs, g', dw, v3 _ _ upd_same, W5.same v3, rfl, ⟨?_, ?_, ?_, ?_⟩⟩
    · rw [upd_same]
      dsimp only
      rw [l3, fall_ans]
    · intro b hb
      rw [l2.number]
      have hm : g b ∈ Mv.wd as f := by rw [← e1]; exact List.mem_map.mpr ⟨b, hb, rfl⟩
      obtain ⟨a, ha, e⟩ := Mv.mem_wd.mp hm
      rw [← e]
      exact ok.num a ha
    · intro b hb
      exact List.all_eq_true.mp yes (g' b) (List.mem_map.mpr ⟨b, hb, rfl⟩)
    · rw [elen]
      exact ok.few
    · have e6 : (bs.map fun b => (g' b).number) = as.map fun a => (f a).number := by
        have := congrArg (List.map fun b : Ge04.Box => b.number) e1
        unfold Mv.wd at this
        rw [List.map_map, List.map_map] at this
        rw [List.map_congr_left fun b _ => l2.number b]
        exact this
      rw [e6]
      exact ok.ord
end
end Mb
set_option Elab.async false
set_option maxRecDepth 100000
set_option maxHeartbeats 2000000
namespace Mb
open PySem PySem.Spec PyProof.Rows L2
abbrev s_answer_on : Stmt := top 50
abbrev s_answer_free : Stmt := top 51
abbrev s_answer_boxes : Stmt := top 52
theorem count_ans (f : Addr → Ge04.Box) (as : List Addr) : countV f as = intsV (Ge04.ints ((Mv.nums f as).length :: Mv.nums f as)) := by
  rw [Mv.nums_len, ints_nums]
  rfl
theorem countV_len (f : Addr → Ge04.Box) (as : List Addr) : (countV f as).length = as.length + 1 := by
  unfold countV
  rw [List.length_cons, numV_len]
section
variable {P : Program} {w : World} {K : PySem.W.Frag} {mg : Str → Option Value} {base : Heap} {C CW : Addr}
theorem sc_answer_boxes : FnScope ["world", "row"] ["world", "row"] (defScope s_answer_boxes) := ⟨rfl, rfl, rfl, by decide +kernel, rfl, by decide +kernel, by decide +kernel⟩
theorem ok_answer_boxes {fa : Addr} {fd : FuncData} (F : Fun K "answer_boxes" "answer_boxes" s_answer_boxes fa fd) (T : TxtW K mg CW) (DN : Df P w K mg base "counted" 2 ["boxes"] (spCounted C)) :
    FnOk P w K mg base CX0 3 fa fd ["world", "row"] (spCall K CW C 10) := by
  refine F.ok sc_answer_boxes (fun vs H Q E h => ?_) (fun cdv A outer s H vs Q E hr h => ?_)
  · obtain ⟨_, _, _, _, _, rfl, _⟩ := h
    rfl
  · obtain ⟨wa, L, row, args, st, rfl, hrow, wo, ask, q⟩ := h
    obtain ⟨rfl, ec⟩ := Mv.call10 ask
    rw [Mv.step_of ec] at q
    have wo0 := wo
    obtain ⟨as, f, dx, hw, W, eb, ok⟩ := wo
    refine ⟨_, pss_one (ps_ret (pe_df DN hr (pa_cons (pe_fld (pv 0) rfl) pa_nil))), ?_⟩
    refine ⟨_, rfl, wa, CW, dx, _, _, rfl, hw, T.cl, T.nBoxes, lk_boxes _ _, L, as, f, rfl, W.lst, W.few, W.bxs, fun H2 r s2 hr h2 => ?_⟩
    refine q _ r L (Fr2.of s2) (.inl rfl) hr (wo0.fresh hr) ?_ (wo0.same s2)
    rw [h2, count_ans]
    unfold Ge04.step
    dsimp only
    rw [eb, Mv.wd_length, Mv.nums_len]
    unfold Mv.wd Mv.nums
    rw [List.map_map]
    rfl
theorem sc_answer_free : FnScope ["world", "row", "box"] ["world", "row"] (defScope s_answer_free) := ⟨rfl, rfl, rfl, by decide +kernel, rfl, by decide +kernel, by decide +kernel⟩
theorem ok_answer_free {fa : Addr} {fd : FuncData} (F : Fun K "answer_free" "answer_free" s_answer_free fa fd) (T : TxtW K mg CW) (TB : Txt K mg C) (DN : Df P w K mg base "box_numbered" 1 ["boxes", "number"] (spNumbered C)) (DB : Df P w K mg base "is_beyond" 1 ["across", "down"] spBeyond)
    (DC : Df P w K mg base "counted" 2 ["boxes"] (spCounted C)) (DW : Df P w K mg base "in_way" 3 ["boxes", "box", "over", "under"] (spInWay C)) :
    FnOk P w K mg base CX0 4 fa fd ["world", "row"] (spCall K CW C 9) := by
  refine F.ok sc_answer_free (fun vs H Q E h => ?_) (fun cdv A outer s H vs Q E hr h => ?_)
  · obtain ⟨_, _, _, _, _, rfl, _⟩ := h
    rfl
  · obtain ⟨wa, L, row, args, st, rfl, hrow, wo, ask, q⟩ := h
    obtain ⟨n, x, y, rfl, ec⟩ := Mv.call9 ask
    rw [Mv.step_of ec] at q
    have wo0 := wo
    obtain ⟨as, f, dx, hw, W, eb, ok⟩ := wo
    obtain ⟨tN, gN⟩ := T.gNo
    obtain ⟨tO, gO⟩ := T.gOut
    have hr1 : Room 1 _ := hr.mono (by decide)
    have hr2 : Room 2 _ := hr.mono (by decide)
    have few := W.few
    refine ⟨_, pss_cons (ps_set (i := 2) sc_answer_free.nd rfl (Or.inl rfl) (pe_df DN hr1 (pa_cons (pe_fld (pv 0) rfl) (pa_cons (pe_ix ix_list (pv 1) pe_int (fun _ _ => rfl)) pa_nil))))
      (pss_cons (ps_if (pt_cmpR op_isN (pv 2) pe_non (nomark _)) (pss_one (ps_ret (pe_lst (pa_cons (pe_glob (v := V.int (-2)) rfl gN ⟨_, rfl⟩) pa_nil)))) pss_nil)
      (pss_cons (ps_if (pt_val (pe_df DB hr1 (pa_cons (pe_ix ix_list (pv 1) pe_int (fun _ _ => rfl)) (pa_cons (pe_ix ix_list (pv 1) pe_int (fun _ _ => rfl)) pa_nil)))) (pss_one (ps_ret (pe_lst (pa_cons (pe_glob (v := V.int (-1)) rfl gO ⟨_, rfl⟩) pa_nil)))) pss_nil)
      (pss_one (ps_ret (pe_df DC hr2 (pa_cons (pe_df DW hr (pa_cons (pe_fld (pv 0) rfl) (pa_cons (pv 2) (pa_cons (pe_op op_sub (pe_ix ix_list (pv 1) pe_int (fun _ _ => rfl)) (pe_fld (pv 2) rfl)) (pa_cons (pe_op op_sub (pe_ix ix_list (pv 1) pe_int (fun _ _ => rfl)) (pe_fld (pv 2) rfl)) pa_nil))))) pa_nil)))))), ?_⟩
    have sp : Ge04.step st (.free n x y) = (st, match Ge04.find st.boxes n with
      | none => [-2]
      | some b => if Ge04.placeOk x y = false then [-1] else Ge04.ints (((st.boxes.filter fun a => Ge04.blocks a { b with x := x, y := y }).map fun a => a.number).length :: (st.boxes.filter fun a => Ge04.blocks a { b with x := x, y := y }).map fun a => a.number)) := rfl
    rw [sp] at q
    refine ⟨_, rfl, wa, CW, dx, _, _, rfl, hw, T.cl, T.nBoxes, lk_boxes _ _, _, rfl, row, _, 0, .int (n : Int), rfl, rfl, hrow, rfl, L, as, f, n, rfl, W.lst, W.bxs, fun a ha e => ?_, fun no => ?_⟩
    · have ef : Ge04.find st.boxes n = some (f a) := by
        rw [eb]
        have : (f a).number = n := by omega
        rw [← this]
        exact Mv.find_wd W.good ha
      rw [ef] at q
      dsimp only at q
      refine ⟨_, rfl, rfl, _, rfl, iteF ?_⟩
      refine ⟨_, rfl, row, _, 1, .int x, rfl, rfl, hrow, rfl, _, rfl, row, _, 2, .int y, rfl, rfl, hrow, rfl, x, y, rfl, _, rfl, ?_⟩
      rw [far_place]
      refine ite2 (fun c => ?_) (fun c => ?_)
      · rw [if_pos (by simpa using c)] at q
        refine ⟨(by show 1 ≤ sizeLine; decide), fun r1 hr1 => ?_⟩
        have s1 : Same H (upd H r1 (.lst [.int (-1)])) := Same.new hr1
        exact q _ r1 L (Fr2.of s1) (.inl rfl) hr1 (wo0.fresh hr1) upd_same (wo0.same s1)
      · have pl : Ge04.placeOk x y = true := by simpa using c
        rw [if_neg (by rw [pl]; decide)] at q
        obtain ⟨da, hda⟩ := W.bxs a ha
        refine ⟨_, rfl, wa, CW, dx, _, _, rfl, hw, T.cl, T.nBoxes, lk_boxes _ _, _, rfl, _, rfl, row, _, 1, .int x, rfl, rfl, hrow, rfl, _, rfl, a, C, da, _, _, rfl, hda, TB.cl, TB.nAcross, lk_across _, _, _, rfl, rfl,
          _, rfl, row, _, 2, .int y, rfl, rfl, hrow, rfl, _, rfl, a, C, da, _, _, rfl, hda, TB.cl, TB.nDown, lk_down _, _, _, rfl, rfl, L, a, as, f, f a, _, _, rfl, W.lst, by omega, W.bxs, ⟨da, hda⟩, fun H2 r2 s2 hr2 h2 => ?_⟩
        refine ⟨r2, Mv.inWay f as (f a) (x - (f a).x) (y - (f a).y), f, rfl, h2, Nat.le_trans (List.length_filter_le _ _) few, fun c hc => (W.bxs c (List.mem_filter.mp hc).1).same s2, fun H3 r3 s3 hr3 h3 => ?_⟩
        have t3 := s2.trans s3
        refine q _ r3 L (Fr2.of t3) (.inl rfl) (s2.free hr3) (wo0.fresh (s2.free hr3)) ?_ (wo0.same t3)
        rw [h3, count_ans, eb, Mv.free_eq]
    · have ef : Ge04.find st.boxes n = none := by
        rw [eb]
        exact Mv.find_none fun a ha e => no a ha (by rw [e])
      rw [ef] at q
      refine ⟨_, rfl, rfl, _, rfl, iteT ?_⟩
      refine ⟨(by show 1 ≤ sizeLine; decide), fun r1 hr1 => ?_⟩
      have s1 : Same H (upd H r1 (.lst [.int (-2)])) := Same.new hr1
      exact q _ r1 L (Fr2.of s1) (.inl rfl) hr1 (wo0.fresh hr1) upd_same (wo0.same s1)
theorem sc_answer_on : FnScope ["world", "row", "box", "below", "above", "other"] ["world", "row"] (defScope s_answer_on) := ⟨rfl, rfl, rfl, by decide +kernel, rfl, by decide +kernel, by decide +kernel⟩
theorem ok_answer_on {fa : Addr} {fd : FuncData} (F : Fun K "answer_on" "answer_on" s_answer_on fa fd) (T : TxtW K mg CW) (TB : Txt K mg C) (DN : Df P w K mg base "box_numbered" 1 ["boxes", "number"] (spNumbered C)) (DH : Df P w K mg base "hard_ones" 1 ["boxes"] (spHard C))
    (DS : Df P w K mg base "stands_on" 2 ["upper", "lower"] (spStands C)) (DC : Df P w K mg base "counted" 2 ["boxes"] (spCounted C)) :
    FnOk P w K mg base CX0 3 fa fd ["world", "row"] (spCall K CW C 8) := by
  refine F.ok sc_answer_on (fun vs H Q E h => ?_) (fun cdv A outer s H vs Q E hr h => ?_)
  · obtain ⟨_, _, _, _, _, rfl, _⟩ := h
    rfl
  · obtain ⟨wa, L, row, args, st, rfl, hrow, wo, ask, q⟩ := h
    obtain ⟨n, rfl, ec⟩ := Mv.call8 ask
    rw [Mv.step_of ec] at q
    have wo0 := wo
    obtain ⟨as, f, dx, hw, W, eb, ok⟩ := wo
    obtain ⟨tN, gN⟩ := T.gNo
    have hr1 : Room 1 _ := hr.mono (by decide)
    have few := W.few
    refine ⟨_, pss_cons (ps_set (i := 2) sc_answer_on.nd rfl (Or.inr rfl) (pe_df DN hr1 (pa_cons (pe_fld (pv 0) rfl) (pa_cons (pe_ix ix_list (pv 1) pe_int (fun _ _ => rfl)) pa_nil))))
      (pss_cons (ps_if (pt_cmpR op_isN (pv 2) pe_non (nomark _)) (pss_one (ps_ret (pe_lst (pa_cons (pe_glob (v := V.int (-2)) rfl gN ⟨_, rfl⟩) pa_nil)))) pss_nil)
      (pss_cons (ps_if (pt_cmpR op_eq (pe_fld (pv 2) rfl) pe_int (nomark _)) (pss_one (ps_ret (pe_lst (pa_cons pe_int (pa_cons pe_int pa_nil))))) pss_nil)
      (pss_cons (ps_setLc (i := 3) (own := [("other", 5)]) (g := gName 5) (tt := tB (tCall (spStands C) [] E0 (tCons (tVar 2) (tCons (tVar 5) tNil)))) (te := tVar 5) rfl sc_answer_on.nd rfl rfl
          (sw_true rfl rfl rfl (by decide +kernel)) (pi_list (pe_df DH hr1 (pa_cons (pe_fld (pv 0) rfl) pa_nil))) (blkOk_by (N := ["world", "row", "box", "below", "above", "other"]) (sc := defScope s_answer_on) (by decide +kernel))
          (by intro _ _ _ _ _; exact pg_name (i := 5) sc_answer_on.nd rfl (Or.inl rfl))
          (by intro _ _ _ _ _; exact pts_one (pt_val (pe_df DS hr (pa_cons (pv 2) (pa_cons (pv 5) pa_nil)))))
          (by intro _ _ _ _ _; exact pv 5))
      (pss_cons (ps_setLc (i := 4) (own := [("other", 5)]) (g := gName 5) (tt := tB (tCall (spStands C) [] E0 (tCons (tVar 5) (tCons (tVar 2) tNil)))) (te := tVar 5) rfl sc_answer_on.nd rfl rfl
          (sw_true rfl rfl rfl (by decide +kernel)) (pi_list (pe_df DH hr1 (pa_cons (pe_fld (pv 0) rfl) pa_nil))) (blkOk_by (N := ["world", "row", "box", "below", "above", "other"]) (sc := defScope s_answer_on) (by decide +kernel))
          (by intro _ _ _ _ _; exact pg_name (i := 5) sc_answer_on.nd rfl (Or.inl rfl))
          (by intro _ _ _ _ _; exact pts_one (pt_val (pe_df DS hr (pa_cons (pv 5) (pa_cons (pv 2) pa_nil)))))
          (by intro _ _ _ _ _; exact pv 5))
      (pss_one (ps_ret (pe_op op_cat (pe_df DC hr (pa_cons (pv 3) pa_nil)) (pe_df DC hr (pa_cons (pv 4) pa_nil))))))))), ?_⟩
    have sp : Ge04.step st (.on n) = (st, match Ge04.find st.boxes n with
      | none => [-2]
      | some b => Ge04.ints (((st.boxes.filter fun a => a.hard && (b.hard && Ge04.standsOn b a)).map fun a => a.number).length :: (st.boxes.filter fun a => a.hard && (b.hard && Ge04.standsOn b a)).map fun a => a.number) ++ Ge04.ints (((st.boxes.filter fun a => a.hard && (b.hard && Ge04.standsOn a b)).map fun a => a.number).length :: (st.boxes.filter fun a => a.hard && (b.hard && Ge04.standsOn a b)).map fun a => a.number)) := rfl
    rw [sp] at q
    refine ⟨_, rfl, wa, CW, dx, _, _, rfl, hw, T.cl, T.nBoxes, lk_boxes _ _, _, rfl, row, _, 0, .int (n : Int), rfl, rfl, hrow, rfl, L, as, f, n, rfl, W.lst, W.bxs, fun a ha e => ?_, fun no => ?_⟩
    · have ef : Ge04.find st.boxes n = some (f a) := by
        rw [eb]
        have : (f a).number = n := by omega
        rw [← this]
        exact Mv.find_wd W.good ha
      rw [ef] at q
      dsimp only at q
      obtain ⟨da, hda⟩ := W.bxs a ha
      refine ⟨_, rfl, rfl, _, rfl, iteF ?_⟩
      refine ⟨_, rfl, a, C, da, _, _, rfl, hda, TB.cl, TB.nHard, lk_hard _, rfl, _, rfl, ?_⟩
      rw [bi_eq0]
      cases hh : (f a).hard with
      | false =>
        refine iteT ⟨(by show 2 ≤ sizeLine; decide), fun r1 hr1 => ?_⟩
        have s1 : Same H (upd H r1 (.lst [.int 0, .int 0])) := Same.new hr1
        refine q _ r1 L (Fr2.of s1) (.inl rfl) hr1 (wo0.fresh hr1) ?_ (wo0.same s1)
        rw [upd_same, Mv.on_soft hh, Mv.on_soft (p := fun c => Ge04.standsOn c (f a)) hh]
        rfl
      | true =>
        refine iteF ?_
        rw [eb, Mv.on_below W.good ha hh, Mv.on_above W.good ha hh] at q
        have lh := hards_len f as
        -- below
        refine ⟨_, rfl, wa, CW, dx, _, _, rfl, hw, T.cl, T.nBoxes, lk_boxes _ _, L, as, f, rfl, W.lst, by omega, W.bxs, fun g1 hg1 => ?_⟩
        have s1 : Same H (upd H g1 (.lst ((hards f as).map V.ref))) := Same.new hg1
        refine ⟨g1, rfl, ⟨_, SqL.of upd_same⟩, fun O hO => lc_gen (K := K) (fun c => Mv.stOn (f a) (f c)) V.ref (SqL.of upd_same) hO (by omega) (fun _ => rfl) (fun c hc acc S r => ?_) (fun c hc _ acc S r => ⟨_, rfl, r⟩) ?_⟩
        · have h1 := ((W.bxs c (mem_hards hc)).same s1).new (o := .lst acc) hO
          have h2 := ((W.bxs a ha).same s1).new (o := .lst acc) hO
          exact ⟨_, rfl, _, rfl, a, c, f a, f c, rfl, h2, h1, _, rfl, r⟩
        have s2 := s1.trans (Same.new (o := .lst (((hards f as).filter fun c => Mv.stOn (f a) (f c)).map V.ref)) hO)
        -- above
        refine ⟨_, rfl, wa, CW, dx, _, _, rfl, s2 _ _ hw, T.cl, T.nBoxes, lk_boxes _ _, L, as, f, rfl, s2 _ _ W.lst, by omega, W.bxs.same s2, fun g2 hg2 => ?_⟩
        have s3 := s2.trans (Same.new (o := .lst ((hards f as).map V.ref)) hg2)
        refine ⟨g2, rfl, ⟨_, SqL.of upd_same⟩, fun O2 hO2 => lc_gen (K := K) (fun c => Mv.stOn (f c) (f a)) V.ref (SqL.of upd_same) hO2 (by omega) (fun _ => rfl) (fun c hc acc S r => ?_) (fun c hc _ acc S r => ⟨_, rfl, r⟩) ?_⟩
        · have h1 := ((W.bxs c (mem_hards hc)).same s3).new (o := .lst acc) hO2
          have h2 := ((W.bxs a ha).same s3).new (o := .lst acc) hO2
          exact ⟨_, rfl, _, rfl, c, a, f c, f a, rfl, h1, h2, _, rfl, r⟩
        have s4 := s3.trans (Same.new (o := .lst (((hards f as).filter fun c => Mv.stOn (f c) (f a)).map V.ref)) hO2)
        have l1 : ((hards f as).filter fun c => Mv.stOn (f a) (f c)).length ≤ 100 := Nat.le_trans (List.length_filter_le _ _) (by omega)
        have l2 : ((hards f as).filter fun c => Mv.stOn (f c) (f a)).length ≤ 100 := Nat.le_trans (List.length_filter_le _ _) (by omega)
        -- counted(below) + counted(above)
        refine ⟨_, rfl, O, (hards f as).filter fun c => Mv.stOn (f a) (f c), f, rfl, (Same.new hO2) _ _ ((Same.new hg2) _ _ upd_same), l1, fun c hc => (W.bxs c (mem_hards (List.mem_filter.mp hc).1)).same s4, fun H5 r5 s5 hr5 h5 => ?_⟩
        refine ⟨_, rfl, O2, (hards f as).filter fun c => Mv.stOn (f c) (f a), f, rfl, s5 _ _ upd_same, l2, fun c hc => (W.bxs c (mem_hards (List.mem_filter.mp hc).1)).same (s4.trans s5), fun H6 r6 s6 hr6 h6 => ?_⟩
        have t6 := (s4.trans s5).trans s6
        refine ⟨r5, r6, _, _, rfl, rfl, s6 _ _ h5, h6, (by rw [countV_len, countV_len]; exact Nat.le_of_lt (small1000 (by omega))), fun r7 hr7 => ?_⟩
        have t7 := t6.trans (Same.new (o := .lst (countV f ((hards f as).filter fun c => Mv.stOn (f a) (f c)) ++ countV f ((hards f as).filter fun c => Mv.stOn (f c) (f a)))) hr7)
        refine q _ r7 L (Fr2.of t7) (.inl rfl) (t6.free hr7) (wo0.fresh (t6.free hr7)) ?_ (wo0.same t7)
        rw [upd_same, count_ans, count_ans]
        unfold intsV
        rw [List.map_append]
        rfl
    · have ef : Ge04.find st.boxes n = none := by
        rw [eb]
        exact Mv.find_none fun a ha e => no a ha (by rw [e])
      rw [ef] at q
      refine ⟨_, rfl, rfl, _, rfl, iteT ?_⟩
      refine ⟨(by show 1 ≤ sizeLine; decide), fun r1 hr1 => ?_⟩
      have s1 : Same H (upd H r1 (.lst [.int (-2)])) := Same.new hr1
      exact q _ r1 L (Fr2.of s1) (.inl rfl) hr1 (wo0.fresh hr1) upd_same (wo0.same s1)
end
end Mb
set_option Elab.async false
set_option maxRecDepth 100000
set_option maxHeartbeats 2000000
namespace Mb
open PySem PySem.Spec PyProof.Rows L2
abbrev s_answer_ray : Stmt := top 48
abbrev s_answer_overs : Stmt := top 49
def pairV (ps : List (Nat × Nat)) : List V := ps.flatMap fun x => [.int (x.1 : Int), .int (x.2 : Int)]
theorem pairV_len : ∀ ps : List (Nat × Nat), (pairV ps).length = 2 * ps.length
  | [] => rfl
  | x :: r => by
    show (pairV r).length + 2 = _
    rw [pairV_len r, List.length_cons]
    omega
theorem pairV_more (ps : List (Nat × Nat)) (m n : Nat) : pairV (ps ++ [(m, n)]) = pairV ps ++ [.int (m : Int), .int (n : Int)] := by
  unfold pairV
  rw [List.flatMap_append]
  rfl
theorem pair_ans (ps : List (Nat × Nat)) : V.int (ps.length : Int) :: pairV ps = intsV (Ge04.ints (ps.length :: ps.flatMap fun x => [x.1, x.2])) := by
  unfold pairV intsV Ge04.ints
  rw [List.map_cons, List.map_cons, List.map_flatMap, List.map_flatMap]
  rfl
theorem cut_tail {as : List Addr} {i : Nat} (h : i + 1 ≤ as.length) : cutV (as.map V.ref) (some ((i : Int) + 1)) none = (as.drop (i + 1)).map V.ref := by
  unfold cutV
  have e : ((i : Int) + 1) = ((i + 1 : Nat) : Int) := by omega
  rw [e, HT.sIx_nat, HT.sIx_none, List.length_map, Nat.min_eq_left h, ← List.map_drop]
  refine List.take_of_length_le ?_
  rw [List.length_map, List.length_drop]
  exact Nat.le_refl _
theorem drop_more {α : Type} {l : List α} {i : Nat} {x : α} (h : l[i]? = some x) : l.drop i = x :: l.drop (i + 1) := by
  obtain ⟨hi, e⟩ := List.getElem?_eq_some_iff.mp h
  rw [List.drop_eq_getElem_cons hi, e]
theorem meets_over (a b : Ge04.Box) : (meets a.x a.w b.x b.w && meets a.y a.h b.y b.h) = Ge04.over a b := by
  unfold meets Ge04.over
  rw [Bool.and_assoc]
def withA (f : Addr → Ge04.Box) (a : Addr) (bs : List Addr) : List (Nat × Nat) := (bs.filter fun b => Ge04.over (f a) (f b)).map fun b => ((f a).number, (f b).number)
theorem with_more (f : Addr → Ge04.Box) (a b : Addr) (bs : List Addr) : withA f a (b :: bs) = (if Ge04.over (f a) (f b) = true then [((f a).number, (f b).number)] else []) ++ withA f a bs := by
  unfold withA
  rw [List.filter_cons]
  split <;> rfl
theorem ov_more (f : Addr → Ge04.Box) (a : Addr) (bs : List Addr) : Mv.ov f (a :: bs) = withA f a bs ++ Mv.ov f bs := rfl
section
variable {P : Program} {w : World} {K : PySem.W.Frag} {mg : Str → Option Value} {base : Heap} {C CW : Addr}
theorem sc_answer_overs : FnScope ["world", "row", "pairs", "at", "box", "other"] ["world", "row"] (defScope s_answer_overs) := ⟨rfl, rfl, rfl, by decide +kernel, rfl, by decide +kernel, by decide +kernel⟩
theorem ok_answer_overs {fa : Addr} {fd : FuncData} (F : Fun K "answer_overs" "answer_overs" s_answer_overs fa fd) (T : TxtW K mg CW) (TB : Txt K mg C) (B : Len mg) (DO : Df P w K mg base "have_common_place" 3 ["box", "other"] (spCommon C)) :
    FnOk P w K mg base CX0 4 fa fd ["world", "row"] (spCall K CW C 7) := by
  refine F.ok sc_answer_overs (fun vs H Q E h => ?_) (fun cdv A outer s H vs Q E hr h => ?_)
  · obtain ⟨_, _, _, _, _, rfl, _⟩ := h
    rfl
  · obtain ⟨wa, L, row, args, st, rfl, hrow, wo, ask, q⟩ := h
    obtain ⟨rfl, ec⟩ := Mv.call7 ask
    rw [Mv.step_of ec] at q
    have wo0 := wo
    obtain ⟨as, f, dx, hw, W, eb, ok⟩ := wo
    refine ⟨_, pss_cons (ps_set (i := 2) sc_answer_overs.nd rfl (Or.inl rfl) (pe_lst pa_nil))
      (pss_cons (ps_for PassesOwn.never rfl (pi_enum (by rfl) B.enumerate (pa_cons (pe_fld (pv 0) rfl) pa_nil)) (pg_tup rfl (pgs_cons (pg_name (i := 3) sc_answer_overs.nd rfl (.inl rfl)) (pgs_cons (pg_name (i := 4) sc_answer_overs.nd rfl (.inl rfl)) pgs_nil)))
        (pss_one (ps_for PassesOwn.never rfl (pi_list (pe_slice sl_list (pe_fld (pv 0) rfl) (po_some (pe_op op_add (pv 3) pe_int)) po_none)) (pg_name (i := 5) sc_answer_overs.nd rfl (Or.inl rfl))
          (pss_one (ps_if (pt_val (pe_df DO hr (pa_cons (pv 4) (pa_cons (pv 5) pa_nil))))
            (pss_one (ps_expr (pe_bm PySem.F.plainAttrs_list PySem.F.slot_list_extend PySem.F.type_list_extend mt_extend (pv 2) (pa_cons (pe_lst (pa_cons (pe_fld (pv 4) rfl) (pa_cons (pe_fld (pv 5) rfl) pa_nil))) pa_nil)))) pss_nil)))))
      (pss_one (ps_ret (pe_op op_cat (pe_lst (pa_cons (pe_op op_fdiv (pe_callB call_len_seq (by rfl) B.len PySem.boot_len (pa_cons (pv 2) pa_nil)) pe_int) pa_nil)) (pv 2))))), ?_⟩
    have sp : Ge04.step st .overs = (st, Ge04.ints ((Ge04.overs st.boxes).length :: (Ge04.overs st.boxes).flatMap fun x => [x.1, x.2])) := rfl
    rw [sp, eb, Mv.overs_eq ok.ord] at q
    have lov : (Mv.ov f as).length ≤ 256 := Nat.le_trans (Mv.ov_len f as) (Nat.mul_le_mul ok.few ok.few)
    refine ⟨Nat.zero_le _, fun R hR => ?_⟩
    have s0 : Same H (upd H R (.lst [])) := Same.new hR
    refine ⟨_, rfl, wa, CW, dx, _, _, rfl, s0 _ _ hw, T.cl, T.nBoxes, lk_boxes _ _, L, _, rfl, SqL.of (s0 _ _ W.lst), for_it (walk_enum (K := K) (a := L) (xs := as.map V.ref))
      (fun i σ H' => ∃ (v3 v4 v5 : Option V) (ps : List (Nat × Nat)), σ = [some (.ref wa), some (.ref row), some (.ref R), v3, v4, v5] ∧ Same H H' ∧ H' R = some (.lst (pairV ps)) ∧ ps ++ Mv.ov f (as.drop i) = Mv.ov f as)
      ⟨none, none, none, [], rfl, s0, upd_same, rfl⟩ (fun i σ H' _ ⟨_, _, _, _, _, s5, _⟩ => SqL.of (s5 _ _ W.lst)) ?_ ?_⟩
    · rintro i x σ H' _ hi ⟨v3, v4, v5, ps, rfl, s5, hR5, ep⟩ ⟨Tp, x1, y1, rfl, hT, rfl, e1, e2⟩
      have e1 : V.int (i : Nat) = x1 := Option.some.inj e1
      subst e1
      obtain ⟨a, ha, rfl, ham⟩ := get_ref e2
      rw [List.length_map] at hi
      have s6 := s5.trans (Same.new (o := .tup [.int (i : Nat), .ref a]) hT)
      have hR6 := (Same.new (o := .tup [.int (i : Nat), .ref a]) hT) _ _ hR5
      rw [drop_more ha, ov_more, ← List.append_assoc] at ep
      refine ⟨Tp, _, rfl, SqT.of upd_same, rfl, _, _, rfl, _, _, rfl, rfl, ?_⟩
      -- for other in world.boxes[at + 1:]
      refine ⟨_, rfl, wa, CW, dx, _, _, rfl, s6 _ _ hw, T.cl, T.nBoxes, lk_boxes _ _, _, rfl, _, _, rfl, rfl, _, rfl, L, _, rfl, SqL.of (s6 _ _ W.lst), fun S hS => ?_⟩
      rw [cut_tail (by omega)]
      have nSR : S ≠ R := fun z => by rw [z, hR6] at hS; cases hS
      have s7 := s6.trans (Same.new (o := .lst ((as.drop (i + 1)).map V.ref)) hS)
      have hR7 := (Same.new (o := .lst ((as.drop (i + 1)).map V.ref)) hS) _ _ hR6
      refine ⟨S, rfl, ⟨_, SqL.of upd_same⟩, for_list (K := K) (a := S) (xs := (as.drop (i + 1)).map V.ref) (fun j σ H2 => ∃ (v5 : Option V) (qs : List (Nat × Nat)), σ = [some (.ref wa), some (.ref row), some (.ref R), some (.int (i : Nat)), some (.ref a), v5] ∧ Same H H2 ∧ H2 S = some (.lst ((as.drop (i + 1)).map V.ref)) ∧
        H2 R = some (.lst (pairV qs)) ∧ qs ++ withA f a ((as.drop (i + 1)).drop j) ++ Mv.ov f (as.drop (i + 1)) = Mv.ov f as)
        ⟨v5, ps, rfl, s7, upd_same, hR7, ep⟩ (fun j σ H2 _ ⟨_, _, _, _, h, _⟩ => SqL.of h) ?_ ?_⟩
      · rintro j x σ H2 hx ⟨v5, qs, rfl, t2, hS2, hR2, eq⟩
        obtain ⟨b, hb, rfl, hbm⟩ := get_ref hx
        have hbas : b ∈ as := List.mem_of_mem_drop hbm
        obtain ⟨d1, h1⟩ := (W.bxs a ham).same t2
        obtain ⟨d2, h2⟩ := (W.bxs b hbas).same t2
        have lqs : qs.length ≤ 256 := by
          have := congrArg List.length eq
          rw [List.length_append, List.length_append] at this
          omega
        rw [drop_more hb, with_more] at eq
        refine ⟨_, rfl, _, rfl, a, b, f a, f b, rfl, ⟨d1, h1⟩, ⟨d2, h2⟩, _, rfl, ?_⟩
        rw [meets_over]
        cases hy : Ge04.over (f a) (f b) with
        | false =>
          rw [hy, if_neg Bool.false_ne_true, List.nil_append] at eq
          exact iteF ⟨some (.ref b), qs, rfl, t2, hS2, hR2, eq⟩
        | true =>
          rw [hy, if_pos rfl, ← List.append_assoc] at eq
          refine iteT ⟨_, rfl, .inl ⟨rfl, _, SqL.of hR2⟩, _, rfl, a, C, d1, _, _, rfl, h1, TB.cl, TB.nNumber, lk_number _, _, rfl, b, C, d2, _, _, rfl, h2, TB.cl, TB.nNumber, lk_number _, (by show 2 ≤ sizeLine; decide), fun Y hY => ?_⟩
          have t3 : Same H2 (upd H2 Y (.lst [.int ((f a).number : Int), .int ((f b).number : Int)])) := Same.new hY
          refine ⟨R, Y, _, _, rfl, rfl, t3 _ _ hR2, upd_same, (by rw [pairV_len]; exact Nat.le_of_lt (small1000 (by show _ + 2 ≤ 1000; omega))), some (.ref b), qs ++ [((f a).number, (f b).number)], rfl, ?_, ?_, ?_, eq⟩
          · intro c o e
            rw [upd_ne (ne_of_none e hR)]
            exact t3 _ _ (t2 _ _ e)
          · rw [upd_ne nSR]
            exact t3 _ _ hS2
          · rw [upd_same, pairV_more]
      · rintro σ H2 ⟨v5, qs, rfl, t2, hS2, hR2, eq⟩
        rw [List.length_map, List.drop_length] at eq
        refine ⟨some (.int (i : Nat)), some (.ref a), v5, qs, rfl, t2, hR2, ?_⟩
        have e0 : withA f a [] = [] := rfl
        rw [e0, List.append_nil] at eq
        exact eq
    · rintro σ H' ⟨v3, v4, v5, ps, rfl, s5, hR5, ep⟩
      have e0 : Mv.ov f ([] : List Addr) = [] := rfl
      rw [List.length_map, List.drop_length, e0, List.append_nil] at ep
      subst ep
      refine ⟨_, rfl, R, _, rfl, Or.inl (SqL.of hR5), _, _, rfl, rfl, ⟨by decide, by decide⟩, (by show 1 ≤ sizeLine; decide), fun z1 hz1 => ?_⟩
      have hR6 := (Same.new (o := .lst [.int (((pairV (Mv.ov f as)).length : Int) / 2)]) hz1) _ _ hR5
      have s6 := s5.trans (Same.new (o := .lst [.int (((pairV (Mv.ov f as)).length : Int) / 2)]) hz1)
      refine ⟨_, rfl, z1, R, _, _, rfl, rfl, upd_same, hR6, (by rw [pairV_len]; exact Nat.le_of_lt (small1000 (by show 1 + _ ≤ 1000; omega))), fun z2 hz2 => ?_⟩
      have s7 := s6.trans (Same.new (o := .lst ([.int (((pairV (Mv.ov f as)).length : Int) / 2)] ++ pairV (Mv.ov f as))) hz2)
      refine q _ z2 L (Fr2.of s7) (.inl rfl) (s6.free hz2) (wo0.fresh (s6.free hz2)) ?_ (wo0.same s7)
      have el : (((pairV (Mv.ov f as)).length : Int) / 2) = ((Mv.ov f as).length : Int) := by
        rw [pairV_len]
        omega
      rw [upd_same]
      dsimp only
      rw [el]
      show some (HO.lst (V.int ((Mv.ov f as).length : Int) :: pairV (Mv.ov f as))) = _
      rw [pair_ans]
theorem way_no (a b : Int) : (!isWay a b) = true ↔ (1 < a.natAbs ∨ 1 < b.natAbs ∨ (a = 0 ∧ b = 0)) := by
  unfold isWay
  simp only [Bool.not_eq_true', Bool.and_eq_false_iff, Bool.or_eq_false_iff, decide_eq_false_iff_not]
  omega
theorem in_rect1 (b : Ge04.Box) (x y : Int) : (meets b.x b.w x 1 && meets b.y b.h y 1) = Ge04.over b ⟨0, x, y, 1, 1, false, false, false⟩ := in_rect b x y 1 1
theorem sc_answer_ray : FnScope ["world", "row", "across", "down", "ahead", "having", "box"] ["world", "row"] (defScope s_answer_ray) := ⟨rfl, rfl, rfl, by decide +kernel, rfl, by decide +kernel, by decide +kernel⟩
theorem ok_answer_ray {fa : Addr} {fd : FuncData} (F : Fun K "answer_ray" "answer_ray" s_answer_ray fa fd) (T : TxtW K mg CW) (B : Len mg) (DB : Df P w K mg base "is_beyond" 1 ["across", "down"] spBeyond) (DY : Df P w K mg base "is_way" 1 ["over", "under"] spIsWay)
    (DH : Df P w K mg base "hard_ones" 1 ["boxes"] (spHard C)) (DP : Df P w K mg base "has_place_in" 2 ["box", "across", "down", "wide", "high"] (spPlace C)) (DC : Df P w K mg base "counted" 2 ["boxes"] (spCounted C)) :
    FnOk P w K mg base CX0 3 fa fd ["world", "row"] (spCall K CW C 6) := by
  refine F.ok sc_answer_ray (fun vs H Q E h => ?_) (fun cdv A outer s H vs Q E hr h => ?_)
  · obtain ⟨_, _, _, _, _, rfl, _⟩ := h
    rfl
  · obtain ⟨wa, L, row, args, st, rfl, hrow, wo, ask, q⟩ := h
    obtain ⟨x, y, a, b, k, rfl, ec⟩ := Mv.call6 ask
    rw [Mv.step_of ec] at q
    have wo0 := wo
    obtain ⟨as, f, dx, hw, W, eb, ok⟩ := wo
    obtain ⟨tO, gO⟩ := T.gOut
    obtain ⟨tR, gR⟩ := T.gRay
    obtain ⟨tN, gN⟩ := T.gNone
    have hr1 : Room 1 _ := hr.mono (by decide)
    have few := W.few
    have lh := hards_len f as
    refine ⟨_, pss_cons (ps_if (PW.pt (pw_or (pt_val (pe_df DB hr1 (pa_cons (pe_ix ix_list (pv 1) pe_int (fun _ _ => rfl)) (pa_cons (pe_ix ix_list (pv 1) pe_int (fun _ _ => rfl)) pa_nil))))
          (pw_or (pt_not (pt_val (pe_df DY hr1 (pa_cons (pe_ix ix_list (pv 1) pe_int (fun _ _ => rfl)) (pa_cons (pe_ix ix_list (pv 1) pe_int (fun _ _ => rfl)) pa_nil)))))
          (pw_or1 (pt_cmpR op_gt (pe_ix ix_list (pv 1) pe_int (fun _ _ => rfl)) (pe_glob (v := V.int 300) rfl gR ⟨_, rfl⟩) (nomark _))))))
        (pss_one (ps_ret (pe_lst (pa_cons (pe_glob (v := V.int (-1)) rfl gO ⟨_, rfl⟩) pa_nil)))) pss_nil)
      (pss_cons (ps_set (i := 2) sc_answer_ray.nd rfl (Or.inr rfl) (pe_ix ix_list (pv 1) pe_int (fun _ _ => rfl)))
      (pss_cons (ps_set (i := 3) sc_answer_ray.nd rfl (Or.inr rfl) (pe_ix ix_list (pv 1) pe_int (fun _ _ => rfl)))
      (pss_cons (ps_for PassesOwn.never rfl (pi_range1 (by rfl) B.range (pa_cons (pe_ix ix_list (pv 1) pe_int (fun _ _ => rfl)) pa_nil)) (pg_name (i := 4) sc_answer_ray.nd rfl (Or.inl rfl))
        (pss_cons (ps_aug (i := 2) sc_answer_ray.nd rfl (.inr rfl) (pe_ix ix_list (pv 1) pe_int (fun _ _ => rfl)) ip_add)
        (pss_cons (ps_aug (i := 3) sc_answer_ray.nd rfl (.inr rfl) (pe_ix ix_list (pv 1) pe_int (fun _ _ => rfl)) ip_add)
        (pss_cons (ps_setLc (i := 5) (own := [("box", 6)]) (g := gName 6) (tt := tB (tCall (spPlace C) [] E0 (tCons (tVar 6) (tCons (tVar 2) (tCons (tVar 3) (tCons (tC (.int 1)) (tCons (tC (.int 1)) tNil))))))) (te := tVar 6) rfl sc_answer_ray.nd rfl rfl
            (sw_true rfl rfl rfl (by decide +kernel)) (pi_list (pe_df DH hr1 (pa_cons (pe_fld (pv 0) rfl) pa_nil))) (blkOk_by (N := ["world", "row", "across", "down", "ahead", "having", "box"]) (sc := defScope s_answer_ray) (by decide +kernel))
            (by intro _ _ _ _ _; exact pg_name (i := 6) sc_answer_ray.nd rfl (Or.inl rfl))
            (by intro _ _ _ _ _; exact pts_one (pt_val (pe_df DP hr (pa_cons (pv 6) (pa_cons (pv 2) (pa_cons (pv 3) (pa_cons pe_int (pa_cons pe_int pa_nil))))))))
            (by intro _ _ _ _ _; exact pv 6))
        (pss_one (ps_if (pt_truth (pv 5) (by intro _; rfl)) (pss_one (ps_ret (pe_op op_cat (pe_lst (pa_cons (pv 4) pa_nil)) (pe_df DC hr (pa_cons (pv 5) pa_nil))))) pss_nil))))))
      (pss_one (ps_ret (pe_lst (pa_cons (pe_glob (v := V.int (-6)) rfl gN ⟨_, rfl⟩) pa_nil))))))), ?_⟩
    have sp : Ge04.step st (.ray x y a b k) = (st, if Ge04.placeOk x y = false ∨ 1 < a.natAbs ∨ 1 < b.natAbs ∨ (a = 0 ∧ b = 0) ∨ 300 < k then [-1] else match Ge04.ray st.boxes a b k x y with
      | none => [-6]
      | some r => Ge04.ints (r.1 :: r.2.length :: r.2)) := rfl
    rw [sp] at q
    have out : ∀ r1, H r1 = none → (Ge04.placeOk x y = false ∨ 1 < a.natAbs ∨ 1 < b.natAbs ∨ (a = 0 ∧ b = 0) ∨ 300 < k) → Q (.ref r1) (upd H r1 (.lst [.int (-1)])) := fun r1 hr1 c => by
      have s1 : Same H (upd H r1 (.lst [.int (-1)])) := Same.new hr1
      rw [if_pos c] at q
      exact q _ r1 L (Fr2.of s1) (.inl rfl) hr1 (wo0.fresh hr1) upd_same (wo0.same s1)
    refine ⟨_, rfl, row, _, 0, .int x, rfl, rfl, hrow, rfl, _, rfl, row, _, 1, .int y, rfl, rfl, hrow, rfl, x, y, rfl, _, rfl, ?_⟩
    rw [far_place]
    refine ite2 (fun c => ?_) (fun c => ?_)
    · exact iteT ⟨(by show 1 ≤ sizeLine; decide), fun r1 hr1 => out r1 hr1 (.inl (by simpa using c))⟩
    have pl : Ge04.placeOk x y = true := by simpa using c
    refine ⟨_, rfl, row, _, 2, .int a, rfl, rfl, hrow, rfl, _, rfl, row, _, 3, .int b, rfl, rfl, hrow, rfl, a, b, rfl, _, rfl, ?_⟩
    refine ite2 (fun c2 => ?_) (fun c2 => ?_)
    · refine iteT ⟨(by show 1 ≤ sizeLine; decide), fun r1 hr1 => out r1 hr1 (.inr ?_)⟩
      have := (way_no a b).mp c2
      omega
    refine ⟨_, rfl, row, _, 4, .int (k : Int), rfl, rfl, hrow, rfl, _, _, rfl, rfl, _, rfl, ?_⟩
    refine ite2 (fun c3 => ?_) (fun c3 => ?_)
    · refine ⟨(by show 1 ≤ sizeLine; decide), fun r1 hr1 => out r1 hr1 ?_⟩
      have := of_decide_eq_true c3
      omega
    have lk : k ≤ 300 := by
      by_cases z : k ≤ 300
      · exact z
      · exact absurd (decide_eq_true (by omega)) c3
    have no : ¬ (Ge04.placeOk x y = false ∨ 1 < a.natAbs ∨ 1 < b.natAbs ∨ (a = 0 ∧ b = 0) ∨ 300 < k) := fun z => by
      rcases z with z | z
      · rw [pl] at z; cases z
      · exact c2 ((way_no a b).mpr (by omega))
    rw [if_neg no] at q
    -- across = row[0]; down = row[1]
    refine ⟨_, rfl, row, _, 0, .int x, rfl, rfl, hrow, rfl, _, rfl, row, _, 1, .int y, rfl, rfl, hrow, rfl, ?_⟩
    -- for ahead in range(row[4])
    refine ⟨_, rfl, row, _, 4, .int (k : Int), rfl, rfl, hrow, rfl, (k : Int), rfl, by omega, by omega, for_range (lo := 0) (n := k)
      (fun i σ H' => ∃ (v4 v5 : Option V) (x' y' : Int), σ = [some (.ref wa), some (.ref row), some (.int x'), some (.int y'), v4, v5, none] ∧ Same H H' ∧ Mv.RayInv st.boxes a b k x y i x' y')
      ⟨none, none, x, y, rfl, fun _ _ e => e, Mv.rayInv_start⟩ ?_ ?_⟩
    · rintro i σ H' hi ⟨v4, v5, x', y', rfl, s5, I⟩
      have hrow5 := s5.seq hrow
      refine ⟨_, rfl, _, rfl, row, _, 2, .int a, rfl, rfl, hrow5, rfl, _, _, rfl, rfl, ?_⟩
      refine ⟨_, rfl, _, rfl, row, _, 3, .int b, rfl, rfl, hrow5, rfl, _, _, rfl, rfl, ?_⟩
      refine ⟨_, rfl, wa, CW, dx, _, _, rfl, s5 _ _ hw, T.cl, T.nBoxes, lk_boxes _ _, L, as, f, rfl, s5 _ _ W.lst, by omega, W.bxs.same s5, fun g1 hg1 => ?_⟩
      have s6 := s5.trans (Same.new (o := .lst ((hards f as).map V.ref)) hg1)
      refine ⟨g1, rfl, ⟨_, SqL.of upd_same⟩, fun O hO => lc_gen (K := K) (fun c => Ge04.over (f c) ⟨0, x' + a, y' + b, 1, 1, false, false, false⟩) V.ref (SqL.of upd_same) hO (by omega) (fun _ => rfl) (fun c hc acc S r => ?_) (fun c hc _ acc S r => ⟨_, rfl, r⟩) ?_⟩
      · have h1 := ((W.bxs c (mem_hards hc)).same s6).new (o := .lst acc) hO
        refine ⟨_, rfl, _, rfl, _, rfl, c, f c, _, _, _, _, rfl, h1, _, rfl, ?_⟩
        rw [in_rect1]
        exact r
      have ew : Ge04.within (st.boxes.filter fun b => b.hard) (x' + a) (y' + b) 1 1 = Mv.nums f ((hards f as).filter fun c => Ge04.over (f c) ⟨0, x' + a, y' + b, 1, 1, false, false, false⟩) := by
        rw [eb, Mv.within_hard]
        rfl
      have s7 := s6.trans (Same.new (o := .lst (((hards f as).filter fun c => Ge04.over (f c) ⟨0, x' + a, y' + b, 1, 1, false, false, false⟩).map V.ref)) hO)
      have lf : ((hards f as).filter fun c => Ge04.over (f c) ⟨0, x' + a, y' + b, 1, 1, false, false, false⟩).length ≤ 100 := Nat.le_trans (List.length_filter_le _ _) (by omega)
      have sf : ∀ c ∈ ((hards f as).filter fun c => Ge04.over (f c) ⟨0, x' + a, y' + b, 1, 1, false, false, false⟩), c ∈ as := fun c hc => mem_hards (List.mem_filter.mp hc).1
      generalize ((hards f as).filter fun c => Ge04.over (f c) ⟨0, x' + a, y' + b, 1, 1, false, false, false⟩) = hv at ew s7 lf sf
      refine ⟨_, rfl, _, Or.inl ⟨_, SqL.of upd_same, rfl⟩, ?_⟩
      rw [List.isEmpty_map]
      cases hv with
      | nil =>
        have en : Ge04.within (st.boxes.filter fun b => b.hard) (x' + a) (y' + b) 1 1 = [] := ew
        exact iteF ⟨some (.int (0 + (i : Int))), some (.ref O), x' + a, y' + b, rfl, s7, Mv.rayInv_next I hi en⟩
      | cons c0 cr =>
        refine iteT ?_
        have ne : Ge04.within (st.boxes.filter fun b => b.hard) (x' + a) (y' + b) 1 1 ≠ [] := by
          rw [ew]
          exact List.cons_ne_nil _ _
        have er := Mv.rayInv_hit I hi ne
        rw [er] at q
        dsimp only at q
        rw [ew] at q
        refine ⟨_, rfl, (by show 1 ≤ sizeLine; decide), fun r1 hr1 => ?_⟩
        have s8 := s7.trans (Same.new (o := .lst [.int (0 + (i : Int))]) hr1)
        refine ⟨_, rfl, O, c0 :: cr, f, rfl, (Same.new hr1) _ _ upd_same, lf, fun c hc => (W.bxs c (sf c hc)).same s8, fun H6 r6 s9 hr6 h6 => ?_⟩
        have t9 := s8.trans s9
        refine ⟨r1, r6, _, _, rfl, rfl, s9 _ _ upd_same, h6, (by rw [countV_len]; exact Nat.le_of_lt (small1000 (by show 1 + _ ≤ 1000; omega))), fun r7 hr7 => ?_⟩
        have t10 := t9.trans (Same.new (o := .lst ([.int (0 + (i : Int))] ++ countV f (c0 :: cr))) hr7)
        refine q _ r7 L (Fr2.of t10) (.inl rfl) (t9.free hr7) (wo0.fresh (t9.free hr7)) ?_ (wo0.same t10)
        rw [upd_same, count_ans, Int.zero_add]
        rfl
    · rintro σ H' ⟨v4, v5, x', y', rfl, s5, I⟩
      rw [Mv.rayInv_end I] at q
      refine ⟨(by show 1 ≤ sizeLine; decide), fun r1 hr1 => ?_⟩
      have s6 := s5.trans (Same.new (o := .lst [.int (-6)]) hr1)
      exact q _ r1 L (Fr2.of s6) (.inl rfl) (s5.free hr1) (wo0.fresh (s5.free hr1)) upd_same (wo0.same s6)
end
end Mb
set_option Elab.async false
set_option maxRecDepth 100000
set_option maxHeartbeats 2000000
namespace Mb
open PySem PySem.Spec PyProof.Rows L2
/-- a call of what a slot holds; R says which promise goes with which def -/
def tCallP (i : Nat) (R : Addr → Sp → Prop) (t : TA) : TE := fun σ H Q => ∃ f sp, σ[i]? = some (some (.ref f)) ∧ R f sp ∧ t σ H fun vs H1 => sp vs H1 Q (fun _ _ _ => False)
theorem pe_callP {X : Cx} {k i : Nat} {x : Str} {p pos : Pos} {e : Expr} {es : List Expr} {t : TA} {R : Addr → Sp → Prop} (A : ∀ f sp, R f sp → Held X.prog X.w X.K X.mg X.base k f sp) (hr : Room k X.A) (hN : X.N[i]? = some x) (hv : Vis X.env.scope x) (ha : PA X (e :: es) t)
    (hdb : (x == ("__debug__" : Str)) = false := by decide) (hcd : (x == ("__classdict__" : Str)) = false := by decide)
    (he : starEach (e :: es) X.env = (false, eval e X.env) :: starEach es X.env := by rfl) (hpl : (backTo pos (starEach es X.env)).any (·.1) = false := by rfl) : PE X (.Call (.Name x p) (e :: es) [] pos) (tCallP i R t) := by
  constructor
  rintro pins s σ H Q I ⟨f, sp, hs, hR, ht⟩
  obtain ⟨fd, ps, F, hk, hb⟩ := (A f sp hR).ex
  have one := pe_callL (i := i) (sp := sp) (dvs := []) (E := E0) (p := p) (pos := pos) F hr hN hv hk hb .nil pass0 ha hdb hcd he hpl
  exact one.run pins s σ H Q I ⟨hs, by simpa only [List.append_nil] using ht⟩
structure Tab (P : Program) (w : World) (K : PySem.W.Frag) (mg : Str → Option Value) (base : Heap) (CW C : Addr) (lv : Nat) (tA tR : Addr) : Prop where
  gA : mg "ANSWERERS" = some (.ref tA)
  gR : mg "ROW_LENGTHS" = some (.ref tR)
  fns : ∃ fs : List Addr, (∀ H : Hp, SqT K H tA (fs.map V.ref)) ∧ ∀ (p : Int) (n : Nat), PyGe04.shape p = some (n, 0) → ∃ (j : Nat) (f : Addr), p = (j : Int) ∧ fs[j]? = some f ∧ Held P w K mg base lv f (spCall K CW C p)
  lens : ∃ ns : List Nat, (∀ H : Hp, SqT K H tR (ns.map fun n : Nat => V.int (n : Int))) ∧ ∀ (p : Int) (n : Nat), PyGe04.shape p = some (n, 0) → ∃ j : Nat, p = (j : Int) ∧ ns[j]? = some n
def spAnswers (K : PySem.W.Frag) : Sp := fun vs H Q _ => ∃ (a : Addr) (ns : List Int), vs = [.ref a] ∧ SqL K H a (intsV ns) ∧ PyGe04.answers_asked ns = true ∧ ∀ (H' : Hp) (p : Addr), H' p = some (.lst (intsV (PyGe04.answers ns))) → Q (.ref p) H'
theorem intsV_append (l m : List Int) : intsV l ++ intsV m = intsV (l ++ m) := (List.map_append).symm
theorem intsV_len (l : List Int) : (intsV l).length = l.length := List.length_map _
/-- the numbers behind a call's own -/
theorem cut_args {ns : List Int} {i n : Nat} {p : Int} {r : List Int} (h : ns.drop i = p :: r) (hn : n ≤ r.length) : cutV (intsV ns) (some ((i : Int) + 1)) (some ((i : Int) + 1 + (n : Int))) = intsV (r.take n) := by
  have hl : ns.length - i = r.length + 1 := by
    have := congrArg List.length h
    rw [List.length_drop, List.length_cons] at this
    exact this
  have e1 : ((i : Int) + 1) = ((i + 1 : Nat) : Int) := by omega
  have e2 : ((i : Int) + 1 + (n : Int)) = ((i + 1 + n : Nat) : Int) := by omega
  unfold cutV
  rw [e2, e1, HT.sIx_nat, HT.sIx_nat, intsV_len, Nat.min_eq_left (by omega), Nat.min_eq_left (by omega)]
  have e3 : i + 1 + n - (i + 1) = n := by omega
  rw [e3]
  unfold intsV
  rw [← List.map_drop, ← List.map_take]
  have e4 : ns.drop (i + 1) = r := by
    rw [← List.drop_drop, h]
    rfl
  rw [e4]
theorem WoAt.other {CW C : Addr} {H : Hp} {wa L G : Addr} {st : Ge04.St} {xs ys : List V} (w : WoAt CW C H wa L st) (hG : H G = some (.lst xs)) (n : L ≠ G) : WoAt CW C (upd H G (.lst ys)) wa L st := by
  obtain ⟨as, f, dx, h1, h2, h3, h4⟩ := w
  refine ⟨as, f, dx, ?_, ⟨?_, fun b hb => (h2.bxs b hb).lst hG, h2.good, h2.few⟩, h3, h4⟩
  · rw [upd_ne (ne_of h1 hG (by intro z; cases z))]
    exact h1
  · rw [upd_ne n]
    exact h2.lst
abbrev s_answers : Stmt := top 55
section
variable {P : Program} {w : World} {K : PySem.W.Frag} {mg : Str → Option Value} {base : Heap} {C CW : Addr}
theorem sc_answers : FnScope ["calls", "world", "given", "at", "call", "behind", "answerer", "answer"] ["calls"] (defScope s_answers) := ⟨rfl, rfl, rfl, by decide +kernel, rfl, by decide +kernel, by decide +kernel⟩
theorem ok_answers {fa fW tA tR : Addr} {fd fdW : FuncData} {lv : Nat} (F : Fun K "answers" "answers" s_answers fa fd) (T : TxtW K mg CW) (B : Len mg) (M : Mk K CW fW) (GW : FnOk P w K mg base CX0 1 fW fdW ["self"] (spInitW CW)) (bW : Binds K fdW ["self"] [])
    (TA : Tab P w K mg base CW C (lv + 2) tA tR) : FnOk P w K mg base CX0 (lv + 3) fa fd ["calls"] (spAnswers K) := by
  refine F.ok sc_answers (fun vs H Q E h => ?_) (fun cdv A outer s H vs Q E hr h => ?_)
  · obtain ⟨_, _, rfl, _⟩ := h
    rfl
  · obtain ⟨a, ns, rfl, hS, ask, q⟩ := h
    obtain ⟨cs0, AK⟩ := Mv.asked_of ask
    obtain ⟨fs, hfs, ffs⟩ := TA.fns
    obtain ⟨ls, hls, fls⟩ := TA.lens
    have hr2 : Room 2 _ := hr.mono (by omega)
    refine ⟨_, pss_cons (ps_set (i := 1) sc_answers.nd rfl (Or.inl rfl) (pe_make0 M GW hr2 rfl T.gWorld bW .nil pass0))
      (pss_cons (ps_set (i := 2) sc_answers.nd rfl (Or.inl rfl) (pe_lst pa_nil))
      (pss_cons (ps_set (i := 3) sc_answers.nd rfl (Or.inl rfl) pe_int)
      (pss_cons (ps_while PassesOwn.never (pt_cmpR op_lt (pv 3) (pe_callB call_len_seq (by rfl) B.len PySem.boot_len (pa_cons (pv 0) pa_nil)) (nomark _))
        (pss_cons (ps_set (i := 4) sc_answers.nd rfl (Or.inl rfl) (pe_ix ix_list (pv 0) (pv 3) (fun _ _ => rfl)))
        (pss_cons (ps_set (i := 5) sc_answers.nd rfl (Or.inl rfl) (pe_op op_add (pe_op op_add (pv 3) pe_int) (pe_ix ix_tup (pe_glob (v := V.ref tR) rfl TA.gR rfl) (pv 4) (fun _ _ => rfl))))
        (pss_cons (ps_set (i := 6) sc_answers.nd rfl (Or.inl rfl) (pe_ix ix_tup (pe_glob (v := V.ref tA) rfl TA.gA rfl) (pv 4) (fun _ _ => rfl)))
        (pss_cons (ps_set (i := 7) sc_answers.nd rfl (Or.inl rfl) (pe_callP (i := 6) (R := fun f sp => ∃ p : Int, sp = spCall K CW C p ∧ Held P w K mg base (lv + 2) f (spCall K CW C p)) (fun f sp ⟨p, e, h⟩ => by rw [e]; exact h) hr rfl (Or.inl rfl)
            (by exact pa_cons (pv 1) (pa_cons (pe_slice sl_list (pv 0) (po_some (pe_op op_add (pv 3) pe_int)) (po_some (pv 5))) pa_nil))))
        (pss_cons (ps_expr (pe_bm PySem.F.plainAttrs_list PySem.F.slot_list_append PySem.F.type_list_append mt_append (pv 2) (pa_cons (pe_callB call_len_seq (by rfl) B.len PySem.boot_len (pa_cons (pv 7) pa_nil)) pa_nil)))
        (pss_cons (ps_expr (pe_bm PySem.F.plainAttrs_list PySem.F.slot_list_extend PySem.F.type_list_extend mt_extend (pv 2) (pa_cons (pv 7) pa_nil)))
        (pss_one (ps_set (i := 3) sc_answers.nd rfl (Or.inl rfl) (pv 5))))))))))
      (pss_one (ps_ret (pv 2)))))), ?_⟩
    -- world = World()
    intro wa dx hwa hdx ne
    refine ⟨wa, dx, rfl, upd_same, fun L hL => ⟨rfl, ?_⟩⟩
    have s1 : Same H (upd (upd (upd (upd H dx (.own wa)) wa (.ins CW dx [])) L (.lst [])) wa (.ins CW dx (wF L 0))) := fun b o e => by
      have n1 : b ≠ wa := ne_of_none e hwa
      have n2 : b ≠ dx := ne_of_none e hdx
      have n3 : b ≠ L := fun z => by
        rw [← z, upd_ne n1, upd_ne n2, e] at hL
        cases hL
      rw [upd_ne n1, upd_ne n3, upd_ne n1, upd_ne n2]
      exact e
    have nLw : L ≠ wa := fun z => by rw [z, upd_same] at hL; cases hL
    have hL0 : H L = none := by
      have n2 : L ≠ dx := fun z => by
        rw [z, upd_ne ne, upd_same] at hL
        cases hL
      rw [upd_ne nLw, upd_ne n2] at hL
      exact hL
    have wo1 : WoAt CW C (upd (upd (upd (upd H dx (.own wa)) wa (.ins CW dx [])) L (.lst [])) wa (.ins CW dx (wF L 0))) wa L Ge04.init :=
      ⟨[], (fun _ => ⟨0, 0, 0, 0, 0, false, false, false⟩), dx, upd_same, ⟨by rw [upd_ne nLw]; exact upd_same, (fun _ z => nomatch z), ⟨List.nodup_nil, (fun _ z => nomatch z)⟩, Nat.zero_le _⟩, rfl, ⟨(fun _ z => nomatch z), (fun _ z => nomatch z), Nat.zero_le _, List.Pairwise.nil⟩⟩
    generalize (upd (upd (upd (upd H dx (.own wa)) wa (.ins CW dx [])) L (.lst [])) wa (.ins CW dx (wF L 0))) = H1 at s1 wo1
    -- given = []; at = 0
    refine ⟨Nat.zero_le _, fun G hG => ?_⟩
    have s2 := s1.trans (Same.new (o := .lst []) hG)
    have hG0 : H G = none := s1.free hG
    have nGw : G ≠ wa := fun z => by
      obtain ⟨_, _, _, h1, _⟩ := wo1
      rw [z, h1] at hG
      cases hG
    refine ⟨fun m σ H' => ∃ (i : Nat) (st : Ge04.St) (cs : List (List (List Int))) (gv : List Int) (L : Addr) (v4 v5 v6 v7 : Option V), σ = [some (.ref a), some (.ref wa), some (.ref G), some (.int (i : Int)), v4, v5, v6, v7] ∧ Same H H' ∧ H' G = some (.lst (intsV gv)) ∧ L ≠ G ∧ H L = none ∧ WoAt CW C H' wa L st ∧
      (∃ fu, PyFlat.calls PyGe04.shape fu (ns.drop i) = some cs) ∧ (∀ c ∈ cs, Ge04Neutral.asked1 (c.headD []) = true) ∧ PyGe04.answers ns = gv ++ Mv.play st cs ∧ i ≤ ns.length ∧ m = ns.length - i,
      ⟨_, 0, Ge04.init, cs0, [], L, none, none, none, none, rfl, s2, upd_same, (wo1.fresh hG).symm, hL0, wo1.same (Same.new hG), ⟨_, AK.dec⟩, AK.each, AK.ans, Nat.zero_le _, rfl⟩, ?_⟩
    rintro m σ H' ⟨i, st, cs, gv, L, v4, v5, v6, v7, rfl, s5, hG5, nLG, hL5, wo5, ⟨fu, dec⟩, each, eans, le, rfl⟩
    have hS5 := s5.seq hS
    have few : (PyGe04.answers ns).length ≤ 10000000 := by rw [AK.ans]; exact AK.few
    refine ⟨_, rfl, _, rfl, a, _, rfl, Or.inl hS5, _, _, rfl, rfl, _, rfl, ?_⟩
    rw [intsV_len]
    refine ite2 (fun c => ?_) (fun c => ?_)
    · have lt : i < ns.length := by
        have c := of_decide_eq_true c
        omega
      obtain ⟨p, r, epr⟩ : ∃ p r, ns.drop i = p :: r := by
        cases e : ns.drop i with
        | nil =>
          have := congrArg List.length e
          rw [List.length_drop] at this
          simp only [List.length_nil] at this
          omega
        | cons p r => exact ⟨p, r, rfl⟩
      have hp : ns[i]? = some p := by
        have := List.getElem?_drop (xs := ns) (i := i) (j := 0)
        rw [epr] at this
        simpa using this.symm
      rw [epr] at dec
      obtain ⟨n, cs', fu', esh, hn, rfl, dec'⟩ := Mv.calls_cons dec
      have ask1 : Ge04Neutral.asked1 (p :: r.take n) = true := each _ List.mem_cons_self
      obtain ⟨j, f, ej, efj, hf⟩ := ffs p n esh
      obtain ⟨j2, ej2, elj⟩ := fls p n esh
      have ejj : j2 = j := by omega
      subst ejj
      refine ⟨fun σ' H' => ∃ m', m' < ns.length - i ∧ ∃ (i : Nat) (st : Ge04.St) (cs : List (List (List Int))) (gv : List Int) (L : Addr) (v4 v5 v6 v7 : Option V), σ' = [some (.ref a), some (.ref wa), some (.ref G), some (.int (i : Int)), v4, v5, v6, v7] ∧ Same H H' ∧ H' G = some (.lst (intsV gv)) ∧ L ≠ G ∧ H L = none ∧ WoAt CW C H' wa L st ∧
        (∃ fu, PyFlat.calls PyGe04.shape fu (ns.drop i) = some cs) ∧ (∀ c ∈ cs, Ge04Neutral.asked1 (c.headD []) = true) ∧ PyGe04.answers ns = gv ++ Mv.play st cs ∧ i ≤ ns.length ∧ m' = ns.length - i, fun _ _ z => z, ?_⟩
      -- call = calls[at]; behind = ..; answerer = ..
      refine ⟨_, rfl, _, rfl, a, _, _, .int p, rfl, rfl, hS5, atI_nat (by unfold intsV; rw [List.getElem?_map, hp]; rfl), ?_⟩
      refine ⟨_, rfl, _, _, rfl, rfl, _, rfl, tR, _, _, .int (n : Int), rfl, rfl, hls H', at_of ej (by rw [List.getElem?_map, elj]; rfl), _, _, rfl, rfl, ?_⟩
      refine ⟨_, rfl, tA, _, _, .ref f, rfl, rfl, hfs H', at_of ej (by rw [List.getElem?_map, efj]; rfl), ?_⟩
      -- answer = answerer(world, calls[at + 1:behind])
      refine ⟨f, _, rfl, ⟨p, rfl, hf⟩, _, rfl, _, rfl, _, rfl, _, _, rfl, rfl, _, rfl, _, rfl, _, rfl, a, _, rfl, hS5, fun row hrow => ?_⟩
      rw [cut_args epr hn]
      have s6 : Same H' (upd H' row (.lst (intsV (r.take n)))) := Same.new hrow
      have t6 := s5.trans s6
      have hG6 := s6 _ _ hG5
      refine ⟨wa, L, row, r.take n, st, rfl, SqL.of upd_same, wo5.same s6, ask1, fun H2 an L' fr hL' han nan hl2 wo2 => ?_⟩
      have t7 : Same H H2 := fun b o e => fr b o (t6 _ _ e) (ne_of_none e hwa) (ne_of_none e hL5)
      have hG7 : H2 G = some (.lst (intsV gv)) := fr _ _ hG6 nGw nLG.symm
      have nL'G : L' ≠ G := by
        rcases hL' with z | z
        · rw [z]; exact nLG
        · exact fun y => by rw [y, hG6] at z; cases z
      have hL'0 : H L' = none := by
        rcases hL' with z | z
        · rw [z]; exact hL5
        · exact t6.free z
      have naG : an ≠ G := fun z => by rw [z, hG6] at han; cases han
      rw [Mv.play_cons] at eans
      have elen : gv.length + (1 + (Ge04Neutral.step st (p :: r.take n)).2.length) ≤ 10000000 := by
        rw [eans, List.length_append, List.length_append, List.length_cons] at few
        omega
      have szl : (10000000 : Nat) < sizeLine := by rw [sizeLine_eq]; decide
      -- given.append(len(answer)); given.extend(answer); at = behind
      refine ⟨_, rfl, .inl ⟨rfl, _, SqL.of hG7⟩, _, rfl, an, _, rfl, Or.inl (SqL.of hl2), G, _, _, rfl, rfl, hG7, (by rw [intsV_len]; omega), ?_⟩
      rw [intsV_len]
      have e1 : intsV gv ++ [V.int ((Ge04Neutral.step st (p :: r.take n)).2.length : Int)] = intsV (gv ++ [((Ge04Neutral.step st (p :: r.take n)).2.length : Int)]) := by rw [← intsV_append]; rfl
      rw [e1]
      refine ⟨_, rfl, .inl ⟨rfl, _, SqL.of upd_same⟩, _, rfl, G, an, _, _, rfl, rfl, upd_same, (by rw [upd_ne naG]; exact hl2), (by rw [intsV_len, intsV_len, List.length_append]; simp only [List.length_cons, List.length_nil]; omega), ?_⟩
      rw [upd_upd, intsV_append]
      have ebe : ((i : Int) + 1 + (n : Int)) = ((i + 1 + n : Nat) : Int) := by omega
      have hrl : ns.length - i = r.length + 1 := by
        have := congrArg List.length epr
        rw [List.length_drop, List.length_cons] at this
        exact this
      refine ⟨_, rfl, ns.length - (i + 1 + n), by omega, i + 1 + n, (Ge04Neutral.step st (p :: r.take n)).1, cs', gv ++ [((Ge04Neutral.step st (p :: r.take n)).2.length : Int)] ++ (Ge04Neutral.step st (p :: r.take n)).2, L', some (.int p), some (.int ((i : Int) + 1 + (n : Int))), some (.ref f), some (.ref an), ?_, ?_, upd_same, nL'G, hL'0, wo2.other hG7 nL'G, ⟨fu', ?_⟩, fun c hc => each c (List.mem_cons_of_mem _ hc), ?_, by omega, rfl⟩
      · rw [← ebe]
        rfl
      · intro b o e
        rw [upd_ne (ne_of_none e hG0)]
        exact t7 _ _ e
      · have : ns.drop (i + 1 + n) = r.drop n := by
          rw [← List.drop_drop, ← List.drop_drop, epr]
          rfl
        rw [this]
        exact dec'
      · rw [eans]
        simp only [List.append_assoc, List.cons_append, List.nil_append]
    · have nlt : ¬ i < ns.length := fun z => c (decide_eq_true (by omega))
      have e0 : ns.drop i = [] := List.drop_of_length_le (by omega)
      rw [e0] at dec
      have := Mv.calls_nil dec
      subst this
      rw [Mv.play_nil, List.append_nil] at eans
      refine ⟨_, rfl, q H' G ?_⟩
      rw [eans]
      exact hG5
end
end Mb
set_option Elab.async false
set_option maxRecDepth 100000
set_option maxHeartbeats 2000000
namespace Mb
open PySem PySem.Spec PyProof.Rows L2
theorem all_mk {P : Program} {w : World} {K : PySem.W.Frag} {h : Heap} {mg : Str → Option Value} {fa C CW f_Box_init f_World_init f_row_of f_copies_of f_numbers_of f_is_beyond f_spans_meet f_has_place_in f_hard_ones f_have_common_place f_stands_on f_in_way f_shift f_riders_on f_carried_by f_pushed_by f_step f_steps_toward f_way_of f_move_box f_fall_order f_fall_all f_box_numbered f_is_size f_is_way f_counted f_any_beyond f_moved_since f_answer_box f_answer_gone f_answer_move f_answer_fall f_answer_get f_answer_within f_answer_ray f_answer_overs f_answer_on f_answer_free f_answer_boxes f_answers t_ANSWERERS t_ROW_LENGTHS : Addr} {od_Box_init an_Box_init od_World_init an_World_init od_row_of an_row_of od_copies_of an_copies_of od_numbers_of an_numbers_of od_is_beyond an_is_beyond od_spans_meet an_spans_meet od_has_place_in an_has_place_in od_hard_ones an_hard_ones od_have_common_place an_have_common_place od_stands_on an_stands_on od_in_way an_in_way od_shift an_shift od_riders_on an_riders_on od_carried_by an_carried_by od_pushed_by an_pushed_by od_step an_step od_steps_toward an_steps_toward od_way_of an_way_of od_move_box an_move_box od_fall_order an_fall_order od_fall_all an_fall_all od_box_numbered an_box_numbered od_is_size an_is_size od_is_way an_is_way od_counted an_counted od_any_beyond an_any_beyond od_moved_since an_moved_since od_answer_box an_answer_box od_answer_gone an_answer_gone od_answer_move an_answer_move od_answer_fall an_answer_fall od_answer_get an_answer_get od_answer_within an_answer_within od_answer_ray an_answer_ray od_answer_overs an_answer_overs od_answer_on an_answer_on od_answer_free an_answer_free od_answer_boxes an_answer_boxes od_answers an_answers od_ANSWERERS od_ROW_LENGTHS : Option Addr} {sl_Box_init sl_World_init sl_row_of sl_copies_of sl_numbers_of sl_is_beyond sl_spans_meet sl_has_place_in sl_hard_ones sl_have_common_place sl_stands_on sl_in_way sl_shift sl_riders_on sl_carried_by sl_pushed_by sl_step sl_steps_toward sl_way_of sl_move_box sl_fall_order sl_fall_all sl_box_numbered sl_is_size sl_is_way sl_counted sl_any_beyond sl_moved_since sl_answer_box sl_answer_gone sl_answer_move sl_answer_fall sl_answer_get sl_answer_within sl_answer_ray sl_answer_overs sl_answer_on sl_answer_free sl_answer_boxes sl_answers sl_ANSWERERS sl_ROW_LENGTHS : Array (Option Value)} {oc_Box_init kV_Box_init dc_Box_init pm_Box_init cd_Box_init ct_Box_init oc_World_init kV_World_init dc_World_init pm_World_init cd_World_init ct_World_init oc_row_of kV_row_of dc_row_of pm_row_of cd_row_of ct_row_of oc_copies_of kV_copies_of dc_copies_of pm_copies_of cd_copies_of ct_copies_of oc_numbers_of kV_numbers_of dc_numbers_of pm_numbers_of cd_numbers_of ct_numbers_of oc_is_beyond kV_is_beyond dc_is_beyond pm_is_beyond cd_is_beyond ct_is_beyond oc_spans_meet kV_spans_meet dc_spans_meet pm_spans_meet cd_spans_meet ct_spans_meet oc_has_place_in kV_has_place_in dc_has_place_in pm_has_place_in cd_has_place_in ct_has_place_in oc_hard_ones kV_hard_ones dc_hard_ones pm_hard_ones cd_hard_ones ct_hard_ones oc_have_common_place kV_have_common_place dc_have_common_place pm_have_common_place cd_have_common_place ct_have_common_place oc_stands_on kV_stands_on dc_stands_on pm_stands_on cd_stands_on ct_stands_on oc_in_way kV_in_way dc_in_way pm_in_way cd_in_way ct_in_way oc_shift kV_shift dc_shift pm_shift cd_shift ct_shift oc_riders_on kV_riders_on dc_riders_on pm_riders_on cd_riders_on ct_riders_on oc_carried_by kV_carried_by dc_carried_by pm_carried_by cd_carried_by ct_carried_by oc_pushed_by kV_pushed_by dc_pushed_by pm_pushed_by cd_pushed_by ct_pushed_by oc_step kV_step dc_step pm_step cd_step ct_step oc_steps_toward kV_steps_toward dc_steps_toward pm_steps_toward cd_steps_toward ct_steps_toward oc_way_of kV_way_of dc_way_of pm_way_of cd_way_of ct_way_of oc_move_box kV_move_box dc_move_box pm_move_box cd_move_box ct_move_box oc_fall_order kV_fall_order dc_fall_order pm_fall_order cd_fall_order ct_fall_order oc_fall_all kV_fall_all dc_fall_all pm_fall_all cd_fall_all ct_fall_all oc_box_numbered kV_box_numbered dc_box_numbered pm_box_numbered cd_box_numbered ct_box_numbered oc_is_size kV_is_size dc_is_size pm_is_size cd_is_size ct_is_size oc_is_way kV_is_way dc_is_way pm_is_way cd_is_way ct_is_way oc_counted kV_counted dc_counted pm_counted cd_counted ct_counted oc_any_beyond kV_any_beyond dc_any_beyond pm_any_beyond cd_any_beyond ct_any_beyond oc_moved_since kV_moved_since dc_moved_since pm_moved_since cd_moved_since ct_moved_since oc_answer_box kV_answer_box dc_answer_box pm_answer_box cd_answer_box ct_answer_box oc_answer_gone kV_answer_gone dc_answer_gone pm_answer_gone cd_answer_gone ct_answer_gone oc_answer_move kV_answer_move dc_answer_move pm_answer_move cd_answer_move ct_answer_move oc_answer_fall kV_answer_fall dc_answer_fall pm_answer_fall cd_answer_fall ct_answer_fall oc_answer_get kV_answer_get dc_answer_get pm_answer_get cd_answer_get ct_answer_get oc_answer_within kV_answer_within dc_answer_within pm_answer_within cd_answer_within ct_answer_within oc_answer_ray kV_answer_ray dc_answer_ray pm_answer_ray cd_answer_ray ct_answer_ray oc_answer_overs kV_answer_overs dc_answer_overs pm_answer_overs cd_answer_overs ct_answer_overs oc_answer_on kV_answer_on dc_answer_on pm_answer_on cd_answer_on ct_answer_on oc_answer_free kV_answer_free dc_answer_free pm_answer_free cd_answer_free ct_answer_free oc_answer_boxes kV_answer_boxes dc_answer_boxes pm_answer_boxes cd_answer_boxes ct_answer_boxes oc_answers kV_answers dc_answers pm_answers cd_answers ct_answers : Value} {w_FARTHEST w_MOST_BOXES w_LARGEST_BOX w_LARGEST_RECTANGLE w_LONGEST_MOVE w_LONGEST_RAY w_OUT_OF_RANGE w_NO_SUCH_BOX w_PLACE_TAKEN w_TOO_MUCH w_NO_SUCH_PLACE u_ROW_LENGTHS_0 u_ROW_LENGTHS_1 u_ROW_LENGTHS_2 u_ROW_LENGTHS_3 u_ROW_LENGTHS_4 u_ROW_LENGTHS_5 u_ROW_LENGTHS_6 u_ROW_LENGTHS_7 u_ROW_LENGTHS_8 u_ROW_LENGTHS_9 u_ROW_LENGTHS_10 : Tok} {nn_ANSWERERS nn_ROW_LENGTHS : Nat} (X : K.In h) (G : h.Ns mainGlobals mg) (hfa : mg "answers" = some (.ref fa))
    (a_Box : PySem.W.nsIn K mainGlobals "Box" = some (some (.ref C)))
    (a_World : PySem.W.nsIn K mainGlobals "World" = some (some (.ref CW)))
    (a_Box_init : PySem.W.findIn K (.ref C) "__init__" = some (some (.ref f_Box_init)))
    (i_Box_init : PySem.W.isFn K (.ref f_Box_init) = true)
    (l_Box_init : K.lookup f_Box_init = some ⟨oc_Box_init, od_Box_init, .func (PySem.W.fnOf "__init__" "Box.__init__" (defArgs s_box_init) (defBody s_box_init) (defScope s_box_init) .none kV_Box_init dc_Box_init pm_Box_init an_Box_init cd_Box_init ct_Box_init), sl_Box_init⟩)
    (c_Box_init : PySem.W.codeIn K cd_Box_init "Box.__init__" = true)
    (k_Box_init : PySem.W.keepIn K (.ref f_Box_init) = true)
    (a_World_init : PySem.W.findIn K (.ref CW) "__init__" = some (some (.ref f_World_init)))
    (i_World_init : PySem.W.isFn K (.ref f_World_init) = true)
    (l_World_init : K.lookup f_World_init = some ⟨oc_World_init, od_World_init, .func (PySem.W.fnOf "__init__" "World.__init__" (defArgs s_world_init) (defBody s_world_init) (defScope s_world_init) .none kV_World_init dc_World_init pm_World_init an_World_init cd_World_init ct_World_init), sl_World_init⟩)
    (c_World_init : PySem.W.codeIn K cd_World_init "World.__init__" = true)
    (k_World_init : PySem.W.keepIn K (.ref f_World_init) = true)
    (a_row_of : PySem.W.nsIn K mainGlobals "row_of" = some (some (.ref f_row_of)))
    (l_row_of : K.lookup f_row_of = some ⟨oc_row_of, od_row_of, .func (PySem.W.fnOf "row_of" "row_of" (defArgs s_row_of) (defBody s_row_of) (defScope s_row_of) .none kV_row_of dc_row_of pm_row_of an_row_of cd_row_of ct_row_of), sl_row_of⟩)
    (c_row_of : PySem.W.codeIn K cd_row_of "row_of" = true)
    (k_row_of : PySem.W.keepIn K (.ref f_row_of) = true)
    (a_copies_of : PySem.W.nsIn K mainGlobals "copies_of" = some (some (.ref f_copies_of)))
    (l_copies_of : K.lookup f_copies_of = some ⟨oc_copies_of, od_copies_of, .func (PySem.W.fnOf "copies_of" "copies_of" (defArgs s_copies_of) (defBody s_copies_of) (defScope s_copies_of) .none kV_copies_of dc_copies_of pm_copies_of an_copies_of cd_copies_of ct_copies_of), sl_copies_of⟩)
    (c_copies_of : PySem.W.codeIn K cd_copies_of "copies_of" = true)
    (k_copies_of : PySem.W.keepIn K (.ref f_copies_of) = true)
    (a_numbers_of : PySem.W.nsIn K mainGlobals "numbers_of" = some (some (.ref f_numbers_of)))
    (l_numbers_of : K.lookup f_numbers_of = some ⟨oc_numbers_of, od_numbers_of, .func (PySem.W.fnOf "numbers_of" "numbers_of" (defArgs s_numbers_of) (defBody s_numbers_of) (defScope s_numbers_of) .none kV_numbers_of dc_numbers_of pm_numbers_of an_numbers_of cd_numbers_of ct_numbers_of), sl_numbers_of⟩)
    (c_numbers_of : PySem.W.codeIn K cd_numbers_of "numbers_of" = true)
    (k_numbers_of : PySem.W.keepIn K (.ref f_numbers_of) = true)
    (a_is_beyond : PySem.W.nsIn K mainGlobals "is_beyond" = some (some (.ref f_is_beyond)))
    (l_is_beyond : K.lookup f_is_beyond = some ⟨oc_is_beyond, od_is_beyond, .func (PySem.W.fnOf "is_beyond" "is_beyond" (defArgs s_is_beyond) (defBody s_is_beyond) (defScope s_is_beyond) .none kV_is_beyond dc_is_beyond pm_is_beyond an_is_beyond cd_is_beyond ct_is_beyond), sl_is_beyond⟩)
    (c_is_beyond : PySem.W.codeIn K cd_is_beyond "is_beyond" = true)
    (k_is_beyond : PySem.W.keepIn K (.ref f_is_beyond) = true)
    (a_spans_meet : PySem.W.nsIn K mainGlobals "spans_meet" = some (some (.ref f_spans_meet)))
    (l_spans_meet : K.lookup f_spans_meet = some ⟨oc_spans_meet, od_spans_meet, .func (PySem.W.fnOf "spans_meet" "spans_meet" (defArgs s_spans_meet) (defBody s_spans_meet) (defScope s_spans_meet) .none kV_spans_meet dc_spans_meet pm_spans_meet an_spans_meet cd_spans_meet ct_spans_meet), sl_spans_meet⟩)
    (c_spans_meet : PySem.W.codeIn K cd_spans_meet "spans_meet" = true)
    (k_spans_meet : PySem.W.keepIn K (.ref f_spans_meet) = true)
    (a_has_place_in : PySem.W.nsIn K mainGlobals "has_place_in" = some (some (.ref f_has_place_in)))
    (l_has_place_in : K.lookup f_has_place_in = some ⟨oc_has_place_in, od_has_place_in, .func (PySem.W.fnOf "has_place_in" "has_place_in" (defArgs s_has_place_in) (defBody s_has_place_in) (defScope s_has_place_in) .none kV_has_place_in dc_has_place_in pm_has_place_in an_has_place_in cd_has_place_in ct_has_place_in), sl_has_place_in⟩)
    (c_has_place_in : PySem.W.codeIn K cd_has_place_in "has_place_in" = true)
    (k_has_place_in : PySem.W.keepIn K (.ref f_has_place_in) = true)
    (a_hard_ones : PySem.W.nsIn K mainGlobals "hard_ones" = some (some (.ref f_hard_ones)))
    (l_hard_ones : K.lookup f_hard_ones = some ⟨oc_hard_ones, od_hard_ones, .func (PySem.W.fnOf "hard_ones" "hard_ones" (defArgs s_hard_ones) (defBody s_hard_ones) (defScope s_hard_ones) .none kV_hard_ones dc_hard_ones pm_hard_ones an_hard_ones cd_hard_ones ct_hard_ones), sl_hard_ones⟩)
    (c_hard_ones : PySem.W.codeIn K cd_hard_ones "hard_ones" = true)
    (k_hard_ones : PySem.W.keepIn K (.ref f_hard_ones) = true)
    (a_have_common_place : PySem.W.nsIn K mainGlobals "have_common_place" = some (some (.ref f_have_common_place)))
    (l_have_common_place : K.lookup f_have_common_place = some ⟨oc_have_common_place, od_have_common_place, .func (PySem.W.fnOf "have_common_place" "have_common_place" (defArgs s_have_common_place) (defBody s_have_common_place) (defScope s_have_common_place) .none kV_have_common_place dc_have_common_place pm_have_common_place an_have_common_place cd_have_common_place ct_have_common_place), sl_have_common_place⟩)
    (c_have_common_place : PySem.W.codeIn K cd_have_common_place "have_common_place" = true)
    (k_have_common_place : PySem.W.keepIn K (.ref f_have_common_place) = true)
    (a_stands_on : PySem.W.nsIn K mainGlobals "stands_on" = some (some (.ref f_stands_on)))
    (l_stands_on : K.lookup f_stands_on = some ⟨oc_stands_on, od_stands_on, .func (PySem.W.fnOf "stands_on" "stands_on" (defArgs s_stands_on) (defBody s_stands_on) (defScope s_stands_on) .none kV_stands_on dc_stands_on pm_stands_on an_stands_on cd_stands_on ct_stands_on), sl_stands_on⟩)
    (c_stands_on : PySem.W.codeIn K cd_stands_on "stands_on" = true)
    (k_stands_on : PySem.W.keepIn K (.ref f_stands_on) = true)
    (a_in_way : PySem.W.nsIn K mainGlobals "in_way" = some (some (.ref f_in_way)))
    (l_in_way : K.lookup f_in_way = some ⟨oc_in_way, od_in_way, .func (PySem.W.fnOf "in_way" "in_way" (defArgs s_in_way) (defBody s_in_way) (defScope s_in_way) .none kV_in_way dc_in_way pm_in_way an_in_way cd_in_way ct_in_way), sl_in_way⟩)
    (c_in_way : PySem.W.codeIn K cd_in_way "in_way" = true)
    (k_in_way : PySem.W.keepIn K (.ref f_in_way) = true)
    (a_shift : PySem.W.nsIn K mainGlobals "shift" = some (some (.ref f_shift)))
    (l_shift : K.lookup f_shift = some ⟨oc_shift, od_shift, .func (PySem.W.fnOf "shift" "shift" (defArgs s_shift) (defBody s_shift) (defScope s_shift) .none kV_shift dc_shift pm_shift an_shift cd_shift ct_shift), sl_shift⟩)
    (c_shift : PySem.W.codeIn K cd_shift "shift" = true)
    (k_shift : PySem.W.keepIn K (.ref f_shift) = true)
    (a_riders_on : PySem.W.nsIn K mainGlobals "riders_on" = some (some (.ref f_riders_on)))
    (l_riders_on : K.lookup f_riders_on = some ⟨oc_riders_on, od_riders_on, .func (PySem.W.fnOf "riders_on" "riders_on" (defArgs s_riders_on) (defBody s_riders_on) (defScope s_riders_on) .none kV_riders_on dc_riders_on pm_riders_on an_riders_on cd_riders_on ct_riders_on), sl_riders_on⟩)
    (c_riders_on : PySem.W.codeIn K cd_riders_on "riders_on" = true)
    (k_riders_on : PySem.W.keepIn K (.ref f_riders_on) = true)
    (a_carried_by : PySem.W.nsIn K mainGlobals "carried_by" = some (some (.ref f_carried_by)))
    (l_carried_by : K.lookup f_carried_by = some ⟨oc_carried_by, od_carried_by, .func (PySem.W.fnOf "carried_by" "carried_by" (defArgs s_carried_by) (defBody s_carried_by) (defScope s_carried_by) .none kV_carried_by dc_carried_by pm_carried_by an_carried_by cd_carried_by ct_carried_by), sl_carried_by⟩)
    (c_carried_by : PySem.W.codeIn K cd_carried_by "carried_by" = true)
    (k_carried_by : PySem.W.keepIn K (.ref f_carried_by) = true)
    (a_pushed_by : PySem.W.nsIn K mainGlobals "pushed_by" = some (some (.ref f_pushed_by)))
    (l_pushed_by : K.lookup f_pushed_by = some ⟨oc_pushed_by, od_pushed_by, .func (PySem.W.fnOf "pushed_by" "pushed_by" (defArgs s_pushed_by) (defBody s_pushed_by) (defScope s_pushed_by) .none kV_pushed_by dc_pushed_by pm_pushed_by an_pushed_by cd_pushed_by ct_pushed_by), sl_pushed_by⟩)
    (c_pushed_by : PySem.W.codeIn K cd_pushed_by "pushed_by" = true)
    (k_pushed_by : PySem.W.keepIn K (.ref f_pushed_by) = true)
    (a_step : PySem.W.nsIn K mainGlobals "step" = some (some (.ref f_step)))
    (l_step : K.lookup f_step = some ⟨oc_step, od_step, .func (PySem.W.fnOf "step" "step" (defArgs s_step) (defBody s_step) (defScope s_step) .none kV_step dc_step pm_step an_step cd_step ct_step), sl_step⟩)
    (c_step : PySem.W.codeIn K cd_step "step" = true)
    (k_step : PySem.W.keepIn K (.ref f_step) = true)
    (a_steps_toward : PySem.W.nsIn K mainGlobals "steps_toward" = some (some (.ref f_steps_toward)))
    (l_steps_toward : K.lookup f_steps_toward = some ⟨oc_steps_toward, od_steps_toward, .func (PySem.W.fnOf "steps_toward" "steps_toward" (defArgs s_steps_toward) (defBody s_steps_toward) (defScope s_steps_toward) .none kV_steps_toward dc_steps_toward pm_steps_toward an_steps_toward cd_steps_toward ct_steps_toward), sl_steps_toward⟩)
    (c_steps_toward : PySem.W.codeIn K cd_steps_toward "steps_toward" = true)
    (k_steps_toward : PySem.W.keepIn K (.ref f_steps_toward) = true)
    (a_way_of : PySem.W.nsIn K mainGlobals "way_of" = some (some (.ref f_way_of)))
    (l_way_of : K.lookup f_way_of = some ⟨oc_way_of, od_way_of, .func (PySem.W.fnOf "way_of" "way_of" (defArgs s_way_of) (defBody s_way_of) (defScope s_way_of) .none kV_way_of dc_way_of pm_way_of an_way_of cd_way_of ct_way_of), sl_way_of⟩)
    (c_way_of : PySem.W.codeIn K cd_way_of "way_of" = true)
    (k_way_of : PySem.W.keepIn K (.ref f_way_of) = true)
    (a_move_box : PySem.W.nsIn K mainGlobals "move_box" = some (some (.ref f_move_box)))
    (l_move_box : K.lookup f_move_box = some ⟨oc_move_box, od_move_box, .func (PySem.W.fnOf "move_box" "move_box" (defArgs s_move_box) (defBody s_move_box) (defScope s_move_box) .none kV_move_box dc_move_box pm_move_box an_move_box cd_move_box ct_move_box), sl_move_box⟩)
    (c_move_box : PySem.W.codeIn K cd_move_box "move_box" = true)
    (k_move_box : PySem.W.keepIn K (.ref f_move_box) = true)
    (a_fall_order : PySem.W.nsIn K mainGlobals "fall_order" = some (some (.ref f_fall_order)))
    (l_fall_order : K.lookup f_fall_order = some ⟨oc_fall_order, od_fall_order, .func (PySem.W.fnOf "fall_order" "fall_order" (defArgs s_fall_order) (defBody s_fall_order) (defScope s_fall_order) .none kV_fall_order dc_fall_order pm_fall_order an_fall_order cd_fall_order ct_fall_order), sl_fall_order⟩)
    (c_fall_order : PySem.W.codeIn K cd_fall_order "fall_order" = true)
    (k_fall_order : PySem.W.keepIn K (.ref f_fall_order) = true)
    (a_fall_all : PySem.W.nsIn K mainGlobals "fall_all" = some (some (.ref f_fall_all)))
    (l_fall_all : K.lookup f_fall_all = some ⟨oc_fall_all, od_fall_all, .func (PySem.W.fnOf "fall_all" "fall_all" (defArgs s_fall_all) (defBody s_fall_all) (defScope s_fall_all) .none kV_fall_all dc_fall_all pm_fall_all an_fall_all cd_fall_all ct_fall_all), sl_fall_all⟩)
    (c_fall_all : PySem.W.codeIn K cd_fall_all "fall_all" = true)
    (k_fall_all : PySem.W.keepIn K (.ref f_fall_all) = true)
    (a_box_numbered : PySem.W.nsIn K mainGlobals "box_numbered" = some (some (.ref f_box_numbered)))
    (l_box_numbered : K.lookup f_box_numbered = some ⟨oc_box_numbered, od_box_numbered, .func (PySem.W.fnOf "box_numbered" "box_numbered" (defArgs s_box_numbered) (defBody s_box_numbered) (defScope s_box_numbered) .none kV_box_numbered dc_box_numbered pm_box_numbered an_box_numbered cd_box_numbered ct_box_numbered), sl_box_numbered⟩)
    (c_box_numbered : PySem.W.codeIn K cd_box_numbered "box_numbered" = true)
    (k_box_numbered : PySem.W.keepIn K (.ref f_box_numbered) = true)
    (a_is_size : PySem.W.nsIn K mainGlobals "is_size" = some (some (.ref f_is_size)))
    (l_is_size : K.lookup f_is_size = some ⟨oc_is_size, od_is_size, .func (PySem.W.fnOf "is_size" "is_size" (defArgs s_is_size) (defBody s_is_size) (defScope s_is_size) .none kV_is_size dc_is_size pm_is_size an_is_size cd_is_size ct_is_size), sl_is_size⟩)
    (c_is_size : PySem.W.codeIn K cd_is_size "is_size" = true)
    (k_is_size : PySem.W.keepIn K (.ref f_is_size) = true)
    (a_is_way : PySem.W.nsIn K mainGlobals "is_way" = some (some (.ref f_is_way)))
    (l_is_way : K.lookup f_is_way = some ⟨oc_is_way, od_is_way, .func (PySem.W.fnOf "is_way" "is_way" (defArgs s_is_way) (defBody s_is_way) (defScope s_is_way) .none kV_is_way dc_is_way pm_is_way an_is_way cd_is_way ct_is_way), sl_is_way⟩)
    (c_is_way : PySem.W.codeIn K cd_is_way "is_way" = true)
    (k_is_way : PySem.W.keepIn K (.ref f_is_way) = true)
    (a_counted : PySem.W.nsIn K mainGlobals "counted" = some (some (.ref f_counted)))
    (l_counted : K.lookup f_counted = some ⟨oc_counted, od_counted, .func (PySem.W.fnOf "counted" "counted" (defArgs s_counted) (defBody s_counted) (defScope s_counted) .none kV_counted dc_counted pm_counted an_counted cd_counted ct_counted), sl_counted⟩)
    (c_counted : PySem.W.codeIn K cd_counted "counted" = true)
    (k_counted : PySem.W.keepIn K (.ref f_counted) = true)
    (a_any_beyond : PySem.W.nsIn K mainGlobals "any_beyond" = some (some (.ref f_any_beyond)))
    (l_any_beyond : K.lookup f_any_beyond = some ⟨oc_any_beyond, od_any_beyond, .func (PySem.W.fnOf "any_beyond" "any_beyond" (defArgs s_any_beyond) (defBody s_any_beyond) (defScope s_any_beyond) .none kV_any_beyond dc_any_beyond pm_any_beyond an_any_beyond cd_any_beyond ct_any_beyond), sl_any_beyond⟩)
    (c_any_beyond : PySem.W.codeIn K cd_any_beyond "any_beyond" = true)
    (k_any_beyond : PySem.W.keepIn K (.ref f_any_beyond) = true)
    (a_moved_since : PySem.W.nsIn K mainGlobals "moved_since" = some (some (.ref f_moved_since)))
    (l_moved_since : K.lookup f_moved_since = some ⟨oc_moved_since, od_moved_since, .func (PySem.W.fnOf "moved_since" "moved_since" (defArgs s_moved_since) (defBody s_moved_since) (defScope s_moved_since) .none kV_moved_since dc_moved_since pm_moved_since an_moved_since cd_moved_since ct_moved_since), sl_moved_since⟩)
    (c_moved_since : PySem.W.codeIn K cd_moved_since "moved_since" = true)
    (k_moved_since : PySem.W.keepIn K (.ref f_moved_since) = true)
    (a_answer_box : PySem.W.nsIn K mainGlobals "answer_box" = some (some (.ref f_answer_box)))
    (l_answer_box : K.lookup f_answer_box = some ⟨oc_answer_box, od_answer_box, .func (PySem.W.fnOf "answer_box" "answer_box" (defArgs s_answer_box) (defBody s_answer_box) (defScope s_answer_box) .none kV_answer_box dc_answer_box pm_answer_box an_answer_box cd_answer_box ct_answer_box), sl_answer_box⟩)
    (c_answer_box : PySem.W.codeIn K cd_answer_box "answer_box" = true)
    (k_answer_box : PySem.W.keepIn K (.ref f_answer_box) = true)
    (a_answer_gone : PySem.W.nsIn K mainGlobals "answer_gone" = some (some (.ref f_answer_gone)))
    (l_answer_gone : K.lookup f_answer_gone = some ⟨oc_answer_gone, od_answer_gone, .func (PySem.W.fnOf "answer_gone" "answer_gone" (defArgs s_answer_gone) (defBody s_answer_gone) (defScope s_answer_gone) .none kV_answer_gone dc_answer_gone pm_answer_gone an_answer_gone cd_answer_gone ct_answer_gone), sl_answer_gone⟩)
    (c_answer_gone : PySem.W.codeIn K cd_answer_gone "answer_gone" = true)
    (k_answer_gone : PySem.W.keepIn K (.ref f_answer_gone) = true)
    (a_answer_move : PySem.W.nsIn K mainGlobals "answer_move" = some (some (.ref f_answer_move)))
    (l_answer_move : K.lookup f_answer_move = some ⟨oc_answer_move, od_answer_move, .func (PySem.W.fnOf "answer_move" "answer_move" (defArgs s_answer_move) (defBody s_answer_move) (defScope s_answer_move) .none kV_answer_move dc_answer_move pm_answer_move an_answer_move cd_answer_move ct_answer_move), sl_answer_move⟩)
    (c_answer_move : PySem.W.codeIn K cd_answer_move "answer_move" = true)
    (k_answer_move : PySem.W.keepIn K (.ref f_answer_move) = true)
    (a_answer_fall : PySem.W.nsIn K mainGlobals "answer_fall" = some (some (.ref f_answer_fall)))
    (l_answer_fall : K.lookup f_answer_fall = some ⟨oc_answer_fall, od_answer_fall, .func (PySem.W.fnOf "answer_fall" "answer_fall" (defArgs s_answer_fall) (defBody s_answer_fall) (defScope s_answer_fall) .none kV_answer_fall dc_answer_fall pm_answer_fall an_answer_fall cd_answer_fall ct_answer_fall), sl_answer_fall⟩)
    (c_answer_fall : PySem.W.codeIn K cd_answer_fall "answer_fall" = true)
    (k_answer_fall : PySem.W.keepIn K (.ref f_answer_fall) = true)
    (a_answer_get : PySem.W.nsIn K mainGlobals "answer_get" = some (some (.ref f_answer_get)))
    (l_answer_get : K.lookup f_answer_get = some ⟨oc_answer_get, od_answer_get, .func (PySem.W.fnOf "answer_get" "answer_get" (defArgs s_answer_get) (defBody s_answer_get) (defScope s_answer_get) .none kV_answer_get dc_answer_get pm_answer_get an_answer_get cd_answer_get ct_answer_get), sl_answer_get⟩)
    (c_answer_get : PySem.W.codeIn K cd_answer_get "answer_get" = true)
    (k_answer_get : PySem.W.keepIn K (.ref f_answer_get) = true)
    (a_answer_within : PySem.W.nsIn K mainGlobals "answer_within" = some (some (.ref f_answer_within)))
    (l_answer_within : K.lookup f_answer_within = some ⟨oc_answer_within, od_answer_within, .func (PySem.W.fnOf "answer_within" "answer_within" (defArgs s_answer_within) (defBody s_answer_within) (defScope s_answer_within) .none kV_answer_within dc_answer_within pm_answer_within an_answer_within cd_answer_within ct_answer_within), sl_answer_within⟩)
    (c_answer_within : PySem.W.codeIn K cd_answer_within "answer_within" = true)
    (k_answer_within : PySem.W.keepIn K (.ref f_answer_within) = true)
    (a_answer_ray : PySem.W.nsIn K mainGlobals "answer_ray" = some (some (.ref f_answer_ray)))
    (l_answer_ray : K.lookup f_answer_ray = some ⟨oc_answer_ray, od_answer_ray, .func (PySem.W.fnOf "answer_ray" "answer_ray" (defArgs s_answer_ray) (defBody s_answer_ray) (defScope s_answer_ray) .none kV_answer_ray dc_answer_ray pm_answer_ray an_answer_ray cd_answer_ray ct_answer_ray), sl_answer_ray⟩)
    (c_answer_ray : PySem.W.codeIn K cd_answer_ray "answer_ray" = true)
    (k_answer_ray : PySem.W.keepIn K (.ref f_answer_ray) = true)
    (a_answer_overs : PySem.W.nsIn K mainGlobals "answer_overs" = some (some (.ref f_answer_overs)))
    (l_answer_overs : K.lookup f_answer_overs = some ⟨oc_answer_overs, od_answer_overs, .func (PySem.W.fnOf "answer_overs" "answer_overs" (defArgs s_answer_overs) (defBody s_answer_overs) (defScope s_answer_overs) .none kV_answer_overs dc_answer_overs pm_answer_overs an_answer_overs cd_answer_overs ct_answer_overs), sl_answer_overs⟩)
    (c_answer_overs : PySem.W.codeIn K cd_answer_overs "answer_overs" = true)
    (k_answer_overs : PySem.W.keepIn K (.ref f_answer_overs) = true)
    (a_answer_on : PySem.W.nsIn K mainGlobals "answer_on" = some (some (.ref f_answer_on)))
    (l_answer_on : K.lookup f_answer_on = some ⟨oc_answer_on, od_answer_on, .func (PySem.W.fnOf "answer_on" "answer_on" (defArgs s_answer_on) (defBody s_answer_on) (defScope s_answer_on) .none kV_answer_on dc_answer_on pm_answer_on an_answer_on cd_answer_on ct_answer_on), sl_answer_on⟩)
    (c_answer_on : PySem.W.codeIn K cd_answer_on "answer_on" = true)
    (k_answer_on : PySem.W.keepIn K (.ref f_answer_on) = true)
    (a_answer_free : PySem.W.nsIn K mainGlobals "answer_free" = some (some (.ref f_answer_free)))
    (l_answer_free : K.lookup f_answer_free = some ⟨oc_answer_free, od_answer_free, .func (PySem.W.fnOf "answer_free" "answer_free" (defArgs s_answer_free) (defBody s_answer_free) (defScope s_answer_free) .none kV_answer_free dc_answer_free pm_answer_free an_answer_free cd_answer_free ct_answer_free), sl_answer_free⟩)
    (c_answer_free : PySem.W.codeIn K cd_answer_free "answer_free" = true)
    (k_answer_free : PySem.W.keepIn K (.ref f_answer_free) = true)
    (a_answer_boxes : PySem.W.nsIn K mainGlobals "answer_boxes" = some (some (.ref f_answer_boxes)))
    (l_answer_boxes : K.lookup f_answer_boxes = some ⟨oc_answer_boxes, od_answer_boxes, .func (PySem.W.fnOf "answer_boxes" "answer_boxes" (defArgs s_answer_boxes) (defBody s_answer_boxes) (defScope s_answer_boxes) .none kV_answer_boxes dc_answer_boxes pm_answer_boxes an_answer_boxes cd_answer_boxes ct_answer_boxes), sl_answer_boxes⟩)
    (c_answer_boxes : PySem.W.codeIn K cd_answer_boxes "answer_boxes" = true)
    (k_answer_boxes : PySem.W.keepIn K (.ref f_answer_boxes) = true)
    (a_answers : PySem.W.nsIn K mainGlobals "answers" = some (some (.ref f_answers)))
    (l_answers : K.lookup f_answers = some ⟨oc_answers, od_answers, .func (PySem.W.fnOf "answers" "answers" (defArgs s_answers) (defBody s_answers) (defScope s_answers) .none kV_answers dc_answers pm_answers an_answers cd_answers ct_answers), sl_answers⟩)
    (c_answers : PySem.W.codeIn K cd_answers "answers" = true)
    (k_answers : PySem.W.keepIn K (.ref f_answers) = true)
    (pg_Box : PySem.W.plainGet K C Str.empty = true)
    (hd_Box : PySem.W.hasDictIn K C = true)
    (po_Box : PySem.W.plainOver K C = true)
    (sa_Box : PySem.W.findIn K (.ref C) "__setattr__" = some (some (.builtin "object.__setattr__")))
    (mk_Box : PySem.W.makesIn K C = true)
    (kc_Box : PySem.W.keepIn K (.ref C) = true)
    (n_Box_number : PySem.W.findIn K (.ref C) "number" = some none)
    (n_Box_across : PySem.W.findIn K (.ref C) "across" = some none)
    (n_Box_down : PySem.W.findIn K (.ref C) "down" = some none)
    (n_Box_wide : PySem.W.findIn K (.ref C) "wide" = some none)
    (n_Box_high : PySem.W.findIn K (.ref C) "high" = some none)
    (n_Box_hard : PySem.W.findIn K (.ref C) "hard" = some none)
    (n_Box_pushed : PySem.W.findIn K (.ref C) "pushed" = some none)
    (n_Box_carries : PySem.W.findIn K (.ref C) "carries" = some none)
    (pg_World : PySem.W.plainGet K CW Str.empty = true)
    (hd_World : PySem.W.hasDictIn K CW = true)
    (po_World : PySem.W.plainOver K CW = true)
    (sa_World : PySem.W.findIn K (.ref CW) "__setattr__" = some (some (.builtin "object.__setattr__")))
    (mk_World : PySem.W.makesIn K CW = true)
    (kc_World : PySem.W.keepIn K (.ref CW) = true)
    (n_World_boxes : PySem.W.findIn K (.ref CW) "boxes" = some none)
    (n_World_fresh : PySem.W.findIn K (.ref CW) "fresh" = some none)
    (z_FARTHEST : PySem.W.nsIn K mainGlobals "FARTHEST" = some (some (.int (1000) w_FARTHEST)))
    (z_MOST_BOXES : PySem.W.nsIn K mainGlobals "MOST_BOXES" = some (some (.int (16) w_MOST_BOXES)))
    (z_LARGEST_BOX : PySem.W.nsIn K mainGlobals "LARGEST_BOX" = some (some (.int (50) w_LARGEST_BOX)))
    (z_LARGEST_RECTANGLE : PySem.W.nsIn K mainGlobals "LARGEST_RECTANGLE" = some (some (.int (2000) w_LARGEST_RECTANGLE)))
    (z_LONGEST_MOVE : PySem.W.nsIn K mainGlobals "LONGEST_MOVE" = some (some (.int (60) w_LONGEST_MOVE)))
    (z_LONGEST_RAY : PySem.W.nsIn K mainGlobals "LONGEST_RAY" = some (some (.int (300) w_LONGEST_RAY)))
    (z_OUT_OF_RANGE : PySem.W.nsIn K mainGlobals "OUT_OF_RANGE" = some (some (.int (-1) w_OUT_OF_RANGE)))
    (z_NO_SUCH_BOX : PySem.W.nsIn K mainGlobals "NO_SUCH_BOX" = some (some (.int (-2) w_NO_SUCH_BOX)))
    (z_PLACE_TAKEN : PySem.W.nsIn K mainGlobals "PLACE_TAKEN" = some (some (.int (-4) w_PLACE_TAKEN)))
    (z_TOO_MUCH : PySem.W.nsIn K mainGlobals "TOO_MUCH" = some (some (.int (-5) w_TOO_MUCH)))
    (z_NO_SUCH_PLACE : PySem.W.nsIn K mainGlobals "NO_SUCH_PLACE" = some (some (.int (-6) w_NO_SUCH_PLACE)))
    (b_abs : PySem.W.nsIn K mainGlobals "abs" = some none)
    (b_len : PySem.W.nsIn K mainGlobals "len" = some none)
    (b_list : PySem.W.nsIn K mainGlobals "list" = some none)
    (b_any : PySem.W.nsIn K mainGlobals "any" = some none)
    (b_sorted : PySem.W.nsIn K mainGlobals "sorted" = some none)
    (b_zip : PySem.W.nsIn K mainGlobals "zip" = some none)
    (b_range : PySem.W.nsIn K mainGlobals "range" = some none)
    (b_enumerate : PySem.W.nsIn K mainGlobals "enumerate" = some none)
    (a_ANSWERERS : PySem.W.nsIn K mainGlobals "ANSWERERS" = some (some (.ref t_ANSWERERS)))
    (l_ANSWERERS : K.lookup t_ANSWERERS = some ⟨.type "tuple", od_ANSWERERS, .seq #[.ref f_answer_box, .ref f_answer_gone, .ref f_answer_move, .ref f_answer_fall, .ref f_answer_get, .ref f_answer_within, .ref f_answer_ray, .ref f_answer_overs, .ref f_answer_on, .ref f_answer_free, .ref f_answer_boxes] nn_ANSWERERS, sl_ANSWERERS⟩)
    (a_ROW_LENGTHS : PySem.W.nsIn K mainGlobals "ROW_LENGTHS" = some (some (.ref t_ROW_LENGTHS)))
    (l_ROW_LENGTHS : K.lookup t_ROW_LENGTHS = some ⟨.type "tuple", od_ROW_LENGTHS, .seq #[.int 7 u_ROW_LENGTHS_0, .int 1 u_ROW_LENGTHS_1, .int 3 u_ROW_LENGTHS_2, .int 1 u_ROW_LENGTHS_3, .int 1 u_ROW_LENGTHS_4, .int 4 u_ROW_LENGTHS_5, .int 5 u_ROW_LENGTHS_6, .int 0 u_ROW_LENGTHS_7, .int 1 u_ROW_LENGTHS_8, .int 3 u_ROW_LENGTHS_9, .int 0 u_ROW_LENGTHS_10] nn_ROW_LENGTHS, sl_ROW_LENGTHS⟩)
    : ∃ fd : FuncData, (∀ (s : Shared) (us : List Value), us.length = (["calls"] : List Str).length → BindsTo s fd ⟨us, []⟩ ((["calls"] : List Str).zip us)) ∧ ∀ base : Heap, K.In base → base.Ns mainGlobals mg → FnOk P w K mg base CX0 10 fa fd ["calls"] (spAnswers K) := by
  have e := hfa.symm.trans (PySem.W.mg_of X G a_answers)
  cases e
  have F_Box_init := fun_mk (st := s_box_init) l_Box_init c_Box_init k_Box_init
  have B_Box_init := F_Box_init.binds (ps := ["self", "number", "row"]) fun _ _ _ _ _ _ us hl => match us, hl with | [_, _, _], _ => rfl
  have M_Box : Mk K C f_Box_init := ⟨mk_Box, a_Box_init, i_Box_init, kc_Box⟩
  have CL_Box : Cls K C := ⟨pg_Box, hd_Box, po_Box, sa_Box⟩
  have F_World_init := fun_mk (st := s_world_init) l_World_init c_World_init k_World_init
  have B_World_init := F_World_init.binds (ps := ["self"]) fun _ _ _ _ _ _ us hl => match us, hl with | [_], _ => rfl
  have M_World : Mk K CW f_World_init := ⟨mk_World, a_World_init, i_World_init, kc_World⟩
  have CL_World : Cls K CW := ⟨pg_World, hd_World, po_World, sa_World⟩
  have Z_FARTHEST := PySem.W.mg_of X G z_FARTHEST
  have Z_MOST_BOXES := PySem.W.mg_of X G z_MOST_BOXES
  have Z_LARGEST_BOX := PySem.W.mg_of X G z_LARGEST_BOX
  have Z_LARGEST_RECTANGLE := PySem.W.mg_of X G z_LARGEST_RECTANGLE
  have Z_LONGEST_MOVE := PySem.W.mg_of X G z_LONGEST_MOVE
  have Z_LONGEST_RAY := PySem.W.mg_of X G z_LONGEST_RAY
  have Z_OUT_OF_RANGE := PySem.W.mg_of X G z_OUT_OF_RANGE
  have Z_NO_SUCH_BOX := PySem.W.mg_of X G z_NO_SUCH_BOX
  have Z_PLACE_TAKEN := PySem.W.mg_of X G z_PLACE_TAKEN
  have Z_TOO_MUCH := PySem.W.mg_of X G z_TOO_MUCH
  have Z_NO_SUCH_PLACE := PySem.W.mg_of X G z_NO_SUCH_PLACE
  have Y_abs := PySem.W.mg_none_of X G b_abs
  have Y_len := PySem.W.mg_none_of X G b_len
  have Y_list := PySem.W.mg_none_of X G b_list
  have Y_any := PySem.W.mg_none_of X G b_any
  have Y_sorted := PySem.W.mg_none_of X G b_sorted
  have Y_zip := PySem.W.mg_none_of X G b_zip
  have Y_range := PySem.W.mg_none_of X G b_range
  have Y_enumerate := PySem.W.mg_none_of X G b_enumerate
  have F_row_of := fun_mk (st := s_row_of) l_row_of c_row_of k_row_of
  have B_row_of := F_row_of.binds (ps := ["box"]) fun _ _ _ _ _ _ us hl => match us, hl with | [_], _ => rfl
  have G_row_of := PySem.W.mg_of X G a_row_of
  have F_copies_of := fun_mk (st := s_copies_of) l_copies_of c_copies_of k_copies_of
  have B_copies_of := F_copies_of.binds (ps := ["boxes"]) fun _ _ _ _ _ _ us hl => match us, hl with | [_], _ => rfl
  have G_copies_of := PySem.W.mg_of X G a_copies_of
  have F_numbers_of := fun_mk (st := s_numbers_of) l_numbers_of c_numbers_of k_numbers_of
  have B_numbers_of := F_numbers_of.binds (ps := ["boxes"]) fun _ _ _ _ _ _ us hl => match us, hl with | [_], _ => rfl
  have G_numbers_of := PySem.W.mg_of X G a_numbers_of
  have F_is_beyond := fun_mk (st := s_is_beyond) l_is_beyond c_is_beyond k_is_beyond
  have B_is_beyond := F_is_beyond.binds (ps := ["across", "down"]) fun _ _ _ _ _ _ us hl => match us, hl with | [_, _], _ => rfl
  have G_is_beyond := PySem.W.mg_of X G a_is_beyond
  have F_spans_meet := fun_mk (st := s_spans_meet) l_spans_meet c_spans_meet k_spans_meet
  have B_spans_meet := F_spans_meet.binds (ps := ["start", "length", "other_start", "other_length"]) fun _ _ _ _ _ _ us hl => match us, hl with | [_, _, _, _], _ => rfl
  have G_spans_meet := PySem.W.mg_of X G a_spans_meet
  have F_has_place_in := fun_mk (st := s_has_place_in) l_has_place_in c_has_place_in k_has_place_in
  have B_has_place_in := F_has_place_in.binds (ps := ["box", "across", "down", "wide", "high"]) fun _ _ _ _ _ _ us hl => match us, hl with | [_, _, _, _, _], _ => rfl
  have G_has_place_in := PySem.W.mg_of X G a_has_place_in
  have F_hard_ones := fun_mk (st := s_hard_ones) l_hard_ones c_hard_ones k_hard_ones
  have B_hard_ones := F_hard_ones.binds (ps := ["boxes"]) fun _ _ _ _ _ _ us hl => match us, hl with | [_], _ => rfl
  have G_hard_ones := PySem.W.mg_of X G a_hard_ones
  have F_have_common_place := fun_mk (st := s_have_common_place) l_have_common_place c_have_common_place k_have_common_place
  have B_have_common_place := F_have_common_place.binds (ps := ["box", "other"]) fun _ _ _ _ _ _ us hl => match us, hl with | [_, _], _ => rfl
  have G_have_common_place := PySem.W.mg_of X G a_have_common_place
  have F_stands_on := fun_mk (st := s_stands_on) l_stands_on c_stands_on k_stands_on
  have B_stands_on := F_stands_on.binds (ps := ["upper", "lower"]) fun _ _ _ _ _ _ us hl => match us, hl with | [_, _], _ => rfl
  have G_stands_on := PySem.W.mg_of X G a_stands_on
  have F_in_way := fun_mk (st := s_in_way) l_in_way c_in_way k_in_way
  have B_in_way := F_in_way.binds (ps := ["boxes", "box", "over", "under"]) fun _ _ _ _ _ _ us hl => match us, hl with | [_, _, _, _], _ => rfl
  have G_in_way := PySem.W.mg_of X G a_in_way
  have F_shift := fun_mk (st := s_shift) l_shift c_shift k_shift
  have B_shift := F_shift.binds (ps := ["box", "over", "under"]) fun _ _ _ _ _ _ us hl => match us, hl with | [_, _, _], _ => rfl
  have G_shift := PySem.W.mg_of X G a_shift
  have F_riders_on := fun_mk (st := s_riders_on) l_riders_on c_riders_on k_riders_on
  have B_riders_on := F_riders_on.binds (ps := ["boxes", "goers"]) fun _ _ _ _ _ _ us hl => match us, hl with | [_, _], _ => rfl
  have G_riders_on := PySem.W.mg_of X G a_riders_on
  have F_carried_by := fun_mk (st := s_carried_by) l_carried_by c_carried_by k_carried_by
  have B_carried_by := F_carried_by.binds (ps := ["boxes", "goers"]) fun _ _ _ _ _ _ us hl => match us, hl with | [_, _], _ => rfl
  have G_carried_by := PySem.W.mg_of X G a_carried_by
  have F_pushed_by := fun_mk (st := s_pushed_by) l_pushed_by c_pushed_by k_pushed_by
  have B_pushed_by := F_pushed_by.binds (ps := ["boxes", "asked", "over", "under"]) fun _ _ _ _ _ _ us hl => match us, hl with | [_, _, _, _], _ => rfl
  have G_pushed_by := PySem.W.mg_of X G a_pushed_by
  have F_step := fun_mk (st := s_step) l_step c_step k_step
  have B_step := F_step.binds (ps := ["boxes", "mover", "over", "under"]) fun _ _ _ _ _ _ us hl => match us, hl with | [_, _, _, _], _ => rfl
  have G_step := PySem.W.mg_of X G a_step
  have F_steps_toward := fun_mk (st := s_steps_toward) l_steps_toward c_steps_toward k_steps_toward
  have B_steps_toward := F_steps_toward.binds (ps := ["boxes", "mover", "over", "under", "most"]) fun _ _ _ _ _ _ us hl => match us, hl with | [_, _, _, _, _], _ => rfl
  have G_steps_toward := PySem.W.mg_of X G a_steps_toward
  have F_way_of := fun_mk (st := s_way_of) l_way_of c_way_of k_way_of
  have B_way_of := F_way_of.binds (ps := ["number"]) fun _ _ _ _ _ _ us hl => match us, hl with | [_], _ => rfl
  have G_way_of := PySem.W.mg_of X G a_way_of
  have F_move_box := fun_mk (st := s_move_box) l_move_box c_move_box k_move_box
  have B_move_box := F_move_box.binds (ps := ["boxes", "mover", "across", "down"]) fun _ _ _ _ _ _ us hl => match us, hl with | [_, _, _, _], _ => rfl
  have G_move_box := PySem.W.mg_of X G a_move_box
  have F_fall_order := fun_mk (st := s_fall_order) l_fall_order c_fall_order k_fall_order
  have B_fall_order := F_fall_order.binds (ps := ["box"]) fun _ _ _ _ _ _ us hl => match us, hl with | [_], _ => rfl
  have G_fall_order := PySem.W.mg_of X G a_fall_order
  have F_fall_all := fun_mk (st := s_fall_all) l_fall_all c_fall_all k_fall_all
  have B_fall_all := F_fall_all.binds (ps := ["boxes", "most"]) fun _ _ _ _ _ _ us hl => match us, hl with | [_, _], _ => rfl
  have G_fall_all := PySem.W.mg_of X G a_fall_all
  have F_box_numbered := fun_mk (st := s_box_numbered) l_box_numbered c_box_numbered k_box_numbered
  have B_box_numbered := F_box_numbered.binds (ps := ["boxes", "number"]) fun _ _ _ _ _ _ us hl => match us, hl with | [_, _], _ => rfl
  have G_box_numbered := PySem.W.mg_of X G a_box_numbered
  have F_is_size := fun_mk (st := s_is_size) l_is_size c_is_size k_is_size
  have B_is_size := F_is_size.binds (ps := ["wide", "high", "largest"]) fun _ _ _ _ _ _ us hl => match us, hl with | [_, _, _], _ => rfl
  have G_is_size := PySem.W.mg_of X G a_is_size
  have F_is_way := fun_mk (st := s_is_way) l_is_way c_is_way k_is_way
  have B_is_way := F_is_way.binds (ps := ["over", "under"]) fun _ _ _ _ _ _ us hl => match us, hl with | [_, _], _ => rfl
  have G_is_way := PySem.W.mg_of X G a_is_way
  have F_counted := fun_mk (st := s_counted) l_counted c_counted k_counted
  have B_counted := F_counted.binds (ps := ["boxes"]) fun _ _ _ _ _ _ us hl => match us, hl with | [_], _ => rfl
  have G_counted := PySem.W.mg_of X G a_counted
  have F_any_beyond := fun_mk (st := s_any_beyond) l_any_beyond c_any_beyond k_any_beyond
  have B_any_beyond := F_any_beyond.binds (ps := ["boxes"]) fun _ _ _ _ _ _ us hl => match us, hl with | [_], _ => rfl
  have G_any_beyond := PySem.W.mg_of X G a_any_beyond
  have F_moved_since := fun_mk (st := s_moved_since) l_moved_since c_moved_since k_moved_since
  have B_moved_since := F_moved_since.binds (ps := ["before", "after"]) fun _ _ _ _ _ _ us hl => match us, hl with | [_, _], _ => rfl
  have G_moved_since := PySem.W.mg_of X G a_moved_since
  have F_answer_box := fun_mk (st := s_answer_box) l_answer_box c_answer_box k_answer_box
  have B_answer_box := F_answer_box.binds (ps := ["world", "row"]) fun _ _ _ _ _ _ us hl => match us, hl with | [_, _], _ => rfl
  have G_answer_box := PySem.W.mg_of X G a_answer_box
  have F_answer_gone := fun_mk (st := s_answer_gone) l_answer_gone c_answer_gone k_answer_gone
  have B_answer_gone := F_answer_gone.binds (ps := ["world", "row"]) fun _ _ _ _ _ _ us hl => match us, hl with | [_, _], _ => rfl
  have G_answer_gone := PySem.W.mg_of X G a_answer_gone
  have F_answer_move := fun_mk (st := s_answer_move) l_answer_move c_answer_move k_answer_move
  have B_answer_move := F_answer_move.binds (ps := ["world", "row"]) fun _ _ _ _ _ _ us hl => match us, hl with | [_, _], _ => rfl
  have G_answer_move := PySem.W.mg_of X G a_answer_move
  have F_answer_fall := fun_mk (st := s_answer_fall) l_answer_fall c_answer_fall k_answer_fall
  have B_answer_fall := F_answer_fall.binds (ps := ["world", "row"]) fun _ _ _ _ _ _ us hl => match us, hl with | [_, _], _ => rfl
  have G_answer_fall := PySem.W.mg_of X G a_answer_fall
  have F_answer_get := fun_mk (st := s_answer_get) l_answer_get c_answer_get k_answer_get
  have B_answer_get := F_answer_get.binds (ps := ["world", "row"]) fun _ _ _ _ _ _ us hl => match us, hl with | [_, _], _ => rfl
  have G_answer_get := PySem.W.mg_of X G a_answer_get
  have F_answer_within := fun_mk (st := s_answer_within) l_answer_within c_answer_within k_answer_within
  have B_answer_within := F_answer_within.binds (ps := ["world", "row"]) fun _ _ _ _ _ _ us hl => match us, hl with | [_, _], _ => rfl
  have G_answer_within := PySem.W.mg_of X G a_answer_within
  have F_answer_ray := fun_mk (st := s_answer_ray) l_answer_ray c_answer_ray k_answer_ray
  have B_answer_ray := F_answer_ray.binds (ps := ["world", "row"]) fun _ _ _ _ _ _ us hl => match us, hl with | [_, _], _ => rfl
  have G_answer_ray := PySem.W.mg_of X G a_answer_ray
  have F_answer_overs := fun_mk (st := s_answer_overs) l_answer_overs c_answer_overs k_answer_overs
  have B_answer_overs := F_answer_overs.binds (ps := ["world", "row"]) fun _ _ _ _ _ _ us hl => match us, hl with | [_, _], _ => rfl
  have G_answer_overs := PySem.W.mg_of X G a_answer_overs
  have F_answer_on := fun_mk (st := s_answer_on) l_answer_on c_answer_on k_answer_on
  have B_answer_on := F_answer_on.binds (ps := ["world", "row"]) fun _ _ _ _ _ _ us hl => match us, hl with | [_, _], _ => rfl
  have G_answer_on := PySem.W.mg_of X G a_answer_on
  have F_answer_free := fun_mk (st := s_answer_free) l_answer_free c_answer_free k_answer_free
  have B_answer_free := F_answer_free.binds (ps := ["world", "row"]) fun _ _ _ _ _ _ us hl => match us, hl with | [_, _], _ => rfl
  have G_answer_free := PySem.W.mg_of X G a_answer_free
  have F_answer_boxes := fun_mk (st := s_answer_boxes) l_answer_boxes c_answer_boxes k_answer_boxes
  have B_answer_boxes := F_answer_boxes.binds (ps := ["world", "row"]) fun _ _ _ _ _ _ us hl => match us, hl with | [_, _], _ => rfl
  have G_answer_boxes := PySem.W.mg_of X G a_answer_boxes
  have F_answers := fun_mk (st := s_answers) l_answers c_answers k_answers
  have B_answers := F_answers.binds (ps := ["calls"]) fun _ _ _ _ _ _ us hl => match us, hl with | [_], _ => rfl
  have G_answers := PySem.W.mg_of X G a_answers
  have G_ANSWERERS := PySem.W.mg_of X G a_ANSWERERS
  have G_ROW_LENGTHS := PySem.W.mg_of X G a_ROW_LENGTHS
  refine ⟨PySem.W.fnOf "answers" "answers" (defArgs s_answers) (defBody s_answers) (defScope s_answers) .none kV_answers dc_answers pm_answers an_answers cd_answers ct_answers, fun s us hu => match us, hu with | [_], _ => .of_eq rfl, fun base _ _ => ?_⟩
  have T : Txt K mg C := ⟨CL_Box, n_Box_number, n_Box_across, n_Box_down, n_Box_wide, n_Box_high, n_Box_hard, n_Box_pushed, n_Box_carries, PySem.W.mg_of X G a_Box, ⟨_, Z_FARTHEST⟩, Y_abs⟩
  have TW : TxtW K mg CW := ⟨CL_World, n_World_boxes, n_World_fresh, PySem.W.mg_of X G a_World, ⟨_, Z_MOST_BOXES⟩, ⟨_, Z_LARGEST_BOX⟩, ⟨_, Z_LARGEST_RECTANGLE⟩, ⟨_, Z_LONGEST_MOVE⟩, ⟨_, Z_OUT_OF_RANGE⟩, ⟨_, Z_NO_SUCH_BOX⟩, ⟨_, Z_PLACE_TAKEN⟩, ⟨_, Z_TOO_MUCH⟩, ⟨_, Z_LONGEST_RAY⟩, ⟨_, Z_NO_SUCH_PLACE⟩⟩
  have LN : Len mg := ⟨Y_len, Y_list, Y_any, Y_sorted, Y_zip, Y_range, Y_enumerate⟩
  have O_Box : FnOk P w K mg base CX0 1 f_Box_init _ ["self", "number", "row"] (spInit K C) := ok_box_init F_Box_init T
  have O_World : FnOk P w K mg base CX0 1 f_World_init _ ["self"] (spInitW CW) := ok_world_init F_World_init TW
  have D_spans_meet : Df P w K mg base "spans_meet" 1 ["start", "length", "other_start", "other_length"] spSpans := ⟨_, _, ok_spans_meet F_spans_meet, G_spans_meet, k_spans_meet, B_spans_meet⟩
  have D_has_place_in : Df P w K mg base "has_place_in" 2 ["box", "across", "down", "wide", "high"] (spPlace C) := ⟨_, _, ok_has_place_in F_has_place_in T D_spans_meet, G_has_place_in, k_has_place_in, B_has_place_in⟩
  have D_hard_ones : Df P w K mg base "hard_ones" 1 ["boxes"] (spHard C) := ⟨_, _, ok_hard_ones F_hard_ones T, G_hard_ones, k_hard_ones, B_hard_ones⟩
  have D_have_common_place : Df P w K mg base "have_common_place" 3 ["box", "other"] (spCommon C) := ⟨_, _, ok_have_common_place F_have_common_place T D_has_place_in, G_have_common_place, k_have_common_place, B_have_common_place⟩
  have D_stands_on : Df P w K mg base "stands_on" 2 ["upper", "lower"] (spStands C) := ⟨_, _, ok_stands_on F_stands_on T D_spans_meet, G_stands_on, k_stands_on, B_stands_on⟩
  have D_is_beyond : Df P w K mg base "is_beyond" 1 ["across", "down"] spBeyond := ⟨_, _, ok_is_beyond F_is_beyond T, G_is_beyond, k_is_beyond, B_is_beyond⟩
  have D_row_of : Df P w K mg base "row_of" 1 ["box"] (spRow C) := ⟨_, _, ok_row_of F_row_of T, G_row_of, k_row_of, B_row_of⟩
  have D_numbers_of : Df P w K mg base "numbers_of" 1 ["boxes"] (spNumbers C) := ⟨_, _, ok_numbers_of F_numbers_of T, G_numbers_of, k_numbers_of, B_numbers_of⟩
  have D_in_way : Df P w K mg base "in_way" 3 ["boxes", "box", "over", "under"] (spInWay C) := ⟨_, _, ok_in_way F_in_way T D_hard_ones D_has_place_in, G_in_way, k_in_way, B_in_way⟩
  have D_copies_of : Df P w K mg base "copies_of" 3 ["boxes"] (spCopies C) := ⟨_, _, ok_copies_of F_copies_of T M_Box O_Box B_Box_init D_row_of, G_copies_of, k_copies_of, B_copies_of⟩
  have D_shift : Df P w K mg base "shift" 1 ["box", "over", "under"] (spShift C) := ⟨_, _, ok_shift F_shift T, G_shift, k_shift, B_shift⟩
  have D_riders_on : Df P w K mg base "riders_on" 3 ["boxes", "goers"] (spRiders C) := ⟨_, _, ok_riders_on F_riders_on T LN D_hard_ones D_stands_on, G_riders_on, k_riders_on, B_riders_on⟩
  have D_carried_by : Df P w K mg base "carried_by" 4 ["boxes", "goers"] (spCarried C) := ⟨_, _, ok_carried_by F_carried_by T D_numbers_of D_riders_on, G_carried_by, k_carried_by, B_carried_by⟩
  have D_pushed_by : Df P w K mg base "pushed_by" 4 ["boxes", "asked", "over", "under"] (spPushed C) := ⟨_, _, ok_pushed_by F_pushed_by T LN D_numbers_of D_in_way, G_pushed_by, k_pushed_by, B_pushed_by⟩
  have D_step : Df P w K mg base "step" 5 ["boxes", "mover", "over", "under"] (spStep C) := ⟨_, _, ok_step F_step T LN D_carried_by D_pushed_by D_shift D_in_way, G_step, k_step, B_step⟩
  have D_steps_toward : Df P w K mg base "steps_toward" 6 ["boxes", "mover", "over", "under", "most"] (spToward C) := ⟨_, _, ok_steps_toward F_steps_toward D_step, G_steps_toward, k_steps_toward, B_steps_toward⟩
  have D_way_of : Df P w K mg base "way_of" 1 ["number"] spWay := ⟨_, _, ok_way_of F_way_of, G_way_of, k_way_of, B_way_of⟩
  have D_move_box : Df P w K mg base "move_box" 7 ["boxes", "mover", "across", "down"] (spMove C) := ⟨_, _, ok_move_box (lv := 5) F_move_box T D_steps_toward D_way_of, G_move_box, k_move_box, B_move_box⟩
  have D_fall_order : Df P w K mg base "fall_order" 1 ["box"] (spOrder C) := ⟨_, _, ok_fall_order F_fall_order T, G_fall_order, k_fall_order, B_fall_order⟩
  have D_fall_all : Df P w K mg base "fall_all" 4 ["boxes", "most"] (spFall C) := ⟨_, _, ok_fall_all F_fall_all T LN D_hard_ones D_fall_order D_shift D_in_way, G_fall_all, k_fall_all, B_fall_all⟩
  have D_box_numbered : Df P w K mg base "box_numbered" 1 ["boxes", "number"] (spNumbered C) := ⟨_, _, ok_box_numbered F_box_numbered T, G_box_numbered, k_box_numbered, B_box_numbered⟩
  have D_is_size : Df P w K mg base "is_size" 1 ["wide", "high", "largest"] spSize := ⟨_, _, ok_is_size F_is_size, G_is_size, k_is_size, B_is_size⟩
  have D_is_way : Df P w K mg base "is_way" 1 ["over", "under"] spIsWay := ⟨_, _, ok_is_way F_is_way T, G_is_way, k_is_way, B_is_way⟩
  have D_counted : Df P w K mg base "counted" 2 ["boxes"] (spCounted C) := ⟨_, _, ok_counted F_counted LN D_numbers_of, G_counted, k_counted, B_counted⟩
  have D_any_beyond : Df P w K mg base "any_beyond" 2 ["boxes"] (spAnyBeyond C) := ⟨_, _, ok_any_beyond F_any_beyond T LN D_is_beyond, G_any_beyond, k_any_beyond, B_any_beyond⟩
  have D_moved_since : Df P w K mg base "moved_since" 1 ["before", "after"] (spSince C) := ⟨_, _, ok_moved_since F_moved_since T LN, G_moved_since, k_moved_since, B_moved_since⟩
  have H_answer_box : Held P w K mg base 9 f_answer_box (spCall K CW C 0) := ⟨_, _, (ok_answer_box F_answer_box TW T LN D_is_beyond D_is_size M_Box O_Box B_Box_init D_in_way : FnOk P w K mg base CX0 4 _ _ _ _).mono (by decide), k_answer_box, B_answer_box⟩
  have H_answer_gone : Held P w K mg base 9 f_answer_gone (spCall K CW C 1) := ⟨_, _, (ok_answer_gone F_answer_gone TW T LN D_box_numbered : FnOk P w K mg base CX0 2 _ _ _ _).mono (by decide), k_answer_gone, B_answer_gone⟩
  have H_answer_move : Held P w K mg base 9 f_answer_move (spCall K CW C 2) := ⟨_, _, (ok_answer_move (lv := 4) F_answer_move TW T LN D_copies_of D_box_numbered D_move_box D_any_beyond D_moved_since : FnOk P w K mg base CX0 8 _ _ _ _).mono (by decide), k_answer_move, B_answer_move⟩
  have H_answer_fall : Held P w K mg base 9 f_answer_fall (spCall K CW C 3) := ⟨_, _, (ok_answer_fall F_answer_fall TW LN D_copies_of D_fall_all D_any_beyond : FnOk P w K mg base CX0 5 _ _ _ _).mono (by decide), k_answer_fall, B_answer_fall⟩
  have H_answer_get : Held P w K mg base 9 f_answer_get (spCall K CW C 4) := ⟨_, _, (ok_answer_get F_answer_get TW D_box_numbered D_row_of : FnOk P w K mg base CX0 2 _ _ _ _).mono (by decide), k_answer_get, B_answer_get⟩
  have H_answer_within : Held P w K mg base 9 f_answer_within (spCall K CW C 5) := ⟨_, _, (ok_answer_within F_answer_within TW LN D_is_beyond D_is_size D_has_place_in D_counted : FnOk P w K mg base CX0 3 _ _ _ _).mono (by decide), k_answer_within, B_answer_within⟩
  have H_answer_ray : Held P w K mg base 9 f_answer_ray (spCall K CW C 6) := ⟨_, _, (ok_answer_ray F_answer_ray TW LN D_is_beyond D_is_way D_hard_ones D_has_place_in D_counted : FnOk P w K mg base CX0 3 _ _ _ _).mono (by decide), k_answer_ray, B_answer_ray⟩
  have H_answer_overs : Held P w K mg base 9 f_answer_overs (spCall K CW C 7) := ⟨_, _, (ok_answer_overs F_answer_overs TW T LN D_have_common_place : FnOk P w K mg base CX0 4 _ _ _ _).mono (by decide), k_answer_overs, B_answer_overs⟩
  have H_answer_on : Held P w K mg base 9 f_answer_on (spCall K CW C 8) := ⟨_, _, (ok_answer_on F_answer_on TW T D_box_numbered D_hard_ones D_stands_on D_counted : FnOk P w K mg base CX0 3 _ _ _ _).mono (by decide), k_answer_on, B_answer_on⟩
  have H_answer_free : Held P w K mg base 9 f_answer_free (spCall K CW C 9) := ⟨_, _, (ok_answer_free F_answer_free TW T D_box_numbered D_is_beyond D_counted D_in_way : FnOk P w K mg base CX0 4 _ _ _ _).mono (by decide), k_answer_free, B_answer_free⟩
  have H_answer_boxes : Held P w K mg base 9 f_answer_boxes (spCall K CW C 10) := ⟨_, _, (ok_answer_boxes F_answer_boxes TW D_counted : FnOk P w K mg base CX0 3 _ _ _ _).mono (by decide), k_answer_boxes, B_answer_boxes⟩
  have TA : Tab P w K mg base CW C 9 t_ANSWERERS t_ROW_LENGTHS := by
    refine ⟨G_ANSWERERS, G_ROW_LENGTHS, ⟨[f_answer_box, f_answer_gone, f_answer_move, f_answer_fall, f_answer_get, f_answer_within, f_answer_ray, f_answer_overs, f_answer_on, f_answer_free, f_answer_boxes], fun H => .inr ⟨_, _, _, l_ANSWERERS, rfl, rfl, (by show 11 ≤ sizeLine; decide), ?_⟩, fun p n h => ?_⟩, ⟨[7, 1, 3, 1, 1, 4, 5, 0, 1, 3, 0], fun H => .inr ⟨_, _, _, l_ROW_LENGTHS, rfl, rfl, (by show 11 ≤ sizeLine; decide), ?_⟩, fun p n h => ?_⟩⟩
    · exact .cons rfl (.cons rfl (.cons rfl (.cons rfl (.cons rfl (.cons rfl (.cons rfl (.cons rfl (.cons rfl (.cons rfl (.cons rfl .nil))))))))))
    · rcases Mv.shape_is h with ⟨rfl, rfl⟩ | ⟨rfl, rfl⟩ | ⟨rfl, rfl⟩ | ⟨rfl, rfl⟩ | ⟨rfl, rfl⟩ | ⟨rfl, rfl⟩ | ⟨rfl, rfl⟩ | ⟨rfl, rfl⟩ | ⟨rfl, rfl⟩ | ⟨rfl, rfl⟩ | ⟨rfl, rfl⟩
      · exact ⟨0, _, rfl, rfl, H_answer_box⟩
      · exact ⟨1, _, rfl, rfl, H_answer_gone⟩
      · exact ⟨2, _, rfl, rfl, H_answer_move⟩
      · exact ⟨3, _, rfl, rfl, H_answer_fall⟩
      · exact ⟨4, _, rfl, rfl, H_answer_get⟩
      · exact ⟨5, _, rfl, rfl, H_answer_within⟩
      · exact ⟨6, _, rfl, rfl, H_answer_ray⟩
      · exact ⟨7, _, rfl, rfl, H_answer_overs⟩
      · exact ⟨8, _, rfl, rfl, H_answer_on⟩
      · exact ⟨9, _, rfl, rfl, H_answer_free⟩
      · exact ⟨10, _, rfl, rfl, H_answer_boxes⟩
    · exact .cons ⟨_, rfl⟩ (.cons ⟨_, rfl⟩ (.cons ⟨_, rfl⟩ (.cons ⟨_, rfl⟩ (.cons ⟨_, rfl⟩ (.cons ⟨_, rfl⟩ (.cons ⟨_, rfl⟩ (.cons ⟨_, rfl⟩ (.cons ⟨_, rfl⟩ (.cons ⟨_, rfl⟩ (.cons ⟨_, rfl⟩ .nil))))))))))
    · rcases Mv.shape_is h with ⟨rfl, rfl⟩ | ⟨rfl, rfl⟩ | ⟨rfl, rfl⟩ | ⟨rfl, rfl⟩ | ⟨rfl, rfl⟩ | ⟨rfl, rfl⟩ | ⟨rfl, rfl⟩ | ⟨rfl, rfl⟩ | ⟨rfl, rfl⟩ | ⟨rfl, rfl⟩ | ⟨rfl, rfl⟩
      · exact ⟨0, rfl, rfl⟩
      · exact ⟨1, rfl, rfl⟩
      · exact ⟨2, rfl, rfl⟩
      · exact ⟨3, rfl, rfl⟩
      · exact ⟨4, rfl, rfl⟩
      · exact ⟨5, rfl, rfl⟩
      · exact ⟨6, rfl, rfl⟩
      · exact ⟨7, rfl, rfl⟩
      · exact ⟨8, rfl, rfl⟩
      · exact ⟨9, rfl, rfl⟩
      · exact ⟨10, rfl, rfl⟩
  exact ok_answers (lv := 7) F_answers TW LN M_World O_World B_World_init TA
end Mb
open PySem PySem.W PyProof.Rows
set_option maxRecDepth 100000 in
set_option maxHeartbeats 0 in
theorem PySem.Challenge.cw_movedboxes_s01_answers_holds : PySem.Challenge.rw_movedboxes_s01_answers.Holds := by
  w_on; k_headS; (case hw => exact ⟨[.list [.int 4, .int 0]], by decide +kernel, by decide +kernel⟩)
  k_fillS
  refine L2.walk_specK (r := PySem.Challenge.rw_movedboxes_s01_answers) (k := 10) (CX := L2.CX0) (ps := ["calls"]) (sp := Mb.spAnswers) (by decide +kernel) rfl rfl ⟨rfl, by decide, by decide⟩ (fun w h Y => PySem.W.kIn_of Y) ?F ?S (fun _ _ _ _ z => z)
  case F =>
    intro w mg fa h Y KX G hmg
    refine' Mb.all_mk KX G hmg ?a_Box ?a_World ?a_Box_init ?i_Box_init ?l_Box_init ?c_Box_init ?k_Box_init ?a_World_init ?i_World_init ?l_World_init ?c_World_init ?k_World_init ?a_row_of ?l_row_of ?c_row_of ?k_row_of ?a_copies_of ?l_copies_of ?c_copies_of ?k_copies_of ?a_numbers_of ?l_numbers_of ?c_numbers_of ?k_numbers_of ?a_is_beyond ?l_is_beyond ?c_is_beyond ?k_is_beyond ?a_spans_meet ?l_spans_meet ?c_spans_meet ?k_spans_meet ?a_has_place_in ?l_has_place_in ?c_has_place_in ?k_has_place_in ?a_hard_ones ?l_hard_ones ?c_hard_ones ?k_hard_ones ?a_have_common_place ?l_have_common_place ?c_have_common_place ?k_have_common_place ?a_stands_on ?l_stands_on ?c_stands_on ?k_stands_on ?a_in_way ?l_in_way ?c_in_way ?k_in_way ?a_shift ?l_shift ?c_shift ?k_shift ?a_riders_on ?l_riders_on ?c_riders_on ?k_riders_on ?a_carried_by ?l_carried_by ?c_carried_by ?k_carried_by ?a_pushed_by ?l_pushed_by ?c_pushed_by ?k_pushed_by ?a_step ?l_step ?c_step ?k_step ?a_steps_toward ?l_steps_toward ?c_steps_toward ?k_steps_toward ?a_way_of ?l_way_of ?c_way_of ?k_way_of ?a_move_box ?l_move_box ?c_move_box ?k_move_box ?a_fall_order ?l_fall_order ?c_fall_order ?k_fall_order ?a_fall_all ?l_fall_all ?c_fall_all ?k_fall_all ?a_box_numbered ?l_box_numbered ?c_box_numbered ?k_box_numbered ?a_is_size ?l_is_size ?c_is_size ?k_is_size ?a_is_way ?l_is_way ?c_is_way ?k_is_way ?a_counted ?l_counted ?c_counted ?k_counted ?a_any_beyond ?l_any_beyond ?c_any_beyond ?k_any_beyond ?a_moved_since ?l_moved_since ?c_moved_since ?k_moved_since ?a_answer_box ?l_answer_box ?c_answer_box ?k_answer_box ?a_answer_gone ?l_answer_gone ?c_answer_gone ?k_answer_gone ?a_answer_move ?l_answer_move ?c_answer_move ?k_answer_move ?a_answer_fall ?l_answer_fall ?c_answer_fall ?k_answer_fall ?a_answer_get ?l_answer_get ?c_answer_get ?k_answer_get ?a_answer_within ?l_answer_within ?c_answer_within ?k_answer_within ?a_answer_ray ?l_answer_ray ?c_answer_ray ?k_answer_ray ?a_answer_overs ?l_answer_overs ?c_answer_overs ?k_answer_overs ?a_answer_on ?l_answer_on ?c_answer_on ?k_answer_on ?a_answer_free ?l_answer_free ?c_answer_free ?k_answer_free ?a_answer_boxes ?l_answer_boxes ?c_answer_boxes ?k_answer_boxes ?a_answers ?l_answers ?c_answers ?k_answers ?pg_Box ?hd_Box ?po_Box ?sa_Box ?mk_Box ?kc_Box ?n_Box_number ?n_Box_across ?n_Box_down ?n_Box_wide ?n_Box_high ?n_Box_hard ?n_Box_pushed ?n_Box_carries ?pg_World ?hd_World ?po_World ?sa_World ?mk_World ?kc_World ?n_World_boxes ?n_World_fresh ?z_FARTHEST ?z_MOST_BOXES ?z_LARGEST_BOX ?z_LARGEST_RECTANGLE ?z_LONGEST_MOVE ?z_LONGEST_RAY ?z_OUT_OF_RANGE ?z_NO_SUCH_BOX ?z_PLACE_TAKEN ?z_TOO_MUCH ?z_NO_SUCH_PLACE ?b_abs ?b_len ?b_list ?b_any ?b_sorted ?b_zip ?b_range ?b_enumerate ?a_ANSWERERS ?l_ANSWERERS ?a_ROW_LENGTHS ?l_ROW_LENGTHS
    (case a_Box => k_is)
    (case a_World => k_is)
    (case a_Box_init => k_is)
    (case i_Box_init => k_is)
    (case l_Box_init => k_is)
    (case c_Box_init => k_is)
    (case k_Box_init => k_is)
    (case a_World_init => k_is)
    (case i_World_init => k_is)
    (case l_World_init => k_is)
    (case c_World_init => k_is)
    (case k_World_init => k_is)
    (case a_row_of => k_is)
    (case l_row_of => k_is)
    (case c_row_of => k_is)
    (case k_row_of => k_is)
    (case a_copies_of => k_is)
    (case l_copies_of => k_is)
    (case c_copies_of => k_is)
    (case k_copies_of => k_is)
    (case a_numbers_of => k_is)
    (case l_numbers_of => k_is)
    (case c_numbers_of => k_is)
    (case k_numbers_of => k_is)
    (case a_is_beyond => k_is)
    (case l_is_beyond => k_is)
    (case c_is_beyond => k_is)
    (case k_is_beyond => k_is)
    (case a_spans_meet => k_is)
    (case l_spans_meet => k_is)
    (case c_spans_meet => k_is)
    (case k_spans_meet => k_is)
    (case a_has_place_in => k_is)
    (case l_has_place_in => k_is)
    (case c_has_place_in => k_is)
    (case k_has_place_in => k_is)
    (case a_hard_ones => k_is)
    (case l_hard_ones => k_is)
    (case c_hard_ones => k_is)
    (case k_hard_ones => k_is)
    (case a_have_common_place => k_is)
    (case l_have_common_place => k_is)
    (case c_have_common_place => k_is)
    (case k_have_common_place => k_is)
    (case a_stands_on => k_is)
    (case l_stands_on => k_is)
    (case c_stands_on => k_is)
    (case k_stands_on => k_is)
    (case a_in_way => k_is)
    (case l_in_way => k_is)
    (case c_in_way => k_is)
    (case k_in_way => k_is)
    (case a_shift => k_is)
    (case l_shift => k_is)
    (case c_shift => k_is)
    (case k_shift => k_is)
    (case a_riders_on => k_is)
    (case l_riders_on => k_is)
    (case c_riders_on => k_is)
    (case k_riders_on => k_is)
    (case a_carried_by => k_is)
    (case l_carried_by => k_is)
    (case c_carried_by => k_is)
    (case k_carried_by => k_is)
    (case a_pushed_by => k_is)
    (case l_pushed_by => k_is)
    (case c_pushed_by => k_is)
    (case k_pushed_by => k_is)
    (case a_step => k_is)
    (case l_step => k_is)
    (case c_step => k_is)
    (case k_step => k_is)
    (case a_steps_toward => k_is)
    (case l_steps_toward => k_is)
    (case c_steps_toward => k_is)
    (case k_steps_toward => k_is)
    (case a_way_of => k_is)
    (case l_way_of => k_is)
    (case c_way_of => k_is)
    (case k_way_of => k_is)
    (case a_move_box => k_is)
    (case l_move_box => k_is)
    (case c_move_box => k_is)
    (case k_move_box => k_is)
    (case a_fall_order => k_is)
    (case l_fall_order => k_is)
    (case c_fall_order => k_is)
    (case k_fall_order => k_is)
    (case a_fall_all => k_is)
    (case l_fall_all => k_is)
    (case c_fall_all => k_is)
    (case k_fall_all => k_is)
    (case a_box_numbered => k_is)
    (case l_box_numbered => k_is)
    (case c_box_numbered => k_is)
    (case k_box_numbered => k_is)
    (case a_is_size => k_is)
    (case l_is_size => k_is)
    (case c_is_size => k_is)
    (case k_is_size => k_is)
    (case a_is_way => k_is)
    (case l_is_way => k_is)
    (case c_is_way => k_is)
    (case k_is_way => k_is)
    (case a_counted => k_is)
    (case l_counted => k_is)
    (case c_counted => k_is)
    (case k_counted => k_is)
    (case a_any_beyond => k_is)
    (case l_any_beyond => k_is)
    (case c_any_beyond => k_is)
    (case k_any_beyond => k_is)
    (case a_moved_since => k_is)
    (case l_moved_since => k_is)
    (case c_moved_since => k_is)
    (case k_moved_since => k_is)
    (case a_answer_box => k_is)
    (case l_answer_box => k_is)
    (case c_answer_box => k_is)
    (case k_answer_box => k_is)
    (case a_answer_gone => k_is)
    (case l_answer_gone => k_is)
    (case c_answer_gone => k_is)
    (case k_answer_gone => k_is)
    (case a_answer_move => k_is)
    (case l_answer_move => k_is)
    (case c_answer_move => k_is)
    (case k_answer_move => k_is)
    (case a_answer_fall => k_is)
    (case l_answer_fall => k_is)
    (case c_answer_fall => k_is)
    (case k_answer_fall => k_is)
    (case a_answer_get => k_is)
    (case l_answer_get => k_is)
    (case c_answer_get => k_is)
    (case k_answer_get => k_is)
    (case a_answer_within => k_is)
    (case l_answer_within => k_is)
    (case c_answer_within => k_is)
    (case k_answer_within => k_is)
    (case a_answer_ray => k_is)
    (case l_answer_ray => k_is)
    (case c_answer_ray => k_is)
    (case k_answer_ray => k_is)
    (case a_answer_overs => k_is)
    (case l_answer_overs => k_is)
    (case c_answer_overs => k_is)
    (case k_answer_overs => k_is)
    (case a_answer_on => k_is)
    (case l_answer_on => k_is)
    (case c_answer_on => k_is)
    (case k_answer_on => k_is)
    (case a_answer_free => k_is)
    (case l_answer_free => k_is)
    (case c_answer_free => k_is)
    (case k_answer_free => k_is)
    (case a_answer_boxes => k_is)
    (case l_answer_boxes => k_is)
    (case c_answer_boxes => k_is)
    (case k_answer_boxes => k_is)
    (case a_answers => k_is)
    (case l_answers => k_is)
    (case c_answers => k_is)
    (case k_answers => k_is)
    (case pg_Box => k_is)
    (case hd_Box => k_is)
    (case po_Box => k_is)
    (case sa_Box => k_is)
    (case mk_Box => k_is)
    (case kc_Box => k_is)
    (case n_Box_number => k_is)
    (case n_Box_across => k_is)
    (case n_Box_down => k_is)
    (case n_Box_wide => k_is)
    (case n_Box_high => k_is)
    (case n_Box_hard => k_is)
    (case n_Box_pushed => k_is)
    (case n_Box_carries => k_is)
    (case pg_World => k_is)
    (case hd_World => k_is)
    (case po_World => k_is)
    (case sa_World => k_is)
    (case mk_World => k_is)
    (case kc_World => k_is)
    (case n_World_boxes => k_is)
    (case n_World_fresh => k_is)
    (case z_FARTHEST => k_is)
    (case z_MOST_BOXES => k_is)
    (case z_LARGEST_BOX => k_is)
    (case z_LARGEST_RECTANGLE => k_is)
    (case z_LONGEST_MOVE => k_is)
    (case z_LONGEST_RAY => k_is)
    (case z_OUT_OF_RANGE => k_is)
    (case z_NO_SUCH_BOX => k_is)
    (case z_PLACE_TAKEN => k_is)
    (case z_TOO_MUCH => k_is)
    (case z_NO_SUCH_PLACE => k_is)
    (case b_abs => k_is)
    (case b_len => k_is)
    (case b_list => k_is)
    (case b_any => k_is)
    (case b_sorted => k_is)
    (case b_zip => k_is)
    (case b_range => k_is)
    (case b_enumerate => k_is)
    (case a_ANSWERERS => k_is)
    (case l_ANSWERERS => k_is)
    (case a_ROW_LENGTHS => k_is)
    (case l_ROW_LENGTHS => k_is)
  case S =>
    intro K H xs a hO hwi hask hx
    cases hx with
    | cons h1 h2 =>
      cases h2
      cases h1 with
      | lst hs ha =>
        have e := L2.ints_dw a.1 _ ha
        subst e
        exact ⟨_, a.1, rfl, hs, hask, fun H' p hp => .lst (L2.SqL.of hp) (L2.dw_ints _)⟩
#print axioms PySem.Challenge.cw_movedboxes_s01_answers_holds
