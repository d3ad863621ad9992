import PyProof.Rows.All
import Kcx0Spec
import PySem.SetTable
import PySem.SetOps
import PyProof.TupleKey
import PyProof.SetKind
import PyProof.DictKinds
import PyProof.DictStraight
import PyProof.IsRules
import PyProof.Rows.SetFrom
import PyProof.CollectWalk
import PyProof.ListNew
import PyProof.FactsAll.set
import PyProof.TupleIter
import PyProof.Rows.SortShell
import KE.KSortTupG
import Wide.All
import OpenK.AllK
import Wide.FinOn
import PyProof.EqAt
import PyProof.EqKinds
import PyProof.TupleCall
import KE.BitLaws
import PyProof.Rows.TupDisplay
import Open.SpecLaws
import KE.OsHead
import KE.OsGo
import PySem.Challenge.RW_stockruns_s01_answers
section
set_option linter.all false
namespace SM
open Kcx0

/-! ### within -/
theorem within_nil (b : State) : within [] b = true := by simp [within]
theorem within_cons (x y : Nat) (a b : State) : within (x :: a) (y :: b) = (decide (x ≤ y) && within a b) := by simp [within]
theorem within_refl : ∀ a : State, within a a = true
  | [] => within_nil _
  | x :: a => by rw [within_cons, within_refl a]; simp
theorem within_trans : ∀ {a b c : State}, a.length = b.length → b.length = c.length → within a b = true → within b c = true → within a c = true
  | [], _, _, _, _, _, _ => within_nil _
  | _ :: _, [], _, h, _, _, _ => by simp at h
  | _ :: _, _ :: _, [], _, h, _, _ => by simp at h
  | x :: a, y :: b, z :: c, h1, h2, h3, h4 => by
    rw [within_cons] at h3 h4 ⊢
    simp only [Bool.and_eq_true, decide_eq_true_eq] at h3 h4 ⊢
    exact ⟨Nat.le_trans h3.1 h4.1, within_trans (by simpa using h1) (by simpa using h2) h3.2 h4.2⟩
theorem within_antisymm : ∀ {a b : State}, a.length = b.length → within a b = true → within b a = true → a = b
  | [], [], _, _, _ => rfl
  | [], _ :: _, h, _, _ => by simp at h
  | _ :: _, [], h, _, _ => by simp at h
  | x :: a, y :: b, h1, h3, h4 => by
    rw [within_cons] at h3 h4
    simp only [Bool.and_eq_true, decide_eq_true_eq] at h3 h4
    rw [Nat.le_antisymm h3.1 h4.1, within_antisymm (by simpa using h1) h3.2 h4.2]

/-- a step of n stocks -/
def StepN (n : Nat) (p : Step_) : Prop := p.takes.length = n ∧ p.gives.length = n
theorem done_length {n : Nat} {p : Step_} {s : State} (hp : StepN n p) (hs : s.length = n) : (done p s).length = n := by
  unfold done; simp [hp.1, hp.2, hs]
theorem before_length {n : Nat} {p : Step_} {s : State} (hp : StepN n p) (hs : s.length = n) : (before p s).length = n := by
  unfold before; simp [hp.1, hp.2, hs]
theorem before_iff_aux : ∀ (t g x s : List Nat), t.length = s.length → g.length = s.length → x.length = s.length →
    (within ((x.zip (t.zip g)).map fun z => (z.1 - z.2.2) + z.2.1) s = true ↔ within t s = true ∧ within x ((s.zip (t.zip g)).map fun z => z.1 - z.2.1 + z.2.2) = true)
  | [], g, x, s, h1, h2, h3 => by
    have : s = [] := List.length_eq_zero_iff.mp (by simpa using h1.symm)
    subst this
    have hx : x = [] := List.length_eq_zero_iff.mp (by simpa using h3)
    subst hx
    simp [within]
  | t :: ts, [], x, s, h1, h2, h3 => by rw [← h2] at h1; simp at h1
  | t :: ts, g :: gs, [], s, h1, h2, h3 => by rw [← h3] at h1; simp at h1
  | t :: ts, g :: gs, x :: xs, [], h1, h2, h3 => by simp at h1
  | t :: ts, g :: gs, x :: xs, s :: ss, h1, h2, h3 => by
    have ih := before_iff_aux ts gs xs ss (by simpa using h1) (by simpa using h2) (by simpa using h3)
    simp only [List.zip_cons_cons, List.map_cons, within_cons, Bool.and_eq_true, decide_eq_true_eq] at ih ⊢
    rw [ih]
    constructor
    · rintro ⟨a, b, c⟩; exact ⟨⟨by omega, b⟩, by omega, c⟩
    · rintro ⟨⟨a, b⟩, c, d⟩; exact ⟨by omega, b, d⟩
theorem before_iff {n : Nat} {p : Step_} {x s : State} (hp : StepN n p) (hx : x.length = n) (hs : s.length = n) :
    within (before p x) s = true ↔ can_ p s = true ∧ within x (done p s) = true :=
  before_iff_aux p.takes p.gives x s (by rw [hp.1, hs]) (by rw [hp.2, hs]) (by rw [hx, hs])

/-! ### least ones -/
def LenN (n : Nat) (l : List State) : Prop := ∀ w ∈ l, w.length = n
theorem has_iff {l : List State} {s : State} : has l s = true ↔ ∃ w ∈ l, within w s = true := by unfold has; rw [List.any_eq_true]
/-- no two of them, one within the other -/
def Anti (l : List State) : Prop := l.Pairwise fun a b => within a b = false ∧ within b a = false
/-- m: the least of S -/
structure MinOf (S m : List State) : Prop where
  sub : ∀ w ∈ m, w ∈ S
  anti : Anti m
  cov : ∀ w ∈ S, has m w = true

theorem Anti.eq {l : List State} (h : Anti l) {a b : State} (ha : a ∈ l) (hb : b ∈ l) (w : within a b = true) : a = b := by
  induction l with
  | nil => cases ha
  | cons x l ih =>
    obtain ⟨h1, h2⟩ := List.pairwise_cons.mp h
    rcases List.mem_cons.mp ha with e1 | ha1
    · rcases List.mem_cons.mp hb with e2 | hb1
      · rw [e1, e2]
      · subst e1; rw [(h1 b hb1).1] at w; cases w
    · rcases List.mem_cons.mp hb with e2 | hb1
      · subst e2; rw [(h1 a ha1).2] at w; cases w
      · exact ih h2 ha1 hb1
theorem Anti.nodup {l : List State} (h : Anti l) : l.Nodup := h.imp fun {a b} h e => by subst e; rw [within_refl] at h; cases h.1
theorem Anti.perm {l m : List State} (h : Anti l) (p : l.Perm m) : Anti m := (p.pairwise_iff (fun h => ⟨h.2, h.1⟩)).mp h
theorem has_perm {l m : List State} (p : l.Perm m) (s : State) : has l s = has m s := by
  rw [Bool.eq_iff_iff, has_iff, has_iff]
  exact ⟨fun ⟨w, a, b⟩ => ⟨w, p.mem_iff.mp a, b⟩, fun ⟨w, a, b⟩ => ⟨w, p.mem_iff.mpr a, b⟩⟩
theorem MinOf.lenN {n : Nat} {S m : List State} (h : MinOf S m) (k : LenN n S) : LenN n m := fun w hw => k w (h.sub w hw)
/-- what is of m is least in S -/
theorem MinOf.least {n : Nat} {S m : List State} (h : MinOf S m) (k : LenN n S) {w s : State} (hw : w ∈ m) (hs : s ∈ S) (le : within s w = true) : s = w := by
  obtain ⟨y, hy, yl⟩ := has_iff.mp (h.cov s hs)
  have ly := k y (h.sub y hy)
  have ls := k s hs
  have lw := k w (h.sub w hw)
  have e : y = w := h.anti.eq hy hw (within_trans (ly.trans ls.symm) (ls.trans lw.symm) yl le)
  subst e
  exact within_antisymm (ls.trans ly.symm) le yl

theorem perm_of_mem : ∀ {l m : List State}, l.Nodup → m.Nodup → (∀ a, a ∈ l ↔ a ∈ m) → l.Perm m := fun h1 h2 h => (List.perm_ext_iff_of_nodup h1 h2).mpr h

/-- the least of two lists that cover each other are the same -/
theorem MinOf.perm {n : Nat} {S S' m m' : List State} (h : MinOf S m) (h' : MinOf S' m') (k : LenN n S) (k' : LenN n S') (c : ∀ w ∈ S, has S' w = true) (c' : ∀ w ∈ S', has S w = true) : m.Perm m' := by
  have one : ∀ {S S' m m' : List State}, MinOf S m → MinOf S' m' → LenN n S → LenN n S' → (∀ w ∈ S, has S' w = true) → (∀ w ∈ S', has S w = true) → ∀ a, a ∈ m → a ∈ m' := by
    intro S S' m m' h h' k k' c c' a ha
    have la := k a (h.sub a ha)
    obtain ⟨b, hb, bl⟩ := has_iff.mp (c a (h.sub a ha))
    have lb := k' b hb
    obtain ⟨d, hd, dl⟩ := has_iff.mp (h'.cov b hb)
    have ld := k' d (h'.sub d hd)
    obtain ⟨e, he, el⟩ := has_iff.mp (c' d (h'.sub d hd))
    have le := k e he
    have e1 : e = a := h.least k ha he (within_trans (le.trans ld.symm) (ld.trans la.symm) el (within_trans (ld.trans lb.symm) (lb.trans la.symm) dl bl))
    subst e1
    have e2 : d = e := within_antisymm (ld.trans la.symm) (within_trans (ld.trans lb.symm) (lb.trans la.symm) dl bl) el
    rw [← e2]; exact hd
  exact perm_of_mem h.anti.nodup h'.anti.nodup fun a => ⟨one h h' k k' c c' a, one h' h k' k c' c a⟩

/-! ### the specification's rounds -/
theorem add_min {n : Nat} {S l : List State} {w : State} (h : MinOf S l) (k : LenN n S) (hw : w.length = n) : MinOf (S ++ [w]) (add l w) := by
  unfold add
  by_cases c : (l.any fun x => within x w) = true
  · rw [if_pos c]
    refine ⟨fun a ha => List.mem_append_left _ (h.sub a ha), h.anti, fun a ha => ?_⟩
    rcases List.mem_append.mp ha with ha | ha
    · exact h.cov a ha
    · have : a = w := by simpa using ha
      subst this; exact c
  · rw [if_neg c]
    have nc : ∀ x ∈ l, within x w = false := fun x hx => by
      cases e : within x w with
      | false => rfl
      | true => exact absurd (List.any_eq_true.mpr ⟨x, hx, e⟩) c
    refine ⟨fun a ha => ?_, ?_, fun a ha => ?_⟩
    · rcases List.mem_append.mp ha with ha | ha
      · exact List.mem_append_left _ (h.sub a (List.mem_filter.mp ha).1)
      · exact List.mem_append_right _ ha
    · refine List.pairwise_append.mpr ⟨h.anti.filter _, List.pairwise_singleton _ _, fun a ha b hb => ?_⟩
      have : b = w := by simpa using hb
      subst this
      obtain ⟨a1, a2⟩ := List.mem_filter.mp ha
      exact ⟨nc a a1, by simpa using a2⟩
    · have key : ∀ x ∈ l, has (l.filter (fun x => !within w x) ++ [w]) x = true := fun x hx => by
        rw [has_iff]
        cases e : within w x with
        | true => exact ⟨w, by simp, e⟩
        | false => exact ⟨x, List.mem_append_left _ (List.mem_filter.mpr ⟨hx, by simp [e]⟩), within_refl x⟩
      rcases List.mem_append.mp ha with ha | ha
      · obtain ⟨x, hx, xl⟩ := has_iff.mp (h.cov a ha)
        obtain ⟨y, hy, yl⟩ := has_iff.mp (key x hx)
        have lx := k x (h.sub x hx)
        have la := k a ha
        have ly : y.length = n := by
          rcases List.mem_append.mp hy with hy | hy
          · exact k y (h.sub y (List.mem_filter.mp hy).1)
          · have : y = w := by simpa using hy
            subst this; exact hw
        exact has_iff.mpr ⟨y, hy, within_trans (ly.trans lx.symm) (lx.trans la.symm) yl xl⟩
      · have : a = w := by simpa using ha
        subst this
        exact has_iff.mpr ⟨a, by simp, within_refl a⟩
theorem foldl_add_min {n : Nat} : ∀ {S l : List State} (ws : List State), MinOf S l → LenN n S → LenN n ws → MinOf (S ++ ws) (ws.foldl add l)
  | S, l, [], h, _, _ => by simpa using h
  | S, l, w :: ws, h, k, kw => by
    have h1 := add_min h k (kw w (by simp))
    have := foldl_add_min ws h1 (fun a ha => by
      rcases List.mem_append.mp ha with ha | ha
      · exact k a ha
      · have : a = w := by simpa using ha
        subst this; exact kw a (by simp)) fun a ha => kw a (by simp [ha])
    simpa using this
def ahead (ps : List Step_) (l : List State) : List State := l.flatMap fun w => ps.map fun p => before p w
theorem mem_ahead {ps : List Step_} {l : List State} {x : State} : x ∈ ahead ps l ↔ ∃ w ∈ l, ∃ p ∈ ps, x = before p w := by
  unfold ahead
  simp only [List.mem_flatMap, List.mem_map]
  exact ⟨fun ⟨w, a, p, b, c⟩ => ⟨w, a, p, b, c.symm⟩, fun ⟨w, a, p, b, c⟩ => ⟨w, a, p, b, c.symm⟩⟩
def StepsN (n : Nat) (ps : List Step_) : Prop := ∀ p ∈ ps, StepN n p
theorem ahead_lenN {n : Nat} {ps : List Step_} {l : List State} (hp : StepsN n ps) (k : LenN n l) : LenN n (ahead ps l) := fun x hx => by
  obtain ⟨w, hw, p, hp', rfl⟩ := mem_ahead.mp hx
  exact before_length (hp p hp') (k w hw)
theorem MinOf.self {l : List State} (h : Anti l) : MinOf l l := ⟨fun _ h => h, h, fun w hw => has_iff.mpr ⟨w, hw, within_refl w⟩⟩
theorem round_min {n : Nat} {ps : List Step_} {l : List State} (hp : StepsN n ps) (k : LenN n l) (h : Anti l) : MinOf (l ++ ahead ps l) (round ps l) :=
  foldl_add_min (ahead ps l) (MinOf.self h) k (ahead_lenN hp k)
theorem LenN.append {n : Nat} {l m : List State} (a : LenN n l) (b : LenN n m) : LenN n (l ++ m) := fun w hw => (List.mem_append.mp hw).elim (a w) (b w)

/-- the least states behind so many rounds -/
def lay (ps : List Step_) (t : State) : Nat → List State
  | 0 => [t]
  | k + 1 => round ps (lay ps t k)
theorem lay_ok {n : Nat} {ps : List Step_} {t : State} (hp : StepsN n ps) (ht : t.length = n) : ∀ k, LenN n (lay ps t k) ∧ Anti (lay ps t k)
  | 0 => ⟨fun w hw => by have : w = t := by simpa [lay] using hw
                         rw [this, ht], List.pairwise_singleton _ _⟩
  | k + 1 => by
    obtain ⟨a, b⟩ := lay_ok hp ht k
    have m := round_min hp a b
    exact ⟨m.lenN (a.append (ahead_lenN hp a)), m.anti⟩
theorem lay_min {n : Nat} {ps : List Step_} {t : State} (hp : StepsN n ps) (ht : t.length = n) (k : Nat) : MinOf (lay ps t k ++ ahead ps (lay ps t k)) (lay ps t (k + 1)) :=
  round_min hp (lay_ok hp ht k).1 (lay_ok hp ht k).2
theorem lay_up {n : Nat} {ps : List Step_} {t s : State} (hp : StepsN n ps) (ht : t.length = n) (hs : s.length = n) {k : Nat} (h : has (lay ps t k) s = true) : has (lay ps t (k + 1)) s = true := by
  obtain ⟨w, hw, wl⟩ := has_iff.mp h
  have m := lay_min hp ht k
  obtain ⟨x, hx, xl⟩ := has_iff.mp (m.cov w (List.mem_append_left _ hw))
  have lw := (lay_ok hp ht k).1 w hw
  have lx := (lay_ok hp ht (k + 1)).1 x hx
  exact has_iff.mpr ⟨x, hx, within_trans (lx.trans lw.symm) (lw.trans hs.symm) xl wl⟩
/-- by a step into layer k: in layer k + 1 -/
theorem lay_back {n : Nat} {ps : List Step_} {t s : State} {p : Step_} (hp : StepsN n ps) (ht : t.length = n) (hs : s.length = n) {k : Nat} (hpm : p ∈ ps) (c : can_ p s = true) (h : has (lay ps t k) (done p s) = true) : has (lay ps t (k + 1)) s = true := by
  obtain ⟨w, hw, wl⟩ := has_iff.mp h
  have lw := (lay_ok hp ht k).1 w hw
  have b := (before_iff (hp p hpm) lw hs).mpr ⟨c, wl⟩
  have m := lay_min hp ht k
  obtain ⟨x, hx, xl⟩ := has_iff.mp (m.cov (before p w) (List.mem_append_right _ (mem_ahead.mpr ⟨w, hw, p, hpm, rfl⟩)))
  have lx := (lay_ok hp ht (k + 1)).1 x hx
  have lb := before_length (hp p hpm) lw
  exact has_iff.mpr ⟨x, hx, within_trans (lx.trans lb.symm) (lb.trans hs.symm) xl b⟩
/-- in layer k + 1 and not in k: a step leads into k -/
theorem lay_on {n : Nat} {ps : List Step_} {t s : State} (hp : StepsN n ps) (ht : t.length = n) (hs : s.length = n) {k : Nat} (h : has (lay ps t (k + 1)) s = true) (h' : has (lay ps t k) s = false) :
    ∃ p ∈ ps, can_ p s = true ∧ has (lay ps t k) (done p s) = true := by
  obtain ⟨w, hw, wl⟩ := has_iff.mp h
  rcases List.mem_append.mp ((lay_min hp ht k).sub w hw) with hw' | hw'
  · rw [has_iff.mpr ⟨w, hw', wl⟩] at h'; cases h'
  · obtain ⟨x, hx, p, hpm, rfl⟩ := mem_ahead.mp hw'
    have lx := (lay_ok hp ht k).1 x hx
    obtain ⟨c, d⟩ := (before_iff (hp p hpm) lx hs).mp wl
    exact ⟨p, hpm, c, has_iff.mpr ⟨x, hx, d⟩⟩
theorem layers_eq (ps : List Step_) (t : State) : ∀ k, layers ps t k = (List.range (k + 1)).reverse.map (lay ps t)
  | 0 => rfl
  | k + 1 => by
    have ih := layers_eq ps t k
    have hd : (layers ps t k).headD [] = lay ps t k := by
      rw [ih, List.range_succ, List.reverse_append]; rfl
    show round ps ((layers ps t k).headD []) :: layers ps t k = _
    rw [hd, ih, List.range_succ (n := k + 1), List.reverse_append]
    rfl
end SM
end
section
set_option linter.all false
namespace SM
open Kcx0

/-! ### least_of: what is sorted is gone through once -/
/-- none within one that stands ahead of it, but its like -/
def SortedW (zs : List State) : Prop := zs.Pairwise fun a b => within b a = true → b = a
/-- what least_of gives back of S -/
def Least60 (S L : List State) : Prop := (MinOf S L ∧ L.length ≤ 60) ∨ (L.length = 61 ∧ Anti L ∧ (∀ w ∈ L, w ∈ S) ∧ ∀ w ∈ L, ∀ z ∈ S, within z w = true → z = w)
theorem leastOf_nil : MinOf [] [] := ⟨fun _ h => h, List.Pairwise.nil, fun _ h => nomatch h⟩
theorem leastOf_skip {pre L : List State} {s : State} (h : MinOf pre L) (hs : has L s = true) : MinOf (pre ++ [s]) L :=
  ⟨fun w hw => List.mem_append_left _ (h.sub w hw), h.anti, fun w hw => (List.mem_append.mp hw).elim (h.cov w) fun e => by
    have : w = s := by simpa using e
    rw [this]; exact hs⟩
theorem leastOf_add {pre L : List State} {s : State} (h : MinOf pre L) (hs : has L s = false) (st : SortedW (pre ++ [s])) : MinOf (pre ++ [s]) (L ++ [s]) := by
  refine ⟨fun w hw => ?_, List.pairwise_append.mpr ⟨h.anti, List.pairwise_singleton _ _, fun a ha b hb => ?_⟩, fun w hw => ?_⟩
  · rcases List.mem_append.mp hw with hw | hw
    · exact List.mem_append_left _ (h.sub w hw)
    · exact List.mem_append_right _ hw
  · have e : b = s := by simpa using hb
    subst e
    have f1 : within a b = false := by
      cases q : within a b with
      | false => rfl
      | true => rw [has_iff.mpr ⟨a, ha, q⟩] at hs; cases hs
    refine ⟨f1, ?_⟩
    cases q : within b a with
    | false => rfl
    | true =>
      have e := (List.pairwise_append.mp st).2.2 a (h.sub a ha) b (by simp) q
      rw [← e, within_refl] at f1; cases f1
  · rcases List.mem_append.mp hw with hw | hw
    · obtain ⟨x, hx, xl⟩ := has_iff.mp (h.cov w hw)
      exact has_iff.mpr ⟨x, List.mem_append_left _ hx, xl⟩
    · exact has_iff.mpr ⟨w, List.mem_append_right _ hw, within_refl w⟩
/-- behind all of them -/
theorem least60_all {S zs L : List State} (h : MinOf zs L) (hl : L.length ≤ 60) (m : ∀ a, a ∈ zs ↔ a ∈ S) : Least60 S L :=
  .inl ⟨⟨fun w hw => (m w).mp (h.sub w hw), h.anti, fun w hw => h.cov w ((m w).mpr hw)⟩, hl⟩
/-- broken off behind pre -/
theorem least60_cut {n : Nat} {S zs pre L : List State} {post : List State} (e : zs = pre ++ post) (h : MinOf pre L) (hl : L.length = 61) (st : SortedW zs) (k : LenN n zs) (m : ∀ a, a ∈ zs ↔ a ∈ S) : Least60 S L := by
  subst e
  refine .inr ⟨hl, h.anti, fun w hw => (m w).mp (List.mem_append_left _ (h.sub w hw)), fun w hw z hz le => ?_⟩
  rcases List.mem_append.mp ((m z).mpr hz) with hz | hz
  · exact h.least (fun a ha => k a (List.mem_append_left _ ha)) hw hz le
  · exact (List.pairwise_append.mp st).2.2 w (h.sub w hw) z hz le

/-! ### the rounds as the program goes them -/
structure Good (ps : List Step_) (t : State) (k : Nat) (last fresh : List State) : Prop where
  perm : last.Perm (lay ps t k)
  sub : ∀ w ∈ fresh, w ∈ last
  shut : ∀ w ∈ last, w ∉ fresh → ∀ p ∈ ps, has last (before p w) = true
  old : ∀ w ∈ last, w ∉ fresh → ∃ j, k = j + 1 ∧ w ∈ lay ps t j
def Over (ps : List Step_) (t : State) (k : Nat) (last : List State) : Prop := last.length = 61 ∧ 60 < (lay ps t k).length
/-- what is looked at behind: those there, and what lies ahead of the fresh and has not all that these have -/
def lookedAt (ps : List Step_) (last fresh : List State) : List State := last ++ fresh.flatMap fun w => (ps.map fun p => before p w).filter fun x => !within w x
def newOf (last L : List State) : List State := L.filter fun w => !last.contains w
theorem mem_lookedAt {ps : List Step_} {last fresh : List State} {x : State} : x ∈ lookedAt ps last fresh ↔ x ∈ last ∨ ∃ w ∈ fresh, ∃ p ∈ ps, x = before p w ∧ within w x = false := by
  unfold lookedAt
  simp only [List.mem_append, List.mem_flatMap, List.mem_filter, List.mem_map]
  constructor
  · rintro (h | ⟨w, a, ⟨p, b, c⟩, d⟩)
    · exact .inl h
    · exact .inr ⟨w, a, p, b, c.symm, by simpa using d⟩
  · rintro (h | ⟨w, a, p, b, c, d⟩)
    · exact .inl h
    · exact .inr ⟨w, a, ⟨p, b, c.symm⟩, by simpa using d⟩
theorem mem_newOf {last L : List State} {x : State} : x ∈ newOf last L ↔ x ∈ L ∧ x ∉ last := by
  unfold newOf; simp [List.mem_filter]
section
variable {n : Nat} {ps : List Step_} {t : State} {k : Nat} {last fresh L : List State}
theorem good_start : Good ps t 0 [t] [t] := ⟨List.Perm.refl _, fun _ h => h, fun w h h' => absurd h h', fun w h h' => absurd h h'⟩
theorem Good.len (g : Good ps t k last fresh) (hp : StepsN n ps) (ht : t.length = n) : LenN n last := fun w hw => (lay_ok hp ht k).1 w (g.perm.mem_iff.mp hw)
theorem Good.anti (g : Good ps t k last fresh) (hp : StepsN n ps) (ht : t.length = n) : Anti last := (lay_ok hp ht k).2.perm g.perm.symm
theorem lookedAt_len (hp : StepsN n ps) (a : LenN n last) (b : LenN n fresh) : LenN n (lookedAt ps last fresh) := fun x hx => by
  rcases mem_lookedAt.mp hx with h | ⟨w, hw, p, hpm, rfl, _⟩
  · exact a x h
  · exact before_length (hp p hpm) (b w hw)
/-- what is looked at covers all that lies ahead -/
theorem Good.covers (g : Good ps t k last fresh) (hp : StepsN n ps) (ht : t.length = n) : ∀ w ∈ lay ps t k ++ ahead ps (lay ps t k), has (lookedAt ps last fresh) w = true := fun x hx => by
  rcases List.mem_append.mp hx with hx | hx
  · exact has_iff.mpr ⟨x, mem_lookedAt.mpr (.inl (g.perm.mem_iff.mpr hx)), within_refl x⟩
  · obtain ⟨w, hw, p, hpm, rfl⟩ := mem_ahead.mp hx
    have hw' := g.perm.mem_iff.mpr hw
    by_cases hf : w ∈ fresh
    · cases q : within w (before p w) with
      | true => exact has_iff.mpr ⟨w, mem_lookedAt.mpr (.inl hw'), q⟩
      | false => exact has_iff.mpr ⟨before p w, mem_lookedAt.mpr (.inr ⟨w, hf, p, hpm, rfl, q⟩), within_refl _⟩
    · obtain ⟨y, hy, yl⟩ := has_iff.mp (g.shut w hw' hf p hpm)
      exact has_iff.mpr ⟨y, mem_lookedAt.mpr (.inl hy), yl⟩
theorem Good.covered (g : Good ps t k last fresh) : ∀ w ∈ lookedAt ps last fresh, has (lay ps t k ++ ahead ps (lay ps t k)) w = true := fun x hx => by
  rcases mem_lookedAt.mp hx with h | ⟨w, hw, p, hpm, rfl, _⟩
  · exact has_iff.mpr ⟨x, List.mem_append_left _ (g.perm.mem_iff.mp h), within_refl x⟩
  · exact has_iff.mpr ⟨before p w, List.mem_append_right _ (mem_ahead.mpr ⟨w, g.perm.mem_iff.mp (g.sub w hw), p, hpm, rfl⟩), within_refl _⟩
theorem same_iff {a b : List State} : same a b = true ↔ (∀ w ∈ a, has b w = true) ∧ ∀ w ∈ b, has a w = true := by
  unfold same; rw [Bool.and_eq_true, List.all_eq_true, List.all_eq_true]
/-- same, of a round and the next: the next has nothing that the first hasn't -/
theorem same_lay (hp : StepsN n ps) (ht : t.length = n) : same (lay ps t k) (lay ps t (k + 1)) = true ↔ ∀ w ∈ lay ps t (k + 1), w ∈ lay ps t k := by
  rw [same_iff]
  have m := lay_min hp ht k
  constructor
  · rintro ⟨h1, h2⟩ w hw
    obtain ⟨y, hy, yl⟩ := has_iff.mp (h2 w hw)
    obtain ⟨z, hz, zl⟩ := has_iff.mp (h1 y hy)
    have lw := (lay_ok hp ht (k + 1)).1 w hw
    have ly := (lay_ok hp ht k).1 y hy
    have lz := (lay_ok hp ht (k + 1)).1 z hz
    have e : z = w := (lay_ok hp ht (k + 1)).2.eq hz hw (within_trans (lz.trans ly.symm) (ly.trans lw.symm) zl yl)
    subst e
    rw [within_antisymm (lw.trans ly.symm) zl yl]; exact hy
  · intro h
    refine ⟨fun w hw => m.cov w (List.mem_append_left _ hw), fun w hw => has_iff.mpr ⟨w, h w hw, within_refl w⟩⟩
theorem nodup_le {α : Type} [DecidableEq α] : ∀ {l m : List α}, l.Nodup → (∀ a ∈ l, a ∈ m) → l.length ≤ m.length
  | [], _, _, _ => Nat.zero_le _
  | a :: l, m, h, s => by
    obtain ⟨h1, h2⟩ := List.nodup_cons.mp h
    have ha := s a (by simp)
    have := nodup_le (l := l) (m := m.erase a) h2 fun b hb => (List.mem_erase_of_ne (fun e => h1 (by rw [← e]; exact hb))).mpr (s b (by simp [hb]))
    rw [List.length_erase_of_mem ha] at this
    have := List.length_pos_of_mem ha
    simp only [List.length_cons]; omega
/-- one round more -/
theorem Good.next (g : Good ps t k last fresh) (hp : StepsN n ps) (ht : t.length = n) (hl : last.length ≤ 60) (h : Least60 (lookedAt ps last fresh) L) :
    ((L.length ≤ 60 ∧ Good ps t (k + 1) L (newOf last L)) ∨ (Over ps t (k + 1) L)) ∧ (newOf last L = [] ↔ same (lay ps t k) (lay ps t (k + 1)) = true) := by
  have ll := g.len hp ht
  have lf : LenN n fresh := fun w hw => ll w (g.sub w hw)
  have lS := lookedAt_len hp ll lf
  have m := lay_min hp ht k
  have lS' : LenN n (lay ps t k ++ ahead ps (lay ps t k)) := (lay_ok hp ht k).1.append (ahead_lenN hp (lay_ok hp ht k).1)
  rcases h with ⟨h, h60⟩ | ⟨h61, ha, hs, hm⟩
  · have pm : L.Perm (lay ps t (k + 1)) := h.perm m lS lS' g.covered (g.covers hp ht)
    refine ⟨.inl ⟨h60, pm, fun w hw => (mem_newOf.mp hw).1, fun w hw hn p hpm => ?_, fun w hw hn => ?_⟩, ?_⟩
    · have hwl : w ∈ last := Classical.byContradiction fun c => hn (mem_newOf.mpr ⟨hw, c⟩)
      have : has (lookedAt ps last fresh) (before p w) = true := g.covers hp ht _ (List.mem_append_right _ (mem_ahead.mpr ⟨w, g.perm.mem_iff.mp hwl, p, hpm, rfl⟩))
      obtain ⟨y, hy, yl⟩ := has_iff.mp this
      obtain ⟨z, hz, zl⟩ := has_iff.mp (h.cov y hy)
      have lb := before_length (hp p hpm) (ll w hwl)
      have ly := lS y hy
      have lz := lS z (h.sub z hz)
      exact has_iff.mpr ⟨z, hz, within_trans (lz.trans ly.symm) (ly.trans lb.symm) zl yl⟩
    · have hwl : w ∈ last := Classical.byContradiction fun c => hn (mem_newOf.mpr ⟨hw, c⟩)
      exact ⟨k, rfl, g.perm.mem_iff.mp hwl⟩
    · rw [same_lay hp ht]
      constructor
      · intro e w hw
        have hw' := pm.mem_iff.mpr hw
        have hwl : w ∈ last := Classical.byContradiction fun c => by
          have := mem_newOf.mpr ⟨hw', c⟩
          rw [e] at this; cases this
        exact g.perm.mem_iff.mp hwl
      · intro e
        refine List.eq_nil_iff_forall_not_mem.mpr fun w hw => ?_
        obtain ⟨a, b⟩ := mem_newOf.mp hw
        exact b (g.perm.mem_iff.mpr (e w (pm.mem_iff.mp a)))
  · have sub : ∀ w ∈ L, w ∈ lay ps t (k + 1) := fun w hw => by
      have hwS := hs w hw
      have lw := lS w hwS
      obtain ⟨b, hb, bl⟩ := has_iff.mp (g.covered w hwS)
      obtain ⟨y, hy, yl⟩ := has_iff.mp (m.cov b hb)
      have lb := lS' b hb
      have ly := lS' y (m.sub y hy)
      obtain ⟨z, hz, zl⟩ := has_iff.mp (g.covers hp ht y (m.sub y hy))
      have lz := lS z hz
      have yw := within_trans (ly.trans lb.symm) (lb.trans lw.symm) yl bl
      have e := hm w hw z hz (within_trans (lz.trans ly.symm) (ly.trans lw.symm) zl yw)
      subst e
      rw [← within_antisymm (ly.trans lz.symm) yw zl]; exact hy
    have big := nodup_le ha.nodup sub
    rw [h61] at big
    refine ⟨.inr ⟨h61, big⟩, ?_⟩
    rw [same_lay hp ht]
    constructor
    · intro e
      have : ∀ w ∈ L, w ∈ last := fun w hw => Classical.byContradiction fun c => by
        have := mem_newOf.mpr ⟨hw, c⟩
        rw [e] at this; cases this
      have := nodup_le ha.nodup this
      omega
    · intro e
      have := nodup_le (lay_ok hp ht (k + 1)).2.nodup e
      have e2 := g.perm.length_eq
      omega
/-- the fresh ones tell as much as all, where the round before told nothing -/
theorem Good.has_fresh (g : Good ps t k last fresh) {s : State} (h : ∀ j, k = j + 1 → has (lay ps t j) s = false) : has fresh s = has (lay ps t k) s := by
  rw [Bool.eq_iff_iff, has_iff, has_iff]
  constructor
  · rintro ⟨w, hw, wl⟩; exact ⟨w, g.perm.mem_iff.mp (g.sub w hw), wl⟩
  · rintro ⟨w, hw, wl⟩
    refine ⟨w, Classical.byContradiction fun c => ?_, wl⟩
    obtain ⟨j, e, hj⟩ := g.old w (g.perm.mem_iff.mpr hw) c
    have q := h j e
    rw [has_iff.mpr ⟨w, hj, wl⟩] at q
    cases q
end

/-! ### seek and whole, round by round -/
theorem seek_much {ps : List Step_} {s : State} {f k : Nat} {l : List State} (h : 60 < l.length) : seek ps s f k l = .much := by
  cases f with
  | zero => rfl
  | succ f => unfold seek; rw [if_pos (show LEASTS < l.length from h)]
theorem seek_here {ps : List Step_} {s : State} {f k : Nat} {l : List State} (h : l.length ≤ 60) (hh : has l s = true) : seek ps s (f + 1) k l = .steps k := by
  unfold seek; rw [if_neg (show ¬ LEASTS < l.length from Nat.not_lt.mpr h), if_pos hh]
theorem seek_never {ps : List Step_} {s : State} {f k : Nat} {l : List State} (h : l.length ≤ 60) (hh : has l s = false) (e : same l (round ps l) = true) : seek ps s (f + 1) k l = .never := by
  unfold seek; rw [if_neg (show ¬ LEASTS < l.length from Nat.not_lt.mpr h), if_neg (by rw [hh]; exact Bool.false_ne_true)]
  dsimp only
  rw [if_pos e]
theorem seek_on {ps : List Step_} {s : State} {f k : Nat} {l : List State} (h : l.length ≤ 60) (hh : has l s = false) (e : same l (round ps l) = false) : seek ps s (f + 1) k l = seek ps s f (k + 1) (round ps l) := by
  conv => lhs; unfold seek
  rw [if_neg (show ¬ LEASTS < l.length from Nat.not_lt.mpr h), if_neg (by rw [hh]; exact Bool.false_ne_true)]
  dsimp only
  rw [if_neg (by rw [e]; exact Bool.false_ne_true)]
theorem whole_much {ps : List Step_} {f : Nat} {l : List State} (h : 60 < l.length) : whole ps f l = none := by
  cases f with
  | zero => rfl
  | succ f => unfold whole; rw [if_pos (show LEASTS < l.length from h)]
theorem whole_end {ps : List Step_} {f : Nat} {l : List State} (h : l.length ≤ 60) (e : same l (round ps l) = true) : whole ps (f + 1) l = some l := by
  unfold whole; rw [if_neg (show ¬ LEASTS < l.length from Nat.not_lt.mpr h)]
  dsimp only
  rw [if_pos e]
theorem whole_on {ps : List Step_} {f : Nat} {l : List State} (h : l.length ≤ 60) (e : same l (round ps l) = false) : whole ps (f + 1) l = whole ps f (round ps l) := by
  conv => lhs; unfold whole
  rw [if_neg (show ¬ LEASTS < l.length from Nat.not_lt.mpr h)]
  dsimp only
  rw [if_neg (by rw [e]; exact Bool.false_ne_true)]
/-- the number that is answered of it -/
def code : Found → Int
  | .steps n => n
  | .never => -6
  | .much => -75

/-! ### the way -/
/-- s is k steps from it, and no fewer -/
def Far (ps : List Step_) (t s : State) (k : Nat) : Prop := has (lay ps t k) s = true ∧ ∀ j, j < k → has (lay ps t j) s = false
theorem Far.step {n : Nat} {ps : List Step_} {t s : State} {k : Nat} {p : Step_} (hp : StepsN n ps) (ht : t.length = n) (hs : s.length = n) (f : Far ps t s (k + 1)) (hpm : p ∈ ps) (c : can_ p s = true) (h : has (lay ps t k) (done p s) = true) : Far ps t (done p s) k := by
  refine ⟨h, fun j hj => ?_⟩
  cases q : has (lay ps t j) (done p s) with
  | false => rfl
  | true =>
    have := lay_back hp ht hs hpm c q
    rw [f.2 (j + 1) (by omega)] at this; cases this
/-- the numbers of the steps that lead from s into l -/
def fits (ps : List Step_) (l : List State) (s : State) : List Nat := (List.range ps.length).filter fun k => match ps[k]? with
  | none => false
  | some p => can_ p s && has l (done p s)
theorem Far.fits {n : Nat} {ps : List Step_} {t s : State} {k : Nat} {l : List State} (hp : StepsN n ps) (ht : t.length = n) (hs : s.length = n) (f : Far ps t s (k + 1)) (hl : l.Perm (lay ps t k)) (r : List (List State)) :
    ∃ (i : Nat) (p : Step_) (more : List Nat), SM.fits ps l s = i :: more ∧ ps[i]? = some p ∧ can_ p s = true ∧ p ∈ ps ∧ Far ps t (done p s) k ∧
      wayFrom ps (lay ps t (k + 1) :: lay ps t k :: r) s = i :: wayFrom ps (lay ps t k :: r) (done p s) := by
  have eq : ∀ q : State, has l q = has (lay ps t k) q := fun q => has_perm hl q
  cases e : SM.fits ps l s with
  | nil =>
    obtain ⟨p, hpm, c, h⟩ := lay_on hp ht hs f.1 (f.2 k (by omega))
    obtain ⟨i, hi⟩ := List.mem_iff_getElem?.mp hpm
    have : i ∈ SM.fits ps l s := by
      unfold SM.fits
      refine List.mem_filter.mpr ⟨List.mem_range.mpr (List.getElem?_eq_some_iff.mp hi).1, ?_⟩
      rw [hi]; simp only [c, eq, h, Bool.and_self]
    rw [e] at this; cases this
  | cons i more =>
    have hi : i ∈ SM.fits ps l s := by rw [e]; simp
    obtain ⟨h1, h2⟩ := List.mem_filter.mp hi
    obtain ⟨p, hpi⟩ : ∃ p, ps[i]? = some p := ⟨_, List.getElem?_eq_getElem (List.mem_range.mp h1)⟩
    rw [hpi] at h2
    simp only [Bool.and_eq_true, eq] at h2
    have hpm := List.mem_of_getElem? hpi
    refine ⟨i, p, more, rfl, hpi, h2.1, hpm, f.step hp ht hs hpm h2.1 h2.2, ?_⟩
    have fnd : ((List.range ps.length).find? fun k' => match ps[k']? with
        | none => false
        | some p => can_ p s && has (lay ps t k) (done p s)) = some i := by
      have := List.head?_filter (p := fun k' => match ps[k']? with
        | none => false
        | some p => can_ p s && has l (done p s)) (l := List.range ps.length)
      have e' : ((List.range ps.length).filter fun k' => match ps[k']? with
        | none => false
        | some p => can_ p s && has l (done p s)) = i :: more := e
      rw [e'] at this
      simp only [eq] at this
      exact this.symm
    conv => lhs; unfold wayFrom
    split
    · rename_i hq
      cases (Eq.trans (Eq.symm hq) fnd)
    · rename_i k1 hq
      have e1 : k1 = i := Option.some.inj (Eq.trans (Eq.symm hq) fnd)
      subst e1
      rw [hpi]
theorem wayFrom_one (ps : List Step_) (l : List State) (s : State) : wayFrom ps [l] s = [] := by unfold wayFrom; rfl
end SM
end
section
set_option linter.all false
namespace SM
open Kcx0

/-! ### all states: those found in their order, and of each the place of the one by which it was found -/
inductive Anc (fs : List State) (par : List (Option Nat)) : Nat → List State → Prop
  | top {j : Nat} : par[j]? = some none → Anc fs par j []
  | up {j i : Nat} {x : State} {c : List State} : par[j]? = some (some i) → i < j → fs[i]? = some x → Anc fs par i c → Anc fs par j (x :: c)
theorem get_more {α : Type} {l : List α} {i : Nat} {x : α} (m : List α) (h : l[i]? = some x) : (l ++ m)[i]? = some x := by
  rw [List.getElem?_append_left (List.getElem?_eq_some_iff.mp h).1]; exact h
theorem Anc.more {fs : List State} {par : List (Option Nat)} {j : Nat} {c : List State} (h : Anc fs par j c) (f' : List State) (p' : List (Option Nat)) : Anc (fs ++ f') (par ++ p') j c := by
  induction h with
  | top h => exact .top (get_more _ h)
  | up h l e _ ih => exact .up (get_more _ h) l (get_more _ e) ih
theorem Anc.sub {fs : List State} {par : List (Option Nat)} {j : Nat} {c : List State} (h : Anc fs par j c) : ∀ x ∈ c, x ∈ fs := by
  induction h with
  | top _ => intro x h; cases h
  | up h l e _ ih =>
    intro x hx
    rcases List.mem_cons.mp hx with rfl | hx
    · exact List.mem_of_getElem? e
    · exact ih x hx
/-- those that wait: from the place on -/
structure Waits (fs : List State) (par : List (Option Nat)) (place : Nat) (w : List Node) : Prop where
  len : place + w.length = fs.length
  at_ : ∀ (j : Nat) (nd : Node), w[j]? = some nd → fs[place + j]? = some nd.state ∧ Anc fs par (place + j) nd.from_
theorem Waits.tail {fs : List State} {par : List (Option Nat)} {place : Nat} {nd : Node} {w : List Node} (h : Waits fs par place (nd :: w)) : Waits fs par (place + 1) w :=
  ⟨by have := h.len; simp only [List.length_cons] at this; omega, fun j x e => by
    have := h.at_ (j + 1) x (by simpa using e)
    rw [show place + (j + 1) = place + 1 + j by omega] at this; exact this⟩
theorem Waits.more {fs : List State} {par : List (Option Nat)} {place i : Nat} {w : List Node} {s : State} {nd : Node} (h : Waits fs par place w) (hp : par.length = fs.length) (e : fs[i]? = some nd.state) (a : Anc fs par i nd.from_) :
    Waits (fs ++ [s]) (par ++ [some i]) place (w ++ [⟨s, nd.state :: nd.from_⟩]) := by
  refine ⟨by have := h.len; simp only [List.length_append, List.length_cons, List.length_nil]; omega, fun j x ej => ?_⟩
  by_cases hj : j < w.length
  · rw [List.getElem?_append_left hj] at ej
    obtain ⟨b, c⟩ := h.at_ j x ej
    exact ⟨get_more _ b, c.more _ _⟩
  · rw [List.getElem?_append_right (by omega)] at ej
    have hj2 : j - w.length = 0 := by
      rcases Nat.eq_zero_or_pos (j - w.length) with z | z
      · exact z
      · rw [List.getElem?_eq_none (by simp only [List.length_cons, List.length_nil]; omega)] at ej; cases ej
    rw [hj2] at ej
    have e2 : x = ⟨s, nd.state :: nd.from_⟩ := (Option.some.inj ej).symm
    subst e2
    have pj : place + j = fs.length := by have := h.len; omega
    rw [pj]
    have il : i < fs.length := (List.getElem?_eq_some_iff.mp e).1
    refine ⟨by rw [List.getElem?_append_right (Nat.le_refl _), Nat.sub_self]; rfl, .up (i := i) ?_ il (get_more _ e) (a.more _ _)⟩
    rw [List.getElem?_append_right (by omega), hp, Nat.sub_self]; rfl
theorem waits_start (s : State) : Waits [s] [none] 0 [⟨s, []⟩] :=
  ⟨rfl, fun j x e => by
    cases j with
    | zero =>
      have : x = ⟨s, []⟩ := (Option.some.inj e).symm
      subst this
      exact ⟨rfl, .top rfl⟩
    | succ j => simp at e⟩
theorem above_any {fs : List State} {s : State} (hs : s ∉ fs) : ∀ {l : List State}, (∀ x ∈ l, x ∈ fs) → (l.any fun x => above s x) = l.any fun x => within x s
  | [], _ => rfl
  | x :: l, h => by
    rw [List.any_cons, List.any_cons, above_any hs fun y hy => h y (by simp [hy])]
    have : (s == x) = false := beq_eq_false_iff_ne.mpr fun e => hs (by rw [e]; exact h x (by simp))
    unfold above
    rw [this, Bool.not_false, Bool.and_true]
section
variable {ps r : List Step_} {nd : Node} {p : Step_} {w : List Node} {l : List State}
theorem grow_nil : grow ps nd [] w l = some (w, l) := by unfold grow; rfl
theorem grow_cannot (h : can_ p nd.state = false) : grow ps nd (p :: r) w l = grow ps nd r w l := by
  conv => lhs; unfold grow
  rw [if_pos h]
theorem grow_old (h : can_ p nd.state = true) (h2 : done p nd.state ∈ l) : grow ps nd (p :: r) w l = grow ps nd r w l := by
  conv => lhs; unfold grow
  rw [if_neg (by rw [h]; exact Bool.noConfusion)]
  dsimp only
  rw [if_pos (List.contains_iff_mem.mpr h2)]
theorem grow_endless (h : can_ p nd.state = true) (h2 : done p nd.state ∉ l) (h3 : ((nd.state :: nd.from_).any fun x => above (done p nd.state) x) = true) : grow ps nd (p :: r) w l = none := by
  conv => lhs; unfold grow
  rw [if_neg (by rw [h]; exact Bool.noConfusion)]
  dsimp only
  rw [if_neg (fun q => h2 (List.contains_iff_mem.mp q)), if_pos h3]
theorem grow_new (h : can_ p nd.state = true) (h2 : done p nd.state ∉ l) (h3 : ((nd.state :: nd.from_).any fun x => above (done p nd.state) x) = false) :
    grow ps nd (p :: r) w l = grow ps nd r (w ++ [⟨done p nd.state, nd.state :: nd.from_⟩]) (l ++ [done p nd.state]) := by
  conv => lhs; unfold grow
  rw [if_neg (by rw [h]; exact Bool.noConfusion)]
  dsimp only
  rw [if_neg (fun q => h2 (List.contains_iff_mem.mp q)), if_neg (by rw [h3]; exact Bool.false_ne_true)]
variable {f : Nat} {v : List Node} {m : List State}
theorem explore_end : explore ps (f + 1) [] l = .all l := by unfold explore; rfl
theorem explore_endless (h : grow ps nd ps w l = none) : explore ps (f + 1) (nd :: w) l = .endless := by
  unfold explore; rw [h]
theorem explore_much (h : grow ps nd ps w l = some (v, m)) (h2 : 300 < m.length) : explore ps (f + 1) (nd :: w) l = .much := by
  unfold explore; rw [h]; dsimp only; rw [if_pos (show FOUND < m.length from h2)]
theorem explore_on (h : grow ps nd ps w l = some (v, m)) (h2 : m.length ≤ 300) : explore ps (f + 1) (nd :: w) l = explore ps f v m := by
  conv => lhs; unfold explore
  rw [h]; dsimp only; rw [if_neg (show ¬ FOUND < m.length from Nat.not_lt.mpr h2)]
end
/-- the number that is answered of it -/
def codeA : All → Int
  | .all l => l.length
  | .endless => -6
  | .much => -75
/-! ### dots -/
theorem dot_eq : ∀ (w : List Int) (r : List Nat), dot w r = ((r.zip w).map fun x => ((x.1 : Nat) : Int) * x.2).sum
  | [], [] => rfl
  | [], _ :: _ => rfl
  | _ :: _, [] => rfl
  | x :: w, y :: r => by
    show x * (y : Int) + dot w r = _
    rw [dot_eq w r, List.zip_cons_cons, List.map_cons, List.sum_cons, Int.mul_comm]
end SM
end
section
set_option linter.all false
namespace SP
open PySem PySem.SetTable

/-! ### the leaps come to every slot -/
def orb (N : Nat) : Nat → Nat → Nat
  | 0, i => i
  | m + 1, i => orb N m ((i * 5 + 1) % N)
theorem orb_add (N : Nat) : ∀ (a b i : Nat), orb N (a + b) i = orb N b (orb N a i)
  | 0, b, i => by rw [Nat.zero_add]; rfl
  | a + 1, b, i => by
    rw [Nat.succ_add]
    show orb N (a + b) ((i * 5 + 1) % N) = orb N b (orb N a ((i * 5 + 1) % N))
    rw [orb_add N a b]
/-- the slots that are come to, as bits -/
def seen (N : Nat) : Nat → Nat → Nat → Nat
  | 0, _, acc => acc
  | m + 1, i, acc => seen N m ((i * 5 + 1) % N) (acc ||| 1 <<< i)
theorem seen_bit (N : Nat) : ∀ (m i acc j : Nat), (seen N m i acc).testBit j = true → acc.testBit j = true ∨ ∃ a, a < m ∧ orb N a i = j
  | 0, i, acc, j, h => .inl h
  | m + 1, i, acc, j, h => by
    rcases seen_bit N m _ _ j h with h | ⟨a, ha, e⟩
    · rw [Nat.testBit_or, Bool.or_eq_true] at h
      rcases h with h | h
      · exact .inl h
      · refine .inr ⟨0, Nat.succ_pos _, ?_⟩
        rw [Nat.testBit_shiftLeft, Bool.and_eq_true] at h
        have h1 : i ≤ j := by simpa using h.1
        have h2 : j - i = 0 := by
          have := h.2
          cases q : j - i with
          | zero => rfl
          | succ m =>
            rw [q, Nat.testBit_succ] at this
            simp at this
        show i = j
        omega
    · exact .inr ⟨a + 1, Nat.succ_lt_succ ha, e⟩
def Whole (N : Nat) : Prop := seen N N 0 0 = 2 ^ N - 1 ∧ orb N N 0 = 0
theorem whole_8 : Whole 8 := ⟨by decide +kernel, by decide +kernel⟩
theorem whole_32 : Whole 32 := ⟨by decide +kernel, by decide +kernel⟩
theorem whole_128 : Whole 128 := ⟨by decide +kernel, by decide +kernel⟩
theorem whole_512 : Whole 512 := ⟨by decide +kernel, by decide +kernel⟩
theorem whole_2048 : Whole 2048 := ⟨by decide +kernel, by decide +kernel⟩
theorem Whole.zero {N : Nat} (h : Whole N) {j : Nat} (hj : j < N) : ∃ a, a < N ∧ orb N a 0 = j := by
  have : (seen N N 0 0).testBit j = true := by rw [h.1, Nat.testBit_two_pow_sub_one]; simpa using hj
  rcases seen_bit N N 0 0 j this with h | h
  · simp at h
  · exact h
theorem Whole.all {N : Nat} (h : Whole N) {i j : Nat} (hi : i < N) (hj : j < N) : ∃ a, a < N ∧ orb N a i = j := by
  obtain ⟨a, ha, ea⟩ := h.zero hi
  obtain ⟨b, hb, eb⟩ := h.zero hj
  by_cases c : a ≤ b
  · refine ⟨b - a, by omega, ?_⟩
    rw [← ea, ← orb_add, show a + (b - a) = b by omega]; exact eb
  · refine ⟨N + b - a, by omega, ?_⟩
    rw [← ea, ← orb_add, show a + (N + b - a) = N + b by omega, orb_add, h.2]; exact eb

/-- so many leaps -/
def leaps (mask : Nat) : Nat → Nat × Nat → Nat × Nat
  | 0, x => x
  | m + 1, x => leaps mask m (leap mask x.1 x.2)
theorem leaps_add (mask : Nat) : ∀ (a b : Nat) (x : Nat × Nat), leaps mask (a + b) x = leaps mask b (leaps mask a x)
  | 0, b, x => by rw [Nat.zero_add]; rfl
  | a + 1, b, x => by
    rw [Nat.succ_add]
    show leaps mask (a + b) _ = leaps mask b (leaps mask a _)
    rw [leaps_add mask a b]
theorem leaps_snd (mask : Nat) : ∀ (m : Nat) (x : Nat × Nat), (leaps mask m x).2 = x.2 / 32 ^ m
  | 0, x => by simp [leaps]
  | m + 1, x => by
    show (leaps mask m _).2 = _
    rw [leaps_snd mask m]
    show x.2 / 32 / 32 ^ m = _
    rw [Nat.div_div_eq_div_mul, Nat.pow_succ, Nat.mul_comm 32]
theorem leaps_fst (mask : Nat) : ∀ (m : Nat) (x : Nat × Nat), x.1 < mask + 1 → (leaps mask m x).1 < mask + 1
  | 0, x, h => h
  | m + 1, x, h => leaps_fst mask m _ (Nat.mod_lt _ (Nat.succ_pos _))
theorem leaps_orb (mask : Nat) : ∀ (m i : Nat), leaps mask m (i, 0) = (orb (mask + 1) m i, 0)
  | 0, i => rfl
  | m + 1, i => by
    show leaps mask m (leap mask i 0) = _
    have : leap mask i 0 = ((i * 5 + 1) % (mask + 1), 0) := by simp [leap]
    rw [this, leaps_orb mask m]; rfl
/-- every slot is come to -/
theorem come_to {mask : Nat} (h : Whole (mask + 1)) {i b e : Nat} (hi : i < mask + 1) (hb : b < 2 ^ 64) (he : e < mask + 1) : ∃ m, m < mask + 14 ∧ (leaps mask m (i, b)).1 = e := by
  have h13 : (leaps mask 13 (i, b)).2 = 0 := by
    rw [leaps_snd]
    exact Nat.div_eq_of_lt (Nat.lt_of_lt_of_le hb (by decide))
  have hl := leaps_fst mask 13 (i, b) hi
  obtain ⟨a, ha, ea⟩ := h.all hl he
  refine ⟨13 + a, by omega, ?_⟩
  rw [leaps_add]
  have e13 : leaps mask 13 (i, b) = ((leaps mask 13 (i, b)).1, 0) := by rw [← h13]
  rw [e13, leaps_orb]; exact ea
theorem bits_lt (h : Int) : bits h < 2 ^ 64 := by
  unfold bits
  have h1 : 0 ≤ h % (2 ^ 64 : Int) := Int.emod_nonneg _ (by decide)
  have h2 : h % (2 ^ 64 : Int) < (2 ^ 64 : Int) := Int.emod_lt_of_pos _ (by decide)
  have : ((2 ^ 64 : Nat) : Int) = (2 ^ 64 : Int) := by norm_cast
  omega

/-! ### the probe -/
def adv (t : SetTable) : Nat → Probe → Probe
  | 0, p => p
  | d + 1, p => adv t d (t.advance p)
theorem adv_add (t : SetTable) : ∀ (a b : Nat) (p : Probe), adv t (a + b) p = adv t b (adv t a p)
  | 0, b, p => by rw [Nat.zero_add]; rfl
  | a + 1, b, p => by
    rw [Nat.succ_add]
    show adv t (a + b) _ = adv t b (adv t a _)
    rw [adv_add t a b]
def atLeap (mask : Nat) (x : Nat × Nat) : Probe := { j := x.1, more := runEnd mask x.1 - x.1, i := x.1, perturb := x.2, dummy := none }
theorem more_le (mask i : Nat) : runEnd mask i - i ≤ 9 := by unfold runEnd; split <;> omega
theorem adv_run (t : SetTable) : ∀ (m : Nat) (p : Probe), p.more = m → adv t (m + 1) p = { p with j := (leap t.mask p.i p.perturb).1, more := runEnd t.mask (leap t.mask p.i p.perturb).1 - (leap t.mask p.i p.perturb).1, i := (leap t.mask p.i p.perturb).1, perturb := (leap t.mask p.i p.perturb).2 }
  | 0, p, h => by
    show t.advance p = _
    unfold advance
    rw [if_neg (by omega)]
  | m + 1, p, h => by
    show adv t (m + 1) (t.advance p) = _
    have e : t.advance p = { p with j := p.j + 1, more := p.more - 1 } := by
      unfold advance
      rw [if_pos (by omega)]
    rw [e, adv_run t m { p with j := p.j + 1, more := p.more - 1 } (by show p.more - 1 = m; omega)]
theorem adv_leap (t : SetTable) (x : Nat × Nat) : ∃ c, c ≤ 10 ∧ adv t c (atLeap t.mask x) = atLeap t.mask (leap t.mask x.1 x.2) :=
  ⟨runEnd t.mask x.1 - x.1 + 1, by have := more_le t.mask x.1; omega, adv_run t _ (atLeap t.mask x) rfl⟩
theorem adv_leaps (t : SetTable) : ∀ (m : Nat) (x : Nat × Nat), ∃ c, c ≤ 10 * m ∧ adv t c (atLeap t.mask x) = atLeap t.mask (leaps t.mask m x)
  | 0, x => ⟨0, Nat.le_refl _, rfl⟩
  | m + 1, x => by
    obtain ⟨c, hc, e⟩ := adv_leap t x
    obtain ⟨c', hc', e'⟩ := adv_leaps t m (leap t.mask x.1 x.2)
    exact ⟨c + c', by omega, by rw [adv_add, e, e']; rfl⟩
/-- d steps on there is an empty slot -/
def Ends (t : SetTable) (p : Probe) (d : Nat) : Prop := t.slot (adv t d p).j = .empty
theorem advance_dummy (t : SetTable) (p : Probe) : (t.advance p).dummy = p.dummy := by unfold advance; split <;> rfl
theorem slot_cases {t : SetTable} (hd : t.dummies = #[]) (j : Nat) : t.slot j = .empty ∨ ∃ i, t.slot j = .live i ∧ t.place[i]? = some j := by
  unfold slot
  dsimp only
  by_cases c : (t.place[below t.place j]? == some j) = true
  · rw [if_pos c]; exact .inr ⟨_, rfl, by simpa using c⟩
  · rw [if_neg c, hd]
    refine .inl ?_
    rw [if_neg]
    unfold has
    simp
theorem go_ends {t : SetTable} (hd : t.dummies = #[]) (hashAt : Nat → Int) (h : Int) : ∀ (d fuel : Nat) (p : Probe), Ends t p d → d < fuel → p.dummy = none →
    (∃ j, probe.go t hashAt h fuel p = some (.empty j none) ∧ t.slot j = .empty) ∨ ∃ j i next d', probe.go t hashAt h fuel p = some (.candidate j i next) ∧ t.slot j = .live i ∧ t.place[i]? = some j ∧ hashAt i = h ∧ Ends t next d' ∧ d' < d ∧ next.dummy = none
  | d, 0, p, _, hf, _ => absurd hf (Nat.not_lt_zero _)
  | d, fuel + 1, p, he, hf, hn => by
    rcases slot_cases hd p.j with e | ⟨i, e, hi⟩
    · refine .inl ⟨p.j, ?_, e⟩
      unfold probe.go
      rw [e]
      dsimp only
      rw [hn]
    · cases d with
      | zero =>
        have : t.slot p.j = .empty := he
        rw [this] at e; cases e
      | succ d =>
        have he' : Ends t (t.advance p) d := he
        by_cases c : (hashAt i == h) = true
        · refine .inr ⟨p.j, i, t.advance p, d, ?_, e, hi, by simpa using c, he', Nat.lt_succ_self d, by rw [advance_dummy]; exact hn⟩
          unfold probe.go
          rw [e]
          dsimp only
          rw [if_pos c]
        · have ih := go_ends hd hashAt h d fuel (t.advance p) he' (by omega) (by rw [advance_dummy]; exact hn)
          have eq : probe.go t hashAt h (fuel + 1) p = probe.go t hashAt h fuel (t.advance p) := by
            conv => lhs; unfold probe.go
            rw [e]
            dsimp only
            rw [if_neg c]
          rw [eq]
          rcases ih with ih | ⟨j, i', next, d', a1, a2, a3, a4, a5, a6, a7⟩
          · exact .inl ih
          · exact .inr ⟨j, i', next, d', a1, a2, a3, a4, a5, by omega, a7⟩
theorem nodup_le {α : Type} [DecidableEq α] : ∀ {l m : List α}, l.Nodup → (∀ a ∈ l, a ∈ m) → l.length ≤ m.length
  | [], _, _, _ => Nat.zero_le _
  | a :: l, m, h, s => by
    obtain ⟨h1, h2⟩ := List.nodup_cons.mp h
    have ha := s a (by simp)
    have := nodup_le (l := l) (m := m.erase a) h2 fun b hb => (List.mem_erase_of_ne (fun e => h1 (by rw [← e]; exact hb))).mpr (s b (by simp [hb]))
    rw [List.length_erase_of_mem ha] at this
    have := List.length_pos_of_mem ha
    simp only [List.length_cons]; omega
theorem empty_there {t : SetTable} (hd : t.dummies = #[]) (hs : t.place.size ≤ t.mask) : ∃ e, e < t.mask + 1 ∧ t.slot e = .empty := by
  refine Classical.byContradiction fun c => ?_
  have all : ∀ j ∈ List.range (t.mask + 1), j ∈ t.place.toList := fun j hj => by
    rcases slot_cases hd j with e | ⟨i, e, hi⟩
    · exact absurd ⟨j, List.mem_range.mp hj, e⟩ c
    · exact Array.mem_toList_iff.mpr (Array.mem_of_getElem? hi)
  have := nodup_le List.nodup_range all
  rw [List.length_range, Array.length_toList] at this
  omega
/-- from its start the probe comes to an empty slot, and its own count of turns is enough -/
theorem start_ends {t : SetTable} (hw : Whole (t.mask + 1)) (hd : t.dummies = #[]) (hs : t.place.size ≤ t.mask) (h : Int) : ∃ d, d < 10 * turns t.mask ∧ Ends t (t.probeStart h) d := by
  obtain ⟨e, he, es⟩ := empty_there hd hs
  obtain ⟨m, hm, em⟩ := come_to hw (i := bits h % (t.mask + 1)) (b := bits h) (Nat.mod_lt _ (Nat.succ_pos _)) (bits_lt h) he
  obtain ⟨c, hc, ec⟩ := adv_leaps t m (bits h % (t.mask + 1), bits h)
  refine ⟨c, by unfold turns; omega, ?_⟩
  have : t.probeStart h = atLeap t.mask (bits h % (t.mask + 1), bits h) := rfl
  unfold Ends
  rw [this, ec]
  show t.slot (leaps t.mask m _).1 = .empty
  rw [em]; exact es

/-! ### laying a table anew -/
theorem free_ends {mask : Nat} {owner : Array (Option Nat)} : ∀ (m fuel i b : Nat), (owner.getD (leaps mask m (i, b)).1 (some 0)).isNone = true → m < fuel →
    ∃ j, layClean.free mask owner fuel i b = some j ∧ (owner.getD j (some 0)).isNone = true
  | m, 0, i, b, _, hf => absurd hf (Nat.not_lt_zero _)
  | m, fuel + 1, i, b, h, hf => by
    unfold layClean.free
    cases q : (List.range (runEnd mask i + 1 - i)).find? fun k => (owner.getD (i + k) (some 0)).isNone with
    | some k => exact ⟨i + k, rfl, by simpa using List.find?_some q⟩
    | none =>
      dsimp only
      cases m with
      | zero =>
        have h0 : (owner.getD i (some 0)).isNone = true := h
        have := List.find?_eq_none.mp q 0 (List.mem_range.mpr (by unfold runEnd; split <;> omega))
        rw [Nat.add_zero, h0] at this
        exact absurd rfl this
      | succ m => exact free_ends m fuel _ _ h (by omega)
def lives (l : List (Option Nat)) : List Nat := l.filterMap id
theorem lives_full : ∀ {l : List (Option Nat)}, (∀ x ∈ l, x ≠ none) → (lives l).length = l.length
  | [], _ => rfl
  | x :: l, h => by
    cases x with
    | none => exact absurd rfl (h none (by simp))
    | some k =>
      show (k :: lives l).length = _
      rw [List.length_cons, List.length_cons, lives_full fun y hy => h y (by simp [hy])]
theorem lives_set : ∀ {l : List (Option Nat)} {j k : Nat}, l[j]? = some none → (lives (l.set j (some k))).Perm (k :: lives l)
  | [], j, k, h => by simp at h
  | x :: l, 0, k, h => by
    have : x = none := by simpa using h
    subst this
    exact List.Perm.refl _
  | x :: l, j + 1, k, h => by
    have ih := lives_set (l := l) (j := j) (k := k) (by simpa using h)
    show (lives (x :: l.set j (some k))).Perm _
    cases x with
    | none => exact ih
    | some y =>
      show (y :: lives (l.set j (some k))).Perm (k :: y :: lives l)
      exact (List.Perm.cons y ih).trans (List.Perm.swap _ _ _)
theorem range_cons {n : Nat} {l : List Nat} (h : l.Perm (List.range n)) : (n :: l).Perm (List.range (n + 1)) := by
  rw [List.range_succ]
  exact (List.Perm.cons n h).trans (List.perm_append_comm (l₁ := [n]) (l₂ := List.range n))
/-- the table of owners, behind so many hashes -/
structure Owners (mask : Nat) (owner : Array (Option Nat)) (k : Nat) : Prop where
  size : owner.size = mask + 1
  perm : (lives owner.toList).Perm (List.range k)
theorem Owners.next {mask : Nat} {owner : Array (Option Nat)} {k : Nat} (hw : Whole (mask + 1)) (o : Owners mask owner k) (hk : k ≤ mask) (h : Int) :
    ∃ j, layClean.free mask owner (turns mask) (bits h % (mask + 1)) (bits h) = some j ∧ Owners mask (owner.setIfInBounds j (some k)) (k + 1) := by
  have ex : ∃ e, e < mask + 1 ∧ (owner.getD e (some 0)).isNone = true := by
    refine Classical.byContradiction fun c => ?_
    have : ∀ x ∈ owner.toList, x ≠ none := fun x hx e => by
      obtain ⟨i, hi⟩ := List.mem_iff_getElem?.mp hx
      subst e
      have hl := (List.getElem?_eq_some_iff.mp hi).1
      rw [Array.length_toList, o.size] at hl
      refine c ⟨i, hl, ?_⟩
      rw [Array.getElem?_toList] at hi
      rw [Array.getD_eq_getD_getElem?, hi]; rfl
    have := lives_full this
    rw [o.perm.length_eq, List.length_range, Array.length_toList, o.size] at this
    omega
  obtain ⟨e, he, hn⟩ := ex
  obtain ⟨m, hm, em⟩ := come_to hw (i := bits h % (mask + 1)) (b := bits h) (Nat.mod_lt _ (Nat.succ_pos _)) (bits_lt h) he
  obtain ⟨j, ej, hj⟩ := free_ends (mask := mask) (owner := owner) m (turns mask) _ _ (by rw [em]; exact hn) (by unfold turns; omega)
  refine ⟨j, ej, by rw [Array.size_setIfInBounds]; exact o.size, ?_⟩
  have hjn : owner.toList[j]? = some none := by
    rw [Array.getD_eq_getD_getElem?] at hj
    rw [Array.getElem?_toList]
    cases q : owner[j]? with
    | none => rw [q] at hj; simp at hj
    | some x =>
      rw [q] at hj
      cases x with
      | none => rfl
      | some _ => simp at hj
  rw [Array.toList_setIfInBounds]
  exact (lives_set hjn).trans (range_cons o.perm)
theorem owners_start (mask : Nat) : Owners mask (Array.replicate (mask + 1) none) 0 :=
  ⟨by simp, by
    have : lives (Array.replicate (mask + 1) (none : Option Nat)).toList = [] := by
      rw [Array.toList_replicate]
      unfold lives
      rw [List.filterMap_eq_nil_iff]
      intro x hx
      rw [List.eq_of_mem_replicate hx]; rfl
    rw [this]; exact List.Perm.refl _⟩
theorem layClean_fold {mask : Nat} (hw : Whole (mask + 1)) : ∀ (hs : List Int) (owner : Array (Option Nat)) (k : Nat), Owners mask owner k → k + hs.length ≤ mask + 1 →
    ∃ owner', hs.foldl (fun acc h => do
      let (owner, k) ← acc
      let j ← layClean.free mask owner (turns mask) (bits h % (mask + 1)) (bits h)
      pure (owner.setIfInBounds j (some k), k + 1)) (some (owner, k)) = some (owner', k + hs.length) ∧ Owners mask owner' (k + hs.length)
  | [], owner, k, o, _ => ⟨owner, rfl, o⟩
  | h :: hs, owner, k, o, hl => by
    simp only [List.length_cons] at hl
    obtain ⟨j, ej, o'⟩ := o.next hw (by omega) h
    obtain ⟨ow, e, o2⟩ := layClean_fold hw hs _ _ o' (by omega)
    refine ⟨ow, ?_, ?_⟩
    · rw [List.foldl_cons]
      have : (do
        let (owner, k) ← some (owner, k)
        let j ← layClean.free mask owner (turns mask) (bits h % (mask + 1)) (bits h)
        pure (owner.setIfInBounds j (some k), k + 1) : Option (Array (Option Nat) × Nat)) = some (owner.setIfInBounds j (some k), k + 1) := by
        show (layClean.free mask owner (turns mask) (bits h % (mask + 1)) (bits h)).bind _ = _
        rw [ej]; rfl
      rw [this, e, List.length_cons]
      congr 2; omega
    · rw [List.length_cons, show k + (hs.length + 1) = k + 1 + hs.length by omega]; exact o2
theorem layClean_some {mask : Nat} (hw : Whole (mask + 1)) (hs : Array Int) (hl : hs.size ≤ mask + 1) : ∃ owner, layClean mask hs = some owner ∧ Owners mask owner hs.size := by
  obtain ⟨ow, e, o⟩ := layClean_fold hw hs.toList _ 0 (owners_start mask) (by rw [Array.length_toList]; omega)
  refine ⟨ow, ?_, by rw [Nat.zero_add, Array.length_toList] at o; exact o⟩
  unfold layClean
  rw [← Array.foldl_toList]
  refine (congrArg (Option.map (·.1)) e).trans rfl
theorem lives_range {owner : Array (Option Nat)} {N : Nat} (h : owner.size = N) : ((List.range N).filterMap fun j => (owner.getD j none).map (j, ·)).map (·.2) = lives owner.toList := by
  subst h
  unfold lives
  rw [List.map_filterMap]
  have : owner.toList = (List.range owner.size).map fun j => owner.getD j none := by
    apply List.ext_getElem
    · simp
    · intro i h1 h2
      have h3 : i < owner.size := by simpa using h1
      simp [h3]
  rw [this, List.filterMap_map]
  congr 1
  funext j
  simp only [List.length_map, List.length_range, Function.comp]
  cases owner.getD j none <;> rfl
theorem laid_some {mask finger moves : Nat} {led plain : Bool} (hw : Whole (mask + 1)) (hs : Array Int) (hl : hs.size ≤ mask + 1) :
    ∃ t order, laid mask finger moves led plain hs = some (t, order) ∧ t.mask = mask ∧ t.dummies = #[] ∧ t.led = led ∧ t.plain = plain ∧ t.place.size = hs.size ∧ order.toList.Perm (List.range hs.size) := by
  obtain ⟨ow, e, o⟩ := layClean_some hw hs hl
  have lr := lives_range (owner := ow) o.size
  refine ⟨{ mask, place := (((List.range (mask + 1)).filterMap fun j => (ow.getD j none).map (j, ·)).map (·.1)).toArray, dummies := #[], finger, led, moves, plain }, (((List.range (mask + 1)).filterMap fun j => (ow.getD j none).map (j, ·)).map (·.2)).toArray, ?_, rfl, rfl, rfl, rfl, ?_, ?_⟩
  · unfold laid
    rw [e]
    rfl
  · rw [List.size_toArray, List.length_map]
    have := congrArg List.length lr
    rw [List.length_map] at this
    rw [this, o.perm.length_eq, List.length_range]
  · rw [List.toList_toArray, lr]; exact o.perm
end SP
end
section
set_option linter.all false
namespace SP
open PySem PySem.SetTable

/-! ### places that rise -/
def Rise (xs : Array Nat) : Prop := ∀ i j x y : Nat, i < j → xs[i]? = some x → xs[j]? = some y → x < y
theorem below_go {xs : Array Nat} (hr : Rise xs) (j : Nat) : ∀ (fuel lo hi : Nat), hi - lo ≤ fuel → lo ≤ hi → hi ≤ xs.size → (∀ i x, i < lo → xs[i]? = some x → x < j) → (∀ i x, hi ≤ i → xs[i]? = some x → j ≤ x) →
    below.go xs j fuel lo hi ≤ xs.size ∧ (∀ i x, i < below.go xs j fuel lo hi → xs[i]? = some x → x < j) ∧ ∀ i x, below.go xs j fuel lo hi ≤ i → xs[i]? = some x → j ≤ x
  | 0, lo, hi, hf, hl, hs, h1, h2 => by
    have : lo = hi := by omega
    subst this
    exact ⟨hs, h1, h2⟩
  | fuel + 1, lo, hi, hf, hl, hs, h1, h2 => by
    unfold below.go
    by_cases c : lo < hi
    · rw [if_pos c]
      dsimp only
      have hm : (lo + hi) / 2 < xs.size := by omega
      have em : xs[(lo + hi) / 2]? = some xs[(lo + hi) / 2] := getElem?_pos xs _ hm
      have eg : xs.getD ((lo + hi) / 2) j = xs[(lo + hi) / 2] := by rw [Array.getD_eq_getD_getElem?, em]; rfl
      rw [eg]
      by_cases d : xs[(lo + hi) / 2] < j
      · rw [if_pos d]
        refine below_go hr j fuel _ hi (by omega) (by omega) hs (fun i x hi' ex => ?_) h2
        by_cases e : i = (lo + hi) / 2
        · subst e; rw [em] at ex; cases ex; exact d
        · exact Nat.lt_trans (hr i _ x _ (by omega) ex em) d
      · rw [if_neg d]
        refine below_go hr j fuel lo _ (by omega) (by omega) (by omega) h1 (fun i x hi' ex => ?_)
        by_cases e : i = (lo + hi) / 2
        · subst e; rw [em] at ex; cases ex; omega
        · have := hr _ i _ x (by omega) em ex
          omega
    · rw [if_neg c]
      have : lo = hi := by omega
      subst this
      exact ⟨hs, h1, h2⟩
theorem below_spec {xs : Array Nat} (hr : Rise xs) (j : Nat) : below xs j ≤ xs.size ∧ (∀ i x, i < below xs j → xs[i]? = some x → x < j) ∧ ∀ i x, below xs j ≤ i → xs[i]? = some x → j ≤ x :=
  below_go hr j xs.size 0 xs.size (by omega) (Nat.zero_le _) (Nat.le_refl _) (fun i x h => absurd h (Nat.not_lt_zero i)) fun i x h e => absurd (Array.getElem?_eq_some_iff.mp e).1 (by omega)
/-- below the first that may stand there: the next -/
theorem below_at {xs : Array Nat} (hr : Rise xs) {i j x : Nat} (hx : xs[i]? = some x) (hj : j ≤ x) (hb : ∀ k y, k < i → xs[k]? = some y → y < j) : below xs j = i := by
  obtain ⟨a, b, c⟩ := below_spec hr j
  have hi := (Array.getElem?_eq_some_iff.mp hx).1
  rcases Nat.lt_trichotomy (below xs j) i with h | h | h
  · have hl : below xs j < xs.size := by omega
    have e : xs[below xs j]? = some xs[below xs j] := getElem?_pos xs _ hl
    have h1 := c _ _ (Nat.le_refl _) e
    have h2 := hb _ _ h e
    omega
  · exact h
  · have := b i x h hx
    omega
theorem below_end {xs : Array Nat} (hr : Rise xs) {j : Nat} (hb : ∀ k y : Nat, xs[k]? = some y → y < j) : below xs j = xs.size := by
  obtain ⟨a, b, c⟩ := below_spec hr j
  rcases Nat.lt_or_ge (below xs j) xs.size with h | h
  · have e : xs[below xs j]? = some xs[below xs j] := getElem?_pos xs _ h
    have h1 := c _ _ (Nat.le_refl _) e
    have h2 := hb _ _ e
    omega
  · omega
theorem get_insertAt {α : Type} {xs : Array α} {p : Nat} {x : α} (hp : p ≤ xs.size) (i : Nat) : (insertAt xs p x)[i]? = if i < p then xs[i]? else if i = p then some x else xs[i - 1]? := by
  unfold insertAt
  have s1 : ((xs.extract 0 p).push x).size = p + 1 := by rw [Array.size_push, Array.size_extract]; omega
  by_cases h : i < p + 1
  · rw [Array.getElem?_append_left (by rw [s1]; exact h), Array.getElem?_push]
    have s2 : (xs.extract 0 p).size = p := by rw [Array.size_extract]; omega
    rw [s2]
    by_cases e : i = p
    · rw [if_pos e, if_neg (by omega), if_pos e]
    · rw [if_neg e, if_pos (by omega), Array.getElem?_extract]
      rw [if_pos (by omega), Nat.zero_add]
  · rw [Array.getElem?_append_right (by rw [s1]; omega), s1, if_neg (by omega), if_neg (by omega), Array.getElem?_extract]
    by_cases q : i - (p + 1) < min xs.size xs.size - p
    · rw [if_pos q]; congr 1; omega
    · rw [if_neg q]
      symm
      rw [getElem?_neg]
      omega
theorem rise_insert {xs : Array Nat} (hr : Rise xs) {j : Nat} (hj : xs[below xs j]? ≠ some j) : Rise (insertAt xs (below xs j) j) := by
  obtain ⟨a, b, c⟩ := below_spec hr j
  have up : ∀ i x, below xs j ≤ i → xs[i]? = some x → j < x := fun i x hi ex => by
    rcases Nat.lt_or_ge (below xs j) i with h | h
    · have hl : below xs j < xs.size := by have := (Array.getElem?_eq_some_iff.mp ex).1; omega
      have e : xs[below xs j]? = some xs[below xs j] := getElem?_pos xs _ hl
      have h1 := c _ _ (Nat.le_refl _) e
      have h2 := hr _ i _ x h e ex
      omega
    · have : i = below xs j := by omega
      subst this
      have h1 := c _ _ (Nat.le_refl _) ex
      rcases Nat.lt_or_ge j x with h | h
      · exact h
      · exact absurd ex (by rw [show x = j by omega]; exact hj)
  intro i k x y hik hx hy
  rw [get_insertAt a] at hx hy
  by_cases i1 : i < below xs j
  · rw [if_pos i1] at hx
    by_cases k1 : k < below xs j
    · rw [if_pos k1] at hy; exact hr i k x y hik hx hy
    · rw [if_neg k1] at hy
      have h1 := b i x i1 hx
      by_cases k2 : k = below xs j
      · rw [if_pos k2] at hy; cases hy; exact h1
      · rw [if_neg k2] at hy
        have := up (k - 1) y (by omega) hy
        omega
  · rw [if_neg i1] at hx
    rw [if_neg (by omega), if_neg (by omega)] at hy
    by_cases i2 : i = below xs j
    · rw [if_pos i2] at hx
      cases hx
      exact up (k - 1) y (by omega) hy
    · rw [if_neg i2] at hx
      exact hr (i - 1) (k - 1) x y (by omega) hx hy
theorem rise_range (owner : Array (Option Nat)) (N : Nat) : Rise (((List.range N).filterMap fun j => (owner.getD j none).map (j, ·)).map (·.1)).toArray := by
  have pw : (((List.range N).filterMap fun j => (owner.getD j none).map (j, ·)).map (·.1)).Pairwise (· < ·) := by
    rw [List.pairwise_map, List.pairwise_filterMap]
    refine List.pairwise_lt_range.imp fun {a b} hab x hx y hy => ?_
    obtain ⟨_, _, rfl⟩ := Option.map_eq_some_iff.mp hx
    obtain ⟨_, _, rfl⟩ := Option.map_eq_some_iff.mp hy
    exact hab
  intro i j x y hij hx hy
  rw [List.getElem?_toArray] at hx hy
  obtain ⟨h1, e1⟩ := List.getElem?_eq_some_iff.mp hx
  obtain ⟨h2, e2⟩ := List.getElem?_eq_some_iff.mp hy
  rw [← e1, ← e2]
  exact List.pairwise_iff_getElem.mp pw i j h1 h2 hij

/-! ### a table that is in order -/
def MaskOk (m : Nat) : Prop := m = 7 ∨ m = 31 ∨ m = 127 ∨ m = 511 ∨ m = 2047
theorem MaskOk.whole {m : Nat} (h : MaskOk m) : Whole (m + 1) := by
  rcases h with rfl | rfl | rfl | rfl | rfl
  · exact whole_8
  · exact whole_32
  · exact whole_128
  · exact whole_512
  · exact whole_2048
structure TabOk (led : Bool) (t : SetTable) (n : Nat) : Prop where
  mask : MaskOk t.mask
  dum : t.dummies = #[]
  size : t.place.size = n
  rise : Rise t.place
  led : t.led = led
  plain : t.plain = true
  room : n * 5 < t.mask * 3
theorem MaskOk.odd {m : Nat} (h : MaskOk m) : m % 2 = 1 := by
  rcases h with rfl | rfl | rfl | rfl | rfl <;> decide
theorem TabOk.fill {led : Bool} {t : SetTable} {n : Nat} (h : TabOk led t n) : t.fill = n := by unfold SetTable.fill; rw [h.dum, h.size]; simp
theorem TabOk.fits {led : Bool} {t : SetTable} {n : Nat} (h : TabOk led t n) : t.fits n = true := by
  unfold SetTable.fits
  have := h.room
  rw [h.fill, h.size]
  simp
  omega
theorem TabOk.way {led : Bool} {t : SetTable} {n : Nat} (h : TabOk led t n) : t.gaveWay = false := by
  unfold SetTable.gaveWay
  rw [h.mask.odd]; rfl
theorem tabOk_fresh (led : Bool) : TabOk led (SetTable.fresh 0 0 led) 0 := ⟨.inl rfl, rfl, rfl, fun i j x y _ h => by simp [SetTable.fresh] at h, rfl, rfl, by show 0 * 5 < 7 * 3; decide⟩
theorem mask_le {m : Nat} (h : MaskOk m) : m ≤ 2047 := by rcases h with rfl | rfl | rfl | rfl | rfl <;> omega
theorem TabOk.starts {led : Bool} {t : SetTable} {n : Nat} (h : TabOk led t n) (hs : Int) : ∃ d, d < 10 * turns t.mask ∧ Ends t (t.probeStart hs) d :=
  start_ends h.mask.whole h.dum (by rw [h.size]; have := h.room; omega) hs
/-- one more is put into an empty slot -/
structure PutOk (led : Bool) (t : SetTable) (n : Nat) : Prop where
  mask : MaskOk t.mask
  dum : t.dummies = #[]
  size : t.place.size = n
  rise : Rise t.place
  led : t.led = led
  plain : t.plain = true
  room : n ≤ t.mask
theorem size_insertAt {α : Type} (xs : Array α) (p : Nat) (x : α) : (insertAt xs p x).size = xs.size + 1 ∨ xs.size < p := by
  unfold insertAt
  rw [Array.size_append, Array.size_push, Array.size_extract, Array.size_extract]
  omega
theorem TabOk.put {led : Bool} {t : SetTable} {n : Nat} (h : TabOk led t n) {j : Nat} (hj : t.slot j = .empty) : PutOk led (t.put j).1 (n + 1) ∧ (t.put j).2 ≤ n := by
  have hne : t.place[below t.place j]? ≠ some j := by
    intro e
    unfold slot at hj
    dsimp only at hj
    rw [if_pos (by rw [e]; simp)] at hj
    cases hj
  have hb := (below_spec h.rise j).1
  have hd : SetTable.has t.dummies j = false := by rw [h.dum]; unfold SetTable.has; simp
  refine ⟨⟨h.mask, ?_, ?_, rise_insert h.rise hne, h.led, h.plain, ?_⟩, by show below t.place j ≤ n; rw [h.size] at hb; exact hb⟩
  · show (if SetTable.has t.dummies j = true then _ else t.dummies) = #[]
    rw [if_neg (by rw [hd]; exact Bool.false_ne_true)]; exact h.dum
  · show (insertAt t.place (below t.place j) j).size = n + 1
    rcases size_insertAt t.place (below t.place j) j with e | e
    · rw [e, h.size]
    · omega
  · have := h.room
    show n + 1 ≤ t.mask
    omega
theorem PutOk.fill {led : Bool} {t : SetTable} {n : Nat} (h : PutOk led t n) : t.fill = n := by unfold SetTable.fill; rw [h.dum, h.size]; simp
theorem PutOk.fits {led : Bool} {t : SetTable} {n : Nat} (h : PutOk led t n) : t.fits n = true := by
  unfold SetTable.fits
  have := h.room
  rw [h.fill, h.size]
  simp
  omega
theorem PutOk.notFull {led : Bool} {t : SetTable} {n : Nat} (h : PutOk led t n) (f : t.tooFull = false) : TabOk led t n :=
  ⟨h.mask, h.dum, h.size, h.rise, h.led, h.plain, by
    unfold SetTable.tooFull at f
    rw [h.fill] at f
    simpa using f⟩
/-- the table grown -/
theorem PutOk.grow {led : Bool} {t : SetTable} {n : Nat} (h : PutOk led t n) (f : t.tooFull = true) (h5 : n ≤ 780) (hashes : Array Int) (hh : hashes.size = n) : sizeAbove (grown n) ≤ 4096 ∧
    ∃ t' order, t.relaid hashes (grown n) = some (t', order) ∧ TabOk led t' n ∧ order.toList.Perm (List.range n) := by
  have full : t.mask * 3 ≤ n * 5 := by
    unfold SetTable.tooFull at f
    rw [h.fill] at f
    simpa using f
  have g : grown n = n * 4 := by unfold grown; rw [if_neg (by omega)]
  have room := h.room
  have key : MaskOk (sizeAbove (n * 4) - 1) ∧ n * 5 < (sizeAbove (n * 4) - 1) * 3 ∧ n ≤ (sizeAbove (n * 4) - 1) + 1 ∧ sizeAbove (n * 4) ≤ 4096 := by
    rcases h.mask with e | e | e | e | e <;> rw [e] at full room
    · have : sizeAbove (n * 4) = 32 := by
        have : n = 5 ∨ n = 6 ∨ n = 7 := by omega
        rcases this with rfl | rfl | rfl <;> decide
      rw [this]; exact ⟨.inr (.inl rfl), by omega, by omega, by omega⟩
    · have : sizeAbove (n * 4) = 128 := by
        have a : n ≥ 19 ∧ n ≤ 31 := by omega
        unfold sizeAbove
        simp only [sizeAbove.go]
        rw [if_pos (by omega), if_pos (by omega), if_pos (by omega), if_pos (by omega), if_neg (by omega)]
      rw [this]; exact ⟨.inr (.inr (.inl rfl)), by omega, by omega, by omega⟩
    · by_cases c : n * 4 < 512
      · have : sizeAbove (n * 4) = 512 := by
          unfold sizeAbove
          simp only [sizeAbove.go]
          rw [if_pos (by omega), if_pos (by omega), if_pos (by omega), if_pos (by omega), if_pos (by omega), if_pos (by omega), if_neg (by omega)]
        rw [this]; exact ⟨.inr (.inr (.inr (.inl rfl))), by omega, by omega, by omega⟩
      · omega
    · by_cases c : n * 4 < 2048
      · have : sizeAbove (n * 4) = 2048 := by
          unfold sizeAbove
          simp only [sizeAbove.go]
          rw [if_pos (by omega), if_pos (by omega), if_pos (by omega), if_pos (by omega), if_pos (by omega), if_pos (by omega), if_pos (by omega), if_pos (by omega), if_neg (by omega)]
        rw [this]; exact ⟨.inr (.inr (.inr (.inr rfl))), by omega, by omega, by omega⟩
      · omega
    · omega
  rw [g]
  refine ⟨key.2.2.2, ?_⟩
  obtain ⟨ow, e, o⟩ := layClean_some key.1.whole hashes (by rw [hh]; exact key.2.2.1)
  have lr := lives_range (owner := ow) o.size
  refine ⟨{ mask := sizeAbove (n * 4) - 1, place := (((List.range (sizeAbove (n * 4) - 1 + 1)).filterMap fun j => (ow.getD j none).map (j, ·)).map (·.1)).toArray, dummies := #[], finger := t.finger, led := t.led, moves := t.movedTo (sizeAbove (n * 4) - 1), plain := t.plain },
    (((List.range (sizeAbove (n * 4) - 1 + 1)).filterMap fun j => (ow.getD j none).map (j, ·)).map (·.2)).toArray, ?_, ⟨key.1, rfl, ?_, rise_range ow _, h.led, h.plain, key.2.1⟩, ?_⟩
  · unfold relaid laid
    rw [e]
    rfl
  · rw [List.size_toArray, List.length_map]
    have := congrArg List.length lr
    rw [List.length_map] at this
    rw [this, o.perm.length_eq, List.length_range, hh]
  · rw [List.toList_toArray, lr, ← hh]; exact o.perm

/-! ### the order in which a set is walked by the text -/
theorem pick_go {α : Type} (next : Nat → Nat) : ∀ (fuel k : Nat) (left : List α) (out : Array α), left.length = fuel → (pickOrder.go next fuel k left out).toList.Perm (out.toList ++ left)
  | 0, k, left, out, h => by
    have : left = [] := List.length_eq_zero_iff.mp h
    subst this
    rw [List.append_nil]; exact List.Perm.refl _
  | fuel + 1, k, left, out, h => by
    unfold pickOrder.go
    have hl : next k % left.length < left.length := Nat.mod_lt _ (by omega)
    rw [List.getElem?_eq_getElem hl]
    dsimp only
    refine (pick_go next fuel (k + 1) _ _ (by rw [List.length_eraseIdx_of_lt hl]; omega)).trans ?_
    rw [Array.toList_push, List.append_assoc]
    refine List.Perm.append_left _ ?_
    rw [List.eraseIdx_eq_take_drop_succ]
    have e := List.take_append_drop (next k % left.length) left
    rw [List.drop_eq_getElem_cons hl] at e
    conv => rhs; rw [← e]
    rw [List.singleton_append]
    exact List.perm_middle.symm
theorem pick_perm {α : Type} (next : Nat → Nat) (xs : Array α) : (pickOrder next xs).toList.Perm xs.toList := by
  have := pick_go next xs.size 0 xs.toList #[] (by simp)
  simpa [pickOrder] using this
end SP
end
section
set_option linter.all false
set_option maxRecDepth 100000
set_option maxHeartbeats 4000000
namespace ST
open PySem SP

abbrev Key (prog : Program) (w : World) (h : Heap) (k : List Int) (b : Addr) : Prop := IsTupleKey (intKind prog w) h k b
/-- a set of references lies at a -/
def SetAt (led : Bool) (h : Heap) (a : Addr) (bs : List Addr) : Prop :=
  ∃ o es ep t, h.get? a = some o ∧ o.ExactSet ∧ o.data = .set es ep t ∧ TabOk led t es.size ∧ es.toList.map (·.2) = bs.map Value.ref

section
variable {prog : Program} {w : World} {A : Around} {E : Value → Shared → Prop} {s : Shared}

theorem items_ints {ks : List Int} {vs : List Value} (h : ItemsAre (intKind prog w) ks vs) : ∀ v ∈ vs, ∃ i t, v = .int i t := by
  induction h with
  | nil => intro v hv; cases hv
  | cons h1 _ ih =>
    intro v hv
    rcases List.mem_cons.mp hv with rfl | hv
    · obtain ⟨t, e⟩ := Value.isInt_shape h1; exact ⟨_, t, e⟩
    · exact ih v hv
theorem hash_by_value {k : List Int} {b : Addr} {Q : Bool → Shared → Prop} (hk : Key prog w s.heap k b) (h : Q true s) : wpAny (model prog w) A (hashByValue 8 (.ref b)) Q E s := by
  have hT := hk.typeIs
  obtain ⟨o, items, n, ho, _, hd, hi⟩ := hk
  unfold hashByValue
  refine wpAny_bind (wpAny_specialOf hT F.slot_tuple_hash.lookup ?_)
  dsimp only
  refine wpAny_bind (wpAny_seqItems ho hd ?_)
  refine wpAny_bind ?_
  show wpAny _ _ (forIn items _ _) _ _ s
  rw [← Array.forIn_toList]
  refine wpAny_forIn_list _ (fun rest r s' => r.1 = none ∧ s' = s ∧ ∀ v ∈ rest, ∃ i t, v = Value.int i t) _ ?_ ?_ _ _ ⟨rfl, rfl, items_ints hi⟩
  · rintro v rest r s' ⟨hr, rfl, hall⟩
    obtain ⟨i, t, rfl⟩ := hall v List.mem_cons_self
    refine wpAny_bind (wpAny_of_eq (a := true) (by unfold hashByValue; rfl) ?_)
    simp only [Bool.not_true, Bool.false_eq_true, if_false]
    exact wpAny_pure ⟨rfl, rfl, fun u hu' => hall u (List.mem_cons_of_mem _ hu')⟩
  · rintro ⟨r1, r2⟩ s' ⟨hr, rfl, _⟩
    simp only at hr
    subst hr
    exact wpAny_pure h
theorem no_class {k : List Int} {b : Addr} {Q : Bool → Shared → Prop} (hk : Key prog w s.heap k b) (h : Q false s) : wpAny (model prog w) A (ofAClassStatement 8 (.ref b)) Q E s := by
  have hT := hk.typeIs
  obtain ⟨o, items, n, ho, _, hd, hi⟩ := hk
  unfold ofAClassStatement
  refine wpAny_bind (wpAny_typeOf hT ?_)
  dsimp only
  refine wpAny_bind (m := (if ("tuple" == "tuple") = true then pure true else isSubtype (.type "tuple") (.type "tuple"))) ?_
  rw [if_pos (by decide)]
  refine wpAny_pure ?_
  simp only [Bool.not_true, Bool.false_eq_true, if_false]
  refine wpAny_bind (wpAny_seqItems ho hd ?_)
  dsimp only
  refine wpAny_bind ?_
  rw [← Array.forIn_toList]
  refine wpAny_forIn_list _ (fun rest r s' => r.1 = none ∧ s' = s ∧ ∀ v ∈ rest, ∃ i t, v = Value.int i t) _ ?_ ?_ _ _ ⟨rfl, rfl, items_ints hi⟩
  · rintro v rest r s' ⟨hr, rfl, hall⟩
    obtain ⟨i, t, rfl⟩ := hall v List.mem_cons_self
    refine wpAny_bind (wpAny_of_eq (a := false) (by unfold ofAClassStatement; rfl) ?_)
    simp only [Bool.false_eq_true, if_false]
    exact wpAny_pure ⟨rfl, rfl, fun u hu' => hall u (List.mem_cons_of_mem _ hu')⟩
  · rintro ⟨r1, r2⟩ s' ⟨hr, rfl, _⟩
    simp only at hr
    subst hr
    exact wpAny_pure h
theorem not_seen {k : List Int} {b : Addr} {Q : Bool → Shared → Prop} (hk : Key prog w s.heap k b) (h : Q false s) : ∀ (l : List Value), (∀ v ∈ l, ∃ c k', v = .ref c ∧ Key prog w s.heap k' c) →
    wpAny (model prog w) A (searchCouldBeSeen (.ref b) l) Q E s := by
  intro l hl
  unfold searchCouldBeSeen
  refine wpAny_bind ?_
  refine wpAny_forIn_list _ (fun rest r s' => r.1 = none ∧ s' = s ∧ ∀ v ∈ rest, ∃ c k', v = Value.ref c ∧ Key prog w s.heap k' c) _ ?_ ?_ _ _ ⟨rfl, rfl, hl⟩
  · rintro v rest r s' ⟨hr, rfl, hall⟩
    obtain ⟨c, k', rfl, hc⟩ := hall v List.mem_cons_self
    dsimp only
    by_cases e : (b == c) = true
    · rw [if_pos (by rw [e]; rfl)]
      exact wpAny_pure ⟨rfl, rfl, fun u hu' => hall u (List.mem_cons_of_mem _ hu')⟩
    · rw [if_neg (by rw [Bool.not_eq_true] at e; rw [e]; simp [carriedByValue])]
      refine wpAny_bind (wpAny_eqIsQuiet_tuple hk ?_)
      simp only [Bool.not_true, Bool.false_eq_true, if_false]
      refine wpAny_bind (wpAny_eqIsQuiet_tuple hc ?_)
      simp only [Bool.not_true, Bool.false_eq_true, if_false]
      refine wpAny_bind (no_class hk ?_)
      simp only [Bool.false_eq_true, if_false]
      refine wpAny_bind (no_class hc ?_)
      simp only [Bool.false_eq_true, if_false]
      exact wpAny_pure ⟨rfl, rfl, fun u hu' => hall u (List.mem_cons_of_mem _ hu')⟩
  · rintro ⟨r1, r2⟩ s' ⟨hr, rfl, _⟩
    simp only at hr
    subst hr
    exact wpAny_pure h

theorem hashAt_some {es : Array (Int × Value)} {i : Nat} {x : Int × Value} (h : es[i]? = some x) : True := trivial
/-- the search in the table: a slot that is free, or one that is equal -/
theorem search_from (hu : A.units < cLine) {led : Bool} {a b : Addr} {k : List Int} {o : Obj} {es : Array (Int × Value)} {ep : Nat} {t : SetTable} {hs : Int} {Q : SetFound → Shared → Prop} (ho : s.heap.get? a = some o) (hd : o.data = .set es ep t)
    (ok : TabOk led t es.size) (hk : Key prog w s.heap k b) (hel : ∀ x ∈ es.toList, ∃ c k', x.2 = .ref c ∧ Key prog w s.heap k' c)
    (free : ∀ j, t.slot j = .empty → Q (.free j false) s) (there : (∃ x ∈ es.toList, ∃ c, x.2 = .ref c ∧ Key prog w s.heap k c) → Q (.there none) s) :
    ∀ (d fuel : Nat) (stand : Option SetTable.Probe), Ends t (stand.getD (t.probeStart hs)) d → d < 10 * SetTable.turns t.mask → d < fuel → (stand.getD (t.probeStart hs)).dummy = none →
      wpAny (model prog w) A (setSearchFrom a (.ref b) hs true fuel stand) Q E s := by
  intro d
  induction d using Nat.strongRecOn with
  | _ d ih =>
    intro fuel stand he hd10 hf hdm
    cases fuel with
    | zero => exact absurd hf (Nat.not_lt_zero _)
    | succ fuel =>
      unfold setSearchFrom
      refine wpAny_bind (wpAny_setState_of ho hd ok.fits ?_)
      dsimp only
      rw [ok.way]
      simp only [Bool.false_eq_true, if_false]
      generalize hq : SetTable.probe t _ hs _ = pr
      have G : (∃ j, pr = some (.empty j none) ∧ t.slot j = .empty) ∨ ∃ j i next d', pr = some (.candidate j i next) ∧ t.slot j = .live i ∧ t.place[i]? = some j ∧ Ends t next d' ∧ d' < d ∧ next.dummy = none := by
        rw [← hq]
        rcases go_ends ok.dum _ hs d _ _ he hd10 hdm with z | ⟨j, i, next, d', z1, z2, z3, _, z5, z6, z7⟩
        · exact .inl z
        · exact .inr ⟨j, i, next, d', z1, z2, z3, z5, z6, z7⟩
      rcases G with ⟨j, rfl, sl⟩ | ⟨j, i, next, d', rfl, sj, pj, en, ld, dn⟩
      · dsimp only
        exact wpAny_pure (free j sl)
      · dsimp only
        have il : i < es.size := by have := (Array.getElem?_eq_some_iff.mp pj).1; rw [ok.size] at this; exact this
        have ei : es[i]? = some es[i] := getElem?_pos es i il
        obtain ⟨c, k', ec, hc⟩ := hel es[i] (by simp)
        have go : wpAny (model prog w) A (do
            let equal ← holding [Value.ref c] (eqBool (Value.ref c) (Value.ref b))
            let (es', _, t') ← setState a
            if true && equal then return .there none
            let some same := t'.sameMemory t.moves t.mask | unsupported "set.changed-during-lookup:is-the-new-block-at-the-old-address"
            let still ← match (if same then t'.slot j else .empty) with
              | .live i' => match es'[i']? with
                | some (_, y') => do pure (if ← isSame y' (Value.ref c) then some i' else none)
                | none => pure none
              | _ => pure none
            match still with
            | none => rule "set.search.anew"; setSearchFrom a (.ref b) hs true fuel none
            | some i' => if equal then return .there (some i') else setSearchFrom a (.ref b) hs true fuel (some next)) Q E s := by
          refine wpAny_bind (wpAny_holding (wpAny_eqBool_tuple hu hc hk ?_))
          refine wpAny_bind (wpAny_setState_of ho hd ok.fits ?_)
          dsimp only
          by_cases e : k' = k
          · subst e
            rw [if_pos (by simp)]
            exact wpAny_pure (there ⟨es[i], by simp, c, ec, hc⟩)
          · rw [if_neg (by simp [e])]
            have sm : t.sameMemory t.moves t.mask = some true := by unfold SetTable.sameMemory; rw [if_pos (by simp)]
            rw [sm]
            dsimp only
            rw [if_pos rfl, sj]
            dsimp only
            rw [ei]
            have e2 : es[i] = (es[i].1, Value.ref c) := by rw [← ec]
            rw [e2]
            dsimp only
            refine wpAny_bind (wpAny_isSame_ref_self (wpAny_bind (wpAny_pure ?_)))
            rw [if_pos rfl]
            dsimp only
            rw [if_neg (by simp [e])]
            exact ih d' ld fuel (some next) en (by omega) (by omega) dn
        by_cases hl : t.led = true
        · rw [hl]
          simp only [Bool.not_true, Bool.false_eq_true, if_false]
          rw [ei]
          have e2 : es[i] = (es[i].1, Value.ref c) := by rw [← ec]
          rw [e2]
          exact go
        · have hl' : t.led = false := by simpa using hl
          rw [hl']
          simp only [Bool.not_false, if_true]
          refine wpAny_bind (not_seen hk ?_ _ ?_)
          · simp only [Bool.false_eq_true, if_false]
            rw [ei]
            have e2 : es[i] = (es[i].1, Value.ref c) := by rw [← ec]
            rw [e2]
            exact go
          · intro v hv
            obtain ⟨x, hx, rfl⟩ := List.mem_map.mp hv
            have hx' : x ∈ es.toList := by
              have := Array.mem_toList_iff.mp hx
              exact Array.mem_toList_iff.mpr (Array.mem_filter.mp this).1
            exact hel x hx'

/-- what is added stands there behind it, or one equal to it stood there -/
structure Added (prog : Program) (w : World) (h : Heap) (b : Addr) (k : List Int) (bs bs' : List Addr) : Prop where
  sub : ∀ c ∈ bs', c ∈ bs ∨ c = b
  old : ∀ c ∈ bs, c ∈ bs'
  new : ∃ c ∈ bs', Key prog w h k c
  len : bs'.length ≤ bs.length + 1
theorem filterMap_range_perm {α : Type} {es : Array α} {order : Array Nat} (h : order.toList.Perm (List.range es.size)) : (order.filterMap (es[·]?)).toList.Perm es.toList := by
  rw [Array.toList_filterMap]
  have := h.filterMap (es[·]?)
  rw [filterMap_getElem?_range] at this
  exact this
theorem map_refs_inj : ∀ {xs ys : List Addr}, xs.map Value.ref = ys.map Value.ref → xs = ys
  | [], [], _ => rfl
  | [], _ :: _, h => by simp at h
  | _ :: _, [], h => by simp at h
  | x :: xs, y :: ys, h => by
    simp only [List.map_cons, List.cons.injEq, Value.ref.injEq] at h
    rw [h.1, map_refs_inj h.2]
theorem refs_of : ∀ {vs : List Value}, (∀ v ∈ vs, ∃ c, v = Value.ref c) → ∃ bs : List Addr, vs = bs.map Value.ref
  | [], _ => ⟨[], rfl⟩
  | v :: vs, h => by
    obtain ⟨c, rfl⟩ := h v (by simp)
    obtain ⟨bs, e⟩ := refs_of (vs := vs) fun u hu => h u (by simp [hu])
    exact ⟨c :: bs, by rw [e]; rfl⟩
theorem perm_refs {vs : List Value} {bs : List Addr} (h : vs.Perm (bs.map Value.ref)) : ∃ bs' : List Addr, vs = bs'.map Value.ref ∧ bs'.Perm bs := by
  obtain ⟨bs', e⟩ := refs_of (vs := vs) fun v hv => by
    obtain ⟨c, _, rfl⟩ := List.mem_map.mp (h.mem_iff.mp hv)
    exact ⟨c, rfl⟩
  subst e
  refine ⟨bs', rfl, ?_⟩
  have := h.map (fun v => match v with | Value.ref a => a | _ => 0)
  rw [List.map_map, List.map_map] at this
  simpa [Function.comp_def] using this
theorem add_hashed (hu : A.units < cLine) {led : Bool} {a b : Addr} {k : List Int} {bs : List Addr} {hs : Int} {Q : Bool → Shared → Prop} (hS : SetAt led s.heap a bs) (hk : Key prog w s.heap k b)
    (hel : ∀ c ∈ bs, ∃ k', Key prog w s.heap k' c) (hn : bs.length < 780)
    (h : ∀ h' bs' r, Heap.SameBut a s.heap h' → SetAt led h' a bs' → Added prog w s.heap b k bs bs' → Q r { s with heap := h' }) :
    wpAny (model prog w) A (setAddHashed a (.ref b) hs) Q E s := by
  obtain ⟨o, es, ep, t, ho, hex, hd, ok, hes⟩ := hS
  have hlen : es.size = bs.length := by have := congrArg List.length hes; simpa using this
  have hel' : ∀ x ∈ es.toList, ∃ c k', x.2 = .ref c ∧ Key prog w s.heap k' c := fun x hx => by
    have : x.2 ∈ bs.map Value.ref := by rw [← hes]; exact List.mem_map.mpr ⟨x, hx, rfl⟩
    obtain ⟨c, hc, e⟩ := List.mem_map.mp this
    obtain ⟨k', hk'⟩ := hel c hc
    exact ⟨c, k', e.symm, hk'⟩
  have same : s = { s with heap := s.heap } := by cases s; rfl
  unfold setAddHashed setAddHashedIn
  refine wpAny_holding (wpAny_bind (wpAny_setState_of ho hd ok.fits ?_))
  dsimp only
  have nb : byScan (.ref b) es = false := by simp [byScan, Value.scannable]
  rw [nb]
  simp only [Bool.false_eq_true, if_false]
  unfold setSearch
  obtain ⟨d, hd10, en⟩ := ok.starts hs
  have m2 := mask_le ok.mask
  refine wpAny_bind (search_from hu ho hd ok hk hel' (fun j sl => ?_) (fun ⟨x, hx, c, ec, hc⟩ => ?_) d 100000 none en hd10 (by unfold SetTable.turns at hd10; omega) rfl)
  · dsimp only
    refine wpAny_bind (wpAny_setState_of ho hd ok.fits ?_)
    dsimp only
    obtain ⟨pk, pl⟩ := ok.put sl
    have pp : (t.put j).1.plain = true := pk.plain
    rw [pp]
    simp only [if_true]
    refine wpAny_bind (hash_by_value hk ?_)
    simp only [if_true]
    have hsz : (SetTable.insertAt es (t.put j).2 (hs, Value.ref b)).size = es.size + 1 := by
      rcases size_insertAt es (t.put j).2 (hs, Value.ref b) with e | e
      · exact e
      · omega
    have perm1 : ((SetTable.insertAt es (t.put j).2 (hs, Value.ref b)).toList.map (·.2)).Perm ((bs ++ [b]).map Value.ref) := by
      refine ((SetTable.insertAt_perm es (t.put j).2 (hs, Value.ref b)).map _).trans ?_
      rw [Array.toList_push, List.map_append, hes, List.map_append]
      exact List.Perm.refl _
    have small : ∀ n : Nat, n ≤ 781 → n ≤ sizeLine := fun n hn => by rw [sizeLine_eq]; omega
    refine wpAny_bind (wpAny_storeSet_of ho hd ?_ (by rw [hsz]; exact small _ (by omega)))
    have hg : (s.heap.update a (Obj.putSet (SetTable.insertAt es (t.put j).2 (hs, Value.ref b)) (t.put j).1)).get? a = some { o with data := .set (SetTable.insertAt es (t.put j).2 (hs, Value.ref b)) (ep + 1) (t.put j).1 } := by
      have := Heap.get?_update_self (Obj.putSet (SetTable.insertAt es (t.put j).2 (hs, Value.ref b)) (t.put j).1) ho (by rw [putSet_of _ _ hd]; rfl)
      rw [putSet_of _ _ hd] at this; exact this
    have sb := Heap.SameBut.update s.heap a (Obj.putSet (SetTable.insertAt es (t.put j).2 (hs, Value.ref b)) (t.put j).1)
    have added : ∀ bs', bs'.Perm (bs ++ [b]) → Added prog w s.heap b k bs bs' := fun bs' p =>
      ⟨fun c hc => by
        rcases List.mem_append.mp (p.mem_iff.mp hc) with z | z
        · exact .inl z
        · exact .inr (by simpa using z), fun c hc => p.mem_iff.mpr (List.mem_append_left _ hc), ⟨b, p.mem_iff.mpr (by simp), hk⟩, by rw [p.length_eq, List.length_append]; exact Nat.le_refl _⟩
    generalize hE : SetTable.insertAt es (t.put j).2 (hs, Value.ref b) = es1 at *
    generalize hT : (t.put j).1 = t1 at *
    rw [← hsz] at pk
    by_cases full : t1.tooFull = true
    · rw [if_pos (by rw [full]; rfl)]
      unfold setRelay
      refine wpAny_bind (wpAny_bind (wpAny_setState_of hg rfl pk.fits ?_))
      dsimp only
      obtain ⟨sz, t2, order, er, ok2, op⟩ := pk.grow full (by omega) (es1.map (·.1)) (by simp)
      rw [← hsz]
      rw [if_neg (by have := sizeLine_eq; omega)]
      rw [er]
      have p2 := filterMap_range_perm op
      have s2 : (order.filterMap (es1[·]?)).size = es1.size := by rw [← Array.length_toList, p2.length_eq, Array.length_toList]
      have ro : ∀ {f : Array (Int × Value) → Option (SetTable × Array Nat) → Sem (Array (Int × Value) × SetTable)}, f = (fun es laid => do
          let some (t, order) := laid | unsupported "internal:set-table-without-room"
          let es' := order.filterMap (es[·]?)
          if es'.size != es.size then unsupported "internal:set-table-lost-an-element"
          pure (es', t)) → f es1 (some (t2, order)) = pure (order.filterMap (es1[·]?), t2) := fun e => by
        rw [e]
        dsimp only
        rw [s2]
        simp
      refine wpAny_bind (wpAny_of_eq (ro rfl) ?_)
      dsimp only
      refine wpAny_storeSet_of hg rfl ?_ (by rw [s2, hsz]; exact small _ (by omega))
      have p3 : ((order.filterMap (es1[·]?)).toList.map (·.2)).Perm ((bs ++ [b]).map Value.ref) := (p2.map _).trans perm1
      obtain ⟨bs', e1, e2⟩ := perm_refs p3
      have hg2 := Heap.get?_update_self (Obj.putSet (order.filterMap (es1[·]?)) t2) hg (by rw [putSet_of _ _ rfl]; rfl)
      rw [putSet_of _ _ rfl] at hg2
      exact wpAny_pure (h _ bs' _ (sb.trans (Heap.SameBut.update _ a _)) ⟨_, _, _, t2, hg2, hex, rfl, by rw [s2]; exact ok2, e1⟩ (added bs' e2))
    · have full' : t1.tooFull = false := by simpa using full
      rw [if_neg (by rw [full']; simp)]
      obtain ⟨bs', e1, e2⟩ := perm_refs perm1
      exact wpAny_pure (h _ bs' _ sb ⟨_, es1, ep + 1, t1, hg, hex, rfl, pk.notFull full', e1⟩ (added bs' e2))
  · dsimp only
    refine wpAny_pure ?_
    rw [same]
    have hc' : c ∈ bs := by
      have : x.2 ∈ bs.map Value.ref := by rw [← hes]; exact List.mem_map.mpr ⟨x, hx, rfl⟩
      rw [ec] at this
      obtain ⟨c', hc', e⟩ := List.mem_map.mp this
      cases e
      exact hc'
    exact h s.heap bs _ (Heap.SameBut.refl a s.heap) ⟨o, es, ep, t, ho, hex, hd, ok, hes⟩ ⟨fun c hc => .inl hc, fun c hc => hc, ⟨c, hc', hc⟩, Nat.le_succ _⟩
end
end ST
end
section
set_option linter.all false
set_option maxRecDepth 100000
set_option maxHeartbeats 4000000
namespace ST
open PySem SP PyProof.Rows

theorem in1_units (A : Around) : A.in1.units = A.units + 1 := rfl
theorem Key.at {prog : Program} {w : World} {h h' : Heap} {k : List Int} {b : Addr} (x : Key prog w h k b) (e : ∀ o, h.get? b = some o → h'.get? b = some o) : Key prog w h' k b := by
  obtain ⟨o, items, n, ho, r⟩ := x
  exact ⟨o, items, n, e o ho, r⟩
theorem SetAt.at {led : Bool} {h h' : Heap} {a : Addr} {bs : List Addr} (x : SetAt led h a bs) (e : ∀ o, h.get? a = some o → h'.get? a = some o) : SetAt led h' a bs := by
  obtain ⟨o, es, ep, t, ho, r⟩ := x
  exact ⟨o, es, ep, t, e o ho, r⟩
/-- what the set holds behind i of the list's items -/
structure Part (key : Addr → List Int) (as : List Addr) (i : Nat) (bs : List Addr) : Prop where
  sub : ∀ b ∈ bs, b ∈ as.take i
  cov : ∀ a ∈ as.take i, ∃ b ∈ bs, key b = key a
  len : bs.length ≤ i

section
variable {prog : Program} {w : World} {A : Around} {R : Result → Shared → Prop} {I : Addr} {fp wr : List Addr} {G : Array GenState → Array GenState → Prop} {St : Nat → Shared → Prop}
theorem set_loop {as : List Addr} {led : Bool} (W : WalksS prog w A.in1 I fp wr G as.length (fun i v => (as.map Value.ref)[i]? = some v) St) (S : Addr) (hSf : S ∉ fp) (key : Addr → List Int) (hu : A.units + 1 < cLine) (hn : as.length ≤ 780) (hwa : ∀ a ∈ as, a ≠ S ∧ a ∉ wr) :
    ∀ (k i : Nat) (s : Shared) (bs : List Addr), as.length - i = k → i ≤ as.length → St i s → (∀ a ∈ as, Key prog w s.heap (key a) a) → SetAt led s.heap S bs → Part key as i bs →
      (∀ s' bs', Moved (S :: wr) G s s' → SetAt led s'.heap S bs' → Part key as as.length bs' → R (.ok (.ret .none)) s') →
      codeAny (model prog w) A (.builtin "set.update.loop" ⟨[.ref S, .ref I], []⟩) R s := by
  have hSw : S ∉ wr := fun h => hSf (W.sub _ h)
  have hsub : ∀ b ∈ wr, b ∈ S :: wr := fun b hb => List.mem_cons_of_mem _ hb
  intro k
  induction k with
  | zero =>
    intro i s bs hk hi hst hkey hS hP hR
    have hin : i = as.length := by omega
    subst hin
    refine codeAny_builtin F.entry_set_update_loop ?_
    rw [Around.under_plainId F.plain_set_update_loop _]
    show wpAny _ A.in1 (pyNext (.ref I) >>= _) _ _ s
    refine wpAny_bind (W.done s _ _ hst fun s' hm => ?_)
    show wpAny _ A.in1 (ret Value.none) _ _ s'
    exact wpAny_pure (hR s' bs (hm.mono hsub) (hS.at fun o e => hm.heap S _ hSw e) hP)
  | succ k ih =>
    intro i s bs hk hi hst hkey hS hP hR
    have hlt : i < as.length := by omega
    refine codeAny_builtin F.entry_set_update_loop ?_
    rw [Around.under_plainId F.plain_set_update_loop _]
    show wpAny _ A.in1 (pyNext (.ref I) >>= _) _ _ s
    refine wpAny_bind (W.item i s _ _ hlt hst fun v s' hv hst' hm => ?_)
    have ei : as[i]? = some as[i] := List.getElem?_eq_getElem hlt
    have ev : v = .ref as[i] := by
      rw [List.getElem?_map, ei] at hv
      exact (Option.some.inj hv).symm
    subst ev
    have hS' := hS.at (h' := s'.heap) fun o e => hm.heap S _ hSw e
    have hkey' : ∀ a ∈ as, Key prog w s'.heap (key a) a := fun a ha => (hkey a ha).at fun o e => hm.heap a _ (hwa a ha).2 e
    have mi : as[i] ∈ as := List.getElem_mem hlt
    show wpAny _ A.in1 (holding [Value.ref as[i]] (setAdd S (.ref as[i])) >>= _) _ _ s'
    refine wpAny_bind (wpAny_holding ?_)
    unfold setAdd
    refine wpAny_holding ?_
    refine wpAny_bind (wpAny_pyHash_tuple (by rw [in1_units]; exact hu) (hkey' _ mi) ?_)
    refine add_hashed (s := { s' with toks := s'.toks + ((key as[i]).length + 1) }) (led := led) (k := key as[i]) (bs := bs) (by rw [in1_units]; exact hu) hS' (hkey' _ mi) (fun c hc => ⟨key c, hkey' c (List.mem_of_mem_take (hP.sub c hc))⟩) (by have := hP.len; omega) fun h' bs' r hsb hS2 ad => ?_
    have tk : as.take (i + 1) = as.take i ++ [as[i]] := by rw [List.take_add_one, ei]; rfl
    have hP' : Part key as (i + 1) bs' := by
      refine ⟨fun b hb => ?_, fun a ha => ?_, by have := hP.len; have := ad.len; omega⟩
      · rw [tk]
        rcases ad.sub b hb with z | z
        · exact List.mem_append_left _ (hP.sub b z)
        · exact List.mem_append_right _ (by simp [z])
      · rw [tk] at ha
        rcases List.mem_append.mp ha with z | z
        · obtain ⟨b, hb, e⟩ := hP.cov a z
          exact ⟨b, ad.old b hb, e⟩
        · have : a = as[i] := by simpa using z
          subst this
          obtain ⟨c, hc, kc⟩ := ad.new
          have hc2 : c ∈ as := by
            rcases ad.sub c hc with z | z
            · exact List.mem_of_mem_take (hP.sub c z)
            · rw [z]; exact mi
          exact ⟨c, hc, (hkey' c hc2).inj kc⟩
    refine wpAny_pure ⟨plainId_quiet F.plain_set_update_loop _, ih (i + 1) _ bs' (by omega) hlt (W.frame _ s' _ _ hst' (Nat.le_add_right _ _) fun b hb o e => ?_) (fun a ha => (hkey' a ha).at fun o e => ?_) hS2 hP' fun s'' bs'' hm'' hS'' hP'' => ?_⟩
    · rw [hsb.2 b (fun h : b = S => hSf (by rw [← h]; exact hb))]; exact e
    · rw [hsb.2 a (hwa a ha).1]; exact e
    · refine hR s'' bs'' (Moved.trans W.gtrans ((hm.mono hsub).then_heap (Nat.le_add_right _ _) fun b o hb e => ?_) hm'') hS'' hP''
      rw [hsb.2 b (fun h : b = S => hb (by rw [h]; exact List.mem_cons_self))]; exact e
end
section
variable {prog : Program} {w : World} {A : Around} {E : Value → Shared → Prop} {s : Shared}
abbrev ledOf (w : World) : Bool := !w.params.followText "set-order"
abbrev freshSet (led : Bool) : Obj := { cls := .type "set", dict := none, data := .set #[] 0 (.fresh 0 0 led) }
theorem set_new (a : Value) {Q₁ : Value → Shared → Prop}
    (h : Q₁ (.ref s.heap.objs.size) { s with heap := s.heap.push (freshSet (ledOf w)) }) :
    codeAny (model prog w) A (.call (.builtin "set.__new__") ⟨[.type "set", a], []⟩) (wants Q₁ E) s := by
  refine codeAny_of_tree ?_
  show wpAny _ A.in1 (do checkBuiltinCall "set.__new__" ⟨[.type "set", a], []⟩; again (.builtin "set.__new__" ⟨[.type "set", a], []⟩)) _ _ s
  refine wpAny_bind (wpAny_of_eq (F.newCall_set_1 a) (wpAny_pure ⟨plainId_quiet F.plain_set_new _, codeAny_builtin F.entry_set_new ?_⟩))
  rw [Around.under_plainId F.plain_set_new _]
  unfold Builtin.«set.__new__» Builtin.Frozenset.newClass
  have hsub := sub_set_self
  obtain ⟨hp, g, d, tk, os⟩ := s
  dsimp only
  wp_walk
  refine wpAny_askSetting (wpAny_pure ?_)
  dsimp only
  simp only [newObj]
  refine wpAny_bind (wpAny_alloc (wpAny_pure ?_))
  exact wpAny_pure h
theorem call_set {l : Addr} {as : List Addr} {key : Addr → List Int} {Q : Value → Shared → Prop}
    (hh : A.handled = none) (hu : A.units + 4 < cLine) (hl : s.heap.IsList l (as.map Value.ref).toArray) (hkey : ∀ a ∈ as, Key prog w s.heap (key a) a) (hn : as.length ≤ 780)
    (h : ∀ (h' : Heap) (tk : Nat) (bs : List Addr), SetAt (ledOf w) h' s.heap.objs.size bs → Part key as as.length bs →
      (∀ b o, b < s.heap.objs.size → s.heap.get? b = some o → h'.get? b = some o) → Q (.ref s.heap.objs.size) { s with heap := h', toks := tk }) :
    wpAny (model prog w) A (call (.type "set") [.ref l]) Q E s := by
  obtain ⟨c, tl, hmro⟩ := F.called_set.mro
  have hmade := F.called_set.made
  have hsub := F.called_set.sub
  refine wpAny_call (codeAny_of_tree ?_)
  show wpAny _ _ (callAny (.type "set") _) _ _ _
  refine wpAny_pure ⟨Code.quiet_builtin _ (by decide +kernel), codeAny_builtin F.entry_type_call ?_⟩
  rw [Around.under_plain (weight_type_call_type "set" [.ref l] []) rfl]
  have h1 := F.called_set.notType
  have h2 := F.called_set.canCreate
  have hct := F.typeCall_set_1 (.ref l)
  repeat (any_goals (first | assumption | wp_step))
  refine codeAny_mono (set_new (.ref l) (E := E) (Q₁ := fun obj s₁ => obj = .ref s.heap.objs.size ∧ s₁ = { s with heap := s.heap.push (freshSet (ledOf w)) }) ⟨rfl, rfl⟩) fun r s₁ hr => ?_
  cases r with
  | error e => exact hr
  | ok fl =>
    cases fl with
    | ret obj =>
      obtain ⟨rfl, rfl⟩ := hr
      have hS : (s.heap.push (freshSet (ledOf w))).get? s.heap.objs.size = some (freshSet (ledOf w)) := Heap.get?_push_size _ rfl
      have hT : Shared.TypeIs { s with heap := s.heap.push (freshSet (ledOf w)) } (.ref s.heap.objs.size) "set" := ⟨_, hS, rfl⟩
      have hli := F.called_set.init.lookup
      have hbi := F.called_set.init.bind (.ref s.heap.objs.size)
      repeat (any_goals (first | assumption | wp_step))
      refine codeAny_mono (codeAny_call_builtin (R := wants (fun r s₂ => r = .none ∧ ∃ h' tk bs, s₂ = { s with heap := h', toks := tk } ∧ SetAt (ledOf w) h' s.heap.objs.size bs ∧ Part key as as.length bs ∧
          (∀ b o, b < s.heap.objs.size → s.heap.get? b = some o → h'.get? b = some o)) E) F.called_set.init.plain F.entry_set_init (check_set_init_1 hT ?_)) fun r₂ s₂ hr₂ => ?_
      · obtain ⟨ol, hol, hcl, nl, hdl⟩ := hl
        obtain ⟨ocls, odict, odata, oslots⟩ := ol
        simp only at hcl hdl
        subst hcl; subst hdl
        have hol' : (s.heap.push (freshSet (ledOf w))).get? l = some { cls := .type "list", dict := odict, data := .seq (as.map Value.ref).toArray nl, slots := oslots } := Heap.get?_push_of_some _ hol
        have hsls := F.sub_list_set
        have hslf := F.sub_list_frozenset
        have hne : (Value.type "list" == Value.type "dict") = false := by decide
        have hl1 : (s.heap.push (freshSet (ledOf w))).IsList l (as.map Value.ref).toArray := ⟨_, hol', rfl, nl, rfl⟩
        unfold Builtin.«set.__init__» noKeywords Builtin.Frozenset.updateFrom
        generalize hPI : pyIter = PI
        wp_walk
        subst hPI
        refine wpAny_pyIter_list hl1 ?_
        refine wpAny_bind (wpAny_runValue ?_)
        have hlS : l < s.heap.objs.size := Heap.lt_size hol
        have hh3 : A.in1.in1.in1.handled = none := by simp [hh]
        have hneI : l ≠ (s.heap.push (freshSet (ledOf w))).objs.size := by
          rw [Heap.size_push]; exact Nat.ne_of_lt (Nat.lt_succ_of_lt hlS)
        have hSf : s.heap.objs.size ∉ [(s.heap.push (freshSet (ledOf w))).objs.size, l] := by
          rw [Heap.size_push]; simp only [List.mem_cons, List.mem_singleton, List.not_mem_nil, or_false, not_or]
          exact ⟨Nat.ne_of_lt (Nat.lt_succ_self _), Nat.ne_of_gt hlS⟩
        have W := (Walks.list (prog := prog) (w := w) hh3 (s.heap.push (freshSet (ledOf w))).objs.size l hneI (as.map Value.ref).toArray).toS
        have W' : WalksS prog w A.in1.in1.in1 (s.heap.push (freshSet (ledOf w))).objs.size [(s.heap.push (freshSet (ledOf w))).objs.size, l] [(s.heap.push (freshSet (ledOf w))).objs.size] (fun a b => b = a) as.length (fun i v => (as.map Value.ref)[i]? = some v)
            (fun i s' => s'.heap.IsListIter (s.heap.push (freshSet (ledOf w))).objs.size l i ∧ s'.heap.IsList l (as.map Value.ref).toArray) := by
          simpa using W
        have lt : ∀ a ∈ as, a < s.heap.objs.size := fun a ha => by obtain ⟨o, _, _, ho, _⟩ := hkey a ha; exact Heap.lt_size ho
        refine set_loop (led := ledOf w) W' s.heap.objs.size hSf key (by show A.units + 1 + 1 + 1 < cLine; omega) hn (fun a ha => ⟨Nat.ne_of_lt (lt a ha), ?_⟩) (as.length - 0) 0 _ [] (by omega) (Nat.zero_le _)
          ⟨⟨_, Heap.get?_push_size _ rfl, rfl, rfl⟩, (hl1.push _)⟩ (fun a ha => (hkey a ha).at fun o e => Heap.get?_push_of_some _ (Heap.get?_push_of_some _ e)) ?hS0 ⟨fun b hb => (by cases hb), fun a ha => (by rw [List.take_zero] at ha; cases ha), Nat.zero_le _⟩ ?hR
        · rw [Heap.size_push]
          have := lt a ha
          simp only [List.mem_singleton]
          exact Nat.ne_of_lt (Nat.lt_succ_of_lt this)
        case hS0 =>
          have hget : ((s.heap.push (freshSet (ledOf w))).push { cls := .type "list_iterator", data := .fields #[.ref l, .int 0 0] }).get? s.heap.objs.size
              = some (freshSet (ledOf w)) := Heap.get?_push_of_some _ hS
          exact ⟨_, #[], 0, _, hget, ⟨rfl, rfl, rfl⟩, rfl, tabOk_fresh _, rfl⟩
        case hR =>
          intro s' bs' hm hS' hP'
          obtain ⟨h', g', d', tk', os'⟩ := s'
          have eg : g' = s.gens := hm.gens
          have ed : d' = s.drawn := hm.drawn
          have eo : os' = s.os := hm.os
          subst eg; subst ed; subst eo
          show wpAny _ _ _ _ _ _
          refine wpAny_pure ?_
          show wpAny _ _ (ret Value.none) _ _ _
          refine wpAny_pure ⟨rfl, h', tk', bs', rfl, hS', hP', fun b o hb e => ?_⟩
          have hb1 : b ≠ s.heap.objs.size := Nat.ne_of_lt hb
          have hb2 : b ≠ (s.heap.push (freshSet (ledOf w))).objs.size := by
            rw [Heap.size_push]; exact Nat.ne_of_lt (Nat.lt_succ_of_lt hb)
          exact hm.heap b o (by simp only [List.mem_cons, List.mem_singleton, List.not_mem_nil, or_false, not_or]; exact ⟨hb1, hb2⟩) (Heap.get?_push_of_some _ (Heap.get?_push_of_some _ e))
      · cases r₂ with
        | error e => exact hr₂
        | ok fl₂ =>
          cases fl₂ with
          | ret r =>
            obtain ⟨rfl, h', tk, bs, rfl, hS', hP', hk'⟩ := hr₂
            repeat (any_goals (first | assumption | wp_step))
            exact h _ _ _ hS' hP' hk'
          | _ => exact hr₂.elim
    | _ => exact hr.elim
end
end ST
end
section
set_option linter.all false
set_option maxRecDepth 100000
set_option maxHeartbeats 4000000
namespace ST
open PySem SP PyProof.Rows

theorem owner_set_iterator : Manifest.owners.lookup (String.ofList ['r', 'o', 't', 'a', 'r', 'e', 't', 'i', '_', 't', 'e', 's'].reverse) = some Manifest.sig_set_iterator := by kernel_rfl
theorem slot_next : Slot "set_iterator" "__next__" "set_iterator.__next__" :=
  .of (owner := "set_iterator") (n := "__next__") (by rw [typeLookup_type, builtinLookup_eq_fast]; kernel_rfl) (by decide +kernel) (by decide +kernel) (by decide +kernel)
    (by first | exact .inl (by decide +kernel) | exact .inr (by decide +kernel)) (by rw [isSubtype_type]; kernel_rfl)
theorem entry_next : entryFor table "set_iterator.__next__" = some Builtin.«set_iterator.__next__» := entryFor_of_tree (by kernel_rfl)
theorem args_next (a : Value) : argsOk "set_iterator.__next__" ⟨[a], []⟩ := by
  unfold argsOk; rw [signature?_of (id := "set_iterator.__next__") (n := ['_', '_', 't', 'x', 'e', 'n', '_', '_']) (o := ['r', 'o', 't', 'a', 'r', 'e', 't', 'i', '_', 't', 'e', 's']) (by kernel_rfl) owner_set_iterator]; kernel_rfl
theorem slot_iter : Slot "set_iterator" "__iter__" "set_iterator.__iter__" :=
  .of (owner := "set_iterator") (n := "__iter__") (by rw [typeLookup_type, builtinLookup_eq_fast]; kernel_rfl) (by decide +kernel) (by decide +kernel) (by decide +kernel)
    (by first | exact .inl (by decide +kernel) | exact .inr (by decide +kernel)) (by rw [isSubtype_type]; kernel_rfl)
theorem args_iter (a : Value) : argsOk "set_iterator.__iter__" ⟨[a], []⟩ := by
  unfold argsOk; rw [signature?_of (id := "set_iterator.__iter__") (n := ['_', '_', 'r', 'e', 't', 'i', '_', '_']) (o := ['r', 'o', 't', 'a', 'r', 'e', 't', 'i', '_', 't', 'e', 's']) (by kernel_rfl) owner_set_iterator]; kernel_rfl
theorem entry_iter : entryFor table "set_iterator.__iter__" = some Builtin.«dict_keyiterator.__iter__» :=
  entryFor_alias (id' := "dict_keyiterator.__iter__") (by kernel_rfl) rfl (by decide +kernel) (by kernel_rfl)
theorem entry_set_iter : entryFor table "set.__iter__" = some Builtin.«frozenset.__iter__» :=
  entryFor_alias (id' := "frozenset.__iter__") (by kernel_rfl) rfl (by decide +kernel) (by kernel_rfl)

/-- the iterator of the set at S -/
def IsIt (h : Heap) (I S : Addr) (slot i n ep : Nat) : Prop := ∃ o, h.get? I = some o ∧ o.cls = .type "set_iterator" ∧ o.data = .fields #[.int slot 0, .int i 0, .ref S, .int n 0, .int ep 0]
/-- the order in which it is walked -/
def orderOf (w : World) (S : Addr) (ep : Nat) (es : Array (Int × Value)) : Array (Int × Value) := if w.params.followText "set-order" then pickOrder (w.params.setOrder S ep) es else es
theorem orderOf_perm (w : World) (S : Addr) (ep : Nat) (es : Array (Int × Value)) : (orderOf w S ep es).toList.Perm es.toList := by
  unfold orderOf
  split
  · exact pick_perm _ _
  · exact List.Perm.refl _
def slotAt (t : SetTable) (i : Nat) : Nat := if i = 0 then 0 else t.place.getD (i - 1) 0 + 1
theorem below_slotAt {led : Bool} {t : SetTable} {n : Nat} (ok : TabOk led t n) {i : Nat} (hi : i ≤ n) : SetTable.below t.place (slotAt t i) = i := by
  unfold slotAt
  by_cases h0 : i = 0
  · rw [if_pos h0]
    subst h0
    by_cases hn : n = 0
    · subst hn
      have := (below_spec ok.rise 0).1
      rw [ok.size] at this
      omega
    · have hl : 0 < t.place.size := by rw [ok.size]; omega
      exact below_at ok.rise (getElem?_pos t.place 0 hl) (Nat.zero_le _) fun k y hk => absurd hk (Nat.not_lt_zero _)
  · rw [if_neg h0]
    have hl : i - 1 < t.place.size := by rw [ok.size]; omega
    have e1 : t.place[i - 1]? = some t.place[i - 1] := getElem?_pos t.place _ hl
    have eg : t.place.getD (i - 1) 0 = t.place[i - 1] := by rw [Array.getD_eq_getD_getElem?, e1]; rfl
    rw [eg]
    have lo : ∀ k y : Nat, k < i → t.place[k]? = some y → y < t.place[i - 1] + 1 := fun k y hk ey => by
      by_cases e : k = i - 1
      · subst e; rw [e1] at ey; cases ey; omega
      · have := ok.rise k (i - 1) y _ (by omega) ey e1
        omega
    by_cases hin : i < n
    · have hl2 : i < t.place.size := by rw [ok.size]; exact hin
      have e2 : t.place[i]? = some t.place[i] := getElem?_pos t.place _ hl2
      have := ok.rise (i - 1) i _ _ (by omega) e1 e2
      exact below_at ok.rise e2 (by omega) lo
    · have : i = n := by omega
      subst this
      rw [below_end ok.rise (fun k y ey => lo k y (by have := (Array.getElem?_eq_some_iff.mp ey).1; rw [ok.size] at this; exact this) ey), ok.size]
section
variable {prog : Program} {w : World} {A : Around} {E : Value → Shared → Prop} {s : Shared} {S I : Addr} {o : Obj} {es : Array (Int × Value)} {ep : Nat} {t : SetTable} {n : Nat}
theorem byText {Q : Bool → Shared → Prop} (h : Q (w.params.followText "set-order") s) : wpAny (model prog w) A setsByText Q E s := by
  unfold setsByText
  exact wpAny_bind (wpAny_askSetting (wpAny_pure h))
/-- the next one of it -/
theorem set_next (ho : s.heap.get? S = some o) (hd : o.data = .set es ep t) (ok : TabOk (ledOf w) t es.size) {i slot : Nat} (hs : ledOf w = true → slot = slotAt t i) (hi : i ≤ es.size) {Q : Option (Value × Nat) → Shared → Prop}
    (yes : ∀ v slot', ((orderOf w S ep es).toList.map (·.2))[i]? = some v → (ledOf w = true → slot' = slotAt t (i + 1)) → i < es.size → Q (some (v, slot')) s) (no : i = es.size → Q none s) : wpAny (model prog w) A (setNext S slot i ep) Q E s := by
  unfold setNext
  refine wpAny_bind (wpAny_setState_of ho hd ok.fits ?_)
  dsimp only
  refine wpAny_bind (byText ?_)
  cases hf : w.params.followText "set-order" with
  | true =>
    rw [if_pos rfl, if_neg (by simp)]
    unfold setWalk
    refine wpAny_bind (wpAny_bind (wpAny_setState_of ho hd ok.fits ?_))
    dsimp only
    refine wpAny_bind (byText ?_)
    rw [hf, if_pos rfl]
    refine wpAny_bind (wpAny_askSetting (wpAny_pure (wpAny_pure ?_)))
    have oe : orderOf w S ep es = pickOrder (w.params.setOrder S ep) es := by unfold orderOf; rw [hf, if_pos rfl]
    have sz : (pickOrder (w.params.setOrder S ep) es).size = es.size := by rw [← Array.length_toList, (pick_perm _ _).length_eq, Array.length_toList]
    rw [oe] at yes
    show Q (Option.map (fun e => (e.2, slot)) (pickOrder (w.params.setOrder S ep) es)[i]?) s
    by_cases c : i < es.size
    · have e : (pickOrder (w.params.setOrder S ep) es)[i]? = some (pickOrder (w.params.setOrder S ep) es)[i] := getElem?_pos _ i (by rw [sz]; exact c)
      rw [e]
      refine yes _ _ ?_ (fun z => ?_) c
      · rw [List.getElem?_map, Array.getElem?_toList, e]; rfl
      · unfold ledOf at z; rw [hf] at z; cases z
    · have e : (pickOrder (w.params.setOrder S ep) es)[i]? = none := getElem?_neg _ i (by rw [sz]; exact c)
      rw [e]
      exact no (by omega)
  | false =>
    have hl : ledOf w = true := by unfold ledOf; rw [hf]; rfl
    have tl : t.led = true := ok.led.trans hl
    rw [if_neg (by simp), if_neg (by show ¬ ((!t.plain && decide (es.size > 1)) = true); rw [ok.plain]; simp)]
    refine wpAny_bind ?_
    show wpAny _ _ (if (!t.led && !es.isEmpty) = true then unsupported "set:maker-not-led" else pure ()) _ _ s
    rw [if_neg (by rw [tl]; simp)]
    refine wpAny_pure ?_
    rw [hs hl, below_slotAt ok hi]
    have oe : orderOf w S ep es = es := by unfold orderOf; rw [hf]; rfl
    rw [oe] at yes
    by_cases c : i < es.size
    · have e : es[i]? = some es[i] := getElem?_pos _ i c
      have hl2 : i < t.place.size := by rw [ok.size]; exact c
      have e2 : t.place[i]? = some t.place[i] := getElem?_pos t.place _ hl2
      rw [e, e2]
      refine wpAny_pure (yes _ _ ?_ (fun _ => ?_) c)
      · rw [List.getElem?_map, Array.getElem?_toList, e]; rfl
      · unfold slotAt
        rw [if_neg (by omega), Nat.add_sub_cancel, Array.getD_eq_getD_getElem?, e2]; rfl
    · have e : es[i]? = none := getElem?_neg _ i c
      rw [e]
      exact wpAny_pure (no (by omega))

theorem it_type {I S : Addr} {slot i n ep : Nat} (h : IsIt s.heap I S slot i n ep) : s.TypeIs (.ref I) "set_iterator" := let ⟨o, ho, hc, _⟩ := h; ⟨o, ho, hc⟩
/-- the walk over the set at S, by the iterator at I -/
theorem walks_set (hh : A.handled = none) (hne : S ≠ I) (hd : o.data = .set es ep t) (ok : TabOk (ledOf w) t es.size) :
    Walks prog w A I [I, S] [I] es.size (fun i v => ((orderOf w S ep es).toList.map (·.2))[i]? = some v) (fun i h => i ≤ es.size ∧ h.get? S = some o ∧ ∃ slot, IsIt h I S slot i es.size ep ∧ (ledOf w = true → slot = slotAt t i)) where
  sub := fun b hb => by simp at hb; simp [hb]
  frame := fun i h h' ⟨hi, ho, slot, ⟨oi, a, b⟩, r⟩ hk => ⟨hi, hk S (by simp) _ ho, slot, ⟨oi, hk I (by simp) _ a, b⟩, r⟩
  item := fun i s Q E hi ⟨_, ho, slot, it, hs⟩ hQ => by
    have ty := it_type it
    obtain ⟨oi, hoi, hc, hdi⟩ := it
    unfold pyNext
    refine wpAny_bind (wpAny_attempt (wpAny_callSpecial?_slot (name := Str.ofString "__next__") ty slot_next (wpAny_call_entry slot_next ty entry_next ?_ (args_next _))))
    unfold Builtin.«set_iterator.__next__» slotArgs
    simp only [List.isEmpty_nil, Bool.not_true, Bool.false_eq_true, ↓reduceIte, List.length_nil, bne_self_eq_false]
    refine wpAny_bind (wpAny_pure ?_)
    dsimp only
    refine wpAny_bind (wpAny_fieldsOf hoi hdi ?_)
    dsimp only
    refine wpAny_bind (wpAny_setEntries_of ho hd ok.fits ?_)
    rw [if_neg (by simp)]
    refine wpAny_bind (set_next ho hd ok (i := i) (slot := slot) hs (by omega) (fun v slot' hv hs' _ => ?_) (fun e => absurd e (by omega)))
    dsimp only
    refine wpAny_bind (wpAny_setField hoi hdi (by simp) ?_)
    have h1 := Heap.get?_update_self (Obj.mapFields (·.setIfInBounds 0 (rawInt slot'))) hoi (Obj.isFreed_of_fields (Obj.data_mapFields hdi _))
    have d1 : (Obj.mapFields (·.setIfInBounds 0 (rawInt slot')) oi).data = .fields #[.int slot' 0, .int i 0, .ref S, .int es.size 0, .int ep 0] := by rw [Obj.data_mapFields hdi]; simp [rawInt]
    refine wpAny_bind (wpAny_setField h1 d1 (by simp) (wpAny_pure ⟨v, rfl, wpAny_pure (hQ v _ s.toks hv ⟨by omega, ?_, slot', ?_, hs'⟩ fun b ob hb e => ?_)⟩))
    · exact ((Heap.SameBut.update _ I _).2 S hne).trans (((Heap.SameBut.update _ I _).2 S hne).trans ho)
    · refine ⟨_, Heap.get?_update_self _ h1 (Obj.isFreed_of_fields (Obj.data_mapFields d1 _)), (Obj.cls_mapFields ..).trans ((Obj.cls_mapFields ..).trans hc), ?_⟩
      rw [Obj.data_mapFields d1]
      simp [rawInt]
    · have hb' : b ≠ I := fun e => hb (by simp [e])
      exact ((Heap.SameBut.update _ I _).2 b hb').trans (((Heap.SameBut.update _ I _).2 b hb').trans e)
  done := fun s Q E ⟨_, ho, slot, it, hs⟩ hQ => by
    have ty := it_type it
    obtain ⟨oi, hoi, hc, hdi⟩ := it
    unfold pyNext
    refine wpAny_bind (wpAny_attempt (wpAny_callSpecial?_slot (name := Str.ofString "__next__") ty slot_next (wpAny_call_entry slot_next ty entry_next ?_ (args_next _))))
    unfold Builtin.«set_iterator.__next__» slotArgs
    simp only [List.isEmpty_nil, Bool.not_true, Bool.false_eq_true, ↓reduceIte, List.length_nil, bne_self_eq_false]
    refine wpAny_bind (wpAny_pure ?_)
    dsimp only
    refine wpAny_bind (wpAny_fieldsOf hoi hdi ?_)
    dsimp only
    refine wpAny_bind (wpAny_setEntries_of ho hd ok.fits ?_)
    rw [if_neg (by simp)]
    refine wpAny_bind (set_next ho hd ok (i := es.size) (slot := slot) hs (Nat.le_refl _) (fun v slot' hv hs' c => absurd c (Nat.lt_irrefl _)) (fun e => ?_))
    dsimp only
    refine wpAny_bind (wpAny_setField hoi hdi (by simp) ?_)
    show wpAny _ _ (newExc (.type "StopIteration") [] >>= _) _ _ _
    refine wpAny_bind ?_
    simp only [newExc, newTuple]
    refine wpAny_bind (wpAny_newObj_type ?_ (by size_fits))
    refine wpAny_bind (m := firstArgMember _ _) (wpAny_of_eq (a := Value.none) (by first | rfl | (simp only [firstArgMember]; rfl)) ?_)
    refine wpAny_newObj_type ?_ (by size_fits)
    simp only [raiseNew]
    refine wpAny_bind (wpAny_handled ?_)
    first | rw [show A.in1.handled = none from hh] | rw [hh]
    refine wpAny_bind (wpAny_pure (wpAny_throw ?_))
    refine wpAny_bind (wpAny_isInstance (T := "StopIteration") (b := true) ⟨_, Heap.get?_push_size _ rfl, rfl⟩ isSubtype_stop ?_)
    refine wpAny_pure (hQ _ s.toks fun b ob hb e => ?_)
    have hb' : b ≠ I := fun e => hb (by simp [e])
    exact Heap.get?_push_of_some _ (Heap.get?_push_of_some _ (((Heap.SameBut.update _ I _).2 b hb').trans e))
  self := fun i s Q E ⟨_, ho, slot, it, hs⟩ hQ => by
    have ty := it_type it
    refine wpAny_pyIter_slot ty slot_iter (wpAny_call_entry slot_iter ty entry_iter ?_ (args_iter _))
    show wpAny _ _ (ret (.ref I)) _ _ s
    exact wpAny_pure ⟨_, rfl, "set_iterator", _, ty, slot_next.lookup, hQ⟩
/-- iter(S) -/
theorem iter_set {Q : Value → Shared → Prop} (ho : s.heap.get? S = some o) (hex : o.ExactSet) (hd : o.data = .set es ep t) (ok : TabOk (ledOf w) t es.size)
    (h : Q (.ref s.heap.objs.size) { s with heap := s.heap.push { cls := .type "set_iterator", data := .fields #[.int 0 0, .int 0 0, .ref S, .int es.size 0, .int ep 0] } }) : wpAny (model prog w) A (pyIter (.ref S)) Q E s := by
  have hT : s.TypeIs (.ref S) "set" := ⟨o, ho, hex.1⟩
  refine wpAny_pyIter_slot hT F.slot_set_iter (wpAny_call_entry F.slot_set_iter hT entry_set_iter ?_ (F.args_set_iter_1 _))
  unfold Builtin.«frozenset.__iter__» Builtin.Frozenset.slot0 slotArgs
  simp only [List.isEmpty_nil, Bool.not_true, Bool.false_eq_true, ↓reduceIte, bind_assoc, List.length_nil, bne_self_eq_false]
  unfold Builtin.Frozenset.addrOf Builtin.Frozenset.sizeOf
  refine wpAny_bind (wpAny_pure ?_)
  try dsimp only
  refine wpAny_bind (wpAny_pure ?_)
  refine wpAny_bind (wpAny_bind (wpAny_setEntries_of ho hd ok.fits (wpAny_pure ?_)))
  refine wpAny_bind (m := setDrawn S) ?_
  unfold setDrawn
  refine wpAny_bind (wpAny_setState_of ho hd ok.fits ?_)
  dsimp only
  refine wpAny_bind (byText (wpAny_pure ?_))
  rw [if_neg (by show ¬ ((!w.params.followText "set-order" && (!t.plain && decide (es.size > 1))) = true); rw [ok.plain]; simp)]
  refine wpAny_bind (wpAny_pure ?_)
  refine wpAny_bind (wpAny_setEpoch_of ho hd ok.fits ?_)
  exact wpAny_bind (wpAny_newObj_type (wpAny_pure ⟨_, rfl, "set_iterator", _, ⟨_, Heap.get?_push_size _ rfl, rfl⟩, slot_next.lookup, h⟩))
/-- the items of the set at S, as a list -/
theorem collect_set (hh : A.handled = none) {Q : List Value → Shared → Prop} (ho : s.heap.get? S = some o) (hex : o.ExactSet) (hd : o.data = .set es ep t) (ok : TabOk (ledOf w) t es.size)
    (h : ∀ (vs : List Value) (h' : Heap) (tk : Nat), vs.Perm (es.toList.map (·.2)) → (∀ b ob, s.heap.get? b = some ob → h'.get? b = some ob) → s.heap.objs.size < h'.objs.size → Q vs { s with heap := h', toks := tk }) :
    wpAny (model prog w) A (collect (.ref S)) Q E s := by
  have hlt : S < s.heap.objs.size := Heap.lt_size ho
  unfold collect
  refine wpAny_bind (wpAny_runValue (codeAny_builtin entry_proto_collect' ?_))
  show wpAny _ _ (do again (.builtin "list.__iadd__" ⟨[← newList [], .ref S], []⟩)) _ _ s
  refine wpAny_bind (wpAny_newList (wpAny_pure ⟨Code.quiet_builtin _ (by decide +kernel), codeAny_builtin entry_list_iadd' ?_⟩))
  show wpAny _ _ (Builtin.List.listExtendWith (.ref s.heap.objs.size) (.ref S) (.ref s.heap.objs.size)) _ _ { s with heap := s.heap.push (seqObj "list" #[] 0) }
  unfold Builtin.List.listExtendWith
  have ho' : (s.heap.push (seqObj "list" #[] 0)).get? S = some o := Heap.get?_push_of_some _ ho
  have hT : Shared.TypeIs { s with heap := s.heap.push (seqObj "list" #[] 0) } (.ref S) "set" := ⟨o, ho', hex.1⟩
  refine wpAny_bind (wpAny_typeOf hT ?_)
  have h1 : Builtin.List.listSameRef (.ref s.heap.objs.size) (.ref S) = false := by
    have : s.heap.objs.size ≠ S := Nat.ne_of_gt hlt
    simp [Builtin.List.listSameRef, this]
  have h2 : (Value.type "set" == Value.type "list") = false := by decide
  have h3 : (Value.type "set" == Value.type "tuple") = false := by decide
  simp only [h1, h2, h3, Bool.or_false, Bool.false_eq_true, if_false]
  refine wpAny_bind (iter_set (s := { s with heap := s.heap.push (seqObj "list" #[] 0) }) ho' hex hd ok ?_)
  have sz1 : (s.heap.push (seqObj "list" #[] 0)).objs.size = s.heap.objs.size + 1 := by rw [Heap.size_push]
  have ho2 : ((s.heap.push (seqObj "list" #[] 0)).push { cls := .type "set_iterator", data := .fields #[.int 0 0, .int 0 0, .ref S, .int es.size 0, .int ep 0] }).get? S = some o := Heap.get?_push_of_some _ ho'
  have hT2 : Shared.TypeIs { s with heap := (s.heap.push (seqObj "list" #[] 0)).push { cls := .type "set_iterator", data := .fields #[.int 0 0, .int 0 0, .ref S, .int es.size 0, .int ep 0] } } (.ref S) "set" := ⟨o, ho2, hex.1⟩
  refine wpAny_bind (wpAny_holding ?_)
  unfold Builtin.List.listLengthHint
  refine wpAny_bind (wpAny_specialOf hT2 F.slot_set_len.lookup ?_)
  dsimp only
  have sp : splitId "set.__len__" = some ("set", "__len__") := by kernel_rfl
  rw [sp]
  dsimp only
  refine wpAny_bind (wpAny_isInstance hT2 sub_set_self ?_)
  simp only [Bool.not_true, Bool.false_eq_true, if_false]
  rw [if_pos (by decide +kernel)]
  refine wpAny_bind (wpAny_typeOf hT2 ?_)
  dsimp only
  refine wpAny_pure ?_
  rw [if_pos (by decide +kernel)]
  refine wpAny_bind (wpAny_rule ?_)
  have hL : ((s.heap.push (seqObj "list" #[] 0)).push { cls := .type "set_iterator", data := .fields #[.int 0 0, .int 0 0, .ref S, .int es.size 0, .int ep 0] }).get? s.heap.objs.size = some { cls := .type "list", data := .seq #[] 0 } :=
    Heap.get?_push_of_some _ (Heap.get?_push_size _ rfl)
  refine wpAny_bind ?_
  show wpAny _ _ (updateSeq s.heap.objs.size (·.push .none) >>= fun _ => updateSeq s.heap.objs.size (·.pop)) _ _ _
  refine wpAny_bind (wpAny_updateSeq hL rfl ?_)
  have hL2 := Heap.get?_update_self (Obj.mapSeq (·.push Value.none)) hL rfl
  refine wpAny_updateSeq (hz := by seq_fits) hL2 rfl ?_
  have hL3 := Heap.get?_update_self (Obj.mapSeq (·.pop)) hL2 rfl
  generalize hH : (s.heap.push (seqObj "list" #[] 0)).push { cls := .type "set_iterator", data := .fields #[.int 0 0, .int 0 0, .ref S, .int es.size 0, .int ep 0] } = H1 at *
  have oth : ∀ b ob, b ≠ s.heap.objs.size → H1.get? b = some ob → ((H1.update s.heap.objs.size (Obj.mapSeq (·.push Value.none))).update s.heap.objs.size (Obj.mapSeq (·.pop))).get? b = some ob :=
    fun b ob hb e => (Heap.get?_update_other _ _ (Ne.symm hb)).trans ((Heap.get?_update_other _ _ (Ne.symm hb)).trans e)
  have nSI : S ≠ s.heap.objs.size + 1 := Nat.ne_of_lt (Nat.lt_succ_of_lt hlt)
  have nSL : S ≠ s.heap.objs.size := Nat.ne_of_lt hlt
  have hIt : H1.get? (s.heap.objs.size + 1) = some { cls := .type "set_iterator", data := .fields #[.int 0 0, .int 0 0, .ref S, .int es.size 0, .int ep 0] } := by
    rw [← hH, ← sz1]; exact Heap.get?_push_size _ rfl
  have W := (walks_set (prog := prog) (w := w) (A := A.in1) (I := s.heap.objs.size + 1) (S := S) (o := o) (es := es) (ep := ep) (t := t) (by simp [hh]) nSI hd ok).toS
  rw [sz1]
  refine wpAny_pure ⟨plainId_quiet F.plain_extend_loop _, codeAny_extend_loopS W (by have := ok.room; have := mask_le ok.mask; have := sizeLine_eq; omega) s.heap.objs.size (by simp only [List.mem_cons, List.not_mem_nil, or_false, not_or]; exact ⟨Nat.ne_of_lt (Nat.lt_succ_self _), Nat.ne_of_gt hlt⟩) _ es.size 0 _ _ _ rfl (Nat.zero_le _)
    ⟨Nat.zero_le _, oth S o nSL ho2, 0, ⟨_, oth _ _ (Nat.succ_ne_self _) hIt, rfl, rfl⟩, fun _ => rfl⟩ hL3 (ItemsOf.nil _) fun s' acc' c' hm hS' hacc => ?_⟩
  obtain ⟨h', g', d', tk', os'⟩ := s'
  have eg : g' = s.gens := hm.gens
  have ed : d' = s.drawn := hm.drawn
  have eo : os' = s.os := hm.os
  subst eg; subst ed; subst eo
  show wpAny _ A (load s.heap.objs.size >>= _) _ _ _
  refine wpAny_bind (wpAny_load hS' ?_)
  have el : acc'.toList = (orderOf w S ep es).toList.map (·.2) := by
    have l2 : ((orderOf w S ep es).toList.map (·.2)).length = es.size := by rw [List.length_map, (orderOf_perm w S ep es).length_eq, Array.length_toList]
    refine List.ext_getElem? fun i => ?_
    by_cases c : i < es.size
    · have ci : i < acc'.size := by rw [hacc.1]; exact c
      have e : acc'[i]? = some acc'[i] := getElem?_pos _ i ci
      rw [Array.getElem?_toList, e]
      exact (hacc.2 i _ e).symm
    · rw [List.getElem?_eq_none (by rw [Array.length_toList, hacc.1]; omega), List.getElem?_eq_none (by rw [l2]; omega)]
  refine wpAny_pure (h _ h' tk' (by rw [el]; exact (orderOf_perm w S ep es).map _) (fun b ob e => ?_) (Heap.lt_size hS'))
  have hb : b < s.heap.objs.size := Heap.lt_size e
  refine hm.heap b ob ?_ (oth b ob (Nat.ne_of_lt hb) ?_)
  · simp only [List.mem_cons, List.not_mem_nil, or_false, not_or]
    exact ⟨Nat.ne_of_lt hb, Nat.ne_of_lt (Nat.lt_succ_of_lt hb)⟩
  · rw [← hH]; exact Heap.get?_push_of_some _ (Heap.get?_push_of_some _ e)
end
end ST
end
section
set_option linter.all false
set_option maxRecDepth 100000
set_option maxHeartbeats 4000000
namespace ST
open PySem SP PyProof.Rows

abbrev keyI (k : List Int) : List (Int ⊕ List Nat) := k.map Sum.inl
theorem tupItems_ints {prog : Program} {w : World} {k : List Int} {vs : List Value} (h : ItemsAre (PySem.intKind prog w) k vs) : ∀ i, tupItems (fun _ => false) i vs = some (keyI k) := by
  induction h with
  | nil => intro i; rfl
  | cons h1 _ ih =>
    intro i
    obtain ⟨t, rfl⟩ := Value.isInt_shape h1
    show (if false = true then none else (tupItems (fun _ => false) (i + 1) _).map (Sum.inl _ :: ·)) = _
    rw [if_neg Bool.false_ne_true, ih (i + 1)]
    rfl
theorem tupKeyC_key {prog : Program} {w : World} {h : Heap} {k : List Int} {b : Addr} (x : Key prog w h k b) : G.tupKeyC h (fun _ => false) (.ref b) = some (keyI k) := by
  obtain ⟨o, items, n, ho, hc, hd, hi⟩ := x
  unfold G.tupKeyC
  rw [if_pos (by unfold G.isTupObj; dsimp only; rw [ho]; dsimp only; rw [hc]; rfl)]
  unfold tupKey
  dsimp only
  rw [ho]
  dsimp only
  rw [hd]
  exact tupItems_ints hi 0
theorem tupsOf_keys {prog : Program} {w : World} {h : Heap} {key : Addr → List Int} : ∀ {cs : List Addr}, (∀ c ∈ cs, Key prog w h (key c) c ∧ key c ≠ []) → ∃ fs, TupsOf h (fun _ => false) (cs.map Value.ref) fs
  | [], _ => ⟨[], .nil⟩
  | c :: cs, hc => by
    obtain ⟨fs, r⟩ := tupsOf_keys (cs := cs) fun d hd => hc d (by simp [hd])
    obtain ⟨⟨o, items, n, ho, hcl, hd, hi⟩, hne⟩ := hc c (by simp)
    refine ⟨items.toList.headD .none :: fs, .cons ⟨c, o, items, n, rfl, ho, hcl, hd, ?_, fun _ => ?_, fun z => nomatch z⟩ r⟩
    · cases hl : items.toList with
      | nil =>
        rw [hl] at hi
        exact absurd (List.length_eq_zero_iff.mp hi.length) hne
      | cons v vs => rw [← Array.getElem?_toList, hl]; rfl
    · cases hl : items.toList with
      | nil =>
        rw [hl] at hi
        exact absurd (List.length_eq_zero_iff.mp hi.length) hne
      | cons v vs =>
        obtain ⟨i, t, e⟩ := items_ints hi v (by rw [hl]; simp)
        exact ⟨i, t, e⟩
/-- the order of the keys -/
def KeyLe (a b : List Int) : Prop := lexLt itemOrd (keyI b) (keyI a) = false
section
variable {prog : Program} {w : World} {A : Around} {E : Value → Shared → Prop} {s : Shared} {S : Addr} {bs : List Addr} {key : Addr → List Int}
theorem sort_result {h : Heap} {cs : List Addr} {arr : Array Keyed} (hk : ∀ c ∈ cs, Key prog w h (key c) c) (hp : arr.Perm (pairsOf (cs.map Value.ref))) (hs : SortedToK (G.tupKindC h (fun _ => false)) arr (pairsOf (cs.map Value.ref)).size) :
    ∃ ds : List Addr, (arr.map (·.2)).toList = ds.map Value.ref ∧ ds.Perm cs ∧ ds.Pairwise fun a b => KeyLe (key a) (key b) := by
  have pl : arr.toList.Perm ((cs.map Value.ref).zip (cs.map Value.ref)) := by
    have := Array.perm_iff_toList_perm.mp hp
    rw [pairsOf_toList] at this
    exact this
  have sn : (arr.toList.map (·.2)).Perm (cs.map Value.ref) := by
    have := pl.map (·.2)
    rw [List.map_snd_zip (by simp)] at this
    exact this
  obtain ⟨ds, e, dp⟩ := perm_refs sn
  refine ⟨ds, by rw [Array.toList_map]; exact e, dp, ?_⟩
  have hsz : arr.size = ds.length := by have := congrArg List.length e; simpa using this
  have hps : (pairsOf (cs.map Value.ref)).size = arr.size := hp.size_eq.symm
  have keyAt : ∀ (i : Nat) (hi : i < ds.length), KK (G.tupKindC h (fun _ => false)) arr i = keyI (key ds[i]) := fun i hi => by
    have ha : i < arr.size := by rw [hsz]; exact hi
    have eg : arr[i]? = some arr[i] := getElem?_pos arr i ha
    have m : arr[i] ∈ arr.toList := by simp
    have same := (mem_zip_self (pl.mem_iff.mp m)).1
    have e2 : arr[i].2 = Value.ref ds[i] := by
      have := congrArg (·[i]?) e
      simp only [List.getElem?_map, Array.getElem?_toList, eg, List.getElem?_eq_getElem hi] at this
      exact Option.some.inj this
    unfold KK
    rw [eg]
    dsimp only
    rw [same, e2, tupKeyC_key (hk ds[i] (dp.mem_iff.mp (List.getElem_mem hi)))]
    rfl
  rw [List.pairwise_iff_getElem]
  intro i j hi hj hij
  have := hs i j (by omega) (by rw [hps, hsz]; exact hj)
  rw [keyAt i hi, keyAt j hj] at this
  exact this
theorem sorted_set {Q : Value → Shared → Prop} (hh : A.handled = none) (hS : SetAt (ledOf w) s.heap S bs) (hkey : ∀ b ∈ bs, Key prog w s.heap (key b) b ∧ key b ≠ [])
    (h : ∀ (h' : Heap) (tk : Nat) (l : Addr) (ds : List Addr) (e : Nat), ds.Perm bs → (ds.Pairwise fun a b => KeyLe (key a) (key b)) → (∀ b ob, s.heap.get? b = some ob → h'.get? b = some ob) → s.heap.objs.size ≤ l →
      h'.get? l = some (seqObj "list" (ds.map Value.ref).toArray e) → Q (.ref l) { s with heap := h', toks := tk }) :
    wpAny (model prog w) A (call (.builtin "sorted") [.ref S]) Q E s := by
  obtain ⟨o, es, ep, t, ho, hex, hd, ok, hes⟩ := hS
  refine Calls.call_function_entry kind_sorted plain_sorted entry_sorted (args_sorted1 _) ?_
  unfold Builtin.«sorted»
  refine wpAny_bind (m := checkCount "sorted" 1 1 _) (wpAny_pure ?_)
  refine wpAny_bind (collect_set (by simp [hh]) ho hex hd ok fun vs h1 tk hp hk hlt => ?_)
  rw [hes] at hp
  obtain ⟨cs, rfl, cp⟩ := perm_refs hp
  have lines : (cs.map Value.ref).length ≤ sizeLine := by
    have l1 := cp.length_eq
    have l2 : es.size = bs.length := by have := congrArg List.length hes; simpa using this
    have := ok.room
    have := mask_le ok.mask
    have := sizeLine_eq
    rw [List.length_map]
    omega
  refine wpAny_bind (wpAny_newList ?_ lines)
  have hoL : (h1.push (seqObj "list" (cs.map Value.ref).toArray 0)).get? h1.objs.size = some (seqObj "list" (cs.map Value.ref).toArray 0) := Heap.get?_push_size _ rfl
  have kk : ∀ c ∈ cs, Key prog w (h1.push (seqObj "list" (cs.map Value.ref).toArray 0)) (key c) c ∧ key c ≠ [] := fun c hc => by
    obtain ⟨a, b⟩ := hkey c (cp.mem_iff.mp hc)
    exact ⟨a.at fun ob e => Heap.get?_push_of_some _ (hk _ _ e), b⟩
  obtain ⟨fs, ht⟩ := tupsOf_keys kk
  have old : ∀ b ob, s.heap.get? b = some ob → h1.get? b = some ob := hk
  have sz : s.heap.objs.size ≤ h1.objs.size := Nat.le_of_lt hlt
  refine wpAny_bind (wpAny_holding (wpAny_call_entry slot_list_sort ⟨_, hoL, rfl⟩ entry_list_sort (G.list_sort_tups (shape := fun _ => false) (s := { s with heap := h1.push (seqObj "list" (cs.map Value.ref).toArray 0), toks := tk }) hoL ht
    (fun v hv => by
      obtain ⟨c, hc, rfl⟩ := List.mem_map.mp hv
      exact ⟨_, tupKeyC_key (kk c hc).1⟩) lines fun st' a1 a2 a3 => ⟨_, rfl, ?retG⟩) (args_list_sort _)))
  case retG =>
    obtain ⟨ds, e1, e2, e3⟩ := sort_result (fun c hc => (kk c hc).1) a1 a2
    obtain ⟨ee, he⟩ := sortedHeap_at (out := (arrOf st').map (·.2)) hoL
    refine wpAny_pure ⟨_, rfl, h _ tk h1.objs.size ds ee (e2.trans cp) e3 (fun b ob e => ?_) sz ?_⟩
    · have lt : b < h1.objs.size := Heap.lt_size (hk b ob e)
      rw [sortedHeap_old (Nat.ne_of_lt lt) (by rw [Heap.size_push]; exact Nat.lt_succ_of_lt lt)]
      exact Heap.get?_push_of_some _ (hk b ob e)
    · rw [he, ← e1, Array.toArray_toList]
end
end ST
end
section
set_option Elab.async false
set_option linter.all false
set_option maxRecDepth 100000
/-! THE HAND LAYER, for ints, bools, texts, own classes, lists, tuples, dicts, comprehensions, walks over dicts, enumerate, zip, reversed, texts, calls, loops. Paste it whole ahead of your own text; what your proof does not reach may be deleted. -/
namespace L2
open PySem PySem.Spec PyProof.Rows

/-- a key: an int or a str -/
abbrev Key := Sum Int Str
def keyIs : Key → Value → Bool
  | .inl k, v => Value.isInt k v
  | .inr x, v => Value.isStrOf x v
def keyH (w : World) : Key → Int
  | .inl k => hashInt k
  | .inr x => hashStr w x
theorem keyIs_shape : ∀ {k : Key} {v : Value}, keyIs k v = true → (∃ i t, k = Sum.inl i ∧ v = Value.int i t) ∨ (∃ x t, k = Sum.inr x ∧ v = Value.str x t)
  | .inl i, v, h => by
    obtain ⟨t, e⟩ := Value.isInt_shape (k := i) (v := v) h
    exact .inl ⟨i, t, rfl, e⟩
  | .inr x, v, h => by
    obtain ⟨t, e⟩ := Value.isStrOf_shape (x := x) (v := v) h
    exact .inr ⟨x, t, rfl, e⟩
theorem keyIs_int (i : Int) (t : Tok) : keyIs (.inl i) (.int i t) = true := by simp [keyIs, Value.isInt]
theorem keyIs_str (x : Str) (t : Tok) : keyIs (.inr x) (.str x t) = true := by simp [keyIs, Value.isStrOf]
theorem key_ll (a b : Int) : decide ((Sum.inl a : Key) = Sum.inl b) = (a == b) := by
  by_cases e : a = b
  · subst e; simp
  · have h : ¬ (Sum.inl a : Key) = Sum.inl b := fun q => e (Sum.inl.inj q)
    rw [decide_eq_false h]
    exact (beq_eq_false_iff_ne.mpr e).symm
theorem key_rr (a b : Str) : decide ((Sum.inr a : Key) = Sum.inr b) = decide (a = b) := by
  by_cases e : a = b
  · subst e; simp
  · have h : ¬ (Sum.inr a : Key) = Sum.inr b := fun q => e (Sum.inr.inj q)
    rw [decide_eq_false h, decide_eq_false e]
theorem key_lr (a : Int) (b : Str) : decide ((Sum.inl a : Key) = Sum.inr b) = false := decide_eq_false (fun q => nomatch q)
theorem key_rl (a : Str) (b : Int) : decide ((Sum.inr a : Key) = Sum.inl b) = false := decide_eq_false (fun q => nomatch q)

def mixKind (prog : Program) (w : World) : PySem.KeyKind prog w Key where
  is := keyIs
  hash := keyH w
  inj := fun v a b ha hb => by
    rcases keyIs_shape ha with ⟨i, t, rfl, rfl⟩ | ⟨x, t, rfl, rfl⟩
    · rcases keyIs_shape hb with ⟨j, u, rfl, e⟩ | ⟨y, u, rfl, e⟩
      · injection e with e1 _; rw [e1]
      · exact nomatch e
    · rcases keyIs_shape hb with ⟨j, u, rfl, e⟩ | ⟨y, u, rfl, e⟩
      · exact nomatch e
      · injection e with e1 _; rw [e1]
  byValue := fun k v h => by
    rcases keyIs_shape h with ⟨i, t, rfl, rfl⟩ | ⟨x, t, rfl, rfl⟩ <;> rfl
  pyHash := fun hv h => by
    rcases keyIs_shape hv with ⟨i, t, rfl, rfl⟩ | ⟨x, t, rfl, rfl⟩
    · exact wpAny_pyHash_int h
    · exact wpAny_pyHash_str h
  eqBool := fun hu hv h => by
    rcases keyIs_shape hu with ⟨i, t, rfl, rfl⟩ | ⟨x, t, rfl, rfl⟩
    · rcases keyIs_shape hv with ⟨j, u, rfl, rfl⟩ | ⟨y, u, rfl, rfl⟩
      · rw [key_ll] at h; exact wpAny_eqBool_int h
      · rw [key_lr] at h; exact SeqAt.EqAt.int_str i t y u _ _ _ _ h
    · rcases keyIs_shape hv with ⟨j, u, rfl, rfl⟩ | ⟨y, u, rfl, rfl⟩
      · rw [key_rl] at h; exact SeqAt.EqAt.str_int x t j u _ _ _ _ h
      · rw [key_rr] at h; exact wpAny_eqBool_str h
  «strs» := fun k x t v h => by
    rcases keyIs_shape h with ⟨i, u, rfl, e⟩ | ⟨y, u, rfl, e⟩
    · exact nomatch e
    · injection e with e1 _
      subst e1
      cases v <;> rfl

theorem mixKind_int (prog : Program) (w : World) (i : Int) (t : Tok) : (mixKind prog w).is (.inl i) (.int i t) = true := keyIs_int i t
theorem mixKind_str (prog : Program) (w : World) (x : Str) (t : Tok) : (mixKind prog w).is (.inr x) (.str x t) = true := keyIs_str x t
end L2

namespace L2
open PySem PySem.Spec PyProof.Rows

/-- a value, without the heap -/
inductive V where
  | non | bl (b : Bool) | int (i : Int) | str (x : Str) | byt (b : Array UInt8) | flt (b : UInt64) | ref (a : Addr) | ty (n : String)
  deriving DecidableEq

def RelV : V → Value → Prop
  | .non, u => u = Value.none
  | .bl b, u => u = Value.bool b
  | .int i, u => ∃ t, u = Value.int i t
  | .str x, u => ∃ t, u = Value.str x t
  | .byt b, u => ∃ t, u = Value.bytes b t
  | .flt b, u => ∃ t, u = Value.float b t
  | .ref a, u => u = Value.ref a
  | .ty n, u => u = Value.type n

abbrev Vals : List V → List Value → Prop := Paired RelV
theorem Vals.length {xs : List V} {us : List Value} (r : Vals xs us) : xs.length = us.length := Paired.length r
theorem Vals.get : ∀ {xs : List V} {us : List Value} {i : Nat} {x : V}, Vals xs us → xs[i]? = some x → ∃ u, us[i]? = some u ∧ RelV x u
  | _, _, _, _, .nil, e => by simp at e
  | _, _, 0, _, .cons r _, e => by simp at e; subst e; exact ⟨_, rfl, r⟩
  | _, _, i + 1, x, .cons _ t, e => by
    obtain ⟨u, h1, h2⟩ := Vals.get (i := i) (x := x) t (by simpa using e)
    exact ⟨u, by simpa using h1, h2⟩
theorem Vals.append : ∀ {xs ys : List V} {us ws : List Value}, Vals xs us → Vals ys ws → Vals (xs ++ ys) (us ++ ws)
  | _, _, _, _, .nil, s => s
  | _, _, _, _, .cons r t, s => .cons r (Vals.append t s)
theorem Vals.take : ∀ {xs : List V} {us : List Value} (n : Nat), Vals xs us → Vals (xs.take n) (us.take n)
  | _, _, 0, _ => .nil
  | _, _, _ + 1, .nil => .nil
  | _, _, n + 1, .cons r t => .cons r (Vals.take n t)
theorem Vals.drop : ∀ {xs : List V} {us : List Value} (n : Nat), Vals xs us → Vals (xs.drop n) (us.drop n)
  | _, _, 0, r => r
  | _, _, _ + 1, .nil => .nil
  | _, _, n + 1, .cons _ t => Vals.drop n t

def RelO : Option V → Option Value → Prop
  | some v, some u => RelV v u
  | none, none => True
  | _, _ => False
def KV {κ : Type} : List (κ × V) → List (κ × Value) → Prop := Paired fun (p : κ × V) (q : κ × Value) => p.1 = q.1 ∧ RelV p.2 q.2

/-- a key of a dict (00_mix): an int or a text -/
def kV : Key → V
  | .inl i => .int i
  | .inr x => .str x

/-- what stands at a tracked address -/
inductive HO where
  /-- a list -/
  | lst (xs : List V)
  /-- a tuple (never changes) -/
  | tup (xs : List V)
  /-- a dict whose keys are ints and texts; one whose keys are tuples of ints and texts (the empty one is both) -/
  | dK (kvs : List (Key × V)) | dT (kvs : List (List Key × V))
  /-- a set of ints: its members, its size -/
  | set (S : Int → Bool) (n : Nat)
  /-- an instance of the class at C, its dict at dx, its attributes -/
  | ins (C dx : Addr) (fs : List (Str × V))
  /-- the dict of the instance at x -/
  | own (x : Addr)
  /-- the dict of an exception -/
  | xd (fs : List (Str × V))
  /-- a bound method, f of x -/
  | met (f x : Addr)
  /-- a range object lo, lo + 1, .. below hi -/
  | rng (lo hi : Int)
  /-- a thing that is known to the object (the script; a dict while a loop walks it): read, never written while it is so -/
  | frz (o : Obj) (u : HO)
  /-- a code object's table -/
  | tbl (ps : Array Value)
  /-- any other thing, by what is true of its one object (a def of one's own: SetO a S n := HO.ext fun h => ..) -/
  | ext (φ : Heap → Prop)

abbrev Hp := Addr → Option HO
def upd (H : Hp) (a : Addr) (o : HO) : Hp := fun b => if b = a then some o else H b
theorem upd_same {H : Hp} {a : Addr} {o : HO} : upd H a o a = some o := by unfold upd; rw [if_pos rfl]
theorem upd_ne {H : Hp} {a b : Addr} {o : HO} (h : b ≠ a) : upd H a o b = H b := by unfold upd; rw [if_neg h]
/-- two objects of different content stand apart -/
theorem ne_of {H : Hp} {a b : Addr} {o u : HO} (h : H a = some o) (h' : H b = some u) (d : o ≠ u) : a ≠ b := by
  intro e; subst e; rw [h] at h'; exact d (Option.some.inj h')
theorem ne_of_none {H : Hp} {a b : Addr} {o : HO} (h : H a = some o) (h' : H b = none) : a ≠ b := by
  intro e; subst e; rw [h] at h'; cases h'

section
variable (P : Program) (w : World)
def ObjOk (H : Hp) (h : Heap) (a : Addr) : HO → Prop
  | .lst xs => xs.length ≤ sizeLine ∧ ∃ (its : List Value) (n : Nat), Vals xs its ∧ h.get? a = some { cls := .type "list", data := .seq its.toArray n }
  | .tup xs => xs.length ≤ sizeLine ∧ ∃ its : List Value, Vals xs its ∧ IsTup h a its.toArray
  | .dK kvs => kvs.length ≤ sizeLine ∧ (a == sysModules) = false ∧ ∃ vs, KV kvs vs ∧ h.DictOf (mixKind P w) a vs
  | .dT kvs => kvs.length ≤ sizeLine ∧ (a == sysModules) = false ∧ ∃ xs : List (List Key × Addr × Value),
      Paired (fun (p : List Key × V) (q : List Key × Addr × Value) => p.1 = q.1 ∧ H q.2.1 = some (.tup (p.1.map kV)) ∧ RelV p.2 q.2.2) kvs xs ∧
      ∃ o es ep, h.get? a = some o ∧ o.ExactDict ∧ o.data = .dict es ep ∧ es.toList = xs.map (entryOfKey (tupleKind (mixKind P w))) ∧ (xs.map (·.1)).Nodup
  | .set S n => h.SetOf (intKind P w) a S n
  | .ins C dx fs => H dx = some (.own a) ∧ fs.length ≤ 1000 ∧ dx ≠ a ∧ h.get? a = some (PySem.W.instObj C dx) ∧
      ∃ mA, h.Ns1 dx mA ∧ (∀ f, RelO (fs.lookup f) (mA f)) ∧ PySem.Within mA (fs.map (·.1))
  | .own _ => ∃ o, h.get? a = some o
  | .xd fs => ∃ mA, h.Ns1 a mA ∧ ∀ f, RelO (fs.lookup f) (mA f)
  | .rng lo hi => ∃ t u v, h.get? a = some { cls := .type "range", data := .fields #[.int lo t, .int hi u, .int 1 v] }
  | .frz o u => h.get? a = some o ∧ ObjOk H h a u
  | .tbl ps => h.get? a = some { cls := .none, data := .fields ps }
  | .met f x => h.get? a = some (PySem.W.methodObj (.ref f) (.ref x))
  | .ext φ => φ h ∧ (∃ o, h.get? a = some o) ∧ ∀ h1 h2 : Heap, φ h1 → (∀ o, h1.get? a = some o → h2.get? a = some o) → φ h2
/-- the abstract heap is held -/
def HOk (H : Hp) (h : Heap) : Prop := ∀ a o, H a = some o → ObjOk P w H h a o
end

section
variable {P : Program} {w : World} {H H' : Hp} {h h' : Heap} {a : Addr} {o : HO}
theorem ObjOk.lt (x : ObjOk P w H h a o) : a < h.objs.size := by
  cases o with
  | lst xs => obtain ⟨_, _, _, _, e⟩ := x; exact Heap.lt_size e
  | tup xs => obtain ⟨_, _, _, p⟩ := x; exact p.lt
  | dK kvs => obtain ⟨_, _, _, _, o, _, _, e, _⟩ := x; exact Heap.lt_size e
  | dT kvs => obtain ⟨_, _, _, _, o, _, _, e, _⟩ := x; exact Heap.lt_size e
  | set S n => obtain ⟨o, _, _, _, e, _⟩ := x; exact Heap.lt_size e
  | ins C dx fs => obtain ⟨_, _, _, e, _⟩ := x; exact Heap.lt_size e
  | own y => obtain ⟨_, e⟩ := x; exact Heap.lt_size e
  | xd fs => obtain ⟨_, ⟨_, _, _, e, _⟩, _⟩ := x; exact Heap.lt_size e
  | rng lo hi => obtain ⟨_, _, _, e⟩ := x; exact Heap.lt_size e
  | frz ob u => obtain ⟨e, _⟩ := x; exact Heap.lt_size e
  | tbl ps => exact Heap.lt_size (show h.get? a = some _ from x)
  | met f y => exact Heap.lt_size (show h.get? a = some _ from x)
  | ext φ => obtain ⟨_, ⟨_, e⟩, _⟩ := x; exact Heap.lt_size e
theorem Paired.mapP {α β : Type} {F G : α → β → Prop} : ∀ {l₁ : List α} {l₂ : List β}, Paired F l₁ l₂ → (∀ a b, F a b → G a b) → Paired G l₁ l₂
  | _, _, .nil, _ => .nil
  | _, _, .cons r t, f => .cons (f _ _ r) (Paired.mapP t f)
/-- what an object's description leans on: its own object, its own dict, the tuples -/
theorem ObjOk.stay (x : ObjOk P w H h a o) (k : ∀ b u, (b = a ∨ H b = some (.own a)) → h.get? b = some u → h'.get? b = some u)
    (ho : ∀ b, H b = some (.own a) → H' b = some (.own a)) (ht : ∀ b xs, H b = some (.tup xs) → H' b = some (.tup xs)) : ObjOk P w H' h' a o := by
  induction o with
  | lst xs => obtain ⟨z, its, n, r, e⟩ := x; exact ⟨z, its, n, r, k _ _ (.inl rfl) e⟩
  | tup xs => obtain ⟨z, its, r, ob, e, c⟩ := x; exact ⟨z, its, r, ob, k _ _ (.inl rfl) e, c⟩
  | dK kvs => obtain ⟨z, y, vs, r, ob, es, ep, e, c⟩ := x; exact ⟨z, y, vs, r, ob, es, ep, k _ _ (.inl rfl) e, c⟩
  | dT kvs =>
    obtain ⟨z, y, xs, r, ob, es, ep, e, c⟩ := x
    exact ⟨z, y, xs, Paired.mapP r fun p q z => ⟨z.1, ht _ _ z.2.1, z.2.2⟩, ob, es, ep, k _ _ (.inl rfl) e, c⟩
  | set S n => obtain ⟨ob, es, ep, t, e, c⟩ := x; exact ⟨ob, es, ep, t, k _ _ (.inl rfl) e, c⟩
  | ins C dx fs =>
    obtain ⟨d, z, ne, e, mA, ⟨od, es, ep, e2, c⟩, r⟩ := x
    exact ⟨ho _ d, z, ne, k _ _ (.inl rfl) e, mA, ⟨od, es, ep, k _ _ (.inr d) e2, c⟩, r⟩
  | own y => obtain ⟨ob, e⟩ := x; exact ⟨ob, k _ _ (.inl rfl) e⟩
  | xd fs => obtain ⟨mA, ⟨od, es, ep, e, c⟩, r⟩ := x; exact ⟨mA, ⟨od, es, ep, k _ _ (.inl rfl) e, c⟩, r⟩
  | rng lo hi => obtain ⟨t, u, v, e⟩ := x; exact ⟨t, u, v, k _ _ (.inl rfl) e⟩
  | frz ob u ih => obtain ⟨e, q⟩ := x; exact ⟨k _ _ (.inl rfl) e, ih q⟩
  | tbl ps =>
    have e : h.get? a = some { cls := .none, data := .fields ps } := x
    show h'.get? a = some { cls := .none, data := .fields ps }
    exact k a _ (.inl rfl) e
  | met f y =>
    have e : h.get? a = some (PySem.W.methodObj (.ref f) (.ref y)) := x
    show h'.get? a = some (PySem.W.methodObj (.ref f) (.ref y))
    exact k a _ (.inl rfl) e
  | ext φ => obtain ⟨p, ⟨o, e⟩, st⟩ := x; exact ⟨st _ _ p fun o q => k _ _ (.inl rfl) q, ⟨o, k _ _ (.inl rfl) e⟩, st⟩
theorem HOk.lt (x : HOk P w H h) (e : H a = some o) : a < h.objs.size := (x a o e).lt
theorem HOk.fresh (x : HOk P w H h) (e : h.objs.size ≤ a) : H a = none := by
  cases q : H a with
  | none => rfl
  | some u => exact absurd (Nat.lt_of_lt_of_le (x.lt q) e) (Nat.lt_irrefl _)
/-- every object of the heap is kept -/
theorem HOk.kept (x : HOk P w H h) (k : ∀ b u, h.get? b = some u → h'.get? b = some u) : HOk P w H h' := fun a o e =>
  (x a o e).stay (fun b u _ q => k b u q) (fun _ q => q) fun _ _ q => q
/-- a new object is laid and tracked -/
theorem HOk.laid (x : HOk P w H h) (k : ∀ b u, h.get? b = some u → h'.get? b = some u) (hp : h.objs.size ≤ a) (new : ObjOk P w (upd H a o) h' a o) : HOk P w (upd H a o) h' := fun b u e => by
  have hn := x.fresh hp
  by_cases hb : b = a
  · subst hb; rw [upd_same] at e; cases e; exact new
  · rw [upd_ne hb] at e
    exact (x b u e).stay (fun c v _ q => k c v q) (fun c q => by rw [upd_ne (ne_of_none q hn)]; exact q) fun c xs q => by rw [upd_ne (ne_of_none q hn)]; exact q
end

/-- what may be read as u: it is u, or a known u -/
def Rd (H : Hp) (a : Addr) (u : HO) : Prop := H a = some u ∨ ∃ o, H a = some (.frz o u)
theorem Rd.ok {P : Program} {w : World} {H : Hp} {h : Heap} {a : Addr} {u : HO} (r : Rd H a u) (x : HOk P w H h) : ObjOk P w H h a u := by
  rcases r with r | ⟨o, r⟩
  · exact x a u r
  · obtain ⟨_, q⟩ := x a _ r
    exact q
/-- what may be written -/
def Mut : Option HO → Prop
  | some (.lst _) => True
  | some (.dK _) => True
  | some (.dT _) => True
  | some (.set _ _) => True
  | some (.ins _ _ _) => True
  | some (.ext _) => True
  | _ => False
section
variable {P : Program} {w : World} {H : Hp} {h h' : Heap} {x e : Addr} {o' : HO}
/-- the object at e is changed: x itself, or the dict of the instance x -/
theorem HOk.write (ok : HOk P w H h) (mu : Mut (H x)) (he : e = x ∨ H e = some (.own x)) (k : ∀ b u, b ≠ e → h.get? b = some u → h'.get? b = some u) (heo : ∃ u, h'.get? e = some u)
    (new : ObjOk P w (upd H x o') h' x o') : HOk P w (upd H x o') h' := fun b u q => by
  have nown : ∀ c y, H c = some (.own y) → c ≠ x := fun c y r z => by subst z; rw [r] at mu; exact mu
  have ntup : ∀ c xs, H c = some (.tup xs) → c ≠ x := fun c xs r z => by subst z; rw [r] at mu; exact mu
  by_cases hb : b = x
  · subst hb; rw [upd_same] at q; cases q; exact new
  · rw [upd_ne hb] at q
    by_cases hbe : b = e
    · have q' : H b = some (.own x) := by
        rcases he with z | z
        · exact absurd (hbe.trans z) hb
        · rw [hbe]; exact z
      rw [q] at q'; cases q'
      obtain ⟨v, hv⟩ := heo
      exact ⟨v, by rw [hbe]; exact hv⟩
    · refine (ok b u q).stay (fun c v hc r => k c v ?_ r) (fun c r => by rw [upd_ne (nown c b r)]; exact r) fun c xs r => by rw [upd_ne (ntup c xs r)]; exact r
      rcases hc with rfl | hc
      · exact hbe
      · rintro rfl
        rcases he with z | z
        · exact nown c b hc z
        · rw [hc] at z; cases z; exact hb rfl
end

/-! ### kept unless tracked; of the frames at fs (the callers') the slots may change (an exception that passes writes there); of the records at ex (iterators) nothing is said -/
structure Un (fs ex : List Addr) (H H' : Hp) (h h' : Heap) : Prop where
  keep : ∀ b o, h.get? b = some o → H b = none → b ∉ fs → b ∉ ex → h'.get? b = some o
  slot : ∀ b o, h.get? b = some o → H b = none → b ∈ fs → b ∉ ex → ∃ sl, h'.get? b = some { o with slots := sl }
  free : ∀ b o, h.get? b = some o → H b = none → b ∉ ex → H' b = none
  there : ∀ b o, h.get? b = some o → b ∉ ex → ∃ o', h'.get? b = some o'
  tups : ∀ b xs, H b = some (.tup xs) → H' b = some (.tup xs)
  frzs : ∀ b o u, H b = some (.frz o u) → H' b = some (.frz o u)
  tbls : ∀ b ps, H b = some (.tbl ps) → ∃ more, H' b = some (.tbl (ps ++ more))
section
variable {fs fs' ex ex' : List Addr} {H H1 H2 : Hp} {h h1 h2 h' : Heap} {a x e : Addr} {o : HO}
theorem Un.any (u : Un fs ex H H1 h h1) {b : Addr} {ob : Obj} (q : h.get? b = some ob) (n : H b = none) (hx : b ∉ ex) : ∃ sl, h1.get? b = some { ob with slots := sl } := by
  by_cases hb : b ∈ fs
  · exact u.slot b ob q n hb hx
  · exact ⟨ob.slots, u.keep b ob q n hb hx⟩
theorem Un.kept (k : ∀ b u, h.get? b = some u → h'.get? b = some u) : Un fs ex H H h h' :=
  ⟨fun b ob q _ _ _ => k b ob q, fun b ob q _ _ _ => ⟨ob.slots, k b ob q⟩, fun _ _ _ n _ => n, fun b ob q _ => ⟨ob, k b ob q⟩, fun _ _ q => q, fun _ _ _ q => q, fun _ ps q => ⟨#[], by rw [q]; simp⟩⟩
theorem Un.refl : Un fs ex H H h h := Un.kept fun _ _ q => q
theorem Un.laid (k : ∀ b u, h.get? b = some u → h'.get? b = some u) (hp : h.objs.size ≤ a) (hn : H a = none) : Un fs ex H (upd H a o) h h' where
  keep := fun b u q _ _ _ => k b u q
  slot := fun b u q _ _ _ => ⟨u.slots, k b u q⟩
  free := fun b u q n _ => by rw [upd_ne (Nat.ne_of_lt (Nat.lt_of_lt_of_le (Heap.lt_size q) hp))]; exact n
  there := fun b u q _ => ⟨u, k b u q⟩
  tups := fun b xs q => by rw [upd_ne (ne_of_none q hn)]; exact q
  frzs := fun b u xs q => by rw [upd_ne (ne_of_none q hn)]; exact q
  tbls := fun b ps q => ⟨#[], by rw [upd_ne (ne_of_none q hn), q]; simp⟩
theorem Un.write (mu : Mut (H x)) (he : e = x ∨ H e = some (.own x)) (k : ∀ b u, b ≠ e → h.get? b = some u → h'.get? b = some u) (heo : ∃ u, h'.get? e = some u) : Un fs ex H (upd H x o) h h' := by
  have hx : ∀ b, H b = none → b ≠ x := fun b n z => by subst z; rw [n] at mu; exact mu
  have hb : ∀ b, H b = none → b ≠ e := fun b n z => by
    subst z
    rcases he with r | r
    · exact hx b n r
    · rw [n] at r; cases r
  have hm : ∀ b u, H b = some u → ¬ Mut (some u) → b ≠ x := fun b u q nm z => by subst z; rw [q] at mu; exact nm mu
  refine ⟨fun b u q n _ _ => k b u (hb b n) q, fun b u q n _ _ => ⟨u.slots, k b u (hb b n) q⟩, fun b u q n _ => by rw [upd_ne (hx b n)]; exact n, fun b u q _ => ?_,
    fun b xs q => by rw [upd_ne (hm b _ q fun z => z)]; exact q, fun b u xs q => by rw [upd_ne (hm b _ q fun z => z)]; exact q, fun b ps q => ⟨#[], by rw [upd_ne (hm b _ q fun z => z), q]; simp⟩⟩
  by_cases hbe : b = e
  · subst hbe; exact heo
  · exact ⟨u, k b u hbe q⟩
end

/-! ### the heap without what is tracked -/
def trk (h : Heap) (H : Hp) : List Addr := (List.range h.objs.size).filter fun a => (H a).isSome
def hidT (h : Heap) (H : Hp) : Heap := PySem.W.hideAll h (trk h H)
theorem hidT_size (h : Heap) (H : Hp) : (hidT h H).objs.size = h.objs.size := PySem.W.hideAll_size _ _
theorem hidT_get {h : Heap} {H : Hp} {b : Addr} {o : Obj} (e : h.get? b = some o) (n : H b = none) : (hidT h H).get? b = some o :=
  PySem.W.hideAll_get _ e fun hm => by
    have q : (H b).isSome = true := (List.mem_filter.mp hm).2
    rw [n] at q; simp at q
theorem of_hidT {h : Heap} {H : Hp} {b : Addr} {o : Obj} (e : (hidT h H).get? b = some o) : h.get? b = some o ∧ H b = none := by
  have e' : h.get? b = some o := PySem.W.of_hideAll (trk h H) e
  refine ⟨e', ?_⟩
  cases q : H b with
  | none => rfl
  | some x =>
    have hm : b ∈ trk h H := List.mem_filter.mpr ⟨List.mem_range.mpr (Heap.lt_size e'), by simp [q]⟩
    have z : (hidT h H).get? b = none := PySem.W.hideAll_none (trk h H) hm
    rw [z] at e; cases e

/-! ### OpenK's ledger, filled with every new object but one -/
end L2

namespace L2
open PySem PySem.Spec PyProof.Rows

/-- the module's facts, over the base: the heap at the law's entry without what is tracked there -/
structure Mod (K : PySem.W.Frag) (mg : Str → Option Value) (base : Heap) : Prop where
  kin : K.In base
  glob : base.Ns mainGlobals mg
  blt : ∃ mb, base.Ns builtinsNs mb ∧ ∀ x : Str, x ≠ "__name__" → mb x = bootBuiltins x
  nolimit : base.NoLimit

/-- the context: a def's body (or a comprehension's block) running. base: fixed through the whole law; s₀, H₀: the entry; outer: the frames whose slots others may change (a def's callers); stack: all frames that run;
   ex: iterators that were made ahead of the entry and are walked here (a comprehension's); fn: the names whose cells were made at the entry (a def: all; a comprehension's block: its own); calm: not within an except suite; pn: pins that every state bears; xe: what is wanted of an exception that leaves the code -/
structure Cx where
  prog : Program
  w : World
  K : PySem.W.Frag
  mg : Str → Option Value
  base : Heap
  A : Around
  N : List Str
  s_0 : Shared
  H_0 : Hp
  env : Env
  outer : List Env
  stack : List Env
  ex : List Addr
  fn : Str → Bool
  calm : Bool
  pn : List (Addr × Obj)
  xe : Value → Shared → Prop
/-- the callers' frames -/
def frs (l : List Env) : List Addr := l.filterMap (·.frame)
abbrev Cx.fs (X : Cx) : List Addr := frs X.outer

def Vis (sc : Scope) (x : Str) : Prop := sc.names.lookup x = some .local ∨ sc.names.lookup x = some .cell ∨ sc.names.lookup x = some .free
def Loc (sc : Scope) (x : Str) : Prop := sc.names.lookup x = some .local ∨ sc.names.lookup x = some .cell
def Look (env : Env) (h : Heap) (m : Str → Option Value) (x : Str) (u : Value) : Prop :=
  (env.kindOf x = some .local ∧ m x = some u) ∨ ((env.kindOf x = some .cell ∨ env.kindOf x = some .free) ∧ ∃ c, env.cells.lookup x = some c ∧ h.IsCell c (some u))

structure Cx.Ok (X : Cx) : Prop where
  mod : Mod X.K X.mg X.base
  kind : X.env.scope.kind = .function
  glob : X.env.globals = mainGlobals
  blt : X.env.builtins = builtinsNs
  above : X.s_0.heap.objs.size ≤ X.env.locals
  inj : ∀ x y c, X.env.cells.lookup x = some c → X.env.cells.lookup y = some c → x = y
  has : ∀ x, (X.env.kindOf x = some .cell ∨ X.env.kindOf x = some .free) → ∃ c, X.env.cells.lookup x = some c
  cab : ∀ x c, X.fn x = true → X.env.cells.lookup x = some c → X.s_0.heap.objs.size ≤ c
  hd : X.calm = true → X.A.handled = none
  frames : X.A.frames = some X.stack
  stk : X.stack = X.outer ∨ (X.stack = X.env :: X.outer ∧ X.env.frame = some X.env.locals)
  exf : ∀ b ∈ X.ex, b ≠ X.env.locals ∧ ∀ x c, X.env.cells.lookup x = some c → c ≠ b
  bs : ∀ b o, X.base.get? b = some o → X.s_0.heap.get? b = some o ∧ X.H_0 b = none
  bsz : X.base.objs.size ≤ X.s_0.heap.objs.size
  noex : ∀ b o, X.base.get? b = some o → b ∉ X.ex
  exfs : ∀ b ∈ X.ex, b ∉ X.fs
  funs : X.s_0.heap.FunFrames X.base X.outer
  frf : ∀ b ∈ X.fs, X.H_0 b = none

structure Inv (X : Cx) (pins : List (Addr × Obj)) (σ : List (Option V)) (H : Hp) (s : Shared) : Prop where
  ok : X.Ok
  os : s.os = X.s_0.os
  bare : AllBare s.gens
  base : Un X.fs X.ex X.H_0 H X.s_0.heap s.heap
  loc : ∃ m, s.heap.Ns X.env.locals m ∧ ∀ (i : Nat) (x : Str) (v : V), X.N[i]? = some x → σ[i]? = some (some v) → Vis X.env.scope x → ∃ u, RelV v u ∧ Look X.env s.heap m x u
  cell : ∀ x c, X.env.cells.lookup x = some c → ∃ v, s.heap.IsCell c v
  free : H X.env.locals = none
  freeC : ∀ x c, X.env.cells.lookup x = some c → H c = none
  pin : ∀ p ∈ X.pn ++ pins, s.heap.get? p.1 = some p.2 ∧ H p.1 = none ∧ p.1 ≠ X.env.locals ∧ p.1 ∉ X.fs ∧ ∀ v, p.2.data ≠ .cell v
  hok : HOk X.prog X.w H s.heap
  len : σ.length = X.N.length

section
variable {X : Cx} {pins : List (Addr × Obj)} {σ : List (Option V)} {H H' : Hp} {s : Shared} {h' : Heap}

theorem Cx.Ok.nofr (ok : X.Ok) {b : Addr} {o : Obj} (e : X.base.get? b = some o) : b ∉ X.fs := fun hb => by
  have := (ok.funs.mem hb).1
  rw [e] at this; cases this
theorem Inv.bs (I : Inv X pins σ H s) : ∀ b o, X.base.get? b = some o → s.heap.get? b = some o ∧ H b = none := fun b o e =>
  ⟨I.base.keep b o (I.ok.bs b o e).1 (I.ok.bs b o e).2 (I.ok.nofr e) (I.ok.noex b o e), I.base.free b o (I.ok.bs b o e).1 (I.ok.bs b o e).2 (I.ok.noex b o e)⟩
theorem Inv.bk (I : Inv X pins σ H s) : ∀ b o, X.base.get? b = some o → s.heap.get? b = some o := fun b o e => (I.bs b o e).1
theorem Inv.mod (I : Inv X pins σ H s) : Mod X.K X.mg X.base := I.ok.mod
theorem Inv.kIn (I : Inv X pins σ H s) : X.K.In s.heap := I.ok.mod.kin.keeps I.bk
theorem Inv.lt (I : Inv X pins σ H s) : X.env.locals < s.heap.objs.size := let ⟨_, hn, _⟩ := I.loc; hn.lt
theorem Inv.sz (I : Inv X pins σ H s) : X.s_0.heap.objs.size ≤ s.heap.objs.size := Nat.le_trans I.ok.above (Nat.le_of_lt I.lt)
theorem Inv.nofs (I : Inv X pins σ H s) {a : Addr} (h : s.heap.objs.size ≤ a) : a ∉ X.fs := fun hb => by
  obtain ⟨_, o, ho, _⟩ := I.ok.funs.mem hb
  exact absurd (Nat.lt_of_lt_of_le (Heap.lt_size ho) (Nat.le_trans I.sz h)) (Nat.lt_irrefl _)
theorem Inv.cne (I : Inv X pins σ H s) : ∀ x c, X.env.cells.lookup x = some c → c ≠ X.env.locals := fun x c e z => by
  obtain ⟨v, o, ho, hd⟩ := I.cell x c e
  obtain ⟨m, ⟨o', es, ep, ho', hd', _⟩, _⟩ := I.loc
  rw [z, ho'] at ho; cases ho; rw [hd'] at hd; cases hd
theorem Inv.funs (I : Inv X pins σ H s) : s.heap.FunFrames X.base X.outer := by
  have all : ∀ (l : List Env), (∀ b ∈ frs l, b ∈ X.fs) → X.s_0.heap.FunFrames X.base l → s.heap.FunFrames X.base l := by
    intro l
    induction l with
    | nil => intro _ _; trivial
    | cons env r ih =>
      intro hs hl
      obtain ⟨hk, ⟨L, o, hf, hn, ho, hd⟩, hr⟩ := hl
      have hL : L ∈ X.fs := hs L (by unfold frs; rw [List.filterMap_cons, hf]; exact List.mem_cons_self)
      obtain ⟨sl, e⟩ := I.base.slot L o ho (I.ok.frf L hL) hL fun z => I.ok.exfs L z hL
      exact ⟨hk, ⟨L, _, hf, hn, e, hd⟩, ih (fun b hb => hs b (by unfold frs; rw [List.filterMap_cons, hf]; exact List.mem_cons_of_mem _ hb)) hr⟩
  exact all X.outer (fun _ hb => hb) I.ok.funs

/-- the frames that run, for a call -/
theorem Inv.stack (I : Inv X pins σ H s) : s.heap.FunFrames X.base X.stack := by
  rcases I.ok.stk with e | ⟨e, hf⟩
  · rw [e]; exact I.funs
  · rw [e]
    obtain ⟨m, hn, _⟩ := I.loc
    refine .cons (by rw [I.ok.kind]; decide) hf hn ?_ I.funs
    exact Heap.get?_none_of_le (Nat.le_trans I.ok.bsz I.ok.above)
theorem Inv.stkSub (I : Inv X pins σ H s) : ∀ b ∈ frs X.stack, b ∈ X.env.locals :: X.fs := fun b hb => by
  rcases I.ok.stk with e | ⟨e, hf⟩
  · rw [e] at hb; exact List.mem_cons_of_mem _ hb
  · rw [e] at hb
    unfold frs at hb
    rw [List.filterMap_cons, hf] at hb
    exact hb
theorem Inv.stkFree (I : Inv X pins σ H s) : ∀ b ∈ frs X.stack, H b = none := fun b hb => by
  rcases List.mem_cons.mp (I.stkSub b hb) with e | hb
  · rw [e]; exact I.free
  · obtain ⟨_, o, ho, _⟩ := I.ok.funs.mem hb
    exact I.base.free b o ho (I.ok.frf b hb) fun z => I.ok.exfs b z hb

/-- THE STEP: the untracked objects but the frame and the records at ch are kept (the callers' frames up to slots), the frame's map is kept, the new abstract heap is held -/
theorem Inv.step {g' : Array GenState} {t' : Nat} {d' : Drawn} {ch : List Addr} (I : Inv X pins σ H s)
    (hch : ∀ b ∈ ch, (b ∈ X.ex ∨ X.s_0.heap.objs.size ≤ b) ∧ b ≠ X.env.locals ∧ (∀ x c, X.env.cells.lookup x = some c → c ≠ b) ∧ ∀ p ∈ X.pn ++ pins, p.1 ≠ b)
    (keep : ∀ b o, b ≠ X.env.locals → b ∉ X.fs → b ∉ ch → s.heap.get? b = some o → H b = none → h'.get? b = some o)
    (slot : ∀ b o, b ≠ X.env.locals → b ∈ X.fs → b ∉ ch → s.heap.get? b = some o → H b = none → ∃ sl, h'.get? b = some { o with slots := sl }) (free : ∀ b o, b ∉ ch → s.heap.get? b = some o → H b = none → H' b = none)
    (there : ∀ b o, b ∉ ch → s.heap.get? b = some o → ∃ o', h'.get? b = some o')
    (tups : ∀ b xs, H b = some (.tup xs) → H' b = some (.tup xs)) (frzs : ∀ b o u, H b = some (.frz o u) → H' b = some (.frz o u)) (tbls : ∀ b ps, H b = some (.tbl ps) → ∃ more, H' b = some (.tbl (ps ++ more)))
    (ns : ∀ m, s.heap.Ns X.env.locals m → h'.Ns X.env.locals m) (hok : HOk X.prog X.w H' h') (hg : AllBare g') :
    Inv X pins σ H' { s with heap := h', gens := g', drawn := d', toks := t' } := by
  have neL : ∀ b o, X.s_0.heap.get? b = some o → b ≠ X.env.locals := fun b o e => Nat.ne_of_lt (Nat.lt_of_lt_of_le (Heap.lt_size e) I.ok.above)
  have neC : ∀ b o, X.s_0.heap.get? b = some o → b ∉ X.ex → b ∉ ch := fun b o e hx hb => by
    rcases (hch b hb).1 with z | z
    · exact hx z
    · exact absurd (Nat.lt_of_lt_of_le (Heap.lt_size e) z) (Nat.lt_irrefl _)
  have cellK : ∀ x c, X.env.cells.lookup x = some c → ∀ v, s.heap.IsCell c v → h'.IsCell c v := fun x c e v ⟨o, ho, hd⟩ => by
    have nch : c ∉ ch := fun z => (hch c z).2.2.1 x c e rfl
    by_cases hc : c ∈ X.fs
    · obtain ⟨sl, q⟩ := slot c o (I.cne x c e) hc nch ho (I.freeC x c e)
      exact ⟨_, q, hd⟩
    · exact ⟨o, keep c o (I.cne x c e) hc nch ho (I.freeC x c e), hd⟩
  refine ⟨I.ok, I.os, hg, ⟨fun b o e n hb hx => ?_, fun b o e n hb hx => ?_, fun b o e n hx => ?_, fun b o e hx => ?_, fun b xs e => tups b xs (I.base.tups b xs e), fun b o xs e => frzs b o xs (I.base.frzs b o xs e), fun b ps e => ?_⟩, ?_, fun x c e => ?_, ?_, fun x c e => ?_, fun p hp => ?_, hok, I.len⟩
  · exact keep b o (neL b o e) hb (neC b o e hx) (I.base.keep b o e n hb hx) (I.base.free b o e n hx)
  · obtain ⟨sl, e1⟩ := I.base.slot b o e n hb hx
    obtain ⟨sl', e2⟩ := slot b _ (neL b o e) hb (neC b o e hx) e1 (I.base.free b o e n hx)
    exact ⟨sl', e2⟩
  · obtain ⟨o', e1⟩ := I.base.there b o e hx
    exact free b o' (neC b o e hx) e1 (I.base.free b o e n hx)
  · obtain ⟨o', e1⟩ := I.base.there b o e hx
    exact there b o' (neC b o e hx) e1
  · obtain ⟨m1, e1⟩ := I.base.tbls b ps e
    obtain ⟨m2, e2⟩ := tbls b _ e1
    exact ⟨m1 ++ m2, by rw [e2, Array.append_assoc]⟩
  · obtain ⟨m, hn, hl⟩ := I.loc
    refine ⟨m, ns m hn, fun i x v e1 e2 e3 => ?_⟩
    obtain ⟨u, r, l⟩ := hl i x v e1 e2 e3
    refine ⟨u, r, ?_⟩
    rcases l with l | ⟨k, c, e, z⟩
    · exact .inl l
    · exact .inr ⟨k, c, e, cellK x c e _ z⟩
  · obtain ⟨v, z⟩ := I.cell x c e
    exact ⟨v, cellK x c e v z⟩
  · obtain ⟨m, ⟨o, _, _, ho, _⟩, _⟩ := I.loc
    exact free _ o (fun z => (hch _ z).2.1 rfl) ho I.free
  · obtain ⟨v, o, ho, hd⟩ := I.cell x c e
    exact free c o (fun z => (hch c z).2.2.1 x c e rfl) ho (I.freeC x c e)
  · obtain ⟨e, n, ne, nf, d⟩ := I.pin p hp
    have nch : p.1 ∉ ch := fun z => (hch p.1 z).2.2.2 p hp rfl
    exact ⟨keep p.1 p.2 ne nf nch e n, free p.1 p.2 nch e n, ne, nf, d⟩
/-- .. where the frame's own object is kept too -/
theorem Inv.un {t' : Nat} (I : Inv X pins σ H s) (u : Un X.fs [] H H' s.heap h') (hok : HOk X.prog X.w H' h') : Inv X pins σ H' { s with heap := h', toks := t' } := by
  obtain ⟨m, ⟨o, es, ep, ho, r⟩, _⟩ := id I.loc
  obtain ⟨sl, hL⟩ := u.any ho I.free (by simp)
  exact I.step (g' := s.gens) (d' := s.drawn) (ch := []) (fun _ z => nomatch z) (fun b o _ hb _ e n => u.keep b o e n hb (by simp)) (fun b o _ hb _ e n => u.slot b o e n hb (by simp)) (fun b o _ e n => u.free b o e n (by simp)) (fun b o _ e => u.there b o e (by simp)) u.tups u.frzs u.tbls (fun m' hm => by
    obtain ⟨o', es', ep', ho', r'⟩ := hm
    rw [ho] at ho'; cases ho'
    exact ⟨_, es', ep', hL, r'⟩) hok I.bare
/-- behind a call (or a comprehension's block): the slots of this frame may have changed too, the records at ch may have turned -/
theorem Inv.call {g' : Array GenState} {t' : Nat} {d' : Drawn} {ch : List Addr} (I : Inv X pins σ H s) (u : Un (frs X.stack) ch H H' s.heap h') (hok : HOk X.prog X.w H' h') (hg : AllBare g')
    (hch : ∀ b ∈ ch, (b ∈ X.ex ∨ X.s_0.heap.objs.size ≤ b) ∧ b ≠ X.env.locals ∧ (∀ x c, X.env.cells.lookup x = some c → c ≠ b) ∧ ∀ p ∈ X.pn ++ pins, p.1 ≠ b) :
    Inv X pins σ H' { s with heap := h', gens := g', drawn := d', toks := t' } := by
  obtain ⟨m, ⟨o, es, ep, ho, r⟩, _⟩ := id I.loc
  obtain ⟨sl, hL⟩ := u.any ho I.free fun z => (hch _ z).2.1 rfl
  exact I.step (ch := ch) hch (fun b o hL hb hc e n => u.keep b o e n (fun z => (List.mem_cons.mp (I.stkSub b z)).elim hL hb) hc) (fun b o _ _ hc e n => u.any e n hc) (fun b o hc e n => u.free b o e n hc) (fun b o hc e => u.there b o e hc) u.tups u.frzs u.tbls (fun m' hm => by
    obtain ⟨o', es', ep', ho', r'⟩ := hm
    rw [ho] at ho'; cases ho'
    exact ⟨_, es', ep', hL, r'⟩) hok hg
/-- an untracked record of ours (an iterator) has turned -/
theorem Inv.turned {t' : Nat} {it : Addr} (I : Inv X pins σ H s) (k : ∀ b o, b ≠ it → s.heap.get? b = some o → h'.get? b = some o) (hn : H it = none) (hL : it ≠ X.env.locals)
    (h1 : it ∈ X.ex ∨ X.s_0.heap.objs.size ≤ it) (h2 : ∀ x c, X.env.cells.lookup x = some c → c ≠ it) (h3 : ∀ p ∈ X.pn ++ pins, p.1 ≠ it) : Inv X pins σ H { s with heap := h', toks := t' } := by
  have nit : ∀ b u, H b = some u → b ≠ it := fun b u e z => by rw [z, hn] at e; cases e
  refine I.step (g' := s.gens) (d' := s.drawn) (ch := [it]) (fun b hb => ?_) (fun b o _ _ hc e _ => k b o (fun z => hc (by simp [z])) e) (fun b o _ _ hc e _ => ⟨o.slots, k b o (fun z => hc (by simp [z])) e⟩) (fun _ _ _ _ n => n)
    (fun b o hc e => ⟨o, k b o (fun z => hc (by simp [z])) e⟩) (fun _ _ e => e) (fun _ _ _ e => e) (fun b ps e => ⟨#[], by rw [e]; simp⟩) (fun m hm => ?_) (fun b u e => ?_) I.bare
  · have e : b = it := by simpa using hb
    subst e
    exact ⟨h1, hL, h2, h3⟩
  · obtain ⟨o, es, ep, ho, r⟩ := hm
    exact ⟨o, es, ep, k _ o (Ne.symm hL) ho, r⟩
  · refine (I.hok b u e).stay (fun c v hc q => k c v ?_ q) (fun _ q => q) fun _ _ q => q
    rcases hc with z | z
    · rw [z]; exact nit b u e
    · exact nit c _ z
theorem Inv.tok (I : Inv X pins σ H s) (t : Nat) : Inv X pins σ H { s with toks := t } := I.un (h' := s.heap) (t' := t) Un.refl I.hok
/-- all objects kept -/
theorem Inv.kept {t' : Nat} (I : Inv X pins σ H s) (k : ∀ b u, s.heap.get? b = some u → h'.get? b = some u) : Inv X pins σ H { s with heap := h', toks := t' } := I.un (Un.kept k) (I.hok.kept k)
/-- a new object laid and tracked -/
theorem Inv.laid {a : Addr} {o : HO} {t' : Nat} (I : Inv X pins σ H s) (k : ∀ b u, s.heap.get? b = some u → h'.get? b = some u) (hp : s.heap.objs.size ≤ a) (new : ObjOk X.prog X.w (upd H a o) h' a o) :
    Inv X pins σ (upd H a o) { s with heap := h', toks := t' } := I.un (Un.laid k hp (I.hok.fresh hp)) (I.hok.laid k hp new)
/-- an object written -/
theorem Inv.write {x e : Addr} {o : HO} {t' : Nat} (I : Inv X pins σ H s) (mu : Mut (H x)) (he : e = x ∨ H e = some (.own x)) (k : ∀ b u, b ≠ e → s.heap.get? b = some u → h'.get? b = some u) (heo : ∃ u, h'.get? e = some u)
    (new : ObjOk X.prog X.w (upd H x o) h' x o) : Inv X pins σ (upd H x o) { s with heap := h', toks := t' } := I.un (Un.write mu he k heo) (I.hok.write mu he k heo new)
/-- forgetting slots, pins -/
theorem Inv.weak {σ' : List (Option V)} (I : Inv X pins σ H s) (hl : σ'.length = σ.length) (w : ∀ (i : Nat) v, σ'[i]? = some (some v) → σ[i]? = some (some v)) : Inv X pins σ' H s :=
  ⟨I.ok, I.os, I.bare, I.base, let ⟨m, hn, hl'⟩ := I.loc; ⟨m, hn, fun i x v e1 e2 e3 => hl' i x v e1 (w i v e2) e3⟩, I.cell, I.free, I.freeC, I.pin, I.hok, hl.trans I.len⟩
theorem Inv.pins_of {pins' : List (Addr × Obj)} (I : Inv X pins σ H s) (h : ∀ p ∈ pins', s.heap.get? p.1 = some p.2 ∧ H p.1 = none ∧ p.1 ≠ X.env.locals ∧ p.1 ∉ X.fs ∧ ∀ v, p.2.data ≠ .cell v) : Inv X pins' σ H s :=
  ⟨I.ok, I.os, I.bare, I.base, I.loc, I.cell, I.free, I.freeC, fun p hp => (List.mem_append.mp hp).elim (fun z => I.pin p (List.mem_append_left _ z)) (h p), I.hok, I.len⟩

theorem nodup_ix {N : List Str} (hN : N.Nodup) {i j : Nat} {x : Str} (a : N[i]? = some x) (b : N[j]? = some x) : i = j := by
  obtain ⟨h1, e1⟩ := List.getElem?_eq_some_iff.mp a
  obtain ⟨h2, e2⟩ := List.getElem?_eq_some_iff.mp b
  exact (List.getElem_inj hN).mp (e1.trans e2.symm)

/-- a name is stored; what changed -/
theorem store_ok2 {M : Model} {A : Around} {E : Value → Shared → Prop} {i : Nat} {x : Str} {v : V} {u : Value} {Q : Unit → Shared → Prop} (I : Inv X pins σ H s) (hN : X.N.Nodup) (hi : X.N[i]? = some x) (hx : Loc X.env.scope x) (r : RelV v u)
    (h : ∀ s', Inv X pins (σ.set i (some v)) H s' → (∃ a, Heap.SameBut a s.heap s'.heap ∧ (a = X.env.locals ∨ X.env.cells.lookup x = some a)) → Q () s') (hf : X.fn x = true ∨ X.env.scope.names.lookup x = some .local := by first | exact .inl rfl | exact .inr rfl | assumption) : wpAny M A (storeName X.env x u) Q E s := by
  obtain ⟨m, hn, hl⟩ := id I.loc
  have hcls : (X.env.scope.kind == .class || (X.env.scope.kind == .module && X.env.locals != X.env.globals)) = false := by rw [I.ok.kind]; rfl
  have hiσ : i < σ.length := by rw [I.len]; exact (List.getElem?_eq_some_iff.mp hi).1
  have cne := I.cne
  have tracked : ∀ {a : Addr} {h' : Heap}, (∃ o, s.heap.get? a = some o ∧ H a = none) → Heap.SameBut a s.heap h' → HOk X.prog X.w H h' := fun {a h'} ha hs b ob e => by
    obtain ⟨_, _, hfree⟩ := ha
    refine (I.hok b ob e).stay (fun c w' hc q => (hs.2 c ?_).trans q) (fun _ q => q) fun _ _ q => q
    rintro rfl
    rcases hc with rfl | hc
    · rw [hfree] at e; cases e
    · rw [hfree] at hc; cases hc
  rcases hx with hk | hk
  · refine wpAny_storeName_local hk hn (fun h' hn' hs => ?_) hcls
    obtain ⟨oL, _, _, hoL, _⟩ := id hn
    refine h _ ⟨I.ok, I.os, I.bare, ⟨fun b o e n hb hx => ?_, fun b o e n hb hx => ?_, I.base.free, fun b o e hx => ?_, I.base.tups, I.base.frzs, I.base.tbls⟩, ⟨_, hn', fun j y v' e1 e2 e3 => ?_⟩, fun y c e => ?_, I.free, I.freeC, fun p hp => ?_, tracked ⟨oL, hoL, I.free⟩ hs, by simpa using I.len⟩ ⟨_, hs, .inl rfl⟩
    · exact (hs.2 b (Nat.ne_of_lt (Nat.lt_of_lt_of_le (Heap.lt_size e) I.ok.above))).trans (I.base.keep b o e n hb hx)
    · obtain ⟨sl, e1⟩ := I.base.slot b o e n hb hx
      exact ⟨sl, (hs.2 b (Nat.ne_of_lt (Nat.lt_of_lt_of_le (Heap.lt_size e) I.ok.above))).trans e1⟩
    · obtain ⟨o', e1⟩ := I.base.there b o e hx
      exact ⟨o', (hs.2 b (Nat.ne_of_lt (Nat.lt_of_lt_of_le (Heap.lt_size e) I.ok.above))).trans e1⟩
    · by_cases hj : j = i
      · subst hj
        rw [hi] at e1; cases e1
        rw [List.getElem?_set_self hiσ] at e2
        cases e2
        exact ⟨u, r, .inl ⟨hk, by simp⟩⟩
      · rw [List.getElem?_set_ne (Ne.symm hj)] at e2
        obtain ⟨u', r', q⟩ := hl j y v' e1 e2 e3
        refine ⟨u', r', ?_⟩
        rcases q with ⟨k, e⟩ | ⟨k, c, e, z⟩
        · refine .inl ⟨k, ?_⟩
          have : y ≠ x := fun e => hj (nodup_ix hN e1 (e ▸ hi))
          simp [this, e]
        · exact .inr ⟨k, c, e, z.sameBut hs (cne y c e)⟩
    · obtain ⟨w', z⟩ := I.cell y c e
      exact ⟨w', z.sameBut hs (cne y c e)⟩
    · obtain ⟨e, n, ne, nf, d⟩ := I.pin p hp
      exact ⟨(hs.2 p.1 ne).trans e, n, ne, nf, d⟩
  · have hfn : X.fn x = true := by
      rcases hf with z | z
      · exact z
      · rw [z] at hk; cases hk
    obtain ⟨c, hc⟩ := I.ok.has x (.inl hk)
    obtain ⟨w', z⟩ := I.cell x c hc
    refine wpAny_storeName_cell I.ok.kind hk hc z (fun h' hc' hs => ?_)
    obtain ⟨oc, hoc, hocd⟩ := id z
    refine h { s with heap := h' } ⟨I.ok, I.os, I.bare, ⟨fun b o e n hb hx => ?_, fun b o e n hb hx => ?_, I.base.free, fun b o e hx => ?_, I.base.tups, I.base.frzs, I.base.tbls⟩, ⟨m, hn.sameBut hs (Ne.symm (cne x c hc)), fun j y v' e1 e2 e3 => ?_⟩, fun y c' e => ?_, I.free, I.freeC, fun p hp => ?_, tracked ⟨oc, hoc, I.freeC x c hc⟩ hs, by simpa using I.len⟩ ⟨c, hs, .inr hc⟩
    · exact (hs.2 b (Nat.ne_of_lt (Nat.lt_of_lt_of_le (Heap.lt_size e) (I.ok.cab x c hfn hc)))).trans (I.base.keep b o e n hb hx)
    · obtain ⟨sl, e1⟩ := I.base.slot b o e n hb hx
      exact ⟨sl, (hs.2 b (Nat.ne_of_lt (Nat.lt_of_lt_of_le (Heap.lt_size e) (I.ok.cab x c hfn hc)))).trans e1⟩
    · obtain ⟨o', e1⟩ := I.base.there b o e hx
      exact ⟨o', (hs.2 b (Nat.ne_of_lt (Nat.lt_of_lt_of_le (Heap.lt_size e) (I.ok.cab x c hfn hc)))).trans e1⟩
    · by_cases hj : j = i
      · subst hj
        rw [hi] at e1; cases e1
        rw [List.getElem?_set_self hiσ] at e2
        cases e2
        exact ⟨u, r, .inr ⟨.inl hk, c, hc, hc'⟩⟩
      · rw [List.getElem?_set_ne (Ne.symm hj)] at e2
        obtain ⟨u', r', q⟩ := hl j y v' e1 e2 e3
        refine ⟨u', r', ?_⟩
        rcases q with q | ⟨k, c', e, z'⟩
        · exact .inl q
        · refine .inr ⟨k, c', e, z'.sameBut hs ?_⟩
          rintro rfl
          exact hj (nodup_ix hN e1 (I.ok.inj _ _ _ e hc ▸ hi))
    · by_cases hcc : c' = c
      · subst hcc; exact ⟨_, hc'⟩
      · obtain ⟨w2, z2⟩ := I.cell y c' e
        exact ⟨w2, z2.sameBut hs hcc⟩
    · obtain ⟨e, n, ne, nf, d⟩ := I.pin p hp
      refine ⟨(hs.2 p.1 ?_).trans e, n, ne, nf, d⟩
      intro q
      rw [q, hoc] at e
      have q' : oc = p.2 := Option.some.inj e
      exact d w' (by rw [← q']; exact hocd)
theorem store_ok {M : Model} {A : Around} {E : Value → Shared → Prop} {i : Nat} {x : Str} {v : V} {u : Value} {Q : Unit → Shared → Prop} (I : Inv X pins σ H s) (hN : X.N.Nodup) (hi : X.N[i]? = some x) (hx : Loc X.env.scope x) (r : RelV v u)
    (h : ∀ s', Inv X pins (σ.set i (some v)) H s' → Q () s') (hf : X.fn x = true ∨ X.env.scope.names.lookup x = some .local := by first | exact .inl rfl | exact .inr rfl | assumption) : wpAny M A (storeName X.env x u) Q E s :=
  store_ok2 I hN hi hx r (fun s' I' _ => h s' I') hf
/-- behind a call or a block, the state as it is -/
theorem Inv.call' {s' : Shared} {ch : List Addr} (I : Inv X pins σ H s) (ho : s'.os = s.os) (u : Un (frs X.stack) ch H H' s.heap s'.heap) (hok : HOk X.prog X.w H' s'.heap) (hg : AllBare s'.gens)
    (hch : ∀ b ∈ ch, (b ∈ X.ex ∨ X.s_0.heap.objs.size ≤ b) ∧ b ≠ X.env.locals ∧ (∀ x c, X.env.cells.lookup x = some c → c ≠ b) ∧ ∀ p ∈ X.pn ++ pins, p.1 ≠ b) : Inv X pins σ H' s' := by
  obtain ⟨h', g', d', t', o'⟩ := s'
  have e : o' = s.os := ho
  subst e
  exact I.call (g' := g') (t' := t') (d' := d') u hok hg hch
end

/-! ### the judgements -/
/-- an exception: its class, its own dict's address (where it has one), the abstract heap behind it -/
abbrev XK := Value → Option Addr → Hp → Prop
abbrev St := List (Option V)
abbrev VK := V → Hp → Prop
/-- an expression's reading; a test's; an argument list's -/
abbrev TE := St → Hp → VK → Prop
abbrev TT := St → Hp → (Bool → Hp → Prop) → Prop
abbrev TA := St → Hp → (List V → Hp → Prop) → Prop
/-- what is wanted behind a statement -/
structure Ends where
  nx : St → Hp → Prop
  rt : VK
  bk : St → Hp → Prop := fun _ _ => False
  ct : St → Hp → Prop := fun _ _ => False
abbrev TS := Ends → St → Hp → Prop

def EP (X : Cx) (pins : List (Addr × Obj)) (σ : St) (Q : VK) (u : Value) (s' : Shared) : Prop := ∃ v H', Inv X pins σ H' s' ∧ RelV v u ∧ Q v H'
def TP (X : Cx) (pins : List (Addr × Obj)) (σ : St) (Q : Bool → Hp → Prop) (b : Bool) (s' : Shared) : Prop := ∃ H', Inv X pins σ H' s' ∧ Q b H'
def AP (X : Cx) (pins : List (Addr × Obj)) (σ : St) (Q : List V → Hp → Prop) (us : List Value) (s' : Shared) : Prop := ∃ vs H', Inv X pins σ H' s' ∧ Vals vs us ∧ Q vs H'
def SP (X : Cx) (pins : List (Addr × Obj)) (D : Ends) (f : Flow) (s' : Shared) : Prop :=
  match f with
  | .next => ∃ σ' H', Inv X pins σ' H' s' ∧ D.nx σ' H'
  | .brk => ∃ σ' H', Inv X pins σ' H' s' ∧ D.bk σ' H'
  | .cont => ∃ σ' H', Inv X pins σ' H' s' ∧ D.ct σ' H'
  | .ret u => ∃ v σ' H', Inv X pins σ' H' s' ∧ RelV v u ∧ D.rt v H'

def PE (X : Cx) (e : Expr) (t : TE) : Prop :=
  ∀ (pins : List (Addr × Obj)) (s : Shared) (σ : St) (H : Hp) (Q : VK), Inv X pins σ H s → t σ H Q → wpAny (model X.prog X.w) X.A (eval e X.env) (EP X pins σ Q) X.xe s
def PT (X : Cx) (e : Expr) (t : TT) : Prop :=
  ∀ (pins : List (Addr × Obj)) (s : Shared) (σ : St) (H : Hp) (Q : Bool → Hp → Prop), Inv X pins σ H s → t σ H Q → wpAny (model X.prog X.w) X.A (isTrue e X.env (eval e X.env)) (TP X pins σ Q) X.xe s
/-- a test whatever its 'whole' is (and, or) -/
def PW (X : Cx) (e : Expr) (t : TT) : Prop :=
  ∀ (whole : Sem Value) (pins : List (Addr × Obj)) (s : Shared) (σ : St) (H : Hp) (Q : Bool → Hp → Prop), Inv X pins σ H s → t σ H Q → wpAny (model X.prog X.w) X.A (isTrue e X.env whole) (TP X pins σ Q) X.xe s
theorem PW.pt {X : Cx} {e : Expr} {t : TT} (h : PW X e t) : PT X e t := h _
/-- an argument list (no star), from the left -/
def PA (X : Cx) (es : List Expr) (t : TA) : Prop :=
  ∀ (pos : Pos) (pins : List (Addr × Obj)) (s : Shared) (σ : St) (H : Hp) (Q : List V → Hp → Prop), Inv X pins σ H s → t σ H Q → wpAny (model X.prog X.w) X.A (spliced (backTo pos (starEach es X.env))) (AP X pins σ Q) X.xe s
def PS (X : Cx) (st : Stmt) (t : TS) : Prop :=
  ∀ (pins : List (Addr × Obj)) (s : Shared) (σ : St) (H : Hp) (D : Ends), Inv X pins σ H s → t D σ H → wpAny (model X.prog X.w) X.A (exec st X.env) (SP X pins D) X.xe s
def PSs (X : Cx) (st : List Stmt) (t : TS) : Prop :=
  ∀ (pins : List (Addr × Obj)) (s : Shared) (σ : St) (H : Hp) (D : Ends), Inv X pins σ H s → t D σ H → wpAny (model X.prog X.w) X.A (execs st X.env) (SP X pins D) X.xe s
/-- weaken the end -/
theorem thn {α : Type} {t : Sem α} {Q Q' : α → Shared → Prop} {M : Model} {A : Around} {E : Value → Shared → Prop} {s : Shared} (h : wpAny M A t Q E s) (hQ : ∀ a s, Q a s → Q' a s) : wpAny M A t Q' E s := wpAny_mono h hQ fun _ _ x => x
end L2

namespace L2
open PySem PySem.Spec PyProof.Rows
section
variable {X : Cx}

/-- two expressions in a row -/
theorem bin {a b : Expr} {ta tb : TE} (ha : PE X a ta) (hb : PE X b tb) {pins : List (Addr × Obj)} {s : Shared} {σ : St} {H : Hp} {R : V → V → Hp → Prop} (I : Inv X pins σ H s) (h : ta σ H fun x H1 => tb σ H1 fun y H2 => R x y H2)
    {α : Type} {Q : α → Shared → Prop} {f : Value → Value → Sem α}
    (hf : ∀ v u s2 x y H2, Inv X pins σ H2 s2 → RelV x v → RelV y u → R x y H2 → wpAny (model X.prog X.w) X.A (f v u) Q X.xe s2) :
    wpAny (model X.prog X.w) X.A (eval a X.env) (fun v s₁ => wpAny (model X.prog X.w) X.A (eval b X.env) (fun u s₂ => wpAny (model X.prog X.w) X.A (f v u) Q X.xe s₂) X.xe s₁) X.xe s := by
  refine thn (ha pins s σ H _ I h) fun v s1 ⟨x, H1, I1, r1, q1⟩ => ?_
  refine thn (hb pins s1 σ H1 _ I1 q1) fun u s2 ⟨y, H2, I2, r2, q2⟩ => ?_
  exact hf v u s2 x y H2 I2 r1 r2 q2

/-! ### names and constants -/
def tVar (i : Nat) : TE := fun σ H Q => ∃ v, σ[i]? = some (some v) ∧ Q v H
def tC (v : V) : TE := fun _ H Q => Q v H
theorem pe_var {i : Nat} {x : Str} {pos : Pos} (hN : X.N[i]? = some x) (hv : Vis X.env.scope x) (hd : (x == ("__debug__" : Str)) = false := by decide) (hcd : (x == ("__classdict__" : Str)) = false := by decide) : PE X (.Name x pos) (tVar i) := by
  intro pins s σ H Q I h
  obtain ⟨v, e, h⟩ := h
  obtain ⟨m, hn, hl⟩ := I.loc
  obtain ⟨u, r, l⟩ := hl i x v hN e hv
  have fin : EP X pins σ Q u s := ⟨v, H, I, r, h⟩
  rcases l with ⟨hk, hm⟩ | ⟨hk, c, hc, hcell⟩
  · exact wpAny_Name (wpAny_loadName_local I.ok.kind hk hn hm fin) hd
  · rcases hk with hk | hk
    · exact wpAny_Name (wpAny_loadName_cell I.ok.kind hk hc hcell fin) hd
    · exact wpAny_Name (wpAny_loadName_free I.ok.kind hk hc hcell fin hcd) hd
theorem pe_int {i j pos} : PE X (.Constant (.int i) j pos) (tC (.int i)) := fun _ _ _ H _ I h => wpAny_Constant_int ⟨.int i, H, I.tok _, ⟨_, rfl⟩, h⟩
theorem pe_bl {b j pos} : PE X (.Constant (.bool b) j pos) (tC (.bl b)) := fun _ _ _ H _ I h => Constant_bool ⟨.bl b, H, I, rfl, h⟩
theorem pe_non {j pos} : PE X (.Constant .none j pos) (tC .non) := fun _ _ _ H _ I h => Constant_none ⟨.non, H, I, rfl, h⟩

/-- a global name of the def -/
def Gl (X : Cx) (x : Str) : Prop := X.env.kindOf x = some .globalImplicit
theorem ld_glob {E : Value → Shared → Prop} {pins : List (Addr × Obj)} {s : Shared} {σ : St} {H : Hp} {x : Str} {u : Value} {pos : Pos} {Q : Value → Shared → Prop} (I : Inv X pins σ H s) (hg : Gl X x) (hm : X.mg x = some u) (h : Q u s)
    (hd : (x == ("__debug__" : Str)) = false := by decide) : wpAny (model X.prog X.w) X.A (eval (.Name x pos) X.env) Q E s :=
  Calls.Name_function_global I.ok.kind hg (Calls.loadGlobal_global (by rw [I.ok.glob]; exact I.mod.glob.keeps I.bk) hm h) hd
theorem ld_blt {E : Value → Shared → Prop} {pins : List (Addr × Obj)} {s : Shared} {σ : St} {H : Hp} {x : Str} {u : Value} {pos : Pos} {Q : Value → Shared → Prop} (I : Inv X pins σ H s) (hg : Gl X x) (hm : X.mg x = none) (hv : bootBuiltins x = some u) (h : Q u s)
    (hn : x ≠ "__name__" := by decide) (hd : (x == ("__debug__" : Str)) = false := by decide) : wpAny (model X.prog X.w) X.A (eval (.Name x pos) X.env) Q E s := by
  obtain ⟨mb, h1, h2⟩ := I.mod.blt
  exact Calls.Name_function_global I.ok.kind hg (Calls.loadGlobal_builtin (by rw [I.ok.glob]; exact I.mod.glob.keeps I.bk) hm (by rw [I.ok.blt]; exact h1.keeps I.bk) ((h2 x hn).trans hv) h) hd
/-- a module's constant, a class, a function, as a value -/
theorem pe_glob {x : Str} {v : V} {u : Value} {pos : Pos} (hg : Gl X x) (hm : X.mg x = some u) (r : RelV v u) (hd : (x == ("__debug__" : Str)) = false := by decide) : PE X (.Name x pos) (tC v) :=
  fun _ _ _ H _ I h => ld_glob I hg hm ⟨v, H, I, r, h⟩ hd

/-! ### arithmetic -/
/-- two ints -/
def t2I (ta tb : TE) (k : Int → Int → Hp → Prop) : St → Hp → Prop := fun σ H => ta σ H fun x H1 => tb σ H1 fun y H2 => ∃ i j, x = .int i ∧ y = .int j ∧ k i j H2
variable {a b : Expr} {ta tb : TE} {pos : Pos}

/-! ### comparisons -/
def PC (X : Cx) (op : CmpOp) (a b : Expr) (t : TE) : Prop :=
  ∀ (pins : List (Addr × Obj)) (s : Shared) (σ : St) (H : Hp) (Q : VK), Inv X pins σ H s → t σ H Q →
    wpAny (model X.prog X.w) X.A (eval a X.env) (fun v s₁ => wpAny (model X.prog X.w) X.A (eval b X.env) (fun u s₂ => wpAny (model X.prog X.w) X.A (compareOp op v u) (EP X pins σ Q) X.xe s₂) X.xe s₁) X.xe s
theorem nobehind (b : Expr) {op : CmpOp} (h : op ≠ .In) (h2 : op ≠ .NotIn) : behindInMarks op b = false := by
  have e1 : (op == CmpOp.In) = false := by cases op <;> first | rfl | exact absurd rfl h
  have e2 : (op == CmpOp.NotIn) = false := by cases op <;> first | rfl | exact absurd rfl h2
  cases b <;> simp [behindInMarks, e1, e2]
def tCmp (p : Int → Int → Bool) (ta tb : TE) : TE := fun σ H Q => t2I ta tb (fun i j H2 => Q (.bl (p i j)) H2) σ H
abbrev tLe : TE → TE → TE := tCmp fun i j => decide (i ≤ j)
abbrev tGt : TE → TE → TE := tCmp fun i j => decide (j < i)
abbrev tGe : TE → TE → TE := tCmp fun i j => decide (j ≤ i)
abbrev tEqI : TE → TE → TE := tCmp fun i j => decide (i = j)
/-- a comparison of two ints, by its rule -/
theorem pc_int {op : CmpOp} {p : Int → Int → Bool} (ha : PE X a ta) (hb : PE X b tb)
    (rule : ∀ (i j : Int) (t u : Tok) (Q : Value → Shared → Prop) (s : Shared), Q (.bool (p i j)) s → wpAny (model X.prog X.w) X.A (compareOp op (.int i t) (.int j u)) Q X.xe s) : PC X op a b (tCmp p ta tb) := by
  intro pins s σ H Q I h
  refine bin ha hb I h fun v u s2 x y H2 I2 rx ry q => ?_
  obtain ⟨i, j, rfl, rfl, q⟩ := q
  obtain ⟨t, rfl⟩ := rx
  obtain ⟨t', rfl⟩ := ry
  exact rule i j t t' _ s2 ⟨.bl _, H2, I2, rfl, q⟩
theorem pc_le (ha : PE X a ta) (hb : PE X b tb) : PC X .LtE a b (tLe ta tb) := pc_int ha hb fun _ _ _ _ _ _ h => le_int h
theorem pc_gt (ha : PE X a ta) (hb : PE X b tb) : PC X .Gt a b (tGt ta tb) := pc_int ha hb fun _ _ _ _ _ _ h => gt_int h
theorem pc_ge (ha : PE X a ta) (hb : PE X b tb) : PC X .GtE a b (tGe ta tb) := pc_int ha hb fun _ _ _ _ _ _ h => ge_int h
theorem pc_eqI (ha : PE X a ta) (hb : PE X b tb) : PC X .Eq a b (tEqI ta tb) := pc_int ha hb fun _ _ _ _ _ _ h => eq_int (by rw [Bool.beq_eq_decide_eq]; exact h)
def tNotN (ta : TE) : TE := fun σ H Q => ta σ H fun x H1 => Q (.bl (!decide (x = .non))) H1
theorem RelV.none_iff {x : V} {v : Value} (r : RelV x v) : (v == Value.none) = decide (x = .non) := by
  cases x with
  | non => cases r; rfl
  | bl _ => cases r; rfl
  | int _ => obtain ⟨t, rfl⟩ := r; rfl
  | str _ => obtain ⟨t, rfl⟩ := r; rfl
  | byt _ => obtain ⟨t, rfl⟩ := r; rfl
  | flt _ => obtain ⟨t, rfl⟩ := r; rfl
  | ref _ => cases r; rfl
  | ty _ => cases r; rfl
theorem pc_notN {j pos'} (ha : PE X a ta) : PC X .IsNot a (.Constant .none j pos') (tNotN ta) := by
  intro pins s σ H Q I h
  refine thn (ha pins s σ H _ I h) fun v s1 ⟨x, H1, I1, r1, q1⟩ => ?_
  exact Constant_none (isnot_none_gen ⟨.bl _, H1, I1, by rw [r1.none_iff]; rfl, q1⟩)
/-- a comparison as a value, as a test -/
def tB (t : TE) : TT := fun σ H Q => t σ H fun x H1 => ∃ c, x = .bl c ∧ Q c H1
theorem pe_cmp {op : CmpOp} {t : TE} (h : PC X op a b t) (h1 : behindInMarks op b = false := by first | exact nobehind _ (by decide) (by decide) | rfl) : PE X (.Compare a [op] [b] pos) t := fun pins s σ H Q I hw => wpAny_Compare1 (h pins s σ H Q I hw) h1
theorem pt_cmp {op : CmpOp} {t : TE} (h : PC X op a b t) (h1 : behindInMarks op b = false := by first | exact nobehind _ (by decide) (by decide) | rfl) : PT X (.Compare a [op] [b] pos) (tB t) := by
  intro pins s σ H Q I hw
  refine wpAny_isTrue_Compare1 (thn (h pins s σ H _ I hw) fun v s1 h1 => thn h1 fun u s2 h2 => thn h2 fun c s3 ⟨x, H1, I1, r1, q1⟩ => ?_) h1
  obtain ⟨d, rfl, q⟩ := q1
  cases r1
  exact wpAny_truthy_bool ⟨H1, I1, q⟩
/-- an expression whose value is a bool, as a test -/
theorem pt_val {e : Expr} {t : TE} (h : PE X e t) (he : ∀ whole, isTrue e X.env whole = (do let v ← whole; standAt e.pos; holding [v] (truthy v)) := by intro _; rfl) : PT X e (tB t) := by
  intro pins s σ H Q I hw
  refine isTrue_plain (thn (h pins s σ H _ I hw) fun v s1 ⟨x, H1, I1, r1, q1⟩ => ?_) (he _)
  obtain ⟨d, rfl, q⟩ := q1
  cases r1
  exact wpAny_truthy_bool ⟨H1, I1, q⟩

/-! ### and, or, not -/
variable {tA tB' : TT} {rest : List Expr}
def tOr (t u : TT) : TT := fun σ H Q => t σ H fun c H1 => if c = true then Q true H1 else u σ H1 Q
def tNot (t : TT) : TT := fun σ H Q => t σ H fun c H1 => Q (!c) H1
theorem pw_or1 (ha : PT X a tA) : PW X (.BoolOp .Or [a] pos) tA := by
  intro wh pins s σ H Q I h
  refine isTrue_or (thn (ha pins s σ H Q I h) fun c s1 e => ?_)
  cases c with
  | false => exact isTrue_or_nil e
  | true => exact e
theorem pw_or (ha : PT X a tA) (hb : PW X (.BoolOp .Or (b :: rest) pos) tB') : PW X (.BoolOp .Or (a :: b :: rest) pos) (tOr tA tB') := by
  intro wh pins s σ H Q I h
  refine isTrue_or (thn (ha pins s σ H _ I h) fun c s1 ⟨H1, I1, q1⟩ => ?_)
  cases c with
  | true => exact ⟨H1, I1, q1⟩
  | false => exact hb wh pins s1 σ H1 Q I1 q1
theorem pt_not (ha : PT X a tA) : PT X (.UnaryOp .Not a pos) (tNot tA) := by
  intro pins s σ H Q I h
  exact isTrue_not (ha pins s σ H (fun c H1 => Q (!c) H1) I h)
/-- .. as values (bools) -/
def tAndV (ta tb : TE) : TE := fun σ H Q => ta σ H fun x H1 => ∃ c, x = .bl c ∧ if c = true then tb σ H1 Q else Q (.bl false) H1
def tOrV (ta tb : TE) : TE := fun σ H Q => ta σ H fun x H1 => ∃ c, x = .bl c ∧ if c = true then Q (.bl true) H1 else tb σ H1 Q
theorem pe_one {op} {t : TE} (h : PE X a t) : PE X (.BoolOp op [a] pos) t := fun pins s σ H Q I hw => BoolOp_one (h pins s σ H Q I hw)
theorem pe_and (ha : PE X a ta) (hb : PE X (.BoolOp .And (b :: rest) pos) tb) : PE X (.BoolOp .And (a :: b :: rest) pos) (tAndV ta tb) := by
  intro pins s σ H Q I h
  refine BoolOp_and (thn (ha pins s σ H _ I h) fun v s1 ⟨x, H1, I1, r1, q1⟩ => ?_)
  obtain ⟨c, rfl, q1⟩ := q1
  cases r1
  refine wpAny_truthy_bool ?_
  cases c with
  | true => exact hb pins s1 σ H1 Q I1 q1
  | false => exact ⟨.bl false, H1, I1, rfl, q1⟩
theorem pe_or (ha : PE X a ta) (hb : PE X (.BoolOp .Or (b :: rest) pos) tb) : PE X (.BoolOp .Or (a :: b :: rest) pos) (tOrV ta tb) := by
  intro pins s σ H Q I h
  refine BoolOp_or (thn (ha pins s σ H _ I h) fun v s1 ⟨x, H1, I1, r1, q1⟩ => ?_)
  obtain ⟨c, rfl, q1⟩ := q1
  cases r1
  refine wpAny_truthy_bool ?_
  cases c with
  | false => exact hb pins s1 σ H1 Q I1 q1
  | true => exact ⟨.bl true, H1, I1, rfl, q1⟩
end
end L2

namespace L2
open PySem PySem.Spec PyProof.Rows

/-! ### a list, a tuple that is read: tracked, frozen, or an object of the module -/
def SqL (K : PySem.W.Frag) (H : Hp) (a : Addr) (xs : List V) : Prop :=
  Rd H a (.lst xs) ∨
    ∃ (o : Obj) (its : Array Value) (n : Nat), K.lookup a = some o ∧ o.cls = .type "list" ∧ o.dict = none ∧ o.data = .seq its n ∧ its.size ≤ sizeLine ∧ Vals xs its.toList
def SqT (K : PySem.W.Frag) (H : Hp) (a : Addr) (xs : List V) : Prop :=
  Rd H a (.tup xs) ∨
    ∃ (o : Obj) (its : Array Value) (n : Nat), K.lookup a = some o ∧ o.cls = .type "tuple" ∧ o.data = .seq its n ∧ its.size ≤ sizeLine ∧ Vals xs its.toList
def absV : Value → Option V
  | .none => some .non
  | .bool b => some (.bl b)
  | .int i _ => some (.int i)
  | .str x _ => some (.str x)
  | .bytes b _ => some (.byt b)
  | .float b _ => some (.flt b)
  | .ref a => some (.ref a)
  | .type n => some (.ty n)
  | _ => none
theorem RelV.abs {x : V} {u : Value} (r : RelV x u) : absV u = some x := by
  cases x with
  | non => cases r; rfl
  | bl _ => cases r; rfl
  | int _ => obtain ⟨t, rfl⟩ := r; rfl
  | str _ => obtain ⟨t, rfl⟩ := r; rfl
  | byt _ => obtain ⟨t, rfl⟩ := r; rfl
  | flt _ => obtain ⟨t, rfl⟩ := r; rfl
  | ref _ => cases r; rfl
  | ty _ => cases r; rfl
theorem RelV.inj {x y : V} {u : Value} (r : RelV x u) (q : RelV y u) : x = y := Option.some.inj (r.abs.symm.trans q.abs)
theorem Vals.inj : ∀ {xs ys : List V} {us : List Value}, Vals xs us → Vals ys us → xs = ys
  | _, _, _, .nil, .nil => rfl
  | _, _, _, .cons r t, .cons r' t' => by rw [r.inj r', Vals.inj t t']
section
variable {X : Cx} {pins : List (Addr × Obj)} {σ : St} {H : Hp} {s : Shared} {a : Addr} {xs ys : List V}
theorem SqL.of {K : PySem.W.Frag} (h : H a = some (.lst xs)) : SqL K H a xs := .inl (.inl h)
theorem SqT.of {K : PySem.W.Frag} (h : H a = some (.tup xs)) : SqT K H a xs := .inl (.inl h)
theorem Inv.list (I : Inv X pins σ H s) (h : SqL X.K H a xs) : ∃ its : List Value, Vals xs its ∧ PlainL s.heap a its.toArray ∧ xs.length ≤ sizeLine := by
  rcases h with h | ⟨o, its, n, hk, hc, hd, hs, hz, r⟩
  · obtain ⟨z, its, n, r, e⟩ := h.ok I.hok
    exact ⟨its, r, ⟨_, n, e, rfl, rfl, rfl⟩, z⟩
  · refine ⟨its.toList, r, ⟨o, n, I.kIn a o hk, hc, hd, by simpa using hs⟩, ?_⟩
    have e := r.length
    simp only [Array.length_toList] at e
    omega
theorem Inv.tuple (I : Inv X pins σ H s) (h : SqT X.K H a xs) : ∃ its : List Value, Vals xs its ∧ IsTup s.heap a its.toArray ∧ xs.length ≤ sizeLine := by
  rcases h with h | ⟨o, its, n, hk, hc, hs, hz, r⟩
  · obtain ⟨z, its, r, p⟩ := h.ok I.hok
    exact ⟨its, r, p, z⟩
  · refine ⟨its.toList, r, ⟨o, I.kIn a o hk, hc, n, by simpa using hs⟩, ?_⟩
    have e := r.length
    simp only [Array.length_toList] at e
    omega
theorem Inv.list_inj (I : Inv X pins σ H s) (h : SqL X.K H a xs) (h' : SqL X.K H a ys) : xs = ys := by
  obtain ⟨its, r, ⟨o, n, e, _, _, d⟩, _⟩ := I.list h
  obtain ⟨its', r', ⟨o', n', e', _, _, d'⟩, _⟩ := I.list h'
  rw [e] at e'; cases e'
  rw [d] at d'
  injection d' with d1 _
  have : its = its' := by simpa using congrArg Array.toList d1
  subst this
  exact r.inj r'
theorem Inv.tuple_inj (I : Inv X pins σ H s) (h : SqT X.K H a xs) (h' : SqT X.K H a ys) : xs = ys := by
  obtain ⟨its, r, ⟨o, e, _, n, d⟩, _⟩ := I.tuple h
  obtain ⟨its', r', ⟨o', e', _, n', d'⟩, _⟩ := I.tuple h'
  rw [e] at e'; cases e'
  rw [d] at d'
  injection d' with d1 _
  have : its = its' := by simpa using congrArg Array.toList d1
  subst this
  exact r.inj r'
end

/-! ### another wish about exceptions -/
abbrev Cx.wish (X : Cx) (E : Value → Shared → Prop) : Cx := { X with xe := E }
/-- no exception leaves -/
abbrev Cx.nox (X : Cx) : Cx := X.wish fun _ _ => False
theorem Cx.Ok.wish {X : Cx} (ok : X.Ok) (E : Value → Shared → Prop) : (X.wish E).Ok :=
  ⟨ok.mod, ok.kind, ok.glob, ok.blt, ok.above, ok.inj, ok.has, ok.cab, ok.hd, ok.frames, ok.stk, ok.exf, ok.bs, ok.bsz, ok.noex, ok.exfs, ok.funs, ok.frf⟩
theorem Cx.Ok.unwish {X : Cx} {E : Value → Shared → Prop} (ok : (X.wish E).Ok) : X.Ok :=
  ⟨ok.mod, ok.kind, ok.glob, ok.blt, ok.above, ok.inj, ok.has, ok.cab, ok.hd, ok.frames, ok.stk, ok.exf, ok.bs, ok.bsz, ok.noex, ok.exfs, ok.funs, ok.frf⟩
section
variable {X : Cx} {pins : List (Addr × Obj)} {σ : St} {H : Hp} {s : Shared} {E : Value → Shared → Prop}
theorem Inv.wish (I : Inv X pins σ H s) (E : Value → Shared → Prop) : Inv (X.wish E) pins σ H s := ⟨I.ok.wish E, I.os, I.bare, I.base, I.loc, I.cell, I.free, I.freeC, I.pin, I.hok, I.len⟩
theorem Inv.unwish (I : Inv (X.wish E) pins σ H s) : Inv X pins σ H s := ⟨I.ok.unwish, I.os, I.bare, I.base, I.loc, I.cell, I.free, I.freeC, I.pin, I.hok, I.len⟩
theorem SP.unwish {D : Ends} {f : Flow} {s' : Shared} (h : SP (X.wish E) pins D f s') : SP X pins D f s' := by
  cases f with
  | next => obtain ⟨σ', H', I, q⟩ := h; exact ⟨σ', H', I.unwish, q⟩
  | brk => obtain ⟨σ', H', I, q⟩ := h; exact ⟨σ', H', I.unwish, q⟩
  | cont => obtain ⟨σ', H', I, q⟩ := h; exact ⟨σ', H', I.unwish, q⟩
  | ret u => obtain ⟨v, σ', H', I, r, q⟩ := h; exact ⟨v, σ', H', I.unwish, r, q⟩
theorem PSs.nox {st : List Stmt} {t : TS} (h : PSs X.nox st t) : PSs X st t := fun pins s σ H D I hw =>
  wpAny_mono (h pins s σ H D (I.wish _) hw) (fun _ _ q => q.unwish) fun _ _ z => False.elim z
end

/-! ### blocks and small statements -/
section
variable {X : Cx} {st : Stmt} {rest : List Stmt} {t u : TS} {e : Expr} {te : TE} {pos : Pos}
def tNext : TS := fun D σ H => D.nx σ H
def tSeq (t u : TS) : TS := fun D σ H => t { D with nx := u D } σ H
theorem pss_nil : PSs X [] tNext := fun _ _ σ H _ I h => wpAny_execs_nil ⟨σ, H, I, h⟩
theorem pss_cons (h1 : PS X st t) (h2 : PSs X rest u) : PSs X (st :: rest) (tSeq t u) := by
  intro pins s σ H D I h
  refine wpAny_execs_cons (thn (h1 pins s σ H { D with nx := u D } I h) fun f s1 q => ?_)
  cases f with
  | next =>
    obtain ⟨σ', H', I', q⟩ := q
    exact h2 pins s1 σ' H' D I' q
  | ret v => exact q
  | brk => exact q
  | cont => exact q
theorem pss_one (h1 : PS X st t) : PSs X [st] t := by
  intro pins s σ H D I h
  refine wpAny_execs_cons (thn (h1 pins s σ H D I h) fun f s1 q => ?_)
  cases f with
  | next => exact wpAny_execs_nil q
  | ret v => exact q
  | brk => exact q
  | cont => exact q
def tBreak : TS := fun D σ H => D.bk σ H
def tCont : TS := fun D σ H => D.ct σ H
theorem ps_break : PS X (.Break pos) tBreak := fun _ _ σ H _ I h => wpAny_Break ⟨σ, H, I, h⟩
theorem ps_continue : PS X (.Continue pos) tCont := fun _ _ σ H _ I h => wpAny_Continue ⟨σ, H, I, h⟩
/-- in a def's body nothing is shown -/
theorem Inv.quiet {pins : List (Addr × Obj)} {σ : St} {H : Hp} {s : Shared} (I : Inv X pins σ H s) : interactive X.env = false := by simp [interactive, I.ok.kind]
/-- an expression whose value is dropped -/
def tDrop (te : TE) : TS := fun D σ H => te σ H fun _ H1 => D.nx σ H1
theorem ps_expr (he : PE X e te) (hs : swapsWith e none pos.line X.env = pure false := by rfl) : PS X (.Expr e pos) (tDrop te) := by
  intro pins s σ H D I h
  exact wpAny_Expr_any (thn (he pins s σ H _ I h) fun v s1 ⟨x, H1, I1, r1, q1⟩ => ⟨σ, H1, I1, q1⟩) I.quiet hs
def tRet (te : TE) : TS := fun D σ H => te σ H D.rt
theorem ps_ret (he : PE X e te) : PS X (.Return (some e) pos) (tRet te) := by
  intro pins s σ H D I h
  exact wpAny_Return_some (thn (he pins s σ H _ I h) fun v s1 ⟨x, H1, I1, r1, q1⟩ => ⟨x, σ, H1, I1, r1, q1⟩)
def tIfS (c : TT) (t u : TS) : TS := fun D σ H => c σ H fun b H1 => if b = true then t D σ H1 else u D σ H1
theorem ps_if {c : Expr} {a b : List Stmt} {tc : TT} (hc : PT X c tc) (ha : PSs X a t) (hb : PSs X b u) : PS X (.If c a b pos) (tIfS tc t u) := by
  intro pins s σ H D I h
  refine wpAny_If (thn (hc pins s σ H _ I h) fun d s1 ⟨H1, I1, q1⟩ => ?_)
  cases d with
  | true => exact ha pins s1 σ H1 D I1 q1
  | false => exact hb pins s1 σ H1 D I1 q1
end

/-! ### targets -/
abbrev TG := V → St → Hp → (St → Hp → Prop) → Prop
abbrev TGs := List V → St → Hp → (St → Hp → Prop) → Prop
def PG (X : Cx) (target : Expr) (t : TG) : Prop :=
  ∀ (pins : List (Addr × Obj)) (s : Shared) (σ : St) (H : Hp) (v : V) (u : Value) (Q : St → Hp → Prop), Inv X pins σ H s → RelV v u → t v σ H Q →
    wpAny (model X.prog X.w) X.A (assign target X.env u) (fun _ s' => ∃ σ' H', Inv X pins σ' H' s' ∧ Q σ' H') X.xe s
/-- several targets, one after another -/
def PGs (X : Cx) (ts : List Expr) (t : TGs) : Prop :=
  ∀ (pins : List (Addr × Obj)) (s : Shared) (σ : St) (H : Hp) (vs : List V) (us : List Value) (Q : St → Hp → Prop), Inv X pins σ H s → Vals vs us → t vs σ H Q →
    wpAny (model X.prog X.w) X.A (assignInOrder ((assignEach ts X.env).map (·.2)) us) (fun _ s' => ∃ σ' H', Inv X pins σ' H' s' ∧ Q σ' H') X.xe s
section
variable {X : Cx} {pos : Pos}
def gName (i : Nat) : TG := fun v σ H Q => Q (σ.set i (some v)) H
theorem pg_name {i : Nat} {x : Str} (hN : X.N.Nodup) (hi : X.N[i]? = some x) (hx : Loc X.env.scope x) (hf : X.fn x = true ∨ X.env.scope.names.lookup x = some .local := by first | exact .inl rfl | exact .inr rfl | assumption) : PG X (.Name x pos) (gName i) := by
  intro pins s σ H v u Q I r h
  exact wpAny_assign_Name (store_ok I hN hi hx r (fun s' I' => ⟨_, H, I', h⟩) hf)
def gNil : TGs := fun vs σ H Q => vs = [] ∧ Q σ H
def gCons (t : TG) (u : TGs) : TGs := fun vs σ H Q => ∃ v r, vs = v :: r ∧ t v σ H fun σ' H' => u r σ' H' Q
theorem pgs_nil : PGs X [] gNil := by
  intro pins s σ H vs us Q I r h
  obtain ⟨e, h⟩ := h
  subst e
  cases r
  exact assignInOrder_nil ⟨σ, H, I, h⟩
theorem pgs_cons {e : Expr} {es : List Expr} {t : TG} {u : TGs} (h1 : PG X e t) (h2 : PGs X es u)
    (hs : (assignEach (e :: es) X.env).map (·.2) = assign e X.env :: (assignEach es X.env).map (·.2) := by rfl) : PGs X (e :: es) (gCons t u) := by
  intro pins s σ H vs us Q I r h
  obtain ⟨v, vr, e1, h⟩ := h
  subst e1
  cases r with
  | cons r rr =>
    rw [hs]
    refine assignInOrder_cons (thn (h1 pins s σ H _ _ _ I r h) fun _ s1 ⟨σ1, H1, I1, q1⟩ => ?_)
    exact h2 pins s1 σ1 H1 _ _ Q I1 rr q1
/-- (a, b, ..) = a tuple of that length -/
def gTup (K : PySem.W.Frag) (n : Nat) (t : TGs) : TG := fun v σ H Q => ∃ a xs, v = .ref a ∧ SqT K H a xs ∧ xs.length = n ∧ t xs σ H Q
theorem pg_tup {es : List Expr} {k : Nat} {t : TGs} {n : Nat} (hc : X.calm = true) (h : PGs X es t)
    (hn : (assignEach es X.env).length = n := by rfl) (hst : (assignEach es X.env).findIdx? (·.1) = none := by rfl) : PG X (.Tuple es k pos) (gTup X.K n t) := by
  intro pins s σ H v u Q I r hw
  obtain ⟨a, xs, e1, hq, hl, hw⟩ := hw
  subst e1
  cases r
  obtain ⟨its, rv, ht, hz⟩ := I.tuple hq
  refine assign_Tuple_tuple (I.ok.hd hc) ht (by simp [hn, ← hl, rv.length]) hst fun h' hx => ?_
  have I1 : Inv X pins σ H { s with heap := h' } := I.kept (t' := s.toks) fun b o e => hx b o (Nat.ne_of_lt (Heap.lt_size e)) e
  exact h pins _ σ H xs _ Q I1 (by simpa using rv) hw
/-- target = value -/
def tAsg (te : TE) (g : TG) : TS := fun D σ H => te σ H fun x H1 => g x σ H1 D.nx
/-- name = value -/
theorem ps_set {i : Nat} {x : Str} {e : Expr} {te : TE} {pos' : Pos} (hN : X.N.Nodup) (hi : X.N[i]? = some x) (hx : Loc X.env.scope x) (he : PE X e te) (hs : swapsWith e (some (.Name x pos')) pos.line X.env = pure false := by rfl) (hf : X.fn x = true ∨ X.env.scope.names.lookup x = some .local := by first | exact .inl rfl | exact .inr rfl | assumption) :
    PS X (.Assign [.Name x pos'] e pos) (tAsg te (gName i)) := by
  intro pins s σ H D I h
  refine wpAny_Assign_Name (thn (he pins s σ H _ I h) fun v s1 ⟨y, H1, I1, r1, q1⟩ => ?_) hs
  exact store_ok I1 hN hi hx r1 (fun s2 I2 => ⟨_, H1, I2, q1⟩) hf
end

/-! ### while -/
section
variable {X : Cx} {pos : Pos}
/-- the invariant W with its measure -/
def tWhile (c : TT) (tb : TS) : TS := fun D σ H => ∃ W : Nat → St → Hp → Prop, (∃ m, W m σ H) ∧ ∀ m σ H, W m σ H →
  c σ H fun b H1 => if b = true then ∃ N : St → Hp → Prop, (∀ σ' H', N σ' H' → ∃ m', m' < m ∧ W m' σ' H') ∧ tb { D with nx := N, ct := N, bk := D.nx } σ H1 else D.nx σ H1
theorem ps_while {c : Expr} {body : List Stmt} {tc : TT} {tb : TS} (hp : PassesOwn (model X.prog X.w) X.A X.env X.xe) (hc : PT X c tc) (hb : PSs X body tb) : PS X (.While c body [] pos) (tWhile tc tb) := by
  intro pins s σ H D I h
  obtain ⟨W, ⟨m0, w0⟩, turn⟩ := h
  refine wpAny_While (codeAny_whileLoop (fun n s' => ∃ σ' H', Inv X pins σ' H' s' ∧ W n σ' H') ?_ m0 ⟨σ, H, I, w0⟩)
  rintro n s1 ⟨σ1, H1, I1, w1⟩
  refine wpAny_passesOwn hp (thn (hc pins s1 σ1 H1 _ I1 (turn n σ1 H1 w1)) fun b s2 ⟨H2, I2, q2⟩ => ?_)
  cases b with
  | true =>
    obtain ⟨N, hN, q2⟩ := q2
    rw [if_pos rfl]
    refine wpAny_passesOwn hp (thn (hb pins s2 σ1 H2 _ I2 q2) fun f s3 q3 => ?_)
    cases f with
    | next =>
      obtain ⟨σ3, H3, I3, n3⟩ := q3
      obtain ⟨m', hm, w3⟩ := hN σ3 H3 n3
      exact ⟨m', hm, σ3, H3, I3, w3⟩
    | cont =>
      obtain ⟨σ3, H3, I3, n3⟩ := q3
      obtain ⟨m', hm, w3⟩ := hN σ3 H3 n3
      exact ⟨m', hm, σ3, H3, I3, w3⟩
    | brk => exact q3
    | ret v => exact q3
  | false =>
    rw [if_neg Bool.false_ne_true]
    exact wpAny_execs_nil ⟨σ1, H2, I2, q2⟩
end

/-! ### what a loop or a comprehension walks -/
/-- at turn i: it yields x (the heap may grow), or it stops -/
structure It where
  go : Nat → Hp → Prop
  yld : Nat → Hp → V → Hp → Prop
  stop : Nat → Hp → Prop
/-- the iterator's own objects may turn: they are not the frame's, not pinned, younger than the entry (or a comprehension's own) -/
def FpOk (X : Cx) (pins : List (Addr × Obj)) (H : Hp) (b : Addr) : Prop :=
  H b = none ∧ b ≠ X.env.locals ∧ b ∉ X.fs ∧ (b ∈ X.ex ∨ X.s_0.heap.objs.size ≤ b) ∧ (∀ x c, X.env.cells.lookup x = some c → c ≠ b) ∧ ∀ p ∈ X.pn ++ pins, p.1 ≠ b
theorem Inv.fpOk {X : Cx} {pins : List (Addr × Obj)} {σ : St} {H H' : Hp} {s : Shared} {b : Addr} (I : Inv X pins σ H s) (hb : s.heap.objs.size ≤ b) (hn : H' b = none) : FpOk X pins H' b := by
  refine ⟨hn, Nat.ne_of_gt (Nat.lt_of_lt_of_le I.lt hb), I.nofs hb, .inr (Nat.le_trans I.sz hb), fun x c e z => ?_, fun p hp z => ?_⟩
  · obtain ⟨v, q⟩ := I.cell x c e
    exact absurd (Nat.lt_of_lt_of_le q.lt (by rw [z]; exact hb)) (Nat.lt_irrefl _)
  · exact absurd (Nat.lt_of_lt_of_le (Heap.lt_size (I.pin p hp).1) (by rw [z]; exact hb)) (Nat.lt_irrefl _)
structure Turn (P : Program) (w : World) (K : PySem.W.Frag) (tg : Expr) (J : It) (fp : List Addr) (it : Addr) (tn : Nat → Heap → Prop) : Prop where
  mem : it ∈ fp
  obj : ∀ i h, tn i h → ∀ b ∈ fp, ∃ o, h.get? b = some o ∧ ∀ v, o.data ≠ .cell v
  keep : ∀ i h h', tn i h → (∀ b ∈ fp, ∀ o, h.get? b = some o → h'.get? b = some o) → tn i h'
  item : ∀ (X : Cx), X.prog = P → X.w = w → X.K = K → X.calm = true → ∀ (i : Nat) (pins : List (Addr × Obj)) (s : Shared) (σ : St) (H : Hp) (E : Value → Shared → Prop), Inv X pins σ H s → (∀ b ∈ fp, FpOk X pins H b) → tn i s.heap → J.go i H →
    wpAny (model P w) X.A (pyNext (.ref it)) (fun r s1 => ∃ u, r = some u ∧
      wpAny (model P w) X.A (letOwnedTupleGo tg (.ref it) u) (fun _ s2 => ∃ x H', Inv X pins σ H' s2 ∧ RelV x u ∧ J.yld i H x H' ∧ tn (i + 1) s2.heap ∧ ∀ b ∈ fp, H' b = none) E s1) E s
  done : ∀ (X : Cx), X.prog = P → X.w = w → X.K = K → X.calm = true → ∀ (i : Nat) (pins : List (Addr × Obj)) (s : Shared) (σ : St) (H : Hp) (E : Value → Shared → Prop), Inv X pins σ H s → (∀ b ∈ fp, FpOk X pins H b) → tn i s.heap → J.stop i H →
    wpAny (model P w) X.A (pyNext (.ref it)) (fun r s1 => r = none ∧ Inv X pins σ H s1) E s
  self : ∀ (A : Around) (i : Nat) (s : Shared) (Q : Value → Shared → Prop) (E : Value → Shared → Prop), tn i s.heap → Q (.ref it) s → wpAny (model P w) A (pyIter (.ref it)) Q E s
abbrev TI := St → Hp → (It → Hp → Prop) → Prop
/-- an iterator has come -/
def PIE (X : Cx) (pins : List (Addr × Obj)) (σ : St) (tg : Expr) (R : It → Hp → Prop) (itv : Value) (s2 : Shared) : Prop :=
  ∃ (it : Addr) (fp : List Addr) (tn : Nat → Heap → Prop) (J : It) (H' : Hp), itv = .ref it ∧ Inv X pins σ H' s2 ∧ Turn X.prog X.w X.K tg J fp it tn ∧ tn 0 s2.heap ∧ (∀ b ∈ fp, FpOk X pins H' b) ∧ R J H'
def PI (X : Cx) (tg iter : Expr) (wi : TI) : Prop :=
  ∀ (pins : List (Addr × Obj)) (s : Shared) (σ : St) (H : Hp) (R : It → Hp → Prop), Inv X pins σ H s → wi σ H R →
    wpAny (model X.prog X.w) X.A (eval iter X.env) (fun v s1 => wpAny (model X.prog X.w) X.A (pyIter v) (PIE X pins σ tg R) X.xe s1) X.xe s

/-- the step ahead of the store is nothing for an iterator that keeps no tuple -/
theorem go_of {M : Model} {A : Around} {E : Value → Shared → Prop} {s : Shared} {tg : Expr} {it : Addr} {u : Value} {o : Obj} {n : String} {vs : Array Value} {Q : Unit → Shared → Prop} (ho : s.heap.get? it = some o) (hc : o.cls = .type n) (hd : o.data = .fields vs)
    (hn : ["enumerate", "zip", "dict_itemiterator", "dict_reverseitemiterator", "odict_iterator", "itertools.zip_longest", "itertools.pairwise"].contains n = false) (hQ : Q () s) : wpAny M A (letOwnedTupleGo tg (.ref it) u) Q E s := by
  unfold letOwnedTupleGo
  cases tg <;> first
    | exact wpAny_pure hQ
    | (cases u <;> first
        | exact wpAny_pure hQ
        | (refine wpAny_bind (wpAny_load ho ?_)
           rw [hc, hd]
           show wpAny M A (if (["enumerate", "zip", "dict_itemiterator", "dict_reverseitemiterator", "odict_iterator", "itertools.zip_longest", "itertools.pairwise"].contains n && vs[0]? == some (rawInt _)) = true then _ else _) Q E s
           rw [if_neg (by intro h; rw [hn, Bool.false_and] at h; cases h)]
           exact wpAny_pure hQ))

/-- the list at a, as it stands at each turn (a loop may append to it) -/
def Itl (K : PySem.W.Frag) (a : Addr) : It :=
  ⟨fun i H => ∃ xs x, SqL K H a xs ∧ xs[i]? = some x, fun i H x H' => H' = H ∧ ∀ xs, SqL K H a xs → xs[i]? = some x, fun i H => ∃ xs, SqL K H a xs ∧ xs.length ≤ i⟩
theorem turn_list {P : Program} {w : World} {K : PySem.W.Frag} {tg : Expr} (a it : Addr) : Turn P w K tg (Itl K a) [it] it (fun i h => h.IsListIter it a i) where
  mem := by simp
  obj := fun i h st b hb => by
    have e : b = it := by simpa using hb
    subst e
    obtain ⟨o, e, c, d⟩ := st
    exact ⟨o, e, fun v z => by rw [d] at z; cases z⟩
  keep := fun i h h' st k => st.at fun o e => k it (by simp) o e
  item := by
    intro X hP hw hK hc i pins s σ H E I hf st hg
    subst hP hw hK
    obtain ⟨xs, x, hq, hx⟩ := hg
    obtain ⟨its, rv, p, hz⟩ := I.list hq
    obtain ⟨u, hu, ru⟩ := rv.get hx
    obtain ⟨f0, f1, f2, f3, f4, f5⟩ := hf it (by simp)
    refine wpAny_pyNext_list_item st p.isList (x := u) (by simpa using hu) fun h' st' sb => ?_
    have I1 : Inv X pins σ H { s with heap := h' } := I.turned (t' := s.toks) (fun b o hb e => (sb.2 b hb).trans e) f0 f1 f3 f4 f5
    obtain ⟨o, e, c, d⟩ := id st'
    exact ⟨u, rfl, go_of (s := { s with heap := h' }) e c d (by decide) ⟨x, H, I1, ru, ⟨rfl, fun ys hy => by rw [I.list_inj hy hq]; exact hx⟩, st', fun b hb => (hf b hb).1⟩⟩
  done := by
    intro X hP hw hK hc i pins s σ H E I hf st hg
    subst hP hw hK
    obtain ⟨xs, hq, hx⟩ := hg
    obtain ⟨its, rv, p, hz⟩ := I.list hq
    obtain ⟨f0, f1, f2, f3, f4, f5⟩ := hf it (by simp)
    have hl := rv.length
    exact wpAny_pyNext_list_end (I.ok.hd hc) st p.isList (by simp; omega) fun h' eb => ⟨rfl, I.turned (t' := s.toks) (fun b o hb e => eb b o hb e) f0 f1 f3 f4 f5⟩
  self := fun _ _ _ _ _ st h => wpAny_pyIter_listiter st h
end L2

namespace L2
open PySem PySem.Spec PyProof.Rows
section
variable {X : Cx} {tg : Expr}
def iList (K : PySem.W.Frag) (tl : TE) : TI := fun σ H R => tl σ H fun x H1 => ∃ a, x = .ref a ∧ (∃ xs, SqL K H1 a xs) ∧ R (Itl K a) H1
theorem pi_list {l : Expr} {tl : TE} (hl : PE X l tl) : PI X tg l (iList X.K tl) := by
  intro pins s σ H R I h
  refine thn (hl pins s σ H _ I h) fun v s1 ⟨x, H1, I1, r1, q1⟩ => ?_
  obtain ⟨a, e, ⟨xs, hq⟩, q⟩ := q1
  subst e
  cases r1
  obtain ⟨its, rv, p, hz⟩ := I1.list hq
  refine wpAny_pyIter_list p.isList ?_
  refine ⟨s1.heap.objs.size, [s1.heap.objs.size], _, _, H1, rfl, I1.kept (t' := s1.toks) fun b o e => Heap.get?_push_of_some _ e, turn_list a _, ⟨_, Heap.get?_push_size _ rfl, rfl, rfl⟩, fun b hb => ?_, q⟩
  have e : b = s1.heap.objs.size := by simpa using hb
  subst e
  exact I1.fpOk (Nat.le_refl _) (I1.hok.fresh (Nat.le_refl _))

/-! ### for -/
/-- W: the invariant by the turn and a measure; N: what the body is to reach -/
def tFor (wi : TI) (g : TG) (tb : TS) : TS := fun D σ H => wi σ H fun J H1 => ∃ W : Nat → Nat → St → Hp → Prop, (∃ m, W 0 m σ H1) ∧ ∀ i m σ H, W i m σ H →
  (J.stop i H ∧ D.nx σ H) ∨ (J.go i H ∧ ∃ N : St → Hp → Prop, (∀ σ' H', N σ' H' → ∃ m', m' < m ∧ W (i + 1) m' σ' H') ∧ ∀ x H', J.yld i H x H' → g x σ H' fun σ2 H2 => tb { D with nx := N, ct := N, bk := D.nx } σ2 H2)
/-- the records at fp as they stand -/
def pinsAt (fp : List Addr) (h : Heap) : List (Addr × Obj) := fp.filterMap fun b => (h.get? b).map fun o => (b, o)
theorem mem_pinsAt {fp : List Addr} {h : Heap} {b : Addr} {o : Obj} (hb : b ∈ fp) (e : h.get? b = some o) : (b, o) ∈ pinsAt fp h := List.mem_filterMap.mpr ⟨b, hb, by rw [e]; rfl⟩
theorem of_pinsAt {fp : List Addr} {h : Heap} {p : Addr × Obj} (hp : p ∈ pinsAt fp h) : p.1 ∈ fp ∧ h.get? p.1 = some p.2 := by
  obtain ⟨b, hb, e⟩ := List.mem_filterMap.mp hp
  cases q : h.get? b with
  | none => rw [q] at e; cases e
  | some o =>
    rw [q] at e
    have e' : (b, o) = p := Option.some.inj e
    subst e'
    exact ⟨hb, q⟩
theorem Inv.pinned {pins : List (Addr × Obj)} {σ : St} {H : Hp} {s : Shared} {fp : List Addr} (I : Inv X pins σ H s) (hf : ∀ b ∈ fp, FpOk X pins H b) (ho : ∀ b ∈ fp, ∃ o, s.heap.get? b = some o ∧ ∀ v, o.data ≠ .cell v) : Inv X (pins ++ pinsAt fp s.heap) σ H s :=
  I.pins_of fun p hp => (List.mem_append.mp hp).elim (fun z => I.pin p (List.mem_append_right _ z)) fun z => by
    obtain ⟨hb, e⟩ := of_pinsAt z
    obtain ⟨f0, f1, f2, _⟩ := hf p.1 hb
    obtain ⟨o, e', d⟩ := ho p.1 hb
    rw [e] at e'; cases e'
    exact ⟨e, f0, f1, f2, d⟩
theorem Inv.unpinned {pins pl : List (Addr × Obj)} {σ : St} {H : Hp} {s : Shared} (I : Inv X (pins ++ pl) σ H s) : Inv X pins σ H s := I.pins_of fun p hp => I.pin p (List.mem_append_right _ (List.mem_append_left _ hp))
theorem ps_for {iter : Expr} {body : List Stmt} {wi : TI} {g : TG} {tb : TS} {pos : Pos} (hp : PassesOwn (model X.prog X.w) X.A X.env X.xe) (hc : X.calm = true) (hi : PI X tg iter wi) (hg : PG X tg g) (hb : PSs X body tb)
    (hs : ∀ x, foldedSetIterable iter X.env x = pure x := by intro _; rfl) : PS X (.For tg iter body [] pos) (tFor wi g tb) := by
  intro pins s σ H D I h
  refine wpAny_For (thn (hi pins s σ H _ I h) fun v s1 h1 => thn h1 fun itv s2 h2 => ?_) hs
  obtain ⟨it, fp, tn, J, H2, e, I2, T, st2, f2, W, ⟨m0, w0⟩, turn⟩ := h2
  subst e
  -- what stays true of the iterator's objects through the loop
  have stat : ∀ {H' : Hp}, (∀ b ∈ fp, H' b = none) → ∀ b ∈ fp, FpOk X pins H' b := fun hn b hb => ⟨hn b hb, (f2 b hb).2⟩
  refine codeAny_forLoop_any (fun n s' => ∃ i σ' H', Inv X pins σ' H' s' ∧ tn i s'.heap ∧ (∀ b ∈ fp, H' b = none) ∧ W i n σ' H') ?_ m0 ⟨0, σ, H2, I2, st2, fun b hb => (f2 b hb).1, w0⟩
  rintro n s3 ⟨i, σ3, H3, I3, st3, fr3, w3⟩
  rcases turn i n σ3 H3 w3 with ⟨stop, qn⟩ | ⟨go, N, hN, step⟩
  · refine wpAny_passesOwn hp (thn (T.done X rfl rfl rfl hc i pins s3 σ3 H3 X.xe I3 (stat fr3) st3 stop) fun r s4 ⟨hr, I4⟩ => ?_)
    subst hr
    exact wpAny_execs_nil ⟨σ3, H3, I4, qn⟩
  · refine wpAny_passesOwn hp (thn (T.item X rfl rfl rfl hc i pins s3 σ3 H3 X.xe I3 (stat fr3) st3 go) fun r s4 ⟨u, hr, h4⟩ => ?_)
    subst hr
    refine wpAny_passesOwn hp (thn h4 fun _ s5 ⟨x, H5, I5, r5, y5, st5, fr5⟩ => ?_)
    have I5' := I5.pinned (stat fr5) (T.obj _ _ st5)
    refine wpAny_passesOwn hp (thn (hg _ s5 σ3 H5 x u _ I5' r5 (step x H5 y5)) fun _ s6 ⟨σ6, H6, I6, q6⟩ => ?_)
    refine wpAny_passesOwn hp (thn (hb _ s6 σ6 H6 _ I6 q6) fun f s7 q7 => ?_)
    have again : ∀ {σ7 : St} {H7 : Hp}, Inv X (pins ++ pinsAt fp s5.heap) σ7 H7 s7 → N σ7 H7 → ∃ m, m < n ∧ ∃ i σ' H', Inv X pins σ' H' s7 ∧ tn i s7.heap ∧ (∀ b ∈ fp, H' b = none) ∧ W i m σ' H' := fun {σ7 H7} I7 n7 => by
      obtain ⟨m', hm, w7⟩ := hN σ7 H7 n7
      refine ⟨m', hm, i + 1, σ7, H7, I7.unpinned, T.keep _ _ _ st5 fun b hb o e => (I7.pin (b, o) (List.mem_append_right _ (List.mem_append_right _ (mem_pinsAt hb e)))).1, fun b hb => ?_, w7⟩
      obtain ⟨o, e, d⟩ := T.obj _ _ st5 b hb
      exact (I7.pin (b, o) (List.mem_append_right _ (List.mem_append_right _ (mem_pinsAt hb e)))).2.1
    cases f with
    | next => obtain ⟨σ7, H7, I7, n7⟩ := q7; exact again I7 n7
    | cont => obtain ⟨σ7, H7, I7, n7⟩ := q7; exact again I7 n7
    | brk => obtain ⟨σ7, H7, I7, q7⟩ := q7; exact ⟨σ7, H7, I7.unpinned, q7⟩
    | ret v => obtain ⟨x7, σ7, H7, I7, r7, q7⟩ := q7; exact ⟨x7, σ7, H7, I7.unpinned, r7, q7⟩
end

/-! ### the forms one uses -/
/-- over a list that the body leaves as it is -/
theorem for_list {K : PySem.W.Frag} {a : Addr} {xs : List V} {g : TG} {tb : TS} {D : Ends} {σ : St} {H : Hp} (Pv : Nat → St → Hp → Prop) (h0 : Pv 0 σ H) (hl : ∀ i σ H, i ≤ xs.length → Pv i σ H → SqL K H a xs)
    (hs : ∀ i x σ H, xs[i]? = some x → Pv i σ H → g x σ H fun σ2 H2 => tb { D with nx := Pv (i + 1), ct := Pv (i + 1), bk := D.nx } σ2 H2) (hd : ∀ σ H, Pv xs.length σ H → D.nx σ H) :
    ∃ W : Nat → Nat → St → Hp → Prop, (∃ m, W 0 m σ H) ∧ ∀ i m σ H, W i m σ H →
      ((Itl K a).stop i H ∧ D.nx σ H) ∨ ((Itl K a).go i H ∧ ∃ N : St → Hp → Prop, (∀ σ' H', N σ' H' → ∃ m', m' < m ∧ W (i + 1) m' σ' H') ∧ ∀ x H', (Itl K a).yld i H x H' → g x σ H' fun σ2 H2 => tb { D with nx := N, ct := N, bk := D.nx } σ2 H2) := by
  refine ⟨fun i m σ H => m = xs.length - i ∧ i ≤ xs.length ∧ Pv i σ H, ⟨xs.length, by simp, Nat.zero_le _, h0⟩, ?_⟩
  rintro i m σ H ⟨rfl, hi, p⟩
  have q := hl i σ H hi p
  by_cases hlt : i < xs.length
  · refine .inr ⟨⟨xs, xs[i], q, by simp [hlt]⟩, Pv (i + 1), fun σ' H' p' => ⟨xs.length - (i + 1), by omega, rfl, hlt, p'⟩, fun x H' y => ?_⟩
    obtain ⟨e, y⟩ := y
    subst e
    exact hs i x σ _ (y xs q) p
  · have e : i = xs.length := by omega
    subst e
    exact .inl ⟨⟨xs, q, Nat.le_refl _⟩, hd σ H p⟩
end L2

namespace L2
open PySem PySem.Spec PyProof.Rows

abbrev R2 := V → V → Hp → VK → Prop
/-- a two-place operation on values: f is binaryOp op, inplaceOp op or compareOp op -/
def OpR (X : Cx) (f : Value → Value → Sem Value) (r : R2) : Prop :=
  ∀ (pins : List (Addr × Obj)) (s : Shared) (σ : St) (H : Hp) (x y : V) (v u : Value) (Q : VK), Inv X pins σ H s → RelV x v → RelV y u → r x y H Q →
    wpAny (model X.prog X.w) X.A (f v u) (EP X pins σ Q) X.xe s
/-- a one-place operation -/
def UnR (X : Cx) (f : Value → Sem Value) (r : V → Hp → VK → Prop) : Prop :=
  ∀ (pins : List (Addr × Obj)) (s : Shared) (σ : St) (H : Hp) (x : V) (v : Value) (Q : VK), Inv X pins σ H s → RelV x v → r x H Q →
    wpAny (model X.prog X.w) X.A (f v) (EP X pins σ Q) X.xe s
/-- a call of a value that is known (a builtin, a type) with values -/
def CallR (X : Cx) (f : Value) (r : List V → Hp → VK → Prop) : Prop :=
  ∀ (pins : List (Addr × Obj)) (s : Shared) (σ : St) (H : Hp) (xs : List V) (us : List Value) (Q : VK), Inv X pins σ H s → Vals xs us → r xs H Q →
    wpAny (model X.prog X.w) X.A (call f us) (EP X pins σ Q) X.xe s

def tOp (r : R2) (ta tb : TE) : TE := fun σ H Q => ta σ H fun x H1 => tb σ H1 fun y H2 => r x y H2 Q
def tUn (r : V → Hp → VK → Prop) (ta : TE) : TE := fun σ H Q => ta σ H fun x H1 => r x H1 Q
/-- ints in, under C, and a value out -/
def rI (C : Int → Int → Prop) (g : Int → Int → V) : R2 := fun x y H Q => ∃ i j, x = .int i ∧ y = .int j ∧ C i j ∧ Q (g i j) H
def rI0 (g : Int → Int → V) : R2 := fun x y H Q => ∃ i j, x = .int i ∧ y = .int j ∧ Q (g i j) H
def rU (g : Int → V) : V → Hp → VK → Prop := fun x H Q => ∃ i, x = .int i ∧ Q (g i) H

section
variable {X : Cx} {a b c : Expr} {ta tb tc : TE} {pos : Pos}

theorem binT (ha : PE X a ta) (hb : PE X b tb) {pins : List (Addr × Obj)} {s : Shared} {σ : St} {H : Hp} {R : V → V → Hp → Prop} (I : Inv X pins σ H s)
    (h : ta σ H fun x H1 => tb σ H1 fun y H2 => R x y H2) {Q : Value → Shared → Prop} {f : Value → Value → Sem Value}
    (hf : ∀ v u s2 x y H2, Inv X pins σ H2 s2 → RelV x v → RelV y u → R x y H2 → wpAny (model X.prog X.w) X.A (f v u) Q X.xe s2) :
    wpAny (model X.prog X.w) X.A (eval a X.env) (fun v s₁ => wpAny (model X.prog X.w) X.A (eval b X.env) (fun u s₂ => wpAny (model X.prog X.w) X.A (f v u) Q X.xe s₂) X.xe s₁) X.xe s := by
  refine thn (ha pins s σ H _ I h) fun v s1 ⟨x, H1, I1, r1, q1⟩ => ?_
  refine thn (hb pins s1 σ H1 _ I1 q1) fun u s2 ⟨y, H2, I2, r2, q2⟩ => ?_
  exact hf v u s2 x y H2 I2 r1 r2 q2

theorem pe_op {op : Operator} {r : R2} (ho : OpR X (binaryOp op) r) (ha : PE X a ta) (hb : PE X b tb) : PE X (.BinOp a op b pos) (tOp r ta tb) := by
  intro pins s σ H Q I h
  exact wpAny_BinOp (binT ha hb I h fun v u s2 x y H2 I2 rx ry q => ho pins s2 σ H2 x y v u Q I2 rx ry q)
theorem pe_un {op : UnaryOp} {r : V → Hp → VK → Prop} (ho : UnR X (unaryOp op) r) (ha : PE X a ta) : PE X (.UnaryOp op a pos) (tUn r ta) := by
  intro pins s σ H Q I h
  exact UnaryOp_ (thn (ha pins s σ H _ I h) fun v s1 ⟨x, H1, I1, r1, q1⟩ => ho pins s1 σ H1 x v Q I1 r1 q1)

/-! ### ints -/
theorem opI {f : Value → Value → Sem Value} {C : Int → Int → Prop} {g : Int → Int → Int}
    (rule : ∀ (i j : Int) (t u : Tok) (s : Shared) (Q : Value → Shared → Prop) (E : Value → Shared → Prop), C i j → Q (.int (g i j) s.toks) { s with toks := s.toks + 1 } → wpAny (model X.prog X.w) X.A (f (.int i t) (.int j u)) Q E s) :
    OpR X f (rI C fun i j => .int (g i j)) := by
  intro pins s σ H x y v u Q I rx ry h
  obtain ⟨i, j, rfl, rfl, hc, q⟩ := h
  obtain ⟨t, rfl⟩ := rx
  obtain ⟨t', rfl⟩ := ry
  exact rule i j t t' s _ _ hc ⟨.int (g i j), H, I.tok _, ⟨_, rfl⟩, q⟩
theorem opI0 {f : Value → Value → Sem Value} {g : Int → Int → Int}
    (rule : ∀ (i j : Int) (t u : Tok) (s : Shared) (Q : Value → Shared → Prop) (E : Value → Shared → Prop), Q (.int (g i j) s.toks) { s with toks := s.toks + 1 } → wpAny (model X.prog X.w) X.A (f (.int i t) (.int j u)) Q E s) :
    OpR X f (rI0 fun i j => .int (g i j)) := by
  intro pins s σ H x y v u Q I rx ry h
  obtain ⟨i, j, rfl, rfl, q⟩ := h
  obtain ⟨t, rfl⟩ := rx
  obtain ⟨t', rfl⟩ := ry
  exact rule i j t t' s _ _ ⟨.int (g i j), H, I.tok _, ⟨_, rfl⟩, q⟩
theorem opB0 {f : Value → Value → Sem Value} {g : Int → Int → Bool}
    (rule : ∀ (i j : Int) (t u : Tok) (s : Shared) (Q : Value → Shared → Prop) (E : Value → Shared → Prop), Q (.bool (g i j)) s → wpAny (model X.prog X.w) X.A (f (.int i t) (.int j u)) Q E s) :
    OpR X f (rI0 fun i j => .bl (g i j)) := by
  intro pins s σ H x y v u Q I rx ry h
  obtain ⟨i, j, rfl, rfl, q⟩ := h
  obtain ⟨t, rfl⟩ := rx
  obtain ⟨t', rfl⟩ := ry
  exact rule i j t t' s _ _ ⟨.bl (g i j), H, I, rfl, q⟩

def CMul (i j : Int) : Prop := (-(2 ^ 64) < i ∧ i < 2 ^ 64) ∨ (-(2 ^ 64) < j ∧ j < 2 ^ 64)
theorem CMul.ok {i j : Int} (h : CMul i j) : IntMulOk i j := by
  rcases h with ⟨h1, h2⟩ | ⟨h1, h2⟩
  · exact .of_left (intBits_le_64 h1 h2)
  · exact .of_right (intBits_le_64 h1 h2)

theorem op_add : OpR X (binaryOp .Add) (rI0 fun i j => .int (i + j)) := opI0 fun _ _ _ _ _ _ _ q => add_int q
theorem op_sub : OpR X (binaryOp .Sub) (rI0 fun i j => .int (i - j)) := opI0 fun _ _ _ _ _ _ _ q => sub_int q
theorem op_mul : OpR X (binaryOp .Mult) (rI CMul fun i j => .int (i * j)) := opI fun _ _ _ _ _ _ _ hc q => mul_int q hc.ok


theorem unI {f : Value → Sem Value} {g : Int → Int}
    (rule : ∀ (i : Int) (t : Tok) (s : Shared) (Q : Value → Shared → Prop) (E : Value → Shared → Prop), Q (.int (g i) s.toks) { s with toks := s.toks + 1 } → wpAny (model X.prog X.w) X.A (f (.int i t)) Q E s) :
    UnR X f (rU fun i => .int (g i)) := by
  intro pins s σ H x v Q I rx h
  obtain ⟨i, rfl, q⟩ := h
  obtain ⟨t, rfl⟩ := rx
  exact rule i t s _ _ ⟨.int (g i), H, I.tok _, ⟨_, rfl⟩, q⟩
theorem un_neg : UnR X (unaryOp .USub) (rU fun i => .int (-i)) := unI fun _ _ _ _ _ q => neg_int q

/-! ### bools among ints: n += (a < b) -/
end

/-! ### comparisons -/
/-- the scalars that == tells apart as data does -/
def scal : V → V → Bool
  | .non, .non => true | .non, .int _ => true | .int _, .non => true | .non, .bl _ => true | .bl _, .non => true | .non, .str _ => true | .str _, .non => true
  | .int _, .int _ => true | .bl _, .bl _ => true | .str _, .str _ => true | .byt _, .byt _ => true
  | .int _, .str _ => true | .str _, .int _ => true | .bl _, .str _ => true | .str _, .bl _ => true
  | _, _ => false
def rEq : R2 := fun x y H Q => scal x y = true ∧ Q (.bl (decide (x = y))) H

theorem dec_int {i j : Int} : decide (V.int i = V.int j) = (i == j) := by
  rw [Bool.eq_iff_iff]
  simp
theorem dec_bl {i j : Bool} : decide (V.bl i = V.bl j) = (i == j) := by
  rw [Bool.eq_iff_iff]
  simp
theorem dec_str {i j : Str} : decide (V.str i = V.str j) = (i == j) := by
  rw [Bool.eq_iff_iff]
  simp
theorem dec_byt {i j : Array UInt8} : decide (V.byt i = V.byt j) = (i.toList == j.toList) := by
  rw [Bool.eq_iff_iff]
  cases i
  cases j
  simp

section
variable {X : Cx} {a b c : Expr} {ta tb tc : TE} {pos : Pos}
theorem fin_bl {pins : List (Addr × Obj)} {σ : St} {H : Hp} {s : Shared} {Q : VK} {k k' : Bool} (I : Inv X pins σ H s) (q : Q (.bl k) H) (e : k = k') : EP X pins σ Q (.bool k') s := by
  subst e
  exact ⟨.bl k, H, I, rfl, q⟩
theorem op_eq : OpR X (compareOp .Eq) rEq := by
  intro pins s σ H x y v u Q I rx ry h
  obtain ⟨hs, q⟩ := h
  cases x with
  | non =>
    cases rx
    cases y with
    | non => cases ry; exact PySem.EqNone.eq_none_none (fin_bl I q (by simp))
    | bl j => cases ry; exact PySem.EqNone.eq_none_bool (fin_bl I q (by simp))
    | int j => obtain ⟨t', rfl⟩ := ry; exact PySem.EqNone.eq_none_int (fin_bl I q (by simp))
    | str j => obtain ⟨t', rfl⟩ := ry; exact PySem.EqNone.eq_none_str (fin_bl I q (by simp))
    | _ => exact absurd (show false = true from hs) Bool.false_ne_true
  | bl i =>
    cases rx
    cases y with
    | non => cases ry; exact PySem.EqNone.eq_bool_none (fin_bl I q (by simp))
    | bl j => cases ry; exact eq_bool (fin_bl I q dec_bl)
    | str j => obtain ⟨t', rfl⟩ := ry; exact PySem.EqMixed.eq_bool_str (fin_bl I q (by simp))
    | _ => exact absurd (show false = true from hs) Bool.false_ne_true
  | int i =>
    obtain ⟨t, rfl⟩ := rx
    cases y with
    | non => cases ry; exact PySem.EqNone.eq_int_none (fin_bl I q (by simp))
    | int j => obtain ⟨t', rfl⟩ := ry; exact eq_int (fin_bl I q dec_int)
    | str j => obtain ⟨t', rfl⟩ := ry; exact PySem.EqMixed.eq_int_str (fin_bl I q (by simp))
    | _ => exact absurd (show false = true from hs) Bool.false_ne_true
  | str i =>
    obtain ⟨t, rfl⟩ := rx
    cases y with
    | non => cases ry; exact PySem.EqNone.eq_str_none (fin_bl I q (by simp))
    | bl j => cases ry; exact PySem.EqMixed.eq_str_bool (fin_bl I q (by simp))
    | int j => obtain ⟨t', rfl⟩ := ry; exact PySem.EqMixed.eq_str_int (fin_bl I q (by simp))
    | str j => obtain ⟨t', rfl⟩ := ry; exact eq_str (fin_bl I q dec_str)
    | _ => exact absurd (show false = true from hs) Bool.false_ne_true
  | byt i =>
    obtain ⟨t, rfl⟩ := rx
    cases y with
    | byt j => obtain ⟨t', rfl⟩ := ry; exact PySem.W.eq_bytes (fin_bl I q dec_byt)
    | _ => exact absurd (show false = true from hs) Bool.false_ne_true
  | _ => cases y <;> exact absurd (show false = true from hs) Bool.false_ne_true

theorem op_lt : OpR X (compareOp .Lt) (rI0 fun i j => .bl (decide (i < j))) := opB0 fun _ _ _ _ _ _ _ q => lt_int q
theorem op_gt : OpR X (compareOp .Gt) (rI0 fun i j => .bl (decide (j < i))) := opB0 fun _ _ _ _ _ _ _ q => gt_int q
theorem op_ge : OpR X (compareOp .GtE) (rI0 fun i j => .bl (decide (j ≤ i))) := opB0 fun _ _ _ _ _ _ _ q => ge_int q




theorem nomark (b : Expr) {op : CmpOp} (h : op ≠ .In := by decide) (h2 : op ≠ .NotIn := by decide) : behindInMarks op b = false := by
  have e1 : (op == CmpOp.In) = false := by cases op <;> first | rfl | exact absurd rfl h
  have e2 : (op == CmpOp.NotIn) = false := by cases op <;> first | rfl | exact absurd rfl h2
  cases b <;> simp [behindInMarks, e1, e2]
/-- a reading of a value as a test -/
def tTest (t : TE) : TT := fun σ H Q => t σ H fun x H' => ∃ k, x = .bl k ∧ Q k H'
theorem pt_cmpR {op : CmpOp} {r : R2} (ho : OpR X (compareOp op) r) (ha : PE X a ta) (hb : PE X b tb) (hm : behindInMarks op b = false) : PT X (.Compare a [op] [b] pos) (tTest (tOp r ta tb)) := by
  intro pins s σ H Q I h
  refine wpAny_isTrue_Compare1 (thn (ha pins s σ H _ I h) fun v s1 ⟨x, H1, I1, r1, q1⟩ => thn (hb pins s1 σ H1 _ I1 q1) fun u s2 ⟨y, H2, I2, r2, q2⟩ =>
    thn (ho pins s2 σ H2 x y v u _ I2 r1 r2 q2) fun c s3 ⟨z, H3, I3, r3, k, e, q3⟩ => ?_) hm
  subst e
  cases r3
  exact wpAny_truthy_bool ⟨H3, I3, q3⟩

/-! ### truth -/
theorem line63 : (sizeLine : Nat) < 2 ^ 63 := by rw [sizeLine_eq]; decide

/-! ### strs and bytes -/


/-! ### scalar builtins, by CallR -/
theorem vals1 {x : V} {us : List Value} (r : Vals [x] us) : ∃ u, us = [u] ∧ RelV x u := by
  cases r with
  | cons r1 r2 => cases r2; exact ⟨_, rfl, r1⟩
theorem vals2 {x y : V} {us : List Value} (r : Vals [x, y] us) : ∃ u w', us = [u, w'] ∧ RelV x u ∧ RelV y w' := by
  cases r with
  | cons r1 r2 =>
    cases r2 with
    | cons r3 r4 => cases r4; exact ⟨_, _, rfl, r1, r3⟩
theorem call_max2 (hc : X.calm = true) : CallR X (.builtin "max") (fun xs H Q => ∃ i j, xs = [.int i, .int j] ∧ Q (.int (if j > i then j else i)) H) := by
  intro pins s σ H xs us Q I r h
  obtain ⟨i, j, rfl, q⟩ := h
  obtain ⟨u, w', rfl, ⟨t, rfl⟩, ⟨t', rfl⟩⟩ := vals2 r
  refine max_two_ints (I.ok.hd hc) fun h' tk k => ⟨_, H, I.kept k, ?_, q⟩
  by_cases hj : j > i
  · rw [if_pos hj, if_pos hj]; exact ⟨_, rfl⟩
  · rw [if_neg hj, if_neg hj]; exact ⟨_, rfl⟩
end
end L2

namespace L2
open PySem PySem.Spec PyProof.Rows

/-! ### an instance, its attributes a map -/
structure ObjM (h : Heap) (x dx C : Addr) (mA : Str → Option Value) : Prop where
  obj : h.get? x = some (PySem.W.instObj C dx)
  ns : h.Ns1 dx mA
  ne : dx ≠ x

theorem lookIn_ns {h : Heap} {dx : Addr} {mA : Str → Option Value} (n : h.Ns1 dx mA) : ∃ od, h.get? dx = some od ∧ ∀ name, PySem.W.lookIn name od = some (mA name) := by
  obtain ⟨o, es, ep, ho, hd, hk, _, hm⟩ := n
  refine ⟨o, ho, fun name => ?_⟩
  have e := hm name
  unfold nsFind findBy at e
  rw [← Array.find?_toList] at e
  unfold PySem.W.lookIn
  rw [hd]
  dsimp only
  split
  · rename_i y q
    rw [q] at e
    exact congrArg some e
  · rename_i q
    rw [q] at e
    have a : es.toList.any (·.refKey) = false := by
      rw [List.any_eq_false]
      intro y hy
      obtain ⟨z, t, hkey⟩ := hk y (Array.mem_toList_iff.mp hy)
      simp [DictEntry.refKey, hkey]
    have a' : ¬ es.toList.any (·.refKey) = true := by rw [a]; exact Bool.false_ne_true
    rw [if_neg a']
    exact congrArg some e

theorem ObjM.look {h : Heap} {x dx C : Addr} {mA : Str → Option Value} (I : ObjM h x dx C mA) : ∃ od, PySem.W.InstAt h x (PySem.W.instObj C dx) C (some od) ∧ ∀ name, PySem.W.lookIn name od = some (mA name) :=
  let ⟨od, ho, hl⟩ := lookIn_ns I.ns
  ⟨od, ⟨I.obj, rfl, rfl, ho⟩, hl⟩

section
variable {prog : Program} {w : World} {A : Around} {E : Value → Shared → Prop} {s : Shared} {K : PySem.W.Frag} {x dx C f : Addr} {mA : Str → Option Value} {name : Str} {v : Value}

theorem get_map {expr : Bool} {Q : Value → Shared → Prop} (X : K.In s.heap) (I : ObjM s.heap x dx C mA) (hg : PySem.W.plainGet K C name = true) (hh : PySem.W.hasDictIn K C = true)
    (ha : PySem.W.findIn K (.ref C) name = some none) (hv : mA name = some v) (hv' : PySem.W.handedIn v = true) (h : Q v { s with toks := s.toks + 1 }) :
    wpAny (model prog w) A (getAttr (.ref x) name expr) Q E s := by
  obtain ⟨od, J, hl⟩ := I.look
  exact PySem.W.get_value X J (PySem.W.plainGet_of hg).1 (PySem.W.findObj_own hh ha rfl (by rw [hl, hv])) hv' h


theorem get_meth {pl : Sem Bool} {Q : Value × List Value → Shared → Prop} (X : K.In s.heap) (I : ObjM s.heap x dx C mA) (hg : PySem.W.plainGet K C name = true)
    (hf : PySem.W.findIn K (.ref C) name = some (some (.ref f))) (ht : PySem.W.isFn K (.ref f) = true) (hv : mA name = none) (h : Q (.ref f, [.ref x]) s) :
    wpAny (model prog w) A (getMethod (.ref x) name pl) Q E s := by
  obtain ⟨od, J, hl⟩ := I.look
  exact PySem.W.method_fn X J (PySem.W.plainGet_of hg).1 (PySem.W.plainGet_of hg).2 hf (beq_iff_eq.mp ht) (by show (PySem.W.lookIn name od).map (·.isSome) = some false; rw [hl, hv]; rfl) h

theorem set_map {ns : List Str} {Q : Unit → Shared → Prop} (X : K.In s.heap) (I : ObjM s.heap x dx C mA)
    (hs : PySem.W.findIn K (.ref C) "__setattr__" = some (some (.builtin "object.__setattr__"))) (hp : PySem.W.plainOver K C = true) (ht : PySem.W.takerIn K C name = some none) (hh : PySem.W.hasDictIn K C = true)
    (hw : PySem.Within mA ns) (hsz : ns.length ≤ sizeLine)
    (h : ∀ h', ObjM h' x dx C (fun y => if y = name then some v else mA y) → Heap.SameBut dx s.heap h' → Q () { s with heap := h', toks := s.toks + 2 }) :
    wpAny (model prog w) A (setAttr (.ref x) name v) Q E s := by
  obtain ⟨od, J, hl⟩ := I.look
  refine PySem.W.set_plain X J hs (PySem.W.osa_open (s := { s with toks := s.toks + 1 }) (r := none) X J hp ht fun b => ?_)
  obtain ⟨cd, hc, hd'⟩ := PySem.W.any_some hh
  have hx : s.heap.get? x = some ⟨.ref C, some dx, .plain, #[]⟩ := I.obj
  refine wpAny_bind (wpAny_pure (wpAny_bind (wpAny_bind (wpAny_loadPart hx (wpAny_bind (PySem.W.Looks.here (s := { s with toks := s.toks + 1 }) (PySem.W.looks_clsIn X hc) ?_))))))
  rw [hd']
  refine wpAny_pure (a := some dx) (wpAny_bind (wpAny_pure (wpAny_bind ?_)))
  refine wpAny_nsSet1 (s := { s with toks := s.toks + 1 }) I.ns fun h' hn2 hs2 => ?_
  obtain ⟨oD, esD, epD, hoD, hdD, hcD⟩ := hn2.count (PySem.Within.cons name v hw)
  refine wpAny_bind (wpAny_lookBehind hoD (by rw [hdD]; exact pastItsLine_dict (Nat.le_trans hcD (by rw [List.length_cons]; omega))) ?_)
  exact wpAny_pure (h _ ⟨(hs2.2 _ (Ne.symm I.ne)).trans I.obj, hn2, I.ne⟩ hs2)

/-- C(..): the dict at the heap's end, the instance behind it; then its __init__ -/
theorem make_map {R : Result → Shared → Prop} {vs : List Value} {kw : List (Str × Value)} (X : K.In s.heap) (hm : PySem.W.makesIn K C = true)
    (hi : PySem.W.findIn K (.ref C) "__init__" = some (some (.ref f))) (hf : PySem.W.typeIn K (.ref f) = some (.type "function"))
    (h : codeAny (model prog w) (A.under (.builtin "type.__call__" ⟨.ref C :: vs, kw⟩)) (.call (.ref f) ⟨.ref (s.heap.objs.size + 1) :: vs, kw⟩) (PySem.W.InitBack (s.heap.objs.size + 1) R)
      { s with heap := (s.heap.push PySem.W.emptyDict).push (PySem.W.instObj C s.heap.objs.size) }) :
    codeAny (model prog w) A (.call (.ref C) ⟨vs, kw⟩) R s := by
  obtain ⟨hh, g, d, t, os⟩ := s
  exact PySem.W.make_core (PySem.W.makes_of X hm) (PySem.W.looks_findIn X hi) (fun self => PySem.W.bind_fn X self hf) (.inl rfl) h
end

/-! ### the attributes as a list of pairs -/
def putF (f : Str) (v : V) : List (Str × V) → List (Str × V)
  | [] => [(f, v)]
  | (g, x) :: r => if g = f then (g, v) :: r else (g, x) :: putF f v r
theorem lookup_putF (f g : Str) (v : V) : ∀ fs : List (Str × V), (putF f v fs).lookup g = if g = f then some v else fs.lookup g
  | [] => by
    show List.lookup g [(f, v)] = _
    by_cases h : g = f
    · have hb : (g == f) = true := beq_iff_eq.mpr h
      simp only [List.lookup, hb, if_pos h]
    · have hb : (g == f) = false := beq_eq_false_iff_ne.mpr h
      simp only [List.lookup, hb, if_neg h]
  | (k, x) :: r => by
    have ih := lookup_putF f g v r
    rw [show putF f v ((k, x) :: r) = (if k = f then (k, v) :: r else (k, x) :: putF f v r) from rfl]
    by_cases hk : k = f
    · rw [if_pos hk]
      by_cases h : g = k
      · have hb : (g == k) = true := beq_iff_eq.mpr h
        simp only [List.lookup, hb, if_pos (h.trans hk)]
      · have hb : (g == k) = false := beq_eq_false_iff_ne.mpr h
        simp only [List.lookup, hb, if_neg (fun e : g = f => h (e.trans hk.symm))]
    · rw [if_neg hk]
      by_cases h : g = k
      · have hb : (g == k) = true := beq_iff_eq.mpr h
        simp only [List.lookup, hb, if_neg (fun e : g = f => hk (h.symm.trans e))]
      · have hb : (g == k) = false := beq_eq_false_iff_ne.mpr h
        simp only [List.lookup, hb]
        exact ih
theorem keys_putF (f : Str) (v : V) : ∀ fs : List (Str × V), f ∈ (putF f v fs).map (·.1) ∧ ∀ g, g ∈ fs.map (·.1) → g ∈ (putF f v fs).map (·.1)
  | [] => ⟨by simp [putF], fun g h => by simp at h⟩
  | (k, x) :: r => by
    obtain ⟨i1, i2⟩ := keys_putF f v r
    rw [show putF f v ((k, x) :: r) = (if k = f then (k, v) :: r else (k, x) :: putF f v r) from rfl]
    by_cases hk : k = f
    · rw [if_pos hk]
      subst hk
      exact ⟨by simp, fun g h => by simpa using h⟩
    · rw [if_neg hk]
      refine ⟨?_, fun g h => ?_⟩
      · rw [List.map_cons]
        exact List.mem_cons_of_mem _ i1
      · rw [List.map_cons] at h ⊢
        rcases List.mem_cons.mp h with e | e
        · exact List.mem_cons.mpr (.inl e)
        · exact List.mem_cons_of_mem _ (i2 g e)
theorem length_putF (f : Str) (v : V) : ∀ fs : List (Str × V), (putF f v fs).length ≤ fs.length + 1
  | [] => by simp [putF]
  | (k, x) :: r => by
    have ih := length_putF f v r
    rw [show putF f v ((k, x) :: r) = (if k = f then (k, v) :: r else (k, x) :: putF f v r) from rfl]
    by_cases hk : k = f
    · rw [if_pos hk, List.length_cons, List.length_cons]; omega
    · rw [if_neg hk, List.length_cons, List.length_cons]; omega

theorem RelO.some_of {v : V} {o : Option Value} (r : RelO (some v) o) : ∃ u, o = some u ∧ RelV v u := by
  cases o with
  | none => exact (show False from r).elim
  | some u => exact ⟨u, rfl, r⟩
theorem RelO.none_of {o : Option Value} (r : RelO none o) : o = none := by
  cases o with
  | none => rfl
  | some u => exact (show False from r).elim
theorem handed_of {v : V} {u : Value} (r : RelV v u) : PySem.W.handedIn u = true := by
  cases v with
  | non => cases (show u = Value.none from r); rfl
  | bl b => cases (show u = Value.bool b from r); rfl
  | int i => obtain ⟨t, e⟩ := (show ∃ t, u = Value.int i t from r); cases e; rfl
  | str x => obtain ⟨t, e⟩ := (show ∃ t, u = Value.str x t from r); cases e; rfl
  | byt b => obtain ⟨t, e⟩ := (show ∃ t, u = Value.bytes b t from r); cases e; rfl
  | flt b => obtain ⟨t, e⟩ := (show ∃ t, u = Value.float b t from r); cases e; rfl
  | ref a => cases (show u = Value.ref a from r); rfl
  | ty n => cases (show u = Value.type n from r); rfl

section
variable {P : Program} {w : World} {H H' : Hp} {h h' : Heap} {a C dx : Addr} {fs fs' : List (Str × V)}
theorem ins_get (hok : HOk P w H h) (e : H a = some (.ins C dx fs)) : ∃ mA, ObjM h a dx C mA ∧ (∀ f, RelO (fs.lookup f) (mA f)) ∧ PySem.Within mA (fs.map (·.1)) ∧ fs.length ≤ 1000 ∧ H dx = some (.own a) := by
  obtain ⟨d, z, ne, ob, mA, n, r, q⟩ := (show ObjOk P w H h a (.ins C dx fs) from hok a _ e)
  exact ⟨mA, ⟨ob, n, ne⟩, r, q, z, d⟩
end

/-! ### what of the text a class must have -/
structure Cls (K : PySem.W.Frag) (C : Addr) : Prop where
  pg : PySem.W.plainGet K C Str.empty = true
  hd : PySem.W.hasDictIn K C = true
  po : PySem.W.plainOver K C = true
  sa : PySem.W.findIn K (.ref C) "__setattr__" = some (some (.builtin "object.__setattr__"))
theorem Cls.get {K : PySem.W.Frag} {C : Addr} (c : Cls K C) (f : Str) : PySem.W.plainGet K C f = true := c.pg
/-- no class of it has the name -/
def NoAttr (K : PySem.W.Frag) (C : Addr) (f : Str) : Prop := PySem.W.findIn K (.ref C) f = some none
theorem NoAttr.taker {K : PySem.W.Frag} {C : Addr} {f : Str} (n : NoAttr K C f) : PySem.W.takerIn K C f = some none := by
  unfold PySem.W.takerIn
  rw [show PySem.W.findIn K (.ref C) f = some none from n]
  rfl
/-- a method: a plain def of the class or of one above it -/
structure Meth (K : PySem.W.Frag) (C : Addr) (m : Str) (f : Addr) : Prop where
  at_ : PySem.W.findIn K (.ref C) m = some (some (.ref f))
  fn : PySem.W.isFn K (.ref f) = true
  kp : PySem.W.keepIn K (.ref f) = true

section
variable {X : Cx} {pins : List (Addr × Obj)} {σ : St} {H : Hp} {s : Shared} {a C dx : Addr} {fs : List (Str × V)} {f : Str} {v : V} {A : Around} {E : Value → Shared → Prop}

theorem getattr_ok {b : Bool} {Q : Value → Shared → Prop} (I : Inv X pins σ H s) (e : H a = some (.ins C dx fs)) (c : Cls X.K C) (n : NoAttr X.K C f) (l : fs.lookup f = some v)
    (h : ∀ u s', Inv X pins σ H s' → RelV v u → Q u s') : wpAny (model X.prog X.w) A (getAttr (.ref a) f b) Q E s := by
  obtain ⟨mA, O, r, _, _, _⟩ := ins_get I.hok e
  obtain ⟨u, hu, ru⟩ := RelO.some_of (v := v) (o := mA f) (by rw [← l]; exact r f)
  exact get_map I.kIn O (c.get f) c.hd n hu (handed_of ru) (h u _ (I.tok _) ru)


theorem getmeth_ok {m : Str} {g : Addr} {pl : Sem Bool} {Q : Value × List Value → Shared → Prop} (I : Inv X pins σ H s) (e : H a = some (.ins C dx fs)) (c : Cls X.K C) (k : Meth X.K C m g) (l : fs.lookup m = none)
    (h : Q (.ref g, [.ref a]) s) : wpAny (model X.prog X.w) A (getMethod (.ref a) m pl) Q E s := by
  obtain ⟨mA, O, r, _, _, _⟩ := ins_get I.hok e
  have hn : mA m = none := RelO.none_of (by rw [← l]; exact r m)
  exact get_meth I.kIn O (c.get m) k.at_ k.fn hn h

theorem setattr_ok {y : V} {u : Value} {Q : Unit → Shared → Prop} (I : Inv X pins σ H s) (e : H a = some (.ins C dx fs)) (c : Cls X.K C) (n : NoAttr X.K C f) (hl : fs.length < 1000) (ry : RelV y u)
    (h : ∀ s', Inv X pins σ (upd H a (.ins C dx (putF f y fs))) s' → Q () s') : wpAny (model X.prog X.w) A (setAttr (.ref a) f u) Q E s := by
  obtain ⟨mA, O, r, wi, _, ho⟩ := ins_get I.hok e
  have hz : (fs.map (·.1)).length ≤ sizeLine := by rw [List.length_map, sizeLine_eq]; omega
  refine set_map I.kIn O c.sa c.po n.taker c.hd wi hz fun h' O' sb => h _ ?_
  have hd : ∃ o, h'.get? dx = some o := let ⟨o, _, _, e', _⟩ := O'.ns; ⟨o, e'⟩
  refine I.write (x := a) (e := dx) (by rw [e]; exact True.intro) (.inr ho) (fun b q hb z => (sb.2 b hb).trans z) hd ?_
  refine ⟨by rw [upd_ne O.ne]; exact ho, ?_, O.ne, O'.obj, _, O'.ns, fun g => ?_, fun g hg => ?_⟩
  · have := length_putF f y fs; omega
  · show RelO ((putF f y fs).lookup g) (if g = f then some u else mA g)
    rw [lookup_putF]
    by_cases q : g = f
    · rw [if_pos q, if_pos q]; exact ry
    · rw [if_neg q, if_neg q]; exact r g
  · by_cases q : g = f
    · rw [q]; exact (keys_putF f y fs).1
    · refine (keys_putF f y fs).2 g (wi g fun z => hg ?_)
      show (if g = f then some u else mA g) = none
      rw [if_neg q]; exact z

/-- a new instance, tracked, without attributes -/
theorem Inv.made (I : Inv X pins σ H s) : Inv X pins σ (upd (upd H s.heap.objs.size (.own (s.heap.objs.size + 1))) (s.heap.objs.size + 1) (.ins C s.heap.objs.size []))
    { s with heap := (s.heap.push PySem.W.emptyDict).push (PySem.W.instObj C s.heap.objs.size) } := by
  have e1 : (s.heap.push PySem.W.emptyDict).get? s.heap.objs.size = some PySem.W.emptyDict := Heap.get?_push_size s.heap rfl
  have e2 : ((s.heap.push PySem.W.emptyDict).push (PySem.W.instObj C s.heap.objs.size)).get? (s.heap.objs.size + 1) = some (PySem.W.instObj C s.heap.objs.size) := by
    have := Heap.get?_push_size (s.heap.push PySem.W.emptyDict) (o := PySem.W.instObj C s.heap.objs.size) rfl
    rwa [Heap.size_push] at this
  have e3 : (s.heap.push PySem.W.emptyDict).Ns s.heap.objs.size (fun _ => none) := ⟨PySem.W.emptyDict, #[], _, e1, rfl, (fun e he => absurd he (by simp)), fun _ => rfl⟩
  have I1 := I.laid (a := s.heap.objs.size) (o := .own (s.heap.objs.size + 1)) (h' := s.heap.push PySem.W.emptyDict) (t' := s.toks) (fun b u q => Heap.get?_push_of_some _ q) (Nat.le_refl _) ⟨_, e1⟩
  refine I1.laid (a := s.heap.objs.size + 1) (o := .ins C s.heap.objs.size []) (t' := s.toks) (fun b u q => Heap.get?_push_of_some _ q) (Nat.le_of_eq (Heap.size_push _ _)) ?_
  have ne : s.heap.objs.size ≠ s.heap.objs.size + 1 := Nat.ne_of_lt (Nat.lt_succ_self _)
  refine ⟨by rw [upd_ne ne, upd_same], Nat.zero_le _, ne, e2, fun _ => none, (Heap.Ns1.of_empty e3).at fun o q => Heap.get?_push_of_some _ q, fun _ => True.intro, fun y hy => absurd rfl hy⟩

/-- e.f where nothing but the object is asked: through attributeBase (super) and the last hold -/
theorem attr_of {prog : Program} {w : World} {env : Env} {e : Expr} {f : Str} {pos : Pos} {s : Shared} {Q : Value → Shared → Prop} (hb : attributeBase e f env (eval e env) = eval e env)
    (h : wpAny (model prog w) A (eval e env) (fun o s₁ => wpAny (model prog w) A (getAttr o f true) Q E s₁) E s) : wpAny (model prog w) A (eval (.Attribute e f pos) env) Q E s :=
  Attribute_any_ h (by rw [arm_eval_Attribute, hb])
end

/-! ### readings and rules -/
/-- e.f, an attribute of the instance -/
def tFld (K : PySem.W.Frag) (ta : TE) (f : Str) : TE := fun σ H Q => ta σ H fun x H1 => ∃ a C dx fs v, x = .ref a ∧ H1 a = some (.ins C dx fs) ∧ Cls K C ∧ NoAttr K C f ∧ fs.lookup f = some v ∧ Q v H1
/-- e.f = value -/
def sFld (K : PySem.W.Frag) (ta tv : TE) (f : Str) : TS := fun D σ H => tv σ H fun y H1 => ta σ H1 fun x H2 => ∃ a C dx fs, x = .ref a ∧ H2 a = some (.ins C dx fs) ∧ Cls K C ∧ NoAttr K C f ∧ fs.length < 1000 ∧
  D.nx σ (upd H2 a (.ins C dx (putF f y fs)))

section
variable {X : Cx} {o e value : Expr} {f : Str} {pos pos' tpos : Pos} {ta tv : TE}
theorem pe_fld (he : PE X e ta) (hb : attributeBase e f X.env (eval e X.env) = eval e X.env) : PE X (.Attribute e f pos) (tFld X.K ta f) := by
  intro pins s σ H Q I h
  refine attr_of hb (thn (he pins s σ H _ I h) fun u s1 ⟨x, H1, I1, rx, a, C, dx, fs, v, ex, ea, c, n, l, q⟩ => ?_)
  subst ex
  obtain rfl : u = Value.ref a := rx
  exact getattr_ok I1 ea c n l fun u' s2 I2 ru => ⟨v, H1, I2, ru, q⟩
theorem ps_fld (ha : PE X o ta) (hv : PE X value tv) (hs : swapsWith value (some (.Attribute o f pos')) pos.line X.env = pure false) : PS X (.Assign [.Attribute o f pos'] value pos) (sFld X.K ta tv f) := by
  intro pins s σ H D I h
  refine plainObj_wpAny_Assign_Attribute (thn (hv pins s σ H _ I h) fun u s1 ⟨y, H1, I1, ry, q⟩ => thn (ha pins s1 σ H1 _ I1 q) fun ov s2 ⟨x, H2, I2, rx, a, C, dx, fs, ex, ea, c, n, l, q2⟩ => ?_) hs
  subst ex
  obtain rfl : ov = Value.ref a := rx
  exact setattr_ok I2 ea c n l ry fun s3 I3 => ⟨σ, _, I3, q2⟩

end

/-! ### isinstance -/
section
variable {X : Cx} {pins : List (Addr × Obj)} {σ : St} {H : Hp} {s : Shared} {A : Around} {E : Value → Shared → Prop} {Q : Value → Shared → Prop} {c : Value} {b : Bool}
end
end L2

namespace L2
open PySem PySem.Spec PyProof.Rows

/-! ### room -/
structure Room (k : Nat) (A : Around) : Prop where
  hd : A.handled = none
  dp : A.depth + 3 * k + 5 < recursionLimit
  un : A.units + 16 * k + 200 < cLine
theorem Room.mono {j k : Nat} {A : Around} (r : Room k A) (h : j ≤ k) : Room j A := ⟨r.hd, by have := r.dp; omega, by have := r.un; omega⟩
theorem Room.deeper {k : Nat} {A : Around} (r : Room (k + 1) A) (env : Env) : Room k (A.deeper env) :=
  ⟨r.hd, by have := r.dp; show A.depth + 1 + 3 * k + 5 < _; omega, by have := r.un; show A.units + 3 + 16 * k + 200 < _; omega⟩
theorem make_depth {A : Around} {C : Addr} {us : List Value} {kw : List (Str × Value)} : (A.under (.builtin "type.__call__" ⟨.ref C :: us, kw⟩)).depth = A.depth + 1 := by
  first | rfl | simp [Around.under, Code.weight, Code.isCreation, Code.isGuard, Code.isCaller, Code.frames, Code.isFrame, guardIds]
theorem make_units {A : Around} {C : Addr} {us : List Value} {kw : List (Str × Value)} : (A.under (.builtin "type.__call__" ⟨.ref C :: us, kw⟩)).units = A.units + 1 := by
  first | rfl | simp [Around.under, Code.cUnits, Code.frames, Code.isFrame]
theorem Room.make {k : Nat} {A : Around} (r : Room (k + 1) A) (C : Addr) (us : List Value) (kw : List (Str × Value)) : Room k (A.under (.builtin "type.__call__" ⟨.ref C :: us, kw⟩)) :=
  ⟨r.hd, by have := r.dp; rw [make_depth]; omega, by have := r.un; rw [make_units]; omega⟩
theorem Room.depth {k : Nat} {A : Around} (r : Room k A) : A.depth < recursionLimit := by have := r.dp; omega
theorem Room.units {k : Nat} {A : Around} (r : Room k A) : A.units + 64 < cLine := by have := r.un; omega

/-! ### argument lists and displays -/
def tNil : TA := fun _ H Q => Q [] H
def tCons (ta : TE) (tr : TA) : TA := fun σ H Q => ta σ H fun x H1 => tr σ H1 fun xs H2 => Q (x :: xs) H2
section
variable {X : Cx} {e : Expr} {es : List Expr} {te : TE} {t : TA} {pos : Pos}
theorem pa_nil : PA X [] tNil := fun _ _ _ _ H Q I h => Calls.spliced_nil ⟨[], H, I, .nil, h⟩
theorem pa_cons (ha : PE X e te) (hr : PA X es t) (hs : starEach (e :: es) X.env = (false, eval e X.env) :: starEach es X.env := by rfl) : PA X (e :: es) (tCons te t) := by
  intro pos pins s σ H Q I h
  rw [hs]
  show wpAny _ _ (spliced ((false, eval e X.env) :: backTo pos (starEach es X.env))) _ _ s
  refine Calls.spliced_cons (thn (ha pins s σ H _ I h) fun u s1 ⟨x, H1, I1, r1, q1⟩ => ?_)
  exact thn (hr pos pins s1 σ H1 _ I1 q1) fun us s2 ⟨xs, H2, I2, r2, q2⟩ => ⟨x :: xs, H2, I2, .cons r1 r2, q2⟩

/-- a tuple, a list of written items -/
def tTup (t : TA) : TE := fun σ H Q => t σ H fun xs H1 => xs.length ≤ sizeLine ∧ ∀ p, H1 p = none → Q (.ref p) (upd H1 p (.tup xs))
def tLst (t : TA) : TE := fun σ H Q => t σ H fun xs H1 => xs.length ≤ sizeLine ∧ ∀ p, H1 p = none → Q (.ref p) (upd H1 p (.lst xs))
theorem pe_tup {x1} (h : PA X es t) : PE X (.Tuple es x1 pos) (tTup t) := by
  intro pins s σ H Q I hq
  refine wpAny_Tuple_spliced (thn (h pos pins s σ H _ I hq) fun us s1 ⟨xs, H1, I1, r, z, q⟩ => ⟨by rw [← r.length]; exact z, ?_⟩)
  have hf : H1 s1.heap.objs.size = none := I1.hok.fresh (Nat.le_refl _)
  refine ⟨.ref s1.heap.objs.size, upd H1 s1.heap.objs.size (.tup xs), I1.laid (t' := s1.toks) (fun b u e => Heap.get?_push_of_some _ e) (Nat.le_refl _) ?_, rfl, q _ hf⟩
  exact ⟨z, us, r, ⟨_, Heap.get?_push_size _ rfl, rfl, _, rfl⟩⟩
theorem pe_lst (h : PA X es t) : PE X (.List es pos) (tLst t) := by
  intro pins s σ H Q I hq
  refine wpAny_List_spliced (thn (h pos pins s σ H _ I hq) fun us s1 ⟨xs, H1, I1, r, z, q⟩ => ⟨by rw [← r.length]; exact z, ?_⟩)
  have hf : H1 s1.heap.objs.size = none := I1.hok.fresh (Nat.le_refl _)
  refine ⟨.ref s1.heap.objs.size, upd H1 s1.heap.objs.size (.lst xs), I1.laid (t' := s1.toks) (fun b u e => Heap.get?_push_of_some _ e) (Nat.le_refl _) ?_, rfl, q _ hf⟩
  exact ⟨z, us, 0, r, Heap.get?_push_size _ rfl⟩
end

/-! ### what a def promises -/
/-- a def's promise: the bound arguments in the parameters' order, the heap, the wanted end, the wanted exception -/
abbrev Sp := List V → Hp → VK → XK → Prop
/-- how an exception lies behind a call (file 08 gives it): the callers' frames, abstract heap and state ahead of the call, the wish, the exception, the state -/
abbrev CXT := List Env → Hp → Shared → XK → Value → Shared → Prop

/-- the state at a call -/
structure Env0 (P : Program) (w : World) (K : PySem.W.Frag) (mg : Str → Option Value) (base : Heap) (A : Around) (outer : List Env) (s : Shared) (H : Hp) : Prop where
  frames : A.frames = some outer
  mod : Mod K mg base
  bs : ∀ b o, base.get? b = some o → s.heap.get? b = some o ∧ H b = none
  bsz : base.objs.size ≤ s.heap.objs.size
  funs : s.heap.FunFrames base outer
  frf : ∀ b ∈ frs outer, H b = none
  hok : HOk P w H s.heap
  bare : AllBare s.gens
/-- a call's end -/
def CE (outer : List Env) (P : Program) (w : World) (H : Hp) (s : Shared) (Q : VK) (u : Value) (s' : Shared) : Prop :=
  ∃ v H', s'.os = s.os ∧ AllBare s'.gens ∧ Un (frs outer) [] H H' s.heap s'.heap ∧ HOk P w H' s'.heap ∧ RelV v u ∧ Q v H'
def CR (CX : CXT) (outer : List Env) (P : Program) (w : World) (H : Hp) (s : Shared) (Q : VK) (E : XK) (r : Result) (s' : Shared) : Prop :=
  match r with
  | .ok (.ret u) => CE outer P w H s Q u s'
  | .ok _ => False
  | .error e => CX outer H s E e s'
structure FnOk (P : Program) (w : World) (K : PySem.W.Frag) (mg : Str → Option Value) (base : Heap) (CX : CXT) (k : Nat) (f : Addr) (fd : FuncData) (ps : List Str) (sp : Sp) : Prop where
  len : ∀ vs H Q E, sp vs H Q E → vs.length = ps.length
  run : ∀ (A : Around) (outer : List Env) (s : Shared) (H : Hp) (args : Args) (us : List Value) (vs : List V) (Q : VK) (E : XK), Room k A → Env0 P w K mg base A outer s H → BindsTo s fd args (ps.zip us) → Vals vs us → sp vs H Q E →
    codeAny (model P w) A (.call (.ref f) args) (CR CX outer P w H s Q E) s

theorem Env0.make {P : Program} {w : World} {K : PySem.W.Frag} {mg : Str → Option Value} {base : Heap} {A : Around} {outer : List Env} {s : Shared} {H : Hp} (e : Env0 P w K mg base A outer s H) (C : Addr) (us : List Value) (kw : List (Str × Value)) :
    Env0 P w K mg base (A.under (.builtin "type.__call__" ⟨.ref C :: us, kw⟩)) outer s H := ⟨by first | exact e.frames | (simpa [Around.under, Code.envs, Code.isFrame, pushEnvs] using e.frames), e.mod, e.bs, e.bsz, e.funs, e.frf, e.hok, e.bare⟩

section
variable {X : Cx} {pins : List (Addr × Obj)} {σ : St} {H : Hp} {s s' : Shared}
/-- from a body: what a callee wants -/
theorem Inv.env0 (I : Inv X pins σ H s) : Env0 X.prog X.w X.K X.mg X.base X.A X.stack s H :=
  ⟨I.ok.frames, I.ok.mod, I.bs, Nat.le_trans I.ok.bsz I.sz, I.stack, I.stkFree, I.hok, I.bare⟩
/-- behind a call -/
theorem Inv.after {Q : VK} {u : Value} (I : Inv X pins σ H s) (h : CE X.stack X.prog X.w H s Q u s') : EP X pins σ Q u s' := by
  obtain ⟨v, H', os, bare, un, hok, r, q⟩ := h
  obtain ⟨hh, g, d, t, os'⟩ := s'
  obtain rfl : os' = s.os := os
  exact ⟨v, H', I.call (h' := hh) (g' := g) (d' := d) (t' := t) (ch := []) un hok bare (fun b z => absurd z (by simp)), r, q⟩
end

/-! ### calls -/
/-- f(..): the written arguments, then the defaults dvs; E: what is wanted of an exception -/
def tCall (sp : Sp) (dvs : List V) (E : XK) (t : TA) : TE := fun σ H Q => t σ H fun vs H1 => sp (vs ++ dvs) H1 Q E
/-- o.m(..) of an instance of the class at C -/
def tMeth (C : Addr) (m : Str) (sp : Sp) (dvs : List V) (E : XK) (ta : TE) (t : TA) : TE := fun σ H Q => ta σ H fun x H1 => ∃ a dx fs, x = .ref a ∧ H1 a = some (.ins C dx fs) ∧ fs.lookup m = none ∧
  t σ H1 fun vs H2 => sp (x :: (vs ++ dvs)) H2 Q E
/-- C(..): a new instance and its dict, then __init__ -/
def tMake (C : Addr) (sp : Sp) (dvs : List V) (E : XK) (t : TA) : TE := fun σ H Q => t σ H fun vs H1 => ∀ x dx, H1 x = none → H1 dx = none → dx ≠ x →
  sp (.ref x :: (vs ++ dvs)) (upd (upd H1 dx (.own x)) x (.ins C dx [])) (fun v H2 => v = .non ∧ Q (.ref x) H2) E

/-- how the parameters are bound: us the positional arguments, kw the keywords' values by name, ds the defaults that fill up -/
def Binds (K : PySem.W.Frag) (fd : FuncData) (ps : List Str) (ds : List Value) : Prop :=
  ∀ (s : Shared) (us : List Value), K.In s.heap → (us ++ ds).length = ps.length → BindsTo s fd ⟨us, []⟩ (ps.zip (us ++ ds))
/-- every parameter is given -/
theorem Binds.all {K : PySem.W.Frag} {fd : FuncData} {ps : List Str} (h : ∀ us : List Value, us.length = ps.length → bindArgs fd ⟨us, []⟩ = pure (ps.zip us)) : Binds K fd ps [] := fun s us _ hl => by
  rw [List.append_nil] at hl ⊢
  exact .of_eq (h us hl)

/-- an exception of a callee reaches what this body wants of exceptions -/
def Passes (CX : CXT) (X : Cx) (E : XK) : Prop := ∀ (pins : List (Addr × Obj)) (σ : St) (H : Hp) (s : Shared) (e : Value) (s' : Shared), Inv X pins σ H s → CX X.stack H s E e s' → X.xe e s'

section
variable {X : Cx} {CX : CXT} {k : Nat} {f C : Addr} {fd : FuncData} {ps : List Str} {sp : Sp} {dvs : List V} {ds : List Value} {E : XK} {x m : Str} {p pos apos : Pos} {e o : Expr} {es : List Expr} {ta : TE} {t : TA}

/-- the callee runs -/
theorem run_fn {pins : List (Addr × Obj)} {σ : St} {H : Hp} {s : Shared} {Q : VK} {us : List Value} {vs : List V} (F : FnOk X.prog X.w X.K X.mg X.base CX k f fd ps sp) (hr : Room k X.A) (hb : Binds X.K fd ps ds) (hd : Vals dvs ds) (hx : Passes CX X E)
    (I : Inv X pins σ H s) (r : Vals vs us) (h : sp (vs ++ dvs) H Q E) : wpAny (model X.prog X.w) X.A (call (.ref f) us) (EP X pins σ Q) X.xe s := by
  have r2 : Vals (vs ++ dvs) (us ++ ds) := r.append hd
  have hl : (us ++ ds).length = ps.length := by rw [← r2.length]; exact F.len _ _ _ _ h
  refine wpAny_call (codeAny_mono (F.run X.A X.stack s H ⟨us, []⟩ (us ++ ds) (vs ++ dvs) Q E hr I.env0 (hb s us I.kIn hl) r2 h) fun r s' hq => ?_)
  cases r with
  | error e => exact hx pins σ H s e s' I hq
  | ok fl =>
    cases fl with
    | ret u => exact I.after hq
    | next => exact False.elim hq
    | brk => exact False.elim hq
    | cont => exact False.elim hq

theorem pe_call (F : FnOk X.prog X.w X.K X.mg X.base CX k f fd ps sp) (hr : Room k X.A) (hg : Gl X x) (hm : X.mg x = some (.ref f)) (hk : PySem.W.keepIn X.K (.ref f) = true) (hb : Binds X.K fd ps ds) (hd : Vals dvs ds) (hx : Passes CX X E)
    (ha : PA X (e :: es) t) (hdb : (x == ("__debug__" : Str)) = false := by decide) (he : starEach (e :: es) X.env = (false, eval e X.env) :: starEach es X.env := by rfl) (hpl : (backTo pos (starEach es X.env)).any (·.1) = false := by rfl) :
    PE X (.Call (.Name x p) (e :: es) [] pos) (tCall sp dvs E t) := by
  intro pins s σ H Q I h
  refine wpAny_Call_Name_kw (ld_glob I hg hm ?_ hdb)
  refine PySem.W.callWith_K (h₀ := X.base) I.ok.mod.kin hk (thn (ha pos pins s σ H _ I h) fun us s1 ⟨vs, H1, I1, r, q⟩ => ⟨I1.kIn, ?_⟩) he hpl
  exact run_fn F hr hb hd hx I1 r q

/-- o.m(e, ..) -/
theorem pe_meth {pl : Sem Bool} (he : PE X o ta) (c : Cls X.K C) (hm : Meth X.K C m f) (F : FnOk X.prog X.w X.K X.mg X.base CX k f fd ps sp) (hr : Room k X.A) (hb : Binds X.K fd ps ds) (hd : Vals dvs ds) (hx : Passes CX X E) (ha : PA X (e :: es) t)
    (hst : starEach (e :: es) X.env = (false, eval e X.env) :: starEach es X.env := by rfl) (hpl : (backTo pos (starEach es X.env)).any (·.1) = false := by rfl)
    (ht : eval (.Call (.Attribute o m apos) (e :: es) [] pos) X.env = (do
      let ov ← eval o X.env
      standAt apos.atName
      let (f, first) ← holding [ov] (getMethod ov m pl)
      callWith pos f first (backTo pos (starEach (e :: es) X.env)) (backToKw pos (keywordEach [] X.env))) := by rfl) :
    PE X (.Call (.Attribute o m apos) (e :: es) [] pos) (tMeth C m sp dvs E ta t) := by
  intro pins s σ H Q I h
  refine PySem.W.methodCall_KW (pl := pl) (thn (he pins s σ H _ I h) fun u s1 ⟨x, H1, I1, rx, a, dx, fs, ex, ea, l, q⟩ => ?_) ht
  subst ex
  obtain rfl : u = Value.ref a := rx
  refine getmeth_ok I1 ea c hm l ?_
  refine PySem.W.callWith_K (first := [.ref a]) (h₀ := X.base) I.ok.mod.kin hm.kp (thn (ha pos pins s1 σ H1 _ I1 q) fun us s2 ⟨vs, H2, I2, r, q2⟩ => ⟨I2.kIn, ?_⟩) hst hpl
  exact run_fn (us := .ref a :: us) (vs := .ref a :: vs) F hr hb hd hx I2 (.cons rfl r) q2
/-- o.m() -/
theorem pe_meth0 {pl : Sem Bool} (he : PE X o ta) (c : Cls X.K C) (hm : Meth X.K C m f) (F : FnOk X.prog X.w X.K X.mg X.base CX k f fd ps sp) (hr : Room k X.A) (hb : Binds X.K fd ps ds) (hd : Vals dvs ds) (hx : Passes CX X E)
    (ht : eval (.Call (.Attribute o m apos) [] [] pos) X.env = (do
      let ov ← eval o X.env
      standAt apos.atName
      let (f, first) ← holding [ov] (getMethod ov m pl)
      callWith pos f first (backTo pos (starEach [] X.env)) (backToKw pos (keywordEach [] X.env))) := by rfl) :
    PE X (.Call (.Attribute o m apos) [] [] pos) (tMeth C m sp dvs E ta tNil) := by
  intro pins s σ H Q I h
  refine PySem.W.methodCall_KW (pl := pl) (thn (he pins s σ H _ I h) fun u s1 ⟨x, H1, I1, rx, a, dx, fs, ex, ea, l, q⟩ => ?_) ht
  subst ex
  obtain rfl : u = Value.ref a := rx
  refine getmeth_ok I1 ea c hm l ?_
  exact PySem.W.callWith_K0 (first := [.ref a]) I1.kIn hm.kp (run_fn (us := [.ref a]) (vs := [.ref a]) F hr hb hd hx I1 (.cons rfl .nil) q)

/-- what a class must have to be made -/
structure Mk (K : PySem.W.Frag) (C f : Addr) : Prop where
  makes : PySem.W.makesIn K C = true
  init : PySem.W.findIn K (.ref C) "__init__" = some (some (.ref f))
  fn : PySem.W.isFn K (.ref f) = true
  kp : PySem.W.keepIn K (.ref C) = true

theorem run_make {pins : List (Addr × Obj)} {σ : St} {H : Hp} {s : Shared} {Q : VK} {us : List Value} {vs : List V} (M : Mk X.K C f) (F : FnOk X.prog X.w X.K X.mg X.base CX k f fd ps sp) (hr : Room (k + 1) X.A) (hb : Binds X.K fd ps ds) (hd : Vals dvs ds)
    (hx : Passes CX X E) (I : Inv X pins σ H s) (r : Vals vs us)
    (h : ∀ x dx, H x = none → H dx = none → dx ≠ x → sp (.ref x :: (vs ++ dvs)) (upd (upd H dx (.own x)) x (.ins C dx [])) (fun v H2 => v = .non ∧ Q (.ref x) H2) E) :
    wpAny (model X.prog X.w) X.A (call (.ref C) us) (EP X pins σ Q) X.xe s := by
  have hq := h (s.heap.objs.size + 1) s.heap.objs.size (I.hok.fresh (Nat.le_succ _)) (I.hok.fresh (Nat.le_refl _)) (Nat.ne_of_lt (Nat.lt_succ_self _))
  have I2 := Inv.made (C := C) I
  have r2 : Vals (V.ref (s.heap.objs.size + 1) :: (vs ++ dvs)) (Value.ref (s.heap.objs.size + 1) :: (us ++ ds)) := .cons rfl (r.append hd)
  have hl : (Value.ref (s.heap.objs.size + 1) :: us ++ ds).length = ps.length := by
    have e := r2.length
    rw [F.len _ _ _ _ hq] at e
    exact e.symm
  refine wpAny_call (make_map (f := f) I.kIn M.makes M.init (beq_iff_eq.mp M.fn) (codeAny_mono (F.run _ X.stack _ _ ⟨Value.ref (s.heap.objs.size + 1) :: us, []⟩ (Value.ref (s.heap.objs.size + 1) :: (us ++ ds)) _ _ E (hr.make C us [])
    (I2.env0.make C us []) (hb _ (Value.ref (s.heap.objs.size + 1) :: us) I2.kIn hl) r2 hq) fun r s' hq' => ?_))
  cases r with
  | error e => exact hx pins σ _ _ e s' I2 hq'
  | ok fl =>
    cases fl with
    | ret u =>
      obtain ⟨v, H', I3, rv, ev, q3⟩ := I2.after hq'
      subst ev
      exact ⟨rv, ⟨V.ref (s.heap.objs.size + 1), H', I3, rfl, q3⟩⟩
    | next => exact False.elim hq'
    | brk => exact False.elim hq'
    | cont => exact False.elim hq'
theorem pe_make (M : Mk X.K C f) (F : FnOk X.prog X.w X.K X.mg X.base CX k f fd ps sp) (hr : Room (k + 1) X.A) (hg : Gl X x) (hm : X.mg x = some (.ref C)) (hb : Binds X.K fd ps ds) (hd : Vals dvs ds) (hx : Passes CX X E)
    (ha : PA X (e :: es) t) (hdb : (x == ("__debug__" : Str)) = false := by decide) (he : starEach (e :: es) X.env = (false, eval e X.env) :: starEach es X.env := by rfl) (hpl : (backTo pos (starEach es X.env)).any (·.1) = false := by rfl) :
    PE X (.Call (.Name x p) (e :: es) [] pos) (tMake C sp dvs E t) := by
  intro pins s σ H Q I h
  refine wpAny_Call_Name_kw (ld_glob I hg hm ?_ hdb)
  refine PySem.W.callWith_K (h₀ := X.base) I.ok.mod.kin M.kp (thn (ha pos pins s σ H _ I h) fun us s1 ⟨vs, H1, I1, r, q⟩ => ⟨I1.kIn, ?_⟩) he hpl
  exact run_make M F hr hb hd hx I1 r q
theorem pe_make0 (M : Mk X.K C f) (F : FnOk X.prog X.w X.K X.mg X.base CX k f fd ps sp) (hr : Room (k + 1) X.A) (hg : Gl X x) (hm : X.mg x = some (.ref C)) (hb : Binds X.K fd ps ds) (hd : Vals dvs ds) (hx : Passes CX X E)
    (hdb : (x == ("__debug__" : Str)) = false := by decide) : PE X (.Call (.Name x p) [] [] pos) (tMake C sp dvs E tNil) := by
  intro pins s σ H Q I h
  refine wpAny_Call_Name_kw (ld_glob I hg hm ?_ hdb)
  exact PySem.W.callWith_K0 I.kIn M.kp (run_make (us := []) M F hr hb hd hx I .nil h)
end

/-! ### keywords -/
section
variable {X : Cx} {CX : CXT} {k : Nat} {f C : Addr} {fd : FuncData} {ps ks : List Str} {sp : Sp} {E : XK} {x m : Str} {p pos apos kpos : Pos} {e o : Expr} {es : List Expr} {kws : List Keyword} {te ta : TE} {t tk : TA} {nm : Option Str}

variable {g : List Value → List Value → List Value} {gV : List V → List V → List V}
end

/-! ### a def's body keeps its promise -/
/-- names: the parameters first -/
structure FnScope (N P : List Str) (sc : Scope) : Prop where
  kind : sc.kind = .function
  co : sc.isCoroutine = false
  gen : sc.isGenerator = false
  nd : N.Nodup
  pre : N.take P.length = P
  par : ∀ x ∈ P, sc.names.lookup x = some .local ∨ sc.names.lookup x = some .cell
  nofree : ∀ y ∈ sc.names, y.2 ≠ .free

theorem bindL_out {kindOf : Str → Option NameKind} {x : Str} : ∀ {binds : List (Str × Value)} {m : Str → Option Value}, (∀ v, (x, v) ∉ binds) → bindL kindOf binds m x = m x
  | [], _, _ => rfl
  | (n, v) :: r, m, h => by
    unfold bindL
    rw [bindL_out fun w hw => h w (List.mem_cons_of_mem _ hw)]
    split
    · have : x ≠ n := by rintro rfl; exact h v List.mem_cons_self
      simp [this]
    · rfl
theorem bindC_out {kindOf : Str → Option NameKind} {x : Str} : ∀ {binds : List (Str × Value)} {m : Str → Option Value}, (∀ v, (x, v) ∉ binds) → bindC kindOf binds m x = m x
  | [], _, _ => rfl
  | (n, v) :: r, m, h => by
    unfold bindC
    rw [bindC_out fun w hw => h w (List.mem_cons_of_mem _ hw)]
    split
    · rfl
    · have : x ≠ n := by rintro rfl; exact h v List.mem_cons_self
      simp [this]
theorem bindL_get {kindOf : Str → Option NameKind} {x : Str} {v : Value} : ∀ {P : List Str} {vs : List Value} {i : Nat} {m : Str → Option Value}, P.Nodup → P[i]? = some x → vs[i]? = some v → kindOf x = some .local →
    bindL kindOf (P.zip vs) m x = some v
  | [], _, _, _, _, h, _, _ => by simp at h
  | _ :: _, [], _, _, _, _, h, _ => by simp at h
  | p :: P, w :: vs, 0, m, nd, h1, h2, hk => by
    simp at h1 h2; subst h1; subst h2
    show bindL kindOf ((p, w) :: P.zip vs) m p = _
    unfold bindL
    rw [bindL_out fun v hv => (List.nodup_cons.mp nd).1 (List.of_mem_zip hv).1, if_pos hk]
    simp
  | p :: P, w :: vs, i + 1, m, nd, h1, h2, hk => by
    show bindL kindOf ((p, w) :: P.zip vs) m x = _
    unfold bindL
    exact bindL_get (i := i) (List.nodup_cons.mp nd).2 (by simpa using h1) (by simpa using h2) hk
theorem bindC_get {kindOf : Str → Option NameKind} {x : Str} {v : Value} : ∀ {P : List Str} {vs : List Value} {i : Nat} {m : Str → Option Value}, P.Nodup → P[i]? = some x → vs[i]? = some v → kindOf x ≠ some .local →
    bindC kindOf (P.zip vs) m x = some v
  | [], _, _, _, _, h, _, _ => by simp at h
  | _ :: _, [], _, _, _, _, h, _ => by simp at h
  | p :: P, w :: vs, 0, m, nd, h1, h2, hk => by
    simp at h1 h2; subst h1; subst h2
    show bindC kindOf ((p, w) :: P.zip vs) m p = _
    unfold bindC
    rw [bindC_out fun v hv => (List.nodup_cons.mp nd).1 (List.of_mem_zip hv).1, if_neg hk]
    simp
  | p :: P, w :: vs, i + 1, m, nd, h1, h2, hk => by
    show bindC kindOf ((p, w) :: P.zip vs) m x = _
    unfold bindC
    exact bindC_get (i := i) (List.nodup_cons.mp nd).2 (by simpa using h1) (by simpa using h2) hk

/-- the names' values at the entry -/
def start (N : List Str) (vs : List V) : St := vs.map some ++ List.replicate (N.length - vs.length) none

/-- the context of a def's body, at its entry; an exception leaves the frame, then lies as CX says -/
def cxOf (CX : CXT) (P : Program) (w : World) (K : PySem.W.Frag) (mg : Str → Option Value) (base : Heap) (N : List Str) (qual : Str) (scope : Scope) (f : Addr) (cd : Value) (A : Around) (outer : List Env) (s : Shared) (H : Hp) (E : XK) : Cx where
  prog := P
  w := w
  K := K
  mg := mg
  base := base
  A := A.deeper (envOfC qual scope s.heap.objs.size f cd)
  N := N
  s_0 := s
  H_0 := H
  env := envOfC qual scope s.heap.objs.size f cd
  outer := outer
  stack := envOfC qual scope s.heap.objs.size f cd :: outer
  ex := []
  calm := true
  fn := fun _ => true
  pn := []
  xe := fun e s' => wpAny (model P w) (A.deeper (envOfC qual scope s.heap.objs.size f cd)) (leaving (envOfC qual scope s.heap.objs.size f cd) e) (fun _ s'' => CX outer H s E e s'') (fun e' s'' => CX outer H s E e' s'') s'

theorem cell_has {sc : Scope} {n : Nat} {x : Str} (h : sc.names.lookup x = some .cell) : ∃ c, (cellsFrom n sc.names []).lookup x = some c := by
  have q := PySem.W.cellsFrom_some sc.names n [] (.inl h)
  exact Option.isSome_iff_exists.mp q

theorem inv_start {CX : CXT} {P : Program} {w : World} {K : PySem.W.Frag} {mg : Str → Option Value} {base : Heap} {N ps : List Str} {qual : Str} {scope : Scope} {f : Addr} {cd : Value} {A : Around} {outer : List Env} {s s1 : Shared} {H : Hp} {E : XK} {us : List Value} {vs : List V}
    (S : FnScope N ps scope) (hd : A.handled = none) (e0 : Env0 P w K mg base A outer s H) (hl : vs.length = ps.length) (r : Vals vs us)
    (x : InCallC s s.heap.objs.size (bindL (envOfC qual scope s.heap.objs.size f cd).kindOf (ps.zip us) fun _ => none) (cellsFrom (s.heap.objs.size + 1) scope.names []) (bindC (envOfC qual scope s.heap.objs.size f cd).kindOf (ps.zip us) fun _ => none) s1) :
    Inv (cxOf CX P w K mg base N qual scope f cd A outer s H E) [] (start N vs) H s1 := by
  have hpl : ps.length ≤ N.length := by have := congrArg List.length S.pre; rw [List.length_take] at this; omega
  obtain ⟨h1, tk, rfl, hk⟩ := x.done
  have noA : ∀ b : Addr, b ∉ (cxOf CX P w K mg base N qual scope f cd A outer s H E).ex := fun b z => absurd (show b ∈ ([] : List Addr) from z) (by simp)
  refine ⟨⟨e0.mod, S.kind, rfl, rfl, Nat.le_refl _, fun y z c h1 h2 => ?_, fun y hy => ?_, fun y c _ h => ?_, fun _ => hd, Around.frames_deeper e0.frames, .inr ⟨rfl, rfl⟩, fun b z => absurd z (noA b), e0.bs, e0.bsz, fun b _ _ => noA b, fun b z => absurd z (noA b), e0.funs, e0.frf⟩,
    rfl, e0.bare, Un.kept hk, ⟨_, x.toInCall.ns, fun i y v h1 h2 h3 => ?_⟩, fun y c h => ⟨_, x.cell y c h⟩, e0.hok.fresh (Nat.le_refl _), fun y c h => ?_, fun p hp => absurd (show p ∈ ([] : List (Addr × Obj)) from hp) (by simp), e0.hok.kept hk, ?_⟩
  · exact name_of_addr x.apart (PySem.mem_of_lookup h1) (PySem.mem_of_lookup h2)
  · have hy : scope.names.lookup y = some .cell ∨ scope.names.lookup y = some .free := hy
    rcases hy with hy | hy
    · exact cell_has hy
    · exact absurd rfl (S.nofree _ (PySem.mem_of_lookup hy))
  · exact Nat.le_of_lt (x.above y c (PySem.mem_of_lookup h))
  · have hi : i < vs.length := by
      unfold start at h2
      by_cases hi : i < vs.length
      · exact hi
      · rw [List.getElem?_append_right (by simpa using hi)] at h2
        rw [List.getElem?_replicate] at h2
        split at h2 <;> cases h2
    have ha : vs[i]? = some v := by
      unfold start at h2
      rw [List.getElem?_append_left (by simpa using hi), List.getElem?_map] at h2
      cases e : vs[i]? with
      | none => rw [e] at h2; cases h2
      | some a => rw [e] at h2; cases h2; rfl
    obtain ⟨u, hu, rv⟩ := r.get ha
    have hp : ps[i]? = some y := by
      rw [← S.pre, List.getElem?_take_of_lt (by omega)]; exact h1
    have ndP : ps.Nodup := by rw [← S.pre]; exact S.nd.sublist (List.take_sublist _ _)
    refine ⟨u, rv, ?_⟩
    rcases S.par y (List.mem_of_getElem? hp) with k | k
    · exact .inl ⟨k, bindL_get ndP hp hu k⟩
    · obtain ⟨c, e⟩ := cell_has (n := s.heap.objs.size + 1) k
      refine .inr ⟨.inl k, c, e, ?_⟩
      have q := x.cell y c e
      rw [bindC_get ndP hp hu (by show scope.names.lookup y ≠ _; rw [k]; decide)] at q
      exact q
  · exact e0.hok.fresh (Nat.le_of_lt (x.above y c (PySem.mem_of_lookup h)))
  · unfold start
    show _ = N.length
    rw [List.length_append, List.length_map, List.length_replicate]
    omega

/-- THE RULE: a def (or a method) of the text, by its body. The body's reading t is chosen for each entry; it is run at the parameters' values -/
theorem fn_of {CX : CXT} {P : Program} {w : World} {K : PySem.W.Frag} {mg : Str → Option Value} {base : Heap} {k : Nat} {f : Addr} {name qual : Str} {params : Arguments} {body : List Stmt} {scope : Scope} {dV kV doc pm cdv ct oc : Value} {an od : Option Addr}
    {osl : Array (Option Value)} {N ps : List Str} {sp : Sp} (lk : K.lookup f = some ⟨oc, od, .func (PySem.W.fnOf name qual params body scope dV kV doc pm an cdv ct), osl⟩) (hcd : PySem.W.codeIn K cdv qual = true) (S : FnScope N ps scope)
    (len : ∀ vs H Q E, sp vs H Q E → vs.length = ps.length)
    (hbody : ∀ (A : Around) (outer : List Env) (s : Shared) (H : Hp) (vs : List V) (Q : VK) (E : XK), Room k (A.deeper (envOfC qual scope s.heap.objs.size f cdv)) → sp vs H Q E →
      ∃ t, PSs (cxOf CX P w K mg base N qual scope f cdv A outer s H E) body t ∧ t { nx := fun _ H' => Q .non H', rt := Q } (start N vs) H) :
    FnOk P w K mg base CX (k + 1) f (PySem.W.fnOf name qual params body scope dV kV doc pm an cdv ct) ps sp := by
  refine ⟨len, fun A outer s H args us vs Q E hr e0 hb r hsp => ?_⟩
  have hl := len _ _ _ _ hsp
  have KX : K.In s.heap := e0.mod.kin.keeps fun b o e => (e0.bs b o e).1
  have lim : s.heap.NoLimit := e0.mod.nolimit.keeps fun b o e => (e0.bs b o e).1
  have hkind : ∀ y ∈ ps.zip us, scope.names.lookup y.1 = some .local ∨ (scope.names.lookup y.1 = some .cell ∧ ((cellsFrom (s.heap.objs.size + 1) scope.names []).lookup y.1).isSome = true) := fun ⟨n, v⟩ hy => by
    rcases S.par n (List.of_mem_zip hy).1 with q | q
    · exact .inl q
    · exact .inr ⟨q, PySem.W.cellsFrom_some _ _ _ (.inl q)⟩
  refine codeAny_call_function hr.depth (KX _ _ lk) rfl S.co S.gen rfl (PySem.W.codeRec_of KX hcd) (hb _ _ _ _ ?_)
  refine wpAny_newFunctionEnv_cells S.kind hkind fun env he s1 x => ?_
  subst he
  refine ⟨lim.keeps x.toInCall.keep, codeAny_func ?_⟩
  obtain ⟨t, ht, hq⟩ := hbody A outer s H vs Q E (hr.deeper _) hsp
  have I : Inv (cxOf CX P w K mg base N qual scope f cdv A outer s H E) [] (start N vs) H s1 := inv_start S hr.hd e0 hl r x
  refine wpAny_mono (ht [] s1 (start N vs) H _ I hq) (fun fl s' hs => ?_) fun e s' hs => hs
  have fin : ∀ {σ' : St} {H' : Hp} {v : V} {u : Value}, Inv (cxOf CX P w K mg base N qual scope f cdv A outer s H E) [] σ' H' s' → RelV v u → Q v H' → CE outer P w H s Q u s' :=
    fun {σ' H' v u} J rv q => ⟨v, H', J.os, J.bare, J.base, J.hok, rv, q⟩
  cases fl with
  | ret u =>
    obtain ⟨v, σ', H', J, rv, q⟩ := hs
    exact fin J rv q
  | next =>
    obtain ⟨σ', H', J, q⟩ := hs
    exact fin (v := V.non) (u := Value.none) J rfl q
  | brk =>
    obtain ⟨_, _, _, q⟩ := hs
    exact False.elim q
  | cont =>
    obtain ⟨_, _, _, q⟩ := hs
    exact False.elim q
end L2

namespace L2
open PySem PySem.Spec PyProof.Rows
section
variable {X : Cx} {x : Str} {p pos : Pos} {e : Expr} {es : List Expr} {t : TA} {id T : String} {r : List V → Hp → VK → Prop}

def tCB (r : List V → Hp → VK → Prop) (t : TA) : TE := fun σ H Q => t σ H fun vs H1 => r vs H1 Q
/-- f(e, ..), f a built-in function -/
theorem pe_callB (hc : CallR X (.builtin id) r) (hg : Gl X x) (hm : X.mg x = none) (hv : bootBuiltins x = some (.builtin id)) (ha : PA X (e :: es) t) (hn : x ≠ "__name__" := by decide) (hdb : (x == ("__debug__" : Str)) = false := by decide)
    (he : starEach (e :: es) X.env = (false, eval e X.env) :: starEach es X.env := by rfl) (hpl : (backTo pos (starEach es X.env)).any (·.1) = false := by rfl) : PE X (.Call (.Name x p) (e :: es) [] pos) (tCB r t) := by
  intro pins s σ H Q I h
  refine wpAny_Call_Name_kw (ld_blt I hg hm hv ?_ hn hdb)
  exact PyProof.Rows.callWith_builtin1 (thn (ha pos pins s σ H _ I h) fun us s1 ⟨vs, H1, I1, r1, q1⟩ => hc pins s1 σ H1 vs us Q I1 r1 q1) he hpl
/-- T(e, ..), T a built-in type -/
theorem pe_callTy (hc : CallR X (.type T) r) (hg : Gl X x) (hm : X.mg x = none) (hv : bootBuiltins x = some (.type T)) (ha : PA X (e :: es) t) (hn : x ≠ "__name__" := by decide) (hdb : (x == ("__debug__" : Str)) = false := by decide)
    (he : starEach (e :: es) X.env = (false, eval e X.env) :: starEach es X.env := by rfl) (hpl : (backTo pos (starEach es X.env)).any (·.1) = false := by rfl) : PE X (.Call (.Name x p) (e :: es) [] pos) (tCB r t) := by
  intro pins s σ H Q I h
  refine wpAny_Call_Name_kw (ld_blt I hg hm hv ?_ hn hdb)
  exact PyProof.Rows.callWith_type1 (thn (ha pos pins s σ H _ I h) fun us s1 ⟨vs, H1, I1, r1, q1⟩ => hc pins s1 σ H1 vs us Q I1 r1 q1) he hpl
end
end L2

namespace HT
open PySem PyProof.Rows



section
open PySem.SeqAt
open PySem.AutoSeq1 (wpAny_loadPart')
open PySem.MeetsSeq PySem.MeetsSeq2 PySem.MeetsSeq3

end

section
variable {prog : Program} {w : World} {A : Around} {E : Value → Shared → Prop} {s : Shared}



/-! ### t[a:b], not the whole -/
/-- a slice's bound as a place among n (d where it is left out) -/
def sIx (n d : Nat) : Option Int → Nat
  | none => d
  | some v => if v < 0 then (v + (n : Int)).toNat else min v.toNat n
theorem sIx_none (n d : Nat) : sIx n d none = d := rfl
theorem sIx_nat (n d k : Nat) : sIx n d (some (k : Int)) = min k n := by
  show (if (k : Int) < 0 then ((k : Int) + (n : Int)).toNat else min (k : Int).toNat n) = min k n
  rw [if_neg (by omega), Int.toNat_natCast]

end
end HT

namespace L2
open PySem PySem.Spec PyProof.Rows

/-! ### the parts of a slice -/
abbrev TO := St → Hp → (Option Int → Hp → Prop) → Prop
/-- a slice's part (left out, or an int) -/
def PO (X : Cx) (e : Option Expr) (t : TO) : Prop :=
  ∀ (pins : List (Addr × Obj)) (s : Shared) (σ : St) (H : Hp) (Q : Option Int → Hp → Prop), Inv X pins σ H s → t σ H Q →
    wpAny (model X.prog X.w) X.A (evalPart e X.env) (fun u s' => ∃ o H', Inv X pins σ H' s' ∧ IsPart u o ∧ Q o H') X.xe s
def tNoPart : TO := fun _ H Q => Q none H
def tPart (t : TE) : TO := fun σ H Q => t σ H fun x H1 => ∃ i, x = .int i ∧ Q (some i) H1


section
variable {X : Cx} {e : Expr} {te : TE} {lo hi : Option Expr} {tl th : TO} {pos p2 : Pos}

theorem po_none : PO X none tNoPart := by
  intro pins s σ H Q I h
  rw [evalPart_none]
  exact wpAny_pure ⟨none, H, I, .none, h⟩
theorem po_some (h : PE X e te) : PO X (some e) (tPart te) := by
  intro pins s σ H Q I hw
  rw [evalPart_some]
  refine thn (h pins s σ H _ I hw) fun u s1 ⟨x, H1, I1, r1, q1⟩ => ?_
  obtain ⟨i, rfl, q⟩ := q1
  obtain ⟨t, rfl⟩ := r1
  exact ⟨some i, H1, I1, .int i t, q⟩

/-- what a slice of a value is, by values: the slice object stands at sl -/
def SlR (X : Cx) (r : V → Option Int → Option Int → Hp → VK → Prop) : Prop :=
  ∀ (pins : List (Addr × Obj)) (s : Shared) (σ : St) (H : Hp) (x : V) (v vl vu : Value) (lo hi : Option Int) (sl : Addr) (Q : VK), Inv X pins σ H s → RelV x v → s.heap.IsSliceOf sl vl vu .none → IsPart vl lo → IsPart vu hi → r x lo hi H Q →
    ∃ T id, typeLookup (.type T) "__getitem__" = pure (some (.builtin id)) ∧ s.TypeIs v T ∧ wpAny (model X.prog X.w) X.A (getItem v (.ref sl)) (EP X pins σ Q) X.xe s
def tSl (r : V → Option Int → Option Int → Hp → VK → Prop) (te : TE) (tl th : TO) : TE := fun σ H Q => te σ H fun x H1 => tl σ H1 fun l H2 => th σ H2 fun u H3 => r x l u H3 Q
/-- a[lo:hi], any a -/
theorem pe_slice {r : V → Option Int → Option Int → Hp → VK → Prop} (hr : SlR X r) (he : PE X e te) (hl : PO X lo tl) (hu : PO X hi th) : PE X (.Subscript e (.Slice lo hi none p2) pos) (tSl r te tl th) := by
  intro pins s σ H Q I h
  refine Subscript_ (thn (he pins s σ H _ I h) fun v s1 ⟨x, H1, I1, r1, q1⟩ => ?_)
  refine wpAny_Slice (thn (hl pins s1 σ H1 _ I1 q1) fun vl s2 ⟨l, H2, I2, pl, q2⟩ => thn (hu pins s2 σ H2 _ I2 q2) fun vu s3 ⟨u, H3, I3, pu, q3⟩ => ?_)
  rw [evalPart_none]
  refine wpAny_pure ?_
  have I4 : Inv X pins σ H3 { s3 with heap := s3.heap.push { cls := .type "slice", data := .fields #[vl, vu, .none] } } := I3.kept (t' := s3.toks) fun b ob q => Heap.get?_push_of_some _ q
  obtain ⟨T, id, hT, ht, hg⟩ := hr pins { s3 with heap := s3.heap.push { cls := .type "slice", data := .fields #[vl, vu, .none] } } σ H3 x v vl vu l u s3.heap.objs.size Q I4 r1 (Heap.IsSliceOf.new ..) pl pu q3
  show wpAny (model X.prog X.w) X.A (subscriptTail e (.Slice lo hi none p2) v (.ref s3.heap.objs.size)) (EP X pins σ Q) X.xe { s3 with heap := s3.heap.push { cls := .type "slice", data := .fields #[vl, vu, .none] } }
  exact tail_any (ops := [.ref s3.heap.objs.size, v]) ht hT hg (by with_unfolding_all rfl)

/-- the items of xs[lo:hi] -/
def cutV (xs : List V) (lo hi : Option Int) : List V := (xs.drop (HT.sIx xs.length 0 lo)).take (HT.sIx xs.length xs.length hi - HT.sIx xs.length 0 lo)
theorem cutV_length (xs : List V) (lo hi : Option Int) : (cutV xs lo hi).length ≤ xs.length := by
  unfold cutV
  rw [List.length_take, List.length_drop]
  omega

/-! ### t < u, t + u -/
end
end L2

namespace L2
open PySem PySem.Spec PyProof.Rows

/-! ### places -/
/-- the place that an index of any sign means -/
def ixN (n : Nat) (i : Int) : Option Nat := if 0 ≤ i then (if i < n then some i.toNat else none) else if -(n : Int) ≤ i then some (i + n).toNat else none
def atI {α : Type} (xs : List α) (i : Int) : Option α := (ixN xs.length i).bind fun j => xs[j]?
theorem ixN_seq {n : Nat} {i : Int} {j : Nat} (h : ixN n i = some j) : seqIndex? i n = some j ∧ j < n ∧ -(n : Int) ≤ i ∧ i < n := by
  unfold ixN at h
  by_cases h0 : 0 ≤ i
  · rw [if_pos h0] at h
    by_cases h1 : i < n
    · rw [if_pos h1] at h
      have e : i.toNat = j := Option.some.inj h
      exact ⟨by rw [seqIndex_of h0 h1, e], by omega, by omega, h1⟩
    · rw [if_neg h1] at h; cases h
  · rw [if_neg h0] at h
    by_cases h1 : -(n : Int) ≤ i
    · rw [if_pos h1] at h
      have e : (i + n).toNat = j := Option.some.inj h
      exact ⟨by rw [seqIndex_neg (by omega) h1, e], by omega, h1, by omega⟩
    · rw [if_neg h1] at h; cases h
theorem atI_get {α : Type} {xs : List α} {i : Int} {v : α} (h : atI xs i = some v) : ∃ j, seqIndex? i xs.length = some j ∧ xs[j]? = some v ∧ j < xs.length ∧ -(xs.length : Int) ≤ i ∧ i < xs.length := by
  unfold atI at h
  cases e : ixN xs.length i with
  | none => rw [e] at h; cases h
  | some j =>
    rw [e] at h
    obtain ⟨h1, h2, h3, h4⟩ := ixN_seq e
    exact ⟨j, h1, h, h2, h3, h4⟩
theorem atI_nat {α : Type} {xs : List α} {j : Nat} {v : α} (h : xs[j]? = some v) : atI xs (j : Int) = some v := by
  have hj : j < xs.length := (List.getElem?_eq_some_iff.mp h).1
  have e : ixN xs.length (j : Int) = some j := by
    unfold ixN
    rw [if_pos (by omega), if_pos (by omega)]; simp
  unfold atI; rw [e]; exact h
theorem atI_last {α : Type} (xs : List α) (v : α) : atI (xs ++ [v]) (-1) = some v := by
  have hl : (xs ++ [v]).length = xs.length + 1 := by simp
  have e : ixN (xs ++ [v]).length (-1) = some xs.length := by
    unfold ixN
    rw [hl, if_neg (by decide), if_pos (by omega)]
    congr 1
    omega
  unfold atI
  rw [e]
  show (xs ++ [v])[xs.length]? = some v
  simp

/-! ### what may be subscripted -/
/-- what stands as an index of a plain subscript -/
def PlainIx (b : Expr) : Prop := ∀ o i, subscripted b false o i = operate [o, i] (getItem o i)
/-- a subscript by values -/
def IxR (X : Cx) (r : R2) : Prop :=
  ∀ (value slice : Expr) (pins : List (Addr × Obj)) (s : Shared) (σ : St) (H : Hp) (x y : V) (v u : Value) (Q : VK), Inv X pins σ H s → RelV x v → RelV y u → r x y H Q →
    subscripted slice false v u = operate [v, u] (getItem v u) → wpAny (model X.prog X.w) X.A (subscriptTail value slice v u) (EP X pins σ Q) X.xe s
/-- a call of a builtin's method by values: the receiver, the arguments -/
def MtR (X : Cx) (id : String) (r : V → List V → Hp → VK → Prop) : Prop :=
  ∀ (pins : List (Addr × Obj)) (s : Shared) (σ : St) (H : Hp) (x : V) (xs : List V) (v : Value) (us : List Value) (Q : VK), Inv X pins σ H s → RelV x v → Vals xs us → r x xs H Q →
    wpAny (model X.prog X.w) X.A (call (.builtin id) (v :: us)) (EP X pins σ Q) X.xe s
section
variable {X : Cx} {a b : Expr} {ta tb : TE} {pos : Pos}
/-- a[b] -/
theorem pe_ix {r : R2} (hr : IxR X r) (ha : PE X a ta) (hb : PE X b tb) (hs : PlainIx b) : PE X (.Subscript a b pos) (tOp r ta tb) := by
  intro pins s σ H Q I h
  exact Subscript_ (binT ha hb I h fun v u s2 x y H2 I2 rx ry q => hr a b pins s2 σ H2 x y v u Q I2 rx ry q (hs _ _))

def rIxL (K : PySem.W.Frag) : R2 := fun x y H Q => ∃ p xs i v, x = .ref p ∧ y = .int i ∧ SqL K H p xs ∧ atI xs i = some v ∧ Q v H
def rIxT (K : PySem.W.Frag) : R2 := fun x y H Q => ∃ p xs i v, x = .ref p ∧ y = .int i ∧ SqT K H p xs ∧ atI xs i = some v ∧ Q v H
theorem ix_list : IxR X (rIxL X.K) := by
  intro value slice pins s σ H x y v u Q I rx ry h hs
  obtain ⟨p, xs, i, z, rfl, rfl, hq, he, q⟩ := h
  cases rx
  obtain ⟨t, rfl⟩ := ry
  obtain ⟨its, r, pl, hz⟩ := I.list hq
  obtain ⟨j, h1, h2, h3, h4, h5⟩ := atI_get he
  obtain ⟨w, ew, rw'⟩ := r.get h2
  have hl := r.length
  have hn := line63
  have fin : EP X pins σ Q w s := ⟨z, H, I, rw', q⟩
  by_cases h0 : 0 ≤ i
  · have hj : i.toNat = j := by
      rw [seqIndex_of h0 h5] at h1
      exact Option.some.inj h1
    exact item_listR pl.isList h0 (by omega) (by rw [hj]; simpa using ew) fin hs
  · have hj : (i + (its.toArray.size : Int)).toNat = j := by
      rw [seqIndex_neg (by omega) h4] at h1
      rw [List.size_toArray, ← hl]
      exact Option.some.inj h1
    exact subscriptTail_builtinR (x := w) pl.isList.typeIs slot_list_getitem.lookup
      (wpAny_getItem_list_neg (Q := fun r s' => r = w ∧ EP X pins σ Q r s') pl.isList (by omega) (by rw [List.size_toArray] <;> omega) (by omega) (by rw [hj]; simpa using ew) ⟨rfl, fin⟩) hs
theorem ix_tup : IxR X (rIxT X.K) := by
  intro value slice pins s σ H x y v u Q I rx ry h hs
  obtain ⟨p, xs, i, z, rfl, rfl, hq, he, q⟩ := h
  cases rx
  obtain ⟨t, rfl⟩ := ry
  obtain ⟨its, r, pl, hz⟩ := I.tuple hq
  obtain ⟨j, h1, h2, h3, h4, h5⟩ := atI_get he
  obtain ⟨w, ew, rw'⟩ := r.get h2
  have hl := r.length
  have hn := line63
  have fin : EP X pins σ Q w s := ⟨z, H, I, rw', q⟩
  exact subscriptTail_builtinR (x := w) pl.typeIs slot_tuple_getitem.lookup
    (getItem_tuple (j := j) (Q := fun r s' => r = w ∧ EP X pins σ Q r s') pl (by omega) (by omega) (by rw [List.size_toArray, ← hl]; exact h1) (by simpa using ew) ⟨rfl, fin⟩) hs

/-! ### xs[i] = v, any sign -/

/-! ### slices -/
theorem slice_bounds (lo hi : Option Int) (n : Nat) : (sliceBounds lo hi none n).1 = ((HT.sIx n 0 lo : Nat) : Int) ∧ (sliceBounds lo hi none n).2.1 = ((HT.sIx n n hi : Nat) : Int) ∧ (sliceBounds lo hi none n).2.2 = 1 := by
  refine ⟨?_, ?_, rfl⟩
  · cases lo with
    | none => simp [sliceBounds, HT.sIx]
    | some i =>
      simp only [sliceBounds, HT.sIx, Option.getD_none, show (1 : Int) > 0 by decide, if_true]
      by_cases h : i < 0
      · simp only [h, if_true] <;> omega
      · simp only [h, if_false] <;> omega
  · cases hi with
    | none => simp [sliceBounds, HT.sIx]
    | some i =>
      simp only [sliceBounds, HT.sIx, Option.getD_none, show (1 : Int) > 0 by decide, if_true]
      by_cases h : i < 0
      · simp only [h, if_true] <;> omega
      · simp only [h, if_false] <;> omega
theorem slicePick_cut (its : List Value) (lo hi : Option Int) : slicePick its.toArray lo hi none = ((its.drop (HT.sIx its.length 0 lo)).take (HT.sIx its.length its.length hi - HT.sIx its.length 0 lo)).toArray := by
  obtain ⟨h1, h2, h3⟩ := slice_bounds lo hi its.toArray.size
  unfold slicePick
  rw [h1, h2, h3]
  simp only [sliceRange_one, pick_run, List.size_toArray] <;> rfl
/-- xs[lo:hi] of a list: a new list -/
def rSlL (K : PySem.W.Frag) : V → Option Int → Option Int → Hp → VK → Prop := fun x lo hi H Q => ∃ a xs, x = .ref a ∧ SqL K H a xs ∧ ∀ p, H p = none → Q (.ref p) (upd H p (.lst (cutV xs lo hi)))
theorem sl_list : SlR X (rSlL X.K) := by
  intro pins s σ H x v vl vu lo hi sl Q I rx hs pl pu h
  obtain ⟨a, xs, rfl, hx, q⟩ := h
  cases rx
  obtain ⟨its, r, ht, hz⟩ := I.list hx
  have hlen := r.length
  refine ⟨"list", _, slot_list_getitem.lookup, ht.isList.typeIs, ?_⟩
  refine wpAny_getItem_list_slice ht.isList hs pl pu .none (by simp) ?_ (by rw [List.size_toArray] <;> omega)
  rw [slicePick_cut, ← hlen]
  refine ⟨.ref s.heap.objs.size, _, I.laid (t' := s.toks) (o := .lst (cutV xs lo hi)) (fun b ob q => Heap.get?_push_of_some _ q) (Nat.le_refl _) ?_, rfl, q _ (I.hok.fresh (Nat.le_refl _))⟩
  exact ⟨Nat.le_trans (cutV_length xs lo hi) hz, _, 0, (r.drop (HT.sIx xs.length 0 lo)).take (HT.sIx xs.length xs.length hi - HT.sIx xs.length 0 lo), Heap.get?_push_size _ rfl⟩

/-! ### in, not in: flat items -/

/-! ### len, list(x), tuple(x) of any list or tuple that is read -/
theorem call_len_seq : CallR X (.builtin "len") (fun xs H Q => ∃ p ys, xs = [.ref p] ∧ (SqL X.K H p ys ∨ SqT X.K H p ys) ∧ Q (.int ys.length) H) := by
  intro pins s σ H xs us Q I r h
  obtain ⟨p, ys, rfl, hq, q⟩ := h
  obtain ⟨u, rfl, rx⟩ := vals1 r
  cases rx
  have hn := line63
  rcases hq with hq | hq
  · obtain ⟨its, r', pl, hz⟩ := I.list hq
    have hlen := r'.length
    exact Calls.call_len_list pl.isList (by simp only [List.size_toArray] <;> omega) ⟨.int ys.length, H, I.tok _, ⟨s.toks + 1, by rw [List.size_toArray, hlen]⟩, q⟩
  · obtain ⟨its, r', pl, hz⟩ := I.tuple hq
    have hlen := r'.length
    exact len_tuple pl (by simp only [List.size_toArray] <;> omega) ⟨.int ys.length, H, I.tok _, ⟨s.toks + 1, by rw [List.size_toArray, hlen]⟩, q⟩
theorem call_list_of : CallR X (.type "list") (fun xs H Q => ∃ p ys, xs = [.ref p] ∧ (SqL X.K H p ys ∨ SqT X.K H p ys) ∧ ∀ l, H l = none → Q (.ref l) (upd H l (.lst ys))) := by
  intro pins s σ H xs us Q I r h
  obtain ⟨p, ys, rfl, hq, q⟩ := h
  obtain ⟨u, rfl, rx⟩ := vals1 r
  cases rx
  have fin : ∀ (its : List Value), Vals ys its → ys.length ≤ sizeLine → ∀ (h' : Heap) (c' : Nat), (∀ b o', s.heap.get? b = some o' → h'.get? b = some o') →
      h'.get? s.heap.objs.size = some { cls := .type "list", dict := none, data := .seq its.toArray c', slots := #[] } → EP X pins σ Q (.ref s.heap.objs.size) { s with heap := h' } := fun its r' hz h' c' kp e =>
    ⟨.ref s.heap.objs.size, _, I.laid (t' := s.toks) kp (Nat.le_refl _) (show ObjOk X.prog X.w _ h' _ (.lst ys) from ⟨hz, its, c', r', e⟩), rfl, q _ (I.hok.fresh (Nat.le_refl _))⟩
  rcases hq with hq | hq
  · obtain ⟨its, r', pl, hz⟩ := I.list hq
    have hlen := r'.length
    obtain ⟨o, ho, hc, n, hd⟩ := pl.isList
    exact call_list_seq p (.inl rfl) ho hc hd (fun h' c' kp e => fin its r' hz h' c' kp e) (by simp only [List.size_toArray] <;> omega)
  · obtain ⟨its, r', pl, hz⟩ := I.tuple hq
    have hlen := r'.length
    obtain ⟨o, ho, hc, n, hd⟩ := pl
    exact call_list_seq p (.inr rfl) ho hc hd (fun h' c' kp e => fin its r' hz h' c' kp e) (by simp only [List.size_toArray] <;> omega)
theorem call_tuple_of : CallR X (.type "tuple") (fun xs H Q => ∃ p ys, xs = [.ref p] ∧ ((SqL X.K H p ys ∧ ∀ l, H l = none → Q (.ref l) (upd H l (.tup ys))) ∨ (SqT X.K H p ys ∧ Q (.ref p) H))) := by
  intro pins s σ H xs us Q I r h
  obtain ⟨p, ys, rfl, h⟩ := h
  obtain ⟨u, rfl, rx⟩ := vals1 r
  cases rx
  rcases h with ⟨hq, q⟩ | ⟨hq, q⟩
  · obtain ⟨its, r', pl, hz⟩ := I.list hq
    have hlen := r'.length
    refine call_tuple_list pl.isList (fun h' kp => ?_) (by simp only [List.size_toArray] <;> omega)
    have I1 : Inv X pins σ H { s with heap := h' } := I.kept (t' := s.toks) kp
    have I2 : Inv X pins σ (upd H h'.objs.size (.tup ys)) { s with heap := h'.push { cls := .type "tuple", data := .seq its.toArray } } :=
      I1.laid (t' := s.toks) (fun b o e => Heap.get?_push_of_some _ e) (Nat.le_refl _) (show ObjOk X.prog X.w _ _ _ (.tup ys) from ⟨hz, its, r', IsTup.new _ _⟩)
    exact ⟨.ref h'.objs.size, _, I2, rfl, q _ (I1.hok.fresh (Nat.le_refl _))⟩
  · obtain ⟨its, r', pl, hz⟩ := I.tuple hq
    exact call_tuple_same pl ⟨.ref p, H, I, rfl, q⟩

/-! ### the call of a builtin's method: o.m(..) -/
/-- the value is of that builtin type -/
def tyV (K : PySem.W.Frag) (T : String) (x : V) (H : Hp) : Prop := match x with
  | .str _ => T = "str"
  | .int _ => T = "int"
  | .ref p => (T = "list" ∧ ∃ xs, SqL K H p xs) ∨ (T = "tuple" ∧ ∃ o, K.lookup p = some o ∧ o.cls = .type "tuple" ∧ o.dict = none) ∨
      (T = "dict" ∧ ((∃ kvs, H p = some (.dK kvs)) ∨ ∃ kvs, H p = some (.dT kvs))) ∨ (T = "set" ∧ ∃ S n, H p = some (.set S n))
  | _ => False
theorem tyV_is {pins : List (Addr × Obj)} {σ : St} {H : Hp} {s : Shared} {T : String} {x : V} {v : Value} (I : Inv X pins σ H s) (r : RelV x v) (ty : tyV X.K T x H) :
    s.TypeIs v T ∧ ∀ a, v = .ref a → ∃ ob, s.heap.get? a = some ob ∧ ob.dict = none := by
  cases x with
  | str z =>
    obtain ⟨t, rfl⟩ := r
    cases (show T = "str" from ty)
    exact ⟨typeIs_str s z t, fun _ e => nomatch e⟩
  | int i =>
    obtain ⟨t, rfl⟩ := r
    cases (show T = "int" from ty)
    exact ⟨typeIs_int s i t, fun _ e => nomatch e⟩
  | ref p =>
    cases r
    rcases ty with ⟨rfl, xs, hq⟩ | ⟨rfl, o, hk, hc, hd⟩ | ⟨rfl, hk⟩ | ⟨rfl, S, n, hk⟩
    · obtain ⟨its, _, pl, _⟩ := I.list hq
      refine ⟨pl.isList.typeIs, fun a e => ?_⟩
      cases e
      obtain ⟨o, n, e, c, hd, _⟩ := pl
      exact ⟨o, e, hd⟩
    · refine ⟨⟨o, I.kIn p o hk, hc⟩, fun a e => ?_⟩
      cases e
      exact ⟨o, I.kIn _ o hk, hd⟩
    · have z : ∃ o, s.heap.get? p = some o ∧ o.ExactDict := by
        rcases hk with ⟨kvs, hk⟩ | ⟨kvs, hk⟩
        · obtain ⟨_, _, _, _, o, _, _, e, ex, _⟩ := I.hok p _ hk
          exact ⟨o, e, ex⟩
        · obtain ⟨_, _, _, _, o, _, _, e, ex, _⟩ := I.hok p _ hk
          exact ⟨o, e, ex⟩
      obtain ⟨o, e, ex⟩ := z
      refine ⟨⟨o, e, ex.1⟩, fun a e2 => ?_⟩
      cases e2
      exact ⟨o, e, ex.2.1⟩
    · obtain ⟨o, _, _, _, e, ex, _⟩ := I.hok p _ hk
      refine ⟨⟨o, e, ex.1⟩, fun a e2 => ?_⟩
      cases e2
      exact ⟨o, e, ex.2.1⟩
  | _ => exact False.elim ty
def tBM (K : PySem.W.Frag) (T : String) (r : V → List V → Hp → VK → Prop) (to : TE) (t : TA) : TE := fun σ H Q => to σ H fun x H1 => tyV K T x H1 ∧ t σ H1 fun xs H2 => r x xs H2 Q
variable {o e : Expr} {es : List Expr} {to : TE} {t : TA} {name : Str} {apos cpos : Pos} {T id : String} {r : V → List V → Hp → VK → Prop}
theorem pe_bm (pa : PlainAttrs T) (slot : Slot T name id) (hty : typeOf (.builtin id) = pure (.type "method_descriptor")) (hm : MtR X id r) (ho : PE X o to) (ha : PA X (e :: es) t)
    (hbase : attributeBase o name X.env (eval o X.env) = eval o X.env := by rfl)
    (hfew : ((backTo cpos (starEach (e :: es) X.env)).all (fun x => !x.1) && (backToKw cpos (keywordEach [] X.env)).all (fun x => x.1.isSome)
      && decide ((e :: es).length + ([] : List Keyword).length + (if ([] : List Keyword).isEmpty then 0 else 1) < 30)) = true := by rfl)
    (hline : (apos.endLine == cpos.line) = true := by rfl) (hs : starEach (e :: es) X.env = (false, eval e X.env) :: starEach es X.env := by rfl) (hplain : (backTo cpos (starEach es X.env)).any (·.1) = false := by rfl) :
    PE X (.Call (.Attribute o name apos) (e :: es) [] cpos) (tBM X.K T r to t) := by
  intro pins s σ H Q I h
  refine wpAny_Call_method_late hbase hfew hline rfl (thn (ho pins s σ H _ I h) fun v s1 ⟨x, H1, I1, r1, ty, q1⟩ => ?_)
  obtain ⟨h1, h2⟩ := tyV_is I1 r1 ty
  refine ⟨T, id, pa, slot, hty, h1, h2, ?_⟩
  have hA := ha cpos pins s1 σ H1 _ I1 q1
  rw [hs] at hA ⊢
  refine Calls.callWith_builtin (by show (false || (backTo cpos (starEach es X.env)).any (·.1)) = false; rw [hplain] <;> rfl) (Calls.evalArgs_plain ?_)
  exact thn hA fun us s2 ⟨vs, H2, I2, r2, q2⟩ => hm pins s2 σ H2 x vs v us Q I2 r1 r2 q2
/- xs.append(e), list.index on a module's tuple .. are MtR facts of 06m -/
end
end L2

namespace L2
open PySem PySem.Spec PyProof.Rows

def MtM (X : Cx) (id : String) (r : V → List V → Hp → VK → Prop) : Prop :=
  ∀ (pins : List (Addr × Obj)) (s : Shared) (σ : St) (H : Hp) (x : V) (xs : List V) (v : Value) (us : List Value) (Q : VK), Inv X pins σ H s → RelV x v → Vals xs us → r x xs H Q →
    wpAny (model X.prog X.w) X.A (call (.builtin id) (v :: us)) (EP X pins σ Q) X.xe s

/-! ### lists of values -/
theorem Vals.one : ∀ {x : V} {us : List Value}, Vals [x] us → ∃ u, us = [u] ∧ RelV x u
  | _, _, .cons r .nil => ⟨_, rfl, r⟩

section
variable {X : Cx} {pins : List (Addr × Obj)} {σ : St} {H : Hp} {s : Shared} {l b : Addr} {xs ys zs : List V}

/-! ### the two steps: a tracked list is rewritten, a new list is laid -/
theorem Inv.lset {its its' : List Value} {n : Nat} {f : Array Value → Array Value} {t' : Nat} (I : Inv X pins σ H s) (hH : H l = some (.lst xs))
    (e : s.heap.get? l = some { cls := .type "list", data := .seq its.toArray n }) (hf : f its.toArray = its'.toArray) (hv : Vals ys its') (hz : ys.length ≤ sizeLine) :
    Inv X pins σ (upd H l (.lst ys)) { s with heap := s.heap.update l (Obj.mapSeq f), toks := t' } := by
  have q := PySem.IsL.update e f
  rw [hf] at q
  refine I.write (x := l) (e := l) (by rw [hH]; exact trivial) (.inl rfl) (fun b' u hb hu => (Heap.get?_update_other s.heap (Obj.mapSeq f) (Ne.symm hb)).trans hu) ⟨_, q⟩ ?_
  exact ⟨hz, its', _, hv, q⟩
theorem Inv.lnew {its : List Value} {t' : Nat} (I : Inv X pins σ H s) (hv : Vals ys its) (hz : ys.length ≤ sizeLine) :
    Inv X pins σ (upd H s.heap.objs.size (.lst ys)) { s with heap := s.heap.push { cls := .type "list", data := .seq its.toArray }, toks := t' } :=
  I.laid (fun _ _ q => Heap.get?_push_of_some _ q) (Nat.le_refl _) ⟨hz, its, 0, hv, Heap.get?_push_size _ rfl⟩
theorem Inv.fresh (I : Inv X pins σ H s) : H s.heap.objs.size = none := I.hok.fresh (Nat.le_refl _)
theorem Inv.lstM (I : Inv X pins σ H s) (hH : H l = some (.lst xs)) : xs.length ≤ sizeLine ∧ ∃ (its : List Value) (n : Nat), Vals xs its ∧ xs.length = its.length ∧ s.heap.get? l = some { cls := .type "list", data := .seq its.toArray n } := by
  obtain ⟨z, its, n, r, e⟩ := I.hok l _ hH
  exact ⟨z, its, n, r, r.length, e⟩

theorem notLongL {n : Nat} (h : n ≤ sizeLine) : Builtin.List.listTooLong n = false := by
  unfold Builtin.List.listTooLong
  exact decide_eq_false (by omega)
end

section
variable {X : Cx}

/-! ### methods -/
def rAppend : V → List V → Hp → VK → Prop := fun x vs H Q => ∃ l xs y, x = .ref l ∧ vs = [y] ∧ H l = some (.lst xs) ∧ xs.length < sizeLine ∧ Q .non (upd H l (.lst (xs ++ [y])))
theorem mt_append : MtM X "list.append" rAppend := by
  intro pins s σ H x vs v us Q I rx rv h
  obtain ⟨l, xs, y, rfl, rfl, hH, hz, q⟩ := h
  cases rx
  obtain ⟨u, rfl, ru⟩ := rv.one
  obtain ⟨z, its, n, r, hl, e⟩ := I.lstM hH
  refine call_meets F.slot_list_append ⟨_, e, rfl⟩ F.entry_list_append (F.args_list_append_2 _ _) (PySem.list_append l its.toArray n u (by rw [List.size_toArray]; omega)) ⟨e, ?_⟩
  refine ⟨.non, _, I.lset (its' := its ++ [u]) hH e (by simp) (r.append (.cons ru .nil)) ?_, rfl, q⟩
  rw [List.length_append, List.length_singleton]
  omega

def rExtend : V → List V → Hp → VK → Prop := fun x vs H Q => ∃ l b xs zs, x = .ref l ∧ vs = [.ref b] ∧ H l = some (.lst xs) ∧ H b = some (.lst zs) ∧ xs.length + zs.length ≤ sizeLine ∧ Q .non (upd H l (.lst (xs ++ zs)))
theorem mt_extend : MtM X "list.extend" rExtend := by
  intro pins s σ H x vs v us Q I rx rv h
  obtain ⟨l, b, xs, zs, rfl, rfl, hH, hB, hz, q⟩ := h
  cases rx
  obtain ⟨u, rfl, ru⟩ := rv.one
  cases ru
  obtain ⟨z, its, n, r, hl, e⟩ := I.lstM hH
  obtain ⟨z2, its2, n2, r2, hl2, e2⟩ := I.lstM hB
  have hsz : its.toArray.size + its2.toArray.size ≤ sizeLine := by rw [List.size_toArray, List.size_toArray]; omega
  have hlong : ¬ (!its.toArray.isEmpty && Builtin.List.listTooLong (its.toArray.size + its2.toArray.size)) = true := by
    rw [notLongL hsz, Bool.and_false]
    exact Bool.false_ne_true
  refine call_meets F.slot_list_extend ⟨_, e, rfl⟩ F.entry_list_extend (F.args_list_extend_2 _ _)
    (AutoSeq1.list_extend_list_list_0 l its.toArray n b its2.toArray n2 hlong (by rw [List.size_toArray]; omega) (by omega)) ⟨e, e2, ?_⟩
  refine ⟨.non, _, I.lset (its' := its ++ its2) hH e (by simp) (r.append r2) ?_, rfl, q⟩
  rw [List.length_append]
  omega





/-! ### list + list, list += list, list * int -/
def rCat : R2 := fun x y H Q => ∃ l b xs zs, x = .ref l ∧ y = .ref b ∧ H l = some (.lst xs) ∧ H b = some (.lst zs) ∧ xs.length + zs.length ≤ sizeLine ∧ ∀ p, H p = none → Q (.ref p) (upd H p (.lst (xs ++ zs)))
theorem op_cat : OpR X (binaryOp .Add) rCat := by
  intro pins s σ H x y v u Q I rx ry h
  obtain ⟨l, b, xs, zs, rfl, rfl, hH, hB, hz, q⟩ := h
  cases rx
  cases ry
  obtain ⟨z, its, n, r, hl, e⟩ := I.lstM hH
  obtain ⟨z2, its2, n2, r2, hl2, e2⟩ := I.lstM hB
  refine PySem.P.add_list e e2 ?_ (by rw [List.size_toArray, List.size_toArray]; omega)
  have ea : its.toArray ++ its2.toArray = (its ++ its2).toArray := by simp
  rw [ea]
  exact ⟨.ref _, _, I.lnew (t' := s.toks) (r.append r2) (by rw [List.length_append]; omega), rfl, q _ I.fresh⟩

/-! ### del xs[i] -/
end

/-! ### xs[a:b] = ys -/
section
variable {prog : Program} {w : World} {A : Around} {E : Value → Shared → Prop} {s : Shared}
set_option maxRecDepth 100000 in
end

section
variable {X : Cx}
end
end L2

namespace L2
open PySem PySem.Spec PyProof.Rows

theorem Vals.ints : ∀ {ns : List Int} {us : List Value}, Vals (ns.map V.int) us → IntsAre us ns
  | [], us, h => by
    rw [List.map_nil] at h
    cases h
    exact IntsAre.nil
  | n :: ns, us, h => by
    rw [List.map_cons] at h
    cases h with
    | cons r t =>
      obtain ⟨k, rfl⟩ := r
      exact IntsAre.cons n k (Vals.ints t)
theorem Vals.bls : ∀ {bs : List Bool} {us : List Value}, Vals (bs.map V.bl) us → us = bs.map Value.bool
  | [], us, h => by
    rw [List.map_nil] at h
    cases h
    rfl
  | b :: bs, us, h => by
    rw [List.map_cons] at h
    cases h with
    | cons r t =>
      cases r
      rw [Vals.bls t, List.map_cons]
theorem Vals.ref1 {a : Addr} {us : List Value} (r : Vals [V.ref a] us) : us = [Value.ref a] := by
  cases r with
  | cons r t =>
    cases t
    cases r
    rfl

/-! ### the library's walks over a list of ints, kept objects alone -/
section
variable {prog : Program} {w : World} {A : Around} {E : Value → Shared → Prop} {s : Shared} {l : Addr} {its : List Value} {ns : List Int} {Q : Value → Shared → Prop}
theorem sum_raw (hh : A.handled = none) (hl : s.heap.IsList l its.toArray) (hi : IntsAre its ns)
    (h : ∀ h' tk t', (∀ b o, s.heap.get? b = some o → h'.get? b = some o) → Q (.int ns.sum t') { s with heap := h', toks := tk }) : wpAny (model prog w) A (call (.builtin "sum") [.ref l]) Q E s := by
  obtain ⟨xs, e⟩ := hi.allInts.items
  have hn : numsOf (intItems xs).toList = ns := by rw [← e]; exact hi.numsOf
  rw [nums_intItems] at hn
  rw [e] at hl
  refine PySem.sum_intListG hh hl fun h' tk t' hk => ?_
  have := h h' tk t' hk
  rw [preSum_eq, List.take_of_length_le (by simp), hn]; exact this
theorem max_raw (hh : A.handled = none) (hl : s.heap.IsList l its.toArray) (hi : IntsAre its ns) (hne : 0 < ns.length)
    (h : ∀ h' tk M t', (∀ b o, s.heap.get? b = some o → h'.get? b = some o) → M ∈ ns → (∀ a, a ∈ ns → a ≤ M) → Q (.int M t') { s with heap := h', toks := tk }) : wpAny (model prog w) A (call (.builtin "max") [.ref l]) Q E s := by
  obtain ⟨xs, e⟩ := hi.allInts.items
  have hn : numsOf (intItems xs).toList = ns := by rw [← e]; exact hi.numsOf
  rw [nums_intItems] at hn
  subst hn
  rw [e] at hl
  have hsz : 0 < xs.size := by simpa using hne
  refine PySem.max_intList hh hl hsz fun v h' tk hv hk => ?_
  obtain ⟨t, rfl⟩ := intItems_at hv
  obtain ⟨h1, h2⟩ := argBest_gt (numAt xs) (xs.size - 1)
  refine h h' tk _ t hk ?_ fun a ha => ?_
  · rw [numAt_eq]; exact PySem.getD_mem (by rw [List.length_map, Array.length_toList]; omega)
  · obtain ⟨j, hj, rfl⟩ := mem_getD ha
    rw [List.length_map, Array.length_toList] at hj
    rw [← numAt_eq]; exact h2 j (by omega)
theorem min_raw (hh : A.handled = none) (hl : s.heap.IsList l its.toArray) (hi : IntsAre its ns) (hne : 0 < ns.length)
    (h : ∀ h' tk M t', (∀ b o, s.heap.get? b = some o → h'.get? b = some o) → M ∈ ns → (∀ a, a ∈ ns → M ≤ a) → Q (.int M t') { s with heap := h', toks := tk }) : wpAny (model prog w) A (call (.builtin "min") [.ref l]) Q E s := by
  obtain ⟨xs, e⟩ := hi.allInts.items
  have hn : numsOf (intItems xs).toList = ns := by rw [← e]; exact hi.numsOf
  rw [nums_intItems] at hn
  subst hn
  rw [e] at hl
  have hsz : 0 < xs.size := by simpa using hne
  refine PySem.min_intList hh hl hsz fun v h' tk hv hk => ?_
  obtain ⟨t, rfl⟩ := intItems_at hv
  obtain ⟨h1, h2⟩ := argBest_lt (numAt xs) (xs.size - 1)
  refine h h' tk _ t hk ?_ fun a ha => ?_
  · rw [numAt_eq]; exact PySem.getD_mem (by rw [List.length_map, Array.length_toList]; omega)
  · obtain ⟨j, hj, rfl⟩ := mem_getD ha
    rw [List.length_map, Array.length_toList] at hj
    rw [← numAt_eq]; exact h2 j (by omega)
end

/-! ### the calls, by values (CallR of 03t; MtR of 06l) -/
section
variable {X : Cx}
/-- sum(xs) of a list of ints -/
def rSum (K : PySem.W.Frag) : List V → Hp → VK → Prop := fun vs H Q => ∃ (a : Addr) (ns : List Int), vs = [V.ref a] ∧ SqL K H a (ns.map V.int) ∧ Q (.int ns.sum) H
/-- max(xs), min(xs) of a list of ints -/
def rMax (K : PySem.W.Frag) : List V → Hp → VK → Prop := fun vs H Q => ∃ (a : Addr) (ns : List Int), vs = [V.ref a] ∧ SqL K H a (ns.map V.int) ∧ 0 < ns.length ∧ ∀ m, m ∈ ns → (∀ y, y ∈ ns → y ≤ m) → Q (.int m) H
def rMin (K : PySem.W.Frag) : List V → Hp → VK → Prop := fun vs H Q => ∃ (a : Addr) (ns : List Int), vs = [V.ref a] ∧ SqL K H a (ns.map V.int) ∧ 0 < ns.length ∧ ∀ m, m ∈ ns → (∀ y, y ∈ ns → m ≤ y) → Q (.int m) H
theorem cr_sum (hc : X.calm = true) : CallR X (.builtin "sum") (rSum X.K) := by
  intro pins s σ H vs us Q I r h
  obtain ⟨a, ns, rfl, hs, q⟩ := h
  obtain ⟨its, rv, hl, _⟩ := I.list hs
  rw [Vals.ref1 r]
  exact sum_raw (I.ok.hd hc) hl.isList rv.ints fun h' tk t' hk => ⟨.int _, H, I.kept hk, ⟨_, rfl⟩, q⟩
theorem cr_max (hc : X.calm = true) : CallR X (.builtin "max") (rMax X.K) := by
  intro pins s σ H vs us Q I r h
  obtain ⟨a, ns, rfl, hs, hne, q⟩ := h
  obtain ⟨its, rv, hl, _⟩ := I.list hs
  rw [Vals.ref1 r]
  exact max_raw (I.ok.hd hc) hl.isList rv.ints hne fun h' tk m t' hk h1 h2 => ⟨.int _, H, I.kept hk, ⟨_, rfl⟩, q m h1 h2⟩
theorem cr_min (hc : X.calm = true) : CallR X (.builtin "min") (rMin X.K) := by
  intro pins s σ H vs us Q I r h
  obtain ⟨a, ns, rfl, hs, hne, q⟩ := h
  obtain ⟨its, rv, hl, _⟩ := I.list hs
  rw [Vals.ref1 r]
  exact min_raw (I.ok.hd hc) hl.isList rv.ints hne fun h' tk m t' hk h1 h2 => ⟨.int _, H, I.kept hk, ⟨_, rfl⟩, q m h1 h2⟩

/-! sorted, sort (fewer than 64 items: the library's own bound) -/
end

/-! ### list.index, flat items -/
section
variable {X : Cx}
end

/-! ### type(x) of an own instance; is, is not of a module's class -/
section
variable {X : Cx}
end

/-! ### any(xs), all(xs) of a list of bools -/
theorem iter_any {prog : Program} {w : World} {A : Around} {E : Value → Shared → Prop} {s : Shared} {l : Addr} {items : Array Value} {Q : Value → Shared → Prop} (hl : s.heap.IsList l items)
    (h : ∀ s₂ : Shared, s₂ = { s with heap := s.heap.push { cls := .type "list_iterator", data := .fields #[.ref l, .int 0 0] } } →
      (s₂.heap.IsListIter s.heap.objs.size l 0 ∧ s₂.heap.IsList l items) → l ≠ s.heap.objs.size → Q (.ref s.heap.objs.size) s₂) : wpAny (model prog w) A (pyIter (.ref l)) Q E s := by
  have hlt : l < s.heap.objs.size := by obtain ⟨_, e, _⟩ := hl; exact Heap.lt_size e
  exact wpAny_pyIter_list hl (h _ rfl ⟨⟨_, Heap.get?_push_size _ rfl, rfl, rfl⟩, hl.push _⟩ (Nat.ne_of_lt hlt))
theorem truth_bools {prog : Program} {w : World} {A : Around} {bs : List Bool} {its : List Value} (e : its = bs.map Value.bool) :
    TruthOf prog w A (fun i v => its.toArray[i]? = some v) (fun i => bs.getD i false) := fun i v s Q E hv hq => by
  have hv' : its[i]? = some v := by simpa using hv
  rw [e, List.getElem?_map] at hv'
  obtain ⟨b, hb, rfl⟩ := Option.map_eq_some_iff.mp hv'
  have hg : bs.getD i false = b := by rw [List.getD_eq_getElem?_getD, hb] <;> rfl
  have hq' : Q (bs.getD i false) s := hq
  rw [hg] at hq'
  exact wpAny_truthy_bool hq'
theorem any_range : ∀ bs : List Bool, (List.range bs.length).any (fun i => bs.getD i false) = bs.any id
  | [] => rfl
  | b :: bs => by
    rw [List.length_cons, List.range_succ_eq_map, List.any_cons, List.any_map, List.any_cons, ← any_range bs]
    all_goals rfl
section
variable {X : Cx}
def rAny (K : PySem.W.Frag) : List V → Hp → VK → Prop := fun vs H Q => ∃ (a : Addr) (bs : List Bool), vs = [V.ref a] ∧ SqL K H a (bs.map V.bl) ∧ Q (.bl (bs.any id)) H
theorem cr_any (hc : X.calm = true) : CallR X (.builtin "any") (rAny X.K) := by
  intro pins s σ H vs us Q I r h
  obtain ⟨a, bs, rfl, hs, q⟩ := h
  obtain ⟨its, rv, hl, _⟩ := I.list hs
  rw [Vals.ref1 r]
  have hb := rv.bls
  refine call_any_walk (iter_any hl.isList fun s₂ e2 st hne => ?_)
  subst e2
  refine ⟨_, _, _, _, _, _, _, rfl, Walks.list (A := X.A.in1) (I.ok.hd hc) _ a hne its.toArray, st, truth_bools hb, fun h' tk hk => ?_⟩
  refine ⟨.bl _, H, I.kept fun b o eo => hk b o (fun hmem => ?_) (Heap.get?_push_of_some _ eo), ?_, q⟩
  · rcases List.mem_cons.mp hmem with e1 | hmem
    · exact absurd (e1 ▸ Heap.lt_size eo) (Nat.lt_irrefl _)
    · cases hmem
  · show Value.bool _ = Value.bool _
    rw [← any_range, hb, List.size_toArray, List.length_map]
end

/-! ### == and != of data at any depth: none, bools, ints, texts, lists, tuples -/
section
variable {X : Cx} {pins : List (Addr × Obj)} {σ : St} {H : Hp} {s : Shared}
end
section
variable {X : Cx}
end
end L2

namespace L2
open PySem PySem.Spec PyProof.Rows
abbrev CellAt (h : Heap) (c : Addr) (v : Option Value) : Prop := h.IsCell c v
def relS (scope sc : Scope) : Scope :=
  { scope with names := scope.names.map fun (n, k) => if (k == .free && sc.kind == .function && sc.names.lookup n == some .cell) then (n, .cell) else (n, k) }

def cloFrom (cells : List (Str × Addr)) : List (Str × NameKind) → List (Str × Addr) → List (Str × Addr)
  | [], acc => acc
  | (n, k) :: r, acc => if k == .free then cloFrom cells r ((n, (cells.lookup n).getD 0) :: acc) else cloFrom cells r acc

theorem closure_loop (env : Env) (f : Str × NameKind → List (Str × Addr) → Sem (ForInStep (List (Str × Addr))))
    (hf : ∀ n k c, f (n, k) c = if k == .free then (do let a ← cellOf env n; pure (.yield ((n, a) :: c))) else pure (.yield c)) :
    ∀ (names : List (Str × NameKind)) (acc : List (Str × Addr)), (∀ y ∈ names, y.2 = .free → ∃ c, env.cells.lookup y.1 = some c) → forIn names acc f = pure (cloFrom env.cells names acc)
  | [], acc, _ => by rw [List.forIn_nil]; rfl
  | (n, k) :: r, acc, h => by
    rw [List.forIn_cons, hf]
    have ih := fun acc => closure_loop env f hf r acc fun y hy => h y (List.mem_cons_of_mem _ hy)
    unfold cloFrom
    by_cases hk : (k == NameKind.free) = true
    · rw [if_pos hk, if_pos hk]
      obtain ⟨c, hc⟩ := h (n, k) List.mem_cons_self (by simpa using hk)
      have e : cellOf env n = pure c := by unfold cellOf; rw [hc]
      rw [e]
      have e2 : (env.cells.lookup n).getD 0 = c := by rw [hc]; rfl
      rw [e2]
      exact ih _
    · rw [if_neg hk, if_neg hk]
      exact ih _
theorem closure_ok {scope : Scope} {env : Env} (h : ∀ y ∈ scope.names, y.2 = .free → ∃ c, env.cells.lookup y.1 = some c) : closureFor scope env = pure (cloFrom env.cells scope.names []) := by
  simp only [closureFor]
  rw [closure_loop env _ (fun n k c => rfl) scope.names [] h]
  rfl

theorem mem_lookup {α : Type} : ∀ {l : List (Str × α)} {n : Str} {c : α}, (n, c) ∈ l → ∃ c', l.lookup n = some c'
  | (k, v) :: r, n, c, h => by
    rw [List.lookup_cons]
    cases hb : n == k with
    | true => exact ⟨_, rfl⟩
    | false =>
      rcases List.mem_cons.mp h with e | h
      · cases e; simp at hb
      · exact mem_lookup h

theorem cloFrom_mem {cells : List (Str × Addr)} : ∀ {names : List (Str × NameKind)} {acc : List (Str × Addr)} {n : Str} {c : Addr}, (n, c) ∈ cloFrom cells names acc → (n, c) ∈ acc ∨ ((n, .free) ∈ names ∧ c = (cells.lookup n).getD 0)
  | [], _, _, _, h => .inl h
  | (m, k) :: r, acc, n, c, h => by
    unfold cloFrom at h
    split at h
    · rename_i hk
      have hk : k = .free := by simpa using hk
      rcases cloFrom_mem h with h | ⟨h1, h2⟩
      · rcases List.mem_cons.mp h with e | h
        · cases e; exact .inr ⟨hk ▸ List.mem_cons_self, rfl⟩
        · exact .inl h
      · exact .inr ⟨List.mem_cons_of_mem _ h1, h2⟩
    · rcases cloFrom_mem h with h | ⟨h1, h2⟩
      · exact .inl h
      · exact .inr ⟨List.mem_cons_of_mem _ h1, h2⟩
theorem cloFrom_acc {cells : List (Str × Addr)} : ∀ {names : List (Str × NameKind)} {acc : List (Str × Addr)} {p : Str × Addr}, p ∈ acc → p ∈ cloFrom cells names acc
  | [], _, _, h => h
  | (m, k) :: r, acc, p, h => by
    unfold cloFrom
    split
    · exact cloFrom_acc (List.mem_cons_of_mem _ h)
    · exact cloFrom_acc h
theorem cloFrom_has {cells : List (Str × Addr)} : ∀ {names : List (Str × NameKind)} {acc : List (Str × Addr)} {n : Str}, (n, .free) ∈ names → (n, (cells.lookup n).getD 0) ∈ cloFrom cells names acc
  | (m, k) :: r, acc, n, h => by
    unfold cloFrom
    rcases List.mem_cons.mp h with e | h
    · cases e
      exact cloFrom_acc List.mem_cons_self
    · split
      · exact cloFrom_has h
      · exact cloFrom_has h

theorem cells_mem : ∀ {names : List (Str × NameKind)} {h : Heap} {acc : List (Str × Addr)} {x : Str} {c : Addr}, (x, c) ∈ cellsFrom h.objs.size names acc →
    (x, c) ∈ acc ∨ ((x, .cell) ∈ names ∧ h.objs.size ≤ c ∧ CellAt (pushCells h names) c none)
  | [], _, _, _, _, h => .inl h
  | (n, k) :: r, h, acc, x, c, hm => by
    unfold cellsFrom at hm
    unfold pushCells
    split at hm
    · rename_i hk
      rw [if_pos hk]
      have hk : k = .cell := by simpa using hk
      rw [← Heap.size_push h { cls := .type "cell", data := .cell none }] at hm
      rcases cells_mem hm with hm | ⟨h1, h2, h3⟩
      · rcases List.mem_cons.mp hm with e | hm
        · cases e
          exact .inr ⟨hk ▸ List.mem_cons_self, Nat.le_refl _, _, pushCells_keeps r _ _ _ (Heap.get?_push_size _ rfl), rfl⟩
        · exact .inl hm
      · rw [Heap.size_push] at h2
        exact .inr ⟨List.mem_cons_of_mem _ h1, Nat.le_of_succ_le h2, h3⟩
    · rename_i hk
      rw [if_neg hk]
      rcases cells_mem hm with hm | ⟨h1, h2, h3⟩
      · exact .inl hm
      · exact .inr ⟨List.mem_cons_of_mem _ h1, h2, h3⟩
theorem cells_acc : ∀ {names : List (Str × NameKind)} {n : Nat} {acc : List (Str × Addr)} {p : Str × Addr}, p ∈ acc → p ∈ cellsFrom n names acc
  | [], _, _, _, h => h
  | (m, k) :: r, n, acc, p, h => by
    unfold cellsFrom
    split
    · exact cells_acc (List.mem_cons_of_mem _ h)
    · exact cells_acc h
theorem cells_has : ∀ {names : List (Str × NameKind)} {n : Nat} {acc : List (Str × Addr)} {x : Str}, (x, .cell) ∈ names → ∃ c, (x, c) ∈ cellsFrom n names acc
  | (m, k) :: r, n, acc, x, h => by
    unfold cellsFrom
    rcases List.mem_cons.mp h with e | h
    · cases e
      exact ⟨n, cells_acc List.mem_cons_self⟩
    · split
      · exact cells_has h
      · exact cells_has h
theorem cells_inj : ∀ {names : List (Str × NameKind)} {h : Heap} {acc : List (Str × Addr)} {x y : Str} {c : Addr}, (∀ p ∈ acc, p.2 < h.objs.size) → (∀ x y c, (x, c) ∈ acc → (y, c) ∈ acc → x = y) →
    (x, c) ∈ cellsFrom h.objs.size names acc → (y, c) ∈ cellsFrom h.objs.size names acc → x = y
  | [], _, _, _, _, _, _, hi, h1, h2 => hi _ _ _ h1 h2
  | (n, k) :: r, h, acc, x, y, c, hl, hi, h1, h2 => by
    unfold cellsFrom at h1 h2
    split at h1
    · rename_i hk
      rw [if_pos hk] at h2
      rw [← Heap.size_push h { cls := .type "cell", data := .cell none }] at h1 h2
      refine cells_inj (h := h.push _) (fun p hp => ?_) (fun x y c a b => ?_) h1 h2
      · rw [Heap.size_push]
        rcases List.mem_cons.mp hp with rfl | hp
        · exact Nat.lt_succ_self _
        · exact Nat.lt_succ_of_lt (hl p hp)
      · rcases List.mem_cons.mp a with e | a <;> rcases List.mem_cons.mp b with e' | b
        · cases e; cases e'; rfl
        · cases e; exact absurd (hl _ b) (Nat.lt_irrefl _)
        · cases e'; exact absurd (hl _ a) (Nat.lt_irrefl _)
        · exact hi _ _ _ a b
    · rename_i hk
      rw [if_neg hk] at h2
      exact cells_inj hl hi h1 h2

theorem newEnv_comp {M : Model} {A : Around} {E : Value → Shared → Prop} {s : Shared} {scope : Scope} {globals : Addr} {closure : List (Str × Addr)} {qual : Str} {func : Option Addr} {code : Value} {around : Env} {builtins : Addr} {Q : Env → Shared → Prop}
    (h : Q (newEnv scope s.heap.objs.size globals (cellsFrom (s.heap.objs.size + 1) scope.names closure) qual func code (some around) builtins)
      { s with heap := pushCells (s.heap.push { cls := .type "dict", data := .dict #[] }) scope.names }) :
    wpAny M A (newFunctionEnv scope globals closure [] qual func code (some around) builtins) Q E s := by
  simp only [newFunctionEnv, Option.isSome_some, if_true]
  refine wpAny_bind (wpAny_alloc ?_)
  refine wpAny_bind (wpAny_layCells _ (fun n k c => rfl) scope.names closure _ _ ?_)
  rw [show ({ s with heap := s.heap.push { cls := .type "dict", data := .dict #[] } } : Shared).heap.objs.size = s.heap.objs.size + 1 from Heap.size_push ..]
  rw [List.forIn_nil]
  exact wpAny_bind (wpAny_pure (wpAny_pure h))

/-- every name of the written scope, in the scope that runs -/
theorem lookup_relS {sc : Scope} : ∀ {names : List (Str × NameKind)} {x : Str} {k : NameKind},
    (names.map fun (n, k) => if (k == NameKind.free && sc.kind == .function && sc.names.lookup n == some .cell) then (n, NameKind.cell) else (n, k)).lookup x = some k →
    ∃ k', names.lookup x = some k' ∧ (k = k' ∨ (k' = .free ∧ k = .cell))
  | [], _, _, h => by simp at h
  | (n, k₀) :: r, x, k, h => by
    have ih := @lookup_relS sc r x k
    have h' : List.lookup x ((if (k₀ == NameKind.free && sc.kind == .function && sc.names.lookup n == some .cell) = true then (n, NameKind.cell) else (n, k₀)) :: (r.map _)) = some k := h
    cases hx : x == n with
    | true =>
      simp only [List.lookup_cons, hx]
      by_cases hc : (k₀ == NameKind.free && sc.kind == .function && sc.names.lookup n == some .cell) = true
      · rw [if_pos hc] at h'
        simp only [List.lookup_cons, hx] at h'
        cases h'
        simp only [Bool.and_eq_true, beq_iff_eq] at hc
        exact ⟨k₀, rfl, .inr ⟨hc.1.1, rfl⟩⟩
      · rw [if_neg hc] at h'
        simp only [List.lookup_cons, hx] at h'
        cases h'
        exact ⟨_, rfl, .inl rfl⟩
    | false =>
      simp only [List.lookup_cons, hx]
      by_cases hc : (k₀ == NameKind.free && sc.kind == .function && sc.names.lookup n == some .cell) = true
      · rw [if_pos hc] at h'
        simp only [List.lookup_cons, hx] at h'
        exact ih h'
      · rw [if_neg hc] at h'
        simp only [List.lookup_cons, hx] at h'
        exact ih h'



/-- the names of a comprehension's block: its own (with their places in N), or captured -/
structure BlkOk (N : List Str) (sc scope : Scope) (own : List (Str × Nat)) : Prop where
  kind : scope.kind = .function
  uniq : ∀ y ∈ scope.names, scope.names.lookup y.1 = some y.2
  ix : ∀ p ∈ own, N[p.2]? = some p.1
  free : ∀ y ∈ scope.names, y.2 = .free → sc.names.lookup y.1 = some .cell ∨ sc.names.lookup y.1 = some .free
  own : ∀ y ∈ scope.names, y.2 = .local ∨ y.2 = .cell → y.1 ∈ own.map (·.1) ∨ y.1 ∉ N
/-- the slots of the block's own names forgotten -/
def wipe (σ : St) : List Nat → St
  | [] => σ
  | v :: vs => (wipe σ vs).set v none
theorem wipe_length (σ : St) : ∀ vs : List Nat, (wipe σ vs).length = σ.length
  | [] => rfl
  | v :: vs => by unfold wipe; rw [List.length_set, wipe_length σ vs]
theorem wipe_some {σ : St} {i : Nat} {x : V} : ∀ {vs : List Nat}, (wipe σ vs)[i]? = some (some x) → σ[i]? = some (some x) ∧ i ∉ vs
  | [], h => ⟨h, by simp⟩
  | v :: vs, h => by
    unfold wipe at h
    by_cases hi : v = i
    · subst hi
      by_cases hv : v < (wipe σ vs).length
      · rw [List.getElem?_set_self hv] at h; cases h
      · rw [List.getElem?_eq_none (by simpa using hv)] at h; cases h
    · rw [List.getElem?_set_ne hi] at h
      obtain ⟨h1, h2⟩ := wipe_some h
      exact ⟨h1, by simp only [List.mem_cons, not_or]; exact ⟨fun e => hi e.symm, h2⟩⟩

/-- the context of a block that starts at s, its iterator's objects at fp -/
abbrev Cx.blk (X : Cx) (s : Shared) (H : Hp) (scope : Scope) (cenv : Env) (fp : List Addr) : Cx := { X with s_0 := s, H_0 := H, env := cenv, outer := X.stack, ex := fp, fn := fun x => scope.names.lookup x == some .cell, pn := [], xe := fun _ _ => False }
section
variable {X : Cx} {pins : List (Addr × Obj)} {σ : St} {H : Hp} {s : Shared}
theorem block_start {scope : Scope} {own : List (Str × Nat)} {fp : List Addr} (I : Inv X pins σ H s) (ok : BlkOk X.N X.env.scope scope own) (hN : X.N.Nodup) (hfp : ∀ b ∈ fp, FpOk X pins H b ∧ b < s.heap.objs.size) :
    Inv (X.blk s H scope (compEnvC scope (cellsFrom (s.heap.objs.size + 1) scope.names (cloFrom X.env.cells scope.names [])) s.heap.objs.size X.env) fp) [] (wipe σ (own.map (·.2))) H { s with heap := pushCells (s.heap.push { cls := .type "dict", data := .dict #[] }) scope.names } := by
  have hfree : ∀ y ∈ scope.names, y.2 = .free → ∃ c, X.env.cells.lookup y.1 = some c := fun y hy e => by
    rcases ok.free y hy e with k | k
    · exact I.ok.has _ (.inl k)
    · exact I.ok.has _ (.inr k)
  generalize hcenv : compEnvC scope (cellsFrom (s.heap.objs.size + 1) scope.names (cloFrom X.env.cells scope.names [])) s.heap.objs.size X.env = cenv
  have kp : ∀ b o, s.heap.get? b = some o → (pushCells (s.heap.push { cls := .type "dict", data := .dict #[] }) scope.names).get? b = some o := fun b o e => pushCells_keeps _ _ _ _ (Heap.get?_push_of_some _ e)
  have hL : cenv.locals = s.heap.objs.size := by rw [← hcenv]; rfl
  have hcl : cenv.cells = cellsFrom (s.heap.objs.size + 1) scope.names (cloFrom X.env.cells scope.names []) := by rw [← hcenv]; rfl
  have hsc : cenv.scope = relS scope X.env.scope := by rw [← hcenv]; rfl
  rw [← Heap.size_push s.heap { cls := .type "dict", data := .dict #[] }] at hcl
  have cm : ∀ {y c}, (y, c) ∈ cloFrom X.env.cells scope.names [] → X.env.cells.lookup y = some c ∧ c < s.heap.objs.size := fun {y c} hm => by
    rcases cloFrom_mem hm with hm | ⟨h1, rfl⟩
    · cases hm
    · obtain ⟨c, hc⟩ := hfree _ h1 rfl
      rw [hc]
      obtain ⟨w, z⟩ := I.cell _ _ hc
      exact ⟨rfl, z.lt⟩
  have mem : ∀ {y c}, cenv.cells.lookup y = some c → (X.env.cells.lookup y = some c ∧ c < s.heap.objs.size) ∨ (s.heap.objs.size + 1 ≤ c ∧ CellAt (pushCells (s.heap.push { cls := .type "dict", data := .dict #[] }) scope.names) c none) := fun {y c} e => by
    rw [hcl] at e
    rcases cells_mem (PySem.mem_of_lookup e) with hm | ⟨_, h2, h3⟩
    · exact .inl (cm hm)
    · rw [Heap.size_push] at h2; exact .inr ⟨h2, h3⟩
  have look : ∀ {y}, scope.names.lookup y = some .free → ∃ c, cenv.cells.lookup y = some c ∧ X.env.cells.lookup y = some c := fun {y} hl => by
    have hy : (y, NameKind.free) ∈ scope.names := PySem.mem_of_lookup hl
    obtain ⟨c', e'⟩ := mem_lookup (cells_acc (names := scope.names) (n := (s.heap.push { cls := .type "dict", data := .dict #[] }).objs.size) (cloFrom_has (cells := X.env.cells) (acc := []) hy))
    rw [← hcl] at e'
    refine ⟨c', e', ?_⟩
    rw [hcl] at e'
    rcases cells_mem (PySem.mem_of_lookup e') with hm | ⟨h1, _, _⟩
    · exact (cm hm).1
    · have := ok.uniq _ h1
      rw [hl] at this; cases this
  have okB : (X.blk s H scope cenv fp).Ok := by
    refine ⟨I.ok.mod, by show cenv.scope.kind = _; rw [hsc]; exact ok.kind, by show cenv.globals = _; rw [← hcenv]; exact I.ok.glob, by show cenv.builtins = _; rw [← hcenv]; exact I.ok.blt, by show s.heap.objs.size ≤ cenv.locals; rw [hL]; exact Nat.le_refl _,
      fun y z c e1 e2 => ?_, fun y hy => ?_, fun y c z e => ?_, I.ok.hd, I.ok.frames, .inl rfl, fun b hb => ⟨?_, fun y c e z => ?_⟩, I.bs, Nat.le_trans I.ok.bsz I.sz, fun b o e hb => ?_, fun b hb z => ?_, I.stack, I.stkFree⟩
    · have e1 : cenv.cells.lookup y = some c := e1
      have e2 : cenv.cells.lookup z = some c := e2
      rw [hcl] at e1 e2
      refine cells_inj (fun p hp => ?_) (fun y z c a b => I.ok.inj y z c (cm a).1 (cm b).1) (PySem.mem_of_lookup e1) (PySem.mem_of_lookup e2)
      rw [Heap.size_push]
      exact Nat.lt_succ_of_lt (cm (y := p.1) (c := p.2) hp).2
    · show ∃ c, cenv.cells.lookup y = some c
      have key : ∀ k, cenv.kindOf y = some k → (k = .cell ∨ k = .free) → ∃ c, cenv.cells.lookup y = some c := fun k hk hk' => by
        unfold Env.kindOf at hk
        rw [hsc] at hk
        obtain ⟨k', e, r⟩ := lookup_relS hk
        have : k' = .cell ∨ k' = .free := by
          rcases r with rfl | ⟨rfl, _⟩
          · exact hk'
          · exact .inr rfl
        rcases this with rfl | rfl
        · obtain ⟨c, hm⟩ := cells_has (n := (s.heap.push { cls := .type "dict", data := .dict #[] }).objs.size) (acc := cloFrom X.env.cells scope.names []) (PySem.mem_of_lookup e)
          obtain ⟨c', e'⟩ := mem_lookup hm
          exact ⟨c', by rw [hcl]; exact e'⟩
        · obtain ⟨c, h1, _⟩ := look e
          exact ⟨c, h1⟩
      rcases hy with hy | hy
      · exact key _ hy (.inl rfl)
      · exact key _ hy (.inr rfl)
    · have z : (scope.names.lookup y == some NameKind.cell) = true := z
      have z : scope.names.lookup y = some .cell := by simpa using z
      have e : cenv.cells.lookup y = some c := e
      rw [hcl] at e
      rcases cells_mem (PySem.mem_of_lookup e) with hm | ⟨_, h2, _⟩
      · rcases cloFrom_mem hm with hm | ⟨h1, _⟩
        · cases hm
        · have q := ok.uniq _ h1
          rw [z] at q; cases q
      · rw [Heap.size_push] at h2
        exact Nat.le_of_succ_le h2
    · show b ≠ cenv.locals
      rw [hL]; exact Nat.ne_of_lt (hfp b hb).2
    · have e : cenv.cells.lookup y = some c := e
      rcases mem e with ⟨h1, _⟩ | ⟨h1, _⟩
      · exact (hfp b hb).1.2.2.2.2.1 y c h1 z
      · have h2 : s.heap.objs.size + 1 ≤ b := by rw [← z]; exact h1
        exact absurd (Nat.lt_of_lt_of_le (hfp b hb).2 (Nat.le_of_succ_le h2)) (Nat.lt_irrefl _)
    · rcases (hfp b hb).1.2.2.2.1 with z | z
      · exact I.ok.noex b o e z
      · exact absurd (Nat.lt_of_lt_of_le (Heap.lt_size e) (Nat.le_trans I.ok.bsz z)) (Nat.lt_irrefl _)
    · rcases List.mem_cons.mp (I.stkSub b z) with z | z
      · exact (hfp b hb).1.2.1 z
      · exact (hfp b hb).1.2.2.1 z
  refine ⟨okB, rfl, I.bare, Un.kept kp, ⟨fun _ => none, ?_, fun i y av e1 e2 e3 => ?_⟩, fun y c e => ?_, ?_, fun y c e => ?_, fun p hp => ?_, I.hok.kept kp, by rw [wipe_length]; exact I.len⟩
  · show Heap.Ns _ cenv.locals _
    rw [hL]
    exact Heap.Ns.keeps (Heap.Ns.new ..) fun b o e => pushCells_keeps _ _ _ _ e
  · obtain ⟨e2, hne⟩ := wipe_some e2
    have hfr : scope.names.lookup y = some .free ∧ (cenv.kindOf y = some .cell ∨ cenv.kindOf y = some .free) := by
      have key : ∀ k, cenv.scope.names.lookup y = some k → k = .local ∨ k = .cell ∨ k = .free → scope.names.lookup y = some .free ∧ (cenv.kindOf y = some .cell ∨ cenv.kindOf y = some .free) := fun k hk hk' => by
        have hk0 := hk
        rw [hsc] at hk
        obtain ⟨k', e, r⟩ := lookup_relS hk
        have no : ¬ (k' = .local ∨ k' = .cell) := fun hh => by
          rcases ok.own _ (PySem.mem_of_lookup e) hh with e' | e'
          · obtain ⟨p, hp, hpy⟩ := List.mem_map.mp e'
            have e3 := ok.ix p hp
            have : p.1 = y := hpy
            rw [this] at e3
            exact hne (List.mem_map.mpr ⟨p, hp, nodup_ix hN e3 e1⟩)
          · exact e' (List.mem_of_getElem? e1)
        rcases r with rfl | ⟨rfl, rfl⟩
        · rcases hk' with rfl | rfl | rfl
          · exact absurd (.inl rfl) no
          · exact absurd (.inr rfl) no
          · exact ⟨e, .inr hk0⟩
        · exact ⟨e, .inl hk0⟩
      have e3 : Vis cenv.scope y := e3
      rcases e3 with e3 | e3 | e3
      · exact key _ e3 (.inl rfl)
      · exact key _ e3 (.inr (.inl rfl))
      · exact key _ e3 (.inr (.inr rfl))
    obtain ⟨m, hn, hl⟩ := I.loc
    have hvis : Vis X.env.scope y := (ok.free _ (PySem.mem_of_lookup hfr.1) rfl).elim (fun k => .inr (.inl k)) (fun k => .inr (.inr k))
    obtain ⟨w, r, q⟩ := hl i y av e1 e2 hvis
    refine ⟨w, r, .inr ⟨hfr.2, ?_⟩⟩
    obtain ⟨c, h1, h2⟩ := look hfr.1
    rcases q with ⟨k, _⟩ | ⟨_, c', e', z⟩
    · have k : X.env.scope.names.lookup y = some .local := k
      rcases ok.free _ (PySem.mem_of_lookup hfr.1) rfl with k' | k' <;> rw [show X.env.scope.names.lookup y = _ from k'] at k <;> cases k
    · rw [h2] at e'; cases e'
      exact ⟨c, h1, z.keeps kp⟩
  · have e : cenv.cells.lookup y = some c := e
    rcases mem e with ⟨h1, _⟩ | ⟨_, z⟩
    · obtain ⟨w, z⟩ := I.cell y c h1
      exact ⟨w, z.keeps kp⟩
    · exact ⟨_, z⟩
  · show H cenv.locals = none
    rw [hL]; exact I.hok.fresh (Nat.le_refl _)
  · have e : cenv.cells.lookup y = some c := e
    rcases mem e with ⟨h1, _⟩ | ⟨h1, _⟩
    · exact I.freeC y c h1
    · exact I.hok.fresh (Nat.le_of_succ_le h1)
  · exact absurd (show p ∈ ([] : List (Addr × Obj)) ++ [] from hp) (by simp)

/-- an item appended to a tracked list -/
theorem app_ok {E : Value → Shared → Prop} {D : Addr} {xs : List V} {y : V} {v : Value} {Q : Value → Shared → Prop} (I : Inv X pins σ H s) (hD : H D = some (.lst xs)) (hz : xs.length < sizeLine) (r : RelV y v)
    (h : ∀ s', Inv X pins σ (upd H D (.lst (xs ++ [y]))) s' → Q .none s') : wpAny (model X.prog X.w) X.A (call (.builtin "list.append") [.ref D, v]) Q E s := by
  obtain ⟨hz', its, n, ri, e⟩ := I.hok D _ hD
  have hl := ri.length
  refine append_at (hsz := by rw [List.size_toArray]; omega) e fun h' sb ho' => ?_
  refine h { s with heap := h' } (I.write (t' := s.toks) (by rw [hD]; trivial) (.inl rfl) (fun b u hb q => (sb.2 b hb).trans q) ⟨_, ho'⟩ ⟨by rw [List.length_append]; exact hz, its ++ [v], n + 1, ri.append (.cons r .nil), ?_⟩)
  rw [ho']
  simp

/-- a clause's tests -/
def PTs (X : Cx) (ifs : List Expr) (t : TT) : Prop :=
  ∀ (pins : List (Addr × Obj)) (s : Shared) (σ : St) (H : Hp) (Q : Bool → Hp → Prop), Inv X pins σ H s → t σ H Q →
    wpAny (model X.prog X.w) X.A (forIn ifs true fun c r => if r = true then do let ok ← isTrue c X.env (eval c X.env); pure (ForInStep.yield ok) else pure (ForInStep.yield r)) (TP X pins σ Q) X.xe s
def tYes : TT := fun _ H Q => Q true H
theorem pts_nil : PTs X [] tYes := fun _ _ _ H _ I h => wpAny_tests_nil ⟨H, I, h⟩
theorem pts_one {c : Expr} {t : TT} (h : PT X c t) : PTs X [c] t := fun pins s σ H Q I hw => wpAny_tests_one (h pins s σ H Q I hw)
end

theorem thnF {α : Type} {t : Sem α} {Q Q' : α → Shared → Prop} {M : Model} {A : Around} {E : Value → Shared → Prop} {s : Shared} (h : wpAny M A t Q (fun _ _ => False) s) (hQ : ∀ a s, Q a s → Q' a s) : wpAny M A t Q' E s := wpAny_mono h hQ fun _ _ z => False.elim z

/-- the loop of a list comprehension's block, the target of any form (codeAny_compLoop_tests asks a target that no tuple goes to; statement and proof follow it, PyProof/CompMap.lean:41-61, with the step letOwnedTupleGo kept) -/
theorem compLoop_any {prog : Program} {w : World} {A : Around} {R : Result → Shared → Prop} {s : Shared} {elt target iter : Expr} {ifs : List Expr} {scope : Scope} {pos : Pos} {it acc : Value} {env : Env} (I : Nat → Shared → Prop)
    (turn : ∀ n s, I n s → wpAny (model prog w) A (pyNext it) (fun r s₁ => match r with
      | none => R (.ok .next) s₁
      | some v => wpAny (model prog w) A (letOwnedTupleGo target it v) (fun _ s₁' => wpAny (model prog w) A (assign target env v) (fun _ s₂ =>
          wpAny (model prog w) A (forIn ifs true fun c r => if r = true then do let ok ← isTrue c env (eval c env); pure (ForInStep.yield ok) else pure (ForInStep.yield r)) (fun ok s₃ =>
            if ok = true then wpAny (model prog w) A (eval elt env) (fun x s₄ =>
              wpAny (model prog w) A (call (.builtin "list.append") [acc, x]) (fun _ s₅ => ∃ m, m < n ∧ I m s₅) (notedBy (model prog w) A env fun e s' => R (.error e) s') s₄) (notedBy (model prog w) A env fun e s' => R (.error e) s') s₃
            else ∃ m, m < n ∧ I m s₃) (notedBy (model prog w) A env fun e s' => R (.error e) s') s₂) (notedBy (model prog w) A env fun e s' => R (.error e) s') s₁') (notedBy (model prog w) A env fun e s' => R (.error e) s') s₁) (notedBy (model prog w) A env fun e s' => R (.error e) s') s)
    (n : Nat) (h : I n s) :
    codeAny (model prog w) A (.compLoop (.ListComp elt [⟨target, iter, ifs, 0⟩] scope pos) 0 it acc env) R s := by
  refine codeAny_loop rfl I (fun n s hI => ?_) n h
  show wpAny _ A ((compTurn (.ListComp elt [⟨target, iter, ifs, 0⟩] scope pos) 0 it acc env).onRaise (fun x => do noteFrame x env; theTreesLotGoes x)) _ _ s
  refine wpAny_noted ?_
  rw [compTurn_list]
  refine wpAny_bind (wpAny_standAt (wpAny_bind (wpAny_mono (turn n s hI) (fun r s₁ h₁ => ?_) fun _ _ h' => h')))
  cases r with
  | none => exact wpAny_pure h₁
  | some v =>
    refine wpAny_bind (wpAny_mono h₁ (fun _ s₁' h₁' => ?_) fun _ _ h' => h')
    refine wpAny_bind (wpAny_mono h₁' (fun _ s₂ h₂ => wpAny_bind (wpAny_mono h₂ (fun ok s₃ h₃ => ?_) fun _ _ h' => h')) fun _ _ h' => h')
    cases ok with
    | false => exact wpAny_pure ⟨rfl, h₃⟩
    | true =>
      exact wpAny_bind (wpAny_bind (wpAny_mono h₃ (fun x s₄ h₄ => wpAny_bind (wpAny_mono h₄ (fun _ s₅ h₅ => wpAny_pure (wpAny_pure ⟨rfl, h₅⟩)) fun _ _ h' => h')) fun _ _ h' => h'))

section
variable {X : Cx}
/-- [elt for target in iter if ..]: D the new list; W by the turn and a measure, Nx what a turn is to reach -/
def tLc (wi : TI) (g : TG) (tt : TT) (te : TE) (vs : List Nat) : TE := fun σ H Q => wi σ H fun J H1 => ∀ D, H1 D = none → ∃ W : Nat → Nat → Hp → Prop, (∃ m, W 0 m (upd H1 D (.lst []))) ∧ ∀ i m H, W i m H →
  (J.stop i H ∧ Q (.ref D) H) ∨ (J.go i H ∧ ∃ Nx : Hp → Prop, (∀ H', Nx H' → ∃ m', m' < m ∧ W (i + 1) m' H') ∧ ∀ x H', J.yld i H x H' → g x (wipe σ vs) H' fun σ2 H2 => wipe σ2 vs = wipe σ vs ∧ tt σ2 H2 fun b H3 =>
    if b = true then te σ2 H3 fun y H4 => ∃ acc, H4 D = some (.lst acc) ∧ acc.length < sizeLine ∧ Nx (upd H4 D (.lst (acc ++ [y]))) else Nx H3)
theorem lc_core {pins : List (Addr × Obj)} {s : Shared} {σ : St} {H : Hp} {Q : VK} {elt tg iter : Expr} {ifs : List Expr} {scope : Scope} {own : List (Str × Nat)} {pos pos' : Pos} {wi : TI} {g : TG} {tt : TT} {te : TE} {use : Option (Value → Sem Unit)} {Qf : Value → Shared → Prop}
    (hc : X.calm = true) (hN : X.N.Nodup) (I : Inv X pins σ H s) (hi : PI X tg iter wi) (ok : BlkOk X.N X.env.scope scope own)
    (hg : ∀ (s : Shared) (H : Hp) (C : Addr) (cl : List (Str × Addr)) (fp : List Addr), PG (X.blk s H scope (compEnvC scope cl C X.env) fp) tg g) (ht : ∀ (s : Shared) (H : Hp) (C : Addr) (cl : List (Str × Addr)) (fp : List Addr), PTs (X.blk s H scope (compEnvC scope cl C X.env) fp) ifs tt)
    (he : ∀ (s : Shared) (H : Hp) (C : Addr) (cl : List (Str × Addr)) (fp : List Addr), PE (X.blk s H scope (compEnvC scope cl C X.env) fp) elt te) (hs : ∀ x, foldedSetIterable iter X.env x = pure x)
    (h : tLc wi g tt te (own.map (·.2)) σ H Q)
    (hRR : ∀ D C s' m H', Inv X pins σ H' s' → Q (.ref D) H' → s'.heap.Ns C m → FpOk X pins H' C → compPost (model X.prog X.w) X.A X.xe use Qf (.ref D) C (.ok .next) s') :
    wpAny (model X.prog X.w) X.A (comprehension (.ListComp elt [⟨tg, iter, ifs, 0⟩] scope pos) scope X.env pos' (newList []) false (eval iter X.env) use) Qf X.xe s := by
  have hfree : ∀ y ∈ scope.names, y.2 = .free → ∃ c, X.env.cells.lookup y.1 = some c := fun y hy e => by
    rcases ok.free y hy e with k | k
    · exact I.ok.has _ (.inl k)
    · exact I.ok.has _ (.inr k)
  refine wpAny_comprehension_free (use := use) rfl hs (closure_ok hfree) ok.kind (fun y hy e => by rw [ok.uniq y hy, e])
    (thn (hi pins s σ H _ I h) fun xv s1 hx => thn hx fun itv s2 h2 => ?_)
  obtain ⟨it, fp, tn, J, H2, e, I2, T, st2, f2, q⟩ := h2
  subst e
  refine wpAny_newObj_type (newEnv_comp ?_) (by show 0 ≤ sizeLine; decide)
  generalize hD : s2.heap.objs.size = D
  have hDn : H2 D = none := I2.hok.fresh (Nat.le_of_eq hD)
  obtain ⟨W, ⟨m0, w0⟩, turn⟩ := q D hDn
  -- the new list
  generalize hs3 : ({ s2 with heap := s2.heap.push { cls := .type "list", data := .seq ([] : List Value).toArray } } : Shared) = s3
  have I3 : Inv X pins σ (upd H2 D (.lst [])) s3 := by
    rw [← hs3]
    refine I2.laid (t' := s2.toks) (fun b o e => Heap.get?_push_of_some _ e) (Nat.le_of_eq hD) ⟨Nat.zero_le _, [], 0, .nil, ?_⟩
    rw [← hD]
    exact Heap.get?_push_size _ rfl
  have h3 : s3.heap = s2.heap.push { cls := .type "list", data := .seq ([] : List Value).toArray } := by rw [← hs3]
  have sz : ∀ b ∈ fp, b < s2.heap.objs.size := fun b hb => by
    obtain ⟨o, e, _⟩ := T.obj _ _ st2 b hb
    exact Heap.lt_size e
  have f3 : ∀ b ∈ fp, FpOk X pins (upd H2 D (.lst [])) b ∧ b < s3.heap.objs.size := fun b hb => by
    have hlt := sz b hb
    refine ⟨⟨?_, (f2 b hb).2⟩, by rw [h3, Heap.size_push]; exact Nat.lt_succ_of_lt hlt⟩
    rw [upd_ne (by rw [← hD]; exact Nat.ne_of_lt hlt)]
    exact (f2 b hb).1
  have st3 : tn 0 s3.heap := T.keep _ _ _ st2 fun b _ o e => by rw [h3]; exact Heap.get?_push_of_some _ e
  have I4 := block_start I3 ok hN f3
  have pg := hg s3 (upd H2 D (.lst [])) s3.heap.objs.size (cellsFrom (s3.heap.objs.size + 1) scope.names (cloFrom X.env.cells scope.names [])) fp
  have pt := ht s3 (upd H2 D (.lst [])) s3.heap.objs.size (cellsFrom (s3.heap.objs.size + 1) scope.names (cloFrom X.env.cells scope.names [])) fp
  have pe := he s3 (upd H2 D (.lst [])) s3.heap.objs.size (cellsFrom (s3.heap.objs.size + 1) scope.names (cloFrom X.env.cells scope.names [])) fp
  show codeAny _ _ (.compStart (.ListComp elt [⟨tg, iter, ifs, 0⟩] scope pos) 0 (.ref it) (.ref D) (compEnvC scope (cellsFrom (s3.heap.objs.size + 1) scope.names (cloFrom X.env.cells scope.names [])) s3.heap.objs.size X.env)) (compPost (model X.prog X.w) X.A X.xe use Qf (.ref D) s3.heap.objs.size) { s3 with heap := pushCells (s3.heap.push { cls := .type "dict", data := .dict #[] }) scope.names }
  have nfp : ∀ b ∈ fp, (upd H2 D (.lst [])) b = none := fun b hb => (f3 b hb).1.1
  generalize hce : compEnvC scope (cellsFrom (s3.heap.objs.size + 1) scope.names (cloFrom X.env.cells scope.names [])) s3.heap.objs.size X.env = ce at I4 pg pt pe ⊢
  have cL : ce.locals = s3.heap.objs.size := by subst hce; rfl
  generalize hH3 : upd H2 D (.lst []) = H3 at I3 I4 pg pt pe w0 nfp f3
  generalize hs4 : ({ s3 with heap := pushCells (s3.heap.push { cls := .type "dict", data := .dict #[] }) scope.names } : Shared) = s4 at I4 ⊢
  have st4 : tn 0 s4.heap := T.keep _ _ _ st3 fun b _ o e => by rw [← hs4]; exact pushCells_keeps _ _ _ _ (Heap.get?_push_of_some _ e)
  have stat : ∀ {σ' : St} {H' : Hp} {s' : Shared}, Inv (X.blk s3 H3 scope ce fp) [] σ' H' s' → (∀ b ∈ fp, H' b = none) → ∀ b ∈ fp, FpOk (X.blk s3 H3 scope ce fp) [] H' b := fun {σ' H' s'} I' hn b hb =>
    ⟨hn b hb, (I'.ok.exf b hb).1, I'.ok.exfs b hb, .inl hb, fun x c e => (I'.ok.exf b hb).2 x c e, fun p hp => absurd (show p ∈ ([] : List (Addr × Obj)) ++ [] from hp) (by simp)⟩
  have loop : codeAny (model X.prog X.w) X.A (.compLoop (.ListComp elt [⟨tg, iter, ifs, 0⟩] scope pos) 0 (.ref it) (.ref D) ce) (compPost (model X.prog X.w) X.A X.xe use Qf (.ref D) s3.heap.objs.size) s4 := by
    refine compLoop_any (fun n s' => ∃ i H', Inv (X.blk s3 H3 scope ce fp) [] (wipe σ (own.map (·.2))) H' s' ∧ tn i s'.heap ∧ (∀ b ∈ fp, H' b = none) ∧ W i n H') ?_ m0 ⟨0, H3, I4, st4, nfp, w0⟩
    rintro n s5 ⟨i, H5, I5, st5, n5, w5⟩
    rcases turn i n H5 w5 with ⟨stop, qq⟩ | ⟨go, Nx, hNx, step⟩
    · have td := T.done (X.blk s3 H3 scope ce fp) rfl rfl rfl hc i [] s5 _ H5 (fun _ _ => False) I5 (stat I5 n5) st5 stop
      refine thnF td fun r s6 ⟨hr, I6⟩ => ?_
      subst hr
      -- back in the def's context
      have I7 : Inv X pins σ H5 s6 := I3.call' (ch := fp) I6.os I6.base I6.hok I6.bare fun b hb => ⟨(f3 b hb).1.2.2.2.1, (f3 b hb).1.2.1, (f3 b hb).1.2.2.2.2.1, (f3 b hb).1.2.2.2.2.2⟩
      have nC : H5 s3.heap.objs.size = none := by
        have z : H5 ce.locals = none := I6.free
        rw [cL] at z
        exact z
      obtain ⟨m, hn, _⟩ := I6.loc
      have hn : s6.heap.Ns ce.locals m := hn
      rw [cL] at hn
      exact hRR D s3.heap.objs.size s6 m H5 I7 qq hn (I3.fpOk (Nat.le_refl _) nC)
    · have ti := T.item (X.blk s3 H3 scope ce fp) rfl rfl rfl hc i [] s5 _ H5 (fun _ _ => False) I5 (stat I5 n5) st5 go
      refine thnF ti fun r s6 ⟨u, hr, h6⟩ => ?_
      subst hr
      refine thnF h6 fun _ s7 ⟨x, H7, I7, r7, y7, st7, n7⟩ => ?_
      have I7' := I7.pinned (stat I7 n7) (T.obj _ _ st7)
      refine thnF (pg _ s7 _ H7 x u _ I7' r7 (step x H7 y7)) fun _ s8 ⟨σ8, H8, I8, hw8, q8⟩ => ?_
      refine thnF (pt _ s8 σ8 H8 _ I8 q8) fun b s9 ⟨H9, I9, q9⟩ => ?_
      -- the turn's end
      have fin : ∀ {s' : Shared} {H' : Hp}, Inv (X.blk s3 H3 scope ce fp) ([] ++ pinsAt fp s7.heap) σ8 H' s' → Nx H' → ∃ m, m < n ∧ ∃ i H', Inv (X.blk s3 H3 scope ce fp) [] (wipe σ (own.map (·.2))) H' s' ∧ tn i s'.heap ∧ (∀ b ∈ fp, H' b = none) ∧ W i m H' := fun {s' H'} I' nx => by
        obtain ⟨m', hm, w'⟩ := hNx H' nx
        have pin' : ∀ b ∈ fp, ∀ o, s7.heap.get? b = some o → s'.heap.get? b = some o ∧ H' b = none := fun b hb o e =>
          let z := I'.pin (b, o) (List.mem_append_right _ (List.mem_append_right _ (mem_pinsAt hb e)))
          ⟨z.1, z.2.1⟩
        have hl : (wipe σ (own.map (·.2))).length = σ8.length := by rw [← hw8, wipe_length]
        refine ⟨m', hm, i + 1, H', (I'.unpinned (pins := [])).weak hl (fun j v e => ?_), T.keep _ _ _ st7 fun b hb o e => (pin' b hb o e).1, fun b hb => ?_, w'⟩
        · rw [← hw8] at e
          exact (wipe_some e).1
        · obtain ⟨o, e, _⟩ := T.obj _ _ st7 b hb
          exact (pin' b hb o e).2
      cases b with
      | false =>
        simp only [Bool.false_eq_true, if_false] at q9 ⊢
        exact fin I9 q9
      | true =>
        simp only [if_true] at q9 ⊢
        refine thnF (pe _ s9 σ8 H9 _ I9 q9) fun z s10 ⟨yv, H10, I10, r10, acc, hD10, hz10, nx⟩ => ?_
        exact app_ok (X := X.blk s3 H3 scope ce fp) I10 hD10 hz10 r10 fun s11 I11 => fin I11 nx
  exact codeAny_compStart_list loop (T.self X.A 0 _ _ _ st4 loop)
/-- as a value -/
theorem pe_lc {elt tg iter : Expr} {ifs : List Expr} {scope : Scope} {own : List (Str × Nat)} {pos : Pos} {wi : TI} {g : TG} {tt : TT} {te : TE} (hc : X.calm = true) (hN : X.N.Nodup) (hi : PI X tg iter wi) (ok : BlkOk X.N X.env.scope scope own)
    (hg : ∀ (s : Shared) (H : Hp) (C : Addr) (cl : List (Str × Addr)) (fp : List Addr), PG (X.blk s H scope (compEnvC scope cl C X.env) fp) tg g) (ht : ∀ (s : Shared) (H : Hp) (C : Addr) (cl : List (Str × Addr)) (fp : List Addr), PTs (X.blk s H scope (compEnvC scope cl C X.env) fp) ifs tt)
    (he : ∀ (s : Shared) (H : Hp) (C : Addr) (cl : List (Str × Addr)) (fp : List Addr), PE (X.blk s H scope (compEnvC scope cl C X.env) fp) elt te) (hs : ∀ x, foldedSetIterable iter X.env x = pure x := by intro _; rfl) :
    PE X (.ListComp elt [⟨tg, iter, ifs, 0⟩] scope pos) (tLc wi g tt te (own.map (·.2))) := by
  intro pins s σ H Q I h
  rw [eval_ListComp]
  refine lc_core hc hN I hi ok hg ht he hs h fun D C s' m H' I' q hn f => ⟨m, hn, fun h'' sb => ?_⟩
  obtain ⟨f0, f1, f2, f3, f4, f5⟩ := f
  exact ⟨.ref D, H', I'.turned (t' := s'.toks) (fun b o hb e => (sb.2 b hb).trans e) f0 f1 f3 f4 f5, rfl, q⟩
/-- name = [..] on one line, the name a local -/
theorem ps_setLc {i : Nat} {y : Str} {py : Pos} {elt tg iter : Expr} {ifs : List Expr} {scope : Scope} {own : List (Str × Nat)} {pos spos : Pos} {wi : TI} {g : TG} {tt : TT} {te : TE} (hc : X.calm = true) (hN : X.N.Nodup) (hy : X.N[i]? = some y) (hyl : X.env.scope.names.lookup y = some .local)
    (hsw : swapsWith (.ListComp elt [⟨tg, iter, ifs, 0⟩] scope pos) (some (.Name y py)) spos.line X.env = pure true) (hi : PI X tg iter wi) (ok : BlkOk X.N X.env.scope scope own)
    (hg : ∀ (s : Shared) (H : Hp) (C : Addr) (cl : List (Str × Addr)) (fp : List Addr), PG (X.blk s H scope (compEnvC scope cl C X.env) fp) tg g) (ht : ∀ (s : Shared) (H : Hp) (C : Addr) (cl : List (Str × Addr)) (fp : List Addr), PTs (X.blk s H scope (compEnvC scope cl C X.env) fp) ifs tt)
    (he : ∀ (s : Shared) (H : Hp) (C : Addr) (cl : List (Str × Addr)) (fp : List Addr), PE (X.blk s H scope (compEnvC scope cl C X.env) fp) elt te) (hs : ∀ x, foldedSetIterable iter X.env x = pure x := by intro _; rfl) :
    PS X (.Assign [.Name y py] (.ListComp elt [⟨tg, iter, ifs, 0⟩] scope pos) spos) (tAsg (tLc wi g tt te (own.map (·.2))) (gName i)) := by
  intro pins s σ H D I h
  rw [exec_Assign_Name_used _ _ _ _ hsw]
  refine wpAny_bind (wpAny_standAt (wpAny_bind ?_))
  show wpAny _ X.A (do let _ ← comprehension (.ListComp elt [⟨tg, iter, ifs, 0⟩] scope pos) scope X.env (firstIterPos [⟨tg, iter, ifs, 0⟩] pos) (newList []) false (eval iter X.env) (some (assign (.Name y py) X.env))) _ _ s
  have h : tLc wi g tt te (own.map (·.2)) σ H (fun x H1 => gName i x σ H1 D.nx) := h
  refine wpAny_bind (thn (lc_core (Qf := fun _ s' => SP X pins D .next s') hc hN I hi ok hg ht he hs h fun L C s' m H' I' q hn f => ?_) fun _ s' hq => wpAny_pure (wpAny_pure hq))
  show wpAny _ _ (assign (.Name y py) X.env (.ref L)) _ _ _
  refine wpAny_assign_Name (store_ok2 (v := V.ref L) I' hN hy (.inl hyl) rfl (fun s2 I2 ⟨a, sb, ha⟩ => ?_) (.inr hyl))
  obtain ⟨f0, f1, f2, f3, f4, f5⟩ := f
  have haC : C ≠ a := by
    rcases ha with z | z
    · rw [z]; exact f1
    · exact fun e => f4 y a z e.symm
  refine ⟨m, hn.sameBut sb haC, fun h3 sb3 => ?_⟩
  exact ⟨_, H', I2.turned (t' := s2.toks) (fun b o hb e => (sb3.2 b hb).trans e) f0 f1 f3 f4 f5, q⟩
theorem sw_true {elt : Expr} {gs : List Comprehension} {scope : Scope} {pos py : Pos} {y : Str} {l : Nat} {env : Env} (hk : env.scope.kind = .function) (hy : env.scope.names.lookup y = some .local) (hl : (py.line == pos.line) = true)
    (ha : (scope.names.any fun (n, k) => n == y && (k == .local || k == .cell)) = false) : swapsWith (.ListComp elt gs scope pos) (some (.Name y py)) l env = pure true := by
  have ky : env.kindOf y = some .local := hy
  have hb : env.blockKind = .function := by unfold Env.blockKind; rw [hk]; rfl
  unfold swapsWith
  simp only [hb, ky, ha, Expr.pos, hl]
  rfl
end

/-! ### the forms one uses -/
/-- over a list that the block leaves as it is -/
theorem lc_list {K : PySem.W.Frag} {a : Addr} {xs : List V} {g : TG} {tt : TT} {te : TE} {vs : List Nat} {σ : St} {H1 : Hp} {D : Addr} {Qd : Hp → Prop} (Pv : Nat → Hp → Prop) (h0 : Pv 0 (upd H1 D (.lst []))) (hl : ∀ i H, i ≤ xs.length → Pv i H → SqL K H a xs)
    (hs : ∀ i x H, xs[i]? = some x → Pv i H → g x (wipe σ vs) H fun σ2 H2 => wipe σ2 vs = wipe σ vs ∧ tt σ2 H2 fun b H3 =>
      if b = true then te σ2 H3 fun y H4 => ∃ acc, H4 D = some (.lst acc) ∧ acc.length < sizeLine ∧ Pv (i + 1) (upd H4 D (.lst (acc ++ [y]))) else Pv (i + 1) H3) (hd : ∀ H, Pv xs.length H → Qd H) :
    ∃ W : Nat → Nat → Hp → Prop, (∃ m, W 0 m (upd H1 D (.lst []))) ∧ ∀ i m H, W i m H →
      ((Itl K a).stop i H ∧ Qd H) ∨ ((Itl K a).go i H ∧ ∃ Nx : Hp → Prop, (∀ H', Nx H' → ∃ m', m' < m ∧ W (i + 1) m' H') ∧ ∀ x H', (Itl K a).yld i H x H' → g x (wipe σ vs) H' fun σ2 H2 => wipe σ2 vs = wipe σ vs ∧ tt σ2 H2 fun b H3 =>
        if b = true then te σ2 H3 fun y H4 => ∃ acc, H4 D = some (.lst acc) ∧ acc.length < sizeLine ∧ Nx (upd H4 D (.lst (acc ++ [y]))) else Nx H3) := by
  refine ⟨fun i m H => m = xs.length - i ∧ i ≤ xs.length ∧ Pv i H, ⟨xs.length, by simp, Nat.zero_le _, h0⟩, ?_⟩
  rintro i m H ⟨rfl, hi, p⟩
  have q := hl i H hi p
  by_cases hlt : i < xs.length
  · refine .inr ⟨⟨xs, xs[i], q, by simp [hlt]⟩, Pv (i + 1), fun H' p' => ⟨xs.length - (i + 1), by omega, rfl, hlt, p'⟩, fun x H' y => ?_⟩
    obtain ⟨e, y⟩ := y
    subst e
    exact hs i x _ (y xs q) p
  · have e : i = xs.length := by omega
    subst e
    exact .inl ⟨⟨xs, q, Nat.le_refl _⟩, hd H p⟩
def blkC (N : List Str) (sc scope : Scope) (own : List (Str × Nat)) : Bool :=
  (match scope.kind with | .function => true | _ => false) && (scope.names.all fun y => decide (scope.names.lookup y.1 = some y.2)) && (own.all fun p => decide (N[p.2]? = some p.1)) &&
    (scope.names.all fun y => match y.2 with
      | .free => (match sc.names.lookup y.1 with | some .cell => true | some .free => true | _ => false)
      | .local => decide (y.1 ∈ own.map (·.1)) || decide (y.1 ∉ N)
      | .cell => decide (y.1 ∈ own.map (·.1)) || decide (y.1 ∉ N)
      | _ => true)
theorem blkOk_by {N : List Str} {sc scope : Scope} {own : List (Str × Nat)} (h : blkC N sc scope own = true) : BlkOk N sc scope own := by
  unfold blkC at h
  simp only [Bool.and_eq_true, List.all_eq_true, decide_eq_true_eq] at h
  obtain ⟨⟨⟨h1, h2⟩, h3⟩, h4⟩ := h
  refine ⟨?_, h2, h3, fun y hy e => ?_, fun y hy e => ?_⟩
  · split at h1
    · assumption
    · cases h1
  · have q := h4 y hy
    simp only [e] at q
    split at q <;> first | exact .inl (by assumption) | exact .inr (by assumption) | cases q
  · have q := h4 y hy
    rcases e with e | e <;> (simp only [e, Bool.or_eq_true, decide_eq_true_eq] at q; exact q)
end L2

namespace L2
open PySem PySem.Spec PyProof.Rows


section
variable {prog : Program} {w : World} {A : Around} {R : Result → Shared → Prop} {s : Shared} {elt t0 i0 t1 i1 : Expr} {ifs0 ifs1 : List Expr} {scope : Scope} {pos : Pos} {it acc : Value} {env : Env}
end

section
variable {X : Cx}
end
end L2

namespace L2
open PySem PySem.Spec PyProof.Rows

/-! ### lists of pairs as tables -/
section
variable {κ : Type} [DecidableEq κ]
def valV (kvs : List (κ × V)) (k : κ) : Option V := (kvs.find? fun kv => decide (kv.1 = k)).map (·.2)
/-- in its place, or at the end -/
def putK (kvs : List (κ × V)) (k : κ) (v : V) : List (κ × V) :=
  if (kvs.any fun kv => decide (kv.1 = k)) = true then kvs.map (fun kv => if kv.1 = k then (kv.1, v) else kv) else kvs ++ [(k, v)]

theorem valV_pos {p : κ × V} {r : List (κ × V)} {k : κ} (e : p.1 = k) : valV (p :: r) k = some p.2 := by simp [valV, List.find?_cons, e]
theorem valV_neg {p : κ × V} {r : List (κ × V)} {k : κ} (e : ¬ p.1 = k) : valV (p :: r) k = valV r k := by simp [valV, List.find?_cons, e]
theorem valV_any (k : κ) : ∀ kvs : List (κ × V), (kvs.any fun kv => decide (kv.1 = k)) = (valV kvs k).isSome
  | [] => rfl
  | p :: r => by
    rw [List.any_cons]
    by_cases e : p.1 = k
    · simp only [valV_pos e, decide_eq_true e, Bool.true_or, Option.isSome_some]
    · rw [valV_neg e, decide_eq_false e, Bool.false_or]; exact valV_any k r
theorem length_putK (kvs : List (κ × V)) (k : κ) (v : V) : (putK kvs k v).length ≤ kvs.length + 1 := by
  unfold putK
  split
  · rw [List.length_map]; omega
  · rw [List.length_append, List.length_cons, List.length_nil]; omega
theorem putK_new {kvs : List (κ × V)} {k : κ} (v : V) (h : valV kvs k = none) : putK kvs k v = kvs ++ [(k, v)] := by
  unfold putK
  rw [valV_any, h]
  exact if_neg (by decide)

theorem RelO.isSome_eq {o : Option V} {u : Option Value} (r : RelO o u) : o.isSome = u.isSome := by
  cases o with
  | none => cases u with
    | none => rfl
    | some _ => exact (show False from r).elim
  | some _ => cases u with
    | none => exact (show False from r).elim
    | some _ => rfl

/-- raw tables of the same keys -/
theorem KV.val {kvs : List (κ × V)} {vs : List (κ × Value)} (r : KV kvs vs) (k : κ) : RelO (valV kvs k) (valueAt vs k) := by
  unfold KV at r
  induction r with
  | nil => exact True.intro
  | @cons p q ps qs h t ih =>
    obtain ⟨h1, h2⟩ := h
    by_cases e : p.1 = k
    · have e' : q.1 = k := h1.symm.trans e
      have b : valueAt (q :: qs) k = some q.2 := by simp [valueAt, List.find?_cons, e']
      rw [valV_pos e, b]; exact h2
    · have e' : ¬ q.1 = k := fun z => e (h1.trans z)
      have b : valueAt (q :: qs) k = valueAt qs k := by simp [valueAt, List.find?_cons, e']
      rw [valV_neg e, b]; exact ih
theorem KV.any {kvs : List (κ × V)} {vs : List (κ × Value)} (r : KV kvs vs) (k : κ) : (kvs.any fun kv => decide (kv.1 = k)) = vs.any fun kv => decide (kv.1 = k) := by
  unfold KV at r
  induction r with
  | nil => rfl
  | cons h t ih => rw [List.any_cons, List.any_cons, ih, h.1]
theorem KV.repl {kvs : List (κ × V)} {vs : List (κ × Value)} (r : KV kvs vs) (k : κ) {y : V} {u : Value} (ry : RelV y u) :
    KV (kvs.map fun kv => if kv.1 = k then (kv.1, y) else kv) (vs.map fun kv => if kv.1 = k then (kv.1, u) else kv) := by
  unfold KV at r ⊢
  induction r with
  | nil => exact .nil
  | @cons p q ps qs h t ih =>
    rw [List.map_cons, List.map_cons]
    refine .cons ?_ ih
    obtain ⟨h1, h2⟩ := h
    by_cases e : p.1 = k
    · rw [if_pos e, if_pos (h1.symm.trans e)]; exact ⟨h1, ry⟩
    · rw [if_neg e, if_neg (fun z => e (h1.trans z))]; exact ⟨h1, h2⟩
theorem KV.put {kvs : List (κ × V)} {vs : List (κ × Value)} (r : KV kvs vs) (k : κ) {y : V} {u : Value} (ry : RelV y u) : KV (putK kvs k y) (stored vs k u) := by
  unfold putK stored
  rw [r.any k]
  by_cases e : (vs.any fun kv => decide (kv.1 = k)) = true
  · rw [if_pos e, if_pos e]; exact r.repl k ry
  · rw [if_neg e, if_neg e]; exact Paired.snoc r ⟨rfl, ry⟩
theorem KV.length {kvs : List (κ × V)} {vs : List (κ × Value)} (r : KV kvs vs) : kvs.length = vs.length := Paired.length r
end


/-! ### a tracked dict, its keys ints and texts or tuples of these -/
theorem kV_is {P : Program} {w : World} {k : Key} {u : Value} (r : RelV (kV k) u) : (mixKind P w).is k u = true := by
  cases k with
  | inl i => obtain ⟨t, e⟩ := (show ∃ t, u = Value.int i t from r); subst e; exact mixKind_int P w i t
  | inr x => obtain ⟨t, e⟩ := (show ∃ t, u = Value.str x t from r); subst e; exact mixKind_str P w x t
theorem items_are {P : Program} {w : World} : ∀ {ks : List Key} {us : List Value}, Vals (ks.map kV) us → ItemsAre (mixKind P w) ks us
  | [], _, r => by rw [List.map_nil] at r; cases r; exact .nil
  | k :: ks, _, r => by
    rw [List.map_cons] at r
    cases r with
    | cons h t => exact .cons (kV_is h) (items_are t)

/-- raw entries of a dict with tuple keys -/
abbrev KT (H : Hp) : List (List Key × V) → List (List Key × Addr × Value) → Prop := Paired fun p q => p.1 = q.1 ∧ H q.2.1 = some (.tup (p.1.map kV)) ∧ RelV p.2 q.2.2
theorem KT.val {H : Hp} {kvs : List (List Key × V)} {xs : List (List Key × Addr × Value)} (r : KT H kvs xs) (k : List Key) : RelO (valV kvs k) ((atKey xs k).map (·.2)) := by
  induction r with
  | nil => exact True.intro
  | @cons p q ps qs h t ih =>
    obtain ⟨h1, _, h2⟩ := h
    by_cases e : p.1 = k
    · have e' : q.1 = k := h1.symm.trans e
      have b : atKey (q :: qs) k = some q.2 := by simp [atKey, List.find?_cons, e']
      rw [valV_pos e, b]; exact h2
    · have e' : ¬ q.1 = k := fun z => e (h1.trans z)
      have b : atKey (q :: qs) k = atKey qs k := by simp [atKey, List.find?_cons, e']
      rw [valV_neg e, b]; exact ih
theorem KT.repl {H : Hp} {kvs : List (List Key × V)} {xs : List (List Key × Addr × Value)} (r : KT H kvs xs) (k : List Key) {y : V} {u : Value} (ry : RelV y u) :
    KT H (kvs.map fun kv => if kv.1 = k then (kv.1, y) else kv) (xs.map (putAt k u)) := by
  induction r with
  | nil => exact .nil
  | @cons p q ps qs h t ih =>
    rw [List.map_cons, List.map_cons]
    refine .cons ?_ ih
    obtain ⟨h1, h2, h3⟩ := h
    unfold putAt
    by_cases e : p.1 = k
    · rw [if_pos e, if_pos (h1.symm.trans e)]; exact ⟨h1, h2, ry⟩
    · rw [if_neg e, if_neg (fun z => e (h1.trans z))]; exact ⟨h1, h2, h3⟩
theorem KT.put {H : Hp} {kvs : List (List Key × V)} {xs : List (List Key × Addr × Value)} (r : KT H kvs xs) (k : List Key) {b : Addr} {y : V} {u : Value} (hb : H b = some (.tup (k.map kV))) (ry : RelV y u) :
    KT H (putK kvs k y) (storedH xs k b u) := by
  have e : (kvs.any fun kv => decide (kv.1 = k)) = (atKey xs k).isSome := by
    rw [valV_any, (r.val k).isSome_eq, Option.isSome_map]
  unfold putK storedH
  rw [e]
  by_cases q : (atKey xs k).isSome = true
  · rw [if_pos q, if_pos q]; exact r.repl k ry
  · rw [if_neg q, if_neg q]; exact Paired.snoc r ⟨rfl, hb, ry⟩
theorem KT.keeps {H H' : Hp} {kvs : List (List Key × V)} {xs : List (List Key × Addr × Value)} (r : KT H kvs xs) (ht : ∀ b ys, H b = some (.tup ys) → H' b = some (.tup ys)) : KT H' kvs xs :=
  Paired.mapP r fun _ _ z => ⟨z.1, ht _ _ z.2.1, z.2.2⟩

section
variable {P : Program} {w : World} {H : Hp} {h : Heap} {a : Addr}
theorem rd_of {u : HO} (ok : HOk P w H h) (e : Rd H a u) : ObjOk P w H h a u := e.ok ok
theorem dk_rd {kvs : List (Key × V)} (ok : HOk P w H h) (e : Rd H a (.dK kvs)) : kvs.length ≤ sizeLine ∧ (a == sysModules) = false ∧ ∃ vs, KV kvs vs ∧ h.DictOf (mixKind P w) a vs :=
  show ObjOk P w H h a (.dK kvs) from rd_of ok e
theorem dk_of {kvs : List (Key × V)} (ok : HOk P w H h) (e : H a = some (.dK kvs)) : kvs.length ≤ sizeLine ∧ (a == sysModules) = false ∧ ∃ vs, KV kvs vs ∧ h.DictOf (mixKind P w) a vs := dk_rd ok (.inl e)
/-- a tracked tuple of ints and texts is a key -/
theorem key_of {ks : List Key} (ok : HOk P w H h) (e : H a = some (.tup (ks.map kV))) : (tupleKind (mixKind P w)).is h ks a := by
  obtain ⟨_, its, r, o, h1, h2, n, h3⟩ := (show ObjOk P w H h a (.tup (ks.map kV)) from ok a _ e)
  exact ⟨o, its.toArray, n, h1, h2, h3, by simpa using items_are r⟩
theorem dt_rd {kvs : List (List Key × V)} (ok : HOk P w H h) (e : Rd H a (.dT kvs)) : kvs.length ≤ sizeLine ∧ (a == sysModules) = false ∧
    ∃ xs, KT H kvs xs ∧ h.DictOfH (tupleKind (mixKind P w)) a xs := by
  obtain ⟨z, y, xs, r, o, es, ep, h1, h2, h3, h4, h5⟩ := (show ObjOk P w H h a (.dT kvs) from rd_of ok e)
  refine ⟨z, y, xs, r, o, es, ep, h1, h2, h3, h4, fun x hx => ?_, h5⟩
  have all : ∀ {l : List (List Key × V)} {m : List (List Key × Addr × Value)}, KT H l m → ∀ x ∈ m, (tupleKind (mixKind P w)).is h x.1 x.2.1 := by
    intro l m q
    induction q with
    | nil => intro x hx; exact nomatch hx
    | @cons p q ps qs hq t ih =>
      intro x hx
      rcases List.mem_cons.mp hx with e | hx
      · subst e
        exact key_of ok (by rw [← hq.1]; exact hq.2.1)
      · exact ih x hx
  exact all r x hx
theorem dt_of {kvs : List (List Key × V)} (ok : HOk P w H h) (e : H a = some (.dT kvs)) : kvs.length ≤ sizeLine ∧ (a == sysModules) = false ∧
    ∃ xs, KT H kvs xs ∧ h.DictOfH (tupleKind (mixKind P w)) a xs := dt_rd ok (.inl e)
end

/-- what the dict at a holds at the key y -/
def DGet (H : Hp) (a : Addr) (y : V) (r : Option V) : Prop :=
  (∃ kvs k, Rd H a (.dK kvs) ∧ y = kV k ∧ r = valV kvs k) ∨ ∃ kvs k b, Rd H a (.dT kvs) ∧ y = .ref b ∧ H b = some (.tup (k.map kV)) ∧ r = valV kvs k
/-- the heap behind a[y] = v -/
def DPut (H : Hp) (a : Addr) (y v : V) (H' : Hp) : Prop :=
  (∃ kvs k, H a = some (.dK kvs) ∧ y = kV k ∧ kvs.length < sizeLine ∧ H' = upd H a (.dK (putK kvs k v))) ∨
  ∃ kvs k b, H a = some (.dT kvs) ∧ y = .ref b ∧ H b = some (.tup (k.map kV)) ∧ kvs.length < sizeLine ∧ H' = upd H a (.dT (putK kvs k v))
theorem DGet.t {H : Hp} {a b : Addr} {kvs : List (List Key × V)} {k : List Key} (e : H a = some (.dT kvs)) (eb : H b = some (.tup (k.map kV))) : DGet H a (.ref b) (valV kvs k) := .inr ⟨kvs, k, b, .inl e, rfl, eb, rfl⟩
theorem DPut.t {H : Hp} {a b : Addr} {kvs : List (List Key × V)} {k : List Key} {v : V} (e : H a = some (.dT kvs)) (eb : H b = some (.tup (k.map kV))) (hl : kvs.length < sizeLine) :
    DPut H a (.ref b) v (upd H a (.dT (putK kvs k v))) := .inr ⟨kvs, k, b, e, rfl, eb, hl, rfl⟩


section
variable {X : Cx} {pins : List (Addr × Obj)} {σ : St} {H : Hp} {s : Shared} {a : Addr} {y v : V} {u r : Value} {o : Option V} {A : Around} {E : Value → Shared → Prop}

theorem Inv.big (I : Inv X pins σ H s) : sysModules < s.heap.objs.size := by
  have h : mainGlobals < s.heap.objs.size := (I.mod.glob.keeps I.bk).lt
  exact Nat.lt_trans (by decide) h

/-- d[y], there -/
theorem d_getItem {Q : Value → Shared → Prop} (hu : A.units + 1 < cLine) (I : Inv X pins σ H s) (g : DGet H a y (some v)) (ry : RelV y u) (h : ∀ w' s', Inv X pins σ H s' → RelV v w' → Q w' s') :
    wpAny (model X.prog X.w) A (getItem (.ref a) u) Q E s := by
  rcases g with ⟨kvs, k, e, ey, l⟩ | ⟨kvs, k, b, e, ey, eb, l⟩
  · subst ey
    obtain ⟨z, hd, vs, rel, dd⟩ := dk_rd I.hok e
    obtain ⟨w', hw, rw'⟩ := RelO.some_of (v := v) (o := valueAt vs k) (by rw [l]; exact rel.val k)
    exact wpAny_getItem_of (kV_is ry) dd.mapOf hw (h w' _ (I.tok _) rw')
  · subst ey
    cases (show u = Value.ref b from ry)
    obtain ⟨z, hd, xs, rel, dd⟩ := dt_rd I.hok e
    obtain ⟨w', hw, rw'⟩ := RelO.some_of (v := v) (o := (atKey xs k).map (·.2)) (by rw [l]; exact rel.val k)
    obtain ⟨p, hp, hp2⟩ := Option.map_eq_some_iff.mp hw
    refine wpAny_getItem_heap (tupleKind_room_in1 hu) (key_of I.hok eb) dd hp ?_
    rw [hp2]
    exact h w' _ (I.tok _) rw'
/-- y in d -/
theorem d_in {Q : Value → Shared → Prop} (hu : A.units + 1 < cLine) (I : Inv X pins σ H s) (g : DGet H a y o) (ry : RelV y u) (h : ∀ s', Inv X pins σ H s' → Q (.bool o.isSome) s') :
    wpAny (model X.prog X.w) A (compareOp .In u (.ref a)) Q E s := by
  rcases g with ⟨kvs, k, e, ey, l⟩ | ⟨kvs, k, b, e, ey, eb, l⟩
  · subst ey
    obtain ⟨z, hd, vs, rel, dd⟩ := dk_rd I.hok e
    refine wpAny_in_of (kV_is ry) hd dd.mapOf ?_
    rw [← (rel.val k).isSome_eq, ← l]
    exact h _ (I.tok _)
  · subst ey
    cases (show u = Value.ref b from ry)
    obtain ⟨z, hd, xs, rel, dd⟩ := dt_rd I.hok e
    refine wpAny_in_heap (tupleKind_room_in1 hu) (key_of I.hok eb) hd dd ?_
    have q := (rel.val k).isSome_eq
    rw [Option.isSome_map] at q
    rw [← q, ← l]
    exact h _ (I.tok _)
/-- a dict's object is replaced -/
theorem d_write {h' : Heap} {t' : Nat} {ob : HO} (I : Inv X pins σ H s) (mu : Mut (H a)) (hs : Heap.SameBut a s.heap h') (he : ∃ q, h'.get? a = some q) (new : ObjOk X.prog X.w (upd H a ob) h' a ob) :
    Inv X pins σ (upd H a ob) { s with heap := h', toks := t' } :=
  I.write (x := a) (e := a) mu (.inl rfl) (fun b q hb z => (hs.2 b hb).trans z) he new
theorem dk_new {P : Program} {w : World} {H' : Hp} {h' : Heap} {kvs : List (Key × V)} {vs : List (Key × Value)} (z : kvs.length ≤ sizeLine) (hd : (a == sysModules) = false) (rel : KV kvs vs) (dd : h'.DictOf (mixKind P w) a vs) :
    ObjOk P w H' h' a (.dK kvs) := ⟨z, hd, vs, rel, dd⟩
/-- d[y] = v -/
theorem d_setItem {H' : Hp} {Q : Unit → Shared → Prop} (hu : A.units + 1 < cLine) (I : Inv X pins σ H s) (g : DPut H a y v H') (ry : RelV y u) (rv : RelV v r) (h : ∀ s', Inv X pins σ H' s' → Q () s') :
    wpAny (model X.prog X.w) A (setItem (.ref a) u r) Q E s := by
  rcases g with ⟨kvs, k, e, ey, l, eH⟩ | ⟨kvs, k, b, e, ey, eb, l, eH⟩
  · subst ey eH
    obtain ⟨z, hd, vs, rel, dd⟩ := dk_of I.hok e
    have hz : vs.length ≤ sizeLine := by rw [← rel.length]; exact z
    have hl : (putK kvs k v).length ≤ sizeLine := by have := length_putK kvs k v; omega
    refine wpAny_setItem_pairs (hsz := hz) (kV_is ry) dd fun h' dd' hs => h _ ?_
    have he : ∃ q, h'.get? a = some q := let ⟨q, _, _, hq, _⟩ := dd'; ⟨q, hq⟩
    exact d_write I (by rw [e]; exact True.intro) hs he (dk_new hl hd (rel.put k rv) dd')
  · subst ey eH
    cases (show u = Value.ref b from ry)
    obtain ⟨z, hd, xs, rel, dd⟩ := dt_of I.hok e
    have hz : xs.length ≤ sizeLine := by rw [← Paired.length rel]; exact z
    have hl : (putK kvs k v).length ≤ sizeLine := by have := length_putK kvs k v; omega
    refine wpAny_setItem_heap (hsz := hz) (tupleKind_room_in1 hu) (key_of I.hok eb) dd fun h' dd' hs => h _ ?_
    obtain ⟨q, es, ep, hq, h2, h3, h4, _, h5⟩ := dd'
    refine d_write I (by rw [e]; exact True.intro) hs ⟨q, hq⟩ ⟨hl, hd, _, (rel.put k eb rv).keeps fun c ys ec => ?_, q, es, ep, hq, h2, h3, h4, h5⟩
    rw [upd_ne (ne_of ec e (fun z => nomatch z))]
    exact ec
end

section
variable {X : Cx} {pins : List (Addr × Obj)} {σ : St} {H : Hp} {s : Shared} {a : Addr} {kvs : List (Key × V)} {k : Key} {u : Value} {A : Around} {E : Value → Shared → Prop}
end


/-! ### readings and rules -/
/-- the element of a subscription, not a slice -/
def NoSl (i : Expr) : Prop := ∀ ov iv, subscripted i false ov iv = operate [ov, iv] (getItem ov iv)
theorem subD_of {prog : Program} {w : World} {A : Around} {E : Value → Shared → Prop} {s : Shared} {env : Env} {value slice : Expr} {pos : Pos} {T id : String} {Q : Value → Shared → Prop}
    (hl : typeLookup (.type T) "__getitem__" = pure (some (.builtin id))) (hs : NoSl slice)
    (h : wpAny (model prog w) A (eval value env) (fun o s₁ => wpAny (model prog w) A (eval slice env) (fun i s₂ => s₂.TypeIs o T ∧ wpAny (model prog w) A (getItem o i) Q E s₂) E s₁) E s) :
    wpAny (model prog w) A (eval (.Subscript value slice pos) env) Q E s := by
  refine Subscript_ (wpAny_mono h (fun o s₁ h₁ => wpAny_mono h₁ (fun i s₂ h₂ => ?_) fun _ _ x => x) fun _ _ x => x)
  obtain ⟨hT, h₂⟩ := h₂
  unfold subscriptTail
  refine wpAny_bind ?_
  rw [getitemInPython_of_ne hT.not_modules]
  refine wpAny_bind (wpAny_specialOf hT hl ?_)
  have fin : wpAny (model prog w) A (subscripted slice false o i) (fun r s₃ => wpAny (model prog w) A (letTemporaryGo value o r >>= fun _ => pure r) Q E s₃) E s₂ := by
    rw [hs o i]
    exact wpAny_operating (wpAny_mono h₂ (fun r s₃ h₃ => wpAny_bind (wpAny_letTemporaryGo (wpAny_pure h₃))) fun _ _ x => x)
  first
    | exact wpAny_pure (wpAny_bind fin)
    | exact wpAny_bind (wpAny_pure (wpAny_bind fin))
    | exact wpAny_bind fin

theorem dict_typeIs {X : Cx} {pins : List (Addr × Obj)} {σ : St} {H : Hp} {s : Shared} {a : Addr} {y : V} {o : Option V} (I : Inv X pins σ H s) (g : DGet H a y o) : s.TypeIs (.ref a) "dict" := by
  rcases g with ⟨kvs, k, e, _, _⟩ | ⟨kvs, k, b, e, _, _, _⟩
  · obtain ⟨_, _, vs, _, dd⟩ := dk_rd I.hok e
    exact dd.typeIs
  · obtain ⟨_, _, xs, _, dd⟩ := dt_rd I.hok e
    exact dd.typeIs

/-- d[y] -/
def tDGet (td ty : TE) : TE := fun σ H Q => td σ H fun x H1 => ty σ H1 fun y H2 => ∃ a v, x = .ref a ∧ DGet H2 a y (some v) ∧ Q v H2
/-- y in d, y not in d -/
def tDIn (ty td : TE) : TE := fun σ H Q => ty σ H fun y H1 => td σ H1 fun x H2 => ∃ a o, x = .ref a ∧ DGet H2 a y o ∧ Q (.bl o.isSome) H2
/-- d[y] = v -/
def sDPut (td ty tv : TE) : TS := fun D σ H => tv σ H fun v H1 => td σ H1 fun x H2 => ty σ H2 fun y H3 => ∃ a H4, x = .ref a ∧ DPut H3 a y v H4 ∧ D.nx σ H4

section
variable {X : Cx} {o i e value : Expr} {pos pos' tpos : Pos} {td ty tv : TE}
theorem pe_dget (hu : X.A.units + 1 < cLine) (ho : PE X o td) (hi : PE X i ty) (hs : NoSl i) : PE X (.Subscript o i pos) (tDGet td ty) := by
  intro pins s σ H Q I h
  refine subD_of PySem.F.slot_dict_getitem.lookup hs (thn (ho pins s σ H _ I h) fun u s1 ⟨x, H1, I1, rx, q1⟩ => thn (hi pins s1 σ H1 _ I1 q1) fun iv s2 ⟨y, H2, I2, ry, a, v, ex, g, q2⟩ => ?_)
  subst ex
  obtain rfl : u = Value.ref a := rx
  exact ⟨dict_typeIs I2 g, d_getItem hu I2 g ry fun w' s3 I3 rw' => ⟨v, H2, I3, rw', q2⟩⟩
theorem pc_din (hu : X.A.units + 1 < cLine) (hi : PE X i ty) (ho : PE X o td) : PC X .In i o (tDIn ty td) := by
  intro pins s σ H Q I h
  refine thn (hi pins s σ H _ I h) fun iv s1 ⟨y, H1, I1, ry, q1⟩ => thn (ho pins s1 σ H1 _ I1 q1) fun u s2 ⟨x, H2, I2, rx, a, ov, ex, g, q2⟩ => ?_
  subst ex
  obtain rfl : u = Value.ref a := rx
  exact d_in hu I2 g ry fun s3 I3 => ⟨.bl ov.isSome, H2, I3, rfl, q2⟩
theorem ps_dput (hu : X.A.units + 1 < cLine) (ho : PE X o td) (hi : PE X i ty) (hv : PE X value tv) (hs : swapsWith value (some (.Subscript o i pos')) pos.line X.env = pure false) :
    PS X (.Assign [.Subscript o i pos'] value pos) (sDPut td ty tv) := by
  intro pins s σ H D I h
  refine wpAny_Assign_Subscript (thn (hv pins s σ H _ I h) fun r s1 ⟨v, H1, I1, rv, q1⟩ => thn (ho pins s1 σ H1 _ I1 q1) fun u s2 ⟨x, H2, I2, rx, q2⟩ => thn (hi pins s2 σ H2 _ I2 q2) fun iv s3 ⟨y, H3, I3, ry, a, H4, ex, g, q3⟩ => ?_) hs
  subst ex
  obtain rfl : u = Value.ref a := rx
  exact d_setItem hu I3 g ry rv fun s4 I4 => ⟨σ, H4, I4, q3⟩
end


/-! ### displays -/
theorem dt_empty {P : Program} {w : World} {H : Hp} (h : Heap) (hb : sysModules < h.objs.size) : ObjOk P w H (h.push { cls := .type "dict", data := .dict #[] }) h.objs.size (.dT []) :=
  ⟨Nat.zero_le _, beq_eq_false_iff_ne.mpr (Ne.symm (Nat.ne_of_lt hb)), [], .nil, _, #[], 0, Heap.get?_push_size _ rfl, ⟨rfl, rfl, rfl⟩, rfl, rfl, List.nodup_nil⟩
section
variable {X : Cx} {pos : Pos}
end




/-! ### methods -/


section
variable {X : Cx} {pins : List (Addr × Obj)} {σ : St} {H : Hp} {s : Shared} {a : Addr} {y d : V} {u r : Value} {o : Option V} {A : Around} {E : Value → Shared → Prop}
end

section
variable {X : Cx} {o e f : Expr} {apos cpos : Pos} {td ty tx : TE}
end

/-! ### dict(d): a copy -/
section
variable {X : Cx} {pins : List (Addr × Obj)} {σ : St} {H : Hp} {s : Shared} {a : Addr} {kvs : List (Key × V)} {A : Around} {E : Value → Shared → Prop}
end


section
variable {X : Cx} {pins : List (Addr × Obj)} {σ : St} {H : Hp} {s : Shared} {a : Addr} {y : V} {u : Value} {A : Around} {E : Value → Shared → Prop}
end
end L2

namespace L2
open PySem PySem.Spec PyProof.Rows


section
variable {prog : Program} {w : World} {A : Around} {E : Value → Shared → Prop}


end

section
variable {X : Cx}
end
end L2

namespace L2
open PySem PySem.Spec PyProof.Rows

theorem boot_reversed5 : bootBuiltins "reversed" = some (.type "reversed") := by decide +kernel

section
variable {X : Cx} {pins : List (Addr × Obj)} {σ : St} {H : Hp} {s : Shared} {h' : Heap}
/-- several records of ours have turned -/
theorem Inv.turnedL {t' : Nat} {ch : List Addr} (I : Inv X pins σ H s) (k : ∀ b o, b ∉ ch → s.heap.get? b = some o → h'.get? b = some o) (hf : ∀ b ∈ ch, FpOk X pins H b) : Inv X pins σ H { s with heap := h', toks := t' } := by
  have nit : ∀ b u, H b = some u → b ∉ ch := fun b u e z => by
    have q := (hf b z).1
    rw [q] at e; cases e
  refine I.step (g' := s.gens) (d' := s.drawn) (ch := ch) (fun b hb => ⟨(hf b hb).2.2.2.1, (hf b hb).2.1, (hf b hb).2.2.2.2.1, (hf b hb).2.2.2.2.2⟩) (fun b o _ _ hc e _ => k b o hc e) (fun b o _ _ hc e _ => ⟨o.slots, k b o hc e⟩)
    (fun _ _ _ _ n => n) (fun b o hc e => ⟨o, k b o hc e⟩) (fun _ _ e => e) (fun _ _ _ e => e) (fun b ps e => ⟨#[], by rw [e]; simp⟩) (fun m hm => ?_) (fun b u e => ?_) I.bare
  · obtain ⟨o, es, ep, ho, r⟩ := hm
    exact ⟨o, es, ep, k _ o (fun z => (hf _ z).2.1 rfl) ho, r⟩
  · refine (I.hok b u e).stay (fun c v hc q => k c v ?_ q) (fun _ q => q) fun _ _ q => q
    rcases hc with z | z
    · rw [z]; exact nit b u e
    · exact nit c _ z
/-- .. and one new object is laid -/
theorem Inv.turnedNew {t' : Nat} {ch : List Addr} {T : Addr} {ob : HO} (I : Inv X pins σ H s) (k : ∀ b o, b ∉ ch → s.heap.get? b = some o → h'.get? b = some o) (hf : ∀ b ∈ ch, FpOk X pins H b) (hT : s.heap.objs.size ≤ T)
    (new : ObjOk X.prog X.w (upd H T ob) h' T ob) : Inv X pins σ (upd H T ob) { s with heap := h', toks := t' } := by
  have hn : H T = none := I.hok.fresh hT
  have nit : ∀ b u, H b = some u → b ∉ ch := fun b u e z => by
    have q := (hf b z).1
    rw [q] at e; cases e
  refine I.step (g' := s.gens) (d' := s.drawn) (ch := ch) (fun b hb => ⟨(hf b hb).2.2.2.1, (hf b hb).2.1, (hf b hb).2.2.2.2.1, (hf b hb).2.2.2.2.2⟩) (fun b o _ _ hc e _ => k b o hc e) (fun b o _ _ hc e _ => ⟨o.slots, k b o hc e⟩)
    (fun b o _ e n => ?_) (fun b o hc e => ⟨o, k b o hc e⟩) (fun b xs e => ?_) (fun b o u e => ?_) (fun b ps e => ⟨#[], ?_⟩) (fun m hm => ?_) (fun b u e => ?_) I.bare
  · rw [upd_ne (Nat.ne_of_lt (Nat.lt_of_lt_of_le (Heap.lt_size e) hT))]; exact n
  · rw [upd_ne (ne_of_none e hn)]; exact e
  · rw [upd_ne (ne_of_none e hn)]; exact e
  · rw [upd_ne (ne_of_none e hn), e]; simp
  · obtain ⟨o, es, ep, ho, r⟩ := hm
    exact ⟨o, es, ep, k _ o (fun z => (hf _ z).2.1 rfl) ho, r⟩
  · by_cases hb : b = T
    · subst hb
      rw [upd_same] at e
      cases e
      exact new
    · rw [upd_ne hb] at e
      refine (I.hok b u e).stay (fun c v hc q => k c v ?_ q) (fun c q => by rw [upd_ne (ne_of_none q hn)]; exact q) fun c xs q => by rw [upd_ne (ne_of_none q hn)]; exact q
      rcases hc with z | z
      · rw [z]; exact nit b u e
      · exact nit c _ z

/-! ### locking a thing while a statement runs -/
theorem Inv.lock {d : Addr} {u : HO} (I : Inv X pins σ H s) (h : H d = some u) (mu : Mut (some u)) : ∃ od, Inv X pins σ (upd H d (.frz od u)) s := by
  have x := I.hok d u h
  have ex : ∃ od, s.heap.get? d = some od := by
    cases u with
    | lst xs => obtain ⟨_, _, _, _, e⟩ := x; exact ⟨_, e⟩
    | dK kvs => obtain ⟨_, _, _, _, o, _, _, e, _⟩ := x; exact ⟨o, e⟩
    | dT kvs => obtain ⟨_, _, _, _, o, _, _, e, _⟩ := x; exact ⟨o, e⟩
    | set S n => obtain ⟨o, _, _, _, e, _⟩ := x; exact ⟨o, e⟩
    | ins C dx fs => obtain ⟨_, _, _, e, _⟩ := x; exact ⟨_, e⟩
    | ext φ => obtain ⟨_, ⟨_, e⟩, _⟩ := x; exact ⟨_, e⟩
    | _ => exact False.elim mu
  obtain ⟨od, e⟩ := ex
  have new : ObjOk X.prog X.w (upd H d (.frz od u)) s.heap d (.frz od u) := by
    refine ⟨e, x.stay (fun b v _ q => q) (fun b q => ?_) fun b xs q => ?_⟩
    · rw [upd_ne (fun z => by rw [z, h] at q; cases q; exact mu)]; exact q
    · rw [upd_ne (fun z => by rw [z, h] at q; cases q; exact mu)]; exact q
  exact ⟨od, I.write (x := d) (e := d) (t' := s.toks) (h' := s.heap) (by rw [h]; exact mu) (.inl rfl) (fun b v _ q => q) ⟨od, e⟩ new⟩
theorem Inv.nofrz {d : Addr} {u : HO} (I : Inv X pins σ H s) (h : H d = some u) (mu : Mut (some u)) : ∀ o' u', X.H_0 d ≠ some (.frz o' u') := fun o' u' e => by
  have q := I.base.frzs d o' u' e
  rw [h] at q
  cases q
  exact mu
theorem Inv.unlock {d : Addr} {od : Obj} {u : HO} (I : Inv X pins σ H s) (h : H d = some (.frz od u)) (hn : ∀ o' u', X.H_0 d ≠ some (.frz o' u')) : Inv X pins σ (upd H d u) s := by
  have neH : ∀ b o, H b = some o → (∀ o' u', o ≠ .frz o' u') → b ≠ d := fun b o e hne z => by
    rw [z, h] at e
    cases e
    exact hne _ _ rfl
  have neN : ∀ b, H b = none → b ≠ d := fun b e z => by rw [z, h] at e; cases e
  refine ⟨I.ok, I.os, I.bare, ⟨I.base.keep, I.base.slot, fun b o e n hx => ?_, I.base.there, fun b xs e => ?_, fun b o x e => ?_, fun b ps e => ?_⟩, I.loc, I.cell, ?_, fun x c e => ?_, fun p hp => ?_, fun b o e => ?_, I.len⟩
  · rw [upd_ne (neN b (I.base.free b o e n hx))]; exact I.base.free b o e n hx
  · have q := I.base.tups b xs e
    rw [upd_ne (neH b _ q (fun _ _ z => nomatch z))]; exact q
  · have q := I.base.frzs b o x e
    rw [upd_ne (fun z => by rw [z] at e; exact hn _ _ e)]; exact q
  · obtain ⟨m, q⟩ := I.base.tbls b ps e
    exact ⟨m, by rw [upd_ne (neH b _ q (fun _ _ z => nomatch z))]; exact q⟩
  · rw [upd_ne (neN _ I.free)]; exact I.free
  · rw [upd_ne (neN c (I.freeC x c e))]; exact I.freeC x c e
  · obtain ⟨e, n, r⟩ := I.pin p hp
    exact ⟨e, by rw [upd_ne (neN _ n)]; exact n, r⟩
  · by_cases hb : b = d
    · rw [hb, upd_same] at e
      cases e
      rw [hb]
      obtain ⟨_, x⟩ := I.hok d _ h
      exact x.stay (fun c v _ q => q) (fun c q => by rw [upd_ne (neH c _ q (fun _ _ z => nomatch z))]; exact q) fun c xs q => by rw [upd_ne (neH c _ q (fun _ _ z => nomatch z))]; exact q
    · rw [upd_ne hb] at e
      exact (I.hok b o e).stay (fun c v _ q => q) (fun c q => by rw [upd_ne (neH c _ q (fun _ _ z => nomatch z))]; exact q) fun c xs q => by rw [upd_ne (neH c _ q (fun _ _ z => nomatch z))]; exact q
end
def tLockE (t : TE) : TE := fun σ H Q => ∃ d u, H d = some u ∧ Mut (some u) ∧ ∀ od, t σ (upd H d (.frz od u)) fun v H' => H' d = some (.frz od u) ∧ Q v (upd H' d u)
section
variable {X : Cx}
theorem pe_lock {e : Expr} {t : TE} (h : PE X e t) : PE X e (tLockE t) := by
  intro pins s σ H Q I hw
  obtain ⟨d, u, hd, mu, hw⟩ := hw
  obtain ⟨od, I1⟩ := I.lock hd mu
  refine thn (h pins s σ _ _ I1 (hw od)) fun v s1 ⟨x, H1, I2, r, e2, q⟩ => ?_
  exact ⟨x, _, I2.unlock e2 (I.nofrz hd mu), r, q⟩

/-! ### one iterator just laid -/
theorem pi_one {tg : Expr} {pins : List (Addr × Obj)} {σ : St} {H : Hp} {s : Shared} {R : It → Hp → Prop} {J : It} {tn : Nat → Heap → Prop} {tk : Nat} (I : Inv X pins σ H s) (o : Obj)
    (T : Turn X.prog X.w X.K tg J [s.heap.objs.size] s.heap.objs.size tn) (st : tn 0 (s.heap.push o)) (q : R J H) : PIE X pins σ tg R (.ref s.heap.objs.size) { s with heap := s.heap.push o, toks := tk } := by
  refine ⟨s.heap.objs.size, [s.heap.objs.size], tn, J, H, rfl, I.kept fun b ob e => Heap.get?_push_of_some _ e, T, st, fun b hb => ?_, q⟩
  have e : b = s.heap.objs.size := by simpa using hb
  subst e
  exact I.fpOk (Nat.le_refl _) (I.hok.fresh (Nat.le_refl _))
end

/-! ### range with a step -/
section
variable {X : Cx} {tg : Expr}
end

/-! ### reversed(list) -/
/-- the list at a (n items at the start, which the loop leaves there), from its end -/
def Itv (K : PySem.W.Frag) (a : Addr) (n : Nat) : It :=
  ⟨fun i H => i < n ∧ ∃ (xs : List V) (x : V), SqL K H a xs ∧ xs[n - 1 - i]? = some x, fun i H x H' => H' = H ∧ ∀ xs, SqL K H a xs → xs[n - 1 - i]? = some x, fun i _ => n ≤ i⟩
theorem turn_rev {P : Program} {w : World} {K : PySem.W.Frag} {tg : Expr} (a it : Addr) (n : Nat) : Turn P w K tg (Itv K a n) [it] it (fun i h => i ≤ n ∧ h.IsRevIter it a ((n : Int) - 1 - (i : Nat))) where
  mem := by simp
  obj := fun i h st b hb => by
    have e : b = it := by simpa using hb
    subst e
    obtain ⟨_, o, e, c, d⟩ := st
    exact ⟨o, e, fun v z => by rw [d] at z; cases z⟩
  keep := fun i h h' st k => ⟨st.1, st.2.at fun o e => k it (by simp) o e⟩
  item := by
    intro X hP hw hK hc i pins s σ H E I hf st hg
    subst hP hw hK
    obtain ⟨hin, xs, x, hq, hx⟩ := hg
    obtain ⟨its, rv, p, hz⟩ := I.list hq
    obtain ⟨u, hu, ru⟩ := rv.get hx
    obtain ⟨f0, f1, f2, f3, f4, f5⟩ := hf it (by simp)
    obtain ⟨_, hit⟩ := st
    have e1 : (n : Int) - 1 - ((i : Nat) : Int) = ((n - 1 - i : Nat) : Int) := by omega
    rw [e1] at hit
    refine wpAny_pyNext_rev_item hit p.isList (x := u) (by simpa using hu) fun h' st' sb => ?_
    have e2 : ((n - 1 - i : Nat) : Int) - 1 = (n : Int) - 1 - ((i + 1 : Nat) : Int) := by omega
    rw [e2] at st'
    have I1 : Inv X pins σ H { s with heap := h' } := I.turned (t' := s.toks) (fun b o hb e => (sb.2 b hb).trans e) f0 f1 f3 f4 f5
    obtain ⟨o, e, c, d⟩ := id st'
    exact ⟨u, rfl, go_of (s := { s with heap := h' }) e c d (by decide) ⟨x, H, I1, ru, ⟨rfl, fun ys hy => by rw [I.list_inj hy hq]; exact hx⟩, ⟨hin, st'⟩, fun b hb => (hf b hb).1⟩⟩
  done := by
    intro X hP hw hK hc i pins s σ H E I hf st hg
    subst hP hw hK
    obtain ⟨f0, f1, f2, f3, f4, f5⟩ := hf it (by simp)
    obtain ⟨hin, hit⟩ := st
    have hge : n ≤ i := hg
    have e1 : (n : Int) - 1 - ((i : Nat) : Int) = -1 := by omega
    rw [e1] at hit
    exact wpAny_pyNext_rev_end (I.ok.hd hc) hit fun h' eb => ⟨rfl, I.turned (t' := s.toks) (fun b o hb e => eb b o hb e) f0 f1 f3 f4 f5⟩
  self := fun A i s Q E st h => wpAny_pyIter_revIter st.2 h
def iRev (K : PySem.W.Frag) (ta : TA) : TI := fun σ H R => ta σ H fun vs H1 => ∃ (a : Addr) (xs : List V), vs = [.ref a] ∧ SqL K H1 a xs ∧ R (Itv K a xs.length) H1
section
variable {X : Cx} {tg : Expr}
theorem pi_reversed {e : Expr} {ta : TA} {p pos : Pos} (hg : Gl X "reversed") (hm : X.mg "reversed" = none) (ha : PA X [e] ta) (hs : starEach [e] X.env = [(false, eval e X.env)] := by rfl) : PI X tg (.Call (.Name "reversed" p) [e] [] pos) (iRev X.K ta) := by
  intro pins s σ H R I h
  refine Call_ (ld_blt I hg hm boot_reversed5 (PyProof.Rows.callWith_type1 (thn (ha pos pins s σ H _ I h) fun us s1 ⟨vs, H1, I1, r1, q1⟩ => ?_) hs rfl))
  obtain ⟨a, xs, e, hq, q⟩ := q1
  subst e
  cases r1 with
  | cons r rr =>
    cases rr
    cases r
    obtain ⟨its, rv, p', hz⟩ := I1.list hq
    have hl := rv.length
    have e1 : ((its.toArray.size : Nat) : Int) - 1 = (xs.length : Int) - 1 - ((0 : Nat) : Int) := by simp only [List.size_toArray]; omega
    refine call_reversed_list p'.isList (wpAny_pyIter_revIter (l := a) (i := ((its.toArray.size : Nat) : Int) - 1) ⟨_, Heap.get?_push_size _ rfl, rfl, rfl⟩ ?_)
    refine pi_one (tk := s1.toks) I1 _ (turn_rev a _ xs.length) ⟨Nat.zero_le _, ?_⟩ q
    rw [← e1]
    exact ⟨_, Heap.get?_push_size _ rfl, rfl, rfl⟩
end

/-! ### a str -/

/-! ### a dict's keys: any dict's entries -/
section
variable {prog : Program} {w : World} {A : Around} {E : Value → Shared → Prop} {s : Shared}
end

/-! ### a locked dict -/
section
variable {X : Cx} {pins : List (Addr × Obj)} {σ : St} {H : Hp} {s : Shared} {d : Addr} {o : Obj}
end

section
variable {P : Program} {w : World} {K : PySem.W.Frag} {tg : Expr} {d : Addr} {o : Obj} {es : Array DictEntry} {ep : Nat}
end

/-! ### for k in d, d.keys(), d.values(), d.items() -/
section
variable {X : Cx} {tg e : Expr} {td : TE} {apos cpos : Pos}
end

/-! ### enumerate(list) -/
/-- the list at a as it stands at each turn, each item in a new pair -/
def Ite (K : PySem.W.Frag) (a : Addr) : It :=
  ⟨fun i H => ∃ (xs : List V) (x : V), SqL K H a xs ∧ xs[i]? = some x, fun i H v H' => ∃ T x, v = .ref T ∧ H T = none ∧ H' = upd H T (.tup [.int (i : Nat), x]) ∧ ∀ xs, SqL K H a xs → xs[i]? = some x, fun i H => ∃ xs : List V, SqL K H a xs ∧ xs.length ≤ i⟩
theorem turn_enum {P : Program} {w : World} {K : PySem.W.Frag} {elts : List Expr} {kk : Nat} {tpos : Pos} (a e it : Addr) :
    Turn P w K (.Tuple elts kk tpos) (Ite K a) [e, it] e (fun i h => (∃ old, IsEnum h e it ((i : Nat) : Int) old) ∧ h.IsListIter it a i ∧ e ≠ it) where
  mem := by simp
  obj := fun i h st b hb => by
    obtain ⟨⟨old, he⟩, ⟨o, ho, hc, hd⟩, _⟩ := st
    have e' : b = e ∨ b = it := by simpa using hb
    rcases e' with z | z
    · rw [z]; exact ⟨_, he, fun v q => nomatch q⟩
    · rw [z]; exact ⟨o, ho, fun v q => by rw [hd] at q; cases q⟩
  keep := fun i h h' st k => let ⟨⟨old, he⟩, hi, hne⟩ := st; ⟨⟨old, k e (by simp) _ he⟩, hi.at fun o q => k it (by simp) o q, hne⟩
  item := by
    intro X hP hw hK hc i pins s σ H E I hf st hg
    subst hP hw hK
    obtain ⟨⟨old, he⟩, hit, hne⟩ := st
    obtain ⟨xs, x, hq, hx⟩ := hg
    obtain ⟨its, rv, p, hz⟩ := I.list hq
    obtain ⟨u, hu, ru⟩ := rv.get hx
    have hel : e < s.heap.objs.size := Heap.lt_size he
    have hil : it < s.heap.objs.size := by obtain ⟨_, q, _⟩ := hit; exact Heap.lt_size q
    refine wpAny_pyNext_enum_item he hit p.isList (x := u) (by simpa using hu) hne fun h' ho hit' hT hsz hk => ?_
    refine ⟨_, rfl, wpAny_letOwnedTupleGo_enum (s := { s with heap := h', toks := s.toks + 1 }) ho fun h'' he' sb => ?_⟩
    have hT2 : h''.get? s.heap.objs.size = some { cls := .type "tuple", data := .seq #[.int i s.toks, u] } := (sb.2 _ (Nat.ne_of_gt hel)).trans hT
    have new : ObjOk X.prog X.w (upd H s.heap.objs.size (.tup [.int (i : Nat), x])) h'' s.heap.objs.size (.tup [.int (i : Nat), x]) :=
      ⟨by show 2 ≤ sizeLine; decide, [.int i s.toks, u], .cons ⟨_, rfl⟩ (.cons ru .nil), ⟨_, hT2, rfl, _, rfl⟩⟩
    have I1 : Inv X pins σ (upd H s.heap.objs.size (.tup [.int (i : Nat), x])) { s with heap := h'', toks := s.toks + 1 } :=
      I.turnedNew (ch := [e, it]) (fun b ob hb q => (sb.2 b (fun z => hb (by simp [z]))).trans (hk b ob (fun z => hb (by simp [z])) (fun z => hb (by simp [z])) q)) hf (Nat.le_refl _) new
    refine ⟨.ref s.heap.objs.size, _, I1, rfl, ⟨_, x, rfl, I.hok.fresh (Nat.le_refl _), rfl, fun ys hy => by rw [I.list_inj hy hq]; exact hx⟩, ⟨⟨u, ?_⟩, hit'.at fun o q => (sb.2 it (Ne.symm hne)).trans q, hne⟩, fun b hb => ?_⟩
    · have e1 : ((i + 1 : Nat) : Int) = (i : Int) + 1 := by omega
      rw [e1]; exact he'
    · have hb' : b < s.heap.objs.size := by
        have e' : b = e ∨ b = it := by simpa using hb
        rcases e' with z | z
        · rw [z]; exact hel
        · rw [z]; exact hil
      rw [upd_ne (Nat.ne_of_lt hb')]
      exact (hf b hb).1
  done := by
    intro X hP hw hK hc i pins s σ H E I hf st hg
    subst hP hw hK
    obtain ⟨⟨old, he⟩, hit, hne⟩ := st
    obtain ⟨xs, hq, hx⟩ := hg
    obtain ⟨its, rv, p, hz⟩ := I.list hq
    obtain ⟨f0, f1, f2, f3, f4, f5⟩ := hf it (by simp)
    have hl := rv.length
    exact wpAny_pyNext_enum_end (I.ok.hd hc) he hit p.isList (by simp; omega) fun h' eb => ⟨rfl, I.turned (t' := s.toks) (fun b o hb q => eb b o hb q) f0 f1 f3 f4 f5⟩
  self := fun A i s Q E st h => let ⟨⟨_, he⟩, _⟩ := st; wpAny_pyIter_enum he h
def iEnum (K : PySem.W.Frag) (ta : TA) : TI := fun σ H R => ta σ H fun vs H1 => ∃ a xs, vs = [.ref a] ∧ SqL K H1 a xs ∧ R (Ite K a) H1
theorem pi_enum {X : Cx} {e : Expr} {ta : TA} {p pos tpos : Pos} {elts : List Expr} {kk : Nat} (hg : Gl X "enumerate") (hm : X.mg "enumerate" = none) (ha : PA X [e] ta) (hs : starEach [e] X.env = [(false, eval e X.env)] := by rfl) :
    PI X (.Tuple elts kk tpos) (.Call (.Name "enumerate" p) [e] [] pos) (iEnum X.K ta) := by
  intro pins s σ H R I h
  refine Call_ (ld_blt I hg hm boot_enumerate (PyProof.Rows.callWith_type1 (thn (ha pos pins s σ H _ I h) fun us s1 ⟨vs, H1, I1, r1, q1⟩ => ?_) hs rfl))
  obtain ⟨a, xs, ex, hq, q⟩ := q1
  subst ex
  cases r1 with
  | cons r rr =>
    cases rr
    cases r
    obtain ⟨its, rv, p', hz⟩ := I1.list hq
    refine call_enumerate_list p'.isList fun h' he hit hsz hk => wpAny_pyIter_enum he ?_
    have I2 : Inv X pins σ H1 { s1 with heap := h' } := I1.kept (t' := s1.toks) hk
    refine ⟨s1.heap.objs.size + 1, [s1.heap.objs.size + 1, s1.heap.objs.size], _, _, H1, rfl, I2, turn_enum a (s1.heap.objs.size + 1) s1.heap.objs.size, ⟨⟨.none, he⟩, hit, Nat.succ_ne_self _⟩, fun b hb => ?_, q⟩
    have e' : b = s1.heap.objs.size + 1 ∨ b = s1.heap.objs.size := by simpa using hb
    have hle : s1.heap.objs.size ≤ b := by
      rcases e' with z | z
      · rw [z]; exact Nat.le_add_right _ _
      · rw [z]; exact Nat.le_refl _
    exact I1.fpOk hle (I1.hok.fresh hle)
/-! ### zip(list, list) -/
theorem boot_zip5 : bootBuiltins "zip" = some (.type "zip") := by decide +kernel
end L2

section 
namespace Bits
open PySem PyProof.Rows








end Bits
end 

section 
namespace TL
open PySem PySem.Builtin PySem.Builtin.Str PySem.StrLaws


/-! ### the list functions -/




/-! ### the model's split and partition are these -/




/-! ### computing spl and par -/


/-! ### digits -/

/-! ### words: x.split() -/
end TL
end 

namespace L2
open PySem PySem.Spec PyProof.Rows




section
variable {X : Cx} {pins : List (Addr × Obj)} {σ : St} {H : Hp} {s : Shared} {Q : VK}
end

section
variable {X : Cx}





/-! ### of a text alone -/

/-! ### of a text and a text -/

end

section
variable {X : Cx} {o e : Expr} {to te : TE}

end
end L2

namespace L2
open PySem PySem.Spec PyProof.Rows

section
variable {X : Cx}
end

/-! ### slices of a text -/


end L2

namespace Att
open PySem PySem.W PySem.Calls PyProof.Rows

/-! ### the script -/



/-! ### the attachment: holds_open's last premise (the goal 'hc' behind k_head) from a wpAny of the law's body -/



/-! ### rules over ANY heap (no ledger) from facts about the written part K: the library's own take a ledger (News) for what they write -/
section
variable {prog : Program} {w : World} {A : Around} {E : Value → Shared → Prop} {s : Shared} {K : Frag}





/-! the whole heap as the ledger: makes every rule that writes through a ledger a rule over any heap -/

end
end Att

namespace L2
open PySem PySem.Spec PyProof.Rows



end L2

namespace L2
open PySem PySem.Spec PyProof.Rows


end L2

/- THE LAST THEOREM (shape; LID, My.* are yours):
   My.Adr: a structure of the addresses that your layer names (classes, functions); My.Txt K t: a structure (Prop) of the equations over K;
   My.txt_mk : {K} {implicit addresses ..} (e1 : nsIn K mainGlobals "law" = some (some (.ref f))) (e2 : K.lookup f = some ⟨oc, od, .func (fnOf "law" "law" params body scope dV kV doc pm an cdv ct), sl⟩) (e3 : codeIn K cdv "law" = true) .. : ∃ t, My.Txt K t

set_option maxRecDepth 100000 in
set_option maxHeartbeats 0 in
theorem PySem.Challenge.cw_LID_holds : PySem.Challenge.rw_LID.Holds := by
  w_on; o_law; k_head; (case hw => w_witness2)
  k_fill
  refine L2.walk_of (l := PySem.Challenge.rw_LID) (n := 63) (k := 40) (x := "script") (CX := fun w => ..) (sp := fun _ => My.sp_law) rfl (by decide) rfl ⟨rfl, by decide, by decide⟩ (fun w h Y => PySem.W.kIn_of Y) ?F ?S ?C
  case F =>
    intro w mg fa h KX G hmg
    have T : ∃ t, My.Txt (L2.KOf KX) t := by
      dsimp only [L2.KOf]                          -- K must stand as «<heap const> w.params» for k_is
      refine' My.txt_mk ?e1 ?e2 ?e3 ..
      (case e1 => PySem.W.k_is)                    -- in the order: a name -> its address -> its object -> its parts
      (case e2 => PySem.W.k_is)
      ..
    obtain ⟨t, T⟩ := T
    have e0 := hmg.symm.trans (PySem.W.mg_of KX G T.law)
    cases e0                                       -- fa is the law's own address
    exact ⟨_, fun s u => .of_eq rfl, fun base kb nb => My.law_fn T kb nb⟩     -- if «.of_eq rfl» comes too early: refine' ⟨_, ?b, fun base kb nb => My.law_fn T kb nb⟩; exact fun s u => .of_eq rfl
  case S => exact fun w H a ns hl hO hS => ..
  case C => exact ..
(the tactic k_is has no namespace: write k_is) -/

/-! SHORT WORDS over the layer: a def of the text, its body, what a loop and a test want. -/
namespace L2
open PySem PySem.Spec PyProof.Rows

/-! ### the text by places -/
/-- the j-th statement of a class's body -/
def inClass (s : Stmt) (j : Nat) : Stmt := match s with
  | .ClassDef _ _ _ body _ _ _ _ _ _ _ => body.getD j (.Pass ⟨0, 0, 0, 0⟩)
  | _ => .Pass ⟨0, 0, 0, 0⟩
def defArgs (s : Stmt) : Arguments := match s with
  | .FunctionDef _ a _ _ _ _ _ _ _ _ => a
  | _ => { posonlyargs := [], args := [], vararg := none, kwonlyargs := [], kw_defaults := [], kwarg := none, defaults := [] }
def defBody (s : Stmt) : List Stmt := match s with
  | .FunctionDef _ _ b _ _ _ _ _ _ _ => b
  | _ => []
def defScope (s : Stmt) : Scope := match s with
  | .FunctionDef _ _ _ _ _ _ sc _ _ _ => sc
  | _ => { kind := .function, names := [], isGenerator := false, isCoroutine := false }

/-! ### no exception leaves a def -/
abbrev CX0 : CXT := fun _ _ _ _ _ _ => False
abbrev E0 : XK := fun _ _ _ => False
theorem pass0 {X : Cx} : Passes CX0 X E0 := fun _ _ _ _ _ _ _ h => h.elim

/-! ### a def (or method) of the text as it stands behind the top -/
structure Fun (K : PySem.W.Frag) (x qual : Str) (st : Stmt) (f : Addr) (fd : FuncData) : Prop where
  ex : ∃ (oc : Value) (od : Option Addr) (kV doc pm : Value) (an : Option Addr) (cdv ct : Value) (osl : Array (Option Value)),
    fd = PySem.W.fnOf x qual (defArgs st) (defBody st) (defScope st) .none kV doc pm an cdv ct ∧ K.lookup f = some ⟨oc, od, .func fd, osl⟩ ∧ PySem.W.codeIn K cdv qual = true
  kp : PySem.W.keepIn K (.ref f) = true
section
variable {P : Program} {w : World} {K : PySem.W.Frag} {mg : Str → Option Value} {base : Heap}
/-- THE RULE for a def: its body as a term of rules, and the reading of that term -/
theorem Fun.ok {x qual : Str} {st : Stmt} {f : Addr} {fd : FuncData} {N ps : List Str} {k : Nat} {sp : Sp} (F : Fun K x qual st f fd) (S : FnScope N ps (defScope st)) (len : ∀ vs H Q E, sp vs H Q E → vs.length = ps.length)
    (hbody : ∀ (cdv : Value) (A : Around) (outer : List Env) (s : Shared) (H : Hp) (vs : List V) (Q : VK) (E : XK), Room k (A.deeper (envOfC qual (defScope st) s.heap.objs.size f cdv)) → sp vs H Q E →
      ∃ t, PSs (cxOf CX0 P w K mg base N qual (defScope st) f cdv A outer s H E).nox (defBody st) t ∧ t { nx := fun _ H' => Q .non H', rt := Q } (start N vs) H) : FnOk P w K mg base CX0 (k + 1) f fd ps sp := by
  obtain ⟨oc, od, kV, doc, pm, an, cdv, ct, osl, rfl, lk, hcd⟩ := F.ex
  refine fn_of lk hcd S len fun A outer s H vs Q E hr hsp => ?_
  obtain ⟨t, h, q⟩ := hbody cdv A outer s H vs Q E hr hsp
  exact ⟨t, h.nox, q⟩
/-- how its arguments bind (no defaults): h is «fun _ _ _ _ _ _ us hl => match us, hl with | [_, _], _ => rfl», one _ a parameter -/
theorem Fun.binds {x qual : Str} {st : Stmt} {f : Addr} {fd : FuncData} {ps : List Str} (F : Fun K x qual st f fd)
    (h : ∀ (kV doc pm : Value) (an : Option Addr) (cdv ct : Value) (us : List Value), us.length = ps.length → bindArgs (PySem.W.fnOf x qual (defArgs st) (defBody st) (defScope st) .none kV doc pm an cdv ct) ⟨us, []⟩ = pure (ps.zip us)) : Binds K fd ps [] := by
  obtain ⟨oc, od, kV, doc, pm, an, cdv, ct, osl, rfl, lk, hcd⟩ := F.ex
  exact .all (h kV doc pm an cdv ct)
theorem fun_mk {x qual : Str} {st : Stmt} {f : Addr} {oc : Value} {od an : Option Addr} {osl : Array (Option Value)} {kV doc pm cdv ct : Value} (l : K.lookup f = some ⟨oc, od, .func (PySem.W.fnOf x qual (defArgs st) (defBody st) (defScope st) .none kV doc pm an cdv ct), osl⟩)
    (c : PySem.W.codeIn K cdv qual = true) (k : PySem.W.keepIn K (.ref f) = true) : Fun K x qual st f (PySem.W.fnOf x qual (defArgs st) (defBody st) (defScope st) .none kV doc pm an cdv ct) := ⟨⟨oc, od, kV, doc, pm, an, cdv, ct, osl, rfl, l, c⟩, k⟩
end
theorem hu_of {A : Around} {k : Nat} (hr : Room k A) : A.units + 1 < cLine := Nat.lt_of_le_of_lt (Nat.add_le_add_left (by decide : 1 ≤ 64) _) hr.units
theorem small1000 {n : Nat} (h : n ≤ 1000) : n < sizeLine := Nat.lt_of_le_of_lt h (by decide)

/-! ### expressions in short: the name that stands in the i-th slot -/
section
variable {X : Cx}
theorem pv (i : Nat) {x : Str} {pos : Pos} (hN : X.N[i]? = some x := by rfl) (hv : Vis X.env.scope x := by first | exact Or.inl rfl | exact Or.inr (Or.inl rfl) | exact Or.inr (Or.inr rfl)) (hd : (x == ("__debug__" : Str)) = false := by decide)
    (hcd : (x == ("__classdict__" : Str)) = false := by decide) : PE X (.Name x pos) (tVar i) := pe_var hN hv hd hcd
end

/-! ### tests -/
theorem iteF {A B : Prop} (h : B) : if false = true then A else B := by
  rw [if_neg Bool.false_ne_true]
  exact h
theorem iteT {A B : Prop} (h : A) : if true = true then A else B := by
  rw [if_pos rfl]
  exact h
theorem ite2 {c A B : Prop} [Decidable c] (h1 : c → A) (h2 : ¬ c → B) : if c then A else B := by
  by_cases h : c
  · rw [if_pos h]
    exact h1 h
  · rw [if_neg h]
    exact h2 h

/-! ### heaps -/
/-- all that was tracked is as it was -/
def Same (H H' : Hp) : Prop := ∀ b o, H b = some o → H' b = some o
theorem Same.refl (H : Hp) : Same H H := fun _ _ h => h
theorem Same.trans {H H1 H2 : Hp} (a : Same H H1) (b : Same H1 H2) : Same H H2 := fun c o h => b c o (a c o h)
theorem Same.free {H H' : Hp} (e : Same H H') {l : Addr} (h : H' l = Option.none) : H l = Option.none := by
  cases q : H l with
  | none => rfl
  | some o =>
    rw [e l o q] at h
    cases h
theorem Same.seq {K : PySem.W.Frag} {H H' : Hp} {a : Addr} {xs : List V} (e : Same H H') (h : SqL K H a xs) : SqL K H' a xs := by
  rcases h with (h | ⟨o, h⟩) | h
  · exact .inl (.inl (e _ _ h))
  · exact .inl (.inr ⟨o, e _ _ h⟩)
  · exact .inr h

/-! ### a dict's pairs: keys that differ -/
section
variable {κ : Type} [DecidableEq κ]
theorem nd_snoc : ∀ {l : List κ} {k : κ}, l.Nodup → ¬ k ∈ l → (l ++ [k]).Nodup
  | [], k, _, _ => by simp
  | a :: r, k, h, hk => by
    obtain ⟨h1, h2⟩ := List.nodup_cons.mp h
    show (a :: (r ++ [k])).Nodup
    refine List.nodup_cons.mpr ⟨fun m => ?_, nd_snoc h2 fun m => hk (List.mem_cons.mpr (Or.inr m))⟩
    rcases List.mem_append.mp m with q | q
    · exact h1 q
    · exact hk (List.mem_cons.mpr (Or.inl (List.mem_singleton.mp q).symm))
end
/-! ### lists -/
theorem at_of {xs : List V} {z : Int} {j : Nat} {v : V} (e : z = (j : Int)) (h : xs[j]? = some v) : atI xs z = some v := by
  rw [e]
  exact atI_nat h
/-- a new instance and its __init__ leave all that was tracked as it was -/
theorem Same.made {H H1 : Hp} {x dx C : Addr} (nx : H x = Option.none) (nd : H dx = Option.none) (k : ∀ b o, (upd (upd H dx (.own x)) x (.ins C dx [])) b = some o → b ≠ x → H1 b = some o) : Same H H1 := fun b o e =>
  k b o (by rw [upd_ne (ne_of_none e nx), upd_ne (ne_of_none e nd)]; exact e) (ne_of_none e nx)
end L2
end
section
set_option Elab.async false
set_option linter.all false
set_option maxRecDepth 100000
set_option maxHeartbeats 4000000
namespace SR
open PySem PySem.Spec PyProof.Rows L2

/-! ### iterators that go up a list or (tp) a tuple -/
abbrev goerOf (tp : Bool) : String := match tp with
  | true => "tuple_iterator"
  | false => "list_iterator"
/-- an iterator stands at g, over what lies at l; n of its items are out -/
def Goer (tp : Bool) (h : Heap) (g l : Addr) (n : Nat) : Prop := ∃ ob, h.get? g = some ob ∧ ob.cls = .type (goerOf tp) ∧ ob.data = .fields #[.ref l, .int n 0]
/-- a list or a tuple with these items lies at l -/
def Lies (h : Heap) (l : Addr) (vs : List Value) : Prop := ∃ ob k, h.get? l = some ob ∧ ob.data = .seq vs.toArray k
theorem Goer.over {tp : Bool} {h h' : Heap} {g l : Addr} {n : Nat} (x : Goer tp h g l n) (k : ∀ ob, h.get? g = some ob → h'.get? g = some ob) : Goer tp h' g l n :=
  let ⟨ob, e, r⟩ := x; ⟨ob, k ob e, r⟩
theorem Lies.over {h h' : Heap} {l : Addr} {vs : List Value} (x : Lies h l vs) (k : ∀ ob, h.get? l = some ob → h'.get? l = some ob) : Lies h' l vs :=
  let ⟨ob, m, e, r⟩ := x; ⟨ob, m, k ob e, r⟩
theorem Goer.small {tp : Bool} {h : Heap} {g l : Addr} {n : Nat} (x : Goer tp h g l n) : g < h.objs.size := let ⟨_, e, _⟩ := x; Heap.lt_size e
theorem Lies.small {h : Heap} {l : Addr} {vs : List Value} (x : Lies h l vs) : l < h.objs.size := let ⟨_, _, e, _⟩ := x; Heap.lt_size e
theorem Goer.plain {tp : Bool} {h : Heap} {g l : Addr} {n : Nat} (x : Goer tp h g l n) : ∃ ob, h.get? g = some ob ∧ ∀ v, ob.data ≠ .cell v :=
  let ⟨ob, e, _, d⟩ := x; ⟨ob, e, fun v q => by rw [d] at q; cases q⟩

section
variable {prog : Program} {w : World} {A : Around} {E : Value → Shared → Prop} {s : Shared} {tp : Bool} {g l : Addr} {n : Nat} {vs : List Value}

/-- an iterator's end, as it is raised -/
def Ended (E : Value → Shared → Prop) (s : Shared) (P : Heap → Prop) : Prop := ∀ h' e, P h' → (∃ ob, h'.get? e = some ob ∧ ob.cls = .type "StopIteration") → E (.ref e) { s with heap := h' }

theorem stops {α : Type} {Q : α → Shared → Prop} (hh : A.handled = none) (h : Ended E s fun h' => ∀ b ob, s.heap.get? b = some ob → h'.get? b = some ob) :
    wpAny (model prog w) A (Builtin.SmallTypes.stopIteration : Sem α) Q E s := by
  unfold Builtin.SmallTypes.stopIteration
  unfold newExc
  refine wpAny_bind (wpAny_bind (wpAny_newTuple ?_))
  refine wpAny_bind (m := firstArgMember (Value.type "StopIteration") []) (wpAny_of_eq (a := Value.none) (by simp only [firstArgMember]; rfl) ?_)
  exact wpAny_newObj_type (wpAny_raiseNew_none hh (h _ _ (fun b ob q => Heap.get?_push_of_some _ (Heap.get?_push_of_some _ q)) ⟨_, Heap.get?_push_size _ rfl, rfl⟩)) (by size_fits)

theorem rise {b : Builtin} (hb : b = Builtin.«list_iterator.__next__» ∨ b = Builtin.«tuple_iterator.__next__») {P : Fin → Shared → Prop} (hg : Goer tp s.heap g l n) (hl : Lies s.heap l vs)
    (yes : ∀ v h', vs[n]? = some v → Goer tp h' g l (n + 1) → Heap.SameBut g s.heap h' → P (.done (.ret v)) { s with heap := h' })
    (no : vs[n]? = none → A.handled = none ∧ Ended E s fun h' => Heap.ExtBut g s.heap h') : wpAny (model prog w) A (b ⟨[.ref g], []⟩) P E s := by
  obtain ⟨og, eg, cg, dg⟩ := hg
  obtain ⟨ol, m, el, dl⟩ := hl
  have same : b = Builtin.«list_iterator.__next__» ∨ b = Builtin.«tuple_iterator.__next__» := hb
  rcases hb with rfl | rfl
  all_goals
    show wpAny _ _ (Bind.bind (field (Value.ref g) 0) _) P E s
    refine wpAny_bind (wpAny_field eg dg (x := Value.ref l) rfl ?_)
    rw [if_neg (show ¬ (Value.ref l == Value.none) = true from fun q => nomatch q)]
    refine wpAny_bind (m := field (Value.ref g) 1) (wpAny_field eg dg (x := Value.int n 0) rfl ?_)
    refine wpAny_bind (m := seqItems? (Value.ref l)) (wpAny_seqItems el dl ?_)
    dsimp only
    cases q : vs[n]? with
    | some v =>
      have q' : vs.toArray[(n : Int).toNat]? = some v := by simpa using q
      rw [q']
      refine wpAny_bind (wpAny_setField eg dg (by simp) (wpAny_pure (yes v _ q ?_ (Heap.SameBut.update ..))))
      exact ⟨_, Heap.get?_update_self _ eg (Obj.isFreed_of_fields (Obj.data_mapFields dg _)), (Obj.cls_mapFields ..).trans cg, by rw [Obj.data_mapFields dg]; simp [rawInt]⟩
    | none =>
      have q' : vs.toArray[(n : Int).toNat]? = none := by simpa using q
      rw [q']
      obtain ⟨hh, en⟩ := no q
      refine wpAny_bind (wpAny_rule (wpAny_bind (wpAny_setField eg dg (by simp) (stops hh fun h' e k st => en h' e ?_ st))))
      exact fun c ob hc x => k c ob ((Heap.SameBut.update ..).extBut c ob hc x)

/-- one draw from an iterator, in a zip -/
theorem draw {Q : Value → Shared → Prop} (hg : Goer tp s.heap g l n) (hl : Lies s.heap l vs)
    (yes : ∀ v h', vs[n]? = some v → Goer tp h' g l (n + 1) → Heap.SameBut g s.heap h' → Q v { s with heap := h' })
    (no : vs[n]? = none → A.handled = none ∧ Ended E s fun h' => Heap.ExtBut g s.heap h') : wpAny (model prog w) A (Builtin.SmallTypes.nextOf (.ref g)) Q E s := by
  have ty : s.TypeIs (.ref g) (goerOf tp) := let ⟨ob, e, c, _⟩ := hg; ⟨ob, e, c⟩
  have fin : ∀ v h', vs[n]? = some v → Goer tp h' g l (n + 1) → Heap.SameBut g s.heap h' →
      ∃ u, Fin.done (.ret v) = Fin.done (.ret u) ∧ wpAny (model prog w) A (pure u : Sem Value) Q E { s with heap := h' } := fun v h' a b c => ⟨v, rfl, wpAny_pure (yes v h' a b c)⟩
  unfold Builtin.SmallTypes.nextOf
  cases tp with
  | true => exact wpAny_bind (wpAny_callSpecial?_slot ty F.slot_tuple_iterator_next (wpAny_call_entry F.slot_tuple_iterator_next ty F.entry_tuple_iterator_next (rise (.inr rfl) hg hl fin fun q => ⟨by simpa using (no q).1, (no q).2⟩) (F.args_tuple_iterator_next_1 _)))
  | false => exact wpAny_bind (wpAny_callSpecial?_slot ty slot_listiter_next (wpAny_call_entry slot_listiter_next ty entry_listiter_next (rise (.inl rfl) hg hl fin fun q => ⟨by simpa using (no q).1, (no q).2⟩) (args_listiter_next _)))
end

/-! ### zip of any number of lists and tuples -/
/-- a road: the iterator g over the items vs that lie at l -/
structure Road where
  tp : Bool
  g : Addr
  l : Addr
  vs : List Value
abbrev goers (rs : List Road) : List Addr := rs.map (·.g)
/-- no two of its objects are one; what is walked is none of them -/
structure Parted (rs : List Road) (z I O : Addr) : Prop where
  nd : (goers rs).Nodup
  zg : z ∉ goers rs
  og : O ∉ goers rs
  ig : I ∉ goers rs
  oz : O ≠ z
  iz : I ≠ z
  io : I ≠ O
  lr : ∀ r ∈ rs, r.l ≠ z ∧ r.l ≠ O ∧ r.l ∉ goers rs
abbrev Tup (h : Heap) (T : Addr) (vs : List Value) : Prop := h.get? T = some { cls := .type "tuple", data := .seq vs.toArray }
/-- the roads stand at the places that at_ tells -/
def Stand (rs : List Road) (h : Heap) (at_ : Nat → Nat) : Prop := ∀ (j : Nat) (r : Road), rs[j]? = some r → Goer r.tp h r.g r.l (at_ j) ∧ Lies h r.l r.vs
/-- all but the zip's own objects -/
def Others (rs : List Road) (z O : Addr) (h h' : Heap) : Prop := ∀ c ob, c ≠ z → c ≠ O → c ∉ goers rs → h.get? c = some ob → h'.get? c = some ob
theorem mem_goers {rs : List Road} {j : Nat} {r : Road} (h : rs[j]? = some r) : r.g ∈ goers rs := List.mem_map.mpr ⟨r, List.mem_of_getElem? h, rfl⟩
theorem goer_inj {rs : List Road} {z I O : Addr} (D : Parted rs z I O) {j k : Nat} {r r' : Road} (h : rs[j]? = some r) (h' : rs[k]? = some r') (e : r.g = r'.g) : j = k := by
  have a : (goers rs)[j]? = some r.g := by rw [List.getElem?_map, h]; rfl
  have b : (goers rs)[k]? = some r.g := by rw [List.getElem?_map, h', e]; rfl
  exact (List.getElem?_inj (List.getElem?_eq_some_iff.mp a).1 D.nd).mp (a.trans b.symm)

theorem Stand.but {rs : List Road} {z I O : Addr} (D : Parted rs z I O) {h h' : Heap} {f : Nat → Nat} (st : Stand rs h f) {c : Addr} (hc : c = z ∨ c = O) (k : ∀ b ob, b ≠ c → h.get? b = some ob → h'.get? b = some ob) : Stand rs h' f := by
  intro j r hr
  obtain ⟨a, b⟩ := st j r hr
  have m := mem_goers hr
  have q := D.lr r (List.mem_of_getElem? hr)
  refine ⟨a.over fun ob e => k _ ob (fun z' => ?_) e, b.over fun ob e => k _ ob (fun z' => ?_) e⟩
  · rcases hc with rfl | rfl
    · exact D.zg (z' ▸ m)
    · exact D.og (z' ▸ m)
  · rcases hc with rfl | rfl
    · exact q.1 z'
    · exact q.2.1 z'
/-- road j has gone one on -/
theorem Stand.on {rs : List Road} {z I O : Addr} (D : Parted rs z I O) {h h' : Heap} {n j : Nat} {r : Road} (hr : rs[j]? = some r) (st : Stand rs h fun m => if m < j then n + 1 else n)
    (k : ∀ b ob, b ≠ r.g → h.get? b = some ob → h'.get? b = some ob) (gj : Goer r.tp h' r.g r.l (n + 1)) : Stand rs h' fun m => if m < j + 1 then n + 1 else n := by
  intro m r' hr'
  obtain ⟨a, b⟩ := st m r' hr'
  have q := D.lr r' (List.mem_of_getElem? hr')
  have lb : Lies h' r'.l r'.vs := b.over fun ob e => k _ ob (fun z' => q.2.2 (z' ▸ mem_goers hr)) e
  by_cases e : m = j
  · subst e
    have e2 : r = r' := Option.some.inj (hr.symm.trans hr')
    subst e2
    refine ⟨?_, lb⟩
    show Goer _ _ _ _ (if m < m + 1 then n + 1 else n)
    rw [if_pos (Nat.lt_succ_self m)]
    exact gj
  · refine ⟨?_, lb⟩
    have a' : Goer r'.tp h' r'.g r'.l (if m < j then n + 1 else n) := a.over fun ob x => k _ ob (fun z' => e (goer_inj D hr' hr z')) x
    by_cases lt : m < j
    · rw [if_pos lt] at a'
      show Goer _ _ _ _ (if m < j + 1 then n + 1 else n)
      rw [if_pos (Nat.lt_succ_of_lt lt)]
      exact a'
    · rw [if_neg lt] at a'
      show Goer _ _ _ _ (if m < j + 1 then n + 1 else n)
      rw [if_neg (by omega)]
      exact a'

section
variable {prog : Program} {w : World} {A : Around} {E : Value → Shared → Prop} {s : Shared}
/-- where the loop over the roads stands behind j of them -/
structure Drawn (rs : List Road) (z I O : Addr) (n : Nat) (old : List Value) (h0 h : Heap) (j : Nat) (got : List Value) : Prop where
  hz : IsZip h z I O .ellipsis
  ow : Tup h O (got ++ old.drop j)
  len : got.length = j
  val : ∀ (m : Nat) (r : Road), rs[m]? = some r → m < j → r.vs[n]? = got[m]?
  st : Stand rs h fun m => if m < j then n + 1 else n
  oth : Others rs z O h0 h
  sz : h.objs.size = h0.objs.size

theorem zip_next {rs : List Road} {z I O : Addr} {n : Nat} {old : List Value} {P : Fin → Shared → Prop} (D : Parted rs z I O) (hz : IsZip s.heap z I O .none)
    (hI : Tup s.heap I (rs.map fun r => Value.ref r.g)) (hO : Tup s.heap O old) (ho : old.length = rs.length) (h0 : 0 < rs.length) (h8 : rs.length ≤ 8) (st : Stand rs s.heap fun _ => n)
    (yes : ∀ (xs : List Value) (h' : Heap), (∀ (m : Nat) (r : Road), rs[m]? = some r → r.vs[n]? = xs[m]?) → xs.length = rs.length → IsZip h' z I O (rawInt s.heap.objs.size) → Tup h' O xs → Tup h' s.heap.objs.size xs →
      Stand rs h' (fun _ => n + 1) → h'.objs.size = s.heap.objs.size + 1 → Others rs z O s.heap h' → P (.done (.ret (.ref s.heap.objs.size))) { s with heap := h' })
    (no : (∃ r ∈ rs, r.vs[n]? = none) → A.handled = none ∧ Ended E s fun h' => Others rs z O s.heap h') : wpAny (model prog w) A (Builtin.«zip.__next__» ⟨[.ref z], []⟩) P E s := by
  have small : ∀ k, k ≤ 8 → k ≤ sizeLine := fun k hk => Nat.le_trans hk (by decide)
  show wpAny _ _ (Bind.bind (field (Value.ref z) 2) _) P E s
  refine wpAny_bind (wpAny_field hz rfl (x := Value.bool false) rfl ?_)
  refine wpAny_bind (m := field (Value.ref z) 3) (wpAny_field hz rfl (x := Value.ref I) rfl ?_)
  refine wpAny_bind (m := seqItems? (Value.ref I)) (wpAny_seqItems hI rfl ?_)
  dsimp only
  rw [if_neg (show ¬ (List.toArray (rs.map fun r => Value.ref r.g)).isEmpty = true by simp; exact fun q => by rw [q] at h0; exact absurd h0 (Nat.lt_irrefl 0))]
  refine wpAny_bind (m := Builtin.SmallTypes.ownedTupleIsFree (Value.ref z)) ?_
  unfold Builtin.SmallTypes.ownedTupleIsFree
  refine wpAny_bind (m := field (Value.ref z) 0) (wpAny_field hz rfl (x := Value.none) rfl (wpAny_pure ?_))
  rw [if_pos rfl]
  refine wpAny_bind (wpAny_rule (wpAny_bind (m := field (Value.ref z) 4) (wpAny_field hz rfl (x := Value.ref O) rfl ?_)))
  refine wpAny_bind (wpAny_setField_rec hz (by simp) fun g0 z0 b0 => ?_)
  have kz : ∀ c ob, c ≠ z → s.heap.get? c = some ob → g0.get? c = some ob := fun c ob hc e => (b0.2 c hc).trans e
  refine wpAny_bind (wpAny_forIn_list _ (fun rest b s' => b.1 = none ∧ ∃ j h got, s' = { s with heap := h } ∧ j ≤ rs.length ∧ rest = ((rs.drop j).map fun r => Value.ref r.g).zipIdx j ∧ Drawn rs z I O n old s.heap h j got)
    _ ?turn ?fin _ _ ⟨rfl, 0, g0, [], rfl, Nat.zero_le _, by simp, ?start⟩)
  case start =>
    exact ⟨z0, kz O _ D.oz hO, rfl, fun m r _ q => absurd q (Nat.not_lt_zero m), fun m r hr => by simpa using (Stand.but D st (.inl rfl) kz) m r hr, fun c ob c1 _ _ e => kz c ob c1 e, b0.1⟩
  case turn =>
    rintro ⟨it, k⟩ rest b s' ⟨hb, j, h, got, rfl, hj, hr, d⟩
    cases q : rs.drop j with
    | nil => rw [q] at hr; simp at hr
    | cons r more =>
      rw [q] at hr
      rw [List.map_cons, List.zipIdx_cons] at hr
      obtain ⟨e1, e2⟩ := List.cons.inj hr
      obtain ⟨rfl, rfl⟩ := Prod.mk.inj e1
      have hrj : rs[k]? = some r := by
        have : (rs.drop k)[0]? = some r := by rw [q]; rfl
        simpa using this
      have hkl : k < rs.length := (List.getElem?_eq_some_iff.mp hrj).1
      have more_ : rs.drop (k + 1) = more := by
        have : (rs.drop k).drop 1 = more := by rw [q]; rfl
        rw [List.drop_drop] at this
        exact this
      obtain ⟨gr, lr⟩ := d.st k r hrj
      replace gr : Goer r.tp h r.g r.l (if k < k then n + 1 else n) := gr
      rw [if_neg (Nat.lt_irrefl k)] at gr
      have mg := mem_goers hrj
      have rz : r.g ≠ z := fun e => D.zg (e ▸ mg)
      have ro : r.g ≠ O := fun e => D.og (e ▸ mg)
      refine wpAny_bind (wpAny_onRaise ?_)
      show wpAny _ _ (Bind.bind (Builtin.SmallTypes.nextOf (Value.ref r.g)) _) _ _ _
      refine wpAny_bind (draw (s := { s with heap := h }) gr lr (fun v h1 hv g1 b1 => wpAny_pure ?_) fun hv => ?_)
      · have k1 : ∀ b ob, b ≠ r.g → h.get? b = some ob → h1.get? b = some ob := fun b ob hb e => (b1.2 b hb).trans e
        have ow1 : Tup h1 O (got ++ old.drop k) := k1 O _ (Ne.symm ro) d.ow
        have ln : (got ++ old.drop k).length = rs.length := by rw [List.length_append, List.length_drop, d.len, ho]; omega
        have ln8 : (got ++ old.drop k).toArray.size ≤ 8 := by rw [List.size_toArray, ln]; exact h8
        refine wpAny_bind (m := seqItems? (Value.ref O)) (wpAny_seqItems (s := { s with heap := h1 }) ow1 rfl ?_)
        refine wpAny_bind (wpAny_updateSeq (s := { s with heap := h1 }) ow1 rfl (wpAny_bind (wpAny_letGo (wpAny_pure ?_))) (small _ ln8) (by rw [Array.size_setIfInBounds]; exact Nat.le_succ_of_le (small _ ln8)))
        have own2 : (h1.update O (Obj.mapSeq (·.setIfInBounds k v))).get? O = some { cls := .type "tuple", data := .seq ((got ++ old.drop k).toArray.setIfInBounds k v) } := by
          rw [Heap.get?_update_self _ ow1 rfl]
          simp [Obj.mapSeq]
        have set_ : (got ++ old.drop k).toArray.setIfInBounds k v = ((got ++ [v]) ++ old.drop (k + 1)).toArray := by
          have hk : k < old.length := by rw [ho]; exact hkl
          rw [List.setIfInBounds_toArray, List.set_append_right _ _ (by rw [d.len]; exact Nat.le_refl _), d.len, Nat.sub_self, List.drop_eq_getElem_cons hk, List.set_cons_zero, List.append_assoc]
          rfl
        have b2 : ∀ b ob, b ≠ O → h1.get? b = some ob → (h1.update O (Obj.mapSeq (·.setIfInBounds k v))).get? b = some ob := fun b ob hb e => ((Heap.SameBut.update h1 O _).2 b hb).trans e
        refine ⟨rfl, k + 1, _, got ++ [v], rfl, hkl, ?_, ⟨b2 z _ (Ne.symm D.oz) (k1 z _ (Ne.symm rz) d.hz), ?_, ?_, ?_, ?_, ?_, ?_⟩⟩
        · rw [more_]; exact e2
        · rw [set_] at own2; exact own2
        · rw [List.length_append, d.len]; rfl
        · intro m r' hr' hm
          by_cases e : m = k
          · subst e
            have e3 : r = r' := Option.some.inj (hrj.symm.trans hr')
            subst e3
            rw [hv, List.getElem?_append_right (by rw [d.len]; exact Nat.le_refl _), d.len, Nat.sub_self]
            rfl
          · have lt : m < k := by omega
            rw [d.val m r' hr' lt, List.getElem?_append_left (by rw [d.len]; exact lt)]
        · exact Stand.but D (Stand.on D hrj d.st k1 g1) (.inr rfl) b2
        · exact fun c ob c1 c2 c3 e => b2 c ob c2 (k1 c ob (fun z' => c3 (z' ▸ mg)) (d.oth c ob c1 c2 c3 e))
        · rw [(Heap.SameBut.update h1 O _).1, b1.1]; exact d.sz
      · obtain ⟨hh, en⟩ := no ⟨r, List.mem_of_getElem? hrj, hv⟩
        refine ⟨hh, fun h1 e k1 st1 => ?_⟩
        obtain ⟨oe, ee, ce⟩ := st1
        have z1 : IsZip h1 z I O .ellipsis := k1 z _ (Ne.symm rz) d.hz
        have ez : e ≠ z := fun q' => by
          subst q'
          rw [z1] at ee
          cases ee
          simp at ce
        refine wpAny_setField_rec (s := { s with heap := h1 }) z1 (by simp) fun h2 _ b2 => en h2 e (fun c ob c1 c2 c3 x => (b2.2 c c1).trans (k1 c ob (fun z' => c3 (z' ▸ mg)) (d.oth c ob c1 c2 c3 x))) ⟨oe, (b2.2 e ez).trans ee, ce⟩
  case fin =>
    rintro b s' ⟨hb, j, h, got, rfl, hj, hr, d⟩
    have jl : j = rs.length := by
      by_cases lt : j < rs.length
      · rw [List.drop_eq_getElem_cons lt, List.map_cons, List.zipIdx_cons] at hr
        cases hr
      · omega
    subst jl
    have dn : old.drop rs.length = [] := List.drop_eq_nil_of_le (by rw [ho]; exact Nat.le_refl _)
    have ow := d.ow
    rw [dn, List.append_nil] at ow
    obtain ⟨b1, b2⟩ := b
    have hb' : b1 = none := hb
    subst hb'
    dsimp only
    refine wpAny_bind (m := seqItems? (Value.ref O)) (wpAny_seqItems (s := { s with heap := h }) ow rfl ?_)
    refine wpAny_bind (wpAny_newTuple ?_ (by rw [List.toList_toArray, d.len]; exact small _ h8))
    have zl : z < h.objs.size := Heap.lt_size d.hz
    refine wpAny_bind (m := Builtin.SmallTypes.ownedTupleHandOut (Value.ref z) (Value.ref h.objs.size)) ?_
    unfold Builtin.SmallTypes.ownedTupleHandOut
    have z1 : IsZip (h.push { cls := .type "tuple", data := .seq got.toArray.toList.toArray }) z I O .ellipsis := Heap.get?_push_of_some _ d.hz
    refine wpAny_bind (wpAny_setField_rec z1 (by simp) fun h2 z2 c2 => ?_)
    have z2' : IsZip h2 z I O (rawInt h.objs.size) := z2
    refine wpAny_setField_rec (s := { s with heap := h2 }) z2' (by simp) fun h3 z3 c3 => wpAny_pure ?_
    have z3' : IsZip h3 z I O (rawInt h.objs.size) := z3
    have up : ∀ c ob, c ≠ z → h.get? c = some ob → h3.get? c = some ob := fun c ob hc e => (c3.2 c hc).trans ((c2.2 c hc).trans (Heap.get?_push_of_some _ e))
    have sz := d.sz
    have new : Tup h3 h.objs.size got := (c3.2 _ (Nat.ne_of_gt zl)).trans ((c2.2 _ (Nat.ne_of_gt zl)).trans (Heap.get?_push_size _ rfl))
    rw [sz] at z3' new
    show P (.done (.ret (.ref h.objs.size))) _
    rw [sz]
    refine yes got h3 (fun m r hr => d.val m r hr (List.getElem?_eq_some_iff.mp hr).1) d.len z3' (up O _ D.oz ow) new (fun m r hr => ?_) ?_ fun c ob x1 x2 x3 e => up c ob x1 (d.oth c ob x1 x2 x3 e)
    · have q : Goer r.tp h3 r.g r.l (if m < rs.length then n + 1 else n) ∧ Lies h3 r.l r.vs := Stand.but D d.st (.inl rfl) up m r hr
      rw [if_pos (List.getElem?_eq_some_iff.mp hr).1] at q
      exact q
    · rw [c3.1, c2.1, Heap.size_push, sz]
end
end SR
end
section
set_option Elab.async false
set_option linter.all false
set_option maxRecDepth 100000
set_option maxHeartbeats 4000000
namespace SR
open PySem PySem.Spec PyProof.Rows L2
/-- a list or (tp) a tuple lies at l -/
def Seq (tp : Bool) (h : Heap) (l : Addr) (vs : List Value) : Prop := match tp with
  | true => h.IsTuple l vs.toArray
  | false => h.IsList l vs.toArray
theorem Seq.lies {tp : Bool} {h : Heap} {l : Addr} {vs : List Value} (x : Seq tp h l vs) : Lies h l vs := by
  cases tp with
  | true => obtain ⟨ob, e, _, k, d⟩ := x; exact ⟨ob, k, e, d⟩
  | false => obtain ⟨ob, e, _, k, d⟩ := x; exact ⟨ob, k, e, d⟩
theorem Seq.over {tp : Bool} {h h' : Heap} {l : Addr} {vs : List Value} (x : Seq tp h l vs) (k : ∀ ob, h.get? l = some ob → h'.get? l = some ob) : Seq tp h' l vs := by
  cases tp with
  | true => obtain ⟨ob, e, r⟩ := x; exact ⟨ob, k ob e, r⟩
  | false => obtain ⟨ob, e, r⟩ := x; exact ⟨ob, k ob e, r⟩
abbrev goerObj (tp : Bool) (l : Addr) : Obj := { cls := .type (goerOf tp), data := .fields #[.ref l, .int 0 0] }
section
variable {prog : Program} {w : World} {A : Around} {E : Value → Shared → Prop} {s : Shared}
theorem iter_seq {tp : Bool} {l : Addr} {vs : List Value} {Q : Value → Shared → Prop} (x : Seq tp s.heap l vs) (h : Q (.ref s.heap.objs.size) { s with heap := s.heap.push (goerObj tp l) }) : wpAny (model prog w) A (pyIter (.ref l)) Q E s := by
  cases tp with
  | true => exact wpAny_pyIter_tuple x h
  | false => exact wpAny_pyIter_list x h
/-- what is to be walked: list or tuple, where it lies, its items -/
abbrev Src := Bool × Addr × List Value
/-- the heap with the iterators laid behind it -/
def laid (h : Heap) : List Src → Heap
  | [] => h
  | p :: r => laid (h.push (goerObj p.1 p.2.1)) r
theorem laid_size : ∀ (ls : List Src) (h : Heap), (laid h ls).objs.size = h.objs.size + ls.length
  | [], h => rfl
  | p :: r, h => by
    show (laid _ r).objs.size = _
    rw [laid_size r, Heap.size_push, List.length_cons]
    omega
theorem laid_keep : ∀ (ls : List Src) (h : Heap) (c : Addr) (ob : Obj), h.get? c = some ob → (laid h ls).get? c = some ob
  | [], h, c, ob, e => e
  | p :: r, h, c, ob, e => laid_keep r _ c ob (Heap.get?_push_of_some _ e)
theorem laid_at : ∀ (ls : List Src) (h : Heap) (j : Nat) (p : Src), ls[j]? = some p → (laid h ls).get? (h.objs.size + j) = some (goerObj p.1 p.2.1)
  | [], h, j, p, e => by simp at e
  | q :: r, h, 0, p, e => by
    have e' : q = p := Option.some.inj e
    subst e'
    exact laid_keep r _ _ _ (Heap.get?_push_size _ rfl)
  | q :: r, h, j + 1, p, e => by
    have i := laid_at r (h.push (goerObj q.1 q.2.1)) j p e
    rw [Heap.size_push, Nat.add_assoc, Nat.add_comm 1 j] at i
    exact i
theorem iters {ls : List Src} {Q : List Value → Shared → Prop} (hk : ∀ p ∈ ls, Seq p.1 s.heap p.2.1 p.2.2) (h : Q ((List.range ls.length).map fun j => Value.ref (s.heap.objs.size + j)) { s with heap := laid s.heap ls }) :
    wpAny (model prog w) A (Builtin.SmallTypes.iterAll (ls.map fun p => Value.ref p.2.1)) Q E s := by
  unfold Builtin.SmallTypes.iterAll
  refine wpAny_bind (wpAny_forIn_list _ (fun rest (b : Array Value) s' => ∃ (done left : List Src), ls = done ++ left ∧ rest = left.map (fun p => Value.ref p.2.1) ∧ b.toList = (List.range done.length).map (fun j => Value.ref (s.heap.objs.size + j)) ∧ s' = { s with heap := laid s.heap done }) _ ?_ ?_ _ _ ⟨[], ls, rfl, rfl, rfl, rfl⟩)
  · rintro x rest b s' ⟨done, left, e, hr, hb, rfl⟩
    cases left with
    | nil => cases hr
    | cons p left =>
      obtain ⟨rfl, rfl⟩ := List.cons.inj hr
      have m : p ∈ ls := by rw [e]; simp
      refine wpAny_bind (wpAny_holding (iter_seq (s := { s with heap := laid s.heap done }) ((hk p m).over fun ob q => laid_keep _ _ _ _ q) (wpAny_pure ?_)))
      have app : ∀ (a : List Src) (h : Heap), laid h (a ++ [p]) = (laid h a).push (goerObj p.1 p.2.1) := fun a => by
        induction a with
        | nil => intro h; rfl
        | cons c a ih => intro h; exact ih _
      refine ⟨done ++ [p], left, by rw [e, List.append_assoc]; rfl, rfl, ?_, by rw [app]⟩
      rw [Array.toList_push, hb, List.length_append, List.length_singleton, List.range_succ, List.map_append, laid_size]
      rfl
  · rintro b s' ⟨done, left, e, hr, hb, rfl⟩
    have nl : left = [] := List.map_eq_nil_iff.mp hr.symm
    subst nl
    rw [List.append_nil] at e
    subst e
    rw [← hb] at h
    exact wpAny_pure h
abbrev zipTup (vs : List Value) : Obj := { cls := .type "tuple", data := .seq vs.toArray }
/-- where zip's own objects come to lie -/
def zipped (h : Heap) (ls : List Src) : Heap :=
  (((laid h ls).push (zipTup ((List.range ls.length).map fun j => Value.ref (h.objs.size + j)))).push (zipTup (((List.range ls.length).map fun j => Value.ref (h.objs.size + j)).map fun _ => Value.none))).push
    { cls := .type "zip", data := .fields #[.none, .bool false, .bool false, .ref (h.objs.size + ls.length), .ref (h.objs.size + ls.length + 1)] }
theorem zip_makes (ls : List Src) (h8 : ls.length ≤ 8) :
    Meets (Builtin.«zip.__new__» ⟨.type "zip" :: ls.map (fun p => Value.ref p.2.1), []⟩) (fun _ R s => (∀ p ∈ ls, Seq p.1 s.heap p.2.1 p.2.2) ∧ R (.ok (.ret (.ref (s.heap.objs.size + ls.length + 2)))) { s with heap := zipped s.heap ls }) :=
  .of_wp fun prog w A R s h => by
    obtain ⟨hp, g, d, tk, os⟩ := s
    obtain ⟨hk, h⟩ := h
    have hsub := sub_zip
    have hk' : ∀ p ∈ ls, Seq p.1 (Shared.heap ⟨hp, g, d, tk, os⟩) p.2.1 p.2.2 := hk
    wp_walk using iters hk'
    have sm : ls.length ≤ sizeLine := Nat.le_trans h8 (by decide)
    rw [if_neg (by rw [List.size_toArray, List.length_map, List.length_range]; exact Nat.not_lt.mpr sm)]
    wp_walk
    refine ⟨_, rfl, ?_⟩
    have s1 : (laid hp ls).objs.size = hp.objs.size + ls.length := laid_size ls hp
    simp only [Heap.size_push, s1]
    exact h

/-- the call: where all of it lies -/
theorem call_zip {ls : List Src} {Q : Value → Shared → Prop} (h0 : 0 < ls.length) (h8 : ls.length ≤ 8) (hct : checkTypeCall "zip" ⟨ls.map (fun p => Value.ref p.2.1), []⟩ = pure ()) (hcn : checkBuiltinCall "zip.__new__" ⟨.type "zip" :: ls.map (fun p => Value.ref p.2.1), []⟩ = pure ())
    (hok : ∀ obj, argsOk "object.__init__" ⟨obj :: ls.map (fun p => Value.ref p.2.1), []⟩) (hk : ∀ p ∈ ls, Seq p.1 s.heap p.2.1 p.2.2)
    (h : Q (.ref (s.heap.objs.size + ls.length + 2)) { s with heap := zipped s.heap ls }) : wpAny (model prog w) A (call (.type "zip") (ls.map fun p => Value.ref p.2.1)) Q E s := by
  refine callType_new F.called_zip (by decide) hct hcn hok F.entry_zip_new (zip_makes ls h8) ⟨hk, ⟨⟨{ cls := .type "zip", data := .fields #[.none, .bool false, .bool false, .ref (s.heap.objs.size + ls.length), .ref (s.heap.objs.size + ls.length + 1)] }, ?_, rfl⟩, h⟩⟩
  have s1 : (laid s.heap ls).objs.size = s.heap.objs.size + ls.length := laid_size ls s.heap
  have s2 : s.heap.objs.size + ls.length + 2 = (((laid s.heap ls).push (zipTup ((List.range ls.length).map fun j => Value.ref (s.heap.objs.size + j)))).push (zipTup (((List.range ls.length).map fun j => Value.ref (s.heap.objs.size + j)).map fun _ => Value.none))).objs.size := by
    simp only [Heap.size_push, s1]
  show (zipped s.heap ls).get? (s.heap.objs.size + ls.length + 2) = some _
  rw [s2]
  exact Heap.get?_push_size _ rfl
/-- the roads that it makes -/
def roadsOf (B : Nat) (ls : List Src) : List Road := (ls.zipIdx B).map fun p => ⟨p.1.1, p.2, p.1.2.1, p.1.2.2⟩
theorem roadsOf_get {B : Nat} {ls : List Src} {j : Nat} {r : Road} (h : (roadsOf B ls)[j]? = some r) : ∃ p, ls[j]? = some p ∧ r = ⟨p.1, B + j, p.2.1, p.2.2⟩ := by
  unfold roadsOf at h
  rw [List.getElem?_map, List.getElem?_zipIdx] at h
  cases q : ls[j]? with
  | none => rw [q] at h; cases h
  | some p => rw [q] at h; exact ⟨p, rfl, (Option.some.inj h).symm⟩
theorem roadsOf_length (B : Nat) (ls : List Src) : (roadsOf B ls).length = ls.length := by unfold roadsOf; rw [List.length_map, List.length_zipIdx]
theorem goers_roadsOf (B : Nat) (ls : List Src) : goers (roadsOf B ls) = (List.range ls.length).map fun j => B + j := by
  refine List.ext_getElem? fun j => ?_
  unfold goers
  rw [List.getElem?_map, List.getElem?_map]
  cases q : (roadsOf B ls)[j]? with
  | none =>
    have : ls.length ≤ j := by rw [← roadsOf_length B ls]; exact List.getElem?_eq_none_iff.mp q
    rw [List.getElem?_eq_none (by rw [List.length_range]; exact this)]
    rfl
  | some r =>
    obtain ⟨p, hp, rfl⟩ := roadsOf_get q
    have lt := (List.getElem?_eq_some_iff.mp hp).1
    rw [List.getElem?_range lt]
    rfl
theorem parted_at (B n : Nat) (rs : List Road) (hg : goers rs = (List.range n).map fun j => B + j) (hl : ∀ r ∈ rs, ∃ k : Nat, r.l = k ∧ k < B) : Parted rs (B + n + 2 : Nat) (B + n : Nat) (B + n + 1 : Nat) := by
  have mem : ∀ c : Nat, List.Mem (α := Nat) c (goers rs) → B ≤ c ∧ c < B + n := fun c hc => by
    rw [hg] at hc
    obtain ⟨j, hj, e⟩ := List.mem_map.mp hc
    have e' : B + j = c := e
    have := List.mem_range.mp hj
    omega
  refine ⟨?_, fun q => ?_, fun q => ?_, fun q => ?_, ?_, ?_, ?_, fun r hr => ?_⟩
  · rw [hg, List.nodup_iff_pairwise_ne, List.pairwise_map]
    refine List.Pairwise.imp (fun {a b} q z => ?_) (List.nodup_iff_pairwise_ne.mp List.nodup_range)
    have z' : B + a = B + b := z
    omega
  · have := mem _ q; omega
  · have := mem _ q; omega
  · have := mem _ q; omega
  · exact PySem.W.neN (by omega)
  · exact PySem.W.neN (by omega)
  · exact PySem.W.neN (by omega)
  · obtain ⟨k, e, lt⟩ := hl r hr
    rw [e]
    exact ⟨PySem.W.neN (by omega), PySem.W.neN (by omega), fun q => by have := mem _ q; omega⟩
theorem parted_roads {h : Heap} {ls : List Src} (hk : ∀ p ∈ ls, Seq p.1 h p.2.1 p.2.2) : Parted (roadsOf h.objs.size ls) (h.objs.size + ls.length + 2) (h.objs.size + ls.length) (h.objs.size + ls.length + 1) := by
  refine parted_at h.objs.size ls.length _ (goers_roadsOf _ _) fun r hr => ?_
  obtain ⟨j, hj⟩ := List.mem_iff_getElem?.mp hr
  obtain ⟨p, hp, rfl⟩ := roadsOf_get hj
  exact ⟨p.2.1, rfl, (hk p (List.mem_of_getElem? hp)).lies.small⟩
end
end SR
end
section
set_option Elab.async false
set_option linter.all false
set_option maxRecDepth 100000
set_option maxHeartbeats 4000000
namespace SR
open PySem PySem.Spec PyProof.Rows L2
/-- the list or (tp) tuple at a holds xs -/
def Holds (tp : Bool) (K : PySem.W.Frag) (H : Hp) (a : Addr) (xs : List V) : Prop := match tp with
  | true => SqT K H a xs
  | false => SqL K H a xs
/-- each of several lists and tuples -/
inductive HoldsAll (K : PySem.W.Frag) (H : Hp) : List (Bool × Addr) → List (List V) → Prop
  | nil : HoldsAll K H [] []
  | cons {p : Bool × Addr} {ss : List (Bool × Addr)} {xs : List V} {xss : List (List V)} : Holds p.1 K H p.2 xs → HoldsAll K H ss xss → HoldsAll K H (p :: ss) (xs :: xss)
section
variable {X : Cx} {pins : List (Addr × Obj)} {σ : L2.St} {H : Hp} {s : Shared}
theorem holds_seq {tp : Bool} {a : Addr} {xs : List V} (I : L2.Inv X pins σ H s) (h : Holds tp X.K H a xs) : ∃ us, Vals xs us ∧ Seq tp s.heap a us := by
  cases tp with
  | true => obtain ⟨us, r, p, _⟩ := I.tuple h; exact ⟨us, r, p⟩
  | false => obtain ⟨us, r, p, _⟩ := I.list h; exact ⟨us, r, p.isList⟩
theorem holds_inj {tp : Bool} {a : Addr} {xs ys : List V} (I : L2.Inv X pins σ H s) (h : Holds tp X.K H a xs) (h' : Holds tp X.K H a ys) : xs = ys := by
  cases tp with
  | true => exact I.tuple_inj h h'
  | false => exact I.list_inj h h'
theorem holdsAll_inj (I : L2.Inv X pins σ H s) : ∀ {ss : List (Bool × Addr)} {xss yss : List (List V)}, HoldsAll X.K H ss xss → HoldsAll X.K H ss yss → xss = yss
  | _, _, _, .nil, .nil => rfl
  | _, _, _, .cons a b, .cons c d => by rw [holds_inj I a c, holdsAll_inj I b d]
/-- the sources with their values -/
inductive Srcs (h : Heap) : List (Bool × Addr) → List (List V) → List Src → Prop
  | nil : Srcs h [] [] []
  | cons {tp : Bool} {a : Addr} {ss : List (Bool × Addr)} {xs : List V} {xss : List (List V)} {us : List Value} {ls : List Src} : Vals xs us → Seq tp h a us → Srcs h ss xss ls → Srcs h ((tp, a) :: ss) (xs :: xss) ((tp, a, us) :: ls)
theorem srcs_of (I : L2.Inv X pins σ H s) : ∀ {ss : List (Bool × Addr)} {xss : List (List V)}, HoldsAll X.K H ss xss → ∃ ls, Srcs s.heap ss xss ls
  | _, _, .nil => ⟨[], .nil⟩
  | (tp, a) :: _, _, .cons p q => by
    obtain ⟨us, r, e⟩ := holds_seq I p
    obtain ⟨ls, z⟩ := srcs_of I q
    exact ⟨(tp, a, us) :: ls, .cons r e z⟩
theorem Srcs.keys {h : Heap} : ∀ {ss : List (Bool × Addr)} {xss : List (List V)} {ls : List Src}, Srcs h ss xss ls → ls.map (fun p => (p.1, p.2.1)) = ss
  | _, _, _, .nil => rfl
  | _, _, _, .cons _ _ z => by rw [List.map_cons, z.keys]
theorem Srcs.seqs {h : Heap} : ∀ {ss : List (Bool × Addr)} {xss : List (List V)} {ls : List Src}, Srcs h ss xss ls → ∀ p ∈ ls, Seq p.1 h p.2.1 p.2.2
  | _, _, _, .nil, p, hp => nomatch hp
  | _, _, _, .cons _ e z, p, hp => by
    rcases List.mem_cons.mp hp with rfl | hp
    · exact e
    · exact z.seqs p hp
theorem Srcs.length {h : Heap} {ss : List (Bool × Addr)} {xss : List (List V)} {ls : List Src} (z : Srcs h ss xss ls) : ls.length = ss.length := by rw [← z.keys, List.length_map]
/-- what stands at place i of each -/
def across (i : Nat) (xss : List (List V)) : List V := xss.map fun xs => xs[i]?.getD .non
theorem Srcs.across {h : Heap} (i : Nat) : ∀ {ss : List (Bool × Addr)} {xss : List (List V)} {ls : List Src}, Srcs h ss xss ls → (∀ xs ∈ xss, i < xs.length) → ∀ us : List Value, us.length = ls.length → (∀ (m : Nat) (p : Src), ls[m]? = some p → p.2.2[i]? = us[m]?) → Vals (SR.across i xss) us
  | _, _, _, .nil, _, us, hl, _ => by
    have : us = [] := List.length_eq_zero_iff.mp hl
    subst this
    exact .nil
  | _, _, _, .cons (us := vs) r e z, hi, us, hl, hu => by
    cases us with
    | nil => cases hl
    | cons u us =>
      have lt := hi _ List.mem_cons_self
      have e0 := hu 0 _ rfl
      obtain ⟨v, hv, rv⟩ := r.get (List.getElem?_eq_getElem lt)
      have e1 : v = u := Option.some.inj (hv.symm.trans e0)
      subst e1
      refine .cons ?_ (z.across i (fun xs hx => hi xs (List.mem_cons_of_mem _ hx)) us (Nat.succ.inj hl) fun m p hp => hu (m + 1) p hp)
      show RelV (Option.getD _ _) v
      rw [List.getElem?_eq_getElem lt]
      exact rv
theorem Srcs.short {h : Heap} (i : Nat) : ∀ {ss : List (Bool × Addr)} {xss : List (List V)} {ls : List Src}, Srcs h ss xss ls → (∃ p ∈ ls, p.2.2[i]? = none) → ∃ xs ∈ xss, xs.length ≤ i
  | _, _, _, .nil, ⟨p, hp, _⟩ => nomatch hp
  | _, _, _, .cons r e z, ⟨p, hp, hn⟩ => by
    rcases List.mem_cons.mp hp with rfl | hp
    · exact ⟨_, List.mem_cons_self, by rw [r.length]; exact List.getElem?_eq_none_iff.mp hn⟩
    · obtain ⟨xs, hx, l⟩ := z.short i ⟨p, hp, hn⟩
      exact ⟨xs, List.mem_cons_of_mem _ hx, l⟩
end
/-- zip's walk -/
def ItZ (K : PySem.W.Frag) (ss : List (Bool × Addr)) : It :=
  ⟨fun i H => ∃ xss, HoldsAll K H ss xss ∧ ∀ xs ∈ xss, i < xs.length,
    fun i H v H' => ∃ T ys, v = .ref T ∧ H T = none ∧ H' = upd H T (.tup ys) ∧ ∀ xss, HoldsAll K H ss xss → ys = across i xss,
    fun i H => ∃ xss, HoldsAll K H ss xss ∧ ∃ xs ∈ xss, xs.length ≤ i⟩
/-- zip's objects at turn i -/
structure ZipAt (ss : List (Bool × Addr)) (B : Nat) (i : Nat) (h : Heap) : Prop where
  z : IsZip h (B + ss.length + 2 : Nat) (B + ss.length : Nat) (B + ss.length + 1 : Nat) .none
  it : Tup h (B + ss.length : Nat) ((List.range ss.length).map fun j => Value.ref (B + j : Nat))
  ow : ∃ old, Tup h (B + ss.length + 1 : Nat) old ∧ old.length = ss.length
  gs : ∀ (j : Nat) (p : Bool × Addr), ss[j]? = some p → Goer p.1 h (B + j : Nat) p.2 i
abbrev zipOwn (B n : Nat) : List Addr := (List.range (n + 3)).map fun j => ((B + j : Nat) : Addr)
theorem mem_zipOwn {B n : Nat} (c : Nat) (h1 : B ≤ c) (h2 : c < B + n + 3) : (c : Addr) ∈ zipOwn B n := List.mem_map.mpr ⟨c - B, List.mem_range.mpr (by omega), by show B + (c - B) = c; omega⟩
theorem of_zipOwn {B n : Nat} {c : Addr} (h : c ∈ zipOwn B n) : ∃ k : Nat, c = (B + k : Nat) ∧ k < n + 3 := by
  obtain ⟨k, hk, e⟩ := List.mem_map.mp h
  exact ⟨k, e.symm, List.mem_range.mp hk⟩
theorem ZipAt.there {ss : List (Bool × Addr)} {B i : Nat} {h : Heap} (x : ZipAt ss B i h) : ∀ b ∈ zipOwn B ss.length, ∃ ob, h.get? b = some ob ∧ ∀ v, ob.data ≠ .cell v := fun b hb => by
  obtain ⟨k, rfl, hk⟩ := of_zipOwn hb
  by_cases h1 : k < ss.length
  · exact (x.gs k _ (List.getElem?_eq_getElem h1)).plain
  · by_cases h2 : k = ss.length
    · subst h2; exact ⟨_, x.it, fun v q => nomatch q⟩
    · by_cases h3 : k = ss.length + 1
      · subst h3; obtain ⟨old, e, _⟩ := x.ow; exact ⟨_, e, fun v q => nomatch q⟩
      · have h4 : k = ss.length + 2 := by omega
        subst h4; exact ⟨_, x.z, fun v q => nomatch q⟩
theorem ZipAt.over {ss : List (Bool × Addr)} {B i : Nat} {h h' : Heap} (x : ZipAt ss B i h) (k : ∀ b ∈ zipOwn B ss.length, ∀ ob, h.get? b = some ob → h'.get? b = some ob) : ZipAt ss B i h' := by
  refine ⟨k _ (mem_zipOwn _ (by omega) (by omega)) _ x.z, k _ (mem_zipOwn _ (by omega) (by omega)) _ x.it, ?_, fun j p hp => (x.gs j p hp).over fun ob e => k _ (mem_zipOwn _ (by omega) ?_) ob e⟩
  · obtain ⟨old, e, l⟩ := x.ow
    exact ⟨old, k _ (mem_zipOwn _ (by omega) (by omega)) _ e, l⟩
  · have := (List.getElem?_eq_some_iff.mp hp).1
    omega
theorem roads_keys {h : Heap} {ss : List (Bool × Addr)} {xss : List (List V)} {ls : List Src} (z : Srcs h ss xss ls) {B j : Nat} {r : Road} (hr : (roadsOf B ls)[j]? = some r) : ss[j]? = some (r.tp, r.l) ∧ r.g = (B + j : Nat) := by
  obtain ⟨p, hp, rfl⟩ := roadsOf_get hr
  refine ⟨?_, rfl⟩
  rw [← z.keys, List.getElem?_map, hp]
  rfl
section
variable {prog : Program} {w : World} {A : Around} {E : Value → Shared → Prop} {s : Shared}
/-- pyNext of a zip -/
theorem next_zip {ss : List (Bool × Addr)} {xss : List (List V)} {ls : List Src} {B i : Nat} {Q : Option Value → Shared → Prop} (h0 : 0 < ss.length) (h8 : ss.length ≤ 8) (hB : ∀ p ∈ ss, ∃ k : Nat, p.2 = k ∧ k < B) (x : ZipAt ss B i s.heap) (z : Srcs s.heap ss xss ls)
    (yes : ∀ (us : List Value) (h' : Heap), us.length = ls.length → (∀ (m : Nat) (p : Src), ls[m]? = some p → p.2.2[i]? = us[m]?) → IsZip h' (B + ss.length + 2 : Nat) (B + ss.length : Nat) (B + ss.length + 1 : Nat) (rawInt s.heap.objs.size) →
      (∃ old, Tup h' (B + ss.length + 1 : Nat) old ∧ old.length = ss.length) → Tup h' s.heap.objs.size us → (∀ (j : Nat) (p : Bool × Addr), ss[j]? = some p → Goer p.1 h' (B + j : Nat) p.2 (i + 1)) →
      (∀ c ob, c ∉ zipOwn B ss.length → s.heap.get? c = some ob → h'.get? c = some ob) → Tup h' (B + ss.length : Nat) ((List.range ss.length).map fun j => Value.ref (B + j : Nat)) → Q (some (.ref s.heap.objs.size)) { s with heap := h' })
    (no : (∃ p ∈ ls, p.2.2[i]? = none) → A.handled = none ∧ ∀ h', (∀ c ob, c ∉ zipOwn B ss.length → s.heap.get? c = some ob → h'.get? c = some ob) → Q none { s with heap := h' }) : wpAny (model prog w) A (pyNext (.ref (B + ss.length + 2 : Nat))) Q E s := by
  have ll := z.length
  have D : Parted (roadsOf B ls) (B + ss.length + 2 : Nat) (B + ss.length : Nat) (B + ss.length + 1 : Nat) := by
    refine parted_at B ss.length _ (by rw [goers_roadsOf, ll]) fun r hr => ?_
    obtain ⟨j, hj⟩ := List.mem_iff_getElem?.mp hr
    exact hB _ (List.mem_of_getElem? (roads_keys z hj).1)
  have rl : (roadsOf B ls).length = ss.length := by rw [roadsOf_length, ll]
  have st : Stand (roadsOf B ls) s.heap fun _ => i := fun j r hr => by
    obtain ⟨k1, k2⟩ := roads_keys z hr
    obtain ⟨p, hp, e⟩ := roadsOf_get hr
    refine ⟨?_, ?_⟩
    · rw [k2]; exact x.gs j _ k1
    · rw [e]; exact (z.seqs p (List.mem_of_getElem? hp)).lies
  have gm : (roadsOf B ls).map (fun r => Value.ref r.g) = (List.range ss.length).map fun j => Value.ref (B + j : Nat) := by
    have := congrArg (List.map Value.ref) (goers_roadsOf B ls)
    rw [List.map_map, List.map_map, ll] at this
    exact this
  have apart : ∀ c, c ∉ zipOwn B ss.length → c ≠ ((B + ss.length + 2 : Nat) : Addr) ∧ c ≠ ((B + ss.length + 1 : Nat) : Addr) ∧ c ∉ goers (roadsOf B ls) := fun c hc => by
    refine ⟨fun q => hc (q ▸ mem_zipOwn _ (by omega) (by omega)), fun q => hc (q ▸ mem_zipOwn _ (by omega) (by omega)), fun q => hc ?_⟩
    rw [goers_roadsOf] at q
    obtain ⟨j, hj, rfl⟩ := List.mem_map.mp q
    have := List.mem_range.mp hj
    exact mem_zipOwn _ (by omega) (by omega)
  obtain ⟨old, hO, ol⟩ := x.ow
  have ty : s.TypeIs (.ref (B + ss.length + 2 : Nat)) "zip" := ⟨_, x.z, rfl⟩
  unfold pyNext
  refine wpAny_bind (wpAny_attempt (wpAny_callSpecial?_slot ty F.slot_zip_next (wpAny_call_entry F.slot_zip_next ty F.entry_zip_next (zip_next D x.z (by rw [gm]; exact x.it) hO (by rw [rl]; exact ol) (by rw [rl]; exact h0) (by rw [rl]; exact h8) st ?_ ?_) (F.args_zip_next_1 _))))
  · intro us h' hv hl hz hO' hT hS hsz hoth
    refine ⟨_, rfl, wpAny_pure (yes us h' (by rw [hl, rl, ll]) (fun m p hp => ?_) hz ⟨us, hO', by rw [hl, rl]⟩ hT (fun j p hp => ?_) (fun c ob hc e => ?_) ?_)⟩
    · have lt := (List.getElem?_eq_some_iff.mp hp).1
      obtain ⟨r, hr⟩ : ∃ r, (roadsOf B ls)[m]? = some r := ⟨_, List.getElem?_eq_getElem (by rw [roadsOf_length]; exact lt)⟩
      obtain ⟨p', hp', e⟩ := roadsOf_get hr
      rw [hp] at hp'
      cases hp'
      have := hv m r hr
      rw [e] at this
      exact this
    · have lt := (List.getElem?_eq_some_iff.mp hp).1
      obtain ⟨r, hr⟩ : ∃ r, (roadsOf B ls)[j]? = some r := ⟨_, List.getElem?_eq_getElem (by rw [rl]; exact lt)⟩
      obtain ⟨k1, k2⟩ := roads_keys z hr
      have q := (hS j r hr).1
      rw [hp] at k1
      cases k1
      rw [k2] at q
      exact q
    · obtain ⟨a1, a2, a3⟩ := apart c hc
      exact hoth c ob a1 a2 a3 e
    · refine hoth _ _ D.iz D.io D.ig x.it
  · rintro ⟨r, hr, hn⟩
    obtain ⟨j, hj⟩ := List.mem_iff_getElem?.mp hr
    obtain ⟨p, hp, e⟩ := roadsOf_get hj
    obtain ⟨hh, en⟩ := no ⟨p, List.mem_of_getElem? hp, by rw [e] at hn; exact hn⟩
    refine ⟨by simpa using hh, fun h' ex k ⟨oe, ee, ce⟩ => ?_⟩
    refine wpAny_bind (wpAny_isInstance (T := "StopIteration") (b := true) ⟨oe, ee, ce⟩ isSubtype_stop (wpAny_pure (en h' fun c ob hc q => ?_)))
    obtain ⟨a1, a2, a3⟩ := apart c hc
    exact k c ob a1 a2 a3 q
end
theorem turn_zipZ {P : Program} {w : World} {K : PySem.W.Frag} {elts : List Expr} {kk : Nat} {tpos : Pos} {ss : List (Bool × Addr)} {B : Nat} (h0 : 0 < ss.length) (h8 : ss.length ≤ 8) (hB : ∀ p ∈ ss, ∃ k : Nat, p.2 = k ∧ k < B) :
    Turn P w K (.Tuple elts kk tpos) (ItZ K ss) (zipOwn B ss.length) ((B + ss.length + 2 : Nat) : Addr) (fun i h => ZipAt ss B i h) where
  mem := mem_zipOwn _ (by omega) (by omega)
  obj := fun i h x => x.there
  keep := fun i h h' x k => x.over k
  item := by
    intro X hP hw hK hc i pins s σ H E I hf x hg
    subst hP hw hK
    obtain ⟨xss, ha, hi⟩ := hg
    obtain ⟨ls, z⟩ := srcs_of I ha
    have zl : ∀ b ∈ zipOwn B ss.length, b < s.heap.objs.size := fun b hb => let ⟨_, e, _⟩ := x.there b hb; Heap.lt_size e
    have zm : ((B + ss.length + 2 : Nat) : Addr) ∈ zipOwn B ss.length := mem_zipOwn _ (by omega) (by omega)
    refine next_zip h0 h8 hB x z (fun us h' ul uv hz ow hT gs k it => ?_) fun hn => ?_
    · refine ⟨_, rfl, wpAny_letOwnedTupleGo_zip (s := { s with heap := h' }) hz fun h2 z2 b2 => ?_⟩
      have hT2 : h2.get? s.heap.objs.size = some { cls := .type "tuple", data := .seq us.toArray } := (b2.2 _ (Nat.ne_of_gt (zl _ zm))).trans hT
      have va : Vals (across i xss) us := z.across i hi us ul uv
      have len : (across i xss).length ≤ 8 := by rw [va.length, ul, z.length]; exact h8
      have new : ObjOk X.prog X.w (upd H s.heap.objs.size (.tup (across i xss))) h2 s.heap.objs.size (.tup (across i xss)) := ⟨Nat.le_trans len (by decide), us, va, ⟨_, hT2, rfl, _, rfl⟩⟩
      have I1 : L2.Inv X pins σ (upd H s.heap.objs.size (.tup (across i xss))) { s with heap := h2 } :=
        I.turnedNew (t' := s.toks) (ch := zipOwn B ss.length) (fun c ob hb q => (b2.2 c (fun e => hb (e ▸ zm))).trans (k c ob hb q)) hf (Nat.le_refl _) new
      refine ⟨.ref s.heap.objs.size, _, I1, rfl, ⟨_, _, rfl, I.hok.fresh (Nat.le_refl _), rfl, fun yss hy => by rw [holdsAll_inj I ha hy]⟩, ⟨z2, ?_, ?_, fun j p hp => (gs j p hp).over fun ob e => ?_⟩, fun c hcm => ?_⟩
      · exact (b2.2 _ (PySem.W.neN (by omega))).trans it
      · obtain ⟨old, e, l⟩ := ow
        exact ⟨old, (b2.2 _ (PySem.W.neN (by omega))).trans e, l⟩
      · have lt := (List.getElem?_eq_some_iff.mp hp).1
        exact (b2.2 _ (PySem.W.neN (by omega))).trans e
      · rw [upd_ne (Nat.ne_of_lt (zl c hcm))]
        exact (hf c hcm).1
    · obtain ⟨xs, hx, l⟩ := z.short i hn
      exact absurd (hi xs hx) (Nat.not_lt.mpr l)
  done := by
    intro X hP hw hK hc i pins s σ H E I hf x hg
    subst hP hw hK
    obtain ⟨xss, ha, xs, hx, l⟩ := hg
    obtain ⟨ls, z⟩ := srcs_of I ha
    refine next_zip h0 h8 hB x z (fun us h' ul uv _ _ _ _ _ _ => ?_) fun _ => ⟨I.ok.hd hc, fun h' k => ⟨rfl, I.turnedL (t' := s.toks) (ch := zipOwn B ss.length) (fun c ob hb q => k c ob hb q) hf⟩⟩
    exfalso
    have all : ∀ {ss : List (Bool × Addr)} {xss : List (List V)} {ls : List Src}, Srcs s.heap ss xss ls → ∀ us : List Value, us.length = ls.length → (∀ (m : Nat) (p : Src), ls[m]? = some p → p.2.2[i]? = us[m]?) → ∀ xs ∈ xss, i < xs.length := by
      intro ss xss ls z
      induction z with
      | nil => intro _ _ _ xs hx; cases hx
      | cons r e z ih =>
        intro us ul uv xs hx
        cases us with
        | nil => cases ul
        | cons u us =>
          rcases List.mem_cons.mp hx with rfl | hx
          · have e0 := uv 0 _ rfl
            rw [r.length]
            exact (List.getElem?_eq_some_iff.mp (show _ = some u from e0)).1
          · exact ih us (Nat.succ.inj ul) (fun m p hp => uv (m + 1) p hp) xs hx
    exact absurd (all z us ul uv xs hx) (Nat.not_lt.mpr l)
  self := fun A i s Q E x h => wpAny_pyIter_zip x.z h
end SR
end
section
set_option Elab.async false
set_option linter.all false
set_option maxRecDepth 100000
set_option maxHeartbeats 4000000
namespace SR
open PySem PySem.Spec PyProof.Rows L2
/-- zip takes so many arguments -/
structure ZipOk (n : Nat) : Prop where
  ty : ∀ us : List Value, us.length = n → checkTypeCall "zip" ⟨us, []⟩ = pure ()
  nw : ∀ us : List Value, us.length = n → checkBuiltinCall "zip.__new__" ⟨.type "zip" :: us, []⟩ = pure ()
  ob : ∀ (us : List Value) (v : Value), us.length = n → argsOk "object.__init__" ⟨v :: us, []⟩
theorem zipOk_two : ZipOk 2 :=
  ⟨fun us h => match us, h with | [a, b], _ => F.typeCall_zip_2 a b, fun us h => match us, h with | [a, b], _ => F.newCall_zip_2 a b, fun us v h => match us, h with | [a, b], _ => F.args_object_init_3 v a b⟩
theorem zip_ty3 (a b c : Value) : checkTypeCall "zip" ⟨[a, b, c], []⟩ = pure () := by kernel_rfl
theorem zip_nw3 (a b c : Value) : checkBuiltinCall "zip.__new__" ⟨[.type "zip", a, b, c], []⟩ = pure () := by kernel_rfl
theorem zip_ob3 (v a b c : Value) : argsOk "object.__init__" ⟨[v, a, b, c], []⟩ := by
  unfold argsOk
  rw [signature?_of (id := "object.__init__") (n := "__init__".toList.reverse) (o := "object".toList.reverse) (by kernel_rfl) F.owner_object]
  kernel_rfl
theorem zipOk_three : ZipOk 3 :=
  ⟨fun us h => match us, h with | [a, b, c], _ => zip_ty3 a b c, fun us h => match us, h with | [a, b, c], _ => zip_nw3 a b c, fun us v h => match us, h with | [a, b, c], _ => zip_ob3 v a b c⟩
/-- zip(e, ..), each a list or a tuple -/
def iZipZ (n : Nat) (K : PySem.W.Frag) (ta : TA) : TI := fun σ H R => ta σ H fun vs H1 => ∃ ss xss, vs = ss.map (fun p => V.ref p.2) ∧ ss.length = n ∧ HoldsAll K H1 ss xss ∧ R (ItZ K ss) H1
theorem vals_refs : ∀ {ss : List (Bool × Addr)} {us : List Value}, Vals (ss.map fun p => V.ref p.2) us → us = ss.map fun p => Value.ref p.2
  | [], _, .nil => rfl
  | _ :: _, _, .cons r rr => by
    have e : _ = Value.ref _ := r
    rw [e, vals_refs rr]
    rfl
theorem pi_zipZ {n : Nat} (ok : ZipOk n) (h0 : 0 < n) (h8 : n ≤ 8) {X : Cx} {e : Expr} {es : List Expr} {ta : TA} {p pos tpos : Pos} {elts : List Expr} {kk : Nat} (hg : Gl X "zip") (hm : X.mg "zip" = none) (ha : PA X (e :: es) ta)
    (hs : starEach (e :: es) X.env = (false, eval e X.env) :: starEach es X.env := by rfl) (hpl : (backTo pos (starEach es X.env)).any (·.1) = false := by rfl) :
    PI X (.Tuple elts kk tpos) (.Call (.Name "zip" p) (e :: es) [] pos) (iZipZ n X.K ta) := by
  intro pins s σ H R I h
  refine Call_ (ld_blt I hg hm boot_zip5 (PyProof.Rows.callWith_type1 (thn (ha pos pins s σ H _ I h) fun us s1 ⟨vs, H1, I1, r1, q1⟩ => ?_) hs hpl))
  obtain ⟨ss, xss, ev, en, hh, q⟩ := q1
  subst ev
  have eu := vals_refs r1
  subst eu
  obtain ⟨ls, z⟩ := srcs_of I1 hh
  have ll := z.length
  have ek : ss.map (fun p => Value.ref p.2) = ls.map fun p => Value.ref p.2.1 := by rw [← z.keys, List.map_map]; rfl
  have len : (ls.map fun p => Value.ref p.2.1).length = n := by rw [List.length_map, ll, en]
  rw [ek]
  have sz : s1.heap.objs.size + ls.length + 2 = s1.heap.objs.size + ss.length + 2 := by rw [ll]
  refine call_zip (by omega) (by omega) (ok.ty _ len) (ok.nw _ len) (fun v => ok.ob _ v len) z.seqs ?_
  have g3 : (zipped s1.heap ls).get? (s1.heap.objs.size + ls.length + 2 : Nat) = some { cls := .type "zip", data := .fields #[.none, .bool false, .bool false, .ref (s1.heap.objs.size + ls.length), .ref (s1.heap.objs.size + ls.length + 1)] } := by
    have e : (s1.heap.objs.size + ls.length + 2 : Nat) = (((laid s1.heap ls).push (zipTup ((List.range ls.length).map fun j => Value.ref (s1.heap.objs.size + j)))).push (zipTup (((List.range ls.length).map fun j => Value.ref (s1.heap.objs.size + j)).map fun _ => Value.none))).objs.size := by
      simp only [Heap.size_push, laid_size]
    rw [e]
    exact Heap.get?_push_size _ rfl
  have g2 : (zipped s1.heap ls).get? (s1.heap.objs.size + ls.length + 1 : Nat) = some (zipTup (((List.range ls.length).map fun j => Value.ref (s1.heap.objs.size + j)).map fun _ => Value.none)) := by
    have e : (s1.heap.objs.size + ls.length + 1 : Nat) = ((laid s1.heap ls).push (zipTup ((List.range ls.length).map fun j => Value.ref (s1.heap.objs.size + j)))).objs.size := by
      simp only [Heap.size_push, laid_size]
    rw [e]
    exact Heap.get?_push_of_some _ (Heap.get?_push_size _ rfl)
  have g1 : (zipped s1.heap ls).get? (s1.heap.objs.size + ls.length : Nat) = some (zipTup ((List.range ls.length).map fun j => Value.ref (s1.heap.objs.size + j))) := by
    have e : (s1.heap.objs.size + ls.length : Nat) = (laid s1.heap ls).objs.size := by rw [laid_size]
    rw [e]
    exact Heap.get?_push_of_some _ (Heap.get?_push_of_some _ (Heap.get?_push_size _ rfl))
  have up : ∀ c ob, (laid s1.heap ls).get? c = some ob → (zipped s1.heap ls).get? c = some ob := fun c ob x => Heap.get?_push_of_some _ (Heap.get?_push_of_some _ (Heap.get?_push_of_some _ x))
  have k : ∀ c ob, s1.heap.get? c = some ob → (zipped s1.heap ls).get? c = some ob := fun c ob x => up c ob (laid_keep ls s1.heap c ob x)
  have I2 : L2.Inv X pins σ H1 { s1 with heap := zipped s1.heap ls } := I1.kept (t' := s1.toks) k
  rw [ll] at g1 g2 g3
  have at0 : ZipAt ss s1.heap.objs.size 0 (zipped s1.heap ls) := by
    refine ⟨g3, g1, ⟨_, g2, by rw [List.length_map, List.length_map, List.length_range]⟩, fun j p hp => ?_⟩
    have e : ∃ q, ls[j]? = some q ∧ (q.1, q.2.1) = p := by
      rw [← z.keys, List.getElem?_map] at hp
      cases c : ls[j]? with
      | none => rw [c] at hp; cases hp
      | some q => rw [c] at hp; exact ⟨q, rfl, Option.some.inj hp⟩
    obtain ⟨q, hq, rfl⟩ := e
    exact ⟨_, up _ _ (laid_at ls s1.heap j q hq), rfl, rfl⟩
  refine wpAny_pyIter_zip (TI := s1.heap.objs.size + ss.length) (TO := s1.heap.objs.size + ss.length + 1) (f0 := .none) (by rw [ll]; exact g3) ?_
  have hB : ∀ p ∈ ss, ∃ k : Nat, p.2 = k ∧ k < s1.heap.objs.size := fun p hp => by
    rw [← z.keys] at hp
    obtain ⟨q, hq, rfl⟩ := List.mem_map.mp hp
    exact ⟨q.2.1, rfl, (z.seqs q hq).lies.small⟩
  refine ⟨_, zipOwn s1.heap.objs.size ss.length, _, _, H1, by rw [ll], I2, turn_zipZ (by omega) (by omega) hB, at0, fun c hc => ?_, q⟩
  obtain ⟨j, rfl, hj⟩ := of_zipOwn hc
  have hle : s1.heap.objs.size ≤ s1.heap.objs.size + j := Nat.le_add_right _ _
  exact I1.fpOk hle (I1.hok.fresh hle)
theorem holdsAll_lengths {K : PySem.W.Frag} {H : Hp} {ss : List (Bool × Addr)} {xss : List (List V)} (h : HoldsAll K H ss xss) : xss.length = ss.length := by
  induction h with
  | nil => rfl
  | cons _ _ ih => rw [List.length_cons, List.length_cons, ih]
/-- a for over a zip of sequences of one length that the body leaves as they are -/
theorem for_zip {K : PySem.W.Frag} {ss : List (Bool × Addr)} {xss : List (List V)} {n : Nat} {g : TG} {tb : TS} {D : Ends} {σ : L2.St} {H : Hp} (h0 : 0 < xss.length) (hn : ∀ xs ∈ xss, xs.length = n) (Pv : Nat → L2.St → Hp → Prop) (p0 : Pv 0 σ H)
    (hl : ∀ i σ H, i ≤ n → Pv i σ H → HoldsAll K H ss xss)
    (hs : ∀ i T σ H, i < n → Pv i σ H → H T = none → g (.ref T) σ (upd H T (.tup (across i xss))) fun σ2 H2 => tb { D with nx := Pv (i + 1), ct := Pv (i + 1), bk := D.nx } σ2 H2) (hd : ∀ σ H, Pv n σ H → D.nx σ H) :
    ∃ W : Nat → Nat → L2.St → Hp → Prop, (∃ m, W 0 m σ H) ∧ ∀ i m σ H, W i m σ H →
      ((ItZ K ss).stop i H ∧ D.nx σ H) ∨ ((ItZ K ss).go i H ∧ ∃ N : L2.St → Hp → Prop, (∀ σ' H', N σ' H' → ∃ m', m' < m ∧ W (i + 1) m' σ' H') ∧ ∀ x H', (ItZ K ss).yld i H x H' → g x σ H' fun σ2 H2 => tb { D with nx := N, ct := N, bk := D.nx } σ2 H2) := by
  refine ⟨fun i m σ H => m = n - i ∧ i ≤ n ∧ Pv i σ H, ⟨n, rfl, Nat.zero_le _, p0⟩, ?_⟩
  rintro i m σ H ⟨rfl, hi, p⟩
  have q := hl i σ H hi p
  by_cases lt : i < n
  · refine .inr ⟨⟨xss, q, fun xs hx => by rw [hn xs hx]; exact lt⟩, Pv (i + 1), fun σ' H' p' => ⟨n - (i + 1), by omega, rfl, lt, p'⟩, fun x H' y => ?_⟩
    obtain ⟨T, ys, rfl, hT, rfl, hy⟩ := y
    rw [hy xss q]
    exact hs i T σ H lt p hT
  · have e : i = n := by omega
    subst e
    cases xss with
    | nil => cases h0
    | cons xs r => exact .inl ⟨⟨_, q, xs, List.mem_cons_self, by rw [hn xs List.mem_cons_self]; exact Nat.le_refl _⟩, hd σ H p⟩
end SR
end
section
set_option Elab.async false
set_option linter.all false
set_option maxRecDepth 100000
set_option maxHeartbeats 4000000
namespace SR
open PySem PySem.Spec PyProof.Rows L2

section
variable {P : Program} {w : World} {H : Hp} {h : Heap} {a : Addr}
theorem items_int {P : Program} {w : World} : ∀ {ks : List Int} {us : List Value}, Vals (ks.map V.int) us → ItemsAre (PySem.intKind P w) ks us
  | [], us, r => by
    rw [List.map_nil] at r
    cases r
    exact .nil
  | k :: ks, us, r => by
    rw [List.map_cons] at r
    cases r with
    | cons r t =>
      obtain ⟨t', rfl⟩ := r
      exact .cons (intKind_is _ _ _ _) (items_int t)
theorem key_any {k : List Int} (ok : HOk P w H h) (e : H a = some (.tup (k.map V.int))) (P' : Program) (w' : World) : ST.Key P' w' h k a := by
  obtain ⟨_, its, r, o, h1, h2, n, h3⟩ := (show ObjOk P w H h a (.tup (k.map V.int)) from ok a _ e)
  exact ⟨o, its.toArray, n, h1, h2, h3, by simpa using items_int r⟩
theorem vals_ref : ∀ {as : List Addr} {us : List Value}, Vals (as.map V.ref) us → us = as.map Value.ref
  | [], us, r => by
    rw [List.map_nil] at r
    cases r
    rfl
  | a :: as, us, r => by
    rw [List.map_cons] at r
    cases r with
    | cons r t =>
      have e : _ = Value.ref a := r
      rw [e, vals_ref t]
      rfl
theorem ref_vals : ∀ (as : List Addr), Vals (as.map V.ref) (as.map Value.ref)
  | [] => .nil
  | a :: as => .cons rfl (ref_vals as)
end
section
variable {X : Cx}
/-! ### set(..) of a list of tuples of ints, sorted(..) of such a set -/
def SetHO (w : World) (a : Addr) (bs : List Addr) : HO := .ext fun h => ST.SetAt (ST.ledOf w) h a bs
def rSet (w : World) (K : PySem.W.Frag) : List V → Hp → VK → Prop := fun xs H Q => ∃ (p : Addr) (as : List Addr) (key : Addr → List Int), xs = [.ref p] ∧ SqL K H p (as.map V.ref) ∧ (∀ a ∈ as, H a = some (.tup ((key a).map V.int))) ∧ as.length ≤ 780 ∧
  ∀ (l : Addr) (bs : List Addr), H l = none → ST.Part key as as.length bs → Q (.ref l) (upd H l (SetHO w l bs))
theorem cr_set (hc : X.calm = true) (hu : X.A.units + 64 < cLine) : CallR X (.type "set") (rSet X.w X.K) := by
  intro pins s σ H vs us Q I r h
  obtain ⟨p, as, key, rfl, hs, hk, hn, q⟩ := h
  obtain ⟨its, rv, hl, _⟩ := I.list hs
  rw [Vals.ref1 r]
  have e := vals_ref rv
  subst e
  refine ST.call_set (I.ok.hd hc) (by omega) hl.isList (fun a ha => key_any I.hok (hk a ha) _ _) hn fun h' tk bs hS hP kp => ?_
  refine ⟨.ref s.heap.objs.size, upd H s.heap.objs.size (SetHO X.w s.heap.objs.size bs), I.laid (fun b o e => kp b o (Heap.lt_size e) e) (Nat.le_refl _) ⟨hS, ?_, fun h1 h2 x k => x.at k⟩, rfl, q _ bs (I.hok.fresh (Nat.le_refl _)) hP⟩
  obtain ⟨o, _, _, _, ho, _⟩ := hS
  exact ⟨o, ho⟩
def rSortedSet (w : World) : List V → Hp → VK → Prop := fun xs H Q => ∃ (a : Addr) (bs : List Addr) (key : Addr → List Int), xs = [.ref a] ∧ H a = some (SetHO w a bs) ∧ (∀ b ∈ bs, H b = some (.tup ((key b).map V.int)) ∧ key b ≠ []) ∧
  ∀ (l : Addr) (ds : List Addr), H l = none → ds.Perm bs → (ds.Pairwise fun a b => ST.KeyLe (key a) (key b)) → Q (.ref l) (upd H l (.lst (ds.map V.ref)))
theorem cr_sortedSet (hc : X.calm = true) : CallR X (.builtin "sorted") (rSortedSet X.w) := by
  intro pins s σ H vs us Q I r h
  obtain ⟨a, bs, key, rfl, ha, hk, q⟩ := h
  rw [Vals.ref1 r]
  obtain ⟨hS, _, _⟩ := (show ObjOk X.prog X.w H s.heap a (SetHO X.w a bs) from I.hok a _ ha)
  have hlen : bs.length ≤ sizeLine := by
    obtain ⟨o, es, ep, t, ho, hex, hd, ok, hes⟩ := hS
    have l2 : es.size = bs.length := by have := congrArg List.length hes; simpa using this
    have := ok.room
    have := SP.mask_le ok.mask
    have := sizeLine_eq
    omega
  refine ST.sorted_set (I.ok.hd hc) hS (fun b hb => ⟨key_any I.hok (hk b hb).1 _ _, (hk b hb).2⟩) fun h' tk l ds e p w k sz g => ?_
  exact ⟨.ref l, upd H l (.lst (ds.map V.ref)), I.laid k sz ⟨by rw [List.length_map, p.length_eq]; exact hlen, ds.map Value.ref, e, ref_vals ds, g⟩, rfl, q l ds (I.hok.fresh sz) p w⟩

/-! ### a tuple of ints not in a list of such -/
def rNotInT (K : PySem.W.Frag) : R2 := fun x y H Q => ∃ (a p : Addr) (as : List Addr) (key : Addr → List Int), x = .ref a ∧ y = .ref p ∧ SqL K H p (as.map V.ref) ∧ H a = some (.tup ((key a).map V.int)) ∧ (∀ b ∈ as, H b = some (.tup ((key b).map V.int))) ∧
  Q (.bl (!(as.any fun b => decide (key b = key a)))) H
theorem op_notInT (hu : X.A.units + 64 < cLine) : OpR X (compareOp .NotIn) (rNotInT X.K) := by
  intro pins s σ H x y v u Q I rx ry h
  obtain ⟨a, p, as, key, rfl, rfl, hs, ha, hk, q⟩ := h
  cases rx
  cases ry
  obtain ⟨its, rv, hl, _⟩ := I.list hs
  have e := vals_ref rv
  subst e
  refine SeqAt.notIn_listAt (fun u => match u with | .ref b => decide (key b = key a) | _ => false) hl.isList (fun w hw => ?_) ⟨.bl _, H, I, rfl, ?_⟩
  · obtain ⟨b, hb, rfl⟩ := List.mem_map.mp (show w ∈ as.map Value.ref by simpa using hw)
    intro prog w E Q' hq
    exact wpAny_eqBool_tuple (knd := PySem.intKind prog w) (by rw [ST.in1_units]; omega) (key_any I.hok (hk b hb) _ _) (key_any I.hok ha _ _) hq
  · have : (as.map Value.ref).toArray.any (fun u => match u with | .ref b => decide (key b = key a) | _ => false) = as.any fun b => decide (key b = key a) := by
      rw [← Array.any_toList, List.toList_toArray, List.any_map]
      rfl
    rw [this]
    exact q

/-! ### {k: v}, k a tuple of ints and texts -/
def tDispT (tk tv : TE) : TE := fun σ H Q => ∀ p, H p = none → tk σ (upd H p (.dT [])) fun x H1 => tv σ H1 fun y H2 => H2 p = some (.dT []) ∧ ∃ b ks, x = .ref b ∧ H2 b = some (.tup (ks.map kV)) ∧ Q (.ref p) (upd H2 p (.dT [(ks, y)]))
theorem pe_dispT (hu : X.A.units + 64 < cLine) {k v : Expr} {tk tv : TE} {pos : Pos} (hk : PE X k tk) (hv : PE X v tv) : PE X (.Dict [some k] [v] pos) (tDispT tk tv) := by
  intro pins s σ H Q I q
  have hn := I.hok.fresh (Nat.le_refl s.heap.objs.size)
  have I1 := I.laid (a := s.heap.objs.size) (o := .dT []) (h' := s.heap.push { cls := .type "dict", data := .dict #[] }) (t' := s.toks) (fun _ _ q => Heap.get?_push_of_some _ q) (Nat.le_refl _) (dt_empty s.heap I.big)
  refine wpAny_Dict_any rfl rfl (by simp) (by show 1 ≤ 15; decide) (pairTrees_cons_walk (thn (hk pins _ σ _ _ I1 (q _ hn)) fun u s1 ⟨x, H1, I2, rx, q1⟩ => thn (hv pins s1 σ H1 _ I2 q1) fun w2 s2 ⟨y, H2, I3, ry, e, b, ks, ex, eb, q2⟩ => pairTrees_nil_walk ?_))
  subst ex
  obtain rfl : u = Value.ref b := rx
  obtain ⟨z, hd, xs, rel, dd⟩ := dt_of I3.hok e
  have hz : xs.length ≤ sizeLine := by rw [← Paired.length rel]; exact z
  unfold storeAll
  rw [List.forIn_cons]
  refine wpAny_bind (wpAny_bind (wpAny_dictSet_heap (hsz := hz) (knd := tupleKind (mixKind X.prog X.w)) (show X.A.units < cLine by omega) (key_of I3.hok eb) dd fun h' dd' hs => wpAny_pure ?_))
  dsimp only
  rw [List.forIn_nil]
  refine wpAny_pure ⟨.ref s.heap.objs.size, _, ?_, rfl, q2⟩
  obtain ⟨o, es, ep, hq, h2, h3, h4, _, h5⟩ := dd'
  have put : KT H2 (putK [] ks y) (storedH xs ks b w2) := rel.put ks eb ry
  have one : putK ([] : List (List Key × V)) ks y = [(ks, y)] := rfl
  rw [one] at put
  refine d_write I3 (by rw [e]; exact True.intro) hs ⟨o, hq⟩ ⟨by show 1 ≤ sizeLine; decide, hd, _, put.keeps fun c ys ec => ?_, o, es, ep, hq, h2, h3, h4, h5⟩
  rw [upd_ne (ne_of ec e (fun z => nomatch z))]
  exact ec

/-! ### a call of a function that a name of the frame holds -/
theorem ld_loc {pins : List (Addr × Obj)} {s : Shared} {σ : L2.St} {H : Hp} {i : Nat} {x : Str} {v : V} {pos : Pos} {Q : Value → Shared → Prop} {E : Value → Shared → Prop} (I : L2.Inv X pins σ H s) (hN : X.N[i]? = some x) (hv : Vis X.env.scope x) (e : σ[i]? = some (some v)) (h : ∀ u, RelV v u → Q u s)
    (hd : (x == ("__debug__" : Str)) = false := by decide) (hcd : (x == ("__classdict__" : Str)) = false := by decide) : wpAny (model X.prog X.w) X.A (eval (.Name x pos) X.env) Q E s := by
  obtain ⟨m, hn, hl⟩ := I.loc
  obtain ⟨u, r, l⟩ := hl i x v hN e hv
  rcases l with ⟨hk, hm⟩ | ⟨hk, c, hc, hcell⟩
  · exact wpAny_Name (wpAny_loadName_local I.ok.kind hk hn hm (h u r)) hd
  · rcases hk with hk | hk
    · exact wpAny_Name (wpAny_loadName_cell I.ok.kind hk hc hcell (h u r)) hd
    · exact wpAny_Name (wpAny_loadName_free I.ok.kind hk hc hcell (h u r) hcd) hd
def tCallL (X : Cx) (CX : CXT) (i : Nat) (E : XK) (t : TA) : TE := fun σ H Q => ∃ (f : Addr) (k : Nat) (fd : FuncData) (ps : List Str) (sp : Sp), σ[i]? = some (some (.ref f)) ∧ FnOk X.prog X.w X.K X.mg X.base CX k f fd ps sp ∧ Room k X.A ∧ PySem.W.keepIn X.K (.ref f) = true ∧ Binds X.K fd ps [] ∧
  t σ H fun vs H1 => sp vs H1 Q E
theorem pe_callL {CX : CXT} {i : Nat} {x : Str} {p pos : Pos} {e : Expr} {es : List Expr} {t : TA} {E : XK} (hN : X.N[i]? = some x) (hv : Vis X.env.scope x) (hx : Passes CX X E) (ha : PA X (e :: es) t)
    (hd : (x == ("__debug__" : Str)) = false := by decide) (hcd : (x == ("__classdict__" : Str)) = false := by decide)
    (he : starEach (e :: es) X.env = (false, eval e X.env) :: starEach es X.env := by rfl) (hpl : (backTo pos (starEach es X.env)).any (·.1) = false := by rfl) : PE X (.Call (.Name x p) (e :: es) [] pos) (tCallL X CX i E t) := by
  intro pins s σ H Q I h
  obtain ⟨f, k, fd, ps, sp, ef, F, hr, hk, hb, h⟩ := h
  refine wpAny_Call_Name_kw (ld_loc I hN hv ef (fun u r => ?_) hd hcd)
  obtain rfl : u = Value.ref f := r
  refine PySem.W.callWith_K (h₀ := X.base) I.ok.mod.kin hk (thn (ha pos pins s σ H _ I h) fun us s1 ⟨vs, H1, I1, r, q⟩ => ⟨I1.kIn, ?_⟩) he hpl
  exact run_fn (dvs := []) (ds := []) F hr hb .nil hx I1 r (by rw [List.append_nil]; exact q)
end
/-! ### comprehensions over zip and enumerate -/
theorem lc_zip {K : PySem.W.Frag} {ss : List (Bool × Addr)} {xss : List (List V)} {n : Nat} {g : TG} {tt : TT} {te : TE} {vs : List Nat} {σ : L2.St} {H1 : Hp} {D : Addr} {Qd : Hp → Prop} (h0 : 0 < xss.length) (hn : ∀ xs ∈ xss, xs.length = n) (Pv : Nat → Hp → Prop) (p0 : Pv 0 (upd H1 D (.lst [])))
    (hl : ∀ i H, i ≤ n → Pv i H → HoldsAll K H ss xss)
    (hs : ∀ i T H, i < n → Pv i H → H T = none → g (.ref T) (wipe σ vs) (upd H T (.tup (across i xss))) fun σ2 H2 => wipe σ2 vs = wipe σ vs ∧ tt σ2 H2 fun b H3 =>
      if b = true then te σ2 H3 fun y H4 => ∃ acc, H4 D = some (.lst acc) ∧ acc.length < sizeLine ∧ Pv (i + 1) (upd H4 D (.lst (acc ++ [y]))) else Pv (i + 1) H3) (hd : ∀ H, Pv n H → Qd H) :
    ∃ W : Nat → Nat → Hp → Prop, (∃ m, W 0 m (upd H1 D (.lst []))) ∧ ∀ i m H, W i m H →
      ((ItZ K ss).stop i H ∧ Qd H) ∨ ((ItZ K ss).go i H ∧ ∃ Nx : Hp → Prop, (∀ H', Nx H' → ∃ m', m' < m ∧ W (i + 1) m' H') ∧ ∀ x H', (ItZ K ss).yld i H x H' → g x (wipe σ vs) H' fun σ2 H2 => wipe σ2 vs = wipe σ vs ∧ tt σ2 H2 fun b H3 =>
        if b = true then te σ2 H3 fun y H4 => ∃ acc, H4 D = some (.lst acc) ∧ acc.length < sizeLine ∧ Nx (upd H4 D (.lst (acc ++ [y]))) else Nx H3) := by
  refine ⟨fun i m H => m = n - i ∧ i ≤ n ∧ Pv i H, ⟨n, by simp, Nat.zero_le _, p0⟩, ?_⟩
  rintro i m H ⟨rfl, hi, p⟩
  have q := hl i H hi p
  by_cases hlt : i < n
  · refine .inr ⟨⟨xss, q, fun xs hx => by rw [hn xs hx]; exact hlt⟩, Pv (i + 1), fun H' p' => ⟨n - (i + 1), by omega, rfl, hlt, p'⟩, fun x H' y => ?_⟩
    obtain ⟨T, ys, rfl, hT, rfl, hy⟩ := y
    rw [hy xss q]
    exact hs i T H hlt p hT
  · have e : i = n := by omega
    subst e
    cases xss with
    | nil => cases h0
    | cons xs r => exact .inl ⟨⟨_, q, xs, List.mem_cons_self, by rw [hn xs List.mem_cons_self]; exact Nat.le_refl _⟩, hd H p⟩
theorem lc_enum {K : PySem.W.Frag} {a : Addr} {xs : List V} {g : TG} {tt : TT} {te : TE} {vs : List Nat} {σ : L2.St} {H1 : Hp} {D : Addr} {Qd : Hp → Prop} (Pv : Nat → Hp → Prop) (p0 : Pv 0 (upd H1 D (.lst [])))
    (hl : ∀ i H, i ≤ xs.length → Pv i H → SqL K H a xs)
    (hs : ∀ i x T H, xs[i]? = some x → Pv i H → H T = none → g (.ref T) (wipe σ vs) (upd H T (.tup [.int (i : Nat), x])) fun σ2 H2 => wipe σ2 vs = wipe σ vs ∧ tt σ2 H2 fun b H3 =>
      if b = true then te σ2 H3 fun y H4 => ∃ acc, H4 D = some (.lst acc) ∧ acc.length < sizeLine ∧ Pv (i + 1) (upd H4 D (.lst (acc ++ [y]))) else Pv (i + 1) H3) (hd : ∀ H, Pv xs.length H → Qd H) :
    ∃ W : Nat → Nat → Hp → Prop, (∃ m, W 0 m (upd H1 D (.lst []))) ∧ ∀ i m H, W i m H →
      ((Ite K a).stop i H ∧ Qd H) ∨ ((Ite K a).go i H ∧ ∃ Nx : Hp → Prop, (∀ H', Nx H' → ∃ m', m' < m ∧ W (i + 1) m' H') ∧ ∀ x H', (Ite K a).yld i H x H' → g x (wipe σ vs) H' fun σ2 H2 => wipe σ2 vs = wipe σ vs ∧ tt σ2 H2 fun b H3 =>
        if b = true then te σ2 H3 fun y H4 => ∃ acc, H4 D = some (.lst acc) ∧ acc.length < sizeLine ∧ Nx (upd H4 D (.lst (acc ++ [y]))) else Nx H3) := by
  refine ⟨fun i m H => m = xs.length - i ∧ i ≤ xs.length ∧ Pv i H, ⟨xs.length, by simp, Nat.zero_le _, p0⟩, ?_⟩
  rintro i m H ⟨rfl, hi, p⟩
  have q := hl i H hi p
  by_cases hlt : i < xs.length
  · refine .inr ⟨⟨xs, xs[i], q, List.getElem?_eq_getElem hlt⟩, Pv (i + 1), fun H' p' => ⟨xs.length - (i + 1), by omega, rfl, hlt, p'⟩, fun x H' y => ?_⟩
    obtain ⟨T, z, rfl, hT, rfl, hz⟩ := y
    exact hs i z T H (hz xs q) p hT
  · have e : i = xs.length := by omega
    subst e
    exact .inl ⟨⟨xs, q, Nat.le_refl _⟩, hd H p⟩
/-- over reversed(a list), backwards -/
theorem for_rev {K : PySem.W.Frag} {a : Addr} {xs : List V} {g : TG} {tb : TS} {D : Ends} {σ : L2.St} {H : Hp} (Pv : Nat → L2.St → Hp → Prop) (h0 : Pv 0 σ H) (hl : ∀ i σ H, i ≤ xs.length → Pv i σ H → SqL K H a xs)
    (hs : ∀ i x σ H, i < xs.length → xs[xs.length - 1 - i]? = some x → Pv i σ H → g x σ H fun σ2 H2 => tb { D with nx := Pv (i + 1), ct := Pv (i + 1), bk := D.nx } σ2 H2) (hd : ∀ σ H, Pv xs.length σ H → D.nx σ H) :
    ∃ W : Nat → Nat → L2.St → Hp → Prop, (∃ m, W 0 m σ H) ∧ ∀ i m σ H, W i m σ H →
      ((Itv K a xs.length).stop i H ∧ D.nx σ H) ∨ ((Itv K a xs.length).go i H ∧ ∃ N : L2.St → Hp → Prop, (∀ σ' H', N σ' H' → ∃ m', m' < m ∧ W (i + 1) m' σ' H') ∧ ∀ x H', (Itv K a xs.length).yld i H x H' → g x σ H' fun σ2 H2 => tb { D with nx := N, ct := N, bk := D.nx } σ2 H2) := by
  refine ⟨fun i m σ H => m = xs.length - i ∧ i ≤ xs.length ∧ Pv i σ H, ⟨xs.length, by simp, Nat.zero_le _, h0⟩, ?_⟩
  rintro i m σ H ⟨rfl, hi, p⟩
  have q := hl i σ H hi p
  by_cases hlt : i < xs.length
  · have hx : xs.length - 1 - i < xs.length := by omega
    refine .inr ⟨⟨hlt, xs, xs[xs.length - 1 - i], q, List.getElem?_eq_getElem hx⟩, Pv (i + 1), fun σ' H' p' => ⟨xs.length - (i + 1), by omega, rfl, hlt, p'⟩, fun x H' y => ?_⟩
    obtain ⟨e, y⟩ := y
    subst e
    exact hs i x σ _ hlt (y xs q) p
  · have e : i = xs.length := by omega
    subst e
    exact .inl ⟨Nat.le_refl _, hd σ H p⟩
end SR
end
section
set_option Elab.async false
set_option linter.all false
set_option maxRecDepth 100000
set_option maxHeartbeats 4000000
namespace SR
open PySem PySem.Spec PyProof.Rows L2
open Kcx0 (State Step_ within can_ done before)

def top (i : Nat) : Stmt := PySem.Challenge.pw_stockruns_s01_answers.main.body.getD i (.Pass ⟨0, 0, 0, 0⟩)
abbrev zi (s : State) : List Int := s.map fun (n : Nat) => (n : Int)
abbrev iv (s : State) : List V := (zi s).map V.int
theorem iv_length (s : State) : (iv s).length = s.length := by simp [iv, zi]
theorem iv_get {s : State} {i : Nat} {n : Nat} (h : s[i]? = some n) : (iv s)[i]? = some (.int n) := by simp [iv, zi, h]
theorem zi_inj : ∀ {a b : State}, zi a = zi b → a = b
  | [], [], _ => rfl
  | [], _ :: _, h => by simp at h
  | _ :: _, [], h => by simp at h
  | x :: a, y :: b, h => by
    simp only [zi, List.map_cons, List.cons.injEq] at h
    rw [show x = y by omega, zi_inj h.2]
theorem _root_.L2.Same.upd {H : Hp} {a : Addr} {o : HO} (h : H a = none) : Same H (L2.upd H a o) := fun b u e => by rw [upd_ne (ne_of_none e h)]; exact e
theorem _root_.L2.Same.put {H H' : Hp} {a : Addr} {o : HO} (s : Same H H') (h : H a = none) : Same H (L2.upd H' a o) := fun b u e => by rw [upd_ne (ne_of_none e h)]; exact s b u e
theorem _root_.L2.Same.tup {K : PySem.W.Frag} {H H' : Hp} {a : Addr} {xs : List V} (e : Same H H') (h : SqT K H a xs) : SqT K H' a xs := by
  rcases h with (h | ⟨o, h⟩) | h
  · exact .inl (.inl (e _ _ h))
  · exact .inl (.inr ⟨o, e _ _ h⟩)
  · exact .inr h
theorem _root_.L2.Same.holds {tp : Bool} {K : PySem.W.Frag} {H H' : Hp} {a : Addr} {xs : List V} (e : Same H H') (h : Holds tp K H a xs) : Holds tp K H' a xs := by
  cases tp with
  | true => exact e.tup h
  | false => exact e.seq h

/-! ### what the module has -/
structure Txt (K : PySem.W.Frag) (mg : Str → Option Value) : Prop where
  zip : mg "zip" = none
  len : mg "len" = none
  max : mg "max" = none
  min : mg "min" = none
  sum : mg "sum" = none
  any : mg "any" = none
  tuple : mg "tuple" = none
  list : mg "list" = none
  set : mg "set" = none
  sorted : mg "sorted" = none
  reversed : mg "reversed" = none
  enumerate : mg "enumerate" = none
section
variable {P : Program} {w : World} {K : PySem.W.Frag} {mg : Str → Option Value} {base : Heap}
/-! ### has -/
abbrev sHas : Stmt := top 8
def spHas (K : PySem.W.Frag) : Sp := fun vs H Q _ => ∃ (a b : Addr) (ta tb : Bool) (s t : State), vs = [.ref a, .ref b] ∧ Holds ta K H a (iv s) ∧ Holds tb K H b (iv t) ∧ t.length = s.length ∧ ∀ H', Same H H' → Q (.bl (within t s)) H'
theorem scHas : FnScope ["state", "wanted", "there", "asked"] ["state", "wanted"] (defScope sHas) := ⟨rfl, rfl, rfl, by decide +kernel, rfl, by decide +kernel, by decide +kernel⟩
theorem within_take : ∀ {t s : State} {i : Nat} {x y : Nat}, t[i]? = some x → s[i]? = some y → within (t.take (i + 1)) (s.take (i + 1)) = (within (t.take i) (s.take i) && decide (x ≤ y))
  | [], _, _, _, _, h, _ => by simp at h
  | _ :: _, [], _, _, _, _, h => by simp at h
  | a :: t, b :: s, 0, x, y, h1, h2 => by
    simp only [List.getElem?_cons_zero, Option.some.injEq] at h1 h2
    subst h1 h2
    simp [within]
  | a :: t, b :: s, i + 1, x, y, h1, h2 => by
    have ih := within_take (t := t) (s := s) (i := i) (x := x) (y := y) (by simpa using h1) (by simpa using h2)
    simp only [List.take_succ_cons, SM.within_cons, ih, Bool.and_assoc]
theorem within_false : ∀ {t s : State} {i : Nat} {x y : Nat}, t[i]? = some x → s[i]? = some y → y < x → within t s = false
  | [], _, _, _, _, h, _, _ => by simp at h
  | _ :: _, [], _, _, _, _, h, _ => by simp at h
  | a :: t, b :: s, 0, x, y, h1, h2, l => by
    simp only [List.getElem?_cons_zero, Option.some.injEq] at h1 h2
    subst h1 h2
    rw [SM.within_cons, decide_eq_false (by omega), Bool.false_and]
  | a :: t, b :: s, i + 1, x, y, h1, h2, l => by
    rw [SM.within_cons, within_false (t := t) (s := s) (i := i) (by simpa using h1) (by simpa using h2) l, Bool.and_false]
theorem ok_has {f : Addr} {fd : FuncData} (F : Fun K "has" "has" sHas f fd) (T : Txt K mg) : FnOk P w K mg base CX0 1 f fd ["state", "wanted"] (spHas K) := by
  refine F.ok scHas (fun vs H Q E h => ?_) (fun cdv A outer s0 H vs Q E hr h => ?_)
  · obtain ⟨a, b, _, _, _, _, rfl, _⟩ := h
    rfl
  · obtain ⟨a, b, ta, tb, s, t, rfl, ha, hb, hl, k⟩ := h
    refine ⟨_, pss_cons (ps_for PassesOwn.never rfl (pi_zipZ zipOk_two (by decide) (by decide) rfl T.zip (pa_cons (pv 0) (pa_cons (pv 1) pa_nil))) (pg_tup rfl (pgs_cons (pg_name (i := 2) scHas.nd rfl (Or.inl rfl)) (pgs_cons (pg_name (i := 3) scHas.nd rfl (Or.inl rfl)) pgs_nil)))
      (pss_one (ps_if (pt_cmpR op_lt (pv 2) (pv 3) (nomark _)) (pss_one (ps_ret pe_bl)) pss_nil))) (pss_one (ps_ret pe_bl)), ?_⟩
    refine ⟨_, rfl, _, rfl, [(ta, a), (tb, b)], [iv s, iv t], rfl, rfl, .cons ha (.cons hb .nil), ?_⟩
    refine for_zip (n := s.length) (by show 0 < 2; decide) (fun xs hx => ?_) (fun i σ H' => ∃ v2 v3, σ = [some (.ref a), some (.ref b), v2, v3] ∧ Same H H' ∧ within (t.take i) (s.take i) = true) ⟨none, none, rfl, Same.refl H, SM.within_nil _⟩
      (fun i σ H' _ ⟨_, _, _, s1, _⟩ => .cons (s1.holds ha) (.cons (s1.holds hb) .nil)) ?_ ?_
    · rcases List.mem_cons.mp hx with rfl | hx
      · exact iv_length s
      · rcases List.mem_cons.mp hx with rfl | hx
        · rw [iv_length, hl]
        · cases hx
    · rintro i Tp σ H' hi ⟨v2, v3, rfl, s1, wt⟩ hT
      have es : s[i]? = some s[i] := List.getElem?_eq_getElem hi
      have et : t[i]? = some t[i] := List.getElem?_eq_getElem (by omega)
      have e : across i [iv s, iv t] = [V.int (s[i] : Nat), V.int (t[i] : Nat)] := by
        show [(iv s)[i]?.getD .non, (iv t)[i]?.getD .non] = _
        rw [iv_get es, iv_get et]; rfl
      rw [e]
      have s2 : Same H (L2.upd H' Tp (.tup [V.int (s[i] : Nat), V.int (t[i] : Nat)])) := s1.trans (Same.upd hT)
      refine ⟨Tp, _, rfl, SqT.of upd_same, rfl, _, _, rfl, _, _, rfl, rfl, ?_⟩
      refine ⟨_, rfl, _, rfl, _, _, rfl, rfl, _, rfl, ite2 (fun c => ?_) (fun c => ?_)⟩
      · have c' : ((s[i] : Nat) : Int) < (t[i] : Nat) := by simpa using c
        have := k _ s2
        rw [within_false et es (by omega)] at this
        exact this
      · have c' : ¬ ((s[i] : Nat) : Int) < (t[i] : Nat) := by simpa using c
        exact ⟨_, _, rfl, s2, by rw [within_take et es, wt]; simp; omega⟩
    · rintro σ H' ⟨v2, v3, rfl, s1, wt⟩
      rw [List.take_of_length_le (by omega), List.take_of_length_le (by omega)] at wt
      have := k _ s1
      rw [wt] at this
      exact this
end
end SR
end
section
set_option Elab.async false
set_option linter.all false
set_option maxRecDepth 100000
set_option maxHeartbeats 4000000
namespace SR
open PySem PySem.Spec PyProof.Rows L2
open Kcx0 (State Step_ within can_ done before)

/-- a def that may be called -/
structure Callee (P : Program) (w : World) (K : PySem.W.Frag) (mg : Str → Option Value) (base : Heap) (k : Nat) (f : Addr) (ps : List Str) (sp : Sp) : Prop where
  ex : ∃ fd, FnOk P w K mg base CX0 k f fd ps sp ∧ Binds K fd ps []
  kp : PySem.W.keepIn K (.ref f) = true

/-! ### the class Step -/
def stepF (t g : Addr) : List (Str × V) := putF "gives" (.ref g) (putF "takes" (.ref t) [])
theorem stepF_takes (t g : Addr) : (stepF t g).lookup ("takes" : Str) = some (.ref t) := by
  unfold stepF
  rw [lookup_putF, if_neg (by decide +kernel), lookup_putF, if_pos rfl]
theorem stepF_gives (t g : Addr) : (stepF t g).lookup ("gives" : Str) = some (.ref g) := by
  unfold stepF
  rw [lookup_putF, if_pos rfl]
theorem stepF_no (t g : Addr) {m : Str} (h1 : ¬ m = "takes") (h2 : ¬ m = "gives") : (stepF t g).lookup m = none := by
  unfold stepF
  rw [lookup_putF, if_neg h2, lookup_putF, if_neg h1]
  rfl
def StepAt (C : Addr) (H : Hp) (a : Addr) (p : Step_) : Prop := ∃ dx t g, H a = some (.ins C dx (stepF t g)) ∧ H t = some (.lst (iv p.takes)) ∧ H g = some (.lst (iv p.gives))
theorem StepAt.same {C : Addr} {H H' : Hp} {a : Addr} {p : Step_} (h : StepAt C H a p) (s : Same H H') : StepAt C H' a p := by
  obtain ⟨dx, t, g, h1, h2, h3⟩ := h
  exact ⟨dx, t, g, s _ _ h1, s _ _ h2, s _ _ h3⟩
structure TxtS (K : PySem.W.Frag) (mg : Str → Option Value) (C fh fw : Addr) : Prop where
  cl : Cls K C
  nT : NoAttr K C "takes"
  nG : NoAttr K C "gives"
  has : mg "has" = some (.ref fh)
  weigh : mg "weigh" = some (.ref fw)
abbrev sSInit : Stmt := inClass (top 10) 0
abbrev sCan : Stmt := inClass (top 10) 1
abbrev sBehind : Stmt := inClass (top 10) 2
abbrev sAhead : Stmt := inClass (top 10) 3
abbrev sKeepsSum : Stmt := inClass (top 10) 4
abbrev sWeigh : Stmt := top 9
section
variable {P : Program} {w : World} {K : PySem.W.Frag} {mg : Str → Option Value} {base : Heap} {C fh fw : Addr}
def spSInit (C : Addr) : Sp := fun vs H Q _ => ∃ (p dx t g : Addr), vs = [.ref p, .ref t, .ref g] ∧ H p = some (.ins C dx []) ∧ ∀ H' : Hp, H' p = some (.ins C dx (stepF t g)) → (∀ b o, H b = some o → b ≠ p → H' b = some o) → Q .non H'
theorem scSInit : FnScope ["self", "takes", "gives"] ["self", "takes", "gives"] (defScope sSInit) := ⟨rfl, rfl, rfl, by decide +kernel, rfl, by decide +kernel, by decide +kernel⟩
theorem ok_sInit {f : Addr} {fd : FuncData} (F : Fun K "__init__" "Step.__init__" sSInit f fd) (T : TxtS K mg C fh fw) : FnOk P w K mg base CX0 1 f fd ["self", "takes", "gives"] (spSInit C) := by
  refine F.ok scSInit (fun vs H Q E h => ?_) (fun cdv A outer s H vs Q E hr h => ?_)
  · obtain ⟨p, dx, t, g, rfl, _⟩ := h
    rfl
  · obtain ⟨p, dx, t, g, rfl, hp, k⟩ := h
    refine ⟨_, pss_cons (ps_fld (pv 0) (pv 1) rfl) (pss_one (ps_fld (pv 0) (pv 2) rfl)), ?_⟩
    refine ⟨_, rfl, _, rfl, p, C, dx, [], rfl, hp, T.cl, T.nT, (by show 0 < 1000; decide), ?_⟩
    refine ⟨_, rfl, _, rfl, p, C, dx, _, rfl, upd_same, T.cl, T.nG, (by show 1 < 1000; decide), ?_⟩
    exact k _ upd_same fun b o e hb => by rw [upd_ne hb, upd_ne hb]; exact e
def spCan (C : Addr) (K : PySem.W.Frag) : Sp := fun vs H Q _ => ∃ (a b : Addr) (tb : Bool) (p : Step_) (s : State), vs = [.ref a, .ref b] ∧ StepAt C H a p ∧ Holds tb K H b (iv s) ∧ p.takes.length = s.length ∧ ∀ H', Same H H' → Q (.bl (can_ p s)) H'
theorem scCan : FnScope ["self", "state"] ["self", "state"] (defScope sCan) := ⟨rfl, rfl, rfl, by decide +kernel, rfl, by decide +kernel, by decide +kernel⟩
theorem ok_can {f : Addr} {fd : FuncData} (F : Fun K "can_be_done" "Step.can_be_done" sCan f fd) (T : TxtS K mg C fh fw) (Gh : Callee P w K mg base 1 fh ["state", "wanted"] (spHas K)) : FnOk P w K mg base CX0 2 f fd ["self", "state"] (spCan C K) := by
  obtain ⟨fdh, G, b⟩ := Gh.ex
  refine F.ok scCan (fun vs H Q E h => ?_) (fun cdv A outer s0 H vs Q E hr h => ?_)
  · obtain ⟨a, b, _, _, _, rfl, _⟩ := h
    rfl
  · obtain ⟨a, c, tb, p, s, rfl, ⟨dx, t, g, h1, h2, h3⟩, hs, hl, k⟩ := h
    refine ⟨_, pss_one (ps_ret (pe_call G hr rfl T.has Gh.kp b .nil pass0 (pa_cons (pv 1) (pa_cons (pe_fld (pv 0) rfl) pa_nil)))), ?_⟩
    refine ⟨_, rfl, _, rfl, a, C, dx, _, _, rfl, h1, T.cl, T.nT, stepF_takes _ _, ?_⟩
    exact ⟨c, t, tb, false, s, p.takes, rfl, hs, SqL.of h2, hl, k⟩
theorem done_get {p : Step_} {s : State} {i x y z : Nat} (h1 : s[i]? = some x) (h2 : p.takes[i]? = some y) (h3 : p.gives[i]? = some z) : (done p s)[i]? = some (x - y + z) := by
  have e : (s.zip (p.takes.zip p.gives))[i]? = some (x, (y, z)) := List.getElem?_zip_eq_some.mpr ⟨h1, (List.getElem?_zip_eq_some (z := (y, z))).mpr ⟨h2, h3⟩⟩
  unfold done
  rw [List.getElem?_map, e]
  rfl
theorem before_get {p : Step_} {s : State} {i x y z : Nat} (h1 : s[i]? = some x) (h2 : p.takes[i]? = some y) (h3 : p.gives[i]? = some z) : (before p s)[i]? = some ((x - z) + y) := by
  have e : (s.zip (p.takes.zip p.gives))[i]? = some (x, (y, z)) := List.getElem?_zip_eq_some.mpr ⟨h1, (List.getElem?_zip_eq_some (z := (y, z))).mpr ⟨h2, h3⟩⟩
  unfold before
  rw [List.getElem?_map, e]
  rfl
theorem within_get : ∀ {t s : State} {i x y : Nat}, within t s = true → t[i]? = some x → s[i]? = some y → x ≤ y := fun {t s i x y} h h1 h2 => by
  rcases Nat.lt_or_ge y x with z | z
  · rw [within_false h1 h2 z] at h; cases h
  · exact z
theorem take_more {α : Type} {l : List α} {i : Nat} {x : α} (h : l[i]? = some x) : l.take (i + 1) = l.take i ++ [x] := by
  rw [List.take_add_one, h]; rfl
def spBehind (C : Addr) (K : PySem.W.Frag) : Sp := fun vs H Q _ => ∃ (a b : Addr) (tb : Bool) (p : Step_) (s : State), vs = [.ref a, .ref b] ∧ StepAt C H a p ∧ Holds tb K H b (iv s) ∧ SM.StepN s.length p ∧ s.length ≤ 1000 ∧ can_ p s = true ∧
  ∀ H' l, Same H H' → H l = none → H' l = some (.tup (iv (done p s))) → Q (.ref l) H'
theorem scBehind : FnScope ["self", "state", "there", "taken", "given"] ["self", "state"] (defScope sBehind) := ⟨rfl, rfl, rfl, by decide +kernel, rfl, by decide +kernel, by decide +kernel⟩
theorem ok_behind {f : Addr} {fd : FuncData} (F : Fun K "state_behind" "Step.state_behind" sBehind f fd) (T : Txt K mg) (TS : TxtS K mg C fh fw) : FnOk P w K mg base CX0 1 f fd ["self", "state"] (spBehind C K) := by
  refine F.ok scBehind (fun vs H Q E h => ?_) (fun cdv A outer s0 H vs Q E hr h => ?_)
  · obtain ⟨a, b, _, _, _, rfl, _⟩ := h
    rfl
  · obtain ⟨a, c, tb, p, s, rfl, ⟨dx, t, g, h1, h2, h3⟩, hs, hn, h1000, hc, k⟩ := h
    refine ⟨_, pss_one (ps_ret (pe_callTy call_tuple_of rfl T.tuple PyProof.Rows.boot_tuple (pa_cons (pe_lc (g := gTup K 3 (gCons (gName 2) (gCons (gName 3) (gCons (gName 4) gNil)))) (own := [("there", 2), ("taken", 3), ("given", 4)]) rfl scBehind.nd
      (pi_zipZ zipOk_three (by decide) (by decide) rfl T.zip (pa_cons (pv 1) (pa_cons (pe_fld (pv 0) rfl) (pa_cons (pe_fld (pv 0) rfl) pa_nil)))) (by show BlkOk ["self", "state", "there", "taken", "given"] (defScope sBehind) _ _; exact blkOk_by (by decide +kernel))
      (fun _ _ _ _ _ => pg_tup rfl (pgs_cons (pg_name (i := 2) scBehind.nd rfl (Or.inl rfl) (Or.inr rfl)) (pgs_cons (pg_name (i := 3) scBehind.nd rfl (Or.inl rfl) (Or.inr rfl)) (pgs_cons (pg_name (i := 4) scBehind.nd rfl (Or.inl rfl) (Or.inr rfl)) pgs_nil))))
      (fun _ _ _ _ _ => pts_nil) (fun _ _ _ _ _ => pe_op op_add (pe_op op_sub (pv 2) (pv 3)) (pv 4))) pa_nil))), ?_⟩
    refine ⟨_, rfl, _, rfl, a, C, dx, _, _, rfl, h1, TS.cl, TS.nT, stepF_takes _ _, _, rfl, a, C, dx, _, _, rfl, h1, TS.cl, TS.nG, stepF_gives _ _, ?_⟩
    refine ⟨[(tb, c), (false, t), (false, g)], [iv s, iv p.takes, iv p.gives], rfl, rfl, .cons hs (.cons (SqL.of h2) (.cons (SqL.of h3) .nil)), ?_⟩
    intro D hD
    have ld : (done p s).length = s.length := SM.done_length hn rfl
    refine lc_zip (n := s.length) (by show 0 < 3; decide) (fun xs hx => ?_) (fun i H' => Same H H' ∧ H' D = some (.lst (iv ((done p s).take i)))) ⟨Same.upd hD, upd_same⟩
      (fun i H' _ ⟨s1, _⟩ => .cons (s1.holds hs) (.cons (s1.seq (SqL.of h2)) (.cons (s1.seq (SqL.of h3)) .nil))) ?_ ?_
    · simp only [List.mem_cons, List.not_mem_nil, or_false] at hx
      rcases hx with rfl | rfl | rfl
      · exact iv_length s
      · rw [iv_length, hn.1]
      · rw [iv_length, hn.2]
    · rintro i Tp H' hi ⟨s1, hD1⟩ hT
      have es : s[i]? = some s[i] := List.getElem?_eq_getElem hi
      have et : p.takes[i]? = some (p.takes[i]'(by rw [hn.1]; exact hi)) := List.getElem?_eq_getElem _
      have eg : p.gives[i]? = some (p.gives[i]'(by rw [hn.2]; exact hi)) := List.getElem?_eq_getElem _
      have le := within_get hc et es
      have dg := done_get es et eg
      generalize p.takes[i]'(by rw [hn.1]; exact hi) = y at *
      generalize p.gives[i]'(by rw [hn.2]; exact hi) = z at *
      generalize s[i] = x at *
      have e : across i [iv s, iv p.takes, iv p.gives] = [V.int (x : Nat), V.int (y : Nat), V.int (z : Nat)] := by
        show [(iv s)[i]?.getD .non, (iv p.takes)[i]?.getD .non, (iv p.gives)[i]?.getD .non] = _
        rw [iv_get es, iv_get et, iv_get eg]; rfl
      rw [e]
      have nTD : Tp ≠ D := fun q => by rw [q, hD1] at hT; cases hT
      refine ⟨Tp, _, rfl, SqT.of upd_same, rfl, _, _, rfl, _, _, rfl, _, _, rfl, rfl, rfl, ?_⟩
      unfold tYes
      refine iteT ?_
      refine ⟨_, rfl, _, rfl, _, _, rfl, rfl, _, rfl, _, _, rfl, rfl, _, (by rw [upd_ne (Ne.symm nTD)]; exact hD1), ?_, ?_, ?_⟩
      · rw [iv_length, List.length_take]
        exact Nat.lt_of_le_of_lt (Nat.min_le_right _ _) (by rw [ld]; exact small1000 h1000)
      · exact (s1.trans (Same.upd hT)).put hD
      · have ev : ((x - y + z : Nat) : Int) = (x : Int) - y + z := by omega
        rw [upd_same, take_more dg]
        simp only [iv, zi, List.map_append, List.map_cons, List.map_nil, ev]
    · rintro H' ⟨s1, hD1⟩
      rw [List.take_of_length_le (by omega)] at hD1
      refine ⟨D, _, rfl, .inl ⟨SqL.of hD1, fun l hl => ?_⟩⟩
      exact k _ l (s1.trans (Same.upd hl)) (s1.free hl) upd_same

def spAhead (C : Addr) (K : PySem.W.Frag) : Sp := fun vs H Q _ => ∃ (a b : Addr) (tb : Bool) (p : Step_) (s : State), vs = [.ref a, .ref b] ∧ StepAt C H a p ∧ Holds tb K H b (iv s) ∧ SM.StepN s.length p ∧ s.length ≤ 1000 ∧
  ∀ H' l, Same H H' → H l = none → H' l = some (.tup (iv (before p s))) → Q (.ref l) H'
theorem scAhead : FnScope ["self", "wanted", "asked", "taken", "given"] ["self", "wanted"] (defScope sAhead) := ⟨rfl, rfl, rfl, by decide +kernel, rfl, by decide +kernel, by decide +kernel⟩
theorem ok_ahead {f : Addr} {fd : FuncData} (F : Fun K "least_ahead" "Step.least_ahead" sAhead f fd) (T : Txt K mg) (TS : TxtS K mg C fh fw) : FnOk P w K mg base CX0 1 f fd ["self", "wanted"] (spAhead C K) := by
  refine F.ok scAhead (fun vs H Q E h => ?_) (fun cdv A outer s0 H vs Q E hr h => ?_)
  · obtain ⟨a, b, _, _, _, rfl, _⟩ := h
    rfl
  · obtain ⟨a, c, tb, p, s, rfl, ⟨dx, t, g, h1, h2, h3⟩, hs, hn, h1000, k⟩ := h
    refine ⟨_, pss_one (ps_ret (pe_callTy call_tuple_of rfl T.tuple PyProof.Rows.boot_tuple (pa_cons (pe_lc (g := gTup K 3 (gCons (gName 2) (gCons (gName 3) (gCons (gName 4) gNil)))) (own := [("asked", 2), ("taken", 3), ("given", 4)]) rfl scAhead.nd
      (pi_zipZ zipOk_three (by decide) (by decide) rfl T.zip (pa_cons (pv 1) (pa_cons (pe_fld (pv 0) rfl) (pa_cons (pe_fld (pv 0) rfl) pa_nil)))) (by show BlkOk ["self", "wanted", "asked", "taken", "given"] (defScope sAhead) _ _; exact blkOk_by (by decide +kernel))
      (fun _ _ _ _ _ => pg_tup rfl (pgs_cons (pg_name (i := 2) scAhead.nd rfl (Or.inl rfl) (Or.inr rfl)) (pgs_cons (pg_name (i := 3) scAhead.nd rfl (Or.inl rfl) (Or.inr rfl)) (pgs_cons (pg_name (i := 4) scAhead.nd rfl (Or.inl rfl) (Or.inr rfl)) pgs_nil))))
      (fun _ _ _ _ _ => pts_nil) (fun _ _ _ _ _ => pe_op op_add (pv 3) (pe_callB (call_max2 rfl) (by rfl) T.max PyProof.Rows.boot_max (pa_cons pe_int (pa_cons (pe_op op_sub (pv 2) (pv 4)) pa_nil))))) pa_nil))), ?_⟩
    refine ⟨_, rfl, _, rfl, a, C, dx, _, _, rfl, h1, TS.cl, TS.nT, stepF_takes _ _, _, rfl, a, C, dx, _, _, rfl, h1, TS.cl, TS.nG, stepF_gives _ _, ?_⟩
    refine ⟨[(tb, c), (false, t), (false, g)], [iv s, iv p.takes, iv p.gives], rfl, rfl, .cons hs (.cons (SqL.of h2) (.cons (SqL.of h3) .nil)), ?_⟩
    intro D hD
    have ld : (before p s).length = s.length := SM.before_length hn rfl
    refine lc_zip (n := s.length) (by show 0 < 3; decide) (fun xs hx => ?_) (fun i H' => Same H H' ∧ H' D = some (.lst (iv ((before p s).take i)))) ⟨Same.upd hD, upd_same⟩
      (fun i H' _ ⟨s1, _⟩ => .cons (s1.holds hs) (.cons (s1.seq (SqL.of h2)) (.cons (s1.seq (SqL.of h3)) .nil))) ?_ ?_
    · simp only [List.mem_cons, List.not_mem_nil, or_false] at hx
      rcases hx with rfl | rfl | rfl
      · exact iv_length s
      · rw [iv_length, hn.1]
      · rw [iv_length, hn.2]
    · rintro i Tp H' hi ⟨s1, hD1⟩ hT
      have es : s[i]? = some s[i] := List.getElem?_eq_getElem hi
      have et : p.takes[i]? = some (p.takes[i]'(by rw [hn.1]; exact hi)) := List.getElem?_eq_getElem _
      have eg : p.gives[i]? = some (p.gives[i]'(by rw [hn.2]; exact hi)) := List.getElem?_eq_getElem _
      have dg := before_get es et eg
      generalize p.takes[i]'(by rw [hn.1]; exact hi) = y at *
      generalize p.gives[i]'(by rw [hn.2]; exact hi) = z at *
      generalize s[i] = x at *
      have e : across i [iv s, iv p.takes, iv p.gives] = [V.int (x : Nat), V.int (y : Nat), V.int (z : Nat)] := by
        show [(iv s)[i]?.getD .non, (iv p.takes)[i]?.getD .non, (iv p.gives)[i]?.getD .non] = _
        rw [iv_get es, iv_get et, iv_get eg]; rfl
      rw [e]
      have nTD : Tp ≠ D := fun q => by rw [q, hD1] at hT; cases hT
      refine ⟨Tp, _, rfl, SqT.of upd_same, rfl, _, _, rfl, _, _, rfl, _, _, rfl, rfl, rfl, ?_⟩
      unfold tYes
      refine iteT ?_
      refine ⟨_, rfl, _, rfl, _, rfl, _, _, rfl, rfl, _, _, rfl, _, _, rfl, rfl, _, (by rw [upd_ne (Ne.symm nTD)]; exact hD1), ?_, ?_, ?_⟩
      · rw [iv_length, List.length_take]
        exact Nat.lt_of_le_of_lt (Nat.min_le_right _ _) (by rw [ld]; exact small1000 h1000)
      · exact (s1.trans (Same.upd hT)).put hD
      · have ev : ((x - z + y : Nat) : Int) = (y : Int) + (if (x : Int) - z > 0 then (x : Int) - z else 0) := by split <;> omega
        rw [upd_same, take_more dg]
        simp only [iv, zi, List.map_append, List.map_cons, List.map_nil, ev]
    · rintro H' ⟨s1, hD1⟩
      rw [List.take_of_length_le (by omega)] at hD1
      refine ⟨D, _, rfl, .inl ⟨SqL.of hD1, fun l hl => ?_⟩⟩
      exact k _ l (s1.trans (Same.upd hl)) (s1.free hl) upd_same
/-! weigh, keeps_sum -/
def spWeigh : Sp := fun vs H Q _ => ∃ (a b : Addr) (r : State) (ws : List Int), vs = [.ref a, .ref b] ∧ H a = some (.lst (iv r)) ∧ H b = some (.lst (ws.map V.int)) ∧ ws.length = r.length ∧ r.length ≤ 1000 ∧ (∀ x ∈ r, x ≤ 1000) ∧ ∀ H', Same H H' → Q (.int (Kcx0.dot ws r)) H'
theorem scWeigh : FnScope ["row", "weights", "much", "weight"] ["row", "weights"] (defScope sWeigh) := ⟨rfl, rfl, rfl, by decide +kernel, rfl, by decide +kernel, by decide +kernel⟩
def prods (r : State) (ws : List Int) : List Int := (r.zip ws).map fun x => ((x.1 : Nat) : Int) * x.2
theorem prods_get {r : State} {ws : List Int} {i x : Nat} {y : Int} (h1 : r[i]? = some x) (h2 : ws[i]? = some y) : (prods r ws)[i]? = some ((x : Int) * y) := by
  unfold prods
  have e : (r.zip ws)[i]? = some (x, y) := List.getElem?_zip_eq_some.mpr ⟨h1, h2⟩
  rw [List.getElem?_map, e]
  rfl
theorem ok_weigh {f : Addr} {fd : FuncData} (F : Fun K "weigh" "weigh" sWeigh f fd) (T : Txt K mg) : FnOk P w K mg base CX0 1 f fd ["row", "weights"] spWeigh := by
  refine F.ok scWeigh (fun vs H Q E h => ?_) (fun cdv A outer s0 H vs Q E hr h => ?_)
  · obtain ⟨a, b, _, _, rfl, _⟩ := h
    rfl
  · obtain ⟨a, b, r, ws, rfl, ha, hb, hl, h1000, hx, k⟩ := h
    refine ⟨_, pss_one (ps_ret (pe_callB (cr_sum rfl) (by rfl) T.sum PyProof.Rows.boot_sum (pa_cons (pe_lc (g := gTup K 2 (gCons (gName 2) (gCons (gName 3) gNil))) (own := [("much", 2), ("weight", 3)]) rfl scWeigh.nd
      (pi_zipZ zipOk_two (by decide) (by decide) rfl T.zip (pa_cons (pv 0) (pa_cons (pv 1) pa_nil))) (by show BlkOk ["row", "weights", "much", "weight"] (defScope sWeigh) _ _; exact blkOk_by (by decide +kernel))
      (fun _ _ _ _ _ => pg_tup rfl (pgs_cons (pg_name (i := 2) scWeigh.nd rfl (Or.inl rfl) (Or.inr rfl)) (pgs_cons (pg_name (i := 3) scWeigh.nd rfl (Or.inl rfl) (Or.inr rfl)) pgs_nil)))
      (fun _ _ _ _ _ => pts_nil) (fun _ _ _ _ _ => pe_op op_mul (pv 2) (pv 3))) pa_nil))), ?_⟩
    refine ⟨_, rfl, _, rfl, [(false, a), (false, b)], [iv r, ws.map V.int], rfl, rfl, .cons (SqL.of ha) (.cons (SqL.of hb) .nil), ?_⟩
    intro D hD
    have lp : (prods r ws).length = r.length := by simp [prods, hl]
    refine lc_zip (n := r.length) (by show 0 < 2; decide) (fun xs hx => ?_) (fun i H' => Same H H' ∧ H' D = some (.lst (((prods r ws).take i).map V.int))) ⟨Same.upd hD, upd_same⟩
      (fun i H' _ ⟨s1, _⟩ => .cons (s1.seq (SqL.of ha)) (.cons (s1.seq (SqL.of hb)) .nil)) ?_ ?_
    · simp only [List.mem_cons, List.not_mem_nil, or_false] at hx
      rcases hx with rfl | rfl
      · exact iv_length r
      · rw [List.length_map, hl]
    · rintro i Tp H' hi ⟨s1, hD1⟩ hT
      have es : r[i]? = some r[i] := List.getElem?_eq_getElem hi
      have et : ws[i]? = some (ws[i]'(by rw [hl]; exact hi)) := List.getElem?_eq_getElem _
      have bx := hx _ (List.mem_of_getElem? es)
      have dg := prods_get es et
      generalize ws[i]'(by rw [hl]; exact hi) = y at *
      generalize r[i] = x at *
      have e : across i [iv r, ws.map V.int] = [V.int (x : Nat), V.int y] := by
        show [(iv r)[i]?.getD .non, (ws.map V.int)[i]?.getD .non] = _
        rw [iv_get es, List.getElem?_map, et]; rfl
      rw [e]
      have nTD : Tp ≠ D := fun q => by rw [q, hD1] at hT; cases hT
      refine ⟨Tp, _, rfl, SqT.of upd_same, rfl, _, _, rfl, _, _, rfl, rfl, rfl, ?_⟩
      unfold tYes
      refine iteT ?_
      refine ⟨_, rfl, _, rfl, _, _, rfl, rfl, .inl ⟨by omega, by omega⟩, _, (by rw [upd_ne (Ne.symm nTD)]; exact hD1), ?_, ?_, ?_⟩
      · rw [List.length_map, List.length_take]
        exact Nat.lt_of_le_of_lt (Nat.min_le_right _ _) (by rw [lp]; exact small1000 h1000)
      · exact (s1.trans (Same.upd hT)).put hD
      · rw [upd_same, take_more dg]
        simp only [List.map_append, List.map_cons, List.map_nil]
    · rintro H' ⟨s1, hD1⟩
      rw [List.take_of_length_le (by omega)] at hD1
      refine ⟨D, _, rfl, SqL.of hD1, ?_⟩
      have := k _ s1
      rw [SM.dot_eq] at this
      exact this
def spKeepsSum (C : Addr) : Sp := fun vs H Q _ => ∃ (a b : Addr) (p : Step_) (ws : List Int), vs = [.ref a, .ref b] ∧ StepAt C H a p ∧ H b = some (.lst (ws.map V.int)) ∧ SM.StepN ws.length p ∧ ws.length ≤ 1000 ∧ (∀ x ∈ p.takes, x ≤ 1000) ∧ (∀ x ∈ p.gives, x ≤ 1000) ∧
  ∀ H', Same H H' → Q (.bl (Kcx0.dot ws p.takes == Kcx0.dot ws p.gives)) H'
theorem scKeepsSum : FnScope ["self", "weights"] ["self", "weights"] (defScope sKeepsSum) := ⟨rfl, rfl, rfl, by decide +kernel, rfl, by decide +kernel, by decide +kernel⟩
theorem ok_keepsSum {f : Addr} {fd : FuncData} (F : Fun K "keeps_sum" "Step.keeps_sum" sKeepsSum f fd) (T : TxtS K mg C fh fw) (Gw : Callee P w K mg base 1 fw ["row", "weights"] spWeigh) : FnOk P w K mg base CX0 2 f fd ["self", "weights"] (spKeepsSum C) := by
  obtain ⟨fdw, G, b⟩ := Gw.ex
  refine F.ok scKeepsSum (fun vs H Q E h => ?_) (fun cdv A outer s0 H vs Q E hr h => ?_)
  · obtain ⟨a, b, _, _, rfl, _⟩ := h
    rfl
  · obtain ⟨a, c, p, ws, rfl, ⟨dx, t, g, h1, h2, h3⟩, hc, hn, h1000, ht, hg, k⟩ := h
    refine ⟨_, pss_one (ps_ret (pe_cmp (pc_eqI (pe_call G hr rfl T.weigh Gw.kp b .nil pass0 (pa_cons (pe_fld (pv 0) rfl) (pa_cons (pv 1) pa_nil))) (pe_call G hr rfl T.weigh Gw.kp b .nil pass0 (pa_cons (pe_fld (pv 0) rfl) (pa_cons (pv 1) pa_nil)))))), ?_⟩
    refine ⟨_, rfl, a, C, dx, _, _, rfl, h1, T.cl, T.nG, stepF_gives _ _, _, rfl, g, c, p.gives, ws, rfl, h3, hc, hn.2.symm, by rw [hn.2]; exact h1000, hg, fun H1 s1 => ?_⟩
    refine ⟨_, rfl, a, C, dx, _, _, rfl, s1 _ _ h1, T.cl, T.nT, stepF_takes _ _, _, rfl, t, c, p.takes, ws, rfl, s1 _ _ h2, s1 _ _ hc, hn.1.symm, by rw [hn.1]; exact h1000, ht, fun H2 s2 => ?_⟩
    refine ⟨_, _, rfl, rfl, ?_⟩
    have := k _ (s1.trans s2)
    have e : (Kcx0.dot ws p.takes == Kcx0.dot ws p.gives) = decide (Kcx0.dot ws p.gives = Kcx0.dot ws p.takes) := by
      rw [Bool.eq_iff_iff]; simp; exact eq_comm
    rw [e] at this
    exact this
end
end SR
end
section
set_option Elab.async false
set_option linter.all false
set_option maxRecDepth 100000
set_option maxHeartbeats 4000000
namespace SR
open PySem PySem.Spec PyProof.Rows L2
open Kcx0 (State Step_ within can_ done before)

/-! ### states as tuples -/
abbrev TupAt (H : Hp) (a : Addr) (s : State) : Prop := H a = some (.tup (iv s))
/-- tuples of these states lie at these places -/
inductive Tups (H : Hp) : List Addr → List State → Prop
  | nil : Tups H [] []
  | cons {a : Addr} {s : State} {as : List Addr} {ss : List State} : TupAt H a s → Tups H as ss → Tups H (a :: as) (s :: ss)
theorem Tups.same {H H' : Hp} {as : List Addr} {ss : List State} (h : Tups H as ss) (e : Same H H') : Tups H' as ss := by
  induction h with
  | nil => exact .nil
  | cons h _ ih => exact .cons (e _ _ h) ih
theorem Tups.length {H : Hp} {as : List Addr} {ss : List State} (h : Tups H as ss) : as.length = ss.length := by
  induction h with
  | nil => rfl
  | cons _ _ ih => rw [List.length_cons, List.length_cons, ih]
theorem Tups.get {H : Hp} : ∀ {as : List Addr} {ss : List State} {i : Nat} {a : Addr}, Tups H as ss → as[i]? = some a → ∃ s, ss[i]? = some s ∧ TupAt H a s
  | _, _, _, _, .nil, e => by simp at e
  | _, _, 0, _, .cons h _, e => by simp at e; subst e; exact ⟨_, rfl, h⟩
  | _, _, i + 1, _, .cons _ t, e => by
    obtain ⟨s, h1, h2⟩ := t.get (i := i) (by simpa using e)
    exact ⟨s, by simpa using h1, h2⟩
theorem Tups.append {H : Hp} {as bs : List Addr} {ss ts : List State} (h : Tups H as ss) (h' : Tups H bs ts) : Tups H (as ++ bs) (ss ++ ts) := by
  induction h with
  | nil => exact h'
  | cons a _ ih => exact .cons a ih
theorem Tups.mem {H : Hp} {as : List Addr} {ss : List State} (h : Tups H as ss) {a : Addr} (ha : a ∈ as) : ∃ s ∈ ss, TupAt H a s := by
  obtain ⟨i, hi⟩ := List.mem_iff_getElem?.mp ha
  obtain ⟨s, h1, h2⟩ := h.get hi
  exact ⟨s, List.mem_of_getElem? h1, h2⟩
theorem Tups.mem' {H : Hp} {as : List Addr} {ss : List State} (h : Tups H as ss) {s : State} (hs : s ∈ ss) : ∃ a ∈ as, TupAt H a s := by
  induction h with
  | nil => cases hs
  | cons h _ ih =>
    rcases List.mem_cons.mp hs with rfl | hs
    · exact ⟨_, List.mem_cons_self, h⟩
    · obtain ⟨a, ha, t⟩ := ih hs
      exact ⟨a, List.mem_cons_of_mem _ ha, t⟩
theorem tupAt_inj {H : Hp} {a : Addr} {s t : State} (h : TupAt H a s) (h' : TupAt H a t) : s = t := by
  have e := h.symm.trans h'
  have e2 : iv s = iv t := HO.tup.inj (Option.some.inj e)
  exact zi_inj ((List.map_inj_right (fun a b h => V.int.inj h)).mp e2)
/-- a list of states: a list of tuples -/
def StatesAt (H : Hp) (l : Addr) (ss : List State) : Prop := ∃ as, H l = some (.lst (as.map V.ref)) ∧ Tups H as ss
theorem StatesAt.same {H H' : Hp} {l : Addr} {ss : List State} (h : StatesAt H l ss) (e : Same H H') : StatesAt H' l ss := by
  obtain ⟨as, h1, h2⟩ := h
  exact ⟨as, e _ _ h1, h2.same e⟩
/-- the module's numbers -/
def Num (mg : Str → Option Value) (x : Str) (n : Int) : Prop := ∃ t, mg x = some (.int n t)
theorem pe_num {X : Cx} {x : Str} {n : Int} {pos : Pos} (hg : Gl X x) (hm : Num X.mg x n) (hd : (x == ("__debug__" : Str)) = false := by decide) : PE X (.Name x pos) (tC (.int n)) := by
  obtain ⟨t, e⟩ := hm
  exact pe_glob (v := .int n) hg e ⟨t, rfl⟩ hd
structure TxtR (mg : Str → Option Value) (fo fl fm : Addr) : Prop where
  one : mg "has_one_of" = some (.ref fo)
  least : mg "least_of" = some (.ref fl)
  more : mg "one_more_round" = some (.ref fm)
  m60 : Num mg "MOST_LEAST_STATES" 60
  m200 : Num mg "MOST_ROUNDS" 200
abbrev sHasOne : Stmt := top 14
section
variable {P : Program} {w : World} {K : PySem.W.Frag} {mg : Str → Option Value} {base : Heap} {C fh fw fo fl : Addr}
def spHasOne (K : PySem.W.Frag) : Sp := fun vs H Q _ => ∃ (a l : Addr) (s : State) (ws : List State), vs = [.ref a, .ref l] ∧ Holds true K H a (iv s) ∧ StatesAt H l ws ∧ SM.LenN s.length ws ∧ ∀ H', Same H H' → Q (.bl (Kcx0.has ws s)) H'
theorem scHasOne : FnScope ["state", "least", "wanted"] ["state", "least"] (defScope sHasOne) := ⟨rfl, rfl, rfl, by decide +kernel, rfl, by decide +kernel, by decide +kernel⟩
theorem map_get {α β : Type} {f : α → β} {l : List α} {i : Nat} {y : β} (h : (l.map f)[i]? = some y) : ∃ x, l[i]? = some x ∧ y = f x := by
  rw [List.getElem?_map] at h
  cases e : l[i]? with
  | none => rw [e] at h; cases h
  | some x => rw [e] at h; exact ⟨x, rfl, (Option.some.inj h).symm⟩
theorem ok_hasOne {f : Addr} {fd : FuncData} (F : Fun K "has_one_of" "has_one_of" sHasOne f fd) (T : TxtS K mg C fh fw) (Gh : Callee P w K mg base 1 fh ["state", "wanted"] (spHas K)) : FnOk P w K mg base CX0 2 f fd ["state", "least"] (spHasOne K) := by
  obtain ⟨fdh, G, b⟩ := Gh.ex
  refine F.ok scHasOne (fun vs H Q E h => ?_) (fun cdv A outer s0 H vs Q E hr h => ?_)
  · obtain ⟨a, l, _, _, rfl, _⟩ := h
    rfl
  · obtain ⟨a, l, s, ws, rfl, ha, ⟨as, h1, h2⟩, hn, k⟩ := h
    refine ⟨_, pss_cons (ps_for PassesOwn.never rfl (pi_list (pv 1)) (pg_name (i := 2) scHasOne.nd rfl (Or.inl rfl))
      (pss_one (ps_if (pt_val (pe_call G hr rfl T.has Gh.kp b .nil pass0 (pa_cons (pv 0) (pa_cons (pv 2) pa_nil)))) (pss_one (ps_ret pe_bl)) pss_nil))) (pss_one (ps_ret pe_bl)), ?_⟩
    refine ⟨_, rfl, l, rfl, ⟨_, SqL.of h1⟩, for_list (K := K) (a := l) (xs := as.map V.ref) (fun i σ H' => ∃ v2, σ = [some (.ref a), some (.ref l), v2] ∧ Same H H' ∧ Kcx0.has (ws.take i) s = false) ⟨none, rfl, Same.refl H, rfl⟩
      (fun i σ H' _ ⟨_, _, s1, _⟩ => s1.seq (SqL.of h1)) ?_ ?_⟩
    · rintro i y σ H' hi ⟨v2, rfl, s1, hf⟩
      obtain ⟨c, hc, rfl⟩ := map_get hi
      obtain ⟨t, ht, tt⟩ := h2.get hc
      refine ⟨_, rfl, _, rfl, a, c, true, true, s, t, rfl, s1.holds ha, SqT.of (s1 _ _ tt), hn t (List.mem_of_getElem? ht), fun H2 s2 => ?_⟩
      refine ⟨_, rfl, ite2 (fun q => ?_) (fun q => ?_)⟩
      · have e : Kcx0.has ws s = true := SM.has_iff.mpr ⟨t, List.mem_of_getElem? ht, q⟩
        have := k _ (s1.trans s2)
        rw [e] at this
        exact this
      · refine ⟨_, rfl, s1.trans s2, ?_⟩
        rw [take_more ht]
        unfold Kcx0.has at hf ⊢
        rw [List.any_append, hf]
        simpa using q
    · rintro σ H' ⟨v2, rfl, s1, hf⟩
      rw [List.length_map, h2.length, List.take_length] at hf
      have := k _ s1
      rw [hf] at this
      exact this

/-! ### least_of -/
def keyOf (H : Hp) (a : Addr) : List Int := match H a with
  | some (.tup xs) => xs.filterMap fun v => match v with
    | .int i => some i
    | _ => none
  | _ => []
theorem keyOf_at {H : Hp} {a : Addr} {s : State} (h : TupAt H a s) : keyOf H a = zi s := by
  unfold keyOf
  rw [h]
  dsimp only
  rw [List.filterMap_map]
  exact List.filterMap_some
def stateOf (H : Hp) (a : Addr) : State := (keyOf H a).map Int.toNat
theorem stateOf_at {H : Hp} {a : Addr} {s : State} (h : TupAt H a s) : stateOf H a = s := by
  unfold stateOf
  rw [keyOf_at h, List.map_map]
  exact List.map_id' s
theorem tups_of {H : Hp} : ∀ {as : List Addr}, (∀ a ∈ as, ∃ s, TupAt H a s) → Tups H as (as.map (stateOf H))
  | [], _ => .nil
  | a :: as, h => by
    obtain ⟨s, hs⟩ := h a (by simp)
    rw [List.map_cons, stateOf_at hs]
    exact .cons hs (tups_of fun b hb => h b (by simp [hb]))
theorem lex_within : ∀ {a b : State}, a.length = b.length → within b a = true → lexLt itemOrd (ST.keyI (zi b)) (ST.keyI (zi a)) = false → b = a
  | [], [], _, _, _ => rfl
  | [], _ :: _, h, _, _ => by simp at h
  | _ :: _, [], h, _, _ => by simp at h
  | x :: a, y :: b, h, hw, hl => by
    rw [SM.within_cons, Bool.and_eq_true] at hw
    have hle : y ≤ x := by simpa using hw.1
    have hl' : lexLt itemOrd (Sum.inl (y : Int) :: ST.keyI (zi b)) (Sum.inl (x : Int) :: ST.keyI (zi a)) = false := hl
    obtain ⟨h1, h2⟩ := (lex_false (O := itemOrd)).mp hl'
    have h1' : decide ((y : Int) < (x : Int)) = false := h1
    have e : x = y := by have := of_decide_eq_false h1'; omega
    subst e
    rcases h2 with h2 | h2
    · have : decide ((x : Int) < (x : Int)) = true := h2
      have := of_decide_eq_true this
      omega
    · rw [lex_within (by simpa using h) hw.2 h2]
theorem sortedW_of {H : Hp} {n : Nat} {ds : List Addr} (h : ∀ d ∈ ds, ∃ s, TupAt H d s ∧ s.length = n) (p : ds.Pairwise fun a b => ST.KeyLe (keyOf H a) (keyOf H b)) : SM.SortedW (ds.map (stateOf H)) := by
  unfold SM.SortedW
  rw [List.pairwise_map]
  refine p.imp_of_mem fun {a b} ha hb q hw => ?_
  obtain ⟨s, hs, ls⟩ := h a ha
  obtain ⟨t, ht, lt⟩ := h b hb
  rw [stateOf_at hs, stateOf_at ht] at *
  unfold ST.KeyLe at q
  rw [keyOf_at hs, keyOf_at ht] at q
  exact lex_within (ls.trans lt.symm) hw q
abbrev sLeastOf : Stmt := top 15
def spLeastOf : Sp := fun vs H Q _ => ∃ (l : Addr) (ss : List State) (n : Nat), vs = [.ref l] ∧ StatesAt H l ss ∧ SM.LenN n ss ∧ 0 < n ∧ ss.length ≤ 780 ∧ ∀ (H' : Hp) (r : Addr) (L : List State), Same H H' → H r = none → StatesAt H' r L → SM.Least60 ss L → Q (.ref r) H'
theorem scLeastOf : FnScope ["states", "least", "state"] ["states"] (defScope sLeastOf) := ⟨rfl, rfl, rfl, by decide +kernel, rfl, by decide +kernel, by decide +kernel⟩
theorem ok_leastOf {fm : Addr} {f : Addr} {fd : FuncData} (F : Fun K "least_of" "least_of" sLeastOf f fd) (T : Txt K mg) (TR : TxtR mg fo fl fm) (Go : Callee P w K mg base 2 fo ["state", "least"] (spHasOne K)) : FnOk P w K mg base CX0 3 f fd ["states"] spLeastOf := by
  obtain ⟨fdo, G, b⟩ := Go.ex
  refine F.ok scLeastOf (fun vs H Q E h => ?_) (fun cdv A outer s0 H vs Q E hr h => ?_)
  · obtain ⟨l, _, _, rfl, _⟩ := h
    rfl
  · obtain ⟨l, ss, n, rfl, ⟨as, h1, h2⟩, hn, h0, h780, k⟩ := h
    refine ⟨_, pss_cons (ps_set (i := 1) scLeastOf.nd rfl (Or.inl rfl) (pe_lst pa_nil))
      (pss_cons (ps_for PassesOwn.never rfl (pi_list (pe_callB (cr_sortedSet rfl) (by rfl) T.sorted PyProof.Rows.boot_sorted (pa_cons (pe_callTy (cr_set rfl hr.units) rfl T.set PyProof.Rows.boot_set (pa_cons (pv 0) pa_nil)) pa_nil))) (pg_name (i := 2) scLeastOf.nd rfl (Or.inl rfl))
        (pss_one (ps_if (pt_not (pt_val (pe_call G hr rfl TR.one Go.kp b .nil pass0 (pa_cons (pv 2) (pa_cons (pv 1) pa_nil)))))
          (pss_cons (ps_expr (pe_bm PySem.F.plainAttrs_list PySem.F.slot_list_append PySem.F.type_list_append mt_append (pv 1) (pa_cons (pv 2) pa_nil)))
            (pss_one (ps_if (pt_cmpR op_gt (pe_callB call_len_seq (by rfl) T.len PySem.boot_len (pa_cons (pv 1) pa_nil)) (pe_num rfl TR.m60) (nomark _)) (pss_one ps_break) pss_nil))) pss_nil)))
      (pss_one (ps_ret (pv 1)))), ?_⟩
    refine ⟨Nat.zero_le _, fun r hr0 => ?_⟩
    have s1 : Same H (L2.upd H r (.lst [])) := Same.upd hr0
    have ht : ∀ a ∈ as, ∃ s, TupAt H a s ∧ s ∈ ss := fun a ha => by
      obtain ⟨s, hs, t⟩ := h2.mem ha
      exact ⟨s, t, hs⟩
    have key : ∀ a ∈ as, L2.upd H r (.lst []) a = some (.tup ((keyOf H a).map V.int)) := fun a ha => by
      obtain ⟨s, t, _⟩ := ht a ha
      rw [keyOf_at t]
      exact s1 _ _ t
    refine ⟨_, rfl, l, as, keyOf H, rfl, s1.seq (SqL.of h1), key, by rw [h2.length]; exact h780, fun S bs hS hP => ?_⟩
    have s2 : Same H (L2.upd (L2.upd H r (.lst [])) S (SetHO w S bs)) := s1.trans (Same.upd hS)
    have bsub : ∀ b ∈ bs, b ∈ as := fun b hb => by have := hP.sub b hb; rw [List.take_length] at this; exact this
    refine ⟨S, bs, keyOf H, rfl, upd_same, fun b hb => ?_, fun q ds hq dp dw => ?_⟩
    · obtain ⟨s, t, hs⟩ := ht b (bsub b hb)
      refine ⟨Same.upd hS _ _ (key b (bsub b hb)), ?_⟩
      rw [keyOf_at t]
      have := hn s hs
      intro e
      rw [List.map_eq_nil_iff] at e
      rw [e] at this
      simp at this
      omega
    have s3 := s2.trans (Same.upd (o := .lst (ds.map V.ref)) hq)
    have dsub : ∀ d ∈ ds, ∃ s, TupAt H d s ∧ s ∈ ss := fun d hd => ht d (bsub d (dp.mem_iff.mp hd))
    have zt : Tups H ds (ds.map (stateOf H)) := tups_of fun d hd => let ⟨s, t, _⟩ := dsub d hd; ⟨s, t⟩
    have zm : ∀ a, a ∈ ds.map (stateOf H) ↔ a ∈ ss := fun a => by
      constructor
      · intro ha
        obtain ⟨d, hd, rfl⟩ := List.mem_map.mp ha
        obtain ⟨s, t, hs⟩ := dsub d hd
        rw [stateOf_at t]; exact hs
      · intro ha
        obtain ⟨c, hc, t⟩ := h2.mem' ha
        obtain ⟨b, hb, e⟩ := hP.cov c (by rw [List.take_length]; exact hc)
        obtain ⟨s, t', _⟩ := ht b (bsub b hb)
        rw [keyOf_at t, keyOf_at t'] at e
        have e2 := zi_inj e
        subst e2
        exact List.mem_map.mpr ⟨b, dp.mem_iff.mpr hb, stateOf_at t'⟩
    have zn : SM.LenN n (ds.map (stateOf H)) := fun a ha => hn a ((zm a).mp ha)
    have zs : SM.SortedW (ds.map (stateOf H)) := sortedW_of (n := n) (fun d hd => let ⟨s, t, hs⟩ := dsub d hd; ⟨s, t, hn s hs⟩) dw
    generalize ds.map (stateOf H) = zs' at *
    have nrq : r ≠ q := ne_of_none (show L2.upd (L2.upd H r (.lst [])) S (SetHO w S bs) r = some (.lst []) from Same.upd hS _ _ upd_same) hq
    refine ⟨q, rfl, ⟨_, SqL.of upd_same⟩, for_list (K := K) (a := q) (xs := ds.map V.ref) (fun i σ H' => ∃ (v2 : Option V) (ls : List Addr) (L : List State), σ = [some (.ref l), some (.ref r), v2] ∧ Same H H' ∧ H' q = some (.lst (ds.map V.ref)) ∧ H' r = some (.lst (ls.map V.ref)) ∧ Tups H ls L ∧ SM.MinOf (zs'.take i) L ∧ L.length ≤ 60)
      ⟨none, [], [], rfl, s3, upd_same, by rw [upd_ne nrq]; exact Same.upd hS _ _ upd_same, .nil, SM.leastOf_nil, by decide⟩ (fun i σ H' _ ⟨_, _, _, _, _, hq', _⟩ => SqL.of hq') ?_ ?_⟩
    · rintro i y σ H' hi ⟨v2, ls, L, rfl, s4, hq4, hr4, hL, mn, l60⟩
      obtain ⟨d, hd, rfl⟩ := map_get hi
      obtain ⟨t, et, tt⟩ := zt.get hd
      have lt := zn t (List.mem_of_getElem? et)
      have lenL : ls.length = L.length := hL.length
      have memL : ∀ x ∈ L, x.length = t.length := fun x hx => by rw [lt]; exact zn x (List.mem_of_mem_take (mn.sub x hx))
      have tk : zs'.take (i + 1) = zs'.take i ++ [t] := take_more et
      have st : SM.SortedW (zs'.take i ++ [t]) := by rw [← tk]; exact zs.sublist (List.take_sublist _ _)
      refine ⟨_, rfl, _, rfl, d, r, t, L, rfl, SqT.of (s4 _ _ tt), ⟨ls, hr4, hL.same s4⟩, memL, fun H5 s5 => ?_⟩
      refine ⟨_, rfl, ite2 (fun c => ?_) (fun c => ?_)⟩
      · have c' : Kcx0.has L t = false := by simpa using c
        have mn' := SM.leastOf_add mn c' st
        have hr5 := s5 _ _ hr4
        refine ⟨_, rfl, .inl ⟨rfl, _, SqL.of hr5⟩, _, rfl, r, _, _, rfl, rfl, hr5, ?_, ?_⟩
        · rw [List.length_map, lenL]
          exact small1000 (by omega)
        have nqr : q ≠ r := Ne.symm nrq
        have s6 : Same H (L2.upd H5 r (.lst (ls.map V.ref ++ [V.ref d]))) := (s4.trans s5).put hr0
        have er : ls.map V.ref ++ [V.ref d] = (ls ++ [d]).map V.ref := by rw [List.map_append]; rfl
        refine ⟨_, rfl, r, _, rfl, .inl (SqL.of upd_same), ?_⟩
        refine ⟨_, _, rfl, rfl, _, rfl, ite2 (fun c2 => ?_) (fun c2 => ?_)⟩
        · have l61 : (L ++ [t]).length = 61 := by
            have c3 : (60 : Int) < ((ls.map V.ref ++ [V.ref d]).length : Nat) := by simpa using c2
            rw [List.length_append, List.length_map] at c3
            rw [List.length_append]
            simp only [List.length_cons, List.length_nil] at c3 ⊢
            omega
          have e2 : zs' = zs'.take (i + 1) ++ zs'.drop (i + 1) := (List.take_append_drop _ _).symm
          refine ⟨_, rfl, ?_⟩
          refine k _ r (L ++ [t]) s6 hr0 ⟨ls ++ [d], by rw [upd_same, er], (hL.append (.cons tt .nil)).same s6⟩ ?_
          exact SM.least60_cut (n := n) e2 (by rw [tk]; exact mn') l61 zs zn zm
        · refine ⟨_, ls ++ [d], L ++ [t], rfl, s6, ?_, by rw [upd_same, er], hL.append (.cons tt .nil), by rw [tk]; exact mn', ?_⟩
          · rw [upd_ne nqr]; exact s5 _ _ hq4
          · have c3 : ¬ (60 : Int) < ((ls.map V.ref ++ [V.ref d]).length : Nat) := by simpa using c2
            rw [List.length_append, List.length_map] at c3
            rw [List.length_append]
            simp only [List.length_cons, List.length_nil] at c3 ⊢
            omega
      · have c' : Kcx0.has L t = true := by simpa using c
        exact ⟨_, ls, L, rfl, s4.trans s5, s5 _ _ hq4, s5 _ _ hr4, hL, by rw [tk]; exact SM.leastOf_skip mn c', l60⟩
    · rintro σ H' ⟨v2, ls, L, rfl, s4, hq4, hr4, hL, mn, l60⟩
      rw [List.length_map, zt.length, List.take_length] at mn
      refine ⟨_, rfl, ?_⟩
      exact k _ r L s4 hr0 ⟨ls, hr4, hL.same s4⟩ (SM.least60_all mn l60 zm)
end
end SR
end
section
set_option Elab.async false
set_option linter.all false
set_option maxRecDepth 100000
set_option maxHeartbeats 4000000
namespace SR
open PySem PySem.Spec PyProof.Rows L2
open Kcx0 (State Step_ within can_ done before)

/-! ### steps in a list -/
inductive Stps (C : Addr) (H : Hp) : List Addr → List Step_ → Prop
  | nil : Stps C H [] []
  | cons {a : Addr} {p : Step_} {as : List Addr} {ps : List Step_} : StepAt C H a p → Stps C H as ps → Stps C H (a :: as) (p :: ps)
theorem Stps.same {C : Addr} {H H' : Hp} {as : List Addr} {ps : List Step_} (h : Stps C H as ps) (e : Same H H') : Stps C H' as ps := by
  induction h with
  | nil => exact .nil
  | cons h _ ih => exact .cons (h.same e) ih
theorem Stps.length {C : Addr} {H : Hp} {as : List Addr} {ps : List Step_} (h : Stps C H as ps) : as.length = ps.length := by
  induction h with
  | nil => rfl
  | cons _ _ ih => rw [List.length_cons, List.length_cons, ih]
theorem Stps.get {C : Addr} {H : Hp} : ∀ {as : List Addr} {ps : List Step_} {i : Nat} {a : Addr}, Stps C H as ps → as[i]? = some a → ∃ p, ps[i]? = some p ∧ StepAt C H a p
  | _, _, _, _, .nil, e => by simp at e
  | _, _, 0, _, .cons h _, e => by simp at e; subst e; exact ⟨_, rfl, h⟩
  | _, _, i + 1, _, .cons _ t, e => by
    obtain ⟨s, h1, h2⟩ := t.get (i := i) (by simpa using e)
    exact ⟨s, by simpa using h1, h2⟩
theorem Stps.append {C : Addr} {H : Hp} {as bs : List Addr} {ps qs : List Step_} (h : Stps C H as ps) (h' : Stps C H bs qs) : Stps C H (as ++ bs) (ps ++ qs) := by
  induction h with
  | nil => exact h'
  | cons a _ ih => exact .cons a ih
def StepsAt (C : Addr) (H : Hp) (l : Addr) (ps : List Step_) : Prop := ∃ as, H l = some (.lst (as.map V.ref)) ∧ Stps C H as ps
theorem StepsAt.same {C : Addr} {H H' : Hp} {l : Addr} {ps : List Step_} (h : StepsAt C H l ps) (e : Same H H') : StepsAt C H' l ps := by
  obtain ⟨as, h1, h2⟩ := h
  exact ⟨as, e _ _ h1, h2.same e⟩
/-- a method that may be called -/
structure MethOk (P : Program) (w : World) (K : PySem.W.Frag) (mg : Str → Option Value) (base : Heap) (k : Nat) (C : Addr) (m : Str) (f : Addr) (ps : List Str) (sp : Sp) : Prop where
  ex : ∃ fd, FnOk P w K mg base CX0 k f fd ps sp ∧ Binds K fd ps []
  mt : Meth K C m f
/-- what lies ahead of w and is of use -/
def cand (ps : List Step_) (w : State) : List State := (ps.map fun p => before p w).filter fun x => !within w x
theorem lookedAt_eq (ps : List Step_) (last fresh : List State) : SM.lookedAt ps last fresh = last ++ fresh.flatMap (cand ps) := rfl
theorem cand_le (ps : List Step_) (w : State) : (cand ps w).length ≤ ps.length := by
  unfold cand
  have := List.length_filter_le (fun x => !within w x) (ps.map fun p => before p w)
  rw [List.length_map] at this
  exact this
theorem flat_le (ps : List Step_) : ∀ l : List State, (l.flatMap (cand ps)).length ≤ l.length * ps.length
  | [] => by simp
  | w :: l => by
    rw [List.flatMap_cons, List.length_append, List.length_cons, Nat.succ_mul]
    have := flat_le ps l
    have := cand_le ps w
    omega
theorem flat_more {ps : List Step_} {l : List State} {i : Nat} {w : State} (h : l[i]? = some w) : (l.take (i + 1)).flatMap (cand ps) = (l.take i).flatMap (cand ps) ++ cand ps w := by
  rw [take_more h, List.flatMap_append, List.flatMap_cons, List.flatMap_nil, List.append_nil]
theorem cand_more {ps : List Step_} {i : Nat} {p : Step_} (w : State) (h : ps[i]? = some p) : cand (ps.take (i + 1)) w = cand (ps.take i) w ++ (if within w (before p w) = false then [before p w] else []) := by
  unfold cand
  rw [take_more h, List.map_append, List.filter_append]
  congr 1
  simp only [List.map_cons, List.map_nil, List.filter_cons, List.filter_nil]
  cases within w (before p w) <;> rfl
abbrev sMore : Stmt := top 16
section
variable {P : Program} {w : World} {K : PySem.W.Frag} {mg : Str → Option Value} {base : Heap} {C fh fw fo fl fm fA : Addr}
def spMore (C : Addr) : Sp := fun vs H Q _ => ∃ (a b c : Addr) (last fresh : List State) (ps : List Step_) (n : Nat), vs = [.ref a, .ref b, .ref c] ∧ StatesAt H a last ∧ StatesAt H b fresh ∧ StepsAt C H c ps ∧ SM.StepsN n ps ∧ SM.LenN n last ∧ SM.LenN n fresh ∧ 0 < n ∧ n ≤ 1000 ∧
  last.length ≤ 60 ∧ fresh.length ≤ 60 ∧ ps.length ≤ 12 ∧ ∀ (H' : Hp) (r : Addr) (L : List State), Same H H' → H r = none → StatesAt H' r L → SM.Least60 (SM.lookedAt ps last fresh) L → Q (.ref r) H'
theorem scMore : FnScope ["least", "fresh", "steps", "states", "state", "step", "ahead"] ["least", "fresh", "steps"] (defScope sMore) := ⟨rfl, rfl, rfl, by decide +kernel, rfl, by decide +kernel, by decide +kernel⟩
theorem ok_more {f : Addr} {fd : FuncData} (F : Fun K "one_more_round" "one_more_round" sMore f fd) (T : Txt K mg) (TS : TxtS K mg C fh fw) (TR : TxtR mg fo fl fm) (GH : Callee P w K mg base 1 fh ["state", "wanted"] (spHas K))
    (GA : MethOk P w K mg base 1 C "least_ahead" fA ["self", "wanted"] (spAhead C K)) (GL : Callee P w K mg base 3 fl ["states"] spLeastOf) : FnOk P w K mg base CX0 4 f fd ["least", "fresh", "steps"] (spMore C) := by
  obtain ⟨fdh, Gh, bh⟩ := GH.ex
  obtain ⟨fda, Ga, ba⟩ := GA.ex
  obtain ⟨fdl, Gl, bl⟩ := GL.ex
  refine F.ok scMore (fun vs H Q E h => ?_) (fun cdv A outer s0 H vs Q E hr h => ?_)
  · obtain ⟨a, b, c, _, _, _, _, rfl, _⟩ := h
    rfl
  · obtain ⟨a, b, c, last, fresh, ps, n, rfl, hla, hfr, hst, hps, hln, hfn, h0, h1000, l60, f60, p12, k⟩ := h
    have hr1 := hr.mono (show 1 ≤ 3 by decide)
    refine ⟨_, pss_cons (ps_set (i := 3) scMore.nd rfl (Or.inl rfl) (pe_callTy call_list_of rfl T.list PyProof.Rows.boot_list (pa_cons (pv 0) pa_nil)))
      (pss_cons (ps_for PassesOwn.never rfl (pi_list (pv 1)) (pg_name (i := 4) scMore.nd rfl (Or.inl rfl))
        (pss_one (ps_for PassesOwn.never rfl (pi_list (pv 2)) (pg_name (i := 5) scMore.nd rfl (Or.inl rfl))
          (pss_cons (ps_set (i := 6) scMore.nd rfl (Or.inl rfl) (pe_meth (pv 5) TS.cl GA.mt Ga hr1 ba .nil pass0 (pa_cons (pv 4) pa_nil)))
            (pss_one (ps_if (pt_not (pt_val (pe_call Gh hr1 rfl TS.has GH.kp bh .nil pass0 (pa_cons (pv 6) (pa_cons (pv 4) pa_nil)))))
              (pss_one (ps_expr (pe_bm PySem.F.plainAttrs_list PySem.F.slot_list_append PySem.F.type_list_append mt_append (pv 3) (pa_cons (pv 6) pa_nil)))) pss_nil))))))
      (pss_one (ps_ret (pe_call Gl hr rfl TR.least GL.kp bl .nil pass0 (pa_cons (pv 3) pa_nil))))), ?_⟩
    obtain ⟨la, hl1, hl2⟩ := hla
    obtain ⟨fa, hf1, hf2⟩ := hfr
    obtain ⟨sa, hs1, hs2⟩ := hst
    refine ⟨_, rfl, a, _, rfl, .inl (SqL.of hl1), fun S hS => ?_⟩
    have lenF := hf2.length
    have lenS := hs2.length
    refine ⟨_, rfl, b, rfl, ⟨_, SqL.of (Same.upd hS _ _ hf1)⟩, for_list (K := K) (a := b) (xs := fa.map V.ref) (fun i σ H' => ∃ (v4 v5 v6 : Option V) (xs : List Addr), σ = [some (.ref a), some (.ref b), some (.ref c), some (.ref S), v4, v5, v6] ∧ Same H H' ∧ H' S = some (.lst (xs.map V.ref)) ∧ Tups H' xs (last ++ (fresh.take i).flatMap (cand ps)))
      ⟨none, none, none, la, rfl, Same.upd hS, upd_same, by rw [List.take_zero, List.flatMap_nil, List.append_nil]; exact hl2.same (Same.upd hS)⟩ (fun i σ H' _ ⟨_, _, _, _, _, s1, _⟩ => s1.seq (SqL.of hf1)) ?_ ?_⟩
    · rintro i y σ H' hi ⟨v4, v5, v6, xs, rfl, s1, hS1, ht1⟩
      obtain ⟨d, hd, rfl⟩ := map_get hi
      obtain ⟨wd, ew, tw⟩ := hf2.get hd
      have lw : wd.length = n := hfn wd (List.mem_of_getElem? ew)
      refine ⟨_, rfl, c, rfl, ⟨_, s1.seq (SqL.of hs1)⟩, for_list (K := K) (a := c) (xs := sa.map V.ref) (fun j σ H2 => ∃ (v5 v6 : Option V) (xs : List Addr), σ = [some (.ref a), some (.ref b), some (.ref c), some (.ref S), some (.ref d), v5, v6] ∧ Same H H2 ∧ H2 S = some (.lst (xs.map V.ref)) ∧
          Tups H2 xs ((last ++ (fresh.take i).flatMap (cand ps)) ++ cand (ps.take j) wd))
        ⟨v5, v6, xs, rfl, s1, hS1, by rw [List.take_zero]; exact (List.append_nil (last ++ (fresh.take i).flatMap (cand ps))).symm ▸ ht1⟩ (fun j σ H2 _ ⟨_, _, _, _, s2, _⟩ => s2.seq (SqL.of hs1)) ?_ ?_⟩
      · rintro j y σ H2 hj ⟨v5, v6, xs, rfl, s2, hS2, ht2⟩
        obtain ⟨e, he, rfl⟩ := map_get hj
        obtain ⟨p, ep, hp⟩ := hs2.get he
        have hpn := hps p (List.mem_of_getElem? ep)
        have hp2 := hp.same s2
        obtain ⟨dx, tt, gg, e1, e2, e3⟩ := id hp2
        have bound : xs.length < sizeLine := by
          rw [ht2.length]
          refine small1000 ?_
          simp only [List.length_append]
          have b1 := flat_le ps (fresh.take i)
          have b2 := cand_le (ps.take j) wd
          have b3 : (fresh.take i).length ≤ 60 := by rw [List.length_take]; omega
          have b4 : (fresh.take i).length * ps.length ≤ 60 * 12 := Nat.mul_le_mul b3 p12
          have b5 : (ps.take j).length ≤ 12 := by rw [List.length_take]; omega
          omega
        refine ⟨_, rfl, e, dx, _, rfl, e1, stepF_no _ _ (by decide +kernel) (by decide +kernel), _, rfl, e, d, true, p, wd, rfl, hp2, SqT.of (s2 _ _ tw), by rw [lw]; exact hpn, by omega, fun H3 x s3 nx hx => ?_⟩
        have tw3 := s3 _ _ (s2 _ _ tw)
        have lb : (before p wd).length = wd.length := SM.before_length (by rw [lw]; exact hpn) rfl
        refine ⟨_, rfl, _, rfl, x, d, true, true, before p wd, wd, rfl, SqT.of hx, SqT.of tw3, lb.symm, fun H4 s4 => ?_⟩
        have s24 := s3.trans s4
        have sH4 := s2.trans s24
        have cm := cand_more wd ep
        refine ⟨_, rfl, ite2 (fun q => ?_) (fun q => ?_)⟩
        · have q' : within wd (before p wd) = false := by simpa using q
          rw [if_pos q'] at cm
          have hS4 := s24 _ _ hS2
          refine ⟨_, rfl, .inl ⟨rfl, _, SqL.of hS4⟩, _, rfl, S, _, _, rfl, rfl, hS4, by rw [List.length_map]; exact bound, ?_⟩
          have nS : Same H (L2.upd H4 S (.lst (xs.map V.ref ++ [V.ref x]))) := sH4.put hS
          have keep : ∀ {ys : List Addr} {zs : List State}, Tups H4 ys zs → Tups (L2.upd H4 S (.lst (xs.map V.ref ++ [V.ref x]))) ys zs := fun {ys zs} ht => by
            induction ht with
            | nil => exact .nil
            | cons h _ ih => exact .cons (by rw [TupAt, upd_ne (ne_of h hS4 (fun z => nomatch z))]; exact h) ih
          refine ⟨_, _, xs ++ [x], rfl, nS, by rw [upd_same, List.map_append]; rfl, ?_⟩
          rw [cm, ← List.append_assoc]
          exact (keep (ht2.same s24)).append (keep (.cons (s4 _ _ hx) .nil))
        · have q' : within wd (before p wd) = true := by simpa using q
          rw [q', if_neg (by simp), List.append_nil] at cm
          exact ⟨_, _, xs, rfl, sH4, s24 _ _ hS2, by rw [cm]; exact ht2.same s24⟩
      · rintro σ H2 ⟨v5, v6, xs, rfl, s2, hS2, ht2⟩
        rw [List.length_map, lenS, List.take_length] at ht2
        refine ⟨_, _, _, xs, rfl, s2, hS2, ?_⟩
        rw [flat_more ew, ← List.append_assoc]
        exact ht2
    · rintro σ H' ⟨v4, v5, v6, xs, rfl, s1, hS1, ht1⟩
      rw [List.length_map, lenF, List.take_length, ← lookedAt_eq] at ht1
      refine ⟨_, rfl, S, SM.lookedAt ps last fresh, n, rfl, ⟨xs, hS1, ht1⟩, SM.lookedAt_len hps hln hfn, h0, ?_, fun H2 r L s2 nr hL le => ?_⟩
      · rw [lookedAt_eq, List.length_append]
        have b1 := flat_le ps fresh
        have b4 : fresh.length * ps.length ≤ 60 * 12 := Nat.mul_le_mul f60 p12
        omega
      · exact k H2 r L (s1.trans s2) (s1.free nr) hL le
end
end SR
end
section
set_option Elab.async false
set_option linter.all false
set_option maxRecDepth 100000
set_option maxHeartbeats 4000000
namespace SR
open PySem PySem.Spec PyProof.Rows L2
open Kcx0 (State Step_ within can_ done before)

/-- all but p is as it was -/
def But (p : Addr) (H H' : Hp) : Prop := ∀ b o, H b = some o → b ≠ p → H' b = some o
theorem But.same {p : Addr} {H H1 H2 : Hp} (a : But p H H1) (b : Same H1 H2) : But p H H2 := fun c o e n => b c o (a c o e n)
theorem But.put {p : Addr} {H H1 : Hp} {o : HO} (a : But p H H1) : But p H (upd H1 p o) := fun c u e n => by rw [upd_ne n]; exact a c u e n
theorem But.refl (p : Addr) (H : Hp) : But p H H := fun _ _ e _ => e
theorem But.trans {p : Addr} {H H1 H2 : Hp} (a : But p H H1) (b : But p H1 H2) : But p H H2 := fun c o e n => b c o (a c o e n) n
theorem ne_tup {H : Hp} {a p : Addr} {xs : List V} {o : HO} (h : H a = some (.tup xs)) (h' : H p = some o) (d : ∀ ys, o ≠ .tup ys) : a ≠ p := ne_of h h' fun e => d xs e.symm
theorem Tups.but {p : Addr} {H H' : Hp} {as : List Addr} {ss : List State} {o : HO} (h : Tups H as ss) (e : But p H H') (hp : H p = some o) (d : ∀ ys, o ≠ .tup ys) : Tups H' as ss := by
  induction h with
  | nil => exact .nil
  | cons h _ ih => exact .cons (e _ _ h (ne_tup h hp d)) ih
theorem StatesAt.but {p : Addr} {H H' : Hp} {l : Addr} {ss : List State} {o : HO} (h : StatesAt H l ss) (e : But p H H') (hp : H p = some o) (d : ∀ ys, o ≠ .tup ys) (n : l ≠ p) : StatesAt H' l ss := by
  obtain ⟨as, h1, h2⟩ := h
  exact ⟨as, e _ _ h1 n, h2.but e hp d⟩
inductive Lays (H : Hp) : List Addr → List (List State) → Prop
  | nil : Lays H [] []
  | cons {a : Addr} {s : List State} {as : List Addr} {ss : List (List State)} : StatesAt H a s → Lays H as ss → Lays H (a :: as) (s :: ss)
theorem Lays.same {H H' : Hp} {as : List Addr} {ss : List (List State)} (h : Lays H as ss) (e : Same H H') : Lays H' as ss := by
  induction h with
  | nil => exact .nil
  | cons h _ ih => exact .cons (h.same e) ih
theorem Lays.but {p : Addr} {H H' : Hp} {as : List Addr} {ss : List (List State)} {o : HO} (h : Lays H as ss) (e : But p H H') (hp : H p = some o) (d : ∀ ys, o ≠ .tup ys) (n : p ∉ as) : Lays H' as ss := by
  induction h with
  | nil => exact .nil
  | cons h _ ih => exact .cons (h.but e hp d fun z => n (by rw [z]; exact List.mem_cons_self)) (ih fun z => n (List.mem_cons_of_mem _ z))
theorem Lays.append {H : Hp} {as bs : List Addr} {ss ts : List (List State)} (h : Lays H as ss) (h' : Lays H bs ts) : Lays H (as ++ bs) (ss ++ ts) := by
  induction h with
  | nil => exact h'
  | cons a _ ih => exact .cons a ih
theorem Lays.length {H : Hp} {as : List Addr} {ss : List (List State)} (h : Lays H as ss) : as.length = ss.length := by
  induction h with
  | nil => rfl
  | cons _ _ ih => rw [List.length_cons, List.length_cons, ih]
theorem Lays.get {H : Hp} : ∀ {as : List Addr} {ss : List (List State)} {i : Nat} {a : Addr}, Lays H as ss → as[i]? = some a → ∃ s, ss[i]? = some s ∧ StatesAt H a s
  | _, _, _, _, .nil, e => by simp at e
  | _, _, 0, _, .cons h _, e => by simp at e; subst e; exact ⟨_, rfl, h⟩
  | _, _, i + 1, _, .cons _ t, e => by
    obtain ⟨s, h1, h2⟩ := t.get (i := i) (by simpa using e)
    exact ⟨s, by simpa using h1, h2⟩
def GoneAt (H : Hp) (g : Addr) (ls : List (List State)) : Prop := ∃ gs, H g = some (.lst (gs.map V.ref)) ∧ g ∉ gs ∧ Lays H gs ls
theorem GoneAt.same {H H' : Hp} {g : Addr} {ls : List (List State)} (h : GoneAt H g ls) (e : Same H H') : GoneAt H' g ls := by
  obtain ⟨gs, h1, h2, h3⟩ := h
  exact ⟨gs, e _ _ h1, h2, h3.same e⟩
/-! ### the class Rounds -/
def rF (s g f : Addr) : List (Str × V) := putF "fresh" (.ref f) (putF "gone" (.ref g) (putF "steps" (.ref s) []))
theorem rF_eq (s g f : Addr) : rF s g f = ([(("steps" : Str), V.ref s), (("gone" : Str), V.ref g), (("fresh" : Str), V.ref f)] : List (Str × V)) := by
  unfold rF
  simp only [putF]
  rw [if_neg (by decide +kernel)]
  simp only [putF]
  rw [if_neg (by decide +kernel), if_neg (by decide +kernel)]
theorem rF_put (s g f f' : Addr) : putF "fresh" (.ref f') (rF s g f) = rF s g f' := by
  rw [rF_eq, rF_eq]
  simp only [putF]
  rw [if_neg (by decide +kernel), if_neg (by decide +kernel), if_pos True.intro]
theorem rF_fresh (s g f : Addr) : (rF s g f).lookup ("fresh" : Str) = some (.ref f) := by
  unfold rF
  rw [lookup_putF, if_pos rfl]
theorem rF_gone (s g f : Addr) : (rF s g f).lookup ("gone" : Str) = some (.ref g) := by
  unfold rF
  rw [lookup_putF, if_neg (by decide +kernel), lookup_putF, if_pos rfl]
theorem rF_steps (s g f : Addr) : (rF s g f).lookup ("steps" : Str) = some (.ref s) := by
  unfold rF
  rw [lookup_putF, if_neg (by decide +kernel), lookup_putF, if_neg (by decide +kernel), lookup_putF, if_pos rfl]
theorem rF_no (s g f : Addr) {m : Str} (h1 : ¬ m = "steps") (h2 : ¬ m = "gone") (h3 : ¬ m = "fresh") : (rF s g f).lookup m = none := by
  unfold rF
  rw [lookup_putF, if_neg h3, lookup_putF, if_neg h2, lookup_putF, if_neg h1]
  rfl
structure TxtRo (K : PySem.W.Frag) (R : Addr) : Prop where
  cl : Cls K R
  nS : NoAttr K R "steps"
  nG : NoAttr K R "gone"
  nF : NoAttr K R "fresh"
abbrev sRInit : Stmt := inClass (top 17) 0
abbrev sGo : Stmt := inClass (top 17) 1
abbrev sNothing : Stmt := inClass (top 17) 2
abbrev sTooMany : Stmt := inClass (top 17) 3
section
variable {P : Program} {w : World} {K : PySem.W.Frag} {mg : Str → Option Value} {base : Heap} {C R fh fw fo fl fm fA : Addr}
def spRInit (R : Addr) : Sp := fun vs H Q _ => ∃ (p dx b c : Addr) (t : State), vs = [.ref p, .ref b, .ref c] ∧ H p = some (.ins R dx []) ∧ TupAt H b t ∧
  ∀ (H' : Hp) (g f : Addr), H' p = some (.ins R dx (rF c g f)) → H g = none → GoneAt H' g [[t]] → StatesAt H' f [t] → But p H H' → Q .non H'
theorem scRInit : FnScope ["self", "wanted", "steps"] ["self", "wanted", "steps"] (defScope sRInit) := ⟨rfl, rfl, rfl, by decide +kernel, rfl, by decide +kernel, by decide +kernel⟩
theorem ok_rInit {f : Addr} {fd : FuncData} (F : Fun K "__init__" "Rounds.__init__" sRInit f fd) (T : TxtRo K R) : FnOk P w K mg base CX0 1 f fd ["self", "wanted", "steps"] (spRInit R) := by
  refine F.ok scRInit (fun vs H Q E h => ?_) (fun cdv A outer s H vs Q E hr h => ?_)
  · obtain ⟨p, dx, b, c, _, rfl, _⟩ := h
    rfl
  · obtain ⟨p, dx, b, c, t, rfl, hp, hb, k⟩ := h
    refine ⟨_, pss_cons (ps_fld (pv 0) (pv 2) rfl) (pss_cons (ps_fld (pv 0) (pe_lst (pa_cons (pe_lst (pa_cons (pv 1) pa_nil)) pa_nil)) rfl) (pss_one (ps_fld (pv 0) (pe_lst (pa_cons (pv 1) pa_nil)) rfl))), ?_⟩
    refine ⟨_, rfl, _, rfl, p, R, dx, [], rfl, hp, T.cl, T.nS, (by show 0 < 1000; decide), ?_⟩
    have B1 : But p H (upd H p (.ins R dx (putF "steps" (.ref c) []))) := (But.refl p H).put
    have p1 : upd H p (.ins R dx (putF "steps" (.ref c) [])) p = some (.ins R dx (putF "steps" (.ref c) [])) := upd_same
    generalize upd H p (.ins R dx (putF "steps" (.ref c) [])) = H1 at *
    refine ⟨_, rfl, by show 1 ≤ sizeLine; decide, fun i hi => ?_⟩
    refine ⟨by show 1 ≤ sizeLine; decide, fun g hg => ?_⟩
    have nig : i ≠ g := ne_of_none upd_same hg
    have i3 : upd (upd H1 i (.lst [V.ref b])) g (.lst [V.ref i]) i = some (.lst [V.ref b]) := by rw [upd_ne nig]; exact upd_same
    have g3 : upd (upd H1 i (.lst [V.ref b])) g (.lst [V.ref i]) g = some (.lst [V.ref i]) := upd_same
    have S3 : Same H1 (upd (upd H1 i (.lst [V.ref b])) g (.lst [V.ref i])) := (Same.upd hi).trans (Same.upd hg)
    have gH : H g = none := by
      have g1 : H1 g = none := (Same.upd hi).free hg
      cases q : H g with
      | none => rfl
      | some o =>
        by_cases e : g = p
        · rw [e, p1] at g1; cases g1
        · rw [B1 g o q e] at g1; cases g1
    generalize upd (upd H1 i (.lst [V.ref b])) g (.lst [V.ref i]) = H3 at *
    have p3 := S3 _ _ p1
    have B3 := B1.same S3
    refine ⟨_, rfl, p, R, dx, _, rfl, p3, T.cl, T.nG, (by show 1 < 1000; decide), ?_⟩
    have B4 : But p H (upd H3 p (.ins R dx (putF "gone" (.ref g) (putF "steps" (.ref c) [])))) := B3.put
    have C4 : But p H3 (upd H3 p (.ins R dx (putF "gone" (.ref g) (putF "steps" (.ref c) [])))) := (But.refl p H3).put
    have p4 : upd H3 p (.ins R dx (putF "gone" (.ref g) (putF "steps" (.ref c) []))) p = some (.ins R dx (putF "gone" (.ref g) (putF "steps" (.ref c) []))) := upd_same
    generalize upd H3 p (.ins R dx (putF "gone" (.ref g) (putF "steps" (.ref c) []))) = H4 at *
    refine ⟨_, rfl, by show 1 ≤ sizeLine; decide, fun f hf => ?_⟩
    have S5 : Same H4 (upd H4 f (.lst [V.ref b])) := Same.upd hf
    have f5 : upd H4 f (.lst [V.ref b]) f = some (.lst [V.ref b]) := upd_same
    generalize upd H4 f (.lst [V.ref b]) = H5 at *
    refine ⟨_, rfl, p, R, dx, _, rfl, S5 _ _ p4, T.cl, T.nF, (by show 2 < 1000; decide), ?_⟩
    have B6 : But p H5 (upd H5 p (.ins R dx (putF "fresh" (.ref f) (putF "gone" (.ref g) (putF "steps" (.ref c) []))))) := (But.refl p H5).put
    have BH := (B4.same S5).trans B6
    have nb : b ≠ p := ne_tup hb hp fun ys z => nomatch z
    have tb := BH _ _ hb nb
    have ni : i ≠ p := ne_of i3 p3 (fun z => nomatch z)
    have ng : g ≠ p := ne_of g3 p3 (fun z => nomatch z)
    have nf : f ≠ p := ne_of f5 (S5 _ _ p4) (fun z => nomatch z)
    have i6 := B6 _ _ (S5 _ _ (C4 _ _ i3 ni)) ni
    have g6 := B6 _ _ (S5 _ _ (C4 _ _ g3 ng)) ng
    exact k _ g f upd_same gH ⟨[i], g6, by simp [Ne.symm nig], .cons ⟨[b], i6, .cons tb .nil⟩ .nil⟩ ⟨[b], B6 _ _ f5 nf, .cons tb .nil⟩ BH
def spNothing (R : Addr) : Sp := fun vs H Q _ => ∃ (a dx st g f : Addr) (fresh : List State), vs = [.ref a] ∧ H a = some (.ins R dx (rF st g f)) ∧ StatesAt H f fresh ∧ Q (.bl (decide (fresh = []))) H
theorem scNothing : FnScope ["self"] ["self"] (defScope sNothing) := ⟨rfl, rfl, rfl, by decide +kernel, rfl, by decide +kernel, by decide +kernel⟩
theorem ok_nothing {f : Addr} {fd : FuncData} (F : Fun K "brought_nothing_new" "Rounds.brought_nothing_new" sNothing f fd) (T : Txt K mg) (TR : TxtRo K R) : FnOk P w K mg base CX0 1 f fd ["self"] (spNothing R) := by
  refine F.ok scNothing (fun vs H Q E h => ?_) (fun cdv A outer s H vs Q E hr h => ?_)
  · obtain ⟨a, _, _, _, _, _, rfl, _⟩ := h
    rfl
  · obtain ⟨a, dx, st, g, f', fresh, rfl, ha, ⟨as, h1, h2⟩, k⟩ := h
    refine ⟨_, pss_one (ps_ret (pe_cmp (pc_eqI (pe_callB call_len_seq (by rfl) T.len PySem.boot_len (pa_cons (pe_fld (pv 0) rfl) pa_nil)) pe_int))), ?_⟩
    refine ⟨_, rfl, a, R, dx, _, _, rfl, ha, TR.cl, TR.nF, rF_fresh _ _ _, f', _, rfl, .inl (SqL.of h1), _, _, rfl, rfl, ?_⟩
    have e : decide (fresh = []) = decide ((((as.map V.ref).length : Nat) : Int) = 0) := by
      rw [List.length_map, h2.length]
      cases fresh <;> simp
      omega
    rw [e] at k
    exact k
def spTooMany (R : Addr) : Sp := fun vs H Q _ => ∃ (a dx st g f : Addr) (ls : List (List State)) (last : List State), vs = [.ref a] ∧ H a = some (.ins R dx (rF st g f)) ∧ GoneAt H g (ls ++ [last]) ∧ Q (.bl (decide (60 < last.length ∨ 200 < ls.length))) H
theorem scTooMany : FnScope ["self"] ["self"] (defScope sTooMany) := ⟨rfl, rfl, rfl, by decide +kernel, rfl, by decide +kernel, by decide +kernel⟩
theorem lays_snoc {H : Hp} {gs : List Addr} {ls : List (List State)} {last : List State} (h : Lays H gs (ls ++ [last])) : ∃ gs' d, gs = gs' ++ [d] ∧ Lays H gs' ls ∧ StatesAt H d last := by
  induction ls generalizing gs with
  | nil =>
    cases h with
    | cons a t => cases t; exact ⟨[], _, rfl, .nil, a⟩
  | cons l ls ih =>
    cases h with
    | cons a t =>
      obtain ⟨gs', d, rfl, h1, h2⟩ := ih t
      exact ⟨_ :: gs', d, rfl, .cons a h1, h2⟩
theorem last_ref (gs : List Addr) (d : Addr) : atI ((gs ++ [d]).map V.ref) (-1) = some (V.ref d) := by
  rw [List.map_append]
  exact atI_last _ _
theorem ok_tooMany {f : Addr} {fd : FuncData} (F : Fun K "are_too_many" "Rounds.are_too_many" sTooMany f fd) (T : Txt K mg) (TR : TxtRo K R) (TM : TxtR mg fo fl fm) : FnOk P w K mg base CX0 1 f fd ["self"] (spTooMany R) := by
  refine F.ok scTooMany (fun vs H Q E h => ?_) (fun cdv A outer s H vs Q E hr h => ?_)
  · obtain ⟨a, _, _, _, _, _, _, rfl, _⟩ := h
    rfl
  · obtain ⟨a, dx, st, g, f', ls, last, rfl, ha, ⟨gs, h1, h2, h3⟩, k⟩ := h
    obtain ⟨gs', d, rfl, h4, ⟨as, h5, h6⟩⟩ := lays_snoc h3
    refine ⟨_, pss_one (ps_ret (pe_or (pe_cmp (pc_gt (pe_callB call_len_seq (by rfl) T.len PySem.boot_len (pa_cons (pe_ix ix_list (pe_fld (pv 0) rfl) (pe_un un_neg pe_int) (fun _ _ => rfl)) pa_nil)) (pe_num rfl TM.m60)))
      (pe_one (pe_cmp (pc_gt (pe_op op_sub (pe_callB call_len_seq (by rfl) T.len PySem.boot_len (pa_cons (pe_fld (pv 0) rfl) pa_nil)) pe_int) (pe_num rfl TM.m200)))))), ?_⟩
    refine ⟨_, rfl, a, R, dx, _, _, rfl, ha, TR.cl, TR.nG, rF_gone _ _ _, _, rfl, g, _, _, _, rfl, rfl, SqL.of h1, last_ref _ _, d, _, rfl, .inl (SqL.of h5), _, _, rfl, rfl, _, rfl, ite2 (fun c => ?_) (fun c => ?_)⟩
    · have c1 : (60 : Int) < ((as.map V.ref).length : Nat) := by simpa using c
      rw [List.length_map, h6.length] at c1
      rw [decide_eq_true (.inl (by omega))] at k
      exact k
    · have c1 : ¬ (60 : Int) < ((as.map V.ref).length : Nat) := by simpa using c
      rw [List.length_map, h6.length] at c1
      refine ⟨_, rfl, a, R, dx, _, _, rfl, ha, TR.cl, TR.nG, rF_gone _ _ _, g, _, rfl, .inl (SqL.of h1), _, _, rfl, rfl, _, _, rfl, rfl, ?_⟩
      have e : decide (60 < last.length ∨ 200 < ls.length) = decide ((200 : Int) < ((((gs' ++ [d]).map V.ref).length : Nat) : Int) - 1) := by
        rw [List.length_map, List.length_append, h4.length]
        simp only [List.length_cons, List.length_nil]
        rw [decide_eq_decide]
        omega
      rw [e] at k
      exact k
def spGo (R C : Addr) : Sp := fun vs H Q _ => ∃ (a dx st g f : Addr) (ls : List (List State)) (last fresh : List State) (ps : List Step_) (n : Nat), vs = [.ref a] ∧ H a = some (.ins R dx (rF st g f)) ∧ GoneAt H g (ls ++ [last]) ∧ StatesAt H f fresh ∧ StepsAt C H st ps ∧
  SM.StepsN n ps ∧ SM.LenN n last ∧ SM.LenN n fresh ∧ 0 < n ∧ n ≤ 1000 ∧ last.length ≤ 60 ∧ fresh.length ≤ 60 ∧ ps.length ≤ 12 ∧ ls.length ≤ 900 ∧
  ∀ (H' : Hp) (f' : Addr) (L : List State), H' a = some (.ins R dx (rF st g f')) → GoneAt H' g ((ls ++ [last]) ++ [L]) → StatesAt H' f' (SM.newOf last L) → SM.Least60 (SM.lookedAt ps last fresh) L → (∀ b o, H b = some o → b ≠ a → b ≠ g → H' b = some o) → Q .non H'
theorem scGo : FnScope ["self", "last", "least", "state"] ["self"] (defScope sGo) := ⟨rfl, rfl, rfl, by decide +kernel, rfl, by decide +kernel, by decide +kernel⟩
theorem any_key {H : Hp} : ∀ {as : List Addr} {ss : List State} {a : Addr} {s : State}, Tups H as ss → TupAt H a s → (as.any fun b => decide (keyOf H b = keyOf H a)) = ss.contains s
  | _, _, _, _, .nil, _ => rfl
  | _, _, a, s, .cons h t, ha => by
    rw [List.any_cons, any_key t ha, keyOf_at h, keyOf_at ha, List.contains_cons]
    congr 1
    rw [Bool.eq_iff_iff]
    simp only [decide_eq_true_eq, beq_iff_eq]
    exact ⟨fun e => (zi_inj e).symm, fun e => by rw [e]⟩
theorem newOf_more {last L : List State} {i : Nat} {s : State} (h : L[i]? = some s) : SM.newOf last (L.take (i + 1)) = SM.newOf last (L.take i) ++ (if (!last.contains s) = true then [s] else []) := by
  unfold SM.newOf
  rw [take_more h, List.filter_append, List.filter_cons, List.filter_nil]
theorem newOf_le (last L : List State) : (SM.newOf last L).length ≤ L.length := List.length_filter_le _ _
theorem ok_go {f : Addr} {fd : FuncData} (F : Fun K "go_on" "Rounds.go_on" sGo f fd) (TR : TxtRo K R) (TM : TxtR mg fo fl fm) (GM : Callee P w K mg base 4 fm ["least", "fresh", "steps"] (spMore C)) : FnOk P w K mg base CX0 5 f fd ["self"] (spGo R C) := by
  obtain ⟨fdm, Gm, bm⟩ := GM.ex
  refine F.ok scGo (fun vs H Q E h => ?_) (fun cdv A outer s0 H vs Q E hr h => ?_)
  · obtain ⟨a, _, _, _, _, _, _, _, _, _, rfl, _⟩ := h
    rfl
  · obtain ⟨a, dx, st, g, f', ls, last, fresh, ps, n, rfl, ha, ⟨gs, h1, h2, h3⟩, hf, hst, hps, hln, hfn, h0, h1000, l60, f60, p12, ls1, k⟩ := h
    obtain ⟨gs', d, rfl, h4, hd⟩ := lays_snoc h3
    refine ⟨_, pss_cons (ps_set (i := 1) scGo.nd rfl (Or.inr rfl) (pe_ix ix_list (pe_fld (pv 0) rfl) (pe_un un_neg pe_int) (fun _ _ => rfl)))
      (pss_cons (ps_set (i := 2) scGo.nd rfl (Or.inl rfl) (pe_call Gm hr rfl TM.more GM.kp bm .nil pass0 (pa_cons (pv 1) (pa_cons (pe_fld (pv 0) rfl) (pa_cons (pe_fld (pv 0) rfl) pa_nil)))))
      (pss_cons (ps_fld (pv 0) (pe_lc (g := gName 3) (own := [("state", 3)]) rfl scGo.nd (pi_list (pv 2)) (by show BlkOk ["self", "last", "least", "state"] (defScope sGo) _ _; exact blkOk_by (by decide +kernel))
        (fun _ _ _ _ _ => pg_name (i := 3) scGo.nd rfl (Or.inl rfl) (Or.inr rfl)) (tt := tTest (tOp (rNotInT K) (tVar 3) (tVar 1))) (fun _ _ _ _ _ => pts_one (pt_cmpR (op_notInT hr.units) (pv 3) (pv 1) rfl)) (fun _ _ _ _ _ => pv 3)) rfl)
      (pss_one (ps_expr (pe_bm PySem.F.plainAttrs_list PySem.F.slot_list_append PySem.F.type_list_append mt_append (pe_fld (pv 0) rfl) (pa_cons (pv 2) pa_nil)))))), ?_⟩
    refine ⟨_, rfl, a, R, dx, _, _, rfl, ha, TR.cl, TR.nG, rF_gone _ _ _, _, rfl, g, _, _, _, rfl, rfl, SqL.of h1, last_ref _ _, ?_⟩
    refine ⟨_, rfl, _, rfl, a, R, dx, _, _, rfl, ha, TR.cl, TR.nF, rF_fresh _ _ _, _, rfl, a, R, dx, _, _, rfl, ha, TR.cl, TR.nS, rF_steps _ _ _, ?_⟩
    refine ⟨d, f', st, last, fresh, ps, n, rfl, hd, hf, hst, hps, hln, hfn, h0, h1000, l60, f60, p12, fun H1 r L s1 nr hL le => ?_⟩
    obtain ⟨la, hla, hlt⟩ := hL
    obtain ⟨da, hda, hdt⟩ := id hd
    have hdt1 := hdt.same s1
    have h61 : L.length ≤ 61 := by
      rcases le with ⟨_, z⟩ | ⟨z, _⟩ <;> omega
    have lenL := hlt.length
    refine ⟨_, rfl, r, rfl, ⟨_, SqL.of hla⟩, ?_⟩
    intro D hD
    refine lc_list (K := K) (a := r) (xs := la.map V.ref) (fun i H' => Same H1 H' ∧ ∃ ns, H' D = some (.lst (ns.map V.ref)) ∧ Tups H1 ns (SM.newOf last (L.take i))) ⟨Same.upd hD, [], upd_same, by rw [List.take_zero]; exact .nil⟩
      (fun i H' _ ⟨s2, _⟩ => s2.seq (SqL.of hla)) ?_ ?_
    · rintro i y H' hi ⟨s2, ns, hD2, ht2⟩
      obtain ⟨x, hx, rfl⟩ := map_get hi
      obtain ⟨s, es, ts⟩ := hlt.get hx
      refine ⟨rfl, ?_⟩
      refine ⟨_, rfl, _, rfl, x, d, da, keyOf H1, rfl, rfl, s2.seq (s1.seq (SqL.of hda)), by rw [keyOf_at ts]; exact s2 _ _ ts, fun b hb => ?_, _, rfl, ?_⟩
      · obtain ⟨t, _, tt⟩ := hdt1.mem hb
        rw [keyOf_at tt]; exact s2 _ _ tt
      · rw [any_key hdt1 ts]
        have nm := newOf_more (last := last) es
        refine ite2 (fun c => ?_) (fun c => ?_)
        · rw [if_pos c] at nm
          refine ⟨_, rfl, _, hD2, ?_, s2.put hD, ns ++ [x], by rw [upd_same, List.map_append]; rfl, by rw [nm]; exact ht2.append (.cons ts .nil)⟩
          rw [List.length_map, ht2.length]
          have := newOf_le last (L.take i)
          rw [List.length_take] at this
          exact small1000 (by omega)
        · rw [if_neg c, List.append_nil] at nm
          exact ⟨s2, ns, hD2, by rw [nm]; exact ht2⟩
    · rintro H2 ⟨s2, ns, hD2, ht2⟩
      rw [List.length_map, lenL, List.take_length] at ht2
      have ha2 := s2 _ _ (s1 _ _ ha)
      refine ⟨_, rfl, a, R, dx, _, rfl, ha2, TR.cl, TR.nF, (by rw [rF_eq]; show 3 < 1000; decide), ?_⟩
      rw [rF_put]
      have B3 : But a H2 (upd H2 a (.ins R dx (rF st g D))) := (But.refl a H2).put
      have a3 : upd H2 a (.ins R dx (rF st g D)) a = some (.ins R dx (rF st g D)) := upd_same
      generalize upd H2 a (.ins R dx (rF st g D)) = H3 at *
      have g2 := s2 _ _ (s1 _ _ h1)
      have nga : g ≠ a := ne_of g2 ha2 (fun z => nomatch z)
      have g3 := B3 _ _ g2 nga
      refine ⟨_, rfl, a, R, dx, _, _, rfl, a3, TR.cl, TR.nG, rF_gone _ _ _, .inl ⟨rfl, _, SqL.of g3⟩, _, rfl, g, _, _, rfl, rfl, g3, ?_, ?_⟩
      · rw [List.length_map, List.length_append, h4.length]
        exact small1000 (by simp only [List.length_cons, List.length_nil]; omega)
      have er : (gs' ++ [d]).map V.ref ++ [V.ref r] = ((gs' ++ [d]) ++ [r]).map V.ref := by rw [List.map_append (l₂ := [r])]; rfl
      rw [er]
      have B4 : But g H3 (upd H3 g (.lst (((gs' ++ [d]) ++ [r]).map V.ref))) := (But.refl g H3).put
      have r1 : H1 r = some (.lst (la.map V.ref)) := hla
      have nrg : r ≠ g := fun e => by rw [e, h1] at nr; cases nr
      have nra : r ≠ a := fun e => by rw [e, ha] at nr; cases nr
      have nDg : D ≠ g := fun e => by rw [e, s1 _ _ h1] at hD; cases hD
      have nDa : D ≠ a := fun e => by rw [e, s1 _ _ ha] at hD; cases hD
      have nins : ∀ ys, HO.ins R dx (rF st g f') ≠ .tup ys := fun ys z => nomatch z
      have nlst : ∀ ys, HO.lst ((gs' ++ [d]).map V.ref) ≠ .tup ys := fun ys z => nomatch z
      have naG : a ∉ gs' ++ [d] := fun m => by
        obtain ⟨i, hi⟩ := List.mem_iff_getElem?.mp m
        obtain ⟨s, _, as, q, _⟩ := h3.get hi
        rw [ha] at q; cases q
      have lays4 : Lays (upd H3 g (.lst (((gs' ++ [d]) ++ [r]).map V.ref))) (gs' ++ [d]) (ls ++ [last]) := ((((h3.same s1).same s2).but B3 ha2 nins naG).but B4 g3 nlst h2)
      have hr4 : StatesAt (upd H3 g (.lst (((gs' ++ [d]) ++ [r]).map V.ref))) r L := StatesAt.but (StatesAt.but (StatesAt.same (show StatesAt H1 r L from ⟨la, hla, hlt⟩) s2) B3 ha2 nins nra) B4 g3 nlst nrg
      have hD4 : StatesAt (upd H3 g (.lst (((gs' ++ [d]) ++ [r]).map V.ref))) D (SM.newOf last L) := StatesAt.but (StatesAt.but (show StatesAt H2 D (SM.newOf last L) from ⟨ns, hD2, ht2.same s2⟩) B3 ha2 nins nDa) B4 g3 nlst nDg
      refine k _ D L ?_ ⟨(gs' ++ [d]) ++ [r], upd_same, ?_, lays4.append (.cons hr4 .nil)⟩ hD4 le fun b o e na ng => ?_
      · rw [upd_ne (Ne.symm nga)]; exact a3
      · intro m
        rcases List.mem_append.mp m with m | m
        · exact h2 m
        · exact nrg (by have e : g = r := by simpa using m
                        exact e.symm)
      · exact B4 _ _ (B3 _ _ (s2 _ _ (s1 _ _ e)) na) ng
end
end SR
end
section
set_option Elab.async false
set_option linter.all false
set_option maxRecDepth 100000
set_option maxHeartbeats 4000000
namespace SR
open PySem PySem.Spec PyProof.Rows L2
open Kcx0 (State Step_ within can_ done before)

structure TxtK (mg : Str → Option Value) (R : Addr) : Prop where
  rounds : mg "Rounds" = some (.ref R)
  never : Num mg "NEVER" (-6)
  tooMany : Num mg "TOO_MANY" (-75)
abbrev sBack : Stmt := top 18
abbrev sAllBack : Stmt := top 19
/-- where the rounds stand: k of them are gone -/
structure Stand6 (ps : List Step_) (t : State) (k : Nat) (ls : List (List State)) (last fresh : List State) : Prop where
  len : ls.length = k
  old : ∀ (i : Nat) (l : List State), ls[i]? = some l → l.Perm (SM.lay ps t i)
  fl : fresh.length ≤ last.length
  now : (last.length ≤ 60 ∧ SM.Good ps t k last fresh) ∨ SM.Over ps t k last
theorem stand_start {ps : List Step_} {t : State} : Stand6 ps t 0 [] [t] [t] := ⟨rfl, fun i l h => by simp at h, Nat.le_refl _, .inl ⟨by show 1 ≤ 60; decide, SM.good_start⟩⟩
theorem Stand6.good {ps : List Step_} {t : State} {k : Nat} {ls : List (List State)} {last fresh : List State} (h : Stand6 ps t k ls last fresh) (l60 : last.length ≤ 60) : SM.Good ps t k last fresh := by
  rcases h.now with ⟨_, g⟩ | ⟨o, _⟩
  · exact g
  · omega
theorem Stand6.next {n : Nat} {ps : List Step_} {t : State} {k : Nat} {ls : List (List State)} {last fresh L : List State} (h : Stand6 ps t k ls last fresh) (l60 : last.length ≤ 60) (hp : SM.StepsN n ps) (ht : t.length = n) (le : SM.Least60 (SM.lookedAt ps last fresh) L) :
    Stand6 ps t (k + 1) (ls ++ [last]) L (SM.newOf last L) ∧ (SM.newOf last L = [] ↔ Kcx0.same (SM.lay ps t k) (SM.lay ps t (k + 1)) = true) := by
  have g := h.good l60
  obtain ⟨a, b⟩ := g.next hp ht l60 le
  refine ⟨⟨by rw [List.length_append, h.len]; rfl, fun i l e => ?_, newOf_le last L, a⟩, b⟩
  by_cases c : i < ls.length
  · rw [List.getElem?_append_left c] at e
    exact h.old i l e
  · rw [List.getElem?_append_right (by omega)] at e
    have e0 : i - ls.length = 0 := by
      rcases Nat.eq_zero_or_pos (i - ls.length) with z | z
      · exact z
      · rw [List.getElem?_eq_none (by simp only [List.length_cons, List.length_nil]; omega)] at e; cases e
    rw [e0] at e
    have e1 : last = l := Option.some.inj e
    subst e1
    have : i = k := by have := h.len; omega
    rw [this]
    exact g.perm
theorem Stand6.layLen {ps : List Step_} {t : State} {k : Nat} {ls : List (List State)} {last fresh : List State} (h : Stand6 ps t k ls last fresh) (l60 : last.length ≤ 60) : (SM.lay ps t k).length ≤ 60 := by
  rw [← (h.good l60).perm.length_eq]; exact l60
section
variable {P : Program} {w : World} {K : PySem.W.Frag} {mg : Str → Option Value} {base : Heap} {C R fh fw fo fl fm fA fRI fG fN fT : Addr}
def spBack (C : Addr) : Sp := fun vs H Q _ => ∃ (a b c : Addr) (s t : State) (ps : List Step_) (n : Nat), vs = [.ref a, .ref b, .ref c] ∧ TupAt H a s ∧ TupAt H b t ∧ StepsAt C H c ps ∧ SM.StepsN n ps ∧ s.length = n ∧ t.length = n ∧ 0 < n ∧ n ≤ 1000 ∧ ps.length ≤ 12 ∧
  ∀ (H' : Hp) (r g : Addr), Same H H' → H r = none → H' r = some (.tup [.int (SM.code (Kcx0.least ps s t)), .ref g]) →
    (∀ k, Kcx0.least ps s t = .steps k → SM.Far ps t s k ∧ ∃ ls, GoneAt H' g ls ∧ ls.length = k + 1 ∧ ∀ (i : Nat) (l : List State), ls[i]? = some l → l.Perm (SM.lay ps t i)) → Q (.ref r) H'
theorem scBack : FnScope ["first", "wanted", "steps", "rounds"] ["first", "wanted", "steps"] (defScope sBack) := ⟨rfl, rfl, rfl, by decide +kernel, rfl, by decide +kernel, by decide +kernel⟩
theorem ok_back {f : Addr} {fd : FuncData} (F : Fun K "look_back" "look_back" sBack f fd) (T : Txt K mg) (TR : TxtRo K R) (TM : TxtR mg fo fl fm) (TK : TxtK mg R) (M : Mk K R fRI)
    (GI : ∃ fd, FnOk P w K mg base CX0 1 fRI fd ["self", "wanted", "steps"] (spRInit R) ∧ Binds K fd ["self", "wanted", "steps"] [])
    (GO : Callee P w K mg base 2 fo ["state", "least"] (spHasOne K)) (GG : MethOk P w K mg base 5 R "go_on" fG ["self"] (spGo R C))
    (GN : MethOk P w K mg base 1 R "brought_nothing_new" fN ["self"] (spNothing R)) (GT : MethOk P w K mg base 1 R "are_too_many" fT ["self"] (spTooMany R)) : FnOk P w K mg base CX0 6 f fd ["first", "wanted", "steps"] (spBack C) := by
  obtain ⟨fdi, Gi, bi⟩ := GI
  obtain ⟨fdo, Go, bo⟩ := GO.ex
  obtain ⟨fdg, Gg, bg⟩ := GG.ex
  obtain ⟨fdn, Gn, bn⟩ := GN.ex
  obtain ⟨fdt, Gt, bt⟩ := GT.ex
  refine F.ok scBack (fun vs H Q E h => ?_) (fun cdv A outer s0 H vs Q E hr h => ?_)
  · obtain ⟨a, b, c, _, _, _, _, rfl, _⟩ := h
    rfl
  · obtain ⟨a, b, c, s, t, ps, n, rfl, ha, hb, hc, hps, hs, ht, h0, h1000, p12, k⟩ := h
    have hr1 := hr.mono (show 1 ≤ 5 by decide)
    have hr2 := hr.mono (show 2 ≤ 5 by decide)
    refine ⟨_, pss_cons (ps_set (i := 3) scBack.nd rfl (Or.inl rfl) (pe_make M Gi hr2 rfl TK.rounds bi .nil pass0 (pa_cons (pv 1) (pa_cons (pv 2) pa_nil))))
      (pss_cons (ps_while PassesOwn.never (pt_not (pt_val (pe_meth0 (pv 3) TR.cl GT.mt Gt hr1 bt .nil pass0)))
        (pss_cons (ps_if (pt_val (pe_call Go hr2 rfl TM.one GO.kp bo .nil pass0 (pa_cons (pv 0) (pa_cons (pe_fld (pv 3) rfl) pa_nil))))
          (pss_one (ps_ret (pe_tup (pa_cons (pe_op op_sub (pe_callB call_len_seq (by rfl) T.len PySem.boot_len (pa_cons (pe_fld (pv 3) rfl) pa_nil)) pe_int) (pa_cons (pe_fld (pv 3) rfl) pa_nil))))) pss_nil)
        (pss_cons (ps_expr (pe_meth0 (pv 3) TR.cl GG.mt Gg hr bg .nil pass0))
        (pss_one (ps_if (pt_val (pe_meth0 (pv 3) TR.cl GN.mt Gn hr1 bn .nil pass0)) (pss_one (ps_ret (pe_tup (pa_cons (pe_num rfl TK.never) (pa_cons (pe_fld (pv 3) rfl) pa_nil))))) pss_nil)))))
      (pss_one (ps_ret (pe_tup (pa_cons (pe_num rfl TK.tooMany) (pa_cons (pe_fld (pv 3) rfl) pa_nil)))))), ?_⟩
    refine ⟨_, rfl, _, rfl, fun p dx np nd ne => ?_⟩
    have sN : Same H (upd (upd H dx (.own p)) p (.ins R dx [])) := fun b' o e => by rw [upd_ne (ne_of_none e np), upd_ne (ne_of_none e nd)]; exact e
    refine ⟨p, dx, b, c, t, rfl, upd_same, sN _ _ hb, fun H1 g f1 hp1 ng0 hg1 hf1 B1 => ⟨rfl, ?_⟩⟩
    have ng : H g = none := sN.free ng0
    have S1 : Same H H1 := fun b' o e => B1 b' o (sN b' o e) (ne_of_none e np)
    refine ⟨fun m σ H' => ∃ (k' : Nat) (f' : Addr) (ls : List (List State)) (last fresh : List State), m = 201 - k' ∧ k' ≤ 201 ∧ σ = [some (.ref a), some (.ref b), some (.ref c), some (.ref p)] ∧ H' p = some (.ins R dx (rF c g f')) ∧ GoneAt H' g (ls ++ [last]) ∧ StatesAt H' f' fresh ∧ Same H H' ∧
      Stand6 ps t k' ls last fresh ∧ (∀ j, j < k' → Kcx0.has (SM.lay ps t j) s = false) ∧ Kcx0.least ps s t = Kcx0.seek ps s (201 - k') k' (SM.lay ps t k'),
      ⟨201, 0, f1, [], [t], [t], rfl, by decide, rfl, hp1, hg1, hf1, S1, stand_start, fun j hj => absurd hj (Nat.not_lt_zero j), rfl⟩, ?_⟩
    rintro m σ H2 ⟨k', f2, ls, last, fresh, rfl, k201, rfl, hp2, hg2, hf2, S2, st, far, eq⟩
    refine ⟨_, rfl, p, dx, _, rfl, hp2, rF_no _ _ _ (by decide +kernel) (by decide +kernel) (by decide +kernel), p, dx, c, g, f2, ls, last, rfl, hp2, hg2, ?_⟩
    refine ⟨_, rfl, ?_⟩
    by_cases many : 60 < last.length ∨ 200 < ls.length
    · rw [decide_eq_true many]
      refine iteF ?_
      refine ⟨_, rfl, p, R, dx, _, _, rfl, hp2, TR.cl, TR.nG, rF_gone _ _ _, by show 2 ≤ sizeLine; decide, fun r hr0 => ?_⟩
      have much : Kcx0.least ps s t = .much := by
        rw [eq]
        by_cases c1 : k' = 201
        · rw [c1]; rfl
        · rcases many with q | q
          · rcases st.now with ⟨z, _⟩ | ⟨_, z⟩
            · omega
            · exact SM.seek_much z
          · have := st.len; omega
      refine k _ r g (S2.trans (Same.upd hr0)) (S2.free hr0) ?_ (fun k2 e => ?_)
      · rw [upd_same, much]; rfl
      · rw [much] at e; cases e
    · rw [decide_eq_false many]
      refine iteT ?_
      have l60 : last.length ≤ 60 := by omega
      have k200 : k' ≤ 200 := by have := st.len; omega
      have gd := st.good l60
      have ll := st.layLen l60
      have lenLast : SM.LenN n last := gd.len hps ht
      have lenFresh : SM.LenN n fresh := fun x hx => lenLast x (gd.sub x hx)
      obtain ⟨fu, efu⟩ : ∃ fu, 201 - k' = fu + 1 := ⟨200 - k', by omega⟩
      have hfr : Kcx0.has fresh s = Kcx0.has (SM.lay ps t k') s := gd.has_fresh fun j e => far j (by omega)
      refine ⟨fun σ' H' => ∃ (k' : Nat) (f' : Addr) (ls : List (List State)) (last fresh : List State), fu = 201 - k' ∧ k' ≤ 201 ∧ σ' = [some (.ref a), some (.ref b), some (.ref c), some (.ref p)] ∧ H' p = some (.ins R dx (rF c g f')) ∧ GoneAt H' g (ls ++ [last]) ∧ StatesAt H' f' fresh ∧ Same H H' ∧
        Stand6 ps t k' ls last fresh ∧ (∀ j, j < k' → Kcx0.has (SM.lay ps t j) s = false) ∧ Kcx0.least ps s t = Kcx0.seek ps s (201 - k') k' (SM.lay ps t k'), fun σ' H' q => ⟨fu, by omega, q⟩, ?_⟩
      refine ⟨_, rfl, _, rfl, p, R, dx, _, _, rfl, hp2, TR.cl, TR.nF, rF_fresh _ _ _, a, f2, s, fresh, rfl, SqT.of (S2 _ _ ha), hf2, fun x hx => by rw [hs]; exact lenFresh x hx, fun H3 s3 => ?_⟩
      refine ⟨_, rfl, ite2 (fun q => ?_) (fun q => ?_)⟩
      · rw [hfr] at q
        have here : Kcx0.least ps s t = .steps k' := by rw [eq, efu]; exact SM.seek_here ll q
        obtain ⟨gs, g1, g2, g3⟩ := id (hg2.same s3)
        refine ⟨_, rfl, p, R, dx, _, _, rfl, s3 _ _ hp2, TR.cl, TR.nG, rF_gone _ _ _, g, _, rfl, .inl (SqL.of g1), _, _, rfl, rfl, _, rfl, p, R, dx, _, _, rfl, s3 _ _ hp2, TR.cl, TR.nG, rF_gone _ _ _, by show 2 ≤ sizeLine; decide, fun r hr0 => ?_⟩
        refine k _ r g ((S2.trans s3).trans (Same.upd hr0)) ((S2.trans s3).free hr0) ?_ (fun k2 e => ?_)
        · rw [upd_same, here]
          have e1 : (((gs.map V.ref).length : Nat) : Int) - 1 = (k' : Int) := by
            rw [List.length_map, g3.length, List.length_append, st.len]
            simp only [List.length_cons, List.length_nil]
            omega
          show some (HO.tup [V.int ((((gs.map V.ref).length : Nat) : Int) - 1), V.ref g]) = some (HO.tup [V.int (k' : Int), V.ref g])
          rw [e1]
        · rw [here] at e
          cases e
          refine ⟨⟨q, far⟩, ls ++ [last], (hg2.same s3).same (Same.upd hr0), by rw [List.length_append, st.len]; rfl, fun i l e => ?_⟩
          by_cases c : i < ls.length
          · rw [List.getElem?_append_left c] at e
            exact st.old i l e
          · rw [List.getElem?_append_right (by omega)] at e
            have e0 : i - ls.length = 0 := by
              rcases Nat.eq_zero_or_pos (i - ls.length) with z | z
              · exact z
              · rw [List.getElem?_eq_none (by simp only [List.length_cons, List.length_nil]; omega)] at e; cases e
            rw [e0] at e
            have e1 : last = l := Option.some.inj e
            subst e1
            have : i = k' := by have := st.len; omega
            rw [this]
            exact gd.perm
      · have q' : Kcx0.has (SM.lay ps t k') s = false := by rw [← hfr]; simpa using q
        have hp3 := s3 _ _ hp2
        refine ⟨_, rfl, p, dx, _, rfl, hp3, rF_no _ _ _ (by decide +kernel) (by decide +kernel) (by decide +kernel), p, dx, c, g, f2, ls, last, fresh, ps, n, rfl, hp3, hg2.same s3, hf2.same s3, hc.same (S2.trans s3), hps, lenLast, lenFresh, h0, h1000, l60, by have := st.fl; omega, p12, by have := st.len; omega, fun H4 f4 L hp4 hg4 hf4 le fr4 => ?_⟩
        have S4 : Same H H4 := fun b' o e => fr4 b' o ((S2.trans s3) b' o e) (ne_of_none e np) (ne_of_none e ng)
        obtain ⟨st4, nn⟩ := st.next l60 hps ht le
        refine ⟨_, rfl, p, dx, _, rfl, hp4, rF_no _ _ _ (by decide +kernel) (by decide +kernel) (by decide +kernel), p, dx, c, g, f4, SM.newOf last L, rfl, hp4, hf4, ?_⟩
        refine ⟨_, rfl, ite2 (fun z => ?_) (fun z => ?_)⟩
        · have z' : SM.newOf last L = [] := by simpa using z
          have nev : Kcx0.least ps s t = .never := by rw [eq, efu]; exact SM.seek_never ll q' (nn.mp z')
          refine ⟨_, rfl, p, R, dx, _, _, rfl, hp4, TR.cl, TR.nG, rF_gone _ _ _, by show 2 ≤ sizeLine; decide, fun r hr0 => ?_⟩
          refine k _ r g (S4.trans (Same.upd hr0)) (S4.free hr0) ?_ (fun k2 e => ?_)
          · rw [upd_same, nev]; rfl
          · rw [nev] at e; cases e
        · have z' : ¬ SM.newOf last L = [] := by simpa using z
          have sm : Kcx0.same (SM.lay ps t k') (Kcx0.round ps (SM.lay ps t k')) = false := by
            cases q5 : Kcx0.same (SM.lay ps t k') (Kcx0.round ps (SM.lay ps t k')) with
            | false => rfl
            | true => exact absurd (nn.mpr q5) z'
          refine ⟨k' + 1, f4, ls ++ [last], L, SM.newOf last L, by omega, by omega, rfl, hp4, hg4, hf4, S4, st4, fun j hj => ?_, ?_⟩
          · by_cases e : j = k'
            · rw [e]; exact q'
            · exact far j (by omega)
          · rw [eq, efu, SM.seek_on ll q' sm, show 201 - (k' + 1) = fu by omega]
            rfl

theorem has_same {n : Nat} {a b : List State} {s : State} (h : Kcx0.same a b = true) (la : SM.LenN n a) (lb : SM.LenN n b) (ls : s.length = n) : Kcx0.has a s = Kcx0.has b s := by
  obtain ⟨h1, h2⟩ := SM.same_iff.mp h
  have one : ∀ {a b : List State}, SM.LenN n a → SM.LenN n b → (∀ w ∈ a, Kcx0.has b w = true) → Kcx0.has a s = true → Kcx0.has b s = true := fun {a b} la lb h q => by
    obtain ⟨x, hx, xl⟩ := SM.has_iff.mp q
    obtain ⟨y, hy, yl⟩ := SM.has_iff.mp (h x hx)
    exact SM.has_iff.mpr ⟨y, hy, SM.within_trans ((lb y hy).trans (la x hx).symm) ((la x hx).trans ls.symm) yl xl⟩
  rw [Bool.eq_iff_iff]
  exact ⟨one la lb h1, one lb la h2⟩
def spAllBack (C : Addr) : Sp := fun vs H Q _ => ∃ (b c : Addr) (t : State) (ps : List Step_) (n : Nat), vs = [.ref b, .ref c] ∧ TupAt H b t ∧ StepsAt C H c ps ∧ SM.StepsN n ps ∧ t.length = n ∧ 0 < n ∧ n ≤ 1000 ∧ ps.length ≤ 12 ∧
  ∀ (H' : Hp) (r g : Addr) (v : Int), Same H H' → H r = none → H' r = some (.tup [.int v, .ref g]) →
    ((Kcx0.whole ps 201 [t] = none ∧ v = -75) ∨ (v = 0 ∧ ∃ m L, Kcx0.whole ps 201 [t] = some m ∧ StatesAt H' g L ∧ SM.LenN n L ∧ ∀ s : State, s.length = n → Kcx0.has L s = Kcx0.has m s)) → Q (.ref r) H'
theorem scAllBack : FnScope ["wanted", "steps", "rounds"] ["wanted", "steps"] (defScope sAllBack) := ⟨rfl, rfl, rfl, by decide +kernel, rfl, by decide +kernel, by decide +kernel⟩
theorem ok_allBack {f : Addr} {fd : FuncData} (F : Fun K "look_all_the_way_back" "look_all_the_way_back" sAllBack f fd) (T : Txt K mg) (TR : TxtRo K R) (TK : TxtK mg R) (M : Mk K R fRI)
    (GI : ∃ fd, FnOk P w K mg base CX0 1 fRI fd ["self", "wanted", "steps"] (spRInit R) ∧ Binds K fd ["self", "wanted", "steps"] [])
    (GG : MethOk P w K mg base 5 R "go_on" fG ["self"] (spGo R C))
    (GN : MethOk P w K mg base 1 R "brought_nothing_new" fN ["self"] (spNothing R)) (GT : MethOk P w K mg base 1 R "are_too_many" fT ["self"] (spTooMany R)) : FnOk P w K mg base CX0 6 f fd ["wanted", "steps"] (spAllBack C) := by
  obtain ⟨fdi, Gi, bi⟩ := GI
  obtain ⟨fdg, Gg, bg⟩ := GG.ex
  obtain ⟨fdn, Gn, bn⟩ := GN.ex
  obtain ⟨fdt, Gt, bt⟩ := GT.ex
  refine F.ok scAllBack (fun vs H Q E h => ?_) (fun cdv A outer s0 H vs Q E hr h => ?_)
  · obtain ⟨b, c, _, _, _, rfl, _⟩ := h
    rfl
  · obtain ⟨b, c, t, ps, n, rfl, hb, hc, hps, ht, h0, h1000, p12, k⟩ := h
    have hr1 := hr.mono (show 1 ≤ 5 by decide)
    have hr2 := hr.mono (show 2 ≤ 5 by decide)
    refine ⟨_, pss_cons (ps_set (i := 2) scAllBack.nd rfl (Or.inl rfl) (pe_make M Gi hr2 rfl TK.rounds bi .nil pass0 (pa_cons (pv 0) (pa_cons (pv 1) pa_nil))))
      (pss_cons (ps_while PassesOwn.never (pt_not (pt_val (pe_meth0 (pv 2) TR.cl GT.mt Gt hr1 bt .nil pass0)))
        (pss_cons (ps_expr (pe_meth0 (pv 2) TR.cl GG.mt Gg hr bg .nil pass0))
        (pss_one (ps_if (pt_val (pe_meth0 (pv 2) TR.cl GN.mt Gn hr1 bn .nil pass0)) (pss_one (ps_ret (pe_tup (pa_cons pe_int (pa_cons (pe_ix ix_list (pe_fld (pv 2) rfl) (pe_un un_neg pe_int) (fun _ _ => rfl)) pa_nil))))) pss_nil))))
      (pss_one (ps_ret (pe_tup (pa_cons (pe_num rfl TK.tooMany) (pa_cons (pe_ix ix_list (pe_fld (pv 2) rfl) (pe_un un_neg pe_int) (fun _ _ => rfl)) pa_nil)))))), ?_⟩
    refine ⟨_, rfl, _, rfl, fun p dx np nd ne => ?_⟩
    have sN : Same H (upd (upd H dx (.own p)) p (.ins R dx [])) := fun b' o e => by rw [upd_ne (ne_of_none e np), upd_ne (ne_of_none e nd)]; exact e
    refine ⟨p, dx, b, c, t, rfl, upd_same, sN _ _ hb, fun H1 g f1 hp1 ng0 hg1 hf1 B1 => ⟨rfl, ?_⟩⟩
    have ng : H g = none := sN.free ng0
    have S1 : Same H H1 := fun b' o e => B1 b' o (sN b' o e) (ne_of_none e np)
    refine ⟨fun m σ H' => ∃ (k' : Nat) (f' : Addr) (ls : List (List State)) (last fresh : List State), m = 201 - k' ∧ k' ≤ 201 ∧ σ = [some (.ref b), some (.ref c), some (.ref p)] ∧ H' p = some (.ins R dx (rF c g f')) ∧ GoneAt H' g (ls ++ [last]) ∧ StatesAt H' f' fresh ∧ Same H H' ∧
      Stand6 ps t k' ls last fresh ∧ Kcx0.whole ps 201 [t] = Kcx0.whole ps (201 - k') (SM.lay ps t k'),
      ⟨201, 0, f1, [], [t], [t], rfl, by decide, rfl, hp1, hg1, hf1, S1, stand_start, rfl⟩, ?_⟩
    rintro m σ H2 ⟨k', f2, ls, last, fresh, rfl, k201, rfl, hp2, hg2, hf2, S2, st, eq⟩
    refine ⟨_, rfl, p, dx, _, rfl, hp2, rF_no _ _ _ (by decide +kernel) (by decide +kernel) (by decide +kernel), p, dx, c, g, f2, ls, last, rfl, hp2, hg2, ?_⟩
    refine ⟨_, rfl, ?_⟩
    by_cases many : 60 < last.length ∨ 200 < ls.length
    · rw [decide_eq_true many]
      refine iteF ?_
      obtain ⟨gs, g1, g2, g3⟩ := id hg2
      obtain ⟨gs', d, rfl, g4, hd⟩ := lays_snoc g3
      refine ⟨_, rfl, p, R, dx, _, _, rfl, hp2, TR.cl, TR.nG, rF_gone _ _ _, _, rfl, g, _, _, _, rfl, rfl, SqL.of g1, last_ref _ _, by show 2 ≤ sizeLine; decide, fun r hr0 => ?_⟩
      have much : Kcx0.whole ps 201 [t] = none := by
        rw [eq]
        by_cases c1 : k' = 201
        · rw [c1]; rfl
        · rcases many with q | q
          · rcases st.now with ⟨z, _⟩ | ⟨_, z⟩
            · omega
            · exact SM.whole_much z
          · have := st.len; omega
      exact k _ r d (-75) (S2.trans (Same.upd hr0)) (S2.free hr0) upd_same (.inl ⟨much, rfl⟩)
    · rw [decide_eq_false many]
      refine iteT ?_
      have l60 : last.length ≤ 60 := by omega
      have k200 : k' ≤ 200 := by have := st.len; omega
      have gd := st.good l60
      have ll := st.layLen l60
      have lenLast : SM.LenN n last := gd.len hps ht
      have lenFresh : SM.LenN n fresh := fun x hx => lenLast x (gd.sub x hx)
      obtain ⟨fu, efu⟩ : ∃ fu, 201 - k' = fu + 1 := ⟨200 - k', by omega⟩
      refine ⟨fun σ' H' => ∃ (k' : Nat) (f' : Addr) (ls : List (List State)) (last fresh : List State), fu = 201 - k' ∧ k' ≤ 201 ∧ σ' = [some (.ref b), some (.ref c), some (.ref p)] ∧ H' p = some (.ins R dx (rF c g f')) ∧ GoneAt H' g (ls ++ [last]) ∧ StatesAt H' f' fresh ∧ Same H H' ∧
        Stand6 ps t k' ls last fresh ∧ Kcx0.whole ps 201 [t] = Kcx0.whole ps (201 - k') (SM.lay ps t k'), fun σ' H' q => ⟨fu, by omega, q⟩, ?_⟩
      refine ⟨_, rfl, p, dx, _, rfl, hp2, rF_no _ _ _ (by decide +kernel) (by decide +kernel) (by decide +kernel), p, dx, c, g, f2, ls, last, fresh, ps, n, rfl, hp2, hg2, hf2, hc.same S2, hps, lenLast, lenFresh, h0, h1000, l60, by have := st.fl; omega, p12, by have := st.len; omega, fun H4 f4 L hp4 hg4 hf4 le fr4 => ?_⟩
      have S4 : Same H H4 := fun b' o e => fr4 b' o (S2 b' o e) (ne_of_none e np) (ne_of_none e ng)
      obtain ⟨st4, nn⟩ := st.next l60 hps ht le
      refine ⟨_, rfl, p, dx, _, rfl, hp4, rF_no _ _ _ (by decide +kernel) (by decide +kernel) (by decide +kernel), p, dx, c, g, f4, SM.newOf last L, rfl, hp4, hf4, ?_⟩
      refine ⟨_, rfl, ite2 (fun z => ?_) (fun z => ?_)⟩
      · have z' : SM.newOf last L = [] := by simpa using z
        have sm := nn.mp z'
        have wh : Kcx0.whole ps 201 [t] = some (SM.lay ps t k') := by rw [eq, efu]; exact SM.whole_end ll sm
        have gd4 : SM.Good ps t (k' + 1) L (SM.newOf last L) := by
          rcases st4.now with ⟨_, q⟩ | ⟨_, q⟩
          · exact q
          · have := SM.nodup_le (SM.lay_ok hps ht (k' + 1)).2.nodup ((SM.same_lay hps ht).mp sm)
            omega
        obtain ⟨gs, g1, g2, g3⟩ := id hg4
        obtain ⟨gs', d, rfl, g4, hd⟩ := lays_snoc g3
        refine ⟨_, rfl, p, R, dx, _, _, rfl, hp4, TR.cl, TR.nG, rF_gone _ _ _, _, rfl, g, _, _, _, rfl, rfl, SqL.of g1, last_ref _ _, by show 2 ≤ sizeLine; decide, fun r hr0 => ?_⟩
        refine k _ r d 0 (S4.trans (Same.upd hr0)) (S4.free hr0) upd_same (.inr ⟨rfl, _, L, wh, hd.same (Same.upd hr0), gd4.len hps ht, fun s hs => ?_⟩)
        rw [SM.has_perm gd4.perm, has_same sm (SM.lay_ok hps ht k').1 (SM.lay_ok hps ht (k' + 1)).1 hs]
      · have z' : ¬ SM.newOf last L = [] := by simpa using z
        have sm : Kcx0.same (SM.lay ps t k') (Kcx0.round ps (SM.lay ps t k')) = false := by
          cases q5 : Kcx0.same (SM.lay ps t k') (Kcx0.round ps (SM.lay ps t k')) with
          | false => rfl
          | true => exact absurd (nn.mpr q5) z'
        refine ⟨k' + 1, f4, ls ++ [last], L, SM.newOf last L, by omega, by omega, rfl, hp4, hg4, hf4, S4, st4, ?_⟩
        rw [eq, efu, SM.whole_on ll sm, show 201 - (k' + 1) = fu by omega]
        rfl
end
end SR
end
section
set_option Elab.async false
set_option linter.all false
set_option maxRecDepth 100000
set_option maxHeartbeats 4000000
namespace SR
open PySem PySem.Spec PyProof.Rows L2
open Kcx0 (State Step_ within can_ done before)
abbrev sLeads : Stmt := top 20
abbrev sWay : Stmt := top 21
section
variable {P : Program} {w : World} {K : PySem.W.Frag} {mg : Str → Option Value} {base : Heap} {C R fh fw fo fl fm fCan fBeh fLd : Addr}
def spLeads (C : Addr) (K : PySem.W.Frag) : Sp := fun vs H Q _ => ∃ (a b l : Addr) (p : Step_) (s : State) (ws : List State), vs = [.ref a, .ref b, .ref l] ∧ StepAt C H a p ∧ TupAt H b s ∧ StatesAt H l ws ∧ SM.StepN s.length p ∧ s.length ≤ 1000 ∧ SM.LenN s.length ws ∧
  ∀ H', Same H H' → Q (.bl (can_ p s && Kcx0.has ws (done p s))) H'
theorem scLeads : FnScope ["step", "state", "least"] ["step", "state", "least"] (defScope sLeads) := ⟨rfl, rfl, rfl, by decide +kernel, rfl, by decide +kernel, by decide +kernel⟩
theorem ok_leads {f : Addr} {fd : FuncData} (F : Fun K "leads_into" "leads_into" sLeads f fd) (TS : TxtS K mg C fh fw) (TM : TxtR mg fo fl fm) (GC : MethOk P w K mg base 2 C "can_be_done" fCan ["self", "state"] (spCan C K))
    (GB : MethOk P w K mg base 1 C "state_behind" fBeh ["self", "state"] (spBehind C K)) (GO : Callee P w K mg base 2 fo ["state", "least"] (spHasOne K)) : FnOk P w K mg base CX0 3 f fd ["step", "state", "least"] (spLeads C K) := by
  obtain ⟨fdc, Gc, bc⟩ := GC.ex
  obtain ⟨fdb, Gb, bb⟩ := GB.ex
  obtain ⟨fdo, Go, bo⟩ := GO.ex
  refine F.ok scLeads (fun vs H Q E h => ?_) (fun cdv A outer s0 H vs Q E hr h => ?_)
  · obtain ⟨a, b, l, _, _, _, rfl, _⟩ := h
    rfl
  · obtain ⟨a, b, l, p, s, ws, rfl, ha, hb, hl, hp, h1000, hn, k⟩ := h
    have hr1 := hr.mono (show 1 ≤ 2 by decide)
    refine ⟨_, pss_one (ps_ret (pe_and (pe_meth (pv 0) TS.cl GC.mt Gc hr bc .nil pass0 (pa_cons (pv 1) pa_nil)) (pe_one (pe_call Go hr rfl TM.one GO.kp bo .nil pass0 (pa_cons (pe_meth (pv 0) TS.cl GB.mt Gb hr1 bb .nil pass0 (pa_cons (pv 1) pa_nil)) (pa_cons (pv 2) pa_nil)))))), ?_⟩
    obtain ⟨dx, t, g, e1, e2, e3⟩ := id ha
    refine ⟨_, rfl, a, dx, _, rfl, e1, stepF_no _ _ (by decide +kernel) (by decide +kernel), _, rfl, a, b, true, p, s, rfl, ha, SqT.of hb, hp.1, fun H1 s1 => ?_⟩
    refine ⟨_, rfl, ite2 (fun c => ?_) (fun c => ?_)⟩
    · refine ⟨_, rfl, a, dx, _, rfl, s1 _ _ e1, stepF_no _ _ (by decide +kernel) (by decide +kernel), _, rfl, a, b, true, p, s, rfl, ha.same s1, SqT.of (s1 _ _ hb), hp, h1000, c, fun H2 x s2 nx hx => ?_⟩
      refine ⟨_, rfl, x, l, done p s, ws, rfl, SqT.of hx, hl.same (s1.trans s2), fun y hy => by rw [SM.done_length hp rfl]; exact hn y hy, fun H3 s3 => ?_⟩
      have := k _ ((s1.trans s2).trans s3)
      rw [c, Bool.true_and] at this
      exact this
    · have c' : can_ p s = false := by simpa using c
      have := k _ s1
      rw [c', Bool.false_and] at this
      exact this
theorem layers_tail (ps : List Step_) (t : State) : ∀ k, ∃ r, Kcx0.layers ps t k = SM.lay ps t k :: r
  | 0 => ⟨[], rfl⟩
  | k + 1 => by
    obtain ⟨r, e⟩ := layers_tail ps t k
    refine ⟨Kcx0.layers ps t k, ?_⟩
    show Kcx0.round ps ((Kcx0.layers ps t k).headD []) :: Kcx0.layers ps t k = _
    rw [e]
    rfl
theorem layers_next (ps : List Step_) (t : State) (k : Nat) : Kcx0.layers ps t (k + 1) = SM.lay ps t (k + 1) :: Kcx0.layers ps t k := by
  obtain ⟨r, e⟩ := layers_tail ps t k
  show Kcx0.round ps ((Kcx0.layers ps t k).headD []) :: Kcx0.layers ps t k = _
  rw [e]
  rfl
def spWay (C : Addr) : Sp := fun vs H Q _ => ∃ (a g c : Addr) (s t : State) (ps : List Step_) (n k : Nat) (ls : List (List State)), vs = [.ref a, .ref g, .ref c] ∧ TupAt H a s ∧ GoneAt H g ls ∧ StepsAt C H c ps ∧ SM.StepsN n ps ∧ s.length = n ∧ t.length = n ∧ n ≤ 1000 ∧ ps.length ≤ 12 ∧
  ls.length = k + 1 ∧ (∀ (i : Nat) (l : List State), ls[i]? = some l → l.Perm (SM.lay ps t i)) ∧ SM.Far ps t s k ∧ k ≤ 64 ∧ ∀ (H' : Hp) (r : Addr), Same H H' → H r = none → H' r = some (.lst (iv (Kcx0.wayFrom ps (Kcx0.layers ps t k) s))) → (Kcx0.wayFrom ps (Kcx0.layers ps t k) s).length = k → Q (.ref r) H'
theorem scWay : FnScope ["first", "rounds", "steps", "way", "state", "least", "fitting", "number", "step"] ["first", "rounds", "steps"] (defScope sWay) := ⟨rfl, rfl, rfl, by decide +kernel, rfl, by decide +kernel, by decide +kernel⟩
theorem fits_more (ps : List Step_) (l : List State) (s : State) (i : Nat) {p : Step_} (h : ps[i]? = some p) :
    ((List.range (i + 1)).filter fun k => match ps[k]? with | none => false | some p => can_ p s && Kcx0.has l (done p s)) =
    ((List.range i).filter fun k => match ps[k]? with | none => false | some p => can_ p s && Kcx0.has l (done p s)) ++ (if (can_ p s && Kcx0.has l (done p s)) = true then [i] else []) := by
  rw [List.range_succ, List.filter_append, List.filter_cons, List.filter_nil]
  simp only [h]
theorem ok_way {f : Addr} {fd : FuncData} (F : Fun K "earliest_way" "earliest_way" sWay f fd) (T : Txt K mg) (TS : TxtS K mg C fh fw) (hLd : mg "leads_into" = some (.ref fLd)) (GB : MethOk P w K mg base 1 C "state_behind" fBeh ["self", "state"] (spBehind C K))
    (GL : Callee P w K mg base 3 fLd ["step", "state", "least"] (spLeads C K)) : FnOk P w K mg base CX0 4 f fd ["first", "rounds", "steps"] (spWay C) := by
  obtain ⟨fdb, Gb, bb⟩ := GB.ex
  obtain ⟨fdl, Gl, bl⟩ := GL.ex
  refine F.ok scWay (fun vs H Q E h => ?_) (fun cdv A outer s0 H vs Q E hr h => ?_)
  · obtain ⟨a, b, l, _, _, _, _, _, _, rfl, _⟩ := h
    rfl
  · obtain ⟨a, g, c, s, t, ps, n, k, ls, rfl, ha, ⟨gs, g1, g2, g3⟩, hc, hps, hs, ht, h1000, p12, hlen, hperm, far, k64, kk⟩ := h
    have hr1 := hr.mono (show 1 ≤ 3 by decide)
    refine ⟨_, pss_cons (ps_set (i := 3) scWay.nd rfl (Or.inl rfl) (pe_lst pa_nil))
      (pss_cons (ps_set (i := 4) scWay.nd rfl (Or.inr rfl) (pv 0))
      (pss_cons (ps_for PassesOwn.never rfl (pi_reversed rfl T.reversed (pa_cons (pe_slice sl_list (pv 1) po_none (po_some (pe_un un_neg pe_int))) pa_nil)) (pg_name (i := 5) scWay.nd rfl (Or.inr rfl))
        (pss_cons (ps_setLc (g := gTup K 2 (gCons (gName 7) (gCons (gName 8) gNil))) (own := [("number", 7), ("step", 8)]) (i := 6) rfl scWay.nd rfl rfl (sw_true rfl rfl rfl (by decide +kernel)) (pi_enum rfl T.enumerate (pa_cons (pv 2) pa_nil))
            (by show BlkOk ["first", "rounds", "steps", "way", "state", "least", "fitting", "number", "step"] (defScope sWay) _ _; exact blkOk_by (by decide +kernel))
            (fun _ _ _ _ _ => pg_tup rfl (pgs_cons (pg_name (i := 7) scWay.nd rfl (Or.inl rfl) (Or.inr rfl)) (pgs_cons (pg_name (i := 8) scWay.nd rfl (Or.inl rfl) (Or.inr rfl)) pgs_nil)))
            (fun _ _ _ _ _ => pts_one (pt_val (pe_call Gl hr rfl hLd GL.kp bl .nil pass0 (pa_cons (pv 8) (pa_cons (pv 4) (pa_cons (pv 5) pa_nil)))))) (fun _ _ _ _ _ => pv 7))
        (pss_cons (ps_expr (pe_bm PySem.F.plainAttrs_list PySem.F.slot_list_append PySem.F.type_list_append mt_append (pv 3) (pa_cons (pe_ix ix_list (pv 6) pe_int (fun _ _ => rfl)) pa_nil)))
        (pss_one (ps_set (i := 4) scWay.nd rfl (Or.inr rfl) (pe_meth (pe_ix ix_list (pv 2) (pe_ix ix_list (pv 6) pe_int (fun _ _ => rfl)) (fun _ _ => rfl)) TS.cl GB.mt Gb hr1 bb .nil pass0 (pa_cons (pv 4) pa_nil)))))))
      (pss_one (ps_ret (pv 3))))), ?_⟩
    refine ⟨Nat.zero_le _, fun r hr0 => ?_⟩
    have s1 : Same H (upd H r (.lst [])) := Same.upd hr0
    refine ⟨_, rfl, ?_⟩
    obtain ⟨sa, hc1, hc2⟩ := hc
    have lenS := hc2.length
    have lenG := g3.length
    refine ⟨_, rfl, _, rfl, _, rfl, g, _, rfl, s1.seq (SqL.of g1), fun q hq => ?_⟩
    have cut : cutV (gs.map V.ref) none (some (-1)) = (gs.take k).map V.ref := by
      unfold cutV
      rw [HT.sIx_none, List.drop_zero, List.length_map, List.map_take]
      congr 1
      show (if (-1 : Int) < 0 then ((-1 : Int) + (gs.length : Int)).toNat else min (-1 : Int).toNat gs.length) - 0 = k
      rw [if_pos (by decide)]
      omega
    have hq1 : upd (upd H r (.lst [])) q (.lst (cutV (gs.map V.ref) none (some (-1)))) q = some (.lst ((gs.take k).map V.ref)) := by rw [upd_same, cut]
    have s2 : Same H (upd (upd H r (.lst [])) q (.lst (cutV (gs.map V.ref) none (some (-1))))) := s1.trans (Same.upd hq)
    have nrq : r ≠ q := ne_of_none (show upd H r (.lst []) r = some (.lst []) from upd_same) hq
    have hr2 : upd (upd H r (.lst [])) q (.lst (cutV (gs.map V.ref) none (some (-1)))) r = some (.lst []) := by rw [upd_ne nrq]; exact upd_same
    have nq : H q = none := s1.free hq
    have cutr : cutV (gs.map V.ref) none (some (-(1 : Int))) = (gs.take k).map V.ref := cut
    refine ⟨q, (gs.take k).map V.ref, rfl, SqL.of hq1, ?_⟩
    have lenK : ((gs.take k).map V.ref).length = k := by rw [List.length_map, List.length_take]; omega
    refine for_rev (K := K) (a := q) (xs := (gs.take k).map V.ref) (fun i σ H' => ∃ (ci : Addr) (si : State) (ws : List Nat) (v5 v6 v7 v8 : Option V), σ = [some (.ref a), some (.ref g), some (.ref c), some (.ref r), some (.ref ci), v5, v6, v7, v8] ∧ Same H H' ∧ H' q = some (.lst ((gs.take k).map V.ref)) ∧ H' r = some (.lst (iv ws)) ∧
        TupAt H' ci si ∧ si.length = n ∧ i ≤ k ∧ ws.length = i ∧ SM.Far ps t si (k - i) ∧ Kcx0.wayFrom ps (Kcx0.layers ps t k) s = ws ++ Kcx0.wayFrom ps (Kcx0.layers ps t (k - i)) si)
      ⟨a, s, [], none, none, none, none, rfl, s2, hq1, hr2, s2 _ _ ha, hs, Nat.zero_le _, rfl, far, rfl⟩ (fun i σ H' _ ⟨_, _, _, _, _, _, _, _, _, hq', _⟩ => SqL.of hq') ?_ ?_
    · rintro i y σ H3 hi hy ⟨ci, si, ws, v5, v6, v7, v8, rfl, s3, hq3, hr3, hci, lsi, hik, lws, fari, eqw⟩
      rw [lenK] at hi hy
      obtain ⟨d, hd, rfl⟩ := map_get hy
      rw [List.getElem?_take_of_lt (by omega)] at hd
      obtain ⟨l, el, hl⟩ := g3.get hd
      have pl := hperm _ l el
      obtain ⟨j, ej⟩ : ∃ j, k - i = j + 1 := ⟨k - 1 - i, by omega⟩
      have ej2 : k - 1 - i = j := by omega
      rw [ej2] at pl
      rw [ej] at fari eqw
      obtain ⟨rr, er⟩ := layers_tail ps t j
      obtain ⟨ix, p, more, efit, epx, cp, pm, far', ew⟩ := fari.fits hps ht lsi pl rr
      rw [layers_next, er, ew] at eqw
      have hl3 := hl.same s3
      have lenl : SM.LenN si.length l := fun x hx => by rw [lsi]; exact (SM.lay_ok hps ht j).1 x (pl.mem_iff.mp hx)
      refine ⟨_, rfl, c, _, rfl, s3.seq (SqL.of hc1), ?_⟩
      intro D hD
      refine lc_enum (K := K) (a := c) (xs := sa.map V.ref) (fun m H' => Same H3 H' ∧ H' D = some (.lst (iv ((List.range m).filter fun k => match ps[k]? with | none => false | some p => can_ p si && Kcx0.has l (done p si))))) ⟨Same.upd hD, upd_same⟩
        (fun m H' _ ⟨s4, _⟩ => s4.seq (s3.seq (SqL.of hc1))) ?_ ?_
      · rintro m y Tp H4 hm ⟨s4, hD4⟩ hT
        obtain ⟨e, he, rfl⟩ := map_get hm
        obtain ⟨p', ep', hp'⟩ := hc2.get he
        have nTD : Tp ≠ D := fun z => by rw [z, hD4] at hT; cases hT
        have s5 : Same H3 (upd H4 Tp (.tup [.int (m : Nat), .ref e])) := s4.trans (Same.upd hT)
        refine ⟨Tp, _, rfl, SqT.of upd_same, rfl, _, _, rfl, _, _, rfl, rfl, rfl, ?_⟩
        refine ⟨_, rfl, _, rfl, _, rfl, e, ci, d, p', si, l, rfl, (hp'.same s3).same s5, s5 _ _ hci, hl3.same s5, by rw [lsi]; exact hps p' (List.mem_of_getElem? ep'), by omega, lenl, fun H6 s6 => ?_⟩
        have fm := fits_more ps l si m ep'
        have hD6 := s6 _ _ (show upd H4 Tp (.tup [.int (m : Nat), .ref e]) D = _ by rw [upd_ne (Ne.symm nTD)]; exact hD4)
        refine ⟨_, rfl, ite2 (fun z => ?_) (fun z => ?_)⟩
        · rw [if_pos z] at fm
          refine ⟨_, rfl, _, hD6, ?_, (s5.trans s6).put hD, ?_⟩
          · rw [iv_length]
            refine small1000 (Nat.le_trans (List.length_filter_le _ _) ?_)
            rw [List.length_range]
            have := (List.getElem?_eq_some_iff.mp ep').1
            omega
          · rw [upd_same, fm]
            simp only [iv, zi, List.map_append, List.map_cons, List.map_nil]
        · rw [if_neg z, List.append_nil] at fm
          exact ⟨s5.trans s6, by rw [fm]; exact hD6⟩
      · rintro H4 ⟨s4, hD4⟩
        rw [List.length_map, lenS] at hD4
        have hD5 : H4 D = some (.lst (iv (ix :: more))) := by rw [← efit]; exact hD4
        have hr4 := s4 _ _ hr3
        refine ⟨_, rfl, .inl ⟨rfl, _, SqL.of hr4⟩, _, rfl, D, _, _, _, rfl, rfl, SqL.of hD5, at_of (j := 0) rfl rfl, r, _, _, rfl, rfl, hr4, ?_, ?_⟩
        · rw [iv_length]
          exact small1000 (by omega)
        have nDr : D ≠ r := fun z => by rw [z, hr3] at hD; cases hD
        have nqr : q ≠ r := Ne.symm nrq
        have kp : ∀ b o, H4 b = some o → b ≠ r → upd H4 r (.lst (iv ws ++ [V.int (ix : Nat)])) b = some o := fun b o e n => by rw [upd_ne n]; exact e
        have s6 : Same H (upd H4 r (.lst (iv ws ++ [V.int (ix : Nat)]))) := (s3.trans s4).put hr0
        obtain ⟨e, ee⟩ : ∃ e, sa[ix]? = some e := ⟨_, List.getElem?_eq_getElem (by rw [lenS]; exact (List.getElem?_eq_some_iff.mp epx).1)⟩
        obtain ⟨p2, ep2, hp2⟩ := hc2.get ee
        have epp : p2 = p := Option.some.inj (ep2.symm.trans epx)
        subst epp
        obtain ⟨dx, tt, gg, e1, e2, e3⟩ := id (hp2.same s6)
        have ncr : ci ≠ r := ne_tup (s4 _ _ hci) hr4 fun ys z => nomatch z
        refine ⟨_, rfl, _, rfl, D, _, _, _, rfl, rfl, SqL.of (kp _ _ hD5 nDr), at_of (j := 0) rfl rfl, c, _, _, _, rfl, rfl, s6.seq (SqL.of hc1), at_of (j := ix) (v := V.ref e) rfl (by rw [List.getElem?_map, ee]; rfl), e, dx, _, rfl, e1, stepF_no _ _ (by decide +kernel) (by decide +kernel), _, rfl,
          e, ci, true, p2, si, rfl, hp2.same s6, SqT.of (kp _ _ (s4 _ _ hci) ncr), by rw [lsi]; exact hps p2 pm, by omega, cp, fun H7 x s7 nx hx => ?_⟩
        refine ⟨x, done p2 si, ws ++ [ix], _, _, _, _, rfl, s6.trans s7, s7 _ _ (kp _ _ (s4 _ _ hq3) nqr), ?_, hx, ?_, by omega, by rw [List.length_append, lws]; rfl, ?_, ?_⟩
        · have : upd H4 r (.lst (iv ws ++ [V.int (ix : Nat)])) r = some (.lst (iv (ws ++ [ix]))) := by
            rw [upd_same]
            simp only [iv, zi, List.map_append, List.map_cons, List.map_nil]
          exact s7 _ _ this
        · rw [SM.done_length (n := n) (hps p2 pm) lsi]
        · rw [show k - (i + 1) = j by omega]; exact far'
        · rw [show k - (i + 1) = j by omega, er, eqw]
          simp
    · rintro σ H3 ⟨ci, si, ws, v5, v6, v7, v8, rfl, s3, hq3, hr3, hci, lsi, hik, lws, fari, eqw⟩
      rw [lenK] at eqw lws
      rw [Nat.sub_self] at eqw
      have z : Kcx0.wayFrom ps (Kcx0.layers ps t 0) si = [] := SM.wayFrom_one ps [t] si
      rw [z, List.append_nil] at eqw
      refine ⟨_, rfl, ?_⟩
      exact kk _ r s3 hr0 (by rw [eqw]; exact hr3) (by rw [eqw]; exact lws)
end
end SR
end
section
set_option Elab.async false
set_option linter.all false
set_option maxRecDepth 100000
set_option maxHeartbeats 4000000
namespace SR
open PySem PySem.Spec PyProof.Rows L2
open Kcx0 (State Step_ within can_ done before)
abbrev sMoreThan : Stmt := top 24
abbrev sLookAll : Stmt := top 25
abbrev sStuck : Stmt := top 26
/-! ### the dict: by which each was found -/
def keyS (s : State) : List Key := (zi s).map Sum.inl
theorem keyS_iv (s : State) : (keyS s).map kV = iv s := by
  unfold keyS
  rw [List.map_map]
  rfl
theorem keyS_inj {a b : State} (h : keyS a = keyS b) : a = b := zi_inj ((List.map_inj_right (fun _ _ h => Sum.inl.inj h)).mp h)
def kvOf (fs : List State) (pvs : List V) : List (List Key × V) := (fs.zip pvs).map fun x => (keyS x.1, x.2)
theorem kvOf_length {fs : List State} {pvs : List V} (h : pvs.length = fs.length) : (kvOf fs pvs).length = fs.length := by simp [kvOf, h]
theorem val_none : ∀ {fs : List State} {pvs : List V} {s : State}, s ∉ fs → valV (kvOf fs pvs) (keyS s) = none
  | [], _, _, _ => rfl
  | _ :: _, [], _, _ => rfl
  | f :: fs, v :: pvs, s, h => by
    show valV ((keyS f, v) :: kvOf fs pvs) (keyS s) = none
    rw [valV_neg (fun e => h (by rw [keyS_inj e]; exact List.mem_cons_self))]
    exact val_none fun m => h (List.mem_cons_of_mem _ m)
theorem val_at : ∀ {fs : List State} {pvs : List V} {s : State} {j : Nat} {v : V}, fs.Nodup → fs[j]? = some s → pvs[j]? = some v → valV (kvOf fs pvs) (keyS s) = some v
  | [], _, _, _, _, _, h, _ => by simp at h
  | _ :: _, [], _, _, _, _, _, h => by simp at h
  | f :: fs, u :: pvs, s, 0, v, hn, h1, h2 => by
    have e1 : f = s := by simpa using h1
    have e2 : u = v := by simpa using h2
    subst e1 e2
    exact valV_pos rfl
  | f :: fs, u :: pvs, s, j + 1, v, hn, h1, h2 => by
    have h1' : fs[j]? = some s := by simpa using h1
    show valV ((keyS f, u) :: kvOf fs pvs) (keyS s) = some v
    rw [valV_neg (fun e => (List.nodup_cons.mp hn).1 (by rw [keyS_inj e]; exact List.mem_of_getElem? h1'))]
    exact val_at (List.nodup_cons.mp hn).2 h1' (by simpa using h2)
theorem kvOf_snoc {fs : List State} {pvs : List V} (h : pvs.length = fs.length) (s : State) (v : V) : kvOf (fs ++ [s]) (pvs ++ [v]) = kvOf fs pvs ++ [(keyS s, v)] := by
  unfold kvOf
  rw [List.zip_append h.symm, List.map_append]
  rfl
structure Dic (H : Hp) (d : Addr) (as : List Addr) (fs : List State) (par : List (Option Nat)) (pvs : List V) : Prop where
  at_ : H d = some (.dT (kvOf fs pvs))
  len : pvs.length = fs.length
  plen : par.length = fs.length
  val : ∀ (j : Nat) (o : Option Nat), par[j]? = some o → ∃ v, pvs[j]? = some v ∧ (match o with | none => v = V.non | some i => ∃ a, as[i]? = some a ∧ v = V.ref a)
  nd : fs.Nodup
  tups : Tups H as fs
theorem Dic.same {H H' : Hp} {d : Addr} {as : List Addr} {fs : List State} {par : List (Option Nat)} {pvs : List V} (h : Dic H d as fs par pvs) (e : Same H H') : Dic H' d as fs par pvs :=
  ⟨e _ _ h.at_, h.len, h.plen, h.val, h.nd, h.tups.same e⟩
theorem Tups.get' {H : Hp} : ∀ {as : List Addr} {ss : List State} {i : Nat} {s : State}, Tups H as ss → ss[i]? = some s → ∃ a, as[i]? = some a ∧ TupAt H a s
  | _, _, _, _, .nil, e => by simp at e
  | _, _, 0, _, .cons h _, e => by simp at e; subst e; exact ⟨_, rfl, h⟩
  | _, _, i + 1, _, .cons _ t, e => by
    obtain ⟨a, h1, h2⟩ := t.get' (i := i) (by simpa using e)
    exact ⟨a, by simpa using h1, h2⟩
section
variable {P : Program} {w : World} {K : PySem.W.Frag} {mg : Str → Option Value} {base : Heap} {C R fh fw fo fl fm fCan fBeh fLd fMT : Addr}
def spMoreThan : Sp := fun vs H Q _ => ∃ (x b d : Addr) (s y : State) (as : List Addr) (fs : List State) (par : List (Option Nat)) (pvs : List V) (j : Nat) (c : List State), vs = [.ref x, .ref b, .ref d] ∧ TupAt H x s ∧ Dic H d as fs par pvs ∧ as[j]? = some b ∧ fs[j]? = some y ∧
  SM.Anc fs par j c ∧ SM.LenN s.length fs ∧ ∀ H', Same H H' → Q (.bl ((y :: c).any fun z => within z s)) H'
theorem scMoreThan : FnScope ["state", "before", "found_by"] ["state", "before", "found_by"] (defScope sMoreThan) := ⟨rfl, rfl, rfl, by decide +kernel, rfl, by decide +kernel, by decide +kernel⟩
theorem ok_moreThan {f : Addr} {fd : FuncData} (F : Fun K "has_more_than_one_before" "has_more_than_one_before" sMoreThan f fd) (TS : TxtS K mg C fh fw) (Gh : Callee P w K mg base 1 fh ["state", "wanted"] (spHas K)) : FnOk P w K mg base CX0 2 f fd ["state", "before", "found_by"] spMoreThan := by
  obtain ⟨fdh, G, bh⟩ := Gh.ex
  refine F.ok scMoreThan (fun vs H Q E h => ?_) (fun cdv A outer s0 H vs Q E hr h => ?_)
  · obtain ⟨a, b, l, _, _, _, _, _, _, _, _, rfl, _⟩ := h
    rfl
  · obtain ⟨x, b, d, s, y, as, fs, par, pvs, j, c, rfl, hx, D, hb, hy, anc, hn, k⟩ := h
    have hu := hu_of hr
    refine ⟨_, pss_cons (ps_while PassesOwn.never (pt_cmp (pc_notN (pv 1)))
        (pss_cons (ps_if (pt_val (pe_call G hr rfl TS.has Gh.kp bh .nil pass0 (pa_cons (pv 0) (pa_cons (pv 1) pa_nil)))) (pss_one (ps_ret pe_bl)) pss_nil)
        (pss_one (ps_set (i := 1) scMoreThan.nd rfl (Or.inl rfl) (pe_dget hu (pv 2) (pv 1) (fun _ _ => rfl))))))
      (pss_one (ps_ret pe_bl)), ?_⟩
    refine ⟨fun m σ H' => Same H H' ∧ ((m = 0 ∧ σ = [some (.ref x), some .non, some (.ref d)] ∧ ((y :: c).any fun z => within z s) = false) ∨
      ∃ (j' : Nat) (b' : Addr) (y' : State) (c' : List State), m = c'.length + 1 ∧ σ = [some (.ref x), some (.ref b'), some (.ref d)] ∧ as[j']? = some b' ∧ fs[j']? = some y' ∧ SM.Anc fs par j' c' ∧ ((y :: c).any fun z => within z s) = (y' :: c').any fun z => within z s),
      ⟨c.length + 1, Same.refl H, .inr ⟨j, b, y, c, rfl, rfl, hb, hy, anc, rfl⟩⟩, ?_⟩
    rintro m σ H1 ⟨s1, ⟨rfl, rfl, ef⟩ | ⟨j', b', y', c', rfl, rfl, hb', hy', anc', ea⟩⟩
    · refine ⟨_, rfl, _, rfl, ?_⟩
      refine iteF ?_
      have := k _ s1
      rw [ef] at this
      exact this
    · refine ⟨_, rfl, _, rfl, ?_⟩
      refine iteT ?_
      refine ⟨fun σ' H' => Same H H' ∧ ((c'.length = 0 ∧ σ' = [some (.ref x), some .non, some (.ref d)] ∧ ((y :: c).any fun z => within z s) = false) ∨
        ∃ (j2 : Nat) (b2 : Addr) (y2 : State) (c2 : List State), c'.length = c2.length + 1 ∧ σ' = [some (.ref x), some (.ref b2), some (.ref d)] ∧ as[j2]? = some b2 ∧ fs[j2]? = some y2 ∧ SM.Anc fs par j2 c2 ∧ ((y :: c).any fun z => within z s) = (y2 :: c2).any fun z => within z s), fun σ' H' q => ⟨c'.length, Nat.lt_succ_self _, q⟩, ?_⟩
      obtain ⟨y3, ey3, ty⟩ := D.tups.get hb'
      have e3 : y3 = y' := Option.some.inj (ey3.symm.trans hy')
      subst e3
      refine ⟨_, rfl, _, rfl, x, b', true, true, s, y3, rfl, SqT.of (s1 _ _ hx), SqT.of (s1 _ _ ty), hn y3 (List.mem_of_getElem? hy'), fun H2 s2 => ?_⟩
      refine ⟨_, rfl, ite2 (fun z => ?_) (fun z => ?_)⟩
      · have := k _ (s1.trans s2)
        rw [ea, List.any_cons, z, Bool.true_or] at this
        exact this
      · have z' : within y3 s = false := by simpa using z
        have ea2 : ((y :: c).any fun z => within z s) = c'.any fun z => within z s := by rw [ea, List.any_cons (a := y3), z', Bool.false_or]
        have D2 := D.same (s1.trans s2)
        obtain ⟨o, eo⟩ : ∃ o, par[j']? = some o := ⟨_, List.getElem?_eq_getElem (by rw [D.plen]; exact (List.getElem?_eq_some_iff.mp hy').1)⟩
        obtain ⟨v, ev, hv⟩ := D.val j' o eo
        have get : DGet H2 d (.ref b') (some v) := by
          have := DGet.t (k := keyS y3) D2.at_ (by rw [keyS_iv]; exact (s1.trans s2) _ _ ty)
          rw [val_at D.nd hy' ev] at this
          exact this
        refine ⟨_, rfl, _, rfl, d, v, rfl, get, ?_⟩
        refine ⟨s1.trans s2, ?_⟩
        cases anc' with
        | top e =>
          rw [e] at eo
          cases eo
          have hv' : v = V.non := hv
          subst hv'
          exact .inl ⟨rfl, rfl, by rw [ea2]; rfl⟩
        | up e l ex an =>
          rw [e] at eo
          cases eo
          obtain ⟨a, ha, rfl⟩ := (show ∃ a, as[_]? = some a ∧ v = V.ref a from hv)
          exact .inr ⟨_, a, _, _, rfl, rfl, ha, ex, an, ea2⟩
/-! ### stuck_among -/
def spStuck (C : Addr) : Sp := fun vs H Q _ => ∃ (l c : Addr) (ss : List State) (ps : List Step_) (n : Nat), vs = [.ref l, .ref c] ∧ StatesAt H l ss ∧ StepsAt C H c ps ∧ SM.StepsN n ps ∧ SM.LenN n ss ∧ ss.length ≤ 1000 ∧ ps.length ≤ 12 ∧
  ∀ (H' : Hp) (r : Addr), Same H H' → H r = none → StatesAt H' r (ss.filter (Kcx0.isStuck ps)) → Q (.ref r) H'
theorem scStuck : FnScope ["states", "steps", "stuck", "state", "step"] ["states", "steps"] (defScope sStuck) := ⟨rfl, rfl, rfl, by decide +kernel, rfl, by decide +kernel, by decide +kernel⟩
theorem stuck_any (ps : List Step_) (s : State) : (!((ps.map fun p => can_ p s).any id)) = Kcx0.isStuck ps s := by
  unfold Kcx0.isStuck
  rw [List.any_map, List.not_any_eq_all_not]
  rfl
theorem filter_more {α : Type} {q : α → Bool} {l : List α} {i : Nat} {s : α} (h : l[i]? = some s) : (l.take (i + 1)).filter q = (l.take i).filter q ++ (if q s = true then [s] else []) := by
  rw [take_more h, List.filter_append, List.filter_cons, List.filter_nil]
theorem ok_stuck {f : Addr} {fd : FuncData} (F : Fun K "stuck_among" "stuck_among" sStuck f fd) (T : Txt K mg) (TS : TxtS K mg C fh fw) (GC : MethOk P w K mg base 2 C "can_be_done" fCan ["self", "state"] (spCan C K)) : FnOk P w K mg base CX0 3 f fd ["states", "steps"] (spStuck C) := by
  obtain ⟨fdc, Gc, bc⟩ := GC.ex
  refine F.ok scStuck (fun vs H Q E h => ?_) (fun cdv A outer s0 H vs Q E hr h => ?_)
  · obtain ⟨a, b, _, _, _, rfl, _⟩ := h
    rfl
  · obtain ⟨l, c, ss, ps, n, rfl, ⟨as, h1, h2⟩, ⟨sa, hc1, hc2⟩, hps, hn, hss, p12, k⟩ := h
    refine ⟨_, pss_cons (ps_set (i := 2) scStuck.nd rfl (Or.inl rfl) (pe_lst pa_nil))
      (pss_cons (ps_for PassesOwn.never rfl (pi_list (pv 0)) (pg_name (i := 3) scStuck.nd rfl (Or.inr rfl))
        (pss_one (ps_if (pt_not (pt_val (pe_callB (cr_any rfl) (by rfl) T.any PyProof.Rows.boot_any (pa_cons (pe_lc (g := gName 4) (own := [("step", 4)]) rfl scStuck.nd (pi_list (pv 1)) (by show BlkOk ["states", "steps", "stuck", "state", "step"] (defScope sStuck) _ _; exact blkOk_by (by decide +kernel))
            (fun _ _ _ _ _ => pg_name (i := 4) scStuck.nd rfl (Or.inl rfl) (Or.inr rfl)) (fun _ _ _ _ _ => pts_nil) (fun _ _ _ _ _ => pe_meth (pv 4) TS.cl GC.mt Gc hr bc .nil pass0 (pa_cons (pv 3) pa_nil))) pa_nil))))
          (pss_one (ps_expr (pe_bm PySem.F.plainAttrs_list PySem.F.slot_list_append PySem.F.type_list_append mt_append (pv 2) (pa_cons (pv 3) pa_nil)))) pss_nil)))
      (pss_one (ps_ret (pv 2)))), ?_⟩
    refine ⟨Nat.zero_le _, fun r hr0 => ?_⟩
    have s1 : Same H (upd H r (.lst [])) := Same.upd hr0
    have lenA := h2.length
    have lenS := hc2.length
    refine ⟨_, rfl, l, rfl, ⟨_, s1.seq (SqL.of h1)⟩, for_list (K := K) (a := l) (xs := as.map V.ref) (fun i σ H' => ∃ (v3 v4 : Option V) (ls : List Addr), σ = [some (.ref l), some (.ref c), some (.ref r), v3, v4] ∧ Same H H' ∧ H' r = some (.lst (ls.map V.ref)) ∧ Tups H ls ((ss.take i).filter (Kcx0.isStuck ps)))
      ⟨none, none, [], rfl, s1, upd_same, by rw [List.take_zero]; exact .nil⟩ (fun i σ H' _ ⟨_, _, _, _, s2, _⟩ => s2.seq (SqL.of h1)) ?_ ?_⟩
    · rintro i y σ H2 hi ⟨v3, v4, ls, rfl, s2, hr2, ht2⟩
      obtain ⟨d, hd, rfl⟩ := map_get hi
      obtain ⟨s, es, ts⟩ := h2.get hd
      have ls' : s.length = n := hn s (List.mem_of_getElem? es)
      refine ⟨_, rfl, c, rfl, ⟨_, s2.seq (SqL.of hc1)⟩, ?_⟩
      intro D hD
      refine lc_list (K := K) (a := c) (xs := sa.map V.ref) (fun j H' => Same H2 H' ∧ H' D = some (.lst (((ps.take j).map fun p => can_ p s).map V.bl))) ⟨Same.upd hD, upd_same⟩ (fun j H' _ ⟨s3, _⟩ => s3.seq (s2.seq (SqL.of hc1))) ?_ ?_
      · rintro j y H3 hj ⟨s3, hD3⟩
        obtain ⟨e, he, rfl⟩ := map_get hj
        obtain ⟨p, ep, hp⟩ := hc2.get he
        have hp3 := (hp.same s2).same s3
        obtain ⟨dx, tt, gg, e1, e2, e3⟩ := id hp3
        refine ⟨rfl, ?_⟩
        unfold tYes
        refine iteT ?_
        refine ⟨_, rfl, e, dx, _, rfl, e1, stepF_no _ _ (by decide +kernel) (by decide +kernel), _, rfl, e, d, true, p, s, rfl, hp3, SqT.of (s3 _ _ (s2 _ _ ts)), by rw [ls']; exact (hps p (List.mem_of_getElem? ep)).1, fun H4 s4 => ?_⟩
        refine ⟨_, s4 _ _ hD3, ?_, (s3.trans s4).put hD, ?_⟩
        · rw [List.length_map, List.length_map, List.length_take]
          exact small1000 (by omega)
        · rw [upd_same, take_more ep]
          simp only [List.map_append, List.map_cons, List.map_nil]
      · rintro H3 ⟨s3, hD3⟩
        rw [List.length_map, lenS, List.take_length] at hD3
        refine ⟨D, _, rfl, SqL.of hD3, _, rfl, ?_⟩
        have fm := filter_more (q := Kcx0.isStuck ps) es
        refine ite2 (fun z => ?_) (fun z => ?_)
        · rw [stuck_any] at z
          rw [if_pos z] at fm
          have hr3 := s3 _ _ hr2
          refine ⟨_, rfl, .inl ⟨rfl, _, SqL.of hr3⟩, _, rfl, r, _, _, rfl, rfl, hr3, ?_, ?_⟩
          · rw [List.length_map, ht2.length]
            have := List.length_filter_le (Kcx0.isStuck ps) (ss.take i)
            rw [List.length_take] at this
            exact small1000 (by omega)
          · exact ⟨_, _, ls ++ [d], rfl, (s2.trans s3).put hr0, by rw [upd_same, List.map_append]; rfl, by rw [fm]; exact ht2.append (.cons ts .nil)⟩
        · rw [stuck_any] at z
          rw [if_neg z, List.append_nil] at fm
          exact ⟨_, _, ls, rfl, s2.trans s3, s3 _ _ hr2, by rw [fm]; exact ht2⟩
    · rintro σ H2 ⟨v3, v4, ls, rfl, s2, hr2, ht2⟩
      rw [List.length_map, lenA, List.take_length] at ht2
      exact ⟨_, rfl, k _ r s2 hr0 ⟨ls, hr2, ht2.same s2⟩⟩
end
end SR
end
section
set_option Elab.async false
set_option linter.all false
set_option maxRecDepth 100000
set_option maxHeartbeats 4000000
namespace SR
open PySem PySem.Spec PyProof.Rows L2
open Kcx0 (State Step_ within can_ done before)
structure TxtQ (mg : Str → Option Value) (fMT : Addr) : Prop where
  moreThan : mg "has_more_than_one_before" = some (.ref fMT)
  endless : Num mg "ENDLESS" (-6)
  tooMany : Num mg "TOO_MANY" (-75)
  m300 : Num mg "MOST_STATES" 300
section
variable {P : Program} {w : World} {K : PySem.W.Frag} {mg : Str → Option Value} {base : Heap} {C R fh fw fo fl fm fCan fBeh fLd fMT : Addr}
def spLookAll (C : Addr) : Sp := fun vs H Q _ => ∃ (a c : Addr) (s : State) (ps : List Step_) (n : Nat), vs = [.ref a, .ref c] ∧ TupAt H a s ∧ StepsAt C H c ps ∧ SM.StepsN n ps ∧ s.length = n ∧ n ≤ 1000 ∧ ps.length ≤ 12 ∧
  ∀ (H' : Hp) (r l : Addr), Same H H' → H r = none → H' r = some (.tup [.int (SM.codeA (Kcx0.all_ ps s)), .ref l]) → (∀ L, Kcx0.all_ ps s = .all L → StatesAt H' l L ∧ SM.LenN n L ∧ L.length ≤ 300) → Q (.ref r) H'
theorem scLookAll : FnScope ["first", "steps", "found", "found_by", "place", "state", "step", "behind"] ["first", "steps"] (defScope sLookAll) := ⟨rfl, rfl, rfl, by decide +kernel, rfl, by decide +kernel, by decide +kernel⟩
/-- found, found_by at f0, d0 -/
structure Found (H : Hp) (f0 d0 : Addr) (as : List Addr) (fs : List State) (par : List (Option Nat)) (pvs : List V) : Prop where
  lst : H f0 = some (.lst (as.map V.ref))
  dic : Dic H d0 as fs par pvs
theorem Found.same {H H' : Hp} {f0 d0 : Addr} {as : List Addr} {fs : List State} {par : List (Option Nat)} {pvs : List V} (h : Found H f0 d0 as fs par pvs) (e : Same H H') : Found H' f0 d0 as fs par pvs := ⟨e _ _ h.lst, h.dic.same e⟩
theorem Dic.snoc {H : Hp} {d0 x : Addr} {as : List Addr} {fs : List State} {par : List (Option Nat)} {pvs : List V} {s : State} {i : Nat} {b : Addr} (h : Dic H d0 as fs par pvs) (hs : s ∉ fs) (hb : as[i]? = some b) {H' : Hp} (ht : Tups H' (as ++ [x]) (fs ++ [s]))
    (hd : H' d0 = some (.dT (putK (kvOf fs pvs) (keyS s) (.ref b)))) : Dic H' d0 (as ++ [x]) (fs ++ [s]) (par ++ [some i]) (pvs ++ [V.ref b]) := by
  refine ⟨?_, by simp [h.len], by simp [h.plen], fun j o e => ?_, ?_, ht⟩
  · rw [hd, putK_new _ (val_none hs), kvOf_snoc h.len]
  · by_cases c : j < par.length
    · rw [List.getElem?_append_left c] at e
      obtain ⟨v, ev, hv⟩ := h.val j o e
      refine ⟨v, SM.get_more _ ev, ?_⟩
      cases o with
      | none => exact hv
      | some i' =>
        obtain ⟨a, ha, e2⟩ := (show ∃ a, as[i']? = some a ∧ v = V.ref a from hv)
        exact ⟨a, SM.get_more _ ha, e2⟩
    · rw [List.getElem?_append_right (by omega)] at e
      have e0 : j - par.length = 0 := by
        rcases Nat.eq_zero_or_pos (j - par.length) with z | z
        · exact z
        · rw [List.getElem?_eq_none (by simp only [List.length_cons, List.length_nil]; omega)] at e; cases e
      rw [e0] at e
      have e1 : some i = o := Option.some.inj e
      subst e1
      refine ⟨V.ref b, ?_, b, SM.get_more _ hb, rfl⟩
      have : j = pvs.length := by have := h.len; have := h.plen; omega
      rw [this, List.getElem?_append_right (Nat.le_refl _), Nat.sub_self]
      rfl
  · exact nd_snoc h.nd hs
theorem ok_lookAll {f : Addr} {fd : FuncData} (F : Fun K "look_for_all" "look_for_all" sLookAll f fd) (T : Txt K mg) (TS : TxtS K mg C fh fw) (TQ : TxtQ mg fMT) (GC : MethOk P w K mg base 2 C "can_be_done" fCan ["self", "state"] (spCan C K))
    (GB : MethOk P w K mg base 1 C "state_behind" fBeh ["self", "state"] (spBehind C K)) (GM : Callee P w K mg base 2 fMT ["state", "before", "found_by"] spMoreThan) : FnOk P w K mg base CX0 3 f fd ["first", "steps"] (spLookAll C) := by
  obtain ⟨fdc, Gc, bc⟩ := GC.ex
  obtain ⟨fdb, Gb, bb⟩ := GB.ex
  obtain ⟨fdm, Gm, bm⟩ := GM.ex
  refine F.ok scLookAll (fun vs H Q E h => ?_) (fun cdv A outer s0 H vs Q E hr h => ?_)
  · obtain ⟨a, b, _, _, _, rfl, _⟩ := h
    rfl
  · obtain ⟨a, c, s, ps, n, rfl, ha, ⟨sa, hc1, hc2⟩, hps, hs, h1000, p12, k⟩ := h
    have hr1 := hr.mono (show 1 ≤ 2 by decide)
    have hu := hu_of hr
    refine ⟨_, pss_cons (ps_set (i := 2) scLookAll.nd rfl (Or.inl rfl) (pe_lst (pa_cons (pv 0) pa_nil)))
      (pss_cons (ps_set (i := 3) scLookAll.nd rfl (Or.inl rfl) (pe_dispT hr.units (pv 0) pe_non))
      (pss_cons (ps_set (i := 4) scLookAll.nd rfl (Or.inl rfl) pe_int)
      (pss_cons (ps_while PassesOwn.never (pt_cmpR op_lt (pv 4) (pe_callB call_len_seq (by rfl) T.len PySem.boot_len (pa_cons (pv 2) pa_nil)) (nomark _))
        (pss_cons (ps_set (i := 5) scLookAll.nd rfl (Or.inl rfl) (pe_ix ix_list (pv 2) (pv 4) (fun _ _ => rfl)))
        (pss_cons (ps_for PassesOwn.never rfl (pi_list (pv 1)) (pg_name (i := 6) scLookAll.nd rfl (Or.inl rfl))
          (pss_cons (ps_if (pt_not (pt_val (pe_meth (pv 6) TS.cl GC.mt Gc hr bc .nil pass0 (pa_cons (pv 5) pa_nil)))) (pss_one ps_continue) pss_nil)
          (pss_cons (ps_set (i := 7) scLookAll.nd rfl (Or.inl rfl) (pe_meth (pv 6) TS.cl GB.mt Gb hr1 bb .nil pass0 (pa_cons (pv 5) pa_nil)))
          (pss_cons (ps_if (pt_cmp (pc_din hu (pv 7) (pv 3))) (pss_one ps_continue) pss_nil)
          (pss_cons (ps_if (pt_val (pe_call Gm hr rfl TQ.moreThan GM.kp bm .nil pass0 (pa_cons (pv 7) (pa_cons (pv 5) (pa_cons (pv 3) pa_nil))))) (pss_one (ps_ret (pe_tup (pa_cons (pe_num rfl TQ.endless) (pa_cons (pv 2) pa_nil))))) pss_nil)
          (pss_cons (ps_expr (pe_bm PySem.F.plainAttrs_list PySem.F.slot_list_append PySem.F.type_list_append mt_append (pv 2) (pa_cons (pv 7) pa_nil)))
          (pss_one (ps_dput hu (pv 3) (pv 7) (pv 5) rfl))))))))
        (pss_cons (ps_if (pt_cmpR op_gt (pe_callB call_len_seq (by rfl) T.len PySem.boot_len (pa_cons (pv 2) pa_nil)) (pe_num rfl TQ.m300) (nomark _)) (pss_one (ps_ret (pe_tup (pa_cons (pe_num rfl TQ.tooMany) (pa_cons (pv 2) pa_nil))))) pss_nil)
        (pss_one (ps_set (i := 4) scLookAll.nd rfl (Or.inl rfl) (pe_op op_add (pv 4) pe_int)))))))
      (pss_one (ps_ret (pe_tup (pa_cons (pe_callB call_len_seq (by rfl) T.len PySem.boot_len (pa_cons (pv 2) pa_nil)) (pa_cons (pv 2) pa_nil)))))))), ?_⟩
    refine ⟨_, rfl, by show 1 ≤ sizeLine; decide, fun f0 nf0 => ?_⟩
    intro d0 nd0
    have s1 : Same H (upd H f0 (.lst [.ref a])) := Same.upd nf0
    have s2 : Same H (upd (upd H f0 (.lst [.ref a])) d0 (.dT [])) := s1.trans (Same.upd nd0)
    have ta : upd (upd H f0 (.lst [.ref a])) d0 (.dT []) a = some (.tup ((keyS s).map kV)) := by rw [keyS_iv]; exact s2 _ _ ha
    refine ⟨_, rfl, upd_same, a, keyS s, rfl, ta, ?_⟩
    have nd : H d0 = none := s1.free nd0
    have nfd : f0 ≠ d0 := ne_of_none (show upd H f0 (.lst [V.ref a]) f0 = some (.lst [.ref a]) from upd_same) nd0
    have s3 : Same H (upd (upd (upd H f0 (.lst [.ref a])) d0 (.dT [])) d0 (.dT [(keyS s, V.non)])) := s2.put nd
    have f3 : upd (upd (upd H f0 (.lst [.ref a])) d0 (.dT [])) d0 (.dT [(keyS s, V.non)]) f0 = some (.lst [.ref a]) := by rw [upd_ne nfd, upd_ne nfd]; exact upd_same
    have F3 : Found (upd (upd (upd H f0 (.lst [.ref a])) d0 (.dT [])) d0 (.dT [(keyS s, V.non)])) f0 d0 [a] [s] [none] [V.non] := by
      refine ⟨f3, upd_same, rfl, rfl, fun j o e => ?_, List.nodup_cons.mpr ⟨by simp, List.nodup_nil⟩, .cons (s3 _ _ ha) .nil⟩
      cases j with
      | zero =>
        have : o = none := by simpa using e.symm
        subst this
        exact ⟨V.non, rfl, rfl⟩
      | succ j => simp at e
    generalize upd (upd (upd H f0 (.lst [.ref a])) d0 (.dT [])) d0 (.dT [(keyS s, V.non)]) = H3 at *
    refine ⟨fun m σ H' => ∃ (pl : Nat) (as : List Addr) (fs : List State) (par : List (Option Nat)) (pvs : List V) (wt : List Kcx0.Node) (v5 v6 v7 : Option V), m = 301 - pl ∧ pl ≤ fs.length ∧ σ = [some (.ref a), some (.ref c), some (.ref f0), some (.ref d0), some (.int (pl : Nat)), v5, v6, v7] ∧ Same H H' ∧ Found H' f0 d0 as fs par pvs ∧
      SM.Waits fs par pl wt ∧ fs.length ≤ 300 ∧ SM.LenN n fs ∧ Kcx0.all_ ps s = Kcx0.explore ps (302 - pl) wt fs,
      ⟨301, 0, [a], [s], [none], [V.non], [⟨s, []⟩], none, none, none, rfl, Nat.zero_le _, rfl, s3, F3, SM.waits_start s, by show 1 ≤ 300; decide, fun x hx => by rw [List.mem_singleton.mp hx]; exact hs, rfl⟩, ?_⟩
    rintro m σ H4 ⟨pl, as, fs, par, pvs, wt, v5, v6, v7, rfl, hpl, rfl, s4, F4, wa, l300, ln, eq⟩
    have lenA := F4.dic.tups.length
    refine ⟨_, rfl, _, rfl, f0, _, rfl, .inl (SqL.of F4.lst), _, _, rfl, rfl, _, rfl, ite2 (fun q => ?_) (fun q => ?_)⟩
    · have q' : pl < fs.length := by
        have q1 : (pl : Int) < ((as.map V.ref).length : Nat) := by simpa using q
        rw [List.length_map, lenA] at q1
        omega
      obtain ⟨nd', wr, ew⟩ : ∃ nd' wr, wt = nd' :: wr := by
        cases wt with
        | nil => have := wa.len; simp at this; omega
        | cons x r => exact ⟨x, r, rfl⟩
      subst ew
      obtain ⟨en, an⟩ := wa.at_ 0 nd' rfl
      rw [Nat.add_zero] at en an
      obtain ⟨b, eb, tb⟩ := F4.dic.tups.get' en
      obtain ⟨fu, efu⟩ : ∃ fu, 302 - pl = fu + 1 := ⟨301 - pl, by omega⟩
      rw [efu] at eq
      refine ⟨fun σ' H' => ∃ (pl' : Nat) (as : List Addr) (fs : List State) (par : List (Option Nat)) (pvs : List V) (wt : List Kcx0.Node) (v5 v6 v7 : Option V), 300 - pl = 301 - pl' ∧ pl' ≤ fs.length ∧ σ' = [some (.ref a), some (.ref c), some (.ref f0), some (.ref d0), some (.int (pl' : Nat)), v5, v6, v7] ∧ Same H H' ∧ Found H' f0 d0 as fs par pvs ∧
        SM.Waits fs par pl' wt ∧ fs.length ≤ 300 ∧ SM.LenN n fs ∧ Kcx0.all_ ps s = Kcx0.explore ps (302 - pl') wt fs, fun σ' H' z => ⟨300 - pl, by omega, z⟩, ?_⟩
      refine ⟨_, rfl, _, rfl, f0, _, _, _, rfl, rfl, SqL.of F4.lst, at_of (j := pl) (v := V.ref b) rfl (by rw [List.getElem?_map, eb]; rfl), ?_⟩
      have lnd : nd'.state.length = n := ln _ (List.mem_of_getElem? en)
      have lenS := hc2.length
      refine ⟨_, rfl, c, rfl, ⟨_, s4.seq (SqL.of hc1)⟩, for_list (K := K) (a := c) (xs := sa.map V.ref) (fun i σ H' => ∃ (as' : List Addr) (fs' : List State) (par' : List (Option Nat)) (pvs' : List V) (wt' : List Kcx0.Node) (v6 v7 : Option V), σ = [some (.ref a), some (.ref c), some (.ref f0), some (.ref d0), some (.int (pl : Nat)), some (.ref b), v6, v7] ∧ Same H H' ∧
          Found H' f0 d0 as' fs' par' pvs' ∧ TupAt H' b nd'.state ∧ as'[pl]? = some b ∧ fs'[pl]? = some nd'.state ∧ SM.Anc fs' par' pl nd'.from_ ∧ SM.Waits fs' par' (pl + 1) wt' ∧ SM.LenN n fs' ∧ fs'.length ≤ 300 + i ∧ Kcx0.grow ps nd' ps wr fs = Kcx0.grow ps nd' (ps.drop i) wt' fs')
        ⟨as, fs, par, pvs, wr, v6, v7, rfl, s4, F4, tb, eb, en, an, wa.tail, ln, l300, rfl⟩ (fun i σ H' _ ⟨_, _, _, _, _, _, _, _, s5, _⟩ => s5.seq (SqL.of hc1)) ?_ ?_⟩
      · rintro i y σ H5 hi ⟨as', fs', par', pvs', wt', v6, v7, rfl, s5, F5, tb5, eb5, en5, an5, wa5, ln5, l5, eg⟩
        obtain ⟨e, he, rfl⟩ := map_get hi
        obtain ⟨p, ep, hp⟩ := hc2.get he
        have hpn := hps p (List.mem_of_getElem? ep)
        have i12 : i < 12 := by have := (List.getElem?_eq_some_iff.mp ep).1; omega
        have dr : ps.drop i = p :: ps.drop (i + 1) := by
          have := List.drop_eq_getElem_cons (List.getElem?_eq_some_iff.mp ep).1
          rw [(List.getElem?_eq_some_iff.mp ep).2] at this
          exact this
        rw [dr] at eg
        have hp5 := hp.same s5
        obtain ⟨dx, tt, gg, e1, e2, e3⟩ := id hp5
        refine ⟨_, rfl, e, dx, _, rfl, e1, stepF_no _ _ (by decide +kernel) (by decide +kernel), _, rfl, e, b, true, p, nd'.state, rfl, hp5, SqT.of tb5, by rw [lnd]; exact hpn.1, fun H6 s6 => ?_⟩
        refine ⟨_, rfl, ite2 (fun z => ?_) (fun z => ?_)⟩
        · have z' : can_ p nd'.state = false := by simpa using z
          rw [SM.grow_cannot z'] at eg
          exact ⟨as', fs', par', pvs', wt', _, _, rfl, s5.trans s6, F5.same s6, s6 _ _ tb5, eb5, en5, an5, wa5, ln5, by omega, eg⟩
        have z' : can_ p nd'.state = true := by simpa using z
        refine ⟨_, rfl, e, dx, _, rfl, s6 _ _ e1, stepF_no _ _ (by decide +kernel) (by decide +kernel), _, rfl, e, b, true, p, nd'.state, rfl, hp5.same s6, SqT.of (s6 _ _ tb5), by rw [lnd]; exact hpn, by omega, z', fun H7 x s7 nx hx => ?_⟩
        have s57 := s6.trans s7
        have s7H := s5.trans s57
        have F7 := F5.same s57
        have lx : (done p nd'.state).length = n := SM.done_length hpn lnd
        have get : DGet H7 d0 (.ref x) (valV (kvOf fs' pvs') (keyS (done p nd'.state))) := DGet.t F7.dic.at_ (by rw [keyS_iv]; exact hx)
        refine ⟨_, rfl, _, rfl, d0, _, rfl, get, _, rfl, ite2 (fun z2 => ?_) (fun z2 => ?_)⟩
        · have mem : done p nd'.state ∈ fs' := Classical.byContradiction fun cc => by rw [val_none cc] at z2; simp at z2
          rw [SM.grow_old z' mem] at eg
          exact ⟨as', fs', par', pvs', wt', _, _, rfl, s7H, F7, s57 _ _ tb5, eb5, en5, an5, wa5, ln5, by omega, eg⟩
        have nmem : done p nd'.state ∉ fs' := fun mm => by
          obtain ⟨j, ej⟩ := List.mem_iff_getElem?.mp mm
          obtain ⟨v, ev⟩ : ∃ v, pvs'[j]? = some v := ⟨_, List.getElem?_eq_getElem (by rw [F5.dic.len]; exact (List.getElem?_eq_some_iff.mp ej).1)⟩
          rw [val_at F5.dic.nd ej ev] at z2
          simp at z2
        refine ⟨_, rfl, _, rfl, _, rfl, x, b, d0, done p nd'.state, nd'.state, as', fs', par', pvs', pl, nd'.from_, rfl, hx, F7.dic, eb5, en5, an5, fun y hy => by rw [lx]; exact ln5 y hy, fun H8 s8 => ?_⟩
        have sub : ∀ y ∈ nd'.state :: nd'.from_, y ∈ fs' := fun y hy => by
          rcases List.mem_cons.mp hy with rfl | hy
          · exact List.mem_of_getElem? en5
          · exact an5.sub y hy
        refine ⟨_, rfl, ite2 (fun z3 => ?_) (fun z3 => ?_)⟩
        · rw [SM.grow_endless z' nmem (by rw [SM.above_any nmem sub]; exact z3)] at eg
          have endl : Kcx0.all_ ps s = .endless := by rw [eq]; exact SM.explore_endless eg
          refine ⟨_, rfl, by show 2 ≤ sizeLine; decide, fun r hr0 => ?_⟩
          refine k _ r f0 ((s7H.trans s8).trans (Same.upd hr0)) ((s7H.trans s8).free hr0) ?_ (fun L e => ?_)
          · rw [upd_same, endl]; rfl
          · rw [endl] at e; cases e
        have z3' : ((nd'.state :: nd'.from_).any fun y => within y (done p nd'.state)) = false := by simpa using z3
        rw [SM.grow_new z' nmem (by rw [SM.above_any nmem sub]; exact z3')] at eg
        have F8 := F7.same s8
        have s8H := s7H.trans s8
        have lenA5 := F5.dic.tups.length
        refine ⟨_, rfl, .inl ⟨rfl, _, SqL.of F8.lst⟩, _, rfl, f0, _, _, rfl, rfl, F8.lst, ?_, ?_⟩
        · rw [List.length_map, lenA5]
          exact small1000 (by omega)
        have B9 : But f0 H8 (upd H8 f0 (.lst (as'.map V.ref ++ [V.ref x]))) := (But.refl f0 H8).put
        have f9 : upd H8 f0 (.lst (as'.map V.ref ++ [V.ref x])) f0 = some (.lst ((as' ++ [x]).map V.ref)) := by rw [upd_same, List.map_append]; rfl
        have s9H : Same H (upd H8 f0 (.lst (as'.map V.ref ++ [V.ref x]))) := s8H.put nf0
        have nlst : ∀ ys, HO.lst (as'.map V.ref) ≠ .tup ys := fun ys z => nomatch z
        have ndT : ∀ ys, HO.dT (kvOf fs' pvs') ≠ .tup ys := fun ys z => nomatch z
        generalize upd H8 f0 (.lst (as'.map V.ref ++ [V.ref x])) = H9 at *
        have d9 := B9 _ _ F8.dic.at_ (ne_of F8.dic.at_ F8.lst (fun z => nomatch z))
        have x8 := s8 _ _ hx
        have x9 := B9 _ _ x8 (ne_tup x8 F8.lst nlst)
        have b8 := s8 _ _ (s57 _ _ tb5)
        have b9 := B9 _ _ b8 (ne_tup b8 F8.lst nlst)
        have t9 : Tups H9 as' fs' := F8.dic.tups.but B9 F8.lst nlst
        refine ⟨_, rfl, _, rfl, _, rfl, d0, _, rfl, DPut.t (k := keyS (done p nd'.state)) (v := V.ref b) d9 (by rw [keyS_iv]; exact x9) ?_, ?_⟩
        · rw [kvOf_length F5.dic.len]
          exact small1000 (by omega)
        have B10 : But d0 H9 (upd H9 d0 (.dT (putK (kvOf fs' pvs') (keyS (done p nd'.state)) (V.ref b)))) := (But.refl d0 H9).put
        have t10 : Tups (upd H9 d0 (.dT (putK (kvOf fs' pvs') (keyS (done p nd'.state)) (V.ref b)))) (as' ++ [x]) (fs' ++ [done p nd'.state]) := (t9.but B10 d9 ndT).append (.cons (B10 _ _ x9 (ne_tup x9 d9 ndT)) .nil)
        refine ⟨as' ++ [x], fs' ++ [done p nd'.state], par' ++ [some pl], pvs' ++ [V.ref b], wt' ++ [⟨done p nd'.state, nd'.state :: nd'.from_⟩], _, _, rfl, s9H.put nd, ⟨?_, F5.dic.snoc nmem eb5 t10 upd_same⟩, B10 _ _ b9 (ne_tup b9 d9 ndT), SM.get_more _ eb5, SM.get_more _ en5, an5.more _ _,
          wa5.more F5.dic.plen en5 an5, ?_, ?_, eg⟩
        · rw [upd_ne nfd]; exact f9
        · intro y hy
          rcases List.mem_append.mp hy with hy | hy
          · exact ln5 y hy
          · rw [List.mem_singleton.mp hy]; exact lx
        · rw [List.length_append]; simp only [List.length_cons, List.length_nil]; omega
      · rintro σ H5 ⟨as', fs', par', pvs', wt', v6, v7, rfl, s5, F5, tb5, eb5, en5, an5, wa5, ln5, l5, eg⟩
        rw [List.length_map, lenS, List.drop_length, SM.grow_nil] at eg
        have lenA5 := F5.dic.tups.length
        refine ⟨_, rfl, f0, _, rfl, .inl (SqL.of F5.lst), _, _, rfl, rfl, _, rfl, ite2 (fun z => ?_) (fun z => ?_)⟩
        · have z1 : (300 : Int) < ((as'.map V.ref).length : Nat) := by simpa using z
          rw [List.length_map, lenA5] at z1
          have much : Kcx0.all_ ps s = .much := by rw [eq]; exact SM.explore_much eg (by omega)
          refine ⟨_, rfl, by show 2 ≤ sizeLine; decide, fun r hr0 => ?_⟩
          refine k _ r f0 (s5.trans (Same.upd hr0)) (s5.free hr0) ?_ (fun L e => ?_)
          · rw [upd_same, much]; rfl
          · rw [much] at e; cases e
        · have z1 : ¬ (300 : Int) < ((as'.map V.ref).length : Nat) := by simpa using z
          rw [List.length_map, lenA5] at z1
          refine ⟨_, rfl, _, _, rfl, rfl, ?_⟩
          have plt : pl < fs'.length := (List.getElem?_eq_some_iff.mp en5).1
          refine ⟨pl + 1, as', fs', par', pvs', wt', _, _, _, by omega, plt, rfl, s5, F5, wa5, by omega, ln5, ?_⟩
          rw [eq, SM.explore_on eg (by omega), show 302 - (pl + 1) = fu by omega]
    · have q' : pl = fs.length := by
        have q1 : ¬ (pl : Int) < ((as.map V.ref).length : Nat) := by simpa using q
        rw [List.length_map, lenA] at q1
        omega
      have ew : wt = [] := by
        have := wa.len
        exact List.length_eq_zero_iff.mp (by omega)
      subst ew
      obtain ⟨fu, efu⟩ : ∃ fu, 302 - pl = fu + 1 := ⟨301 - pl, by omega⟩
      have al : Kcx0.all_ ps s = .all fs := by rw [eq, efu]; exact SM.explore_end
      refine ⟨_, rfl, f0, _, rfl, .inl (SqL.of F4.lst), _, rfl, by show 2 ≤ sizeLine; decide, fun r hr0 => ?_⟩
      refine k _ r f0 (s4.trans (Same.upd hr0)) (s4.free hr0) ?_ (fun L e => ?_)
      · rw [upd_same, al, List.length_map, lenA]; rfl
      · rw [al] at e
        cases e
        exact ⟨⟨as, Same.upd hr0 _ _ F4.lst, F4.dic.tups.same (Same.upd hr0)⟩, ln, l300⟩
end
end SR
end
section
set_option Elab.async false
set_option linter.all false
set_option maxRecDepth 100000
set_option maxHeartbeats 4000000
namespace SR
open PySem PySem.Spec PyProof.Rows L2
open Kcx0 (State Step_ within can_ done before)
/-! ### the class Session -/
def sF (n : Int) (l : Addr) : List (Str × V) := putF "steps" (.ref l) (putF "stocks" (.int n) [])
theorem sF_eq (n : Int) (l : Addr) : sF n l = ([(("stocks" : Str), V.int n), (("steps" : Str), V.ref l)] : List (Str × V)) := by
  unfold sF
  simp only [putF]
  rw [if_neg (by decide +kernel)]
theorem sF_stocks (n : Int) (l : Addr) : (sF n l).lookup ("stocks" : Str) = some (.int n) := by
  unfold sF
  rw [lookup_putF, if_neg (by decide +kernel), lookup_putF, if_pos rfl]
theorem sF_steps (n : Int) (l : Addr) : (sF n l).lookup ("steps" : Str) = some (.ref l) := by
  unfold sF
  rw [lookup_putF, if_pos rfl]
theorem sF_no (n : Int) (l : Addr) {m : Str} (h1 : ¬ m = "steps") (h2 : ¬ m = "stocks") : (sF n l).lookup m = none := by
  unfold sF
  rw [lookup_putF, if_neg h1, lookup_putF, if_neg h2]
  rfl
theorem sF_put1 (n m : Int) (l : Addr) : putF "stocks" (.int m) (sF n l) = sF m l := by
  rw [sF_eq, sF_eq]
  simp only [putF]
  rw [if_pos True.intro]
theorem sF_put2 (n : Int) (l l' : Addr) : putF "steps" (.ref l') (sF n l) = sF n l' := by
  rw [sF_eq, sF_eq]
  simp only [putF]
  rw [if_neg (by decide +kernel), if_pos True.intro]
structure TxtSe (K : PySem.W.Frag) (mg : Str → Option Value) (S C fB fW fL fSt fAB fo : Addr) : Prop where
  cl : Cls K S
  nN : NoAttr K S "stocks"
  nS : NoAttr K S "steps"
  wrong : Num mg "WRONG_INPUT" (-22)
  nosuch : Num mg "NO_SUCH_STEP" (-2)
  cannot : Num mg "CANNOT_BE_DONE" (-16)
  above : Num mg "ABOVE_THE_MOST" (-28)
  m6 : Num mg "MOST_STOCKS" 6
  m12 : Num mg "MOST_STEPS" 12
  m9 : Num mg "MOST_OF_A_STEP" 9
  mState : Num mg "MOST_OF_A_STATE" 1000000
  mWeight : Num mg "MOST_OF_A_WEIGHT" 1000
  m64 : Num mg "LONGEST_WAY" 64
  step : mg "Step" = some (.ref C)
  back : mg "look_back" = some (.ref fB)
  way : mg "earliest_way" = some (.ref fW)
  all : mg "look_for_all" = some (.ref fL)
  stuck : mg "stuck_among" = some (.ref fSt)
  allBack : mg "look_all_the_way_back" = some (.ref fAB)
  one : mg "has_one_of" = some (.ref fo)
abbrev inS (i : Nat) : Stmt := inClass (top 34) i
structure OkA (ab : Kcx0.Abs) : Prop where
  n1 : 1 ≤ ab.n
  n6 : ab.n ≤ 6
  steps : SM.StepsN ab.n ab.steps
  small : ∀ p ∈ ab.steps, (∀ x ∈ p.takes, x ≤ 9) ∧ ∀ x ∈ p.gives, x ≤ 9
  l12 : ab.steps.length ≤ 12
structure SessAt (S C : Addr) (H : Hp) (a l : Addr) (ab : Kcx0.Abs) : Prop where
  at_ : ∃ dx, H a = some (.ins S dx (sF ab.n l))
  st : StepsAt C H l ab.steps
  ok : OkA ab
theorem SessAt.same {S C : Addr} {H H' : Hp} {a l : Addr} {ab : Kcx0.Abs} (h : SessAt S C H a l ab) (e : Same H H') : SessAt S C H' a l ab := by
  obtain ⟨⟨dx, h1⟩, h2, h3⟩ := h
  exact ⟨⟨dx, e _ _ h1⟩, h2.same e, h3⟩
def After (S C : Addr) (H H' : Hp) (a l : Addr) (ab : Kcx0.Abs) : Prop := ∃ l', (l' = l ∨ H l' = none) ∧ SessAt S C H' a l' ab ∧ ∀ b o, H b = some o → b ≠ a → b ≠ l → H' b = some o
theorem After.same {S C : Addr} {H H' : Hp} {a l : Addr} {ab : Kcx0.Abs} (h : SessAt S C H a l ab) (e : Same H H') : After S C H H' a l ab := ⟨l, .inl rfl, h.same e, fun b o q _ _ => e b o q⟩
theorem pt_or2 {X : Cx} {a b : Expr} {pos : Pos} {tA tB : TT} (ha : PT X a tA) (hb : PT X b tB) : PT X (.BoolOp .Or [a, b] pos) (tOr tA tB) := (pw_or ha (pw_or1 hb)).pt
def fitsB (n m : Int) (ns : List Int) : Bool := decide ((ns.length : Int) = n) && ns.all fun x => decide (x ≤ m)
theorem all_zi (s : State) (m : Nat) : ((zi s).all fun x => decide (x ≤ (m : Int))) = s.all fun x => decide (x ≤ m) := by
  unfold zi
  rw [List.all_map]
  congr 1
  funext x
  simp
theorem fitsB_state (ab : Kcx0.Abs) (s : State) : fitsB ab.n 1000000 (zi s) = Kcx0.okState ab s := by
  have this : ((zi s).all fun x => decide (x ≤ (1000000 : Int))) = s.all fun x => decide (x ≤ 1000000) := all_zi s 1000000
  unfold fitsB Kcx0.okState
  rw [this]
  show _ = (s.length == ab.n && s.all fun x => decide (x ≤ 1000000))
  congr 1
  rw [List.length_map, Bool.eq_iff_iff]
  simp only [decide_eq_true_eq, beq_iff_eq]
  omega
theorem fitsB_step (ab : Kcx0.Abs) (s : State) : fitsB ab.n 9 (zi s) = Kcx0.okStep ab s := by
  have this : ((zi s).all fun x => decide (x ≤ (9 : Int))) = s.all fun x => decide (x ≤ 9) := all_zi s 9
  unfold fitsB Kcx0.okStep
  rw [this]
  show _ = (s.length == ab.n && s.all fun x => decide (x ≤ 9))
  congr 1
  rw [List.length_map, Bool.eq_iff_iff]
  simp only [decide_eq_true_eq, beq_iff_eq]
  omega
theorem okState_len {ab : Kcx0.Abs} {s : State} (h : Kcx0.okState ab s = true) : s.length = ab.n := by
  unfold Kcx0.okState at h
  rw [Bool.and_eq_true] at h
  simpa using h.1
theorem okStep_len {ab : Kcx0.Abs} {s : State} (h : Kcx0.okStep ab s = true) : s.length = ab.n ∧ ∀ x ∈ s, x ≤ 9 := by
  unfold Kcx0.okStep at h
  rw [Bool.and_eq_true, List.all_eq_true] at h
  refine ⟨by simpa using h.1, fun x hx => ?_⟩
  have := h.2 x hx
  have e : Kcx0.MOST = 9 := rfl
  rw [e] at this
  simpa using this
section
variable {P : Program} {w : World} {K : PySem.W.Frag} {mg : Str → Option Value} {base : Heap} {S C fB fW fL fSt fAB fo fF fh fw fSI fCan fBeh fKS : Addr}
def spSeInit (S : Addr) : Sp := fun vs H Q _ => ∃ (p dx : Addr), vs = [.ref p] ∧ H p = some (.ins S dx []) ∧ ∀ (H' : Hp) (l : Addr), H' p = some (.ins S dx (sF 0 l)) → H l = none → H' l = some (.lst []) → But p H H' → Q .non H'
theorem scSeInit : FnScope ["self"] ["self"] (defScope (inS 0)) := ⟨rfl, rfl, rfl, by decide +kernel, rfl, by decide +kernel, by decide +kernel⟩
theorem ok_seInit {f : Addr} {fd : FuncData} (F : Fun K "__init__" "Session.__init__" (inS 0) f fd) (T : TxtSe K mg S C fB fW fL fSt fAB fo) : FnOk P w K mg base CX0 1 f fd ["self"] (spSeInit S) := by
  refine F.ok scSeInit (fun vs H Q E h => ?_) (fun cdv A outer s H vs Q E hr h => ?_)
  · obtain ⟨p, dx, rfl, _⟩ := h
    rfl
  · obtain ⟨p, dx, rfl, hp, k⟩ := h
    refine ⟨_, pss_cons (ps_fld (pv 0) pe_int rfl) (pss_one (ps_fld (pv 0) (pe_lst pa_nil) rfl)), ?_⟩
    refine ⟨_, rfl, p, S, dx, [], rfl, hp, T.cl, T.nN, (by show 0 < 1000; decide), ?_⟩
    refine ⟨Nat.zero_le _, fun l nl => ?_⟩
    have npl : p ≠ l := ne_of_none (show upd H p (.ins S dx (putF "stocks" (.int 0) [])) p = some (.ins S dx (putF "stocks" (.int 0) [])) from upd_same) nl
    refine ⟨_, rfl, p, S, dx, _, rfl, (by rw [upd_ne npl]; exact upd_same), T.cl, T.nS, (by show 1 < 1000; decide), ?_⟩
    have B : But p H (upd (upd (upd H p (.ins S dx (putF "stocks" (.int 0) []))) l (.lst [])) p (.ins S dx (putF "steps" (.ref l) (putF "stocks" (.int 0) [])))) := ((But.refl p H).put.same (Same.upd nl)).put
    refine k _ l upd_same ?_ ?_ B
    · rw [upd_ne (Ne.symm npl)] at nl; exact nl
    · rw [upd_ne (Ne.symm npl)]; exact upd_same
def spFits (S : Addr) : Sp := fun vs H Q _ => ∃ (a dx l r : Addr) (n m : Int) (ns : List Int), vs = [.ref a, .ref r, .int m] ∧ H a = some (.ins S dx (sF n l)) ∧ H r = some (.lst (ns.map V.int)) ∧ 0 < n ∧ Q (.bl (fitsB n m ns)) H
theorem scFits : FnScope ["self", "row", "most"] ["self", "row", "most"] (defScope (inS 1)) := ⟨rfl, rfl, rfl, by decide +kernel, rfl, by decide +kernel, by decide +kernel⟩
theorem ok_fits {f : Addr} {fd : FuncData} (F : Fun K "fits" "Session.fits" (inS 1) f fd) (T0 : Txt K mg) (T : TxtSe K mg S C fB fW fL fSt fAB fo) : FnOk P w K mg base CX0 1 f fd ["self", "row", "most"] (spFits S) := by
  refine F.ok scFits (fun vs H Q E h => ?_) (fun cdv A outer s H vs Q E hr h => ?_)
  · obtain ⟨a, dx, l, r, _, _, _, rfl, _⟩ := h
    rfl
  · obtain ⟨a, dx, l, r, n, m, ns, rfl, ha, hr0, h0, k⟩ := h
    refine ⟨_, pss_one (ps_ret (pe_and (pe_cmp (pc_eqI (pe_callB call_len_seq (by rfl) T0.len PySem.boot_len (pa_cons (pv 1) pa_nil)) (pe_fld (pv 0) rfl))) (pe_one (pe_cmp (pc_le (pe_callB (cr_max rfl) (by rfl) T0.max PyProof.Rows.boot_max (pa_cons (pv 1) pa_nil)) (pv 2)))))), ?_⟩
    refine ⟨_, rfl, r, _, rfl, .inl (SqL.of hr0), _, rfl, a, S, dx, _, _, rfl, ha, T.cl, T.nN, sF_stocks _ _, _, _, rfl, rfl, _, rfl, ite2 (fun c => ?_) (fun c => ?_)⟩
    · have c1 : (ns.length : Int) = n := by
        have c0 : (((ns.map V.int).length : Nat) : Int) = n := by simpa using c
        rw [List.length_map] at c0
        exact c0
      refine ⟨_, rfl, r, ns, rfl, SqL.of hr0, by omega, fun mx hm hall => ?_⟩
      refine ⟨_, rfl, _, _, rfl, rfl, ?_⟩
      have e : fitsB n m ns = decide (mx ≤ m) := by
        unfold fitsB
        rw [decide_eq_true c1, Bool.true_and, Bool.eq_iff_iff, List.all_eq_true]
        simp only [decide_eq_true_eq]
        exact ⟨fun h => h mx hm, fun h x hx => Int.le_trans (hall x hx) h⟩
      rw [e] at k
      exact k
    · have c1 : ¬ (ns.length : Int) = n := by
        have c0 : ¬ (((ns.map V.int).length : Nat) : Int) = n := by simpa using c
        rw [List.length_map] at c0
        exact c0
      have e : fitsB n m ns = false := by
        unfold fitsB
        rw [decide_eq_false c1, Bool.false_and]
      rw [e] at k
      exact k
/-! begin -/
def spBegin (S : Addr) : Sp := fun vs H Q _ => ∃ (a dx l0 : Addr) (n0 : Int) (n : Nat), vs = [.ref a, .int (n : Nat)] ∧ H a = some (.ins S dx (sF n0 l0)) ∧
  (n = 0 ∨ 6 < n → ∀ (H' : Hp) (r : Addr), Same H H' → H r = none → H' r = some (.lst [.int (-22)]) → Q (.ref r) H') ∧
  (¬ (n = 0 ∨ 6 < n) → ∀ (H' : Hp) (r l : Addr), H' a = some (.ins S dx (sF n l)) → H l = none → H' l = some (.lst []) → But a H H' → H r = none → H' r = some (.lst [.int 0]) → Q (.ref r) H')
theorem scBegin : FnScope ["self", "stocks"] ["self", "stocks"] (defScope (inS 2)) := ⟨rfl, rfl, rfl, by decide +kernel, rfl, by decide +kernel, by decide +kernel⟩
theorem ok_begin {f : Addr} {fd : FuncData} (F : Fun K "begin" "Session.begin" (inS 2) f fd) (T : TxtSe K mg S C fB fW fL fSt fAB fo) : FnOk P w K mg base CX0 1 f fd ["self", "stocks"] (spBegin S) := by
  refine F.ok scBegin (fun vs H Q E h => ?_) (fun cdv A outer s H vs Q E hr h => ?_)
  · obtain ⟨a, dx, l, _, _, rfl, _⟩ := h
    rfl
  · obtain ⟨a, dx, l0, n0, n, rfl, ha, k1, k2⟩ := h
    refine ⟨_, pss_cons (ps_if (pt_or2 (pt_cmpR op_lt (pv 1) pe_int (nomark _)) (pt_cmpR op_gt (pv 1) (pe_num rfl T.m6) (nomark _))) (pss_one (ps_ret (pe_lst (pa_cons (pe_num rfl T.wrong) pa_nil)))) pss_nil)
      (pss_cons (ps_fld (pv 0) (pv 1) rfl) (pss_cons (ps_fld (pv 0) (pe_lst pa_nil) rfl) (pss_one (ps_ret (pe_lst (pa_cons pe_int pa_nil)))))), ?_⟩
    refine ⟨_, rfl, _, _, rfl, rfl, _, rfl, ite2 (fun c => ?_) (fun c => ?_)⟩
    · refine iteT ?_
      refine ⟨by show 1 ≤ sizeLine; decide, fun r nr => ?_⟩
      have c1 : (n : Int) < 1 := by simpa using c
      exact k1 (.inl (by omega)) _ r (Same.upd nr) nr upd_same
    · have c1 : ¬ (n : Int) < 1 := by simpa using c
      refine ⟨_, rfl, _, _, rfl, rfl, _, rfl, ite2 (fun c2 => ?_) (fun c2 => ?_)⟩
      · refine ⟨by show 1 ≤ sizeLine; decide, fun r nr => ?_⟩
        have c3 : (6 : Int) < (n : Int) := by simpa using c2
        exact k1 (.inr (by omega)) _ r (Same.upd nr) nr upd_same
      · have c3 : ¬ (6 : Int) < (n : Int) := by simpa using c2
        refine ⟨_, rfl, _, rfl, a, S, dx, _, rfl, ha, T.cl, T.nN, (by rw [sF_eq]; show 2 < 1000; decide), ?_⟩
        rw [sF_put1]
        refine ⟨Nat.zero_le _, fun l nl => ?_⟩
        have nal : a ≠ l := ne_of_none (show upd H a (.ins S dx (sF n l0)) a = some (.ins S dx (sF n l0)) from upd_same) nl
        refine ⟨_, rfl, a, S, dx, _, rfl, (by rw [upd_ne nal]; exact upd_same), T.cl, T.nS, (by rw [sF_eq]; show 2 < 1000; decide), ?_⟩
        rw [sF_put2]
        have B : But a H (upd (upd (upd H a (.ins S dx (sF n l0))) l (.lst [])) a (.ins S dx (sF n l))) := ((But.refl a H).put.same (Same.upd nl)).put
        have nlH : H l = none := by rw [upd_ne (Ne.symm nal)] at nl; exact nl
        refine ⟨by show 1 ≤ sizeLine; decide, fun r nr => ?_⟩
        have nra : a ≠ r := ne_of_none (show upd (upd (upd H a (.ins S dx (sF n l0))) l (.lst [])) a (.ins S dx (sF n l)) a = some (.ins S dx (sF n l)) from upd_same) nr
        have nrH : H r = none := by
          cases q : H r with
          | none => rfl
          | some o => rw [B r o q (Ne.symm nra)] at nr; cases nr
        have S2 := Same.upd (o := .lst [.int 0]) nr
        refine k2 (by omega) _ r l (S2 _ _ upd_same) nlH (S2 _ _ ?_) (B.same S2) nrH upd_same
        rw [upd_ne (Ne.symm nal)]; exact upd_same
/-! add_step -/
theorem tell_num (v : Int) : Kcx0Neutral.tell (.num v) = [v] := rfl
def spAdd (S C : Addr) : Sp := fun vs H Q _ => ∃ (a l t g : Addr) (ab : Kcx0.Abs) (ts gs : State), vs = [.ref a, .ref t, .ref g] ∧ SessAt S C H a l ab ∧ H t = some (.lst (iv ts)) ∧ H g = some (.lst (iv gs)) ∧
  ∀ (H' : Hp) (r : Addr), H r = none → H' r = some (.lst ((Kcx0Neutral.tell (Kcx0.step ab (.step ts gs)).2).map V.int)) → After S C H H' a l (Kcx0.step ab (.step ts gs)).1 → Q (.ref r) H'
theorem scAdd : FnScope ["self", "takes", "gives", "number"] ["self", "takes", "gives"] (defScope (inS 3)) := ⟨rfl, rfl, rfl, by decide +kernel, rfl, by decide +kernel, by decide +kernel⟩
theorem step_bad {ab : Kcx0.Abs} {ts gs : State} (h : Kcx0.okStep ab ts = false ∨ Kcx0.okStep ab gs = false) : Kcx0.step ab (.step ts gs) = (ab, .num (-22)) := by
  unfold Kcx0.step
  dsimp only
  rw [if_pos h]
theorem step_full {ab : Kcx0.Abs} {ts gs : State} (h1 : Kcx0.okStep ab ts = true) (h2 : Kcx0.okStep ab gs = true) (h : 12 ≤ ab.steps.length) : Kcx0.step ab (.step ts gs) = (ab, .num (-28)) := by
  unfold Kcx0.step
  dsimp only
  rw [if_neg (by rw [h1, h2]; simp), if_pos (show Kcx0.STEPS ≤ ab.steps.length from h)]
theorem step_good {ab : Kcx0.Abs} {ts gs : State} (h1 : Kcx0.okStep ab ts = true) (h2 : Kcx0.okStep ab gs = true) (h : ab.steps.length < 12) : Kcx0.step ab (.step ts gs) = ({ ab with steps := ab.steps ++ [⟨ts, gs⟩] }, .num ab.steps.length) := by
  unfold Kcx0.step
  dsimp only
  rw [if_neg (by rw [h1, h2]; simp), if_neg (show ¬ Kcx0.STEPS ≤ ab.steps.length from Nat.not_le.mpr h)]
theorem not_refs {as : List Addr} {s : State} (h : s ≠ []) : as.map V.ref ≠ iv s := by
  cases s with
  | nil => exact absurd rfl h
  | cons x r =>
    cases as with
    | nil => intro e; simp [iv, zi] at e
    | cons a as => intro e; simp [iv, zi] at e
theorem ok_add {f : Addr} {fd : FuncData} (F : Fun K "add_step" "Session.add_step" (inS 3) f fd) (T0 : Txt K mg) (T : TxtSe K mg S C fB fW fL fSt fAB fo) (TS : TxtS K mg C fh fw) (GF : MethOk P w K mg base 1 S "fits" fF ["self", "row", "most"] (spFits S))
    (M : Mk K C fSI) (GI : ∃ fd, FnOk P w K mg base CX0 1 fSI fd ["self", "takes", "gives"] (spSInit C) ∧ Binds K fd ["self", "takes", "gives"] []) : FnOk P w K mg base CX0 3 f fd ["self", "takes", "gives"] (spAdd S C) := by
  obtain ⟨fdf, Gf, bf⟩ := GF.ex
  obtain ⟨fdi, Gi, bi⟩ := GI
  refine F.ok scAdd (fun vs H Q E h => ?_) (fun cdv A outer s H vs Q E hr h => ?_)
  · obtain ⟨a, l, t, g, _, _, _, rfl, _⟩ := h
    rfl
  · obtain ⟨a, l, t, g, ab, ts, gs, rfl, sess, ht, hg, k⟩ := h
    have hr1 := hr.mono (show 1 ≤ 2 by decide)
    obtain ⟨⟨dx, ha⟩, ⟨as, hl, hst⟩, ok⟩ := id sess
    have n0 : (0 : Int) < (ab.n : Int) := by have := ok.n1; omega
    refine ⟨_, pss_cons (ps_if (pt_or2 (pt_not (pt_val (pe_meth (pv 0) T.cl GF.mt Gf hr1 bf .nil pass0 (pa_cons (pv 1) (pa_cons (pe_num rfl T.m9) pa_nil)))))
        (pt_not (pt_val (pe_meth (pv 0) T.cl GF.mt Gf hr1 bf .nil pass0 (pa_cons (pv 2) (pa_cons (pe_num rfl T.m9) pa_nil)))))) (pss_one (ps_ret (pe_lst (pa_cons (pe_num rfl T.wrong) pa_nil)))) pss_nil)
      (pss_cons (ps_set (i := 3) scAdd.nd rfl (Or.inl rfl) (pe_callB call_len_seq (by rfl) T0.len PySem.boot_len (pa_cons (pe_fld (pv 0) rfl) pa_nil)))
      (pss_cons (ps_if (pt_cmpR op_ge (pv 3) (pe_num rfl T.m12) (nomark _)) (pss_one (ps_ret (pe_lst (pa_cons (pe_num rfl T.above) pa_nil)))) pss_nil)
      (pss_cons (ps_expr (pe_bm PySem.F.plainAttrs_list PySem.F.slot_list_append PySem.F.type_list_append mt_append (pe_fld (pv 0) rfl) (pa_cons (pe_make M Gi hr rfl T.step bi .nil pass0 (pa_cons (pv 1) (pa_cons (pv 2) pa_nil))) pa_nil)))
      (pss_one (ps_ret (pe_lst (pa_cons (pv 3) pa_nil))))))), ?_⟩
    refine ⟨_, rfl, a, dx, _, rfl, ha, sF_no _ _ (by decide +kernel) (by decide +kernel), _, rfl, a, dx, l, t, ab.n, 9, zi ts, rfl, ha, ht, n0, _, rfl, ?_⟩
    rw [fitsB_step]
    have bad : (Kcx0.okStep ab ts = false ∨ Kcx0.okStep ab gs = false) → ∀ r, H r = none → Q (.ref r) (upd H r (.lst [V.int (-22)])) := fun hb r nr => by
      have := k (upd H r (.lst [V.int (-22)])) r nr
      rw [step_bad hb] at this
      exact this upd_same (.same sess (Same.upd nr))
    refine ite2 (fun c => ?_) (fun c => ?_)
    · refine iteT ?_
      exact ⟨by show 1 ≤ sizeLine; decide, fun r nr => bad (.inl (by simpa using c)) r nr⟩
    have c1 : Kcx0.okStep ab ts = true := by simpa using c
    refine ⟨_, rfl, a, dx, _, rfl, ha, sF_no _ _ (by decide +kernel) (by decide +kernel), _, rfl, a, dx, l, g, ab.n, 9, zi gs, rfl, ha, hg, n0, _, rfl, ?_⟩
    rw [fitsB_step]
    refine ite2 (fun d => ?_) (fun d => ?_)
    · exact ⟨by show 1 ≤ sizeLine; decide, fun r nr => bad (.inr (by simpa using d)) r nr⟩
    have d1 : Kcx0.okStep ab gs = true := by simpa using d
    have lenS := hst.length
    refine ⟨_, rfl, a, S, dx, _, _, rfl, ha, T.cl, T.nS, sF_steps _ _, l, _, rfl, .inl (SqL.of hl), ?_⟩
    refine ⟨_, rfl, _, _, rfl, rfl, _, rfl, ite2 (fun e => ?_) (fun e => ?_)⟩
    · refine ⟨by show 1 ≤ sizeLine; decide, fun r nr => ?_⟩
      have e1 : (12 : Int) ≤ ((as.map V.ref).length : Nat) := by simpa using e
      rw [List.length_map, lenS] at e1
      have := k (upd H r (.lst [V.int (-28)])) r nr
      rw [step_full c1 d1 (by omega)] at this
      exact this upd_same (.same sess (Same.upd nr))
    · have e1 : ¬ (12 : Int) ≤ ((as.map V.ref).length : Nat) := by simpa using e
      rw [List.length_map, lenS] at e1
      obtain ⟨lt, st⟩ := okStep_len c1
      obtain ⟨lg, sg⟩ := okStep_len d1
      have net : ts ≠ [] := fun z => by have := ok.n1; rw [z] at lt; simp at lt; omega
      have neg : gs ≠ [] := fun z => by have := ok.n1; rw [z] at lg; simp at lg; omega
      have ntl : t ≠ l := ne_of ht hl fun z => not_refs net (HO.lst.inj z).symm
      have ngl : g ≠ l := ne_of hg hl fun z => not_refs neg (HO.lst.inj z).symm
      refine ⟨_, rfl, a, S, dx, _, _, rfl, ha, T.cl, T.nS, sF_steps _ _, .inl ⟨rfl, _, SqL.of hl⟩, _, rfl, _, rfl, fun p dp np ndp nep => ?_⟩
      have sN : Same H (upd (upd H dp (.own p)) p (.ins C dp [])) := fun b' o e => by rw [upd_ne (ne_of_none e np), upd_ne (ne_of_none e ndp)]; exact e
      refine ⟨p, dp, t, g, rfl, upd_same, fun H1 hp1 B1 => ⟨rfl, ?_⟩⟩
      have S1 : Same H H1 := fun b' o e => B1 b' o (sN b' o e) (ne_of_none e np)
      have hl1 := S1 _ _ hl
      refine ⟨l, _, _, rfl, rfl, hl1, ?_, ?_⟩
      · rw [List.length_map]
        exact small1000 (by have := ok.l12; omega)
      have er : as.map V.ref ++ [V.ref p] = (as ++ [p]).map V.ref := by rw [List.map_append]; rfl
      rw [er]
      have B2 : But l H1 (upd H1 l (.lst ((as ++ [p]).map V.ref))) := (But.refl l H1).put
      have npl : p ≠ l := fun z => by rw [z, hl] at np; cases np
      have nal : a ≠ l := ne_of ha hl (fun z => nomatch z)
      have keepS : ∀ {q : Step_} {x : Addr}, StepAt C H1 x q → q.takes ≠ [] → q.gives ≠ [] → StepAt C (upd H1 l (.lst ((as ++ [p]).map V.ref))) x q := fun {q x} hx h1 h2 => by
        obtain ⟨dq, tq, gq, a1, a2, a3⟩ := hx
        exact ⟨dq, tq, gq, B2 _ _ a1 (ne_of a1 hl1 (fun z => nomatch z)), B2 _ _ a2 (ne_of a2 hl1 fun z => not_refs h1 (HO.lst.inj z).symm), B2 _ _ a3 (ne_of a3 hl1 fun z => not_refs h2 (HO.lst.inj z).symm)⟩
      have keepL : ∀ {xs : List Addr} {qs : List Step_}, Stps C H1 xs qs → SM.StepsN ab.n qs → Stps C (upd H1 l (.lst ((as ++ [p]).map V.ref))) xs qs := fun {xs qs} hx => by
        induction hx with
        | nil => exact fun _ => .nil
        | cons h _ ih =>
          intro hn
          have q := hn _ List.mem_cons_self
          refine .cons (keepS h (fun z => ?_) (fun z => ?_)) (ih fun p' hp' => hn p' (List.mem_cons_of_mem _ hp'))
          · have := ok.n1; have e := q.1; rw [z] at e; simp at e; omega
          · have := ok.n1; have e := q.2; rw [z] at e; simp at e; omega
      have newS : StepAt C H1 p ⟨ts, gs⟩ := ⟨dp, t, g, hp1, S1 _ _ ht, S1 _ _ hg⟩
      refine ⟨_, rfl, by show 1 ≤ sizeLine; decide, fun r nr => ?_⟩
      have S3 := Same.upd (o := .lst [V.int ((as.map V.ref).length : Nat)]) nr
      have nrH : H r = none := by
        cases q : H r with
        | none => rfl
        | some o =>
          by_cases z : r = l
          · rw [z, upd_same] at nr; cases nr
          · rw [B2 r o (S1 _ _ q) z] at nr; cases nr
      have := k (upd (upd H1 l (.lst ((as ++ [p]).map V.ref))) r (.lst [V.int ((as.map V.ref).length : Nat)])) r nrH
      rw [step_good c1 d1 (by omega)] at this
      refine this ?_ ⟨l, .inl rfl, ⟨⟨dx, S3 _ _ (B2 _ _ (S1 _ _ ha) nal)⟩, ⟨as ++ [p], S3 _ _ upd_same, ?_⟩, ok.n1, ok.n6, ?_, ?_, ?_⟩, fun b o q _ nb => S3 _ _ (B2 _ _ (S1 _ _ q) nb)⟩
      · rw [upd_same, List.length_map, lenS]; rfl
      · exact ((keepL (hst.same S1) ok.steps).append (.cons (keepS newS net neg) .nil)).same S3
      · intro q hq
        rcases List.mem_append.mp hq with hq | hq
        · exact ok.steps q hq
        · rw [List.mem_singleton.mp hq]; exact ⟨lt, lg⟩
      · intro q hq
        rcases List.mem_append.mp hq with hq | hq
        · exact ok.small q hq
        · rw [List.mem_singleton.mp hq]; exact ⟨st, sg⟩
      · show (ab.steps ++ [(⟨ts, gs⟩ : Step_)]).length ≤ 12
        rw [List.length_append]; simp only [List.length_cons, List.length_nil]; omega
end
end SR
end
section
set_option Elab.async false
set_option linter.all false
set_option maxRecDepth 100000
set_option maxHeartbeats 4000000
namespace SR
open PySem PySem.Spec PyProof.Rows L2
open Kcx0 (State Step_ within can_ done before)
section
variable {P : Program} {w : World} {K : PySem.W.Frag} {mg : Str → Option Value} {base : Heap} {S C fB fW fL fSt fAB fo fF fh fw fSI fCan fBeh fKS : Addr}
/-- what a call that changes nothing promises -/
def Tells (S C : Addr) (H : Hp) (Q : VK) (a l : Addr) (ab : Kcx0.Abs) (call : Kcx0.Call) : Prop :=
  ∀ (H' : Hp) (r : Addr), H r = none → H' r = some (.lst ((Kcx0Neutral.tell (Kcx0.step ab call).2).map V.int)) → After S C H H' a l (Kcx0.step ab call).1 → Q (.ref r) H'
theorem Tells.now {H : Hp} {Q : VK} {a l : Addr} {ab : Kcx0.Abs} {call : Kcx0.Call} {ans : Kcx0.Ans} (k : Tells S C H Q a l ab call) (sess : SessAt S C H a l ab) (e : Kcx0.step ab call = (ab, ans)) {H' : Hp} {r : Addr} (s : Same H H') (nr : H' r = none) {xs : List V} (ex : xs = (Kcx0Neutral.tell ans).map V.int) :
    Q (.ref r) (upd H' r (.lst xs)) := by
  subst ex
  have := k (upd H' r (.lst ((Kcx0Neutral.tell ans).map V.int))) r (s.free nr)
  rw [e] at this
  exact this upd_same (.same sess (s.trans (Same.upd nr)))
/-! do_step -/
def spDo (S C : Addr) : Sp := fun vs H Q _ => ∃ (a l t : Addr) (ab : Kcx0.Abs) (k : Nat) (s : State), vs = [.ref a, .int (k : Nat), .ref t] ∧ SessAt S C H a l ab ∧ H t = some (.lst (iv s)) ∧ Tells S C H Q a l ab (.do_ s k)
theorem scDo : FnScope ["self", "number", "state", "step"] ["self", "number", "state"] (defScope (inS 4)) := ⟨rfl, rfl, rfl, by decide +kernel, rfl, by decide +kernel, by decide +kernel⟩
theorem tell_some (v : Int) (s : State) : (Kcx0Neutral.tell (.some_ v s)).map V.int = V.int v :: iv s := rfl
theorem ok_do {f : Addr} {fd : FuncData} (F : Fun K "do_step" "Session.do_step" (inS 4) f fd) (T0 : Txt K mg) (T : TxtSe K mg S C fB fW fL fSt fAB fo) (TS : TxtS K mg C fh fw) (GF : MethOk P w K mg base 1 S "fits" fF ["self", "row", "most"] (spFits S))
    (GC : MethOk P w K mg base 2 C "can_be_done" fCan ["self", "state"] (spCan C K)) (GB : MethOk P w K mg base 1 C "state_behind" fBeh ["self", "state"] (spBehind C K)) : FnOk P w K mg base CX0 3 f fd ["self", "number", "state"] (spDo S C) := by
  obtain ⟨fdf, Gf, bf⟩ := GF.ex
  obtain ⟨fdc, Gc, bc⟩ := GC.ex
  obtain ⟨fdb, Gb, bb⟩ := GB.ex
  refine F.ok scDo (fun vs H Q E h => ?_) (fun cdv A outer s0 H vs Q E hr h => ?_)
  · obtain ⟨a, l, t, _, _, _, rfl, _⟩ := h
    rfl
  · obtain ⟨a, l, t, ab, kk, s, rfl, sess, ht, k⟩ := h
    have hr1 := hr.mono (show 1 ≤ 2 by decide)
    obtain ⟨⟨dx, ha⟩, ⟨as, hl, hst⟩, ok⟩ := id sess
    have n0 : (0 : Int) < (ab.n : Int) := by have := ok.n1; omega
    refine ⟨_, pss_cons (ps_if (pt_not (pt_val (pe_meth (pv 0) T.cl GF.mt Gf hr1 bf .nil pass0 (pa_cons (pv 2) (pa_cons (pe_num rfl T.mState) pa_nil))))) (pss_one (ps_ret (pe_lst (pa_cons (pe_num rfl T.wrong) pa_nil)))) pss_nil)
      (pss_cons (ps_if (pt_cmpR op_ge (pv 1) (pe_callB call_len_seq (by rfl) T0.len PySem.boot_len (pa_cons (pe_fld (pv 0) rfl) pa_nil)) (nomark _)) (pss_one (ps_ret (pe_lst (pa_cons (pe_num rfl T.nosuch) pa_nil)))) pss_nil)
      (pss_cons (ps_set (i := 3) scDo.nd rfl (Or.inl rfl) (pe_ix ix_list (pe_fld (pv 0) rfl) (pv 1) (fun _ _ => rfl)))
      (pss_cons (ps_if (pt_not (pt_val (pe_meth (pv 3) TS.cl GC.mt Gc hr bc .nil pass0 (pa_cons (pv 2) pa_nil)))) (pss_one (ps_ret (pe_lst (pa_cons (pe_num rfl T.cannot) pa_nil)))) pss_nil)
      (pss_one (ps_ret (pe_op op_cat (pe_lst (pa_cons pe_int pa_nil)) (pe_callTy call_list_of rfl T0.list PyProof.Rows.boot_list (pa_cons (pe_meth (pv 3) TS.cl GB.mt Gb hr1 bb .nil pass0 (pa_cons (pv 2) pa_nil)) pa_nil)))))))), ?_⟩
    refine ⟨_, rfl, a, dx, _, rfl, ha, sF_no _ _ (by decide +kernel) (by decide +kernel), _, rfl, a, dx, l, t, ab.n, 1000000, zi s, rfl, ha, ht, n0, _, rfl, ?_⟩
    rw [fitsB_state]
    refine ite2 (fun c => ?_) (fun c => ?_)
    · have c1 : Kcx0.okState ab s = false := by simpa using c
      have e : Kcx0.step ab (.do_ s kk) = (ab, .num (-22)) := by unfold Kcx0.step; dsimp only; rw [if_pos c1]
      exact ⟨by show 1 ≤ sizeLine; decide, fun r nr => k.now sess e (Same.refl H) nr rfl⟩
    have c1 : Kcx0.okState ab s = true := by simpa using c
    have lenS := hst.length
    refine ⟨_, rfl, _, rfl, a, S, dx, _, _, rfl, ha, T.cl, T.nS, sF_steps _ _, l, _, rfl, .inl (SqL.of hl), _, _, rfl, rfl, _, rfl, ite2 (fun d => ?_) (fun d => ?_)⟩
    · have d1 : (((as.map V.ref).length : Nat) : Int) ≤ (kk : Int) := by simpa using d
      rw [List.length_map, lenS] at d1
      have nn : ab.steps[kk]? = none := List.getElem?_eq_none (by omega)
      have e : Kcx0.step ab (.do_ s kk) = (ab, .num (-2)) := by unfold Kcx0.step; dsimp only; rw [if_neg (by rw [c1]; simp), nn]
      exact ⟨by show 1 ≤ sizeLine; decide, fun r nr => k.now sess e (Same.refl H) nr rfl⟩
    have d1 : ¬ (((as.map V.ref).length : Nat) : Int) ≤ (kk : Int) := by simpa using d
    rw [List.length_map, lenS] at d1
    obtain ⟨x, ex⟩ : ∃ x, as[kk]? = some x := ⟨_, List.getElem?_eq_getElem (by omega)⟩
    obtain ⟨p, ep, hp⟩ := hst.get ex
    have hpn := ok.steps p (List.mem_of_getElem? ep)
    have ls := okState_len c1
    obtain ⟨dp, tp, gp, e1, e2, e3⟩ := id hp
    refine ⟨_, rfl, a, S, dx, _, _, rfl, ha, T.cl, T.nS, sF_steps _ _, _, rfl, l, _, _, _, rfl, rfl, SqL.of hl, at_of (j := kk) (v := V.ref x) rfl (by rw [List.getElem?_map, ex]; rfl), ?_⟩
    refine ⟨_, rfl, x, dp, _, rfl, e1, stepF_no _ _ (by decide +kernel) (by decide +kernel), _, rfl, x, t, false, p, s, rfl, hp, SqL.of ht, by rw [ls]; exact hpn.1, fun H1 s1 => ?_⟩
    refine ⟨_, rfl, ite2 (fun g => ?_) (fun g => ?_)⟩
    · have g1 : can_ p s = false := by simpa using g
      have e : Kcx0.step ab (.do_ s kk) = (ab, .num (-16)) := by unfold Kcx0.step; dsimp only; rw [if_neg (by rw [c1]; simp), ep]; dsimp only; rw [if_pos g1]
      exact ⟨by show 1 ≤ sizeLine; decide, fun r nr => k.now sess e s1 nr rfl⟩
    have g1 : can_ p s = true := by simpa using g
    have e : Kcx0.step ab (.do_ s kk) = (ab, .some_ 0 (done p s)) := by unfold Kcx0.step; dsimp only; rw [if_neg (by rw [c1]; simp), ep]; dsimp only; rw [if_neg (by rw [g1]; simp)]
    refine ⟨by show 1 ≤ sizeLine; decide, fun q nq => ?_⟩
    have s2 := s1.trans (Same.upd (o := .lst [V.int 0]) nq)
    refine ⟨_, rfl, x, dp, _, rfl, s2 _ _ e1, stepF_no _ _ (by decide +kernel) (by decide +kernel), _, rfl, x, t, false, p, s, rfl, hp.same s2, SqL.of (s2 _ _ ht), by rw [ls]; exact hpn, by have := ok.n6; omega, g1, fun H2 y s3 ny hy => ?_⟩
    refine ⟨y, _, rfl, .inr (SqT.of hy), fun z nz => ?_⟩
    have s4 := s3.trans (Same.upd (o := .lst (iv (done p s))) nz)
    refine ⟨q, z, _, _, rfl, rfl, s4 _ _ upd_same, upd_same, ?_, fun r nr => ?_⟩
    · rw [iv_length, SM.done_length hpn ls]
      show 1 + ab.n ≤ sizeLine
      exact Nat.le_of_lt (small1000 (by have := ok.n6; omega))
    · exact k.now sess e (s2.trans s4) nr rfl
/-! least -/
theorem fits_two {ab : Kcx0.Abs} {s t : State} (h1 : Kcx0.okState ab s = true) (h2 : Kcx0.okState ab t = true) : ¬ (Kcx0.okState ab s = false ∨ Kcx0.okState ab t = false) := by rw [h1, h2]; simp
def spLeast (S C : Addr) : Sp := fun vs H Q _ => ∃ (a l t g : Addr) (ab : Kcx0.Abs) (s u : State), vs = [.ref a, .ref t, .ref g] ∧ SessAt S C H a l ab ∧ H t = some (.lst (iv s)) ∧ H g = some (.lst (iv u)) ∧ Tells S C H Q a l ab (.least s u)
theorem scLeast : FnScope ["self", "first", "wanted", "found"] ["self", "first", "wanted"] (defScope (inS 5)) := ⟨rfl, rfl, rfl, by decide +kernel, rfl, by decide +kernel, by decide +kernel⟩
theorem least_num (ab : Kcx0.Abs) {s u : State} (h : ¬ (Kcx0.okState ab s = false ∨ Kcx0.okState ab u = false)) : Kcx0.step ab (.least s u) = (ab, .num (SM.code (Kcx0.least ab.steps s u))) := by
  unfold Kcx0.step
  dsimp only
  rw [if_neg h]
  cases Kcx0.least ab.steps s u <;> rfl
theorem ok_least {f : Addr} {fd : FuncData} (F : Fun K "least" "Session.least" (inS 5) f fd) (T0 : Txt K mg) (T : TxtSe K mg S C fB fW fL fSt fAB fo) (GF : MethOk P w K mg base 1 S "fits" fF ["self", "row", "most"] (spFits S))
    (GB : Callee P w K mg base 6 fB ["first", "wanted", "steps"] (spBack C)) : FnOk P w K mg base CX0 7 f fd ["self", "first", "wanted"] (spLeast S C) := by
  obtain ⟨fdf, Gf, bf⟩ := GF.ex
  obtain ⟨fdb, Gb, bb⟩ := GB.ex
  refine F.ok scLeast (fun vs H Q E h => ?_) (fun cdv A outer s0 H vs Q E hr h => ?_)
  · obtain ⟨a, l, t, g, _, _, _, rfl, _⟩ := h
    rfl
  · obtain ⟨a, l, t, g, ab, s, u, rfl, sess, ht, hg, k⟩ := h
    have hr1 := hr.mono (show 1 ≤ 6 by decide)
    obtain ⟨⟨dx, ha⟩, hst, ok⟩ := id sess
    have n0 : (0 : Int) < (ab.n : Int) := by have := ok.n1; omega
    refine ⟨_, pss_cons (ps_if (pt_or2 (pt_not (pt_val (pe_meth (pv 0) T.cl GF.mt Gf hr1 bf .nil pass0 (pa_cons (pv 1) (pa_cons (pe_num rfl T.mState) pa_nil)))))
        (pt_not (pt_val (pe_meth (pv 0) T.cl GF.mt Gf hr1 bf .nil pass0 (pa_cons (pv 2) (pa_cons (pe_num rfl T.mState) pa_nil)))))) (pss_one (ps_ret (pe_lst (pa_cons (pe_num rfl T.wrong) pa_nil)))) pss_nil)
      (pss_cons (ps_set (i := 3) scLeast.nd rfl (Or.inl rfl) (pe_call Gb hr rfl T.back GB.kp bb .nil pass0 (pa_cons (pe_callTy call_tuple_of rfl T0.tuple PyProof.Rows.boot_tuple (pa_cons (pv 1) pa_nil)) (pa_cons (pe_callTy call_tuple_of rfl T0.tuple PyProof.Rows.boot_tuple (pa_cons (pv 2) pa_nil)) (pa_cons (pe_fld (pv 0) rfl) pa_nil)))))
      (pss_one (ps_ret (pe_lst (pa_cons (pe_ix ix_tup (pv 3) pe_int (fun _ _ => rfl)) pa_nil))))), ?_⟩
    have bad : (Kcx0.okState ab s = false ∨ Kcx0.okState ab u = false) → Kcx0.step ab (.least s u) = (ab, .num (-22)) := fun hb => by unfold Kcx0.step; dsimp only; rw [if_pos hb]
    refine ⟨_, rfl, a, dx, _, rfl, ha, sF_no _ _ (by decide +kernel) (by decide +kernel), _, rfl, a, dx, l, t, ab.n, 1000000, zi s, rfl, ha, ht, n0, _, rfl, ?_⟩
    rw [fitsB_state]
    refine ite2 (fun c => ?_) (fun c => ?_)
    · refine iteT ?_
      exact ⟨by show 1 ≤ sizeLine; decide, fun r nr => k.now sess (bad (.inl (by simpa using c))) (Same.refl H) nr rfl⟩
    have c1 : Kcx0.okState ab s = true := by simpa using c
    refine ⟨_, rfl, a, dx, _, rfl, ha, sF_no _ _ (by decide +kernel) (by decide +kernel), _, rfl, a, dx, l, g, ab.n, 1000000, zi u, rfl, ha, hg, n0, _, rfl, ?_⟩
    rw [fitsB_state]
    refine ite2 (fun d => ?_) (fun d => ?_)
    · exact ⟨by show 1 ≤ sizeLine; decide, fun r nr => k.now sess (bad (.inr (by simpa using d))) (Same.refl H) nr rfl⟩
    have d1 : Kcx0.okState ab u = true := by simpa using d
    refine ⟨_, rfl, t, _, rfl, .inl ⟨SqL.of ht, fun x nx => ?_⟩⟩
    have s1 := Same.upd (o := .tup (iv s)) nx
    refine ⟨_, rfl, g, _, rfl, .inl ⟨SqL.of (s1 _ _ hg), fun y ny => ?_⟩⟩
    have s2 := s1.trans (Same.upd (o := .tup (iv u)) ny)
    have x2 : upd (upd H x (.tup (iv s))) y (.tup (iv u)) x = some (.tup (iv s)) := Same.upd ny _ _ upd_same
    refine ⟨_, rfl, a, S, dx, _, _, rfl, s2 _ _ ha, T.cl, T.nS, sF_steps _ _, ?_⟩
    refine ⟨x, y, l, s, u, ab.steps, ab.n, rfl, x2, upd_same, hst.same s2, ok.steps, okState_len c1, okState_len d1, ok.n1, by have := ok.n6; omega, ok.l12, fun H3 r g3 s3 nr hr3 hk => ?_⟩
    refine ⟨_, rfl, r, _, _, _, rfl, rfl, SqT.of hr3, at_of (j := 0) rfl rfl, by show 1 ≤ sizeLine; decide, fun q nq => ?_⟩
    exact k.now sess (least_num ab (fits_two c1 d1)) (s2.trans s3) nq rfl
/-! way -/
def spWayC (S C : Addr) : Sp := fun vs H Q _ => ∃ (a l t g : Addr) (ab : Kcx0.Abs) (s u : State), vs = [.ref a, .ref t, .ref g] ∧ SessAt S C H a l ab ∧ H t = some (.lst (iv s)) ∧ H g = some (.lst (iv u)) ∧ Tells S C H Q a l ab (.way s u)
theorem scWayC : FnScope ["self", "first", "wanted", "found", "length"] ["self", "first", "wanted"] (defScope (inS 6)) := ⟨rfl, rfl, rfl, by decide +kernel, rfl, by decide +kernel, by decide +kernel⟩
theorem ok_wayC {f : Addr} {fd : FuncData} (F : Fun K "way" "Session.way" (inS 6) f fd) (T0 : Txt K mg) (T : TxtSe K mg S C fB fW fL fSt fAB fo) (GF : MethOk P w K mg base 1 S "fits" fF ["self", "row", "most"] (spFits S))
    (GB : Callee P w K mg base 6 fB ["first", "wanted", "steps"] (spBack C)) (GW : Callee P w K mg base 4 fW ["first", "rounds", "steps"] (spWay C)) : FnOk P w K mg base CX0 7 f fd ["self", "first", "wanted"] (spWayC S C) := by
  obtain ⟨fdf, Gf, bf⟩ := GF.ex
  obtain ⟨fdb, Gb, bb⟩ := GB.ex
  obtain ⟨fdw, Gw, bw⟩ := GW.ex
  refine F.ok scWayC (fun vs H Q E h => ?_) (fun cdv A outer s0 H vs Q E hr h => ?_)
  · obtain ⟨a, l, t, g, _, _, _, rfl, _⟩ := h
    rfl
  · obtain ⟨a, l, t, g, ab, s, u, rfl, sess, ht, hg, k⟩ := h
    have hr1 := hr.mono (show 1 ≤ 6 by decide)
    have hr4 := hr.mono (show 4 ≤ 6 by decide)
    obtain ⟨⟨dx, ha⟩, hst, ok⟩ := id sess
    have n0 : (0 : Int) < (ab.n : Int) := by have := ok.n1; omega
    refine ⟨_, pss_cons (ps_if (pt_or2 (pt_not (pt_val (pe_meth (pv 0) T.cl GF.mt Gf hr1 bf .nil pass0 (pa_cons (pv 1) (pa_cons (pe_num rfl T.mState) pa_nil)))))
        (pt_not (pt_val (pe_meth (pv 0) T.cl GF.mt Gf hr1 bf .nil pass0 (pa_cons (pv 2) (pa_cons (pe_num rfl T.mState) pa_nil)))))) (pss_one (ps_ret (pe_lst (pa_cons (pe_num rfl T.wrong) pa_nil)))) pss_nil)
      (pss_cons (ps_set (i := 3) scWayC.nd rfl (Or.inl rfl) (pe_call Gb hr rfl T.back GB.kp bb .nil pass0 (pa_cons (pe_callTy call_tuple_of rfl T0.tuple PyProof.Rows.boot_tuple (pa_cons (pv 1) pa_nil)) (pa_cons (pe_callTy call_tuple_of rfl T0.tuple PyProof.Rows.boot_tuple (pa_cons (pv 2) pa_nil)) (pa_cons (pe_fld (pv 0) rfl) pa_nil)))))
      (pss_cons (ps_set (i := 4) scWayC.nd rfl (Or.inl rfl) (pe_ix ix_tup (pv 3) pe_int (fun _ _ => rfl)))
      (pss_cons (ps_if (pt_cmpR op_lt (pv 4) pe_int (nomark _)) (pss_one (ps_ret (pe_lst (pa_cons (pv 4) pa_nil)))) pss_nil)
      (pss_cons (ps_if (pt_cmpR op_gt (pv 4) (pe_num rfl T.m64) (nomark _)) (pss_one (ps_ret (pe_lst (pa_cons (pe_num rfl T.above) pa_nil)))) pss_nil)
      (pss_one (ps_ret (pe_op op_cat (pe_lst (pa_cons (pv 4) pa_nil)) (pe_call Gw hr4 rfl T.way GW.kp bw .nil pass0 (pa_cons (pe_callTy call_tuple_of rfl T0.tuple PyProof.Rows.boot_tuple (pa_cons (pv 1) pa_nil)) (pa_cons (pe_ix ix_tup (pv 3) pe_int (fun _ _ => rfl)) (pa_cons (pe_fld (pv 0) rfl) pa_nil))))))))))), ?_⟩
    have bad : (Kcx0.okState ab s = false ∨ Kcx0.okState ab u = false) → Kcx0.step ab (.way s u) = (ab, .num (-22)) := fun hb => by unfold Kcx0.step; dsimp only; rw [if_pos hb]
    refine ⟨_, rfl, a, dx, _, rfl, ha, sF_no _ _ (by decide +kernel) (by decide +kernel), _, rfl, a, dx, l, t, ab.n, 1000000, zi s, rfl, ha, ht, n0, _, rfl, ?_⟩
    rw [fitsB_state]
    refine ite2 (fun c => ?_) (fun c => ?_)
    · refine iteT ?_
      exact ⟨by show 1 ≤ sizeLine; decide, fun r nr => k.now sess (bad (.inl (by simpa using c))) (Same.refl H) nr rfl⟩
    have c1 : Kcx0.okState ab s = true := by simpa using c
    refine ⟨_, rfl, a, dx, _, rfl, ha, sF_no _ _ (by decide +kernel) (by decide +kernel), _, rfl, a, dx, l, g, ab.n, 1000000, zi u, rfl, ha, hg, n0, _, rfl, ?_⟩
    rw [fitsB_state]
    refine ite2 (fun d => ?_) (fun d => ?_)
    · exact ⟨by show 1 ≤ sizeLine; decide, fun r nr => k.now sess (bad (.inr (by simpa using d))) (Same.refl H) nr rfl⟩
    have d1 : Kcx0.okState ab u = true := by simpa using d
    have ls := okState_len c1
    have lu := okState_len d1
    refine ⟨_, rfl, t, _, rfl, .inl ⟨SqL.of ht, fun x nx => ?_⟩⟩
    have s1 := Same.upd (o := .tup (iv s)) nx
    refine ⟨_, rfl, g, _, rfl, .inl ⟨SqL.of (s1 _ _ hg), fun y ny => ?_⟩⟩
    have s2 := s1.trans (Same.upd (o := .tup (iv u)) ny)
    have x2 : upd (upd H x (.tup (iv s))) y (.tup (iv u)) x = some (.tup (iv s)) := Same.upd ny _ _ upd_same
    refine ⟨_, rfl, a, S, dx, _, _, rfl, s2 _ _ ha, T.cl, T.nS, sF_steps _ _, ?_⟩
    refine ⟨x, y, l, s, u, ab.steps, ab.n, rfl, x2, upd_same, hst.same s2, ok.steps, ls, lu, ok.n1, by have := ok.n6; omega, ok.l12, fun H3 r g3 s3 nr hr3 hk => ?_⟩
    have sH3 := s2.trans s3
    refine ⟨_, rfl, r, _, _, _, rfl, rfl, SqT.of hr3, at_of (j := 0) rfl rfl, ?_⟩
    have hnb := fits_two c1 d1
    refine ⟨_, rfl, _, _, rfl, rfl, _, rfl, ite2 (fun e => ?_) (fun e => ?_)⟩
    · have e1 : SM.code (Kcx0.least ab.steps s u) < 0 := by simpa using e
      have es : Kcx0.step ab (.way s u) = (ab, .num (SM.code (Kcx0.least ab.steps s u))) := by
        unfold Kcx0.step
        dsimp only
        rw [if_neg hnb]
        cases q : Kcx0.least ab.steps s u with
        | steps n => rw [q] at e1; exact absurd e1 (by show ¬ (n : Int) < 0; omega)
        | never => rfl
        | much => rfl
      exact ⟨_, rfl, by show 1 ≤ sizeLine; decide, fun q nq => k.now sess es sH3 nq rfl⟩
    · have e1 : ¬ SM.code (Kcx0.least ab.steps s u) < 0 := by simpa using e
      obtain ⟨kn, ek⟩ : ∃ kn, Kcx0.least ab.steps s u = .steps kn := by
        cases q : Kcx0.least ab.steps s u with
        | steps n => exact ⟨n, rfl⟩
        | never => rw [q] at e1; exact absurd (show (-6 : Int) < 0 by decide) e1
        | much => rw [q] at e1; exact absurd (show (-75 : Int) < 0 by decide) e1
      have ec : SM.code (Kcx0.least ab.steps s u) = (kn : Int) := by rw [ek]; rfl
      refine ⟨_, rfl, _, _, rfl, rfl, _, rfl, ite2 (fun z => ?_) (fun z => ?_)⟩
      · have z1 : (64 : Int) < SM.code (Kcx0.least ab.steps s u) := by simpa using z
        rw [ec] at z1
        have es : Kcx0.step ab (.way s u) = (ab, .num (-28)) := by
          unfold Kcx0.step
          dsimp only
          rw [if_neg hnb, ek]
          dsimp only
          rw [if_pos (show Kcx0.LONG < kn by show 64 < kn; omega)]
        exact ⟨by show 1 ≤ sizeLine; decide, fun q nq => k.now sess es sH3 nq rfl⟩
      · have z1 : ¬ (64 : Int) < SM.code (Kcx0.least ab.steps s u) := by simpa using z
        rw [ec] at z1
        have es : Kcx0.step ab (.way s u) = (ab, .some_ kn (Kcx0.wayFrom ab.steps (Kcx0.layers ab.steps u kn) s)) := by
          unfold Kcx0.step
          dsimp only
          rw [if_neg hnb, ek]
          dsimp only
          rw [if_neg (show ¬ Kcx0.LONG < kn by show ¬ 64 < kn; omega)]
        obtain ⟨far, lays, hga, hlen, hpm⟩ := hk kn ek
        refine ⟨_, rfl, by show 1 ≤ sizeLine; decide, fun q nq => ?_⟩
        have s4 := Same.upd (o := .lst [V.int (SM.code (Kcx0.least ab.steps s u))]) nq
        have sH4 := sH3.trans s4
        refine ⟨_, rfl, t, _, rfl, .inl ⟨SqL.of (sH4 _ _ ht), fun x5 nx5 => ?_⟩⟩
        have s5 := Same.upd (o := .tup (iv s)) nx5
        have sH5 := sH4.trans s5
        refine ⟨_, rfl, r, _, _, _, rfl, rfl, SqT.of (s5 _ _ (s4 _ _ hr3)), at_of (j := 1) rfl rfl, _, rfl, a, S, dx, _, _, rfl, sH5 _ _ ha, T.cl, T.nS, sF_steps _ _, ?_⟩
        refine ⟨x5, g3, l, s, u, ab.steps, ab.n, kn, lays, rfl, upd_same, (hga.same s4).same s5, hst.same sH5, ok.steps, ls, lu, by have := ok.n6; omega, ok.l12, hlen, hpm, far, by omega, fun H6 y6 s6 ny6 hy6 hw6 => ?_⟩
        refine ⟨q, y6, _, _, rfl, rfl, s6 _ _ (s5 _ _ upd_same), hy6, ?_, fun z6 nz6 => ?_⟩
        · rw [iv_length, hw6]
          show 1 + kn ≤ sizeLine
          exact Nat.le_of_lt (small1000 (by omega))
        · refine k.now sess es (sH5.trans s6) nz6 ?_
          rw [tell_some, ec]
          rfl
end
end SR
end
section
set_option Elab.async false
set_option linter.all false
set_option maxRecDepth 100000
set_option maxHeartbeats 4000000
namespace SR
open PySem PySem.Spec PyProof.Rows L2
open Kcx0 (State Step_ within can_ done before)
section
variable {P : Program} {w : World} {K : PySem.W.Frag} {mg : Str → Option Value} {base : Heap} {S C fB fW fL fSt fAB fo fF fh fw fSI fCan fBeh fKS : Addr}
/-! many -/
def spMany (S C : Addr) : Sp := fun vs H Q _ => ∃ (a l t : Addr) (ab : Kcx0.Abs) (s : State), vs = [.ref a, .ref t] ∧ SessAt S C H a l ab ∧ H t = some (.lst (iv s)) ∧ Tells S C H Q a l ab (.many s)
theorem scMany : FnScope ["self", "first", "found"] ["self", "first"] (defScope (inS 7)) := ⟨rfl, rfl, rfl, by decide +kernel, rfl, by decide +kernel, by decide +kernel⟩
theorem many_num (ab : Kcx0.Abs) {s : State} (h : Kcx0.okState ab s = true) : Kcx0.step ab (.many s) = (ab, .num (SM.codeA (Kcx0.all_ ab.steps s))) := by
  unfold Kcx0.step
  dsimp only
  rw [if_neg (by rw [h]; simp)]
  unfold Kcx0.ofAll
  cases Kcx0.all_ ab.steps s <;> rfl
theorem ok_many {f : Addr} {fd : FuncData} (F : Fun K "many" "Session.many" (inS 7) f fd) (T0 : Txt K mg) (T : TxtSe K mg S C fB fW fL fSt fAB fo) (GF : MethOk P w K mg base 1 S "fits" fF ["self", "row", "most"] (spFits S))
    (GL : Callee P w K mg base 3 fL ["first", "steps"] (spLookAll C)) : FnOk P w K mg base CX0 4 f fd ["self", "first"] (spMany S C) := by
  obtain ⟨fdf, Gf, bf⟩ := GF.ex
  obtain ⟨fdb, Gb, bb⟩ := GL.ex
  refine F.ok scMany (fun vs H Q E h => ?_) (fun cdv A outer s0 H vs Q E hr h => ?_)
  · obtain ⟨a, l, t, _, _, rfl, _⟩ := h
    rfl
  · obtain ⟨a, l, t, ab, s, rfl, sess, ht, k⟩ := h
    have hr1 := hr.mono (show 1 ≤ 3 by decide)
    obtain ⟨⟨dx, ha⟩, hst, ok⟩ := id sess
    have n0 : (0 : Int) < (ab.n : Int) := by have := ok.n1; omega
    refine ⟨_, pss_cons (ps_if (pt_not (pt_val (pe_meth (pv 0) T.cl GF.mt Gf hr1 bf .nil pass0 (pa_cons (pv 1) (pa_cons (pe_num rfl T.mState) pa_nil))))) (pss_one (ps_ret (pe_lst (pa_cons (pe_num rfl T.wrong) pa_nil)))) pss_nil)
      (pss_cons (ps_set (i := 2) scMany.nd rfl (Or.inl rfl) (pe_call Gb hr rfl T.all GL.kp bb .nil pass0 (pa_cons (pe_callTy call_tuple_of rfl T0.tuple PyProof.Rows.boot_tuple (pa_cons (pv 1) pa_nil)) (pa_cons (pe_fld (pv 0) rfl) pa_nil))))
      (pss_one (ps_ret (pe_lst (pa_cons (pe_ix ix_tup (pv 2) pe_int (fun _ _ => rfl)) pa_nil))))), ?_⟩
    refine ⟨_, rfl, a, dx, _, rfl, ha, sF_no _ _ (by decide +kernel) (by decide +kernel), _, rfl, a, dx, l, t, ab.n, 1000000, zi s, rfl, ha, ht, n0, _, rfl, ?_⟩
    rw [fitsB_state]
    refine ite2 (fun c => ?_) (fun c => ?_)
    · have c1 : Kcx0.okState ab s = false := by simpa using c
      have e : Kcx0.step ab (.many s) = (ab, .num (-22)) := by unfold Kcx0.step; dsimp only; rw [if_pos c1]
      exact ⟨by show 1 ≤ sizeLine; decide, fun r nr => k.now sess e (Same.refl H) nr rfl⟩
    have c1 : Kcx0.okState ab s = true := by simpa using c
    refine ⟨_, rfl, t, _, rfl, .inl ⟨SqL.of ht, fun x nx => ?_⟩⟩
    have s1 := Same.upd (o := .tup (iv s)) nx
    refine ⟨_, rfl, a, S, dx, _, _, rfl, s1 _ _ ha, T.cl, T.nS, sF_steps _ _, ?_⟩
    refine ⟨x, l, s, ab.steps, ab.n, rfl, upd_same, hst.same s1, ok.steps, okState_len c1, by have := ok.n6; omega, ok.l12, fun H3 r g3 s3 nr hr3 hk => ?_⟩
    refine ⟨_, rfl, r, _, _, _, rfl, rfl, SqT.of hr3, at_of (j := 0) rfl rfl, by show 1 ≤ sizeLine; decide, fun q nq => ?_⟩
    exact k.now sess (many_num ab c1) (s1.trans s3) nq rfl
/-! stuck -/
def spStuckC (S C : Addr) : Sp := fun vs H Q _ => ∃ (a l t : Addr) (ab : Kcx0.Abs) (s : State), vs = [.ref a, .ref t] ∧ SessAt S C H a l ab ∧ H t = some (.lst (iv s)) ∧ Tells S C H Q a l ab (.stuck s)
theorem scStuckC : FnScope ["self", "first", "found", "stuck"] ["self", "first"] (defScope (inS 8)) := ⟨rfl, rfl, rfl, by decide +kernel, rfl, by decide +kernel, by decide +kernel⟩
theorem codeA_neg {x : Kcx0.All} (h : SM.codeA x < 0) : (x = .endless ∧ SM.codeA x = -6) ∨ (x = .much ∧ SM.codeA x = -75) := by
  cases x with
  | all l => exact absurd h (by show ¬ ((l.length : Nat) : Int) < 0; omega)
  | endless => exact .inl ⟨rfl, rfl⟩
  | much => exact .inr ⟨rfl, rfl⟩
theorem codeA_nat {x : Kcx0.All} (h : ¬ SM.codeA x < 0) : ∃ l, x = .all l := by
  cases x with
  | all l => exact ⟨l, rfl⟩
  | endless => exact absurd (show (-6 : Int) < 0 by decide) h
  | much => exact absurd (show (-75 : Int) < 0 by decide) h
theorem ok_stuckC {f : Addr} {fd : FuncData} (F : Fun K "stuck" "Session.stuck" (inS 8) f fd) (T0 : Txt K mg) (T : TxtSe K mg S C fB fW fL fSt fAB fo) (GF : MethOk P w K mg base 1 S "fits" fF ["self", "row", "most"] (spFits S))
    (GL : Callee P w K mg base 3 fL ["first", "steps"] (spLookAll C)) (GS : Callee P w K mg base 3 fSt ["states", "steps"] (spStuck C)) : FnOk P w K mg base CX0 4 f fd ["self", "first"] (spStuckC S C) := by
  obtain ⟨fdf, Gf, bf⟩ := GF.ex
  obtain ⟨fdb, Gb, bb⟩ := GL.ex
  obtain ⟨fds, Gs, bs⟩ := GS.ex
  refine F.ok scStuckC (fun vs H Q E h => ?_) (fun cdv A outer s0 H vs Q E hr h => ?_)
  · obtain ⟨a, l, t, _, _, rfl, _⟩ := h
    rfl
  · obtain ⟨a, l, t, ab, s, rfl, sess, ht, k⟩ := h
    have hr1 := hr.mono (show 1 ≤ 3 by decide)
    obtain ⟨⟨dx, ha⟩, hst, ok⟩ := id sess
    have n0 : (0 : Int) < (ab.n : Int) := by have := ok.n1; omega
    refine ⟨_, pss_cons (ps_if (pt_not (pt_val (pe_meth (pv 0) T.cl GF.mt Gf hr1 bf .nil pass0 (pa_cons (pv 1) (pa_cons (pe_num rfl T.mState) pa_nil))))) (pss_one (ps_ret (pe_lst (pa_cons (pe_num rfl T.wrong) pa_nil)))) pss_nil)
      (pss_cons (ps_set (i := 2) scStuckC.nd rfl (Or.inl rfl) (pe_call Gb hr rfl T.all GL.kp bb .nil pass0 (pa_cons (pe_callTy call_tuple_of rfl T0.tuple PyProof.Rows.boot_tuple (pa_cons (pv 1) pa_nil)) (pa_cons (pe_fld (pv 0) rfl) pa_nil))))
      (pss_cons (ps_if (pt_cmpR op_lt (pe_ix ix_tup (pv 2) pe_int (fun _ _ => rfl)) pe_int (nomark _)) (pss_one (ps_ret (pe_lst (pa_cons (pe_ix ix_tup (pv 2) pe_int (fun _ _ => rfl)) pa_nil)))) pss_nil)
      (pss_cons (ps_set (i := 3) scStuckC.nd rfl (Or.inl rfl) (pe_call Gs hr rfl T.stuck GS.kp bs .nil pass0 (pa_cons (pe_ix ix_tup (pv 2) pe_int (fun _ _ => rfl)) (pa_cons (pe_fld (pv 0) rfl) pa_nil))))
      (pss_cons (ps_if (pt_cmpR op_eq (pe_callB call_len_seq (by rfl) T0.len PySem.boot_len (pa_cons (pv 3) pa_nil)) pe_int (nomark _)) (pss_one (ps_ret (pe_lst (pa_cons pe_int pa_nil)))) pss_nil)
      (pss_one (ps_ret (pe_op op_cat (pe_lst (pa_cons (pe_callB call_len_seq (by rfl) T0.len PySem.boot_len (pa_cons (pv 3) pa_nil)) pa_nil)) (pe_callTy call_list_of rfl T0.list PyProof.Rows.boot_list (pa_cons (pe_ix ix_list (pv 3) pe_int (fun _ _ => rfl)) pa_nil))))))))), ?_⟩
    refine ⟨_, rfl, a, dx, _, rfl, ha, sF_no _ _ (by decide +kernel) (by decide +kernel), _, rfl, a, dx, l, t, ab.n, 1000000, zi s, rfl, ha, ht, n0, _, rfl, ?_⟩
    rw [fitsB_state]
    refine ite2 (fun c => ?_) (fun c => ?_)
    · have c1 : Kcx0.okState ab s = false := by simpa using c
      have e : Kcx0.step ab (.stuck s) = (ab, .num (-22)) := by unfold Kcx0.step; dsimp only; rw [if_pos c1]
      exact ⟨by show 1 ≤ sizeLine; decide, fun r nr => k.now sess e (Same.refl H) nr rfl⟩
    have c1 : Kcx0.okState ab s = true := by simpa using c
    have c2 : ¬ Kcx0.okState ab s = false := by rw [c1]; simp
    refine ⟨_, rfl, t, _, rfl, .inl ⟨SqL.of ht, fun x nx => ?_⟩⟩
    have s1 := Same.upd (o := .tup (iv s)) nx
    refine ⟨_, rfl, a, S, dx, _, _, rfl, s1 _ _ ha, T.cl, T.nS, sF_steps _ _, ?_⟩
    refine ⟨x, l, s, ab.steps, ab.n, rfl, upd_same, hst.same s1, ok.steps, okState_len c1, by have := ok.n6; omega, ok.l12, fun H3 r g3 s3 nr hr3 hk => ?_⟩
    have sH3 := s1.trans s3
    refine ⟨_, rfl, r, _, _, _, rfl, rfl, SqT.of hr3, at_of (j := 0) rfl rfl, _, _, rfl, rfl, _, rfl, ite2 (fun d => ?_) (fun d => ?_)⟩
    · have d1 : SM.codeA (Kcx0.all_ ab.steps s) < 0 := by simpa using d
      have e : Kcx0.step ab (.stuck s) = (ab, .num (SM.codeA (Kcx0.all_ ab.steps s))) := by
        unfold Kcx0.step
        dsimp only
        rw [if_neg c2]
        unfold Kcx0.ofAll
        rcases codeA_neg d1 with ⟨q, _⟩ | ⟨q, _⟩ <;> rw [q] <;> rfl
      exact ⟨_, rfl, r, _, _, _, rfl, rfl, SqT.of hr3, at_of (j := 0) rfl rfl, by show 1 ≤ sizeLine; decide, fun q nq => k.now sess e sH3 nq rfl⟩
    have d1 : ¬ SM.codeA (Kcx0.all_ ab.steps s) < 0 := by simpa using d
    obtain ⟨L, eL⟩ := codeA_nat d1
    obtain ⟨hL, lL, l300⟩ := hk L eL
    have e : Kcx0.step ab (.stuck s) = (ab, .some_ (L.filter (Kcx0.isStuck ab.steps)).length ((L.filter (Kcx0.isStuck ab.steps)).headD [])) := by
      unfold Kcx0.step
      dsimp only
      rw [if_neg c2]
      unfold Kcx0.ofAll
      rw [eL]
    refine ⟨_, rfl, r, _, _, _, rfl, rfl, SqT.of hr3, at_of (j := 1) rfl rfl, _, rfl, a, S, dx, _, _, rfl, sH3 _ _ ha, T.cl, T.nS, sF_steps _ _, ?_⟩
    refine ⟨g3, l, L, ab.steps, ab.n, rfl, hL, hst.same sH3, ok.steps, lL, by omega, ok.l12, fun H4 y s4 ny hy => ?_⟩
    have sH4 := sH3.trans s4
    have lM : SM.LenN ab.n (L.filter (Kcx0.isStuck ab.steps)) := fun z hz => lL z (List.mem_filter.mp hz).1
    have lml : (L.filter (Kcx0.isStuck ab.steps)).length ≤ 300 := Nat.le_trans (List.length_filter_le _ _) l300
    generalize L.filter (Kcx0.isStuck ab.steps) = M at *
    obtain ⟨ms, hm1, hm2⟩ := hy
    have lenM := hm2.length
    refine ⟨_, rfl, y, _, rfl, .inl (SqL.of hm1), rfl, _, rfl, ite2 (fun z => ?_) (fun z => ?_)⟩
    · have z1 : (((ms.map V.ref).length : Nat) : Int) = 0 := by simpa using z
      rw [List.length_map, lenM] at z1
      have eM : M = [] := List.length_eq_zero_iff.mp (by omega)
      subst eM
      exact ⟨by show 1 ≤ sizeLine; decide, fun q nq => k.now sess e sH4 nq rfl⟩
    · have z1 : ¬ (((ms.map V.ref).length : Nat) : Int) = 0 := by simpa using z
      rw [List.length_map, lenM] at z1
      cases hm2 with
      | nil => exact absurd rfl z1
      | cons tm rest =>
        rename_i am sm ams sms
        have ls : sm.length = ab.n := lM sm List.mem_cons_self
        refine ⟨_, rfl, y, _, rfl, .inl (SqL.of hm1), by show 1 ≤ sizeLine; decide, fun q nq => ?_⟩
        have s5 := Same.upd (o := .lst [V.int ((((am :: ams).map V.ref).length : Nat) : Int)]) nq
        refine ⟨_, rfl, _, _, _, _, rfl, rfl, SqL.of (s5 _ _ hm1), at_of (j := 0) rfl rfl, am, _, rfl, .inr (SqT.of (s5 _ _ tm)), fun z6 nz => ?_⟩
        have s6 := Same.upd (o := .lst (iv sm)) nz
        refine ⟨q, z6, _, _, rfl, rfl, s6 _ _ upd_same, upd_same, ?_, fun q7 nq7 => ?_⟩
        · rw [iv_length, ls]
          show 1 + ab.n ≤ sizeLine
          exact Nat.le_of_lt (small1000 (by have := ok.n6; omega))
        · refine k.now sess e ((sH4.trans s5).trans s6) nq7 ?_
          rw [tell_some, List.length_map, lenM]
          rfl
/-! always -/
def spAlways (S C : Addr) : Sp := fun vs H Q _ => ∃ (a l t g : Addr) (ab : Kcx0.Abs) (s u : State), vs = [.ref a, .ref t, .ref g] ∧ SessAt S C H a l ab ∧ H t = some (.lst (iv s)) ∧ H g = some (.lst (iv u)) ∧ Tells S C H Q a l ab (.always s u)
theorem scAlways : FnScope ["self", "first", "wanted", "found", "back", "state"] ["self", "first", "wanted"] (defScope (inS 9)) := ⟨rfl, rfl, rfl, by decide +kernel, rfl, by decide +kernel, by decide +kernel⟩
theorem ok_always {f : Addr} {fd : FuncData} (F : Fun K "always" "Session.always" (inS 9) f fd) (T0 : Txt K mg) (T : TxtSe K mg S C fB fW fL fSt fAB fo) (GF : MethOk P w K mg base 1 S "fits" fF ["self", "row", "most"] (spFits S))
    (GL : Callee P w K mg base 3 fL ["first", "steps"] (spLookAll C)) (GA : Callee P w K mg base 6 fAB ["wanted", "steps"] (spAllBack C)) (GO : Callee P w K mg base 2 fo ["state", "least"] (spHasOne K)) : FnOk P w K mg base CX0 7 f fd ["self", "first", "wanted"] (spAlways S C) := by
  obtain ⟨fdf, Gf, bf⟩ := GF.ex
  obtain ⟨fdb, Gb, bb⟩ := GL.ex
  obtain ⟨fda, Ga, ba⟩ := GA.ex
  obtain ⟨fdo, Go, bo⟩ := GO.ex
  refine F.ok scAlways (fun vs H Q E h => ?_) (fun cdv A outer s0 H vs Q E hr h => ?_)
  · obtain ⟨a, l, t, g, _, _, _, rfl, _⟩ := h
    rfl
  · obtain ⟨a, l, t, g, ab, s, u, rfl, sess, ht, hg, k⟩ := h
    have hr1 := hr.mono (show 1 ≤ 6 by decide)
    have hr2 := hr.mono (show 2 ≤ 6 by decide)
    have hr3' := hr.mono (show 3 ≤ 6 by decide)
    obtain ⟨⟨dx, ha⟩, hst, ok⟩ := id sess
    have n0 : (0 : Int) < (ab.n : Int) := by have := ok.n1; omega
    refine ⟨_, pss_cons (ps_if (pt_or2 (pt_not (pt_val (pe_meth (pv 0) T.cl GF.mt Gf hr1 bf .nil pass0 (pa_cons (pv 1) (pa_cons (pe_num rfl T.mState) pa_nil)))))
        (pt_not (pt_val (pe_meth (pv 0) T.cl GF.mt Gf hr1 bf .nil pass0 (pa_cons (pv 2) (pa_cons (pe_num rfl T.mState) pa_nil)))))) (pss_one (ps_ret (pe_lst (pa_cons (pe_num rfl T.wrong) pa_nil)))) pss_nil)
      (pss_cons (ps_set (i := 3) scAlways.nd rfl (Or.inl rfl) (pe_call Gb hr3' rfl T.all GL.kp bb .nil pass0 (pa_cons (pe_callTy call_tuple_of rfl T0.tuple PyProof.Rows.boot_tuple (pa_cons (pv 1) pa_nil)) (pa_cons (pe_fld (pv 0) rfl) pa_nil))))
      (pss_cons (ps_if (pt_cmpR op_lt (pe_ix ix_tup (pv 3) pe_int (fun _ _ => rfl)) pe_int (nomark _)) (pss_one (ps_ret (pe_lst (pa_cons (pe_ix ix_tup (pv 3) pe_int (fun _ _ => rfl)) pa_nil)))) pss_nil)
      (pss_cons (ps_set (i := 4) scAlways.nd rfl (Or.inl rfl) (pe_call Ga hr rfl T.allBack GA.kp ba .nil pass0 (pa_cons (pe_callTy call_tuple_of rfl T0.tuple PyProof.Rows.boot_tuple (pa_cons (pv 2) pa_nil)) (pa_cons (pe_fld (pv 0) rfl) pa_nil))))
      (pss_cons (ps_if (pt_cmpR op_lt (pe_ix ix_tup (pv 4) pe_int (fun _ _ => rfl)) pe_int (nomark _)) (pss_one (ps_ret (pe_lst (pa_cons (pe_ix ix_tup (pv 4) pe_int (fun _ _ => rfl)) pa_nil)))) pss_nil)
      (pss_cons (ps_for PassesOwn.never rfl (pi_list (pe_ix ix_tup (pv 3) pe_int (fun _ _ => rfl))) (pg_name (i := 5) scAlways.nd rfl (Or.inl rfl))
        (pss_one (ps_if (pt_not (pt_val (pe_call Go hr2 rfl T.one GO.kp bo .nil pass0 (pa_cons (pv 5) (pa_cons (pe_ix ix_tup (pv 4) pe_int (fun _ _ => rfl)) pa_nil))))) (pss_one (ps_ret (pe_lst (pa_cons pe_int pa_nil)))) pss_nil)))
      (pss_one (ps_ret (pe_lst (pa_cons pe_int pa_nil))))))))), ?_⟩
    have bad : (Kcx0.okState ab s = false ∨ Kcx0.okState ab u = false) → Kcx0.step ab (.always s u) = (ab, .num (-22)) := fun hb => by unfold Kcx0.step; dsimp only; rw [if_pos hb]
    refine ⟨_, rfl, a, dx, _, rfl, ha, sF_no _ _ (by decide +kernel) (by decide +kernel), _, rfl, a, dx, l, t, ab.n, 1000000, zi s, rfl, ha, ht, n0, _, rfl, ?_⟩
    rw [fitsB_state]
    refine ite2 (fun c => ?_) (fun c => ?_)
    · refine iteT ?_
      exact ⟨by show 1 ≤ sizeLine; decide, fun r nr => k.now sess (bad (.inl (by simpa using c))) (Same.refl H) nr rfl⟩
    have c1 : Kcx0.okState ab s = true := by simpa using c
    refine ⟨_, rfl, a, dx, _, rfl, ha, sF_no _ _ (by decide +kernel) (by decide +kernel), _, rfl, a, dx, l, g, ab.n, 1000000, zi u, rfl, ha, hg, n0, _, rfl, ?_⟩
    rw [fitsB_state]
    refine ite2 (fun d => ?_) (fun d => ?_)
    · exact ⟨by show 1 ≤ sizeLine; decide, fun r nr => k.now sess (bad (.inr (by simpa using d))) (Same.refl H) nr rfl⟩
    have d1 : Kcx0.okState ab u = true := by simpa using d
    have hnb := fits_two c1 d1
    refine ⟨_, rfl, t, _, rfl, .inl ⟨SqL.of ht, fun x nx => ?_⟩⟩
    have s1 := Same.upd (o := .tup (iv s)) nx
    refine ⟨_, rfl, a, S, dx, _, _, rfl, s1 _ _ ha, T.cl, T.nS, sF_steps _ _, ?_⟩
    refine ⟨x, l, s, ab.steps, ab.n, rfl, upd_same, hst.same s1, ok.steps, okState_len c1, by have := ok.n6; omega, ok.l12, fun H3 r g3 s3 nr hr3 hk => ?_⟩
    have sH3 := s1.trans s3
    refine ⟨_, rfl, r, _, _, _, rfl, rfl, SqT.of hr3, at_of (j := 0) rfl rfl, _, _, rfl, rfl, _, rfl, ite2 (fun e => ?_) (fun e => ?_)⟩
    · have e1 : SM.codeA (Kcx0.all_ ab.steps s) < 0 := by simpa using e
      have es : Kcx0.step ab (.always s u) = (ab, .num (SM.codeA (Kcx0.all_ ab.steps s))) := by
        unfold Kcx0.step
        dsimp only
        rw [if_neg hnb]
        unfold Kcx0.ofAll
        rcases codeA_neg e1 with ⟨q, _⟩ | ⟨q, _⟩ <;> rw [q] <;> rfl
      exact ⟨_, rfl, r, _, _, _, rfl, rfl, SqT.of hr3, at_of (j := 0) rfl rfl, by show 1 ≤ sizeLine; decide, fun q nq => k.now sess es sH3 nq rfl⟩
    have e1 : ¬ SM.codeA (Kcx0.all_ ab.steps s) < 0 := by simpa using e
    obtain ⟨L, eL⟩ := codeA_nat e1
    obtain ⟨hL, lL, l300⟩ := hk L eL
    have es : ∀ {o : Option (List State)}, Kcx0.whole ab.steps 201 [u] = o → Kcx0.step ab (.always s u) = (ab, match o with | none => .num (-75) | some m => .num (if L.all (Kcx0.has m) then 1 else 0)) := fun {o} ho => by
      unfold Kcx0.step
      dsimp only
      rw [if_neg hnb]
      unfold Kcx0.ofAll
      rw [eL]
      have : Kcx0.whole ab.steps (Kcx0.ROUNDS + 1) [u] = o := ho
      rw [this]
      cases o <;> rfl
    refine ⟨_, rfl, g, _, rfl, .inl ⟨SqL.of (sH3 _ _ hg), fun y ny => ?_⟩⟩
    have s4 := Same.upd (o := .tup (iv u)) ny
    have sH4 := sH3.trans s4
    refine ⟨_, rfl, a, S, dx, _, _, rfl, sH4 _ _ ha, T.cl, T.nS, sF_steps _ _, ?_⟩
    refine ⟨y, l, u, ab.steps, ab.n, rfl, upd_same, hst.same sH4, ok.steps, okState_len d1, ok.n1, by have := ok.n6; omega, ok.l12, fun H5 r5 g5 v s5 nr5 hr5 hw => ?_⟩
    have sH5 := sH4.trans s5
    have hL5 := (hL.same s4).same s5
    refine ⟨_, rfl, r5, _, _, _, rfl, rfl, SqT.of hr5, at_of (j := 0) rfl rfl, _, _, rfl, rfl, _, rfl, ite2 (fun z => ?_) (fun z => ?_)⟩
    · have z1 : v < 0 := by simpa using z
      rcases hw with ⟨hw, ev⟩ | ⟨ev, _⟩
      · subst ev
        exact ⟨_, rfl, r5, _, _, _, rfl, rfl, SqT.of hr5, at_of (j := 0) rfl rfl, by show 1 ≤ sizeLine; decide, fun q nq => k.now sess (es hw) sH5 nq rfl⟩
      · omega
    have z1 : ¬ v < 0 := by simpa using z
    rcases hw with ⟨_, ev⟩ | ⟨ev, m, L5, hw, hg5, lL5, eqv⟩
    · omega
    have es1 := es hw
    obtain ⟨ls, hl1, hl2⟩ := id hL5
    have lenL := hl2.length
    refine ⟨_, rfl, r, _, _, _, rfl, rfl, SqT.of (s5 _ _ (s4 _ _ hr3)), at_of (j := 1) rfl rfl, g3, rfl, ⟨_, SqL.of hl1⟩, ?_⟩
    refine for_list (K := K) (a := g3) (xs := ls.map V.ref) (fun i σ H' => ∃ v5, σ = [some (.ref a), some (.ref t), some (.ref g), some (.ref r), some (.ref r5), v5] ∧ Same H5 H' ∧ (L.take i).all (Kcx0.has m) = true) ⟨none, rfl, Same.refl H5, rfl⟩
      (fun i σ H' _ ⟨_, _, s6, _⟩ => s6.seq (SqL.of hl1)) ?_ ?_
    · rintro i yy σ H6 hi ⟨v5, rfl, s6, hall⟩
      obtain ⟨d, hd, rfl⟩ := map_get hi
      obtain ⟨x7, ex7, tx7⟩ := hl2.get hd
      have lx7 : x7.length = ab.n := lL x7 (List.mem_of_getElem? ex7)
      refine ⟨_, rfl, _, rfl, r5, _, _, _, rfl, rfl, SqT.of (s6 _ _ hr5), at_of (j := 1) rfl rfl, d, g5, x7, L5, rfl, SqT.of (s6 _ _ tx7), hg5.same s6, fun b hb => by rw [lx7]; exact lL5 b hb, fun H7 s7 => ?_⟩
      rw [eqv x7 lx7]
      refine ⟨_, rfl, ite2 (fun z2 => ?_) (fun z2 => ?_)⟩
      · have z3 : Kcx0.has m x7 = false := by simpa using z2
        have e0 : L.all (Kcx0.has m) = false := by
          rw [List.all_eq_false]
          exact ⟨x7, List.mem_of_getElem? ex7, by rw [z3]; simp⟩
        refine ⟨by show 1 ≤ sizeLine; decide, fun q nq => k.now sess es1 ((sH5.trans s6).trans s7) nq ?_⟩
        dsimp only
        rw [e0]; rfl
      · have z3 : Kcx0.has m x7 = true := by simpa using z2
        exact ⟨_, rfl, s6.trans s7, by rw [take_more ex7, List.all_append, hall]; simp [z3]⟩
    · rintro σ H6 ⟨v5, rfl, s6, hall⟩
      rw [List.length_map, lenL, List.take_length] at hall
      refine ⟨by show 1 ≤ sizeLine; decide, fun q nq => k.now sess es1 (sH5.trans s6) nq ?_⟩
      dsimp only
      rw [hall]; rfl
/-! keeps -/
def spKeeps (S C : Addr) : Sp := fun vs H Q _ => ∃ (a l t : Addr) (ab : Kcx0.Abs) (ws : List Int), vs = [.ref a, .ref t] ∧ SessAt S C H a l ab ∧ H t = some (.lst (ws.map V.int)) ∧ Tells S C H Q a l ab (.keeps ws)
theorem scKeeps : FnScope ["self", "weights", "step"] ["self", "weights"] (defScope (inS 10)) := ⟨rfl, rfl, rfl, by decide +kernel, rfl, by decide +kernel, by decide +kernel⟩
theorem ok_keeps {f : Addr} {fd : FuncData} (F : Fun K "keeps" "Session.keeps" (inS 10) f fd) (T0 : Txt K mg) (T : TxtSe K mg S C fB fW fL fSt fAB fo) (TS : TxtS K mg C fh fw) (GF : MethOk P w K mg base 1 S "fits" fF ["self", "row", "most"] (spFits S))
    (GK : MethOk P w K mg base 2 C "keeps_sum" fKS ["self", "weights"] (spKeepsSum C)) : FnOk P w K mg base CX0 3 f fd ["self", "weights"] (spKeeps S C) := by
  obtain ⟨fdf, Gf, bf⟩ := GF.ex
  obtain ⟨fdk, Gk, bk⟩ := GK.ex
  refine F.ok scKeeps (fun vs H Q E h => ?_) (fun cdv A outer s0 H vs Q E hr h => ?_)
  · obtain ⟨a, l, t, _, _, rfl, _⟩ := h
    rfl
  · obtain ⟨a, l, t, ab, ws, rfl, sess, ht, k⟩ := h
    have hr1 := hr.mono (show 1 ≤ 2 by decide)
    obtain ⟨⟨dx, ha⟩, ⟨as, hl, hst⟩, ok⟩ := id sess
    have n0 : (0 : Int) < (ab.n : Int) := by have := ok.n1; omega
    refine ⟨_, pss_cons (ps_if (pt_or2 (pt_not (pt_val (pe_meth (pv 0) T.cl GF.mt Gf hr1 bf .nil pass0 (pa_cons (pv 1) (pa_cons (pe_num rfl T.mWeight) pa_nil)))))
        (pt_cmpR op_lt (pe_callB (cr_min rfl) (by rfl) T0.min PyProof.Rows.boot_min (pa_cons (pv 1) pa_nil)) (pe_un un_neg (pe_num rfl T.mWeight)) (nomark _))) (pss_one (ps_ret (pe_lst (pa_cons (pe_num rfl T.wrong) pa_nil)))) pss_nil)
      (pss_cons (ps_for PassesOwn.never rfl (pi_list (pe_fld (pv 0) rfl)) (pg_name (i := 2) scKeeps.nd rfl (Or.inl rfl))
        (pss_one (ps_if (pt_not (pt_val (pe_meth (pv 2) TS.cl GK.mt Gk hr bk .nil pass0 (pa_cons (pv 1) pa_nil)))) (pss_one (ps_ret (pe_lst (pa_cons pe_int pa_nil)))) pss_nil)))
      (pss_one (ps_ret (pe_lst (pa_cons pe_int pa_nil))))), ?_⟩
    have bad : (ws.length ≠ ab.n ∨ ws.any (fun x => decide (1000 < x) || decide (x < -1000)) = true) → Kcx0.step ab (.keeps ws) = (ab, .num (-22)) := fun hb => by unfold Kcx0.step; dsimp only; rw [if_pos hb]
    refine ⟨_, rfl, a, dx, _, rfl, ha, sF_no _ _ (by decide +kernel) (by decide +kernel), _, rfl, a, dx, l, t, ab.n, 1000, ws, rfl, ha, ht, n0, _, rfl, ite2 (fun c => ?_) (fun c => ?_)⟩
    · refine iteT ?_
      have c1 : fitsB ab.n 1000 ws = false := by simpa using c
      refine ⟨by show 1 ≤ sizeLine; decide, fun r nr => k.now sess (bad ?_) (Same.refl H) nr rfl⟩
      unfold fitsB at c1
      rw [Bool.and_eq_false_iff] at c1
      rcases c1 with c1 | c1
      · exact .inl fun z => (of_decide_eq_false c1) (by rw [z])
      · obtain ⟨x, hx, hx2⟩ := List.all_eq_false.mp c1
        refine .inr (List.any_eq_true.mpr ⟨x, hx, ?_⟩)
        have : ¬ x ≤ 1000 := by simpa using hx2
        simp
        omega
    have c1 : fitsB ab.n 1000 ws = true := by simpa using c
    unfold fitsB at c1
    rw [Bool.and_eq_true, List.all_eq_true] at c1
    have lw : ws.length = ab.n := by have := of_decide_eq_true c1.1; omega
    refine ⟨_, rfl, t, ws, rfl, SqL.of ht, by have := ok.n1; omega, fun mn hm hall => ?_⟩
    refine ⟨_, rfl, _, _, rfl, rfl, _, rfl, ite2 (fun d => ?_) (fun d => ?_)⟩
    · have d1 : mn < -1000 := by simpa using d
      refine ⟨by show 1 ≤ sizeLine; decide, fun r nr => k.now sess (bad (.inr (List.any_eq_true.mpr ⟨mn, hm, ?_⟩))) (Same.refl H) nr rfl⟩
      simp
      omega
    have d1 : ¬ mn < -1000 := by simpa using d
    have good : Kcx0.step ab (.keeps ws) = (ab, .num (if ab.steps.all (fun p => Kcx0.dot ws p.takes == Kcx0.dot ws p.gives) then 1 else 0)) := by
      unfold Kcx0.step
      dsimp only
      rw [if_neg]
      rintro (z | z)
      · exact z lw
      · obtain ⟨x, hx, hx2⟩ := List.any_eq_true.mp z
        have h1 : x ≤ 1000 := by simpa using c1.2 x hx
        have h2 := hall x hx
        simp at hx2
        omega
    have lenS := hst.length
    refine ⟨_, rfl, a, S, dx, _, _, rfl, ha, T.cl, T.nS, sF_steps _ _, l, rfl, ⟨_, SqL.of hl⟩, ?_⟩
    refine for_list (K := K) (a := l) (xs := as.map V.ref) (fun i σ H' => ∃ v2, σ = [some (.ref a), some (.ref t), v2] ∧ Same H H' ∧ (ab.steps.take i).all (fun p => Kcx0.dot ws p.takes == Kcx0.dot ws p.gives) = true) ⟨none, rfl, Same.refl H, rfl⟩
      (fun i σ H' _ ⟨_, _, s1, _⟩ => s1.seq (SqL.of hl)) ?_ ?_
    · rintro i y σ H1 hi ⟨v2, rfl, s1, hal⟩
      obtain ⟨x, hx, rfl⟩ := map_get hi
      obtain ⟨p, ep, hp⟩ := hst.get hx
      have hpm := List.mem_of_getElem? ep
      have hp1 := hp.same s1
      obtain ⟨dp, tp, gp, e1, e2, e3⟩ := id hp1
      have sm := ok.small p hpm
      refine ⟨_, rfl, x, dp, _, rfl, e1, stepF_no _ _ (by decide +kernel) (by decide +kernel), _, rfl, x, t, p, ws, rfl, hp1, s1 _ _ ht, by rw [lw]; exact ok.steps p hpm, by have := ok.n6; omega, fun z hz => by have := sm.1 z hz; omega, fun z hz => by have := sm.2 z hz; omega, fun H2 s2 => ?_⟩
      refine ⟨_, rfl, ite2 (fun z => ?_) (fun z => ?_)⟩
      · have z1 : (Kcx0.dot ws p.takes == Kcx0.dot ws p.gives) = false := by simpa using z
        have e0 : ab.steps.all (fun p => Kcx0.dot ws p.takes == Kcx0.dot ws p.gives) = false := by
          rw [List.all_eq_false]
          exact ⟨p, hpm, by rw [z1]; simp⟩
        refine ⟨by show 1 ≤ sizeLine; decide, fun q nq => k.now sess good (s1.trans s2) nq ?_⟩
        rw [e0]; rfl
      · have z1 : (Kcx0.dot ws p.takes == Kcx0.dot ws p.gives) = true := by simpa using z
        exact ⟨_, rfl, s1.trans s2, by rw [take_more ep, List.all_append, hal]; simp only [List.all_cons, List.all_nil, z1, Bool.and_self]⟩
    · rintro σ H1 ⟨v2, rfl, s1, hal⟩
      rw [List.length_map, lenS, List.take_length] at hal
      refine ⟨by show 1 ≤ sizeLine; decide, fun q nq => k.now sess good s1 nq ?_⟩
      rw [hal]; rfl
end
end SR
end
section
set_option Elab.async false
set_option linter.all false
set_option maxRecDepth 100000
set_option maxHeartbeats 4000000
namespace SR
open PySem PySem.Spec PyProof.Rows L2
open Kcx0 (State Step_ within can_ done before)
/-! ### the class Reader -/
def dF (a : Addr) (p : Nat) : List (Str × V) := putF "place" (.int (p : Nat)) (putF "numbers" (.ref a) [])
theorem dF_eq (a : Addr) (p : Nat) : dF a p = ([(("numbers" : Str), V.ref a), (("place" : Str), V.int (p : Nat))] : List (Str × V)) := by
  unfold dF
  simp only [putF]
  rw [if_neg (by decide +kernel)]
theorem dF_numbers (a : Addr) (p : Nat) : (dF a p).lookup ("numbers" : Str) = some (.ref a) := by
  unfold dF
  rw [lookup_putF, if_neg (by decide +kernel), lookup_putF, if_pos rfl]
theorem dF_place (a : Addr) (p : Nat) : (dF a p).lookup ("place" : Str) = some (.int (p : Nat)) := by
  unfold dF
  rw [lookup_putF, if_pos rfl]
theorem dF_no (a : Addr) (p : Nat) {m : Str} (h1 : ¬ m = "numbers") (h2 : ¬ m = "place") : (dF a p).lookup m = none := by
  unfold dF
  rw [lookup_putF, if_neg h2, lookup_putF, if_neg h1]
  rfl
theorem dF_put (a : Addr) (p q : Nat) : putF "place" (.int (q : Nat)) (dF a p) = dF a q := by
  rw [dF_eq, dF_eq]
  simp only [putF]
  rw [if_neg (by decide +kernel), if_pos True.intro]
structure TxtRd (K : PySem.W.Frag) (D : Addr) : Prop where
  cl : Cls K D
  nN : NoAttr K D "numbers"
  nP : NoAttr K D "place"
abbrev inR (i : Nat) : Stmt := inClass (top 36) i
section
variable {P : Program} {w : World} {K : PySem.W.Frag} {mg : Str → Option Value} {base : Heap} {S C D fN : Addr}
def spRdInit (D : Addr) : Sp := fun vs H Q _ => ∃ (p dx a : Addr), vs = [.ref p, .ref a] ∧ H p = some (.ins D dx []) ∧ ∀ H' : Hp, H' p = some (.ins D dx (dF a 0)) → But p H H' → Q .non H'
theorem scRdInit : FnScope ["self", "numbers"] ["self", "numbers"] (defScope (inR 0)) := ⟨rfl, rfl, rfl, by decide +kernel, rfl, by decide +kernel, by decide +kernel⟩
theorem ok_rdInit {f : Addr} {fd : FuncData} (F : Fun K "__init__" "Reader.__init__" (inR 0) f fd) (T : TxtRd K D) : FnOk P w K mg base CX0 1 f fd ["self", "numbers"] (spRdInit D) := by
  refine F.ok scRdInit (fun vs H Q E h => ?_) (fun cdv A outer s H vs Q E hr h => ?_)
  · obtain ⟨p, dx, a, rfl, _⟩ := h
    rfl
  · obtain ⟨p, dx, a, rfl, hp, k⟩ := h
    refine ⟨_, pss_cons (ps_fld (pv 0) (pv 1) rfl) (pss_one (ps_fld (pv 0) pe_int rfl)), ?_⟩
    refine ⟨_, rfl, _, rfl, p, D, dx, [], rfl, hp, T.cl, T.nN, (by show 0 < 1000; decide), ?_⟩
    refine ⟨_, rfl, p, D, dx, _, rfl, upd_same, T.cl, T.nP, (by show 1 < 1000; decide), ?_⟩
    exact k _ upd_same (But.refl p H).put.put
def spThrough (D : Addr) (K : PySem.W.Frag) : Sp := fun vs H Q _ => ∃ (x dx a : Addr) (ns : List Int) (p : Nat), vs = [.ref x] ∧ H x = some (.ins D dx (dF a p)) ∧ SqL K H a (ns.map V.int) ∧ Q (.bl (decide (ns.length ≤ p))) H
theorem scThrough : FnScope ["self"] ["self"] (defScope (inR 1)) := ⟨rfl, rfl, rfl, by decide +kernel, rfl, by decide +kernel, by decide +kernel⟩
theorem ok_through {f : Addr} {fd : FuncData} (F : Fun K "is_through" "Reader.is_through" (inR 1) f fd) (T0 : Txt K mg) (T : TxtRd K D) : FnOk P w K mg base CX0 1 f fd ["self"] (spThrough D K) := by
  refine F.ok scThrough (fun vs H Q E h => ?_) (fun cdv A outer s H vs Q E hr h => ?_)
  · obtain ⟨x, dx, a, _, _, rfl, _⟩ := h
    rfl
  · obtain ⟨x, dx, a, ns, p, rfl, hx, ha, k⟩ := h
    refine ⟨_, pss_one (ps_ret (pe_cmp (pc_ge (pe_fld (pv 0) rfl) (pe_callB call_len_seq (by rfl) T0.len PySem.boot_len (pa_cons (pe_fld (pv 0) rfl) pa_nil))))), ?_⟩
    refine ⟨_, rfl, x, D, dx, _, _, rfl, hx, T.cl, T.nP, dF_place _ _, _, rfl, x, D, dx, _, _, rfl, hx, T.cl, T.nN, dF_numbers _ _, a, _, rfl, .inl ha, _, _, rfl, rfl, ?_⟩
    have e : decide (ns.length ≤ p) = decide ((((ns.map V.int).length : Nat) : Int) ≤ (p : Int)) := by
      rw [List.length_map, decide_eq_decide]
      omega
    rw [e] at k
    exact k
def spNumber (D : Addr) (K : PySem.W.Frag) : Sp := fun vs H Q _ => ∃ (x dx a : Addr) (ns : List Int) (p : Nat) (v : Int), vs = [.ref x] ∧ H x = some (.ins D dx (dF a p)) ∧ SqL K H a (ns.map V.int) ∧ ns[p]? = some v ∧ ∀ H' : Hp, H' x = some (.ins D dx (dF a (p + 1))) → But x H H' → Q (.int v) H'
theorem scNumber : FnScope ["self", "number"] ["self"] (defScope (inR 2)) := ⟨rfl, rfl, rfl, by decide +kernel, rfl, by decide +kernel, by decide +kernel⟩
theorem ok_number {f : Addr} {fd : FuncData} (F : Fun K "read_number" "Reader.read_number" (inR 2) f fd) (T : TxtRd K D) : FnOk P w K mg base CX0 1 f fd ["self"] (spNumber D K) := by
  refine F.ok scNumber (fun vs H Q E h => ?_) (fun cdv A outer s H vs Q E hr h => ?_)
  · obtain ⟨x, dx, a, _, _, _, rfl, _⟩ := h
    rfl
  · obtain ⟨x, dx, a, ns, p, v, rfl, hx, ha, hv, k⟩ := h
    refine ⟨_, pss_cons (ps_set (i := 1) scNumber.nd rfl (Or.inl rfl) (pe_ix ix_list (pe_fld (pv 0) rfl) (pe_fld (pv 0) rfl) (fun _ _ => rfl)))
      (pss_cons (ps_fld (pv 0) (pe_op op_add (pe_fld (pv 0) rfl) pe_int) rfl) (pss_one (ps_ret (pv 1)))), ?_⟩
    refine ⟨_, rfl, x, D, dx, _, _, rfl, hx, T.cl, T.nN, dF_numbers _ _, _, rfl, x, D, dx, _, _, rfl, hx, T.cl, T.nP, dF_place _ _, a, _, _, _, rfl, rfl, ha, at_of (j := p) (v := V.int v) rfl (by rw [List.getElem?_map, hv]; rfl), ?_⟩
    refine ⟨_, rfl, x, D, dx, _, _, rfl, hx, T.cl, T.nP, dF_place _ _, _, _, rfl, rfl, _, rfl, x, D, dx, _, rfl, hx, T.cl, T.nP, (by rw [dF_eq]; show 2 < 1000; decide), ?_⟩
    have e : putF "place" (V.int ((p : Int) + 1)) (dF a p) = dF a (p + 1) := dF_put a p (p + 1)
    rw [e]
    exact ⟨_, rfl, k _ upd_same (But.refl x H).put⟩
def spRow (D : Addr) (K : PySem.W.Frag) : Sp := fun vs H Q _ => ∃ (x dx a : Addr) (ns : List Int) (p : Nat) (xs t : List Int), vs = [.ref x] ∧ H x = some (.ins D dx (dF a p)) ∧ SqL K H a (ns.map V.int) ∧ ns.length ≤ 30000 ∧ PyFlat.row (ns.drop p) = some (xs, t) ∧
  ∀ (H' : Hp) (r : Addr) (q : Nat), H' x = some (.ins D dx (dF a q)) → ns.drop q = t → H r = none → H' r = some (.lst (xs.map V.int)) → But x H H' → Q (.ref r) H'
theorem scRow : FnScope ["self", "length", "row"] ["self"] (defScope (inR 3)) := ⟨rfl, rfl, rfl, by decide +kernel, rfl, by decide +kernel, by decide +kernel⟩
theorem row_inv {l xs t : List Int} (h : PyFlat.row l = some (xs, t)) : ∃ (m : Nat) (r : List Int), l = (m : Int) :: r ∧ m ≤ r.length ∧ xs = r.take m ∧ t = r.drop m := by
  cases l with
  | nil => cases h
  | cons n r =>
    unfold PyFlat.row at h
    dsimp only at h
    by_cases c : 0 ≤ n ∧ n.toNat ≤ r.length
    · rw [if_pos c] at h
      cases h
      exact ⟨n.toNat, r, by rw [Int.toNat_of_nonneg c.1], c.2, rfl, rfl⟩
    · rw [if_neg c] at h
      cases h
theorem ok_row {f : Addr} {fd : FuncData} (F : Fun K "read_row" "Reader.read_row" (inR 3) f fd) (T : TxtRd K D) (GN : MethOk P w K mg base 1 D "read_number" fN ["self"] (spNumber D K)) : FnOk P w K mg base CX0 2 f fd ["self"] (spRow D K) := by
  obtain ⟨fdn, Gn, bn⟩ := GN.ex
  refine F.ok scRow (fun vs H Q E h => ?_) (fun cdv A outer s H vs Q E hr h => ?_)
  · obtain ⟨x, dx, a, _, _, _, _, rfl, _⟩ := h
    rfl
  · obtain ⟨x, dx, a, ns, p, xs, t, rfl, hx, ha, h30, hrow, k⟩ := h
    obtain ⟨m, r, el, hm, exs, et⟩ := row_inv hrow
    have hp : p < ns.length := by
      rcases Nat.lt_or_ge p ns.length with z | z
      · exact z
      · rw [List.drop_eq_nil_of_le z] at el; cases el
    have hv : ns[p]? = some (m : Int) := by
      have := List.getElem?_drop (xs := ns) (i := p) (j := 0)
      rw [el, Nat.add_zero] at this
      exact this.symm
    have hr1 : ns.drop (p + 1) = r := by
      have : (ns.drop p).drop 1 = ns.drop (p + 1) := by rw [List.drop_drop]
      rw [← this, el]; rfl
    refine ⟨_, pss_cons (ps_set (i := 1) scRow.nd rfl (Or.inl rfl) (pe_meth0 (pv 0) T.cl GN.mt Gn hr bn .nil pass0))
      (pss_cons (ps_set (i := 2) scRow.nd rfl (Or.inl rfl) (pe_slice sl_list (pe_fld (pv 0) rfl) (po_some (pe_fld (pv 0) rfl)) (po_some (pe_op op_add (pe_fld (pv 0) rfl) (pv 1)))))
      (pss_cons (ps_fld (pv 0) (pe_op op_add (pe_fld (pv 0) rfl) (pv 1)) rfl) (pss_one (ps_ret (pv 2))))), ?_⟩
    refine ⟨_, rfl, x, dx, _, rfl, hx, dF_no _ _ (by decide +kernel) (by decide +kernel), x, dx, a, ns, p, m, rfl, hx, ha, hv, fun H1 hx1 B1 => ?_⟩
    have ha1 : SqL K H1 a (ns.map V.int) := by
      rcases ha with (h | ⟨o, h⟩) | h
      · exact .inl (.inl (B1 _ _ h (ne_of h hx (fun z => nomatch z))))
      · exact .inl (.inr ⟨o, B1 _ _ h (ne_of h hx (fun z => nomatch z))⟩)
      · exact .inr h
    refine ⟨_, rfl, x, D, dx, _, _, rfl, hx1, T.cl, T.nN, dF_numbers _ _, _, rfl, x, D, dx, _, _, rfl, hx1, T.cl, T.nP, dF_place _ _, _, rfl, _, rfl, x, D, dx, _, _, rfl, hx1, T.cl, T.nP, dF_place _ _, _, rfl, _, _, rfl, rfl, _, rfl, a, _, rfl, ha1, fun q nq => ?_⟩
    have hlen : ns.length = p + 1 + r.length := by
      have := congrArg List.length hr1
      rw [List.length_drop] at this
      omega
    have cut : cutV (ns.map V.int) (some ((p + 1 : Nat) : Int)) (some (((p + 1 : Nat) : Int) + (m : Int))) = xs.map V.int := by
      unfold cutV
      rw [show (((p + 1 : Nat) : Int) + (m : Int)) = ((p + 1 + m : Nat) : Int) by omega, HT.sIx_nat, HT.sIx_nat, List.length_map, exs, ← hr1, List.map_take, List.map_drop]
      congr 1
      · omega
      · congr 1; omega
    have e1 : upd H1 q (.lst (cutV (ns.map V.int) (some ((p + 1 : Nat) : Int)) (some (((p + 1 : Nat) : Int) + (m : Int))))) = upd H1 q (.lst (xs.map V.int)) := by rw [cut]
    rw [e1]
    have s2 := Same.upd (o := .lst (xs.map V.int)) nq
    have hx2 := s2 _ _ hx1
    refine ⟨_, rfl, x, D, dx, _, _, rfl, hx2, T.cl, T.nP, dF_place _ _, _, rfl, _, _, rfl, rfl, _, rfl, x, D, dx, _, rfl, hx2, T.cl, T.nP, (by rw [dF_eq]; show 2 < 1000; decide), ?_⟩
    have e2 : putF "place" (V.int (((p + 1 : Nat) : Int) + (m : Int))) (dF a (p + 1)) = dF a (p + 1 + m) := dF_put a (p + 1) (p + 1 + m)
    rw [e2]
    have nqx : q ≠ x := fun z => by rw [z, hx1] at nq; cases nq
    refine ⟨_, rfl, k _ q (p + 1 + m) upd_same ?_ ?_ ?_ ?_⟩
    · rw [et, ← hr1, List.drop_drop]
    · cases z : H q with
      | none => rfl
      | some o => rw [B1 q o z nqx] at nq; cases nq
    · rw [upd_ne nqx]; exact upd_same
    · exact (B1.same s2).put
end
end SR
end
section
set_option Elab.async false
set_option linter.all false
set_option maxRecDepth 100000
set_option maxHeartbeats 4000000
namespace SR
open PySem PySem.Spec PyProof.Rows L2
open Kcx0 (State Step_ within can_ done before)
theorem stepF_dF (t g a : Addr) (p : Nat) : stepF t g ≠ dF a p := fun e => by
  have h1 := stepF_takes t g
  rw [e, dF_no _ _ (by decide +kernel) (by decide +kernel)] at h1
  cases h1
theorem But.free {x r : Addr} {H H' : Hp} {o : HO} (B : But x H H') (hx : H' x = some o) (nr : H' r = none) : H r = none := by
  cases q : H r with
  | none => rfl
  | some o' =>
    by_cases e : r = x
    · rw [e, hx] at nr; cases nr
    · rw [B r o' q e] at nr; cases nr
theorem Stps.but {C D x dx a : Addr} {p : Nat} {H H' : Hp} {as : List Addr} {ps : List Step_} (h : Stps C H as ps) (B : But x H H') (hx : H x = some (.ins D dx (dF a p))) : Stps C H' as ps := by
  induction h with
  | nil => exact .nil
  | cons h _ ih =>
    obtain ⟨dq, tq, gq, a1, a2, a3⟩ := h
    refine .cons ⟨dq, tq, gq, B _ _ a1 (ne_of a1 hx fun z => ?_), B _ _ a2 (ne_of a2 hx (fun z => nomatch z)), B _ _ a3 (ne_of a3 hx (fun z => nomatch z))⟩ ih
    exact stepF_dF _ _ _ _ (HO.ins.inj z).2.2
theorem SessAt.but {S C D x dx a se l : Addr} {p : Nat} {H H' : Hp} {ab : Kcx0.Abs} (h : SessAt S C H se l ab) (B : But x H H') (hx : H x = some (.ins D dx (dF a p))) (n : se ≠ x) : SessAt S C H' se l ab := by
  obtain ⟨⟨ds, h1⟩, ⟨as, h2, h3⟩, h4⟩ := h
  exact ⟨⟨ds, B _ _ h1 n⟩, ⟨as, B _ _ h2 (ne_of h2 hx (fun z => nomatch z)), h3.but B hx⟩, h4⟩
theorem sql_but {K : PySem.W.Frag} {D x dx a a' : Addr} {p : Nat} {H H' : Hp} {xs : List V} (h : SqL K H a' xs) (B : But x H H') (hx : H x = some (.ins D dx (dF a p))) : SqL K H' a' xs := by
  rcases h with (h | ⟨o, h⟩) | h
  · exact .inl (.inl (B _ _ h (ne_of h hx (fun z => nomatch z))))
  · exact .inl (.inr ⟨o, B _ _ h (ne_of h hx (fun z => nomatch z))⟩)
  · exact .inr h
section
variable {P : Program} {w : World} {K : PySem.W.Frag} {mg : Str → Option Value} {base : Heap} {S C D fB fW fL fSt fAB fo fR fN fM : Addr}
/-- what is promised behind a call -/
def Answered (S C D : Addr) (H : Hp) (Q : VK) (se x dx a l : Addr) (ns : List Int) (t : List Int) (y : Kcx0.Abs × Kcx0.Ans) : Prop :=
  ∀ (H' : Hp) (r l' : Addr) (q : Nat), H r = none → H' r = some (.lst ((Kcx0Neutral.tell y.2).map V.int)) → H' x = some (.ins D dx (dF a q)) → ns.drop q = t → SessAt S C H' se l' y.1 → (l' = l ∨ H l' = none) →
    (∀ b o, H b = some o → b ≠ se → b ≠ x → b ≠ l → H' b = some o) → Q (.ref r) H'
/-- from what is promised behind the rows to what is promised of the session -/
theorem Answered.tells {H H2 : Hp} {Q : VK} {se x dx a l : Addr} {ns t : List Int} {q : Nat} {ab : Kcx0.Abs} {call : Kcx0.Call} (k : Answered S C D H Q se x dx a l ns t (Kcx0.step ab call)) (B : But x H H2) (hx2 : H2 x = some (.ins D dx (dF a q))) (hq : ns.drop q = t) (nsx : se ≠ x) (hl2 : ∃ as, H2 l = some (.lst as)) : Tells S C H2 Q se l ab call := by
  intro H3 r nr hr3 ⟨l', hl', s3, fr⟩
  obtain ⟨as, hl2⟩ := hl2
  have nxl : x ≠ l := ne_of hx2 hl2 (fun z => nomatch z)
  refine k H3 r l' q (B.free hx2 nr) hr3 (fr _ _ hx2 (Ne.symm nsx) nxl) hq s3 ?_ fun b o e n1 n2 n3 => fr _ _ (B _ _ e n2) n1 n3
  rcases hl' with z | z
  · exact .inl z
  · exact .inr (B.free hx2 z)
def spA2 (S C D : Addr) (K : PySem.W.Frag) (mk : State → State → Kcx0.Call) : Sp := fun vs H Q _ => ∃ (se x dx a l : Addr) (ns : List Int) (p : Nat) (ab : Kcx0.Abs) (xs ys : State) (s1 t : List Int), vs = [.ref se, .ref x] ∧ H x = some (.ins D dx (dF a p)) ∧ SqL K H a (ns.map V.int) ∧ ns.length ≤ 30000 ∧ SessAt S C H se l ab ∧ se ≠ x ∧
  PyFlat.row (ns.drop p) = some (zi xs, s1) ∧ PyFlat.row s1 = some (zi ys, t) ∧ Answered S C D H Q se x dx a l ns t (Kcx0.step ab (mk xs ys))
theorem read2 {m : Str} {sp : Sp} {mk : State → State → Kcx0.Call} (hm1 : ¬ m = "steps") (hm2 : ¬ m = "stocks")
    (hsp : ∀ (a l t g : Addr) (ab : Kcx0.Abs) (s u : State) (H : Hp) (Q : VK), SessAt S C H a l ab → H t = some (.lst (iv s)) → H g = some (.lst (iv u)) → Tells S C H Q a l ab (mk s u) → sp [.ref a, .ref t, .ref g] H Q E0)
    {vs : List V} {H : Hp} {Q : VK} {E : XK} {nx : L2.St → Hp → Prop} {N : List Str} (hN : N.length = 4) (h : spA2 S C D K mk vs H Q E) :
    tSeq (tAsg (tMeth D "read_row" (spRow D K) [] E0 (tVar 1) tNil) (gName 2)) (tSeq (tAsg (tMeth D "read_row" (spRow D K) [] E0 (tVar 1) tNil) (gName 3)) (tRet (tMeth S m sp [] E0 (tVar 0) (tCons (tVar 2) (tCons (tVar 3) tNil))))) { nx := nx, rt := Q } (L2.start N vs) H := by
  obtain ⟨se, x, dx, a, l, ns, p, ab, xs, ys, s1, t, rfl, hx, ha, h30, sess, nsx, r1, r2, k⟩ := h
  have st : L2.start N [V.ref se, V.ref x] = [some (.ref se), some (.ref x), none, none] := by unfold L2.start; rw [hN]; rfl
  rw [st]
  refine ⟨_, rfl, x, dx, _, rfl, hx, dF_no _ _ (by decide +kernel) (by decide +kernel), x, dx, a, ns, p, zi xs, s1, rfl, hx, ha, h30, r1, fun H1 y1 q1 hx1 e1 ny1 hy1 B1 => ?_⟩
  refine ⟨_, rfl, x, dx, _, rfl, hx1, dF_no _ _ (by decide +kernel) (by decide +kernel), x, dx, a, ns, q1, zi ys, t, rfl, hx1, sql_but ha B1 hx, h30, by rw [e1]; exact r2, fun H2 y2 q2 hx2 e2 ny2 hy2 B2 => ?_⟩
  have sess2 := (sess.but B1 hx nsx).but B2 hx1 nsx
  obtain ⟨⟨ds, hse⟩, ⟨as, hl, _⟩, _⟩ := id sess2
  have y12 := B2 _ _ hy1 (ne_of hy1 hx1 (fun z => nomatch z))
  refine ⟨_, rfl, se, ds, _, rfl, hse, sF_no _ _ hm1 hm2, _, rfl, _, rfl, ?_⟩
  exact hsp se l y1 y2 ab xs ys H2 Q sess2 y12 hy2 (k.tells (B1.trans B2) hx2 e2 nsx ⟨_, hl⟩)
def spA1 (S C D : Addr) (K : PySem.W.Frag) (ok : List Int → Prop) (mk : List Int → Kcx0.Call) : Sp := fun vs H Q _ => ∃ (se x dx a l : Addr) (ns : List Int) (p : Nat) (ab : Kcx0.Abs) (xs t : List Int), vs = [.ref se, .ref x] ∧ H x = some (.ins D dx (dF a p)) ∧ SqL K H a (ns.map V.int) ∧ ns.length ≤ 30000 ∧ SessAt S C H se l ab ∧ se ≠ x ∧
  PyFlat.row (ns.drop p) = some (xs, t) ∧ ok xs ∧ Answered S C D H Q se x dx a l ns t (Kcx0.step ab (mk xs))
theorem read1 {m : Str} {sp : Sp} {ok : List Int → Prop} {mk : List Int → Kcx0.Call} (hm1 : ¬ m = "steps") (hm2 : ¬ m = "stocks")
    (hsp : ∀ (a l t : Addr) (ab : Kcx0.Abs) (xs : List Int) (H : Hp) (Q : VK), ok xs → SessAt S C H a l ab → H t = some (.lst (xs.map V.int)) → Tells S C H Q a l ab (mk xs) → sp [.ref a, .ref t] H Q E0)
    {vs : List V} {H : Hp} {Q : VK} {E : XK} {nx : L2.St → Hp → Prop} {N : List Str} (hN : N.length = 3) (h : spA1 S C D K ok mk vs H Q E) :
    tSeq (tAsg (tMeth D "read_row" (spRow D K) [] E0 (tVar 1) tNil) (gName 2)) (tRet (tMeth S m sp [] E0 (tVar 0) (tCons (tVar 2) tNil))) { nx := nx, rt := Q } (L2.start N vs) H := by
  obtain ⟨se, x, dx, a, l, ns, p, ab, xs, t, rfl, hx, ha, h30, sess, nsx, r1, hok, k⟩ := h
  have st : L2.start N [V.ref se, V.ref x] = [some (.ref se), some (.ref x), none] := by unfold L2.start; rw [hN]; rfl
  rw [st]
  refine ⟨_, rfl, x, dx, _, rfl, hx, dF_no _ _ (by decide +kernel) (by decide +kernel), x, dx, a, ns, p, xs, t, rfl, hx, ha, h30, r1, fun H1 y1 q1 hx1 e1 ny1 hy1 B1 => ?_⟩
  have sess1 := sess.but B1 hx nsx
  obtain ⟨⟨ds, hse⟩, ⟨as, hl, _⟩, _⟩ := id sess1
  refine ⟨_, rfl, se, ds, _, rfl, hse, sF_no _ _ hm1 hm2, _, rfl, ?_⟩
  exact hsp se l y1 ab xs H1 Q hok sess1 hy1 (k.tells B1 hx1 e1 nsx ⟨_, hl⟩)
abbrev sA (i : Nat) : Stmt := top (37 + i)
def isNat (xs : List Int) : Prop := ∃ s : State, xs = zi s
abbrev toN (xs : List Int) : State := xs.map Int.toNat
theorem toN_zi (s : State) : toN (zi s) = s := by
  show (s.map fun (n : Nat) => (n : Int)).map Int.toNat = s
  rw [List.map_map]
  exact List.map_id' s
theorem scA1 : FnScope ["session", "reader", "takes", "gives"] ["session", "reader"] (defScope (sA 1)) := ⟨rfl, rfl, rfl, by decide +kernel, rfl, by decide +kernel, by decide +kernel⟩
theorem len2 {mk : State → State → Kcx0.Call} {vs : List V} {H : Hp} {Q : VK} {E : XK} (h : spA2 S C D K mk vs H Q E) : vs.length = (["session", "reader"] : List Str).length := by
  obtain ⟨_, _, _, _, _, _, _, _, _, _, _, _, rfl, _⟩ := h
  rfl
theorem len1 {ok : List Int → Prop} {mk : List Int → Kcx0.Call} {vs : List V} {H : Hp} {Q : VK} {E : XK} (h : spA1 S C D K ok mk vs H Q E) : vs.length = (["session", "reader"] : List Str).length := by
  obtain ⟨_, _, _, _, _, _, _, _, _, _, rfl, _⟩ := h
  rfl
theorem ok_aStep {f : Addr} {fd : FuncData} (F : Fun K "answer_step" "answer_step" (sA 1) f fd) (T : TxtSe K mg S C fB fW fL fSt fAB fo) (TD : TxtRd K D) (GR : MethOk P w K mg base 2 D "read_row" fR ["self"] (spRow D K)) (GM : MethOk P w K mg base 3 S "add_step" fM ["self", "takes", "gives"] (spAdd S C)) :
    FnOk P w K mg base CX0 8 f fd ["session", "reader"] (spA2 S C D K .step) := by
  obtain ⟨fdr, Gr, br⟩ := GR.ex
  obtain ⟨fdm, Gm, bm⟩ := GM.ex
  refine F.ok scA1 (fun vs H Q E h => len2 h) (fun cdv A outer s0 H vs Q E hr h => ?_)
  have hr2 := hr.mono (show 2 ≤ 7 by decide)
  have hr3 := hr.mono (show 3 ≤ 7 by decide)
  refine ⟨_, pss_cons (ps_set (i := 2) scA1.nd rfl (Or.inl rfl) (pe_meth0 (pv 1) TD.cl GR.mt Gr hr2 br .nil pass0)) (pss_cons (ps_set (i := 3) scA1.nd rfl (Or.inl rfl) (pe_meth0 (pv 1) TD.cl GR.mt Gr hr2 br .nil pass0))
    (pss_one (ps_ret (pe_meth (pv 0) T.cl GM.mt Gm hr3 bm .nil pass0 (pa_cons (pv 2) (pa_cons (pv 3) pa_nil)))))), ?_⟩
  exact read2 (by decide +kernel) (by decide +kernel) (fun a l t g ab s u H Q h1 h2 h3 h4 => ⟨a, l, t, g, ab, s, u, rfl, h1, h2, h3, h4⟩) rfl h
theorem scA3 : FnScope ["session", "reader", "first", "wanted"] ["session", "reader"] (defScope (sA 3)) := ⟨rfl, rfl, rfl, by decide +kernel, rfl, by decide +kernel, by decide +kernel⟩
theorem ok_aLeast {f : Addr} {fd : FuncData} (F : Fun K "answer_least" "answer_least" (sA 3) f fd) (T : TxtSe K mg S C fB fW fL fSt fAB fo) (TD : TxtRd K D) (GR : MethOk P w K mg base 2 D "read_row" fR ["self"] (spRow D K)) (GM : MethOk P w K mg base 7 S "least" fM ["self", "first", "wanted"] (spLeast S C)) :
    FnOk P w K mg base CX0 8 f fd ["session", "reader"] (spA2 S C D K .least) := by
  obtain ⟨fdr, Gr, br⟩ := GR.ex
  obtain ⟨fdm, Gm, bm⟩ := GM.ex
  refine F.ok scA3 (fun vs H Q E h => len2 h) (fun cdv A outer s0 H vs Q E hr h => ?_)
  have hr2 := hr.mono (show 2 ≤ 7 by decide)
  refine ⟨_, pss_cons (ps_set (i := 2) scA3.nd rfl (Or.inl rfl) (pe_meth0 (pv 1) TD.cl GR.mt Gr hr2 br .nil pass0)) (pss_cons (ps_set (i := 3) scA3.nd rfl (Or.inl rfl) (pe_meth0 (pv 1) TD.cl GR.mt Gr hr2 br .nil pass0))
    (pss_one (ps_ret (pe_meth (pv 0) T.cl GM.mt Gm hr bm .nil pass0 (pa_cons (pv 2) (pa_cons (pv 3) pa_nil)))))), ?_⟩
  exact read2 (by decide +kernel) (by decide +kernel) (fun a l t g ab s u H Q h1 h2 h3 h4 => ⟨a, l, t, g, ab, s, u, rfl, h1, h2, h3, h4⟩) rfl h
theorem scA4 : FnScope ["session", "reader", "first", "wanted"] ["session", "reader"] (defScope (sA 4)) := ⟨rfl, rfl, rfl, by decide +kernel, rfl, by decide +kernel, by decide +kernel⟩
theorem ok_aWay {f : Addr} {fd : FuncData} (F : Fun K "answer_way" "answer_way" (sA 4) f fd) (T : TxtSe K mg S C fB fW fL fSt fAB fo) (TD : TxtRd K D) (GR : MethOk P w K mg base 2 D "read_row" fR ["self"] (spRow D K)) (GM : MethOk P w K mg base 7 S "way" fM ["self", "first", "wanted"] (spWayC S C)) :
    FnOk P w K mg base CX0 8 f fd ["session", "reader"] (spA2 S C D K .way) := by
  obtain ⟨fdr, Gr, br⟩ := GR.ex
  obtain ⟨fdm, Gm, bm⟩ := GM.ex
  refine F.ok scA4 (fun vs H Q E h => len2 h) (fun cdv A outer s0 H vs Q E hr h => ?_)
  have hr2 := hr.mono (show 2 ≤ 7 by decide)
  refine ⟨_, pss_cons (ps_set (i := 2) scA4.nd rfl (Or.inl rfl) (pe_meth0 (pv 1) TD.cl GR.mt Gr hr2 br .nil pass0)) (pss_cons (ps_set (i := 3) scA4.nd rfl (Or.inl rfl) (pe_meth0 (pv 1) TD.cl GR.mt Gr hr2 br .nil pass0))
    (pss_one (ps_ret (pe_meth (pv 0) T.cl GM.mt Gm hr bm .nil pass0 (pa_cons (pv 2) (pa_cons (pv 3) pa_nil)))))), ?_⟩
  exact read2 (by decide +kernel) (by decide +kernel) (fun a l t g ab s u H Q h1 h2 h3 h4 => ⟨a, l, t, g, ab, s, u, rfl, h1, h2, h3, h4⟩) rfl h
theorem scA7 : FnScope ["session", "reader", "first", "wanted"] ["session", "reader"] (defScope (sA 7)) := ⟨rfl, rfl, rfl, by decide +kernel, rfl, by decide +kernel, by decide +kernel⟩
theorem ok_aAlways {f : Addr} {fd : FuncData} (F : Fun K "answer_always" "answer_always" (sA 7) f fd) (T : TxtSe K mg S C fB fW fL fSt fAB fo) (TD : TxtRd K D) (GR : MethOk P w K mg base 2 D "read_row" fR ["self"] (spRow D K)) (GM : MethOk P w K mg base 7 S "always" fM ["self", "first", "wanted"] (spAlways S C)) :
    FnOk P w K mg base CX0 8 f fd ["session", "reader"] (spA2 S C D K .always) := by
  obtain ⟨fdr, Gr, br⟩ := GR.ex
  obtain ⟨fdm, Gm, bm⟩ := GM.ex
  refine F.ok scA7 (fun vs H Q E h => len2 h) (fun cdv A outer s0 H vs Q E hr h => ?_)
  have hr2 := hr.mono (show 2 ≤ 7 by decide)
  refine ⟨_, pss_cons (ps_set (i := 2) scA7.nd rfl (Or.inl rfl) (pe_meth0 (pv 1) TD.cl GR.mt Gr hr2 br .nil pass0)) (pss_cons (ps_set (i := 3) scA7.nd rfl (Or.inl rfl) (pe_meth0 (pv 1) TD.cl GR.mt Gr hr2 br .nil pass0))
    (pss_one (ps_ret (pe_meth (pv 0) T.cl GM.mt Gm hr bm .nil pass0 (pa_cons (pv 2) (pa_cons (pv 3) pa_nil)))))), ?_⟩
  exact read2 (by decide +kernel) (by decide +kernel) (fun a l t g ab s u H Q h1 h2 h3 h4 => ⟨a, l, t, g, ab, s, u, rfl, h1, h2, h3, h4⟩) rfl h
theorem scA5 : FnScope ["session", "reader", "first"] ["session", "reader"] (defScope (sA 5)) := ⟨rfl, rfl, rfl, by decide +kernel, rfl, by decide +kernel, by decide +kernel⟩
theorem ok_aMany {f : Addr} {fd : FuncData} (F : Fun K "answer_many" "answer_many" (sA 5) f fd) (T : TxtSe K mg S C fB fW fL fSt fAB fo) (TD : TxtRd K D) (GR : MethOk P w K mg base 2 D "read_row" fR ["self"] (spRow D K)) (GM : MethOk P w K mg base 4 S "many" fM ["self", "first"] (spMany S C)) :
    FnOk P w K mg base CX0 8 f fd ["session", "reader"] (spA1 S C D K isNat fun xs => .many (toN xs)) := by
  obtain ⟨fdr, Gr, br⟩ := GR.ex
  obtain ⟨fdm, Gm, bm⟩ := GM.ex
  refine F.ok scA5 (fun vs H Q E h => len1 h) (fun cdv A outer s0 H vs Q E hr h => ?_)
  have hr2 := hr.mono (show 2 ≤ 7 by decide)
  have hr4 := hr.mono (show 4 ≤ 7 by decide)
  refine ⟨_, pss_cons (ps_set (i := 2) scA5.nd rfl (Or.inl rfl) (pe_meth0 (pv 1) TD.cl GR.mt Gr hr2 br .nil pass0)) (pss_one (ps_ret (pe_meth (pv 0) T.cl GM.mt Gm hr4 bm .nil pass0 (pa_cons (pv 2) pa_nil)))), ?_⟩
  refine read1 (by decide +kernel) (by decide +kernel) (fun a l t ab xs H Q h0 h1 h2 h4 => ?_) rfl h
  obtain ⟨s, rfl⟩ := h0
  rw [toN_zi] at h4
  exact ⟨a, l, t, ab, s, rfl, h1, h2, h4⟩
theorem scA6 : FnScope ["session", "reader", "first"] ["session", "reader"] (defScope (sA 6)) := ⟨rfl, rfl, rfl, by decide +kernel, rfl, by decide +kernel, by decide +kernel⟩
theorem ok_aStuck {f : Addr} {fd : FuncData} (F : Fun K "answer_stuck" "answer_stuck" (sA 6) f fd) (T : TxtSe K mg S C fB fW fL fSt fAB fo) (TD : TxtRd K D) (GR : MethOk P w K mg base 2 D "read_row" fR ["self"] (spRow D K)) (GM : MethOk P w K mg base 4 S "stuck" fM ["self", "first"] (spStuckC S C)) :
    FnOk P w K mg base CX0 8 f fd ["session", "reader"] (spA1 S C D K isNat fun xs => .stuck (toN xs)) := by
  obtain ⟨fdr, Gr, br⟩ := GR.ex
  obtain ⟨fdm, Gm, bm⟩ := GM.ex
  refine F.ok scA6 (fun vs H Q E h => len1 h) (fun cdv A outer s0 H vs Q E hr h => ?_)
  have hr2 := hr.mono (show 2 ≤ 7 by decide)
  have hr4 := hr.mono (show 4 ≤ 7 by decide)
  refine ⟨_, pss_cons (ps_set (i := 2) scA6.nd rfl (Or.inl rfl) (pe_meth0 (pv 1) TD.cl GR.mt Gr hr2 br .nil pass0)) (pss_one (ps_ret (pe_meth (pv 0) T.cl GM.mt Gm hr4 bm .nil pass0 (pa_cons (pv 2) pa_nil)))), ?_⟩
  refine read1 (by decide +kernel) (by decide +kernel) (fun a l t ab xs H Q h0 h1 h2 h4 => ?_) rfl h
  obtain ⟨s, rfl⟩ := h0
  rw [toN_zi] at h4
  exact ⟨a, l, t, ab, s, rfl, h1, h2, h4⟩
theorem scA8 : FnScope ["session", "reader", "weights"] ["session", "reader"] (defScope (sA 8)) := ⟨rfl, rfl, rfl, by decide +kernel, rfl, by decide +kernel, by decide +kernel⟩
theorem ok_aKeeps {f : Addr} {fd : FuncData} (F : Fun K "answer_keeps" "answer_keeps" (sA 8) f fd) (T : TxtSe K mg S C fB fW fL fSt fAB fo) (TD : TxtRd K D) (GR : MethOk P w K mg base 2 D "read_row" fR ["self"] (spRow D K)) (GM : MethOk P w K mg base 3 S "keeps" fM ["self", "weights"] (spKeeps S C)) :
    FnOk P w K mg base CX0 8 f fd ["session", "reader"] (spA1 S C D K (fun _ => True) fun xs => .keeps xs) := by
  obtain ⟨fdr, Gr, br⟩ := GR.ex
  obtain ⟨fdm, Gm, bm⟩ := GM.ex
  refine F.ok scA8 (fun vs H Q E h => len1 h) (fun cdv A outer s0 H vs Q E hr h => ?_)
  have hr2 := hr.mono (show 2 ≤ 7 by decide)
  have hr3 := hr.mono (show 3 ≤ 7 by decide)
  refine ⟨_, pss_cons (ps_set (i := 2) scA8.nd rfl (Or.inl rfl) (pe_meth0 (pv 1) TD.cl GR.mt Gr hr2 br .nil pass0)) (pss_one (ps_ret (pe_meth (pv 0) T.cl GM.mt Gm hr3 bm .nil pass0 (pa_cons (pv 2) pa_nil)))), ?_⟩
  exact read1 (by decide +kernel) (by decide +kernel) (fun a l t ab xs H Q h0 h1 h2 h4 => ⟨a, l, t, ab, xs, rfl, h1, h2, h4⟩) rfl h
/-! do -/
def spADo (S C D : Addr) (K : PySem.W.Frag) : Sp := fun vs H Q _ => ∃ (se x dx a l : Addr) (ns : List Int) (p : Nat) (ab : Kcx0.Abs) (kk : Nat) (xs : State) (t : List Int), vs = [.ref se, .ref x] ∧ H x = some (.ins D dx (dF a p)) ∧ SqL K H a (ns.map V.int) ∧ ns.length ≤ 30000 ∧ SessAt S C H se l ab ∧ se ≠ x ∧
  ns[p]? = some (kk : Int) ∧ PyFlat.row (ns.drop (p + 1)) = some (zi xs, t) ∧ Answered S C D H Q se x dx a l ns t (Kcx0.step ab (.do_ xs kk))
theorem scA2 : FnScope ["session", "reader", "number", "state"] ["session", "reader"] (defScope (sA 2)) := ⟨rfl, rfl, rfl, by decide +kernel, rfl, by decide +kernel, by decide +kernel⟩
theorem ok_aDo {f : Addr} {fd : FuncData} (F : Fun K "answer_do" "answer_do" (sA 2) f fd) (T : TxtSe K mg S C fB fW fL fSt fAB fo) (TD : TxtRd K D) (GN : MethOk P w K mg base 1 D "read_number" fN ["self"] (spNumber D K)) (GR : MethOk P w K mg base 2 D "read_row" fR ["self"] (spRow D K)) (GM : MethOk P w K mg base 3 S "do_step" fM ["self", "number", "state"] (spDo S C)) :
    FnOk P w K mg base CX0 8 f fd ["session", "reader"] (spADo S C D K) := by
  obtain ⟨fdn, Gn, bn⟩ := GN.ex
  obtain ⟨fdr, Gr, br⟩ := GR.ex
  obtain ⟨fdm, Gm, bm⟩ := GM.ex
  refine F.ok scA2 (fun vs H Q E h => ?_) (fun cdv A outer s0 H vs Q E hr h => ?_)
  · obtain ⟨_, _, _, _, _, _, _, _, _, _, _, rfl, _⟩ := h
    rfl
  have hr1 := hr.mono (show 1 ≤ 7 by decide)
  have hr2 := hr.mono (show 2 ≤ 7 by decide)
  have hr3 := hr.mono (show 3 ≤ 7 by decide)
  refine ⟨_, pss_cons (ps_set (i := 2) scA2.nd rfl (Or.inl rfl) (pe_meth0 (pv 1) TD.cl GN.mt Gn hr1 bn .nil pass0)) (pss_cons (ps_set (i := 3) scA2.nd rfl (Or.inl rfl) (pe_meth0 (pv 1) TD.cl GR.mt Gr hr2 br .nil pass0))
    (pss_one (ps_ret (pe_meth (pv 0) T.cl GM.mt Gm hr3 bm .nil pass0 (pa_cons (pv 2) (pa_cons (pv 3) pa_nil)))))), ?_⟩
  obtain ⟨se, x, dx, a, l, ns, p, ab, kk, xs, t, rfl, hx, ha, h30, sess, nsx, hk, r1, k⟩ := h
  refine ⟨_, rfl, x, dx, _, rfl, hx, dF_no _ _ (by decide +kernel) (by decide +kernel), x, dx, a, ns, p, _, rfl, hx, ha, hk, fun H1 hx1 B1 => ?_⟩
  refine ⟨_, rfl, x, dx, _, rfl, hx1, dF_no _ _ (by decide +kernel) (by decide +kernel), x, dx, a, ns, p + 1, zi xs, t, rfl, hx1, sql_but ha B1 hx, h30, r1, fun H2 y2 q2 hx2 e2 ny2 hy2 B2 => ?_⟩
  have sess2 := (sess.but B1 hx nsx).but B2 hx1 nsx
  obtain ⟨⟨ds, hse⟩, ⟨as, hl, _⟩, _⟩ := id sess2
  refine ⟨_, rfl, se, ds, _, rfl, hse, sF_no _ _ (by decide +kernel) (by decide +kernel), _, rfl, _, rfl, ?_⟩
  exact ⟨se, l, y2, ab, kk, xs, rfl, sess2, hy2, k.tells (B1.trans B2) hx2 e2 nsx ⟨_, hl⟩⟩
/-! begin -/
def spABegin (S D : Addr) (K : PySem.W.Frag) : Sp := fun vs H Q _ => ∃ (se x dx ds a l : Addr) (ns : List Int) (p : Nat) (n0 : Int) (n : Nat), vs = [.ref se, .ref x] ∧ H x = some (.ins D dx (dF a p)) ∧ SqL K H a (ns.map V.int) ∧ H se = some (.ins S ds (sF n0 l)) ∧ se ≠ x ∧ ns[p]? = some (n : Int) ∧
  (n = 0 ∨ 6 < n → ∀ (H' : Hp) (r : Addr), H r = none → H' r = some (.lst [.int (-22)]) → H' x = some (.ins D dx (dF a (p + 1))) → But x H H' → Q (.ref r) H') ∧
  (¬ (n = 0 ∨ 6 < n) → ∀ (H' : Hp) (r l' : Addr), H r = none → H' r = some (.lst [.int 0]) → H' x = some (.ins D dx (dF a (p + 1))) → H' se = some (.ins S ds (sF n l')) → H l' = none → H' l' = some (.lst []) → (∀ b o, H b = some o → b ≠ se → b ≠ x → H' b = some o) → Q (.ref r) H')
theorem scA0 : FnScope ["session", "reader", "stocks"] ["session", "reader"] (defScope (sA 0)) := ⟨rfl, rfl, rfl, by decide +kernel, rfl, by decide +kernel, by decide +kernel⟩
theorem ok_aBegin {f : Addr} {fd : FuncData} (F : Fun K "answer_begin" "answer_begin" (sA 0) f fd) (T : TxtSe K mg S C fB fW fL fSt fAB fo) (TD : TxtRd K D) (GN : MethOk P w K mg base 1 D "read_number" fN ["self"] (spNumber D K)) (GM : MethOk P w K mg base 1 S "begin" fM ["self", "stocks"] (spBegin S)) :
    FnOk P w K mg base CX0 8 f fd ["session", "reader"] (spABegin S D K) := by
  obtain ⟨fdn, Gn, bn⟩ := GN.ex
  obtain ⟨fdm, Gm, bm⟩ := GM.ex
  refine F.ok scA0 (fun vs H Q E h => ?_) (fun cdv A outer s0 H vs Q E hr h => ?_)
  · obtain ⟨_, _, _, _, _, _, _, _, _, _, rfl, _⟩ := h
    rfl
  have hr1 := hr.mono (show 1 ≤ 7 by decide)
  refine ⟨_, pss_cons (ps_set (i := 2) scA0.nd rfl (Or.inl rfl) (pe_meth0 (pv 1) TD.cl GN.mt Gn hr1 bn .nil pass0)) (pss_one (ps_ret (pe_meth (pv 0) T.cl GM.mt Gm hr1 bm .nil pass0 (pa_cons (pv 2) pa_nil)))), ?_⟩
  obtain ⟨se, x, dx, ds, a, l, ns, p, n0, n, rfl, hx, ha, hse, nsx, hv, k1, k2⟩ := h
  refine ⟨_, rfl, x, dx, _, rfl, hx, dF_no _ _ (by decide +kernel) (by decide +kernel), x, dx, a, ns, p, _, rfl, hx, ha, hv, fun H1 hx1 B1 => ?_⟩
  have hse1 := B1 _ _ hse nsx
  refine ⟨_, rfl, se, ds, _, rfl, hse1, sF_no _ _ (by decide +kernel) (by decide +kernel), _, rfl, se, ds, l, n0, n, rfl, hse1, fun c H2 r s2 nr hr2 => ?_, fun c H2 r l' hs2 nl hl2 B2 nr hr2 => ?_⟩
  · exact k1 c H2 r (B1.free hx1 nr) hr2 (s2 _ _ hx1) (B1.same s2)
  · exact k2 c H2 r l' (B1.free hx1 nr) hr2 (B2 _ _ hx1 (Ne.symm nsx)) hs2 (B1.free hx1 nl) hl2 fun b o e n1 n2 => B2 _ _ (B1 _ _ e n2) n1
end
end SR
end
section
set_option Elab.async false
set_option linter.all false
set_option maxRecDepth 100000
set_option maxHeartbeats 4000000
namespace SR
open PySem PySem.Spec PyProof.Rows L2
open Kcx0 (State Step_ within can_ done before)
/-! ### the list of calls, in plain Lean -/
theorem nat_row {xs : List Int} (h : (xs.all fun (z : Int) => Kcx0Neutral.natural z 32) = true) : xs = zi (toN xs) := by
  induction xs with
  | nil => rfl
  | cons x xs ih =>
    rw [List.all_cons, Bool.and_eq_true] at h
    have h0 : 0 ≤ x := by
      have := h.1
      unfold Kcx0Neutral.natural at this
      rw [Bool.and_eq_true] at this
      simpa using this.1
    show x :: xs = ((x.toNat : Nat) : Int) :: zi (toN xs)
    rw [← ih h.2, Int.toNat_of_nonneg h0]
theorem nat_of {x : Int} (h : Kcx0Neutral.natural x 32 = true) : x = ((x.toNat : Nat) : Int) := by
  unfold Kcx0Neutral.natural at h
  rw [Bool.and_eq_true] at h
  have : 0 ≤ x := by simpa using h.1
  omega
inductive CallIs (r t : List Int) : Nat → List (List Int) → Kcx0.Call → Prop
  | begin_ (n : Nat) : r = (n : Int) :: t → CallIs r t 0 [[0, (n : Int)]] (.begin_ n)
  | step (xs ys : State) (s1 : List Int) : PyFlat.row r = some (zi xs, s1) → PyFlat.row s1 = some (zi ys, t) → CallIs r t 1 [[1], zi xs, zi ys] (.step xs ys)
  | do_ (kk : Nat) (r1 : List Int) (xs : State) : r = (kk : Int) :: r1 → PyFlat.row r1 = some (zi xs, t) → CallIs r t 2 [[2, (kk : Int)], zi xs] (.do_ xs kk)
  | least (xs ys : State) (s1 : List Int) : PyFlat.row r = some (zi xs, s1) → PyFlat.row s1 = some (zi ys, t) → CallIs r t 3 [[3], zi xs, zi ys] (.least xs ys)
  | way (xs ys : State) (s1 : List Int) : PyFlat.row r = some (zi xs, s1) → PyFlat.row s1 = some (zi ys, t) → CallIs r t 4 [[4], zi xs, zi ys] (.way xs ys)
  | many (xs : State) : PyFlat.row r = some (zi xs, t) → CallIs r t 5 [[5], zi xs] (.many xs)
  | stuck (xs : State) : PyFlat.row r = some (zi xs, t) → CallIs r t 6 [[6], zi xs] (.stuck xs)
  | always (xs ys : State) (s1 : List Int) : PyFlat.row r = some (zi xs, s1) → PyFlat.row s1 = some (zi ys, t) → CallIs r t 7 [[7], zi xs, zi ys] (.always xs ys)
  | keeps (xs : List Int) : PyFlat.row r = some (xs, t) → CallIs r t 8 [[8], xs] (.keeps xs)
theorem rows0 {r t : List Int} {xs : List (List Int)} (h : PyFlat.rows 0 r = some (xs, t)) : xs = [] ∧ t = r := by
  cases h
  exact ⟨rfl, rfl⟩
theorem rowsS {k : Nat} {r t : List Int} {xs : List (List Int)} (h : PyFlat.rows (k + 1) r = some (xs, t)) : ∃ x s ys, PyFlat.row r = some (x, s) ∧ PyFlat.rows k s = some (ys, t) ∧ xs = x :: ys := by
  unfold PyFlat.rows at h
  cases e : PyFlat.row r with
  | none => rw [e] at h; cases h
  | some y =>
    obtain ⟨x, s⟩ := y
    rw [e] at h
    dsimp only at h
    cases e2 : PyFlat.rows k s with
    | none => rw [e2] at h; cases h
    | some z =>
      obtain ⟨ys, u⟩ := z
      rw [e2] at h
      cases h
      exact ⟨x, s, ys, rfl, e2, rfl⟩
theorem rows1 {r t : List Int} {xs : List (List Int)} (h : PyFlat.rows 1 r = some (xs, t)) : ∃ x, PyFlat.row r = some (x, t) ∧ xs = [x] := by
  obtain ⟨x, s, ys, h1, h2, rfl⟩ := rowsS h
  obtain ⟨rfl, rfl⟩ := rows0 h2
  exact ⟨x, h1, rfl⟩
theorem rows2 {r t : List Int} {xs : List (List Int)} (h : PyFlat.rows 2 r = some (xs, t)) : ∃ x y s, PyFlat.row r = some (x, s) ∧ PyFlat.row s = some (y, t) ∧ xs = [x, y] := by
  obtain ⟨x, s, ys, h1, h2, rfl⟩ := rowsS h
  obtain ⟨y, h3, rfl⟩ := rows1 h2
  exact ⟨x, y, s, h1, h3, rfl⟩
theorem call_at {v : Int} {r t : List Int} {c : List (List Int)} {n k : Nat} (hs : PyKcx0.shape v = some (n, k)) (h : PyFlat.call PyKcx0.shape (v :: r) = some (c, t)) : n ≤ r.length ∧ ∃ xs, PyFlat.rows k (r.drop n) = some (xs, t) ∧ c = (v :: r.take n) :: xs := by
  unfold PyFlat.call at h
  dsimp only at h
  rw [hs] at h
  dsimp only at h
  by_cases q : r.length < n
  · rw [if_pos q] at h; cases h
  · rw [if_neg q] at h
    cases e : PyFlat.rows k (r.drop n) with
    | none => rw [e] at h; cases h
    | some z =>
      obtain ⟨xs, u⟩ := z
      rw [e] at h
      cases h
      exact ⟨by omega, xs, rfl, rfl⟩
theorem shape_no {v : Int} (h : PyKcx0.shape v ≠ none) : v = 0 ∨ v = 1 ∨ v = 2 ∨ v = 3 ∨ v = 4 ∨ v = 5 ∨ v = 6 ∨ v = 7 ∨ v = 8 := by
  unfold PyKcx0.shape at h
  by_cases h0 : v = 0
  · exact .inl h0
  by_cases h1 : v = 1
  · exact .inr (.inl h1)
  by_cases h2 : v = 2
  · exact .inr (.inr (.inl h2))
  by_cases h3 : v = 3
  · exact .inr (.inr (.inr (.inl h3)))
  by_cases h4 : v = 4
  · exact .inr (.inr (.inr (.inr (.inl h4))))
  by_cases h5 : v = 5
  · exact .inr (.inr (.inr (.inr (.inr (.inl h5)))))
  by_cases h6 : v = 6
  · exact .inr (.inr (.inr (.inr (.inr (.inr (.inl h6))))))
  by_cases h7 : v = 7
  · exact .inr (.inr (.inr (.inr (.inr (.inr (.inr (.inl h7)))))))
  by_cases h8 : v = 8
  · exact .inr (.inr (.inr (.inr (.inr (.inr (.inr (.inr h8)))))))
  · rw [if_neg h0, if_neg h1, if_neg h2, if_neg h3, if_neg h4, if_neg h5, if_neg h6, if_neg h7, if_neg h8] at h
    exact absurd rfl h
theorem drop1 {r : List Int} (h : 1 ≤ r.length) : ∃ x t, r = x :: t := by
  cases r with
  | nil => cases h
  | cons x t => exact ⟨x, t, rfl⟩
theorem and_ {a b : Bool} (h : (a && b) = true) : a = true ∧ b = true := by rwa [Bool.and_eq_true] at h
theorem call_is {v : Int} {r t : List Int} {c : List (List Int)} (h : PyFlat.call PyKcx0.shape (v :: r) = some (c, t)) (ask : Kcx0Neutral.asked1 (PyKcx0.whole c) = true) :
    ∃ q : Nat, v = (q : Int) ∧ CallIs r t q (PyKcx0.whole c) (Kcx0Neutral.call (PyKcx0.whole c)) := by
  have hv : PyKcx0.shape v ≠ none := fun e => by
    unfold PyFlat.call at h
    dsimp only at h
    rw [e] at h
    cases h
  rcases shape_no hv with rfl | rfl | rfl | rfl | rfl | rfl | rfl | rfl | rfl
  · obtain ⟨h1, xs, h2, rfl⟩ := call_at (n := 1) (k := 0) rfl h
    obtain ⟨x, t1, rfl⟩ := drop1 h1
    obtain ⟨rfl, e⟩ := rows0 h2
    have e : t = t1 := e
    subst e
    have ask1 : Kcx0Neutral.natural x 32 = true := ask
    refine ⟨0, rfl, ?_⟩
    have e := nat_of ask1
    have z := CallIs.begin_ (r := x :: t) (t := t) x.toNat (by rw [← e])
    rw [← e] at z
    exact z
  · obtain ⟨h1, xs, h2, rfl⟩ := call_at (n := 0) (k := 2) rfl h
    obtain ⟨x, y, s, e1, e2, rfl⟩ := rows2 h2
    have ask1 : ((x.all fun (z : Int) => Kcx0Neutral.natural z 32) && y.all fun (z : Int) => Kcx0Neutral.natural z 32) = true := ask
    have ex := nat_row (and_ ask1).1
    have ey := nat_row (and_ ask1).2
    refine ⟨1, rfl, ?_⟩
    have z := CallIs.step (r := r) (t := t) (toN x) (toN y) s (by rw [← ex]; exact e1) (by rw [← ey]; exact e2)
    rw [← ex, ← ey] at z
    exact z
  · obtain ⟨h1, xs, h2, rfl⟩ := call_at (n := 1) (k := 1) rfl h
    obtain ⟨k, r1, rfl⟩ := drop1 h1
    obtain ⟨x, e1, rfl⟩ := rows1 h2
    have ask1 : (Kcx0Neutral.natural k 32 && x.all fun (z : Int) => Kcx0Neutral.natural z 32) = true := ask
    have ek := nat_of (and_ ask1).1
    have ex := nat_row (and_ ask1).2
    refine ⟨2, rfl, ?_⟩
    have z := CallIs.do_ (r := k :: r1) (t := t) k.toNat r1 (toN x) (by rw [← ek]) (by rw [← ex]; exact e1)
    rw [← ex, ← ek] at z
    exact z
  · obtain ⟨h1, xs, h2, rfl⟩ := call_at (n := 0) (k := 2) rfl h
    obtain ⟨x, y, s, e1, e2, rfl⟩ := rows2 h2
    have ask1 : ((x.all fun (z : Int) => Kcx0Neutral.natural z 32) && y.all fun (z : Int) => Kcx0Neutral.natural z 32) = true := ask
    have ex := nat_row (and_ ask1).1
    have ey := nat_row (and_ ask1).2
    refine ⟨3, rfl, ?_⟩
    have z := CallIs.least (r := r) (t := t) (toN x) (toN y) s (by rw [← ex]; exact e1) (by rw [← ey]; exact e2)
    rw [← ex, ← ey] at z
    exact z
  · obtain ⟨h1, xs, h2, rfl⟩ := call_at (n := 0) (k := 2) rfl h
    obtain ⟨x, y, s, e1, e2, rfl⟩ := rows2 h2
    have ask1 : ((x.all fun (z : Int) => Kcx0Neutral.natural z 32) && y.all fun (z : Int) => Kcx0Neutral.natural z 32) = true := ask
    have ex := nat_row (and_ ask1).1
    have ey := nat_row (and_ ask1).2
    refine ⟨4, rfl, ?_⟩
    have z := CallIs.way (r := r) (t := t) (toN x) (toN y) s (by rw [← ex]; exact e1) (by rw [← ey]; exact e2)
    rw [← ex, ← ey] at z
    exact z
  · obtain ⟨h1, xs, h2, rfl⟩ := call_at (n := 0) (k := 1) rfl h
    obtain ⟨x, e1, rfl⟩ := rows1 h2
    have ask1 : (x.all fun (z : Int) => Kcx0Neutral.natural z 32) = true := ask
    have ex := nat_row ask1
    refine ⟨5, rfl, ?_⟩
    have z := CallIs.many (r := r) (t := t) (toN x) (by rw [← ex]; exact e1)
    rw [← ex] at z
    exact z
  · obtain ⟨h1, xs, h2, rfl⟩ := call_at (n := 0) (k := 1) rfl h
    obtain ⟨x, e1, rfl⟩ := rows1 h2
    have ask1 : (x.all fun (z : Int) => Kcx0Neutral.natural z 32) = true := ask
    have ex := nat_row ask1
    refine ⟨6, rfl, ?_⟩
    have z := CallIs.stuck (r := r) (t := t) (toN x) (by rw [← ex]; exact e1)
    rw [← ex] at z
    exact z
  · obtain ⟨h1, xs, h2, rfl⟩ := call_at (n := 0) (k := 2) rfl h
    obtain ⟨x, y, s, e1, e2, rfl⟩ := rows2 h2
    have ask1 : ((x.all fun (z : Int) => Kcx0Neutral.natural z 32) && y.all fun (z : Int) => Kcx0Neutral.natural z 32) = true := ask
    have ex := nat_row (and_ ask1).1
    have ey := nat_row (and_ ask1).2
    refine ⟨7, rfl, ?_⟩
    have z := CallIs.always (r := r) (t := t) (toN x) (toN y) s (by rw [← ex]; exact e1) (by rw [← ey]; exact e2)
    rw [← ex, ← ey] at z
    exact z
  · obtain ⟨h1, xs, h2, rfl⟩ := call_at (n := 0) (k := 1) rfl h
    obtain ⟨x, e1, rfl⟩ := rows1 h2
    exact ⟨8, rfl, CallIs.keeps (r := r) (t := t) x e1⟩
theorem calls_nil {f : Nat} {cs : List (List (List Int))} (h : PyFlat.calls PyKcx0.shape f [] = some cs) : cs = [] := by
  unfold PyFlat.calls at h
  cases f <;> (cases h; rfl)
theorem calls_cons {f : Nat} {v : Int} {r : List Int} {cs : List (List (List Int))} (h : PyFlat.calls PyKcx0.shape f (v :: r) = some cs) :
    ∃ f' c t cs', PyFlat.call PyKcx0.shape (v :: r) = some (c, t) ∧ PyFlat.calls PyKcx0.shape f' t = some cs' ∧ cs = c :: cs' := by
  cases f with
  | zero => cases h
  | succ f =>
    unfold PyFlat.calls at h
    cases e : PyFlat.call PyKcx0.shape (v :: r) with
    | none => rw [e] at h; cases h
    | some z =>
      obtain ⟨c, t⟩ := z
      rw [e] at h
      dsimp only at h
      cases e2 : PyFlat.calls PyKcx0.shape f t with
      | none => rw [e2] at h; cases h
      | some cs' =>
        rw [e2] at h
        cases h
        exact ⟨f, c, t, cs', rfl, e2, rfl⟩
/-! begun -/
theorem begun_next {c : List (List Int)} {cs : List (List (List Int))} (h : Kcx0Neutral.begun (c :: cs) = true) (g : Kcx0Neutral.good c = false) : Kcx0Neutral.n c 0 = 0 ∧ Kcx0Neutral.begun cs = true := by
  unfold Kcx0Neutral.begun at h ⊢
  rw [List.takeWhile_cons, g] at h
  rw [if_pos (by rfl), List.all_cons, Bool.and_eq_true] at h
  exact ⟨by simpa using h.1, h.2⟩
/-! told -/
theorem told_cons (y : List Int) (l : List (List Int)) : PyFlat.told (y :: l) = ((y.length : Int) :: y) ++ PyFlat.told l := by
  unfold PyFlat.told
  rw [List.flatMap_cons]
theorem foldl_len (l : List Nat) (a : Nat) : l.foldl (fun (x y : Nat) => x + y) a = a + l.foldl (fun (x y : Nat) => x + y) 0 := by
  induction l generalizing a with
  | nil => rfl
  | cons x l ih =>
    rw [List.foldl_cons, List.foldl_cons, ih, ih (0 + x)]
    omega
theorem told_len (l : List (List Int)) : (PyFlat.told l).length = (l.map List.length).foldl (fun (x y : Nat) => x + y) 0 + l.length := by
  induction l with
  | nil => rfl
  | cons y l ih =>
    rw [told_cons, List.length_append, ih, List.map_cons, List.foldl_cons, foldl_len _ (0 + y.length), List.length_cons, List.length_cons]
    omega
theorem played_eq (s : Kcx0.Abs) (l : List (List (List Int))) : PyFlat.played Kcx0Neutral.step s l = Kcx0Neutral.answersFrom s l := by
  induction l generalizing s with
  | nil => rfl
  | cons c l ih =>
    show (Kcx0Neutral.step s c).2 :: PyFlat.played Kcx0Neutral.step (Kcx0Neutral.step s c).1 l = (Kcx0Neutral.step s c).2 :: Kcx0Neutral.answersFrom (Kcx0Neutral.step s c).1 l
    rw [ih]
theorem played_len (s : Kcx0.Abs) (l : List (List (List Int))) : (PyFlat.played Kcx0Neutral.step s l).length = l.length := by
  induction l generalizing s with
  | nil => rfl
  | cons c l ih =>
    show (PyFlat.played Kcx0Neutral.step (Kcx0Neutral.step s c).1 l).length + 1 = l.length + 1
    rw [ih]
theorem asked_all {ns : List Int} (h : PyKcx0.answers_asked ns = true) : ∃ cs, PyFlat.calls PyKcx0.shape ns.length ns = some cs ∧ (∀ c ∈ cs.map PyKcx0.whole, Kcx0Neutral.asked1 c = true) ∧ Kcx0Neutral.begun (cs.map PyKcx0.whole) = true ∧
    PyKcx0.answers ns = PyFlat.told (PyFlat.played Kcx0Neutral.step Kcx0.first (cs.map PyKcx0.whole)) ∧ (PyKcx0.answers ns).length ≤ sizeLine := by
  have hc : ∀ cs, PyFlat.calls PyKcx0.shape ns.length ns = some cs → PyKcx0.calls ns = some (cs.map PyKcx0.whole) := fun cs e => by
    unfold PyKcx0.calls
    rw [e]
  cases e : PyFlat.calls PyKcx0.shape ns.length ns with
  | none =>
    unfold PyKcx0.answers_asked PyKcx0.calls at h
    rw [e] at h
    cases h
  | some cs =>
    have ec := hc cs e
    unfold PyKcx0.answers_asked at h
    rw [ec] at h
    dsimp only at h
    unfold PyFlat.atMost Kcx0Neutral.asked at h
    rw [Bool.and_eq_true, Bool.and_eq_true, Bool.and_eq_true, Bool.and_eq_true] at h
    obtain ⟨h1, ⟨_, h2, h3⟩, h4⟩ := h
    have ea : PyKcx0.answers ns = PyFlat.told (PyFlat.played Kcx0Neutral.step Kcx0.first (cs.map PyKcx0.whole)) := by
      unfold PyKcx0.answers
      rw [ec]
      rfl
    refine ⟨cs, rfl, List.all_eq_true.mp h2, h3, ea, ?_⟩
    have h4' : ((Kcx0Neutral.answersFrom Kcx0.first (cs.map PyKcx0.whole)).map List.length).foldl (fun (x y : Nat) => x + y) 0 < 1000000 := of_decide_eq_true h4
    have h1' : (cs.map PyKcx0.whole).length ≤ 300 := of_decide_eq_true h1
    rw [ea, told_len, played_len, played_eq]
    have : sizeLine = 16777216 := rfl
    omega
end SR
end
section
set_option Elab.async false
set_option linter.all false
set_option maxRecDepth 100000
set_option maxHeartbeats 4000000
namespace SR
open PySem PySem.Spec PyProof.Rows L2
open Kcx0 (State Step_ within can_ done before)
/-- the session, also ahead of the first begin -/
def SessOr (S C : Addr) (H : Hp) (se l : Addr) (ab : Kcx0.Abs) (cs : List (List (List Int))) : Prop :=
  SessAt S C H se l ab ∨ (ab = Kcx0.first ∧ (∃ ds, H se = some (.ins S ds (sF 0 l))) ∧ Kcx0Neutral.begun cs = true)
section
variable {P : Program} {w : World} {K : PySem.W.Frag} {mg : Str → Option Value} {base : Heap} {S C D : Addr}
structure Nine (P : Program) (w : World) (K : PySem.W.Frag) (mg : Str → Option Value) (base : Heap) (S C D f0 f1 f2 f3 f4 f5 f6 f7 f8 : Addr) : Prop where
  c0 : Callee P w K mg base 8 f0 ["session", "reader"] (spABegin S D K)
  c1 : Callee P w K mg base 8 f1 ["session", "reader"] (spA2 S C D K .step)
  c2 : Callee P w K mg base 8 f2 ["session", "reader"] (spADo S C D K)
  c3 : Callee P w K mg base 8 f3 ["session", "reader"] (spA2 S C D K .least)
  c4 : Callee P w K mg base 8 f4 ["session", "reader"] (spA2 S C D K .way)
  c5 : Callee P w K mg base 8 f5 ["session", "reader"] (spA1 S C D K isNat fun xs => .many (toN xs))
  c6 : Callee P w K mg base 8 f6 ["session", "reader"] (spA1 S C D K isNat fun xs => .stuck (toN xs))
  c7 : Callee P w K mg base 8 f7 ["session", "reader"] (spA2 S C D K .always)
  c8 : Callee P w K mg base 8 f8 ["session", "reader"] (spA1 S C D K (fun _ => True) fun xs => .keeps xs)
/-- what is promised behind any call -/
def Then (S C D : Addr) (H : Hp) (Q : VK) (se x dx a l : Addr) (ns t : List Int) (y : Kcx0.Abs × Kcx0.Ans) (cs : List (List (List Int))) : Prop :=
  ∀ (H' : Hp) (r l' : Addr) (q : Nat), H r = none → H' r = some (.lst ((Kcx0Neutral.tell y.2).map V.int)) → H' x = some (.ins D dx (dF a q)) → ns.drop q = t → SessOr S C H' se l' y.1 cs → (l' = l ∨ H l' = none) →
    (∀ b o, H b = some o → b ≠ se → b ≠ x → b ≠ l → H' b = some o) → Q (.ref r) H'
theorem Then.ans {H : Hp} {Q : VK} {se x dx a l : Addr} {ns t : List Int} {y : Kcx0.Abs × Kcx0.Ans} {cs : List (List (List Int))} (k : Then S C D H Q se x dx a l ns t y cs) : Answered S C D H Q se x dx a l ns t y :=
  fun H' r l' q h1 h2 h3 h4 h5 h6 h7 => k H' r l' q h1 h2 h3 h4 (.inl h5) h6 h7
theorem begin_bad {ab : Kcx0.Abs} {n : Nat} (c : n = 0 ∨ 6 < n) : Kcx0.step ab (.begin_ n) = (ab, .num (-22)) := if_pos c
theorem begin_good {ab : Kcx0.Abs} {n : Nat} (c : ¬ (n = 0 ∨ 6 < n)) : Kcx0.step ab (.begin_ n) = (⟨n, []⟩, .num 0) := if_neg c
theorem drop_at {ns t : List Int} {p : Nat} {v : Int} (h : ns.drop p = v :: t) : ns[p]? = some v ∧ ns.drop (p + 1) = t := by
  constructor
  · have := List.getElem?_drop (xs := ns) (i := p) (j := 0)
    rw [h, Nat.add_zero] at this
    exact this.symm
  · have : (ns.drop p).drop 1 = ns.drop (p + 1) := by rw [List.drop_drop]
    rw [← this, h]
    rfl
theorem not_good {c : List (List Int)} (h : Kcx0Neutral.n c 0 ≠ 0) : Kcx0Neutral.good c = false := by
  unfold Kcx0Neutral.good
  rw [beq_eq_false_iff_ne.mpr h]
  rfl
theorem called {f0 f1 f2 f3 f4 f5 f6 f7 f8 se x dx a l : Addr} {H : Hp} {ns r t : List Int} {p q : Nat} {ab : Kcx0.Abs} {c : List (List Int)} {call : Kcx0.Call} {cs : List (List (List Int))} (N : Nine P w K mg base S C D f0 f1 f2 f3 f4 f5 f6 f7 f8)
    (hx : H x = some (.ins D dx (dF a p))) (ha : SqL K H a (ns.map V.int)) (h30 : ns.length ≤ 30000) (nsx : se ≠ x) (sess : SessOr S C H se l ab (c :: cs)) (hr : ns.drop p = r) (hc : CallIs r t q c call) (ec : call = Kcx0Neutral.call c) :
    ∃ f fd sp, ([f0, f1, f2, f3, f4, f5, f6, f7, f8].map V.ref)[q]? = some (V.ref f) ∧ FnOk P w K mg base CX0 8 f fd ["session", "reader"] sp ∧ Binds K fd ["session", "reader"] [] ∧ PySem.W.keepIn K (.ref f) = true ∧ ∀ Q, Then S C D H Q se x dx a l ns t (Kcx0.step ab call) cs → sp [.ref se, .ref x] H Q E0 := by
  subst hr
  have begun : q ≠ 0 → Kcx0Neutral.n c 0 = q → SessAt S C H se l ab := fun h1 h2 => by
    rcases sess with z | ⟨_, _, z⟩
    · exact z
    · have := (begun_next z (not_good (by rw [h2]; exact h1))).1
      exact absurd (h2.symm.trans this) h1
  cases hc with
  | begin_ n e =>
    obtain ⟨fd, G, b⟩ := N.c0.ex
    obtain ⟨e1, e2⟩ := drop_at e
    refine ⟨f0, fd, _, rfl, G, b, N.c0.kp, fun Q k => ?_⟩
    obtain ⟨ds, n0, hse⟩ : ∃ ds n0, H se = some (.ins S ds (sF n0 l)) := by
      rcases sess with ⟨⟨ds, z⟩, _, _⟩ | ⟨_, ⟨ds, z⟩, _⟩
      · exact ⟨ds, _, z⟩
      · exact ⟨ds, _, z⟩
    refine ⟨se, x, dx, ds, a, l, ns, p, n0, n, rfl, hx, ha, hse, nsx, e1, fun c H' r nr hr' hx' B => ?_, fun c H' r l' nr hr' hx' hs' nl hl' B => ?_⟩
    · refine k H' r l (p + 1) nr ?_ hx' e2 ?_ (.inl rfl) fun b o e _ n2 _ => B b o e n2
      · rw [begin_bad c]; exact hr'
      · rw [begin_bad c]
        rcases sess with z | ⟨z1, ⟨d2, z2⟩, z3⟩
        · exact .inl (z.but B hx nsx)
        · refine .inr ⟨z1, ⟨d2, B _ _ z2 nsx⟩, (begun_next z3 ?_).2⟩
          have en : Kcx0Neutral.n [[0, (n : Int)]] 1 = n := rfl
          unfold Kcx0Neutral.good
          rw [en]
          rcases c with c | c
          · subst c; rfl
          · rw [decide_eq_false (p := n ≤ 6) (by omega), Bool.and_false]
    · refine k H' r l' (p + 1) nr ?_ hx' e2 ?_ (.inr nl) fun b o e n1 n2 _ => B b o e n1 n2
      · rw [begin_good c]; exact hr'
      · rw [begin_good c]
        refine .inl ⟨⟨ds, hs'⟩, ⟨[], hl', .nil⟩, ⟨by show 1 ≤ n; omega, by show n ≤ 6; omega, ?_, ?_, Nat.zero_le _⟩⟩
        · intro p hp; cases hp
        · intro p hp; cases hp
  | step xs ys s1 e1 e2 =>
    obtain ⟨fd, G, b⟩ := N.c1.ex
    exact ⟨f1, fd, _, rfl, G, b, N.c1.kp, fun Q k => ⟨se, x, dx, a, l, ns, p, ab, xs, ys, s1, t, rfl, hx, ha, h30, begun (by decide) rfl, nsx, e1, e2, k.ans⟩⟩
  | do_ kk r1 xs e1 e2 =>
    obtain ⟨fd, G, b⟩ := N.c2.ex
    obtain ⟨e3, e4⟩ := drop_at e1
    exact ⟨f2, fd, _, rfl, G, b, N.c2.kp, fun Q k => ⟨se, x, dx, a, l, ns, p, ab, kk, xs, t, rfl, hx, ha, h30, begun (by decide) rfl, nsx, e3, by rw [e4]; exact e2, k.ans⟩⟩
  | least xs ys s1 e1 e2 =>
    obtain ⟨fd, G, b⟩ := N.c3.ex
    exact ⟨f3, fd, _, rfl, G, b, N.c3.kp, fun Q k => ⟨se, x, dx, a, l, ns, p, ab, xs, ys, s1, t, rfl, hx, ha, h30, begun (by decide) rfl, nsx, e1, e2, k.ans⟩⟩
  | way xs ys s1 e1 e2 =>
    obtain ⟨fd, G, b⟩ := N.c4.ex
    exact ⟨f4, fd, _, rfl, G, b, N.c4.kp, fun Q k => ⟨se, x, dx, a, l, ns, p, ab, xs, ys, s1, t, rfl, hx, ha, h30, begun (by decide) rfl, nsx, e1, e2, k.ans⟩⟩
  | many xs e1 =>
    obtain ⟨fd, G, b⟩ := N.c5.ex
    refine ⟨f5, fd, _, rfl, G, b, N.c5.kp, fun Q k => ⟨se, x, dx, a, l, ns, p, ab, zi xs, t, rfl, hx, ha, h30, begun (by decide) rfl, nsx, e1, ⟨xs, rfl⟩, ?_⟩⟩
    show Answered S C D H Q se x dx a l ns t (Kcx0.step ab (.many (toN (zi xs))))
    rw [toN_zi]; exact k.ans
  | stuck xs e1 =>
    obtain ⟨fd, G, b⟩ := N.c6.ex
    refine ⟨f6, fd, _, rfl, G, b, N.c6.kp, fun Q k => ⟨se, x, dx, a, l, ns, p, ab, zi xs, t, rfl, hx, ha, h30, begun (by decide) rfl, nsx, e1, ⟨xs, rfl⟩, ?_⟩⟩
    show Answered S C D H Q se x dx a l ns t (Kcx0.step ab (.stuck (toN (zi xs))))
    rw [toN_zi]; exact k.ans
  | always xs ys s1 e1 e2 =>
    obtain ⟨fd, G, b⟩ := N.c7.ex
    exact ⟨f7, fd, _, rfl, G, b, N.c7.kp, fun Q k => ⟨se, x, dx, a, l, ns, p, ab, xs, ys, s1, t, rfl, hx, ha, h30, begun (by decide) rfl, nsx, e1, e2, k.ans⟩⟩
  | keeps xs e1 =>
    obtain ⟨fd, G, b⟩ := N.c8.ex
    exact ⟨f8, fd, _, rfl, G, b, N.c8.kp, fun Q k => ⟨se, x, dx, a, l, ns, p, ab, xs, t, rfl, hx, ha, h30, begun (by decide) rfl, nsx, e1, trivial, k.ans⟩⟩
end
end SR
end
section
set_option Elab.async false
set_option linter.all false
set_option maxRecDepth 100000
set_option maxHeartbeats 4000000
namespace SR
open PySem PySem.Spec PyProof.Rows L2
open Kcx0 (State Step_ within can_ done before)
theorem CallIs.tbl {r t : List Int} {q : Nat} {c : List (List Int)} {call : Kcx0.Call} (h : CallIs r t q c call) (f0 f1 f2 f3 f4 f5 f6 f7 f8 : Addr) : ∃ g, ([f0, f1, f2, f3, f4, f5, f6, f7, f8].map V.ref)[q]? = some (V.ref g) := by
  cases h <;> exact ⟨_, rfl⟩
/-- without L -/
def Wo (H : Hp) (L : Addr) : Hp := fun b => if b = L then none else H b
theorem Wo_ne {H : Hp} {L b : Addr} (h : b ≠ L) : Wo H L b = H b := by unfold Wo; rw [if_neg h]
theorem Wo_upd (H : Hp) (L : Addr) (o : HO) : Wo (upd H L o) L = Wo H L := by
  funext b
  unfold Wo
  by_cases e : b = L
  · rw [if_pos e, if_pos e]
  · rw [if_neg e, if_neg e, upd_ne e]
theorem Wo_put (H : Hp) (L : Addr) (o : HO) : Same (Wo H L) (upd H L o) := fun b u e => by
  unfold Wo at e
  by_cases z : b = L
  · rw [if_pos z] at e; cases e
  · rw [if_neg z] at e; rw [upd_ne z]; exact e
theorem SessOr.same {S C se l : Addr} {H H' : Hp} {ab : Kcx0.Abs} {cs : List (List (List Int))} (h : SessOr S C H se l ab cs) (e : Same H H') : SessOr S C H' se l ab cs := by
  rcases h with z | ⟨z1, ⟨d, z2⟩, z3⟩
  · exact .inl (z.same e)
  · exact .inr ⟨z1, ⟨d, e _ _ z2⟩, z3⟩
theorem Stps.wo {C L : Addr} {H : Hp} {as : List Addr} {ps : List Step_} {o : Obj} {u : HO} (h : Stps C H as ps) (hL : H L = some (.frz o u)) : Stps C (Wo H L) as ps := by
  induction h with
  | nil => exact .nil
  | cons h _ ih =>
    obtain ⟨dq, tq, gq, a1, a2, a3⟩ := h
    exact .cons ⟨dq, tq, gq, by rw [Wo_ne (ne_of a1 hL (fun z => nomatch z))]; exact a1, by rw [Wo_ne (ne_of a2 hL (fun z => nomatch z))]; exact a2, by rw [Wo_ne (ne_of a3 hL (fun z => nomatch z))]; exact a3⟩ ih
theorem SessOr.wo {S C se l L : Addr} {H : Hp} {ab : Kcx0.Abs} {cs : List (List (List Int))} {o : Obj} {u : HO} (h : SessOr S C H se l ab cs) (hL : H L = some (.frz o u)) : SessOr S C (Wo H L) se l ab cs := by
  rcases h with ⟨⟨d, z1⟩, ⟨as, z2, z3⟩, z4⟩ | ⟨z1, ⟨d, z2⟩, z3⟩
  · exact .inl ⟨⟨d, by rw [Wo_ne (ne_of z1 hL (fun z => nomatch z))]; exact z1⟩, ⟨as, by rw [Wo_ne (ne_of z2 hL (fun z => nomatch z))]; exact z2, z3.wo hL⟩, z4⟩
  · exact .inr ⟨z1, ⟨d, by rw [Wo_ne (ne_of z2 hL (fun z => nomatch z))]; exact z2⟩, z3⟩
section
variable {P : Program} {w : World} {K : PySem.W.Frag} {mg : Str → Option Value} {base : Heap} {S C D fB fW fL fSt fAB fo fSI fDI fT fN cl f0 f1 f2 f3 f4 f5 f6 f7 f8 : Addr}
def spTop (K : PySem.W.Frag) : Sp := fun vs H Q _ => ∃ (a : Addr) (ns : List Int), vs = [.ref a] ∧ SqL K H a (ns.map V.int) ∧ ns.length ≤ 30000 ∧ PyKcx0.answers_asked ns = true ∧ ∀ (H' : Hp) (p : Addr), H' p = some (.lst ((PyKcx0.answers ns).map V.int)) → Q (.ref p) H'
structure TxtTop (K : PySem.W.Frag) (mg : Str → Option Value) (S D cl f0 f1 f2 f3 f4 f5 f6 f7 f8 : Addr) : Prop where
  se : mg "Session" = some (.ref S)
  rd : mg "Reader" = some (.ref D)
  cs : mg "CALLS" = some (.ref cl)
  tp : ∀ H, SqT K H cl ([f0, f1, f2, f3, f4, f5, f6, f7, f8].map V.ref)
abbrev sTop : Stmt := top 47
theorem scTop : FnScope ["calls", "session", "reader", "laid", "answer_call", "answer"] ["calls"] (defScope sTop) := ⟨rfl, rfl, rfl, by decide +kernel, rfl, by decide +kernel, by decide +kernel⟩
theorem ok_top {f : Addr} {fd : FuncData} (F : Fun K "answers" "answers" sTop f fd) (T0 : Txt K mg) (T : TxtSe K mg S C fB fW fL fSt fAB fo) (TD : TxtRd K D) (TT : TxtTop K mg S D cl f0 f1 f2 f3 f4 f5 f6 f7 f8)
    (MS : Mk K S fSI) (GS : ∃ fd, FnOk P w K mg base CX0 1 fSI fd ["self"] (spSeInit S) ∧ Binds K fd ["self"] [])
    (MD : Mk K D fDI) (GD : ∃ fd, FnOk P w K mg base CX0 1 fDI fd ["self", "numbers"] (spRdInit D) ∧ Binds K fd ["self", "numbers"] [])
    (GT : MethOk P w K mg base 1 D "is_through" fT ["self"] (spThrough D K)) (GN : MethOk P w K mg base 1 D "read_number" fN ["self"] (spNumber D K))
    (N : Nine P w K mg base S C D f0 f1 f2 f3 f4 f5 f6 f7 f8) : FnOk P w K mg base CX0 9 f fd ["calls"] (spTop K) := by
  obtain ⟨fds, Gs, bs⟩ := GS
  obtain ⟨fdd, Gd, bd⟩ := GD
  obtain ⟨fdt, Gt, bt⟩ := GT.ex
  obtain ⟨fdn, Gn, bn⟩ := GN.ex
  refine F.ok scTop (fun vs H Q E h => ?_) (fun cdv A outer s0 H0 vs Q E hr h => ?_)
  · obtain ⟨_, _, rfl, _⟩ := h
    rfl
  have hr1 := hr.mono (show 1 ≤ 8 by decide)
  have hr2 := hr.mono (show 2 ≤ 8 by decide)
  refine ⟨_, pss_cons (ps_set (i := 1) scTop.nd rfl (Or.inl rfl) (pe_make0 MS Gs hr2 rfl TT.se bs .nil pass0))
    (pss_cons (ps_set (i := 2) scTop.nd rfl (Or.inl rfl) (pe_make MD Gd hr2 rfl TT.rd bd .nil pass0 (pa_cons (pv 0) pa_nil)))
    (pss_cons (ps_set (i := 3) scTop.nd rfl (Or.inl rfl) (pe_lst pa_nil))
    (pss_cons (ps_while PassesOwn.never (pt_not (pt_val (pe_meth0 (pv 2) TD.cl GT.mt Gt hr1 bt .nil pass0)))
      (pss_cons (ps_set (i := 4) scTop.nd rfl (Or.inl rfl) (pe_ix ix_tup (pe_glob (v := .ref cl) rfl TT.cs rfl) (pe_meth0 (pv 2) TD.cl GN.mt Gn hr1 bn .nil pass0) (fun _ _ => rfl)))
      (pss_cons (ps_set (i := 5) scTop.nd rfl (Or.inl rfl) (pe_lock (pe_callL (CX := CX0) (i := 4) rfl (Or.inl rfl) pass0 (pa_cons (pv 1) (pa_cons (pv 2) pa_nil)))))
      (pss_cons (ps_expr (pe_bm PySem.F.plainAttrs_list PySem.F.slot_list_append PySem.F.type_list_append mt_append (pv 3) (pa_cons (pe_callB call_len_seq (by rfl) T0.len PySem.boot_len (pa_cons (pv 5) pa_nil)) pa_nil)))
      (pss_one (ps_expr (pe_bm PySem.F.plainAttrs_list PySem.F.slot_list_extend PySem.F.type_list_extend mt_extend (pv 3) (pa_cons (pv 5) pa_nil))))))))
    (pss_one (ps_ret (pv 3)))))), ?_⟩
  obtain ⟨a, ns, rfl, ha, h30, ask, k⟩ := h
  obtain ⟨cs0, ecs, hask, hbeg, eans, hlen⟩ := asked_all ask
  intro se ds n1 m1 e1
  refine ⟨se, ds, rfl, upd_same, fun H1 l0 hs1 nl0 hl1 B1 => ⟨rfl, ?_⟩⟩
  have s1 : Same H0 H1 := Same.made n1 m1 B1
  refine ⟨_, rfl, ?_⟩
  intro x dx0 n2 m2 e2
  refine ⟨x, dx0, a, rfl, upd_same, fun H2 hx2 B2 => ⟨rfl, ?_⟩⟩
  have s2 : Same H1 H2 := Same.made n2 m2 B2
  refine ⟨Nat.zero_le _, fun L nL => ?_⟩
  have s3 := Same.upd (o := .lst []) nL
  have nx0 : H0 x = none := s1.free n2
  have nL0 : H0 L = none := (s1.trans s2).free nL
  have nsx : se ≠ x := ne_of_none hs1 n2
  have nsL : se ≠ L := ne_of_none (s2 _ _ hs1) nL
  have nxL : x ≠ L := ne_of_none hx2 nL
  have nlL : L ≠ l0 := Ne.symm (ne_of_none (s2 _ _ hl1) nL)
  have nl00 : H0 l0 = none := by
    have z : se ≠ l0 := ne_of_none (show upd (upd H0 ds (.own se)) se (.ins S ds []) se = some (.ins S ds []) from upd_same) nl0
    rw [upd_ne (Ne.symm z)] at nl0
    by_cases z2 : l0 = ds
    · rw [z2]; exact m1
    · rw [upd_ne z2] at nl0; exact nl0
  refine ⟨fun m σ H => ∃ (v4 v5 : Option V) (p f dx l : Nat) (ab : Kcx0.Abs) (cs : List (List (List Int))) (dn : List Int), σ = [some (.ref a), some (.ref se), some (.ref x), some (.ref L), v4, v5] ∧ Same H0 H ∧ cs.length = m ∧
    H x = some (.ins D dx (dF a p)) ∧ PyFlat.calls PyKcx0.shape f (ns.drop p) = some cs ∧ (∀ c ∈ cs.map PyKcx0.whole, Kcx0Neutral.asked1 c = true) ∧ SessOr S C (Wo H L) se l ab (cs.map PyKcx0.whole) ∧ H L = some (.lst (dn.map V.int)) ∧ L ≠ l ∧ H0 l = none ∧
    dn ++ PyFlat.told (PyFlat.played Kcx0Neutral.step ab (cs.map PyKcx0.whole)) = PyKcx0.answers ns,
    ⟨cs0.length, none, none, 0, ns.length, dx0, l0, Kcx0.first, cs0, [], rfl, (s1.trans s2).trans s3, rfl, s3 _ _ hx2, ecs, hask, .inr ⟨rfl, ⟨ds, by rw [Wo_ne nsL, upd_ne nsL]; exact s2 _ _ hs1⟩, hbeg⟩, upd_same, nlL, nl00, eans.symm⟩, ?_⟩
  rintro m σ H ⟨v4, v5, p, f, dx, l, ab, cs, dn, rfl, sm, rfl, hx, hcs, hask, sess, hL, nLl, nl, edn⟩
  have ha1 := sm.seq ha
  refine ⟨_, rfl, x, dx, _, rfl, hx, dF_no _ _ (by decide +kernel) (by decide +kernel), x, dx, a, ns, p, rfl, hx, ha1, _, rfl, ?_⟩
  by_cases c : ns.length ≤ p
  · rw [decide_eq_true c]
    rw [List.drop_eq_nil_of_le c] at hcs
    obtain rfl := calls_nil hcs
    have edn : dn ++ [] = PyKcx0.answers ns := edn
    rw [List.append_nil] at edn
    refine (if_neg (by decide)).mpr ?_
    refine ⟨_, rfl, k H L ?_⟩
    rw [← edn]; exact hL
  · rw [decide_eq_false c]
    refine iteT ?_
    obtain ⟨v, r, er⟩ : ∃ v r, ns.drop p = v :: r := by
      cases z : ns.drop p with
      | nil =>
        have := congrArg List.length z
        rw [List.length_drop, List.length_nil] at this
        omega
      | cons v r => exact ⟨v, r, rfl⟩
    rw [er] at hcs
    obtain ⟨f', ca, t, cs', hcall, hrest, rfl⟩ := calls_cons hcs
    have hc1 : Kcx0Neutral.asked1 (PyKcx0.whole ca) = true := hask _ (by rw [List.map_cons]; exact List.mem_cons_self)
    obtain ⟨q, rfl, hci⟩ := call_is hcall hc1
    obtain ⟨ep, er1⟩ := drop_at er
    have edn' : dn ++ (((Kcx0Neutral.step ab (PyKcx0.whole ca)).2.length : Int) :: (Kcx0Neutral.step ab (PyKcx0.whole ca)).2 ++ PyFlat.told (PyFlat.played Kcx0Neutral.step (Kcx0Neutral.step ab (PyKcx0.whole ca)).1 (cs'.map PyKcx0.whole))) = PyKcx0.answers ns := by
      rw [← edn, List.map_cons]
      show _ = dn ++ PyFlat.told ((Kcx0Neutral.step ab (PyKcx0.whole ca)).2 :: PyFlat.played Kcx0Neutral.step (Kcx0Neutral.step ab (PyKcx0.whole ca)).1 (cs'.map PyKcx0.whole))
      rw [told_cons]
    have hsz : dn.length + ((Kcx0Neutral.step ab (PyKcx0.whole ca)).2.length + 1) ≤ sizeLine := by
      rw [← edn', List.length_append, List.length_append, List.length_cons] at hlen
      omega
    refine ⟨fun σ' H' => ∃ m', m' < (ca :: cs').length ∧ ∃ (v4 v5 : Option V) (p f dx l : Nat) (ab : Kcx0.Abs) (cs : List (List (List Int))) (dn : List Int), σ' = [some (.ref a), some (.ref se), some (.ref x), some (.ref L), v4, v5] ∧ Same H0 H' ∧ cs.length = m' ∧
      H' x = some (.ins D dx (dF a p)) ∧ PyFlat.calls PyKcx0.shape f (ns.drop p) = some cs ∧ (∀ c ∈ cs.map PyKcx0.whole, Kcx0Neutral.asked1 c = true) ∧ SessOr S C (Wo H' L) se l ab (cs.map PyKcx0.whole) ∧ H' L = some (.lst (dn.map V.int)) ∧ L ≠ l ∧ H0 l = none ∧
      dn ++ PyFlat.told (PyFlat.played Kcx0Neutral.step ab (cs.map PyKcx0.whole)) = PyKcx0.answers ns, fun _ _ z => z, ?_⟩
    refine ⟨_, rfl, x, dx, _, rfl, hx, dF_no _ _ (by decide +kernel) (by decide +kernel), x, dx, a, ns, p, (q : Int), rfl, hx, ha1, ep, fun H3 hx3 B3 => ?_⟩
    have hL3 := B3 _ _ hL (Ne.symm nxL)
    have sm3 : Same H0 H3 := fun b o e => B3 b o (sm b o e) (fun z => by rw [z, nx0] at e; cases e)
    have B3w : But x (Wo H L) (Wo H3 L) := fun b o e nb => by
      by_cases z : b = L
      · unfold Wo at e; rw [if_pos z] at e; cases e
      · rw [Wo_ne z] at e ⊢; exact B3 b o e nb
    have hxw : Wo H L x = some (.ins D dx (dF a p)) := by rw [Wo_ne nxL]; exact hx
    have sess3 : SessOr S C (Wo H3 L) se l ab (PyKcx0.whole ca :: cs'.map PyKcx0.whole) := by
      rw [List.map_cons] at sess
      rcases sess with z | ⟨z1, ⟨d, z2⟩, z3⟩
      · exact .inl (z.but B3w hxw nsx)
      · exact .inr ⟨z1, ⟨d, B3w _ _ z2 nsx⟩, z3⟩
    obtain ⟨g, eg⟩ := hci.tbl f0 f1 f2 f3 f4 f5 f6 f7 f8
    refine ⟨cl, _, _, _, rfl, rfl, TT.tp H3, at_of (j := q) (v := V.ref g) rfl eg, ?_⟩
    refine ⟨L, _, hL3, trivial, fun od => ?_⟩
    have sm3f : Same H0 (upd H3 L (.frz od (.lst (dn.map V.int)))) := fun b o e => by
      have : b ≠ L := fun z => by rw [z, nL0] at e; cases e
      rw [upd_ne this]
      exact sm3 b o e
    have hL3f : upd H3 L (.frz od (.lst (dn.map V.int))) L = some (.frz od (.lst (dn.map V.int))) := upd_same
    obtain ⟨g', fdg, spg, eg', Gg, bg, kg, hg⟩ := called N (H := upd H3 L (.frz od (.lst (dn.map V.int)))) (by rw [upd_ne nxL]; exact hx3) (sm3f.seq ha) h30 nsx (sess3.same (Wo_put _ _ _)) er1 hci rfl
    have eq : g' = g := V.ref.inj (Option.some.inj (eg'.symm.trans eg))
    subst eq
    refine ⟨g', 8, fdg, _, spg, rfl, Gg, hr, kg, bg, _, rfl, _, rfl, hg _ ?_⟩
    intro H4 r4 l4 q4 nr4 hr4 hx4 e4 sess4 hl4 fr4
    have hL4 := fr4 _ _ hL3f (Ne.symm nsL) (Ne.symm nxL) nLl
    refine ⟨hL4, ?_⟩
    have nrL : r4 ≠ L := fun z => by rw [z, hL3f] at nr4; cases nr4
    have nl4 : H0 l4 = none := by
      rcases hl4 with z | z
      · rw [z]; exact nl
      · exact sm3f.free z
    have nLl4 : L ≠ l4 := by
      rcases hl4 with z | z
      · rw [z]; exact nLl
      · exact fun y => by rw [← y, hL3f] at z; cases z
    have sm4 : Same H0 H4 := fun b o e => fr4 b o (sm3f b o e) (fun z => by rw [z, n1] at e; cases e) (fun z => by rw [z, nx0] at e; cases e) (fun z => by rw [z, nl] at e; cases e)
    have sess5 := sess4.wo hL4
    refine ⟨_, rfl, .inl ⟨rfl, _, SqL.of upd_same⟩, _, rfl, r4, _, rfl, .inl (SqL.of (by rw [upd_ne nrL]; exact hr4)), L, _, _, rfl, rfl, upd_same, (by rw [List.length_map]; omega), ?_⟩
    refine ⟨_, rfl, .inl ⟨rfl, _, SqL.of upd_same⟩, _, rfl, L, r4, _, _, rfl, rfl, upd_same, (by rw [upd_ne nrL, upd_ne nrL]; exact hr4), ?_, ?_⟩
    · rw [List.length_append, List.length_map, List.length_map, List.length_singleton]
      show dn.length + 1 + (Kcx0Neutral.step ab (PyKcx0.whole ca)).2.length ≤ sizeLine
      omega
    refine ⟨cs'.length, Nat.lt_succ_self _, _, _, q4, f', dx, l4, (Kcx0Neutral.step ab (PyKcx0.whole ca)).1, cs', dn ++ (((Kcx0Neutral.step ab (PyKcx0.whole ca)).2.length : Int) :: (Kcx0Neutral.step ab (PyKcx0.whole ca)).2), rfl, ?_, rfl, ?_, ?_, ?_, ?_, ?_, nLl4, nl4, ?_⟩
    · intro b o e
      have : b ≠ L := fun z => by rw [z, nL0] at e; cases e
      rw [upd_ne this, upd_ne this, upd_ne this]
      exact sm4 b o e
    · rw [upd_ne nxL, upd_ne nxL, upd_ne nxL]; exact hx4
    · rw [e4]; exact hrest
    · intro c hc
      exact hask c (by rw [List.map_cons]; exact List.mem_cons_of_mem _ hc)
    · rw [Wo_upd, Wo_upd, Wo_upd]; exact sess5
    · rw [upd_same, List.map_append, List.map_cons, List.length_map, List.append_assoc]
      rfl
    · rw [← edn', List.append_assoc]
end
end SR
end
section
set_option Elab.async false
set_option linter.all false
set_option maxRecDepth 100000
set_option maxHeartbeats 4000000
namespace SR
open PySem PySem.Spec PyProof.Rows L2
open Kcx0 (State Step_ within can_ done before)
/-! ### what the top has written -/
structure TopFn (K : PySem.W.Frag) (x : Str) (st : Stmt) (f : Addr) : Prop where
  at_ : PySem.W.nsIn K mainGlobals x = some (some (.ref f))
  fn : ∃ fd, Fun K x x st f fd
structure MetFn (K : PySem.W.Frag) (C : Addr) (x qual : Str) (st : Stmt) (f : Addr) : Prop where
  at_ : Meth K C x f
  fn : ∃ fd, Fun K x qual st f fd
structure ClsIn (K : PySem.W.Frag) (x : Str) (C : Addr) : Prop where
  at_ : PySem.W.nsIn K mainGlobals x = some (some (.ref C))
  cl : Cls K C
  mks : PySem.W.makesIn K C = true
  kp : PySem.W.keepIn K (.ref C) = true
def NumIn (K : PySem.W.Frag) (x : Str) (n : Int) : Prop := ∃ t, PySem.W.nsIn K mainGlobals x = some (some (.int n t))
def NoIn (K : PySem.W.Frag) (x : Str) : Prop := PySem.W.nsIn K mainGlobals x = some none
theorem topFn_mk {K : PySem.W.Frag} {x : Str} {st : Stmt} {f : Addr} {oc : Value} {od an : Option Addr} {osl : Array (Option Value)} {kV doc pm cdv ct : Value} (a : PySem.W.nsIn K mainGlobals x = some (some (.ref f)))
    (l : K.lookup f = some ⟨oc, od, .func (PySem.W.fnOf x x (defArgs st) (defBody st) (defScope st) .none kV doc pm an cdv ct), osl⟩) (c : PySem.W.codeIn K cdv x = true) (k : PySem.W.keepIn K (.ref f) = true) : TopFn K x st f := ⟨a, _, fun_mk l c k⟩
theorem metFn_mk {K : PySem.W.Frag} {C : Addr} {x qual : Str} {st : Stmt} {f : Addr} {oc : Value} {od an : Option Addr} {osl : Array (Option Value)} {kV doc pm cdv ct : Value} (a : PySem.W.findIn K (.ref C) x = some (some (.ref f))) (i : PySem.W.isFn K (.ref f) = true)
    (l : K.lookup f = some ⟨oc, od, .func (PySem.W.fnOf x qual (defArgs st) (defBody st) (defScope st) .none kV doc pm an cdv ct), osl⟩) (c : PySem.W.codeIn K cdv qual = true) (k : PySem.W.keepIn K (.ref f) = true) : MetFn K C x qual st f := ⟨⟨a, i, k⟩, _, fun_mk l c k⟩
theorem clsIn_mk {K : PySem.W.Frag} {x : Str} {C : Addr} (a : PySem.W.nsIn K mainGlobals x = some (some (.ref C))) (pg : PySem.W.plainGet K C Str.empty = true) (hd : PySem.W.hasDictIn K C = true) (po : PySem.W.plainOver K C = true)
    (sa : PySem.W.findIn K (.ref C) "__setattr__" = some (some (.builtin "object.__setattr__"))) (mk : PySem.W.makesIn K C = true) (kc : PySem.W.keepIn K (.ref C) = true) : ClsIn K x C := ⟨a, ⟨pg, hd, po, sa⟩, mk, kc⟩
theorem numIn_mk {K : PySem.W.Frag} {x : Str} {n : Int} {t : Nat} (e : PySem.W.nsIn K mainGlobals x = some (some (.int n t))) : NumIn K x n := ⟨t, e⟩
def TupIn (K : PySem.W.Frag) (cl : Addr) (vs : Array Value) : Prop := ∃ (od : Option Addr) (n : Nat) (sl : Array (Option Value)), K.lookup cl = some ⟨.type "tuple", od, .seq vs n, sl⟩
theorem tupIn_mk {K : PySem.W.Frag} {cl : Addr} {vs : Array Value} {od : Option Addr} {n : Nat} {sl : Array (Option Value)} (e : K.lookup cl = some ⟨.type "tuple", od, .seq vs n, sl⟩) : TupIn K cl vs := ⟨od, n, sl, e⟩
theorem TopFn.callee {P : Program} {w : World} {K : PySem.W.Frag} {mg : Str → Option Value} {base : Heap} {x : Str} {st : Stmt} {f : Addr} {k : Nat} {ps : List Str} {sp : Sp} (T : TopFn K x st f)
    (hb : ∀ (kV doc pm : Value) (an : Option Addr) (cdv ct : Value) (us : List Value), us.length = ps.length → bindArgs (PySem.W.fnOf x x (defArgs st) (defBody st) (defScope st) .none kV doc pm an cdv ct) ⟨us, []⟩ = pure (ps.zip us))
    (ok : ∀ {fd : FuncData}, Fun K x x st f fd → FnOk P w K mg base CX0 k f fd ps sp) : Callee P w K mg base k f ps sp := by
  obtain ⟨fd, F⟩ := T.fn
  exact ⟨⟨fd, ok F, F.binds hb⟩, F.kp⟩
theorem MetFn.meth {P : Program} {w : World} {K : PySem.W.Frag} {mg : Str → Option Value} {base : Heap} {C : Addr} {x qual : Str} {st : Stmt} {f : Addr} {k : Nat} {ps : List Str} {sp : Sp} (T : MetFn K C x qual st f)
    (hb : ∀ (kV doc pm : Value) (an : Option Addr) (cdv ct : Value) (us : List Value), us.length = ps.length → bindArgs (PySem.W.fnOf x qual (defArgs st) (defBody st) (defScope st) .none kV doc pm an cdv ct) ⟨us, []⟩ = pure (ps.zip us))
    (ok : ∀ {fd : FuncData}, Fun K x qual st f fd → FnOk P w K mg base CX0 k f fd ps sp) : MethOk P w K mg base k C x f ps sp := by
  obtain ⟨fd, F⟩ := T.fn
  exact ⟨⟨fd, ok F, F.binds hb⟩, T.at_⟩
theorem MetFn.make {K : PySem.W.Frag} {C : Addr} {x qual : Str} {st : Stmt} {f : Addr} (T : MetFn K C "__init__" qual st f) (c : ClsIn K x C) : Mk K C f := ⟨c.mks, T.at_.at_, T.at_.fn, c.kp⟩
theorem NumIn.num {K : PySem.W.Frag} {h : Heap} {mg : Str → Option Value} {x : Str} {n : Int} (N : NumIn K x n) (X : K.In h) (G : h.Ns mainGlobals mg) : Num mg x n := by
  obtain ⟨t, e⟩ := N
  exact ⟨t, PySem.W.mg_of X G e⟩

structure All (K : PySem.W.Frag) (C R S D fh fw fo fl fm fB fAB fLd fW fMT fL fSt f0 f1 f2 f3 f4 f5 f6 f7 f8 ft fSI fCan fBeh fAh fKS fRI fG fNo fTM gS0 gS1 gS2 gS3 gS4 gS5 gS6 gS7 gS8 gS9 gS10 gR0 gR1 gR2 gR3 cl : Addr) : Prop where
  cC : ClsIn K "Step" C
  cR : ClsIn K "Rounds" R
  cS : ClsIn K "Session" S
  cD : ClsIn K "Reader" D
  t_fh : TopFn K "has" sHas fh
  t_fw : TopFn K "weigh" sWeigh fw
  t_fo : TopFn K "has_one_of" sHasOne fo
  t_fl : TopFn K "least_of" sLeastOf fl
  t_fm : TopFn K "one_more_round" sMore fm
  t_fB : TopFn K "look_back" sBack fB
  t_fAB : TopFn K "look_all_the_way_back" sAllBack fAB
  t_fLd : TopFn K "leads_into" sLeads fLd
  t_fW : TopFn K "earliest_way" sWay fW
  t_fMT : TopFn K "has_more_than_one_before" sMoreThan fMT
  t_fL : TopFn K "look_for_all" sLookAll fL
  t_fSt : TopFn K "stuck_among" sStuck fSt
  t_f0 : TopFn K "answer_begin" (sA 0) f0
  t_f1 : TopFn K "answer_step" (sA 1) f1
  t_f2 : TopFn K "answer_do" (sA 2) f2
  t_f3 : TopFn K "answer_least" (sA 3) f3
  t_f4 : TopFn K "answer_way" (sA 4) f4
  t_f5 : TopFn K "answer_many" (sA 5) f5
  t_f6 : TopFn K "answer_stuck" (sA 6) f6
  t_f7 : TopFn K "answer_always" (sA 7) f7
  t_f8 : TopFn K "answer_keeps" (sA 8) f8
  t_ft : TopFn K "answers" sTop ft
  m_fSI : MetFn K C "__init__" "Step.__init__" sSInit fSI
  m_fCan : MetFn K C "can_be_done" "Step.can_be_done" sCan fCan
  m_fBeh : MetFn K C "state_behind" "Step.state_behind" sBehind fBeh
  m_fAh : MetFn K C "least_ahead" "Step.least_ahead" sAhead fAh
  m_fKS : MetFn K C "keeps_sum" "Step.keeps_sum" sKeepsSum fKS
  m_fRI : MetFn K R "__init__" "Rounds.__init__" sRInit fRI
  m_fG : MetFn K R "go_on" "Rounds.go_on" sGo fG
  m_fNo : MetFn K R "brought_nothing_new" "Rounds.brought_nothing_new" sNothing fNo
  m_fTM : MetFn K R "are_too_many" "Rounds.are_too_many" sTooMany fTM
  m_gS0 : MetFn K S "__init__" "Session.__init__" (inS 0) gS0
  m_gS1 : MetFn K S "fits" "Session.fits" (inS 1) gS1
  m_gS2 : MetFn K S "begin" "Session.begin" (inS 2) gS2
  m_gS3 : MetFn K S "add_step" "Session.add_step" (inS 3) gS3
  m_gS4 : MetFn K S "do_step" "Session.do_step" (inS 4) gS4
  m_gS5 : MetFn K S "least" "Session.least" (inS 5) gS5
  m_gS6 : MetFn K S "way" "Session.way" (inS 6) gS6
  m_gS7 : MetFn K S "many" "Session.many" (inS 7) gS7
  m_gS8 : MetFn K S "stuck" "Session.stuck" (inS 8) gS8
  m_gS9 : MetFn K S "always" "Session.always" (inS 9) gS9
  m_gS10 : MetFn K S "keeps" "Session.keeps" (inS 10) gS10
  m_gR0 : MetFn K D "__init__" "Reader.__init__" (inR 0) gR0
  m_gR1 : MetFn K D "is_through" "Reader.is_through" (inR 1) gR1
  m_gR2 : MetFn K D "read_number" "Reader.read_number" (inR 2) gR2
  m_gR3 : MetFn K D "read_row" "Reader.read_row" (inR 3) gR3
  n_WRONG_INPUT : NumIn K "WRONG_INPUT" (-22)
  n_NO_SUCH_STEP : NumIn K "NO_SUCH_STEP" (-2)
  n_CANNOT_BE_DONE : NumIn K "CANNOT_BE_DONE" (-16)
  n_ABOVE_THE_MOST : NumIn K "ABOVE_THE_MOST" (-28)
  n_MOST_STOCKS : NumIn K "MOST_STOCKS" 6
  n_MOST_STEPS : NumIn K "MOST_STEPS" 12
  n_MOST_OF_A_STEP : NumIn K "MOST_OF_A_STEP" 9
  n_MOST_OF_A_STATE : NumIn K "MOST_OF_A_STATE" 1000000
  n_MOST_OF_A_WEIGHT : NumIn K "MOST_OF_A_WEIGHT" 1000
  n_LONGEST_WAY : NumIn K "LONGEST_WAY" 64
  n_MOST_LEAST_STATES : NumIn K "MOST_LEAST_STATES" 60
  n_MOST_ROUNDS : NumIn K "MOST_ROUNDS" 200
  n_NEVER : NumIn K "NEVER" (-6)
  n_TOO_MANY : NumIn K "TOO_MANY" (-75)
  n_ENDLESS : NumIn K "ENDLESS" (-6)
  n_MOST_STATES : NumIn K "MOST_STATES" 300
  a_C_takes : NoAttr K C "takes"
  a_C_gives : NoAttr K C "gives"
  a_R_steps : NoAttr K R "steps"
  a_R_gone : NoAttr K R "gone"
  a_R_fresh : NoAttr K R "fresh"
  a_S_stocks : NoAttr K S "stocks"
  a_S_steps : NoAttr K S "steps"
  a_D_numbers : NoAttr K D "numbers"
  a_D_place : NoAttr K D "place"
  b_zip : NoIn K "zip"
  b_len : NoIn K "len"
  b_max : NoIn K "max"
  b_min : NoIn K "min"
  b_sum : NoIn K "sum"
  b_any : NoIn K "any"
  b_tuple : NoIn K "tuple"
  b_list : NoIn K "list"
  b_set : NoIn K "set"
  b_sorted : NoIn K "sorted"
  b_reversed : NoIn K "reversed"
  b_enumerate : NoIn K "enumerate"
  calls : PySem.W.nsIn K mainGlobals "CALLS" = some (some (.ref cl))
  tup : TupIn K cl #[.ref f0, .ref f1, .ref f2, .ref f3, .ref f4, .ref f5, .ref f6, .ref f7, .ref f8]
theorem all_mk {P : Program} {w : World} {K : PySem.W.Frag} {h : Heap} {mg : Str → Option Value} {C R S D fh fw fo fl fm fB fAB fLd fW fMT fL fSt f0 f1 f2 f3 f4 f5 f6 f7 f8 ft fSI fCan fBeh fAh fKS fRI fG fNo fTM gS0 gS1 gS2 gS3 gS4 gS5 gS6 gS7 gS8 gS9 gS10 gR0 gR1 gR2 gR3 cl fa : Addr} (X : K.In h) (G : h.Ns mainGlobals mg) (hfa : mg "answers" = some (.ref fa)) (A : All K C R S D fh fw fo fl fm fB fAB fLd fW fMT fL fSt f0 f1 f2 f3 f4 f5 f6 f7 f8 ft fSI fCan fBeh fAh fKS fRI fG fNo fTM gS0 gS1 gS2 gS3 gS4 gS5 gS6 gS7 gS8 gS9 gS10 gR0 gR1 gR2 gR3 cl) :
    ∃ fd : FuncData, (∀ (s : Shared) (us : List Value), us.length = (["calls"] : List Str).length → BindsTo s fd ⟨us, []⟩ ((["calls"] : List Str).zip us)) ∧ ∀ base : Heap, K.In base → base.Ns mainGlobals mg → FnOk P w K mg base CX0 9 fa fd ["calls"] (spTop K) := by
  have e := hfa.symm.trans (PySem.W.mg_of X G A.t_ft.at_)
  cases e
  have T0 : Txt K mg := ⟨PySem.W.mg_none_of X G A.b_zip, PySem.W.mg_none_of X G A.b_len, PySem.W.mg_none_of X G A.b_max, PySem.W.mg_none_of X G A.b_min, PySem.W.mg_none_of X G A.b_sum, PySem.W.mg_none_of X G A.b_any, PySem.W.mg_none_of X G A.b_tuple, PySem.W.mg_none_of X G A.b_list, PySem.W.mg_none_of X G A.b_set, PySem.W.mg_none_of X G A.b_sorted, PySem.W.mg_none_of X G A.b_reversed, PySem.W.mg_none_of X G A.b_enumerate⟩
  have TS : TxtS K mg C fh fw := ⟨A.cC.cl, A.a_C_takes, A.a_C_gives, PySem.W.mg_of X G A.t_fh.at_, PySem.W.mg_of X G A.t_fw.at_⟩
  have TR : TxtR mg fo fl fm := ⟨PySem.W.mg_of X G A.t_fo.at_, PySem.W.mg_of X G A.t_fl.at_, PySem.W.mg_of X G A.t_fm.at_, A.n_MOST_LEAST_STATES.num X G, A.n_MOST_ROUNDS.num X G⟩
  have TRo : TxtRo K R := ⟨A.cR.cl, A.a_R_steps, A.a_R_gone, A.a_R_fresh⟩
  have TK : TxtK mg R := ⟨PySem.W.mg_of X G A.cR.at_, A.n_NEVER.num X G, A.n_TOO_MANY.num X G⟩
  have TQ : TxtQ mg fMT := ⟨PySem.W.mg_of X G A.t_fMT.at_, A.n_ENDLESS.num X G, A.n_TOO_MANY.num X G, A.n_MOST_STATES.num X G⟩
  have T : TxtSe K mg S C fB fW fL fSt fAB fo := ⟨A.cS.cl, A.a_S_stocks, A.a_S_steps, A.n_WRONG_INPUT.num X G, A.n_NO_SUCH_STEP.num X G, A.n_CANNOT_BE_DONE.num X G, A.n_ABOVE_THE_MOST.num X G, A.n_MOST_STOCKS.num X G, A.n_MOST_STEPS.num X G, A.n_MOST_OF_A_STEP.num X G, A.n_MOST_OF_A_STATE.num X G, A.n_MOST_OF_A_WEIGHT.num X G, A.n_LONGEST_WAY.num X G, PySem.W.mg_of X G A.cC.at_, PySem.W.mg_of X G A.t_fB.at_, PySem.W.mg_of X G A.t_fW.at_, PySem.W.mg_of X G A.t_fL.at_, PySem.W.mg_of X G A.t_fSt.at_, PySem.W.mg_of X G A.t_fAB.at_, PySem.W.mg_of X G A.t_fo.at_⟩
  have TD : TxtRd K D := ⟨A.cD.cl, A.a_D_numbers, A.a_D_place⟩
  have TT : TxtTop K mg S D cl f0 f1 f2 f3 f4 f5 f6 f7 f8 := by
    refine ⟨PySem.W.mg_of X G A.cS.at_, PySem.W.mg_of X G A.cD.at_, PySem.W.mg_of X G A.calls, fun H => ?_⟩
    obtain ⟨od, n, sl, l⟩ := A.tup
    exact .inr ⟨_, _, _, l, rfl, rfl, by show 9 ≤ sizeLine; decide, .cons rfl (.cons rfl (.cons rfl (.cons rfl (.cons rfl (.cons rfl (.cons rfl (.cons rfl (.cons rfl .nil))))))))⟩
  obtain ⟨fdt, Ft⟩ := A.t_ft.fn
  refine ⟨fdt, ?_, fun base _ _ => ?_⟩
  · obtain ⟨oc, od, kV, doc, pm, an, cdv, ct, osl, rfl, lk, hcd⟩ := Ft.ex
    exact fun s us hu => match us, hu with | [_], _ => .of_eq rfl
  have Ghas : Callee P w K mg base 1 fh ["state", "wanted"] (spHas K) := A.t_fh.callee (fun _ _ _ _ _ _ us hl => match us, hl with | [_, _], _ => rfl) fun F => ok_has F T0
  have Gweigh : Callee P w K mg base 1 fw ["row", "weights"] spWeigh := A.t_fw.callee (fun _ _ _ _ _ _ us hl => match us, hl with | [_, _], _ => rfl) fun F => ok_weigh F T0
  have GSI : MethOk P w K mg base 1 C "__init__" fSI ["self", "takes", "gives"] (spSInit C) := A.m_fSI.meth (fun _ _ _ _ _ _ us hl => match us, hl with | [_, _, _], _ => rfl) fun F => ok_sInit F TS
  have Gcan : MethOk P w K mg base 2 C "can_be_done" fCan ["self", "state"] (spCan C K) := A.m_fCan.meth (fun _ _ _ _ _ _ us hl => match us, hl with | [_, _], _ => rfl) fun F => ok_can F TS Ghas
  have Gbeh : MethOk P w K mg base 1 C "state_behind" fBeh ["self", "state"] (spBehind C K) := A.m_fBeh.meth (fun _ _ _ _ _ _ us hl => match us, hl with | [_, _], _ => rfl) fun F => ok_behind F T0 TS
  have Gah : MethOk P w K mg base 1 C "least_ahead" fAh ["self", "wanted"] (spAhead C K) := A.m_fAh.meth (fun _ _ _ _ _ _ us hl => match us, hl with | [_, _], _ => rfl) fun F => ok_ahead F T0 TS
  have Gks : MethOk P w K mg base 2 C "keeps_sum" fKS ["self", "weights"] (spKeepsSum C) := A.m_fKS.meth (fun _ _ _ _ _ _ us hl => match us, hl with | [_, _], _ => rfl) fun F => ok_keepsSum F TS Gweigh
  have Gone : Callee P w K mg base 2 fo ["state", "least"] (spHasOne K) := A.t_fo.callee (fun _ _ _ _ _ _ us hl => match us, hl with | [_, _], _ => rfl) fun F => ok_hasOne F TS Ghas
  have Glof : Callee P w K mg base 3 fl ["states"] spLeastOf := A.t_fl.callee (fun _ _ _ _ _ _ us hl => match us, hl with | [_], _ => rfl) fun F => ok_leastOf F T0 TR Gone
  have Gmore : Callee P w K mg base 4 fm ["least", "fresh", "steps"] (spMore C) := A.t_fm.callee (fun _ _ _ _ _ _ us hl => match us, hl with | [_, _, _], _ => rfl) fun F => ok_more F T0 TS TR Ghas Gah Glof
  have GRI : MethOk P w K mg base 1 R "__init__" fRI ["self", "wanted", "steps"] (spRInit R) := A.m_fRI.meth (fun _ _ _ _ _ _ us hl => match us, hl with | [_, _, _], _ => rfl) fun F => ok_rInit F TRo
  have Ggo : MethOk P w K mg base 5 R "go_on" fG ["self"] (spGo R C) := A.m_fG.meth (fun _ _ _ _ _ _ us hl => match us, hl with | [_], _ => rfl) fun F => ok_go F TRo TR Gmore
  have Gno : MethOk P w K mg base 1 R "brought_nothing_new" fNo ["self"] (spNothing R) := A.m_fNo.meth (fun _ _ _ _ _ _ us hl => match us, hl with | [_], _ => rfl) fun F => ok_nothing F T0 TRo
  have Gtm : MethOk P w K mg base 1 R "are_too_many" fTM ["self"] (spTooMany R) := A.m_fTM.meth (fun _ _ _ _ _ _ us hl => match us, hl with | [_], _ => rfl) fun F => ok_tooMany F T0 TRo TR
  have MR : Mk K R fRI := A.m_fRI.make A.cR
  have Gback : Callee P w K mg base 6 fB ["first", "wanted", "steps"] (spBack C) := A.t_fB.callee (fun _ _ _ _ _ _ us hl => match us, hl with | [_, _, _], _ => rfl) fun F => ok_back F T0 TRo TR TK MR GRI.ex Gone Ggo Gno Gtm
  have GallB : Callee P w K mg base 6 fAB ["wanted", "steps"] (spAllBack C) := A.t_fAB.callee (fun _ _ _ _ _ _ us hl => match us, hl with | [_, _], _ => rfl) fun F => ok_allBack F T0 TRo TK MR GRI.ex Ggo Gno Gtm
  have Gld : Callee P w K mg base 3 fLd ["step", "state", "least"] (spLeads C K) := A.t_fLd.callee (fun _ _ _ _ _ _ us hl => match us, hl with | [_, _, _], _ => rfl) fun F => ok_leads F TS TR Gcan Gbeh Gone
  have Gway : Callee P w K mg base 4 fW ["first", "rounds", "steps"] (spWay C) := A.t_fW.callee (fun _ _ _ _ _ _ us hl => match us, hl with | [_, _, _], _ => rfl) fun F => ok_way F T0 TS (PySem.W.mg_of X G A.t_fLd.at_) Gbeh Gld
  have Gmt : Callee P w K mg base 2 fMT ["state", "before", "found_by"] spMoreThan := A.t_fMT.callee (fun _ _ _ _ _ _ us hl => match us, hl with | [_, _, _], _ => rfl) fun F => ok_moreThan F TS Ghas
  have Gall : Callee P w K mg base 3 fL ["first", "steps"] (spLookAll C) := A.t_fL.callee (fun _ _ _ _ _ _ us hl => match us, hl with | [_, _], _ => rfl) fun F => ok_lookAll F T0 TS TQ Gcan Gbeh Gmt
  have Gst : Callee P w K mg base 3 fSt ["states", "steps"] (spStuck C) := A.t_fSt.callee (fun _ _ _ _ _ _ us hl => match us, hl with | [_, _], _ => rfl) fun F => ok_stuck F T0 TS Gcan
  have S0 : MethOk P w K mg base 1 S "__init__" gS0 ["self"] (spSeInit S) := A.m_gS0.meth (fun _ _ _ _ _ _ us hl => match us, hl with | [_], _ => rfl) fun F => ok_seInit F T
  have S1 : MethOk P w K mg base 1 S "fits" gS1 ["self", "row", "most"] (spFits S) := A.m_gS1.meth (fun _ _ _ _ _ _ us hl => match us, hl with | [_, _, _], _ => rfl) fun F => ok_fits F T0 T
  have S2 : MethOk P w K mg base 1 S "begin" gS2 ["self", "stocks"] (spBegin S) := A.m_gS2.meth (fun _ _ _ _ _ _ us hl => match us, hl with | [_, _], _ => rfl) fun F => ok_begin F T
  have MC : Mk K C fSI := A.m_fSI.make A.cC
  have S3 : MethOk P w K mg base 3 S "add_step" gS3 ["self", "takes", "gives"] (spAdd S C) := A.m_gS3.meth (fun _ _ _ _ _ _ us hl => match us, hl with | [_, _, _], _ => rfl) fun F => ok_add F T0 T TS S1 MC GSI.ex
  have S4 : MethOk P w K mg base 3 S "do_step" gS4 ["self", "number", "state"] (spDo S C) := A.m_gS4.meth (fun _ _ _ _ _ _ us hl => match us, hl with | [_, _, _], _ => rfl) fun F => ok_do F T0 T TS S1 Gcan Gbeh
  have S5 : MethOk P w K mg base 7 S "least" gS5 ["self", "first", "wanted"] (spLeast S C) := A.m_gS5.meth (fun _ _ _ _ _ _ us hl => match us, hl with | [_, _, _], _ => rfl) fun F => ok_least F T0 T S1 Gback
  have S6 : MethOk P w K mg base 7 S "way" gS6 ["self", "first", "wanted"] (spWayC S C) := A.m_gS6.meth (fun _ _ _ _ _ _ us hl => match us, hl with | [_, _, _], _ => rfl) fun F => ok_wayC F T0 T S1 Gback Gway
  have S7 : MethOk P w K mg base 4 S "many" gS7 ["self", "first"] (spMany S C) := A.m_gS7.meth (fun _ _ _ _ _ _ us hl => match us, hl with | [_, _], _ => rfl) fun F => ok_many F T0 T S1 Gall
  have S8 : MethOk P w K mg base 4 S "stuck" gS8 ["self", "first"] (spStuckC S C) := A.m_gS8.meth (fun _ _ _ _ _ _ us hl => match us, hl with | [_, _], _ => rfl) fun F => ok_stuckC F T0 T S1 Gall Gst
  have S9 : MethOk P w K mg base 7 S "always" gS9 ["self", "first", "wanted"] (spAlways S C) := A.m_gS9.meth (fun _ _ _ _ _ _ us hl => match us, hl with | [_, _, _], _ => rfl) fun F => ok_always F T0 T S1 Gall GallB Gone
  have S10 : MethOk P w K mg base 3 S "keeps" gS10 ["self", "weights"] (spKeeps S C) := A.m_gS10.meth (fun _ _ _ _ _ _ us hl => match us, hl with | [_, _], _ => rfl) fun F => ok_keeps F T0 T TS S1 Gks
  have R0 : MethOk P w K mg base 1 D "__init__" gR0 ["self", "numbers"] (spRdInit D) := A.m_gR0.meth (fun _ _ _ _ _ _ us hl => match us, hl with | [_, _], _ => rfl) fun F => ok_rdInit F TD
  have R1 : MethOk P w K mg base 1 D "is_through" gR1 ["self"] (spThrough D K) := A.m_gR1.meth (fun _ _ _ _ _ _ us hl => match us, hl with | [_], _ => rfl) fun F => ok_through F T0 TD
  have R2 : MethOk P w K mg base 1 D "read_number" gR2 ["self"] (spNumber D K) := A.m_gR2.meth (fun _ _ _ _ _ _ us hl => match us, hl with | [_], _ => rfl) fun F => ok_number F TD
  have R3 : MethOk P w K mg base 2 D "read_row" gR3 ["self"] (spRow D K) := A.m_gR3.meth (fun _ _ _ _ _ _ us hl => match us, hl with | [_], _ => rfl) fun F => ok_row F TD R2
  have A0 : Callee P w K mg base 8 f0 ["session", "reader"] (spABegin S D K) := A.t_f0.callee (fun _ _ _ _ _ _ us hl => match us, hl with | [_, _], _ => rfl) fun F => ok_aBegin F T TD R2 S2
  have A1 : Callee P w K mg base 8 f1 ["session", "reader"] (spA2 S C D K .step) := A.t_f1.callee (fun _ _ _ _ _ _ us hl => match us, hl with | [_, _], _ => rfl) fun F => ok_aStep F T TD R3 S3
  have A2 : Callee P w K mg base 8 f2 ["session", "reader"] (spADo S C D K) := A.t_f2.callee (fun _ _ _ _ _ _ us hl => match us, hl with | [_, _], _ => rfl) fun F => ok_aDo F T TD R2 R3 S4
  have A3 : Callee P w K mg base 8 f3 ["session", "reader"] (spA2 S C D K .least) := A.t_f3.callee (fun _ _ _ _ _ _ us hl => match us, hl with | [_, _], _ => rfl) fun F => ok_aLeast F T TD R3 S5
  have A4 : Callee P w K mg base 8 f4 ["session", "reader"] (spA2 S C D K .way) := A.t_f4.callee (fun _ _ _ _ _ _ us hl => match us, hl with | [_, _], _ => rfl) fun F => ok_aWay F T TD R3 S6
  have A5 : Callee P w K mg base 8 f5 ["session", "reader"] (spA1 S C D K isNat fun xs => .many (toN xs)) := A.t_f5.callee (fun _ _ _ _ _ _ us hl => match us, hl with | [_, _], _ => rfl) fun F => ok_aMany F T TD R3 S7
  have A6 : Callee P w K mg base 8 f6 ["session", "reader"] (spA1 S C D K isNat fun xs => .stuck (toN xs)) := A.t_f6.callee (fun _ _ _ _ _ _ us hl => match us, hl with | [_, _], _ => rfl) fun F => ok_aStuck F T TD R3 S8
  have A7 : Callee P w K mg base 8 f7 ["session", "reader"] (spA2 S C D K .always) := A.t_f7.callee (fun _ _ _ _ _ _ us hl => match us, hl with | [_, _], _ => rfl) fun F => ok_aAlways F T TD R3 S9
  have A8 : Callee P w K mg base 8 f8 ["session", "reader"] (spA1 S C D K (fun _ => True) fun xs => .keeps xs) := A.t_f8.callee (fun _ _ _ _ _ _ us hl => match us, hl with | [_, _], _ => rfl) fun F => ok_aKeeps F T TD R3 S10
  exact ok_top Ft T0 T TD TT (A.m_gS0.make A.cS) S0.ex (A.m_gR0.make A.cD) R0.ex R1 R2 ⟨A0, A1, A2, A3, A4, A5, A6, A7, A8⟩
end SR
end
section
section
set_option Elab.async false
set_option linter.all false
set_option maxRecDepth 100000
set_option maxHeartbeats 2000000
namespace L2
open PySem PySem.Spec PyProof.Rows
open PySem.W (WData Codec OpenSpec Well WellAll ReadsW ReadsAllW)
/-! ### an answer as data -/
mutual
/-- x stands for the datum d, lists and tuples all the way -/
inductive Dw (K : PySem.W.Frag) (H : Hp) : V → WData → Prop
  | non : Dw K H .non .none
  | bl (b : Bool) : Dw K H (.bl b) (.bool b)
  | int (i : Int) : Dw K H (.int i) (.int i)
  | str (x : Str) : Dw K H (.str x) (.str x)
  | byt (b : Array UInt8) : Dw K H (.byt b) (.bytes b.toList)
  | lst {a : Addr} {xs : List V} {ds : List WData} : SqL K H a xs → DwAll K H xs ds → Dw K H (.ref a) (.list ds)
  | tup {a : Addr} {xs : List V} {ds : List WData} : SqT K H a xs → DwAll K H xs ds → Dw K H (.ref a) (.tuple ds)
inductive DwAll (K : PySem.W.Frag) (H : Hp) : List V → List WData → Prop
  | nil : DwAll K H [] []
  | cons {v : V} {vs : List V} {d : WData} {ds : List WData} : Dw K H v d → DwAll K H vs ds → DwAll K H (v :: vs) (d :: ds)
end
theorem dw_ints {K : PySem.W.Frag} {H : Hp} : ∀ ns : List Int, DwAll K H (ns.map V.int) (ns.map WData.int)
  | [] => .nil
  | n :: r => .cons (.int n) (dw_ints r)
theorem ints_dw {K : PySem.W.Frag} {H : Hp} : ∀ (ns : List Int) (xs : List V), DwAll K H xs (ns.map WData.int) → xs = ns.map V.int
  | [], xs, h => by
    cases h
    rfl
  | n :: r, xs, h => by
    cases h with
    | cons h1 h2 =>
      cases h1
      rw [ints_dw r _ h2] <;> rfl
section
variable {P : Program} {w : World} {K : PySem.W.Frag} {H : Hp} {h : Heap} {R : PySem.W.WRecords} {cl : Str → Option Addr}
theorem sqL_at {a : Addr} {xs : List V} (hok : HOk P w H h) (KX : K.In h) (q : SqL K H a xs) : ∃ (its : List Value) (o : Obj) (n : Nat), Vals xs its ∧ h.get? a = some o ∧ o.cls = .type "list" ∧ o.data = .seq its.toArray n := by
  rcases q with q | ⟨o, its, n, e, hc, _, hd, _, hv⟩
  · obtain ⟨_, its, n, hv, e⟩ := (show ObjOk P w H h a (.lst xs) from q.ok hok)
    exact ⟨its, _, n, hv, e, rfl, rfl⟩
  · exact ⟨its.toList, o, n, hv, KX _ _ e, hc, by simp [hd]⟩
theorem sqT_at {a : Addr} {xs : List V} (hok : HOk P w H h) (KX : K.In h) (q : SqT K H a xs) : ∃ (its : List Value) (o : Obj) (n : Nat), Vals xs its ∧ h.get? a = some o ∧ o.cls = .type "tuple" ∧ o.data = .seq its.toArray n := by
  rcases q with q | ⟨o, its, n, e, hc, hd, _, hv⟩
  · obtain ⟨_, its, hv, o, e, hc, n, hd⟩ := (show ObjOk P w H h a (.tup xs) from q.ok hok)
    exact ⟨its, o, n, hv, e, hc, hd⟩
  · exact ⟨its.toList, o, n, hv, KX _ _ e, hc, by simp [hd]⟩
mutual
theorem Dw.reads (hok : HOk P w H h) (KX : K.In h) : ∀ (d : WData) (v : V) (u : Value), Dw K H v d → RelV v u → ∃ as, ReadsW R cl h u d as
  | .none, _, _, x, r => by
    cases x
    cases r
    exact ⟨_, ReadsW.none⟩
  | .bool b, _, _, x, r => by
    cases x
    cases r
    exact ⟨_, ReadsW.bool b⟩
  | .int i, _, _, x, r => by
    cases x
    obtain ⟨t, rfl⟩ := r
    exact ⟨_, ReadsW.int i t⟩
  | .str s, _, _, x, r => by
    cases x
    obtain ⟨t, rfl⟩ := r
    exact ⟨_, ReadsW.str s t⟩
  | .bytes b, _, _, x, r => by
    cases x
    obtain ⟨t, rfl⟩ := r
    exact ⟨_, ReadsW.bytes _ t⟩
  | .list ds, _, _, x, r => by
    cases x with
    | lst hs ha =>
      cases r
      obtain ⟨its, o, n, rv, ho, hc, hd⟩ := sqL_at hok KX hs
      obtain ⟨as, hr⟩ := Dw.readsAll hok KX ds _ its ha rv
      exact ⟨_, ReadsW.list ho hc hd hr⟩
  | .tuple ds, _, _, x, r => by
    cases x with
    | tup hs ha =>
      cases r
      obtain ⟨its, o, n, rv, ho, hc, hd⟩ := sqT_at hok KX hs
      obtain ⟨as, hr⟩ := Dw.readsAll hok KX ds _ its ha rv
      exact ⟨_, ReadsW.tuple ho hc hd hr⟩
  | .float _, _, _, x, _ => by cases x
  | .dict _, _, _, x, _ => by cases x
  | .bytearray _, _, _, x, _ => by cases x
  | .set _, _, _, x, _ => by cases x
  | .frozenset _, _, _, x, _ => by cases x
  | .obj _ _, _, _, x, _ => by cases x
theorem Dw.readsAll (hok : HOk P w H h) (KX : K.In h) : ∀ (ds : List WData) (vs : List V) (us : List Value), DwAll K H vs ds → Vals vs us → ∃ as, ReadsAllW R cl h us ds as
  | [], _, _, x, r => by
    cases x
    cases r
    exact ⟨_, ReadsAllW.nil⟩
  | d :: ds, _, _, x, r => by
    cases x with
    | cons h1 h2 =>
      cases r with
      | cons r1 r2 =>
        obtain ⟨as, q1⟩ := Dw.reads hok KX d _ _ h1 r1
        obtain ⟨bs, q2⟩ := Dw.readsAll hok KX ds _ _ h2 r2
        exact ⟨_, ReadsAllW.cons q1 q2⟩
end
end
/-! ### the arguments -/
mutual
/-- data that a codec tells -/
def plW : WData → Bool
  | .none => true
  | .bool _ => true
  | .int _ => true
  | .str _ => true
  | .bytes _ => true
  | .list xs => plWs xs
  | .tuple xs => plWs xs
  | _ => false
def plWs : List WData → Bool
  | [] => true
  | x :: r => plW x && plWs r
end
theorem plWs_map {α : Type} {f : α → WData} (h : ∀ a, plW (f a) = true) : ∀ l : List α, plWs (l.map f) = true
  | [] => rfl
  | x :: r => by
    show (plW (f x) && plWs (r.map f)) = true
    rw [h x, plWs_map h r] <;> rfl
theorem pl_enc : ∀ (c : Codec) (a : c.denote), plW (c.enc a) = true
  | .unit, _ => rfl
  | .bool, _ => rfl
  | .int _ _, _ => rfl
  | .nat _ _, _ => rfl
  | .u8, _ => rfl
  | .bytes _ _, _ => rfl
  | .text _ _ _ _, _ => rfl
  | .list _ _ c, a => plWs_map (fun x => pl_enc c x) a
  | .pair c d, a => by
    show (plW (c.enc a.1) && (plW (d.enc a.2) && true)) = true
    rw [pl_enc c a.1, pl_enc d a.2] <;> rfl
  | .triple c d e, a => by
    show (plW (c.enc a.1) && (plW (d.enc a.2.1) && (plW (e.enc a.2.2) && true))) = true
    rw [pl_enc c a.1, pl_enc d a.2.1, pl_enc e a.2.2] <;> rfl
  | .option c, none => rfl
  | .option c, some x => pl_enc c x
theorem pl_encAll : ∀ (cs : List Codec) (a : Codec.denoteAll cs), plWs (Codec.encAll cs a) = true
  | [], _ => rfl
  | c :: cs, a => by
    show (plW (c.enc a.1) && plWs (Codec.encAll cs a.2)) = true
    rw [pl_enc c a.1, pl_encAll cs a.2] <;> rfl
theorem weight_mem : ∀ {xs : List WData} {d : WData}, d ∈ xs → d.weight ≤ WData.weightAll xs
  | [], d, h => absurd h (by simp)
  | x :: r, d, h => by
    show d.weight ≤ x.weight + 1 + WData.weightAll r
    rcases List.mem_cons.mp h with e | m
    · rw [e]
      omega
    · have z := weight_mem m
      omega
def toV : Value → V
  | .none => .non
  | .bool b => .bl b
  | .int i _ => .int i
  | .str x _ => .str x
  | .bytes b _ => .byt b
  | .ref a => .ref a
  | _ => .non
/-- a value of the arguments, its objects among A -/
def OkU (A : List Addr) : Value → Prop
  | .none => True
  | .bool _ => True
  | .int _ _ => True
  | .str _ _ => True
  | .bytes _ _ => True
  | .ref a => a ∈ A
  | _ => False
theorem OkU.mono {A B : List Addr} (h : ∀ a ∈ A, a ∈ B) : ∀ {u : Value}, OkU A u → OkU B u := fun {u} x => by
  cases u with
  | ref a => exact h a x
  | none => trivial
  | bool b => trivial
  | int i t => trivial
  | str s t => trivial
  | bytes b t => trivial
  | _ => exact False.elim x
theorem relV_toV {A : List Addr} {u : Value} (x : OkU A u) : RelV (toV u) u := by
  cases u with
  | ref a => rfl
  | none => rfl
  | bool b => rfl
  | int i t => exact ⟨t, rfl⟩
  | str s t => exact ⟨t, rfl⟩
  | bytes b t => exact ⟨t, rfl⟩
  | _ => exact False.elim x
theorem vals_toV {A : List Addr} : ∀ {vs : List Value}, (∀ u ∈ vs, OkU A u) → Vals (vs.map toV) vs
  | [], _ => .nil
  | u :: r, h => .cons (relV_toV (h u (List.mem_cons_self ..))) (vals_toV fun x hx => h x (List.mem_cons_of_mem _ hx))
/-- an object of the arguments -/
def ArgOb (h : Heap) (A : List Addr) (a : Addr) : Prop := ∃ vs : List Value, vs.length ≤ sizeLine ∧ (∀ u ∈ vs, OkU A u) ∧
  (h.get? a = some { cls := .type "list", data := .seq vs.toArray } ∨ h.get? a = some { cls := .type "tuple", data := .seq vs.toArray })
theorem ArgOb.mono {h : Heap} {A B : List Addr} {a : Addr} (k : ∀ a ∈ A, a ∈ B) (x : ArgOb h A a) : ArgOb h B a := by
  obtain ⟨vs, h1, h2, h3⟩ := x
  exact ⟨vs, h1, fun u hu => (h2 u hu).mono k, h3⟩
theorem wellAll_len {P : Params} {h : Heap} : ∀ {vs : List Value} {ds : List WData}, WellAll P h vs ds → vs.length = ds.length
  | _, _, .nil => rfl
  | _, _, .cons _ b => by
    show _ + 1 = _ + 1
    rw [wellAll_len b]
theorem well_list {P : Params} {h : Heap} {v : Value} {ds : List WData} (x : Well P h v (.list ds)) : ∃ (a : Addr) (vs : List Value), v = .ref a ∧ h.get? a = some { cls := .type "list", data := .seq vs.toArray } ∧ WellAll P h vs ds := by
  cases x with
  | list ho hall => exact ⟨_, _, rfl, ho, hall⟩
theorem well_tuple {P : Params} {h : Heap} {v : Value} {ds : List WData} (x : Well P h v (.tuple ds)) : ∃ (a : Addr) (vs : List Value), v = .ref a ∧ h.get? a = some { cls := .type "tuple", data := .seq vs.toArray } ∧ WellAll P h vs ds := by
  cases x with
  | tuple ho hall => exact ⟨_, _, rfl, ho, hall⟩
theorem well_cons {P : Params} {h : Heap} {us : List Value} {d : WData} {ds : List WData} (x : WellAll P h us (d :: ds)) : ∃ (v : Value) (vs : List Value), us = v :: vs ∧ Well P h v d ∧ WellAll P h vs ds := by
  cases x with
  | cons a b => exact ⟨_, _, rfl, a, b⟩
theorem line_of {n : Nat} (h : n ≤ 1048576) : n ≤ sizeLine := Nat.le_trans h (by decide)
section
variable {P : Params} {h : Heap}
mutual
theorem area_one : ∀ (d : WData) (v : Value), Well P h v d → plW d = true → d.weight ≤ 1048576 → ∃ A : List Addr, OkU A v ∧ ∀ a ∈ A, ArgOb h A a
  | .none, _, x, _, _ => by
    cases x
    exact ⟨[], trivial, fun a m => absurd m (by simp)⟩
  | .bool b, _, x, _, _ => by
    cases x
    exact ⟨[], trivial, fun a m => absurd m (by simp)⟩
  | .int i, _, x, _, _ => by
    cases x
    exact ⟨[], trivial, fun a m => absurd m (by simp)⟩
  | .str s, _, x, _, _ => by
    cases x
    exact ⟨[], trivial, fun a m => absurd m (by simp)⟩
  | .bytes b, _, x, _, _ => by
    cases x
    exact ⟨[], trivial, fun a m => absurd m (by simp)⟩
  | .list ds, _, x, p, z => by
    obtain ⟨a, vs, rfl, ho, hall⟩ := well_list x
    have z2 : WData.weightAll ds ≤ 1048576 := z
    obtain ⟨A, h1, h2⟩ := area_all ds _ hall p fun d hd => Nat.le_trans (weight_mem hd) z2
    have k : ∀ b ∈ A, b ∈ a :: A := fun b hb => List.mem_cons_of_mem _ hb
    refine ⟨a :: A, List.mem_cons_self .., fun b hb => ?_⟩
    rcases List.mem_cons.mp hb with e | m
    · rw [e]
      exact ⟨vs, line_of (by rw [wellAll_len hall]; exact Nat.le_trans (PySem.W.length_le_weightAllW ds) z2), fun u hu => (h1 u hu).mono k, .inl ho⟩
    · exact (h2 b m).mono k
  | .tuple ds, _, x, p, z => by
    obtain ⟨a, vs, rfl, ho, hall⟩ := well_tuple x
    have z2 : WData.weightAll ds ≤ 1048576 := z
    obtain ⟨A, h1, h2⟩ := area_all ds _ hall p fun d hd => Nat.le_trans (weight_mem hd) z2
    have k : ∀ b ∈ A, b ∈ a :: A := fun b hb => List.mem_cons_of_mem _ hb
    refine ⟨a :: A, List.mem_cons_self .., fun b hb => ?_⟩
    rcases List.mem_cons.mp hb with e | m
    · rw [e]
      exact ⟨vs, line_of (by rw [wellAll_len hall]; exact Nat.le_trans (PySem.W.length_le_weightAllW ds) z2), fun u hu => (h1 u hu).mono k, .inr ho⟩
    · exact (h2 b m).mono k
  | .float _, _, _, p, _ => Bool.noConfusion (show false = true from p)
  | .dict _, _, _, p, _ => Bool.noConfusion (show false = true from p)
  | .bytearray _, _, _, p, _ => Bool.noConfusion (show false = true from p)
  | .set _, _, _, p, _ => Bool.noConfusion (show false = true from p)
  | .frozenset _, _, _, p, _ => Bool.noConfusion (show false = true from p)
  | .obj _ _, _, _, p, _ => Bool.noConfusion (show false = true from p)
theorem area_all : ∀ (ds : List WData) (vs : List Value), WellAll P h vs ds → plWs ds = true → (∀ d ∈ ds, d.weight ≤ 1048576) → ∃ A : List Addr, (∀ u ∈ vs, OkU A u) ∧ ∀ a ∈ A, ArgOb h A a
  | [], _, x, _, _ => by
    cases x
    exact ⟨[], fun u m => absurd m (by simp), fun a m => absurd m (by simp)⟩
  | d :: ds, _, x, p, z => by
    obtain ⟨v, vs, rfl, x1, x2⟩ := well_cons x
    have q : plW d = true ∧ plWs ds = true := Bool.and_eq_true_iff.mp p
    obtain ⟨A, a1, a2⟩ := area_one d v x1 q.1 (z d (List.mem_cons_self ..))
    obtain ⟨B, b1, b2⟩ := area_all ds vs x2 q.2 fun e he => z e (List.mem_cons_of_mem _ he)
    have kA : ∀ b ∈ A, b ∈ A ++ B := fun b hb => List.mem_append.mpr (.inl hb)
    have kB : ∀ b ∈ B, b ∈ A ++ B := fun b hb => List.mem_append.mpr (.inr hb)
    refine ⟨A ++ B, fun u hu => ?_, fun b hb => ?_⟩
    · rcases List.mem_cons.mp hu with e | m
      · rw [e]
        exact a1.mono kA
      · exact (b1 u m).mono kB
    · rcases List.mem_append.mp hb with m | m
      · exact (a2 b m).mono kA
      · exact (b2 b m).mono kB
end
end
/-- what is tracked of an argument's object -/
def hoOf (o : Obj) : Option HO := match o.data with
  | .seq vs _ => if (o.cls == Value.type "list") = true then some (.frz o (.lst (vs.toList.map toV))) else some (.frz o (.tup (vs.toList.map toV)))
  | _ => none
def argH (K : PySem.W.Frag) (h : Heap) (A : List Addr) : Hp := fun b => if b ∈ A then (if (K.lookup b).isNone = true then (h.get? b).bind hoOf else none) else none
/-- nothing is tracked but what is known to the object -/
def OnlyF (H : Hp) : Prop := ∀ b, H b = none ∨ ∃ o u, H b = some (.frz o u)
theorem hoOf_lst (vs : List Value) : hoOf { cls := .type "list", data := .seq vs.toArray } = some (.frz { cls := .type "list", data := .seq vs.toArray } (.lst (vs.map toV))) := by
  show (if (Value.type "list" == Value.type "list") = true then some (HO.frz { cls := .type "list", data := .seq vs.toArray } (.lst (vs.toArray.toList.map toV))) else some (HO.frz { cls := .type "list", data := .seq vs.toArray } (.tup (vs.toArray.toList.map toV)))) = _
  rw [if_pos (beq_self_eq_true _)]
theorem hoOf_tup (vs : List Value) : hoOf { cls := .type "tuple", data := .seq vs.toArray } = some (.frz { cls := .type "tuple", data := .seq vs.toArray } (.tup (vs.map toV))) := by
  show (if (Value.type "tuple" == Value.type "list") = true then some (HO.frz { cls := .type "tuple", data := .seq vs.toArray } (.lst (vs.toArray.toList.map toV))) else some (HO.frz { cls := .type "tuple", data := .seq vs.toArray } (.tup (vs.toArray.toList.map toV)))) = _
  rw [if_neg (by decide)]
section
variable {P : Program} {w : World} {K : PySem.W.Frag} {h : Heap} {A : List Addr}
theorem argH_at {b : Addr} {o : Obj} (hb : b ∈ A) (hk : K.lookup b = none) (e : h.get? b = some o) : argH K h A b = hoOf o := by
  unfold argH
  rw [if_pos hb, hk, if_pos (show (none : Option Obj).isNone = true from rfl), e] <;> rfl
theorem of_argH {b : Addr} {u : HO} (q : argH K h A b = some u) : b ∈ A ∧ K.lookup b = none := by
  unfold argH at q
  by_cases hb : b ∈ A
  · rw [if_pos hb] at q
    cases hk : K.lookup b with
    | none => exact ⟨hb, rfl⟩
    | some o =>
      rw [hk, if_neg (by simp)] at q
      cases q
  · rw [if_neg hb] at q
    cases q
/-- what stands tracked -/
theorem argH_is (ar : ∀ a ∈ A, ArgOb h A a) {b : Addr} {u : HO} (q : argH K h A b = some u) : K.lookup b = none ∧ ∃ vs : List Value, vs.length ≤ sizeLine ∧ (∀ u ∈ vs, OkU A u) ∧
    ((h.get? b = some { cls := .type "list", data := .seq vs.toArray } ∧ u = .frz { cls := .type "list", data := .seq vs.toArray } (.lst (vs.map toV))) ∨
     (h.get? b = some { cls := .type "tuple", data := .seq vs.toArray } ∧ u = .frz { cls := .type "tuple", data := .seq vs.toArray } (.tup (vs.map toV)))) := by
  obtain ⟨hb, hk⟩ := of_argH q
  obtain ⟨vs, h1, h2, h3⟩ := ar b hb
  refine ⟨hk, vs, h1, h2, ?_⟩
  rcases h3 with e | e
  · rw [argH_at hb hk e, hoOf_lst] at q
    exact .inl ⟨e, (Option.some.inj q).symm⟩
  · rw [argH_at hb hk e, hoOf_tup] at q
    exact .inr ⟨e, (Option.some.inj q).symm⟩
theorem argH_only (ar : ∀ a ∈ A, ArgOb h A a) : OnlyF (argH K h A) := fun b => by
  cases q : argH K h A b with
  | none => exact .inl rfl
  | some u =>
    obtain ⟨_, vs, _, _, ⟨_, e⟩ | ⟨_, e⟩⟩ := argH_is ar q
    · exact .inr ⟨_, _, by rw [e]⟩
    · exact .inr ⟨_, _, by rw [e]⟩
theorem argH_ok (ar : ∀ a ∈ A, ArgOb h A a) : HOk P w (argH K h A) h := fun b u q => by
  obtain ⟨_, vs, h1, h2, ⟨e, rfl⟩ | ⟨e, rfl⟩⟩ := argH_is ar q
  · exact ⟨e, by rw [List.length_map]; exact h1, vs, _, vals_toV h2, e⟩
  · exact ⟨e, by rw [List.length_map]; exact h1, vs, vals_toV h2, _, e, rfl, _, rfl⟩
theorem seq_inj {c c' : Value} {vs us : List Value} (e : (some { cls := c, data := .seq vs.toArray } : Option Obj) = some { cls := c', data := .seq us.toArray }) : c = c' ∧ vs = us := by
  have e1 := Option.some.inj e
  have e2 : c = c' := congrArg Obj.cls e1
  have e3 : Data.seq vs.toArray = Data.seq us.toArray := congrArg Obj.data e1
  injection e3 with e4
  refine ⟨e2, ?_⟩
  have e5 := congrArg Array.toList e4
  simpa using e5
/-- a list argument -/
theorem argL (KX : K.In h) (ar : ∀ a ∈ A, ArgOb h A a) {a : Addr} {vs : List Value} (ha : a ∈ A) (e : h.get? a = some { cls := .type "list", data := .seq vs.toArray }) : (∀ u ∈ vs, OkU A u) ∧ SqL K (argH K h A) a (vs.map toV) := by
  obtain ⟨us, h1, h2, h3⟩ := ar a ha
  have hu : us = vs := by
    rcases h3 with q | q
    · rw [e] at q
      exact (seq_inj q).2.symm
    · rw [e] at q
      exact absurd (Value.type.inj (seq_inj q).1) (by decide)
  subst hu
  refine ⟨h2, ?_⟩
  cases hk : K.lookup a with
  | none => exact .inl (.inr ⟨_, by rw [argH_at ha hk e, hoOf_lst]⟩)
  | some o =>
    have e2 := KX a o hk
    rw [e] at e2
    obtain rfl := Option.some.inj e2
    exact .inr ⟨_, us.toArray, _, hk, rfl, rfl, rfl, by rw [List.size_toArray]; exact h1, by simpa using vals_toV h2⟩
theorem argT (KX : K.In h) (ar : ∀ a ∈ A, ArgOb h A a) {a : Addr} {vs : List Value} (ha : a ∈ A) (e : h.get? a = some { cls := .type "tuple", data := .seq vs.toArray }) : (∀ u ∈ vs, OkU A u) ∧ SqT K (argH K h A) a (vs.map toV) := by
  obtain ⟨us, h1, h2, h3⟩ := ar a ha
  have hu : us = vs := by
    rcases h3 with q | q
    · rw [e] at q
      exact absurd (Value.type.inj (seq_inj q).1) (by decide)
    · rw [e] at q
      exact (seq_inj q).2.symm
  subst hu
  refine ⟨h2, ?_⟩
  cases hk : K.lookup a with
  | none => exact .inl (.inr ⟨_, by rw [argH_at ha hk e, hoOf_tup]⟩)
  | some o =>
    have e2 := KX a o hk
    rw [e] at e2
    obtain rfl := Option.some.inj e2
    exact .inr ⟨_, us.toArray, _, hk, rfl, rfl, by rw [List.size_toArray]; exact h1, by simpa using vals_toV h2⟩
mutual
theorem dw_one {Pm : Params} (KX : K.In h) (ar : ∀ a ∈ A, ArgOb h A a) : ∀ (d : WData) (v : Value), Well Pm h v d → plW d = true → OkU A v → Dw K (argH K h A) (toV v) d
  | .none, _, x, _, _ => by
    cases x
    exact .non
  | .bool b, _, x, _, _ => by
    cases x
    exact .bl b
  | .int i, _, x, _, _ => by
    cases x
    exact .int i
  | .str s, _, x, _, _ => by
    cases x
    exact .str s
  | .bytes b, _, x, _, _ => by
    cases x
    have z := Dw.byt (K := K) (H := argH K h A) b.toArray
    exact z
  | .list ds, _, x, p, hu => by
    obtain ⟨a, vs, rfl, ho, hall⟩ := well_list x
    obtain ⟨h2, hs⟩ := argL KX ar hu ho
    exact .lst hs (dw_all KX ar ds _ hall p h2)
  | .tuple ds, _, x, p, hu => by
    obtain ⟨a, vs, rfl, ho, hall⟩ := well_tuple x
    obtain ⟨h2, hs⟩ := argT KX ar hu ho
    exact .tup hs (dw_all KX ar ds _ hall p h2)
  | .float _, _, _, p, _ => Bool.noConfusion (show false = true from p)
  | .dict _, _, _, p, _ => Bool.noConfusion (show false = true from p)
  | .bytearray _, _, _, p, _ => Bool.noConfusion (show false = true from p)
  | .set _, _, _, p, _ => Bool.noConfusion (show false = true from p)
  | .frozenset _, _, _, p, _ => Bool.noConfusion (show false = true from p)
  | .obj _ _, _, _, p, _ => Bool.noConfusion (show false = true from p)
theorem dw_all {Pm : Params} (KX : K.In h) (ar : ∀ a ∈ A, ArgOb h A a) : ∀ (ds : List WData) (vs : List Value), WellAll Pm h vs ds → plWs ds = true → (∀ u ∈ vs, OkU A u) → DwAll K (argH K h A) (vs.map toV) ds
  | [], _, x, _, _ => by
    cases x
    exact .nil
  | d :: ds, _, x, p, hu => by
    obtain ⟨v, vs, rfl, x1, x2⟩ := well_cons x
    have q : plW d = true ∧ plWs ds = true := Bool.and_eq_true_iff.mp p
    exact .cons (dw_one KX ar d v x1 q.1 (hu _ (List.mem_cons_self ..))) (dw_all KX ar ds vs x2 q.2 fun u m => hu u (List.mem_cons_of_mem _ m))
end
end
/-! ### the call -/
theorem spec_call {P : Program} {w : World} {K : PySem.W.Frag} {mg mb : Str → Option Value} {CX : CXT} {k : Nat} {fa : Addr} {fd : FuncData} {ps : List Str} {sp : Sp} {s₁ : Shared} {vals : List Value} {ds : List WData} {R : PySem.W.WRecords} {cl : Str → Option Addr} {d0 : WData}
    (KX : K.In s₁.heap) (hns : s₁.heap.Ns mainGlobals mg) (hb : s₁.heap.Ns builtinsNs mb) (hbb : ∀ x : Str, x ≠ "__name__" → mb x = bootBuiltins x) (hlim : s₁.heap.NoLimit) (hg : s₁.gens = #[])
    (hwl : WellAll w.params s₁.heap vals ds) (hpl : plWs ds = true) (hwt : ∀ d ∈ ds, d.weight ≤ 1048576) (hr : Room k callerA)
    (F : ∀ base : Heap, K.In base → base.Ns mainGlobals mg → FnOk P w K mg base CX k fa fd ps sp) (hbind : ∀ (s : Shared) (us : List Value), us.length = ps.length → BindsTo s fd ⟨us, []⟩ (ps.zip us)) (hlen : ds.length = ps.length)
    (hsp : ∀ (H : Hp) (xs : List V), OnlyF H → DwAll K H xs ds → sp xs H (fun v H' => Dw K H' v d0) fun _ _ _ => False)
    (hCX : ∀ H e s', CX [] H s₁ (fun _ _ _ => False) e s' → False) :
    codeAny (model P w) callerA (.call (.ref fa) ⟨vals, []⟩) (fun r s' => ∃ u as, r = .ok (.ret u) ∧ ReadsW R cl s'.heap u d0 as ∧ OldK s₁.heap s'.heap ∧ s'.os = s₁.os ∧ AllBare s'.gens) s₁ := by
  obtain ⟨A, ho, ar⟩ := area_all ds vals hwl hpl hwt
  have hO : OnlyF (argH K s₁.heap A) := argH_only ar
  have hok : HOk P w (argH K s₁.heap A) s₁.heap := argH_ok ar
  have hS := dw_all KX ar ds vals hwl hpl ho
  have hV := vals_toV ho
  have hK : ∀ b u, argH K s₁.heap A b = some u → K.lookup b = none := fun b u q => (argH_is ar q).1
  have noA : ∀ {b : Addr} {o : Obj} {es : Array DictEntry} {ep : Nat}, s₁.heap.get? b = some o → o.data = .dict es ep → argH K s₁.heap A b = none := fun {b o es ep} e d => by
    cases q : argH K s₁.heap A b with
    | none => rfl
    | some u =>
      obtain ⟨_, vs, _, _, ⟨e2, _⟩ | ⟨e2, _⟩⟩ := argH_is ar q
      · rw [e2] at e
        cases e
        have d' : Data.seq vs.toArray _ = Data.dict es ep := d
        cases d'
      · rw [e2] at e
        cases e
        have d' : Data.seq vs.toArray _ = Data.dict es ep := d
        cases d'
  generalize argH K s₁.heap A = H at hO hok hS hK noA
  have base_of : ∀ {b : Addr} {o : Obj}, s₁.heap.get? b = some o → H b = none → (hidT s₁.heap H).get? b = some o := fun e n => hidT_get e n
  have nsK : ∀ {b : Addr} {m : Str → Option Value}, s₁.heap.Ns b m → (hidT s₁.heap H).Ns b m := fun {b m} ⟨o, es, ep, e, d, r⟩ => ⟨o, es, ep, base_of e (noA e d), d, r⟩
  have nK : ∀ b o, K.lookup b = some o → H b = none := fun b o e => by
    cases q : H b with
    | none => rfl
    | some u =>
      rw [hK b u q] at e
      cases e
  have hKb : K.In (hidT s₁.heap H) := fun b o e => base_of (KX b o e) (nK b o e)
  have hM : Mod K mg (hidT s₁.heap H) := ⟨hKb, nsK hns, ⟨mb, nsK hb, hbb⟩, let ⟨mc, h1, h2⟩ := hlim; ⟨mc, nsK h1, h2⟩⟩
  have e0 : Env0 P w K mg (hidT s₁.heap H) callerA [] s₁ H := ⟨rfl, hM, fun b o e => of_hidT e, Nat.le_of_eq (hidT_size _ _), trivial, fun b hb => absurd (show b ∈ ([] : List Addr) from hb) (by simp), hok, .of_eq hg⟩
  have hl : vals.length = ps.length := by rw [wellAll_len hwl]; exact hlen
  refine codeAny_mono ((F _ hKb (nsK hns)).run callerA [] s₁ H ⟨vals, []⟩ vals (vals.map toV) _ _ hr e0 (hbind s₁ vals hl) hV (hsp H _ hO hS)) fun r s' x => ?_
  cases r with
  | error e => exact (hCX H e s' x).elim
  | ok fl =>
    cases fl with
    | next => exact False.elim x
    | brk => exact False.elim x
    | cont => exact False.elim x
    | ret u =>
      obtain ⟨v, H', os, bare, un, hok', r', q⟩ := x
      have kept : ∀ b o, s₁.heap.get? b = some o → s'.heap.get? b = some o := fun b o e => by
        cases q2 : H b with
        | none => exact un.keep b o e q2 (by intro z; exact absurd (show b ∈ ([] : List Addr) from z) (by simp)) (by simp)
        | some u2 =>
          rcases hO b with z | ⟨ob, u3, z⟩
          · rw [q2] at z
            cases z
          · have z2 := un.frzs b ob _ z
            obtain ⟨e1, _⟩ := hok b _ z
            obtain ⟨e2, _⟩ := hok' b _ z2
            rw [e] at e1
            cases e1
            exact e2
      have KX' : K.In s'.heap := fun b o e => kept b o (KX b o e)
      obtain ⟨as, hrd⟩ := Dw.reads (R := R) (cl := cl) hok' KX' d0 v u q r'
      exact ⟨u, as, rfl, hrd, OldK.of_keep kept, os, bare⟩
/-! ### the row -/
theorem layable_weight {ds : List WData} (h : WData.layableAll ds = true) : ∀ d ∈ ds, d.weight ≤ 1048576 := fun d hd =>
  (PySem.W.layableW_iff.mp (List.all_eq_true.mp h d hd)).2.2
theorem encAll_len : ∀ (cs : List Codec) (a : Codec.denoteAll cs), (Codec.encAll cs a).length = cs.length
  | [], _ => rfl
  | c :: cs, a => by
    show (Codec.encAll cs a.2).length + 1 = cs.length + 1
    rw [encAll_len cs a.2]
/-- the goal that k_headS leaves (case hc), from the promise of the row's def: whatever the arguments that the codecs let and the row asks for, the def gives what stands for enc (f ..) -/
theorem walk_spec {r : OpenSpec} {k : Nat} {q : Program} {loose : List Str} {XP : (Str → Option Value) → Heap → Prop} {YP : World → Heap → Prop} {d : DefRec} {K : Params → PySem.W.Frag} {CX : World → CXT} {ps : List Str} {sp : World → Sp}
    (hwell : r.wellSaid = true) (hdf : d.params.defaults = []) (hlen : r.args.length = ps.length) (hr : Room k callerA)
    (hY : ∀ (w : World) (h : Heap), YP w h → (K w.params).In h)
    (F : ∀ (w : World) (mg : Str → Option Value) (fa : Addr) (h : Heap), YP w h → (K w.params).In h → h.Ns mainGlobals mg → mg d.name = some (.ref fa) →
      ∃ fd : FuncData, (∀ (s : Shared) (us : List Value), us.length = ps.length → BindsTo s fd ⟨us, []⟩ (ps.zip us)) ∧
        ∀ base : Heap, (K w.params).In base → base.Ns mainGlobals mg → FnOk r.prog w (K w.params) mg base (CX w) k fa fd ps (sp w))
    (hsp : ∀ (w : World) (H : Hp) (xs : List V) (a : Codec.denoteAll r.args), OnlyF H → Codec.withinAll r.args a = true → Codec.app r.args r.asked a = true → DwAll (K w.params) H xs (Codec.encAll r.args a) →
      sp w xs H (fun v H' => Dw (K w.params) H' v (r.ret.enc (Codec.app r.args r.f a))) fun _ _ _ => False)
    (hCX : ∀ (w : World) (H : Hp) (s : Shared) (e : Value) (s' : Shared), CX w [] H s (fun _ _ _ => False) e s' → False) :
    PySem.W.WalkOS q loose XP YP r d [] (fun f vs => PySem.call f vs) := by
  intro w s_0 s₁ mg mb G Y fa o pm cd doc dV kV ho hd hcd hD hmg hg args vals as hpre hlay hrd hwl hlo
  obtain ⟨a, e1, e2⟩ := PySem.W.os_pre_some hpre
  obtain ⟨e3, hwi⟩ := Codec.encAll_of_decAll r.args args a e1
  subst e3
  have KX := hY w _ Y
  obtain ⟨fd, hb, hF⟩ := F w mg fa _ Y KX G.T.g hmg
  refine PySem.W.enter_call (codeAny_mono (spec_call (R := []) (cl := classAt s_0.heap) (d0 := r.ret.enc (Codec.app r.args r.f a)) KX G.T.g G.T.b G.T.builtins G.T.nolimit hg hwl (pl_encAll _ _) (layable_weight hlay) hr hF hb (by rw [encAll_len]; exact hlen)
    (fun H xs hO hS => hsp w H xs a hO hwi e2 hS) fun H e s' => hCX w H s₁ e s') fun r' s' hq => ?_)
  obtain ⟨u, as', rfl, h1, h2, h3, h4⟩ := hq
  exact ⟨.inl ⟨u, _, as', rfl, fun _ => rfl, h1, (OpenSpec.post_iff hwell hwi _ _).mpr rfl, fun z => Bool.noConfusion (show false = true from z)⟩, h2, h3, h4⟩
/-- the same where the promise hangs on the written part alone -/
theorem walk_specK {r : OpenSpec} {k : Nat} {q : Program} {loose : List Str} {XP : (Str → Option Value) → Heap → Prop} {YP : World → Heap → Prop} {d : DefRec} {K : Params → PySem.W.Frag} {CX : CXT} {ps : List Str} {sp : PySem.W.Frag → Sp}
    (hwell : r.wellSaid = true) (hdf : d.params.defaults = []) (hlen : r.args.length = ps.length) (hr : Room k callerA)
    (hY : ∀ (w : World) (h : Heap), YP w h → (K w.params).In h)
    (F : ∀ (w : World) (mg : Str → Option Value) (fa : Addr) (h : Heap), YP w h → (K w.params).In h → h.Ns mainGlobals mg → mg d.name = some (.ref fa) →
      ∃ fd : FuncData, (∀ (s : Shared) (us : List Value), us.length = ps.length → BindsTo s fd ⟨us, []⟩ (ps.zip us)) ∧
        ∀ base : Heap, (K w.params).In base → base.Ns mainGlobals mg → FnOk r.prog w (K w.params) mg base CX k fa fd ps (sp (K w.params)))
    (hsp : ∀ (K : PySem.W.Frag) (H : Hp) (xs : List V) (a : Codec.denoteAll r.args), OnlyF H → Codec.withinAll r.args a = true → Codec.app r.args r.asked a = true → DwAll K H xs (Codec.encAll r.args a) →
      sp K xs H (fun v H' => Dw K H' v (r.ret.enc (Codec.app r.args r.f a))) fun _ _ _ => False)
    (hCX : ∀ (H : Hp) (s : Shared) (e : Value) (s' : Shared), CX [] H s (fun _ _ _ => False) e s' → False) :
    PySem.W.WalkOS q loose XP YP r d [] (fun f vs => PySem.call f vs) :=
  walk_spec (K := K) (CX := fun _ => CX) (sp := fun w => sp (K w.params)) hwell hdf hlen hr hY F (fun w H xs a h1 h2 h3 h4 => hsp (K w.params) H xs a h1 h2 h3 h4) fun _ H s e s' => hCX H s e s'
end L2
end
end
set_option Elab.async false
set_option linter.all false
open PySem PySem.W PyProof.Rows
/- The head writes out what the program's top leaves, and makes itself a shortcut (a definition and its equation) for each thing written out. Five of these shortcuts (of the heap as it is held, the heap at the end, and three of the states between) take most of the file's compiled form, and the head comes through as soon without them. Their names are taken here, so that it goes without. -/
def PySem.W.Fast.tw10740285710619435520 : Unit := ()
def PySem.W.Fast.tw13223924132495871382 : Unit := ()
def PySem.W.Fast.tw10732290789844152062 : Unit := ()
def PySem.W.Fast.tw15813720080406670147 : Unit := ()
def PySem.W.Fast.tw18172936961151491584 : Unit := ()
set_option maxRecDepth 100000 in
set_option maxHeartbeats 0 in
theorem PySem.Challenge.cw_stockruns_s01_answers_holds : PySem.Challenge.rw_stockruns_s01_answers.Holds := by
  w_on; k_headS; (case hw => exact ⟨[.list [.int 0, .int 1]], by decide +kernel, by decide +kernel⟩)
  k_fillS
  refine L2.walk_specK (r := PySem.Challenge.rw_stockruns_s01_answers) (k := 9) (CX := L2.CX0) (ps := ["calls"]) (sp := SR.spTop) (by decide +kernel) rfl rfl ⟨rfl, by decide, by decide⟩ (fun w h Y => PySem.W.kIn_of Y) ?F ?S (fun _ _ _ _ z => z)
  case F =>
    intro w mg fa h Y KX G hmg
    refine' SR.all_mk KX G hmg (SR.All.mk ?cC ?cR ?cS ?cD ?t_fh ?t_fw ?t_fo ?t_fl ?t_fm ?t_fB ?t_fAB ?t_fLd ?t_fW ?t_fMT ?t_fL ?t_fSt ?t_f0 ?t_f1 ?t_f2 ?t_f3 ?t_f4 ?t_f5 ?t_f6 ?t_f7 ?t_f8 ?t_ft ?m_fSI ?m_fCan ?m_fBeh ?m_fAh ?m_fKS ?m_fRI ?m_fG ?m_fNo ?m_fTM ?m_gS0 ?m_gS1 ?m_gS2 ?m_gS3 ?m_gS4 ?m_gS5 ?m_gS6 ?m_gS7 ?m_gS8 ?m_gS9 ?m_gS10 ?m_gR0 ?m_gR1 ?m_gR2 ?m_gR3 ?n_WRONG_INPUT ?n_NO_SUCH_STEP ?n_CANNOT_BE_DONE ?n_ABOVE_THE_MOST ?n_MOST_STOCKS ?n_MOST_STEPS ?n_MOST_OF_A_STEP ?n_MOST_OF_A_STATE ?n_MOST_OF_A_WEIGHT ?n_LONGEST_WAY ?n_MOST_LEAST_STATES ?n_MOST_ROUNDS ?n_NEVER ?n_TOO_MANY ?n_ENDLESS ?n_MOST_STATES ?a_C_takes ?a_C_gives ?a_R_steps ?a_R_gone ?a_R_fresh ?a_S_stocks ?a_S_steps ?a_D_numbers ?a_D_place ?b_zip ?b_len ?b_max ?b_min ?b_sum ?b_any ?b_tuple ?b_list ?b_set ?b_sorted ?b_reversed ?b_enumerate ?calls ?tup)
    (case cC => refine' SR.clsIn_mk ?x1 ?x2 ?x3 ?x4 ?x5 ?x6 ?x7; (case x1 => k_is); (case x2 => k_is); (case x3 => k_is); (case x4 => k_is); (case x5 => k_is); (case x6 => k_is); (case x7 => k_is))
    (case cR => refine' SR.clsIn_mk ?x1 ?x2 ?x3 ?x4 ?x5 ?x6 ?x7; (case x1 => k_is); (case x2 => k_is); (case x3 => k_is); (case x4 => k_is); (case x5 => k_is); (case x6 => k_is); (case x7 => k_is))
    (case cS => refine' SR.clsIn_mk ?x1 ?x2 ?x3 ?x4 ?x5 ?x6 ?x7; (case x1 => k_is); (case x2 => k_is); (case x3 => k_is); (case x4 => k_is); (case x5 => k_is); (case x6 => k_is); (case x7 => k_is))
    (case cD => refine' SR.clsIn_mk ?x1 ?x2 ?x3 ?x4 ?x5 ?x6 ?x7; (case x1 => k_is); (case x2 => k_is); (case x3 => k_is); (case x4 => k_is); (case x5 => k_is); (case x6 => k_is); (case x7 => k_is))
    (case t_fh => refine' SR.topFn_mk ?x1 ?x2 ?x3 ?x4; (case x1 => k_is); (case x2 => k_is); (case x3 => k_is); (case x4 => k_is))
    (case t_fw => refine' SR.topFn_mk ?x1 ?x2 ?x3 ?x4; (case x1 => k_is); (case x2 => k_is); (case x3 => k_is); (case x4 => k_is))
    (case t_fo => refine' SR.topFn_mk ?x1 ?x2 ?x3 ?x4; (case x1 => k_is); (case x2 => k_is); (case x3 => k_is); (case x4 => k_is))
    (case t_fl => refine' SR.topFn_mk ?x1 ?x2 ?x3 ?x4; (case x1 => k_is); (case x2 => k_is); (case x3 => k_is); (case x4 => k_is))
    (case t_fm => refine' SR.topFn_mk ?x1 ?x2 ?x3 ?x4; (case x1 => k_is); (case x2 => k_is); (case x3 => k_is); (case x4 => k_is))
    (case t_fB => refine' SR.topFn_mk ?x1 ?x2 ?x3 ?x4; (case x1 => k_is); (case x2 => k_is); (case x3 => k_is); (case x4 => k_is))
    (case t_fAB => refine' SR.topFn_mk ?x1 ?x2 ?x3 ?x4; (case x1 => k_is); (case x2 => k_is); (case x3 => k_is); (case x4 => k_is))
    (case t_fLd => refine' SR.topFn_mk ?x1 ?x2 ?x3 ?x4; (case x1 => k_is); (case x2 => k_is); (case x3 => k_is); (case x4 => k_is))
    (case t_fW => refine' SR.topFn_mk ?x1 ?x2 ?x3 ?x4; (case x1 => k_is); (case x2 => k_is); (case x3 => k_is); (case x4 => k_is))
    (case t_fMT => refine' SR.topFn_mk ?x1 ?x2 ?x3 ?x4; (case x1 => k_is); (case x2 => k_is); (case x3 => k_is); (case x4 => k_is))
    (case t_fL => refine' SR.topFn_mk ?x1 ?x2 ?x3 ?x4; (case x1 => k_is); (case x2 => k_is); (case x3 => k_is); (case x4 => k_is))
    (case t_fSt => refine' SR.topFn_mk ?x1 ?x2 ?x3 ?x4; (case x1 => k_is); (case x2 => k_is); (case x3 => k_is); (case x4 => k_is))
    (case t_f0 => refine' SR.topFn_mk ?x1 ?x2 ?x3 ?x4; (case x1 => k_is); (case x2 => k_is); (case x3 => k_is); (case x4 => k_is))
    (case t_f1 => refine' SR.topFn_mk ?x1 ?x2 ?x3 ?x4; (case x1 => k_is); (case x2 => k_is); (case x3 => k_is); (case x4 => k_is))
    (case t_f2 => refine' SR.topFn_mk ?x1 ?x2 ?x3 ?x4; (case x1 => k_is); (case x2 => k_is); (case x3 => k_is); (case x4 => k_is))
    (case t_f3 => refine' SR.topFn_mk ?x1 ?x2 ?x3 ?x4; (case x1 => k_is); (case x2 => k_is); (case x3 => k_is); (case x4 => k_is))
    (case t_f4 => refine' SR.topFn_mk ?x1 ?x2 ?x3 ?x4; (case x1 => k_is); (case x2 => k_is); (case x3 => k_is); (case x4 => k_is))
    (case t_f5 => refine' SR.topFn_mk ?x1 ?x2 ?x3 ?x4; (case x1 => k_is); (case x2 => k_is); (case x3 => k_is); (case x4 => k_is))
    (case t_f6 => refine' SR.topFn_mk ?x1 ?x2 ?x3 ?x4; (case x1 => k_is); (case x2 => k_is); (case x3 => k_is); (case x4 => k_is))
    (case t_f7 => refine' SR.topFn_mk ?x1 ?x2 ?x3 ?x4; (case x1 => k_is); (case x2 => k_is); (case x3 => k_is); (case x4 => k_is))
    (case t_f8 => refine' SR.topFn_mk ?x1 ?x2 ?x3 ?x4; (case x1 => k_is); (case x2 => k_is); (case x3 => k_is); (case x4 => k_is))
    (case t_ft => refine' SR.topFn_mk ?x1 ?x2 ?x3 ?x4; (case x1 => k_is); (case x2 => k_is); (case x3 => k_is); (case x4 => k_is))
    (case m_fSI => refine' SR.metFn_mk ?x1 ?x2 ?x3 ?x4 ?x5; (case x1 => k_is); (case x2 => k_is); (case x3 => k_is); (case x4 => k_is); (case x5 => k_is))
    (case m_fCan => refine' SR.metFn_mk ?x1 ?x2 ?x3 ?x4 ?x5; (case x1 => k_is); (case x2 => k_is); (case x3 => k_is); (case x4 => k_is); (case x5 => k_is))
    (case m_fBeh => refine' SR.metFn_mk ?x1 ?x2 ?x3 ?x4 ?x5; (case x1 => k_is); (case x2 => k_is); (case x3 => k_is); (case x4 => k_is); (case x5 => k_is))
    (case m_fAh => refine' SR.metFn_mk ?x1 ?x2 ?x3 ?x4 ?x5; (case x1 => k_is); (case x2 => k_is); (case x3 => k_is); (case x4 => k_is); (case x5 => k_is))
    (case m_fKS => refine' SR.metFn_mk ?x1 ?x2 ?x3 ?x4 ?x5; (case x1 => k_is); (case x2 => k_is); (case x3 => k_is); (case x4 => k_is); (case x5 => k_is))
    (case m_fRI => refine' SR.metFn_mk ?x1 ?x2 ?x3 ?x4 ?x5; (case x1 => k_is); (case x2 => k_is); (case x3 => k_is); (case x4 => k_is); (case x5 => k_is))
    (case m_fG => refine' SR.metFn_mk ?x1 ?x2 ?x3 ?x4 ?x5; (case x1 => k_is); (case x2 => k_is); (case x3 => k_is); (case x4 => k_is); (case x5 => k_is))
    (case m_fNo => refine' SR.metFn_mk ?x1 ?x2 ?x3 ?x4 ?x5; (case x1 => k_is); (case x2 => k_is); (case x3 => k_is); (case x4 => k_is); (case x5 => k_is))
    (case m_fTM => refine' SR.metFn_mk ?x1 ?x2 ?x3 ?x4 ?x5; (case x1 => k_is); (case x2 => k_is); (case x3 => k_is); (case x4 => k_is); (case x5 => k_is))
    (case m_gS0 => refine' SR.metFn_mk ?x1 ?x2 ?x3 ?x4 ?x5; (case x1 => k_is); (case x2 => k_is); (case x3 => k_is); (case x4 => k_is); (case x5 => k_is))
    (case m_gS1 => refine' SR.metFn_mk ?x1 ?x2 ?x3 ?x4 ?x5; (case x1 => k_is); (case x2 => k_is); (case x3 => k_is); (case x4 => k_is); (case x5 => k_is))
    (case m_gS2 => refine' SR.metFn_mk ?x1 ?x2 ?x3 ?x4 ?x5; (case x1 => k_is); (case x2 => k_is); (case x3 => k_is); (case x4 => k_is); (case x5 => k_is))
    (case m_gS3 => refine' SR.metFn_mk ?x1 ?x2 ?x3 ?x4 ?x5; (case x1 => k_is); (case x2 => k_is); (case x3 => k_is); (case x4 => k_is); (case x5 => k_is))
    (case m_gS4 => refine' SR.metFn_mk ?x1 ?x2 ?x3 ?x4 ?x5; (case x1 => k_is); (case x2 => k_is); (case x3 => k_is); (case x4 => k_is); (case x5 => k_is))
    (case m_gS5 => refine' SR.metFn_mk ?x1 ?x2 ?x3 ?x4 ?x5; (case x1 => k_is); (case x2 => k_is); (case x3 => k_is); (case x4 => k_is); (case x5 => k_is))
    (case m_gS6 => refine' SR.metFn_mk ?x1 ?x2 ?x3 ?x4 ?x5; (case x1 => k_is); (case x2 => k_is); (case x3 => k_is); (case x4 => k_is); (case x5 => k_is))
    (case m_gS7 => refine' SR.metFn_mk ?x1 ?x2 ?x3 ?x4 ?x5; (case x1 => k_is); (case x2 => k_is); (case x3 => k_is); (case x4 => k_is); (case x5 => k_is))
    (case m_gS8 => refine' SR.metFn_mk ?x1 ?x2 ?x3 ?x4 ?x5; (case x1 => k_is); (case x2 => k_is); (case x3 => k_is); (case x4 => k_is); (case x5 => k_is))
    (case m_gS9 => refine' SR.metFn_mk ?x1 ?x2 ?x3 ?x4 ?x5; (case x1 => k_is); (case x2 => k_is); (case x3 => k_is); (case x4 => k_is); (case x5 => k_is))
    (case m_gS10 => refine' SR.metFn_mk ?x1 ?x2 ?x3 ?x4 ?x5; (case x1 => k_is); (case x2 => k_is); (case x3 => k_is); (case x4 => k_is); (case x5 => k_is))
    (case m_gR0 => refine' SR.metFn_mk ?x1 ?x2 ?x3 ?x4 ?x5; (case x1 => k_is); (case x2 => k_is); (case x3 => k_is); (case x4 => k_is); (case x5 => k_is))
    (case m_gR1 => refine' SR.metFn_mk ?x1 ?x2 ?x3 ?x4 ?x5; (case x1 => k_is); (case x2 => k_is); (case x3 => k_is); (case x4 => k_is); (case x5 => k_is))
    (case m_gR2 => refine' SR.metFn_mk ?x1 ?x2 ?x3 ?x4 ?x5; (case x1 => k_is); (case x2 => k_is); (case x3 => k_is); (case x4 => k_is); (case x5 => k_is))
    (case m_gR3 => refine' SR.metFn_mk ?x1 ?x2 ?x3 ?x4 ?x5; (case x1 => k_is); (case x2 => k_is); (case x3 => k_is); (case x4 => k_is); (case x5 => k_is))
    (case n_WRONG_INPUT => refine' SR.numIn_mk ?x1; (case x1 => k_is))
    (case n_NO_SUCH_STEP => refine' SR.numIn_mk ?x1; (case x1 => k_is))
    (case n_CANNOT_BE_DONE => refine' SR.numIn_mk ?x1; (case x1 => k_is))
    (case n_ABOVE_THE_MOST => refine' SR.numIn_mk ?x1; (case x1 => k_is))
    (case n_MOST_STOCKS => refine' SR.numIn_mk ?x1; (case x1 => k_is))
    (case n_MOST_STEPS => refine' SR.numIn_mk ?x1; (case x1 => k_is))
    (case n_MOST_OF_A_STEP => refine' SR.numIn_mk ?x1; (case x1 => k_is))
    (case n_MOST_OF_A_STATE => refine' SR.numIn_mk ?x1; (case x1 => k_is))
    (case n_MOST_OF_A_WEIGHT => refine' SR.numIn_mk ?x1; (case x1 => k_is))
    (case n_LONGEST_WAY => refine' SR.numIn_mk ?x1; (case x1 => k_is))
    (case n_MOST_LEAST_STATES => refine' SR.numIn_mk ?x1; (case x1 => k_is))
    (case n_MOST_ROUNDS => refine' SR.numIn_mk ?x1; (case x1 => k_is))
    (case n_NEVER => refine' SR.numIn_mk ?x1; (case x1 => k_is))
    (case n_TOO_MANY => refine' SR.numIn_mk ?x1; (case x1 => k_is))
    (case n_ENDLESS => refine' SR.numIn_mk ?x1; (case x1 => k_is))
    (case n_MOST_STATES => refine' SR.numIn_mk ?x1; (case x1 => k_is))
    (case a_C_takes => (show PySem.W.findIn _ _ _ = _); k_is)
    (case a_C_gives => (show PySem.W.findIn _ _ _ = _); k_is)
    (case a_R_steps => (show PySem.W.findIn _ _ _ = _); k_is)
    (case a_R_gone => (show PySem.W.findIn _ _ _ = _); k_is)
    (case a_R_fresh => (show PySem.W.findIn _ _ _ = _); k_is)
    (case a_S_stocks => (show PySem.W.findIn _ _ _ = _); k_is)
    (case a_S_steps => (show PySem.W.findIn _ _ _ = _); k_is)
    (case a_D_numbers => (show PySem.W.findIn _ _ _ = _); k_is)
    (case a_D_place => (show PySem.W.findIn _ _ _ = _); k_is)
    (case b_zip => (show PySem.W.nsIn _ _ _ = _); k_is)
    (case b_len => (show PySem.W.nsIn _ _ _ = _); k_is)
    (case b_max => (show PySem.W.nsIn _ _ _ = _); k_is)
    (case b_min => (show PySem.W.nsIn _ _ _ = _); k_is)
    (case b_sum => (show PySem.W.nsIn _ _ _ = _); k_is)
    (case b_any => (show PySem.W.nsIn _ _ _ = _); k_is)
    (case b_tuple => (show PySem.W.nsIn _ _ _ = _); k_is)
    (case b_list => (show PySem.W.nsIn _ _ _ = _); k_is)
    (case b_set => (show PySem.W.nsIn _ _ _ = _); k_is)
    (case b_sorted => (show PySem.W.nsIn _ _ _ = _); k_is)
    (case b_reversed => (show PySem.W.nsIn _ _ _ = _); k_is)
    (case b_enumerate => (show PySem.W.nsIn _ _ _ = _); k_is)
    (case calls => k_is)
    (case tup => refine' SR.tupIn_mk ?x1; (case x1 => k_is))
  case S =>
    intro K H xs a hO hwi hask hx
    cases hx with
    | cons h1 h2 =>
      cases h2
      cases h1 with
      | lst hs ha =>
        have e := L2.ints_dw a.1 _ ha
        subst e
        have q : ((Codec.inLen 0 30000 a.1 && a.1.all (Codec.inInt (-2147483648) 4294967295)) && true) = true := hwi
        rw [Bool.and_eq_true, Bool.and_eq_true] at q
        exact ⟨_, a.1, rfl, hs, (Codec.inNat_iff.mp q.1.1).2, hask, fun H' p hp => .lst (L2.SqL.of hp) (L2.dw_ints _)⟩
