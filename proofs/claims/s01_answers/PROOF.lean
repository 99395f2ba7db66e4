import PyProof.Rows.All
import Wide.All
import OpenK.AllK
import Wide.FinOn
import Open.SpecLaws
import KE.OsGo
import KE.OsArith
import HandS.ForSpec
import HandS.ForMost
import HandS.Walk
import HandS.Nested
import HandS.SortKw
import KE.KMinKey
import HandS.Conv
import KE.GoesEnumKw
import KE.KDictList
import PyProof.TupleOfGen
import KE.GoesEnum
import HandS.EndTab
import HandS.NestedK
import HandS.Spec
import HandS.SortRule
import PySem.Challenge.RW_openorder_s01_answers
import Or01Spec
import PyOr01
section
/-! The mathematics of the order: what lies below what, and one told pair more. -/
namespace Om
open Or01

theorem mem_things {o : Order} {x : Nat} : x ∈ things o ↔ 1 ≤ x ∧ x ≤ o.many := by
  simp only [things, List.mem_map, List.mem_range]
  constructor
  · rintro ⟨a, h, rfl⟩; omega
  · intro h; exact ⟨x - 1, by omega, by omega⟩

theorem isThing_iff {o : Order} {x : Nat} : isThing o x = true ↔ 1 ≤ x ∧ x ≤ o.many := by
  simp [isThing]

theorem things_length (o : Order) : (things o).length = o.many := by simp [things]

theorem things_sorted (o : Order) : (things o).Pairwise (· < ·) := by
  unfold things
  rw [List.pairwise_map]
  exact List.Pairwise.imp (fun h => by omega) List.pairwise_lt_range

theorem things_nodup (o : Order) : (things o).Nodup :=
  (things_sorted o).imp (fun h => by omega)

/-- by way of told pairs, none too -/
inductive Le (o : Order) : Nat → Nat → Prop
  | refl (x : Nat) : Le o x x
  | step {x y z : Nat} : Le o x y → (y, z) ∈ o.told → Le o x z

theorem Le.trans {o : Order} {x y z : Nat} (h : Le o x y) (k : Le o y z) : Le o x z := by
  induction k with
  | refl => exact h
  | step _ m ih => exact .step ih m

/-- the pairs are of things, none of one thing alone, and no two lie below one another -/
structure Ok (o : Order) : Prop where
  one : 1 ≤ o.many
  seven : o.many ≤ 7
  fst : ∀ p ∈ o.told, p.1 ∈ things o
  snd : ∀ p ∈ o.told, p.2 ∈ things o
  acyc : ∀ a b, Le o a b → Le o b a → a = b

/-- one turn of up -/
def turn (o : Order) (l : List Nat) : List Nat := (things o).filter fun y => l.contains y || l.any fun x => o.told.contains (x, y)

theorem mem_turn {o : Order} {l : List Nat} {y : Nat} : y ∈ turn o l ↔ y ∈ things o ∧ (y ∈ l ∨ ∃ x ∈ l, (x, y) ∈ o.told) := by
  simp [turn]

theorem up_succ (o : Order) (n : Nat) (l : List Nat) : up o (n + 1) l = up o n (turn o l) := rfl

theorem up_fix {o : Order} {l : List Nat} (h : turn o l = l) : ∀ n, up o n l = l
  | 0 => rfl
  | n + 1 => by rw [up_succ, h, up_fix h n]

theorem up_sound {o : Order} : ∀ (n : Nat) (l : List Nat) (y : Nat), y ∈ up o n l → ∃ x ∈ l, Le o x y
  | 0, l, y, h => ⟨y, h, .refl y⟩
  | n + 1, l, y, h => by
    obtain ⟨x, hx, hl⟩ := up_sound n (turn o l) y h
    rcases (mem_turn.mp hx).2 with h1 | ⟨z, hz, ht⟩
    · exact ⟨x, h1, hl⟩
    · exact ⟨z, hz, (Le.step (.refl z) ht).trans hl⟩

theorem up_closed {o : Order} : ∀ (n : Nat) (p : Nat → Bool), o.many ≤ ((things o).filter p).length + n →
    turn o (up o n ((things o).filter p)) = up o n ((things o).filter p) ∧ ∀ x ∈ (things o).filter p, x ∈ up o n ((things o).filter p)
  | 0, p, h => by
    have e : (things o).filter p = things o := List.filter_sublist.eq_of_length (by
      have := List.length_filter_le p (things o); have := things_length o; omega)
    show turn o ((things o).filter p) = (things o).filter p ∧ _
    refine ⟨?_, fun x hx => hx⟩
    rw [e]
    unfold turn
    exact List.filter_eq_self.mpr (fun a ha => by simp [ha])
  | n + 1, p, h => by
    have sub : (things o).filter p = ((turn o ((things o).filter p))).filter p := by
      unfold turn
      rw [List.filter_filter]
      refine List.filter_congr (fun a ha => ?_)
      cases hp : p a
      · simp
      · simp [ha, hp]
    have sl : List.Sublist ((things o).filter p) (turn o ((things o).filter p)) := by
      have h0 : List.Sublist ((turn o ((things o).filter p)).filter p) (turn o ((things o).filter p)) := List.filter_sublist
      rw [← sub] at h0
      exact h0
    rw [up_succ]
    by_cases c : (turn o ((things o).filter p)).length = ((things o).filter p).length
    · have e : turn o ((things o).filter p) = (things o).filter p := (sl.eq_of_length c.symm).symm
      rw [e, up_fix e]
      exact ⟨e, fun x hx => hx⟩
    · have lt : ((things o).filter p).length < (turn o ((things o).filter p)).length := by
        have := sl.length_le; omega
      obtain ⟨k1, k2⟩ := up_closed (o := o) n (fun y => ((things o).filter p).contains y || ((things o).filter p).any fun x => o.told.contains (x, y)) (by
        show o.many ≤ (turn o ((things o).filter p)).length + n
        omega)
      exact ⟨k1, fun x hx => k2 x (sl.subset hx)⟩

theorem below_iff {o : Order} (k : Ok o) {x y : Nat} (hx : x ∈ things o) : below o x y = true ↔ x ≠ y ∧ Le o x y := by
  unfold below
  rw [Bool.and_eq_true, List.contains_iff_mem, bne_iff_ne]
  refine and_congr_right fun ne => ?_
  obtain ⟨m, hm⟩ : ∃ m, o.many = m + 1 := ⟨o.many - 1, by have := k.one; omega⟩
  rw [hm, up_succ]
  constructor
  · intro h
    obtain ⟨z, hz, hl⟩ := up_sound m _ y h
    rcases (mem_turn.mp hz).2 with h1 | ⟨u, hu, ht⟩
    · rw [List.mem_singleton] at h1; subst h1; exact hl
    · rw [List.mem_singleton] at hu; subst hu
      exact (Le.step (.refl _) ht).trans hl
  · intro hl
    have hx1 : x ∈ turn o [x] := mem_turn.mpr ⟨hx, Or.inl (List.mem_singleton.mpr rfl)⟩
    have hp : 0 < (turn o [x]).length := List.length_pos_of_mem hx1
    obtain ⟨k1, k2⟩ := up_closed (o := o) m (fun y => [x].contains y || [x].any fun x => o.told.contains (x, y)) (by
      show o.many ≤ (turn o [x]).length + m
      omega)
    have k1 : turn o (up o m (turn o [x])) = up o m (turn o [x]) := k1
    have k2 : ∀ z ∈ turn o [x], z ∈ up o m (turn o [x]) := k2
    clear ne
    induction hl with
    | refl => exact k2 _ hx1
    | step _ ht ih =>
      rw [← k1]
      exact mem_turn.mpr ⟨k.snd _ ht, Or.inr ⟨_, ih, ht⟩⟩

theorem le_thing {o : Order} (k : Ok o) {x y : Nat} (h : Le o x y) (hx : x ∈ things o) : y ∈ things o := by
  cases h with
  | refl => exact hx
  | step _ m => exact k.snd _ m

theorem below_irrefl {o : Order} (x : Nat) : below o x x = false := by simp [below]

theorem below_trans {o : Order} (k : Ok o) {x y z : Nat} (hx : x ∈ things o) (h : below o x y = true) (h' : below o y z = true) : below o x z = true := by
  obtain ⟨n1, l1⟩ := (below_iff k hx).mp h
  obtain ⟨n2, l2⟩ := (below_iff k (le_thing k l1 hx)).mp h'
  refine (below_iff k hx).mpr ⟨fun e => ?_, l1.trans l2⟩
  subst e
  exact n1 (k.acyc _ _ l1 l2)

theorem below_asymm {o : Order} (k : Ok o) {x y : Nat} (hx : x ∈ things o) (h : below o x y = true) : below o y x = false := by
  cases e : below o y x with
  | false => rfl
  | true =>
    have := below_trans k hx h e
    rw [below_irrefl] at this
    cases this

theorem things_with (o : Order) (x y : Nat) : things (with_ o x y) = things o := rfl

theorem le_with {o : Order} {x y a b : Nat} : Le (with_ o x y) a b ↔ Le o a b ∨ (Le o a x ∧ Le o y b) := by
  constructor
  · intro h
    induction h with
    | refl => exact Or.inl (.refl _)
    | step _ m ih =>
      have m' : (_, _) ∈ o.told ++ [(x, y)] := m
      rw [List.mem_append, List.mem_singleton] at m'
      rcases m' with m' | m'
      · rcases ih with i | ⟨i, j⟩
        · exact Or.inl (.step i m')
        · exact Or.inr ⟨i, .step j m'⟩
      · obtain ⟨rfl, rfl⟩ := Prod.mk.inj m'
        rcases ih with i | ⟨i, j⟩
        · exact Or.inr ⟨i, .refl _⟩
        · exact Or.inr ⟨i, .refl _⟩
  · have up : ∀ {a b}, Le o a b → Le (with_ o x y) a b := fun h => by
      induction h with
      | refl => exact .refl _
      | step _ m ih => exact .step ih (List.mem_append.mpr (Or.inl m))
    rintro (h | ⟨h, h'⟩)
    · exact up h
    · exact (Le.step (up h) (List.mem_append.mpr (Or.inr (List.mem_singleton.mpr rfl)))).trans (up h')

theorem ok_init : Ok init where
  one := by decide
  seven := by decide
  fst := by intro p h; cases h
  snd := by intro p h; cases h
  acyc := by
    intro a b h _
    cases h with
    | refl => rfl
    | step _ m => cases m

theorem ok_things {n : Nat} (h : ¬ (n = 0 ∨ 7 < n)) : Ok ⟨n, []⟩ where
  one := by show 1 ≤ n; omega
  seven := by show n ≤ 7; omega
  fst := by intro p h; cases h
  snd := by intro p h; cases h
  acyc := by
    intro a b h _
    cases h with
    | refl => rfl
    | step _ m => cases m

theorem ok_with {o : Order} (k : Ok o) {x y : Nat} (hx : x ∈ things o) (hy : y ∈ things o) (ne : x ≠ y) (nb : below o y x = false) : Ok (with_ o x y) where
  one := k.one
  seven := k.seven
  fst := by
    intro p h
    rcases List.mem_append.mp h with h | h
    · exact k.fst p h
    · rw [List.mem_singleton.mp h]; exact hx
  snd := by
    intro p h
    rcases List.mem_append.mp h with h | h
    · exact k.snd p h
    · rw [List.mem_singleton.mp h]; exact hy
  acyc := by
    have nl : ¬ Le o y x := fun l => by
      rw [(below_iff k hy).mpr ⟨fun e => ne e.symm, l⟩] at nb
      cases nb
    intro a b h h'
    rcases le_with.mp h with h | ⟨h1, h2⟩ <;> rcases le_with.mp h' with h' | ⟨h3, h4⟩
    · exact k.acyc a b h h'
    · exact absurd (h4.trans (h.trans h3)) nl
    · exact absurd (h2.trans (h'.trans h1)) nl
    · exact absurd (h2.trans h3) nl

theorem ok_undo {o : Order} (k : Ok o) : Ok { o with told := o.told.dropLast } := by
  have sub : ∀ p, p ∈ o.told.dropLast → p ∈ o.told := fun p h => (List.dropLast_sublist _).subset h
  have up : ∀ {a b}, Le { o with told := o.told.dropLast } a b → Le o a b := fun h => by
    induction h with
    | refl => exact .refl _
    | step _ m ih => exact .step ih (sub _ m)
  exact ⟨k.one, k.seven, fun p h => k.fst p (sub p h), fun p h => k.snd p (sub p h), fun a b h h' => k.acyc a b (up h) (up h')⟩

/-- what is told more -/
theorem below_with {o : Order} (k : Ok o) {x y a b : Nat} (hx : x ∈ things o) (hy : y ∈ things o) (ne : x ≠ y) (nb : below o y x = false) (ha : a ∈ things o) (_hb : b ∈ things o) :
    below (with_ o x y) a b = (below o a b || ((a == x || below o a x) && (b == y || below o y b))) := by
  have k' := ok_with k hx hy ne nb
  have nl : ¬ Le o y x := fun l => by
    rw [(below_iff k hy).mpr ⟨fun e => ne e.symm, l⟩] at nb
    cases nb
  have e1 : ∀ {u v}, u ∈ things o → ((u == v || below o u v) = true ↔ Le o u v) := fun {u v} hu => by
    rw [Bool.or_eq_true, below_iff k hu, beq_iff_eq]
    constructor
    · rintro (rfl | ⟨_, h⟩)
      · exact .refl _
      · exact h
    · intro h
      by_cases e : u = v
      · exact Or.inl e
      · exact Or.inr ⟨e, h⟩
  have e2 : (b == y || below o y b) = (y == b || below o y b) := by rw [Bool.beq_comm]
  rw [Bool.eq_iff_iff, below_iff k' (show a ∈ things (with_ o x y) from ha), Bool.or_eq_true, Bool.and_eq_true, e2, e1 ha, e1 hy, below_iff k ha, le_with]
  constructor
  · rintro ⟨n, h | h⟩
    · exact Or.inl ⟨n, h⟩
    · exact Or.inr h
  · rintro (⟨n, h⟩ | h)
    · exact ⟨n, Or.inl h⟩
    · refine ⟨fun e => ?_, Or.inr h⟩
      subst e
      exact nl (h.2.trans h.1)

theorem below_none {n x y : Nat} : below ⟨n, []⟩ x y = false := by
  cases e : below ⟨n, []⟩ x y with
  | false => rfl
  | true =>
    unfold below at e
    rw [Bool.and_eq_true, List.contains_iff_mem, bne_iff_ne] at e
    obtain ⟨z, hz, hl⟩ := up_sound _ _ _ e.2
    rw [List.mem_singleton] at hz
    subst hz
    cases hl with
    | refl => exact absurd rfl e.1
    | step _ m => cases m
end Om
end

section
/-! The rows: what they are, how they are parted by their first thing, and what one told pair more takes away. -/
namespace Om
open Or01

/-- the things that may stand first -/
def firsts (b : Nat → Nat → Bool) (l : List Nat) : List Nat := l.filter fun x => l.all fun y => !b y x
/-- the rest -/
def less1 (l : List Nat) (x : Nat) : List Nat := l.filter fun y => y != x

theorem rowsOf_succ (b : Nat → Nat → Bool) (n : Nat) (l : List Nat) : rowsOf b (n + 1) l = (firsts b l).flatMap fun x => (rowsOf b n (less1 l x)).map fun r => x :: r := rfl

theorem mem_firsts {b : Nat → Nat → Bool} {l : List Nat} {x : Nat} : x ∈ firsts b l ↔ x ∈ l ∧ ∀ y ∈ l, b y x = false := by
  simp [firsts]

theorem mem_less1 {l : List Nat} {x y : Nat} : y ∈ less1 l x ↔ y ∈ l ∧ y ≠ x := by
  simp [less1]

theorem less1_nodup {l : List Nat} (h : l.Nodup) (x : Nat) : (less1 l x).Nodup := h.sublist List.filter_sublist

theorem less1_perm {l : List Nat} (h : l.Nodup) {x : Nat} (hx : x ∈ l) : l.Perm (x :: less1 l x) := by
  unfold less1
  rw [← h.erase_eq_filter]
  exact List.perm_cons_erase hx

theorem less1_length {l : List Nat} (h : l.Nodup) {x : Nat} (hx : x ∈ l) : (less1 l x).length + 1 = l.length := by
  rw [(less1_perm h hx).length_eq]; rfl

theorem rowsOf_congr {b b' : Nat → Nat → Bool} : ∀ (n : Nat) (l : List Nat), (∀ x ∈ l, ∀ y ∈ l, b x y = b' x y) → rowsOf b n l = rowsOf b' n l
  | 0, _, _ => rfl
  | n + 1, l, h => by
    have e1 : firsts b l = firsts b' l := by
      unfold firsts
      refine List.filter_congr fun x hx => ?_
      rw [Bool.eq_iff_iff, List.all_eq_true, List.all_eq_true]
      constructor
      · intro q y hy; rw [← h y hy x hx]; exact q y hy
      · intro q y hy; rw [h y hy x hx]; exact q y hy
    have e2 : (fun x => (rowsOf b n (less1 l x)).map fun r => x :: r) = fun x => (rowsOf b' n (less1 l x)).map fun r => x :: r := by
      funext x
      rw [rowsOf_congr n (less1 l x) fun u hu v hv => h u (mem_less1.mp hu).1 v (mem_less1.mp hv).1]
    rw [rowsOf_succ, rowsOf_succ, e1, e2]

theorem rows_eq (o : Order) : rows o = rowsOf (below o) o.many (things o) := by
  show rowsOf _ _ _ = _
  refine rowsOf_congr _ _ fun x hx y hy => ?_
  rw [Bool.eq_iff_iff, List.contains_iff_mem]
  simp only [List.mem_flatMap, List.mem_map, List.mem_filter]
  constructor
  · rintro ⟨a, _, c, ⟨_, h⟩, e⟩
    obtain ⟨rfl, rfl⟩ := Prod.mk.inj e
    exact h
  · intro h
    exact ⟨x, hx, y, ⟨hy, h⟩, rfl⟩

theorem rowsOf_perm {b : Nat → Nat → Bool} : ∀ (n : Nat) (l : List Nat), l.Nodup → l.length = n → ∀ r ∈ rowsOf b n l, r.Perm l
  | 0, l, _, hn, r, h => by
    have e : l = [] := List.length_eq_zero_iff.mp hn
    subst e
    have h' : r ∈ [[]] := h
    rw [List.mem_singleton.mp h']
  | n + 1, l, hd, hn, r, h => by
    rw [rowsOf_succ, List.mem_flatMap] at h
    obtain ⟨x, hx, h⟩ := h
    obtain ⟨r', hr, rfl⟩ := List.mem_map.mp h
    have hx' := (mem_firsts.mp hx).1
    have ih := rowsOf_perm n (less1 l x) (less1_nodup hd x) (by have := less1_length hd hx'; omega) r' hr
    exact (ih.cons x).trans (less1_perm hd hx').symm

/-- each stands behind all that lie below it -/
def resp (b : Nat → Nat → Bool) : List Nat → Bool
  | [] => true
  | x :: r => (r.all fun y => !b y x) && resp b r

theorem filter_flatMap_map {α β : Type} (p : β → Bool) (g : α → List β) : ∀ l : List α, (l.flatMap g).filter p = l.flatMap fun x => (g x).filter p
  | [] => rfl
  | a :: l => by
    rw [List.flatMap_cons, List.filter_append, filter_flatMap_map p g l, List.flatMap_cons]

theorem flatMap_filter {α β : Type} (p : α → Bool) (g g' : α → List β) : ∀ l : List α, (∀ x ∈ l, p x = true → g x = g' x) → (∀ x ∈ l, p x = false → g x = []) → l.flatMap g = (l.filter p).flatMap g'
  | [], _, _ => rfl
  | a :: l, h, k => by
    have ih := flatMap_filter p g g' l (fun x hx => h x (List.mem_cons_of_mem _ hx)) (fun x hx => k x (List.mem_cons_of_mem _ hx))
    rw [List.flatMap_cons, ih]
    cases e : p a with
    | true => rw [List.filter_cons_of_pos e, List.flatMap_cons, h a (List.mem_cons_self) e]
    | false =>
      rw [List.filter_cons_of_neg (by rw [e]; exact Bool.false_ne_true), k a (List.mem_cons_self) e]
      rfl

/-- the more is told, the fewer rows: those that keep it -/
theorem rowsOf_filter {b b' : Nat → Nat → Bool} (irr : ∀ x, b' x x = false) : ∀ (n : Nat) (l : List Nat), l.Nodup → l.length = n → (∀ x ∈ l, ∀ y ∈ l, b x y = true → b' x y = true) →
    rowsOf b' n l = (rowsOf b n l).filter (resp b')
  | 0, l, _, _, _ => rfl
  | n + 1, l, hd, hn, h => by
    rw [rowsOf_succ, rowsOf_succ, filter_flatMap_map]
    have e1 : firsts b' l = (firsts b l).filter fun x => l.all fun y => !b' y x := by
      unfold firsts
      rw [List.filter_filter]
      refine List.filter_congr fun x hx => ?_
      rw [Bool.eq_iff_iff, Bool.and_eq_true, List.all_eq_true, List.all_eq_true]
      constructor
      · intro q
        refine ⟨q, fun y hy => ?_⟩
        cases e : b y x with
        | false => rfl
        | true =>
          have := q y hy
          rw [h y hy x hx e] at this
          cases this
      · exact fun q => q.1
    rw [e1]
    refine (flatMap_filter _ _ _ _ (fun x hx p => ?_) (fun x hx p => ?_)).symm
    all_goals
      have hxl := (mem_firsts.mp hx).1
      have hl : (less1 l x).length = n := by have := less1_length hd hxl; omega
    · rw [rowsOf_filter irr n (less1 l x) (less1_nodup hd x) hl fun u hu v hv => h u (mem_less1.mp hu).1 v (mem_less1.mp hv).1]
      rw [List.filter_map]
      refine congrArg (List.map _) (List.filter_congr fun r hr => ?_)
      show ((r.all fun y => !b' y x) && resp b' r) = resp b' r
      have : (r.all fun y => !b' y x) = true := by
        rw [List.all_eq_true] at p ⊢
        intro y hy
        exact p y (mem_less1.mp ((rowsOf_perm n _ (less1_nodup hd x) hl r hr).mem_iff.mp hy)).1
      rw [this, Bool.true_and]
    · rw [List.filter_map, List.map_eq_nil_iff, List.filter_eq_nil_iff]
      intro r hr q
      have q' : ((r.all fun y => !b' y x) && resp b' r) = true := q
      rw [Bool.and_eq_true, List.all_eq_true] at q'
      have : (l.all fun y => !b' y x) = true := by
        rw [List.all_eq_true]
        intro y hy
        by_cases e : y = x
        · subst e; rw [irr]; rfl
        · exact q'.1 y ((rowsOf_perm n _ (less1_nodup hd x) hl r hr).mem_iff.mpr (mem_less1.mpr ⟨hy, e⟩))
      rw [p] at this
      cases this

theorem place_cons (x u : Nat) (r : List Nat) : place (x :: r) u = if x = u then 0 else place r u + 1 := by
  unfold place
  rw [List.takeWhile_cons]
  by_cases e : x = u
  · subst e; simp
  · simp [e]

theorem resp_iff {b : Nat → Nat → Bool} (irr : ∀ x, b x x = false) : ∀ (r : List Nat), r.Nodup → (resp b r = true ↔ ∀ u ∈ r, ∀ v ∈ r, b u v = true → place r u < place r v)
  | [], _ => by simp [resp]
  | x :: r, hd => by
    obtain ⟨hx, hr⟩ := List.nodup_cons.mp hd
    have ih := resp_iff irr r hr
    show ((r.all fun y => !b y x) && resp b r) = true ↔ _
    rw [Bool.and_eq_true, List.all_eq_true, ih]
    constructor
    · rintro ⟨p, q⟩ u hu v hv huv
      rw [place_cons, place_cons]
      rcases List.mem_cons.mp hu with rfl | hu'
      · rcases List.mem_cons.mp hv with rfl | hv'
        · rw [irr] at huv; cases huv
        · have : u ≠ v := fun e => hx (e ▸ hv')
          rw [if_pos rfl, if_neg this]; omega
      · have nu : x ≠ u := fun e => hx (e ▸ hu')
        rcases List.mem_cons.mp hv with rfl | hv'
        · have := p u hu'
          rw [huv] at this; cases this
        · have nv : x ≠ v := fun e => hx (e ▸ hv')
          rw [if_neg nu, if_neg nv]
          have := q u hu' v hv' huv
          omega
    · intro q
      constructor
      · intro y hy
        cases e : b y x with
        | false => rfl
        | true =>
          have := q y (List.mem_cons_of_mem _ hy) x List.mem_cons_self e
          rw [place_cons, place_cons] at this
          simp at this
      · intro u hu v hv huv
        have := q u (List.mem_cons_of_mem _ hu) v (List.mem_cons_of_mem _ hv) huv
        rw [place_cons, place_cons, if_neg (fun (e : x = u) => hx (e ▸ hu)), if_neg (fun (e : x = v) => hx (e ▸ hv))] at this
        omega

theorem rows_perm {o : Order} {r : List Nat} (h : r ∈ rows o) : r.Perm (things o) := by
  rw [rows_eq] at h
  exact rowsOf_perm _ _ (things_nodup o) (things_length o) r h

theorem rows_nodup {o : Order} {r : List Nat} (h : r ∈ rows o) : r.Nodup := (rows_perm h).nodup_iff.mpr (things_nodup o)

theorem rows_mem {o : Order} {r : List Nat} (h : r ∈ rows o) {x : Nat} : x ∈ r ↔ x ∈ things o := (rows_perm h).mem_iff

theorem rows_resp {o : Order} {r : List Nat} (h : r ∈ rows o) : resp (below o) r = true := by
  have e := rowsOf_filter (b := below o) (b' := below o) below_irrefl o.many (things o) (things_nodup o) (things_length o) fun _ _ _ _ h => h
  rw [rows_eq, e] at h
  exact (List.mem_filter.mp h).2

theorem rows_order {o : Order} {r : List Nat} (h : r ∈ rows o) {x y : Nat} (hx : x ∈ things o) (hy : y ∈ things o) (b : below o x y = true) : place r x < place r y :=
  (resp_iff below_irrefl r (rows_nodup h)).mp (rows_resp h) x ((rows_mem h).mpr hx) y ((rows_mem h).mpr hy) b

/-- **one told pair more**: the rows in which it is kept -/
theorem rows_with {o : Order} (k : Ok o) {x y : Nat} (hx : x ∈ things o) (hy : y ∈ things o) (ne : x ≠ y) (nb : below o y x = false) :
    rows (with_ o x y) = (rows o).filter fun r => decide (place r x < place r y) := by
  have bw := fun {a b : Nat} (ha : a ∈ things o) (hb : b ∈ things o) => below_with k hx hy ne nb ha hb
  rw [rows_eq, rows_eq]
  rw [show (with_ o x y).many = o.many from rfl, things_with]
  rw [rowsOf_filter (b := below o) (b' := below (with_ o x y)) below_irrefl o.many (things o) (things_nodup o) (things_length o) (fun a ha b hb h => by rw [bw ha hb, h]; rfl)]
  rw [← rows_eq]
  refine List.filter_congr fun r hr => ?_
  rw [Bool.eq_iff_iff, resp_iff below_irrefl r (rows_nodup hr), decide_eq_true_iff]
  constructor
  · intro q
    refine q x ((rows_mem hr).mpr hx) y ((rows_mem hr).mpr hy) ?_
    rw [bw hx hy]; simp
  · intro q u hu v hv h
    have hu' := (rows_mem hr).mp hu
    have hv' := (rows_mem hr).mp hv
    rw [bw hu' hv', Bool.or_eq_true, Bool.and_eq_true, Bool.or_eq_true, Bool.or_eq_true, beq_iff_eq, beq_iff_eq] at h
    rcases h with h | ⟨h1, h2⟩
    · exact rows_order hr hu' hv' h
    · have a1 : place r u ≤ place r x := by
        rcases h1 with rfl | h1
        · exact Nat.le_refl _
        · exact Nat.le_of_lt (rows_order hr hu' hx h1)
      have a2 : place r y ≤ place r v := by
        rcases h2 with rfl | h2
        · exact Nat.le_refl _
        · exact Nat.le_of_lt (rows_order hr hy hv' h2)
      omega

/-- where y lies below x no row has x ahead of y -/
theorem rows_never {o : Order} {x y : Nat} (hx : x ∈ things o) (hy : y ∈ things o) (b : below o y x = true) :
    ((rows o).filter fun r => decide (place r x < place r y)) = [] := by
  rw [List.filter_eq_nil_iff]
  intro r hr h
  rw [decide_eq_true_iff] at h
  have := rows_order hr hy hx b
  omega

/-- something may always stand first -/
theorem firsts_some {o : Order} (k : Ok o) : ∀ (n : Nat) (l : List Nat), l.length ≤ n → (∀ x ∈ l, x ∈ things o) → l ≠ [] → ∃ x, x ∈ firsts (below o) l
  | 0, l, hn, _, hne => absurd (List.length_eq_zero_iff.mp (by omega)) hne
  | n + 1, l, hn, ht, hne => by
    obtain ⟨a, ha⟩ := List.exists_mem_of_ne_nil l hne
    by_cases c : (l.filter fun y => below o y a) = []
    · refine ⟨a, mem_firsts.mpr ⟨ha, fun y hy => ?_⟩⟩
      rw [List.filter_eq_nil_iff] at c
      exact Bool.eq_false_iff.mpr (c y hy)
    · have sl : (l.filter fun y => below o y a).length < l.length := by
        refine Nat.lt_of_le_of_ne (List.length_filter_le _ _) fun e => ?_
        have := List.length_filter_eq_length_iff.mp e a ha
        rw [below_irrefl] at this; cases this
      obtain ⟨x, hx⟩ := firsts_some k n (l.filter fun y => below o y a) (by omega) (fun x hx => ht x (List.mem_filter.mp hx).1) c
      obtain ⟨h1, h2⟩ := mem_firsts.mp hx
      obtain ⟨h3, h4⟩ := List.mem_filter.mp h1
      refine ⟨x, mem_firsts.mpr ⟨h3, fun y hy => ?_⟩⟩
      cases e : below o y x with
      | false => rfl
      | true =>
        rw [h2 y (List.mem_filter.mpr ⟨hy, below_trans k (ht y hy) e h4⟩)] at e
        cases e

theorem rowsOf_pos {o : Order} (k : Ok o) : ∀ (n : Nat) (l : List Nat), l.Nodup → l.length = n → (∀ x ∈ l, x ∈ things o) → 0 < (rowsOf (below o) n l).length
  | 0, _, _, _, _ => Nat.one_pos
  | n + 1, l, hd, hn, ht => by
    obtain ⟨x, hx⟩ := firsts_some k _ l (Nat.le_refl _) ht (by intro e; subst e; simp at hn)
    have hxl := (mem_firsts.mp hx).1
    have ih := rowsOf_pos k n (less1 l x) (less1_nodup hd x) (by have := less1_length hd hxl; omega) fun y hy => ht y (mem_less1.mp hy).1
    obtain ⟨r, hr⟩ := List.exists_mem_of_length_pos ih
    rw [rowsOf_succ]
    exact List.length_pos_of_mem (List.mem_flatMap.mpr ⟨x, hx, List.mem_map.mpr ⟨r, hr, rfl⟩⟩)

theorem rows_pos {o : Order} (k : Ok o) : 0 < (rows o).length := by
  rw [rows_eq]
  exact rowsOf_pos k _ _ (things_nodup o) (things_length o) fun _ h => h

def fact : Nat → Nat
  | 0 => 1
  | n + 1 => (n + 1) * fact n

theorem sum_le {f : Nat → Nat} {m : Nat} : ∀ (l : List Nat), (∀ x ∈ l, f x ≤ m) → (l.map f).sum ≤ l.length * m
  | [], _ => by simp
  | a :: l, h => by
    have ih := sum_le l fun x hx => h x (List.mem_cons_of_mem _ hx)
    have h0 := h a List.mem_cons_self
    rw [List.map_cons, List.sum_cons, List.length_cons, Nat.add_mul, Nat.one_mul]
    omega

theorem rowsOf_le {b : Nat → Nat → Bool} : ∀ (n : Nat) (l : List Nat), l.Nodup → l.length = n → (rowsOf b n l).length ≤ fact n
  | 0, _, _, _ => Nat.le_refl 1
  | n + 1, l, hd, hn => by
    rw [rowsOf_succ, List.length_flatMap]
    refine Nat.le_trans (sum_le (m := fact n) _ fun x hx => ?_) ?_
    · have hx' := (mem_firsts.mp hx).1
      rw [List.length_map]
      exact rowsOf_le n (less1 l x) (less1_nodup hd x) (by have := less1_length hd hx'; omega)
    · refine Nat.mul_le_mul_right _ ?_
      have : (firsts b l).length ≤ l.length := List.length_filter_le _ _
      omega

theorem fact_mono : ∀ {m n : Nat}, m ≤ n → fact m ≤ fact n
  | m, 0, h => by
    have : m = 0 := by omega
    subst this
    exact Nat.le_refl _
  | m, n + 1, h => by
    by_cases e : m = n + 1
    · subst e; exact Nat.le_refl _
    · have ih := fact_mono (show m ≤ n by omega)
      show fact m ≤ (n + 1) * fact n
      rw [Nat.add_mul, Nat.one_mul]
      omega

theorem rows_le {o : Order} (k : Ok o) : (rows o).length ≤ 5040 := by
  rw [rows_eq]
  exact Nat.le_trans (rowsOf_le _ _ (things_nodup o) (things_length o)) (fact_mono k.seven)
end Om
end

section
/-! Sets of things as numbers: what lies below, what is left, in how many ways it may follow. -/
namespace Om
open Or01

def bit (x : Nat) : Nat := 2 ^ (x - 1)
def ofList : List Nat → Nat
  | [] => 0
  | x :: l => bit x ||| ofList l
/-- all that lie below t -/
def mask (o : Order) (t : Nat) : Nat := ofList ((things o).filter fun x => below o x t)
/-- what isn't placed -/
def left (o : Order) (p : Nat) : List Nat := (things o).filter fun x => !p.testBit (x - 1)
def every (o : Order) : Nat := 2 ^ o.many - 1
/-- in how many ways the others may stand behind the placed ones -/
def W (o : Order) (p : Nat) : Nat := (rowsOf (below o) (left o p).length (left o p)).length
def mayFollow (o : Order) (p t : Nat) : Bool := (p &&& bit t == 0) && (p &&& mask o t == mask o t)
def follow (o : Order) (p : Nat) : List Nat := (things o).filter (mayFollow o p)

theorem testBit_bit {x : Nat} (i : Nat) : (bit x).testBit i = decide (x - 1 = i) := by
  unfold bit
  rw [Nat.testBit_two_pow]

theorem testBit_ofList : ∀ (l : List Nat) (i : Nat), (∀ x ∈ l, 1 ≤ x) → (ofList l).testBit i = l.contains (i + 1)
  | [], i, _ => by simp [ofList]
  | x :: l, i, h => by
    show (bit x ||| ofList l).testBit i = _
    rw [Nat.testBit_or, testBit_bit, testBit_ofList l i fun y hy => h y (List.mem_cons_of_mem _ hy)]
    have := h x List.mem_cons_self
    rw [List.contains_cons]
    congr 1
    rw [Bool.eq_iff_iff, decide_eq_true_iff, beq_iff_eq]
    omega

theorem testBit_mask {o : Order} {t i : Nat} : (mask o t).testBit i = true ↔ i + 1 ∈ things o ∧ below o (i + 1) t = true := by
  unfold mask
  rw [testBit_ofList _ _ fun x hx => (mem_things.mp (List.mem_filter.mp hx).1).1, List.contains_iff_mem, List.mem_filter]

theorem testBit_mask_thing {o : Order} {t x : Nat} (hx : x ∈ things o) : (mask o t).testBit (x - 1) = below o x t := by
  have e : x - 1 + 1 = x := by have := (mem_things.mp hx).1; omega
  rw [Bool.eq_iff_iff, testBit_mask, e]
  exact ⟨fun h => h.2, fun h => ⟨hx, h⟩⟩

theorem mask_lt {o : Order} {t : Nat} : mask o t < 2 ^ o.many := by
  refine Nat.lt_pow_two_of_testBit _ fun i hi => ?_
  cases e : (mask o t).testBit i with
  | false => rfl
  | true =>
    have := (mem_things.mp (testBit_mask.mp e).1).2
    omega

theorem bit_lt {o : Order} {t : Nat} (h : t ∈ things o) : bit t < 2 ^ o.many := by
  unfold bit
  refine Nat.pow_lt_pow_right (by decide) ?_
  have := mem_things.mp h
  omega

theorem bit_pos (t : Nat) : 0 < bit t := Nat.two_pow_pos _

theorem and_bit_zero {p t : Nat} : (p &&& bit t == 0) = !p.testBit (t - 1) := by
  unfold bit
  rw [Bool.eq_iff_iff, beq_iff_eq]
  constructor
  · intro h
    have := congrArg (fun n => n.testBit (t - 1)) h
    simp only [Nat.testBit_and, Nat.testBit_two_pow_self, Nat.zero_testBit, Bool.and_true] at this
    rw [this]; rfl
  · intro h
    refine Nat.eq_of_testBit_eq fun i => ?_
    rw [Nat.testBit_and, Nat.testBit_two_pow, Nat.zero_testBit]
    by_cases e : t - 1 = i
    · subst e
      cases q : p.testBit (t - 1) with
      | false => rfl
      | true => rw [q] at h; cases h
    · simp [e]

theorem and_eq_right_iff {p m : Nat} : p &&& m = m ↔ ∀ i, m.testBit i = true → p.testBit i = true := by
  constructor
  · intro h i hi
    have := congrArg (fun n => n.testBit i) h
    simp only [Nat.testBit_and, hi, Bool.and_true] at this
    exact this
  · intro h
    refine Nat.eq_of_testBit_eq fun i => ?_
    rw [Nat.testBit_and]
    cases e : m.testBit i with
    | false => simp
    | true => rw [h i e]; rfl

theorem mem_left {o : Order} {p x : Nat} : x ∈ left o p ↔ x ∈ things o ∧ p.testBit (x - 1) = false := by
  simp [left]

theorem left_nodup (o : Order) (p : Nat) : (left o p).Nodup := (things_nodup o).sublist List.filter_sublist

theorem follow_eq (o : Order) (p : Nat) : follow o p = firsts (below o) (left o p) := by
  unfold follow firsts
  rw [left, List.filter_filter]
  refine List.filter_congr fun t ht => ?_
  unfold mayFollow
  rw [and_bit_zero, Bool.and_comm (List.all _ _)]
  congr 1
  rw [Bool.eq_iff_iff, beq_iff_eq, and_eq_right_iff, List.all_eq_true]
  constructor
  · intro h y hy
    obtain ⟨h1, h2⟩ := mem_left.mp hy
    cases e : below o y t with
    | false => rfl
    | true =>
      rw [h (y - 1) (by rw [testBit_mask_thing h1]; exact e)] at h2
      cases h2
  · intro h i hi
    obtain ⟨h1, h2⟩ := testBit_mask.mp hi
    cases e : p.testBit i with
    | true => rfl
    | false =>
      have := h (i + 1) (mem_left.mpr ⟨h1, e⟩)
      rw [h2] at this
      cases this

theorem mem_follow {o : Order} {p t : Nat} (h : t ∈ follow o p) : t ∈ left o p := by
  rw [follow_eq] at h
  exact (mem_firsts.mp h).1

theorem follow_thing {o : Order} {p t : Nat} (h : t ∈ follow o p) : t ∈ things o := (List.mem_filter.mp h).1

theorem left_or {o : Order} {p t : Nat} (ht : t ∈ things o) : left o (p ||| bit t) = less1 (left o p) t := by
  unfold less1
  rw [left, left, List.filter_filter]
  refine List.filter_congr fun x hx => ?_
  rw [Nat.testBit_or, testBit_bit, Bool.not_or, Bool.and_comm]
  congr 1
  have h1 := (mem_things.mp hx).1
  have h2 := (mem_things.mp ht).1
  rw [Bool.eq_iff_iff]
  simp only [Bool.not_eq_true', decide_eq_false_iff_not, bne_iff_ne]
  omega

theorem left_or_length {o : Order} {p t : Nat} (h : t ∈ left o p) : (left o (p ||| bit t)).length + 1 = (left o p).length := by
  rw [left_or (mem_left.mp h).1]
  exact less1_length (left_nodup o p) h

theorem flatMap_same {α β : Type} {f g : α → List β} : ∀ {l : List α}, (∀ x ∈ l, f x = g x) → l.flatMap f = l.flatMap g
  | [], _ => rfl
  | a :: l, h => by
    rw [List.flatMap_cons, List.flatMap_cons, h a List.mem_cons_self, flatMap_same fun x hx => h x (List.mem_cons_of_mem _ hx)]

theorem rowsOf_left {o : Order} {p n : Nat} : rowsOf (below o) (n + 1) (left o p) = (follow o p).flatMap fun t => (rowsOf (below o) n (left o (p ||| bit t))).map fun r => t :: r := by
  rw [rowsOf_succ, ← follow_eq]
  refine flatMap_same fun t ht => ?_
  rw [left_or (follow_thing ht)]

theorem W_rec {o : Order} {p : Nat} (h : left o p ≠ []) : W o p = ((follow o p).map fun t => W o (p ||| bit t)).sum := by
  unfold W
  obtain ⟨n, hn⟩ : ∃ n, (left o p).length = n + 1 := ⟨(left o p).length - 1, by have := List.length_pos_iff.mpr h; omega⟩
  rw [hn, rowsOf_left, List.length_flatMap]
  refine congrArg List.sum (List.map_congr_left fun t ht => ?_)
  have := left_or_length (mem_follow ht)
  rw [List.length_map, show (left o (p ||| bit t)).length = n by omega]

theorem left_every (o : Order) : left o (every o) = [] := by
  unfold left every
  rw [List.filter_eq_nil_iff]
  intro x hx
  have := mem_things.mp hx
  rw [Nat.testBit_two_pow_sub_one]
  simp; omega

theorem W_every (o : Order) : W o (every o) = 1 := by
  unfold W
  rw [left_every]; rfl

theorem left_zero (o : Order) : left o 0 = things o := by
  unfold left
  refine List.filter_eq_self.mpr fun x _ => ?_
  rw [Nat.zero_testBit]; rfl

theorem W_zero (o : Order) : W o 0 = (rows o).length := by
  unfold W
  rw [left_zero, things_length, rows_eq]

theorem left_ne {o : Order} {p : Nat} (h : p < every o) : left o p ≠ [] := by
  intro e
  have all : ∀ i, i < o.many → p.testBit i = true := fun i hi => by
    cases q : p.testBit i with
    | true => rfl
    | false =>
      have : i + 1 ∈ left o p := mem_left.mpr ⟨mem_things.mpr ⟨by omega, by omega⟩, q⟩
      rw [e] at this; cases this
  have : p = every o := by
    unfold every at h ⊢
    refine Nat.eq_of_testBit_eq fun i => ?_
    rw [Nat.testBit_two_pow_sub_one]
    by_cases c : i < o.many
    · rw [all i c]; simp [c]
    · rw [Nat.testBit_lt_two_pow (Nat.lt_of_lt_of_le (show p < 2 ^ o.many by omega) (Nat.pow_le_pow_right (by decide) (by omega)))]
      simp [c]
  omega

theorem or_bit_gt {p t : Nat} (h : p.testBit (t - 1) = false) : p < p ||| bit t := by
  refine Nat.lt_of_le_of_ne Nat.left_le_or fun e => ?_
  have := congrArg (fun n => n.testBit (t - 1)) e
  simp only [Nat.testBit_or, testBit_bit, h, decide_true, Bool.false_or] at this
  cases this

theorem or_bit_lt {o : Order} {p t : Nat} (hp : p < 2 ^ o.many) (ht : t ∈ things o) : p ||| bit t < 2 ^ o.many :=
  Nat.or_lt_two_pow hp (bit_lt ht)

theorem follow_sorted (o : Order) (p : Nat) : (follow o p).Pairwise (· < ·) := (things_sorted o).sublist List.filter_sublist

/-! the row of a number -/

/-- the first follower whose ways hold the number, and what's left of that -/
def scan (o : Order) (p : Nat) : List Nat → Nat → Option (Nat × Nat)
  | [], _ => none
  | t :: l, k => if k < W o (p ||| bit t) then some (t, k) else scan o p l (k - W o (p ||| bit t))

theorem scan_lt {o : Order} {p : Nat} : ∀ {l : List Nat} {k t k' : Nat}, scan o p l k = some (t, k') → t ∈ l ∧ k' < W o (p ||| bit t)
  | [], _, _, _, h => by cases h
  | a :: l, k, t, k', h => by
    unfold scan at h
    split at h
    · cases h
      exact ⟨List.mem_cons_self, by assumption⟩
    · obtain ⟨h1, h2⟩ := scan_lt h
      exact ⟨List.mem_cons_of_mem _ h1, h2⟩

theorem scan_some {o : Order} {p : Nat} : ∀ {l : List Nat} {k : Nat}, k < (l.map fun t => W o (p ||| bit t)).sum → ∃ t k', scan o p l k = some (t, k')
  | [], k, h => by simp at h
  | a :: l, k, h => by
    unfold scan
    split
    · exact ⟨a, k, rfl⟩
    · refine scan_some ?_
      rw [List.map_cons, List.sum_cons] at h
      omega

theorem scan_get {o : Order} {p n : Nat} : ∀ {l : List Nat}, (∀ t ∈ l, (left o (p ||| bit t)).length = n) → ∀ (k : Nat),
    (l.flatMap fun t => (rowsOf (below o) n (left o (p ||| bit t))).map fun r => t :: r)[k]? =
    match scan o p l k with
    | none => none
    | some (t, k') => (rowsOf (below o) n (left o (p ||| bit t)))[k']?.map fun r => t :: r
  | [], _, k => by simp [scan]
  | a :: l, h, k => by
    have hw : ((rowsOf (below o) n (left o (p ||| bit a))).map fun r => a :: r).length = W o (p ||| bit a) := by
      rw [List.length_map, W, h a List.mem_cons_self]
    rw [List.flatMap_cons]
    unfold scan
    by_cases c : k < W o (p ||| bit a)
    · rw [if_pos c, List.getElem?_append_left (by rw [hw]; exact c), List.getElem?_map]
    · rw [if_neg c, List.getElem?_append_right (by rw [hw]; omega), hw]
      exact scan_get (fun t ht => h t (List.mem_cons_of_mem _ ht)) _

/-- **one place more of the row number k** -/
theorem nth_step {o : Order} {p n k : Nat} (hn : (left o p).length = n + 1) (hk : k < W o p) :
    ∃ t k', scan o p (follow o p) k = some (t, k') ∧ t ∈ left o p ∧ (left o (p ||| bit t)).length = n ∧ k' < W o (p ||| bit t) ∧
      (rowsOf (below o) (n + 1) (left o p))[k]? = (rowsOf (below o) n (left o (p ||| bit t)))[k']?.map fun r => t :: r := by
  have ne : left o p ≠ [] := fun e => by rw [e] at hn; cases hn
  rw [W_rec ne] at hk
  obtain ⟨t, k', e⟩ := scan_some hk
  obtain ⟨h1, h2⟩ := scan_lt e
  have hl : ∀ t ∈ follow o p, (left o (p ||| bit t)).length = n := fun t ht => by
    have := left_or_length (mem_follow ht); omega
  refine ⟨t, k', e, mem_follow h1, hl t h1, h2, ?_⟩
  rw [rowsOf_left, scan_get hl, e]

/-! the number of a row -/

def idx (l : List (List Nat)) (r : List Nat) : Nat := (l.takeWhile fun x => x != r).length

theorem idx_append {l l' : List (List Nat)} {r : List Nat} (h : r ∉ l) : idx (l ++ l') r = l.length + idx l' r := by
  unfold idx
  rw [List.takeWhile_append_of_pos (fun x hx => by
    rw [bne_iff_ne]; intro e; exact h (e ▸ hx)), List.length_append]

theorem idx_append_mem : ∀ {l l' : List (List Nat)} {r : List Nat}, r ∈ l → idx (l ++ l') r = idx l r
  | a :: l, l', r, h => by
    unfold idx
    rw [List.cons_append, List.takeWhile_cons, List.takeWhile_cons]
    by_cases e : a = r
    · subst e; simp
    · have : (a != r) = true := by rw [bne_iff_ne]; exact e
      rw [if_pos this, if_pos this, List.length_cons, List.length_cons]
      congr 1
      exact idx_append_mem (l := l) (by
        rcases List.mem_cons.mp h with h | h
        · exact absurd h.symm e
        · exact h)

theorem idx_map_cons {t : Nat} {r : List Nat} : ∀ (l : List (List Nat)), idx (l.map fun x => t :: x) (t :: r) = idx l r
  | [] => rfl
  | a :: l => by
    have ih := idx_map_cons (t := t) (r := r) l
    unfold idx at ih ⊢
    rw [List.map_cons, List.takeWhile_cons, List.takeWhile_cons]
    by_cases e : a = r
    · subst e; simp
    · have h1 : (a != r) = true := by rw [bne_iff_ne]; exact e
      have h2 : ((t :: a) != (t :: r)) = true := by
        rw [bne_iff_ne]; intro q; exact e (List.cons.inj q).2
      rw [if_pos h1, if_pos h2, List.length_cons, List.length_cons, ih]

theorem rank_list {o : Order} {p n : Nat} {t : Nat} {r : List Nat} : ∀ {l : List Nat}, l.Pairwise (· < ·) → (∀ t ∈ l, (left o (p ||| bit t)).length = n) → t ∈ l → r ∈ rowsOf (below o) n (left o (p ||| bit t)) →
    idx (l.flatMap fun t => (rowsOf (below o) n (left o (p ||| bit t))).map fun r => t :: r) (t :: r) =
      ((l.filter fun u => decide (u < t)).map fun u => W o (p ||| bit u)).sum + idx (rowsOf (below o) n (left o (p ||| bit t))) r
  | a :: l, hs, hl, ht, hr => by
    obtain ⟨h1, h2⟩ := List.pairwise_cons.mp hs
    rw [List.flatMap_cons]
    by_cases e : a = t
    · subst e
      rw [idx_append_mem (List.mem_map.mpr ⟨r, hr, rfl⟩), idx_map_cons, List.filter_cons_of_neg (by simp)]
      have : (l.filter fun u => decide (u < a)) = [] := by
        rw [List.filter_eq_nil_iff]
        intro u hu
        have := h1 u hu
        simp; omega
      rw [this]; simp
    · have htl : t ∈ l := by
        rcases List.mem_cons.mp ht with h | h
        · exact absurd h.symm e
        · exact h
      have lt := h1 t htl
      rw [idx_append (fun h => by
        obtain ⟨x, _, hx⟩ := List.mem_map.mp h
        exact e (List.cons.inj hx).1)]
      rw [rank_list h2 (fun u hu => hl u (List.mem_cons_of_mem _ hu)) htl hr, List.filter_cons_of_pos (by simp [lt]), List.map_cons, List.sum_cons, List.length_map]
      rw [show (rowsOf (below o) n (left o (p ||| bit a))).length = W o (p ||| bit a) by rw [W, hl a List.mem_cons_self]]
      omega

/-- **one place more of a row's number** -/
theorem rank_step {o : Order} {p n t : Nat} {r : List Nat} (hn : (left o p).length = n + 1) :
    ((t :: r) ∈ rowsOf (below o) (n + 1) (left o p) ↔ t ∈ follow o p ∧ r ∈ rowsOf (below o) n (left o (p ||| bit t))) ∧
    (t ∈ follow o p → r ∈ rowsOf (below o) n (left o (p ||| bit t)) →
      idx (rowsOf (below o) (n + 1) (left o p)) (t :: r) = (((follow o p).filter fun u => decide (u < t)).map fun u => W o (p ||| bit u)).sum + idx (rowsOf (below o) n (left o (p ||| bit t))) r) := by
  have hl : ∀ t ∈ follow o p, (left o (p ||| bit t)).length = n := fun t ht => by
    have := left_or_length (mem_follow ht); omega
  rw [rowsOf_left]
  constructor
  · rw [List.mem_flatMap]
    constructor
    · rintro ⟨u, hu, h⟩
      obtain ⟨x, hx, e⟩ := List.mem_map.mp h
      obtain ⟨rfl, rfl⟩ := List.cons.inj e
      exact ⟨hu, hx⟩
    · rintro ⟨h1, h2⟩
      exact ⟨t, h1, List.mem_map.mpr ⟨r, h2, rfl⟩⟩
  · exact fun h1 h2 => rank_list (follow_sorted o p) hl h1 h2

/-! one told pair more, by masks -/
theorem mask_with {o : Order} (k : Ok o) {x y : Nat} (hx : x ∈ things o) (hy : y ∈ things o) (ne : x ≠ y) (nb : below o y x = false) {t : Nat} (ht : t ∈ things o) :
    mask (with_ o x y) t = if t = y ∨ below o y t = true then mask o t ||| (mask o x ||| bit x) else mask o t := by
  refine Nat.eq_of_testBit_eq fun i => ?_
  by_cases hi : i + 1 ∈ things o
  · have e : i = (i + 1) - 1 := by omega
    have b1 : (mask (with_ o x y) t).testBit i = below (with_ o x y) (i + 1) t := by
      rw [e]; exact testBit_mask_thing (o := with_ o x y) hi
    have b2 : ∀ u, (mask o u).testBit i = below o (i + 1) u := fun u => by
      rw [e]; exact testBit_mask_thing hi
    have b3 : (bit x).testBit i = (i + 1 == x) := by
      rw [testBit_bit, Bool.eq_iff_iff, decide_eq_true_iff, beq_iff_eq]
      have := (mem_things.mp hx).1
      omega
    rw [b1, below_with k hx hy ne nb hi ht]
    by_cases c : t = y ∨ below o y t = true
    · have c' : (t == y || below o y t) = true := by
        rw [Bool.or_eq_true, beq_iff_eq]; exact c
      rw [if_pos c, Nat.testBit_or, Nat.testBit_or, b2, b2, b3, c', Bool.and_true, Bool.or_comm (i + 1 == x)]
    · have c' : (t == y || below o y t) = false := by
        rw [Bool.eq_false_iff, Ne, Bool.or_eq_true, beq_iff_eq]; exact c
      rw [if_neg c, b2, c', Bool.and_false, Bool.or_false]
  · have z : ∀ (o' : Order) u, things o' = things o → (mask o' u).testBit i = false := fun o' u h => by
      cases e : (mask o' u).testBit i with
      | false => rfl
      | true => exact absurd (h ▸ (testBit_mask.mp e).1) hi
    rw [z _ _ (things_with o x y)]
    split
    · rw [Nat.testBit_or, Nat.testBit_or, z _ _ rfl, z _ _ rfl, testBit_bit]
      have := mem_things.mp hx
      have : ¬ x - 1 = i := fun e => hi (by rw [← e, Nat.sub_add_cancel this.1]; exact hx)
      simp [this]
    · rw [z _ _ rfl]

theorem mask_none {n t : Nat} : mask ⟨n, []⟩ t = 0 := by
  unfold mask
  have : ((things ⟨n, []⟩).filter fun x => below ⟨n, []⟩ x t) = [] := by
    rw [List.filter_eq_nil_iff]
    intro x _
    rw [below_none]; exact Bool.false_ne_true
  rw [this]; rfl
end Om
end

section
/-! Fractions. -/
namespace Om
open Or01

theorem div_mk (a b : Nat) : (a : Rat) / (b : Rat) = mkRat (a : Int) b := (Rat.mkRat_eq_div (a : Int) b).symm

theorem fraction_div (a b : Nat) (hb : 0 < b) : fraction ((a : Rat) / (b : Rat)) = [((a / Nat.gcd a b : Nat) : Int), ((b / Nat.gcd a b : Nat) : Int)] := by
  unfold fraction
  rw [div_mk, Rat.num_mkRat, Rat.den_mkRat, if_neg (by omega), if_neg (by omega), Int.natAbs_natCast, Nat.gcd_comm b a]
  rfl

theorem div_lt_div {a c b : Nat} (hb : 0 < b) : (a : Rat) / (b : Rat) < (c : Rat) / (b : Rat) ↔ a < c := by
  have hb' : (0 : Rat) < (b : Rat) := Rat.natCast_pos.mpr hb
  rw [Rat.div_lt_iff hb', Rat.div_mul_cancel (by intro e; rw [e] at hb'; exact absurd hb' (by decide)), Rat.natCast_lt_natCast]

/-- how far from a half, in parts of twice the whole -/
def dist (a b : Nat) : Nat := if 2 * a < b then b - 2 * a else 2 * a - b

theorem far_div {a b : Nat} (hb : 0 < b) : far ((a : Rat) / (b : Rat)) = ((dist a b : Nat) : Rat) / ((2 * b : Nat) : Rat) := by
  have hb' : (0 : Rat) < (b : Rat) := Rat.natCast_pos.mpr hb
  have hne : (b : Rat) ≠ 0 := by intro e; rw [e] at hb'; exact absurd hb' (by decide)
  have h1 : (a : Rat) / (b : Rat) < 1 / 2 ↔ 2 * a < b := by
    rw [Rat.div_lt_iff hb', ← Rat.natCast_lt_natCast (a := 2 * a), Rat.natCast_mul]
    constructor <;> intro h <;> grind
  unfold far dist
  by_cases c : 2 * a < b
  · rw [if_pos (h1.mpr c), if_pos c]
    have : ((b - 2 * a : Nat) : Rat) = (b : Rat) - 2 * (a : Rat) := by
      have e : ((b - 2 * a + 2 * a : Nat) : Rat) = (b : Rat) := by rw [Nat.sub_add_cancel (by omega)]
      rw [Rat.natCast_add, Rat.natCast_mul] at e
      grind
    rw [this, Rat.natCast_mul]
    grind
  · rw [if_neg (fun h => c (h1.mp h)), if_neg c]
    have : ((2 * a - b : Nat) : Rat) = 2 * (a : Rat) - (b : Rat) := by
      have e : ((2 * a - b + b : Nat) : Rat) = ((2 * a : Nat) : Rat) := by rw [Nat.sub_add_cancel (by omega)]
      rw [Rat.natCast_add, Rat.natCast_mul] at e
      grind
    rw [this, Rat.natCast_mul]
    grind

theorem far_lt {a c b : Nat} (hb : 0 < b) : far ((a : Rat) / (b : Rat)) < far ((c : Rat) / (b : Rat)) ↔ dist a b < dist c b := by
  rw [far_div hb, far_div hb, div_lt_div (by omega)]

theorem part_eq {l : List (List Nat)} {f : List Nat → Bool} (h : 0 < l.length) : part l f = ((l.filter f).length : Rat) / (l.length : Rat) := by
  unfold part
  rw [if_neg (by omega)]

/-- in how many rows that may be x stands ahead of y -/
def ahead (o : Order) (x y : Nat) : Nat := ((rows o).filter fun r => decide (place r x < place r y)).length

theorem chance_eq {o : Order} (k : Ok o) (x y : Nat) : chance o x y = (ahead o x y : Rat) / ((rows o).length : Rat) := part_eq (rows_pos k)

theorem ahead_with {o : Order} (k : Ok o) {x y : Nat} (hx : x ∈ things o) (hy : y ∈ things o) (ne : x ≠ y) :
    ahead o x y = if below o y x = true then 0 else (rows (with_ o x y)).length := by
  unfold ahead
  split
  · rename_i h
    rw [rows_never hx hy h]; rfl
  · rename_i h
    rw [rows_with k hx hy ne (Bool.eq_false_iff.mpr h)]
end Om
end

section
/-! The flat list of calls: read call by call. -/
namespace Om
open Or01

def enc : Call → List Nat
  | .things n => [0, n]
  | .less x y => [1, x, y]
  | .undo => [2]
  | .many => [3]
  | .nth k => [4, k]
  | .rank l => 5 :: l.length :: l
  | .chance x y => [6, x, y]
  | .both x y z => [7, x, y, z]
  | .spread x => [8, x]
  | .fairest => [9]
  | .fewest => [10]
  | .next => [11]
  | .likely => [12]
  | .is x y => [13, x, y]

/-- what is given back, call by call -/
def run : Order → List Call → List Int
  | _, [] => []
  | o, c :: cs => ((step o c).2.length : Int) :: (step o c).2 ++ run (step o c).1 cs

def up32 (l : List Nat) : List Int := l.map fun (n : Nat) => (n : Int)

theorem up32_append (l l' : List Nat) : up32 (l ++ l') = up32 l ++ up32 l' := List.map_append

theorem toNat_up : ∀ {l : List Int}, (∀ z ∈ l, 0 ≤ z) → up32 (l.map Int.toNat) = l
  | [], _ => rfl
  | z :: l, h => by
    show ((z.toNat : Nat) : Int) :: up32 (l.map Int.toNat) = z :: l
    rw [toNat_up fun y hy => h y (List.mem_cons_of_mem _ hy), Int.toNat_of_nonneg (h z List.mem_cons_self)]

theorem call_plain {p : Int} {r : List Int} {c : List (List Int)} {t : List Int} {n : Nat} (hs : PyOr01.shape p = some (n, 0)) (h : PyFlat.call PyOr01.shape (p :: r) = some (c, t)) : n ≤ r.length ∧ c = [p :: r.take n] ∧ t = r.drop n := by
  unfold PyFlat.call at h
  dsimp only at h
  rw [hs] at h
  dsimp only at h
  split at h
  · cases h
  · rename_i hl
    unfold PyFlat.rows at h
    dsimp only at h
    obtain ⟨rfl, rfl⟩ := Prod.mk.inj (Option.some.inj h)
    exact ⟨by omega, rfl, rfl⟩

theorem call_row {p : Int} {r : List Int} {c : List (List Int)} {t : List Int} (hs : PyOr01.shape p = some (0, 1)) (h : PyFlat.call PyOr01.shape (p :: r) = some (c, t)) :
    ∃ (m : Nat) (r' : List Int), r = (m : Int) :: r' ∧ m ≤ r'.length ∧ c = [[p], r'.take m] ∧ t = r'.drop m := by
  unfold PyFlat.call at h
  dsimp only at h
  rw [hs] at h
  dsimp only at h
  rw [if_neg (by omega), List.drop_zero, List.take_zero] at h
  cases r with
  | nil => cases h
  | cons m r' =>
    unfold PyFlat.rows PyFlat.row at h
    dsimp only at h
    by_cases q : 0 ≤ m ∧ m.toNat ≤ r'.length
    · rw [if_pos q] at h
      unfold PyFlat.rows at h
      dsimp only at h
      obtain ⟨rfl, rfl⟩ := Prod.mk.inj (Option.some.inj h)
      exact ⟨m.toNat, r', by rw [Int.toNat_of_nonneg q.1], q.2, rfl, rfl⟩
    · rw [if_neg q] at h
      cases h

theorem callOf_some {l : List Int} {call : Call} (h : Or01Neutral.callOf l = some call) : (∀ z ∈ l, 0 ≤ z) ∧ Or01Neutral.callIn (l.map Int.toNat) = some call := by
  unfold Or01Neutral.callOf at h
  split at h
  · cases h
  rename_i hn
  refine ⟨fun z hz => ?_, h⟩
  have hn' : l.all Or01Neutral.nat = true := by
    cases e : l.all Or01Neutral.nat with
    | true => rfl
    | false => exact absurd e hn
  rw [List.all_eq_true] at hn'
  have := hn' z hz
  unfold Or01Neutral.nat at this
  rw [Bool.and_eq_true, decide_eq_true_iff, decide_eq_true_iff] at this
  exact this.1

theorem shape_kinds {p : Int} {r : List Int} {c : List (List Int)} {t : List Int} (h : PyFlat.call PyOr01.shape (p :: r) = some (c, t)) :
    p = 0 ∨ p = 1 ∨ p = 2 ∨ p = 3 ∨ p = 4 ∨ p = 5 ∨ p = 6 ∨ p = 7 ∨ p = 8 ∨ p = 9 ∨ p = 10 ∨ p = 11 ∨ p = 12 ∨ p = 13 := by
  refine Classical.byContradiction fun n => ?_
  have hs : PyOr01.shape p = none := by
    unfold PyOr01.shape
    simp only [not_or] at n
    simp only [n, if_false]
  unfold PyFlat.call at h
  dsimp only at h
  rw [hs] at h
  cases h

/-- one call of the flat list, what it is by the words -/
theorem parse_one {p : Int} {r : List Int} {c : List (List Int)} {t : List Int} {call : Call} (h : PyFlat.call PyOr01.shape (p :: r) = some (c, t)) (hc : Or01Neutral.callOf ((PyOr01.whole c).headD []) = some call) :
    p :: r = up32 (enc call) ++ t := by
  obtain ⟨h0, hi⟩ := callOf_some hc
  rcases shape_kinds h with rfl | rfl | rfl | rfl | rfl | rfl | rfl | rfl | rfl | rfl | rfl | rfl | rfl | rfl
  case inr.inr.inr.inr.inr.inl =>
    obtain ⟨m, r', rfl, hm, rfl, rfl⟩ := call_row rfl h
    have e : (PyOr01.whole [[5], r'.take m]).headD [] = 5 :: r'.take m := rfl
    rw [e] at h0 hi
    have hi' : some (Call.rank ((r'.take m).map Int.toNat)) = some call := hi
    cases hi'
    show (5 : Int) :: (m : Int) :: r' = (5 : Int) :: ((((r'.take m).map Int.toNat).length : Nat) : Int) :: (up32 ((r'.take m).map Int.toNat) ++ r'.drop m)
    rw [toNat_up fun z hz => h0 z (List.mem_cons_of_mem _ hz), List.take_append_drop, List.length_map, List.length_take, Nat.min_eq_left hm]
  all_goals
    obtain ⟨hl, rfl, rfl⟩ := call_plain rfl h
    first
    | (have hi' := hi
       cases hi'
       rfl)
    | (match r, hl with
       | x :: r', _ =>
         have hx : 0 ≤ x := h0 x (by show x ∈ [_, x]; simp)
         cases hi
         show _ :: x :: r' = _ :: ((x.toNat : Nat) : Int) :: r'
         rw [Int.toNat_of_nonneg hx] <;> rfl)
    | (match r, hl with
       | x :: y :: r', _ =>
         have hx : 0 ≤ x := h0 x (by show x ∈ [_, x, y]; simp)
         have hy : 0 ≤ y := h0 y (by show y ∈ [_, x, y]; simp)
         cases hi
         show _ :: x :: y :: r' = _ :: ((x.toNat : Nat) : Int) :: ((y.toNat : Nat) : Int) :: r'
         rw [Int.toNat_of_nonneg hx, Int.toNat_of_nonneg hy] <;> rfl)
    | (match r, hl with
       | x :: y :: z :: r', _ =>
         have hx : 0 ≤ x := h0 x (by show x ∈ [_, x, y, z]; simp)
         have hy : 0 ≤ y := h0 y (by show y ∈ [_, x, y, z]; simp)
         have hz : 0 ≤ z := h0 z (by show z ∈ [_, x, y, z]; simp)
         cases hi
         show _ :: x :: y :: z :: r' = _ :: ((x.toNat : Nat) : Int) :: ((y.toNat : Nat) : Int) :: ((z.toNat : Nat) : Int) :: r'
         rw [Int.toNat_of_nonneg hx, Int.toNat_of_nonneg hy, Int.toNat_of_nonneg hz] <;> rfl)

theorem parse_calls : ∀ (f : Nat) (l : List Int) (raw : List (List (List Int))), PyFlat.calls PyOr01.shape f l = some raw → ((raw.map PyOr01.whole).map fun c => c.headD []).all Or01Neutral.asked1 = true →
    ∃ cs : List Call, l = up32 (cs.flatMap enc) ∧ ∀ o : Order, PyFlat.told (PyFlat.played (fun s c => Or01Neutral.step s (c.headD [])) o (raw.map PyOr01.whole)) = run o cs
  | f, [], raw, h, _ => by
    have : raw = [] := by
      cases f <;> (unfold PyFlat.calls at h; exact (Option.some.inj h).symm)
    subst this
    exact ⟨[], rfl, fun _ => rfl⟩
  | 0, _ :: _, raw, h, _ => by cases h
  | f + 1, p :: r, raw, h, ha => by
    unfold PyFlat.calls at h
    cases e : PyFlat.call PyOr01.shape (p :: r) with
    | none => rw [e] at h; cases h
    | some ct =>
      obtain ⟨c, t⟩ := ct
      rw [e] at h
      dsimp only at h
      cases e2 : PyFlat.calls PyOr01.shape f t with
      | none => rw [e2] at h; cases h
      | some cs =>
        rw [e2] at h
        cases h
        rw [List.map_cons, List.map_cons, List.all_cons, Bool.and_eq_true] at ha
        obtain ⟨call, hcall⟩ := Option.isSome_iff_exists.mp (show (Or01Neutral.callOf ((PyOr01.whole c).headD [])).isSome = true from ha.1)
        obtain ⟨cs', h1, h2⟩ := parse_calls f t cs e2 ha.2
        have hp := parse_one e hcall
        refine ⟨call :: cs', ?_, fun o => ?_⟩
        · rw [hp, List.flatMap_cons, up32_append, ← h1]
        · rw [List.map_cons]
          show PyFlat.told ((Or01Neutral.step o ((PyOr01.whole c).headD [])).2 :: PyFlat.played (fun s c => Or01Neutral.step s (c.headD [])) (Or01Neutral.step o ((PyOr01.whole c).headD [])).1 (cs.map PyOr01.whole)) = _
          have es : Or01Neutral.step o ((PyOr01.whole c).headD []) = Or01.step o call := by
            unfold Or01Neutral.step
            rw [hcall]
          rw [es]
          have := h2 (Or01.step o call).1
          unfold PyFlat.told at this ⊢
          rw [List.flatMap_cons, this]
          rfl

/-- **what is asked, call by call** -/
theorem parse_all {l : List Int} (h : PyOr01.answers_asked l = true) : ∃ cs : List Call, l = up32 (cs.flatMap enc) ∧ PyOr01.answers l = run init cs ∧ (PyOr01.answers l).length ≤ 10000000 := by
  unfold PyOr01.answers_asked at h
  cases e : PyFlat.calls PyOr01.shape l.length l with
  | none => rw [e] at h; cases h
  | some raw =>
    rw [e] at h
    simp only [Bool.and_eq_true] at h
    obtain ⟨⟨_, ha⟩, hs⟩ := h
    unfold Or01Neutral.asked at ha
    rw [Bool.and_eq_true] at ha
    obtain ⟨cs, h1, h2⟩ := parse_calls _ _ _ e ha.1
    refine ⟨cs, h1, ?_, ?_⟩
    · unfold PyOr01.answers PyOr01.calls
      rw [e]
      exact h2 init
    · unfold PyFlat.short at hs
      exact decide_eq_true_iff.mp hs

theorem ok_step {o : Order} (k : Ok o) (c : Call) : Ok (step o c).1 ∧ (step o c).1.told.length ≤ o.told.length + 1 := by
  cases c
  case things n =>
    show Ok (if n = 0 ∨ 7 < n then (o, [-1]) else ((⟨n, []⟩ : Order), [0])).1 ∧ (if n = 0 ∨ 7 < n then (o, [-1]) else ((⟨n, []⟩ : Order), [0])).1.told.length ≤ o.told.length + 1
    split
    · exact ⟨k, Nat.le_succ _⟩
    · rename_i h
      exact ⟨ok_things h, Nat.zero_le _⟩
  case less x y =>
    have e : step o (.less x y) = (if isThing o x = false ∨ isThing o y = false ∨ x = y then (o, [-1]) else if below o y x = true then (o, [-6]) else if below o x y = true then (o, [-4]) else (with_ o x y, Or01.ints [(rows (with_ o x y)).length])) := rfl
    rw [e]
    split
    · exact ⟨k, Nat.le_succ _⟩
    · rename_i h
      split
      · exact ⟨k, Nat.le_succ _⟩
      · rename_i h2
        split
        · exact ⟨k, Nat.le_succ _⟩
        · simp only [not_or] at h
          refine ⟨ok_with k (mem_things.mpr (isThing_iff.mp ?_)) (mem_things.mpr (isThing_iff.mp ?_)) h.2.2 (Bool.eq_false_iff.mpr h2), ?_⟩
          · cases q : isThing o x with
            | true => rfl
            | false => exact absurd q h.1
          · cases q : isThing o y with
            | true => rfl
            | false => exact absurd q h.2.1
          · show (o.told ++ [(x, y)]).length ≤ _
            rw [List.length_append]
            exact Nat.le_refl _
  case undo =>
    have e : step o .undo = (if o.told = [] then (o, [-3]) else ({ o with told := o.told.dropLast }, Or01.ints [o.told.length - 1])) := rfl
    rw [e]
    split
    · exact ⟨k, Nat.le_succ _⟩
    · refine ⟨ok_undo k, ?_⟩
      show o.told.dropLast.length ≤ _
      rw [List.length_dropLast]
      omega
  all_goals exact ⟨k, Nat.le_succ _⟩

theorem enc_cons (c : Call) : ∃ p l, enc c = p :: l := by
  cases c <;> exact ⟨_, _, rfl⟩
theorem enc_pos (c : Call) : 1 ≤ (enc c).length := by
  obtain ⟨p, l, e⟩ := enc_cons c
  rw [e, List.length_cons]
  omega
end Om
end

section
/-! What stage 2 asks, in whole numbers. -/
namespace Om
open Or01

/-! both -/
def aheadBoth (o : Order) (x y z : Nat) : Nat := ((rows o).filter fun r => decide (place r x < place r y) && decide (place r x < place r z)).length

theorem both_eq {o : Order} (k : Ok o) (x y z : Nat) : (part (rows o) fun r => decide (place r x < place r y) && decide (place r x < place r z)) = (aheadBoth o x y z : Rat) / ((rows o).length : Rat) := part_eq (rows_pos k)

theorem below_with_back {o : Order} (k : Ok o) {x y z : Nat} (hx : x ∈ things o) (hy : y ∈ things o) (hz : z ∈ things o) (ne : x ≠ y) (nb : below o y x = false) : below (with_ o x y) z x = below o z x := by
  rw [below_with k hx hy ne nb hz hx, nb]
  have : (x == y) = false := by
    rw [Bool.eq_false_iff]
    intro h
    exact ne (beq_iff_eq.mp h)
  rw [this]
  simp

/-- both pairs told -/
theorem both_with {o : Order} (k : Ok o) {x y z : Nat} (hx : x ∈ things o) (hy : y ∈ things o) (hz : z ∈ things o) (ny : x ≠ y) (nz : x ≠ z) :
    aheadBoth o x y z = if below o y x = true ∨ below o z x = true then 0 else (rows (with_ (with_ o x y) x z)).length := by
  unfold aheadBoth
  split
  · rename_i h
    rw [List.length_eq_zero_iff, List.filter_eq_nil_iff]
    intro r hr q
    rw [Bool.and_eq_true, decide_eq_true_iff, decide_eq_true_iff] at q
    rcases h with h | h
    · have := rows_order hr hy hx h; omega
    · have := rows_order hr hz hx h; omega
  · rename_i h
    simp only [not_or, Bool.not_eq_true] at h
    have k1 := ok_with k hx hy ny h.1
    rw [rows_with k1 (show x ∈ things (with_ o x y) from hx) (show z ∈ things (with_ o x y) from hz) nz (by rw [below_with_back k hx hy hz ny h.1]; exact h.2), rows_with k hx hy ny h.1, List.filter_filter]
    refine congrArg List.length (List.filter_congr fun r _ => ?_)
    rw [Bool.and_comm]

/-! places -/
/-- in how many rows x stands in place k + 1 -/
def inPlace (o : Order) (x k : Nat) : Nat := ((rows o).filter fun r => place r x == k).length
/-- the sum of a thing's places -/
def placesSum (o : Order) (x : Nat) : Nat := ((rows o).map fun r => place r x + 1).sum

theorem spread_eq (o : Order) (x : Nat) : spread o x = (List.range o.many).map fun k => inPlace o x k := rfl

theorem foldr_add_sum : ∀ l : List Nat, l.foldr (fun a n => a + n) 0 = l.sum
  | [] => rfl
  | a :: l => by rw [List.foldr_cons, List.sum_cons, foldr_add_sum l]

theorem average_eq {o : Order} (k : Ok o) (x : Nat) : average o x = (placesSum o x : Rat) / ((rows o).length : Rat) := by
  unfold average placesSum
  have := rows_pos k
  dsimp only
  rw [if_neg (by omega), foldr_add_sum]

theorem place_lt {x : Nat} : ∀ {r : List Nat}, x ∈ r → place r x < r.length
  | a :: r, h => by
    rw [place_cons, List.length_cons]
    by_cases e : a = x
    · rw [if_pos e]; omega
    · rw [if_neg e]
      have := place_lt (x := x) (r := r) (by
        rcases List.mem_cons.mp h with h | h
        · exact absurd h.symm e
        · exact h)
      omega

theorem sum_map_add {α : Type} (f g : α → Nat) : ∀ l : List α, (l.map fun a => f a + g a).sum = (l.map f).sum + (l.map g).sum
  | [] => rfl
  | a :: l => by
    rw [List.map_cons, List.map_cons, List.map_cons, List.sum_cons, List.sum_cons, List.sum_cons, sum_map_add f g l]
    omega

theorem sum_zero {α : Type} : ∀ l : List α, (l.map fun _ => 0).sum = 0
  | [] => rfl
  | a :: l => by rw [List.map_cons, List.sum_cons, sum_zero l]

theorem sum_pick (f : Nat → Nat) (j : Nat) : ∀ n, j < n → ((List.range n).map fun k => if j = k then f k else 0).sum = f j
  | 0, h => by omega
  | n + 1, h => by
    rw [List.range_succ, List.map_append, List.sum_append]
    by_cases e : j = n
    · subst e
      have : ((List.range j).map fun k => if j = k then f k else 0) = (List.range j).map fun _ => 0 := by
        refine List.map_congr_left fun k hk => ?_
        rw [if_neg (by have := List.mem_range.mp hk; omega)]
      rw [this, sum_zero]
      simp
    · rw [sum_pick f j n (by omega)]
      simp [e]

/-- the sum of the places, place by place -/
theorem placesSum_eq (o : Order) {x : Nat} (hx : x ∈ things o) : placesSum o x = ((List.range o.many).map fun k => (k + 1) * inPlace o x k).sum := by
  have key : ∀ l : List (List Nat), (∀ r ∈ l, place r x < o.many) → (l.map fun r => place r x + 1).sum = ((List.range o.many).map fun k => (k + 1) * (l.filter fun r => place r x == k).length).sum := by
    intro l
    induction l with
    | nil =>
      intro _
      have : ((List.range o.many).map fun k => (k + 1) * (([] : List (List Nat)).filter fun r => place r x == k).length) = (List.range o.many).map fun _ => 0 := List.map_congr_left fun k _ => rfl
      rw [this, sum_zero]
      rfl
    | cons r l ih =>
      intro h
      have ih := ih fun r hr => h r (List.mem_cons_of_mem _ hr)
      have hr := h r List.mem_cons_self
      rw [List.map_cons, List.sum_cons, ih]
      have e : ((List.range o.many).map fun k => (k + 1) * ((r :: l).filter fun r => place r x == k).length) = (List.range o.many).map fun k => (if place r x = k then k + 1 else 0) + (k + 1) * (l.filter fun r => place r x == k).length := by
        refine List.map_congr_left fun k _ => ?_
        rw [List.filter_cons]
        by_cases c : place r x = k
        · rw [if_pos (by rw [c]; exact beq_self_eq_true k), if_pos c, List.length_cons, Nat.mul_add, Nat.mul_one, Nat.add_comm]
        · rw [if_neg (fun z => c (beq_iff_eq.mp z)), if_neg c, Nat.zero_add]
      rw [e, sum_map_add, sum_pick (fun k => k + 1) (place r x) o.many hr]
  refine key (rows o) fun r hr => ?_
  have := place_lt ((rows_mem hr).mpr hx)
  rw [(rows_perm hr).length_eq, things_length] at this
  exact this

theorem placesSum_le {o : Order} (k : Ok o) {x : Nat} (hx : x ∈ things o) : placesSum o x ≤ 35280 := by
  have key : ∀ l : List (List Nat), (∀ r ∈ l, place r x + 1 ≤ 7) → (l.map fun r => place r x + 1).sum ≤ 7 * l.length := by
    intro l
    induction l with
    | nil => intro _; simp
    | cons r l ih =>
      intro h
      have ih := ih fun r hr => h r (List.mem_cons_of_mem _ hr)
      have := h r List.mem_cons_self
      rw [List.map_cons, List.sum_cons, List.length_cons]
      omega
  have h1 := key (rows o) fun r hr => by
    have := place_lt ((rows_mem hr).mpr hx)
    rw [(rows_perm hr).length_eq, things_length] at this
    have := k.seven
    omega
  have h2 := rows_le k
  unfold placesSum
  omega

/-! the fairest question -/
theorem mem_open {o : Order} {p : Nat × Nat} : p ∈ open_ o ↔ p.1 ∈ things o ∧ p.2 ∈ things o ∧ p.1 < p.2 ∧ below o p.1 p.2 = false ∧ below o p.2 p.1 = false := by
  unfold open_
  rw [List.mem_flatMap]
  constructor
  · rintro ⟨x, hx, h⟩
    obtain ⟨y, hy, rfl⟩ := List.mem_map.mp h
    obtain ⟨h1, h2⟩ := List.mem_filter.mp hy
    rw [Bool.and_eq_true, Bool.and_eq_true, decide_eq_true_iff, Bool.not_eq_true', Bool.not_eq_true'] at h2
    exact ⟨hx, h1, h2.1, h2.2.1, h2.2.2⟩
  · rintro ⟨h1, h2, h3, h4, h5⟩
    refine ⟨p.1, h1, List.mem_map.mpr ⟨p.2, List.mem_filter.mpr ⟨h2, ?_⟩, rfl⟩⟩
    rw [h4, h5]
    simp [h3]

/-- the nearer of two, the first where they are as near -/
def nearer (o : Order) (b : Option (Nat × Nat)) (p : Nat × Nat) : Option (Nat × Nat) := match b with
  | none => some p
  | some q => if dist (ahead o p.1 p.2) (rows o).length < dist (ahead o q.1 q.2) (rows o).length then some p else some q

theorem fairest_eq {o : Order} (k : Ok o) : fairest o = (open_ o).foldl (nearer o) none := by
  have hp := rows_pos k
  have key : ∀ (l : List (Nat × Nat)) (b : Option (Nat × Nat)),
      ((l.map fun p => (p, part (rows o) fun r => decide (place r p.1 < place r p.2))).foldl (fun (b : Option ((Nat × Nat) × Rat)) p => match b with
        | none => some p
        | some q => if far p.2 < far q.2 then some p else some q) (b.map fun p => (p, part (rows o) fun r => decide (place r p.1 < place r p.2)))).map (fun p => p.1) = l.foldl (nearer o) b := by
    intro l
    induction l with
    | nil =>
      intro b
      cases b <;> rfl
    | cons p l ih =>
      intro b
      rw [List.map_cons, List.foldl_cons, List.foldl_cons, ← ih]
      congr 2
      cases b with
      | none => rfl
      | some q =>
        show (if far (part (rows o) fun r => decide (place r p.1 < place r p.2)) < far (part (rows o) fun r => decide (place r q.1 < place r q.2)) then _ else _) = Option.map _ (nearer o (some q) p)
        unfold nearer
        rw [part_eq hp, part_eq hp]
        have e := far_lt (a := ahead o p.1 p.2) (c := ahead o q.1 q.2) hp
        unfold ahead at e ⊢
        by_cases c : dist ((rows o).filter fun r => decide (place r p.1 < place r p.2)).length (rows o).length < dist ((rows o).filter fun r => decide (place r q.1 < place r q.2)).length (rows o).length
        · rw [if_pos (e.mpr c)]
          dsimp only
          rw [if_pos c]
          simp only [Option.map, part_eq hp]
        · rw [if_neg (fun h => c (e.mp h))]
          dsimp only
          rw [if_neg c]
          simp only [Option.map, part_eq hp]
  exact key (open_ o) none
end Om
end

section
/-! The things by their average places. -/
namespace Om
open Or01

def putN (S : Nat → Nat) (x : Nat) : List Nat → List Nat
  | [] => [x]
  | y :: l => if S x < S y then x :: y :: l else y :: putN S x l

theorem put_map {o : Order} (k : Ok o) (x : Nat) : ∀ l : List Nat, put (x, average o x) (l.map fun y => (y, average o y)) = (putN (placesSum o) x l).map fun y => (y, average o y)
  | [] => rfl
  | y :: l => by
    rw [List.map_cons]
    unfold put putN
    have e : average o x < average o y ↔ placesSum o x < placesSum o y := by
      rw [average_eq k, average_eq k, div_lt_div (rows_pos k)]
    by_cases c : placesSum o x < placesSum o y
    · rw [if_pos (e.mpr c), if_pos c]
      rfl
    · rw [if_neg (fun h => c (e.mp h)), if_neg c, put_map k x l]
      rfl

theorem likely_eq {o : Order} (k : Ok o) : likely o = ((things o).foldl (fun l x => putN (placesSum o) x l) []).map fun x => (x, average o x) := by
  have key : ∀ (ts : List Nat) (l : List Nat), (ts.map fun x => (x, average o x)).foldl (fun l x => put x l) (l.map fun y => (y, average o y)) = (ts.foldl (fun l x => putN (placesSum o) x l) l).map fun x => (x, average o x) := by
    intro ts
    induction ts with
    | nil => intro l; rfl
    | cons t ts ih =>
      intro l
      rw [List.map_cons, List.foldl_cons, List.foldl_cons, put_map k, ih]
  exact key (things o) []

/-- the lower average first, then the lower thing -/
def Ahead (S : Nat → Nat) (a b : Nat) : Prop := S a < S b ∨ (S a = S b ∧ a < b)

theorem putN_perm (S : Nat → Nat) (x : Nat) : ∀ l : List Nat, (putN S x l).Perm (x :: l)
  | [] => List.Perm.refl _
  | y :: l => by
    unfold putN
    split
    · exact List.Perm.refl _
    · exact ((putN_perm S x l).cons y).trans (List.Perm.swap x y l)

theorem putN_sorted (S : Nat → Nat) (x : Nat) : ∀ l : List Nat, l.Pairwise (Ahead S) → (∀ y ∈ l, y < x) → (putN S x l).Pairwise (Ahead S)
  | [], _, _ => List.pairwise_singleton _ _
  | y :: l, h, hx => by
    obtain ⟨h1, h2⟩ := List.pairwise_cons.mp h
    have hyx := hx y List.mem_cons_self
    unfold putN
    split
    · rename_i c
      refine List.pairwise_cons.mpr ⟨fun z hz => ?_, h⟩
      rcases List.mem_cons.mp hz with rfl | hz
      · exact .inl c
      · rcases h1 z hz with q | q
        · exact .inl (by omega)
        · exact .inl (by omega)
    · rename_i c
      refine List.pairwise_cons.mpr ⟨fun z hz => ?_, putN_sorted S x l h2 fun w hw => hx w (List.mem_cons_of_mem _ hw)⟩
      rcases List.mem_cons.mp ((putN_perm S x l).mem_iff.mp hz) with rfl | hz
      · by_cases e : S y = S z
        · exact .inr ⟨e, hyx⟩
        · exact .inl (by omega)
      · exact h1 z hz

theorem foldl_putN (S : Nat → Nat) : ∀ (ts l : List Nat), ts.Pairwise (· < ·) → (∀ t ∈ ts, ∀ y ∈ l, y < t) → l.Pairwise (Ahead S) →
    (ts.foldl (fun l x => putN S x l) l).Perm (l ++ ts) ∧ (ts.foldl (fun l x => putN S x l) l).Pairwise (Ahead S)
  | [], l, _, _, h => by
    rw [List.append_nil]
    exact ⟨List.Perm.refl _, h⟩
  | t :: ts, l, hs, hl, h => by
    obtain ⟨h1, h2⟩ := List.pairwise_cons.mp hs
    have hp := putN_perm S t l
    obtain ⟨p1, p2⟩ := foldl_putN S ts (putN S t l) h2 (fun u hu y hy => by
      rcases List.mem_cons.mp (hp.mem_iff.mp hy) with rfl | hy
      · exact h1 u hu
      · exact hl u (List.mem_cons_of_mem _ hu) y hy) (putN_sorted S t l h fun y hy => hl t List.mem_cons_self y hy)
    refine ⟨?_, p2⟩
    rw [List.foldl_cons]
    refine p1.trans ?_
    refine (hp.append_right ts).trans ?_
    exact List.perm_middle.symm

theorem ahead_asymm {S : Nat → Nat} {a b : Nat} (h : Ahead S a b) (h' : Ahead S b a) : False := by
  rcases h with h | ⟨h, g⟩ <;> rcases h' with h' | ⟨h', g'⟩ <;> omega

theorem sorted_unique {S : Nat → Nat} : ∀ {l m : List Nat}, l.Perm m → l.Pairwise (Ahead S) → m.Pairwise (Ahead S) → l = m
  | [], m, p, _, _ => by
    exact p.nil_eq
  | a :: l, [], p, _, _ => by
    have := p.length_eq
    simp at this
  | a :: l, b :: m, p, hl, hm => by
    obtain ⟨l1, l2⟩ := List.pairwise_cons.mp hl
    obtain ⟨m1, m2⟩ := List.pairwise_cons.mp hm
    have e : a = b := by
      refine Classical.byContradiction fun ne => ?_
      have ha : a ∈ m := by
        rcases List.mem_cons.mp (p.mem_iff.mp List.mem_cons_self) with h | h
        · exact absurd h ne
        · exact h
      have hb : b ∈ l := by
        rcases List.mem_cons.mp (p.mem_iff.mpr List.mem_cons_self) with h | h
        · exact absurd h.symm ne
        · exact h
      exact ahead_asymm (l1 b hb) (m1 a ha)
    subst e
    rw [sorted_unique (p.cons_inv) l2 m2]

/-- **the row by averages is the one that is so** -/
theorem likely_of {o : Order} (k : Ok o) {m : List Nat} (p : m.Perm (things o)) (s : m.Pairwise (Ahead (placesSum o))) : likely o = m.map fun x => (x, average o x) := by
  obtain ⟨p1, p2⟩ := foldl_putN (placesSum o) (things o) [] (things_sorted o) (fun _ _ _ h => by cases h) List.Pairwise.nil
  rw [likely_eq k, sorted_unique (p1.trans p.symm) p2 s]
end Om
end

section
/-! In how many rows a thing stands in a place, by the sets that may stand ahead of it. -/
namespace Om
open Or01

/-- how many of the set's followers lead to q -/
def leads (o : Order) (p q : Nat) : Nat := ((follow o p).filter fun t => p ||| bit t == q).length
/-- in how many ways a set may stand first, told from the sets below c -/
def T (o : Order) : Nat → Nat → Nat
  | 0, q => if q = 0 then 1 else 0
  | c + 1, q => T o c q + leads o c q * T o c c

theorem leads_le {o : Order} {p q : Nat} (h : q ≤ p) : leads o p q = 0 := by
  unfold leads
  rw [List.length_eq_zero_iff, List.filter_eq_nil_iff]
  intro t ht e
  have e := beq_iff_eq.mp e
  have := or_bit_gt (mem_left.mp (mem_follow ht)).2
  omega

theorem sum_leads (V : Nat → Nat) {o : Order} {p M : Nat} : ∀ l : List Nat, (∀ t ∈ l, p ||| bit t < M) →
    ((List.range M).map fun q => (l.filter fun t => p ||| bit t == q).length * V q).sum = (l.map fun t => V (p ||| bit t)).sum
  | [], _ => by
    have : ((List.range M).map fun q => (([] : List Nat).filter fun t => p ||| bit t == q).length * V q) = (List.range M).map fun _ => 0 := List.map_congr_left fun q _ => by simp
    rw [this, sum_zero]
    rfl
  | t :: l, h => by
    have ih := sum_leads V (o := o) (p := p) (M := M) l fun u hu => h u (List.mem_cons_of_mem _ hu)
    have ht := h t List.mem_cons_self
    have e : ((List.range M).map fun q => ((t :: l).filter fun t => p ||| bit t == q).length * V q) = (List.range M).map fun q => (if p ||| bit t = q then V q else 0) + (l.filter fun t => p ||| bit t == q).length * V q := by
      refine List.map_congr_left fun q _ => ?_
      rw [List.filter_cons]
      by_cases c : p ||| bit t = q
      · rw [if_pos (beq_iff_eq.mpr c), if_pos c, List.length_cons, Nat.add_mul, Nat.one_mul, Nat.add_comm]
      · rw [if_neg (fun z => c (beq_iff_eq.mp z)), if_neg c, Nat.zero_add]
    rw [e, sum_map_add, sum_pick V (p ||| bit t) M ht, ih, List.map_cons, List.sum_cons]

/-- **what is reached from all sets together**: V counts what is reached from a set, G what is reached at once -/
theorem reach {o : Order} {V G : Nat → Nat} {M : Nat} (hM : M = 2 ^ o.many) (hV : ∀ p, p < M → V p = G p + ((follow o p).map fun t => V (p ||| bit t)).sum) :
    V 0 = ((List.range M).map fun p => T o M p * G p).sum := by
  have key : ∀ c, c ≤ M → V 0 = ((List.range M).map fun p => T o c p * (if p < c then G p else V p)).sum := by
    intro c
    induction c with
    | zero =>
      intro _
      have e : ((List.range M).map fun p => T o 0 p * (if p < 0 then G p else V p)) = (List.range M).map fun p => if 0 = p then V p else 0 := by
        refine List.map_congr_left fun p _ => ?_
        rw [if_neg (Nat.not_lt_zero _)]
        unfold T
        by_cases c : p = 0
        · rw [if_pos c, if_pos c.symm, Nat.one_mul]
        · rw [if_neg c, if_neg (fun z => c z.symm), Nat.zero_mul]
      rw [e, sum_pick V 0 M (by rw [hM]; exact Nat.two_pow_pos _)]
    | succ c ih =>
      intro hc
      have ih := ih (by omega)
      rw [ih]
      have hcM : c < M := by omega
      have e1 : ((List.range M).map fun p => T o c p * (if p < c then G p else V p)) = (List.range M).map fun p => (if c = p then T o c p * ((follow o c).map fun t => V (c ||| bit t)).sum else 0) + T o c p * (if p < c + 1 then G p else V p) := by
        refine List.map_congr_left fun p _ => ?_
        by_cases h1 : p < c
        · rw [if_pos h1, if_neg (by omega), if_pos (by omega), Nat.zero_add]
        · rw [if_neg h1]
          by_cases h2 : c = p
          · subst h2
            rw [if_pos rfl, if_pos (by omega), hV c hcM, Nat.mul_add, Nat.add_comm]
          · rw [if_neg h2, if_neg (by omega), Nat.zero_add]
      have e2 : ((List.range M).map fun p => T o (c + 1) p * (if p < c + 1 then G p else V p)) = (List.range M).map fun p => (leads o c p * V p) * T o c c + T o c p * (if p < c + 1 then G p else V p) := by
        refine List.map_congr_left fun p _ => ?_
        show (T o c p + leads o c p * T o c c) * _ = _
        rw [Nat.add_mul, Nat.add_comm]
        congr 1
        by_cases h1 : p < c + 1
        · rw [leads_le (by omega)]; simp
        · rw [if_neg h1, Nat.mul_right_comm]
      rw [e1, e2, sum_map_add, sum_map_add]
      congr 1
      rw [sum_pick (fun p => T o c p * ((follow o c).map fun t => V (c ||| bit t)).sum) c M hcM]
      have e3 : ∀ (f : Nat → Nat) (k : Nat) (l : List Nat), (l.map fun p => f p * k).sum = (l.map f).sum * k := by
        intro f k l
        induction l with
        | nil => simp
        | cons a l ih => rw [List.map_cons, List.map_cons, List.sum_cons, List.sum_cons, ih, Nat.add_mul]
      rw [e3]
      unfold leads
      rw [sum_leads V (o := o) (p := c) (M := M) (follow o c) fun t ht => by
        rw [hM]; exact or_bit_lt (by rw [← hM]; exact hcM) (follow_thing ht)]
      rw [Nat.mul_comm]
  rw [key M (Nat.le_refl _)]
  refine congrArg List.sum (List.map_congr_left fun p hp => ?_)
  rw [if_pos (List.mem_range.mp hp)]

/-- how many things are in the set -/
def card (o : Order) (p : Nat) : Nat := ((things o).filter fun t => p.testBit (t - 1)).length

theorem card_left (o : Order) (p : Nat) : card o p + (left o p).length = o.many := by
  unfold card left
  have key : ∀ l : List Nat, (l.filter fun t => p.testBit (t - 1)).length + (l.filter fun t => !p.testBit (t - 1)).length = l.length := by
    intro l
    induction l with
    | nil => rfl
    | cons a l ih =>
      rw [List.filter_cons, List.filter_cons]
      cases h : p.testBit (a - 1) with
      | true => simp only [if_true, Bool.not_true, Bool.false_eq_true, if_false, List.length_cons]; omega
      | false => simp only [if_true, Bool.not_false, Bool.false_eq_true, if_false, List.length_cons]; omega
  rw [key, things_length]

/-- the rows behind a set in which x stands in place k + 1 of the whole -/
def behindIn (o : Order) (x k p : Nat) : Nat := if p.testBit (x - 1) = true then 0 else ((rowsOf (below o) (left o p).length (left o p)).filter fun r => place r x + card o p == k).length
/-- .. in which it stands right behind the set -/
def right (o : Order) (x k p : Nat) : Nat := if mayFollow o p x = true ∧ card o p = k then W o (p ||| bit x) else 0

theorem sum_flat {α β : Type} (g : α → List β) (p : β → Bool) : ∀ l : List α, ((l.flatMap g).filter p).length = (l.map fun a => ((g a).filter p).length).sum
  | [] => rfl
  | a :: l => by
    rw [List.flatMap_cons, List.filter_append, List.length_append, sum_flat g p l, List.map_cons, List.sum_cons]

theorem mayFollow_bit {o : Order} {p x : Nat} (h : mayFollow o p x = true) : p.testBit (x - 1) = false := by
  unfold mayFollow at h
  rw [Bool.and_eq_true, and_bit_zero] at h
  cases e : p.testBit (x - 1) with
  | false => rfl
  | true => rw [e] at h; cases h.1

theorem sum_pick_list (f : Nat → Nat) (c : Nat) {x : Nat} : ∀ l : List Nat, l.Nodup → (l.map fun t => if t = x then c else f t).sum = (if x ∈ l then c else 0) + (l.map fun t => if t = x then 0 else f t).sum
  | [], _ => by simp
  | a :: l, h => by
    obtain ⟨h1, h2⟩ := List.nodup_cons.mp h
    have ih := sum_pick_list f c (x := x) l h2
    rw [List.map_cons, List.sum_cons, List.map_cons, List.sum_cons, ih]
    by_cases e : a = x
    · subst e
      rw [if_pos rfl, if_pos rfl, if_neg h1, if_pos List.mem_cons_self]
    · rw [if_neg e, if_neg e]
      by_cases m : x ∈ l
      · rw [if_pos m, if_pos (List.mem_cons_of_mem _ m)]; omega
      · rw [if_neg m, if_neg (fun z => by
          rcases List.mem_cons.mp z with z | z
          · exact e z.symm
          · exact m z)]
        omega

theorem behindIn_rec {o : Order} {x k p : Nat} (hx : x ∈ things o) : behindIn o x k p = right o x k p + ((follow o p).map fun t => behindIn o x k (p ||| bit t)).sum := by
  unfold behindIn
  by_cases hb : p.testBit (x - 1) = true
  · rw [if_pos hb]
    have e1 : right o x k p = 0 := by
      unfold right
      rw [if_neg]
      rintro ⟨h, _⟩
      rw [mayFollow_bit h] at hb
      cases hb
    rw [e1]
    have e2 : ((follow o p).map fun t => if (p ||| bit t).testBit (x - 1) = true then 0 else ((rowsOf (below o) (left o (p ||| bit t)).length (left o (p ||| bit t))).filter fun r => place r x + card o (p ||| bit t) == k).length) = (follow o p).map fun _ => 0 := by
      refine List.map_congr_left fun t _ => ?_
      rw [if_pos (by rw [Nat.testBit_or, hb, Bool.true_or])]
    rw [e2, sum_zero]
  · have hb' : p.testBit (x - 1) = false := Bool.eq_false_iff.mpr hb
    rw [if_neg hb]
    have hxl : x ∈ left o p := mem_left.mpr ⟨hx, hb'⟩
    obtain ⟨n, hn⟩ : ∃ n, (left o p).length = n + 1 := ⟨(left o p).length - 1, by have := List.length_pos_of_mem hxl; omega⟩
    rw [hn, rowsOf_left, sum_flat]
    have hl : ∀ t ∈ follow o p, (left o (p ||| bit t)).length = n ∧ card o (p ||| bit t) = card o p + 1 := fun t ht => by
      have h1 := left_or_length (mem_follow ht)
      have h2 := card_left o p
      have h3 := card_left o (p ||| bit t)
      omega
    have e : ((follow o p).map fun t => (((rowsOf (below o) n (left o (p ||| bit t))).map fun r => t :: r).filter fun r => place r x + card o p == k).length)
        = (follow o p).map fun t => if t = x then (if card o p = k then W o (p ||| bit x) else 0) else behindIn o x k (p ||| bit t) := by
      refine List.map_congr_left fun t ht => ?_
      obtain ⟨l1, l2⟩ := hl t ht
      rw [List.filter_map, List.length_map]
      by_cases c : t = x
      · subst c
        rw [if_pos rfl]
        have ef : ((fun r => place r t + card o p == k) ∘ fun r => t :: r) = fun _ : List Nat => decide (card o p = k) := by
          funext r
          show (place (t :: r) t + card o p == k) = _
          rw [place_cons, if_pos rfl, Nat.zero_add, Bool.eq_iff_iff, beq_iff_eq, decide_eq_true_iff]
        rw [ef]
        by_cases ck : card o p = k
        · rw [if_pos ck, decide_eq_true ck, List.filter_eq_self.mpr fun _ _ => rfl, W, l1]
        · rw [if_neg ck, decide_eq_false ck, List.filter_eq_nil_iff.mpr fun _ _ z => by cases z]
          rfl
      · rw [if_neg c]
        unfold behindIn
        have tb : (p ||| bit t).testBit (x - 1) = false := by
          rw [Nat.testBit_or, hb', testBit_bit, Bool.false_or, decide_eq_false_iff_not]
          have := (mem_things.mp (follow_thing ht)).1
          have := (mem_things.mp hx).1
          omega
        rw [if_neg (by rw [tb]; exact Bool.false_ne_true), l1, l2]
        refine congrArg List.length (List.filter_congr fun r _ => ?_)
        show (place (t :: r) x + card o p == k) = _
        rw [place_cons, if_neg c, Nat.add_right_comm, Nat.add_assoc]
    rw [e, sum_pick_list _ _ _ ((follow_sorted o p).imp fun h => by omega)]
    congr 1
    · unfold right
      by_cases m : x ∈ follow o p
      · have m' : mayFollow o p x = true := (List.mem_filter.mp m).2
        rw [if_pos m]
        by_cases ck : card o p = k
        · rw [if_pos ck, if_pos ⟨m', ck⟩]
        · rw [if_neg ck, if_neg (fun z => ck z.2)]
      · rw [if_neg m, if_neg (fun z => m (List.mem_filter.mpr ⟨hx, z.1⟩))]
    · refine congrArg List.sum (List.map_congr_left fun t ht => ?_)
      by_cases c : t = x
      · subst c
        rw [if_pos rfl, if_pos (by rw [Nat.testBit_or, testBit_bit]; simp)]
      · rw [if_neg c]
        rfl

/-- **in how many rows x stands in place k + 1** -/
theorem inPlace_eq {o : Order} {x k : Nat} (hx : x ∈ things o) : inPlace o x k = ((List.range (2 ^ o.many)).map fun p => T o (2 ^ o.many) p * right o x k p).sum := by
  rw [← reach (V := behindIn o x k) (G := right o x k) rfl fun p _ => behindIn_rec hx]
  unfold behindIn inPlace
  have c0 : card o 0 = 0 := by
    have := card_left o 0
    rw [left_zero, things_length] at this
    omega
  rw [if_neg (by rw [Nat.zero_testBit]; exact Bool.false_ne_true), left_zero, things_length, c0, ← rows_eq]
  rfl
end Om
end

section
/-! How many questions are enough: by what lies below what alone, and by itself. -/
namespace Om
open Or01

theorem W_le {o : Order} (k : Ok o) (p : Nat) : W o p ≤ 5040 := by
  have hl : (left o p).length ≤ 7 := by
    have h1 : (left o p).length ≤ (things o).length := List.length_filter_le _ _
    have h2 := things_length o
    have h3 := k.seven
    omega
  exact Nat.le_trans (rowsOf_le _ _ (left_nodup o p) rfl) (fact_mono hl)

/-- two orders of the same things with the same lying below -/
structure Alike (o o' : Order) : Prop where
  many : o.many = o'.many
  eq : ∀ x ∈ things o, ∀ y ∈ things o, below o x y = below o' x y

theorem things_of {o o' : Order} (h : o.many = o'.many) : things o = things o' := by
  unfold things
  rw [h]

theorem Alike.th {o o' : Order} (a : Alike o o') : things o = things o' := things_of a.many

theorem flatMap_congr' {α β : Type} {f g : α → List β} {l : List α} (h : ∀ x ∈ l, f x = g x) : l.flatMap f = l.flatMap g := flatMap_same h

theorem Alike.op {o o' : Order} (a : Alike o o') : open_ o = open_ o' := by
  unfold Or01.open_
  rw [← a.th]
  refine flatMap_same fun x hx => ?_
  refine congrArg (List.map _) (List.filter_congr fun y hy => ?_)
  rw [a.eq x hx y hy, a.eq y hy x hx]

theorem Alike.wi {o o' : Order} (a : Alike o o') (k : Ok o) (k' : Ok o') {x y : Nat} (hx : x ∈ things o) (hy : y ∈ things o) (ne : x ≠ y) (nb : below o y x = false) : Alike (with_ o x y) (with_ o' x y) := by
  refine ⟨a.many, fun u hu v hv => ?_⟩
  have hu : u ∈ things o := hu
  have hv : v ∈ things o := hv
  have t := a.th
  rw [below_with k hx hy ne nb hu hv, below_with k' (t ▸ hx) (t ▸ hy) ne (by rw [← a.eq y hy x hx]; exact nb) (t ▸ hu) (t ▸ hv), a.eq u hu v hv, a.eq u hu x hx, a.eq y hy v hv]

/-- the least of some, with one more -/
theorem open_ok {o : Order} (k : Ok o) {p : Nat × Nat} (h : p ∈ open_ o) : Ok (with_ o p.1 p.2) ∧ Ok (with_ o p.2 p.1) := by
  obtain ⟨h1, h2, h3, h4, h5⟩ := mem_open.mp h
  exact ⟨ok_with k h1 h2 (by omega) h5, ok_with k h2 h1 (by omega) h4⟩

theorem fewest_alike : ∀ (n : Nat) {o o' : Order}, Alike o o' → Ok o → Ok o' → fewest n o = fewest n o'
  | 0, _, _, _, _, _ => rfl
  | n + 1, o, o', a, k, k' => by
    unfold fewest
    rw [← a.op]
    have key : ∀ q ∈ Or01.open_ o, max (fewest n (Or01.with_ o q.1 q.2)) (fewest n (Or01.with_ o q.2 q.1)) = max (fewest n (Or01.with_ o' q.1 q.2)) (fewest n (Or01.with_ o' q.2 q.1)) := by
      intro q hq
      obtain ⟨h1, h2, h3, h4, h5⟩ := mem_open.mp hq
      obtain ⟨k1, k2⟩ := open_ok k hq
      obtain ⟨k3, k4⟩ := open_ok k' (a.op ▸ hq)
      rw [fewest_alike n (a.wi k k' h1 h2 (by omega) h5) k1 k3, fewest_alike n (a.wi k k' h2 h1 (by omega) h4) k2 k4]
    cases e : Or01.open_ o with
    | nil => rfl
    | cons p l =>
      rw [e] at key
      show 1 + ((p :: l).map fun q => max (fewest n (Or01.with_ o q.1 q.2)) (fewest n (Or01.with_ o q.2 q.1))).foldr min (max (fewest n (Or01.with_ o p.1 p.2)) (fewest n (Or01.with_ o p.2 p.1)))
        = 1 + ((p :: l).map fun q => max (fewest n (Or01.with_ o' q.1 q.2)) (fewest n (Or01.with_ o' q.2 q.1))).foldr min (max (fewest n (Or01.with_ o' p.1 p.2)) (fewest n (Or01.with_ o' p.2 p.1)))
      rw [List.map_congr_left key, key p List.mem_cons_self]

/-- what is told leaves fewer open -/
theorem open_sub {o : Order} (k : Ok o) {x y : Nat} (hx : x ∈ things o) (hy : y ∈ things o) (ne : x ≠ y) (nb : below o y x = false) : List.Sublist (open_ (with_ o x y)) (open_ o) := by
  unfold open_
  rw [things_with]
  have key : ∀ l : List Nat, (∀ u ∈ l, u ∈ things o) → List.Sublist (l.flatMap fun u => ((things o).filter fun v => decide (u < v) && (!below (with_ o x y) u v && !below (with_ o x y) v u)).map fun v => (u, v)) (l.flatMap fun u => ((things o).filter fun v => decide (u < v) && (!below o u v && !below o v u)).map fun v => (u, v)) := by
    intro l
    induction l with
    | nil => intro _; exact List.Sublist.refl _
    | cons u l ih =>
      intro h
      rw [List.flatMap_cons, List.flatMap_cons]
      refine List.Sublist.append (List.Sublist.map _ ?_) (ih fun v hv => h v (List.mem_cons_of_mem _ hv))
      have hu := h u List.mem_cons_self
      have e : ((things o).filter fun v => decide (u < v) && (!below (with_ o x y) u v && !below (with_ o x y) v u)) = ((things o).filter fun v => decide (u < v) && (!below o u v && !below o v u)).filter fun v => (!below (with_ o x y) u v && !below (with_ o x y) v u) := by
        rw [List.filter_filter]
        refine List.filter_congr fun v hv => ?_
        rw [below_with k hx hy ne nb hu hv, below_with k hx hy ne nb hv hu]
        cases decide (u < v) <;> cases below o u v <;> cases below o v u <;> simp
      rw [e]
      exact List.filter_sublist
  exact key (things o) fun _ h => h

theorem open_less {o : Order} (k : Ok o) {p : Nat × Nat} (h : p ∈ open_ o) : (open_ (with_ o p.1 p.2)).length < (open_ o).length ∧ (open_ (with_ o p.2 p.1)).length < (open_ o).length := by
  obtain ⟨h1, h2, h3, h4, h5⟩ := mem_open.mp h
  have go : ∀ {x y : Nat} (hx : x ∈ things o) (hy : y ∈ things o) (ne : x ≠ y) (nb : below o y x = false), p ∉ open_ (with_ o x y) → (open_ (with_ o x y)).length < (open_ o).length := by
    intro x y hx hy ne nb hn
    have sl := open_sub k hx hy ne nb
    refine Nat.lt_of_le_of_ne sl.length_le fun e => ?_
    rw [sl.eq_of_length e] at hn
    exact hn h
  refine ⟨go h1 h2 (by omega) h5 fun z => ?_, go h2 h1 (by omega) h4 fun z => ?_⟩
  · obtain ⟨_, _, _, z4, _⟩ := mem_open.mp z
    rw [below_with k h1 h2 (by omega) h5 h1 h2] at z4
    simp at z4
  · obtain ⟨_, _, _, _, z5⟩ := mem_open.mp z
    rw [below_with k h2 h1 (by omega) h4 h2 h1] at z5
    simp at z5

theorem fewest_enough : ∀ (n m : Nat) {o : Order}, Ok o → (open_ o).length ≤ n → (open_ o).length ≤ m → fewest n o = fewest m o
  | 0, 0, _, _, _, _ => rfl
  | 0, m + 1, o, _, h, _ => by
    have e : open_ o = [] := List.length_eq_zero_iff.mp (by omega)
    unfold fewest
    rw [e]
  | n + 1, 0, o, _, _, h => by
    have e : open_ o = [] := List.length_eq_zero_iff.mp (by omega)
    unfold fewest
    rw [e]
  | n + 1, m + 1, o, k, h, h' => by
    unfold fewest
    have key : ∀ q ∈ open_ o, max (fewest n (with_ o q.1 q.2)) (fewest n (with_ o q.2 q.1)) = max (fewest m (with_ o q.1 q.2)) (fewest m (with_ o q.2 q.1)) := by
      intro q hq
      obtain ⟨k1, k2⟩ := open_ok k hq
      obtain ⟨l1, l2⟩ := open_less k hq
      rw [fewest_enough n m k1 (by omega) (by omega), fewest_enough n m k2 (by omega) (by omega)]
    cases e : open_ o with
    | nil => rfl
    | cons p l =>
      rw [e] at key
      show 1 + ((p :: l).map fun q => max (fewest n (with_ o q.1 q.2)) (fewest n (with_ o q.2 q.1))).foldr min (max (fewest n (with_ o p.1 p.2)) (fewest n (with_ o p.2 p.1)))
        = 1 + ((p :: l).map fun q => max (fewest m (with_ o q.1 q.2)) (fewest m (with_ o q.2 q.1))).foldr min (max (fewest m (with_ o p.1 p.2)) (fewest m (with_ o p.2 p.1)))
      rw [List.map_congr_left key, key p List.mem_cons_self]

theorem foldr_min_le : ∀ (l : List Nat) (a : Nat), (∀ x ∈ l, l.foldr min a ≤ x) ∧ l.foldr min a ≤ a ∧ (l.foldr min a = a ∨ l.foldr min a ∈ l)
  | [], a => ⟨fun _ h => (by cases h), Nat.le_refl _, .inl rfl⟩
  | b :: l, a => by
    obtain ⟨h1, h2, h3⟩ := foldr_min_le l a
    rw [List.foldr_cons]
    refine ⟨fun x hx => ?_, Nat.le_trans (Nat.min_le_right _ _) h2, ?_⟩
    · rcases List.mem_cons.mp hx with rfl | hx
      · exact Nat.min_le_left _ _
      · exact Nat.le_trans (Nat.min_le_right _ _) (h1 x hx)
    · by_cases c : b ≤ l.foldr min a
      · rw [Nat.min_eq_left c]; exact .inr List.mem_cons_self
      · rw [Nat.min_eq_right (by omega)]
        rcases h3 with h3 | h3
        · exact .inl h3
        · exact .inr (List.mem_cons_of_mem _ h3)

/-- what is due, for at most four things -/
def need (o : Order) : Nat := fewest (open_ o).length o
/-- the questions with a first one -/
def ask (o : Order) (q : Nat × Nat) : Nat := 1 + max (need (with_ o q.1 q.2)) (need (with_ o q.2 q.1))

theorem need_alike {o o' : Order} (a : Alike o o') (k : Ok o) (k' : Ok o') : need o = need o' := by
  unfold need
  rw [a.op]
  exact fewest_alike _ a k k'

theorem need_six {o : Order} (k : Ok o) (h : (open_ o).length ≤ 6) : fewest 6 o = need o := fewest_enough _ _ k h (Nat.le_refl _)

theorem need_none {o : Order} (h : open_ o = []) : need o = 0 := by
  unfold need
  rw [h]
  rfl

/-- the least of the questions with a first one -/
theorem need_min {o : Order} (k : Ok o) {m : Nat} (h1 : ∃ q ∈ open_ o, ask o q = m) (h2 : ∀ q ∈ open_ o, m ≤ ask o q) : need o = m := by
  unfold need
  cases e : open_ o with
  | nil => rw [e] at h1; obtain ⟨_, h, _⟩ := h1; cases h
  | cons p l =>
    have key : ∀ q ∈ open_ o, max (fewest l.length (with_ o q.1 q.2)) (fewest l.length (with_ o q.2 q.1)) + 1 = ask o q := by
      intro q hq
      obtain ⟨k1, k2⟩ := open_ok k hq
      obtain ⟨l1, l2⟩ := open_less k hq
      rw [e, List.length_cons] at l1 l2
      unfold ask need
      rw [fewest_enough l.length _ k1 (by omega) (Nat.le_refl _), fewest_enough l.length _ k2 (by omega) (Nat.le_refl _), Nat.add_comm]
    rw [List.length_cons]
    unfold fewest
    rw [e]
    show 1 + ((p :: l).map fun q => max (fewest l.length (with_ o q.1 q.2)) (fewest l.length (with_ o q.2 q.1))).foldr min (max (fewest l.length (with_ o p.1 p.2)) (fewest l.length (with_ o p.2 p.1))) = m
    rw [← e]
    obtain ⟨f1, f2, f3⟩ := foldr_min_le ((open_ o).map fun q => max (fewest l.length (with_ o q.1 q.2)) (fewest l.length (with_ o q.2 q.1))) (max (fewest l.length (with_ o p.1 p.2)) (fewest l.length (with_ o p.2 p.1)))
    have hp : p ∈ open_ o := by rw [e]; exact List.mem_cons_self
    obtain ⟨q0, hq0, hm⟩ := h1
    have u1 := f1 _ (List.mem_map.mpr ⟨q0, hq0, rfl⟩)
    have k0 := key q0 hq0
    have lo : m ≤ ((open_ o).map fun q => max (fewest l.length (with_ o q.1 q.2)) (fewest l.length (with_ o q.2 q.1))).foldr min (max (fewest l.length (with_ o p.1 p.2)) (fewest l.length (with_ o p.2 p.1))) + 1 := by
      rcases f3 with f3 | f3
      · rw [f3, key p hp]; exact h2 p hp
      · obtain ⟨q1, hq1, e1⟩ := List.mem_map.mp f3
        rw [← e1, key q1 hq1]; exact h2 q1 hq1
    omega

/-- by masks -/
theorem alike_of {o o' : Order} (h : o.many = o'.many) (hm : ∀ t ∈ things o, mask o t = mask o' t) : Alike o o' := by
  refine ⟨h, fun x hx y hy => ?_⟩
  have e := hm y hy
  have e1 := testBit_mask_thing (o := o) (t := y) hx
  have e2 := testBit_mask_thing (o := o') (t := y) (x := x) (by rw [← things_of h]; exact hx)
  rw [← e1, ← e2, e]

/-- how many orders may be met -/
def met : Nat → Nat
  | 0 => 1
  | m + 1 => 1 + 2 * (m + 1) * met m
theorem met_mono : ∀ {m n : Nat}, m ≤ n → met m ≤ met n
  | m, 0, h => by
    have : m = 0 := by omega
    subst this
    exact Nat.le_refl _
  | m, n + 1, h => by
    by_cases e : m = n + 1
    · subst e; exact Nat.le_refl _
    · have ih := met_mono (show m ≤ n by omega)
      show met m ≤ 1 + 2 * (n + 1) * met n
      have : met n ≤ 2 * (n + 1) * met n := by
        have : 1 * met n ≤ 2 * (n + 1) * met n := Nat.mul_le_mul_right _ (by omega)
        omega
      omega

theorem open_len {o : Order} (h : o.many ≤ 4) : (open_ o).length ≤ 6 := by
  have h1 : List.Sublist (open_ o) ((things o).flatMap fun x => ((things o).filter fun y => decide (x < y)).map fun y => (x, y)) := by
    unfold open_
    have key : ∀ l : List Nat, List.Sublist (l.flatMap fun x => ((things o).filter fun y => decide (x < y) && (!below o x y && !below o y x)).map fun y => (x, y)) (l.flatMap fun x => ((things o).filter fun y => decide (x < y)).map fun y => (x, y)) := by
      intro l
      induction l with
      | nil => exact List.Sublist.refl _
      | cons u l ih =>
        rw [List.flatMap_cons, List.flatMap_cons]
        refine List.Sublist.append (List.Sublist.map _ ?_) ih
        have e : ((things o).filter fun y => decide (u < y) && (!below o u y && !below o y u)) = ((things o).filter fun y => decide (u < y)).filter fun y => (!below o u y && !below o y u) := by
          rw [List.filter_filter]
          exact List.filter_congr fun v _ => Bool.and_comm _ _
        rw [e]
        exact List.filter_sublist
    exact key _
  refine Nat.le_trans h1.length_le ?_
  have : ∀ n, n ≤ 4 → (((List.range n).map fun i => i + 1).flatMap fun x => (((List.range n).map fun i => i + 1).filter fun y => decide (x < y)).map fun y => (x, y)).length ≤ 6 := by decide
  exact this o.many h
end Om
end

section
set_option Elab.async false
set_option maxRecDepth 100000
set_option maxHeartbeats 2000000
namespace Ob
open PySem PySem.Spec PyProof.Rows L2
open Om (mask bit every follow W Ok)
/-! ### the text by places -/
def topS (i : Nat) : Stmt := PySem.Challenge.pw_openorder_s01_answers.main.body.getD i (.Pass ⟨0, 0, 0, 0⟩)
abbrev sBitOf : Stmt := topS 1
abbrev sNothing : Stmt := topS 2
abbrev sAreTwo : Stmt := topS 3
abbrev sLies : Stmt := topS 4
abbrev sTell : Stmt := topS 5
abbrev sMay : Stmt := topS 10
abbrev sFollowers : Stmt := topS 11
abbrev sWays : Stmt := topS 12
abbrev sHowMany : Stmt := topS 14
abbrev sRowAt : Stmt := topS 15
abbrev sNumberOf : Stmt := topS 16
abbrev sWithAhead : Stmt := topS 17
abbrev sCommon : Stmt := topS 29
abbrev sFraction : Stmt := topS 30
abbrev sOpenPairs : Stmt := topS 6
abbrev sBetween : Stmt := topS 7
abbrev sNeighbours : Stmt := topS 8
abbrev sWaysAhead : Stmt := topS 13
abbrev sWithBoth : Stmt := topS 18
abbrev sHowThings : Stmt := topS 19
abbrev sByPlace : Stmt := topS 20
abbrev sSumPlaces : Stmt := topS 21
abbrev sFairestPair : Stmt := topS 23
abbrev sQWith : Stmt := topS 24
abbrev sQNeeded : Stmt := topS 25
/-! ### a def of the top, by its promise -/
structure Df (P : Program) (w : World) (K : PySem.W.Frag) (mg : Str → Option Value) (base : Heap) (k : Nat) (x : Str) (ps : List Str) (sp : Sp) : Prop where
  ex : ∃ (f : Addr) (fd : FuncData), mg x = some (.ref f) ∧ PySem.W.keepIn K (.ref f) = true ∧ Binds K fd ps [] ∧ FnOk P w K mg base CX0 k f fd ps sp
/-- a def as the top left it -/
structure Raw (K : PySem.W.Frag) (mg : Str → Option Value) (x : Str) (st : Stmt) (ps : List Str) : Prop where
  ex : ∃ (f : Addr) (fd : FuncData), mg x = some (.ref f) ∧ Fun K x x st f fd ∧ Binds K fd ps []
theorem Raw.df {P : Program} {w : World} {K : PySem.W.Frag} {mg : Str → Option Value} {base : Heap} {k : Nat} {x : Str} {st : Stmt} {ps : List Str} {sp : Sp} (R : Raw K mg x st ps)
    (h : ∀ f fd, Fun K x x st f fd → FnOk P w K mg base CX0 k f fd ps sp) : Df P w K mg base k x ps sp := by
  obtain ⟨f, fd, h1, h2, h3⟩ := R.ex
  exact ⟨f, fd, h1, h2.kp, h3, h f fd h2⟩
/-! ### the data -/
/-- a dict of numbers by things -/
def tblOf (f : Nat → Nat) (l : List Nat) : List (Key × V) := l.map fun (t : Nat) => ((Sum.inl (t : Int) : Key), V.int ((f t : Nat) : Int))
def tbl (o : Or01.Order) : List (Key × V) := tblOf (mask o) (Or01.things o)
theorem tblOf_length (f : Nat → Nat) (l : List Nat) : (tblOf f l).length = l.length := List.length_map ..
theorem tbl_length (o : Or01.Order) : (tbl o).length = o.many := by rw [tbl, tblOf_length, Om.things_length]
theorem valV_tblOf {f : Nat → Nat} : ∀ {l : List Nat} {t : Nat}, t ∈ l → valV (tblOf f l) (Sum.inl (t : Int) : Key) = some (.int ((f t : Nat) : Int))
  | a :: l, t, h => by
    show valV (((Sum.inl (a : Int) : Key), V.int ((f a : Nat) : Int)) :: tblOf f l) _ = _
    by_cases e : a = t
    · subst e
      exact valV_pos rfl
    · rw [valV_neg (fun q => e (by have := Sum.inl.inj q; omega))]
      exact valV_tblOf (by
        rcases List.mem_cons.mp h with h | h
        · exact absurd h.symm e
        · exact h)
theorem valV_tblOf_none {f : Nat → Nat} {z : Int} : ∀ {l : List Nat}, (∀ t ∈ l, (t : Int) ≠ z) → valV (tblOf f l) (Sum.inl z : Key) = none
  | [], _ => rfl
  | a :: l, h => by
    show valV (((Sum.inl (a : Int) : Key), V.int ((f a : Nat) : Int)) :: tblOf f l) _ = _
    rw [valV_neg (fun q => h a List.mem_cons_self (Sum.inl.inj q))]
    exact valV_tblOf_none fun t ht => h t (List.mem_cons_of_mem _ ht)
theorem valV_tbl {o : Or01.Order} {t : Nat} (h : t ∈ Or01.things o) : valV (tbl o) (Sum.inl (t : Int) : Key) = some (.int ((mask o t : Nat) : Int)) := valV_tblOf h
/-- whether a number is a thing -/
theorem isSome_tbl (o : Or01.Order) (z : Nat) : (valV (tbl o) (Sum.inl (z : Int) : Key)).isSome = Or01.isThing o z := by
  rw [Bool.eq_iff_iff, Om.isThing_iff, ← Om.mem_things]
  constructor
  · intro h
    by_cases c : z ∈ Or01.things o
    · exact c
    · rw [tbl, valV_tblOf_none fun t ht e => c (by have : t = z := by omega
                                                   exact this ▸ ht)] at h
      cases h
  · intro h
    rw [valV_tbl h]; rfl
theorem putK_tblOf {f : Nat → Nat} {l : List Nat} {t : Nat} (h : t ∉ l) : putK (tblOf f l) (Sum.inl (t : Int) : Key) (V.int ((f t : Nat) : Int)) = tblOf f (l ++ [t]) := by
  rw [putK_new _ (valV_tblOf_none fun u hu e => h (by have : u = t := by omega
                                                      exact this ▸ hu))]
  unfold tblOf
  rw [List.map_append]
  rfl
theorem tblOf_congr {f g : Nat → Nat} {l : List Nat} (h : ∀ t ∈ l, f t = g t) : tblOf f l = tblOf g l := List.map_congr_left fun t ht => by rw [h t ht]
theorem tblOf_get {f : Nat → Nat} {l : List Nat} {i : Nat} {k : Key} {v : V} (h : (tblOf f l)[i]? = some (k, v)) : ∃ t, l[i]? = some t ∧ k = Sum.inl (t : Int) ∧ v = V.int ((f t : Nat) : Int) := by
  unfold tblOf at h
  rw [List.getElem?_map] at h
  cases e : l[i]? with
  | none => rw [e] at h; cases h
  | some t =>
    rw [e] at h
    obtain ⟨h1, h2⟩ := Prod.mk.inj (Option.some.inj h)
    exact ⟨t, rfl, h1.symm, h2.symm⟩
theorem bor (a b : Nat) : Builtin.bitOr (a : Int) (b : Int) = ((a ||| b : Nat) : Int) := by
  rw [Bits.bitOr_pp (Int.natCast_nonneg a) (Int.natCast_nonneg b), Int.toNat_natCast, Int.toNat_natCast]
theorem band (a b : Nat) : Builtin.bitAnd (a : Int) (b : Int) = ((a &&& b : Nat) : Int) := PySem.W.os_band a b
theorem shl (t : Nat) (h : 1 ≤ t) : (1 : Int) * 2 ^ ((t : Int) - 1).toNat = ((bit t : Nat) : Int) := by
  unfold bit
  rw [Int.one_mul, show ((t : Int) - 1).toNat = t - 1 by omega]
  exact (Int.natCast_pow 2 (t - 1)).symm
theorem same_upd {H H' : Hp} {d : Addr} {o : HO} (s : Same H H') (hd : H d = none) : Same H (upd H' d o) := fun b x e => by
  rw [upd_ne (ne_of_none e hd)]
  exact s b x e
theorem dget_rd {H : Hp} {a : Addr} {kvs : List (Key × V)} {k : Key} (r : Rd H a (.dK kvs)) : DGet H a (kV k) (valV kvs k) := .inl ⟨kvs, k, r, rfl, rfl⟩
theorem dget_tbl {H : Hp} {d : Addr} {o : Or01.Order} {t : Nat} (r : Rd H d (.dK (tbl o))) (ht : t ∈ Or01.things o) : DGet H d (.int (t : Int)) (some (.int ((mask o t : Nat) : Int))) := by
  have := dget_rd (k := Sum.inl (t : Int)) r
  rw [valV_tbl ht] at this
  exact this
theorem rd_same {H H' : Hp} {a : Addr} {u : HO} (s : Same H H') (r : Rd H a u) : Rd H' a u := by
  rcases r with r | ⟨o, r⟩
  · exact .inl (s _ _ r)
  · exact .inr ⟨o, s _ _ r⟩
theorem thing7 {o : Or01.Order} (k : Ok o) {t : Nat} (h : t ∈ Or01.things o) : 1 ≤ t ∧ t ≤ 7 := by
  have := Om.mem_things.mp h
  have := k.seven
  omega
/-- behind a lock: what stood stands -/
theorem same_unlock {H H' : Hp} {d : Addr} {od : Obj} {u : HO} (hd : H d = some u) (s : Same (upd H d (.frz od u)) H') : Same H (upd H' d u) := fun b x e => by
  by_cases c : b = d
  · subst c
    rw [upd_same]
    exact hd.symm.trans e
  · rw [upd_ne c]
    exact s b x (by rw [upd_ne c]; exact e)
def vInts (l : List Nat) : List V := l.map fun (t : Nat) => V.int (t : Int)
theorem vInts_append (l l' : List Nat) : vInts (l ++ l') = vInts l ++ vInts l' := List.map_append
theorem vInts_length (l : List Nat) : (vInts l).length = l.length := List.length_map ..
theorem vInts_get {l : List Nat} {i : Nat} {x : V} (h : (vInts l)[i]? = some x) : ∃ t, l[i]? = some t ∧ x = V.int (t : Int) := by
  unfold vInts at h
  rw [List.getElem?_map] at h
  cases e : l[i]? with
  | none => rw [e] at h; cases h
  | some t =>
    rw [e] at h
    exact ⟨t, rfl, (Option.some.inj h).symm⟩
theorem take_more {α : Type} {l : List α} {i : Nat} {x : α} (h : l[i]? = some x) : l.take (i + 1) = l.take i ++ [x] := by
  rw [List.take_add_one, h]
  rfl
theorem many7 {o : Or01.Order} (k : Ok o) (p : Nat → Bool) (i : Nat) : (((Or01.things o).take i).filter p).length ≤ 7 := by
  have h1 := List.length_filter_le p ((Or01.things o).take i)
  have h2 := List.length_take_le i (Or01.things o)
  have h3 := Om.things_length o
  have h4 := k.seven
  have h5 : ((Or01.things o).take i).length ≤ (Or01.things o).length := by rw [List.length_take]; omega
  omega
/-- a new object, then a lock -/
theorem same_new_lock {H : Hp} {d q : Addr} {u f o : HO} (hd : H d = some u) (hq : H q = none) : Same (upd H d f) (upd (upd H q o) d f) := fun b x e => by
  by_cases c : b = d
  · subst c
    rw [upd_same] at e ⊢
    exact e
  · rw [upd_ne c] at e ⊢
    rw [upd_ne (ne_of_none e hq)]
    exact e
theorem free_lock {H : Hp} {d q : Addr} {u f : HO} (hd : H d = some u) (hq : H q = none) : (upd H d f) q = none := by
  rw [upd_ne (ne_of_none hd hq).symm]
  exact hq
theorem not_taken {l : List Nat} (nd : l.Nodup) {i t : Nat} (h : l[i]? = some t) : t ∉ l.take i := by
  intro m
  have e := take_more h
  have nd' : (l.take (i + 1)).Nodup := nd.sublist (List.take_sublist _ _)
  rw [e] at nd'
  exact (List.nodup_append.mp nd').2.2 t m t (List.mem_singleton.mpr rfl) rfl
theorem take7 {o : Or01.Order} (k : Ok o) (i : Nat) : ((Or01.things o).take i).length ≤ 7 := by
  have h3 := Om.things_length o
  have h4 := k.seven
  rw [List.length_take]
  omega
theorem iteTo {c : Bool} {A B : Prop} (hc : c = true) (h : A) : if c = true then A else B := by
  rw [if_pos hc]
  exact h
theorem iteFo {c : Bool} {A B : Prop} (hc : c = false) (h : B) : if c = true then A else B := by
  rw [hc, if_neg Bool.false_ne_true]
  exact h
theorem yesT {σ : L2.St} {H : Hp} {A B : Hp → Prop} (h : A H) : tYes σ H (fun b H3 => if b = true then A H3 else B H3) := by
  show if true = true then A H else B H
  rw [if_pos rfl]
  exact h
def rOrN : R2 := fun x y H Q => ∃ a b : Nat, x = .int (a : Int) ∧ y = .int (b : Int) ∧ Q (.int ((a ||| b : Nat) : Int)) H
theorem op_orN {X : Cx} : OpR X (binaryOp .BitOr) rOrN := fun pins s σ H x y v u Q I rx ry q => by
  obtain ⟨a, b, ex, ey, q⟩ := q
  refine op_or pins s σ H x y v u Q I rx ry ⟨a, b, ex, ey, ?_⟩
  show Q (.int (Builtin.bitOr (a : Int) (b : Int))) H
  rw [bor]
  exact q
def rAndN : R2 := fun x y H Q => ∃ a b : Nat, x = .int (a : Int) ∧ y = .int (b : Int) ∧ Q (.int ((a &&& b : Nat) : Int)) H
theorem op_andN {X : Cx} : OpR X (binaryOp .BitAnd) rAndN := fun pins s σ H x y v u Q I rx ry q => by
  obtain ⟨a, b, ex, ey, q⟩ := q
  refine op_and pins s σ H x y v u Q I rx ry ⟨a, b, ex, ey, ?_⟩
  show Q (.int (Builtin.bitAnd (a : Int) (b : Int))) H
  rw [band]
  exact q
def rShl1 : R2 := fun x y H Q => ∃ n : Nat, x = .int 1 ∧ y = .int (n : Int) ∧ n ≤ 1000000 ∧ Q (.int ((2 ^ n : Nat) : Int)) H
theorem op_shl1 {X : Cx} : OpR X (binaryOp .LShift) rShl1 := fun pins s σ H x y v u Q I rx ry q => by
  obtain ⟨n, ex, ey, hn, q⟩ := q
  refine op_shl pins s σ H x y v u Q I rx ry ⟨1, n, ex, ey, ⟨by omega, by omega, by decide⟩, ?_⟩
  show Q (.int ((1 : Int) * 2 ^ (n : Int).toNat)) H
  have e : (1 : Int) * 2 ^ (n : Int).toNat = ((2 ^ n : Nat) : Int) := by
    rw [Int.one_mul, Int.toNat_natCast]
    exact (Int.natCast_pow 2 n).symm
  rw [e]
  exact q
def rSubN : R2 := fun x y H Q => ∃ a b : Nat, x = .int (a : Int) ∧ y = .int (b : Int) ∧ b ≤ a ∧ Q (.int ((a - b : Nat) : Int)) H
theorem op_subN {X : Cx} : OpR X (binaryOp .Sub) rSubN := fun pins s σ H x y v u Q I rx ry q => by
  obtain ⟨a, b, ex, ey, hl, q⟩ := q
  refine op_sub pins s σ H x y v u Q I rx ry ⟨a, b, ex, ey, ?_⟩
  show Q (.int ((a : Int) - (b : Int))) H
  rw [show (a : Int) - (b : Int) = ((a - b : Nat) : Int) by omega]
  exact q
def rAddN : R2 := fun x y H Q => ∃ a b : Nat, x = .int (a : Int) ∧ y = .int (b : Int) ∧ Q (.int ((a + b : Nat) : Int)) H
theorem op_addN {X : Cx} : OpR X (binaryOp .Add) rAddN := fun pins s σ H x y v u Q I rx ry q => by
  obtain ⟨a, b, ex, ey, q⟩ := q
  exact op_add pins s σ H x y v u Q I rx ry ⟨a, b, ex, ey, q⟩
/-- the sum of a list of numbers from nought -/
def rSumN (K : PySem.W.Frag) : List V → Hp → VK → Prop := fun vs H Q => ∃ (a : Addr) (ns : List Nat), vs = [V.ref a] ∧ SqL K H a (vInts ns) ∧ Q (.int ((ns.sum : Nat) : Int)) H
theorem sum_ints : ∀ ns : List Nat, (ns.map fun (n : Nat) => (n : Int)).sum = ((ns.sum : Nat) : Int)
  | [] => rfl
  | n :: r => by
    rw [List.map_cons, List.sum_cons, List.sum_cons, sum_ints r]
    omega
theorem cr_sumN {X : Cx} (hc : X.calm = true) : CallR X (.builtin "sum") (rSumN X.K) := fun pins s σ H xs us Q I r h => by
  obtain ⟨a, ns, e, hs, q⟩ := h
  refine cr_sum hc pins s σ H xs us Q I r ⟨a, ns.map fun (n : Nat) => (n : Int), e, ?_, ?_⟩
  · rw [List.map_map]
    exact hs
  · rw [sum_ints]
    exact q
def rModN : R2 := fun x y H Q => ∃ a b : Nat, x = .int (a : Int) ∧ y = .int (b : Int) ∧ 0 < b ∧ Q (.int ((a % b : Nat) : Int)) H
theorem op_modNat {X : Cx} : OpR X (binaryOp .Mod) rModN := fun pins s σ H x y v u Q I rx ry q => by
  obtain ⟨a, b, ex, ey, hb, q⟩ := q
  exact op_mod pins s σ H x y v u Q I rx ry ⟨a, b, ex, ey, by omega, q⟩
def rDivN : R2 := fun x y H Q => ∃ a b : Nat, x = .int (a : Int) ∧ y = .int (b : Int) ∧ 0 < b ∧ b < 1073741824 ∧ Q (.int ((a / b : Nat) : Int)) H
theorem op_divNat {X : Cx} : OpR X (binaryOp .FloorDiv) rDivN := fun pins s σ H x y v u Q I rx ry q => by
  obtain ⟨a, b, ex, ey, hb, hb2, q⟩ := q
  exact op_fdiv pins s σ H x y v u Q I rx ry ⟨a, b, ex, ey, ⟨by omega, by omega⟩, q⟩
def rLenDR : List V → Hp → VK → Prop := fun xs H Q => ∃ a kvs, xs = [V.ref a] ∧ Rd H a (.dK kvs) ∧ Q (.int kvs.length) H
/-- len of a dict that may be walked meanwhile -/
theorem call_lenDR {X : Cx} : CallR X (.builtin "len") rLenDR := by
  rintro _ _ _ H _ _ _ J rel ⟨d, kvs, rfl, rd, due⟩
  obtain ⟨_, rfl, rfl⟩ := vals1 rel
  exact d_len J rd fun t _ J2 => ⟨.int kvs.length, H, J2, ⟨t, rfl⟩, due⟩
theorem things_snoc (i : Nat) : Or01.things ⟨i + 1, []⟩ = Or01.things ⟨i, []⟩ ++ [i + 1] := by
  unfold Or01.things
  show (List.range (i + 1)).map _ = (List.range i).map _ ++ _
  rw [List.range_succ, List.map_append]
  rfl
end Ob
end

section
set_option Elab.async false
set_option maxRecDepth 100000
set_option maxHeartbeats 4000000
namespace Ob
open PySem PySem.Spec PyProof.Rows L2
open Om (mask bit every follow W Ok)
section
variable {P : Program} {w : World} {K : PySem.W.Frag} {mg : Str → Option Value} {base : Heap}
/-! bit_of -/
def spBit : Sp := fun vs H Q _ => ∃ t : Nat, vs = [.int (t : Int)] ∧ 1 ≤ t ∧ t ≤ 7 ∧ Q (.int ((bit t : Nat) : Int)) H
theorem scBit : FnScope ["thing"] ["thing"] (defScope sBitOf) := ⟨rfl, rfl, rfl, by decide +kernel, rfl, by decide +kernel, by decide +kernel⟩
theorem ok_bit {f : Addr} {fd : FuncData} (F : Fun K "bit_of" "bit_of" sBitOf f fd) : FnOk P w K mg base CX0 1 f fd ["thing"] spBit := by
  refine F.ok scBit (fun vs H Q E h => ?_) (fun cdv A outer s H vs Q E hr h => ?_)
  · obtain ⟨t, rfl, _⟩ := h
    rfl
  · obtain ⟨t, rfl, h1, h2, k⟩ := h
    refine ⟨_, pss_one (ps_ret (pe_op op_shl pe_int (pe_op op_sub (pv 0) pe_int))), ?_⟩
    refine ⟨_, rfl, _, _, rfl, rfl, _, _, rfl, rfl, ⟨by omega, by omega, by decide⟩, ?_⟩
    show Q (.int ((1 : Int) * 2 ^ ((t : Int) - 1).toNat)) H
    rw [shl t h1]
    exact k
/-! nothing_told -/
def spNothing : Sp := fun vs H Q _ => ∃ n : Nat, vs = [.int (n : Int)] ∧ 1 ≤ n ∧ n ≤ 7 ∧ ∀ H' p, Same H H' → H p = none → H' p = some (.dK (tbl ⟨n, []⟩)) → Q (.ref p) H'
theorem scNothing : FnScope ["n", "below", "thing"] ["n"] (defScope sNothing) := ⟨rfl, rfl, rfl, by decide +kernel, rfl, by decide +kernel, by decide +kernel⟩
theorem ok_nothing {f : Addr} {fd : FuncData} (F : Fun K "nothing_told" "nothing_told" sNothing f fd) (mr : mg "range" = none) : FnOk P w K mg base CX0 1 f fd ["n"] spNothing := by
  refine F.ok scNothing (fun vs H Q E h => ?_) (fun cdv A outer s H vs Q E hr h => ?_)
  · obtain ⟨t, rfl, _⟩ := h
    rfl
  · obtain ⟨n, rfl, h1, h2, k⟩ := h
    have hu := hu_of hr
    refine ⟨_, pss_cons (ps_set (i := 1) scNothing.nd rfl (Or.inl rfl) pe_dnewK)
      (pss_cons (ps_for PassesOwn.never rfl (pi_range2 (by rfl) mr (pa_cons pe_int (pa_cons (pe_op op_add (pv 0) pe_int) pa_nil))) (pg_name (i := 2) scNothing.nd rfl (Or.inl rfl))
        (pss_one (ps_dput hu (pv 1) (pv 2) pe_int rfl)))
      (pss_one (ps_ret (pv 1)))), ?_⟩
    intro d hd
    refine ⟨_, rfl, _, _, rfl, rfl, _, _, rfl, ⟨by decide, by decide, by omega, by omega⟩, for_range (lo := 1) (n := ((n : Int) + 1 - 1).toNat)
      (fun i σ H' => ∃ v : Option V, σ = [some (.int (n : Int)), some (.ref d), v] ∧ Same H H' ∧ H' d = some (.dK (tblOf (fun _ => 0) (Or01.things ⟨i, []⟩)))) ⟨none, rfl, same_upd (Same.refl H) hd, upd_same⟩ ?_ ?_⟩
    · rintro i σ H' hi ⟨v, rfl, s1, e1⟩
      refine ⟨_, rfl, _, rfl, d, _, rfl, DPut.k (k := Sum.inl (1 + (i : Int))) e1 (small1000 (by rw [tblOf_length, Om.things_length]; show i ≤ 1000; omega)), ?_⟩
      refine ⟨_, rfl, same_upd s1 hd, ?_⟩
      rw [upd_same, things_snoc, ← putK_tblOf (fun h => by have := (Om.mem_things.mp h).2; have : i + 1 ≤ i := this; omega)]
      rw [show (1 + (i : Int)) = ((i + 1 : Nat) : Int) by omega]
      rfl
    · rintro σ H' ⟨v, rfl, s1, e1⟩
      refine ⟨_, rfl, ?_⟩
      refine k _ d s1 hd ?_
      rw [e1, tbl, tblOf_congr (f := mask ⟨n, []⟩) (g := fun _ => 0) fun t _ => Om.mask_none]
      rw [show ((n : Int) + 1 - 1).toNat = n by omega]
/-! are_two -/
def spAreTwo : Sp := fun vs H Q _ => ∃ (d : Addr) (o : Or01.Order) (x y : Nat), vs = [.ref d, .int (x : Int), .int (y : Int)] ∧ Rd H d (.dK (tbl o)) ∧ Q (.bl (Or01.isThing o x && (Or01.isThing o y && decide (x ≠ y)))) H
theorem scAreTwo : FnScope ["below", "x", "y"] ["below", "x", "y"] (defScope sAreTwo) := ⟨rfl, rfl, rfl, by decide +kernel, rfl, by decide +kernel, by decide +kernel⟩
theorem ok_areTwo {f : Addr} {fd : FuncData} (F : Fun K "are_two" "are_two" sAreTwo f fd) : FnOk P w K mg base CX0 1 f fd ["below", "x", "y"] spAreTwo := by
  refine F.ok scAreTwo (fun vs H Q E h => ?_) (fun cdv A outer s H vs Q E hr h => ?_)
  · obtain ⟨d, o, x, y, rfl, _⟩ := h
    rfl
  · obtain ⟨d, o, x, y, rfl, r, k⟩ := h
    have hu := hu_of hr
    refine ⟨_, pss_one (ps_ret (pe_and (pe_cmp (pc_din hu (pv 1) (pv 0)) rfl) (pe_and (pe_cmp (pc_din hu (pv 2) (pv 0)) rfl) (pe_one (pe_cmp (pc_neI (pv 1) (pv 2)) rfl))))), ?_⟩
    refine ⟨_, rfl, _, rfl, d, _, rfl, dget_rd (k := Sum.inl (x : Int)) r, _, rfl, ?_⟩
    rw [isSome_tbl]
    cases e1 : Or01.isThing o x with
    | false =>
      rw [e1] at k
      exact iteF k
    | true =>
      rw [e1] at k
      refine iteT ?_
      refine ⟨_, rfl, _, rfl, d, _, rfl, dget_rd (k := Sum.inl (y : Int)) r, _, rfl, ?_⟩
      rw [isSome_tbl]
      cases e2 : Or01.isThing o y with
      | false =>
        rw [e2] at k
        exact iteF k
      | true =>
        rw [e2] at k
        refine iteT ?_
        refine ⟨_, rfl, _, rfl, _, _, rfl, rfl, ?_⟩
        have e : (!decide ((x : Int) = (y : Int))) = decide (x ≠ y) := by
          rw [Bool.eq_iff_iff]; simp; omega
        show Q (.bl (!decide ((x : Int) = (y : Int)))) H
        rw [e]
        exact k
/-! lies_below -/
theorem lies_bit {o : Or01.Order} {x y : Nat} (hx : x ∈ Or01.things o) : (!decide (((mask o y &&& bit x : Nat) : Int) = 0)) = Or01.below o x y := by
  have h := @Om.and_bit_zero (mask o y) x
  rw [Om.testBit_mask_thing hx] at h
  have e : decide (((mask o y &&& bit x : Nat) : Int) = 0) = (mask o y &&& bit x == 0) := by
    rw [Bool.eq_iff_iff, decide_eq_true_iff, beq_iff_eq]; omega
  rw [e, h, Bool.not_not]
def spLies : Sp := fun vs H Q _ => ∃ (d : Addr) (o : Or01.Order) (x y : Nat), vs = [.ref d, .int (x : Int), .int (y : Int)] ∧ Ok o ∧ Rd H d (.dK (tbl o)) ∧ x ∈ Or01.things o ∧ y ∈ Or01.things o ∧ Q (.bl (Or01.below o x y)) H
theorem scLies : FnScope ["below", "x", "y"] ["below", "x", "y"] (defScope sLies) := ⟨rfl, rfl, rfl, by decide +kernel, rfl, by decide +kernel, by decide +kernel⟩
theorem ok_lies {f : Addr} {fd : FuncData} (F : Fun K "lies_below" "lies_below" sLies f fd) (B : Df P w K mg base 1 "bit_of" ["thing"] spBit) : FnOk P w K mg base CX0 2 f fd ["below", "x", "y"] spLies := by
  obtain ⟨fB, fdB, gB, kB, bB, GB⟩ := B.ex
  refine F.ok scLies (fun vs H Q E h => ?_) (fun cdv A outer s H vs Q E hr h => ?_)
  · obtain ⟨d, o, x, y, rfl, _⟩ := h
    rfl
  · obtain ⟨d, o, x, y, rfl, ko, r, hx, hy, k⟩ := h
    have hu := hu_of hr
    refine ⟨_, pss_one (ps_ret (pe_cmp (pc_neI (pe_op op_and (pe_dget hu (pv 0) (pv 2) (fun _ _ => rfl)) (pe_call GB hr (by rfl) gB kB bB .nil pass0 (pa_cons (pv 1) pa_nil))) pe_int) rfl)), ?_⟩
    refine ⟨_, rfl, _, rfl, d, _, rfl, dget_tbl r hy, _, rfl, x, rfl, (thing7 ko hx).1, (thing7 ko hx).2, _, _, rfl, rfl, _, _, rfl, rfl, ?_⟩
    show Q (.bl (!decide (Builtin.bitAnd ((mask o y : Nat) : Int) ((bit x : Nat) : Int) = 0))) H
    rw [band, lies_bit hx]
    exact k
/-! may_follow -/
def spMay : Sp := fun vs H Q _ => ∃ (d : Addr) (o : Or01.Order) (p t : Nat), vs = [.ref d, .int (p : Int), .int (t : Int)] ∧ Ok o ∧ Rd H d (.dK (tbl o)) ∧ t ∈ Or01.things o ∧ Q (.bl (Om.mayFollow o p t)) H
theorem scMay : FnScope ["below", "placed", "thing"] ["below", "placed", "thing"] (defScope sMay) := ⟨rfl, rfl, rfl, by decide +kernel, rfl, by decide +kernel, by decide +kernel⟩
theorem ok_may {f : Addr} {fd : FuncData} (F : Fun K "may_follow" "may_follow" sMay f fd) (B : Df P w K mg base 1 "bit_of" ["thing"] spBit) : FnOk P w K mg base CX0 2 f fd ["below", "placed", "thing"] spMay := by
  obtain ⟨fB, fdB, gB, kB, bB, GB⟩ := B.ex
  refine F.ok scMay (fun vs H Q E h => ?_) (fun cdv A outer s H vs Q E hr h => ?_)
  · obtain ⟨d, o, p, t, rfl, _⟩ := h
    rfl
  · obtain ⟨d, o, p, t, rfl, ko, r, ht, k⟩ := h
    have hu := hu_of hr
    refine ⟨_, pss_one (ps_ret (pe_and (pe_cmp (pc_eqI (pe_op op_and (pv 1) (pe_call GB hr (by rfl) gB kB bB .nil pass0 (pa_cons (pv 2) pa_nil))) pe_int) rfl)
      (pe_one (pe_cmp (pc_eqI (pe_op op_and (pv 1) (pe_dget hu (pv 0) (pv 2) (fun _ _ => rfl))) (pe_dget hu (pv 0) (pv 2) (fun _ _ => rfl))) rfl)))), ?_⟩
    refine ⟨_, rfl, _, rfl, t, rfl, (thing7 ko ht).1, (thing7 ko ht).2, _, _, rfl, rfl, _, _, rfl, rfl, _, rfl, ?_⟩
    have e1 : decide (Builtin.bitAnd ((p : Nat) : Int) ((bit t : Nat) : Int) = 0) = (p &&& bit t == 0) := by
      rw [band, Bool.eq_iff_iff, decide_eq_true_iff, beq_iff_eq]; omega
    unfold Om.mayFollow at k
    show if decide (Builtin.bitAnd ((p : Nat) : Int) ((bit t : Nat) : Int) = 0) = true then _ else Q (.bl false) H
    rw [e1]
    cases c : (p &&& bit t == 0) with
    | false =>
      rw [c] at k
      exact iteF k
    | true =>
      rw [c] at k
      refine iteT ?_
      refine ⟨_, rfl, _, rfl, _, rfl, d, _, rfl, dget_tbl r ht, _, _, rfl, rfl, _, rfl, _, rfl, d, _, rfl, dget_tbl r ht, _, _, rfl, rfl, ?_⟩
      have e2 : decide (Builtin.bitAnd ((p : Nat) : Int) ((mask o t : Nat) : Int) = ((mask o t : Nat) : Int)) = (p &&& mask o t == mask o t) := by
        rw [band, Bool.eq_iff_iff, decide_eq_true_iff, beq_iff_eq]; omega
      show Q (.bl (decide (Builtin.bitAnd ((p : Nat) : Int) ((mask o t : Nat) : Int) = ((mask o t : Nat) : Int)))) H
      rw [e2]
      exact k
end
end Ob
end

section
set_option Elab.async false
set_option maxRecDepth 100000
set_option maxHeartbeats 4000000
namespace Ob
open PySem PySem.Spec PyProof.Rows L2
open Om (mask bit every follow W Ok)
section
variable {P : Program} {w : World} {K : PySem.W.Frag} {mg : Str → Option Value} {base : Heap}
/-! followers -/
def spFollowers : Sp := fun vs H Q _ => ∃ (d : Addr) (o : Or01.Order) (p : Nat), vs = [.ref d, .int (p : Int)] ∧ Ok o ∧ Rd H d (.dK (tbl o)) ∧
  ∀ H' q, Same H H' → H q = none → H' q = some (.lst (vInts (follow o p))) → Q (.ref q) H'
theorem scFollowers : FnScope ["below", "placed", "thing"] ["below", "placed"] (defScope sFollowers) := ⟨rfl, rfl, rfl, by decide +kernel, rfl, by decide +kernel, by decide +kernel⟩
theorem ok_followers {f : Addr} {fd : FuncData} (F : Fun K "followers" "followers" sFollowers f fd) (M : Df P w K mg base 2 "may_follow" ["below", "placed", "thing"] spMay) : FnOk P w K mg base CX0 3 f fd ["below", "placed"] spFollowers := by
  obtain ⟨fM, fdM, gM, kM, bM, GM⟩ := M.ex
  refine F.ok scFollowers (fun vs H Q E h => ?_) (fun cdv A outer s H vs Q E hr h => ?_)
  · obtain ⟨d, o, p, rfl, _⟩ := h
    rfl
  · obtain ⟨d, o, p, rfl, ko, hd, k⟩ := h
    have hu := hu_of hr
    rcases hd with hd | ⟨od, hd⟩
    · refine ⟨_, pss_one (ps_ret (pe_lock (pe_lc (own := [("thing", 2)]) (g := gName 2) rfl scFollowers.nd (pi_keys (pv 0)) (blkOk_by (N := ["below", "placed", "thing"]) (sc := defScope sFollowers) (by decide +kernel))
        (fun _ _ _ _ _ => pg_name (i := 2) scFollowers.nd rfl (Or.inl rfl))
        (fun _ _ _ _ _ => pts_one (pt_val (pe_call GM hr (by rfl) gM kM bM .nil pass0 (pa_cons (pv 0) (pa_cons (pv 1) (pa_cons (pv 2) pa_nil))))))
        (fun _ _ _ _ _ => pv 2)))), ?_⟩
      refine ⟨d, _, hd, trivial, fun od => ?_⟩
      refine ⟨_, rfl, d, od, rfl, .inl ⟨_, upd_same, fun D hD => ?_⟩⟩
      have nd : D ≠ d := fun e => by subst e; rw [upd_same] at hD; cases hD
      have hD' : H D = none := by rw [upd_ne nd] at hD; exact hD
      refine lc_it (walk_keys (kvs := tbl o)) (fun i H' => Same (upd H d (.frz od (.dK (tbl o)))) H' ∧ H' D = some (.lst (vInts (((Or01.things o).take i).filter (Om.mayFollow o p))))) ⟨same_upd (Same.refl _) hD, upd_same⟩ ?_ ?_ ?_
      · rintro i H' _ ⟨s1, _⟩
        exact s1 d _ upd_same
      · rintro i x H' H'' hi ⟨s1, e1⟩ ⟨rfl, kk, v, hk, rfl⟩
        obtain ⟨t, ht, rfl, _⟩ := tblOf_get hk
        have hm : t ∈ Or01.things o := List.mem_of_getElem? ht
        refine ⟨rfl, _, rfl, _, rfl, _, rfl, d, o, p, t, rfl, ko, .inr ⟨od, s1 d _ upd_same⟩, hm, _, rfl, ?_⟩
        have et := take_more ht
        have fl : List.filter (Om.mayFollow o p) [t] = if Om.mayFollow o p t = true then [t] else [] := by
          rw [List.filter_cons]
          rfl
        cases c : Om.mayFollow o p t with
        | true =>
          refine iteT ⟨_, rfl, _, e1, small1000 (by rw [vInts_length]; have := many7 ko (Om.mayFollow o p) i; omega), same_upd s1 hD, ?_⟩
          rw [upd_same, et, List.filter_append, fl, if_pos c, vInts_append]
          rfl
        | false =>
          refine iteF ⟨s1, ?_⟩
          rw [et, List.filter_append, fl, if_neg (by rw [c]; exact Bool.false_ne_true), List.append_nil]
          exact e1
      · rintro H' ⟨s1, e1⟩
        rw [tbl_length, List.take_of_length_le (by rw [Om.things_length]; exact Nat.le_refl _)] at e1
        refine ⟨s1 d _ upd_same, k _ D (same_unlock hd s1) hD' ?_⟩
        rw [upd_ne nd]
        exact e1
    · refine ⟨_, pss_one (ps_ret (pe_lc (own := [("thing", 2)]) (g := gName 2) rfl scFollowers.nd (pi_keys (pv 0)) (blkOk_by (N := ["below", "placed", "thing"]) (sc := defScope sFollowers) (by decide +kernel))
        (fun _ _ _ _ _ => pg_name (i := 2) scFollowers.nd rfl (Or.inl rfl))
        (fun _ _ _ _ _ => pts_one (pt_val (pe_call GM hr (by rfl) gM kM bM .nil pass0 (pa_cons (pv 0) (pa_cons (pv 1) (pa_cons (pv 2) pa_nil))))))
        (fun _ _ _ _ _ => pv 2))), ?_⟩
      refine ⟨_, rfl, d, od, rfl, .inl ⟨_, hd, fun D hD => ?_⟩⟩
      refine lc_it (walk_keys (kvs := tbl o)) (fun i H' => Same H H' ∧ H' D = some (.lst (vInts (((Or01.things o).take i).filter (Om.mayFollow o p))))) ⟨same_upd (Same.refl _) hD, upd_same⟩ ?_ ?_ ?_
      · rintro i H' _ ⟨s1, _⟩
        exact s1 d _ hd
      · rintro i x H' H'' hi ⟨s1, e1⟩ ⟨rfl, kk, v, hk, rfl⟩
        obtain ⟨t, ht, rfl, _⟩ := tblOf_get hk
        have hm : t ∈ Or01.things o := List.mem_of_getElem? ht
        refine ⟨rfl, _, rfl, _, rfl, _, rfl, d, o, p, t, rfl, ko, .inr ⟨od, s1 d _ hd⟩, hm, _, rfl, ?_⟩
        have et := take_more ht
        have fl : List.filter (Om.mayFollow o p) [t] = if Om.mayFollow o p t = true then [t] else [] := by
          rw [List.filter_cons]
          rfl
        cases c : Om.mayFollow o p t with
        | true =>
          refine iteT ⟨_, rfl, _, e1, small1000 (by rw [vInts_length]; have := many7 ko (Om.mayFollow o p) i; omega), same_upd s1 hD, ?_⟩
          rw [upd_same, et, List.filter_append, fl, if_pos c, vInts_append]
          rfl
        | false =>
          refine iteF ⟨s1, ?_⟩
          rw [et, List.filter_append, fl, if_neg (by rw [c]; exact Bool.false_ne_true), List.append_nil]
          exact e1
      · rintro H' ⟨s1, e1⟩
        rw [tbl_length, List.take_of_length_le (by rw [Om.things_length]; exact Nat.le_refl _)] at e1
        exact k _ D s1 hD e1
/-! tell -/
def spTell : Sp := fun vs H Q _ => ∃ (d : Addr) (o : Or01.Order) (x y : Nat), vs = [.ref d, .int (x : Int), .int (y : Int)] ∧ Ok o ∧ H d = some (.dK (tbl o)) ∧ x ∈ Or01.things o ∧ y ∈ Or01.things o ∧ x ≠ y ∧ Or01.below o y x = false ∧
  ∀ H' q, Same H H' → H q = none → H' q = some (.dK (tbl (Or01.with_ o x y))) → Q (.ref q) H'
theorem scTell : FnScope ["below", "x", "y", "gained", "told", "thing"] ["below", "x", "y"] (defScope sTell) := ⟨rfl, rfl, rfl, by decide +kernel, rfl, by decide +kernel, by decide +kernel⟩
theorem ok_tell {f : Addr} {fd : FuncData} (F : Fun K "tell" "tell" sTell f fd) (B : Df P w K mg base 1 "bit_of" ["thing"] spBit) (L : Df P w K mg base 2 "lies_below" ["below", "x", "y"] spLies) : FnOk P w K mg base CX0 3 f fd ["below", "x", "y"] spTell := by
  obtain ⟨fB, fdB, gB, kB, bB, GB⟩ := B.ex
  obtain ⟨fL, fdL, gL, kL, bL, GL⟩ := L.ex
  refine F.ok scTell (fun vs H Q E h => ?_) (fun cdv A outer s H vs Q E hr h => ?_)
  · obtain ⟨d, o, x, y, rfl, _⟩ := h
    rfl
  · obtain ⟨d, o, x, y, rfl, ko, hd, hx, hy, ne, nb, k⟩ := h
    have hu := hu_of hr
    have hr1 : Room 1 _ := hr.mono (by decide)
    refine ⟨_, pss_cons (ps_set (i := 3) scTell.nd rfl (Or.inl rfl) (pe_op op_orN (pe_dget hu (pv 0) (pv 1) (fun _ _ => rfl)) (pe_call GB hr1 (by rfl) gB kB bB .nil pass0 (pa_cons (pv 1) pa_nil))))
      (pss_cons (ps_set (i := 4) scTell.nd rfl (Or.inl rfl) pe_dnewK)
      (pss_cons (ps_lock (ps_for PassesOwn.never rfl (pi_keys (pv 0)) (pg_name (i := 5) scTell.nd rfl (Or.inl rfl))
        (pss_one (ps_if (PW.pt (pw_or (pt_cmp (pc_eqI (pv 5) (pv 2))) (pw_or1 (pt_val (pe_call GL hr (by rfl) gL kL bL .nil pass0 (pa_cons (pv 0) (pa_cons (pv 2) (pa_cons (pv 5) pa_nil))))))))
          (pss_one (ps_dput hu (pv 4) (pv 5) (pe_op op_orN (pe_dget hu (pv 0) (pv 5) (fun _ _ => rfl)) (pv 3)) rfl))
          (pss_one (ps_dput hu (pv 4) (pv 5) (pe_dget hu (pv 0) (pv 5) (fun _ _ => rfl)) rfl))))))
      (pss_one (ps_ret (pv 4))))), ?_⟩
    refine ⟨_, rfl, _, rfl, d, _, rfl, dget_tbl (.inl hd) hx, _, rfl, x, rfl, (thing7 ko hx).1, (thing7 ko hx).2, _, _, rfl, rfl, ?_⟩
    intro q hq
    have hd1 : (upd H q (.dK [])) d = some (.dK (tbl o)) := by rw [upd_ne (ne_of_none hd hq)]; exact hd
    refine ⟨d, _, hd1, trivial, fun od => ?_⟩
    have nq : q ≠ d := (ne_of_none hd hq).symm
    refine ⟨_, rfl, d, od, rfl, .inl ⟨_, upd_same, for_it (walk_keys (kvs := tbl o))
      (fun i σ H' => ∃ v : Option V, σ = [some (.ref d), some (.int (x : Int)), some (.int (y : Int)), some (.int ((mask o x ||| bit x : Nat) : Int)), some (.ref q), v] ∧ Same (upd H d (.frz od (.dK (tbl o)))) H' ∧ H' q = some (.dK (tblOf (mask (Or01.with_ o x y)) ((Or01.things o).take i))))
      ⟨none, rfl, same_new_lock hd hq, by rw [upd_ne nq, upd_same]; rfl⟩ ?_ ?_ ?_⟩⟩
    · rintro i σ H' _ ⟨v, _, s1, _⟩
      exact s1 d _ upd_same
    · rintro i z σ H' H'' hi ⟨v, rfl, s1, e1⟩ ⟨rfl, kk, v', hk, rfl⟩
      obtain ⟨t, ht, rfl, _⟩ := tblOf_get hk
      have hm : t ∈ Or01.things o := List.mem_of_getElem? ht
      have hf : Rd H'' d (.dK (tbl o)) := .inr ⟨od, s1 d _ upd_same⟩
      have mw := Om.mask_with ko hx hy ne nb hm
      have hsz : (tblOf (mask (Or01.with_ o x y)) ((Or01.things o).take i)).length < sizeLine := small1000 (by rw [tblOf_length]; have := take7 ko i; omega)
      have fin : ∀ m : Nat, mask (Or01.with_ o x y) t = m → ∃ v : Option V, ([some (.ref d), some (.int (x : Int)), some (.int (y : Int)), some (.int ((mask o x ||| bit x : Nat) : Int)), some (.ref q), some (.int (t : Int))] : L2.St) = [some (.ref d), some (.int (x : Int)), some (.int (y : Int)), some (.int ((mask o x ||| bit x : Nat) : Int)), some (.ref q), v] ∧
          Same (upd H d (.frz od (.dK (tbl o)))) (upd H'' q (.dK (putK (tblOf (mask (Or01.with_ o x y)) ((Or01.things o).take i)) (Sum.inl (t : Int)) (.int (m : Int))))) ∧
          (upd H'' q (.dK (putK (tblOf (mask (Or01.with_ o x y)) ((Or01.things o).take i)) (Sum.inl (t : Int)) (.int (m : Int))))) q = some (.dK (tblOf (mask (Or01.with_ o x y)) ((Or01.things o).take (i + 1)))) := by
        intro m em
        refine ⟨_, rfl, same_upd s1 (free_lock hd hq), ?_⟩
        rw [upd_same, take_more ht, ← putK_tblOf (not_taken (Om.things_nodup o) ht), em]
      have yes : t = y ∨ Or01.below o y t = true → mask (Or01.with_ o x y) t = (mask o t ||| (mask o x ||| bit x)) := fun c => by rw [mw, if_pos c]
      refine ⟨_, rfl, _, rfl, _, _, rfl, rfl, _, rfl, ?_⟩
      by_cases c1 : t = y
      · refine iteTo (decide_eq_true (by rw [c1])) ?_
        refine iteT ?_
        refine ⟨_, rfl, _, rfl, d, _, rfl, dget_tbl hf hm, _, rfl, _, _, rfl, rfl, _, rfl, _, rfl, q, _, rfl, DPut.k (k := Sum.inl (t : Int)) e1 hsz, ?_⟩
        exact fin _ (yes (.inl c1))
      · have c1' : ¬ ((t : Int) = (y : Int)) := by omega
        refine iteFo (decide_eq_false c1') ?_
        refine ⟨_, rfl, _, rfl, _, rfl, d, o, y, t, rfl, ko, hf, hy, hm, _, rfl, ?_⟩
        cases c2 : Or01.below o y t with
        | true =>
          refine iteT ?_
          refine ⟨_, rfl, _, rfl, d, _, rfl, dget_tbl hf hm, _, rfl, _, _, rfl, rfl, _, rfl, _, rfl, q, _, rfl, DPut.k (k := Sum.inl (t : Int)) e1 hsz, ?_⟩
          exact fin _ (yes (.inr c2))
        | false =>
          refine iteF ?_
          refine ⟨_, rfl, _, rfl, d, _, rfl, dget_tbl hf hm, _, rfl, _, rfl, q, _, rfl, DPut.k (k := Sum.inl (t : Int)) e1 hsz, ?_⟩
          refine fin _ ?_
          rw [mw, if_neg (by rw [c2]; rintro (h | h); exact c1 h; cases h)]
    · rintro σ H' ⟨v, rfl, s1, e1⟩
      rw [tbl_length, List.take_of_length_le (by rw [Om.things_length]; exact Nat.le_refl _)] at e1
      refine ⟨s1 d _ upd_same, _, rfl, k _ q (same_unlock hd s1) hq ?_⟩
      rw [upd_ne nq]
      exact e1
end
end Ob
end

section
set_option Elab.async false
set_option maxRecDepth 100000
set_option maxHeartbeats 4000000
namespace Ob
open PySem PySem.Spec PyProof.Rows L2
open Om (mask bit every follow W Ok)
/-! the list of ways, right from a place on -/
def wl (o : Or01.Order) (c : Nat) : List V := vInts ((List.range (2 ^ o.many)).map fun j => if c ≤ j then W o j else 0)
theorem wl_length (o : Or01.Order) (c : Nat) : (wl o c).length = 2 ^ o.many := by
  rw [wl, vInts_length, List.length_map, List.length_range]
theorem wl_get {o : Or01.Order} {c j : Nat} (h : j < 2 ^ o.many) (hc : c ≤ j) : (wl o c)[j]? = some (.int ((W o j : Nat) : Int)) := by
  unfold wl vInts
  rw [List.getElem?_map, List.getElem?_map, List.getElem?_range h]
  show some (V.int ((if c ≤ j then W o j else 0 : Nat) : Int)) = _
  rw [if_pos hc]
theorem wl_ix {o : Or01.Order} {c j : Nat} (h : j < 2 ^ o.many) (hc : c ≤ j) : atI (wl o c) (j : Int) = some (.int ((W o j : Nat) : Int)) := atI_nat (wl_get h hc)
theorem wl_set {o : Or01.Order} {c : Nat} (_h : c < 2 ^ o.many) : (wl o (c + 1)).set c (.int ((W o c : Nat) : Int)) = wl o c := by
  refine List.ext_getElem? fun j => ?_
  rw [List.getElem?_set]
  by_cases e : c = j
  · subst e
    rw [if_pos rfl, wl_length, if_pos _h, wl_get _h (Nat.le_refl _)]
  · rw [if_neg e]
    unfold wl vInts
    rw [List.getElem?_map, List.getElem?_map, List.getElem?_map, List.getElem?_map]
    cases q : (List.range (2 ^ o.many))[j]? with
    | none => rfl
    | some i =>
      have : i = j := by
        obtain ⟨h1, h2⟩ := List.getElem?_eq_some_iff.mp q
        rw [List.getElem_range] at h2
        exact h2.symm
      subst this
      show some (V.int ((if c + 1 ≤ i then W o i else 0 : Nat) : Int)) = some (V.int ((if c ≤ i then W o i else 0 : Nat) : Int))
      have : (c + 1 ≤ i) ↔ (c ≤ i) := by omega
      simp only [this]
theorem every_lt (o : Or01.Order) : every o < 2 ^ o.many := by
  unfold every
  have := Nat.two_pow_pos o.many
  omega
theorem every_succ (o : Or01.Order) : every o + 1 = 2 ^ o.many := by
  unfold every
  have := Nat.two_pow_pos o.many
  omega
theorem every_pos {o : Or01.Order} (k : Ok o) : 1 ≤ every o := by
  have h : 2 ^ 1 ≤ 2 ^ o.many := Nat.pow_le_pow_right (by decide) k.one
  unfold every
  omega
theorem every_small {o : Or01.Order} (k : Ok o) : every o ≤ 127 := by
  have h : 2 ^ o.many ≤ 2 ^ 7 := Nat.pow_le_pow_right (by decide) k.seven
  unfold every
  omega
theorem flat_one (n : Nat) (v : V) : (List.replicate n [v]).flatten = List.replicate n v := by
  induction n with
  | zero => rfl
  | succ n ih => rw [List.replicate_succ, List.flatten_cons, ih, List.replicate_succ]; rfl
theorem wl_start (o : Or01.Order) : (List.replicate (every o) [V.int 0]).flatten ++ [V.int 1] = wl o (every o) := by
  rw [flat_one]
  refine List.ext_getElem? fun j => ?_
  by_cases h : j < every o
  · rw [List.getElem?_append_left (by rw [List.length_replicate]; exact h), List.getElem?_replicate, if_pos h]
    unfold wl vInts
    rw [List.getElem?_map, List.getElem?_map, List.getElem?_range (by have := every_lt o; omega)]
    show _ = some (V.int ((if every o ≤ j then W o j else 0 : Nat) : Int))
    rw [if_neg (by omega)]
    rfl
  · rw [List.getElem?_append_right (by rw [List.length_replicate]; omega), List.length_replicate]
    by_cases e : j = every o
    · subst e
      rw [wl_get (every_lt o) (Nat.le_refl _), Nat.sub_self, Om.W_every]
      rfl
    · rw [List.getElem?_eq_none (by simp; omega), List.getElem?_eq_none (by rw [wl_length]; have := every_succ o; omega)]
section
variable {P : Program} {w : World} {K : PySem.W.Frag} {mg : Str → Option Value} {base : Heap}
/-! ways_behind -/
def spWays : Sp := fun vs H Q _ => ∃ (d : Addr) (o : Or01.Order), vs = [.ref d] ∧ Ok o ∧ Rd H d (.dK (tbl o)) ∧
  ∀ H' q, Same H H' → H q = none → H' q = some (.lst (wl o 0)) → Q (.ref q) H'
theorem scWays : FnScope ["below", "every", "ways", "placed", "thing"] ["below"] (defScope sWays) := ⟨rfl, rfl, rfl, by decide +kernel, rfl, by decide +kernel, by decide +kernel⟩
structure Bi (mg : Str → Option Value) : Prop where
  len : mg "len" = none
  range : mg "range" = none
  sum : mg "sum" = none
theorem ok_ways {f : Addr} {fd : FuncData} (F : Fun K "ways_behind" "ways_behind" sWays f fd) (T : Bi mg) (B : Df P w K mg base 1 "bit_of" ["thing"] spBit) (L : Df P w K mg base 3 "followers" ["below", "placed"] spFollowers) : FnOk P w K mg base CX0 4 f fd ["below"] spWays := by
  obtain ⟨fB, fdB, gB, kB, bB, GB⟩ := B.ex
  obtain ⟨fL, fdL, gL, kL, bL, GL⟩ := L.ex
  refine F.ok scWays (fun vs H Q E h => ?_) (fun cdv A outer s H vs Q E hr h => ?_)
  · obtain ⟨d, o, rfl, _⟩ := h
    rfl
  · obtain ⟨d, o, rfl, ko, hd, k⟩ := h
    have hu := hu_of hr
    have hr1 : Room 1 _ := hr.mono (by decide)
    refine ⟨_, pss_cons (ps_set (i := 1) scWays.nd rfl (Or.inl rfl) (pe_op op_subN (pe_op op_shl1 pe_int (pe_callB call_lenDR (by rfl) T.len PySem.boot_len (pa_cons (pv 0) pa_nil))) pe_int))
      (pss_cons (ps_set (i := 2) scWays.nd rfl (Or.inr rfl) (pe_op op_cat (pe_op op_rep (pe_lst (pa_cons pe_int pa_nil)) (pv 1)) (pe_lst (pa_cons pe_int pa_nil))))
      (pss_cons (ps_for PassesOwn.never rfl (pi_range3 (by rfl) T.range (pa_cons (pe_op op_subN (pv 1) pe_int) (pa_cons (pe_un un_neg pe_int) (pa_cons (pe_un un_neg pe_int) pa_nil)))) (pg_name (i := 3) scWays.nd rfl (Or.inr rfl))
        (pss_one (ps_asg (pe_callB (cr_sumN rfl) (by rfl) T.sum PyProof.Rows.boot_sum (pa_cons
          (pe_lc (own := [("thing", 4)]) (g := gName 4) (tt := tYes) rfl scWays.nd (pi_list (pe_call GL hr (by rfl) gL kL bL .nil pass0 (pa_cons (pv 0) (pa_cons (pv 3) pa_nil)))) (blkOk_by (N := ["below", "every", "ways", "placed", "thing"]) (sc := defScope sWays) (by decide +kernel))
            (fun _ _ _ _ _ => pg_name (i := 4) scWays.nd rfl (Or.inl rfl)) (fun _ _ _ _ _ => pts_nil)
            (fun _ _ _ _ _ => pe_ix (show IxR _ (rIxL K) from ix_list) (pv 2) (pe_op op_orN (pv 3) (pe_call GB hr1 (by rfl) gB kB bB .nil pass0 (pa_cons (pv 4) pa_nil))) (fun _ _ => rfl))) pa_nil))
          (pg_sub (pv 2) (pv 3) set_list))))
      (pss_one (ps_ret (pv 2))))), ?_⟩
    have h7 := ko.seven
    have hE1 := every_pos ko
    have hE7 := every_small ko
    have hP := every_succ o
    refine ⟨_, rfl, d, _, rfl, hd, o.many, rfl, ?_, by omega, 2 ^ o.many, 1, rfl, rfl, by omega, ?_⟩
    · rw [tbl_length]
    rw [show 2 ^ o.many - 1 = every o from rfl]
    refine ⟨(by show 1 ≤ sizeLine; decide), fun l0 hl0 => ?_⟩
    refine ⟨_, rfl, l0, _, _, rfl, rfl, upd_same, by omega, by omega, ?_, fun l1 hl1 => ?_⟩
    · show 1 * ((every o : Nat) : Int).toNat ≤ sizeLine
      rw [Int.toNat_natCast]
      exact Nat.le_of_lt (small1000 (by omega))
    refine ⟨(by show 1 ≤ sizeLine; decide), fun l2 hl2 => ?_⟩
    have n12 : l1 ≠ l2 := fun e => by subst e; rw [upd_same] at hl2; cases hl2
    refine ⟨l1, l2, _, _, rfl, rfl, (by rw [upd_ne n12]; exact upd_same), upd_same, ?_, fun wa hwa => ?_⟩
    · rw [Int.toNat_natCast, flat_one, List.length_replicate]
      exact Nat.le_of_lt (small1000 (by show every o + 1 ≤ 1000; omega))
    rw [Int.toNat_natCast, wl_start]
    have hl0' : H l0 = none := hl0
    have s1 : Same H (upd (upd (upd H l0 (.lst [V.int 0])) l1 (.lst (List.replicate (every o) [V.int 0]).flatten)) l2 (.lst [V.int 1])) := by
      have s0 : Same H (upd H l0 (.lst [V.int 0])) := same_upd (Same.refl H) hl0'
      have s2 := same_upd (o := .lst (List.replicate (every o) [V.int 0]).flatten) s0 (s0.free hl1)
      have s3 : Same H (upd (upd H l0 (.lst [V.int 0])) l1 (.lst (List.replicate (every o) [V.int 0]).flatten)) := s2
      exact same_upd s3 (s3.free (by rw [Int.toNat_natCast] at hl2; exact hl2))
    have hwa' : H wa = none := s1.free (by rw [Int.toNat_natCast] at hwa; exact hwa)
    have nT : (((every o - 1 : Nat) : Int) - (-1)).toNat = every o := by omega
    refine ⟨_, rfl, every o, 1, rfl, rfl, hE1, 1, rfl, 1, rfl, _, _, _, _, rfl, RgC.neg (by omega) (by omega) (by decide) (by decide), for_rangeC (lo := ((every o - 1 : Nat) : Int)) (c := -1) (n := (((every o - 1 : Nat) : Int) - (-1)).toNat)
      (fun i σ H' => ∃ v : Option V, σ = [some (.ref d), some (.int ((every o : Nat) : Int)), some (.ref wa), v, none] ∧ Same H H' ∧ H' wa = some (.lst (wl o (every o - i)))) ⟨none, rfl, same_upd s1 hwa', upd_same⟩ ?_ ?_⟩
    · rintro i σ H' hi ⟨v, rfl, s5, e5⟩
      rw [nT] at hi
      obtain ⟨c, hc⟩ : ∃ c, every o - i = c + 1 := ⟨every o - i - 1, by omega⟩
      have ec : ((every o - 1 : Nat) : Int) + ((i : Nat) : Int) * (-1) = (c : Int) := by omega
      rw [ec]
      have hcE : c < every o := by omega
      have hc2 : c < 2 ^ o.many := by omega
      refine ⟨_, rfl, _, rfl, d, o, c, rfl, ko, rd_same s5 hd, fun H1 q s6 hq e6 => ⟨q, rfl, ⟨_, SqL.of e6⟩, fun D hD => ?_⟩⟩
      refine lc_list (K := K) (a := q) (xs := vInts (follow o c)) (fun j H2 => Same H1 H2 ∧ H2 D = some (.lst (vInts (((follow o c).take j).map fun t => W o (c ||| bit t))))) ⟨same_upd (Same.refl _) hD, upd_same⟩ ?_ ?_ ?_
      · rintro j H2 _ ⟨s7, _⟩
        exact s7.seq (SqL.of e6)
      · rintro j x H2 hj ⟨s7, e7⟩
        obtain ⟨t, ht, rfl⟩ := vInts_get hj
        have hm : t ∈ follow o c := List.mem_of_getElem? ht
        have hth := Om.follow_thing hm
        have hlf := Om.mem_left.mp (Om.mem_follow hm)
        have ewa : H2 wa = some (.lst (wl o (c + 1))) := s7 _ _ (s6 _ _ (by rw [← hc]; exact e5))
        refine ⟨rfl, yesT ?_⟩
        refine ⟨_, rfl, _, rfl, _, rfl, t, rfl, (thing7 ko hth).1, (thing7 ko hth).2, c, bit t, rfl, rfl, wa, _, _, _, rfl, rfl, SqL.of ewa, wl_ix (Om.or_bit_lt hc2 hth) (Om.or_bit_gt hlf.2), _, e7, ?_, same_upd s7 hD, ?_⟩
        · refine small1000 ?_
          rw [vInts_length, List.length_map]
          have h1 : ((follow o c).take j).length ≤ (follow o c).length := by rw [List.length_take]; omega
          have h2 : (follow o c).length ≤ (Or01.things o).length := List.length_filter_le _ _
          have h3 := Om.things_length o
          omega
        · rw [upd_same, take_more ht, List.map_append, vInts_append]
          rfl
      · rintro H2 ⟨s7, e7⟩
        rw [vInts_length, List.take_length] at e7
        have ewa : H2 wa = some (.lst (wl o (c + 1))) := s7 _ _ (s6 _ _ (by rw [← hc]; exact e5))
        refine ⟨D, _, rfl, SqL.of e7, ?_⟩
        rw [← Om.W_rec (Om.left_ne hcE)]
        refine ⟨_, rfl, _, rfl, wa, _, _, c, rfl, rfl, ewa, ?_, ?_⟩
        · unfold ixN
          rw [if_pos (by omega), if_pos (by rw [wl_length]; omega), Int.toNat_natCast]
        rw [wl_set hc2]
        refine ⟨_, rfl, same_upd (s5.trans (s6.trans s7)) hwa', ?_⟩
        rw [upd_same, show every o - (i + 1) = c by omega]
    · rintro σ H' ⟨v, rfl, s5, e5⟩
      rw [nT, Nat.sub_self] at e5
      exact ⟨_, rfl, k _ wa s5 hwa' e5⟩
end
end Ob
end

section
set_option Elab.async false
set_option maxRecDepth 100000
set_option maxHeartbeats 4000000
namespace Ob
open PySem PySem.Spec PyProof.Rows L2
open Om (mask bit every follow W Ok left scan)
section
variable {P : Program} {w : World} {K : PySem.W.Frag} {mg : Str → Option Value} {base : Heap}
/-! how_many_rows -/
def spHowMany : Sp := fun vs H Q _ => ∃ (d : Addr) (o : Or01.Order), vs = [.ref d] ∧ Ok o ∧ H d = some (.dK (tbl o)) ∧
  ∀ H', Same H H' → Q (.int (((Or01.rows o).length : Nat) : Int)) H'
theorem scHowMany : FnScope ["below"] ["below"] (defScope sHowMany) := ⟨rfl, rfl, rfl, by decide +kernel, rfl, by decide +kernel, by decide +kernel⟩
theorem ok_howMany {f : Addr} {fd : FuncData} (F : Fun K "how_many_rows" "how_many_rows" sHowMany f fd) (B : Df P w K mg base 4 "ways_behind" ["below"] spWays) : FnOk P w K mg base CX0 5 f fd ["below"] spHowMany := by
  obtain ⟨fW, fdW, gW, kW, bW, GW⟩ := B.ex
  refine F.ok scHowMany (fun vs H Q E h => ?_) (fun cdv A outer s H vs Q E hr h => ?_)
  · obtain ⟨d, o, rfl, _⟩ := h
    rfl
  · obtain ⟨d, o, rfl, ko, hd, k⟩ := h
    refine ⟨_, pss_one (ps_ret (pe_ix ix_list (pe_call GW hr (by rfl) gW kW bW .nil pass0 (pa_cons (pv 0) pa_nil)) pe_int (fun _ _ => rfl))), ?_⟩
    refine ⟨_, rfl, d, o, rfl, ko, .inl hd, fun H1 q s1 hq e1 => ?_⟩
    refine ⟨q, _, 0, _, rfl, rfl, SqL.of e1, wl_ix (j := 0) (Nat.two_pow_pos _) (Nat.le_refl _), ?_⟩
    rw [Om.W_zero]
    exact k H1 s1
/-! row_at -/
def spRowAt : Sp := fun vs H Q _ => ∃ (d : Addr) (o : Or01.Order) (n : Nat) (r : List Nat), vs = [.ref d, .int (n : Int)] ∧ Ok o ∧ H d = some (.dK (tbl o)) ∧ (Or01.rows o)[n]? = some r ∧
  ∀ H' q, Same H H' → H q = none → H' q = some (.lst (vInts r)) → Q (.ref q) H'
theorem scRowAt : FnScope ["below", "number", "ways", "row", "placed", "place", "thing", "taken"] ["below", "number"] (defScope sRowAt) := ⟨rfl, rfl, rfl, by decide +kernel, rfl, by decide +kernel, by decide +kernel⟩
/-- behind i places of the row number n: what is placed, what is left of the number, the places -/
structure RowInv (o : Or01.Order) (n i p k : Nat) (r : List Nat) : Prop where
  len : (left o p).length + i = o.many
  lt : k < W o p
  pl : p < 2 ^ o.many
  eq : (Or01.rows o)[n]? = ((Or01.rowsOf (Or01.below o) (left o p).length (left o p))[k]?).map fun z => r ++ z
  rl : r.length = i
theorem RowInv.start {o : Or01.Order} {n : Nat} {r : List Nat} (h : (Or01.rows o)[n]? = some r) : RowInv o n 0 0 n [] := by
  refine ⟨?_, ?_, Nat.two_pow_pos _, ?_, rfl⟩
  · rw [Om.left_zero, Om.things_length]; rfl
  · rw [Om.W_zero]; exact (List.getElem?_eq_some_iff.mp h).1
  · rw [Om.left_zero, Om.things_length, ← Om.rows_eq]
    simp
theorem RowInv.step {o : Or01.Order} {n i p k : Nat} {r : List Nat} (I : RowInv o n i p k r) (hi : i < o.many) : ∃ t k', scan o p (follow o p) k = some (t, k') ∧ t ∈ follow o p ∧ RowInv o n (i + 1) (p ||| bit t) k' (r ++ [t]) := by
  obtain ⟨m, hm⟩ : ∃ m, (left o p).length = m + 1 := ⟨(left o p).length - 1, by have := I.len; omega⟩
  obtain ⟨t, k', e1, e2, e3, e4, e5⟩ := Om.nth_step hm I.lt
  refine ⟨t, k', e1, (Om.scan_lt e1).1, ?_, e4, Om.or_bit_lt I.pl (Om.mem_left.mp e2).1, ?_, ?_⟩
  · have := I.len; omega
  · rw [I.eq, hm, e5, e3, Option.map_map]
    congr 1
    funext z
    simp
  · simp [I.rl]
theorem RowInv.done {o : Or01.Order} {n p k : Nat} {r z : List Nat} (I : RowInv o n o.many p k r) (h : (Or01.rows o)[n]? = some z) : r = z := by
  have hl : (left o p).length = 0 := by have := I.len; omega
  have e := I.eq
  have hk := I.lt
  unfold W at hk
  rw [hl] at e hk
  have hk' : k < 1 := hk
  have k0 : k = 0 := by omega
  subst k0
  rw [h] at e
  have e' : some z = some (r ++ []) := e
  rw [List.append_nil] at e'
  exact (Option.some.inj e').symm
theorem ok_rowAt {f : Addr} {fd : FuncData} (F : Fun K "row_at" "row_at" sRowAt f fd) (T : Bi mg) (B : Df P w K mg base 1 "bit_of" ["thing"] spBit) (L : Df P w K mg base 3 "followers" ["below", "placed"] spFollowers)
    (WB : Df P w K mg base 4 "ways_behind" ["below"] spWays) : FnOk P w K mg base CX0 5 f fd ["below", "number"] spRowAt := by
  obtain ⟨fB, fdB, gB, kB, bB, GB⟩ := B.ex
  obtain ⟨fL, fdL, gL, kL, bL, GL⟩ := L.ex
  obtain ⟨fW, fdW, gW, kW, bW, GW⟩ := WB.ex
  refine F.ok scRowAt (fun vs H Q E h => ?_) (fun cdv A outer s H vs Q E hr h => ?_)
  · obtain ⟨d, o, n, r, rfl, _⟩ := h
    rfl
  · obtain ⟨d, o, n, z, rfl, ko, hd, hz, k⟩ := h
    have hr1 : Room 1 _ := hr.mono (by decide)
    have hr3 : Room 3 _ := hr.mono (by decide)
    refine ⟨_, pss_cons (ps_set (i := 2) scRowAt.nd rfl (Or.inl rfl) (pe_call GW hr (by rfl) gW kW bW .nil pass0 (pa_cons (pv 0) pa_nil)))
      (pss_cons (ps_set (i := 3) scRowAt.nd rfl (Or.inl rfl) (pe_lst pa_nil))
      (pss_cons (ps_set (i := 4) scRowAt.nd rfl (Or.inl rfl) pe_int)
      (pss_cons (ps_for PassesOwn.never rfl (pi_range1 (by rfl) T.range (pa_cons (pe_callB call_lenD (by rfl) T.len PySem.boot_len (pa_cons (pv 0) pa_nil)) pa_nil)) (pg_name (i := 5) scRowAt.nd rfl (Or.inl rfl))
        (pss_one (ps_for PassesOwn.never rfl (pi_list (pe_call GL hr3 (by rfl) gL kL bL .nil pass0 (pa_cons (pv 0) (pa_cons (pv 4) pa_nil)))) (pg_name (i := 6) scRowAt.nd rfl (Or.inl rfl))
          (pss_cons (ps_set (i := 7) scRowAt.nd rfl (Or.inl rfl) (pe_op op_orN (pv 4) (pe_call GB hr1 (by rfl) gB kB bB .nil pass0 (pa_cons (pv 6) pa_nil))))
          (pss_cons (ps_if (pt_cmp (pc_lt (pv 1) (pe_ix ix_list (pv 2) (pv 7) (fun _ _ => rfl))))
            (pss_cons (ps_expr (pe_bm PySem.F.plainAttrs_list PySem.F.slot_list_append PySem.F.type_list_append mt_append (pv 3) (pa_cons (pv 6) pa_nil)))
            (pss_cons (ps_set (i := 4) scRowAt.nd rfl (Or.inl rfl) (pv 7))
            (pss_one ps_break))) pss_nil)
          (pss_one (ps_set (i := 1) scRowAt.nd rfl (Or.inl rfl) (pe_op op_subN (pv 1) (pe_ix ix_list (pv 2) (pv 7) (fun _ _ => rfl))))))))))
      (pss_one (ps_ret (pv 3)))))), ?_⟩
    refine ⟨_, rfl, d, o, rfl, ko, .inl hd, fun H1 wa s1 hwa e1 => ⟨(by show 0 ≤ sizeLine; decide), fun ro hro => ?_⟩⟩
    have hro' : H ro = none := s1.free hro
    have nwr : wa ≠ ro := ne_of_none e1 hro
    have s2 : Same H1 (upd H1 ro (.lst [])) := same_upd (Same.refl _) hro
    refine ⟨_, rfl, d, _, rfl, s2 d _ (s1 d _ hd), _, rfl, by omega, ?_, for_range (lo := 0) (n := (((tbl o).length : Nat) : Int).toNat)
      (fun i σ H' => ∃ (p kk : Nat) (r : List Nat) (v5 v6 v7 : Option V), σ = [some (.ref d), some (.int (kk : Int)), some (.ref wa), some (.ref ro), some (.int (p : Int)), v5, v6, v7] ∧ Same H H' ∧ H' wa = some (.lst (wl o 0)) ∧ H' ro = some (.lst (vInts r)) ∧ RowInv o n i p kk r)
      ⟨0, n, [], none, none, none, rfl, s1.trans s2, s2 wa _ e1, upd_same, RowInv.start hz⟩ ?_ ?_⟩
    · rw [tbl_length]; have := ko.seven; omega
    · rintro i σ H' hi ⟨p, kk, r, v5, v6, v7, rfl, s3, ewa, ero, I⟩
      have hi' : i < o.many := by rw [tbl_length] at hi; omega
      obtain ⟨t, k', esc, htf, I'⟩ := I.step hi'
      refine ⟨_, rfl, _, rfl, d, o, p, rfl, ko, .inl (s3 d _ hd), fun H2 q s4 hq e4 => ⟨q, rfl, ⟨_, SqL.of e4⟩, ?_⟩⟩
      refine for_list (K := K) (a := q) (xs := vInts (follow o p)) (fun j σ H3 => ∃ (k2 : Nat) (v6 v7 : Option V), σ = [some (.ref d), some (.int (k2 : Int)), some (.ref wa), some (.ref ro), some (.int (p : Int)), some (.int (0 + (i : Int))), v6, v7] ∧ Same H2 H3 ∧ scan o p ((follow o p).drop j) k2 = some (t, k'))
        ⟨kk, v6, v7, rfl, Same.refl _, esc⟩ ?_ ?_ ?_
      · rintro j σ H3 _ ⟨k2, _, _, _, s5, _⟩
        exact s5.seq (SqL.of e4)
      · rintro j x σ H3 hj ⟨k2, v6, v7, rfl, s5, e5⟩
        obtain ⟨u, hu, rfl⟩ := vInts_get hj
        have hm : u ∈ follow o p := List.mem_of_getElem? hu
        have hth := Om.follow_thing hm
        have ewa3 : H3 wa = some (.lst (wl o 0)) := s5 _ _ (s4 _ _ ewa)
        have ero3 : H3 ro = some (.lst (vInts r)) := s5 _ _ (s4 _ _ ero)
        have hix := wl_ix (o := o) (c := 0) (Om.or_bit_lt I.pl hth) (Nat.zero_le _)
        have hdrop : (follow o p).drop j = u :: (follow o p).drop (j + 1) := by
          obtain ⟨h1, h2⟩ := List.getElem?_eq_some_iff.mp hu
          rw [List.drop_eq_getElem_cons h1, h2]
        rw [hdrop] at e5
        unfold Om.scan at e5
        refine ⟨_, rfl, _, rfl, u, rfl, (thing7 ko hth).1, (thing7 ko hth).2, p, bit u, rfl, rfl, ?_⟩
        refine ⟨_, rfl, _, rfl, _, rfl, wa, _, _, _, rfl, rfl, SqL.of ewa3, hix, _, _, rfl, rfl, _, rfl, ?_⟩
        by_cases c : k2 < W o (p ||| bit u)
        · rw [if_pos c] at e5
          obtain ⟨rfl, rfl⟩ := Prod.mk.inj (Option.some.inj e5)
          refine iteTo (decide_eq_true (by omega)) ?_
          refine ⟨_, rfl, .inl ⟨rfl, _, SqL.of ero3⟩, _, rfl, ro, _, _, rfl, rfl, ero3, small1000 (by rw [vInts_length, I.rl]; have := ko.seven; omega), ?_⟩
          refine ⟨_, rfl, ?_⟩
          refine ⟨_, k2, r ++ [u], _, _, _, rfl, same_upd (s3.trans (s4.trans s5)) hro', by rw [upd_ne nwr]; exact ewa3, ?_, I'⟩
          rw [upd_same, vInts_append]
          rfl
        · rw [if_neg c] at e5
          refine iteFo (decide_eq_false (by omega)) ?_
          refine ⟨_, rfl, _, rfl, _, rfl, wa, _, _, _, rfl, rfl, SqL.of ewa3, hix, k2, W o (p ||| bit u), rfl, rfl, by omega, ?_⟩
          exact ⟨_, _, _, rfl, s5, e5⟩
      · rintro σ H3 ⟨k2, v6, v7, rfl, s5, e5⟩
        rw [vInts_length, List.drop_length] at e5
        cases e5
    · rintro σ H' ⟨p, kk, r, v5, v6, v7, rfl, s3, ewa, ero, I⟩
      rw [tbl_length, Int.toNat_natCast] at I
      rw [I.done hz] at ero
      exact ⟨_, rfl, k _ ro s3 hro' ero⟩
end
end Ob
end

section
set_option Elab.async false
set_option maxRecDepth 100000
set_option maxHeartbeats 4000000
namespace Ob
open PySem PySem.Spec PyProof.Rows L2
open Om (mask bit every follow W Ok left idx)
section
variable {P : Program} {w : World} {K : PySem.W.Frag} {mg : Str → Option Value} {base : Heap}
/-! number_of -/
theorem inV_vInts (t : Nat) : ∀ l : List Nat, inV (.int (t : Int)) (vInts l) = l.contains t
  | [] => rfl
  | a :: l => by
    have ih := inV_vInts t l
    show (eqV (.int (a : Int)) (.int (t : Int)) || inV (.int (t : Int)) (vInts l)) = _
    rw [ih, List.contains_cons]
    congr 1
    show decide ((a : Int) = (t : Int)) = (t == a)
    rw [Bool.eq_iff_iff, decide_eq_true_iff, beq_iff_eq]
    omega
theorem flat_vInts : ∀ l : List Nat, (vInts l).all flatV = true
  | [] => rfl
  | a :: l => by
    show (flatV (.int (a : Int)) && (vInts l).all flatV) = true
    rw [flat_vInts l]
    rfl
structure RankInv (o : Or01.Order) (r : List Nat) (i p num : Nat) : Prop where
  len : (left o p).length + i = o.many
  pl : p < 2 ^ o.many
  mem : r ∈ Or01.rows o ↔ r.drop i ∈ Or01.rowsOf (Or01.below o) (left o p).length (left o p)
  eq : r.drop i ∈ Or01.rowsOf (Or01.below o) (left o p).length (left o p) → idx (Or01.rows o) r = num + idx (Or01.rowsOf (Or01.below o) (left o p).length (left o p)) (r.drop i)
theorem RankInv.start (o : Or01.Order) (r : List Nat) : RankInv o r 0 0 0 := by
  have e : Or01.rowsOf (Or01.below o) (left o 0).length (left o 0) = Or01.rows o := by
    rw [Om.left_zero, Om.things_length, ← Om.rows_eq]
  refine ⟨?_, Nat.two_pow_pos _, ?_, ?_⟩
  · rw [Om.left_zero, Om.things_length]; rfl
  · rw [e]; rfl
  · rw [e]
    intro _
    show idx (Or01.rows o) r = 0 + idx (Or01.rows o) r
    omega
/-- what stands ahead -/
def gain (o : Or01.Order) (p t : Nat) : Nat := (((follow o p).filter fun u => decide (u < t)).map fun u => W o (p ||| bit u)).sum
theorem RankInv.step {o : Or01.Order} {r : List Nat} {i p num t : Nat} (I : RankInv o r i p num) (hi : i < o.many) (ht : r[i]? = some t) :
    (t ∉ follow o p → r ∉ Or01.rows o) ∧ (t ∈ follow o p → RankInv o r (i + 1) (p ||| bit t) (num + gain o p t)) := by
  obtain ⟨m, hm⟩ : ∃ m, (left o p).length = m + 1 := ⟨(left o p).length - 1, by have := I.len; omega⟩
  have hdrop : r.drop i = t :: r.drop (i + 1) := by
    obtain ⟨h1, h2⟩ := List.getElem?_eq_some_iff.mp ht
    rw [List.drop_eq_getElem_cons h1, h2]
  have S := Om.rank_step (o := o) (p := p) (n := m) (t := t) (r := r.drop (i + 1)) hm
  have h1 := I.mem
  have h2 := I.eq
  rw [hm, hdrop] at h1 h2
  constructor
  · intro nt hr
    exact nt (S.1.mp (h1.mp hr)).1
  · intro hf
    have hl := Om.left_or_length (Om.mem_follow hf)
    have hl' : (left o (p ||| bit t)).length = m := by omega
    refine ⟨by have := I.len; omega, Om.or_bit_lt I.pl (Om.follow_thing hf), ?_, ?_⟩
    · rw [h1, S.1, hl']
      exact ⟨fun h => h.2, fun h => ⟨hf, h⟩⟩
    · rw [hl']
      intro hm'
      rw [h2 (S.1.mpr ⟨hf, hm'⟩), S.2 hf hm']
      unfold gain
      omega
theorem RankInv.done {o : Or01.Order} {r : List Nat} {p num : Nat} (hl : r.length = o.many) (I : RankInv o r o.many p num) : r ∈ Or01.rows o ∧ idx (Or01.rows o) r = num := by
  have h0 : (left o p).length = 0 := by have := I.len; omega
  have hd : r.drop o.many = [] := List.drop_eq_nil_of_le (by omega)
  have h1 := I.mem
  have h2 := I.eq
  rw [h0, hd] at h1 h2
  have hm : ([] : List Nat) ∈ Or01.rowsOf (Or01.below o) 0 (left o p) := List.mem_singleton.mpr rfl
  refine ⟨h1.mpr hm, ?_⟩
  rw [h2 hm]
  have : idx (Or01.rowsOf (Or01.below o) 0 (left o p)) [] = 0 := rfl
  omega
def spNumberOf (K : PySem.W.Frag) : Sp := fun vs H Q _ => ∃ (d ra : Addr) (o : Or01.Order) (r : List Nat), vs = [.ref d, .ref ra] ∧ Ok o ∧ H d = some (.dK (tbl o)) ∧ SqL K H ra (vInts r) ∧
  (r ∈ Or01.rows o → ∀ H', Same H H' → Q (.int ((idx (Or01.rows o) r : Nat) : Int)) H') ∧ (r ∉ Or01.rows o → ∀ H', Same H H' → Q .non H')
theorem scNumberOf : FnScope ["below", "row", "ways", "number", "placed", "thing", "standing", "other"] ["below", "row"] (defScope sNumberOf) := ⟨rfl, rfl, rfl, by decide +kernel, rfl, by decide +kernel, by decide +kernel⟩
theorem ok_numberOf {f : Addr} {fd : FuncData} (F : Fun K "number_of" "number_of" sNumberOf f fd) (T : Bi mg) (B : Df P w K mg base 1 "bit_of" ["thing"] spBit) (L : Df P w K mg base 3 "followers" ["below", "placed"] spFollowers)
    (WB : Df P w K mg base 4 "ways_behind" ["below"] spWays) : FnOk P w K mg base CX0 5 f fd ["below", "row"] (spNumberOf K) := by
  obtain ⟨fB, fdB, gB, kB, bB, GB⟩ := B.ex
  obtain ⟨fL, fdL, gL, kL, bL, GL⟩ := L.ex
  obtain ⟨fW, fdW, gW, kW, bW, GW⟩ := WB.ex
  refine F.ok scNumberOf (fun vs H Q E h => ?_) (fun cdv A outer s H vs Q E hr h => ?_)
  · obtain ⟨d, ra, o, r, rfl, _⟩ := h
    rfl
  · obtain ⟨d, ra, o, r, rfl, ko, hd, hra, kY, kN⟩ := h
    have hr1 : Room 1 _ := hr.mono (by decide)
    have hr3 : Room 3 _ := hr.mono (by decide)
    refine ⟨_, pss_cons (ps_if (pt_cmp (pc_neI (pe_callB call_len_seq (by rfl) T.len PySem.boot_len (pa_cons (pv 1) pa_nil)) (pe_callB call_lenD (by rfl) T.len PySem.boot_len (pa_cons (pv 0) pa_nil)))) (pss_one (ps_ret pe_non)) pss_nil)
      (pss_cons (ps_set (i := 2) scNumberOf.nd rfl (Or.inr rfl) (pe_call GW hr (by rfl) gW kW bW .nil pass0 (pa_cons (pv 0) pa_nil)))
      (pss_cons (ps_set (i := 3) scNumberOf.nd rfl (Or.inl rfl) pe_int)
      (pss_cons (ps_set (i := 4) scNumberOf.nd rfl (Or.inr rfl) pe_int)
      (pss_cons (ps_for PassesOwn.never rfl (pi_list (pv 1)) (pg_name (i := 5) scNumberOf.nd rfl (Or.inr rfl))
        (pss_cons (ps_set (i := 6) scNumberOf.nd rfl (Or.inl rfl) (pe_call GL hr3 (by rfl) gL kL bL .nil pass0 (pa_cons (pv 0) (pa_cons (pv 4) pa_nil))))
        (pss_cons (ps_if (pt_cmpR op_notIn_seq (pv 5) (pv 6) (by rfl)) (pss_one (ps_ret pe_non)) pss_nil)
        (pss_cons (ps_set (i := 3) scNumberOf.nd rfl (Or.inl rfl) (pe_op op_addN (pv 3) (pe_callB (cr_sumN rfl) (by rfl) T.sum PyProof.Rows.boot_sum (pa_cons
          (pe_lc (own := [("other", 7)]) (g := gName 7) rfl scNumberOf.nd (pi_list (pv 6)) (blkOk_by (N := ["below", "row", "ways", "number", "placed", "thing", "standing", "other"]) (sc := defScope sNumberOf) (by decide +kernel))
            (fun _ _ _ _ _ => pg_name (i := 7) scNumberOf.nd rfl (Or.inl rfl)) (fun _ _ _ _ _ => pts_one (pt_cmp (pc_lt (pv 7) (pv 5))))
            (fun _ _ _ _ _ => pe_ix (show IxR _ (rIxL K) from ix_list) (pv 2) (pe_op op_orN (pv 4) (pe_call GB hr1 (by rfl) gB kB bB .nil pass0 (pa_cons (pv 7) pa_nil))) (fun _ _ => rfl))) pa_nil))))
        (pss_one (ps_set (i := 4) scNumberOf.nd rfl (Or.inr rfl) (pe_op op_orN (pv 4) (pe_call GB hr1 (by rfl) gB kB bB .nil pass0 (pa_cons (pv 5) pa_nil)))))))))
      (pss_one (ps_ret (pv 3))))))), ?_⟩
    have h7 := ko.seven
    refine ⟨_, rfl, ra, _, rfl, .inl hra, _, rfl, d, _, rfl, hd, _, _, rfl, rfl, _, rfl, ?_⟩
    rw [vInts_length, tbl_length]
    by_cases c : r.length = o.many
    rotate_left
    · have nr : r ∉ Or01.rows o := fun h => c (by rw [(Om.rows_perm h).length_eq, Om.things_length])
      refine iteTo ?_ ?_
      · show (!decide ((r.length : Int) = (o.many : Int))) = true
        rw [decide_eq_false (by omega)]; rfl
      · exact kN nr H (Same.refl H)
    refine iteFo ?_ ?_
    · show (!decide ((r.length : Int) = (o.many : Int))) = false
      rw [decide_eq_true (by omega)]; rfl
    refine ⟨_, rfl, d, o, rfl, ko, .inl hd, fun H1 wa s1 hwa e1 => ?_⟩
    refine ⟨_, rfl, ra, rfl, ⟨_, s1.seq hra⟩, for_list (K := K) (a := ra) (xs := vInts r)
      (fun i σ H' => ∃ (p num : Nat) (v5 v6 : Option V), σ = [some (.ref d), some (.ref ra), some (.ref wa), some (.int (num : Int)), some (.int (p : Int)), v5, v6, none] ∧ Same H1 H' ∧ RankInv o r i p num)
      ⟨0, 0, none, none, rfl, Same.refl _, RankInv.start o r⟩ (fun i σ H' _ ⟨_, _, _, _, _, s3, _⟩ => (s1.trans s3).seq hra) ?_ ?_⟩
    · rintro i x σ H' hi ⟨p, num, v5, v6, rfl, s3, I⟩
      obtain ⟨t, ht, rfl⟩ := vInts_get hi
      have hil : i < o.many := by rw [← c]; exact (List.getElem?_eq_some_iff.mp ht).1
      obtain ⟨iN, iY⟩ := I.step hil ht
      refine ⟨_, rfl, _, rfl, d, o, p, rfl, ko, .inl (s3 d _ (s1 d _ hd)), fun H2 q s4 hq e4 => ?_⟩
      refine ⟨_, rfl, _, rfl, q, _, rfl, .inl (SqL.of e4), rfl, flat_vInts _, _, rfl, ?_⟩
      rw [inV_vInts]
      by_cases hf : t ∈ follow o p
      rotate_left
      · refine iteTo ?_ ?_
        · show (!(follow o p).contains t) = true
          rw [Bool.not_eq_true', Bool.eq_false_iff]
          intro h
          exact hf (List.contains_iff_mem.mp h)
        · exact kN (iN hf) H2 (s1.trans (s3.trans s4))
      refine iteFo ?_ ?_
      · show (!(follow o p).contains t) = false
        rw [List.contains_iff_mem.mpr hf]; rfl
      have hth := Om.follow_thing hf
      refine ⟨_, rfl, _, rfl, q, rfl, ⟨_, SqL.of e4⟩, fun D hD => ?_⟩
      refine lc_list (K := K) (a := q) (xs := vInts (follow o p)) (fun j H3 => Same H2 H3 ∧ H3 D = some (.lst (vInts ((((follow o p).take j).filter fun u => decide (u < t)).map fun u => W o (p ||| bit u))))) ⟨same_upd (Same.refl _) hD, upd_same⟩ ?_ ?_ ?_
      · rintro j H3 _ ⟨s7, _⟩
        exact s7.seq (SqL.of e4)
      · rintro j x H3 hj ⟨s7, e7⟩
        obtain ⟨u, hu, rfl⟩ := vInts_get hj
        have hm : u ∈ follow o p := List.mem_of_getElem? hu
        have huth := Om.follow_thing hm
        have ewa : H3 wa = some (.lst (wl o 0)) := s7 _ _ (s4 _ _ (s3 _ _ e1))
        refine ⟨rfl, _, rfl, _, rfl, _, _, rfl, rfl, _, rfl, ?_⟩
        have et := take_more hu
        by_cases cu : u < t
        · refine iteTo (decide_eq_true (by omega)) ?_
          refine ⟨_, rfl, _, rfl, _, rfl, u, rfl, (thing7 ko huth).1, (thing7 ko huth).2, p, bit u, rfl, rfl, wa, _, _, _, rfl, rfl, SqL.of ewa, wl_ix (Om.or_bit_lt I.pl huth) (Nat.zero_le _), _, e7, ?_, same_upd s7 hD, ?_⟩
          · refine small1000 ?_
            rw [vInts_length, List.length_map]
            have h0 := List.length_filter_le (fun u => decide (u < t)) ((follow o p).take j)
            have h1 : ((follow o p).take j).length ≤ (follow o p).length := by rw [List.length_take]; omega
            have h2 : (follow o p).length ≤ (Or01.things o).length := List.length_filter_le _ _
            have h3 := Om.things_length o
            omega
          · rw [upd_same, et, List.filter_append, List.filter_cons_of_pos (by simp [cu]), List.map_append, vInts_append]
            rfl
        · refine iteFo (decide_eq_false (by omega)) ⟨s7, ?_⟩
          rw [et, List.filter_append, List.filter_cons_of_neg (by simp [cu]), List.filter_nil, List.append_nil]
          exact e7
      · rintro H3 ⟨s7, e7⟩
        rw [vInts_length, List.take_length] at e7
        refine ⟨D, _, rfl, SqL.of e7, num, _, rfl, rfl, ?_⟩
        refine ⟨_, rfl, _, rfl, t, rfl, (thing7 ko hth).1, (thing7 ko hth).2, p, bit t, rfl, rfl, ?_⟩
        exact ⟨_, _, _, _, rfl, s3.trans (s4.trans s7), iY hf⟩
    · rintro σ H' ⟨p, num, v5, v6, rfl, s3, I⟩
      rw [vInts_length, c] at I
      obtain ⟨hm, he⟩ := I.done c
      refine ⟨_, rfl, ?_⟩
      have := kY hm H' (s1.trans s3)
      rw [he] at this
      exact this
end
end Ob
end

section
set_option Elab.async false
set_option maxRecDepth 100000
set_option maxHeartbeats 4000000
namespace Ob
open PySem PySem.Spec PyProof.Rows L2
open Om (mask bit every follow W Ok left idx)
section
variable {P : Program} {w : World} {K : PySem.W.Frag} {mg : Str → Option Value} {base : Heap}
/-! rows_with_ahead -/
def spAhead : Sp := fun vs H Q _ => ∃ (d : Addr) (o : Or01.Order) (x y : Nat), vs = [.ref d, .int (x : Int), .int (y : Int)] ∧ Ok o ∧ H d = some (.dK (tbl o)) ∧ x ∈ Or01.things o ∧ y ∈ Or01.things o ∧ x ≠ y ∧
  ∀ H', Same H H' → Q (.int ((Om.ahead o x y : Nat) : Int)) H'
theorem scAhead : FnScope ["below", "x", "y"] ["below", "x", "y"] (defScope sWithAhead) := ⟨rfl, rfl, rfl, by decide +kernel, rfl, by decide +kernel, by decide +kernel⟩
theorem ok_ahead {f : Addr} {fd : FuncData} (F : Fun K "rows_with_ahead" "rows_with_ahead" sWithAhead f fd) (L : Df P w K mg base 2 "lies_below" ["below", "x", "y"] spLies) (Te : Df P w K mg base 3 "tell" ["below", "x", "y"] spTell)
    (M : Df P w K mg base 5 "how_many_rows" ["below"] spHowMany) : FnOk P w K mg base CX0 6 f fd ["below", "x", "y"] spAhead := by
  obtain ⟨fL, fdL, gL, kL, bL, GL⟩ := L.ex
  obtain ⟨fT, fdT, gT, kT, bT, GT⟩ := Te.ex
  obtain ⟨fM, fdM, gM, kM, bM, GM⟩ := M.ex
  refine F.ok scAhead (fun vs H Q E h => ?_) (fun cdv A outer s H vs Q E hr h => ?_)
  · obtain ⟨d, o, x, y, rfl, _⟩ := h
    rfl
  · obtain ⟨d, o, x, y, rfl, ko, hd, hx, hy, ne, k⟩ := h
    have hr2 : Room 2 _ := hr.mono (by decide)
    have hr3 : Room 3 _ := hr.mono (by decide)
    refine ⟨_, pss_cons (ps_if (pt_val (pe_call GL hr2 (by rfl) gL kL bL .nil pass0 (pa_cons (pv 0) (pa_cons (pv 2) (pa_cons (pv 1) pa_nil))))) (pss_one (ps_ret pe_int)) pss_nil)
      (pss_one (ps_ret (pe_call GM hr (by rfl) gM kM bM .nil pass0 (pa_cons (pe_call GT hr3 (by rfl) gT kT bT .nil pass0 (pa_cons (pv 0) (pa_cons (pv 1) (pa_cons (pv 2) pa_nil)))) pa_nil)))), ?_⟩
    refine ⟨_, rfl, _, rfl, _, rfl, d, o, y, x, rfl, ko, .inl hd, hy, hx, _, rfl, ?_⟩
    rw [Om.ahead_with ko hx hy ne] at k
    cases c : Or01.below o y x with
    | true =>
      rw [c, if_pos rfl] at k
      exact iteT (k H (Same.refl H))
    | false =>
      rw [c, if_neg Bool.false_ne_true] at k
      refine iteF ?_
      refine ⟨_, rfl, _, rfl, _, rfl, d, o, x, y, rfl, ko, hd, hx, hy, ne, c, fun H1 q s1 hq e1 => ?_⟩
      exact ⟨q, Or01.with_ o x y, rfl, Om.ok_with ko hx hy ne c, e1, fun H2 s2 => k H2 (s1.trans s2)⟩
/-! common_part -/
def spCommon : Sp := fun vs H Q _ => ∃ (a b : Nat), vs = [.int (a : Int), .int (b : Int)] ∧ Q (.int ((Nat.gcd a b : Nat) : Int)) H
theorem scCommon : FnScope ["a", "b", "rest"] ["a", "b"] (defScope sCommon) := ⟨rfl, rfl, rfl, by decide +kernel, rfl, by decide +kernel, by decide +kernel⟩
def slotN (i : Nat) (σ : L2.St) : Nat := match σ[i]? with
  | some (some (.int b)) => b.toNat
  | _ => 0
theorem ok_common {f : Addr} {fd : FuncData} (F : Fun K "common_part" "common_part" sCommon f fd) : FnOk P w K mg base CX0 1 f fd ["a", "b"] spCommon := by
  refine F.ok scCommon (fun vs H Q E h => ?_) (fun cdv A outer s H vs Q E hr h => ?_)
  · obtain ⟨a, b, rfl, _⟩ := h
    rfl
  · obtain ⟨a, b, rfl, k⟩ := h
    refine ⟨_, pss_cons (ps_while PassesOwn.never (pt_cmp (pc_neI (pv 1) pe_int))
        (pss_cons (ps_set (i := 2) scCommon.nd rfl (Or.inl rfl) (pe_op op_modNat (pv 0) (pv 1)))
        (pss_cons (ps_set (i := 0) scCommon.nd rfl (Or.inl rfl) (pv 1))
        (pss_one (ps_set (i := 1) scCommon.nd rfl (Or.inl rfl) (pv 2))))))
      (pss_one (ps_ret (pv 0))), ?_⟩
    refine while_by (fun σ H' => ∃ (a' b' : Nat) (v : Option V), σ = [some (.int (a' : Int)), some (.int (b' : Int)), v] ∧ H' = H ∧ Nat.gcd a' b' = Nat.gcd a b) (fun σ _ => slotN 1 σ) ⟨a, b, none, rfl, rfl, rfl⟩ ?_ ?_
    · rintro σ H' ⟨a', b', v, rfl, rfl, e⟩
      refine ⟨_, rfl, _, _, rfl, rfl, _, rfl, ?_⟩
      by_cases c : b' = 0
      · subst c
        refine iteFo (by rfl) ?_
        rw [Nat.gcd_zero_right] at e
        refine ⟨_, rfl, ?_⟩
        rw [e]
        exact k
      · refine iteTo ?_ ?_
        · show (!decide ((b' : Int) = 0)) = true
          rw [decide_eq_false (by omega)]; rfl
        refine ⟨_, rfl, _, rfl, a', b', rfl, rfl, by omega, _, rfl, _, rfl, ?_⟩
        refine ⟨⟨b', a' % b', _, rfl, rfl, ?_⟩, ?_⟩
        · rw [PySem.W.os_gcd_turn]; exact e
        · show ((a' % b' : Nat) : Int).toNat < ((b' : Nat) : Int).toNat
          rw [Int.toNat_natCast, Int.toNat_natCast]
          exact Nat.mod_lt _ (by omega)
    · rintro σ H' Q1 Q2 hq ⟨x, h1, i, j, h2, h3, h4⟩
      obtain ⟨c, h5, h6⟩ := h4
      exact ⟨x, h1, i, j, h2, h3, c, h5, hq _ _ h6⟩
/-! fraction -/
def frac (a b : Nat) : List V := vInts [a / Nat.gcd a b, b / Nat.gcd a b]
def spFraction : Sp := fun vs H Q _ => ∃ (a b : Nat), vs = [.int (a : Int), .int (b : Int)] ∧ 0 < b ∧ b < 1073741824 ∧ ∀ H' q, Same H H' → H q = none → H' q = some (.lst (frac a b)) → Q (.ref q) H'
theorem scFraction : FnScope ["part", "whole", "common"] ["part", "whole"] (defScope sFraction) := ⟨rfl, rfl, rfl, by decide +kernel, rfl, by decide +kernel, by decide +kernel⟩
theorem ok_fraction {f : Addr} {fd : FuncData} (F : Fun K "fraction" "fraction" sFraction f fd) (C : Df P w K mg base 1 "common_part" ["a", "b"] spCommon) : FnOk P w K mg base CX0 2 f fd ["part", "whole"] spFraction := by
  obtain ⟨fC, fdC, gC, kC, bC, GC⟩ := C.ex
  refine F.ok scFraction (fun vs H Q E h => ?_) (fun cdv A outer s H vs Q E hr h => ?_)
  · obtain ⟨a, b, rfl, _⟩ := h
    rfl
  · obtain ⟨a, b, rfl, hb, hb2, k⟩ := h
    refine ⟨_, pss_cons (ps_set (i := 2) scFraction.nd rfl (Or.inl rfl) (pe_call GC hr (by rfl) gC kC bC .nil pass0 (pa_cons (pv 0) (pa_cons (pv 1) pa_nil))))
      (pss_one (ps_ret (pe_lst (pa_cons (pe_op op_divNat (pv 0) (pv 2)) (pa_cons (pe_op op_divNat (pv 1) (pv 2)) pa_nil))))), ?_⟩
    have g1 : 0 < Nat.gcd a b := Nat.gcd_pos_of_pos_right a hb
    have g2 : Nat.gcd a b ≤ b := Nat.gcd_le_right a hb
    refine ⟨_, rfl, _, rfl, a, b, rfl, ?_⟩
    refine ⟨_, rfl, _, rfl, a, Nat.gcd a b, rfl, rfl, g1, by omega, _, rfl, _, rfl, b, Nat.gcd a b, rfl, rfl, g1, by omega, (by show 2 ≤ sizeLine; decide), fun q hq => ?_⟩
    exact k _ q (same_upd (Same.refl H) hq) hq upd_same
end
end Ob
end

section
set_option Elab.async false
set_option maxRecDepth 100000
set_option maxHeartbeats 4000000
namespace Ob
open PySem PySem.Spec PyProof.Rows L2
open Om (mask bit every follow W Ok left idx)
abbrev sOrder : Stmt := topS 31
abbrev sInit : Stmt := inClass sOrder 0
abbrev sBelow : Stmt := inClass sOrder 1
abbrev sThings : Stmt := inClass sOrder 2
abbrev sLess : Stmt := inClass sOrder 3
abbrev sUndo : Stmt := inClass sOrder 4
abbrev sMany : Stmt := inClass sOrder 5
abbrev sNth : Stmt := inClass sOrder 6
abbrev sRank : Stmt := inClass sOrder 7
abbrev sChance : Stmt := inClass sOrder 8
abbrev sBoth : Stmt := inClass sOrder 9
abbrev sSpread : Stmt := inClass sOrder 10
abbrev sFairest : Stmt := inClass sOrder 11
abbrev sFewest : Stmt := inClass sOrder 12
abbrev sNextPairs : Stmt := inClass sOrder 13
abbrev sLikely : Stmt := inClass sOrder 14
abbrev sIsBelow : Stmt := inClass sOrder 15
/-! the object -/
def oF (h : Addr) : List (Str × V) := [("history", .ref h)]
theorem oF_at (h : Addr) : (oF h).lookup ("history" : Str) = some (.ref h) := by
  have e : (("history" : Str) == "history") = true := beq_self_eq_true _
  simp only [oF, List.lookup, e]
theorem oF_no {h : Addr} {m : Str} (n : (m == ("history" : Str)) = false) : (oF h).lookup m = none := by
  simp only [oF, List.lookup, n]
theorem oF_put (h : Addr) (v : Addr) : putF "history" (.ref v) (oF h) = oF v := if_pos rfl
/-- what is told of the first i pairs -/
def pre (o : Or01.Order) (i : Nat) : Or01.Order := ⟨o.many, o.told.take i⟩
structure OrdAt (C : Addr) (H : Hp) (a h : Addr) (o : Or01.Order) : Prop where
  ob : ∃ dx, H a = some (.ins C dx (oF h))
  hs : ∃ ds : List Addr, H h = some (.lst (ds.map V.ref)) ∧ ds.length = o.told.length + 1 ∧ ∀ i d, ds[i]? = some d → H d = some (.dK (tbl (pre o i)))
theorem pre_all (o : Or01.Order) : pre o o.told.length = o := by
  unfold pre
  rw [List.take_length]
theorem OrdAt.same {C : Addr} {H H' : Hp} {a h : Addr} {o : Or01.Order} (s : Same H H') (A : OrdAt C H a h o) : OrdAt C H' a h o := by
  obtain ⟨⟨dx, h1⟩, ds, h2, h3, h4⟩ := A
  exact ⟨⟨dx, s _ _ h1⟩, ds, s _ _ h2, h3, fun i d e => s _ _ (h4 i d e)⟩
def Keep (H H' : Hp) (a h : Addr) : Prop := ∀ b x, H b = some x → b ≠ a → b ≠ h → H' b = some x
theorem Keep.of {H H' : Hp} {a h : Addr} (s : Same H H') : Keep H H' a h := fun b x e _ _ => s b x e
def vz (l : List Int) : List V := l.map V.int
theorem vz_ints (l : List Nat) : vz (Or01.ints l) = vInts l := by
  unfold vz Or01.ints vInts
  rw [List.map_map]
  rfl
/-- a method that answers a call -/
def spStep (C : Addr) (ar : Or01.Call → List V → Hp → Prop) : Sp := fun vs H Q _ => ∃ (a h : Addr) (o : Or01.Order) (c : Or01.Call) (args : List V), vs = .ref a :: args ∧ ar c args H ∧ Ok o ∧ OrdAt C H a h o ∧
  ∀ H' h' q, OrdAt C H' a h' (Or01.step o c).1 → Keep H H' a h → (h' = h ∨ H h' = none) → H q = none → H' q = some (.lst (vz (Or01.step o c).2)) → Q (.ref q) H'
/-- the same, where few pairs are told -/
def spStepB (C : Addr) (ar : Or01.Call → List V → Hp → Prop) : Sp := fun vs H Q _ => ∃ (a h : Addr) (o : Or01.Order) (c : Or01.Call) (args : List V), vs = .ref a :: args ∧ ar c args H ∧ Ok o ∧ o.told.length ≤ 2000 ∧ OrdAt C H a h o ∧
  ∀ H' h' q, OrdAt C H' a h' (Or01.step o c).1 → Keep H H' a h → (h' = h ∨ H h' = none) → H q = none → H' q = some (.lst (vz (Or01.step o c).2)) → Q (.ref q) H'
/-- a method of the class, by its promise -/
structure Md (P : Program) (w : World) (K : PySem.W.Frag) (mg : Str → Option Value) (base : Heap) (C : Addr) (k : Nat) (x : Str) (ps : List Str) (sp : Sp) : Prop where
  ex : ∃ (f : Addr) (fd : FuncData), Meth K C x f ∧ Binds K fd ps [] ∧ FnOk P w K mg base CX0 k f fd ps sp
structure RawM (K : PySem.W.Frag) (C : Addr) (x q : Str) (st : Stmt) (ps : List Str) : Prop where
  ex : ∃ (f : Addr) (fd : FuncData), Meth K C x f ∧ Fun K x q st f fd ∧ Binds K fd ps []
theorem RawM.md {P : Program} {w : World} {K : PySem.W.Frag} {mg : Str → Option Value} {base : Heap} {C : Addr} {k : Nat} {x q : Str} {st : Stmt} {ps : List Str} {sp : Sp} (R : RawM K C x q st ps)
    (h : ∀ f fd, Fun K x q st f fd → FnOk P w K mg base CX0 k f fd ps sp) : Md P w K mg base C k x ps sp := by
  obtain ⟨f, fd, h1, h2, h3⟩ := R.ex
  exact ⟨f, fd, h1, h3, h f fd h2⟩
structure Txt (K : PySem.W.Frag) (mg : Str → Option Value) (C : Addr) : Prop where
  cl : Cls K C
  nH : NoAttr K C "history"
section
variable {P : Program} {w : World} {K : PySem.W.Frag} {mg : Str → Option Value} {base : Heap} {C : Addr}
/-! below -/
def spBelow (C : Addr) : Sp := fun vs H Q _ => ∃ (a h : Addr) (o : Or01.Order), vs = [.ref a] ∧ OrdAt C H a h o ∧ ∀ d, H d = some (.dK (tbl o)) → Q (.ref d) H
theorem scBelow : FnScope ["self"] ["self"] (defScope sBelow) := ⟨rfl, rfl, rfl, by decide +kernel, rfl, by decide +kernel, by decide +kernel⟩
theorem ok_below {f : Addr} {fd : FuncData} (F : Fun K "below" "Order.below" sBelow f fd) (T : Txt K mg C) (B : Bi mg) : FnOk P w K mg base CX0 1 f fd ["self"] (spBelow C) := by
  refine F.ok scBelow (fun vs H Q E h => ?_) (fun cdv A outer s H vs Q E hr h => ?_)
  · obtain ⟨a, h, o, rfl, _⟩ := h
    rfl
  · obtain ⟨a, h, o, rfl, A0, k⟩ := h
    obtain ⟨⟨dx, h1⟩, ds, h2, h3, h4⟩ := A0
    refine ⟨_, pss_one (ps_ret (pe_ix ix_list (pe_fld (pv 0) rfl) (pe_op op_subN (pe_callB call_len_seq (by rfl) B.len PySem.boot_len (pa_cons (pe_fld (pv 0) rfl) pa_nil)) pe_int) (fun _ _ => rfl))), ?_⟩
    have hg : ds[o.told.length]? = some (ds[o.told.length]'(by omega)) := List.getElem?_eq_getElem _
    refine ⟨_, rfl, a, C, dx, _, _, rfl, h1, T.cl, T.nH, oF_at h, _, rfl, a, C, dx, _, _, rfl, h1, T.cl, T.nH, oF_at h, h, _, rfl, .inl (SqL.of h2), o.told.length + 1, 1, ?_, rfl, by omega, h, _, _, _, rfl, rfl, SqL.of h2, atI_nat (j := o.told.length + 1 - 1) (v := V.ref (ds[o.told.length]'(by omega))) ?_, ?_⟩
    · rw [List.length_map, h3]
    · rw [Nat.add_sub_cancel, List.getElem?_map, hg]
      rfl
    · refine k _ ?_
      have := h4 _ _ hg
      rw [pre_all] at this
      exact this
end
end Ob
end

section
set_option Elab.async false
set_option maxRecDepth 100000
set_option maxHeartbeats 4000000
namespace Ob
open PySem PySem.Spec PyProof.Rows L2
open Om (mask bit every follow W Ok left idx)
section
variable {P : Program} {w : World} {K : PySem.W.Frag} {mg : Str → Option Value} {base : Heap} {C : Addr}
/-- a new list is answered, all else stands -/
theorem fin1 {a h q : Addr} {o : Or01.Order} {H H1 : Hp} {l : List Int} {Q : VK} (A0 : OrdAt C H a h o) (k : ∀ H' h' q, OrdAt C H' a h' o → Keep H H' a h → (h' = h ∨ H h' = none) → H q = none → H' q = some (.lst (vz l)) → Q (.ref q) H')
    (s1 : Same H H1) (hq : H1 q = none) : Q (.ref q) (upd H1 q (.lst (vz l))) :=
  k _ h q (A0.same (same_upd s1 (s1.free hq))) (.of (same_upd s1 (s1.free hq))) (.inl rfl) (s1.free hq) upd_same
/-! many -/
def arMany : Or01.Call → List V → Hp → Prop := fun c args _ => c = .many ∧ args = []
theorem scMany : FnScope ["self"] ["self"] (defScope sMany) := ⟨rfl, rfl, rfl, by decide +kernel, rfl, by decide +kernel, by decide +kernel⟩
theorem ok_many {f : Addr} {fd : FuncData} (F : Fun K "many" "Order.many" sMany f fd) (T : Txt K mg C) (B : Md P w K mg base C 1 "below" ["self"] (spBelow C)) (M : Df P w K mg base 5 "how_many_rows" ["below"] spHowMany) :
    FnOk P w K mg base CX0 6 f fd ["self"] (spStep C arMany) := by
  obtain ⟨fB, fdB, mB, bB, GB⟩ := B.ex
  obtain ⟨fM, fdM, gM, kM, bM, GM⟩ := M.ex
  refine F.ok scMany (fun vs H Q E h => ?_) (fun cdv A outer s H vs Q E hr h => ?_)
  · obtain ⟨a, h, o, c, args, rfl, ⟨rfl, rfl⟩, _⟩ := h
    rfl
  · obtain ⟨a, h, o, c, args, rfl, ⟨rfl, rfl⟩, ko, A0, k⟩ := h
    obtain ⟨dx, h1⟩ := A0.ob
    have hr1 : Room 1 _ := hr.mono (by decide)
    refine ⟨_, pss_one (ps_ret (pe_lst (pa_cons (pe_call GM hr (by rfl) gM kM bM .nil pass0 (pa_cons (pe_meth0 (pv 0) T.cl mB GB hr1 bB .nil pass0) pa_nil)) pa_nil))), ?_⟩
    refine ⟨_, rfl, a, dx, _, rfl, h1, oF_no (by decide +kernel), a, h, o, rfl, A0, fun d hd => ?_⟩
    refine ⟨d, o, rfl, ko, hd, fun H1 s1 => ⟨(by show 1 ≤ sizeLine; decide), fun q hq => ?_⟩⟩
    have sq := same_upd (o := .lst [V.int (((Or01.rows o).length : Nat) : Int)]) s1 (s1.free hq)
    exact k _ h q (A0.same sq) (.of sq) (.inl rfl) (s1.free hq) upd_same
/-! nth -/
def arNth : Or01.Call → List V → Hp → Prop := fun c args _ => ∃ n : Nat, c = .nth n ∧ args = [.int (n : Int)]
theorem scNth : FnScope ["self", "k", "below"] ["self", "k"] (defScope sNth) := ⟨rfl, rfl, rfl, by decide +kernel, rfl, by decide +kernel, by decide +kernel⟩
theorem ok_nth {f : Addr} {fd : FuncData} (F : Fun K "nth" "Order.nth" sNth f fd) (T : Txt K mg C) (B : Md P w K mg base C 1 "below" ["self"] (spBelow C)) (M : Df P w K mg base 5 "how_many_rows" ["below"] spHowMany) (R : Df P w K mg base 5 "row_at" ["below", "number"] spRowAt) :
    FnOk P w K mg base CX0 6 f fd ["self", "k"] (spStep C arNth) := by
  obtain ⟨fB, fdB, mB, bB, GB⟩ := B.ex
  obtain ⟨fM, fdM, gM, kM, bM, GM⟩ := M.ex
  obtain ⟨fR, fdR, gR, kR, bR, GR⟩ := R.ex
  refine F.ok scNth (fun vs H Q E h => ?_) (fun cdv A outer s H vs Q E hr h => ?_)
  · obtain ⟨a, h, o, c, args, rfl, ⟨n, rfl, rfl⟩, _⟩ := h
    rfl
  · obtain ⟨a, h, o, c, args, rfl, ⟨n, rfl, rfl⟩, ko, A0, k⟩ := h
    obtain ⟨dx, h1⟩ := A0.ob
    have hr1 : Room 1 _ := hr.mono (by decide)
    refine ⟨_, pss_cons (ps_set (i := 2) scNth.nd rfl (Or.inl rfl) (pe_meth0 (pv 0) T.cl mB GB hr1 bB .nil pass0))
      (pss_cons (ps_if (pt_cmp (pc_ge (pv 1) (pe_call GM hr (by rfl) gM kM bM .nil pass0 (pa_cons (pv 2) pa_nil)))) (pss_one (ps_ret (pe_lst (pa_cons (pe_un un_neg pe_int) pa_nil)))) pss_nil)
      (pss_one (ps_ret (pe_call GR hr (by rfl) gR kR bR .nil pass0 (pa_cons (pv 2) (pa_cons (pv 1) pa_nil)))))), ?_⟩
    refine ⟨_, rfl, a, dx, _, rfl, h1, oF_no (by decide +kernel), a, h, o, rfl, A0, fun d hd => ?_⟩
    refine ⟨_, rfl, _, rfl, d, o, rfl, ko, hd, fun H1 s1 => ⟨_, _, rfl, rfl, _, rfl, ?_⟩⟩
    have es : Or01.step o (.nth n) = (o, match (Or01.rows o)[n]? with
      | none => [-2]
      | some r => Or01.ints r) := rfl
    rw [es] at k
    cases e : (Or01.rows o)[n]? with
    | none =>
      rw [e] at k
      have hl := List.getElem?_eq_none_iff.mp e
      refine iteTo (decide_eq_true (by omega)) ?_
      refine ⟨_, rfl, (by show 1 ≤ sizeLine; decide), fun q hq => ?_⟩
      exact fin1 A0 k s1 hq
    | some r =>
      rw [e] at k
      have hl := (List.getElem?_eq_some_iff.mp e).1
      refine iteFo (decide_eq_false (by omega)) ?_
      refine ⟨_, rfl, _, rfl, d, o, n, r, rfl, ko, s1 _ _ hd, e, fun H2 q s2 hq e2 => ?_⟩
      have sq := s1.trans s2
      exact k _ h q (A0.same sq) (.of sq) (.inl rfl) (s1.free hq) (by rw [vz_ints]; exact e2)
/-! rank -/
def arRank (K : PySem.W.Frag) : Or01.Call → List V → Hp → Prop := fun c args H => ∃ (ra : Addr) (l : List Nat), c = .rank l ∧ args = [.ref ra] ∧ SqL K H ra (vInts l)
theorem scRank : FnScope ["self", "row", "number"] ["self", "row"] (defScope sRank) := ⟨rfl, rfl, rfl, by decide +kernel, rfl, by decide +kernel, by decide +kernel⟩
theorem ok_rank {f : Addr} {fd : FuncData} (F : Fun K "rank" "Order.rank" sRank f fd) (T : Txt K mg C) (B : Md P w K mg base C 1 "below" ["self"] (spBelow C)) (N : Df P w K mg base 5 "number_of" ["below", "row"] (spNumberOf K)) :
    FnOk P w K mg base CX0 6 f fd ["self", "row"] (spStep C (arRank K)) := by
  obtain ⟨fB, fdB, mB, bB, GB⟩ := B.ex
  obtain ⟨fN, fdN, gN, kN, bN, GN⟩ := N.ex
  refine F.ok scRank (fun vs H Q E h => ?_) (fun cdv A outer s H vs Q E hr h => ?_)
  · obtain ⟨a, h, o, c, args, rfl, ⟨ra, l, rfl, rfl, _⟩, _⟩ := h
    rfl
  · obtain ⟨a, h, o, c, args, rfl, ⟨ra, l, rfl, rfl, hl⟩, ko, A0, k⟩ := h
    obtain ⟨dx, h1⟩ := A0.ob
    have hr1 : Room 1 _ := hr.mono (by decide)
    refine ⟨_, pss_cons (ps_set (i := 2) scRank.nd rfl (Or.inl rfl) (pe_call GN hr (by rfl) gN kN bN .nil pass0 (pa_cons (pe_meth0 (pv 0) T.cl mB GB hr1 bB .nil pass0) (pa_cons (pv 1) pa_nil))))
      (pss_cons (ps_if (pt_cmp (pc_isN (pv 2))) (pss_one (ps_ret (pe_lst (pa_cons (pe_un un_neg pe_int) pa_nil)))) pss_nil)
      (pss_one (ps_ret (pe_lst (pa_cons (pv 2) pa_nil))))), ?_⟩
    refine ⟨_, rfl, a, dx, _, rfl, h1, oF_no (by decide +kernel), a, h, o, rfl, A0, fun d hd => ?_⟩
    have es : Or01.step o (.rank l) = (o, if (Or01.rows o).contains l = false then [-3] else Or01.ints [idx (Or01.rows o) l]) := rfl
    rw [es] at k
    refine ⟨_, rfl, d, ra, o, l, rfl, ko, hd, hl, fun hm H1 s1 => ?_, fun hm H1 s1 => ?_⟩
    · have c : (Or01.rows o).contains l = true := List.contains_iff_mem.mpr hm
      rw [c, if_neg (by decide)] at k
      refine ⟨_, rfl, _, rfl, ?_⟩
      refine iteFo (by rfl) ?_
      refine ⟨_, rfl, (by show 1 ≤ sizeLine; decide), fun q hq => ?_⟩
      exact fin1 A0 k s1 hq
    · have c : (Or01.rows o).contains l = false := by
        rw [Bool.eq_false_iff]
        exact fun h => hm (List.contains_iff_mem.mp h)
      rw [c, if_pos rfl] at k
      refine ⟨_, rfl, _, rfl, ?_⟩
      refine iteTo (by rfl) ?_
      refine ⟨_, rfl, (by show 1 ≤ sizeLine; decide), fun q hq => ?_⟩
      exact fin1 A0 k s1 hq
/-! chance -/
theorem vz_frac {a b : Nat} (hb : 0 < b) : vz (Or01.fraction ((a : Rat) / (b : Rat))) = frac a b := by
  rw [Om.fraction_div a b hb]
  rfl
theorem two_false {o : Or01.Order} {x y : Nat} (h : (Or01.isThing o x && (Or01.isThing o y && decide (x ≠ y))) = false) : Or01.isThing o x = false ∨ Or01.isThing o y = false ∨ x = y := by
  cases e1 : Or01.isThing o x with
  | false => exact .inl rfl
  | true =>
    cases e2 : Or01.isThing o y with
    | false => exact .inr (.inl rfl)
    | true =>
      rw [e1, e2, Bool.true_and, Bool.true_and, decide_eq_false_iff_not] at h
      exact .inr (.inr (Classical.not_not.mp h))
theorem two_true {o : Or01.Order} {x y : Nat} (h : (Or01.isThing o x && (Or01.isThing o y && decide (x ≠ y))) = true) : x ∈ Or01.things o ∧ y ∈ Or01.things o ∧ x ≠ y := by
  rw [Bool.and_eq_true, Bool.and_eq_true, decide_eq_true_iff] at h
  exact ⟨Om.mem_things.mpr (Om.isThing_iff.mp h.1), Om.mem_things.mpr (Om.isThing_iff.mp h.2.1), h.2.2⟩
theorem two_not {o : Or01.Order} {x y : Nat} (h : (Or01.isThing o x && (Or01.isThing o y && decide (x ≠ y))) = true) : ¬ (Or01.isThing o x = false ∨ Or01.isThing o y = false ∨ x = y) := by
  rw [Bool.and_eq_true, Bool.and_eq_true, decide_eq_true_iff] at h
  rintro (q | q | q)
  · rw [h.1] at q; cases q
  · rw [h.2.1] at q; cases q
  · exact h.2.2 q
def arChance : Or01.Call → List V → Hp → Prop := fun c args _ => ∃ x y : Nat, c = .chance x y ∧ args = [.int (x : Int), .int (y : Int)]
theorem scChance : FnScope ["self", "x", "y", "below"] ["self", "x", "y"] (defScope sChance) := ⟨rfl, rfl, rfl, by decide +kernel, rfl, by decide +kernel, by decide +kernel⟩
theorem ok_chance {f : Addr} {fd : FuncData} (F : Fun K "chance" "Order.chance" sChance f fd) (T : Txt K mg C) (B : Md P w K mg base C 1 "below" ["self"] (spBelow C)) (W2 : Df P w K mg base 1 "are_two" ["below", "x", "y"] spAreTwo)
    (R : Df P w K mg base 6 "rows_with_ahead" ["below", "x", "y"] spAhead) (M : Df P w K mg base 5 "how_many_rows" ["below"] spHowMany) (Fr : Df P w K mg base 2 "fraction" ["part", "whole"] spFraction) :
    FnOk P w K mg base CX0 7 f fd ["self", "x", "y"] (spStep C arChance) := by
  obtain ⟨fB, fdB, mB, bB, GB⟩ := B.ex
  obtain ⟨fW, fdW, gW, kW, bW, GW⟩ := W2.ex
  obtain ⟨fR, fdR, gR, kR, bR, GR⟩ := R.ex
  obtain ⟨fM, fdM, gM, kM, bM, GM⟩ := M.ex
  obtain ⟨fF, fdF, gF, kF, bF, GF⟩ := Fr.ex
  refine F.ok scChance (fun vs H Q E h => ?_) (fun cdv A outer s H vs Q E hr h => ?_)
  · obtain ⟨a, h, o, c, args, rfl, ⟨x, y, rfl, rfl⟩, _⟩ := h
    rfl
  · obtain ⟨a, h, o, c, args, rfl, ⟨x, y, rfl, rfl⟩, ko, A0, k⟩ := h
    obtain ⟨dx, h1⟩ := A0.ob
    have hr1 : Room 1 _ := hr.mono (by decide)
    have hr2 : Room 2 _ := hr.mono (by decide)
    have hr5 : Room 5 _ := hr.mono (by decide)
    refine ⟨_, pss_cons (ps_set (i := 3) scChance.nd rfl (Or.inl rfl) (pe_meth0 (pv 0) T.cl mB GB hr1 bB .nil pass0))
      (pss_cons (ps_if (pt_not (pt_val (pe_call GW hr1 (by rfl) gW kW bW .nil pass0 (pa_cons (pv 3) (pa_cons (pv 1) (pa_cons (pv 2) pa_nil)))))) (pss_one (ps_ret (pe_lst (pa_cons (pe_un un_neg pe_int) pa_nil)))) pss_nil)
      (pss_one (ps_ret (pe_call GF hr2 (by rfl) gF kF bF .nil pass0 (pa_cons (pe_call GR hr (by rfl) gR kR bR .nil pass0 (pa_cons (pv 3) (pa_cons (pv 1) (pa_cons (pv 2) pa_nil)))) (pa_cons (pe_call GM hr5 (by rfl) gM kM bM .nil pass0 (pa_cons (pv 3) pa_nil)) pa_nil)))))), ?_⟩
    refine ⟨_, rfl, a, dx, _, rfl, h1, oF_no (by decide +kernel), a, h, o, rfl, A0, fun d hd => ?_⟩
    refine ⟨_, rfl, _, rfl, _, rfl, d, o, x, y, rfl, .inl hd, _, rfl, ?_⟩
    have es : Or01.step o (.chance x y) = (o, if Or01.isThing o x = false ∨ Or01.isThing o y = false ∨ x = y then [-1] else Or01.fraction (Or01.chance o x y)) := rfl
    rw [es] at k
    cases e : (Or01.isThing o x && (Or01.isThing o y && decide (x ≠ y))) with
    | false =>
      rw [if_pos (two_false e)] at k
      refine iteTo (by rfl) ?_
      refine ⟨_, rfl, (by show 1 ≤ sizeLine; decide), fun q hq => ?_⟩
      exact fin1 A0 k (Same.refl H) hq
    | true =>
      obtain ⟨hx, hy, ne⟩ := two_true e
      have hp := Om.rows_pos ko
      have hle := Om.rows_le ko
      rw [if_neg (two_not e), Om.chance_eq ko] at k
      refine iteFo (by rfl) ?_
      refine ⟨_, rfl, _, rfl, _, rfl, d, o, x, y, rfl, ko, hd, hx, hy, ne, fun H1 s1 => ?_⟩
      refine ⟨_, rfl, d, o, rfl, ko, s1 _ _ hd, fun H2 s2 => ?_⟩
      refine ⟨Om.ahead o x y, (Or01.rows o).length, rfl, hp, by omega, fun H3 q s3 hq e3 => ?_⟩
      have sq := s1.trans (s2.trans s3)
      exact k _ h q (A0.same sq) (.of sq) (.inl rfl) (s1.free (s2.free hq)) (by rw [vz_frac hp]; exact e3)
end
end Ob
end

section
set_option Elab.async false
set_option maxRecDepth 100000
set_option maxHeartbeats 4000000
namespace Ob
open PySem PySem.Spec PyProof.Rows L2
open Om (mask bit every follow W Ok left idx)
/-- an order of which nothing is told -/
theorem ord_new {C : Addr} {H : Hp} {a h d dx : Addr} {n : Nat} (h1 : H a = some (.ins C dx (oF h))) (h2 : H h = some (.lst [V.ref d])) (h3 : H d = some (.dK (tbl ⟨n, []⟩))) : OrdAt C H a h ⟨n, []⟩ := by
  refine ⟨⟨dx, h1⟩, [d], h2, rfl, fun i e hi => ?_⟩
  match i with
  | 0 =>
    cases hi
    exact h3
  | i + 1 => cases hi
section
variable {P : Program} {w : World} {K : PySem.W.Frag} {mg : Str → Option Value} {base : Heap} {C : Addr}
/-! __init__ -/
def spInit (C : Addr) : Sp := fun vs H Q _ => ∃ (a dx : Addr), vs = [.ref a] ∧ H a = some (.ins C dx []) ∧ ∀ (H' : Hp) (h : Addr), OrdAt C H' a h Or01.init → (∀ b x, H b = some x → b ≠ a → H' b = some x) → H h = none → Q .non H'
theorem scInit : FnScope ["self"] ["self"] (defScope sInit) := ⟨rfl, rfl, rfl, by decide +kernel, rfl, by decide +kernel, by decide +kernel⟩
theorem ok_init {f : Addr} {fd : FuncData} (F : Fun K "__init__" "Order.__init__" sInit f fd) (T : Txt K mg C) (N : Df P w K mg base 1 "nothing_told" ["n"] spNothing) : FnOk P w K mg base CX0 2 f fd ["self"] (spInit C) := by
  obtain ⟨fN, fdN, gN, kN, bN, GN⟩ := N.ex
  refine F.ok scInit (fun vs H Q E h => ?_) (fun cdv A outer s H vs Q E hr h => ?_)
  · obtain ⟨a, dx, rfl, _⟩ := h
    rfl
  · obtain ⟨a, dx, rfl, h1, k⟩ := h
    refine ⟨_, pss_one (ps_fld (pv 0) (pe_lst (pa_cons (pe_call GN hr (by rfl) gN kN bN .nil pass0 (pa_cons pe_int pa_nil)) pa_nil)) rfl), ?_⟩
    refine ⟨1, rfl, by decide, by decide, fun H1 d s1 hd e1 => ⟨(by show 1 ≤ sizeLine; decide), fun h hh => ?_⟩⟩
    have n1 : a ≠ h := ne_of_none (s1 _ _ h1) hh
    have n2 : d ≠ h := ne_of_none e1 hh
    have n3 : d ≠ a := fun e => by subst e; rw [hd] at h1; cases h1
    refine ⟨_, rfl, a, C, dx, [], rfl, (by rw [upd_ne n1]; exact s1 _ _ h1), T.cl, T.nH, (by show 0 < 1000; decide), ?_⟩
    refine k _ h (ord_new (d := d) (dx := dx) ?_ ?_ ?_) (fun b x e nb => ?_) (s1.free hh)
    · rw [upd_same]; rfl
    · rw [upd_ne n1.symm, upd_same]
    · rw [upd_ne n3, upd_ne n2]; exact e1
    · rw [upd_ne nb, upd_ne (ne_of_none (s1 _ _ e) hh)]; exact s1 _ _ e
/-! things -/
def arThings : Or01.Call → List V → Hp → Prop := fun c args _ => ∃ n : Nat, c = .things n ∧ args = [.int (n : Int)]
theorem scThings : FnScope ["self", "n"] ["self", "n"] (defScope sThings) := ⟨rfl, rfl, rfl, by decide +kernel, rfl, by decide +kernel, by decide +kernel⟩
theorem ok_things {f : Addr} {fd : FuncData} {tk : Tok} (F : Fun K "things" "Order.things" sThings f fd) (T : Txt K mg C) (M7 : mg "MOST_THINGS" = some (.int 7 tk)) (N : Df P w K mg base 1 "nothing_told" ["n"] spNothing) : FnOk P w K mg base CX0 2 f fd ["self", "n"] (spStep C arThings) := by
  obtain ⟨fN, fdN, gN, kN, bN, GN⟩ := N.ex
  refine F.ok scThings (fun vs H Q E h => ?_) (fun cdv A outer s H vs Q E hr h => ?_)
  · obtain ⟨a, h, o, c, args, rfl, ⟨n, rfl, rfl⟩, _⟩ := h
    rfl
  · obtain ⟨a, h, o, c, args, rfl, ⟨n, rfl, rfl⟩, ko, A0, k⟩ := h
    obtain ⟨dx, h1⟩ := A0.ob
    refine ⟨_, pss_cons (ps_if (PW.pt (pw_or (pt_cmp (pc_lt (pv 1) pe_int)) (pw_or1 (pt_cmp (pc_gt (pv 1) (pe_glob (v := .int 7) rfl M7 ⟨_, rfl⟩)))))) (pss_one (ps_ret (pe_lst (pa_cons (pe_un un_neg pe_int) pa_nil)))) pss_nil)
      (pss_cons (ps_fld (pv 0) (pe_lst (pa_cons (pe_call GN hr (by rfl) gN kN bN .nil pass0 (pa_cons (pv 1) pa_nil)) pa_nil)) rfl)
      (pss_one (ps_ret (pe_lst (pa_cons pe_int pa_nil))))), ?_⟩
    have es : Or01.step o (.things n) = (if n = 0 ∨ 7 < n then (o, [-1]) else (⟨n, []⟩, [0])) := rfl
    rw [es] at k
    refine ⟨_, rfl, _, _, rfl, rfl, _, rfl, ?_⟩
    by_cases c0 : n = 0
    · refine iteTo (decide_eq_true (by omega)) ?_
      refine iteTo rfl ?_
      rw [if_pos (.inl c0)] at k
      refine ⟨_, rfl, (by show 1 ≤ sizeLine; decide), fun q hq => ?_⟩
      exact fin1 A0 k (Same.refl H) hq
    refine iteFo (decide_eq_false (by omega)) ?_
    refine ⟨_, rfl, _, _, rfl, rfl, _, rfl, ?_⟩
    by_cases c7 : 7 < n
    · refine iteTo (decide_eq_true (by omega)) ?_
      rw [if_pos (.inr c7)] at k
      refine ⟨_, rfl, (by show 1 ≤ sizeLine; decide), fun q hq => ?_⟩
      exact fin1 A0 k (Same.refl H) hq
    refine iteFo (decide_eq_false (by omega)) ?_
    rw [if_neg (by omega)] at k
    refine ⟨_, rfl, n, rfl, by omega, by omega, fun H1 d s1 hd e1 => ⟨(by show 1 ≤ sizeLine; decide), fun h' hh => ?_⟩⟩
    have n1 : a ≠ h' := ne_of_none (s1 _ _ h1) hh
    have n2 : d ≠ h' := ne_of_none e1 hh
    have n3 : d ≠ a := fun e => by subst e; rw [hd] at h1; cases h1
    refine ⟨_, rfl, a, C, dx, _, rfl, (by rw [upd_ne n1]; exact s1 _ _ h1), T.cl, T.nH, (by show 1 < 1000; decide), ⟨(by show 1 ≤ sizeLine; decide), fun q hq => ?_⟩⟩
    have q1 : q ≠ a := fun e => by subst e; rw [upd_same] at hq; cases hq
    have hq1 : (upd H1 h' (.lst [V.ref d])) q = none := by rw [upd_ne q1] at hq; exact hq
    have q2 : q ≠ h' := fun e => by subst e; rw [upd_same] at hq1; cases hq1
    have hq2 : H1 q = none := by rw [upd_ne q2] at hq1; exact hq1
    have q3 : d ≠ q := ne_of_none e1 hq2
    refine k _ h' q (ord_new (d := d) (dx := dx) ?_ ?_ ?_) (fun b x e nb nh => ?_) (.inr (s1.free hh)) (s1.free hq2) upd_same
    · rw [upd_ne q1.symm, upd_same, oF_put]
    · rw [upd_ne q2.symm, upd_ne n1.symm, upd_same]
    · rw [upd_ne q3, upd_ne n3, upd_ne n2]; exact e1
    · rw [upd_ne (ne_of_none (s1 _ _ e) hq2), upd_ne nb, upd_ne (ne_of_none (s1 _ _ e) hh)]; exact s1 _ _ e
/-! undo -/
def arUndo : Or01.Call → List V → Hp → Prop := fun c args _ => c = .undo ∧ args = []
theorem scUndo : FnScope ["self"] ["self"] (defScope sUndo) := ⟨rfl, rfl, rfl, by decide +kernel, rfl, by decide +kernel, by decide +kernel⟩
theorem ok_undo {f : Addr} {fd : FuncData} (F : Fun K "undo" "Order.undo" sUndo f fd) (T : Txt K mg C) (B : Bi mg) : FnOk P w K mg base CX0 1 f fd ["self"] (spStep C arUndo) := by
  refine F.ok scUndo (fun vs H Q E h => ?_) (fun cdv A outer s H vs Q E hr h => ?_)
  · obtain ⟨a, h, o, c, args, rfl, ⟨rfl, rfl⟩, _⟩ := h
    rfl
  · obtain ⟨a, h, o, c, args, rfl, ⟨rfl, rfl⟩, ko, A0, k⟩ := h
    obtain ⟨⟨dx, h1⟩, ds, h2, h3, h4⟩ := id A0
    refine ⟨_, pss_cons (ps_if (pt_cmp (pc_eqI (pe_callB call_len_seq (by rfl) B.len PySem.boot_len (pa_cons (pe_fld (pv 0) rfl) pa_nil)) pe_int)) (pss_one (ps_ret (pe_lst (pa_cons (pe_un un_neg pe_int) pa_nil)))) pss_nil)
      (pss_cons (ps_expr (pe_bm0 PySem.F.plainAttrs_list PySem.F.slot_list_pop PySem.F.type_list_pop mt_pop (pe_fld (pv 0) rfl)))
      (pss_one (ps_ret (pe_lst (pa_cons (pe_op op_subN (pe_callB call_len_seq (by rfl) B.len PySem.boot_len (pa_cons (pe_fld (pv 0) rfl) pa_nil)) pe_int) pa_nil))))), ?_⟩
    have es : Or01.step o .undo = (if o.told = [] then (o, [-3]) else ({ o with told := o.told.dropLast }, Or01.ints [o.told.length - 1])) := rfl
    rw [es] at k
    refine ⟨_, rfl, a, C, dx, _, _, rfl, h1, T.cl, T.nH, oF_at h, h, _, rfl, .inl (SqL.of h2), _, _, rfl, rfl, _, rfl, ?_⟩
    rw [List.length_map, h3]
    by_cases c : o.told = []
    · rw [if_pos c] at k
      refine iteTo (decide_eq_true (by rw [c]; rfl)) ?_
      refine ⟨_, rfl, (by show 1 ≤ sizeLine; decide), fun q hq => ?_⟩
      exact fin1 A0 k (Same.refl H) hq
    have hpos : 0 < o.told.length := List.length_pos_iff.mpr c
    refine iteFo (decide_eq_false (by omega)) ?_
    rw [if_neg c] at k
    obtain ⟨yl, hg⟩ : ∃ yl, (ds.map V.ref)[(ds.map V.ref).length - 1]? = some yl := ⟨_, List.getElem?_eq_getElem (by rw [List.length_map, h3]; omega)⟩
    refine ⟨_, rfl, a, C, dx, _, _, rfl, h1, T.cl, T.nH, oF_at h, .inl ⟨rfl, _, SqL.of h2⟩, h, _, _, rfl, rfl, h2, hg, ?_⟩
    have nah : a ≠ h := ne_of h1 h2 (by intro z; cases z)
    have h1' : ∀ x, (upd H h x) a = some (.ins C dx (oF h)) := fun x => by rw [upd_ne nah]; exact h1
    refine ⟨_, rfl, a, C, dx, _, _, rfl, h1' _, T.cl, T.nH, oF_at h, h, _, rfl, .inl (SqL.of upd_same), o.told.length, 1, ?_, rfl, hpos, (by show 1 ≤ sizeLine; decide), fun q hq => ?_⟩
    · rw [List.length_dropLast, List.length_map, h3, Nat.add_sub_cancel]
    have qh : q ≠ h := fun e => by subst e; rw [upd_same] at hq; cases hq
    have hq' : H q = none := by rw [upd_ne qh] at hq; exact hq
    refine k _ h q ⟨⟨dx, ?_⟩, ds.dropLast, ?_, ?_, fun i d e => ?_⟩ (fun b x e nb nh => ?_) (.inl rfl) hq' upd_same
    · rw [upd_ne (ne_of_none h1 hq')]; exact h1' _
    · rw [upd_ne qh.symm, upd_same, List.map_dropLast]
    · show ds.dropLast.length = o.told.dropLast.length + 1
      rw [List.length_dropLast, List.length_dropLast, h3]
      omega
    · have hi : i < ds.dropLast.length := (List.getElem?_eq_some_iff.mp e).1
      rw [List.length_dropLast, h3] at hi
      have e' : ds[i]? = some d := by
        rw [List.getElem?_dropLast] at e
        split at e
        · exact e
        · cases e
      have hd := h4 i d e'
      have nd : d ≠ h := ne_of hd h2 (by intro z; cases z)
      rw [upd_ne (ne_of_none hd hq'), upd_ne nd]
      rw [hd]
      have : pre { o with told := o.told.dropLast } i = pre o i := by
        unfold pre
        show (⟨o.many, o.told.dropLast.take i⟩ : Or01.Order) = ⟨o.many, o.told.take i⟩
        rw [List.dropLast_eq_take, List.take_take, Nat.min_eq_left (by omega)]
      rw [this]
    · rw [upd_ne (ne_of_none e hq'), upd_ne nh]; exact e
/-! less -/
def arLess : Or01.Call → List V → Hp → Prop := fun c args _ => ∃ x y : Nat, c = .less x y ∧ args = [.int (x : Int), .int (y : Int)]
theorem scLess : FnScope ["self", "x", "y", "below"] ["self", "x", "y"] (defScope sLess) := ⟨rfl, rfl, rfl, by decide +kernel, rfl, by decide +kernel, by decide +kernel⟩
theorem ok_less {f : Addr} {fd : FuncData} (F : Fun K "less" "Order.less" sLess f fd) (T : Txt K mg C) (B : Md P w K mg base C 1 "below" ["self"] (spBelow C)) (W2 : Df P w K mg base 1 "are_two" ["below", "x", "y"] spAreTwo)
    (L : Df P w K mg base 2 "lies_below" ["below", "x", "y"] spLies) (Te : Df P w K mg base 3 "tell" ["below", "x", "y"] spTell) (M : Md P w K mg base C 6 "many" ["self"] (spStep C arMany)) :
    FnOk P w K mg base CX0 7 f fd ["self", "x", "y"] (spStepB C arLess) := by
  obtain ⟨fB, fdB, mB, bB, GB⟩ := B.ex
  obtain ⟨fW, fdW, gW, kW, bW, GW⟩ := W2.ex
  obtain ⟨fL, fdL, gL, kL, bL, GL⟩ := L.ex
  obtain ⟨fT, fdT, gT, kT, bT, GT⟩ := Te.ex
  obtain ⟨fM, fdM, mM, bM, GM⟩ := M.ex
  refine F.ok scLess (fun vs H Q E h => ?_) (fun cdv A outer s H vs Q E hr h => ?_)
  · obtain ⟨a, h, o, c, args, rfl, ⟨x, y, rfl, rfl⟩, _⟩ := h
    rfl
  · obtain ⟨a, h, o, c, args, rfl, ⟨x, y, rfl, rfl⟩, ko, hT, A0, k⟩ := h
    obtain ⟨⟨dx, h1⟩, ds, h2, h3, h4⟩ := id A0
    have hr1 : Room 1 _ := hr.mono (by decide)
    have hr2 : Room 2 _ := hr.mono (by decide)
    have hr3 : Room 3 _ := hr.mono (by decide)
    refine ⟨_, pss_cons (ps_set (i := 3) scLess.nd rfl (Or.inl rfl) (pe_meth0 (pv 0) T.cl mB GB hr1 bB .nil pass0))
      (pss_cons (ps_if (pt_not (pt_val (pe_call GW hr1 (by rfl) gW kW bW .nil pass0 (pa_cons (pv 3) (pa_cons (pv 1) (pa_cons (pv 2) pa_nil)))))) (pss_one (ps_ret (pe_lst (pa_cons (pe_un un_neg pe_int) pa_nil)))) pss_nil)
      (pss_cons (ps_if (pt_val (pe_call GL hr2 (by rfl) gL kL bL .nil pass0 (pa_cons (pv 3) (pa_cons (pv 2) (pa_cons (pv 1) pa_nil))))) (pss_one (ps_ret (pe_lst (pa_cons (pe_un un_neg pe_int) pa_nil)))) pss_nil)
      (pss_cons (ps_if (pt_val (pe_call GL hr2 (by rfl) gL kL bL .nil pass0 (pa_cons (pv 3) (pa_cons (pv 1) (pa_cons (pv 2) pa_nil))))) (pss_one (ps_ret (pe_lst (pa_cons (pe_un un_neg pe_int) pa_nil)))) pss_nil)
      (pss_cons (ps_expr (pe_bm PySem.F.plainAttrs_list PySem.F.slot_list_append PySem.F.type_list_append mt_append (pe_fld (pv 0) rfl) (pa_cons (pe_call GT hr3 (by rfl) gT kT bT .nil pass0 (pa_cons (pv 3) (pa_cons (pv 1) (pa_cons (pv 2) pa_nil)))) pa_nil)))
      (pss_one (ps_ret (pe_meth0 (pv 0) T.cl mM GM hr bM .nil pass0))))))), ?_⟩
    refine ⟨_, rfl, a, dx, _, rfl, h1, oF_no (by decide +kernel), a, h, o, rfl, A0, fun d hd => ?_⟩
    refine ⟨_, rfl, _, rfl, _, rfl, d, o, x, y, rfl, .inl hd, _, rfl, ?_⟩
    have es : Or01.step o (.less x y) = (if Or01.isThing o x = false ∨ Or01.isThing o y = false ∨ x = y then (o, [-1]) else if Or01.below o y x = true then (o, [-6]) else if Or01.below o x y = true then (o, [-4]) else (Or01.with_ o x y, Or01.ints [(Or01.rows (Or01.with_ o x y)).length])) := rfl
    rw [es] at k
    cases e : (Or01.isThing o x && (Or01.isThing o y && decide (x ≠ y))) with
    | false =>
      rw [if_pos (two_false e)] at k
      refine iteTo (by rfl) ?_
      refine ⟨_, rfl, (by show 1 ≤ sizeLine; decide), fun q hq => ?_⟩
      exact fin1 A0 k (Same.refl H) hq
    | true =>
      obtain ⟨hx, hy, ne⟩ := two_true e
      rw [if_neg (two_not e)] at k
      refine iteFo (by rfl) ?_
      refine ⟨_, rfl, _, rfl, _, rfl, d, o, y, x, rfl, ko, .inl hd, hy, hx, _, rfl, ?_⟩
      cases c1 : Or01.below o y x with
      | true =>
        rw [c1, if_pos rfl] at k
        refine iteTo rfl ?_
        refine ⟨_, rfl, (by show 1 ≤ sizeLine; decide), fun q hq => ?_⟩
        exact fin1 A0 k (Same.refl H) hq
      | false =>
        rw [c1, if_neg Bool.false_ne_true] at k
        refine iteFo rfl ?_
        refine ⟨_, rfl, _, rfl, _, rfl, d, o, x, y, rfl, ko, .inl hd, hx, hy, _, rfl, ?_⟩
        cases c2 : Or01.below o x y with
        | true =>
          rw [c2, if_pos rfl] at k
          refine iteTo rfl ?_
          refine ⟨_, rfl, (by show 1 ≤ sizeLine; decide), fun q hq => ?_⟩
          exact fin1 A0 k (Same.refl H) hq
        | false =>
          rw [c2, if_neg Bool.false_ne_true] at k
          refine iteFo rfl ?_
          refine ⟨_, rfl, a, C, dx, _, _, rfl, h1, T.cl, T.nH, oF_at h, .inl ⟨rfl, _, SqL.of h2⟩, _, rfl, _, rfl, _, rfl, d, o, x, y, rfl, ko, hd, hx, hy, ne, c1, fun H1 d' s1 hd' e1 => ?_⟩
          have hh1 : H1 h = some (.lst (ds.map V.ref)) := s1 _ _ h2
          refine ⟨h, _, _, rfl, rfl, hh1, ?_, ?_⟩
          · rw [List.length_map, h3]
            exact Nat.lt_of_le_of_lt (show o.told.length + 1 ≤ 2001 by omega) (by decide)
          have nah : a ≠ h := ne_of h1 h2 (by intro z; cases z)
          have h1' : (upd H1 h (.lst (ds.map V.ref ++ [V.ref d']))) a = some (.ins C dx (oF h)) := by rw [upd_ne nah]; exact s1 _ _ h1
          have fr : ∀ q, (upd H1 h (.lst (ds.map V.ref ++ [V.ref d']))) q = none → H q = none := fun q hq => by
            have qh : q ≠ h := fun e => by subst e; rw [upd_same] at hq; cases hq
            rw [upd_ne qh] at hq
            exact s1.free hq
          refine ⟨_, rfl, a, dx, _, rfl, h1', oF_no (by decide +kernel), a, h, Or01.with_ o x y, .many, [], rfl, ⟨rfl, rfl⟩, Om.ok_with ko hx hy ne c1, ⟨⟨dx, h1'⟩, ds ++ [d'], ?_, ?_, fun i z hz => ?_⟩, fun H3 h'' q O3 K3 hh hq e3 => ?_⟩
          · rw [upd_same, List.map_append]
            rfl
          · show (ds ++ [d']).length = (o.told ++ [(x, y)]).length + 1
            rw [List.length_append, List.length_append, h3]
            rfl
          · by_cases hi : i < ds.length
            · rw [List.getElem?_append_left hi] at hz
              have hd2 := h4 i z hz
              have nd : z ≠ h := ne_of hd2 h2 (by intro z; cases z)
              rw [upd_ne nd, s1 _ _ hd2]
              have : pre (Or01.with_ o x y) i = pre o i := by
                show (⟨o.many, (o.told ++ [(x, y)]).take i⟩ : Or01.Order) = ⟨o.many, o.told.take i⟩
                rw [List.take_append_of_le_length (by omega)]
              rw [this]
            · have hi2 : i < (ds ++ [d']).length := (List.getElem?_eq_some_iff.mp hz).1
              rw [List.length_append] at hi2
              have hi3 : i = ds.length := by
                have : ([d'] : List Addr).length = 1 := rfl
                omega
              subst hi3
              rw [List.getElem?_append_right (Nat.le_refl _), Nat.sub_self] at hz
              cases hz
              have nd : d' ≠ h := ne_of e1 hh1 (by intro z; cases z)
              rw [upd_ne nd, e1, h3]
              have : pre (Or01.with_ o x y) (o.told.length + 1) = Or01.with_ o x y := by
                have := pre_all (Or01.with_ o x y)
                have e : (Or01.with_ o x y).told.length = o.told.length + 1 := by
                  show (o.told ++ [(x, y)]).length = _
                  rw [List.length_append]; rfl
                rw [e] at this
                exact this
              rw [this]
          · refine k H3 h'' q O3 (fun b z e nb nh => K3 b z (by rw [upd_ne nh]; exact s1 _ _ e) nb nh) ?_ (fr q hq) e3
            rcases hh with hh | hh
            · exact .inl hh
            · exact .inr (fr _ hh)
end
end Ob
end

section
set_option Elab.async false
set_option maxRecDepth 100000
set_option maxHeartbeats 4000000
namespace Ob
open PySem PySem.Spec PyProof.Rows L2
open Om (mask bit every follow W Ok left idx enc)
abbrev sAnswers : Stmt := topS 49
theorem vz_up (l : List Nat) : vz (Om.up32 l) = vInts l := by
  unfold vz Om.up32 vInts
  rw [List.map_map]
  rfl
theorem cut_vInts {L : List Nat} {a b : Nat} (hb : b ≤ L.length) (hab : a ≤ b) : cutV (vInts L) (some (a : Int)) (some (b : Int)) = vInts ((L.drop a).take (b - a)) := by
  unfold cutV
  rw [HT.sIx_nat, HT.sIx_nat, vInts_length, Nat.min_eq_left hb, Nat.min_eq_left (by omega)]
  unfold vInts
  rw [List.map_take, List.map_drop]
theorem cut_mid (A B l : List Nat) (p : Nat) : ((A ++ ((p :: l) ++ B)).drop (A.length + 1)).take l.length = l := by
  rw [List.drop_append, List.drop_eq_nil_of_le (by omega), List.nil_append, show A.length + 1 - A.length = 1 by omega]
  show (l ++ B).take l.length = l
  rw [List.take_append_of_le_length (Nat.le_refl _), List.take_length]
theorem vz_append (l l' : List Int) : vz (l ++ l') = vz l ++ vz l' := List.map_append
theorem vz_length (l : List Int) : (vz l).length = l.length := List.length_map ..
theorem OrdAt.lst {C : Addr} {H : Hp} {a h g : Addr} {o : Or01.Order} {l l' : List V} (A : OrdAt C H a h o) (hg : H g = some (.lst l)) (na : g ≠ a) (nh : g ≠ h) : OrdAt C (upd H g (.lst l')) a h o := by
  obtain ⟨⟨dx, h1⟩, ds, h2, h3, h4⟩ := A
  refine ⟨⟨dx, by rw [upd_ne na.symm]; exact h1⟩, ds, by rw [upd_ne nh.symm]; exact h2, h3, fun i d e => ?_⟩
  have hd := h4 i d e
  rw [upd_ne (ne_of hd hg (by intro z; cases z))]
  exact hd
/-- where a call's numbers end -/
def spEnd (K : PySem.W.Frag) : Sp := fun vs H Q _ => ∃ (ca : Addr) (l1 l2 : List Nat) (c : Or01.Call), vs = [.ref ca, .int ((l1.length : Nat) : Int)] ∧ SqL K H ca (vInts (l1 ++ (enc c ++ l2))) ∧ Q (.int ((l1.length + (enc c).length : Nat) : Int)) H
/-- a call by its number and the numbers behind it -/
def arAll (K : PySem.W.Frag) : Or01.Call → List V → Hp → Prop := fun c args H => ∃ (p : Nat) (l : List Nat) (la : Addr), enc c = p :: l ∧ args = [.int (p : Int), .ref la] ∧ SqL K H la (vInts l)
def spAnswers (K : PySem.W.Frag) : Sp := fun vs H Q _ => ∃ (ca : Addr) (cs : List Or01.Call), vs = [.ref ca] ∧ SqL K H ca (vInts (cs.flatMap enc)) ∧ (cs.flatMap enc).length ≤ 2000 ∧ (Om.run Or01.init cs).length ≤ 10000000 ∧
  ∀ H' q, H' q = some (.lst (vz (Om.run Or01.init cs))) → Q (.ref q) H'
theorem run_take (cs : List Or01.Call) (i : Nat) (c : Or01.Call) (h : cs[i]? = some c) : cs.drop i = c :: cs.drop (i + 1) := by
  obtain ⟨h1, h2⟩ := List.getElem?_eq_some_iff.mp h
  rw [List.drop_eq_getElem_cons h1, h2]
/-- how far the loop is -/
structure Far (C : Addr) (K : PySem.W.Frag) (cs : List Or01.Call) (H0 H : Hp) (a gv : Addr) (i : Nat) (h : Addr) (o : Or01.Order) (gl : List Int) : Prop where
  le : i ≤ cs.length
  ok : Ok o
  few : o.told.length ≤ ((cs.take i).flatMap enc).length
  at_ : OrdAt C H a h o
  na : gv ≠ a
  nh : gv ≠ h
  gv_ : H gv = some (.lst (vz gl))
  eq : gl ++ Om.run o (cs.drop i) = Om.run Or01.init cs
  same : Same H0 H
  fa : H0 a = none
  fh : H0 h = none
  fg : H0 gv = none
section
variable {P : Program} {w : World} {K : PySem.W.Frag} {mg : Str → Option Value} {base : Heap} {C : Addr}
theorem scAnswers : FnScope ["calls", "order", "given", "start", "end", "found"] ["calls"] (defScope sAnswers) := ⟨rfl, rfl, rfl, by decide +kernel, rfl, by decide +kernel, by decide +kernel⟩
theorem ok_answers {f fI : Addr} {fd fdI : FuncData} {kA kE : Nat} (F : Fun K "answers" "answers" sAnswers f fd) (gO : mg "Order" = some (.ref C)) (B : Bi mg) (M : Mk K C fI) (GI : FnOk P w K mg base CX0 2 fI fdI ["self"] (spInit C)) (bI : Binds K fdI ["self"] [])
    (En : Df P w K mg base kE "end_of_call" ["calls", "start"] (spEnd K)) (An : Df P w K mg base kA "answer" ["order", "number", "numbers"] (spStepB C (arAll K))) (hE : kE ≤ 20) (hA : kA ≤ 20) :
    FnOk P w K mg base CX0 21 f fd ["calls"] (spAnswers K) := by
  obtain ⟨fE, fdE, gE, kpE, bE, GE⟩ := En.ex
  obtain ⟨fA, fdA, gA, kpA, bA, GA⟩ := An.ex
  refine F.ok scAnswers (fun vs H Q E h => ?_) (fun cdv A outer s H vs Q E hr h => ?_)
  · obtain ⟨ca, cs, rfl, _⟩ := h
    rfl
  · obtain ⟨ca, cs, rfl, hca, hlen, hrun, k⟩ := h
    have hr3 : Room 3 _ := hr.mono (by decide)
    have hrE : Room kE _ := hr.mono hE
    have hrA : Room kA _ := hr.mono hA
    refine ⟨_, pss_cons (ps_set (i := 1) scAnswers.nd rfl (Or.inl rfl) (pe_make0 M GI hr3 rfl gO bI .nil pass0))
      (pss_cons (ps_set (i := 2) scAnswers.nd rfl (Or.inl rfl) (pe_lst pa_nil))
      (pss_cons (ps_set (i := 3) scAnswers.nd rfl (Or.inl rfl) pe_int)
      (pss_cons (ps_while PassesOwn.never (pt_cmp (pc_lt (pv 3) (pe_callB call_len_seq (by rfl) B.len PySem.boot_len (pa_cons (pv 0) pa_nil))))
        (pss_cons (ps_set (i := 4) scAnswers.nd rfl (Or.inl rfl) (pe_call GE hrE (by rfl) gE kpE bE .nil pass0 (pa_cons (pv 0) (pa_cons (pv 3) pa_nil))))
        (pss_cons (ps_set (i := 5) scAnswers.nd rfl (Or.inl rfl) (pe_call GA hrA (by rfl) gA kpA bA .nil pass0 (pa_cons (pv 1) (pa_cons (pe_ix ix_list (pv 0) (pv 3) (fun _ _ => rfl)) (pa_cons (pe_slice sl_list (pv 0) (po_some (pe_op op_addN (pv 3) pe_int)) (po_some (pv 4))) pa_nil)))))
        (pss_cons (ps_expr (pe_bm PySem.F.plainAttrs_list PySem.F.slot_list_append PySem.F.type_list_append mt_append (pv 2) (pa_cons (pe_callB call_len_seq (by rfl) B.len PySem.boot_len (pa_cons (pv 5) pa_nil)) pa_nil)))
        (pss_cons (ps_expr (pe_bm PySem.F.plainAttrs_list PySem.F.slot_list_extend PySem.F.type_list_extend mt_extend (pv 2) (pa_cons (pv 5) pa_nil)))
        (pss_one (ps_set (i := 3) scAnswers.nd rfl (Or.inl rfl) (pv 4))))))))
      (pss_one (ps_ret (pv 2)))))), ?_⟩
    intro x dx nx ndx nex
    refine ⟨x, dx, rfl, upd_same, fun H1 h O1 kp hh => ⟨rfl, ?_⟩⟩
    have s0 : Same H (upd (upd H dx (.own x)) x (.ins C dx [])) := fun b z e => by
      rw [upd_ne (ne_of_none e nx), upd_ne (ne_of_none e ndx)]
      exact e
    have s1 : Same H H1 := Same.made nx ndx kp
    have fh : H h = none := s0.free hh
    refine ⟨(by show 0 ≤ sizeLine; decide), fun gv hgv => ?_⟩
    obtain ⟨⟨dy, hx1⟩, ds, hh1, _, _⟩ := id O1
    have g1 : gv ≠ x := (ne_of_none hx1 hgv).symm
    have g2 : gv ≠ h := (ne_of_none hh1 hgv).symm
    have fg : H gv = none := s1.free hgv
    have s2 : Same H1 (upd H1 gv (.lst [])) := same_upd (Same.refl _) hgv
    refine while_by (fun σ H' => ∃ (i : Nat) (h : Addr) (o : Or01.Order) (gl : List Int) (v4 v5 : Option V), σ = [some (.ref ca), some (.ref x), some (.ref gv), some (.int ((((cs.take i).flatMap enc).length : Nat) : Int)), v4, v5] ∧ Far C K cs H H' x gv i h o gl)
      (fun σ _ => (cs.flatMap enc).length - slotN 3 σ) ⟨0, h, Or01.init, [], none, none, rfl, ⟨Nat.zero_le _, Om.ok_init, Nat.le_refl _, O1.same s2, g1, g2, upd_same, rfl, s1.trans s2, nx, fh, fg⟩⟩ ?_ ?_
    · rintro σ H' ⟨i, h, o, gl, v4, v5, rfl, R⟩
      have hca' : SqL K H' ca (vInts (cs.flatMap enc)) := R.same.seq hca
      refine ⟨_, rfl, _, rfl, ca, _, rfl, .inl hca', _, _, rfl, rfl, _, rfl, ?_⟩
      rw [vInts_length]
      by_cases hi : i < cs.length
      rotate_left
      · have hi' : i = cs.length := by have := R.le; omega
        refine iteFo (decide_eq_false (by rw [hi', List.take_length]; omega)) ?_
        have e := R.eq
        rw [hi', List.drop_length] at e
        have e' : gl = Om.run Or01.init cs := by
          rw [← e]
          show gl = gl ++ []
          rw [List.append_nil]
        refine ⟨_, rfl, k _ gv ?_⟩
        rw [← e']
        exact R.gv_
      obtain ⟨c, hc⟩ : ∃ c, cs[i]? = some c := ⟨_, List.getElem?_eq_getElem hi⟩
      have hsplit : cs.flatMap enc = (cs.take i).flatMap enc ++ (enc c ++ (cs.drop (i + 1)).flatMap enc) := by
        have := congrArg (fun l => l.flatMap enc) (List.take_append_drop i cs)
        simp only [List.flatMap_append] at this
        rw [← this, run_take cs i c hc, List.flatMap_cons]
      obtain ⟨p, l, hpl⟩ := Om.enc_cons c
      have hel : (enc c).length = l.length + 1 := by rw [hpl, List.length_cons]
      have htot : (cs.flatMap enc).length = ((cs.take i).flatMap enc).length + ((enc c).length + ((cs.drop (i + 1)).flatMap enc).length) := by
        rw [hsplit, List.length_append, List.length_append]
      have htk : ((cs.take (i + 1)).flatMap enc).length = ((cs.take i).flatMap enc).length + (enc c).length := by
        rw [take_more hc, List.flatMap_append, List.length_append]
        simp
      refine iteTo (decide_eq_true (by omega)) ?_
      have hca2 : SqL K H' ca (vInts ((cs.take i).flatMap enc ++ (enc c ++ (cs.drop (i + 1)).flatMap enc))) := by rw [← hsplit]; exact hca'
      refine ⟨_, rfl, _, rfl, ca, _, _, c, rfl, hca2, ?_⟩
      refine ⟨_, rfl, _, rfl, _, rfl, ca, _, _, _, rfl, rfl, hca2, atI_nat (v := V.int (p : Int)) ?_, ?_⟩
      · unfold vInts
        rw [List.getElem?_map, List.getElem?_append_right (Nat.le_refl _), Nat.sub_self, hpl]
        rfl
      refine ⟨_, rfl, _, rfl, ((cs.take i).flatMap enc).length, 1, rfl, rfl, _, rfl, _, rfl, _, rfl, ca, _, rfl, hca2, fun la hla => ?_⟩
      have ecut : cutV (vInts ((cs.take i).flatMap enc ++ (enc c ++ (cs.drop (i + 1)).flatMap enc))) (some (((((cs.take i).flatMap enc).length + 1 : Nat)) : Int)) (some ((((cs.take i).flatMap enc).length + (enc c).length : Nat) : Int)) = vInts l := by
        rw [cut_vInts (by rw [List.length_append, List.length_append]; omega) (by omega), show ((cs.take i).flatMap enc).length + (enc c).length - (((cs.take i).flatMap enc).length + 1) = l.length by omega, hpl, cut_mid]
      rw [ecut]
      have sl : Same H' (upd H' la (.lst (vInts l))) := same_upd (Same.refl _) hla
      refine ⟨x, h, o, c, _, rfl, ⟨p, l, la, hpl, rfl, SqL.of upd_same⟩, R.ok, ?_, R.at_.same sl, fun H2 h2 q O2 K2 hh2 hq e2 => ?_⟩
      · have := R.few
        omega
      have gl2 : H2 gv = some (.lst (vz gl)) := K2 gv _ (sl _ _ R.gv_) R.na R.nh
      have qg : gv ≠ q := ne_of_none (sl _ _ R.gv_) hq
      have erun : Om.run o (cs.drop i) = (((Or01.step o c).2.length : Nat) : Int) :: (Or01.step o c).2 ++ Om.run (Or01.step o c).1 (cs.drop (i + 1)) := by
        rw [run_take cs i c hc]
        rfl
      have eq2 := R.eq
      rw [erun] at eq2
      have hsz : gl.length + (1 + (Or01.step o c).2.length) ≤ 10000000 := by
        have := congrArg List.length eq2
        simp only [List.length_append, List.length_cons] at this
        omega
      have h2n : gv ≠ h2 := by
        rcases hh2 with e | e
        · rw [e]; exact R.nh
        · exact ne_of_none (sl _ _ R.gv_) e
      have h2f : H h2 = none := by
        rcases hh2 with e | e
        · rw [e]; exact R.fh
        · exact (R.same.trans sl).free e
      refine ⟨_, rfl, .inl ⟨rfl, _, SqL.of gl2⟩, _, rfl, q, _, rfl, .inl (SqL.of e2), gv, _, _, rfl, rfl, gl2, ?_, ?_⟩
      · rw [vz_length]
        exact Nat.lt_of_le_of_lt (show gl.length ≤ 10000000 by omega) (by decide)
      refine ⟨_, rfl, .inl ⟨rfl, _, SqL.of upd_same⟩, _, rfl, gv, q, _, _, rfl, rfl, upd_same, (by rw [upd_ne qg.symm]; exact e2), ?_, ?_⟩
      · rw [List.length_append, vz_length, vz_length]
        exact Nat.le_trans (show gl.length + 1 + (Or01.step o c).2.length ≤ 10000000 by omega) (by decide)
      have egl : vz gl ++ [V.int (((vz (Or01.step o c).2).length : Nat) : Int)] ++ vz (Or01.step o c).2 = vz (gl ++ (((Or01.step o c).2.length : Nat) : Int) :: (Or01.step o c).2) := by
        rw [vz_append, vz_length, List.append_assoc]
        rfl
      obtain ⟨ok2, few2⟩ := Om.ok_step R.ok c
      refine ⟨_, rfl, ⟨i + 1, h2, (Or01.step o c).1, gl ++ (((Or01.step o c).2.length : Nat) : Int) :: (Or01.step o c).2, some (.int ((((cs.take i).flatMap enc).length + (enc c).length : Nat) : Int)), some (.ref q), ?_, ⟨hi, ok2, ?_, ?_, R.na, h2n, ?_, ?_, ?_, R.fa, h2f, R.fg⟩⟩, ?_⟩
      · rw [htk]
        rfl
      · have := R.few
        have := Om.enc_pos c
        omega
      · exact (O2.lst gl2 R.na h2n).lst upd_same R.na h2n
      · rw [upd_same, egl]
      · rw [List.append_assoc]
        exact eq2
      · intro b z e
        have nb : b ≠ gv := ne_of_none e R.fg
        rw [upd_ne nb, upd_ne nb]
        exact K2 b z (sl _ _ (R.same _ _ e)) (ne_of_none e R.fa) (ne_of_none e R.fh)
      · show (cs.flatMap enc).length - ((((cs.take i).flatMap enc).length + (enc c).length : Nat) : Int).toNat < (cs.flatMap enc).length - ((((cs.take i).flatMap enc).length : Nat) : Int).toNat
        rw [Int.toNat_natCast, Int.toNat_natCast]
        have := Om.enc_pos c
        omega
    · rintro σ H' Q1 Q2 hq ⟨x1, h1, x2, h2, p, ys, h3, h4, i, j, h5, h6, c, h7, h8⟩
      exact ⟨x1, h1, x2, h2, p, ys, h3, h4, i, j, h5, h6, c, h7, hq _ _ h8⟩
end
end Ob
end

section
set_option Elab.async false
set_option maxRecDepth 100000
set_option maxHeartbeats 4100000
/-! A lambda that stands in the heap is called; min over a list, by a key or without one, with a default. -/
namespace Ob
open PySem PySem.Spec PyProof.Rows L2 LamX NdefX
/-- a lambda's words -/
abbrev lamF (qn : Str) (ar : Arguments) (sc : Scope) (cl : List (Str × Addr)) (co : Addr) : NF := { name := "<lambda>", qual := qn, params := ar, body := [], scope := sc, cl := cl, c := co }
abbrev lamObj (F : NF) (bd : Expr) (pm ct : Value) : Obj := PySem.W.kla_obj F.name F.qual F.params bd F.scope F.cl pm F.c ct
/-- the lambda at g, called with us -/
theorem lam_call {CX : CXT} {P : Program} {w : World} {K : PySem.W.Frag} {mg : Str → Option Value} {base : Heap} {N ps fr : List Str} {F : NF} {bd : Expr} {g : Addr} {k : Nat} {pm ct : Value} {A : Around} {out : List Env} {s : Shared} {H : Hp} {us : List Value}
    {xs : List V} {ws : List (Option V)} {Q : VK} {E : XK} {t : TE} (S : NScope N ps fr F.scope) (bi : bindArgs (PySem.W.kla_fn F.name F.qual F.params bd F.scope F.cl pm (.ref F.c) ct) ⟨us, []⟩ = pure (ps.zip us))
    (room : Room (k + 1) A) (env : Env0 P w K mg base A out s H) (at_ : s.heap.get? g = some (lamObj F bd pm ct)) (co : H F.c = some (CodeO F.c F.qual)) (cells : CellsAt F.cl fr ws s.heap H) (rel : Vals xs us) (len : xs.length = ps.length)
    (body : Room k (A.deeper (envF F g s.heap.objs.size)) → PE (ncx CX P w K mg base N F g A out s H E) bd t) (due : t (startF N xs ws) H Q) :
    codeAny (model P w) A (.call (.ref g) ⟨us, []⟩) (CR CX out P w H s Q E) s := by
  refine PySem.W.kla_callFunE room.depth at_ rfl S.co S.gen rfl (codeO_at env.hok co) (bi ▸ wpAny_pure (wpAny_newFunctionEnv S.nocell (fun ⟨_, _⟩ my => S.par _ (List.of_mem_zip my).1) (fun h2 ns sb => ?_) S.kind))
  have up : ∀ b o, s.heap.get? b = some o → h2.get? b = some o := fun b o hb => sb.extBut b o (Nat.ne_of_lt (Heap.lt_size hb)) (Heap.get?_push_of_some _ hb)
  refine ⟨(env.mod.nolimit.keeps fun b o hb => (env.bs b o hb).1).fresh _ sb, PySem.W.kla_codeExpr (wpAny_mono ((body (room.deeper _)).run [] _ _ H Q (inv_startN S room.hd env len rel cells ns up) due) ?_ fun _ _ z => z)⟩
  rintro v s2 ⟨y, H2, J, ry, q⟩
  exact ⟨y, H2, J.os, J.bare, J.base, J.hok, ry, q⟩
/-! ### pins -/
section
variable {X : Cx} {pl : List (Addr × Obj)} {σ : L2.St} {H : Hp} {s : Shared} {b : Addr} {o : Obj}
theorem pin_off (J : Inv X ((b, o) :: pl) σ H s) : Inv X pl σ H s := J.pins_of fun p m => J.pin p (List.mem_append_right _ (List.mem_cons_of_mem _ m))
theorem pin_on (J : Inv X pl σ H s) (f : FpOk X pl H b) (at_ : s.heap.get? b = some o) (nc : ∀ v, o.data ≠ .cell v) : Inv X ((b, o) :: pl) σ H s :=
  J.pins_of fun p m => (List.mem_cons.mp m).elim (fun e => e ▸ ⟨at_, f.1, f.2.1, f.2.2.1, nc⟩) fun m => J.pin p (List.mem_append_right _ m)
/-- the pinned record becomes another -/
theorem pin_new {o2 : Obj} {h2 : Heap} {tk : Nat} (J : Inv X ((b, o) :: pl) σ H s) (f : FpOk X pl H b) (up : ∀ c u, c ≠ b → s.heap.get? c = some u → h2.get? c = some u) (at_ : h2.get? b = some o2) (nc : ∀ v, o2.data ≠ .cell v) :
    Inv X ((b, o2) :: pl) σ H { s with heap := h2, toks := tk } := pin_on ((pin_off J).turned up f.1 f.2.1 f.2.2.2.1 f.2.2.2.2.1 f.2.2.2.2.2) f at_ nc
theorem fp_with {H2 : Hp} {c : Addr} {u : Obj} (f : FpOk X pl H b) (n : H2 b = none) (ne : c ≠ b) : FpOk X ((c, u) :: pl) H2 b :=
  ⟨n, f.2.1, f.2.2.1, f.2.2.2.1, f.2.2.2.2.1, fun p m => (List.mem_append.mp m).elim (fun m => f.2.2.2.2.2 p (List.mem_append_left _ m)) fun m => (List.mem_cons.mp m).elim (fun e => e ▸ ne) fun m => f.2.2.2.2.2 p (List.mem_append_right _ m)⟩
theorem pin_swap {c : Addr} {u : Obj} (J : Inv X ((b, o) :: (c, u) :: pl) σ H s) : Inv X ((c, u) :: (b, o) :: pl) σ H s := J.pins_of fun p m => J.pin p (List.mem_append_right _ (by
  simp only [List.mem_cons] at m ⊢
  rcases m with m | m | m
  · exact .inr (.inl m)
  · exact .inl m
  · exact .inr (.inr m)))
end
/-! ### the least of a list -/
/-- how a key is found: none, then the items are the numbers; or by a call -/
def KeyBy (X : Cx) (pins : List (Addr × Obj)) (σ : L2.St) (G : Hp → Prop) (xs : List V) (kf : Nat → Int) (key : Value) : Prop :=
  (key = .none ∧ ∀ (i : Nat) (x : V), xs[i]? = some x → x = .int (kf i)) ∨
  ∃ g, key = .ref g ∧ ∀ (i : Nat) (x : V), xs[i]? = some x → ∀ (pl : List (Addr × Obj)) (s : Shared) (H : Hp) (u : Value), Inv X (pl ++ pins) σ H s → G H → RelV x u →
    wpAny (model X.prog X.w) X.A.in1 (call (.ref g) [u]) (EP X (pl ++ pins) σ fun v H2 => v = .int (kf i) ∧ G H2) (fun _ _ => False) s
/-- what is best of the first j -/
def Best (kf : Nat → Int) (i j : Nat) : Prop := ∀ m, m < j → kf i ≤ kf m ∧ (m < i → kf i < kf m)
theorem Best.more {kf : Nat → Int} {i j : Nat} (b : Best kf i j) (n : ¬ kf j < kf i) (lt : i < j) : Best kf i (j + 1) := fun m hm => by
  by_cases e : m = j
  · subst e; exact ⟨by omega, fun z => by omega⟩
  · exact b m (by omega)
theorem Best.new {kf : Nat → Int} {i j : Nat} (b : Best kf i j) (n : kf j < kf i) : Best kf j (j + 1) := fun m hm => by
  by_cases e : m = j
  · subst e; exact ⟨Int.le_refl _, fun _ => by omega⟩
  · have q := (b m (by omega)).1
    exact ⟨by omega, fun z => by omega⟩
/-- what the record of the best holds behind j items -/
def Held (xs : List V) (kf : Nat → Int) (j : Nat) (old : Array Value) : Prop :=
  (j = 0 ∧ old = #[]) ∨ ∃ (i : Nat) (x : V) (u : Value) (t : Tok), i < j ∧ old = #[u, .int (kf i) t] ∧ xs[i]? = some x ∧ RelV x u ∧ Best kf i j
section
variable {X : Cx} {pins : List (Addr × Obj)} {σ : L2.St} {l I S : Addr} {xs : List V} {kf : Nat → Int} {G : Hp → Prop} {key dv : Value} {R : Result → Shared → Prop} {H0 : Hp}
theorem least_loop (hh : X.A.handled = none) (hl : ∀ H, G H → SqL X.K H l xs) (nl : l ≠ I) (nS : S ≠ I) (fS : FpOk X pins H0 S) (fI : FpOk X pins H0 I) (kb : KeyBy X pins σ G xs kf key)
    (e0 : xs = [] → ∀ s H, Inv X pins σ H s → G H → R (.ok (.ret dv)) s) (e1 : ∀ i x u s H, xs[i]? = some x → RelV x u → Best kf i xs.length → Inv X pins σ H s → G H → R (.ok (.ret u)) s) :
    ∀ (r j : Nat) (s : Shared) (H : Hp) (old : Array Value) (c : Nat) (oI : Obj), j + r = xs.length → Inv X ((S, seqObj "list" old c) :: (I, oI) :: pins) σ H s → G H → s.heap.IsListIter I l j → Held xs kf j old →
      codeAny (model X.prog X.w) X.A (.builtin "min.loop" ⟨[.ref I, key, .ref S], [(Str.ofString "default", dv)]⟩) R s := by
  have nm : s!"{"min"}.loop" = "min.loop" := by decide
  intro r
  induction r with
  | zero =>
    intro j s H old c oI hj J g it held
    obtain ⟨pS, zS, _⟩ := J.pin (S, seqObj "list" old c) (List.mem_append_right _ (.head _))
    have zI := (J.pin (I, oI) (List.mem_append_right _ (.tail _ (.head _)))).2.1
    obtain ⟨its, rv, pl, _⟩ := J.list (hl H g)
    have sz : its.toArray.size = j := by rw [List.size_toArray, ← rv.length]; omega
    refine codeAny_builtin PySem.F.entry_min_loop (Around.under_plainId PySem.F.plain_min_loop _ ▸ ?_)
    refine wpAny_bind (wpAny_seqItems pS rfl (wpAny_bind (wpAny_tryCatch ((Walks.list (A := X.A.in1) hh I l nl its.toArray).done _ _ _ ⟨sz ▸ it, pl.isList⟩ fun h2 tk up => ?_))))
    have JJ : Inv X ((S, seqObj "list" old c) :: pins) σ H { s with heap := h2, toks := tk } := by
      have f := fp_with (u := seqObj "list" old c) fI zI nS
      exact (pin_off (pin_swap J)).turned (fun b o nb eb => up b o (fun z => nb (List.mem_singleton.mp z)) eb) f.1 f.2.1 f.2.2.2.1 f.2.2.2.2.1 f.2.2.2.2.2
    rcases held with ⟨z, rfl⟩ | ⟨i, x, u, t, lt, rfl, hx, rx, best⟩
    · exact wpAny_bind (wpAny_rule (wpAny_pure (e0 (List.length_eq_zero_iff.mp (by omega)) _ H (pin_off JJ) g)))
    · have sb := Heap.SameBut.update h2 S (Obj.mapSeq fun _ => #[])
      refine wpAny_bind (wpAny_updateSeq (JJ.pin _ (List.mem_append_right _ (.head _))).1 rfl (wpAny_bind (wpAny_letGo (wpAny_pure (e1 i x u _ H hx rx (by rw [← hj]; exact best) ?_ g)))))
      exact (pin_off JJ).turned (t' := tk) (fun b o nb eb => (sb.2 b nb).trans eb) zS fS.2.1 fS.2.2.2.1 fS.2.2.2.2.1 fS.2.2.2.2.2
  | succ r ih =>
    intro j s H old c oI hj J g it held
    obtain ⟨pS, zS, _⟩ := J.pin (S, seqObj "list" old c) (List.mem_append_right _ (.head _))
    have zI := (J.pin (I, oI) (List.mem_append_right _ (.tail _ (.head _)))).2.1
    obtain ⟨its, rv, pl, _⟩ := J.list (hl H g)
    have jl : j < xs.length := by omega
    have hx : xs[j]? = some xs[j] := List.getElem?_eq_getElem jl
    obtain ⟨u, hu, rx⟩ := rv.get hx
    refine codeAny_builtin PySem.F.entry_min_loop (Around.under_plainId PySem.F.plain_min_loop _ ▸ ?_)
    refine wpAny_bind (wpAny_seqItems pS rfl (wpAny_bind (wpAny_tryCatch ((Walks.list (A := X.A.in1) hh I l nl its.toArray).item j _ _ _ (by rw [List.size_toArray, ← rv.length]; exact jl) ⟨it, pl.isList⟩ fun v h2 tk hv st up => ?_))))
    obtain rfl : v = u := by
      have q : its[j]? = some v := by simpa using hv
      exact Option.some.inj (q.symm.trans hu)
    obtain ⟨oI2, at2, cl2, da2⟩ := st.1
    have J2 : Inv X ((S, seqObj "list" old c) :: (I, oI2) :: pins) σ H { s with heap := h2, toks := tk } :=
      pin_swap (pin_new (pin_swap J) (fp_with fI zI nS) (fun b o nb eb => up b o (fun z => nb (List.mem_singleton.mp z)) eb) at2 fun y z => by rw [da2] at z; cases z)
    rcases kb with ⟨rfl, isI⟩ | ⟨q, rfl, turn⟩
    all_goals refine wpAny_bind (wpAny_mono (Q := fun (y : Value) s3 => ∃ H3 tb, y = Value.int (kf j) tb ∧ Inv X ((S, seqObj "list" old c) :: (I, oI2) :: pins) σ H3 s3 ∧ G H3) (E := fun _ _ => False) ?_ ?_ fun _ _ z => z.elim)
    · obtain ⟨tb, rfl⟩ : ∃ tb, v = Value.int (kf j) tb := by rw [isI j _ hx] at rx; exact rx
      exact wpAny_pure ⟨H, tb, rfl, J2, g⟩
    rotate_left
    · refine wpAny_tryCatch (wpAny_holding (wpAny_mono (turn j _ hx [(S, seqObj "list" old c), (I, oI2)] _ H v J2 g rx) ?_ fun _ _ z => z.elim))
      rintro y s3 ⟨w3, H3, J3, ry, rfl, g3⟩
      obtain ⟨tb, rfl⟩ := ry
      exact ⟨H3, tb, rfl, J3, g3⟩
    all_goals
      rintro y s3 ⟨H3, tb, rfl, J3, g3⟩
      obtain ⟨pS3, zS3, _⟩ := J3.pin (S, seqObj "list" old c) (List.mem_append_right _ (.head _))
      have pI3 := (J3.pin (I, oI2) (List.mem_append_right _ (.tail _ (.head _)))).1
      -- this item is the best so far
      have store : Best kf j (j + 1) → codeAny (model X.prog X.w) X.A (.builtin "min.loop" ⟨[.ref I, _, .ref S], [(Str.ofString "default", dv)]⟩) R { s3 with heap := s3.heap.update S (Obj.mapSeq fun _ => #[v, .int (kf j) tb]) } := fun best => by
        have sb := Heap.SameBut.update s3.heap S (Obj.mapSeq fun _ => #[v, .int (kf j) tb])
        have at3 := get?_update_seq pS3 fun _ => #[v, .int (kf j) tb]
        exact ih (j + 1) _ H3 _ _ oI2 (by omega) (pin_new (tk := s3.toks) J3 (fp_with fS zS3 nS.symm) (fun b o nb eb => (sb.2 b nb).trans eb) at3 fun y z => by cases z) g3 ⟨oI2, (sb.2 I nS.symm).trans pI3, cl2, da2⟩
          (.inr ⟨j, _, v, tb, Nat.lt_succ_self _, rfl, hx, rx, best⟩)
      rcases held with ⟨rfl, rfl⟩ | ⟨i, x, u, t, lt, rfl, hxi, rxi, best⟩
      · refine wpAny_bind (wpAny_updateSeq pS3 rfl (nm ▸ wpAny_pure ⟨plainId_quiet PySem.F.plain_min_loop _, store fun m hm => ?_⟩))
        obtain rfl : m = 0 := by omega
        exact ⟨Int.le_refl _, fun z => absurd z (Nat.lt_irrefl _)⟩
      · refine wpAny_bind (wpAny_tryCatch (wpAny_holding (wpAny_bind (CmpOf.ints_lt (P := fun i v => ∃ t, v = .int (kf i) t) kf (fun _ _ z => z) j i _ _ _ _ _ ⟨tb, rfl⟩ ⟨t, rfl⟩ (wpAny_bind (wpAny_holding (wpAny_truthy_bool (wpAny_bind (wpAny_letGo (wpAny_pure ?_))))))))))
        by_cases less : kf j < kf i
        · simp only [less, decide_true, if_true]
          exact wpAny_bind (wpAny_updateSeq pS3 rfl (wpAny_bind (wpAny_letGo (nm ▸ wpAny_pure ⟨plainId_quiet PySem.F.plain_min_loop _, store (best.new less)⟩))))
        · simp only [less, decide_false, Bool.false_eq_true, if_false]
          exact wpAny_bind (wpAny_letGo (nm ▸ wpAny_pure ⟨plainId_quiet PySem.F.plain_min_loop _, ih (j + 1) s3 H3 _ c oI2 (by omega) J3 g3 ⟨oI2, pI3, cl2, da2⟩ (.inr ⟨i, x, u, t, by omega, rfl, hxi, rxi, best.more less lt⟩)⟩))
end
end Ob
end

section
set_option Elab.async false
set_option maxRecDepth 100000
set_option maxHeartbeats 4100000
/-! min(xs, default=d), min(xs, key=a lambda, default=d). -/
namespace Ob
open PySem PySem.Spec PyProof.Rows L2 LamX NdefX
/-- the keywords of such a call -/
inductive MinKw (dv : Value) : Value → List (Str × Value) → Prop
  | plain : MinKw dv .none [(Str.ofString "default", dv)]
  | by_ (g : Addr) : MinKw dv (.ref g) [(Str.ofString "key", .ref g), (Str.ofString "default", dv)]
theorem MinKw.args {dv key : Value} {kw : List (Str × Value)} (m : MinKw dv key kw) (a : Value) : argsOk "min" ⟨[a], kw⟩ := by
  cases m <;> (unfold argsOk; kernel_rfl)
theorem MinKw.bind {dv key : Value} {kw : List (Str × Value)} (m : MinKw dv key kw) : ∃ ko : Option Value, Builtin.Builtins.bindParams "min" ["key", "default"] 0 ⟨[], kw⟩ = pure [ko, some dv] ∧ ko.getD .none = key := by
  cases m
  · exact ⟨none, rfl, rfl⟩
  · exact ⟨some _, rfl, rfl⟩
section
variable {X : Cx} {pins : List (Addr × Obj)} {σ : L2.St} {l : Addr} {xs : List V} {kf : Nat → Int} {G : Hp → Prop} {key dv : Value} {kw : List (Str × Value)}
theorem least_call {H : Hp} {s : Shared} {Q : VK} {d : V} {E : Value → Shared → Prop} (hh : X.A.handled = none) (J : Inv X pins σ H s) (g : G H) (hl : ∀ H, G H → SqL X.K H l xs) (rd : RelV d dv) (mk : MinKw dv key kw) (kb : KeyBy X pins σ G xs kf key)
    (q0 : xs = [] → ∀ H2, G H2 → Q d H2) (q1 : ∀ i x H2, xs[i]? = some x → Best kf i xs.length → G H2 → Q x H2) : wpAny (model X.prog X.w) X.A (call (.builtin "min") [.ref l] kw) (EP X pins σ Q) E s := by
  have nm : s!"{"min"}.loop" = "min.loop" := by decide
  obtain ⟨ko, bi, kk⟩ := mk.bind
  obtain ⟨its, _, pl, _⟩ := J.list (hl H g)
  obtain ⟨ol, atl, _⟩ := id pl.isList
  have ll : l < s.heap.objs.size := Heap.lt_size atl
  let it : Obj := { cls := .type "list_iterator", data := .fields #[.ref l, .int 0 0] }
  have sz : (s.heap.push it).objs.size = s.heap.objs.size + 1 := Heap.size_push ..
  have more : s.heap.objs.size ≤ (s.heap.push it).objs.size := by rw [sz]; exact Nat.le_succ _
  have ne : (s.heap.push it).objs.size ≠ s.heap.objs.size := by rw [sz]; exact Nat.succ_ne_self _
  refine kmk_tree PySem.F.kind_min PySem.F.plain_min PySem.F.entry_min (mk.args _) ?_
  refine wpAny_bind (wpAny_of_eq bi (wpAny_bind (wpAny_pure (wpAny_bind (wpAny_pyIter_list pl.isList (wpAny_bind (wpAny_newList ?_ (Nat.zero_le _))))))))
  refine (nm.symm ▸ (show (Option.getD ko Value.none) = key from kk).symm ▸ wpAny_pure ⟨plainId_quiet PySem.F.plain_min_loop _, ?_⟩)
  have f1 : FpOk X pins H s.heap.objs.size := J.fpOk (Nat.le_refl _) (J.hok.fresh (Nat.le_refl _))
  have f2 : FpOk X pins H (s.heap.push it).objs.size := J.fpOk more (J.hok.fresh more)
  have J1 : Inv X pins σ H { s with heap := (s.heap.push it).push (seqObj "list" #[] 0) } := J.kept (t' := s.toks) fun b o e => Heap.get?_push_of_some _ (Heap.get?_push_of_some _ e)
  have at1 : ((s.heap.push it).push (seqObj "list" #[] 0)).get? s.heap.objs.size = some it := Heap.get?_push_of_some _ (Heap.get?_push_size _ rfl)
  have J2 := pin_on (b := (s.heap.push it).objs.size) (o := seqObj "list" #[] 0) (pin_on (b := s.heap.objs.size) (o := it) J1 f1 at1 (fun v z => by cases z)) (fp_with f2 f2.1 ne.symm) (Heap.get?_push_size _ rfl) (fun v z => by cases z)
  exact least_loop (kf := kf) (R := fun r s2 => match r with
    | .ok (.ret v) => EP X pins σ Q v s2
    | .ok _ => False
    | .error e => E e s2) hh hl (Nat.ne_of_lt ll) ne f2 f1 kb (fun e s2 H2 J3 g3 => ⟨d, H2, J3, rd, q0 e H2 g3⟩) (fun i x u s2 H2 hx ru b J3 g3 => ⟨x, H2, J3, ru, q1 i x H2 hx b g3⟩) xs.length 0 _ H #[] 0 it (Nat.zero_add _) J2 g ⟨it, at1, rfl, rfl⟩ (.inl ⟨rfl, rfl⟩)
end
/-- min(xs, default=d) of ints from nought -/
def rMinD (K : PySem.W.Frag) : List V → List V → Hp → VK → Prop := fun vs zs H Q => ∃ (a : Addr) (ns : List Nat) (d : Nat), vs = [V.ref a] ∧ zs = [V.int (d : Int)] ∧ SqL K H a (vInts ns) ∧ (ns = [] → Q (.int (d : Int)) H) ∧ ∀ m, m ∈ ns → (∀ y, y ∈ ns → m ≤ y) → Q (.int (m : Int)) H
theorem cr_minD {X : Cx} (hc : X.calm = true) : CallRK X (.builtin "min") [Str.ofString "default"] (rMinD X.K) := by
  rintro pins s σ H _ _ us ws Q J r rz ⟨a, ns, d, rfl, rfl, hs, q0, q⟩
  obtain rfl := Vals.ref1 r
  obtain ⟨_, rfl, e1⟩ := vals1 rz
  have num : ∀ i t, ns[i]? = some t → ns.getD i 0 = t := fun i t h => by rw [List.getD_eq_getElem?_getD, h]; rfl
  refine least_call (kf := fun i => ((ns.getD i 0 : Nat) : Int)) (G := fun H2 => H2 = H) (xs := vInts ns) (d := .int (d : Int)) (J.ok.hd hc) J rfl (fun H2 e => e ▸ hs) e1 .plain (.inl ⟨rfl, fun i x hx => ?_⟩) (fun e H2 z => z ▸ q0 ?_) fun i x H2 hx b z => ?_
  · obtain ⟨t, ht, rfl⟩ := vInts_get hx
    exact congrArg (fun z : Nat => V.int (z : Int)) (num i t ht).symm
  · exact List.map_eq_nil_iff.mp e
  · subst z
    obtain ⟨t, ht, rfl⟩ := vInts_get hx
    refine q t (List.mem_of_getElem? ht) fun y hy => ?_
    obtain ⟨m, hm⟩ := List.mem_iff_getElem?.mp hy
    have le : ((ns.getD i 0 : Nat) : Int) ≤ ((ns.getD m 0 : Nat) : Int) := (b m (by rw [vInts_length]; exact (List.getElem?_eq_some_iff.mp hm).1)).1
    rw [num i t ht, num m y hm] at le
    omega
/-! ### by a lambda -/
/-- the reading of min(e, key=lambda .., default=None): fr's slots js; tb: the lambda's body's -/
def tMinLam (K : PySem.W.Frag) (P : Addr) (qn : Str) (N : List Str) (js : List Nat) (tb : TE) (te : TA) : TE := fun σ H Q => te σ H fun vs H1 => ∃ (l : Addr) (xs : List V) (kf : Nat → Int) (G : Hp → Prop), vs = [.ref l] ∧ TabS H1 P qn ∧
  (∀ H2, ExtN H1 H2 → TabS H2 P qn → G H2) ∧ (∀ H2, G H2 → SqL K H2 l xs) ∧ (∀ H2 H3, G H2 → Same H2 H3 → G H3) ∧
  (∀ i x H2 Q2, xs[i]? = some x → G H2 → (∀ H3, Same H2 H3 → Q2 (.int (kf i)) H3) → tb (startF N [x] (js.map (slotAt σ))) H2 Q2) ∧
  (xs = [] → ∀ H2, G H2 → Q .non H2) ∧ ∀ i x H2, xs[i]? = some x → Best kf i xs.length → G H2 → Q x H2
theorem pe_minLam {X : Cx} {e : Expr} {te : TA} {c P : Addr} {ar : Arguments} {bd : Expr} {sc : Scope} {p pos lp kp1 kp2 np : Pos} {kx k : Nat} {N fr : List Str} {pa : Str} {js : List Nat} {tb : TE} (hc : X.calm = true) (hg : Gl X "min") (hm : X.mg "min" = none) (ha : PA X [e] te)
    (TB : TabB X.base X.mg c P) (hcode : X.env.code = .ref c) (hdef : defaultsOf ar X.env = ([], [])) (free : ∀ y ∈ sc.names, y.2 = .free → X.env.scope.names.lookup y.1 = some .cell ∨ X.env.scope.names.lookup y.1 = some .free)
    (S : NScope N [pa] fr sc) (hfr : ∀ y ∈ fr, (y, NameKind.free) ∈ sc.names) (hjs : js.map (fun j => X.N[j]?) = fr.map some) (room : Room (k + 2) X.A) (sub : ∀ b ∈ X.fs, b ∈ frs X.stack)
    (bi : ∀ (q : Str) (cl : List (Str × Addr)) (pm cv ct u : Value), bindArgs (PySem.W.kla_fn "<lambda>" q ar bd sc cl pm cv ct) ⟨[u], []⟩ = pure [(pa, u)])
    (body : ∀ (A : Around) (out : List Env) (s : Shared) (H : Hp) (g co : Addr) (cl : List (Str × Addr)), Room k (A.deeper (envF (lamF (X.env.qual ++ "<lambda>") ar sc cl co) g s.heap.objs.size)) → PE (ncx CX0 X.prog X.w X.K X.mg X.base N (lamF (X.env.qual ++ "<lambda>") ar sc cl co) g A out s H E0) bd tb)
    (he : backTo pos (starEach [e] X.env) = (false, eval e X.env) :: backTo pos (starEach [] X.env) := by rfl) (hpl : (backTo pos (starEach [e] X.env)).any (·.1) = false := by rfl) :
    PE X (.Call (.Name "min" p) [e] [⟨some "key", .Lambda ar bd sc lp, kp1⟩, ⟨some "default", .Constant .none kx np, kp2⟩] pos) (tMinLam X.K P (X.env.qual ++ "<lambda>") N js tb te) := by
  refine ⟨fun pins s σ H Q J h => wpAny_Call_Name_kw (ld_blt J hg hm (show bootBuiltins "min" = some (.builtin "min") by decide +kernel) (callWith_kw (thn (ha.run pos pins s σ H _ J h) ?_) he hpl rfl rfl))⟩
  rintro us s1 ⟨vs, H1, J1, r1, l, xs, kf, G, rfl, tab, g0, gl, gs, key, q0, q1⟩
  obtain rfl := Vals.ref1 r1
  have fr1 : ∀ y ∈ sc.names, y.2 = .free → ∃ c, X.env.cells.lookup y.1 = some c := fun y hy z => (free y hy z).elim (fun z => J1.ok.has _ (.inl z)) fun z => J1.ok.has _ (.inr z)
  refine kws_cons (lam_make2 (T := [(P, X.env.qual ++ "<lambda>")]) J1 TB hcode (.head _) (fun p m _ => by rw [List.mem_singleton.mp m]) (fun p m => by rw [List.mem_singleton.mp m]; exact tab) hdef fr1 ?_)
  intro g co pm ct H2 s2 J2 ext tabs at_ zg ng hco
  let F : NF := lamF (X.env.qual ++ "<lambda>") ar sc (cloFrom X.env.cells sc.names []) co
  have J4 : Inv X ((g, lamObj F bd pm ct) :: pins) σ H2 s2 := by
    obtain ⟨m, ⟨ob, es, ep, obl, od, _⟩, _⟩ := J2.loc
    refine J2.pins_of fun p m => (List.mem_cons.mp m).elim (fun e => e ▸ ⟨at_, zg, fun z => ?_, fun z => ng (sub _ z), fun v z => by cases z⟩) fun m => J2.pin p (List.mem_append_right _ m)
    have z : g = X.env.locals := z
    rw [← z, at_] at obl
    cases obl
    cases od
  refine kws_cons (thn (pe_non.run _ s2 σ H2 (fun v H3 => v = .non ∧ H3 = H2) J4 ⟨rfl, rfl⟩) ?_)
  rintro u s3 ⟨v, H3, J3, rv, rfl, rfl⟩
  obtain rfl : u = Value.none := rv
  refine kws_nil ?_
  refine wpAny_mono (least_call (kf := kf) (d := .non) (G := fun H4 => G H4 ∧ H4 co = some (CodeO co (X.env.qual ++ "<lambda>"))) (J3.ok.hd hc) J3 ⟨g0 _ ext (tabs (P, X.env.qual ++ "<lambda>") (.head _)), hco⟩ (fun H4 g4 => gl H4 g4.1) rfl (.by_ g) (.inr ⟨g, rfl, ?_⟩)
    (fun e H4 g4 => q0 e H4 g4.1) fun i x H4 hx b g4 => q1 i x H4 hx b g4.1) (fun u s4 ⟨y, H4, J5, ry, q⟩ => ⟨y, H4, pin_off J5, ry, q⟩) fun _ _ z => z
  intro i x hx pl s4 H4 u J5 g4 ru
  have at4 := (J5.pin (g, lamObj F bd pm ct) (List.mem_append_right _ (List.mem_append_right _ (.head _)))).1
  have cells := cells_of J5 (Caps.made J5.ok free hfr hjs)
  refine wpAny_call (codeAny_mono (lam_call (F := F) (k := k) (E := E0) (Q := fun v H5 => v = .int (kf i) ∧ G H5 ∧ H5 co = some (CodeO co (X.env.qual ++ "<lambda>"))) S (bi _ _ _ _ _ u) room.in1 J5.env0.in1 at4 g4.2 cells (.cons ru .nil) rfl (fun rm => body _ _ s4 H4 g co _ rm)
    (key i x H4 _ hx g4.1 fun H5 sm => ⟨rfl, gs H4 H5 g4.1 sm, sm _ _ g4.2⟩)) fun r s5 z => ?_)
  cases r with
  | error e => exact (show False from z).elim
  | ok fl =>
    cases fl with
    | ret y => exact J5.after z
    | _ => exact (show False from z).elim
end Ob
end

section
set_option Elab.async false
set_option maxRecDepth 100000
set_option maxHeartbeats 4100000
/-! tuple(d.values()), xs.extend(a tuple), enumerate(xs, start=k). -/
namespace PySem.W
open PySem PyProof.Rows
section
variable {P : Program} {w : World} {A : Around} {E : Value → Shared → Prop} {s : Shared} {T : String} {v d : Addr} {n : Nat} {IsI : Nat → Value → Prop} {ok : Heap → Prop}
/-- all that a source gives, in a new list of the machine's own -/
theorem src_collect {Q : List Value → Shared → Prop} (src : KdlSrc P w T v d n IsI ok) (hh : A.handled = none) (h0 : ok s.heap) (few : n ≤ sizeLine)
    (due : ∀ (h2 : Heap) (tk : Nat) (got : Array Value), (∀ b o, s.heap.get? b = some o → h2.get? b = some o) → ItemsOf IsI got n → Q got.toList { s with heap := h2, toks := tk }) : wpAny (model P w) A (collect (.ref v)) Q E s := by
  obtain ⟨lt1, lt2⟩ := src.there _ h0
  refine wpAny_bind (wpAny_runValue (codeAny_builtin PySem.F.entry_proto_collect (Around.under_plainId PySem.F.plain_proto_collect _ ▸ wpAny_bind (wpAny_newObj_type (wpAny_pure ⟨plainId_quiet PySem.F.plain_list_iadd _, codeAny_builtin PySem.F.entry_list_iadd (Around.under_plainId PySem.F.plain_list_iadd _ ▸ ?_)⟩)))))
  refine kdl_extend (A := A) (R := fun r s2 => match r with
    | .ok (.ret y) => wpAny (model P w) A (match y with
      | .ref a => do
        match (← load a).data with
        | .seq got _ => pure got.toList
        | _ => (unsupported "internal:collect" : Sem (List Value))
      | _ => unsupported "internal:collect") Q E s2
    | .ok _ => False
    | .error e => E e s2) (s := { s with heap := s.heap.push { cls := .type "list", data := .seq ([] : List Value).toArray } }) src hh (src.keep _ _ h0 fun b _ o e => Heap.get?_push_of_some _ e) s.heap.objs.size (Nat.ne_of_gt lt1) (Nat.ne_of_gt lt2) (.ref s.heap.objs.size) 0 (Heap.get?_push_size _ rfl) ?_ few
  exact fun h2 tk got ep up at_ is => wpAny_bind (wpAny_load at_ (wpAny_pure (due h2 tk got (fun b o e => up b o (Nat.ne_of_lt (Heap.lt_size e)) (Heap.get?_push_of_some _ e)) is)))
theorem src_tuple {Q : Value → Shared → Prop} (src : KdlSrc P w T v d n IsI ok) (hh : A.handled = none) (h0 : ok s.heap) (few : n ≤ sizeLine)
    (due : ∀ (h2 : Heap) (tk : Nat) (got : Array Value), (∀ b o, s.heap.get? b = some o → h2.get? b = some o) → ItemsOf IsI got n → Q (.ref h2.objs.size) { s with heap := h2.push { cls := .type "tuple", data := .seq got }, toks := tk }) :
    wpAny (model P w) A (call (.type "tuple") [.ref v]) Q E s := by
  refine callType_codes (Q₁ := fun y s2 => s2.TypeIs y "tuple" ∧ Q y s2) PySem.F.called_tuple (PySem.F.typeCall_tuple_1 _) PySem.F.entry_object_init (codeAny_of_tree (show wpAny _ A.in1.in1 (checkBuiltinCall "tuple.__new__" ⟨[.type "tuple", .ref v], []⟩ >>= fun _ => again (.builtin "tuple.__new__" ⟨[.type "tuple", .ref v], []⟩)) _ _ s from ?_)) fun y s2 h2 =>
    ⟨h2.1, PySem.F.args_object_init_2 y _, object_init_meets PySem.F.called_tuple.init.lookup PySem.F.called_tuple.made (by decide) P w A.in1 _ s2 ⟨h2.1, rfl, h2.2⟩⟩
  refine wpAny_bind (wpAny_of_eq (PySem.F.newCall_tuple_1 _) (wpAny_pure ⟨plainId_quiet PySem.F.plain_tuple_new _, codeAny_builtin PySem.F.entry_tuple_new ?_⟩))
  rw [show _ = A.in1.in1 from Around.under_plainId PySem.F.plain_tuple_new _]
  have w1 := sub_tuple_self; have w2 := init_tuple_lookup; have w3 := madeHere_tuple; have w4 := src.type s h0; have w5 := src.notTuple
  wp_walk using wpAny_typeOf w4, src_collect (A := A.in1.in1) src hh h0 few
  intro h2 tk got up is
  show wpAny _ _ (Builtin.Tuple.tupleExact got.toList.toArray >>= ret) _ _ _
  rw [Array.toArray_toList, Builtin.Tuple.tupleExact]
  refine wpAny_bind (wpAny_newObj_type (wpAny_pure ?_) (show got.size ≤ sizeLine from is.1 ▸ few))
  exact ⟨⟨_, Heap.get?_push_size _ rfl, rfl⟩, due h2 tk got up is⟩
end
end PySem.W
namespace Ob
open PySem PySem.Spec PyProof.Rows L2 LamX NdefX
/-! tuple(d.values()) -/
def tTupVals (td : TE) : TE := fun σ H Q => td σ H fun x H1 => ∃ (d : Addr) (kvs : List (Key × V)), x = .ref d ∧ H1 d = some (.dK kvs) ∧ ∀ q, H1 q = none → Q (.ref q) (upd H1 q (.tup (kvs.map (·.2))))
theorem pe_tupVals {X : Cx} {e : Expr} {td : TE} {p pos apos cpos : Pos} (hc : X.calm = true) (hg : Gl X "tuple") (hm : X.mg "tuple" = none) (he : PE X e td)
    (base : attributeBase e "values" X.env (eval e X.env) = eval e X.env := by rfl) (line : (apos.endLine == cpos.line) = true := by rfl)
    (one : starEach [Expr.Call (.Attribute e "values" apos) [] [] cpos] X.env = (false, eval (Expr.Call (.Attribute e "values" apos) [] [] cpos) X.env) :: starEach [] X.env := by rfl) :
    PE X (.Call (.Name "tuple" p) [.Call (.Attribute e "values" apos) [] [] cpos] [] pos) (tTupVals td) := by
  refine ⟨fun pins s σ H Q J h => Call_ (ld_blt J hg hm boot_tuple (PyProof.Rows.callWith_type1 (args_cons (wpAny_Call_method (T := "dict") (id := "dict.values") base rfl line F.plainAttrs_dict F.slot_dict_values F.type_dict_values (thn (he.run pins s σ H _ J h) ?_)) one) one))⟩
  rintro u s1 ⟨x, H1, J1, rx, d, kvs, rfl, hd, q⟩
  cases (show u = Value.ref d from rx)
  obtain ⟨few, lo, vs, rk, dict⟩ := (show ObjOk X.prog X.w H1 s1.heap d (.dK kvs) from J1.hok d _ hd)
  obtain ⟨ep, at_⟩ := dict.dictAt
  have same : kvs.length = vs.length := Paired.length rk
  refine ⟨at_.dictOf.typeIs, at_.dictOf.mapOf.noDict, method_meetsIn F.slot_dict_values F.entry_dict_values rfl (PySem.evalArgs_none ⟨rfl, at_.dictOf.typeIs, F.args_dict_values_1 _, _, meets_dict_values (mixKind X.prog X.w) d lo, ⟨vs, at_.dictOf⟩, args_nil ?_⟩)⟩
  have J2 : Inv X pins σ H1 { s1 with heap := s1.heap.push { cls := .type "dict_values", data := .fields #[.ref d] } } := J1.kept (t' := s1.toks) fun b o => Heap.get?_push_of_some _
  refine PySem.W.src_tuple (PySem.W.kdl_values (knd := mixKind X.prog X.w) (r := s1.heap.objs.size) (d := d) (kvs := vs) (ep := ep)) (J1.ok.hd hc) ⟨⟨_, Heap.get?_push_size _ rfl, rfl, rfl⟩, at_.push _⟩ (same ▸ few) fun h2 tk got up is => ?_
  have J3 : Inv X pins σ H1 { s1 with heap := h2, toks := tk } := J2.kept up
  refine ⟨.ref h2.objs.size, _, J3.laid (t' := tk) (o := .tup (kvs.map (·.2))) (fun b o => Heap.get?_push_of_some _) (Nat.le_refl _) ⟨(List.length_map ..).symm ▸ few, got.toList, vals_of_at ((List.length_map ..).trans (same.trans (is.1.symm.trans Array.length_toList.symm))) ?_, by rw [Array.toArray_toList]; exact IsTup.new _ _⟩, rfl, q _ (J3.hok.fresh (Nat.le_refl _))⟩
  intro j x y hx hy
  obtain ⟨k, hk⟩ := is.2 j y (by rw [← Array.getElem?_toList]; exact hy)
  rw [List.getElem?_map] at hx
  obtain ⟨kv, hkv, rfl⟩ := Option.map_eq_some_iff.mp hx
  obtain ⟨y2, hy2, r⟩ := kv_get rk (show kvs[j]? = some (kv.1, kv.2) from hkv)
  rw [hk] at hy2
  cases hy2
  exact r
/-! xs.extend(t), t a tuple -/
theorem extend_tup (l b : Addr) (xs ys : Array Value) (n m : Nat) (dd : Option Addr) (sl : Array (Option Value)) (long : (!xs.isEmpty && Builtin.List.listTooLong (xs.size + ys.size)) = false) (fits : xs.size + ys.size ≤ sizeLine) :
    Meets (Builtin.«list.extend» ⟨[.ref l, .ref b], []⟩) (fun _ R s => s.heap.get? l = some (seqObj "list" xs n) ∧ s.heap.get? b = some { cls := .type "tuple", dict := dd, data := .seq ys m, slots := sl } ∧
      R (.ok (.ret Value.none)) { s with heap := s.heap.update l (Obj.mapSeq fun x => x ++ ys) }) :=
  .of_wp fun P w A R s h => by
    obtain ⟨h0, g, dr, tk, os⟩ := s
    obtain ⟨al, ab, q⟩ := h
    have w1 := AutoSeq1.idx_int; have w2 := AutoSeq1.sub_tuple_tuple; have w3 := AutoSeq1.sub_list_list; have w4 := AutoSeq1.sub_tuple_list; have w5 := AutoSeq1.sub_list_tuple
    have w6 : ¬ (!xs.isEmpty && Builtin.List.listTooLong (xs.size + ys.size)) = true := by rw [long]; exact Bool.false_ne_true
    have z1 : xs.size ≤ sizeLine := by omega
    have z2 : (xs ++ ys).size ≤ sizeLine + 1 := by rw [Array.size_append]; omega
    wp_walk using (wpAny_updateSeq al rfl (hz := z1) (_hz' := z2)), AutoSeq1.wpAny_loadPart' al, AutoSeq1.wpAny_loadPart' ab
    exact ⟨_, rfl, q⟩
def rExtendT (K : PySem.W.Frag) : V → List V → Hp → VK → Prop := fun x vs H Q => ∃ l b xs zs, x = .ref l ∧ vs = [.ref b] ∧ H l = some (.lst xs) ∧ SqT K H b zs ∧ xs.length + zs.length ≤ sizeLine ∧ Q .non (upd H l (.lst (xs ++ zs)))
theorem mt_extendT {X : Cx} : MtM X "list.extend" (rExtendT X.K) := by
  rintro pins s σ H _ _ v us Q J rx rv ⟨l, b, xs, zs, rfl, rfl, hl, hb, fits, q⟩
  cases rx
  obtain ⟨u, rfl, ru⟩ := rv.one
  cases ru
  obtain ⟨_, as_, n, r1, _, at1⟩ := J.lstM hl
  obtain ⟨bs, r2, ⟨⟨c2, d2, t2, s2⟩, at2, cl2, m, da2⟩, _⟩ := J.tuple hb
  obtain rfl : c2 = .type "tuple" := cl2
  obtain rfl : t2 = .seq bs.toArray m := da2
  have z : as_.toArray.size + bs.toArray.size ≤ sizeLine := by rw [List.size_toArray, List.size_toArray, ← r1.length, ← r2.length]; exact fits
  refine call_meets F.slot_list_extend ⟨_, at1, rfl⟩ F.entry_list_extend (F.args_list_extend_2 _ _) (extend_tup l b as_.toArray bs.toArray n m d2 s2 (by rw [notLongL z, Bool.and_false]) z) ⟨at1, at2, .non, _, J.lset (its' := as_ ++ bs) hl at1 (by simp) (r1.append r2) (by rw [List.length_append]; exact fits), rfl, q⟩
end Ob
end

section
set_option Elab.async false
set_option maxRecDepth 100000
set_option maxHeartbeats 4100000
set_option linter.all false
/-! for k, x in enumerate(xs, start=k0). -/
namespace Ob
open L2 PyProof.Rows PySem PySem.Spec
/-- a class of Python's own called with keywords behind plain arguments -/
theorem ty_called {Md : Model} {Ar : Around} {Er : Value → Shared → Prop} {sh : Shared} {en : Env} {at_ : Pos} {cn : String} {a : Expr} {as : List Expr} {ks : List Keyword} {Qv : Value → Shared → Prop}
    (ta : backTo at_ (starEach (a :: as) en) = (false, eval a en) :: backTo at_ (starEach as en)) (tp : (backTo at_ (starEach (a :: as) en)).any (·.1) = false) (tk : (backToKw at_ (keywordEach ks en)).all (·.1.isSome) = true) (tn : (backToKw at_ (keywordEach ks en)).any (·.1.isNone) = false)
    (go : wpAny Md Ar (spliced (backTo at_ (starEach (a :: as) en))) (fun us s1 => wpAny Md Ar (evalAll ((backToKw at_ (keywordEach ks en)).map (·.2))) (fun ws s2 => wpAny Md Ar (call (.type cn) us (((backToKw at_ (keywordEach ks en)).filterMap (·.1)).zip ws)) Qv Er s2) Er s1) Er sh) :
    wpAny Md Ar (callWith at_ (.type cn) [] (backTo at_ (starEach (a :: as) en)) (backToKw at_ (keywordEach ks en))) Qv Er sh := by
  have args : wpAny Md Ar (evalArgs (.type cn) true (backTo at_ (starEach (a :: as) en)) (backToKw at_ (keywordEach ks en))) (fun g s1 => wpAny Md Ar (call (.type cn) ([] ++ g.pos) g.kw) Qv Er s1) Er sh := by
    rw [ta] at go ⊢
    exact evalArgs_kwB tk go
  unfold callWith
  refine wpAny_bind (wpAny_holding (wpAny_mono args (fun g s1 q1 => wpAny_bind (wpAny_standAt ?_)) fun _ _ z => z))
  rw [tp, tn]
  exact wpAny_bind (wpAny_pure (wpAny_bind (wpAny_mono q1 (fun _ _ q2 => wpAny_bind (wpAny_holding (wpAny_point (wpAny_pure q2)))) fun _ _ z => z)))
/-- the list at a, its items behind their numbers from k on, each in a new pair; it ends just at the list's end -/
def IteK (K : PySem.W.Frag) (a : Addr) (k : Int) : It where
  go := fun n H => ∃ (xs : List V) (x : V), SqL K H a xs ∧ xs[n]? = some x
  yld := fun n H v H' => ∃ (tp : Addr) (x : V), v = .ref tp ∧ H tp = none ∧ H' = upd H tp (.tup [.int (k + (n : Nat)), x]) ∧ ∀ xs, SqL K H a xs → xs[n]? = some x
  stop := fun n H => ∃ xs : List V, SqL K H a xs ∧ xs.length = n
/-- what stands in the machine at turn n: the count at ec, the list's own iterator at li -/
def EnumAt (a ec li : Addr) (k : Int) (n : Nat) (hp : Heap) : Prop := (∃ last, IsEnum hp ec li (k + ((n : Nat) : Int)) last) ∧ hp.IsListIter li a n ∧ ec ≠ li
theorem EnumAt.two {a ec li : Addr} {k : Int} {n : Nat} {hp : Heap} (s : EnumAt a ec li k n hp) {b : Addr} (m : b ∈ [ec, li]) : (∃ ob, hp.get? b = some ob ∧ ∀ v, ob.data ≠ .cell v) ∧ b < hp.objs.size := by
  obtain ⟨⟨last, e1⟩, ⟨ol, e2, _, dl⟩, _⟩ := s
  rcases List.mem_cons.mp m with rfl | m
  · exact ⟨⟨_, e1, fun _ z => by cases z⟩, Heap.lt_size e1⟩
  · obtain rfl := List.mem_singleton.mp m
    exact ⟨⟨ol, e2, fun _ z => by rw [dl] at z; cases z⟩, Heap.lt_size e2⟩
theorem EnumAt.move {a ec li : Addr} {k : Int} {n : Nat} {hp hp' : Heap} (s : EnumAt a ec li k n hp) (m : ∀ b ∈ [ec, li], ∀ ob, hp.get? b = some ob → hp'.get? b = some ob) : EnumAt a ec li k n hp' := by
  obtain ⟨⟨last, e1⟩, e2, ne⟩ := s
  exact ⟨⟨last, m ec List.mem_cons_self _ e1⟩, e2.at (m li (List.mem_cons_of_mem _ List.mem_cons_self)), ne⟩
/-- the list is none of these two -/
theorem EnumAt.list {a ec li : Addr} {k : Int} {n : Nat} {hp : Heap} {its : Array Value} (s : EnumAt a ec li k n hp) (l : hp.IsList a its) : a ≠ li ∧ a ≠ ec := by
  obtain ⟨⟨last, e1⟩, ⟨ol, e2, c2, _⟩, _⟩ := s
  obtain ⟨oa, e3, c3, _⟩ := l
  constructor
  · rintro rfl
    cases e2.symm.trans e3
    injection c2.symm.trans c3 with z
    exact absurd z (by decide)
  · rintro rfl
    have e1' : hp.get? a = some _ := e1
    cases e1'.symm.trans e3
    injection c3 with z
    exact absurd z (by decide)
theorem turn_enumK {P : Program} {w : World} {K : PySem.W.Frag} {elts : List Expr} {kk : Nat} {tpos : Pos} (a ec li : Addr) (k : Int) : Turn P w K (.Tuple elts kk tpos) (IteK K a k) [ec, li] ec (EnumAt a ec li k) where
  mem := List.mem_cons_self
  obj := fun _ _ at_ _ m => (at_.two m).1
  keep := fun _ _ _ at_ m => at_.move m
  self := fun _ _ _ _ _ at_ q => at_.1.elim fun _ z => wpAny_pyIter_enum z q
  item := fun X eP ew eK calm n pins s σ H E J fp at_ go => by
    subst eP ew eK
    obtain ⟨xs, x, lst, ix⟩ := go
    obtain ⟨its, rel, pl, _⟩ := J.list lst
    obtain ⟨u, iu, ru⟩ := rel.get ix
    obtain ⟨nl, nc⟩ := at_.list pl.isList
    have small : ∀ b ∈ [ec, li], b < s.heap.objs.size := fun b m => (at_.two m).2
    have lec := small ec List.mem_cons_self
    obtain ⟨⟨last, en⟩, itr, ne⟩ := at_
    refine wpAny_pyNext_enum_itemC (Draws.list (A := X.A.in1) (J.ok.hd calm) li a nl its.toArray) en ⟨itr, pl.isList⟩ (by rw [List.size_toArray]; exact (List.getElem?_eq_some_iff.mp iu).1) ne (fun m => ?_) fun y h1 tk iy out st1 tup1 _ up1 => ?_
    · simp only [List.mem_cons, List.not_mem_nil, or_false] at m
      exact m.elim ne fun z => nc z.symm
    have yu : y = u := Option.some.inj ((show its[n]? = some y by simpa using iy).symm.trans iu)
    subst yu
    refine ⟨_, rfl, wpAny_letOwnedTupleGo_enum (s := { s with heap := h1, toks := tk + 1 }) out fun h2 en2 sb => ?_⟩
    have tup2 := (sb.2 _ (Nat.ne_of_gt lec)).trans tup1
    have made : ObjOk X.prog X.w (upd H s.heap.objs.size (.tup [.int (k + (n : Nat)), x])) h2 s.heap.objs.size (.tup [.int (k + (n : Nat)), x]) := ⟨by show 2 ≤ sizeLine; decide, [.int (k + (n : Nat)) tk, y], .cons ⟨tk, rfl⟩ (.cons ru .nil), ⟨_, tup2, rfl, _, rfl⟩⟩
    have out2 : ∀ b ob, b ∉ [ec, li] → s.heap.get? b = some ob → h2.get? b = some ob := fun b ob nb eb => by
      have n1 : b ≠ ec := fun z => nb (z ▸ List.mem_cons_self)
      have n2 : b ≠ li := fun z => nb (z ▸ List.mem_cons_of_mem _ List.mem_cons_self)
      exact (sb.2 b n1).trans (up1 b ob n1 n2 eb)
    refine ⟨.ref s.heap.objs.size, _, J.turnedNew (t' := tk + 1) (ch := [ec, li]) out2 fp (Nat.le_refl _) made, rfl, ⟨_, x, rfl, J.hok.fresh (Nat.le_refl _), rfl, fun ys ly => by rw [J.list_inj ly lst]; exact ix⟩, ⟨⟨y, ?_⟩, st1.1.at fun ob eo => (sb.2 li ne.symm).trans eo, ne⟩, fun b m => ?_⟩
    · rw [show k + ((n + 1 : Nat) : Int) = k + (n : Int) + 1 by omega]
      exact en2
    · rw [upd_ne (Nat.ne_of_lt (small b m))]
      exact (fp b m).1
  done := fun X eP ew eK calm n pins s σ H E J fp at_ stop => by
    subst eP ew eK
    obtain ⟨xs, lst, rfl⟩ := stop
    obtain ⟨its, rel, pl, _⟩ := J.list lst
    obtain ⟨nl, _⟩ := at_.list pl.isList
    obtain ⟨⟨last, en⟩, itr, _⟩ := at_
    have f := fp li (List.mem_cons_of_mem _ List.mem_cons_self)
    have size : its.toArray.size = xs.length := by rw [List.size_toArray, rel.length]
    exact wpAny_pyNext_enum_endD (Draws.list (A := X.A.in1) (J.ok.hd calm) li a nl its.toArray) en ⟨size ▸ itr, pl.isList⟩ fun h1 but => ⟨rfl, J.turned (t' := s.toks) (fun b ob nb eb => but b ob nb eb) f.1 f.2.1 f.2.2.2.1 f.2.2.2.2.1 f.2.2.2.2.2⟩
def iEnumK (K : PySem.W.Frag) (k : Int) (ta : TA) : TI := fun σ H R => ta σ H fun vs H1 => ∃ (a : Addr) (xs : List V), vs = [.ref a] ∧ SqL K H1 a xs ∧ R (IteK K a k) H1
theorem pi_enumK {X : Cx} {e : Expr} {ta : TA} {p pos tpos kp cp : Pos} {elts : List Expr} {kk kx : Nat} {k : Int} (hk : -(2 ^ 63) ≤ k ∧ k < 2 ^ 63) (hg : Gl X "enumerate") (hm : X.mg "enumerate" = none) (ha : PA X [e] ta)
    (he : backTo pos (starEach [e] X.env) = (false, eval e X.env) :: backTo pos (starEach [] X.env) := by rfl) (hpl : (backTo pos (starEach [e] X.env)).any (·.1) = false := by rfl) :
    PI X (.Tuple elts kk tpos) (.Call (.Name "enumerate" p) [e] [⟨some "start", .Constant (.int k) kx cp, kp⟩] pos) (iEnumK X.K k ta) where
  run := fun pins s σ H R J rd => by
    refine wpAny_Call_Name_kw (ld_blt J hg hm boot_enumerate (ty_called he hpl rfl rfl (thn (ha.run pos pins s σ H _ J rd) fun us s1 got => ?_)))
    obtain ⟨_, H1, J1, rel, a, xs, rfl, lst, rest⟩ := got
    obtain rfl := Vals.ref1 rel
    refine kws_cons (thn (pe_int.run pins s1 σ H1 (fun v H2 => v = .int k ∧ H2 = H1) J1 ⟨rfl, rfl⟩) fun u s2 num => kws_nil ?_)
    obtain ⟨_, _, J2, rn, rfl, rfl⟩ := num
    obtain ⟨t, rfl⟩ : ∃ t, u = Value.int k t := rn
    obtain ⟨its, _, pl, _⟩ := J2.list lst
    refine PySem.enum_begins_start (PySem.begins_list a its.toArray) pl.isList hk.1 hk.2 fun h3 en itr _ up => wpAny_pyIter_enum en ⟨s2.heap.objs.size + 1, [s2.heap.objs.size + 1, s2.heap.objs.size], _, _, _, rfl, J2.kept (t' := s2.toks) up, turn_enumK a (s2.heap.objs.size + 1) s2.heap.objs.size k, ⟨⟨.none, ?_⟩, ⟨_, itr, rfl, rfl⟩, Nat.succ_ne_self _⟩, fun b m => ?_, rest⟩
    · rw [show k + ((0 : Nat) : Int) = k by omega]
      exact en
    · have new : s2.heap.objs.size ≤ b := by
        simp only [List.mem_cons, List.not_mem_nil, or_false] at m
        exact m.elim (fun z => z ▸ Nat.le_succ _) fun z => z ▸ Nat.le_refl _
      exact J2.fpOk new (J2.hok.fresh new)
theorem walk_enumK {K : PySem.W.Frag} {a : Addr} {xs : List V} {k : Int} : Walk (IteK K a k) xs.length (fun H => SqL K H a xs) (YPair (fun i => some (.int (k + (i : Nat)))) (fun i => xs[i]?)) where
  goes := fun n _ lt l => ⟨xs, xs[n], l, List.getElem?_eq_getElem lt⟩
  stops := fun _ l => ⟨xs, l, rfl⟩
  yields := fun n _ _ _ _ l y => y.elim fun tp y => y.elim fun x y => ⟨tp, .int (k + (n : Nat)), x, y.1, y.2.1, y.2.2.1, rfl, y.2.2.2 xs l⟩
end Ob
end

section
set_option Elab.async false
set_option maxRecDepth 100000
set_option maxHeartbeats 4100000
set_option linter.all false
/-! The end of a row whose program makes a lambda: the arguments are tracked, and one table of code objects. -/
namespace Ob
open LamX L2 PyProof.Rows PySem PySem.Spec
open PySem.W (WData OpenSpec Codec Well WellAll ReadsW)
section
variable {K : PySem.W.Frag} {H H' : Hp}
theorem sqT_same (s : Same H H') {a : Addr} {xs : List V} (h : SqT K H a xs) : SqT K H' a xs := h.imp (rd_same s) id
mutual
/-- a datum that is told stays told in a larger heap -/
theorem dw_same (s : Same H H') : ∀ {v : V} {d : WData}, Dw K H v d → Dw K H' v d
  | _, _, .non => .non
  | _, _, .bl b => .bl b
  | _, _, .int i => .int i
  | _, _, .str x => .str x
  | _, _, .byt b => .byt b
  | _, _, .lst q r => .lst (s.seq q) (dwAll_same s r)
  | _, _, .tup q r => .tup (sqT_same s q) (dwAll_same s r)
theorem dwAll_same (s : Same H H') : ∀ {vs : List V} {ds : List WData}, DwAll K H vs ds → DwAll K H' vs ds
  | _, _, .nil => .nil
  | _, _, .cons q r => .cons (dw_same s q) (dwAll_same s r)
end
end
/-- what an empty table is in the machine -/
abbrev noTab : Obj := { cls := .none, data := .fields #[] }
/-- the arguments' heap with the table -/
def argT (K : PySem.W.Frag) (hp : Heap) (A : List Addr) (T : Addr) : Hp := fun b => if b = T then some (.tbl #[]) else argH K hp A b
section
variable {K : PySem.W.Frag} {hp : Heap} {A : List Addr} {T : Addr}
theorem argT_at : argT K hp A T T = some (.tbl #[]) := if_pos rfl
theorem argT_off {b : Addr} (n : b ≠ T) : argT K hp A T b = argH K hp A b := if_neg n
/-- an argument is a sequence in the machine, and not written -/
theorem arg_seq (ar : ∀ a ∈ A, ArgOb hp A a) {b : Addr} {u : HO} (q : argH K hp A b = some u) : K.lookup b = none ∧ (∃ o, u = .frz o (.lst []) ∨ ∃ v, u = .frz o v) ∧ ∃ c vs, hp.get? b = some { cls := c, data := .seq vs } := by
  obtain ⟨k, vs, _, _, z⟩ := argH_is ar q
  refine ⟨k, ?_, ?_⟩
  · rcases z with ⟨_, z⟩ | ⟨_, z⟩ <;> exact ⟨_, .inr ⟨_, z⟩⟩
  · rcases z with ⟨z, _⟩ | ⟨z, _⟩ <;> exact ⟨_, _, z⟩
theorem arg_not (ar : ∀ a ∈ A, ArgOb hp A a) {b : Addr} {o : Obj} (e : hp.get? b = some o) (ns : ∀ vs n, o.data ≠ .seq vs n) : argH K hp A b = none := by
  cases q : argH K hp A b with
  | none => rfl
  | some u =>
    obtain ⟨_, _, c, vs, z⟩ := arg_seq ar q
    cases e.symm.trans z
    exact absurd rfl (ns _ _)
/-- what is neither a sequence nor an empty table isn't tracked -/
theorem argT_not (ar : ∀ a ∈ A, ArgOb hp A a) (tb : hp.get? T = some noTab) {b : Addr} {o : Obj} (e : hp.get? b = some o) (ns : ∀ vs n, o.data ≠ .seq vs n) (nf : o.data ≠ .fields #[]) : argT K hp A T b = none := by
  have n : b ≠ T := by
    rintro rfl
    cases e.symm.trans tb
    exact nf rfl
  rw [argT_off n]
  exact arg_not ar e ns
theorem argT_more (ar : ∀ a ∈ A, ArgOb hp A a) (tb : hp.get? T = some noTab) : Same (argH K hp A) (argT K hp A T) := fun b x e => by
  have n : b ≠ T := by
    rintro rfl
    rw [arg_not ar tb (fun vs n z => by cases z)] at e
    cases e
  rw [argT_off n]
  exact e
theorem argT_hok {P : Program} {w : World} (ar : ∀ a ∈ A, ArgOb hp A a) (tb : hp.get? T = some noTab) : HOk P w (argT K hp A T) hp := fun b u q => by
  by_cases n : b = T
  · subst n
    cases argT_at.symm.trans q
    exact tb
  · rw [argT_off n] at q
    have old : ObjOk P w (argH K hp A) hp b u := argH_ok ar b u q
    obtain ⟨_, vs, _, _, ⟨_, rfl⟩ | ⟨_, rfl⟩⟩ := argH_is ar q <;> exact old
theorem argT_written (ar : ∀ a ∈ A, ArgOb hp A a) (nT : K.lookup T = none) {b : Addr} {o : Obj} (e : K.lookup b = some o) : argT K hp A T b = none := by
  have n : b ≠ T := by
    rintro rfl
    rw [nT] at e
    cases e
  rw [argT_off n]
  cases q : argH K hp A b with
  | none => rfl
  | some u =>
    rw [(arg_seq ar q).1] at e
    cases e
theorem argT_kinds (ar : ∀ a ∈ A, ArgOb hp A a) {b : Addr} {u : HO} (n : b ≠ T) (q : argT K hp A T b = some u) : ∃ o v, u = .frz o v := by
  rw [argT_off n] at q
  rcases argH_only ar b with z | ⟨o, v, z⟩
  · cases z.symm.trans q
  · cases z.symm.trans q
    exact ⟨o, v, rfl⟩
end
/-- the module's names stand in what isn't tracked -/
theorem hid_ns {hp : Heap} {H : Hp} (off : ∀ {b : Addr} {o : Obj}, hp.get? b = some o → (∀ vs n, o.data ≠ .seq vs n) → o.data ≠ .fields #[] → H b = none) {b : Addr} {m : Str → Option Value} (n : hp.Ns b m) : (hidT hp H).Ns b m := by
  obtain ⟨o, es, ep, e, dd, r⟩ := n
  exact ⟨o, es, ep, hidT_get e (off e (fun vs n z => by rw [dd] at z; cases z) fun z => by rw [dd] at z; cases z), dd, r⟩
/-- what the making of a lambda asks, of what isn't tracked -/
theorem hid_tab {hp : Heap} {H : Hp} {mg : Str → Option Value} {c T : Addr} (off : ∀ {b : Addr} {o : Obj}, hp.get? b = some o → (∀ vs n, o.data ≠ .seq vs n) → o.data ≠ .fields #[] → H b = none) (tb : hp.get? T = some noTab) (C : PySem.W.CodeHd hp c T) (names : hp.Ns mainGlobals mg)
    (bi : ∃ (bm : Addr) (ob : Obj), mg "__builtins__" = some (.ref bm) ∧ bm ≠ builtinsNs ∧ hp.get? bm = some ob ∧ ob.cls = .type "module" ∧ ob.dict = some builtinsNs ∧ ob.data = .plain) : TabB (hidT hp H) mg c T := by
  obtain ⟨og, es, ep, eg, dg, _⟩ := names
  constructor
  · obtain ⟨co, cv, x1, x2, x3, x4, x5, x6, x7, ec, y⟩ := C
    refine ⟨co, cv, x1, x2, x3, x4, x5, x6, x7, hidT_get ec (off ec (fun vs n z => by rw [y.2.1] at z; cases z) fun z => ?_), y⟩
    rw [y.2.1] at z
    cases z
    have y3 := y.2.2.1
    simp at y3
  · obtain ⟨bm, ob, m1, m2, eb, m4, m5, pb⟩ := bi
    refine ⟨bm, ob, m1, m2, ?_, ?_, hidT_get eb (off eb (fun vs n z => by rw [pb] at z; cases z) fun z => by rw [pb] at z; cases z), m4, m5, pb⟩
    · rintro rfl
      cases eg.symm.trans eb
      rw [dg] at pb
      cases pb
    · rintro rfl
      cases tb.symm.trans eb
      cases pb
  · rintro rfl
    cases eg.symm.trans tb
    cases dg
/-- the row's def called on the arguments, where its promise counts on the table -/
theorem call_tab {P : Program} {w : World} {K : PySem.W.Frag} {mg mb : Str → Option Value} {k : Nat} {fa c T : Addr} {fd : FuncData} {ps : List Str} {sp : Sp} {st : Shared} {us : List Value} {ds : List WData} {R : PySem.W.WRecords} {cl : Str → Option Addr} {d0 : WData} (KX : K.In st.heap) (names : st.heap.Ns mainGlobals mg)
    (own : st.heap.Ns builtinsNs mb) (boot : ∀ x : Str, x ≠ "__name__" → mb x = bootBuiltins x) (nolim : st.heap.NoLimit) (nogen : st.gens = #[]) (tb : st.heap.get? T = some noTab) (nT : K.lookup T = none) (C : PySem.W.CodeHd st.heap c T)
    (bi : ∃ (bm : Addr) (ob : Obj), mg "__builtins__" = some (.ref bm) ∧ bm ≠ builtinsNs ∧ st.heap.get? bm = some ob ∧ ob.cls = .type "module" ∧ ob.dict = some builtinsNs ∧ ob.data = .plain) (well : WellAll w.params st.heap us ds) (plain : plWs ds = true) (light : ∀ d ∈ ds, d.weight ≤ 1048576) (room : Room k callerA)
    (F : ∀ base : Heap, K.In base → base.Ns mainGlobals mg → TabB base mg c T → FnOk P w K mg base CX0 k fa fd ps sp) (bind : ∀ (s : Shared) (us : List Value), us.length = ps.length → BindsTo s fd ⟨us, []⟩ (ps.zip us)) (len : ds.length = ps.length)
    (due : ∀ (H : Hp) (xs : List V), H T = some (.tbl #[]) → DwAll K H xs ds → sp xs H (fun v H' => Dw K H' v d0) fun _ _ _ => False) :
    codeAny (model P w) callerA (.call (.ref fa) ⟨us, []⟩) (fun r s' => ∃ u as, r = .ok (.ret u) ∧ ReadsW R cl s'.heap u d0 as ∧ OldK st.heap s'.heap ∧ s'.os = st.os ∧ AllBare s'.gens) st := by
  have ⟨A, oks, ar⟩ := area_all ds us well plain light
  have told : DwAll K (argT K st.heap A T) (us.map toV) ds := dwAll_same (argT_more ar tb) (dw_all KX ar ds us well plain oks)
  have hok : HOk P w (argT K st.heap A T) st.heap := argT_hok ar tb
  have off := @argT_not K st.heap A T ar tb
  have unw := @argT_written K st.heap A T ar nT
  have kinds := @argT_kinds K st.heap A T ar
  have tabd : argT K st.heap A T T = some (.tbl #[]) := argT_at
  generalize argT K st.heap A T = H at told hok off unw kinds tabd
  have inb : K.In (hidT st.heap H) := fun b o e => hidT_get (KX b o e) (unw e)
  have md : L2.Mod K mg (hidT st.heap H) := ⟨inb, hid_ns off names, ⟨mb, hid_ns off own, boot⟩, nolim.elim fun mc z => ⟨mc, hid_ns off z.1, z.2⟩⟩
  have env : Env0 P w K mg (hidT st.heap H) callerA [] st H := ⟨rfl, md, fun _ _ e => of_hidT e, Nat.le_of_eq (hidT_size _ _), trivial, fun b m => absurd (show b ∈ ([] : List Addr) from m) List.not_mem_nil, hok, .of_eq nogen⟩
  have run := (F _ inb (hid_ns off names) (hid_tab off tb C names bi)).run callerA [] st H ⟨us, []⟩ us (us.map toV) _ _ room env (bind st us ((wellAll_len well).trans len)) (vals_toV oks) (due H _ tabd told)
  refine codeAny_mono run fun res s' got => ?_
  match res, got with
  | .error _, got => exact (show False from got).elim
  | .ok .next, got => exact (show False from got).elim
  | .ok .brk, got => exact (show False from got).elim
  | .ok .cont, got => exact (show False from got).elim
  | .ok (.ret u), ⟨v, H2, os, bare, un, hok2, rv, dv⟩ =>
    have stays : ∀ b o, b ≠ T → st.heap.get? b = some o → s'.heap.get? b = some o := fun b o n e => by
      cases q : H b with
      | none => exact un.keep b o e q (fun z => absurd (show b ∈ ([] : List Addr) from z) List.not_mem_nil) (by simp)
      | some x =>
        obtain ⟨ob, y, rfl⟩ := kinds n q
        have h1 : st.heap.get? b = some ob := (hok b _ q).1
        have h2 : s'.heap.get? b = some ob := (hok2 b _ (un.frzs b ob _ q)).1
        exact h2.trans (h1.symm.trans e)
    obtain ⟨more, grown⟩ : ∃ more : Array Value, s'.heap.get? T = some { cls := .none, data := .fields more } := (un.tbls T #[] tabd).elim fun more z => ⟨_, hok2 T _ z⟩
    have KX2 : K.In s'.heap := fun b o e => stays b o (by rintro rfl; rw [nT] at e; cases e) (KX b o e)
    have ⟨as, reads⟩ := Dw.reads (R := R) (cl := cl) hok2 KX2 d0 v u dv rv
    have old : OldK st.heap s'.heap := by
      constructor
      · intro b o e
        by_cases n : b = T
        · subst n
          cases tb.symm.trans e
          exact .inr (.inl ⟨(C.tab tb).isCodeTable, rfl, #[], more, rfl, by rw [Array.empty_append]; exact grown⟩)
        · exact .inl (stays b o n e)
      · intro b o e
        by_cases n : b = T
        · exact ⟨_, n ▸ grown⟩
        · exact ⟨o, stays b o n e⟩
    exact ⟨u, as, rfl, reads, old, os, bare⟩
/-- what is known of the def that makes the lambda -/
structure TabK (K : PySem.W.Frag) (mg : Str → Option Value) (tn : Str) (c T : Addr) : Prop where
  ex : ∃ (ft : Addr) (ot : Obj) (fdt : FuncData), mg tn = some (.ref ft) ∧ K.lookup ft = some ot ∧ ot.data = .func fdt ∧ fdt.code = .ref c
  hd : PySem.W.codeHdIn K c T = true
  no : K.lookup T = none
/-- the row, by a promise that counts on the table of the def tn -/
theorem walk_specT {r : OpenSpec} {k : Nat} {q : Program} {loose : List Str} {XP : (Str → Option Value) → Heap → Prop} {YP : World → Heap → Prop} {d : DefRec} {K : Params → PySem.W.Frag} {ps : List Str} {sp : PySem.W.Frag → Addr → Sp} (tn : Str) (hwell : r.wellSaid = true) (hdf : d.params.defaults = [])
    (hlen : r.args.length = ps.length) (hr : Room k callerA) (hrec : ((recsOf q).any fun e => e.name == tn) = true) (hY : ∀ (w : World) (h : Heap), YP w h → (K w.params).In h)
    (F : ∀ (w : World) (mg : Str → Option Value) (fa : Addr) (h : Heap), YP w h → (K w.params).In h → h.Ns mainGlobals mg → mg d.name = some (.ref fa) → ∃ (fd : FuncData) (c T : Addr), TabK (K w.params) mg tn c T ∧ (∀ (s : Shared) (us : List Value), us.length = ps.length → BindsTo s fd ⟨us, []⟩ (ps.zip us)) ∧
      ∀ base : Heap, (K w.params).In base → base.Ns mainGlobals mg → TabB base mg c T → FnOk r.prog w (K w.params) mg base CX0 k fa fd ps (sp (K w.params) T))
    (hsp : ∀ (K : PySem.W.Frag) (T : Addr) (H : Hp) (xs : List V) (a : Codec.denoteAll r.args), H T = some (.tbl #[]) → Codec.withinAll r.args a = true → Codec.app r.args r.asked a = true → DwAll K H xs (Codec.encAll r.args a) → sp K T xs H (fun v H' => Dw K H' v (r.ret.enc (Codec.app r.args r.f a))) fun _ _ _ => False) :
    PySem.W.WalkOS q loose XP YP r d [] fun f vs => PySem.call f vs := by
  intro w s0 s1 mg mb G Y fa _ _ _ _ _ _ _ _ _ _ hmg hg args vals _ hpre hlay _ hwl _
  obtain ⟨a, dec, askd⟩ := PySem.W.os_pre_some hpre
  obtain ⟨rfl, hwi⟩ := Codec.encAll_of_decAll r.args args a dec
  have KX := hY w _ Y
  obtain ⟨fd, c, T, tk, bind, fok⟩ := F w mg fa _ Y KX G.T.g hmg
  have C := PySem.W.codeHd_of_K KX tk.hd
  have tb : s1.heap.get? T = some noTab := by
    obtain ⟨rc, inq, nm⟩ := List.any_eq_true.mp hrec
    obtain ⟨ft, ot, fdt, g1, g2, g3, g4⟩ := tk.ex
    obtain ⟨f2, o2, fd2, c2, T2, i1, i2, i3, i4, _, i6⟩ := G.T.tab rc inq
    cases ((beq_iff_eq.mp nm ▸ i1).symm.trans g1)
    cases i2.symm.trans (KX _ _ g2)
    cases i3.symm.trans g3
    cases i4.symm.trans g4
    obtain ⟨⟨oc, cv, j1, _, j3, j4⟩, empty⟩ := i6
    obtain ⟨oc2, cv2, _, _, _, _, _, _, _, l1, _, l3, l4, _⟩ := C
    cases j1.symm.trans l1
    cases j3.symm.trans l3
    cases j4.symm.trans l4
    exact empty
  refine PySem.W.enter_call (codeAny_mono (call_tab (R := []) (cl := classAt s0.heap) (d0 := r.ret.enc (Codec.app r.args r.f a)) KX G.T.g G.T.b G.T.builtins G.T.nolimit hg tb tk.no C G.T.bmain hwl (pl_encAll _ _) (layable_weight hlay) hr fok bind ((encAll_len _ _).trans hlen) fun H xs t dw => hsp _ T H xs a t hwi askd dw) ?_)
  rintro _ s2 ⟨u, as, rfl, reads, old, os, bare⟩
  exact ⟨.inl ⟨u, _, as, rfl, fun _ => rfl, reads, (OpenSpec.post_iff hwell hwi _ _).mpr rfl, fun z => by cases z⟩, old, os, bare⟩
end Ob
end

section
set_option Elab.async false
set_option maxRecDepth 100000
set_option maxHeartbeats 4000000
set_option linter.all false
namespace Ob
open PySem PySem.Spec PyProof.Rows L2
open Om (mask bit every follow W Ok left idx)
/-- pairs, each in a tuple of its own -/
def Prs (H : Hp) (l : List (Nat × Nat)) (vs : List V) : Prop := vs.length = l.length ∧ ∀ (i : Nat) (p : Nat × Nat), l[i]? = some p → ∃ t : Addr, vs[i]? = some (V.ref t) ∧ H t = some (.tup [.int (p.1 : Int), .int (p.2 : Int)])
theorem Prs.nil (H : Hp) : Prs H [] [] := ⟨rfl, fun i p h => by simp at h⟩
theorem Prs.keep {H H' : Hp} {l : List (Nat × Nat)} {vs : List V} (h : ∀ t xs, H t = some (.tup xs) → H' t = some (.tup xs)) (r : Prs H l vs) : Prs H' l vs :=
  ⟨r.1, fun i p e => let ⟨t, h1, h2⟩ := r.2 i p e; ⟨t, h1, h _ _ h2⟩⟩
theorem Prs.same {H H' : Hp} {l : List (Nat × Nat)} {vs : List V} (s : Same H H') (r : Prs H l vs) : Prs H' l vs := r.keep fun t xs h => s t _ h
theorem Prs.snoc {H : Hp} {l : List (Nat × Nat)} {vs : List V} {t : Addr} {p : Nat × Nat} (r : Prs H l vs) (ht : H t = some (.tup [.int (p.1 : Int), .int (p.2 : Int)])) : Prs H (l ++ [p]) (vs ++ [.ref t]) := by
  refine ⟨by rw [List.length_append, List.length_append, r.1]; rfl, fun i q e => ?_⟩
  by_cases hi : i < l.length
  · rw [List.getElem?_append_left hi] at e
    obtain ⟨u, h1, h2⟩ := r.2 i q e
    exact ⟨u, by rw [List.getElem?_append_left (by rw [r.1]; exact hi)]; exact h1, h2⟩
  · have hl : i < (l ++ [p]).length := (List.getElem?_eq_some_iff.mp e).1
    rw [List.length_append] at hl
    have hi2 : i = l.length := by
      have : ([p] : List (Nat × Nat)).length = 1 := rfl
      omega
    subst hi2
    rw [List.getElem?_append_right (Nat.le_refl _), Nat.sub_self] at e
    cases e
    refine ⟨t, ?_, ht⟩
    rw [List.getElem?_append_right (by rw [r.1]; exact Nat.le_refl _), r.1, Nat.sub_self]
    rfl
theorem all_taken (o : Or01.Order) : (Or01.things o).take o.many = Or01.things o := List.take_of_length_le (by rw [Om.things_length]; exact Nat.le_refl _)
def pairsBy (o : Or01.Order) (R : Nat → Nat → Bool) (l : List Nat) : List (Nat × Nat) := l.flatMap fun x => ((Or01.things o).filter (R x)).map fun y => (x, y)
theorem pairsBy_more {o : Or01.Order} {R : Nat → Nat → Bool} {l : List Nat} {i x : Nat} (h : l[i]? = some x) : pairsBy o R (l.take (i + 1)) = pairsBy o R (l.take i) ++ ((Or01.things o).filter (R x)).map fun y => (x, y) := by
  unfold pairsBy
  rw [take_more h, List.flatMap_append]
  simp
theorem pairsBy_len {o : Or01.Order} (k : Ok o) (R : Nat → Nat → Bool) (i : Nat) : (pairsBy o R ((Or01.things o).take i)).length ≤ 49 := by
  have key : ∀ l : List Nat, (pairsBy o R l).length ≤ 7 * l.length := by
    intro l
    induction l with
    | nil => exact Nat.le_refl _
    | cons a l ih =>
      show (((Or01.things o).filter (R a)).map (fun y => (a, y)) ++ pairsBy o R l).length ≤ _
      rw [List.length_append, List.length_map, List.length_cons]
      have h1 := List.length_filter_le (R a) (Or01.things o)
      have h2 := Om.things_length o
      have h3 := k.seven
      omega
  have h1 := key ((Or01.things o).take i)
  have h2 := take7 k i
  omega
theorem filter_more {R : Nat → Bool} {l : List Nat} {i x : Nat} (h : l[i]? = some x) : (l.take (i + 1)).filter R = (l.take i).filter R ++ if R x = true then [x] else [] := by
  rw [take_more h, List.filter_append, List.filter_cons]
  rfl
/-- open ones -/
def opR (o : Or01.Order) (x y : Nat) : Bool := decide (x < y) && (!Or01.below o x y && !Or01.below o y x)
theorem open_by (o : Or01.Order) : Or01.open_ o = pairsBy o (opR o) (Or01.things o) := rfl
/-- next ones -/
def nxR (o : Or01.Order) (x y : Nat) : Bool := Or01.below o x y && (Or01.things o).all fun z => !(Or01.below o x z && Or01.below o z y)
theorem next_by (o : Or01.Order) : Or01.next o = pairsBy o (nxR o) (Or01.things o) := rfl
section
variable {P : Program} {w : World} {K : PySem.W.Frag} {mg : Str → Option Value} {base : Heap}
/-! open_pairs -/
def spPairs (R : Or01.Order → Nat → Nat → Bool) : Sp := fun vs H Q _ => ∃ (d : Addr) (o : Or01.Order), vs = [.ref d] ∧ Ok o ∧ H d = some (.dK (tbl o)) ∧
  ∀ H' q ws, Same H H' → H q = none → H' q = some (.lst ws) → Prs H' (pairsBy o (R o) (Or01.things o)) ws → Q (.ref q) H'
/-- how far the two loops are -/
structure PInv (H : Hp) (d q : Addr) (od : Obj) (o : Or01.Order) (l : List (Nat × Nat)) (H' : Hp) (ws : List V) : Prop where
  same : Same (upd H d (.frz od (.dK (tbl o)))) H'
  at_ : H' q = some (.lst ws)
  prs : Prs H' l ws
/-- one more pair is appended -/
theorem PInv.push {H H' : Hp} {d q t : Addr} {od : Obj} {o : Or01.Order} {l : List (Nat × Nat)} {ws : List V} {p : Nat × Nat} (hd : H d = some (.dK (tbl o))) (hq : H q = none) (I : PInv H d q od o l H' ws) (ht : H' t = none) :
    PInv H d q od o (l ++ [p]) (upd (upd H' t (.tup [.int (p.1 : Int), .int (p.2 : Int)])) q (.lst (ws ++ [.ref t]))) (ws ++ [.ref t]) := by
  have nt : t ≠ q := (ne_of_none I.at_ ht).symm
  have fl : (upd H d (.frz od (.dK (tbl o)))) q = none := free_lock hd hq
  refine ⟨same_upd (same_upd I.same (I.same.free ht)) fl, upd_same, (I.prs.keep fun u xs h => ?_).snoc ?_⟩
  · have n1 : u ≠ q := ne_of h I.at_ (by intro z; cases z)
    rw [upd_ne n1, upd_ne (ne_of_none h ht)]
    exact h
  · rw [upd_ne nt, upd_same]
theorem scOpen : FnScope ["below", "found", "x", "y"] ["below"] (defScope sOpenPairs) := ⟨rfl, rfl, rfl, by decide +kernel, rfl, by decide +kernel, by decide +kernel⟩
theorem ok_open {f : Addr} {fd : FuncData} (F : Fun K "open_pairs" "open_pairs" sOpenPairs f fd) (L : Df P w K mg base 2 "lies_below" ["below", "x", "y"] spLies) : FnOk P w K mg base CX0 3 f fd ["below"] (spPairs opR) := by
  obtain ⟨fL, fdL, gL, kL, bL, GL⟩ := L.ex
  refine F.ok scOpen (fun vs H Q E h => ?_) (fun cdv A outer s H vs Q E hr h => ?_)
  · obtain ⟨d, o, rfl, _⟩ := h
    rfl
  · obtain ⟨d, o, rfl, ko, hd, k⟩ := h
    refine ⟨_, pss_cons (ps_set (i := 1) scOpen.nd rfl (Or.inl rfl) (pe_lst pa_nil))
      (pss_cons (ps_lock (ps_for PassesOwn.never rfl (pi_keys (pv 0)) (pg_name (i := 2) scOpen.nd rfl (Or.inl rfl))
        (pss_one (ps_for PassesOwn.never rfl (pi_keys (pv 0)) (pg_name (i := 3) scOpen.nd rfl (Or.inl rfl))
          (pss_one (ps_if (PW.pt (pw_and (pt_cmp (pc_lt (pv 2) (pv 3))) (pw_and (pt_not (pt_val (pe_call GL hr (by rfl) gL kL bL .nil pass0 (pa_cons (pv 0) (pa_cons (pv 2) (pa_cons (pv 3) pa_nil)))))) (pw_and1 (pt_not (pt_val (pe_call GL hr (by rfl) gL kL bL .nil pass0 (pa_cons (pv 0) (pa_cons (pv 3) (pa_cons (pv 2) pa_nil)))))))))) 
            (pss_one (ps_expr (pe_bm PySem.F.plainAttrs_list PySem.F.slot_list_append PySem.F.type_list_append mt_append (pv 1) (pa_cons (pe_tup (pa_cons (pv 2) (pa_cons (pv 3) pa_nil))) pa_nil)))) pss_nil))))))
      (pss_one (ps_ret (pv 1)))), ?_⟩
    refine ⟨(by show 0 ≤ sizeLine; decide), fun q hq => ?_⟩
    have hd1 : (upd H q (.lst [])) d = some (.dK (tbl o)) := by rw [upd_ne (ne_of_none hd hq)]; exact hd
    have nq : q ≠ d := (ne_of_none hd hq).symm
    refine ⟨d, _, hd1, trivial, fun od => ?_⟩
    refine ⟨_, rfl, d, od, rfl, .inl ⟨_, upd_same, for_it (walk_keys (kvs := tbl o))
      (fun i σ H' => ∃ (v2 v3 : Option V) (ws : List V), σ = [some (.ref d), some (.ref q), v2, v3] ∧ PInv H d q od o (pairsBy o (opR o) ((Or01.things o).take i)) H' ws)
      ⟨none, none, [], rfl, same_new_lock hd hq, by rw [upd_ne nq, upd_same], Prs.nil _⟩ ?_ ?_ ?_⟩⟩
    · rintro i σ H' _ ⟨_, _, _, _, I⟩
      exact I.same d _ upd_same
    · rintro i z σ H' H'' hi ⟨v2, v3, ws, rfl, I⟩ ⟨rfl, kk, v', hk, rfl⟩
      obtain ⟨x, hx, rfl, _⟩ := tblOf_get hk
      have hmx : x ∈ Or01.things o := List.mem_of_getElem? hx
      refine ⟨_, rfl, d, od, rfl, .inl ⟨_, I.same d _ upd_same, for_it (walk_keys (kvs := tbl o))
        (fun j σ H' => ∃ (v3 : Option V) (ws : List V), σ = [some (.ref d), some (.ref q), some (.int (x : Int)), v3] ∧ PInv H d q od o (pairsBy o (opR o) ((Or01.things o).take i) ++ (((Or01.things o).take j).filter (opR o x)).map fun y => (x, y)) H' ws)
        ⟨v3, ws, rfl, by simpa using I⟩ ?_ ?_ ?_⟩⟩
      · rintro j σ H' _ ⟨_, _, _, I⟩
        exact I.same d _ upd_same
      · rintro j z σ H' H'' hj ⟨v3, ws, rfl, I⟩ ⟨rfl, kk, v', hk, rfl⟩
        obtain ⟨y, hy, rfl, _⟩ := tblOf_get hk
        have hmy : y ∈ Or01.things o := List.mem_of_getElem? hy
        have hf : Rd H'' d (.dK (tbl o)) := .inr ⟨od, I.same d _ upd_same⟩
        have more := filter_more (R := opR o x) hy
        have no : opR o x y = false → PInv H d q od o (pairsBy o (opR o) ((Or01.things o).take i) ++ (((Or01.things o).take (j + 1)).filter (opR o x)).map fun y => (x, y)) H'' ws := fun e => by
          rw [more, if_neg (by rw [e]; exact Bool.false_ne_true), List.append_nil]
          exact I
        refine ⟨_, rfl, _, rfl, _, _, rfl, rfl, _, rfl, ?_⟩
        by_cases c1 : x < y
        rotate_left
        · refine iteFo (decide_eq_false (by omega)) ?_
          refine iteF ?_
          exact ⟨_, ws, rfl, no (by unfold opR; rw [decide_eq_false c1]; rfl)⟩
        refine iteTo (decide_eq_true (by omega)) ?_
        refine ⟨_, rfl, _, rfl, _, rfl, d, o, x, y, rfl, ko, hf, hmx, hmy, _, rfl, ?_⟩
        cases c2 : Or01.below o x y with
        | true =>
          refine iteFo rfl ?_
          refine iteF ?_
          exact ⟨_, ws, rfl, no (by unfold opR; rw [c2]; simp)⟩
        | false =>
          refine iteTo rfl ?_
          refine ⟨_, rfl, _, rfl, _, rfl, d, o, y, x, rfl, ko, hf, hmy, hmx, _, rfl, ?_⟩
          cases c3 : Or01.below o y x with
          | true =>
            refine iteFo rfl ?_
            exact ⟨_, ws, rfl, no (by unfold opR; rw [c3]; simp)⟩
          | false =>
            refine iteTo rfl ?_
            have hn : ws.length ≤ 1000 := by
              rw [I.prs.1, List.length_append, List.length_map]
              have h1 := pairsBy_len ko (opR o) i
              have h2 := many7 ko (opR o x) j
              omega
            refine ⟨_, rfl, .inl ⟨rfl, _, SqL.of I.at_⟩, _, rfl, _, rfl, (by show 2 ≤ sizeLine; decide), fun t ht => ?_⟩
            have nt : q ≠ t := ne_of_none I.at_ ht
            refine ⟨q, _, _, rfl, rfl, (by rw [upd_ne nt]; exact I.at_), small1000 hn, ?_⟩
            refine ⟨_, ws ++ [V.ref t], rfl, ?_⟩
            rw [more, if_pos (by unfold opR; rw [c2, c3, decide_eq_true c1]; rfl), List.map_append, ← List.append_assoc]
            exact I.push hd hq ht
      · rintro σ H' ⟨v3, ws, rfl, I⟩
        rw [tbl_length, all_taken o] at I
        refine ⟨_, _, ws, rfl, ?_⟩
        rw [pairsBy_more hx]
        exact I
    · rintro σ H' ⟨v2, v3, ws, rfl, I⟩
      rw [tbl_length, all_taken o] at I
      refine ⟨I.same d _ upd_same, _, rfl, k _ q ws (same_unlock hd I.same) hq ?_ (I.prs.keep fun t xs h => ?_)⟩
      · rw [upd_ne nq]
        exact I.at_
      · have hz := I.same d _ upd_same
        rw [upd_ne (ne_of h hz (by intro z; cases z))]
        exact h
/-! lies_between -/
def btw (o : Or01.Order) (x y z : Nat) : Bool := Or01.below o x z && Or01.below o z y
def spBetween : Sp := fun vs H Q _ => ∃ (d : Addr) (o : Or01.Order) (x y : Nat) (od : Obj), vs = [.ref d, .int (x : Int), .int (y : Int)] ∧ Ok o ∧ H d = some (.frz od (.dK (tbl o))) ∧ x ∈ Or01.things o ∧ y ∈ Or01.things o ∧
  ∀ H', Same H H' → Q (.bl ((Or01.things o).any (btw o x y))) H'
theorem scBetween : FnScope ["below", "x", "y", "thing"] ["below", "x", "y"] (defScope sBetween) := ⟨rfl, rfl, rfl, by decide +kernel, rfl, by decide +kernel, by decide +kernel⟩
theorem ok_between {f : Addr} {fd : FuncData} (F : Fun K "lies_between" "lies_between" sBetween f fd) (mA : mg "any" = none) (L : Df P w K mg base 2 "lies_below" ["below", "x", "y"] spLies) : FnOk P w K mg base CX0 3 f fd ["below", "x", "y"] spBetween := by
  obtain ⟨fL, fdL, gL, kL, bL, GL⟩ := L.ex
  refine F.ok scBetween (fun vs H Q E h => ?_) (fun cdv A outer s H vs Q E hr h => ?_)
  · obtain ⟨d, o, x, y, od, rfl, _⟩ := h
    rfl
  · obtain ⟨d, o, x, y, od, rfl, ko, hd, hx, hy, k⟩ := h
    refine ⟨_, pss_one (ps_ret (pe_callB (cr_any rfl) (by rfl) mA (by decide +kernel) (pa_cons (pe_lc (own := [("thing", 3)]) (g := gName 3) (tt := tYes) rfl scBetween.nd (pi_keys (pv 0)) (blkOk_by (N := ["below", "x", "y", "thing"]) (sc := defScope sBetween) (by decide +kernel))
      (fun _ _ _ _ _ => pg_name (i := 3) scBetween.nd rfl (Or.inl rfl))
      (fun _ _ _ _ _ => pts_nil)
      (fun _ _ _ _ _ => pe_and (pe_call GL hr (by rfl) gL kL bL .nil pass0 (pa_cons (pv 0) (pa_cons (pv 1) (pa_cons (pv 3) pa_nil)))) (pe_one (pe_call GL hr (by rfl) gL kL bL .nil pass0 (pa_cons (pv 0) (pa_cons (pv 3) (pa_cons (pv 2) pa_nil))))))) pa_nil))), ?_⟩
    refine ⟨_, rfl, d, od, rfl, .inl ⟨_, hd, fun D hD => ?_⟩⟩
    refine lc_it (walk_keys (kvs := tbl o)) (fun i H' => Same H H' ∧ H' D = some (.lst ((((Or01.things o).take i).map (btw o x y)).map V.bl))) ⟨same_upd (Same.refl _) hD, upd_same⟩ ?_ ?_ ?_
    · rintro i H' _ ⟨s1, _⟩
      exact s1 d _ hd
    · rintro i z H' H'' hi ⟨s1, e1⟩ ⟨rfl, kk, v, hk, rfl⟩
      obtain ⟨t, ht, rfl, _⟩ := tblOf_get hk
      have hm : t ∈ Or01.things o := List.mem_of_getElem? ht
      have hf : Rd H'' d (.dK (tbl o)) := .inr ⟨od, s1 d _ hd⟩
      have hsz : ((((Or01.things o).take i).map (btw o x y)).map V.bl).length < sizeLine := small1000 (by rw [List.length_map, List.length_map]; have := take7 ko i; omega)
      have fin : ∀ b, btw o x y t = b → ∃ acc, H'' D = some (.lst acc) ∧ acc.length < sizeLine ∧ Same H (upd H'' D (.lst (acc ++ [V.bl b]))) ∧ (upd H'' D (.lst (acc ++ [V.bl b]))) D = some (.lst ((((Or01.things o).take (i + 1)).map (btw o x y)).map V.bl)) := by
        intro b eb
        refine ⟨_, e1, hsz, same_upd s1 hD, ?_⟩
        rw [upd_same, take_more ht, List.map_append, List.map_append]
        simp [eb]
      refine ⟨rfl, yesT ?_⟩
      refine ⟨_, rfl, _, rfl, _, rfl, d, o, x, t, rfl, ko, hf, hx, hm, _, rfl, ?_⟩
      cases c : Or01.below o x t with
      | false => exact iteF (fin _ (by unfold btw; rw [c]; rfl))
      | true =>
        refine iteT ?_
        refine ⟨_, rfl, _, rfl, _, rfl, d, o, t, y, rfl, ko, hf, hm, hy, ?_⟩
        exact fin _ (by unfold btw; rw [c]; rfl)
    · rintro H' ⟨s1, e1⟩
      rw [tbl_length, all_taken o] at e1
      refine ⟨D, _, rfl, SqL.of e1, ?_⟩
      have := k H' s1
      rw [show ((Or01.things o).map (btw o x y)).any id = (Or01.things o).any (btw o x y) by rw [List.any_map]; rfl]
      exact this
/-! neighbours -/
theorem nx_eq (o : Or01.Order) (x y : Nat) : nxR o x y = (Or01.below o x y && !(Or01.things o).any (btw o x y)) := by
  unfold nxR
  rw [List.not_any_eq_all_not]
  rfl
theorem scNeigh : FnScope ["below", "found", "x", "y"] ["below"] (defScope sNeighbours) := ⟨rfl, rfl, rfl, by decide +kernel, rfl, by decide +kernel, by decide +kernel⟩
theorem ok_neigh {f : Addr} {fd : FuncData} (F : Fun K "neighbours" "neighbours" sNeighbours f fd) (L : Df P w K mg base 2 "lies_below" ["below", "x", "y"] spLies) (BW : Df P w K mg base 3 "lies_between" ["below", "x", "y"] spBetween) : FnOk P w K mg base CX0 4 f fd ["below"] (spPairs nxR) := by
  obtain ⟨fL, fdL, gL, kL, bL, GL⟩ := L.ex
  obtain ⟨fW, fdW, gW, kW, bW, GW⟩ := BW.ex
  refine F.ok scNeigh (fun vs H Q E h => ?_) (fun cdv A outer s H vs Q E hr h => ?_)
  · obtain ⟨d, o, rfl, _⟩ := h
    rfl
  · obtain ⟨d, o, rfl, ko, hd, k⟩ := h
    have hr2 : Room 2 _ := hr.mono (by decide)
    refine ⟨_, pss_cons (ps_set (i := 1) scNeigh.nd rfl (Or.inl rfl) (pe_lst pa_nil))
      (pss_cons (ps_lock (ps_for PassesOwn.never rfl (pi_keys (pv 0)) (pg_name (i := 2) scNeigh.nd rfl (Or.inl rfl))
        (pss_one (ps_for PassesOwn.never rfl (pi_keys (pv 0)) (pg_name (i := 3) scNeigh.nd rfl (Or.inl rfl))
          (pss_one (ps_if (PW.pt (pw_and (pt_val (pe_call GL hr2 (by rfl) gL kL bL .nil pass0 (pa_cons (pv 0) (pa_cons (pv 2) (pa_cons (pv 3) pa_nil))))) (pw_and1 (pt_not (pt_val (pe_call GW hr (by rfl) gW kW bW .nil pass0 (pa_cons (pv 0) (pa_cons (pv 2) (pa_cons (pv 3) pa_nil)))))))))
            (pss_one (ps_expr (pe_bm PySem.F.plainAttrs_list PySem.F.slot_list_append PySem.F.type_list_append mt_append (pv 1) (pa_cons (pe_tup (pa_cons (pv 2) (pa_cons (pv 3) pa_nil))) pa_nil)))) pss_nil))))))
      (pss_one (ps_ret (pv 1)))), ?_⟩
    refine ⟨(by show 0 ≤ sizeLine; decide), fun q hq => ?_⟩
    have hd1 : (upd H q (.lst [])) d = some (.dK (tbl o)) := by rw [upd_ne (ne_of_none hd hq)]; exact hd
    have nq : q ≠ d := (ne_of_none hd hq).symm
    refine ⟨d, _, hd1, trivial, fun od => ?_⟩
    refine ⟨_, rfl, d, od, rfl, .inl ⟨_, upd_same, for_it (walk_keys (kvs := tbl o))
      (fun i σ H' => ∃ (v2 v3 : Option V) (ws : List V), σ = [some (.ref d), some (.ref q), v2, v3] ∧ PInv H d q od o (pairsBy o (nxR o) ((Or01.things o).take i)) H' ws)
      ⟨none, none, [], rfl, same_new_lock hd hq, by rw [upd_ne nq, upd_same], Prs.nil _⟩ ?_ ?_ ?_⟩⟩
    · rintro i σ H' _ ⟨_, _, _, _, I⟩
      exact I.same d _ upd_same
    · rintro i z σ H' H'' hi ⟨v2, v3, ws, rfl, I⟩ ⟨rfl, kk, v', hk, rfl⟩
      obtain ⟨x, hx, rfl, _⟩ := tblOf_get hk
      have hmx : x ∈ Or01.things o := List.mem_of_getElem? hx
      refine ⟨_, rfl, d, od, rfl, .inl ⟨_, I.same d _ upd_same, for_it (walk_keys (kvs := tbl o))
        (fun j σ H' => ∃ (v3 : Option V) (ws : List V), σ = [some (.ref d), some (.ref q), some (.int (x : Int)), v3] ∧ PInv H d q od o (pairsBy o (nxR o) ((Or01.things o).take i) ++ (((Or01.things o).take j).filter (nxR o x)).map fun y => (x, y)) H' ws)
        ⟨v3, ws, rfl, by simpa using I⟩ ?_ ?_ ?_⟩⟩
      · rintro j σ H' _ ⟨_, _, _, I⟩
        exact I.same d _ upd_same
      · rintro j z σ H' H'' hj ⟨v3, ws, rfl, I⟩ ⟨rfl, kk, v', hk, rfl⟩
        obtain ⟨y, hy, rfl, _⟩ := tblOf_get hk
        have hmy : y ∈ Or01.things o := List.mem_of_getElem? hy
        have hf : Rd H'' d (.dK (tbl o)) := .inr ⟨od, I.same d _ upd_same⟩
        have more := filter_more (R := nxR o x) hy
        have no : ∀ {H3 : Hp}, nxR o x y = false → Same H'' H3 → PInv H d q od o (pairsBy o (nxR o) ((Or01.things o).take i) ++ (((Or01.things o).take (j + 1)).filter (nxR o x)).map fun y => (x, y)) H3 ws := fun e s3 => by
          rw [more, if_neg (by rw [e]; exact Bool.false_ne_true), List.append_nil]
          exact ⟨I.same.trans s3, s3 _ _ I.at_, I.prs.same s3⟩
        refine ⟨_, rfl, _, rfl, _, rfl, d, o, x, y, rfl, ko, hf, hmx, hmy, _, rfl, ?_⟩
        cases c2 : Or01.below o x y with
        | false =>
          refine iteF ?_
          refine iteF ?_
          exact ⟨_, ws, rfl, no (by rw [nx_eq, c2]; rfl) (Same.refl _)⟩
        | true =>
          refine iteT ?_
          refine ⟨_, rfl, _, rfl, _, rfl, d, o, x, y, od, rfl, ko, I.same d _ upd_same, hmx, hmy, fun H3 s3 => ⟨_, rfl, ?_⟩⟩
          cases c3 : (Or01.things o).any (btw o x y) with
          | true =>
            refine iteFo rfl ?_
            exact ⟨_, ws, rfl, no (by rw [nx_eq, c3]; simp) s3⟩
          | false =>
            refine iteTo rfl ?_
            have I3 : PInv H d q od o (pairsBy o (nxR o) ((Or01.things o).take i) ++ (((Or01.things o).take j).filter (nxR o x)).map fun y => (x, y)) H3 ws := ⟨I.same.trans s3, s3 _ _ I.at_, I.prs.same s3⟩
            have hn : ws.length ≤ 1000 := by
              rw [I.prs.1, List.length_append, List.length_map]
              have h1 := pairsBy_len ko (nxR o) i
              have h2 := many7 ko (nxR o x) j
              omega
            refine ⟨_, rfl, .inl ⟨rfl, _, SqL.of I3.at_⟩, _, rfl, _, rfl, (by show 2 ≤ sizeLine; decide), fun t ht => ?_⟩
            have nt : q ≠ t := ne_of_none I3.at_ ht
            refine ⟨q, _, _, rfl, rfl, (by rw [upd_ne nt]; exact I3.at_), small1000 hn, ?_⟩
            refine ⟨_, ws ++ [V.ref t], rfl, ?_⟩
            rw [more, if_pos (by rw [nx_eq, c2, c3]; rfl), List.map_append, ← List.append_assoc]
            exact I3.push hd hq ht
      · rintro σ H' ⟨v3, ws, rfl, I⟩
        rw [tbl_length, all_taken o] at I
        refine ⟨_, _, ws, rfl, ?_⟩
        rw [pairsBy_more hx]
        exact I
    · rintro σ H' ⟨v2, v3, ws, rfl, I⟩
      rw [tbl_length, all_taken o] at I
      refine ⟨I.same d _ upd_same, _, rfl, k _ q ws (same_unlock hd I.same) hq ?_ (I.prs.keep fun t xs h => ?_)⟩
      · rw [upd_ne nq]
        exact I.at_
      · have hz := I.same d _ upd_same
        rw [upd_ne (ne_of h hz (by intro z; cases z))]
        exact h
/-! rows_with_both -/
def spBoth : Sp := fun vs H Q _ => ∃ (d : Addr) (o : Or01.Order) (x y z : Nat), vs = [.ref d, .int (x : Int), .int (y : Int), .int (z : Int)] ∧ Ok o ∧ H d = some (.dK (tbl o)) ∧ x ∈ Or01.things o ∧ y ∈ Or01.things o ∧ z ∈ Or01.things o ∧ x ≠ y ∧ x ≠ z ∧
  ∀ H', Same H H' → Q (.int ((Om.aheadBoth o x y z : Nat) : Int)) H'
theorem scBoth : FnScope ["below", "x", "y", "z"] ["below", "x", "y", "z"] (defScope sWithBoth) := ⟨rfl, rfl, rfl, by decide +kernel, rfl, by decide +kernel, by decide +kernel⟩
theorem ok_rowsBoth {f : Addr} {fd : FuncData} (F : Fun K "rows_with_both" "rows_with_both" sWithBoth f fd) (L : Df P w K mg base 2 "lies_below" ["below", "x", "y"] spLies) (Te : Df P w K mg base 3 "tell" ["below", "x", "y"] spTell)
    (M : Df P w K mg base 6 "rows_with_ahead" ["below", "x", "y"] spAhead) : FnOk P w K mg base CX0 7 f fd ["below", "x", "y", "z"] spBoth := by
  obtain ⟨fL, fdL, gL, kL, bL, GL⟩ := L.ex
  obtain ⟨fT, fdT, gT, kT, bT, GT⟩ := Te.ex
  obtain ⟨fM, fdM, gM, kM, bM, GM⟩ := M.ex
  refine F.ok scBoth (fun vs H Q E h => ?_) (fun cdv A outer s H vs Q E hr h => ?_)
  · obtain ⟨d, o, x, y, z, rfl, _⟩ := h
    rfl
  · obtain ⟨d, o, x, y, z, rfl, ko, hd, hx, hy, hz, ny, nz, k⟩ := h
    have hr2 : Room 2 _ := hr.mono (by decide)
    have hr3 : Room 3 _ := hr.mono (by decide)
    refine ⟨_, pss_cons (ps_if (pt_val (pe_call GL hr2 (by rfl) gL kL bL .nil pass0 (pa_cons (pv 0) (pa_cons (pv 2) (pa_cons (pv 1) pa_nil))))) (pss_one (ps_ret pe_int)) pss_nil)
      (pss_one (ps_ret (pe_call GM hr (by rfl) gM kM bM .nil pass0 (pa_cons (pe_call GT hr3 (by rfl) gT kT bT .nil pass0 (pa_cons (pv 0) (pa_cons (pv 1) (pa_cons (pv 2) pa_nil)))) (pa_cons (pv 1) (pa_cons (pv 3) pa_nil)))))), ?_⟩
    refine ⟨_, rfl, _, rfl, _, rfl, d, o, y, x, rfl, ko, .inl hd, hy, hx, _, rfl, ?_⟩
    rw [Om.both_with ko hx hy hz ny nz] at k
    cases c : Or01.below o y x with
    | true =>
      rw [c, if_pos (.inl rfl)] at k
      exact iteT (k H (Same.refl H))
    | false =>
      refine iteF ?_
      have ok2 := Om.ok_with ko hx hy ny c
      refine ⟨_, rfl, _, rfl, _, rfl, d, o, x, y, rfl, ko, hd, hx, hy, ny, c, fun H1 q s1 hq e1 => ?_⟩
      refine ⟨_, rfl, _, rfl, q, Or01.with_ o x y, x, z, rfl, ok2, e1, hx, hz, nz, fun H2 s2 => ?_⟩
      rw [Om.ahead_with ok2 hx hz nz, Om.below_with_back ko hx hy hz ny c]
      rw [c] at k
      have k2 := k H2 (s1.trans s2)
      cases c2 : Or01.below o z x with
      | true =>
        rw [c2, if_pos (.inr rfl)] at k2
        exact k2
      | false =>
        rw [c2, if_neg (by rintro (h | h) <;> cases h)] at k2
        exact k2
/-! how_many_things -/
def inS (p t : Nat) : Bool := p.testBit (t - 1)
def spHowThings : Sp := fun vs H Q _ => ∃ (d : Addr) (o : Or01.Order) (p : Nat), vs = [.ref d, .int (p : Int)] ∧ Ok o ∧ Rd H d (.dK (tbl o)) ∧
  ∀ H', Same H H' → Q (.int ((Om.card o p : Nat) : Int)) H'
theorem scHowThings : FnScope ["below", "placed", "thing"] ["below", "placed"] (defScope sHowThings) := ⟨rfl, rfl, rfl, by decide +kernel, rfl, by decide +kernel, by decide +kernel⟩
theorem ne_bit (p t : Nat) : (!decide (((p &&& bit t : Nat) : Int) = 0)) = inS p t := by
  have h := @Om.and_bit_zero p t
  have e : decide (((p &&& bit t : Nat) : Int) = 0) = (p &&& bit t == 0) := by
    rw [Bool.eq_iff_iff, decide_eq_true_iff, beq_iff_eq]; omega
  rw [e, h, Bool.not_not]
  rfl
theorem ok_howThings {f : Addr} {fd : FuncData} (F : Fun K "how_many_things" "how_many_things" sHowThings f fd) (T : Bi mg) (B : Df P w K mg base 1 "bit_of" ["thing"] spBit) : FnOk P w K mg base CX0 2 f fd ["below", "placed"] spHowThings := by
  obtain ⟨fB, fdB, gB, kB, bB, GB⟩ := B.ex
  refine F.ok scHowThings (fun vs H Q E h => ?_) (fun cdv A outer s H vs Q E hr h => ?_)
  · obtain ⟨d, o, p, rfl, _⟩ := h
    rfl
  · obtain ⟨d, o, p, rfl, ko, hd, k⟩ := h
    have turn : ∀ {H0 H'' : Hp} {D : Addr} {i t : Nat}, (Or01.things o)[i]? = some t → Same H0 H'' → H0 D = none → H'' D = some (.lst (vInts (((Or01.things o).take i).filter (inS p)))) → ∀ b, inS p t = b →
        if b = true then ∃ acc, H'' D = some (.lst acc) ∧ acc.length < sizeLine ∧ Same H0 (upd H'' D (.lst (acc ++ [V.int (t : Int)]))) ∧ (upd H'' D (.lst (acc ++ [V.int (t : Int)]))) D = some (.lst (vInts (((Or01.things o).take (i + 1)).filter (inS p))))
        else Same H0 H'' ∧ H'' D = some (.lst (vInts (((Or01.things o).take (i + 1)).filter (inS p)))) := by
      intro H0 H'' D i t ht s1 hD e1 b eb
      have more := filter_more (R := inS p) ht
      cases b with
      | true =>
        refine iteT ⟨_, e1, small1000 (by rw [vInts_length]; have := many7 ko (inS p) i; omega), same_upd s1 hD, ?_⟩
        rw [upd_same, more, if_pos eb, vInts_append]
        rfl
      | false =>
        refine iteF ⟨s1, ?_⟩
        rw [more, if_neg (by rw [eb]; exact Bool.false_ne_true), List.append_nil]
        exact e1
    rcases hd with hd | ⟨od, hd⟩
    · refine ⟨_, pss_one (ps_ret (pe_callB call_len_seq (by rfl) T.len PySem.boot_len (pa_cons (pe_lock (pe_lc (own := [("thing", 2)]) (g := gName 2) rfl scHowThings.nd (pi_keys (pv 0)) (blkOk_by (N := ["below", "placed", "thing"]) (sc := defScope sHowThings) (by decide +kernel))
        (fun _ _ _ _ _ => pg_name (i := 2) scHowThings.nd rfl (Or.inl rfl))
        (fun _ _ _ _ _ => pts_one (pt_cmp (pc_neI (pe_op op_andN (pv 1) (pe_call GB hr (by rfl) gB kB bB .nil pass0 (pa_cons (pv 2) pa_nil))) pe_int)))
        (fun _ _ _ _ _ => pv 2))) pa_nil))), ?_⟩
      refine ⟨d, _, hd, trivial, fun od => ?_⟩
      refine ⟨_, rfl, d, od, rfl, .inl ⟨_, upd_same, fun D hD => ?_⟩⟩
      have nd : D ≠ d := fun e => by subst e; rw [upd_same] at hD; cases hD
      have hD' : H D = none := by rw [upd_ne nd] at hD; exact hD
      refine lc_it (walk_keys (kvs := tbl o)) (fun i H' => Same (upd H d (.frz od (.dK (tbl o)))) H' ∧ H' D = some (.lst (vInts (((Or01.things o).take i).filter (inS p))))) ⟨same_upd (Same.refl _) hD, upd_same⟩ ?_ ?_ ?_
      · rintro i H' _ ⟨s1, _⟩
        exact s1 d _ upd_same
      · rintro i x H' H'' hi ⟨s1, e1⟩ ⟨rfl, kk, v, hk, rfl⟩
        obtain ⟨t, ht, rfl, _⟩ := tblOf_get hk
        have hm : t ∈ Or01.things o := List.mem_of_getElem? ht
        refine ⟨rfl, _, rfl, _, rfl, t, rfl, (thing7 ko hm).1, (thing7 ko hm).2, p, bit t, rfl, rfl, _, _, rfl, rfl, _, rfl, ?_⟩
        have tn := turn ht s1 hD e1 _ rfl
        rw [← ne_bit p t] at tn
        by_cases c : (!decide (((p &&& bit t : Nat) : Int) = 0)) = true
        · rw [if_pos c] at tn
          refine iteTo c ⟨_, rfl, tn⟩
        · rw [if_neg c] at tn
          refine iteFo (Bool.eq_false_iff.mpr c) tn
      · rintro H' ⟨s1, e1⟩
        rw [tbl_length, all_taken o] at e1
        refine ⟨s1 d _ upd_same, D, _, rfl, .inl (SqL.of (by rw [upd_ne nd]; exact e1)), ?_⟩
        rw [vInts_length]
        exact k _ (same_unlock hd s1)
    · refine ⟨_, pss_one (ps_ret (pe_callB call_len_seq (by rfl) T.len PySem.boot_len (pa_cons (pe_lc (own := [("thing", 2)]) (g := gName 2) rfl scHowThings.nd (pi_keys (pv 0)) (blkOk_by (N := ["below", "placed", "thing"]) (sc := defScope sHowThings) (by decide +kernel))
        (fun _ _ _ _ _ => pg_name (i := 2) scHowThings.nd rfl (Or.inl rfl))
        (fun _ _ _ _ _ => pts_one (pt_cmp (pc_neI (pe_op op_andN (pv 1) (pe_call GB hr (by rfl) gB kB bB .nil pass0 (pa_cons (pv 2) pa_nil))) pe_int)))
        (fun _ _ _ _ _ => pv 2)) pa_nil))), ?_⟩
      refine ⟨_, rfl, d, od, rfl, .inl ⟨_, hd, fun D hD => ?_⟩⟩
      refine lc_it (walk_keys (kvs := tbl o)) (fun i H' => Same H H' ∧ H' D = some (.lst (vInts (((Or01.things o).take i).filter (inS p))))) ⟨same_upd (Same.refl _) hD, upd_same⟩ ?_ ?_ ?_
      · rintro i H' _ ⟨s1, _⟩
        exact s1 d _ hd
      · rintro i x H' H'' hi ⟨s1, e1⟩ ⟨rfl, kk, v, hk, rfl⟩
        obtain ⟨t, ht, rfl, _⟩ := tblOf_get hk
        have hm : t ∈ Or01.things o := List.mem_of_getElem? ht
        refine ⟨rfl, _, rfl, _, rfl, t, rfl, (thing7 ko hm).1, (thing7 ko hm).2, p, bit t, rfl, rfl, _, _, rfl, rfl, _, rfl, ?_⟩
        have tn := turn ht s1 hD e1 _ rfl
        rw [← ne_bit p t] at tn
        by_cases c : (!decide (((p &&& bit t : Nat) : Int) = 0)) = true
        · rw [if_pos c] at tn
          refine iteTo c ⟨_, rfl, tn⟩
        · rw [if_neg c] at tn
          refine iteFo (Bool.eq_false_iff.mpr c) tn
      · rintro H' ⟨s1, e1⟩
        rw [tbl_length, all_taken o] at e1
        refine ⟨D, _, rfl, .inl (SqL.of e1), ?_⟩
        rw [vInts_length]
        exact k _ s1
end
end Ob
end

section
set_option Elab.async false
set_option maxRecDepth 100000
set_option maxHeartbeats 4000000
set_option linter.all false
namespace Ob
open PySem PySem.Spec PyProof.Rows L2
open Om (mask bit every follow W Ok left idx T leads card)
/-! a list of numbers by a function -/
def tl (n : Nat) (f : Nat → Nat) : List V := vInts ((List.range n).map f)
theorem tl_length (n : Nat) (f : Nat → Nat) : (tl n f).length = n := by
  rw [tl, vInts_length, List.length_map, List.length_range]
theorem tl_get {n : Nat} {f : Nat → Nat} {j : Nat} (h : j < n) : (tl n f)[j]? = some (.int ((f j : Nat) : Int)) := by
  unfold tl vInts
  rw [List.getElem?_map, List.getElem?_map, List.getElem?_range h]
  rfl
theorem tl_ix {n : Nat} {f : Nat → Nat} {j : Nat} (h : j < n) : atI (tl n f) (j : Int) = some (.int ((f j : Nat) : Int)) := atI_nat (tl_get h)
theorem tl_none {n : Nat} {f : Nat → Nat} {j : Nat} (h : n ≤ j) : (tl n f)[j]? = none := List.getElem?_eq_none (by rw [tl_length]; exact h)
theorem tl_ext {n : Nat} {f g : Nat → Nat} (h : ∀ j, j < n → f j = g j) : tl n f = tl n g := by
  unfold tl
  rw [List.map_congr_left fun j hj => h j (List.mem_range.mp hj)]
theorem tl_set {n : Nat} {f g : Nat → Nat} {c : Nat} (hc : c < n) (h : ∀ j, j < n → j ≠ c → f j = g j) : (tl n f).set c (.int ((g c : Nat) : Int)) = tl n g := by
  refine List.ext_getElem? fun j => ?_
  rw [List.getElem?_set]
  by_cases e : c = j
  · subst e
    rw [if_pos rfl, tl_length, if_pos hc, tl_get hc]
  · rw [if_neg e]
    by_cases hj : j < n
    · rw [tl_get hj, tl_get hj, h j hj (fun z => e z.symm)]
    · rw [tl_none (by omega), tl_none (by omega)]
theorem ixN_nat {n c : Nat} (h : c < n) : ixN n (c : Int) = some c := by
  unfold ixN
  rw [if_pos (by omega), if_pos (by omega), Int.toNat_natCast]
def rMulN : R2 := fun x y H Q => ∃ a b : Nat, x = .int (a : Int) ∧ y = .int (b : Int) ∧ b ≤ 1000000 ∧ Q (.int ((a * b : Nat) : Int)) H
theorem op_mulN {X : Cx} : OpR X (binaryOp .Mult) rMulN := fun pins s σ H x y v u Q I rx ry q => by
  obtain ⟨a, b, ex, ey, hb, q⟩ := q
  refine op_mul pins s σ H x y v u Q I rx ry ⟨a, b, ex, ey, .inr ⟨by omega, by omega⟩, ?_⟩
  show Q (.int ((a : Int) * (b : Int))) H
  rw [← Int.natCast_mul]
  exact q
section
variable {P : Program} {w : World} {K : PySem.W.Frag} {mg : Str → Option Value} {base : Heap}
/-! ways_ahead -/
def spWaysA : Sp := fun vs H Q _ => ∃ (d : Addr) (o : Or01.Order), vs = [.ref d] ∧ Ok o ∧ Rd H d (.dK (tbl o)) ∧
  ∀ H' q, Same H H' → H q = none → H' q = some (.lst (tl (2 ^ o.many) (T o (2 ^ o.many)))) → Q (.ref q) H'
theorem scWaysA : FnScope ["below", "every", "ways", "placed", "thing", "taken"] ["below"] (defScope sWaysAhead) := ⟨rfl, rfl, rfl, by decide +kernel, rfl, by decide +kernel, by decide +kernel⟩
theorem ta_start (o : Or01.Order) : [V.int 1] ++ (List.replicate (every o) [V.int 0]).flatten = tl (2 ^ o.many) (T o 0) := by
  rw [flat_one]
  refine List.ext_getElem? fun j => ?_
  have hP := every_succ o
  cases j with
  | zero =>
    rw [tl_get (by omega)]
    rfl
  | succ j =>
    show (List.replicate (every o) (V.int 0))[j]? = _
    by_cases h : j < every o
    · rw [List.getElem?_replicate, if_pos h, tl_get (by omega)]
      rfl
    · rw [List.getElem?_eq_none (by simp; omega), tl_none (by omega)]
/-- within one set's turn: behind j of its followers -/
def Tj (o : Or01.Order) (c j q : Nat) : Nat := T o c q + (((follow o c).take j).filter fun t => c ||| bit t == q).length * T o c c
theorem Tj_zero (o : Or01.Order) (c q : Nat) : Tj o c 0 q = T o c q := by
  unfold Tj
  simp
theorem Tj_all (o : Or01.Order) (c q : Nat) : Tj o c (follow o c).length q = T o (c + 1) q := by
  unfold Tj
  rw [List.take_length]
  rfl
theorem Tj_self (o : Or01.Order) (c j : Nat) : Tj o c j c = T o c c := by
  unfold Tj
  have : (((follow o c).take j).filter fun t => c ||| bit t == c) = [] := by
    rw [List.filter_eq_nil_iff]
    intro t ht e
    have e := beq_iff_eq.mp e
    have := Om.or_bit_gt (Om.mem_left.mp (Om.mem_follow (List.mem_of_mem_take ht))).2
    omega
  rw [this]
  simp
theorem Tj_more {o : Or01.Order} {c j t : Nat} (h : (follow o c)[j]? = some t) (q : Nat) : Tj o c (j + 1) q = Tj o c j q + if c ||| bit t = q then T o c c else 0 := by
  unfold Tj
  rw [filter_more (R := fun t => c ||| bit t == q) h, List.length_append, Nat.add_mul]
  by_cases e : c ||| bit t = q
  · rw [if_pos (beq_iff_eq.mpr e), if_pos e]
    simp [Nat.add_assoc]
  · rw [if_neg (fun z => e (beq_iff_eq.mp z)), if_neg e]
    simp
theorem T_every (o : Or01.Order) {q : Nat} (h : q < 2 ^ o.many) : T o (2 ^ o.many) q = T o (every o) q := by
  rw [← every_succ o]
  show T o (every o) q + leads o (every o) q * _ = _
  have hP := every_succ o
  rw [Om.leads_le (by omega)]
  simp
theorem ok_waysA {f : Addr} {fd : FuncData} (F : Fun K "ways_ahead" "ways_ahead" sWaysAhead f fd) (T' : Bi mg) (B : Df P w K mg base 1 "bit_of" ["thing"] spBit) (L : Df P w K mg base 3 "followers" ["below", "placed"] spFollowers) : FnOk P w K mg base CX0 4 f fd ["below"] spWaysA := by
  obtain ⟨fB, fdB, gB, kB, bB, GB⟩ := B.ex
  obtain ⟨fL, fdL, gL, kL, bL, GL⟩ := L.ex
  refine F.ok scWaysA (fun vs H Q E h => ?_) (fun cdv A outer s H vs Q E hr h => ?_)
  · obtain ⟨d, o, rfl, _⟩ := h
    rfl
  · obtain ⟨d, o, rfl, ko, hd, k⟩ := h
    have hr1 : Room 1 _ := hr.mono (by decide)
    refine ⟨_, pss_cons (ps_set (i := 1) scWaysA.nd rfl (Or.inl rfl) (pe_op op_subN (pe_op op_shl1 pe_int (pe_callB call_lenDR (by rfl) T'.len PySem.boot_len (pa_cons (pv 0) pa_nil))) pe_int))
      (pss_cons (ps_set (i := 2) scWaysA.nd rfl (Or.inl rfl) (pe_op op_cat (pe_lst (pa_cons pe_int pa_nil)) (pe_op op_rep (pe_lst (pa_cons pe_int pa_nil)) (pv 1))))
      (pss_cons (ps_for PassesOwn.never rfl (pi_range1 (by rfl) T'.range (pa_cons (pv 1) pa_nil)) (pg_name (i := 3) scWaysA.nd rfl (Or.inl rfl))
        (pss_one (ps_for PassesOwn.never rfl (pi_list (pe_call GL hr (by rfl) gL kL bL .nil pass0 (pa_cons (pv 0) (pa_cons (pv 3) pa_nil)))) (pg_name (i := 4) scWaysA.nd rfl (Or.inl rfl))
          (pss_cons (ps_set (i := 5) scWaysA.nd rfl (Or.inl rfl) (pe_op op_orN (pv 3) (pe_call GB hr1 (by rfl) gB kB bB .nil pass0 (pa_cons (pv 4) pa_nil))))
          (pss_one (ps_asg (pe_op op_addN (pe_ix ix_list (pv 2) (pv 5) (fun _ _ => rfl)) (pe_ix ix_list (pv 2) (pv 3) (fun _ _ => rfl))) (pg_sub (pv 2) (pv 5) set_list)))))))
      (pss_one (ps_ret (pv 2))))), ?_⟩
    have h7 := ko.seven
    have hE1 := every_pos ko
    have hE7 := every_small ko
    have hP := every_succ o
    refine ⟨_, rfl, d, _, rfl, hd, o.many, rfl, ?_, by omega, 2 ^ o.many, 1, rfl, rfl, by omega, ?_⟩
    · rw [tbl_length]
    rw [show 2 ^ o.many - 1 = every o from rfl]
    refine ⟨(by show 1 ≤ sizeLine; decide), fun l0 hl0 => ?_⟩
    refine ⟨(by show 1 ≤ sizeLine; decide), fun l1 hl1 => ?_⟩
    refine ⟨_, rfl, l1, _, _, rfl, rfl, upd_same, by omega, by omega, ?_, fun l2 hl2 => ?_⟩
    · show 1 * ((every o : Nat) : Int).toNat ≤ sizeLine
      rw [Int.toNat_natCast]
      exact Nat.le_of_lt (small1000 (by omega))
    rw [Int.toNat_natCast]
    have n01 : l0 ≠ l1 := fun e => by subst e; rw [upd_same] at hl1; cases hl1
    have n02 : l0 ≠ l2 := fun e => by subst e; rw [upd_ne n01, upd_same] at hl2; cases hl2
    refine ⟨l0, l2, _, _, rfl, rfl, (by rw [upd_ne n02, upd_ne n01]; exact upd_same), upd_same, ?_, fun wa hwa => ?_⟩
    · rw [flat_one, List.length_replicate]
      exact Nat.le_of_lt (small1000 (by show 1 + every o ≤ 1000; omega))
    rw [ta_start]
    have s1 : Same H (upd (upd (upd H l0 (.lst [V.int 1])) l1 (.lst [V.int 0])) l2 (.lst (List.replicate (every o) [V.int 0]).flatten)) := by
      have s0 : Same H (upd H l0 (.lst [V.int 1])) := same_upd (Same.refl H) hl0
      have s2 : Same H (upd (upd H l0 (.lst [V.int 1])) l1 (.lst [V.int 0])) := same_upd s0 (s0.free hl1)
      exact same_upd s2 (s2.free hl2)
    have hwa' : H wa = none := s1.free hwa
    refine ⟨_, rfl, _, rfl, by omega, by omega, for_range (lo := 0) (n := ((every o : Nat) : Int).toNat)
      (fun i σ H' => ∃ v3 v4 v5 : Option V, σ = [some (.ref d), some (.int ((every o : Nat) : Int)), some (.ref wa), v3, v4, v5] ∧ Same H H' ∧ H' wa = some (.lst (tl (2 ^ o.many) (T o i)))) ⟨none, none, none, rfl, same_upd s1 hwa', upd_same⟩ ?_ ?_⟩
    · rintro c σ H' hc ⟨v3, v4, v5, rfl, s5, e5⟩
      rw [Int.toNat_natCast] at hc
      have hcM : c < 2 ^ o.many := by omega
      rw [show (0 : Int) + (c : Int) = (c : Int) by omega]
      refine ⟨_, rfl, _, rfl, d, o, c, rfl, ko, rd_same s5 hd, fun H1 q s6 hq e6 => ⟨q, rfl, ⟨_, SqL.of e6⟩, ?_⟩⟩
      have nq : wa ≠ q := ne_of_none e5 hq
      refine for_list (K := K) (a := q) (xs := vInts (follow o c)) (fun j σ H2 => ∃ v4 v5 : Option V, σ = [some (.ref d), some (.int ((every o : Nat) : Int)), some (.ref wa), some (.int (c : Int)), v4, v5] ∧ Same H H2 ∧ H2 q = some (.lst (vInts (follow o c))) ∧ H2 wa = some (.lst (tl (2 ^ o.many) (Tj o c j))))
        ⟨v4, v5, rfl, s5.trans s6, e6, ?_⟩ ?_ ?_ ?_
      · rw [s6 _ _ e5, tl_ext fun j _ => (Tj_zero o c j).symm]
      · rintro j σ H2 _ ⟨_, _, _, _, e7, _⟩
        exact SqL.of e7
      · rintro j x σ H2 hj ⟨v4, v5, rfl, s7, e7, e8⟩
        obtain ⟨t, ht, rfl⟩ := vInts_get hj
        have hm : t ∈ follow o c := List.mem_of_getElem? ht
        have hth := Om.follow_thing hm
        have hlt : c ||| bit t < 2 ^ o.many := Om.or_bit_lt hcM hth
        refine ⟨_, rfl, _, rfl, t, rfl, (thing7 ko hth).1, (thing7 ko hth).2, c, bit t, rfl, rfl, ?_⟩
        refine ⟨_, rfl, _, rfl, wa, _, _, _, rfl, rfl, SqL.of e8, tl_ix hlt, _, rfl, _, rfl, wa, _, _, _, rfl, rfl, SqL.of e8, tl_ix hcM, _, _, rfl, rfl, ?_⟩
        refine ⟨_, rfl, _, rfl, wa, _, _, c ||| bit t, rfl, rfl, e8, ?_, ?_⟩
        · rw [tl_length]
          exact ixN_nat hlt
        have es : Tj o c j (c ||| bit t) + Tj o c j c = Tj o c (j + 1) (c ||| bit t) := by
          rw [Tj_more ht, if_pos rfl, Tj_self]
        rw [es, tl_set hlt fun i _ ne => by rw [Tj_more ht, if_neg (fun z => ne z.symm), Nat.add_zero]]
        exact ⟨_, _, rfl, same_upd s7 hwa', by rw [upd_ne nq.symm]; exact e7, upd_same⟩
      · rintro σ H2 ⟨v4, v5, rfl, s7, e7, e8⟩
        rw [vInts_length, tl_ext fun q _ => Tj_all o c q] at e8
        exact ⟨_, _, _, rfl, s7, e8⟩
    · rintro σ H' ⟨v3, v4, v5, rfl, s5, e5⟩
      rw [Int.toNat_natCast] at e5
      refine ⟨_, rfl, k _ wa s5 hwa' ?_⟩
      rw [e5, tl_ext fun q hq => (T_every o hq).symm]
/-! rows_by_place -/
/-- what the first i sets give for a place -/
def upTo (o : Or01.Order) (x i k : Nat) : Nat := ((List.range i).map fun p => T o (2 ^ o.many) p * Om.right o x k p).sum
theorem upTo_zero (o : Or01.Order) (x k : Nat) : upTo o x 0 k = 0 := rfl
theorem upTo_more (o : Or01.Order) (x i k : Nat) : upTo o x (i + 1) k = upTo o x i k + T o (2 ^ o.many) i * Om.right o x k i := by
  unfold upTo
  rw [List.range_succ, List.map_append, List.sum_append]
  simp
theorem upTo_all {o : Or01.Order} {x : Nat} (hx : x ∈ Or01.things o) (k : Nat) : upTo o x (2 ^ o.many) k = Om.inPlace o x k := (Om.inPlace_eq hx).symm
theorem card_lt {o : Or01.Order} {x p : Nat} (hx : x ∈ Or01.things o) (h : Om.mayFollow o p x = true) : card o p < o.many := by
  have h1 := Om.mayFollow_bit h
  have h2 : x ∈ left o p := Om.mem_left.mpr ⟨hx, h1⟩
  have h3 := List.length_pos_of_mem h2
  have h4 := Om.card_left o p
  omega
def spByPlace : Sp := fun vs H Q _ => ∃ (d : Addr) (o : Or01.Order) (x : Nat), vs = [.ref d, .int (x : Int)] ∧ Ok o ∧ Rd H d (.dK (tbl o)) ∧ x ∈ Or01.things o ∧
  ∀ H' q, Same H H' → H q = none → H' q = some (.lst (tl o.many (Om.inPlace o x))) → Q (.ref q) H'
theorem scByPlace : FnScope ["below", "thing", "ahead", "behind", "rows", "placed", "ways", "others"] ["below", "thing"] (defScope sByPlace) := ⟨rfl, rfl, rfl, by decide +kernel, rfl, by decide +kernel, by decide +kernel⟩
theorem zeros (n : Nat) : (List.replicate n [V.int 0]).flatten = tl n fun _ => 0 := by
  rw [flat_one]
  refine List.ext_getElem? fun j => ?_
  by_cases h : j < n
  · rw [List.getElem?_replicate, if_pos h, tl_get h]
    rfl
  · rw [List.getElem?_eq_none (by simp; omega), tl_none (by omega)]
theorem ok_byPlace {f : Addr} {fd : FuncData} (F : Fun K "rows_by_place" "rows_by_place" sByPlace f fd) (T' : Bi mg) (mE : mg "enumerate" = none) (B : Df P w K mg base 1 "bit_of" ["thing"] spBit) (M : Df P w K mg base 2 "may_follow" ["below", "placed", "thing"] spMay)
    (HT : Df P w K mg base 2 "how_many_things" ["below", "placed"] spHowThings) (WA : Df P w K mg base 4 "ways_ahead" ["below"] spWaysA) (WB : Df P w K mg base 4 "ways_behind" ["below"] spWays) : FnOk P w K mg base CX0 5 f fd ["below", "thing"] spByPlace := by
  obtain ⟨fB, fdB, gB, kB, bB, GB⟩ := B.ex
  obtain ⟨fM, fdM, gM, kM, bM, GM⟩ := M.ex
  obtain ⟨fH, fdH, gH, kH, bH, GH⟩ := HT.ex
  obtain ⟨fA, fdA, gA, kA, bA, GA⟩ := WA.ex
  obtain ⟨fW, fdW, gW, kW, bW, GW⟩ := WB.ex
  refine F.ok scByPlace (fun vs H Q E h => ?_) (fun cdv A outer s H vs Q E hr h => ?_)
  · obtain ⟨d, o, x, rfl, _⟩ := h
    rfl
  · obtain ⟨d, o, x, rfl, ko, hd, hx, k⟩ := h
    have hr1 : Room 1 _ := hr.mono (by decide)
    have hr2 : Room 2 _ := hr.mono (by decide)
    refine ⟨_, pss_cons (ps_set (i := 2) scByPlace.nd rfl (Or.inl rfl) (pe_call GA hr (by rfl) gA kA bA .nil pass0 (pa_cons (pv 0) pa_nil)))
      (pss_cons (ps_set (i := 3) scByPlace.nd rfl (Or.inl rfl) (pe_call GW hr (by rfl) gW kW bW .nil pass0 (pa_cons (pv 0) pa_nil)))
      (pss_cons (ps_set (i := 4) scByPlace.nd rfl (Or.inl rfl) (pe_op op_rep (pe_lst (pa_cons pe_int pa_nil)) (pe_callB call_lenDR (by rfl) T'.len PySem.boot_len (pa_cons (pv 0) pa_nil))))
      (pss_cons (ps_for PassesOwn.never rfl (pi_enum (by rfl) mE (pa_cons (pv 2) pa_nil)) (pg_tup rfl (pgs_cons (pg_name (i := 5) scByPlace.nd rfl (Or.inl rfl)) (pgs_cons (pg_name (i := 6) scByPlace.nd rfl (Or.inl rfl)) pgs_nil)))
        (pss_one (ps_if (pt_val (pe_call GM hr2 (by rfl) gM kM bM .nil pass0 (pa_cons (pv 0) (pa_cons (pv 5) (pa_cons (pv 1) pa_nil)))))
          (pss_cons (ps_set (i := 7) scByPlace.nd rfl (Or.inl rfl) (pe_call GH hr2 (by rfl) gH kH bH .nil pass0 (pa_cons (pv 0) (pa_cons (pv 5) pa_nil))))
          (pss_one (ps_asg (pe_op op_addN (pe_ix ix_list (pv 4) (pv 7) (fun _ _ => rfl)) (pe_op op_mulN (pv 6) (pe_ix ix_list (pv 3) (pe_op op_orN (pv 5) (pe_call GB hr1 (by rfl) gB kB bB .nil pass0 (pa_cons (pv 1) pa_nil))) (fun _ _ => rfl)))) (pg_sub (pv 4) (pv 7) set_list)))) pss_nil)))
      (pss_one (ps_ret (pv 4)))))), ?_⟩
    have h7 := ko.seven
    refine ⟨_, rfl, d, o, rfl, ko, hd, fun H1 wa s1 hwa e1 => ?_⟩
    refine ⟨_, rfl, d, o, rfl, ko, rd_same s1 hd, fun H2 wb s2 hwb e2 => ?_⟩
    refine ⟨(by show 1 ≤ sizeLine; decide), fun l0 hl0 => ?_⟩
    have s3 : Same H2 (upd H2 l0 (.lst [V.int 0])) := same_upd (Same.refl _) hl0
    refine ⟨_, rfl, d, _, rfl, rd_same s3 (rd_same s2 (rd_same s1 hd)), l0, _, _, rfl, rfl, upd_same, by omega, by rw [tbl_length]; omega, ?_, fun ra hra => ?_⟩
    · show 1 * (((tbl o).length : Nat) : Int).toNat ≤ sizeLine
      rw [Int.toNat_natCast, tbl_length]
      exact Nat.le_of_lt (small1000 (by omega))
    rw [Int.toNat_natCast, tbl_length, zeros]
    have sA : Same H (upd H2 l0 (.lst [V.int 0])) := s1.trans (s2.trans s3)
    have hra' : H ra = none := sA.free hra
    have nwa : wa ≠ ra := ne_of_none (s3 _ _ (s2 _ _ e1)) hra
    have nwb : wb ≠ ra := ne_of_none (s3 _ _ e2) hra
    refine ⟨_, rfl, wa, _, rfl, SqL.of (by rw [upd_ne nwa]; exact s3 _ _ (s2 _ _ e1)), for_it (walk_enum (K := K) (a := wa) (xs := tl (2 ^ o.many) (T o (2 ^ o.many))))
      (fun i σ H' => ∃ v5 v6 v7 : Option V, σ = [some (.ref d), some (.int (x : Int)), some (.ref wa), some (.ref wb), some (.ref ra), v5, v6, v7] ∧ Same H H' ∧ H' wa = some (.lst (tl (2 ^ o.many) (T o (2 ^ o.many)))) ∧ H' wb = some (.lst (wl o 0)) ∧ H' ra = some (.lst (tl o.many (upTo o x i))))
      ⟨none, none, none, rfl, same_upd sA hra', by rw [upd_ne nwa]; exact s3 _ _ (s2 _ _ e1), by rw [upd_ne nwb]; exact s3 _ _ e2, upd_same⟩ ?_ ?_ ?_⟩
    · rintro i σ H' _ ⟨_, _, _, _, _, e, _⟩
      exact SqL.of e
    · rintro i v σ H' H'' hi ⟨v5, v6, v7, rfl, s4, ea, eb, er⟩ ⟨t, u, y, rfl, ht, rfl, hu, hy⟩
      cases hu
      rw [tl_length] at hi
      have hy : (tl (2 ^ o.many) (T o (2 ^ o.many)))[i]? = some y := hy
      rw [tl_get hi] at hy
      cases hy
      have s5 : Same H' (upd H' t (.tup [.int (i : Nat), .int ((T o (2 ^ o.many) i : Nat) : Int)])) := same_upd (Same.refl _) ht
      have hdR := rd_same (s4.trans s5) hd
      refine ⟨t, _, rfl, SqT.of upd_same, rfl, _, _, rfl, _, _, rfl, rfl, ?_⟩
      refine ⟨_, rfl, _, rfl, _, rfl, d, o, i, x, rfl, ko, hdR, hx, _, rfl, ?_⟩
      cases c : Om.mayFollow o i x with
      | false =>
        refine iteF ⟨_, _, _, rfl, s4.trans s5, s5 _ _ ea, s5 _ _ eb, ?_⟩
        rw [s5 _ _ er, tl_ext (g := upTo o x (i + 1)) fun k _ => by
          rw [upTo_more]
          unfold Om.right
          rw [if_neg (by rw [c]; rintro ⟨z, _⟩; cases z), Nat.mul_zero, Nat.add_zero]]
      | true =>
        refine iteT ?_
        have hcl := card_lt hx c
        have hlt : i ||| bit x < 2 ^ o.many := Om.or_bit_lt hi hx
        refine ⟨_, rfl, _, rfl, d, o, i, rfl, ko, hdR, fun H3 s6 => ?_⟩
        have er3 := s6 _ _ (s5 _ _ er)
        have eb3 := s6 _ _ (s5 _ _ eb)
        refine ⟨_, rfl, _, rfl, ra, _, _, _, rfl, rfl, SqL.of er3, tl_ix hcl, _, rfl, _, rfl, _, rfl, _, rfl, x, rfl, (thing7 ko hx).1, (thing7 ko hx).2, i, bit x, rfl, rfl, wb, _, _, _, rfl, rfl, SqL.of eb3, wl_ix hlt (Nat.zero_le _), _, _, rfl, rfl, ?_, _, _, rfl, rfl, ?_⟩
        · have := Om.W_le ko (i ||| bit x)
          omega
        refine ⟨_, rfl, _, rfl, ra, _, _, card o i, rfl, rfl, er3, ?_, ?_⟩
        · rw [tl_length]
          exact ixN_nat hcl
        have es : upTo o x i (card o i) + T o (2 ^ o.many) i * W o (i ||| bit x) = upTo o x (i + 1) (card o i) := by
          rw [upTo_more]
          unfold Om.right
          rw [if_pos ⟨c, rfl⟩]
        rw [es, tl_set hcl fun j _ ne => by
          rw [upTo_more]
          unfold Om.right
          rw [if_neg (fun z => ne z.2.symm), Nat.mul_zero, Nat.add_zero]]
        have na : wa ≠ ra := nwa
        exact ⟨_, _, _, rfl, same_upd (s4.trans (s5.trans s6)) hra', by rw [upd_ne nwa]; exact s6 _ _ (s5 _ _ ea), by rw [upd_ne nwb]; exact eb3, upd_same⟩
    · rintro σ H' ⟨v5, v6, v7, rfl, s4, ea, eb, er⟩
      rw [tl_length, tl_ext fun k _ => upTo_all hx k] at er
      exact ⟨_, rfl, k _ ra s4 hra' er⟩
end
end Ob
end

section
set_option Elab.async false
set_option maxRecDepth 100000
set_option maxHeartbeats 4000000
set_option linter.all false
namespace Ob
open PySem PySem.Spec PyProof.Rows L2
open Om (mask bit every follow W Ok left idx T leads card)
section
variable {P : Program} {w : World} {K : PySem.W.Frag} {mg : Str → Option Value} {base : Heap}
/-! sum_of_places -/
def plSum (n : Nat) (f : Nat → Nat) : Nat := ((List.range n).map fun k => (k + 1) * f k).sum
def spSumPl (K : PySem.W.Frag) : Sp := fun vs H Q _ => ∃ (a : Addr) (n : Nat) (f : Nat → Nat), vs = [.ref a] ∧ SqL K H a (tl n f) ∧ n ≤ 7 ∧ (∀ k, k < n → f k ≤ 1000000) ∧
  ∀ H', Same H H' → Q (.int ((plSum n f : Nat) : Int)) H'
theorem scSumPl : FnScope ["rows", "place", "often"] ["rows"] (defScope sSumPlaces) := ⟨rfl, rfl, rfl, by decide +kernel, rfl, by decide +kernel, by decide +kernel⟩
theorem ok_sumPl {f : Addr} {fd : FuncData} (F : Fun K "sum_of_places" "sum_of_places" sSumPlaces f fd) (T' : Bi mg) (mE : mg "enumerate" = none) : FnOk P w K mg base CX0 1 f fd ["rows"] (spSumPl K) := by
  refine F.ok scSumPl (fun vs H Q E h => ?_) (fun cdv A outer s H vs Q E hr h => ?_)
  · obtain ⟨a, n, g, rfl, _⟩ := h
    rfl
  · obtain ⟨a, n, g, rfl, ha, hn, hg, k⟩ := h
    refine ⟨_, pss_one (ps_ret (pe_callB (cr_sumN rfl) (by rfl) T'.sum PyProof.Rows.boot_sum (pa_cons
      (pe_lc (own := [("place", 1), ("often", 2)]) (g := gTup K 2 (gCons (gName 1) (gCons (gName 2) gNil))) (tt := tYes) rfl scSumPl.nd (pi_enumK ⟨by decide, by decide⟩ (by rfl) mE (pa_cons (pv 0) pa_nil)) (blkOk_by (N := ["rows", "place", "often"]) (sc := defScope sSumPlaces) (by decide +kernel))
        (fun _ _ _ _ _ => pg_tup rfl (pgs_cons (pg_name (i := 1) scSumPl.nd rfl (Or.inl rfl)) (pgs_cons (pg_name (i := 2) scSumPl.nd rfl (Or.inl rfl)) pgs_nil)))
        (fun _ _ _ _ _ => pts_nil)
        (fun _ _ _ _ _ => pe_op op_mulN (pv 1) (pv 2))) pa_nil))), ?_⟩
    refine ⟨_, rfl, a, _, rfl, ha, fun D hD => ?_⟩
    refine lc_it (walk_enumK (K := K) (a := a) (xs := tl n g) (k := 1)) (fun i H' => Same H H' ∧ H' D = some (.lst (tl i fun k => (k + 1) * g k))) ⟨same_upd (Same.refl _) hD, upd_same⟩ ?_ ?_ ?_
    · rintro i H' _ ⟨s1, _⟩
      exact s1.seq ha
    · rintro i v H' H'' hi ⟨s1, e1⟩ ⟨t, u, y, rfl, ht, rfl, hu, hy⟩
      cases hu
      rw [tl_length] at hi
      have hy : (tl n g)[i]? = some y := hy
      rw [tl_get hi] at hy
      cases hy
      have s5 : Same H' (upd H' t (.tup [.int (1 + (i : Nat)), .int ((g i : Nat) : Int)])) := same_upd (Same.refl _) ht
      refine ⟨t, _, rfl, SqT.of upd_same, rfl, _, _, rfl, _, _, rfl, rfl, ?_⟩
      refine ⟨rfl, yesT ?_⟩
      refine ⟨_, rfl, _, rfl, i + 1, g i, ?_, rfl, hg i hi, _, s5 _ _ e1, small1000 (by rw [tl_length]; omega), same_upd (s1.trans s5) hD, ?_⟩
      · exact congrArg V.int (by omega)
      · rw [upd_same]
        unfold tl
        rw [List.range_succ, List.map_append, vInts_append]
        rfl
    · rintro H' ⟨s1, e1⟩
      rw [tl_length] at e1
      exact ⟨D, _, rfl, SqL.of e1, k H' s1⟩
end
end Ob
end

section
set_option Elab.async false
set_option maxRecDepth 100000
set_option maxHeartbeats 4000000
set_option linter.all false
namespace Om
open Or01
/-- how far from a half -/
def off (o : Order) (p : Nat × Nat) : Nat := dist (ahead o p.1 p.2) (rows o).length
theorem nearer_some (o : Order) (q p : Nat × Nat) : nearer o (some q) p = if off o p < off o q then some p else some q := rfl
theorem nearer_mem (o : Order) : ∀ (l : List (Nat × Nat)) (b : Option (Nat × Nat)), (∃ q ∈ l, l.foldl (nearer o) b = some q) ∨ l.foldl (nearer o) b = b
  | [], b => .inr rfl
  | p :: l, b => by
    rw [List.foldl_cons]
    rcases nearer_mem o l (nearer o b p) with ⟨q, h, e⟩ | e
    · exact .inl ⟨q, List.mem_cons_of_mem _ h, e⟩
    · rw [e]
      cases b with
      | none => exact .inl ⟨p, List.mem_cons_self, rfl⟩
      | some q =>
        rw [nearer_some]
        split
        · exact .inl ⟨p, List.mem_cons_self, rfl⟩
        · exact .inr rfl
theorem nearer_stay {o : Order} {p : Nat × Nat} : ∀ {l : List (Nat × Nat)}, (∀ q ∈ l, off o p ≤ off o q) → l.foldl (nearer o) (some p) = some p
  | [], _ => rfl
  | q :: l, h => by
    rw [List.foldl_cons, nearer_some, if_neg (by have := h q List.mem_cons_self; omega)]
    exact nearer_stay fun r hr => h r (List.mem_cons_of_mem _ hr)
theorem nearer_best {o : Order} {l : List (Nat × Nat)} {i : Nat} {p : Nat × Nat} (hp : l[i]? = some p) (h : ∀ m q, l[m]? = some q → off o p ≤ off o q ∧ (m < i → off o p < off o q)) : l.foldl (nearer o) none = some p := by
  obtain ⟨hi, e⟩ := List.getElem?_eq_some_iff.mp hp
  have hs : l = l.take i ++ p :: l.drop (i + 1) := by
    rw [← e, ← List.drop_eq_getElem_cons hi, List.take_append_drop]
  have h1 : ∀ q ∈ l.take i, off o p < off o q := fun q hq => by
    obtain ⟨m, hm⟩ := List.mem_iff_getElem?.mp hq
    have hmi : m < i := by
      have := (List.getElem?_eq_some_iff.mp hm).1
      rw [List.length_take] at this
      omega
    rw [List.getElem?_take_of_lt hmi] at hm
    exact (h m q hm).2 hmi
  have h2 : ∀ q ∈ l.drop (i + 1), off o p ≤ off o q := fun q hq => by
    obtain ⟨m, hm⟩ := List.mem_iff_getElem?.mp (List.mem_of_mem_drop hq)
    exact (h m q hm).1
  rw [hs, List.foldl_append, List.foldl_cons]
  have e1 : nearer o ((l.take i).foldl (nearer o) none) p = some p := by
    rcases nearer_mem o (l.take i) none with ⟨q, hq, e⟩ | e
    · rw [e, nearer_some, if_pos (h1 q hq)]
    · rw [e]; rfl
  rw [e1]
  exact nearer_stay h2
theorem abs_off (o : Order) (p : Nat × Nat) : (if 2 * ((ahead o p.1 p.2 : Nat) : Int) - (((rows o).length : Nat) : Int) < 0 then -(2 * ((ahead o p.1 p.2 : Nat) : Int) - (((rows o).length : Nat) : Int)) else 2 * ((ahead o p.1 p.2 : Nat) : Int) - (((rows o).length : Nat) : Int)) = ((off o p : Nat) : Int) := by
  unfold off dist
  split <;> split <;> omega
end Om
namespace Ob
open PySem PySem.Spec PyProof.Rows L2 LamX NdefX
open Om (mask bit every follow W Ok left idx T leads card off)
/-- as Fun.ok; the code object's address is handed on -/
theorem fun_okC {P : Program} {w : World} {K : PySem.W.Frag} {mg : Str → Option Value} {base : Heap} {x qual : Str} {st : Stmt} {f : Addr} {fd : FuncData} {N ps : List Str} {k : Nat} {sp : Sp} (F : Fun K x qual st f fd) (S : FnScope N ps (defScope st)) (len : ∀ vs H Q E, sp vs H Q E → vs.length = ps.length)
    (hbody : ∀ (cdv : Value) (A : Around) (outer : List Env) (s : Shared) (H : Hp) (vs : List V) (Q : VK) (E : XK), fd.code = cdv → Room k (A.deeper (envOfC qual (defScope st) s.heap.objs.size f cdv)) → sp vs H Q E →
      ∃ t, PSs (cxOf CX0 P w K mg base N qual (defScope st) f cdv A outer s H E).nox (defBody st) t ∧ t { nx := fun _ H' => Q .non H', rt := Q } (L2.start N vs) H) : FnOk P w K mg base CX0 (k + 1) f fd ps sp := by
  obtain ⟨_, _, _, _, _, _, cv, _, _, rfl, at_, named⟩ := F.ex
  exact fn_of at_ named S len fun A outer s H vs Q E room h => (hbody cv A outer s H vs Q E rfl room h).elim fun t z => ⟨t, z.1.nox, z.2⟩
/-- nothing known stands there, but for a table -/
def FreeN (H : Hp) (q : Addr) : Prop := ∀ x, H q = some x → ∃ ps, x = .tbl ps
theorem FreeN.of {H : Hp} {q : Addr} (h : H q = none) : FreeN H q := fun x e => by rw [h] at e; cases e
theorem FreeN.back {H H' : Hp} {q : Addr} (e : ExtN H H') (h : FreeN H' q) : FreeN H q := fun x hx => by
  refine Classical.byContradiction fun n => ?_
  exact n (h x (e q x hx fun ps z => n ⟨ps, z⟩))
theorem FreeN.ne {H : Hp} {q b : Addr} {x : HO} (h : FreeN H q) (e : H b = some x) (n : ∀ ps, x ≠ .tbl ps) : b ≠ q := fun z => by
  subst z
  obtain ⟨ps, e2⟩ := h x e
  exact n ps e2
theorem ext_seq {K : PySem.W.Frag} {H H' : Hp} {a : Addr} {xs : List V} (e : ExtN H H') (h : SqL K H a xs) : SqL K H' a xs := by
  rcases h with (h | ⟨o, h⟩) | h
  · exact .inl (.inl (e _ _ h (by intro ps z; cases z)))
  · exact .inl (.inr ⟨o, e _ _ h (by intro ps z; cases z)⟩)
  · exact .inr h
theorem ext_same {H H' : Hp} (s : Same H H') : ExtN H H' := fun b o h _ => s b o h
theorem Prs.ext {H H' : Hp} {l : List (Nat × Nat)} {vs : List V} (e : ExtN H H') (r : Prs H l vs) : Prs H' l vs := r.keep fun t xs h => e t _ h (by intro ps z; cases z)
section
variable {P : Program} {w : World} {K : PySem.W.Frag} {mg : Str → Option Value} {base : Heap}
/-! fairest_pair -/
theorem frs_more {e : Env} {l : List Env} {b : Addr} (h : b ∈ frs l) : b ∈ frs (e :: l) := by
  unfold frs at *
  rw [List.filterMap_cons]
  split
  · exact h
  · exact List.mem_cons_of_mem _ h
/-- how far each open pair is from a half -/
def kOff (o : Or01.Order) (i : Nat) : Int := match (Or01.open_ o)[i]? with
  | some p => ((off o p : Nat) : Int)
  | none => 0
theorem kOff_at {o : Or01.Order} {i : Nat} {p : Nat × Nat} (h : (Or01.open_ o)[i]? = some p) : kOff o i = ((off o p : Nat) : Int) := by
  unfold kOff
  rw [h]
/-- the lambda's name -/
def lamQ : Str := (envOfC "fairest_pair" (defScope sFairestPair) 0 0 Value.none).qual ++ "<lambda>"
def lamSc : Scope := match defBody sFairestPair with
  | [_, .Return (some (.Call _ _ (⟨_, .Lambda _ _ sc _, _⟩ :: _) _)) _] => sc
  | _ => defScope sFairestPair
def spFair (T : Addr) : Sp := fun vs H Q _ => ∃ (d : Addr) (o : Or01.Order), vs = [.ref d] ∧ Ok o ∧ H d = some (.dK (tbl o)) ∧ TabS H T lamQ ∧
  (Or01.fairest o = none → ∀ H', ExtN H H' → TabS H' T lamQ → Q .non H') ∧
  ∀ p H' t, Or01.fairest o = some p → p ∈ Or01.open_ o → ExtN H H' → TabS H' T lamQ → H' t = some (.tup [.int (p.1 : Int), .int (p.2 : Int)]) → Q (.ref t) H'
theorem scFair : FnScope ["below", "rows"] ["below"] (defScope sFairestPair) := ⟨rfl, rfl, rfl, by decide +kernel, rfl, by decide +kernel, by decide +kernel⟩
theorem scLam : NScope ["pair", "below", "rows"] ["pair"] ["below", "rows"] lamSc := nscope_by (by decide +kernel)
theorem freeLam : ∀ y ∈ lamSc.names, y.2 = NameKind.free → (defScope sFairestPair).names.lookup y.1 = some .cell ∨ (defScope sFairestPair).names.lookup y.1 = some .free := by decide +kernel
theorem hfrLam : ∀ y ∈ (["below", "rows"] : List Str), (y, NameKind.free) ∈ lamSc.names := by decide +kernel
theorem ok_fair {f c T : Addr} {fd : FuncData} (F : Fun K "fairest_pair" "fairest_pair" sFairestPair f fd) (hcd : fd.code = .ref c) (TB : TabB base mg c T) (mMin : mg "min" = none) (mAbs : mg "abs" = none)
    (M : Df P w K mg base 5 "how_many_rows" ["below"] spHowMany) (OP : Df P w K mg base 3 "open_pairs" ["below"] (spPairs opR)) (RA : Df P w K mg base 6 "rows_with_ahead" ["below", "x", "y"] spAhead) : FnOk P w K mg base CX0 9 f fd ["below"] (spFair T) := by
  obtain ⟨fM, fdM, gM, kM, bM, GM⟩ := M.ex
  obtain ⟨fO, fdO, gO, kO, bO, GO⟩ := OP.ex
  obtain ⟨fA, fdA, gA, kA, bA, GA⟩ := RA.ex
  refine fun_okC F scFair (fun vs H Q E h => ?_) (fun cdv A outer s H vs Q E hcv hr h => ?_)
  · obtain ⟨d, o, rfl, _⟩ := h
    rfl
  · obtain ⟨d, o, rfl, ko, hd, tab, kN, kY⟩ := h
    rw [hcd] at hcv
    subst hcv
    have hr5 : Room 5 _ := hr.mono (by decide)
    have hr3 : Room 3 _ := hr.mono (by decide)
    refine ⟨_, pss_cons (ps_set (i := 1) scFair.nd rfl (Or.inr rfl) (pe_call GM hr5 (by rfl) gM kM bM .nil pass0 (pa_cons (pv 0) pa_nil)))
      (pss_one (ps_ret (pe_minLam (k := 6) (N := ["pair", "below", "rows"]) (fr := ["below", "rows"]) (pa := "pair") (js := [0, 1]) (c := c) (P := T) rfl (by rfl) mMin (pa_cons (pe_call GO hr3 (by rfl) gO kO bO .nil pass0 (pa_cons (pv 0) pa_nil)) pa_nil)
        TB rfl rfl freeLam scLam hfrLam rfl hr (fun b h => frs_more h) (fun _ _ _ _ _ _ => rfl)
        (fun A out s H g co cl rm => pe_callB call_abs (by rfl) mAbs (by decide +kernel) (pa_cons (pe_op op_sub (pe_op op_mul pe_int (pe_call GA rm (by rfl) gA kA bA .nil pass0 (pa_cons (pv 1) (pa_cons (pe_ix (show IxR _ (rIxT K) from ix_tup) (pv 0) pe_int (fun _ _ => rfl)) (pa_cons (pe_ix (show IxR _ (rIxT K) from ix_tup) (pv 0) pe_int (fun _ _ => rfl)) pa_nil))))) (pv 2)) pa_nil))))), ?_⟩
    refine ⟨_, rfl, d, o, rfl, ko, hd, fun H1 s1 => ?_⟩
    refine ⟨_, rfl, d, o, rfl, ko, s1 _ _ hd, fun H2 q ws s2 hq e2 pr => ?_⟩
    rw [← open_by] at pr
    have s12 := s1.trans s2
    have item : ∀ (i : Nat) (x : V), ws[i]? = some x → ∃ (p : Nat × Nat) (t : Addr), (Or01.open_ o)[i]? = some p ∧ x = V.ref t ∧ H2 t = some (.tup [.int (p.1 : Int), .int (p.2 : Int)]) := fun i x hx => by
      have hi : i < (Or01.open_ o).length := by rw [← pr.1]; exact (List.getElem?_eq_some_iff.mp hx).1
      obtain ⟨t, h1, h2⟩ := pr.2 i _ (List.getElem?_eq_getElem hi)
      rw [hx] at h1
      cases h1
      exact ⟨_, t, List.getElem?_eq_getElem hi, rfl, h2⟩
    refine ⟨q, ws, kOff o, fun H3 => ExtN H2 H3 ∧ TabS H3 T lamQ, rfl, tab.ext s12, fun H3 a b => ⟨a, b⟩, fun H3 g => ext_seq g.1 (SqL.of e2), fun H3 H4 g s => ⟨g.1.trans (ext_same s), g.2.ext s⟩, fun i x H3 Q2 hx g kq => ?_, fun e H3 g => ?_, fun i x H3 hx b g => ?_⟩
    · obtain ⟨p, t, hp, rfl, ht⟩ := item i x hx
      have hpo := Om.mem_open.mp (List.mem_of_getElem? hp)
      have ht3 : H3 t = some (.tup [.int (p.1 : Int), .int (p.2 : Int)]) := g.1 t _ ht (by intro ps z; cases z)
      have hd3 : H3 d = some (.dK (tbl o)) := g.1 d _ (s12 _ _ hd) (by intro ps z; cases z)
      refine ⟨_, rfl, _, rfl, t, _, 0, .int (p.1 : Int), rfl, rfl, SqT.of ht3, rfl, _, rfl, t, _, 1, .int (p.2 : Int), rfl, rfl, SqT.of ht3, rfl, d, o, p.1, p.2, rfl, ko, hd3, hpo.1, hpo.2.1, by have := hpo.2.2.1; omega, fun H4 s4 => ?_⟩
      refine ⟨2, _, rfl, rfl, .inl ⟨by decide, by decide⟩, _, rfl, _, _, rfl, rfl, _, rfl, ?_⟩
      have := kq H4 s4
      rw [kOff_at hp, ← Om.abs_off o p] at this
      exact this
    · have eo : Or01.open_ o = [] := List.length_eq_zero_iff.mp (by rw [← pr.1, e]; rfl)
      exact kN (by rw [Om.fairest_eq ko, eo]; rfl) H3 ((ext_same s12).trans g.1) g.2
    · obtain ⟨p, t, hp, rfl, ht⟩ := item i x hx
      refine kY p H3 t ?_ (List.mem_of_getElem? hp) ((ext_same s12).trans g.1) g.2 (g.1 t _ ht (by intro ps z; cases z))
      rw [Om.fairest_eq ko]
      refine Om.nearer_best hp fun m r hm => ?_
      have hb := b m (by rw [pr.1]; exact (List.getElem?_eq_some_iff.mp hm).1)
      rw [kOff_at hp, kOff_at hm] at hb
      exact ⟨by omega, fun z => by have := hb.2 z; omega⟩
end
end Ob
end

section
set_option Elab.async false
set_option maxRecDepth 100000
set_option maxHeartbeats 4000000
set_option linter.all false
namespace Ob
open PySem PySem.Spec PyProof.Rows L2
open Om (mask bit every follow W Ok left idx need ask met)
/-! ### the memory of orders that were met -/
def keyOf (o : Or01.Order) : List Key := (Or01.things o).map fun t => (Sum.inl ((mask o t : Nat) : Int) : Key)
theorem keyOf_vals (o : Or01.Order) : (tbl o).map (·.2) = (keyOf o).map kV := by
  unfold tbl tblOf keyOf
  rw [List.map_map, List.map_map]
  rfl
theorem keyOf_alike {o o' : Or01.Order} (hm : o.many = o'.many) (h : keyOf o = keyOf o') : Om.Alike o o' := by
  refine Om.alike_of hm fun t ht => ?_
  have e := Om.things_of hm
  unfold keyOf at h
  rw [← e] at h
  have h2 := List.map_inj_left.mp h t ht
  have := Sum.inl.inj h2
  omega
def Memo (n : Nat) (kvs : List (List Key × V)) : Prop := ∀ o, Ok o → o.many = n → ∀ v, valV kvs (keyOf o) = some v → v = .int ((need o : Nat) : Int)
theorem Memo.nil (n : Nat) : Memo n [] := fun o _ _ v h => by cases h
theorem Memo.put {n : Nat} {kvs : List (List Key × V)} {o : Or01.Order} (m : Memo n kvs) (k : Ok o) (hn : o.many = n) : Memo n (putK kvs (keyOf o) (.int ((need o : Nat) : Int))) := fun o' k' hn' v h => by
  rw [valV_put] at h
  by_cases e : keyOf o' = keyOf o
  · rw [if_pos e] at h
    rw [← Option.some.inj h, Om.need_alike (keyOf_alike (hn'.trans hn.symm) e) k' k]
  · rw [if_neg e] at h
    exact m o' k' hn' v h
/-- all stands but for the dict at f -/
def KeepF (f : Addr) (H H' : Hp) : Prop := ∀ b x, H b = some x → b ≠ f → H' b = some x
theorem KeepF.of {f : Addr} {H H' : Hp} (s : Same H H') : KeepF f H H' := fun b x e _ => s b x e
theorem KeepF.trans {f : Addr} {H H1 H2 : Hp} (a : KeepF f H H1) (b : KeepF f H1 H2) : KeepF f H H2 := fun c x e n => b c x (a c x e n) n
/-- the dict at f: so many entries at most, all right -/
structure Mem (n : Nat) (f : Addr) (most : Nat) (H : Hp) : Prop where
  ex : ∃ kvs, H f = some (.dT kvs) ∧ Memo n kvs ∧ kvs.length ≤ most
theorem Mem.same {n : Nat} {f : Addr} {m m' : Nat} {H H' : Hp} (s : Same H H') (h : Mem n f m H) (le : m ≤ m') : Mem n f m' H' := by
  obtain ⟨kvs, h1, h2, h3⟩ := h.ex
  exact ⟨kvs, s _ _ h1, h2, by omega⟩
theorem Mem.at_ {n : Nat} {f : Addr} {m : Nat} {H : Hp} (h : Mem n f m H) : ∃ kvs, H f = some (.dT kvs) := by
  obtain ⟨kvs, h1, _⟩ := h.ex
  exact ⟨kvs, h1⟩
def spNeed (m : Nat) : Sp := fun vs H Q _ => ∃ (d f : Addr) (o : Or01.Order) (c : Nat), vs = [.ref d, .ref f] ∧ Ok o ∧ o.many ≤ 4 ∧ (Or01.open_ o).length ≤ m ∧ H d = some (.dK (tbl o)) ∧ Mem o.many f c H ∧ c + met m ≤ 1000000 ∧
  ∀ H', KeepF f H H' → Mem o.many f (c + met m) H' → Q (.int ((need o : Nat) : Int)) H'
def spWith : Nat → Sp
  | 0 => fun _ _ _ _ => False
  | m + 1 => fun vs H Q _ => ∃ (d f : Addr) (o : Or01.Order) (c : Nat) (p : Nat × Nat), vs = [.ref d, .int (p.1 : Int), .int (p.2 : Int), .ref f] ∧ Ok o ∧ o.many ≤ 4 ∧ (Or01.open_ o).length ≤ m + 1 ∧ p ∈ Or01.open_ o ∧ H d = some (.dK (tbl o)) ∧ Mem o.many f c H ∧ c + 2 * met m ≤ 1000000 ∧
    ∀ H', KeepF f H H' → Mem o.many f (c + 2 * met m) H' → Q (.int ((ask o p : Nat) : Int)) H'
section
variable {P : Program} {w : World} {K : PySem.W.Frag} {mg : Str → Option Value} {base : Heap}
theorem scQW : FnScope ["below", "x", "y", "found"] ["below", "x", "y", "found"] (defScope sQWith) := ⟨rfl, rfl, rfl, by decide +kernel, rfl, by decide +kernel, by decide +kernel⟩
theorem ok_with0 {f : Addr} {fd : FuncData} {k : Nat} (F : Fun K "questions_with" "questions_with" sQWith f fd) : FnOk P w K mg base CX0 (k + 1) f fd ["below", "x", "y", "found"] (spWith 0) :=
  F.ok scQW (fun vs H Q E h => h.elim) (fun cdv A outer s H vs Q E hr h => h.elim)
theorem max_nat (i j : Nat) : (if ((j : Nat) : Int) > ((i : Nat) : Int) then ((j : Nat) : Int) else ((i : Nat) : Int)) = ((max i j : Nat) : Int) := by
  split <;> omega
theorem ok_with {f : Addr} {fd : FuncData} {m k : Nat} (F : Fun K "questions_with" "questions_with" sQWith f fd) (mMax : mg "max" = none) (hk : 3 ≤ k) (Te : Df P w K mg base 3 "tell" ["below", "x", "y"] spTell) (Nd : Df P w K mg base k "questions_needed" ["below", "found"] (spNeed m)) :
    FnOk P w K mg base CX0 (k + 1) f fd ["below", "x", "y", "found"] (spWith (m + 1)) := by
  obtain ⟨fT, fdT, gT, kT, bT, GT⟩ := Te.ex
  obtain ⟨fN, fdN, gN, kN, bN, GN⟩ := Nd.ex
  refine F.ok scQW (fun vs H Q E h => ?_) (fun cdv A outer s H vs Q E hr h => ?_)
  · obtain ⟨d, f, o, c, p, rfl, _⟩ := h
    rfl
  · obtain ⟨d, fa, o, c, p, rfl, ko, h4, hop, hp, hd, hm, hc, kk⟩ := h
    have hr3 : Room 3 _ := hr.mono hk
    refine ⟨_, pss_one (ps_ret (pe_op op_addN pe_int (pe_callB (call_max2 rfl) (by rfl) mMax (by decide +kernel) (pa_cons
      (pe_call GN hr (by rfl) gN kN bN .nil pass0 (pa_cons (pe_call GT hr3 (by rfl) gT kT bT .nil pass0 (pa_cons (pv 0) (pa_cons (pv 1) (pa_cons (pv 2) pa_nil)))) (pa_cons (pv 3) pa_nil))) (pa_cons
      (pe_call GN hr (by rfl) gN kN bN .nil pass0 (pa_cons (pe_call GT hr3 (by rfl) gT kT bT .nil pass0 (pa_cons (pv 0) (pa_cons (pv 2) (pa_cons (pv 1) pa_nil)))) (pa_cons (pv 3) pa_nil))) pa_nil))))), ?_⟩
    obtain ⟨h1, h2, h3, b1, b2⟩ := Om.mem_open.mp hp
    obtain ⟨k1, k2⟩ := Om.open_ok ko hp
    obtain ⟨l1, l2⟩ := Om.open_less ko hp
    have ndf : d ≠ fa := by
      obtain ⟨kvs, e⟩ := hm.at_
      exact ne_of hd e (by intro z; cases z)
    refine ⟨_, rfl, _, rfl, _, rfl, d, o, p.1, p.2, rfl, ko, hd, h1, h2, by omega, b2, fun H1 q1 s1 hq1 e1 => ?_⟩
    refine ⟨_, rfl, q1, fa, Or01.with_ o p.1 p.2, c, rfl, k1, h4, by omega, e1, hm.same s1 (Nat.le_refl _), by omega, fun H2 kf2 hm2 => ?_⟩
    have kf02 : KeepF fa H H2 := (KeepF.of s1).trans kf2
    have hd2 : H2 d = some (.dK (tbl o)) := kf02 d _ hd ndf
    refine ⟨_, rfl, _, rfl, _, rfl, d, o, p.2, p.1, rfl, ko, hd2, h2, h1, by omega, b1, fun H3 q3 s3 hq3 e3 => ?_⟩
    refine ⟨_, rfl, q3, fa, Or01.with_ o p.2 p.1, c + met m, rfl, k2, h4, by omega, e3, hm2.same s3 (Nat.le_refl _), by omega, fun H4 kf4 hm4 => ?_⟩
    refine ⟨_, _, rfl, 1, max (need (Or01.with_ o p.1 p.2)) (need (Or01.with_ o p.2 p.1)), rfl, congrArg V.int (max_nat _ _), ?_⟩
    refine kk H4 (kf02.trans ((KeepF.of s3).trans kf4)) ?_
    obtain ⟨kvs, x1, x2, x3⟩ := hm4.ex
    exact ⟨kvs, x1, x2, by omega⟩
theorem scQN : FnScope ["below", "found", "told", "x", "y"] ["below", "found"] (defScope sQNeeded) := ⟨rfl, rfl, rfl, by decide +kernel, rfl, by decide +kernel, by decide +kernel⟩
theorem ok_need {f : Addr} {fd : FuncData} {m k : Nat} (F : Fun K "questions_needed" "questions_needed" sQNeeded f fd) (mMin : mg "min" = none) (mTup : mg "tuple" = none) (hk : 3 ≤ k) (OP : Df P w K mg base 3 "open_pairs" ["below"] (spPairs opR))
    (Wi : Df P w K mg base k "questions_with" ["below", "x", "y", "found"] (spWith m)) : FnOk P w K mg base CX0 (k + 1) f fd ["below", "found"] (spNeed m) := by
  obtain ⟨fO, fdO, gO, kO, bO, GO⟩ := OP.ex
  obtain ⟨fW, fdW, gW, kW, bW, GW⟩ := Wi.ex
  refine F.ok scQN (fun vs H Q E h => ?_) (fun cdv A outer s H vs Q E hr h => ?_)
  · obtain ⟨d, f, o, c, rfl, _⟩ := h
    rfl
  · obtain ⟨d, fa, o, c, rfl, ko, h4, hop, hd, hm, hc, kk⟩ := h
    have hu := hu_of hr
    have hr3 : Room 3 _ := hr.mono hk
    refine ⟨_, pss_cons (ps_set (i := 2) scQN.nd rfl (Or.inl rfl) (pe_tupVals rfl (by rfl) mTup (pv 0)))
      (pss_cons (ps_if (pt_cmp (pc_dnotin hu (pv 2) (pv 1)))
        (pss_one (ps_dput hu (pv 1) (pv 2) (pe_callBK (cr_minD rfl) (by rfl) mMin (by decide +kernel) (pa_cons
          (pe_lc (own := [("x", 3), ("y", 4)]) (g := gTup K 2 (gCons (gName 3) (gCons (gName 4) gNil))) (tt := tYes) rfl scQN.nd (pi_list (pe_call GO hr3 (by rfl) gO kO bO .nil pass0 (pa_cons (pv 0) pa_nil))) (blkOk_by (N := ["below", "found", "told", "x", "y"]) (sc := defScope sQNeeded) (by decide +kernel))
            (fun _ _ _ _ _ => pg_tup rfl (pgs_cons (pg_name (i := 3) scQN.nd rfl (Or.inl rfl)) (pgs_cons (pg_name (i := 4) scQN.nd rfl (Or.inl rfl)) pgs_nil)))
            (fun _ _ _ _ _ => pts_nil)
            (fun _ _ _ _ _ => pe_call GW hr (by rfl) gW kW bW .nil pass0 (pa_cons (pv 0) (pa_cons (pv 3) (pa_cons (pv 4) (pa_cons (pv 1) pa_nil)))))) pa_nil) (pk_cons pe_int pk_nil)) rfl)) pss_nil)
      (pss_one (ps_ret (pe_dget hu (pv 1) (pv 2) (fun _ _ => rfl))))), ?_⟩
    obtain ⟨kvs, hf, me, hlen⟩ := hm.ex
    have met1 : 1 ≤ met m := by
      cases m with
      | zero => exact Nat.le_refl _
      | succ m => show 1 ≤ 1 + 2 * (m + 1) * met m; omega
    refine ⟨_, rfl, d, _, rfl, hd, fun ta hta => ?_⟩
    rw [keyOf_vals]
    have s0 : Same H (upd H ta (.tup ((keyOf o).map kV))) := same_upd (Same.refl H) hta
    have hf0 := s0 _ _ hf
    have hta0 : (upd H ta (.tup ((keyOf o).map kV))) ta = some (.tup ((keyOf o).map kV)) := upd_same
    have nta : ta ≠ fa := ne_of hta0 hf0 (by intro z; cases z)
    refine ⟨_, rfl, _, rfl, fa, _, rfl, DGet.t hf0 hta0, _, rfl, ?_⟩
    cases hv : valV kvs (keyOf o) with
    | some v =>
      refine iteFo rfl ?_
      have ev := me o ko rfl v hv
      subst ev
      refine ⟨_, rfl, _, rfl, fa, .int ((need o : Nat) : Int), rfl, ?_, ?_⟩
      · have := DGet.t (k := keyOf o) hf0 hta0
        rw [hv] at this
        exact this
      exact kk _ (KeepF.of s0) ⟨kvs, hf0, me, by omega⟩
    | none =>
      refine iteTo rfl ?_
      refine ⟨_, rfl, d, o, rfl, ko, s0 _ _ hd, fun H1 q ws s1 hq e1 pr => ?_⟩
      rw [← open_by] at pr
      have hf1 := s1 _ _ hf0
      refine ⟨q, rfl, ⟨_, SqL.of e1⟩, fun D hD => ?_⟩
      have hL : (Or01.open_ o).length ≤ 6 := Om.open_len h4
      have nqf : q ≠ fa := ne_of e1 hf1 (by intro z; cases z)
      have nDf : D ≠ fa := (ne_of_none hf1 hD).symm
      have nDq : q ≠ D := ne_of_none e1 hD
      have ndf : d ≠ fa := ne_of hd hf (by intro z; cases z)
      refine lc_list (K := K) (a := q) (xs := ws) (fun j H2 => KeepF fa H1 H2 ∧ Mem o.many fa (c + j * (2 * met (m - 1))) H2 ∧ H2 D = some (.lst (vInts (((Or01.open_ o).take j).map (ask o))))) ⟨KeepF.of (same_upd (Same.refl _) hD), ⟨kvs, by rw [upd_ne nDf.symm]; exact hf1, me, by omega⟩, upd_same⟩ ?_ ?_ ?_
      · rintro j H2 _ ⟨kf, _⟩
        exact SqL.of (kf q _ e1 nqf)
      · rintro j x H2 hj ⟨kf, mm, e7⟩
        have hjl : j < (Or01.open_ o).length := by rw [← pr.1]; exact (List.getElem?_eq_some_iff.mp hj).1
        obtain ⟨t, ht1, ht2⟩ := pr.2 j _ (List.getElem?_eq_getElem hjl)
        rw [hj] at ht1
        cases ht1
        have hpm : (Or01.open_ o)[j] ∈ Or01.open_ o := List.getElem_mem hjl
        have hge : (Or01.open_ o)[j]? = some (Or01.open_ o)[j] := List.getElem?_eq_getElem hjl
        generalize (Or01.open_ o)[j] = p at ht2 hpm hge
        have ht3 : H2 t = some (.tup [.int (p.1 : Int), .int (p.2 : Int)]) := kf t _ ht2 (ne_of ht2 hf1 (by intro z; cases z))
        refine ⟨t, _, rfl, SqT.of ht3, rfl, _, _, rfl, _, _, rfl, rfl, ?_⟩
        refine ⟨rfl, yesT ?_⟩
        cases m with
        | zero => omega
        | succ m =>
          rw [Nat.add_sub_cancel] at mm ⊢
          have hmul : (j + 1) * (2 * met m) ≤ (m + 1) * (2 * met m) := Nat.mul_le_mul_right _ (by omega)
          have hmet : met (m + 1) = 1 + 2 * (m + 1) * met m := rfl
          have hmul2 : (m + 1) * (2 * met m) = 2 * (m + 1) * met m := by rw [← Nat.mul_assoc, Nat.mul_comm (m + 1) 2]
          have hj1 : (j + 1) * (2 * met m) = j * (2 * met m) + 2 * met m := by rw [Nat.add_mul, Nat.one_mul]
          refine ⟨_, rfl, _, rfl, _, rfl, _, rfl, d, fa, o, c + j * (2 * met m), p, rfl, ko, h4, hop, hpm, kf d _ (s1 _ _ (s0 _ _ hd)) ndf, mm, by omega, fun H3 kf3 mm3 => ?_⟩
          have e8 := kf3 D _ e7 nDf
          refine ⟨_, e8, small1000 (by rw [vInts_length, List.length_map, List.length_take]; omega), ?_, ?_, ?_⟩
          · intro b x hb nb
            have := kf3 b x (kf b x hb nb) nb
            rw [upd_ne (ne_of_none hb hD)]
            exact this
          · obtain ⟨kvs3, y1, y2, y3⟩ := mm3.ex
            exact ⟨kvs3, by rw [upd_ne nDf.symm]; exact y1, y2, by omega⟩
          · rw [upd_same, take_more hge, List.map_append, vInts_append]
            rfl
      · rintro H2 ⟨kf, mm, e7⟩
        rw [pr.1, List.take_length] at e7
        rw [pr.1] at mm
        have fin : ∀ n : Nat, need o = n → sDPut (tVar 1) (tVar 2) (fun σ H Q => Q (.int (n : Int)) H) { nx := fun σ' H' => tRet (tDGet (tVar 1) (tVar 2)) { nx := fun _ H' => Q .non H', rt := Q } σ' H', rt := Q } [some (.ref d), some (.ref fa), some (.ref ta), none, none] H2 := by
          intro n hn
          obtain ⟨kvs2, y1, y2, y3⟩ := mm.ex
          have hta2 : H2 ta = some (.tup ((keyOf o).map kV)) := kf ta _ (s1 _ _ hta0) nta
          have hsz : kvs2.length + 1 ≤ c + met m := by
            cases m with
            | zero =>
              have : (Or01.open_ o).length = 0 := by omega
              rw [this, Nat.zero_mul] at y3
              show kvs2.length + 1 ≤ c + 1
              omega
            | succ m =>
              rw [Nat.add_sub_cancel] at y3
              have hmul : (Or01.open_ o).length * (2 * met m) ≤ (m + 1) * (2 * met m) := Nat.mul_le_mul_right _ hop
              have hmul2 : (m + 1) * (2 * met m) = 2 * (m + 1) * met m := by rw [← Nat.mul_assoc, Nat.mul_comm (m + 1) 2]
              show kvs2.length + 1 ≤ c + (1 + 2 * (m + 1) * met m)
              omega
          refine ⟨_, rfl, _, rfl, fa, _, rfl, DPut.t (k := keyOf o) y1 hta2 ?_, ?_⟩
          · exact Nat.lt_of_lt_of_le (show kvs2.length < 1000000 by omega) (by decide)
          subst hn
          refine ⟨_, rfl, _, rfl, fa, .int ((need o : Nat) : Int), rfl, ?_, ?_⟩
          · have := DGet.t (H := upd H2 fa (.dT (putK kvs2 (keyOf o) (.int ((need o : Nat) : Int))))) (a := fa) (b := ta) (k := keyOf o) upd_same (by rw [upd_ne nta]; exact hta2)
            rw [valV_put, if_pos rfl] at this
            exact this
          · refine kk _ (fun b x hb nb => ?_) ⟨_, upd_same, y2.put ko rfl, ?_⟩
            · rw [upd_ne nb]
              exact kf b x (s1 _ _ (s0 _ _ hb)) nb
            · have := length_putK kvs2 (keyOf o) (.int ((need o : Nat) : Int))
              omega
        refine ⟨D, _, 0, rfl, rfl, SqL.of e7, fun en => ?_, fun n hn hle => ?_⟩
        · exact fin 0 (Om.need_none (List.map_eq_nil_iff.mp en))
        · refine fin n (Om.need_min ko ?_ fun p hp => hle _ (List.mem_map.mpr ⟨p, hp, rfl⟩))
          obtain ⟨p, hp, e⟩ := List.mem_map.mp hn
          exact ⟨p, hp, e⟩
/-- both, as deep as need be -/
theorem need_all (Rw : Raw K mg "questions_with" sQWith ["below", "x", "y", "found"]) (Rn : Raw K mg "questions_needed" sQNeeded ["below", "found"]) (mMax : mg "max" = none) (mMin : mg "min" = none) (mTup : mg "tuple" = none)
    (OP : Df P w K mg base 3 "open_pairs" ["below"] (spPairs opR)) (Te : Df P w K mg base 3 "tell" ["below", "x", "y"] spTell) : ∀ m : Nat, Df P w K mg base (2 * m + 5) "questions_needed" ["below", "found"] (spNeed m)
  | 0 => Rn.df fun f fd F => ok_need (k := 4) F mMin mTup (by decide) OP (Rw.df fun f fd F => ok_with0 (k := 3) F)
  | m + 1 => Rn.df fun f fd F => ok_need (k := 2 * m + 6) F mMin mTup (by omega) OP (Rw.df fun f fd F => ok_with (k := 2 * m + 5) F mMax (by omega) Te (need_all Rw Rn mMax mMin mTup OP Te m))
end
end Ob
end

section
set_option Elab.async false
set_option maxRecDepth 100000
set_option maxHeartbeats 4000000
set_option linter.all false
namespace Om
open Or01
/-- the places of a thing, all together, are the rows -/
theorem inPlace_sum (o : Order) {x : Nat} (hx : x ∈ things o) : ((List.range o.many).map fun k => inPlace o x k).sum = (rows o).length := by
  have key : ∀ l : List (List Nat), (∀ r ∈ l, place r x < o.many) → ((List.range o.many).map fun k => (l.filter fun r => place r x == k).length).sum = l.length := by
    intro l
    induction l with
    | nil =>
      intro _
      have : ((List.range o.many).map fun k => (([] : List (List Nat)).filter fun r => place r x == k).length) = (List.range o.many).map fun _ => 0 := List.map_congr_left fun k _ => rfl
      rw [this, sum_zero]
      rfl
    | cons r l ih =>
      intro h
      have ih := ih fun r hr => h r (List.mem_cons_of_mem _ hr)
      have hr := h r List.mem_cons_self
      have e : ((List.range o.many).map fun k => ((r :: l).filter fun r => place r x == k).length) = (List.range o.many).map fun k => (if place r x = k then 1 else 0) + (l.filter fun r => place r x == k).length := by
        refine List.map_congr_left fun k _ => ?_
        rw [List.filter_cons]
        by_cases c : place r x = k
        · rw [if_pos (by rw [c]; exact beq_self_eq_true k), if_pos c, List.length_cons, Nat.add_comm]
        · rw [if_neg (fun z => c (beq_iff_eq.mp z)), if_neg c, Nat.zero_add]
      rw [e, sum_map_add, sum_pick (fun _ => 1) (place r x) o.many hr, ih, List.length_cons, Nat.add_comm]
  refine key (rows o) fun r hr => ?_
  have := place_lt ((rows_mem hr).mpr hx)
  rw [(rows_perm hr).length_eq, things_length] at this
  exact this
theorem inPlace_le {o : Order} (k : Ok o) (x j : Nat) : inPlace o x j ≤ 5040 := by
  have h1 : inPlace o x j ≤ (rows o).length := List.length_filter_le _ _
  have h2 := rows_le k
  omega
end Om
namespace Ob
open PySem PySem.Spec PyProof.Rows L2
open Om (mask bit every follow W Ok left idx need ask met)
section
variable {P : Program} {w : World} {K : PySem.W.Frag} {mg : Str → Option Value} {base : Heap} {C : Addr}
/-! is_below -/
def arIs : Or01.Call → List V → Hp → Prop := fun c args _ => ∃ x y : Nat, c = .is x y ∧ args = [.int (x : Int), .int (y : Int)]
theorem scIs : FnScope ["self", "x", "y", "below"] ["self", "x", "y"] (defScope sIsBelow) := ⟨rfl, rfl, rfl, by decide +kernel, rfl, by decide +kernel, by decide +kernel⟩
theorem ok_is {f : Addr} {fd : FuncData} (F : Fun K "is_below" "Order.is_below" sIsBelow f fd) (T : Txt K mg C) (B : Md P w K mg base C 1 "below" ["self"] (spBelow C)) (L : Df P w K mg base 2 "lies_below" ["below", "x", "y"] spLies) :
    FnOk P w K mg base CX0 3 f fd ["self", "x", "y"] (spStep C arIs) := by
  obtain ⟨fB, fdB, mB, bB, GB⟩ := B.ex
  obtain ⟨fL, fdL, gL, kL, bL, GL⟩ := L.ex
  refine F.ok scIs (fun vs H Q E h => ?_) (fun cdv A outer s H vs Q E hr h => ?_)
  · obtain ⟨a, h, o, c, args, rfl, ⟨x, y, rfl, rfl⟩, _⟩ := h
    rfl
  · obtain ⟨a, h, o, c, args, rfl, ⟨x, y, rfl, rfl⟩, ko, A0, k⟩ := h
    obtain ⟨dx, h1⟩ := A0.ob
    have hu := hu_of hr
    have hr1 : Room 1 _ := hr.mono (by decide)
    refine ⟨_, pss_cons (ps_set (i := 3) scIs.nd rfl (Or.inl rfl) (pe_meth0 (pv 0) T.cl mB GB hr1 bB .nil pass0))
      (pss_cons (ps_if (PW.pt (pw_or (pt_cmp (pc_dnotin hu (pv 1) (pv 3))) (pw_or1 (pt_cmp (pc_dnotin hu (pv 2) (pv 3)))))) (pss_one (ps_ret (pe_lst (pa_cons (pe_un un_neg pe_int) pa_nil)))) pss_nil)
      (pss_cons (ps_if (pt_val (pe_call GL hr (by rfl) gL kL bL .nil pass0 (pa_cons (pv 3) (pa_cons (pv 1) (pa_cons (pv 2) pa_nil))))) (pss_one (ps_ret (pe_lst (pa_cons pe_int pa_nil)))) pss_nil)
      (pss_cons (ps_if (pt_val (pe_call GL hr (by rfl) gL kL bL .nil pass0 (pa_cons (pv 3) (pa_cons (pv 2) (pa_cons (pv 1) pa_nil))))) (pss_one (ps_ret (pe_lst (pa_cons pe_int pa_nil)))) pss_nil)
      (pss_one (ps_ret (pe_lst (pa_cons pe_int pa_nil))))))), ?_⟩
    refine ⟨_, rfl, a, dx, _, rfl, h1, oF_no (by decide +kernel), a, h, o, rfl, A0, fun d hd => ?_⟩
    have es : Or01.step o (.is x y) = (o, if Or01.isThing o x = false ∨ Or01.isThing o y = false then [-1] else Or01.ints [if Or01.below o x y = true then 1 else if Or01.below o y x = true then 2 else 0]) := rfl
    rw [es] at k
    refine ⟨_, rfl, _, rfl, d, _, rfl, dget_rd (k := Sum.inl (x : Int)) (.inl hd), _, rfl, ?_⟩
    rw [isSome_tbl]
    cases e1 : Or01.isThing o x with
    | false =>
      rw [if_pos (.inl e1)] at k
      refine iteTo rfl ?_
      refine iteTo rfl ?_
      refine ⟨_, rfl, (by show 1 ≤ sizeLine; decide), fun q hq => ?_⟩
      exact fin1 A0 k (Same.refl H) hq
    | true =>
      refine iteFo rfl ?_
      refine ⟨_, rfl, _, rfl, d, _, rfl, dget_rd (k := Sum.inl (y : Int)) (.inl hd), _, rfl, ?_⟩
      rw [isSome_tbl]
      cases e2 : Or01.isThing o y with
      | false =>
        rw [if_pos (.inr e2)] at k
        refine iteTo rfl ?_
        refine ⟨_, rfl, (by show 1 ≤ sizeLine; decide), fun q hq => ?_⟩
        exact fin1 A0 k (Same.refl H) hq
      | true =>
        rw [if_neg (by rw [e1, e2]; rintro (z | z) <;> cases z)] at k
        refine iteFo rfl ?_
        have hx := Om.mem_things.mpr (Om.isThing_iff.mp e1)
        have hy := Om.mem_things.mpr (Om.isThing_iff.mp e2)
        refine ⟨_, rfl, _, rfl, _, rfl, d, o, x, y, rfl, ko, .inl hd, hx, hy, _, rfl, ?_⟩
        cases c1 : Or01.below o x y with
        | true =>
          rw [if_pos c1] at k
          refine iteTo rfl ?_
          refine ⟨(by show 1 ≤ sizeLine; decide), fun q hq => ?_⟩
          exact fin1 A0 k (Same.refl H) hq
        | false =>
          rw [if_neg (by rw [c1]; exact Bool.false_ne_true)] at k
          refine iteFo rfl ?_
          refine ⟨_, rfl, _, rfl, _, rfl, d, o, y, x, rfl, ko, .inl hd, hy, hx, _, rfl, ?_⟩
          cases c2 : Or01.below o y x with
          | true =>
            rw [if_pos c2] at k
            refine iteTo rfl ?_
            refine ⟨(by show 1 ≤ sizeLine; decide), fun q hq => ?_⟩
            exact fin1 A0 k (Same.refl H) hq
          | false =>
            rw [if_neg (by rw [c2]; exact Bool.false_ne_true)] at k
            refine iteFo rfl ?_
            refine ⟨(by show 1 ≤ sizeLine; decide), fun q hq => ?_⟩
            exact fin1 A0 k (Same.refl H) hq
/-! both -/
def arBoth : Or01.Call → List V → Hp → Prop := fun c args _ => ∃ x y z : Nat, c = .both x y z ∧ args = [.int (x : Int), .int (y : Int), .int (z : Int)]
theorem scBothM : FnScope ["self", "x", "y", "z", "below"] ["self", "x", "y", "z"] (defScope sBoth) := ⟨rfl, rfl, rfl, by decide +kernel, rfl, by decide +kernel, by decide +kernel⟩
theorem ok_both {f : Addr} {fd : FuncData} (F : Fun K "both" "Order.both" sBoth f fd) (T : Txt K mg C) (B : Md P w K mg base C 1 "below" ["self"] (spBelow C)) (W2 : Df P w K mg base 1 "are_two" ["below", "x", "y"] spAreTwo)
    (R : Df P w K mg base 7 "rows_with_both" ["below", "x", "y", "z"] spBoth) (M : Df P w K mg base 5 "how_many_rows" ["below"] spHowMany) (Fr : Df P w K mg base 2 "fraction" ["part", "whole"] spFraction) :
    FnOk P w K mg base CX0 8 f fd ["self", "x", "y", "z"] (spStep C arBoth) := by
  obtain ⟨fB, fdB, mB, bB, GB⟩ := B.ex
  obtain ⟨fW, fdW, gW, kW, bW, GW⟩ := W2.ex
  obtain ⟨fR, fdR, gR, kR, bR, GR⟩ := R.ex
  obtain ⟨fM, fdM, gM, kM, bM, GM⟩ := M.ex
  obtain ⟨fF, fdF, gF, kF, bF, GF⟩ := Fr.ex
  refine F.ok scBothM (fun vs H Q E h => ?_) (fun cdv A outer s H vs Q E hr h => ?_)
  · obtain ⟨a, h, o, c, args, rfl, ⟨x, y, z, rfl, rfl⟩, _⟩ := h
    rfl
  · obtain ⟨a, h, o, c, args, rfl, ⟨x, y, z, rfl, rfl⟩, ko, A0, k⟩ := h
    obtain ⟨dx, h1⟩ := A0.ob
    have hr1 : Room 1 _ := hr.mono (by decide)
    have hr2 : Room 2 _ := hr.mono (by decide)
    have hr5 : Room 5 _ := hr.mono (by decide)
    refine ⟨_, pss_cons (ps_set (i := 4) scBothM.nd rfl (Or.inl rfl) (pe_meth0 (pv 0) T.cl mB GB hr1 bB .nil pass0))
      (pss_cons (ps_if (PW.pt (pw_or (pt_not (pt_val (pe_call GW hr1 (by rfl) gW kW bW .nil pass0 (pa_cons (pv 4) (pa_cons (pv 1) (pa_cons (pv 2) pa_nil)))))) (pw_or1 (pt_not (pt_val (pe_call GW hr1 (by rfl) gW kW bW .nil pass0 (pa_cons (pv 4) (pa_cons (pv 1) (pa_cons (pv 3) pa_nil)))))))))
        (pss_one (ps_ret (pe_lst (pa_cons (pe_un un_neg pe_int) pa_nil)))) pss_nil)
      (pss_one (ps_ret (pe_call GF hr2 (by rfl) gF kF bF .nil pass0 (pa_cons (pe_call GR hr (by rfl) gR kR bR .nil pass0 (pa_cons (pv 4) (pa_cons (pv 1) (pa_cons (pv 2) (pa_cons (pv 3) pa_nil))))) (pa_cons (pe_call GM hr5 (by rfl) gM kM bM .nil pass0 (pa_cons (pv 4) pa_nil)) pa_nil)))))), ?_⟩
    refine ⟨_, rfl, a, dx, _, rfl, h1, oF_no (by decide +kernel), a, h, o, rfl, A0, fun d hd => ?_⟩
    refine ⟨_, rfl, _, rfl, _, rfl, d, o, x, y, rfl, .inl hd, _, rfl, ?_⟩
    have es : Or01.step o (.both x y z) = (o, if Or01.isThing o x = false ∨ Or01.isThing o y = false ∨ Or01.isThing o z = false ∨ x = y ∨ x = z then [-1] else Or01.fraction (Or01.part (Or01.rows o) fun r => decide (Or01.place r x < Or01.place r y) && decide (Or01.place r x < Or01.place r z))) := rfl
    rw [es] at k
    cases e : (Or01.isThing o x && (Or01.isThing o y && decide (x ≠ y))) with
    | false =>
      rw [if_pos (by
        rcases two_false e with z | z | z
        · exact .inl z
        · exact .inr (.inl z)
        · exact .inr (.inr (.inr (.inl z))))] at k
      refine iteTo (by rfl) ?_
      refine iteTo (by rfl) ?_
      refine ⟨_, rfl, (by show 1 ≤ sizeLine; decide), fun q hq => ?_⟩
      exact fin1 A0 k (Same.refl H) hq
    | true =>
      obtain ⟨hx, hy, ny⟩ := two_true e
      refine iteFo (by rfl) ?_
      refine ⟨_, rfl, _, rfl, _, rfl, d, o, x, z, rfl, .inl hd, _, rfl, ?_⟩
      cases e2 : (Or01.isThing o x && (Or01.isThing o z && decide (x ≠ z))) with
      | false =>
        rw [if_pos (by
          rcases two_false e2 with z | z | z
          · exact .inl z
          · exact .inr (.inr (.inl z))
          · exact .inr (.inr (.inr (.inr z))))] at k
        refine iteTo (by rfl) ?_
        refine ⟨_, rfl, (by show 1 ≤ sizeLine; decide), fun q hq => ?_⟩
        exact fin1 A0 k (Same.refl H) hq
      | true =>
        obtain ⟨_, hz, nz⟩ := two_true e2
        have n1 := two_not e
        have n2 := two_not e2
        have hp := Om.rows_pos ko
        have hle := Om.rows_le ko
        rw [if_neg (by
          rintro (q | q | q | q | q)
          · exact n1 (.inl q)
          · exact n1 (.inr (.inl q))
          · exact n2 (.inr (.inl q))
          · exact n1 (.inr (.inr q))
          · exact n2 (.inr (.inr q))), Om.both_eq ko] at k
        refine iteFo (by rfl) ?_
        refine ⟨_, rfl, _, rfl, _, rfl, _, rfl, d, o, x, y, z, rfl, ko, hd, hx, hy, hz, ny, nz, fun H1 s1 => ?_⟩
        refine ⟨_, rfl, d, o, rfl, ko, s1 _ _ hd, fun H2 s2 => ?_⟩
        refine ⟨Om.aheadBoth o x y z, (Or01.rows o).length, rfl, hp, by omega, fun H3 q s3 hq e3 => ?_⟩
        have sq := s1.trans (s2.trans s3)
        exact k _ h q (A0.same sq) (.of sq) (.inl rfl) (s1.free (s2.free hq)) (by rw [vz_frac hp]; exact e3)
/-! spread -/
theorem vz_app (l l' : List Int) : vz (l ++ l') = vz l ++ vz l' := List.map_append
def arSpread : Or01.Call → List V → Hp → Prop := fun c args _ => ∃ x : Nat, c = .spread x ∧ args = [.int (x : Int)]
theorem scSpread : FnScope ["self", "x", "below", "rows"] ["self", "x"] (defScope sSpread) := ⟨rfl, rfl, rfl, by decide +kernel, rfl, by decide +kernel, by decide +kernel⟩
theorem plSum_eq {o : Or01.Order} {x : Nat} (hx : x ∈ Or01.things o) : plSum o.many (Om.inPlace o x) = Om.placesSum o x := (Om.placesSum_eq o hx).symm
theorem ok_spread {f : Addr} {fd : FuncData} (F : Fun K "spread" "Order.spread" sSpread f fd) (T : Txt K mg C) (Bb : Bi mg) (B : Md P w K mg base C 1 "below" ["self"] (spBelow C)) (R : Df P w K mg base 5 "rows_by_place" ["below", "thing"] spByPlace)
    (S : Df P w K mg base 1 "sum_of_places" ["rows"] (spSumPl K)) (Fr : Df P w K mg base 2 "fraction" ["part", "whole"] spFraction) :
    FnOk P w K mg base CX0 6 f fd ["self", "x"] (spStep C arSpread) := by
  obtain ⟨fB, fdB, mB, bB, GB⟩ := B.ex
  obtain ⟨fR, fdR, gR, kR, bR, GR⟩ := R.ex
  obtain ⟨fS, fdS, gS, kS, bS, GS⟩ := S.ex
  obtain ⟨fF, fdF, gF, kF, bF, GF⟩ := Fr.ex
  refine F.ok scSpread (fun vs H Q E h => ?_) (fun cdv A outer s H vs Q E hr h => ?_)
  · obtain ⟨a, h, o, c, args, rfl, ⟨x, rfl, rfl⟩, _⟩ := h
    rfl
  · obtain ⟨a, h, o, c, args, rfl, ⟨x, rfl, rfl⟩, ko, A0, k⟩ := h
    obtain ⟨dx, h1⟩ := A0.ob
    have hu := hu_of hr
    have hr1 : Room 1 _ := hr.mono (by decide)
    have hr2 : Room 2 _ := hr.mono (by decide)
    refine ⟨_, pss_cons (ps_set (i := 2) scSpread.nd rfl (Or.inl rfl) (pe_meth0 (pv 0) T.cl mB GB hr1 bB .nil pass0))
      (pss_cons (ps_if (pt_cmp (pc_dnotin hu (pv 1) (pv 2))) (pss_one (ps_ret (pe_lst (pa_cons (pe_un un_neg pe_int) pa_nil)))) pss_nil)
      (pss_cons (ps_set (i := 3) scSpread.nd rfl (Or.inl rfl) (pe_call GR hr (by rfl) gR kR bR .nil pass0 (pa_cons (pv 2) (pa_cons (pv 1) pa_nil))))
      (pss_one (ps_ret (pe_op op_cat (pv 3) (pe_call GF hr2 (by rfl) gF kF bF .nil pass0 (pa_cons (pe_call GS hr1 (by rfl) gS kS bS .nil pass0 (pa_cons (pv 3) pa_nil)) (pa_cons (pe_callB (cr_sumN rfl) (by rfl) Bb.sum PyProof.Rows.boot_sum (pa_cons (pv 3) pa_nil)) pa_nil)))))))), ?_⟩
    refine ⟨_, rfl, a, dx, _, rfl, h1, oF_no (by decide +kernel), a, h, o, rfl, A0, fun d hd => ?_⟩
    have es : Or01.step o (.spread x) = (o, if Or01.isThing o x = false then [-1] else Or01.ints (Or01.spread o x) ++ Or01.fraction (Or01.average o x)) := rfl
    rw [es] at k
    refine ⟨_, rfl, _, rfl, d, _, rfl, dget_rd (k := Sum.inl (x : Int)) (.inl hd), _, rfl, ?_⟩
    rw [isSome_tbl]
    cases e1 : Or01.isThing o x with
    | false =>
      rw [if_pos e1] at k
      refine iteTo rfl ?_
      refine ⟨_, rfl, (by show 1 ≤ sizeLine; decide), fun q hq => ?_⟩
      exact fin1 A0 k (Same.refl H) hq
    | true =>
      rw [if_neg (by rw [e1]; intro z; cases z), Om.average_eq ko] at k
      refine iteFo rfl ?_
      have hx := Om.mem_things.mpr (Om.isThing_iff.mp e1)
      have hp := Om.rows_pos ko
      have hle := Om.rows_le ko
      refine ⟨_, rfl, _, rfl, d, o, x, rfl, ko, .inl hd, hx, fun H1 ra s1 hra er => ?_⟩
      refine ⟨_, rfl, _, rfl, ra, o.many, Om.inPlace o x, rfl, SqL.of er, ko.seven, fun j _ => by have := Om.inPlace_le ko x j; omega, fun H2 s2 => ?_⟩
      rw [plSum_eq hx]
      refine ⟨_, rfl, ra, (List.range o.many).map (Om.inPlace o x), rfl, SqL.of (s2 _ _ er), ?_⟩
      rw [Om.inPlace_sum o hx]
      refine ⟨Om.placesSum o x, (Or01.rows o).length, rfl, hp, by omega, fun H3 qf s3 hq e3 => ?_⟩
      refine ⟨ra, qf, _, _, rfl, rfl, s3 _ _ (s2 _ _ er), e3, ?_, fun p hp' => ?_⟩
      · rw [tl_length]
        exact Nat.le_of_lt (small1000 (by have := ko.seven; show o.many + 2 ≤ 1000; omega))
      have sq := s1.trans (s2.trans s3)
      have hpn : H p = none := sq.free hp'
      refine k _ h p (A0.same (same_upd sq hpn)) (.of (same_upd sq hpn)) (.inl rfl) hpn ?_
      rw [upd_same, vz_app, vz_frac hp, vz_ints]
      rfl
/-! fewest -/
def arFewest : Or01.Call → List V → Hp → Prop := fun c args _ => c = .fewest ∧ args = []
theorem scFewest : FnScope ["self", "below"] ["self"] (defScope sFewest) := ⟨rfl, rfl, rfl, by decide +kernel, rfl, by decide +kernel, by decide +kernel⟩
theorem ok_fewest {f : Addr} {fd : FuncData} {tk : Tok} (F : Fun K "fewest" "Order.fewest" sFewest f fd) (T : Txt K mg C) (Bb : Bi mg) (M4 : mg "MOST_THINGS_FOR_FEWEST" = some (.int 4 tk)) (B : Md P w K mg base C 1 "below" ["self"] (spBelow C))
    (N : Df P w K mg base 17 "questions_needed" ["below", "found"] (spNeed 6)) : FnOk P w K mg base CX0 18 f fd ["self"] (spStep C arFewest) := by
  obtain ⟨fB, fdB, mB, bB, GB⟩ := B.ex
  obtain ⟨fN, fdN, gN, kN, bN, GN⟩ := N.ex
  refine F.ok scFewest (fun vs H Q E h => ?_) (fun cdv A outer s H vs Q E hr h => ?_)
  · obtain ⟨a, h, o, c, args, rfl, ⟨rfl, rfl⟩, _⟩ := h
    rfl
  · obtain ⟨a, h, o, c, args, rfl, ⟨rfl, rfl⟩, ko, A0, k⟩ := h
    obtain ⟨dx, h1⟩ := A0.ob
    have hr1 : Room 1 _ := hr.mono (by decide)
    refine ⟨_, pss_cons (ps_set (i := 1) scFewest.nd rfl (Or.inl rfl) (pe_meth0 (pv 0) T.cl mB GB hr1 bB .nil pass0))
      (pss_cons (ps_if (pt_cmp (pc_gt (pe_callB call_lenD (by rfl) Bb.len PySem.boot_len (pa_cons (pv 1) pa_nil)) (pe_glob (v := .int 4) rfl M4 ⟨_, rfl⟩))) (pss_one (ps_ret (pe_lst (pa_cons (pe_un un_neg pe_int) pa_nil)))) pss_nil)
      (pss_one (ps_ret (pe_lst (pa_cons (pe_call GN hr (by rfl) gN kN bN .nil pass0 (pa_cons (pv 1) (pa_cons pe_dnewT pa_nil))) pa_nil))))), ?_⟩
    refine ⟨_, rfl, a, dx, _, rfl, h1, oF_no (by decide +kernel), a, h, o, rfl, A0, fun d hd => ?_⟩
    have es : Or01.step o .fewest = (o, if 4 < o.many then [-5] else Or01.ints [Or01.fewest 6 o]) := rfl
    rw [es] at k
    refine ⟨_, rfl, d, _, rfl, hd, _, _, rfl, rfl, _, rfl, ?_⟩
    rw [tbl_length]
    by_cases c : 4 < o.many
    · rw [if_pos c] at k
      refine iteTo (decide_eq_true (by omega)) ?_
      refine ⟨_, rfl, (by show 1 ≤ sizeLine; decide), fun q hq => ?_⟩
      exact fin1 A0 k (Same.refl H) hq
    · rw [if_neg c, Om.need_six ko (Om.open_len (by omega))] at k
      refine iteFo (decide_eq_false (by omega)) ?_
      refine ⟨_, rfl, fun fa hfa => ?_⟩
      have s1 : Same H (upd H fa (.dT [])) := same_upd (Same.refl H) hfa
      refine ⟨d, fa, o, 0, rfl, ko, by omega, Om.open_len (by omega), s1 _ _ hd, ⟨[], upd_same, Memo.nil _, Nat.le_refl _⟩, by decide, fun H2 kf mm => ?_⟩
      have s2 : Same H H2 := fun b x e => kf b x (s1 b x e) (ne_of_none e hfa)
      refine ⟨(by show 1 ≤ sizeLine; decide), fun q hq => ?_⟩
      exact fin1 A0 k s2 hq
end
end Ob
end

section
set_option Elab.async false
set_option maxRecDepth 100000
set_option maxHeartbeats 4000000
set_option linter.all false
namespace Ob
open PySem PySem.Spec PyProof.Rows L2
open Om (mask bit every follow W Ok left idx need ask met)
section
variable {P : Program} {w : World} {K : PySem.W.Frag} {mg : Str → Option Value} {base : Heap} {C : Addr}
theorem Prs.item {H : Hp} {l : List (Nat × Nat)} {ws : List V} {i : Nat} {x : V} (r : Prs H l ws) (hx : ws[i]? = some x) : ∃ (p : Nat × Nat) (t : Addr), l[i]? = some p ∧ x = V.ref t ∧ H t = some (.tup [.int (p.1 : Int), .int (p.2 : Int)]) := by
  have hi : i < l.length := by rw [← r.1]; exact (List.getElem?_eq_some_iff.mp hx).1
  obtain ⟨t, h1, h2⟩ := r.2 i _ (List.getElem?_eq_getElem hi)
  rw [hx] at h1
  cases h1
  exact ⟨_, t, List.getElem?_eq_getElem hi, rfl, h2⟩
/-! next_pairs -/
def arNext : Or01.Call → List V → Hp → Prop := fun c args _ => c = .next ∧ args = []
theorem scNext : FnScope ["self", "pairs", "given", "pair"] ["self"] (defScope sNextPairs) := ⟨rfl, rfl, rfl, by decide +kernel, rfl, by decide +kernel, by decide +kernel⟩
def flatP (l : List (Nat × Nat)) : List Nat := l.flatMap fun p => [p.1, p.2]
theorem flatP_len (l : List (Nat × Nat)) : (flatP l).length = 2 * l.length := by
  induction l with
  | nil => rfl
  | cons a l ih =>
    show ([a.1, a.2] ++ flatP l).length = 2 * (l.length + 1)
    rw [List.length_append, ih]
    show 2 + 2 * l.length = _
    omega
theorem flatP_more {l : List (Nat × Nat)} {i : Nat} {p : Nat × Nat} (h : l[i]? = some p) : flatP (l.take (i + 1)) = flatP (l.take i) ++ [p.1, p.2] := by
  unfold flatP
  rw [take_more h, List.flatMap_append]
  simp
theorem next_len {o : Or01.Order} (k : Ok o) : (Or01.next o).length ≤ 49 := by
  rw [next_by]
  have := pairsBy_len k (nxR o) o.many
  rw [all_taken] at this
  exact this
theorem ok_next {f : Addr} {fd : FuncData} (F : Fun K "next_pairs" "Order.next_pairs" sNextPairs f fd) (T : Txt K mg C) (Bb : Bi mg) (B : Md P w K mg base C 1 "below" ["self"] (spBelow C)) (N : Df P w K mg base 4 "neighbours" ["below"] (spPairs nxR)) :
    FnOk P w K mg base CX0 5 f fd ["self"] (spStep C arNext) := by
  obtain ⟨fB, fdB, mB, bB, GB⟩ := B.ex
  obtain ⟨fN, fdN, gN, kN, bN, GN⟩ := N.ex
  refine F.ok scNext (fun vs H Q E h => ?_) (fun cdv A outer s H vs Q E hr h => ?_)
  · obtain ⟨a, h, o, c, args, rfl, ⟨rfl, rfl⟩, _⟩ := h
    rfl
  · obtain ⟨a, h, o, c, args, rfl, ⟨rfl, rfl⟩, ko, A0, k⟩ := h
    obtain ⟨dx, h1⟩ := A0.ob
    have hr1 : Room 1 _ := hr.mono (by decide)
    refine ⟨_, pss_cons (ps_set (i := 1) scNext.nd rfl (Or.inl rfl) (pe_call GN hr (by rfl) gN kN bN .nil pass0 (pa_cons (pe_meth0 (pv 0) T.cl mB GB hr1 bB .nil pass0) pa_nil)))
      (pss_cons (ps_set (i := 2) scNext.nd rfl (Or.inl rfl) (pe_lst (pa_cons (pe_callB call_len_seq (by rfl) Bb.len PySem.boot_len (pa_cons (pv 1) pa_nil)) pa_nil)))
      (pss_cons (ps_for PassesOwn.never rfl (pi_list (pv 1)) (pg_name (i := 3) scNext.nd rfl (Or.inl rfl))
        (pss_one (ps_expr (pe_bm PySem.F.plainAttrs_list PySem.F.slot_list_extend PySem.F.type_list_extend mt_extendT (pv 2) (pa_cons (pv 3) pa_nil)))))
      (pss_one (ps_ret (pv 2))))), ?_⟩
    refine ⟨_, rfl, a, dx, _, rfl, h1, oF_no (by decide +kernel), a, h, o, rfl, A0, fun d hd => ?_⟩
    refine ⟨d, o, rfl, ko, hd, fun H1 pa ws s1 hpa e1 pr => ?_⟩
    rw [← next_by] at pr
    have hn := next_len ko
    refine ⟨_, rfl, pa, _, rfl, .inl (SqL.of e1), (by show 1 ≤ sizeLine; decide), fun gv hgv => ?_⟩
    have ngp : pa ≠ gv := ne_of_none e1 hgv
    have hgv' : H gv = none := s1.free hgv
    have s2 : Same H1 (upd H1 gv (.lst [V.int ((ws.length : Nat) : Int)])) := same_upd (Same.refl _) hgv
    refine ⟨_, rfl, pa, rfl, ⟨_, SqL.of (s2 _ _ e1)⟩, for_list (K := K) (a := pa) (xs := ws) (fun j σ H2 => ∃ v3 : Option V, σ = [some (.ref a), some (.ref pa), some (.ref gv), v3] ∧ (∀ b x, H1 b = some x → H2 b = some x) ∧ H2 gv = some (.lst (vInts ((Or01.next o).length :: flatP ((Or01.next o).take j)))))
      ⟨none, rfl, s2, by rw [upd_same, pr.1]; rfl⟩ ?_ ?_ ?_⟩
    · rintro j σ H2 _ ⟨_, _, kp, _⟩
      exact SqL.of (kp _ _ e1)
    · rintro j x σ H2 hj ⟨v3, rfl, kp, eg⟩
      obtain ⟨p, t, hp, rfl, ht⟩ := pr.item hj
      refine ⟨_, rfl, .inl ⟨rfl, _, SqL.of eg⟩, _, rfl, gv, t, _, _, rfl, rfl, eg, SqT.of (kp _ _ ht), ?_, ?_⟩
      · rw [vInts_length, List.length_cons, flatP_len, List.length_take]
        exact Nat.le_of_lt (small1000 (by show 2 * _ + 1 + 2 ≤ 1000; omega))
      · refine ⟨_, rfl, fun b x e => ?_, ?_⟩
        · rw [upd_ne (ne_of_none e hgv)]
          exact kp b x e
        · rw [upd_same, flatP_more hp]
          show _ = some (HO.lst (vInts (((Or01.next o).length :: flatP ((Or01.next o).take j)) ++ [p.1, p.2])))
          rw [vInts_append]
          rfl
    · rintro σ H2 ⟨v3, rfl, kp, eg⟩
      rw [pr.1, List.take_length] at eg
      have sq : Same H H2 := fun b x e => kp b x (s1 b x e)
      refine ⟨_, rfl, k _ h gv (A0.same sq) (.of sq) (.inl rfl) hgv' ?_⟩
      rw [eg]
      show _ = some (HO.lst (vz (Or01.pairRow (Or01.next o))))
      have e : Or01.pairRow (Or01.next o) = Or01.ints ((Or01.next o).length :: flatP (Or01.next o)) := rfl
      rw [e, vz_ints]
/-! likely -/
def keyP (H : Hp) : V → Int × Int
  | .ref t => match H t with
    | some (.tup [.int a, .int b]) => (a, b)
    | _ => (0, 0)
  | _ => (0, 0)
theorem keyP_at {H : Hp} {t : Addr} {a b : Int} (h : H t = some (.tup [.int a, .int b])) : keyP H (.ref t) = (a, b) := by
  unfold keyP
  simp only [h]
def arLikely : Or01.Call → List V → Hp → Prop := fun c args _ => c = .likely ∧ args = []
theorem scLikely : FnScope ["self", "below", "rows", "given", "places", "thing"] ["self"] (defScope sLikely) := ⟨rfl, rfl, rfl, by decide +kernel, rfl, by decide +kernel, by decide +kernel⟩
def plPair (o : Or01.Order) (t : Nat) : Nat × Nat := (Om.placesSum o t, t)
/-- what is answered for the first things of a row -/
def lk (o : Or01.Order) (l : List Nat) : List Int := l.flatMap fun (x : Nat) => (x : Int) :: Or01.fraction (Or01.average o x)
theorem lk_more (o : Or01.Order) {l : List Nat} {i x : Nat} (h : l[i]? = some x) : lk o (l.take (i + 1)) = lk o (l.take i) ++ ((x : Int) :: Or01.fraction (Or01.average o x)) := by
  unfold lk
  rw [take_more h, List.flatMap_append]
  simp
theorem lk_len (o : Or01.Order) (l : List Nat) : (lk o l).length = 3 * l.length := by
  induction l with
  | nil => rfl
  | cons a l ih =>
    show (((a : Int) :: Or01.fraction (Or01.average o a)) ++ lk o l).length = 3 * (l.length + 1)
    rw [List.length_append, ih]
    show 3 + 3 * l.length = _
    omega
theorem ok_likely {f : Addr} {fd : FuncData} (F : Fun K "likely" "Order.likely" sLikely f fd) (T : Txt K mg C) (mS : mg "sorted" = none) (B : Md P w K mg base C 1 "below" ["self"] (spBelow C)) (M : Df P w K mg base 5 "how_many_rows" ["below"] spHowMany)
    (R : Df P w K mg base 5 "rows_by_place" ["below", "thing"] spByPlace) (S : Df P w K mg base 1 "sum_of_places" ["rows"] (spSumPl K)) (Fr : Df P w K mg base 2 "fraction" ["part", "whole"] spFraction) :
    FnOk P w K mg base CX0 6 f fd ["self"] (spStep C arLikely) := by
  obtain ⟨fB, fdB, mB, bB, GB⟩ := B.ex
  obtain ⟨fM, fdM, gM, kM, bM, GM⟩ := M.ex
  obtain ⟨fR, fdR, gR, kR, bR, GR⟩ := R.ex
  obtain ⟨fS, fdS, gS, kS, bS, GS⟩ := S.ex
  obtain ⟨fF, fdF, gF, kF, bF, GF⟩ := Fr.ex
  refine F.ok scLikely (fun vs H Q E h => ?_) (fun cdv A outer s H vs Q E hr h => ?_)
  · obtain ⟨a, h, o, c, args, rfl, ⟨rfl, rfl⟩, _⟩ := h
    rfl
  · obtain ⟨a, h, o, c, args, rfl, ⟨rfl, rfl⟩, ko, A0, k⟩ := h
    obtain ⟨dx, h1⟩ := A0.ob
    have hr1 : Room 1 _ := hr.mono (by decide)
    have hr2 : Room 2 _ := hr.mono (by decide)
    refine ⟨_, pss_cons (ps_set (i := 1) scLikely.nd rfl (Or.inr rfl) (pe_meth0 (pv 0) T.cl mB GB hr1 bB .nil pass0))
      (pss_cons (ps_set (i := 2) scLikely.nd rfl (Or.inl rfl) (pe_call GM hr (by rfl) gM kM bM .nil pass0 (pa_cons (pv 1) pa_nil)))
      (pss_cons (ps_set (i := 3) scLikely.nd rfl (Or.inl rfl) (pe_lst pa_nil))
      (pss_cons (ps_for PassesOwn.never rfl (pi_list (pe_callB cr_sortedPO (by rfl) mS (by decide +kernel) (pa_cons
          (pe_lock (pe_lc (own := [("thing", 5)]) (g := gName 5) (tt := tYes) rfl scLikely.nd (pi_keys (pv 1)) (blkOk_by (N := ["self", "below", "rows", "given", "places", "thing"]) (sc := defScope sLikely) (by decide +kernel))
            (fun _ _ _ _ _ => pg_name (i := 5) scLikely.nd rfl (Or.inl rfl)) (fun _ _ _ _ _ => pts_nil)
            (fun _ _ _ _ _ => pe_tup (pa_cons (pe_call GS hr1 (by rfl) gS kS bS .nil pass0 (pa_cons (pe_call GR hr (by rfl) gR kR bR .nil pass0 (pa_cons (pv 1) (pa_cons (pv 5) pa_nil))) pa_nil)) (pa_cons (pv 5) pa_nil))))) pa_nil)))
        (pg_tup rfl (pgs_cons (pg_name (i := 4) scLikely.nd rfl (Or.inl rfl)) (pgs_cons (pg_name (i := 5) scLikely.nd rfl (Or.inl rfl)) pgs_nil)))
        (pss_cons (ps_expr (pe_bm PySem.F.plainAttrs_list PySem.F.slot_list_append PySem.F.type_list_append mt_append (pv 3) (pa_cons (pv 5) pa_nil)))
        (pss_one (ps_expr (pe_bm PySem.F.plainAttrs_list PySem.F.slot_list_extend PySem.F.type_list_extend mt_extend (pv 3) (pa_cons (pe_call GF hr2 (by rfl) gF kF bF .nil pass0 (pa_cons (pv 4) (pa_cons (pv 2) pa_nil))) pa_nil))))))
      (pss_one (ps_ret (pv 3)))))), ?_⟩
    have hp := Om.rows_pos ko
    have hle := Om.rows_le ko
    have h7 := ko.seven
    refine ⟨_, rfl, a, dx, _, rfl, h1, oF_no (by decide +kernel), a, h, o, rfl, A0, fun d hd => ?_⟩
    refine ⟨_, rfl, d, o, rfl, ko, hd, fun H1 s1 => ?_⟩
    refine ⟨(by show 0 ≤ sizeLine; decide), fun gv hgv => ?_⟩
    have hgv' : H gv = none := s1.free hgv
    have s2 : Same H1 (upd H1 gv (.lst [])) := same_upd (Same.refl _) hgv
    have eg2 : (upd H1 gv (.lst [])) gv = some (.lst []) := upd_same
    generalize upd H1 gv (.lst []) = H2 at s2 eg2
    have s12 := s1.trans s2
    have hd2 : H2 d = some (.dK (tbl o)) := s12 _ _ hd
    refine ⟨d, _, hd2, trivial, fun od => ?_⟩
    refine ⟨_, rfl, d, od, rfl, .inl ⟨_, upd_same, fun D hD => ?_⟩⟩
    have nd : D ≠ d := fun e => by subst e; rw [upd_same] at hD; cases hD
    have hD2 : H2 D = none := by rw [upd_ne nd] at hD; exact hD
    refine lc_it (walk_keys (kvs := tbl o)) (fun i H' => ∃ ws : List V, Same (upd H2 d (.frz od (.dK (tbl o)))) H' ∧ H' D = some (.lst ws) ∧ Prs H' (((Or01.things o).take i).map (plPair o)) ws) ⟨[], same_upd (Same.refl _) hD, upd_same, Prs.nil _⟩ ?_ ?_ ?_
    · rintro i H' _ ⟨ws, s3, _⟩
      exact s3 d _ upd_same
    · rintro i z H' H'' hi ⟨ws, s3, e3, pr⟩ ⟨rfl, kk, v, hk, rfl⟩
      obtain ⟨t, ht, rfl, _⟩ := tblOf_get hk
      have hm : t ∈ Or01.things o := List.mem_of_getElem? ht
      refine ⟨rfl, yesT ?_⟩
      refine ⟨_, rfl, _, rfl, d, o, t, rfl, ko, .inr ⟨od, s3 d _ upd_same⟩, hm, fun H4 ra s4 hra er => ?_⟩
      refine ⟨ra, o.many, Om.inPlace o t, rfl, SqL.of er, h7, fun j _ => by have := Om.inPlace_le ko t j; omega, fun H5 s5 => ?_⟩
      rw [plSum_eq hm]
      refine ⟨_, rfl, (by show 2 ≤ sizeLine; decide), fun tp htp => ?_⟩
      have s35 := s4.trans s5
      have e5 := s35 _ _ e3
      have nD : D ≠ tp := ne_of_none e5 htp
      refine ⟨ws, by rw [upd_ne nD]; exact e5, small1000 ?_, ws ++ [.ref tp], same_upd (same_upd (s3.trans s35) ((s3.trans s35).free htp)) hD, upd_same, ?_⟩
      · rw [pr.1, List.length_map]
        have := take7 ko i
        omega
      · rw [take_more ht, List.map_append]
        refine ((pr.same s35).keep fun u xs hu => ?_).snoc (p := plPair o t) ?_
        · rw [upd_ne (ne_of hu e5 (by intro z; cases z)), upd_ne (ne_of_none hu htp)]
          exact hu
        · rw [upd_ne nD.symm, upd_same]
          rfl
    · rintro H' ⟨ws, s3, e3, pr⟩
      rw [tbl_length, all_taken o] at pr
      have hz := s3 d _ upd_same
      refine ⟨hz, ?_⟩
      have sU : Same H2 (upd H' d (.dK (tbl o))) := same_unlock hd2 s3
      have eD : (upd H' d (.dK (tbl o))) D = some (.lst ws) := by rw [upd_ne nd]; exact e3
      have pr3 : Prs (upd H' d (.dK (tbl o))) ((Or01.things o).map (plPair o)) ws := pr.keep fun u xs hu => by
        rw [upd_ne (ne_of hu hz (by intro z; cases z))]
        exact hu
      generalize upd H' d (.dK (tbl o)) = H3 at sU eD pr3
      have each : ∀ (i : Nat) (y : V), ws[i]? = some y → ∃ (x : Nat) (t : Addr), (Or01.things o)[i]? = some x ∧ y = V.ref t ∧ H3 t = some (.tup [.int ((Om.placesSum o x : Nat) : Int), .int (x : Int)]) := fun i y hy => by
        obtain ⟨p, t, hp, rfl, ht⟩ := pr3.item hy
        rw [List.getElem?_map] at hp
        obtain ⟨x, hx, rfl⟩ := Option.map_eq_some_iff.mp hp
        exact ⟨x, t, hx, rfl, ht⟩
      have mem : ∀ y ∈ ws, ∃ (x : Nat) (t : Addr), x ∈ Or01.things o ∧ y = V.ref t ∧ H3 t = some (.tup [.int ((Om.placesSum o x : Nat) : Int), .int (x : Int)]) := fun y hy => by
        obtain ⟨i, hi⟩ := List.mem_iff_getElem?.mp hy
        obtain ⟨x, t, hx, e1, e2⟩ := each i y hi
        exact ⟨x, t, List.mem_of_getElem? hx, e1, e2⟩
      refine ⟨D, ws, keyP H3, rfl, SqL.of eD, fun y hy => ?_, fun ys p hs hst hpn => ?_⟩
      · obtain ⟨x, t, _, rfl, ht⟩ := mem y hy
        exact ⟨t, rfl, by rw [keyP_at ht]; exact ht⟩
      have memY : ∀ y ∈ ys, ∃ (x : Nat) (t : Addr), x ∈ Or01.things o ∧ y = V.ref t ∧ H3 t = some (.tup [.int ((Om.placesSum o x : Nat) : Int), .int (x : Int)]) := fun y hy => mem y (hst.perm.mem_iff.mp hy)
      have gOf : ∀ y ∈ ys, ((keyP H3 y).1 = ((Om.placesSum o (keyP H3 y).2.toNat : Nat) : Int) ∧ (keyP H3 y).2 = (((keyP H3 y).2.toNat : Nat) : Int)) := fun y hy => by
        obtain ⟨x, t, _, rfl, ht⟩ := memY y hy
        rw [keyP_at ht]
        exact ⟨by rw [Int.toNat_natCast], by rw [Int.toNat_natCast]⟩
      have ewt : ws.map (fun y => (keyP H3 y).2.toNat) = Or01.things o := by
        refine List.ext_getElem? fun i => ?_
        rw [List.getElem?_map]
        cases hy : ws[i]? with
        | none =>
          have hl := List.getElem?_eq_none_iff.mp hy
          rw [pr3.1, List.length_map] at hl
          rw [List.getElem?_eq_none hl]
          rfl
        | some y =>
          obtain ⟨x, t, hx, rfl, ht⟩ := each i y hy
          rw [hx]
          show some (keyP H3 (V.ref t)).2.toNat = some x
          rw [keyP_at ht, Int.toNat_natCast]
      have permM : (ys.map fun y => (keyP H3 y).2.toNat).Perm (Or01.things o) := ewt ▸ hst.perm.map _
      have ndM : (ys.map fun y => (keyP H3 y).2.toNat).Nodup := permM.nodup_iff.mpr (Om.things_nodup o)
      have pwM : (ys.map fun y => (keyP H3 y).2.toNat).Pairwise (Om.Ahead (Om.placesSum o)) := by
        rw [List.pairwise_map]
        have nd2 := List.pairwise_map.mp ndM
        refine (List.Pairwise.and hs nd2).imp_of_mem fun {y1 y2} m1 m2 hh => ?_
        obtain ⟨a1, a2⟩ := gOf y1 m1
        obtain ⟨b1, b2⟩ := gOf y2 m2
        have n1 := SrtO.lexB_no.mp hh.1
        have n2 := hh.2
        rw [a1, b1] at n1
        generalize (keyP H3 y1).2 = u at *
        generalize (keyP H3 y2).2 = v at *
        unfold Om.Ahead
        omega
      have eL := Om.likely_of ko permM pwM
      have es : Or01.step o .likely = (o, (Or01.likely o).flatMap fun x => (x.1 : Int) :: Or01.fraction x.2) := rfl
      rw [es, eL] at k
      have eF : (((ys.map fun y => (keyP H3 y).2.toNat).map fun x => (x, Or01.average o x)).flatMap fun (x : Nat × Rat) => (x.1 : Int) :: Or01.fraction x.2) = lk o (ys.map fun y => (keyP H3 y).2.toNat) := by
        rw [List.flatMap_map]
        rfl
      rw [eF] at k
      have hlenY : ys.length ≤ 7 := by
        have := permM.length_eq
        rw [List.length_map, Om.things_length] at this
        omega
      have hpH : H p = none := (s12.trans sU).free hpn
      have eg3 : H3 gv = some (.lst []) := sU _ _ eg2
      have ngp : gv ≠ p := ne_of_none eg3 hpn
      refine ⟨p, rfl, ⟨_, SqL.of upd_same⟩, for_list (K := K) (a := p) (xs := ys) (fun j σ H4 => ∃ v4 v5 : Option V, σ = [some (.ref a), some (.ref d), some (.int (((Or01.rows o).length : Nat) : Int)), some (.ref gv), v4, v5] ∧
        (∀ b x, (upd H3 p (.lst ys)) b = some x → b ≠ gv → H4 b = some x) ∧ H4 gv = some (.lst (vz (lk o ((ys.map fun y => (keyP H3 y).2.toNat).take j)))))
        ⟨none, none, rfl, fun b x e _ => e, by rw [upd_ne ngp]; exact eg3⟩ ?_ ?_ ?_⟩
      · rintro j σ H4 _ ⟨_, _, _, kp, _⟩
        exact SqL.of (kp p _ upd_same ngp.symm)
      · rintro j y σ H4 hj ⟨v4, v5, rfl, kp, eg⟩
        obtain ⟨x, t, hx, rfl, ht⟩ := memY y (List.mem_of_getElem? hj)
        have ntg : t ≠ gv := ne_of ht eg3 (by intro z; cases z)
        have ht4 : H4 t = some (.tup [.int ((Om.placesSum o x : Nat) : Int), .int (x : Int)]) := kp t _ (by rw [upd_ne (ne_of_none ht hpn)]; exact ht) ntg
        have hmj : (ys.map fun y => (keyP H3 y).2.toNat)[j]? = some x := by
          rw [List.getElem?_map, hj]
          show some (keyP H3 (V.ref t)).2.toNat = some x
          rw [keyP_at ht, Int.toNat_natCast]
        have hll : (lk o ((ys.map fun y => (keyP H3 y).2.toNat).take j)).length ≤ 21 := by
          rw [lk_len, List.length_take, List.length_map]
          omega
        refine ⟨t, _, rfl, SqT.of ht4, rfl, _, _, rfl, _, _, rfl, rfl, ?_⟩
        refine ⟨_, rfl, .inl ⟨rfl, _, SqL.of eg⟩, _, rfl, gv, _, _, rfl, rfl, eg, small1000 (by rw [show (vz (lk o ((ys.map fun y => (keyP H3 y).2.toNat).take j))).length = (lk o ((ys.map fun y => (keyP H3 y).2.toNat).take j)).length from List.length_map ..]; omega), ?_⟩
        refine ⟨_, rfl, .inl ⟨rfl, _, SqL.of upd_same⟩, _, rfl, _, rfl, Om.placesSum o x, (Or01.rows o).length, rfl, hp, by omega, fun H5 qf s5 hqf e5 => ?_⟩
        refine ⟨gv, qf, _, _, rfl, rfl, s5 gv _ upd_same, e5, ?_, ?_⟩
        · rw [List.length_append, show (vz (lk o ((ys.map fun y => (keyP H3 y).2.toNat).take j))).length = (lk o ((ys.map fun y => (keyP H3 y).2.toNat).take j)).length from List.length_map ..]
          exact Nat.le_of_lt (small1000 (by show _ + 1 + 2 ≤ 1000; omega))
        refine ⟨_, _, rfl, fun b z e nb => ?_, ?_⟩
        · rw [upd_ne nb]
          exact s5 b z (by rw [upd_ne nb]; exact kp b z e nb)
        · rw [upd_same, lk_more o hmj, vz_app, Om.average_eq ko]
          show _ = some (HO.lst (vz _ ++ (V.int (x : Int) :: vz (Or01.fraction _))))
          rw [vz_frac hp]
          simp
      · rintro σ H4 ⟨v4, v5, rfl, kp, eg⟩
        rw [List.take_of_length_le (by rw [List.length_map]; exact Nat.le_refl _)] at eg
        have sq : Same H H4 := fun b x e => kp b x (by
          have e3 := sU b x (s12 b x e)
          rw [upd_ne (ne_of_none e3 hpn)]
          exact e3) (ne_of_none e hgv')
        exact ⟨_, rfl, k _ h gv (A0.same sq) (.of sq) (.inl rfl) hgv' eg⟩
end
end Ob
end

section
set_option Elab.async false
set_option maxRecDepth 100000
set_option maxHeartbeats 4000000
set_option linter.all false
namespace Ob
open PySem PySem.Spec PyProof.Rows L2 LamX
open Om (mask bit every follow W Ok left idx need ask met)
/-- all but tables, the object and its list stays -/
def KeepN (H H' : Hp) (a h : Addr) : Prop := ∀ b x, H b = some x → (∀ ps, x ≠ .tbl ps) → b ≠ a → b ≠ h → H' b = some x
/-- a call is answered; the table may grow -/
def spStepT (C T : Addr) (ar : Or01.Call → List V → Hp → Prop) : Sp := fun vs H Q _ => ∃ (a h : Addr) (o : Or01.Order) (c : Or01.Call) (args : List V), vs = .ref a :: args ∧ ar c args H ∧ Ok o ∧ o.told.length ≤ 2000 ∧ OrdAt C H a h o ∧ TabS H T lamQ ∧
  ∀ H' h' q, OrdAt C H' a h' (Or01.step o c).1 → KeepN H H' a h → TabS H' T lamQ → (h' = h ∨ FreeN H h') → FreeN H q → H' q = some (.lst (vz (Or01.step o c).2)) → Q (.ref q) H'
theorem tab_keep {C T a h : Addr} {H H' : Hp} {o : Or01.Order} (tab : TabS H T lamQ) (A0 : OrdAt C H a h o) (K : Keep H H' a h) : TabS H' T lamQ := by
  obtain ⟨⟨dx, h1⟩, ds, h2, _⟩ := A0
  obtain ⟨ps, hP, ok, each⟩ := tab
  refine ⟨ps, K _ _ hP (ne_of hP h1 (by intro z; cases z)) (ne_of hP h2 (by intro z; cases z)), ok, fun pos cv hc => ?_⟩
  obtain ⟨c, e1, e2⟩ := each pos cv hc
  exact ⟨c, e1, K _ _ e2 (ne_of e2 h1 (by intro z; cases z)) (ne_of e2 h2 (by intro z; cases z))⟩
/-- a method that leaves the table alone -/
theorem stepT_of {C T a h : Addr} {H : Hp} {o : Or01.Order} {c : Or01.Call} {Q : VK} (tab : TabS H T lamQ) (A0 : OrdAt C H a h o)
    (k : ∀ H' h' q, OrdAt C H' a h' (Or01.step o c).1 → KeepN H H' a h → TabS H' T lamQ → (h' = h ∨ FreeN H h') → FreeN H q → H' q = some (.lst (vz (Or01.step o c).2)) → Q (.ref q) H') :
    ∀ H' h' q, OrdAt C H' a h' (Or01.step o c).1 → Keep H H' a h → (h' = h ∨ H h' = none) → H q = none → H' q = some (.lst (vz (Or01.step o c).2)) → Q (.ref q) H' := fun H' h' q O K hh hq e =>
  k H' h' q O (fun b x e _ na nh => K b x e na nh) (tab_keep tab A0 K) (hh.imp id FreeN.of) (.of hq) e
theorem ord_ext {C : Addr} {H H' : Hp} {a h : Addr} {o : Or01.Order} (e : ExtN H H') (A : OrdAt C H a h o) : OrdAt C H' a h o := by
  obtain ⟨⟨dx, h1⟩, ds, h2, h3, h4⟩ := A
  exact ⟨⟨dx, e _ _ h1 (by intro ps z; cases z)⟩, ds, e _ _ h2 (by intro ps z; cases z), h3, fun i d q => e _ _ (h4 i d q) (by intro ps z; cases z)⟩
section
variable {P : Program} {w : World} {K : PySem.W.Frag} {mg : Str → Option Value} {base : Heap} {C T : Addr}
/-! chance, as it is asked within -/
def spChanceQ (C : Addr) : Sp := fun vs H Q _ => ∃ (a h : Addr) (o : Or01.Order) (x y : Nat), vs = [.ref a, .int (x : Int), .int (y : Int)] ∧ Ok o ∧ OrdAt C H a h o ∧ x ∈ Or01.things o ∧ y ∈ Or01.things o ∧ x ≠ y ∧
  ∀ H' q, Same H H' → H q = none → H' q = some (.lst (vz (Or01.fraction (Or01.chance o x y)))) → Q (.ref q) H'
theorem ok_chanceQ {f : Addr} {fd : FuncData} (F : Fun K "chance" "Order.chance" sChance f fd) (T : Txt K mg C) (B : Md P w K mg base C 1 "below" ["self"] (spBelow C)) (W2 : Df P w K mg base 1 "are_two" ["below", "x", "y"] spAreTwo)
    (R : Df P w K mg base 6 "rows_with_ahead" ["below", "x", "y"] spAhead) (M : Df P w K mg base 5 "how_many_rows" ["below"] spHowMany) (Fr : Df P w K mg base 2 "fraction" ["part", "whole"] spFraction) :
    FnOk P w K mg base CX0 7 f fd ["self", "x", "y"] (spChanceQ C) := by
  obtain ⟨fB, fdB, mB, bB, GB⟩ := B.ex
  obtain ⟨fW, fdW, gW, kW, bW, GW⟩ := W2.ex
  obtain ⟨fR, fdR, gR, kR, bR, GR⟩ := R.ex
  obtain ⟨fM, fdM, gM, kM, bM, GM⟩ := M.ex
  obtain ⟨fF, fdF, gF, kF, bF, GF⟩ := Fr.ex
  refine F.ok scChance (fun vs H Q E h => ?_) (fun cdv A outer s H vs Q E hr h => ?_)
  · obtain ⟨a, h, o, x, y, rfl, _⟩ := h
    rfl
  · obtain ⟨a, h, o, x, y, rfl, ko, A0, hx, hy, ne, k⟩ := h
    obtain ⟨dx, h1⟩ := A0.ob
    have hr1 : Room 1 _ := hr.mono (by decide)
    have hr2 : Room 2 _ := hr.mono (by decide)
    have hr5 : Room 5 _ := hr.mono (by decide)
    refine ⟨_, pss_cons (ps_set (i := 3) scChance.nd rfl (Or.inl rfl) (pe_meth0 (pv 0) T.cl mB GB hr1 bB .nil pass0))
      (pss_cons (ps_if (pt_not (pt_val (pe_call GW hr1 (by rfl) gW kW bW .nil pass0 (pa_cons (pv 3) (pa_cons (pv 1) (pa_cons (pv 2) pa_nil)))))) (pss_one (ps_ret (pe_lst (pa_cons (pe_un un_neg pe_int) pa_nil)))) pss_nil)
      (pss_one (ps_ret (pe_call GF hr2 (by rfl) gF kF bF .nil pass0 (pa_cons (pe_call GR hr (by rfl) gR kR bR .nil pass0 (pa_cons (pv 3) (pa_cons (pv 1) (pa_cons (pv 2) pa_nil)))) (pa_cons (pe_call GM hr5 (by rfl) gM kM bM .nil pass0 (pa_cons (pv 3) pa_nil)) pa_nil)))))), ?_⟩
    refine ⟨_, rfl, a, dx, _, rfl, h1, oF_no (by decide +kernel), a, h, o, rfl, A0, fun d hd => ?_⟩
    refine ⟨_, rfl, _, rfl, _, rfl, d, o, x, y, rfl, .inl hd, _, rfl, ?_⟩
    have e : (Or01.isThing o x && (Or01.isThing o y && decide (x ≠ y))) = true := by
      rw [Om.isThing_iff.mpr (Om.mem_things.mp hx), Om.isThing_iff.mpr (Om.mem_things.mp hy), decide_eq_true ne]
      rfl
    rw [e]
    have hp := Om.rows_pos ko
    have hle := Om.rows_le ko
    rw [Om.chance_eq ko] at k
    refine iteFo (by rfl) ?_
    refine ⟨_, rfl, _, rfl, _, rfl, d, o, x, y, rfl, ko, hd, hx, hy, ne, fun H1 s1 => ?_⟩
    refine ⟨_, rfl, d, o, rfl, ko, s1 _ _ hd, fun H2 s2 => ?_⟩
    refine ⟨Om.ahead o x y, (Or01.rows o).length, rfl, hp, by omega, fun H3 q s3 hq e3 => ?_⟩
    exact k _ q (s1.trans (s2.trans s3)) (s1.free (s2.free hq)) (by rw [vz_frac hp]; exact e3)
/-! fairest -/
def arFairest : Or01.Call → List V → Hp → Prop := fun c args _ => c = .fairest ∧ args = []
theorem scFairest : FnScope ["self", "below", "pair"] ["self"] (defScope sFairest) := ⟨rfl, rfl, rfl, by decide +kernel, rfl, by decide +kernel, by decide +kernel⟩
theorem ok_fairest {f : Addr} {fd : FuncData} (F : Fun K "fairest" "Order.fairest" sFairest f fd) (X : Txt K mg C) (mL : mg "list" = none) (B : Md P w K mg base C 1 "below" ["self"] (spBelow C)) (FP : Df P w K mg base 9 "fairest_pair" ["below"] (spFair T))
    (Ch : Md P w K mg base C 7 "chance" ["self", "x", "y"] (spChanceQ C)) : FnOk P w K mg base CX0 10 f fd ["self"] (spStepT C T arFairest) := by
  obtain ⟨fB, fdB, mB, bB, GB⟩ := B.ex
  obtain ⟨fP, fdP, gP, kP, bP, GP⟩ := FP.ex
  obtain ⟨fC, fdC, mC, bC, GC⟩ := Ch.ex
  refine F.ok scFairest (fun vs H Q E h => ?_) (fun cdv A outer s H vs Q E hr h => ?_)
  · obtain ⟨a, h, o, c, args, rfl, ⟨rfl, rfl⟩, _⟩ := h
    rfl
  · obtain ⟨a, h, o, c, args, rfl, ⟨rfl, rfl⟩, ko, _, A0, tab, k⟩ := h
    obtain ⟨dx, h1⟩ := A0.ob
    have hr1 : Room 1 _ := hr.mono (by decide)
    have hr7 : Room 7 _ := hr.mono (by decide)
    refine ⟨_, pss_cons (ps_set (i := 1) scFairest.nd rfl (Or.inl rfl) (pe_meth0 (pv 0) X.cl mB GB hr1 bB .nil pass0))
      (pss_cons (ps_set (i := 2) scFairest.nd rfl (Or.inl rfl) (pe_call GP hr (by rfl) gP kP bP .nil pass0 (pa_cons (pv 1) pa_nil)))
      (pss_cons (ps_if (pt_cmp (pc_isN (pv 2))) (pss_one (ps_ret (pe_lst (pa_cons (pe_un un_neg pe_int) pa_nil)))) pss_nil)
      (pss_one (ps_ret (pe_op op_cat (pe_callTy call_list_of (by rfl) mL (by decide +kernel) (pa_cons (pv 2) pa_nil)) (pe_meth (pv 0) X.cl mC GC hr7 bC .nil pass0 (pa_cons (pe_ix ix_tup (pv 2) pe_int (fun _ _ => rfl)) (pa_cons (pe_ix ix_tup (pv 2) pe_int (fun _ _ => rfl)) pa_nil)))))))), ?_⟩
    have es : Or01.step o .fairest = (o, match Or01.fairest o with
      | none => [-3]
      | some p => Or01.ints [p.1, p.2] ++ Or01.fraction (Or01.chance o p.1 p.2)) := rfl
    rw [es] at k
    refine ⟨_, rfl, a, dx, _, rfl, h1, oF_no (by decide +kernel), a, h, o, rfl, A0, fun d hd => ?_⟩
    refine ⟨_, rfl, d, o, rfl, ko, hd, tab, fun hn H1 ex tab1 => ?_, fun p H1 t hsome hpo ex tab1 ht => ?_⟩
    · rw [hn] at k
      refine ⟨_, rfl, _, rfl, ?_⟩
      refine iteTo (by rfl) ?_
      refine ⟨_, rfl, (by show 1 ≤ sizeLine; decide), fun q hq => ?_⟩
      have sq : Same H1 (upd H1 q (.lst [V.int (-3)])) := same_upd (Same.refl _) hq
      exact k _ h q ((ord_ext ex A0).same sq) (fun b x e n _ _ => sq _ _ (ex b x e n)) (tab1.ext sq) (.inl rfl) ((FreeN.of hq).back ex) upd_same
    · rw [hsome] at k
      obtain ⟨hx, hy, lt, _, _⟩ := Om.mem_open.mp hpo
      refine ⟨_, rfl, _, rfl, ?_⟩
      refine iteFo (by rfl) ?_
      refine ⟨_, rfl, t, _, rfl, .inr (SqT.of ht), fun l hl => ?_⟩
      have s2 : Same H1 (upd H1 l (.lst [.int (p.1 : Int), .int (p.2 : Int)])) := same_upd (Same.refl _) hl
      have el : (upd H1 l (.lst [.int (p.1 : Int), .int (p.2 : Int)])) l = some (.lst [.int (p.1 : Int), .int (p.2 : Int)]) := upd_same
      generalize upd H1 l (.lst [.int (p.1 : Int), .int (p.2 : Int)]) = H2 at s2 el
      have A2 : OrdAt C H2 a h o := (ord_ext ex A0).same s2
      obtain ⟨dx2, h2⟩ := A2.ob
      have ht2 := s2 _ _ ht
      refine ⟨_, rfl, a, dx2, _, rfl, h2, oF_no (by decide +kernel), _, rfl, t, _, 0, .int (p.1 : Int), rfl, rfl, SqT.of ht2, rfl, _, rfl, t, _, 1, .int (p.2 : Int), rfl, rfl, SqT.of ht2, rfl, a, h, o, p.1, p.2, rfl, ko, A2, hx, hy, by omega, fun H3 q s3 hq e3 => ?_⟩
      refine ⟨l, q, _, _, rfl, rfl, s3 _ _ el, e3, ?_, fun r hr' => ?_⟩
      · have : (vz (Or01.fraction (Or01.chance o p.1 p.2))).length = 2 := rfl
        rw [this]
        show 2 + 2 ≤ sizeLine
        decide
      have s13 := s2.trans s3
      have sr : Same H3 (upd H3 r (.lst ([V.int (p.1 : Int), V.int (p.2 : Int)] ++ vz (Or01.fraction (Or01.chance o p.1 p.2))))) := same_upd (Same.refl _) hr'
      have s14 := s13.trans sr
      refine k _ h r ((ord_ext ex A0).same s14) (fun b x e n _ _ => s14 _ _ (ex b x e n)) (tab1.ext s14) (.inl rfl) ((FreeN.of (s13.free hr')).back ex) ?_
      rw [upd_same]
      show _ = some (HO.lst (vz (Or01.ints [p.1, p.2] ++ Or01.fraction (Or01.chance o p.1 p.2))))
      rw [vz_app]
      rfl
end
end Ob
end

section
set_option Elab.async false
set_option maxRecDepth 100000
set_option maxHeartbeats 4000000
set_option linter.all false
namespace Ob
open PySem PySem.Spec PyProof.Rows L2 LamX
open Om (mask bit every follow W Ok left idx enc)
abbrev sEnd : Stmt := topS 47
abbrev sAnswer : Stmt := topS 48
/-- the numbers of the module -/
structure Nums (K : PySem.W.Frag) (mg : Str → Option Value) : Prop where
  n0 : ∃ t, mg "THINGS" = some (.int 0 t)
  n1 : ∃ t, mg "LESS" = some (.int 1 t)
  n2 : ∃ t, mg "UNDO" = some (.int 2 t)
  n3 : ∃ t, mg "MANY" = some (.int 3 t)
  n4 : ∃ t, mg "NTH" = some (.int 4 t)
  n5 : ∃ t, mg "RANK" = some (.int 5 t)
  n6 : ∃ t, mg "CHANCE" = some (.int 6 t)
  n7 : ∃ t, mg "BOTH" = some (.int 7 t)
  n8 : ∃ t, mg "SPREAD" = some (.int 8 t)
  n9 : ∃ t, mg "FAIREST" = some (.int 9 t)
  n10 : ∃ t, mg "FEWEST" = some (.int 10 t)
  n11 : ∃ t, mg "NEXT_PAIRS" = some (.int 11 t)
  n12 : ∃ t, mg "LIKELY" = some (.int 12 t)
  ls : ∃ a, mg "LENGTHS" = some (.ref a) ∧ ∀ H, SqT K H a (vInts [1, 2, 0, 0, 1, 0, 2, 3, 1, 0, 0, 0, 0, 2])
theorem at_mid {A B : List Nat} {j p : Nat} (h : B[j]? = some p) : atI (vInts (A ++ B)) ((A.length + j : Nat) : Int) = some (.int (p : Int)) := by
  refine atI_nat ?_
  unfold vInts
  rw [List.getElem?_map, List.getElem?_append_right (by omega), show A.length + j - A.length = j by omega, h]
  rfl
theorem cut_tail (p : Nat) (l : List Nat) : cutV (vInts (p :: l)) (some 1) none = vInts l := by
  unfold cutV
  rw [show (some (1 : Int)) = some ((1 : Nat) : Int) from rfl, HT.sIx_nat, HT.sIx_none, vInts_length, List.length_cons, Nat.min_eq_left (by omega)]
  show (vInts l).take (l.length + 1 - 1) = vInts l
  rw [Nat.add_sub_cancel, ← vInts_length l, List.take_length]
section
variable {P : Program} {w : World} {K : PySem.W.Frag} {mg : Str → Option Value} {base : Heap} {C T : Addr}
theorem scEnd : FnScope ["calls", "start", "number", "end"] ["calls", "start"] (defScope sEnd) := ⟨rfl, rfl, rfl, by decide +kernel, rfl, by decide +kernel, by decide +kernel⟩
theorem ok_end {f : Addr} {fd : FuncData} (F : Fun K "end_of_call" "end_of_call" sEnd f fd) (N : Nums K mg) : FnOk P w K mg base CX0 1 f fd ["calls", "start"] (spEnd K) := by
  obtain ⟨t5, g5⟩ := N.n5
  obtain ⟨aL, gL, hL⟩ := N.ls
  refine F.ok scEnd (fun vs H Q E h => ?_) (fun cdv A outer s H vs Q E hr h => ?_)
  · obtain ⟨ca, l1, l2, c, rfl, _⟩ := h
    rfl
  · obtain ⟨ca, l1, l2, c, rfl, hca, k⟩ := h
    refine ⟨_, pss_cons (ps_set (i := 2) scEnd.nd rfl (Or.inl rfl) (pe_ix ix_list (pv 0) (pv 1) (fun _ _ => rfl)))
      (pss_cons (ps_set (i := 3) scEnd.nd rfl (Or.inl rfl) (pe_op op_addN (pe_op op_addN (pv 1) pe_int) (pe_ix ix_tup (pe_glob (v := .ref aL) rfl gL rfl) (pv 2) (fun _ _ => rfl))))
      (pss_cons (ps_if (pt_cmp (pc_eqI (pv 2) (pe_glob (v := .int 5) rfl g5 ⟨_, rfl⟩))) (pss_one (ps_ret (pe_op op_addN (pe_op op_addN (pv 3) pe_int) (pe_ix ix_list (pv 0) (pv 3) (fun _ _ => rfl))))) pss_nil)
      (pss_one (ps_ret (pv 3))))), ?_⟩
    obtain ⟨p, l, hpl⟩ := Om.enc_cons c
    have h0 : atI (vInts (l1 ++ (enc c ++ l2))) ((l1.length : Nat) : Int) = some (.int (p : Int)) := at_mid (j := 0) (by rw [hpl]; rfl)
    refine ⟨_, rfl, _, rfl, ca, _, _, _, rfl, rfl, hca, h0, ?_⟩
    cases c
    case rank r =>
      cases hpl
      refine ⟨_, rfl, l1.length, 1, rfl, rfl, _, rfl, aL, _, _, .int 0, rfl, rfl, hL H, rfl, l1.length + 1, 0, rfl, rfl, ?_⟩
      refine ⟨_, rfl, _, _, rfl, rfl, _, rfl, iteTo rfl ?_⟩
      refine ⟨_, rfl, l1.length + 1 + 0, 1, rfl, rfl, _, rfl, _, rfl, ca, _, _, _, rfl, rfl, hca, at_mid (j := 1) (p := r.length) rfl, l1.length + 1 + 0 + 1, r.length, rfl, rfl, ?_⟩
      have e : l1.length + (enc (.rank r)).length = l1.length + 1 + 0 + 1 + r.length := by
        show l1.length + (r.length + 1 + 1) = _
        omega
      rw [e] at k
      exact k
    all_goals
      cases hpl
      refine ⟨_, rfl, l1.length, 1, rfl, rfl, _, rfl, aL, _, _, .int _, rfl, rfl, hL H, rfl, l1.length + 1, _, rfl, rfl, ?_⟩
      refine ⟨_, rfl, _, _, rfl, rfl, _, rfl, iteFo rfl ?_⟩
      exact ⟨_, rfl, k⟩
theorem scAnswer : FnScope ["order", "number", "numbers"] ["order", "number", "numbers"] (defScope sAnswer) := ⟨rfl, rfl, rfl, by decide +kernel, rfl, by decide +kernel, by decide +kernel⟩
theorem ok_answer {f : Addr} {fd : FuncData} (F : Fun K "answer" "answer" sAnswer f fd) (X : Txt K mg C) (N : Nums K mg)
    (A0 : Md P w K mg base C 2 "things" ["self", "n"] (spStep C arThings)) (A1 : Md P w K mg base C 7 "less" ["self", "x", "y"] (spStepB C arLess)) (A2 : Md P w K mg base C 1 "undo" ["self"] (spStep C arUndo)) (A3 : Md P w K mg base C 6 "many" ["self"] (spStep C arMany)) (A4 : Md P w K mg base C 6 "nth" ["self", "k"] (spStep C arNth)) (A5 : Md P w K mg base C 6 "rank" ["self", "row"] (spStep C (arRank K))) (A6 : Md P w K mg base C 7 "chance" ["self", "x", "y"] (spStep C arChance)) (A7 : Md P w K mg base C 8 "both" ["self", "x", "y", "z"] (spStep C arBoth)) (A8 : Md P w K mg base C 6 "spread" ["self", "x"] (spStep C arSpread)) (A9 : Md P w K mg base C 10 "fairest" ["self"] (spStepT C T arFairest)) (A10 : Md P w K mg base C 18 "fewest" ["self"] (spStep C arFewest)) (A11 : Md P w K mg base C 5 "next_pairs" ["self"] (spStep C arNext)) (A12 : Md P w K mg base C 6 "likely" ["self"] (spStep C arLikely)) (A13 : Md P w K mg base C 3 "is_below" ["self", "x", "y"] (spStep C arIs)) :
    FnOk P w K mg base CX0 19 f fd ["order", "number", "numbers"] (spStepT C T (arAll K)) := by
  obtain ⟨t0, g0⟩ := N.n0
  obtain ⟨t1, g1⟩ := N.n1
  obtain ⟨t2, g2⟩ := N.n2
  obtain ⟨t3, g3⟩ := N.n3
  obtain ⟨t4, g4⟩ := N.n4
  obtain ⟨t5, g5⟩ := N.n5
  obtain ⟨t6, g6⟩ := N.n6
  obtain ⟨t7, g7⟩ := N.n7
  obtain ⟨t8, g8⟩ := N.n8
  obtain ⟨t9, g9⟩ := N.n9
  obtain ⟨t10, g10⟩ := N.n10
  obtain ⟨t11, g11⟩ := N.n11
  obtain ⟨t12, g12⟩ := N.n12
  obtain ⟨f0, fd0, m0, b0, G0⟩ := A0.ex
  obtain ⟨f1, fd1, m1, b1, G1⟩ := A1.ex
  obtain ⟨f2, fd2, m2, b2, G2⟩ := A2.ex
  obtain ⟨f3, fd3, m3, b3, G3⟩ := A3.ex
  obtain ⟨f4, fd4, m4, b4, G4⟩ := A4.ex
  obtain ⟨f5, fd5, m5, b5, G5⟩ := A5.ex
  obtain ⟨f6, fd6, m6, b6, G6⟩ := A6.ex
  obtain ⟨f7, fd7, m7, b7, G7⟩ := A7.ex
  obtain ⟨f8, fd8, m8, b8, G8⟩ := A8.ex
  obtain ⟨f9, fd9, m9, b9, G9⟩ := A9.ex
  obtain ⟨f10, fd10, m10, b10, G10⟩ := A10.ex
  obtain ⟨f11, fd11, m11, b11, G11⟩ := A11.ex
  obtain ⟨f12, fd12, m12, b12, G12⟩ := A12.ex
  obtain ⟨f13, fd13, m13, b13, G13⟩ := A13.ex
  refine F.ok scAnswer (fun vs H Q E h => ?_) (fun cdv A outer s H vs Q E hr h => ?_)
  · obtain ⟨a, h, o, c, args, rfl, ⟨p, l, la, _, rfl, _⟩, _⟩ := h
    rfl
  · obtain ⟨a, h, o, c, args, rfl, ⟨p, l, la, hpl, rfl, hl⟩, ko, hT, O, tab, k⟩ := h
    obtain ⟨dx, h1⟩ := O.ob
    have r1 : Room 1 _ := hr.mono (by decide)
    have r2 : Room 2 _ := hr.mono (by decide)
    have r3 : Room 3 _ := hr.mono (by decide)
    have r5 : Room 5 _ := hr.mono (by decide)
    have r6 : Room 6 _ := hr.mono (by decide)
    have r7 : Room 7 _ := hr.mono (by decide)
    have r8 : Room 8 _ := hr.mono (by decide)
    have r10 : Room 10 _ := hr.mono (by decide)
    have r18 : Room 18 _ := hr.mono (by decide)
    refine ⟨_, pss_cons (ps_if (pt_cmp (pc_eqI (pv 1) (pe_glob (v := .int 0) rfl g0 ⟨_, rfl⟩))) (pss_one (ps_ret (pe_meth (pv 0) X.cl m0 G0 r2 b0 .nil pass0 (pa_cons (pe_ix ix_list (pv 2) pe_int (fun _ _ => rfl)) pa_nil)))) pss_nil)
      (pss_cons (ps_if (pt_cmp (pc_eqI (pv 1) (pe_glob (v := .int 1) rfl g1 ⟨_, rfl⟩))) (pss_one (ps_ret (pe_meth (pv 0) X.cl m1 G1 r7 b1 .nil pass0 (pa_cons (pe_ix ix_list (pv 2) pe_int (fun _ _ => rfl)) (pa_cons (pe_ix ix_list (pv 2) pe_int (fun _ _ => rfl)) pa_nil))))) pss_nil)
      (pss_cons (ps_if (pt_cmp (pc_eqI (pv 1) (pe_glob (v := .int 2) rfl g2 ⟨_, rfl⟩))) (pss_one (ps_ret (pe_meth0 (pv 0) X.cl m2 G2 r1 b2 .nil pass0))) pss_nil)
      (pss_cons (ps_if (pt_cmp (pc_eqI (pv 1) (pe_glob (v := .int 3) rfl g3 ⟨_, rfl⟩))) (pss_one (ps_ret (pe_meth0 (pv 0) X.cl m3 G3 r6 b3 .nil pass0))) pss_nil)
      (pss_cons (ps_if (pt_cmp (pc_eqI (pv 1) (pe_glob (v := .int 4) rfl g4 ⟨_, rfl⟩))) (pss_one (ps_ret (pe_meth (pv 0) X.cl m4 G4 r6 b4 .nil pass0 (pa_cons (pe_ix ix_list (pv 2) pe_int (fun _ _ => rfl)) pa_nil)))) pss_nil)
      (pss_cons (ps_if (pt_cmp (pc_eqI (pv 1) (pe_glob (v := .int 5) rfl g5 ⟨_, rfl⟩))) (pss_one (ps_ret (pe_meth (pv 0) X.cl m5 G5 r6 b5 .nil pass0 (pa_cons (pe_slice sl_list (pv 2) (po_some pe_int) po_none) pa_nil)))) pss_nil)
      (pss_cons (ps_if (pt_cmp (pc_eqI (pv 1) (pe_glob (v := .int 6) rfl g6 ⟨_, rfl⟩))) (pss_one (ps_ret (pe_meth (pv 0) X.cl m6 G6 r7 b6 .nil pass0 (pa_cons (pe_ix ix_list (pv 2) pe_int (fun _ _ => rfl)) (pa_cons (pe_ix ix_list (pv 2) pe_int (fun _ _ => rfl)) pa_nil))))) pss_nil)
      (pss_cons (ps_if (pt_cmp (pc_eqI (pv 1) (pe_glob (v := .int 7) rfl g7 ⟨_, rfl⟩))) (pss_one (ps_ret (pe_meth (pv 0) X.cl m7 G7 r8 b7 .nil pass0 (pa_cons (pe_ix ix_list (pv 2) pe_int (fun _ _ => rfl)) (pa_cons (pe_ix ix_list (pv 2) pe_int (fun _ _ => rfl)) (pa_cons (pe_ix ix_list (pv 2) pe_int (fun _ _ => rfl)) pa_nil)))))) pss_nil)
      (pss_cons (ps_if (pt_cmp (pc_eqI (pv 1) (pe_glob (v := .int 8) rfl g8 ⟨_, rfl⟩))) (pss_one (ps_ret (pe_meth (pv 0) X.cl m8 G8 r6 b8 .nil pass0 (pa_cons (pe_ix ix_list (pv 2) pe_int (fun _ _ => rfl)) pa_nil)))) pss_nil)
      (pss_cons (ps_if (pt_cmp (pc_eqI (pv 1) (pe_glob (v := .int 9) rfl g9 ⟨_, rfl⟩))) (pss_one (ps_ret (pe_meth0 (pv 0) X.cl m9 G9 r10 b9 .nil pass0))) pss_nil)
      (pss_cons (ps_if (pt_cmp (pc_eqI (pv 1) (pe_glob (v := .int 10) rfl g10 ⟨_, rfl⟩))) (pss_one (ps_ret (pe_meth0 (pv 0) X.cl m10 G10 r18 b10 .nil pass0))) pss_nil)
      (pss_cons (ps_if (pt_cmp (pc_eqI (pv 1) (pe_glob (v := .int 11) rfl g11 ⟨_, rfl⟩))) (pss_one (ps_ret (pe_meth0 (pv 0) X.cl m11 G11 r5 b11 .nil pass0))) pss_nil)
      (pss_cons (ps_if (pt_cmp (pc_eqI (pv 1) (pe_glob (v := .int 12) rfl g12 ⟨_, rfl⟩))) (pss_one (ps_ret (pe_meth0 (pv 0) X.cl m12 G12 r6 b12 .nil pass0))) pss_nil)
      (pss_one (ps_ret (pe_meth (pv 0) X.cl m13 G13 r3 b13 .nil pass0 (pa_cons (pe_ix ix_list (pv 2) pe_int (fun _ _ => rfl)) (pa_cons (pe_ix ix_list (pv 2) pe_int (fun _ _ => rfl)) pa_nil))))))))))))))))), ?_⟩
    cases c
    case things n =>
      cases hpl
      refine ⟨_, rfl, _, _, rfl, rfl, _, rfl, iteTo rfl ?_⟩
      refine ⟨_, rfl, a, dx, _, rfl, h1, oF_no (by decide +kernel), _, rfl, la, _, _, .int (n : Int), rfl, rfl, hl, rfl, a, h, o, _, _, rfl, ⟨n, rfl, rfl⟩, ko, O, stepT_of tab O k⟩
    case less x y =>
      cases hpl
      refine ⟨_, rfl, _, _, rfl, rfl, _, rfl, iteFo rfl ?_⟩
      refine ⟨_, rfl, _, _, rfl, rfl, _, rfl, iteTo rfl ?_⟩
      refine ⟨_, rfl, a, dx, _, rfl, h1, oF_no (by decide +kernel), _, rfl, la, _, _, .int (x : Int), rfl, rfl, hl, rfl, _, rfl, la, _, _, .int (y : Int), rfl, rfl, hl, rfl, a, h, o, _, _, rfl, ⟨x, y, rfl, rfl⟩, ko, hT, O, stepT_of tab O k⟩
    case undo =>
      cases hpl
      refine ⟨_, rfl, _, _, rfl, rfl, _, rfl, iteFo rfl ?_⟩
      refine ⟨_, rfl, _, _, rfl, rfl, _, rfl, iteFo rfl ?_⟩
      refine ⟨_, rfl, _, _, rfl, rfl, _, rfl, iteTo rfl ?_⟩
      refine ⟨_, rfl, a, dx, _, rfl, h1, oF_no (by decide +kernel), a, h, o, _, _, rfl, ⟨rfl, rfl⟩, ko, O, stepT_of tab O k⟩
    case many =>
      cases hpl
      refine ⟨_, rfl, _, _, rfl, rfl, _, rfl, iteFo rfl ?_⟩
      refine ⟨_, rfl, _, _, rfl, rfl, _, rfl, iteFo rfl ?_⟩
      refine ⟨_, rfl, _, _, rfl, rfl, _, rfl, iteFo rfl ?_⟩
      refine ⟨_, rfl, _, _, rfl, rfl, _, rfl, iteTo rfl ?_⟩
      refine ⟨_, rfl, a, dx, _, rfl, h1, oF_no (by decide +kernel), a, h, o, _, _, rfl, ⟨rfl, rfl⟩, ko, O, stepT_of tab O k⟩
    case nth n =>
      cases hpl
      refine ⟨_, rfl, _, _, rfl, rfl, _, rfl, iteFo rfl ?_⟩
      refine ⟨_, rfl, _, _, rfl, rfl, _, rfl, iteFo rfl ?_⟩
      refine ⟨_, rfl, _, _, rfl, rfl, _, rfl, iteFo rfl ?_⟩
      refine ⟨_, rfl, _, _, rfl, rfl, _, rfl, iteFo rfl ?_⟩
      refine ⟨_, rfl, _, _, rfl, rfl, _, rfl, iteTo rfl ?_⟩
      refine ⟨_, rfl, a, dx, _, rfl, h1, oF_no (by decide +kernel), _, rfl, la, _, _, .int (n : Int), rfl, rfl, hl, rfl, a, h, o, _, _, rfl, ⟨n, rfl, rfl⟩, ko, O, stepT_of tab O k⟩
    case rank r =>
      cases hpl
      refine ⟨_, rfl, _, _, rfl, rfl, _, rfl, iteFo rfl ?_⟩
      refine ⟨_, rfl, _, _, rfl, rfl, _, rfl, iteFo rfl ?_⟩
      refine ⟨_, rfl, _, _, rfl, rfl, _, rfl, iteFo rfl ?_⟩
      refine ⟨_, rfl, _, _, rfl, rfl, _, rfl, iteFo rfl ?_⟩
      refine ⟨_, rfl, _, _, rfl, rfl, _, rfl, iteFo rfl ?_⟩
      refine ⟨_, rfl, _, _, rfl, rfl, _, rfl, iteTo rfl ?_⟩
      refine ⟨_, rfl, a, dx, _, rfl, h1, oF_no (by decide +kernel), _, rfl, _, rfl, la, _, rfl, hl, fun ra hra => ?_⟩
      rw [cut_tail]
      have sr : Same H (upd H ra (.lst (vInts r))) := same_upd (Same.refl _) hra
      have k0 := stepT_of tab O k
      refine ⟨a, h, o, _, _, rfl, ⟨ra, r, rfl, rfl, SqL.of upd_same⟩, ko, O.same sr, fun H' h' q O' K' hh hq e => ?_⟩
      refine k0 H' h' q O' (fun b z hb nb nh => K' b z (sr _ _ hb) nb nh) ?_ (sr.free hq) e
      rcases hh with hh | hh
      · exact .inl hh
      · exact .inr (sr.free hh)
    case chance x y =>
      cases hpl
      refine ⟨_, rfl, _, _, rfl, rfl, _, rfl, iteFo rfl ?_⟩
      refine ⟨_, rfl, _, _, rfl, rfl, _, rfl, iteFo rfl ?_⟩
      refine ⟨_, rfl, _, _, rfl, rfl, _, rfl, iteFo rfl ?_⟩
      refine ⟨_, rfl, _, _, rfl, rfl, _, rfl, iteFo rfl ?_⟩
      refine ⟨_, rfl, _, _, rfl, rfl, _, rfl, iteFo rfl ?_⟩
      refine ⟨_, rfl, _, _, rfl, rfl, _, rfl, iteFo rfl ?_⟩
      refine ⟨_, rfl, _, _, rfl, rfl, _, rfl, iteTo rfl ?_⟩
      refine ⟨_, rfl, a, dx, _, rfl, h1, oF_no (by decide +kernel), _, rfl, la, _, _, .int (x : Int), rfl, rfl, hl, rfl, _, rfl, la, _, _, .int (y : Int), rfl, rfl, hl, rfl, a, h, o, _, _, rfl, ⟨x, y, rfl, rfl⟩, ko, O, stepT_of tab O k⟩
    case both x y z =>
      cases hpl
      refine ⟨_, rfl, _, _, rfl, rfl, _, rfl, iteFo rfl ?_⟩
      refine ⟨_, rfl, _, _, rfl, rfl, _, rfl, iteFo rfl ?_⟩
      refine ⟨_, rfl, _, _, rfl, rfl, _, rfl, iteFo rfl ?_⟩
      refine ⟨_, rfl, _, _, rfl, rfl, _, rfl, iteFo rfl ?_⟩
      refine ⟨_, rfl, _, _, rfl, rfl, _, rfl, iteFo rfl ?_⟩
      refine ⟨_, rfl, _, _, rfl, rfl, _, rfl, iteFo rfl ?_⟩
      refine ⟨_, rfl, _, _, rfl, rfl, _, rfl, iteFo rfl ?_⟩
      refine ⟨_, rfl, _, _, rfl, rfl, _, rfl, iteTo rfl ?_⟩
      refine ⟨_, rfl, a, dx, _, rfl, h1, oF_no (by decide +kernel), _, rfl, la, _, _, .int (x : Int), rfl, rfl, hl, rfl, _, rfl, la, _, _, .int (y : Int), rfl, rfl, hl, rfl, _, rfl, la, _, _, .int (z : Int), rfl, rfl, hl, rfl, a, h, o, _, _, rfl, ⟨x, y, z, rfl, rfl⟩, ko, O, stepT_of tab O k⟩
    case spread x =>
      cases hpl
      refine ⟨_, rfl, _, _, rfl, rfl, _, rfl, iteFo rfl ?_⟩
      refine ⟨_, rfl, _, _, rfl, rfl, _, rfl, iteFo rfl ?_⟩
      refine ⟨_, rfl, _, _, rfl, rfl, _, rfl, iteFo rfl ?_⟩
      refine ⟨_, rfl, _, _, rfl, rfl, _, rfl, iteFo rfl ?_⟩
      refine ⟨_, rfl, _, _, rfl, rfl, _, rfl, iteFo rfl ?_⟩
      refine ⟨_, rfl, _, _, rfl, rfl, _, rfl, iteFo rfl ?_⟩
      refine ⟨_, rfl, _, _, rfl, rfl, _, rfl, iteFo rfl ?_⟩
      refine ⟨_, rfl, _, _, rfl, rfl, _, rfl, iteFo rfl ?_⟩
      refine ⟨_, rfl, _, _, rfl, rfl, _, rfl, iteTo rfl ?_⟩
      refine ⟨_, rfl, a, dx, _, rfl, h1, oF_no (by decide +kernel), _, rfl, la, _, _, .int (x : Int), rfl, rfl, hl, rfl, a, h, o, _, _, rfl, ⟨x, rfl, rfl⟩, ko, O, stepT_of tab O k⟩
    case fairest =>
      cases hpl
      refine ⟨_, rfl, _, _, rfl, rfl, _, rfl, iteFo rfl ?_⟩
      refine ⟨_, rfl, _, _, rfl, rfl, _, rfl, iteFo rfl ?_⟩
      refine ⟨_, rfl, _, _, rfl, rfl, _, rfl, iteFo rfl ?_⟩
      refine ⟨_, rfl, _, _, rfl, rfl, _, rfl, iteFo rfl ?_⟩
      refine ⟨_, rfl, _, _, rfl, rfl, _, rfl, iteFo rfl ?_⟩
      refine ⟨_, rfl, _, _, rfl, rfl, _, rfl, iteFo rfl ?_⟩
      refine ⟨_, rfl, _, _, rfl, rfl, _, rfl, iteFo rfl ?_⟩
      refine ⟨_, rfl, _, _, rfl, rfl, _, rfl, iteFo rfl ?_⟩
      refine ⟨_, rfl, _, _, rfl, rfl, _, rfl, iteFo rfl ?_⟩
      refine ⟨_, rfl, _, _, rfl, rfl, _, rfl, iteTo rfl ?_⟩
      refine ⟨_, rfl, a, dx, _, rfl, h1, oF_no (by decide +kernel), a, h, o, _, _, rfl, ⟨rfl, rfl⟩, ko, hT, O, tab, k⟩
    case fewest =>
      cases hpl
      refine ⟨_, rfl, _, _, rfl, rfl, _, rfl, iteFo rfl ?_⟩
      refine ⟨_, rfl, _, _, rfl, rfl, _, rfl, iteFo rfl ?_⟩
      refine ⟨_, rfl, _, _, rfl, rfl, _, rfl, iteFo rfl ?_⟩
      refine ⟨_, rfl, _, _, rfl, rfl, _, rfl, iteFo rfl ?_⟩
      refine ⟨_, rfl, _, _, rfl, rfl, _, rfl, iteFo rfl ?_⟩
      refine ⟨_, rfl, _, _, rfl, rfl, _, rfl, iteFo rfl ?_⟩
      refine ⟨_, rfl, _, _, rfl, rfl, _, rfl, iteFo rfl ?_⟩
      refine ⟨_, rfl, _, _, rfl, rfl, _, rfl, iteFo rfl ?_⟩
      refine ⟨_, rfl, _, _, rfl, rfl, _, rfl, iteFo rfl ?_⟩
      refine ⟨_, rfl, _, _, rfl, rfl, _, rfl, iteFo rfl ?_⟩
      refine ⟨_, rfl, _, _, rfl, rfl, _, rfl, iteTo rfl ?_⟩
      refine ⟨_, rfl, a, dx, _, rfl, h1, oF_no (by decide +kernel), a, h, o, _, _, rfl, ⟨rfl, rfl⟩, ko, O, stepT_of tab O k⟩
    case next =>
      cases hpl
      refine ⟨_, rfl, _, _, rfl, rfl, _, rfl, iteFo rfl ?_⟩
      refine ⟨_, rfl, _, _, rfl, rfl, _, rfl, iteFo rfl ?_⟩
      refine ⟨_, rfl, _, _, rfl, rfl, _, rfl, iteFo rfl ?_⟩
      refine ⟨_, rfl, _, _, rfl, rfl, _, rfl, iteFo rfl ?_⟩
      refine ⟨_, rfl, _, _, rfl, rfl, _, rfl, iteFo rfl ?_⟩
      refine ⟨_, rfl, _, _, rfl, rfl, _, rfl, iteFo rfl ?_⟩
      refine ⟨_, rfl, _, _, rfl, rfl, _, rfl, iteFo rfl ?_⟩
      refine ⟨_, rfl, _, _, rfl, rfl, _, rfl, iteFo rfl ?_⟩
      refine ⟨_, rfl, _, _, rfl, rfl, _, rfl, iteFo rfl ?_⟩
      refine ⟨_, rfl, _, _, rfl, rfl, _, rfl, iteFo rfl ?_⟩
      refine ⟨_, rfl, _, _, rfl, rfl, _, rfl, iteFo rfl ?_⟩
      refine ⟨_, rfl, _, _, rfl, rfl, _, rfl, iteTo rfl ?_⟩
      refine ⟨_, rfl, a, dx, _, rfl, h1, oF_no (by decide +kernel), a, h, o, _, _, rfl, ⟨rfl, rfl⟩, ko, O, stepT_of tab O k⟩
    case likely =>
      cases hpl
      refine ⟨_, rfl, _, _, rfl, rfl, _, rfl, iteFo rfl ?_⟩
      refine ⟨_, rfl, _, _, rfl, rfl, _, rfl, iteFo rfl ?_⟩
      refine ⟨_, rfl, _, _, rfl, rfl, _, rfl, iteFo rfl ?_⟩
      refine ⟨_, rfl, _, _, rfl, rfl, _, rfl, iteFo rfl ?_⟩
      refine ⟨_, rfl, _, _, rfl, rfl, _, rfl, iteFo rfl ?_⟩
      refine ⟨_, rfl, _, _, rfl, rfl, _, rfl, iteFo rfl ?_⟩
      refine ⟨_, rfl, _, _, rfl, rfl, _, rfl, iteFo rfl ?_⟩
      refine ⟨_, rfl, _, _, rfl, rfl, _, rfl, iteFo rfl ?_⟩
      refine ⟨_, rfl, _, _, rfl, rfl, _, rfl, iteFo rfl ?_⟩
      refine ⟨_, rfl, _, _, rfl, rfl, _, rfl, iteFo rfl ?_⟩
      refine ⟨_, rfl, _, _, rfl, rfl, _, rfl, iteFo rfl ?_⟩
      refine ⟨_, rfl, _, _, rfl, rfl, _, rfl, iteFo rfl ?_⟩
      refine ⟨_, rfl, _, _, rfl, rfl, _, rfl, iteTo rfl ?_⟩
      refine ⟨_, rfl, a, dx, _, rfl, h1, oF_no (by decide +kernel), a, h, o, _, _, rfl, ⟨rfl, rfl⟩, ko, O, stepT_of tab O k⟩
    case is x y =>
      cases hpl
      refine ⟨_, rfl, _, _, rfl, rfl, _, rfl, iteFo rfl ?_⟩
      refine ⟨_, rfl, _, _, rfl, rfl, _, rfl, iteFo rfl ?_⟩
      refine ⟨_, rfl, _, _, rfl, rfl, _, rfl, iteFo rfl ?_⟩
      refine ⟨_, rfl, _, _, rfl, rfl, _, rfl, iteFo rfl ?_⟩
      refine ⟨_, rfl, _, _, rfl, rfl, _, rfl, iteFo rfl ?_⟩
      refine ⟨_, rfl, _, _, rfl, rfl, _, rfl, iteFo rfl ?_⟩
      refine ⟨_, rfl, _, _, rfl, rfl, _, rfl, iteFo rfl ?_⟩
      refine ⟨_, rfl, _, _, rfl, rfl, _, rfl, iteFo rfl ?_⟩
      refine ⟨_, rfl, _, _, rfl, rfl, _, rfl, iteFo rfl ?_⟩
      refine ⟨_, rfl, _, _, rfl, rfl, _, rfl, iteFo rfl ?_⟩
      refine ⟨_, rfl, _, _, rfl, rfl, _, rfl, iteFo rfl ?_⟩
      refine ⟨_, rfl, _, _, rfl, rfl, _, rfl, iteFo rfl ?_⟩
      refine ⟨_, rfl, _, _, rfl, rfl, _, rfl, iteFo rfl ?_⟩
      refine ⟨_, rfl, a, dx, _, rfl, h1, oF_no (by decide +kernel), _, rfl, la, _, _, .int (x : Int), rfl, rfl, hl, rfl, _, rfl, la, _, _, .int (y : Int), rfl, rfl, hl, rfl, a, h, o, _, _, rfl, ⟨x, y, rfl, rfl⟩, ko, O, stepT_of tab O k⟩
def spAnswersT (K : PySem.W.Frag) (T : Addr) : Sp := fun vs H Q _ => ∃ (ca : Addr) (cs : List Or01.Call), vs = [.ref ca] ∧ SqL K H ca (vInts (cs.flatMap enc)) ∧ (cs.flatMap enc).length ≤ 2000 ∧ (Om.run Or01.init cs).length ≤ 10000000 ∧ TabS H T lamQ ∧
  ∀ H' q, H' q = some (.lst (vz (Om.run Or01.init cs))) → Q (.ref q) H'
/-- the list of calls stands, wherever -/
def Src (K : PySem.W.Frag) (H : Hp) (ca a h gv : Addr) (L : List V) : Prop := (∀ H', SqL K H' ca L) ∨ (Rd H ca (.lst L) ∧ ca ≠ a ∧ ca ≠ h ∧ ca ≠ gv)
theorem Src.sq {H : Hp} {ca a h gv : Addr} {L : List V} (s : Src K H ca a h gv L) : SqL K H ca L := by
  rcases s with s | s
  · exact s H
  · exact .inl s.1
/-- how far the loop is -/
structure FarT (C T : Addr) (K : PySem.W.Frag) (cs : List Or01.Call) (H : Hp) (ca a gv : Addr) (i : Nat) (h : Addr) (o : Or01.Order) (gl : List Int) : Prop where
  le : i ≤ cs.length
  ok : Ok o
  few : o.told.length ≤ ((cs.take i).flatMap enc).length
  at_ : OrdAt C H a h o
  na : gv ≠ a
  nh : gv ≠ h
  gv_ : H gv = some (.lst (vz gl))
  eq : gl ++ Om.run o (cs.drop i) = Om.run Or01.init cs
  tab : TabS H T lamQ
  src : Src K H ca a h gv (vInts (cs.flatMap enc))
theorem tab_lst {H : Hp} {T g : Addr} {l l' : List V} (tab : TabS H T lamQ) (hg : H g = some (.lst l)) : TabS (upd H g (.lst l')) T lamQ := by
  obtain ⟨ps, hP, ok, each⟩ := tab
  refine ⟨ps, by rw [upd_ne (ne_of hP hg (by intro z; cases z))]; exact hP, ok, fun pos cv hc => ?_⟩
  obtain ⟨c, e1, e2⟩ := each pos cv hc
  exact ⟨c, e1, by rw [upd_ne (ne_of e2 hg (by intro z; cases z))]; exact e2⟩
theorem scAnswers2 : FnScope ["calls", "order", "given", "start", "end", "found"] ["calls"] (defScope sAnswers) := ⟨rfl, rfl, rfl, by decide +kernel, rfl, by decide +kernel, by decide +kernel⟩
theorem ok_answersT {f fI : Addr} {fd fdI : FuncData} {kA kE : Nat} (F : Fun K "answers" "answers" sAnswers f fd) (gO : mg "Order" = some (.ref C)) (B : Bi mg) (M : Mk K C fI) (GI : FnOk P w K mg base CX0 2 fI fdI ["self"] (spInit C)) (bI : Binds K fdI ["self"] [])
    (En : Df P w K mg base kE "end_of_call" ["calls", "start"] (spEnd K)) (An : Df P w K mg base kA "answer" ["order", "number", "numbers"] (spStepT C T (arAll K))) (hE : kE ≤ 20) (hA : kA ≤ 20) :
    FnOk P w K mg base CX0 21 f fd ["calls"] (spAnswersT K T) := by
  obtain ⟨fE, fdE, gE, kpE, bE, GE⟩ := En.ex
  obtain ⟨fA, fdA, gA, kpA, bA, GA⟩ := An.ex
  refine F.ok scAnswers2 (fun vs H Q E h => ?_) (fun cdv A outer s H vs Q E hr h => ?_)
  · obtain ⟨ca, cs, rfl, _⟩ := h
    rfl
  · obtain ⟨ca, cs, rfl, hca, hlen, hrun, tab, k⟩ := h
    have hr3 : Room 3 _ := hr.mono (by decide)
    have hrE : Room kE _ := hr.mono hE
    have hrA : Room kA _ := hr.mono hA
    refine ⟨_, pss_cons (ps_set (i := 1) scAnswers2.nd rfl (Or.inl rfl) (pe_make0 M GI hr3 rfl gO bI .nil pass0))
      (pss_cons (ps_set (i := 2) scAnswers2.nd rfl (Or.inl rfl) (pe_lst pa_nil))
      (pss_cons (ps_set (i := 3) scAnswers2.nd rfl (Or.inl rfl) pe_int)
      (pss_cons (ps_while PassesOwn.never (pt_cmp (pc_lt (pv 3) (pe_callB call_len_seq (by rfl) B.len PySem.boot_len (pa_cons (pv 0) pa_nil))))
        (pss_cons (ps_set (i := 4) scAnswers2.nd rfl (Or.inl rfl) (pe_call GE hrE (by rfl) gE kpE bE .nil pass0 (pa_cons (pv 0) (pa_cons (pv 3) pa_nil))))
        (pss_cons (ps_set (i := 5) scAnswers2.nd rfl (Or.inl rfl) (pe_call GA hrA (by rfl) gA kpA bA .nil pass0 (pa_cons (pv 1) (pa_cons (pe_ix ix_list (pv 0) (pv 3) (fun _ _ => rfl)) (pa_cons (pe_slice sl_list (pv 0) (po_some (pe_op op_addN (pv 3) pe_int)) (po_some (pv 4))) pa_nil)))))
        (pss_cons (ps_expr (pe_bm PySem.F.plainAttrs_list PySem.F.slot_list_append PySem.F.type_list_append mt_append (pv 2) (pa_cons (pe_callB call_len_seq (by rfl) B.len PySem.boot_len (pa_cons (pv 5) pa_nil)) pa_nil)))
        (pss_cons (ps_expr (pe_bm PySem.F.plainAttrs_list PySem.F.slot_list_extend PySem.F.type_list_extend mt_extend (pv 2) (pa_cons (pv 5) pa_nil)))
        (pss_one (ps_set (i := 3) scAnswers2.nd rfl (Or.inl rfl) (pv 4))))))))
      (pss_one (ps_ret (pv 2)))))), ?_⟩
    intro x dx nx ndx nex
    refine ⟨x, dx, rfl, upd_same, fun H1 h O1 kp hh => ⟨rfl, ?_⟩⟩
    have s0 : Same H (upd (upd H dx (.own x)) x (.ins C dx [])) := fun b z e => by
      rw [upd_ne (ne_of_none e nx), upd_ne (ne_of_none e ndx)]
      exact e
    have s1 : Same H H1 := Same.made nx ndx kp
    have fh : H h = none := s0.free hh
    refine ⟨(by show 0 ≤ sizeLine; decide), fun gv hgv => ?_⟩
    obtain ⟨⟨dy, hx1⟩, ds, hh1, _, _⟩ := id O1
    have g1 : gv ≠ x := (ne_of_none hx1 hgv).symm
    have g2 : gv ≠ h := (ne_of_none hh1 hgv).symm
    have fg : H gv = none := s1.free hgv
    have s2 : Same H1 (upd H1 gv (.lst [])) := same_upd (Same.refl _) hgv
    have src0 : Src K (upd H1 gv (.lst [])) ca x h gv (vInts (cs.flatMap enc)) := by
      rcases hca with hca | hca
      · have some_ : ∃ z, H ca = some z := by
          rcases hca with e | ⟨_, e⟩
          · exact ⟨_, e⟩
          · exact ⟨_, e⟩
        obtain ⟨z, hz⟩ := some_
        exact .inr ⟨rd_same (s1.trans s2) hca, ne_of_none hz nx, ne_of_none hz fh, ne_of_none hz fg⟩
      · exact .inl fun _ => .inr hca
    refine while_by (fun σ H' => ∃ (i : Nat) (h : Addr) (o : Or01.Order) (gl : List Int) (v4 v5 : Option V), σ = [some (.ref ca), some (.ref x), some (.ref gv), some (.int ((((cs.take i).flatMap enc).length : Nat) : Int)), v4, v5] ∧ FarT C T K cs H' ca x gv i h o gl)
      (fun σ _ => (cs.flatMap enc).length - slotN 3 σ) ⟨0, h, Or01.init, [], none, none, rfl, ⟨Nat.zero_le _, Om.ok_init, Nat.le_refl _, O1.same s2, g1, g2, upd_same, rfl, tab.ext (s1.trans s2), src0⟩⟩ ?_ ?_
    · rintro σ H' ⟨i, h, o, gl, v4, v5, rfl, R⟩
      have hca' : SqL K H' ca (vInts (cs.flatMap enc)) := R.src.sq
      refine ⟨_, rfl, _, rfl, ca, _, rfl, .inl hca', _, _, rfl, rfl, _, rfl, ?_⟩
      rw [vInts_length]
      by_cases hi : i < cs.length
      rotate_left
      · have hi' : i = cs.length := by have := R.le; omega
        refine iteFo (decide_eq_false (by rw [hi', List.take_length]; omega)) ?_
        have e := R.eq
        rw [hi', List.drop_length] at e
        have e' : gl = Om.run Or01.init cs := by
          rw [← e]
          show gl = gl ++ []
          rw [List.append_nil]
        refine ⟨_, rfl, k _ gv ?_⟩
        rw [← e']
        exact R.gv_
      obtain ⟨c, hc⟩ : ∃ c, cs[i]? = some c := ⟨_, List.getElem?_eq_getElem hi⟩
      have hsplit : cs.flatMap enc = (cs.take i).flatMap enc ++ (enc c ++ (cs.drop (i + 1)).flatMap enc) := by
        have := congrArg (fun l => l.flatMap enc) (List.take_append_drop i cs)
        simp only [List.flatMap_append] at this
        rw [← this, run_take cs i c hc, List.flatMap_cons]
      obtain ⟨p, l, hpl⟩ := Om.enc_cons c
      have hel : (enc c).length = l.length + 1 := by rw [hpl, List.length_cons]
      have htot : (cs.flatMap enc).length = ((cs.take i).flatMap enc).length + ((enc c).length + ((cs.drop (i + 1)).flatMap enc).length) := by
        rw [hsplit, List.length_append, List.length_append]
      have htk : ((cs.take (i + 1)).flatMap enc).length = ((cs.take i).flatMap enc).length + (enc c).length := by
        rw [take_more hc, List.flatMap_append, List.length_append]
        simp
      refine iteTo (decide_eq_true (by omega)) ?_
      have hca2 : SqL K H' ca (vInts ((cs.take i).flatMap enc ++ (enc c ++ (cs.drop (i + 1)).flatMap enc))) := by rw [← hsplit]; exact hca'
      refine ⟨_, rfl, _, rfl, ca, _, _, c, rfl, hca2, ?_⟩
      refine ⟨_, rfl, _, rfl, _, rfl, ca, _, _, _, rfl, rfl, hca2, atI_nat (v := V.int (p : Int)) ?_, ?_⟩
      · unfold vInts
        rw [List.getElem?_map, List.getElem?_append_right (Nat.le_refl _), Nat.sub_self, hpl]
        rfl
      refine ⟨_, rfl, _, rfl, ((cs.take i).flatMap enc).length, 1, rfl, rfl, _, rfl, _, rfl, _, rfl, ca, _, rfl, hca2, fun la hla => ?_⟩
      have ecut : cutV (vInts ((cs.take i).flatMap enc ++ (enc c ++ (cs.drop (i + 1)).flatMap enc))) (some (((((cs.take i).flatMap enc).length + 1 : Nat)) : Int)) (some ((((cs.take i).flatMap enc).length + (enc c).length : Nat) : Int)) = vInts l := by
        rw [cut_vInts (by rw [List.length_append, List.length_append]; omega) (by omega), show ((cs.take i).flatMap enc).length + (enc c).length - (((cs.take i).flatMap enc).length + 1) = l.length by omega, hpl, cut_mid]
      rw [ecut]
      have sl : Same H' (upd H' la (.lst (vInts l))) := same_upd (Same.refl _) hla
      have ela : (upd H' la (.lst (vInts l))) la = some (.lst (vInts l)) := upd_same
      generalize upd H' la (.lst (vInts l)) = HL at sl ela
      refine ⟨x, h, o, c, _, rfl, ⟨p, l, la, hpl, rfl, SqL.of ela⟩, R.ok, ?_, R.at_.same sl, R.tab.ext sl, fun H2 h2 q O2 K2 tab2 hh2 hq e2 => ?_⟩
      · have := R.few
        omega
      have glL : HL gv = some (.lst (vz gl)) := sl _ _ R.gv_
      have gl2 : H2 gv = some (.lst (vz gl)) := K2 gv _ glL (by intro ps z; cases z) R.na R.nh
      have qg : gv ≠ q := hq.ne glL (by intro ps z; cases z)
      have erun : Om.run o (cs.drop i) = (((Or01.step o c).2.length : Nat) : Int) :: (Or01.step o c).2 ++ Om.run (Or01.step o c).1 (cs.drop (i + 1)) := by
        rw [run_take cs i c hc]
        rfl
      have eq2 := R.eq
      rw [erun] at eq2
      have hsz : gl.length + (1 + (Or01.step o c).2.length) ≤ 10000000 := by
        have := congrArg List.length eq2
        simp only [List.length_append, List.length_cons] at this
        omega
      have h2n : gv ≠ h2 := by
        rcases hh2 with e | e
        · rw [e]; exact R.nh
        · exact e.ne glL (by intro ps z; cases z)
      have src2 : Src K H2 ca x h2 gv (vInts (cs.flatMap enc)) := by
        rcases R.src with e | ⟨e, n1, n2, n3⟩
        · exact .inl e
        · refine .inr ⟨?_, n1, ?_, n3⟩
          · rcases rd_same sl e with e | ⟨ob, e⟩
            · exact .inl (K2 ca _ e (by intro ps z; cases z) n1 n2)
            · exact .inr ⟨ob, K2 ca _ e (by intro ps z; cases z) n1 n2⟩
          · rcases hh2 with z | z
            · rw [z]; exact n2
            · rcases rd_same sl e with e | ⟨ob, e⟩
              · exact z.ne e (by intro ps z; cases z)
              · exact z.ne e (by intro ps z; cases z)
      refine ⟨_, rfl, .inl ⟨rfl, _, SqL.of gl2⟩, _, rfl, q, _, rfl, .inl (SqL.of e2), gv, _, _, rfl, rfl, gl2, ?_, ?_⟩
      · rw [vz_length]
        exact Nat.lt_of_le_of_lt (show gl.length ≤ 10000000 by omega) (by decide)
      refine ⟨_, rfl, .inl ⟨rfl, _, SqL.of upd_same⟩, _, rfl, gv, q, _, _, rfl, rfl, upd_same, (by rw [upd_ne qg.symm]; exact e2), ?_, ?_⟩
      · rw [List.length_append, vz_length, vz_length]
        exact Nat.le_trans (show gl.length + 1 + (Or01.step o c).2.length ≤ 10000000 by omega) (by decide)
      have egl : vz gl ++ [V.int (((vz (Or01.step o c).2).length : Nat) : Int)] ++ vz (Or01.step o c).2 = vz (gl ++ (((Or01.step o c).2.length : Nat) : Int) :: (Or01.step o c).2) := by
        rw [vz_append, vz_length, List.append_assoc]
        rfl
      obtain ⟨ok2, few2⟩ := Om.ok_step R.ok c
      refine ⟨_, rfl, ⟨i + 1, h2, (Or01.step o c).1, gl ++ (((Or01.step o c).2.length : Nat) : Int) :: (Or01.step o c).2, some (.int ((((cs.take i).flatMap enc).length + (enc c).length : Nat) : Int)), some (.ref q), ?_, ⟨hi, ok2, ?_, ?_, R.na, h2n, ?_, ?_, ?_, ?_⟩⟩, ?_⟩
      · rw [htk]
        rfl
      · have := R.few
        have := Om.enc_pos c
        omega
      · exact (O2.lst gl2 R.na h2n).lst upd_same R.na h2n
      · rw [upd_same, egl]
      · rw [List.append_assoc]
        exact eq2
      · exact tab_lst (tab_lst tab2 gl2) upd_same
      · rcases src2 with e | ⟨e, n1, n2, n3⟩
        · exact .inl e
        · refine .inr ⟨?_, n1, n2, n3⟩
          rcases e with e | ⟨ob, e⟩
          · exact .inl (by rw [upd_ne n3, upd_ne n3]; exact e)
          · exact .inr ⟨ob, by rw [upd_ne n3, upd_ne n3]; exact e⟩
      · show (cs.flatMap enc).length - ((((cs.take i).flatMap enc).length + (enc c).length : Nat) : Int).toNat < (cs.flatMap enc).length - ((((cs.take i).flatMap enc).length : Nat) : Int).toNat
        rw [Int.toNat_natCast, Int.toNat_natCast]
        have := Om.enc_pos c
        omega
    · rintro σ H' Q1 Q2 hq ⟨x1, h1, x2, h2, p, ys, h3, h4, i, j, h5, h6, c, h7, h8⟩
      exact ⟨x1, h1, x2, h2, p, ys, h3, h4, i, j, h5, h6, c, h7, hq _ _ h8⟩
end
end Ob
end

section
set_option Elab.async false
set_option maxRecDepth 100000
set_option maxHeartbeats 4000000
set_option linter.all false
namespace Ob
open PySem PySem.Spec PyProof.Rows L2
open Om (mask bit every follow W Ok left idx enc)
theorem raw_mk {K : PySem.W.Frag} {h : Heap} {mg : Str → Option Value} (X : K.In h) (G : h.Ns mainGlobals mg) {x : Str} {st : Stmt} {ps : List Str} {f : Addr} {od an : Option Addr} {sl : Array (Option Value)} {oc kV dc pm cd ct : Value}
    (a : PySem.W.nsIn K mainGlobals x = some (some (.ref f))) (l : K.lookup f = some ⟨oc, od, .func (PySem.W.fnOf x x (defArgs st) (defBody st) (defScope st) .none kV dc pm an cd ct), sl⟩) (c : PySem.W.codeIn K cd x = true) (k : PySem.W.keepIn K (.ref f) = true)
    (b : ∀ (kV doc pm : Value) (an : Option Addr) (cdv ct : Value) (us : List Value), us.length = ps.length → bindArgs (PySem.W.fnOf x x (defArgs st) (defBody st) (defScope st) .none kV doc pm an cdv ct) ⟨us, []⟩ = pure (ps.zip us)) : Raw K mg x st ps :=
  ⟨f, _, PySem.W.mg_of X G a, fun_mk l c k, (fun_mk l c k).binds b⟩
theorem rawM_mk {K : PySem.W.Frag} {C : Addr} {x q : Str} {st : Stmt} {ps : List Str} {f : Addr} {od an : Option Addr} {sl : Array (Option Value)} {oc kV dc pm cd ct : Value}
    (a : PySem.W.findIn K (.ref C) x = some (some (.ref f))) (i : PySem.W.isFn K (.ref f) = true) (l : K.lookup f = some ⟨oc, od, .func (PySem.W.fnOf x q (defArgs st) (defBody st) (defScope st) .none kV dc pm an cd ct), sl⟩) (c : PySem.W.codeIn K cd q = true) (k : PySem.W.keepIn K (.ref f) = true)
    (b : ∀ (kV doc pm : Value) (an : Option Addr) (cdv ct : Value) (us : List Value), us.length = ps.length → bindArgs (PySem.W.fnOf x q (defArgs st) (defBody st) (defScope st) .none kV doc pm an cdv ct) ⟨us, []⟩ = pure (ps.zip us)) : RawM K C x q st ps :=
  ⟨f, _, ⟨a, i, k⟩, fun_mk l c k, (fun_mk l c k).binds b⟩
theorem all_mk {P : Program} {w : World} {K : PySem.W.Frag} {h : Heap} {mg : Str → Option Value} {fa C : Addr} {t1 t2 : Tok} {y0 y1 y2 y3 y4 y5 y6 y7 y8 y9 y10 y11 y12 u0 u1 u2 u3 u4 u5 u6 u7 u8 u9 u10 u11 u12 u13 : Tok} {fL : Addr} {odL : Option Addr} {nL : Nat} {slL : Array (Option Value)} {cT TT : Addr} {ecT : Value} {dcT : Option Addr} {vcT : Array Value} {scT : Array (Option Value)} (X : K.In h) (G : h.Ns mainGlobals mg) (hfa : mg "answers" = some (.ref fa))
    {f1 : Addr} {od1 an1 : Option Addr} {sl1 : Array (Option Value)} {oc1 kV1 dc1 pm1 cd1 ct1 : Value}
    {f2 : Addr} {od2 an2 : Option Addr} {sl2 : Array (Option Value)} {oc2 kV2 dc2 pm2 cd2 ct2 : Value}
    {f3 : Addr} {od3 an3 : Option Addr} {sl3 : Array (Option Value)} {oc3 kV3 dc3 pm3 cd3 ct3 : Value}
    {f4 : Addr} {od4 an4 : Option Addr} {sl4 : Array (Option Value)} {oc4 kV4 dc4 pm4 cd4 ct4 : Value}
    {f5 : Addr} {od5 an5 : Option Addr} {sl5 : Array (Option Value)} {oc5 kV5 dc5 pm5 cd5 ct5 : Value}
    {f6 : Addr} {od6 an6 : Option Addr} {sl6 : Array (Option Value)} {oc6 kV6 dc6 pm6 cd6 ct6 : Value}
    {f7 : Addr} {od7 an7 : Option Addr} {sl7 : Array (Option Value)} {oc7 kV7 dc7 pm7 cd7 ct7 : Value}
    {f8 : Addr} {od8 an8 : Option Addr} {sl8 : Array (Option Value)} {oc8 kV8 dc8 pm8 cd8 ct8 : Value}
    {f9 : Addr} {od9 an9 : Option Addr} {sl9 : Array (Option Value)} {oc9 kV9 dc9 pm9 cd9 ct9 : Value}
    {f10 : Addr} {od10 an10 : Option Addr} {sl10 : Array (Option Value)} {oc10 kV10 dc10 pm10 cd10 ct10 : Value}
    {f11 : Addr} {od11 an11 : Option Addr} {sl11 : Array (Option Value)} {oc11 kV11 dc11 pm11 cd11 ct11 : Value}
    {f12 : Addr} {od12 an12 : Option Addr} {sl12 : Array (Option Value)} {oc12 kV12 dc12 pm12 cd12 ct12 : Value}
    {f13 : Addr} {od13 an13 : Option Addr} {sl13 : Array (Option Value)} {oc13 kV13 dc13 pm13 cd13 ct13 : Value}
    {f14 : Addr} {od14 an14 : Option Addr} {sl14 : Array (Option Value)} {oc14 kV14 dc14 pm14 cd14 ct14 : Value}
    {f15 : Addr} {od15 an15 : Option Addr} {sl15 : Array (Option Value)} {oc15 kV15 dc15 pm15 cd15 ct15 : Value}
    {f16 : Addr} {od16 an16 : Option Addr} {sl16 : Array (Option Value)} {oc16 kV16 dc16 pm16 cd16 ct16 : Value}
    {f17 : Addr} {od17 an17 : Option Addr} {sl17 : Array (Option Value)} {oc17 kV17 dc17 pm17 cd17 ct17 : Value}
    {f18 : Addr} {od18 an18 : Option Addr} {sl18 : Array (Option Value)} {oc18 kV18 dc18 pm18 cd18 ct18 : Value}
    {f19 : Addr} {od19 an19 : Option Addr} {sl19 : Array (Option Value)} {oc19 kV19 dc19 pm19 cd19 ct19 : Value}
    {f20 : Addr} {od20 an20 : Option Addr} {sl20 : Array (Option Value)} {oc20 kV20 dc20 pm20 cd20 ct20 : Value}
    {f21 : Addr} {od21 an21 : Option Addr} {sl21 : Array (Option Value)} {oc21 kV21 dc21 pm21 cd21 ct21 : Value}
    {f22 : Addr} {od22 an22 : Option Addr} {sl22 : Array (Option Value)} {oc22 kV22 dc22 pm22 cd22 ct22 : Value}
    {f23 : Addr} {od23 an23 : Option Addr} {sl23 : Array (Option Value)} {oc23 kV23 dc23 pm23 cd23 ct23 : Value}
    {f24 : Addr} {od24 an24 : Option Addr} {sl24 : Array (Option Value)} {oc24 kV24 dc24 pm24 cd24 ct24 : Value}
    {f25 : Addr} {od25 an25 : Option Addr} {sl25 : Array (Option Value)} {oc25 kV25 dc25 pm25 cd25 ct25 : Value}
    {f26 : Addr} {od26 an26 : Option Addr} {sl26 : Array (Option Value)} {oc26 kV26 dc26 pm26 cd26 ct26 : Value}
    {f27 : Addr} {od27 an27 : Option Addr} {sl27 : Array (Option Value)} {oc27 kV27 dc27 pm27 cd27 ct27 : Value}
    {f28 : Addr} {od28 an28 : Option Addr} {sl28 : Array (Option Value)} {oc28 kV28 dc28 pm28 cd28 ct28 : Value}
    {f29 : Addr} {od29 an29 : Option Addr} {sl29 : Array (Option Value)} {oc29 kV29 dc29 pm29 cd29 ct29 : Value}
    {f30 : Addr} {od30 an30 : Option Addr} {sl30 : Array (Option Value)} {oc30 kV30 dc30 pm30 cd30 ct30 : Value}
    {f31 : Addr} {od31 an31 : Option Addr} {sl31 : Array (Option Value)} {oc31 kV31 dc31 pm31 cd31 ct31 : Value}
    {f32 : Addr} {od32 an32 : Option Addr} {sl32 : Array (Option Value)} {oc32 kV32 dc32 pm32 cd32 ct32 : Value}
    {f33 : Addr} {od33 an33 : Option Addr} {sl33 : Array (Option Value)} {oc33 kV33 dc33 pm33 cd33 ct33 : Value}
    {f34 : Addr} {od34 an34 : Option Addr} {sl34 : Array (Option Value)} {oc34 kV34 dc34 pm34 cd34 ct34 : Value}
    {f35 : Addr} {od35 an35 : Option Addr} {sl35 : Array (Option Value)} {oc35 kV35 dc35 pm35 cd35 ct35 : Value}
    {f36 : Addr} {od36 an36 : Option Addr} {sl36 : Array (Option Value)} {oc36 kV36 dc36 pm36 cd36 ct36 : Value}
    {f37 : Addr} {od37 an37 : Option Addr} {sl37 : Array (Option Value)} {oc37 kV37 dc37 pm37 cd37 ct37 : Value}
    {f38 : Addr} {od38 an38 : Option Addr} {sl38 : Array (Option Value)} {oc38 kV38 dc38 pm38 cd38 ct38 : Value}
    {f39 : Addr} {od39 an39 : Option Addr} {sl39 : Array (Option Value)} {oc39 kV39 dc39 pm39 cd39 ct39 : Value}
    {f40 : Addr} {od40 an40 : Option Addr} {sl40 : Array (Option Value)} {oc40 kV40 dc40 pm40 cd40 ct40 : Value}
    {f41 : Addr} {od41 an41 : Option Addr} {sl41 : Array (Option Value)} {oc41 kV41 dc41 pm41 cd41 ct41 : Value}
    {f42 : Addr} {od42 an42 : Option Addr} {sl42 : Array (Option Value)} {oc42 kV42 dc42 pm42 cd42 ct42 : Value}
    {f43 : Addr} {od43 an43 : Option Addr} {sl43 : Array (Option Value)} {oc43 kV43 dc43 pm43 cd43 ct43 : Value}
    {f44 : Addr} {od44 an44 : Option Addr} {sl44 : Array (Option Value)} {oc44 kV44 dc44 pm44 cd44 ct44 : Value}
    (a1 : PySem.W.nsIn K mainGlobals "bit_of" = some (some (.ref f1))) (l1 : K.lookup f1 = some ⟨oc1, od1, .func (PySem.W.fnOf "bit_of" "bit_of" (defArgs sBitOf) (defBody sBitOf) (defScope sBitOf) .none kV1 dc1 pm1 an1 cd1 ct1), sl1⟩) (c1 : PySem.W.codeIn K cd1 "bit_of" = true) (k1 : PySem.W.keepIn K (.ref f1) = true)
    (a2 : PySem.W.nsIn K mainGlobals "nothing_told" = some (some (.ref f2))) (l2 : K.lookup f2 = some ⟨oc2, od2, .func (PySem.W.fnOf "nothing_told" "nothing_told" (defArgs sNothing) (defBody sNothing) (defScope sNothing) .none kV2 dc2 pm2 an2 cd2 ct2), sl2⟩) (c2 : PySem.W.codeIn K cd2 "nothing_told" = true) (k2 : PySem.W.keepIn K (.ref f2) = true)
    (a3 : PySem.W.nsIn K mainGlobals "are_two" = some (some (.ref f3))) (l3 : K.lookup f3 = some ⟨oc3, od3, .func (PySem.W.fnOf "are_two" "are_two" (defArgs sAreTwo) (defBody sAreTwo) (defScope sAreTwo) .none kV3 dc3 pm3 an3 cd3 ct3), sl3⟩) (c3 : PySem.W.codeIn K cd3 "are_two" = true) (k3 : PySem.W.keepIn K (.ref f3) = true)
    (a4 : PySem.W.nsIn K mainGlobals "lies_below" = some (some (.ref f4))) (l4 : K.lookup f4 = some ⟨oc4, od4, .func (PySem.W.fnOf "lies_below" "lies_below" (defArgs sLies) (defBody sLies) (defScope sLies) .none kV4 dc4 pm4 an4 cd4 ct4), sl4⟩) (c4 : PySem.W.codeIn K cd4 "lies_below" = true) (k4 : PySem.W.keepIn K (.ref f4) = true)
    (a5 : PySem.W.nsIn K mainGlobals "tell" = some (some (.ref f5))) (l5 : K.lookup f5 = some ⟨oc5, od5, .func (PySem.W.fnOf "tell" "tell" (defArgs sTell) (defBody sTell) (defScope sTell) .none kV5 dc5 pm5 an5 cd5 ct5), sl5⟩) (c5 : PySem.W.codeIn K cd5 "tell" = true) (k5 : PySem.W.keepIn K (.ref f5) = true)
    (a6 : PySem.W.nsIn K mainGlobals "open_pairs" = some (some (.ref f6))) (l6 : K.lookup f6 = some ⟨oc6, od6, .func (PySem.W.fnOf "open_pairs" "open_pairs" (defArgs sOpenPairs) (defBody sOpenPairs) (defScope sOpenPairs) .none kV6 dc6 pm6 an6 cd6 ct6), sl6⟩) (c6 : PySem.W.codeIn K cd6 "open_pairs" = true) (k6 : PySem.W.keepIn K (.ref f6) = true)
    (a7 : PySem.W.nsIn K mainGlobals "lies_between" = some (some (.ref f7))) (l7 : K.lookup f7 = some ⟨oc7, od7, .func (PySem.W.fnOf "lies_between" "lies_between" (defArgs sBetween) (defBody sBetween) (defScope sBetween) .none kV7 dc7 pm7 an7 cd7 ct7), sl7⟩) (c7 : PySem.W.codeIn K cd7 "lies_between" = true) (k7 : PySem.W.keepIn K (.ref f7) = true)
    (a8 : PySem.W.nsIn K mainGlobals "neighbours" = some (some (.ref f8))) (l8 : K.lookup f8 = some ⟨oc8, od8, .func (PySem.W.fnOf "neighbours" "neighbours" (defArgs sNeighbours) (defBody sNeighbours) (defScope sNeighbours) .none kV8 dc8 pm8 an8 cd8 ct8), sl8⟩) (c8 : PySem.W.codeIn K cd8 "neighbours" = true) (k8 : PySem.W.keepIn K (.ref f8) = true)
    (a9 : PySem.W.nsIn K mainGlobals "may_follow" = some (some (.ref f9))) (l9 : K.lookup f9 = some ⟨oc9, od9, .func (PySem.W.fnOf "may_follow" "may_follow" (defArgs sMay) (defBody sMay) (defScope sMay) .none kV9 dc9 pm9 an9 cd9 ct9), sl9⟩) (c9 : PySem.W.codeIn K cd9 "may_follow" = true) (k9 : PySem.W.keepIn K (.ref f9) = true)
    (a10 : PySem.W.nsIn K mainGlobals "followers" = some (some (.ref f10))) (l10 : K.lookup f10 = some ⟨oc10, od10, .func (PySem.W.fnOf "followers" "followers" (defArgs sFollowers) (defBody sFollowers) (defScope sFollowers) .none kV10 dc10 pm10 an10 cd10 ct10), sl10⟩) (c10 : PySem.W.codeIn K cd10 "followers" = true) (k10 : PySem.W.keepIn K (.ref f10) = true)
    (a11 : PySem.W.nsIn K mainGlobals "ways_behind" = some (some (.ref f11))) (l11 : K.lookup f11 = some ⟨oc11, od11, .func (PySem.W.fnOf "ways_behind" "ways_behind" (defArgs sWays) (defBody sWays) (defScope sWays) .none kV11 dc11 pm11 an11 cd11 ct11), sl11⟩) (c11 : PySem.W.codeIn K cd11 "ways_behind" = true) (k11 : PySem.W.keepIn K (.ref f11) = true)
    (a12 : PySem.W.nsIn K mainGlobals "ways_ahead" = some (some (.ref f12))) (l12 : K.lookup f12 = some ⟨oc12, od12, .func (PySem.W.fnOf "ways_ahead" "ways_ahead" (defArgs sWaysAhead) (defBody sWaysAhead) (defScope sWaysAhead) .none kV12 dc12 pm12 an12 cd12 ct12), sl12⟩) (c12 : PySem.W.codeIn K cd12 "ways_ahead" = true) (k12 : PySem.W.keepIn K (.ref f12) = true)
    (a13 : PySem.W.nsIn K mainGlobals "how_many_rows" = some (some (.ref f13))) (l13 : K.lookup f13 = some ⟨oc13, od13, .func (PySem.W.fnOf "how_many_rows" "how_many_rows" (defArgs sHowMany) (defBody sHowMany) (defScope sHowMany) .none kV13 dc13 pm13 an13 cd13 ct13), sl13⟩) (c13 : PySem.W.codeIn K cd13 "how_many_rows" = true) (k13 : PySem.W.keepIn K (.ref f13) = true)
    (a14 : PySem.W.nsIn K mainGlobals "row_at" = some (some (.ref f14))) (l14 : K.lookup f14 = some ⟨oc14, od14, .func (PySem.W.fnOf "row_at" "row_at" (defArgs sRowAt) (defBody sRowAt) (defScope sRowAt) .none kV14 dc14 pm14 an14 cd14 ct14), sl14⟩) (c14 : PySem.W.codeIn K cd14 "row_at" = true) (k14 : PySem.W.keepIn K (.ref f14) = true)
    (a15 : PySem.W.nsIn K mainGlobals "number_of" = some (some (.ref f15))) (l15 : K.lookup f15 = some ⟨oc15, od15, .func (PySem.W.fnOf "number_of" "number_of" (defArgs sNumberOf) (defBody sNumberOf) (defScope sNumberOf) .none kV15 dc15 pm15 an15 cd15 ct15), sl15⟩) (c15 : PySem.W.codeIn K cd15 "number_of" = true) (k15 : PySem.W.keepIn K (.ref f15) = true)
    (a16 : PySem.W.nsIn K mainGlobals "rows_with_ahead" = some (some (.ref f16))) (l16 : K.lookup f16 = some ⟨oc16, od16, .func (PySem.W.fnOf "rows_with_ahead" "rows_with_ahead" (defArgs sWithAhead) (defBody sWithAhead) (defScope sWithAhead) .none kV16 dc16 pm16 an16 cd16 ct16), sl16⟩) (c16 : PySem.W.codeIn K cd16 "rows_with_ahead" = true) (k16 : PySem.W.keepIn K (.ref f16) = true)
    (a17 : PySem.W.nsIn K mainGlobals "rows_with_both" = some (some (.ref f17))) (l17 : K.lookup f17 = some ⟨oc17, od17, .func (PySem.W.fnOf "rows_with_both" "rows_with_both" (defArgs sWithBoth) (defBody sWithBoth) (defScope sWithBoth) .none kV17 dc17 pm17 an17 cd17 ct17), sl17⟩) (c17 : PySem.W.codeIn K cd17 "rows_with_both" = true) (k17 : PySem.W.keepIn K (.ref f17) = true)
    (a18 : PySem.W.nsIn K mainGlobals "how_many_things" = some (some (.ref f18))) (l18 : K.lookup f18 = some ⟨oc18, od18, .func (PySem.W.fnOf "how_many_things" "how_many_things" (defArgs sHowThings) (defBody sHowThings) (defScope sHowThings) .none kV18 dc18 pm18 an18 cd18 ct18), sl18⟩) (c18 : PySem.W.codeIn K cd18 "how_many_things" = true) (k18 : PySem.W.keepIn K (.ref f18) = true)
    (a19 : PySem.W.nsIn K mainGlobals "rows_by_place" = some (some (.ref f19))) (l19 : K.lookup f19 = some ⟨oc19, od19, .func (PySem.W.fnOf "rows_by_place" "rows_by_place" (defArgs sByPlace) (defBody sByPlace) (defScope sByPlace) .none kV19 dc19 pm19 an19 cd19 ct19), sl19⟩) (c19 : PySem.W.codeIn K cd19 "rows_by_place" = true) (k19 : PySem.W.keepIn K (.ref f19) = true)
    (a20 : PySem.W.nsIn K mainGlobals "sum_of_places" = some (some (.ref f20))) (l20 : K.lookup f20 = some ⟨oc20, od20, .func (PySem.W.fnOf "sum_of_places" "sum_of_places" (defArgs sSumPlaces) (defBody sSumPlaces) (defScope sSumPlaces) .none kV20 dc20 pm20 an20 cd20 ct20), sl20⟩) (c20 : PySem.W.codeIn K cd20 "sum_of_places" = true) (k20 : PySem.W.keepIn K (.ref f20) = true)
    (a21 : PySem.W.nsIn K mainGlobals "fairest_pair" = some (some (.ref f21))) (l21 : K.lookup f21 = some ⟨oc21, od21, .func (PySem.W.fnOf "fairest_pair" "fairest_pair" (defArgs sFairestPair) (defBody sFairestPair) (defScope sFairestPair) .none kV21 dc21 pm21 an21 cd21 ct21), sl21⟩) (c21 : PySem.W.codeIn K cd21 "fairest_pair" = true) (k21 : PySem.W.keepIn K (.ref f21) = true)
    (a22 : PySem.W.nsIn K mainGlobals "questions_with" = some (some (.ref f22))) (l22 : K.lookup f22 = some ⟨oc22, od22, .func (PySem.W.fnOf "questions_with" "questions_with" (defArgs sQWith) (defBody sQWith) (defScope sQWith) .none kV22 dc22 pm22 an22 cd22 ct22), sl22⟩) (c22 : PySem.W.codeIn K cd22 "questions_with" = true) (k22 : PySem.W.keepIn K (.ref f22) = true)
    (a23 : PySem.W.nsIn K mainGlobals "questions_needed" = some (some (.ref f23))) (l23 : K.lookup f23 = some ⟨oc23, od23, .func (PySem.W.fnOf "questions_needed" "questions_needed" (defArgs sQNeeded) (defBody sQNeeded) (defScope sQNeeded) .none kV23 dc23 pm23 an23 cd23 ct23), sl23⟩) (c23 : PySem.W.codeIn K cd23 "questions_needed" = true) (k23 : PySem.W.keepIn K (.ref f23) = true)
    (a24 : PySem.W.nsIn K mainGlobals "common_part" = some (some (.ref f24))) (l24 : K.lookup f24 = some ⟨oc24, od24, .func (PySem.W.fnOf "common_part" "common_part" (defArgs sCommon) (defBody sCommon) (defScope sCommon) .none kV24 dc24 pm24 an24 cd24 ct24), sl24⟩) (c24 : PySem.W.codeIn K cd24 "common_part" = true) (k24 : PySem.W.keepIn K (.ref f24) = true)
    (a25 : PySem.W.nsIn K mainGlobals "fraction" = some (some (.ref f25))) (l25 : K.lookup f25 = some ⟨oc25, od25, .func (PySem.W.fnOf "fraction" "fraction" (defArgs sFraction) (defBody sFraction) (defScope sFraction) .none kV25 dc25 pm25 an25 cd25 ct25), sl25⟩) (c25 : PySem.W.codeIn K cd25 "fraction" = true) (k25 : PySem.W.keepIn K (.ref f25) = true)
    (a26 : PySem.W.nsIn K mainGlobals "end_of_call" = some (some (.ref f26))) (l26 : K.lookup f26 = some ⟨oc26, od26, .func (PySem.W.fnOf "end_of_call" "end_of_call" (defArgs sEnd) (defBody sEnd) (defScope sEnd) .none kV26 dc26 pm26 an26 cd26 ct26), sl26⟩) (c26 : PySem.W.codeIn K cd26 "end_of_call" = true) (k26 : PySem.W.keepIn K (.ref f26) = true)
    (a27 : PySem.W.nsIn K mainGlobals "answer" = some (some (.ref f27))) (l27 : K.lookup f27 = some ⟨oc27, od27, .func (PySem.W.fnOf "answer" "answer" (defArgs sAnswer) (defBody sAnswer) (defScope sAnswer) .none kV27 dc27 pm27 an27 cd27 ct27), sl27⟩) (c27 : PySem.W.codeIn K cd27 "answer" = true) (k27 : PySem.W.keepIn K (.ref f27) = true)
    (a28 : PySem.W.nsIn K mainGlobals "answers" = some (some (.ref f28))) (l28 : K.lookup f28 = some ⟨oc28, od28, .func (PySem.W.fnOf "answers" "answers" (defArgs sAnswers) (defBody sAnswers) (defScope sAnswers) .none kV28 dc28 pm28 an28 cd28 ct28), sl28⟩) (c28 : PySem.W.codeIn K cd28 "answers" = true) (k28 : PySem.W.keepIn K (.ref f28) = true)
    (a29 : PySem.W.findIn K (.ref C) "__init__" = some (some (.ref f29))) (i29 : PySem.W.isFn K (.ref f29) = true) (l29 : K.lookup f29 = some ⟨oc29, od29, .func (PySem.W.fnOf "__init__" "Order.__init__" (defArgs sInit) (defBody sInit) (defScope sInit) .none kV29 dc29 pm29 an29 cd29 ct29), sl29⟩) (c29 : PySem.W.codeIn K cd29 "Order.__init__" = true) (k29 : PySem.W.keepIn K (.ref f29) = true)
    (a30 : PySem.W.findIn K (.ref C) "below" = some (some (.ref f30))) (i30 : PySem.W.isFn K (.ref f30) = true) (l30 : K.lookup f30 = some ⟨oc30, od30, .func (PySem.W.fnOf "below" "Order.below" (defArgs sBelow) (defBody sBelow) (defScope sBelow) .none kV30 dc30 pm30 an30 cd30 ct30), sl30⟩) (c30 : PySem.W.codeIn K cd30 "Order.below" = true) (k30 : PySem.W.keepIn K (.ref f30) = true)
    (a31 : PySem.W.findIn K (.ref C) "things" = some (some (.ref f31))) (i31 : PySem.W.isFn K (.ref f31) = true) (l31 : K.lookup f31 = some ⟨oc31, od31, .func (PySem.W.fnOf "things" "Order.things" (defArgs sThings) (defBody sThings) (defScope sThings) .none kV31 dc31 pm31 an31 cd31 ct31), sl31⟩) (c31 : PySem.W.codeIn K cd31 "Order.things" = true) (k31 : PySem.W.keepIn K (.ref f31) = true)
    (a32 : PySem.W.findIn K (.ref C) "less" = some (some (.ref f32))) (i32 : PySem.W.isFn K (.ref f32) = true) (l32 : K.lookup f32 = some ⟨oc32, od32, .func (PySem.W.fnOf "less" "Order.less" (defArgs sLess) (defBody sLess) (defScope sLess) .none kV32 dc32 pm32 an32 cd32 ct32), sl32⟩) (c32 : PySem.W.codeIn K cd32 "Order.less" = true) (k32 : PySem.W.keepIn K (.ref f32) = true)
    (a33 : PySem.W.findIn K (.ref C) "undo" = some (some (.ref f33))) (i33 : PySem.W.isFn K (.ref f33) = true) (l33 : K.lookup f33 = some ⟨oc33, od33, .func (PySem.W.fnOf "undo" "Order.undo" (defArgs sUndo) (defBody sUndo) (defScope sUndo) .none kV33 dc33 pm33 an33 cd33 ct33), sl33⟩) (c33 : PySem.W.codeIn K cd33 "Order.undo" = true) (k33 : PySem.W.keepIn K (.ref f33) = true)
    (a34 : PySem.W.findIn K (.ref C) "many" = some (some (.ref f34))) (i34 : PySem.W.isFn K (.ref f34) = true) (l34 : K.lookup f34 = some ⟨oc34, od34, .func (PySem.W.fnOf "many" "Order.many" (defArgs sMany) (defBody sMany) (defScope sMany) .none kV34 dc34 pm34 an34 cd34 ct34), sl34⟩) (c34 : PySem.W.codeIn K cd34 "Order.many" = true) (k34 : PySem.W.keepIn K (.ref f34) = true)
    (a35 : PySem.W.findIn K (.ref C) "nth" = some (some (.ref f35))) (i35 : PySem.W.isFn K (.ref f35) = true) (l35 : K.lookup f35 = some ⟨oc35, od35, .func (PySem.W.fnOf "nth" "Order.nth" (defArgs sNth) (defBody sNth) (defScope sNth) .none kV35 dc35 pm35 an35 cd35 ct35), sl35⟩) (c35 : PySem.W.codeIn K cd35 "Order.nth" = true) (k35 : PySem.W.keepIn K (.ref f35) = true)
    (a36 : PySem.W.findIn K (.ref C) "rank" = some (some (.ref f36))) (i36 : PySem.W.isFn K (.ref f36) = true) (l36 : K.lookup f36 = some ⟨oc36, od36, .func (PySem.W.fnOf "rank" "Order.rank" (defArgs sRank) (defBody sRank) (defScope sRank) .none kV36 dc36 pm36 an36 cd36 ct36), sl36⟩) (c36 : PySem.W.codeIn K cd36 "Order.rank" = true) (k36 : PySem.W.keepIn K (.ref f36) = true)
    (a37 : PySem.W.findIn K (.ref C) "chance" = some (some (.ref f37))) (i37 : PySem.W.isFn K (.ref f37) = true) (l37 : K.lookup f37 = some ⟨oc37, od37, .func (PySem.W.fnOf "chance" "Order.chance" (defArgs sChance) (defBody sChance) (defScope sChance) .none kV37 dc37 pm37 an37 cd37 ct37), sl37⟩) (c37 : PySem.W.codeIn K cd37 "Order.chance" = true) (k37 : PySem.W.keepIn K (.ref f37) = true)
    (a38 : PySem.W.findIn K (.ref C) "both" = some (some (.ref f38))) (i38 : PySem.W.isFn K (.ref f38) = true) (l38 : K.lookup f38 = some ⟨oc38, od38, .func (PySem.W.fnOf "both" "Order.both" (defArgs sBoth) (defBody sBoth) (defScope sBoth) .none kV38 dc38 pm38 an38 cd38 ct38), sl38⟩) (c38 : PySem.W.codeIn K cd38 "Order.both" = true) (k38 : PySem.W.keepIn K (.ref f38) = true)
    (a39 : PySem.W.findIn K (.ref C) "spread" = some (some (.ref f39))) (i39 : PySem.W.isFn K (.ref f39) = true) (l39 : K.lookup f39 = some ⟨oc39, od39, .func (PySem.W.fnOf "spread" "Order.spread" (defArgs sSpread) (defBody sSpread) (defScope sSpread) .none kV39 dc39 pm39 an39 cd39 ct39), sl39⟩) (c39 : PySem.W.codeIn K cd39 "Order.spread" = true) (k39 : PySem.W.keepIn K (.ref f39) = true)
    (a40 : PySem.W.findIn K (.ref C) "fairest" = some (some (.ref f40))) (i40 : PySem.W.isFn K (.ref f40) = true) (l40 : K.lookup f40 = some ⟨oc40, od40, .func (PySem.W.fnOf "fairest" "Order.fairest" (defArgs sFairest) (defBody sFairest) (defScope sFairest) .none kV40 dc40 pm40 an40 cd40 ct40), sl40⟩) (c40 : PySem.W.codeIn K cd40 "Order.fairest" = true) (k40 : PySem.W.keepIn K (.ref f40) = true)
    (a41 : PySem.W.findIn K (.ref C) "fewest" = some (some (.ref f41))) (i41 : PySem.W.isFn K (.ref f41) = true) (l41 : K.lookup f41 = some ⟨oc41, od41, .func (PySem.W.fnOf "fewest" "Order.fewest" (defArgs sFewest) (defBody sFewest) (defScope sFewest) .none kV41 dc41 pm41 an41 cd41 ct41), sl41⟩) (c41 : PySem.W.codeIn K cd41 "Order.fewest" = true) (k41 : PySem.W.keepIn K (.ref f41) = true)
    (a42 : PySem.W.findIn K (.ref C) "next_pairs" = some (some (.ref f42))) (i42 : PySem.W.isFn K (.ref f42) = true) (l42 : K.lookup f42 = some ⟨oc42, od42, .func (PySem.W.fnOf "next_pairs" "Order.next_pairs" (defArgs sNextPairs) (defBody sNextPairs) (defScope sNextPairs) .none kV42 dc42 pm42 an42 cd42 ct42), sl42⟩) (c42 : PySem.W.codeIn K cd42 "Order.next_pairs" = true) (k42 : PySem.W.keepIn K (.ref f42) = true)
    (a43 : PySem.W.findIn K (.ref C) "likely" = some (some (.ref f43))) (i43 : PySem.W.isFn K (.ref f43) = true) (l43 : K.lookup f43 = some ⟨oc43, od43, .func (PySem.W.fnOf "likely" "Order.likely" (defArgs sLikely) (defBody sLikely) (defScope sLikely) .none kV43 dc43 pm43 an43 cd43 ct43), sl43⟩) (c43 : PySem.W.codeIn K cd43 "Order.likely" = true) (k43 : PySem.W.keepIn K (.ref f43) = true)
    (a44 : PySem.W.findIn K (.ref C) "is_below" = some (some (.ref f44))) (i44 : PySem.W.isFn K (.ref f44) = true) (l44 : K.lookup f44 = some ⟨oc44, od44, .func (PySem.W.fnOf "is_below" "Order.is_below" (defArgs sIsBelow) (defBody sIsBelow) (defScope sIsBelow) .none kV44 dc44 pm44 an44 cd44 ct44), sl44⟩) (c44 : PySem.W.codeIn K cd44 "Order.is_below" = true) (k44 : PySem.W.keepIn K (.ref f44) = true)
    (aC : PySem.W.nsIn K mainGlobals "Order" = some (some (.ref C)))
    (pg : PySem.W.plainGet K C Str.empty = true)
    (hd : PySem.W.hasDictIn K C = true)
    (po : PySem.W.plainOver K C = true)
    (sa : PySem.W.findIn K (.ref C) "__setattr__" = some (some (.builtin "object.__setattr__")))
    (mk : PySem.W.makesIn K C = true)
    (kc : PySem.W.keepIn K (.ref C) = true)
    (nH : PySem.W.findIn K (.ref C) "history" = some none)
    (z0 : PySem.W.nsIn K mainGlobals "len" = some none)
    (z1 : PySem.W.nsIn K mainGlobals "range" = some none)
    (z2 : PySem.W.nsIn K mainGlobals "sum" = some none)
    (z3 : PySem.W.nsIn K mainGlobals "any" = some none)
    (z4 : PySem.W.nsIn K mainGlobals "enumerate" = some none)
    (z5 : PySem.W.nsIn K mainGlobals "min" = some none)
    (z6 : PySem.W.nsIn K mainGlobals "abs" = some none)
    (z7 : PySem.W.nsIn K mainGlobals "max" = some none)
    (z8 : PySem.W.nsIn K mainGlobals "tuple" = some none)
    (z9 : PySem.W.nsIn K mainGlobals "list" = some none)
    (z10 : PySem.W.nsIn K mainGlobals "sorted" = some none)
    (v1 : PySem.W.nsIn K mainGlobals "MOST_THINGS" = some (some (.int 7 t1)))
    (v2 : PySem.W.nsIn K mainGlobals "MOST_THINGS_FOR_FEWEST" = some (some (.int 4 t2)))
    (w0 : PySem.W.nsIn K mainGlobals "THINGS" = some (some (.int 0 y0)))
    (w1 : PySem.W.nsIn K mainGlobals "LESS" = some (some (.int 1 y1)))
    (w2 : PySem.W.nsIn K mainGlobals "UNDO" = some (some (.int 2 y2)))
    (w3 : PySem.W.nsIn K mainGlobals "MANY" = some (some (.int 3 y3)))
    (w4 : PySem.W.nsIn K mainGlobals "NTH" = some (some (.int 4 y4)))
    (w5 : PySem.W.nsIn K mainGlobals "RANK" = some (some (.int 5 y5)))
    (w6 : PySem.W.nsIn K mainGlobals "CHANCE" = some (some (.int 6 y6)))
    (w7 : PySem.W.nsIn K mainGlobals "BOTH" = some (some (.int 7 y7)))
    (w8 : PySem.W.nsIn K mainGlobals "SPREAD" = some (some (.int 8 y8)))
    (w9 : PySem.W.nsIn K mainGlobals "FAIREST" = some (some (.int 9 y9)))
    (w10 : PySem.W.nsIn K mainGlobals "FEWEST" = some (some (.int 10 y10)))
    (w11 : PySem.W.nsIn K mainGlobals "NEXT_PAIRS" = some (some (.int 11 y11)))
    (w12 : PySem.W.nsIn K mainGlobals "LIKELY" = some (some (.int 12 y12)))
    (aL : PySem.W.nsIn K mainGlobals "LENGTHS" = some (some (.ref fL)))
    (lL : K.lookup fL = some ⟨.type "tuple", odL, .seq #[.int 1 u0, .int 2 u1, .int 0 u2, .int 0 u3, .int 1 u4, .int 0 u5, .int 2 u6, .int 3 u7, .int 1 u8, .int 0 u9, .int 0 u10, .int 0 u11, .int 0 u12, .int 2 u13] nL, slL⟩)
    (hcd : cd21 = .ref cT)
    (lc : K.lookup cT = some ⟨ecT, dcT, .fields vcT, scT⟩)
    (v11 : vcT[11]? = some (.ref TT))
    (ch : PySem.W.codeHdIn K cT TT = true)
    (nT : K.lookup TT = none) :
    ∃ (fd : FuncData) (c T : Addr), TabK K mg "fairest_pair" c T ∧ (∀ (s : Shared) (us : List Value), us.length = (["calls"] : List Str).length → BindsTo s fd ⟨us, []⟩ ((["calls"] : List Str).zip us)) ∧ ∀ base : Heap, K.In base → base.Ns mainGlobals mg → LamX.TabB base mg c T → FnOk P w K mg base CX0 21 fa fd ["calls"] (spAnswersT K T) := by
  have R_bit_of : Raw K mg "bit_of" sBitOf ["thing"] := raw_mk X G a1 l1 c1 k1 fun _ _ _ _ _ _ us hl => match us, hl with | [_], _ => rfl
  have R_nothing_told : Raw K mg "nothing_told" sNothing ["n"] := raw_mk X G a2 l2 c2 k2 fun _ _ _ _ _ _ us hl => match us, hl with | [_], _ => rfl
  have R_are_two : Raw K mg "are_two" sAreTwo ["below", "x", "y"] := raw_mk X G a3 l3 c3 k3 fun _ _ _ _ _ _ us hl => match us, hl with | [_, _, _], _ => rfl
  have R_lies_below : Raw K mg "lies_below" sLies ["below", "x", "y"] := raw_mk X G a4 l4 c4 k4 fun _ _ _ _ _ _ us hl => match us, hl with | [_, _, _], _ => rfl
  have R_tell : Raw K mg "tell" sTell ["below", "x", "y"] := raw_mk X G a5 l5 c5 k5 fun _ _ _ _ _ _ us hl => match us, hl with | [_, _, _], _ => rfl
  have R_open_pairs : Raw K mg "open_pairs" sOpenPairs ["below"] := raw_mk X G a6 l6 c6 k6 fun _ _ _ _ _ _ us hl => match us, hl with | [_], _ => rfl
  have R_lies_between : Raw K mg "lies_between" sBetween ["below", "x", "y"] := raw_mk X G a7 l7 c7 k7 fun _ _ _ _ _ _ us hl => match us, hl with | [_, _, _], _ => rfl
  have R_neighbours : Raw K mg "neighbours" sNeighbours ["below"] := raw_mk X G a8 l8 c8 k8 fun _ _ _ _ _ _ us hl => match us, hl with | [_], _ => rfl
  have R_may_follow : Raw K mg "may_follow" sMay ["below", "placed", "thing"] := raw_mk X G a9 l9 c9 k9 fun _ _ _ _ _ _ us hl => match us, hl with | [_, _, _], _ => rfl
  have R_followers : Raw K mg "followers" sFollowers ["below", "placed"] := raw_mk X G a10 l10 c10 k10 fun _ _ _ _ _ _ us hl => match us, hl with | [_, _], _ => rfl
  have R_ways_behind : Raw K mg "ways_behind" sWays ["below"] := raw_mk X G a11 l11 c11 k11 fun _ _ _ _ _ _ us hl => match us, hl with | [_], _ => rfl
  have R_ways_ahead : Raw K mg "ways_ahead" sWaysAhead ["below"] := raw_mk X G a12 l12 c12 k12 fun _ _ _ _ _ _ us hl => match us, hl with | [_], _ => rfl
  have R_how_many_rows : Raw K mg "how_many_rows" sHowMany ["below"] := raw_mk X G a13 l13 c13 k13 fun _ _ _ _ _ _ us hl => match us, hl with | [_], _ => rfl
  have R_row_at : Raw K mg "row_at" sRowAt ["below", "number"] := raw_mk X G a14 l14 c14 k14 fun _ _ _ _ _ _ us hl => match us, hl with | [_, _], _ => rfl
  have R_number_of : Raw K mg "number_of" sNumberOf ["below", "row"] := raw_mk X G a15 l15 c15 k15 fun _ _ _ _ _ _ us hl => match us, hl with | [_, _], _ => rfl
  have R_rows_with_ahead : Raw K mg "rows_with_ahead" sWithAhead ["below", "x", "y"] := raw_mk X G a16 l16 c16 k16 fun _ _ _ _ _ _ us hl => match us, hl with | [_, _, _], _ => rfl
  have R_rows_with_both : Raw K mg "rows_with_both" sWithBoth ["below", "x", "y", "z"] := raw_mk X G a17 l17 c17 k17 fun _ _ _ _ _ _ us hl => match us, hl with | [_, _, _, _], _ => rfl
  have R_how_many_things : Raw K mg "how_many_things" sHowThings ["below", "placed"] := raw_mk X G a18 l18 c18 k18 fun _ _ _ _ _ _ us hl => match us, hl with | [_, _], _ => rfl
  have R_rows_by_place : Raw K mg "rows_by_place" sByPlace ["below", "thing"] := raw_mk X G a19 l19 c19 k19 fun _ _ _ _ _ _ us hl => match us, hl with | [_, _], _ => rfl
  have R_sum_of_places : Raw K mg "sum_of_places" sSumPlaces ["rows"] := raw_mk X G a20 l20 c20 k20 fun _ _ _ _ _ _ us hl => match us, hl with | [_], _ => rfl
  have R_fairest_pair : Raw K mg "fairest_pair" sFairestPair ["below"] := raw_mk X G a21 l21 c21 k21 fun _ _ _ _ _ _ us hl => match us, hl with | [_], _ => rfl
  have R_questions_with : Raw K mg "questions_with" sQWith ["below", "x", "y", "found"] := raw_mk X G a22 l22 c22 k22 fun _ _ _ _ _ _ us hl => match us, hl with | [_, _, _, _], _ => rfl
  have R_questions_needed : Raw K mg "questions_needed" sQNeeded ["below", "found"] := raw_mk X G a23 l23 c23 k23 fun _ _ _ _ _ _ us hl => match us, hl with | [_, _], _ => rfl
  have R_common_part : Raw K mg "common_part" sCommon ["a", "b"] := raw_mk X G a24 l24 c24 k24 fun _ _ _ _ _ _ us hl => match us, hl with | [_, _], _ => rfl
  have R_fraction : Raw K mg "fraction" sFraction ["part", "whole"] := raw_mk X G a25 l25 c25 k25 fun _ _ _ _ _ _ us hl => match us, hl with | [_, _], _ => rfl
  have R_end_of_call : Raw K mg "end_of_call" sEnd ["calls", "start"] := raw_mk X G a26 l26 c26 k26 fun _ _ _ _ _ _ us hl => match us, hl with | [_, _], _ => rfl
  have R_answer : Raw K mg "answer" sAnswer ["order", "number", "numbers"] := raw_mk X G a27 l27 c27 k27 fun _ _ _ _ _ _ us hl => match us, hl with | [_, _, _], _ => rfl
  have R_answers : Raw K mg "answers" sAnswers ["calls"] := raw_mk X G a28 l28 c28 k28 fun _ _ _ _ _ _ us hl => match us, hl with | [_], _ => rfl
  have M_init : RawM K C "__init__" "Order.__init__" sInit ["self"] := rawM_mk a29 i29 l29 c29 k29 fun _ _ _ _ _ _ us hl => match us, hl with | [_], _ => rfl
  have M_below : RawM K C "below" "Order.below" sBelow ["self"] := rawM_mk a30 i30 l30 c30 k30 fun _ _ _ _ _ _ us hl => match us, hl with | [_], _ => rfl
  have M_things : RawM K C "things" "Order.things" sThings ["self", "n"] := rawM_mk a31 i31 l31 c31 k31 fun _ _ _ _ _ _ us hl => match us, hl with | [_, _], _ => rfl
  have M_less : RawM K C "less" "Order.less" sLess ["self", "x", "y"] := rawM_mk a32 i32 l32 c32 k32 fun _ _ _ _ _ _ us hl => match us, hl with | [_, _, _], _ => rfl
  have M_undo : RawM K C "undo" "Order.undo" sUndo ["self"] := rawM_mk a33 i33 l33 c33 k33 fun _ _ _ _ _ _ us hl => match us, hl with | [_], _ => rfl
  have M_many : RawM K C "many" "Order.many" sMany ["self"] := rawM_mk a34 i34 l34 c34 k34 fun _ _ _ _ _ _ us hl => match us, hl with | [_], _ => rfl
  have M_nth : RawM K C "nth" "Order.nth" sNth ["self", "k"] := rawM_mk a35 i35 l35 c35 k35 fun _ _ _ _ _ _ us hl => match us, hl with | [_, _], _ => rfl
  have M_rank : RawM K C "rank" "Order.rank" sRank ["self", "row"] := rawM_mk a36 i36 l36 c36 k36 fun _ _ _ _ _ _ us hl => match us, hl with | [_, _], _ => rfl
  have M_chance : RawM K C "chance" "Order.chance" sChance ["self", "x", "y"] := rawM_mk a37 i37 l37 c37 k37 fun _ _ _ _ _ _ us hl => match us, hl with | [_, _, _], _ => rfl
  have M_both : RawM K C "both" "Order.both" sBoth ["self", "x", "y", "z"] := rawM_mk a38 i38 l38 c38 k38 fun _ _ _ _ _ _ us hl => match us, hl with | [_, _, _, _], _ => rfl
  have M_spread : RawM K C "spread" "Order.spread" sSpread ["self", "x"] := rawM_mk a39 i39 l39 c39 k39 fun _ _ _ _ _ _ us hl => match us, hl with | [_, _], _ => rfl
  have M_fairest : RawM K C "fairest" "Order.fairest" sFairest ["self"] := rawM_mk a40 i40 l40 c40 k40 fun _ _ _ _ _ _ us hl => match us, hl with | [_], _ => rfl
  have M_fewest : RawM K C "fewest" "Order.fewest" sFewest ["self"] := rawM_mk a41 i41 l41 c41 k41 fun _ _ _ _ _ _ us hl => match us, hl with | [_], _ => rfl
  have M_next_pairs : RawM K C "next_pairs" "Order.next_pairs" sNextPairs ["self"] := rawM_mk a42 i42 l42 c42 k42 fun _ _ _ _ _ _ us hl => match us, hl with | [_], _ => rfl
  have M_likely : RawM K C "likely" "Order.likely" sLikely ["self"] := rawM_mk a43 i43 l43 c43 k43 fun _ _ _ _ _ _ us hl => match us, hl with | [_], _ => rfl
  have M_is_below : RawM K C "is_below" "Order.is_below" sIsBelow ["self", "x", "y"] := rawM_mk a44 i44 l44 c44 k44 fun _ _ _ _ _ _ us hl => match us, hl with | [_, _, _], _ => rfl
  have T : Txt K mg C := ⟨⟨pg, hd, po, sa⟩, nH⟩
  have B : Bi mg := ⟨PySem.W.mg_none_of X G z0, PySem.W.mg_none_of X G z1, PySem.W.mg_none_of X G z2⟩
  have mAny := PySem.W.mg_none_of X G z3
  have mEnum := PySem.W.mg_none_of X G z4
  have mMin := PySem.W.mg_none_of X G z5
  have mAbs := PySem.W.mg_none_of X G z6
  have mMax := PySem.W.mg_none_of X G z7
  have mTup := PySem.W.mg_none_of X G z8
  have mList := PySem.W.mg_none_of X G z9
  have mSort := PySem.W.mg_none_of X G z10
  have gO := PySem.W.mg_of X G aC
  have g7 := PySem.W.mg_of X G v1
  have g4 := PySem.W.mg_of X G v2
  have NN : Nums K mg := ⟨⟨_, PySem.W.mg_of X G w0⟩, ⟨_, PySem.W.mg_of X G w1⟩, ⟨_, PySem.W.mg_of X G w2⟩, ⟨_, PySem.W.mg_of X G w3⟩, ⟨_, PySem.W.mg_of X G w4⟩, ⟨_, PySem.W.mg_of X G w5⟩, ⟨_, PySem.W.mg_of X G w6⟩, ⟨_, PySem.W.mg_of X G w7⟩, ⟨_, PySem.W.mg_of X G w8⟩, ⟨_, PySem.W.mg_of X G w9⟩, ⟨_, PySem.W.mg_of X G w10⟩, ⟨_, PySem.W.mg_of X G w11⟩, ⟨_, PySem.W.mg_of X G w12⟩,
    ⟨fL, PySem.W.mg_of X G aL, fun H => .inr ⟨_, _, _, lL, rfl, rfl, by show 14 ≤ sizeLine; decide, .cons ⟨_, rfl⟩ (.cons ⟨_, rfl⟩ (.cons ⟨_, rfl⟩ (.cons ⟨_, rfl⟩ (.cons ⟨_, rfl⟩ (.cons ⟨_, rfl⟩ (.cons ⟨_, rfl⟩ (.cons ⟨_, rfl⟩ (.cons ⟨_, rfl⟩ (.cons ⟨_, rfl⟩ (.cons ⟨_, rfl⟩ (.cons ⟨_, rfl⟩ (.cons ⟨_, rfl⟩ (.cons ⟨_, rfl⟩ .nil)))))))))))))⟩⟩⟩
  obtain ⟨fS, fdS, gS, FS, bS⟩ := R_answers.ex
  have e := hfa.symm.trans gS
  cases e
  refine ⟨fdS, cT, TT, ⟨⟨_, _, _, PySem.W.mg_of X G a21, l21, rfl, hcd⟩, ch, nT⟩, ?_, fun base KB GB TB => ?_⟩
  · obtain ⟨oc, od, kV, doc, pm, an, cdv, ct, osl, rfl, _, _⟩ := FS.ex
    exact fun s us hu => match us, hu with | [_], _ => .of_eq rfl
  have D_bit : Df P w K mg base 1 "bit_of" ["thing"] spBit := R_bit_of.df fun f fd F => ok_bit F
  have D_nothing : Df P w K mg base 1 "nothing_told" ["n"] spNothing := R_nothing_told.df fun f fd F => ok_nothing F B.range
  have D_two : Df P w K mg base 1 "are_two" ["below", "x", "y"] spAreTwo := R_are_two.df fun f fd F => ok_areTwo F
  have D_lies : Df P w K mg base 2 "lies_below" ["below", "x", "y"] spLies := R_lies_below.df fun f fd F => ok_lies F D_bit
  have D_may : Df P w K mg base 2 "may_follow" ["below", "placed", "thing"] spMay := R_may_follow.df fun f fd F => ok_may F D_bit
  have D_fol : Df P w K mg base 3 "followers" ["below", "placed"] spFollowers := R_followers.df fun f fd F => ok_followers F D_may
  have D_tell : Df P w K mg base 3 "tell" ["below", "x", "y"] spTell := R_tell.df fun f fd F => ok_tell F D_bit D_lies
  have D_open : Df P w K mg base 3 "open_pairs" ["below"] (spPairs opR) := R_open_pairs.df fun f fd F => ok_open F D_lies
  have D_btw : Df P w K mg base 3 "lies_between" ["below", "x", "y"] spBetween := R_lies_between.df fun f fd F => ok_between F mAny D_lies
  have D_nei : Df P w K mg base 4 "neighbours" ["below"] (spPairs nxR) := R_neighbours.df fun f fd F => ok_neigh F D_lies D_btw
  have D_ways : Df P w K mg base 4 "ways_behind" ["below"] spWays := R_ways_behind.df fun f fd F => ok_ways F B D_bit D_fol
  have D_waysA : Df P w K mg base 4 "ways_ahead" ["below"] spWaysA := R_ways_ahead.df fun f fd F => ok_waysA F B D_bit D_fol
  have D_hm : Df P w K mg base 5 "how_many_rows" ["below"] spHowMany := R_how_many_rows.df fun f fd F => ok_howMany F D_ways
  have D_row : Df P w K mg base 5 "row_at" ["below", "number"] spRowAt := R_row_at.df fun f fd F => ok_rowAt F B D_bit D_fol D_ways
  have D_num : Df P w K mg base 5 "number_of" ["below", "row"] (spNumberOf K) := R_number_of.df fun f fd F => ok_numberOf F B D_bit D_fol D_ways
  have D_ahead : Df P w K mg base 6 "rows_with_ahead" ["below", "x", "y"] spAhead := R_rows_with_ahead.df fun f fd F => ok_ahead F D_lies D_tell D_hm
  have D_rboth : Df P w K mg base 7 "rows_with_both" ["below", "x", "y", "z"] spBoth := R_rows_with_both.df fun f fd F => ok_rowsBoth F D_lies D_tell D_ahead
  have D_ht : Df P w K mg base 2 "how_many_things" ["below", "placed"] spHowThings := R_how_many_things.df fun f fd F => ok_howThings F B D_bit
  have D_place : Df P w K mg base 5 "rows_by_place" ["below", "thing"] spByPlace := R_rows_by_place.df fun f fd F => ok_byPlace F B mEnum D_bit D_may D_ht D_waysA D_ways
  have D_sum : Df P w K mg base 1 "sum_of_places" ["rows"] (spSumPl K) := R_sum_of_places.df fun f fd F => ok_sumPl F B mEnum
  have D_fair : Df P w K mg base 9 "fairest_pair" ["below"] (spFair TT) := ⟨_, _, PySem.W.mg_of X G a21, k21, (fun_mk l21 c21 k21).binds (fun _ _ _ _ _ _ us hl => match us, hl with | [_], _ => rfl), ok_fair (fun_mk l21 c21 k21) hcd TB mMin mAbs D_hm D_open D_ahead⟩
  have D_need : Df P w K mg base 17 "questions_needed" ["below", "found"] (spNeed 6) := need_all R_questions_with R_questions_needed mMax mMin mTup D_open D_tell 6
  have D_com : Df P w K mg base 1 "common_part" ["a", "b"] spCommon := R_common_part.df fun f fd F => ok_common F
  have D_frac : Df P w K mg base 2 "fraction" ["part", "whole"] spFraction := R_fraction.df fun f fd F => ok_fraction F D_com
  have E_below : Md P w K mg base C 1 "below" ["self"] (spBelow C) := M_below.md fun f fd F => ok_below F T B
  have E_many : Md P w K mg base C 6 "many" ["self"] (spStep C arMany) := M_many.md fun f fd F => ok_many F T E_below D_hm
  have E_nth : Md P w K mg base C 6 "nth" ["self", "k"] (spStep C arNth) := M_nth.md fun f fd F => ok_nth F T E_below D_hm D_row
  have E_rank : Md P w K mg base C 6 "rank" ["self", "row"] (spStep C (arRank K)) := M_rank.md fun f fd F => ok_rank F T E_below D_num
  have E_chance : Md P w K mg base C 7 "chance" ["self", "x", "y"] (spStep C arChance) := M_chance.md fun f fd F => ok_chance F T E_below D_two D_ahead D_hm D_frac
  have E_chanceQ : Md P w K mg base C 7 "chance" ["self", "x", "y"] (spChanceQ C) := M_chance.md fun f fd F => ok_chanceQ F T E_below D_two D_ahead D_hm D_frac
  have E_things : Md P w K mg base C 2 "things" ["self", "n"] (spStep C arThings) := M_things.md fun f fd F => ok_things F T g7 D_nothing
  have E_undo : Md P w K mg base C 1 "undo" ["self"] (spStep C arUndo) := M_undo.md fun f fd F => ok_undo F T B
  have E_less : Md P w K mg base C 7 "less" ["self", "x", "y"] (spStepB C arLess) := M_less.md fun f fd F => ok_less F T E_below D_two D_lies D_tell E_many
  have E_both : Md P w K mg base C 8 "both" ["self", "x", "y", "z"] (spStep C arBoth) := M_both.md fun f fd F => ok_both F T E_below D_two D_rboth D_hm D_frac
  have E_spread : Md P w K mg base C 6 "spread" ["self", "x"] (spStep C arSpread) := M_spread.md fun f fd F => ok_spread F T B E_below D_place D_sum D_frac
  have E_fairest : Md P w K mg base C 10 "fairest" ["self"] (spStepT C TT arFairest) := M_fairest.md fun f fd F => ok_fairest F T mList E_below D_fair E_chanceQ
  have E_fewest : Md P w K mg base C 18 "fewest" ["self"] (spStep C arFewest) := M_fewest.md fun f fd F => ok_fewest F T B g4 E_below D_need
  have E_next : Md P w K mg base C 5 "next_pairs" ["self"] (spStep C arNext) := M_next_pairs.md fun f fd F => ok_next F T B E_below D_nei
  have E_likely : Md P w K mg base C 6 "likely" ["self"] (spStep C arLikely) := M_likely.md fun f fd F => ok_likely F T mSort E_below D_hm D_place D_sum D_frac
  have E_is : Md P w K mg base C 3 "is_below" ["self", "x", "y"] (spStep C arIs) := M_is_below.md fun f fd F => ok_is F T E_below D_lies
  have D_end : Df P w K mg base 1 "end_of_call" ["calls", "start"] (spEnd K) := R_end_of_call.df fun f fd F => ok_end F NN
  have D_ans : Df P w K mg base 19 "answer" ["order", "number", "numbers"] (spStepT C TT (arAll K)) := R_answer.df fun f fd F => ok_answer F T NN E_things E_less E_undo E_many E_nth E_rank E_chance E_both E_spread E_fairest E_fewest E_next E_likely E_is
  obtain ⟨fI, fdI, mI, FI, bI⟩ := M_init.ex
  exact ok_answersT FS gO B ⟨mk, mI.at_, mI.fn, kc⟩ (ok_init FI T D_nothing) bI D_end D_ans (by decide) (by decide)
theorem tab_none {H : Hp} {T : Addr} (h : H T = some (.tbl #[])) : LamX.TabS H T lamQ := ⟨#[], h, by trivial, fun pos cv hc => by cases hc⟩
end Ob
end
set_option Elab.async false
open PySem PySem.W PyProof.Rows
set_option maxRecDepth 100000 in
set_option maxHeartbeats 8000000 in
theorem PySem.Challenge.cw_openorder_s01_answers_holds : PySem.Challenge.rw_openorder_s01_answers.Holds := by
  w_on; k_headS; (case hw => exact ⟨[.list [.int 3]], by decide +kernel, by decide +kernel⟩)
  k_fillS
  refine Ob.walk_specT "fairest_pair" (r := PySem.Challenge.rw_openorder_s01_answers) (k := 21) (ps := ["calls"]) (sp := Ob.spAnswersT) (by decide +kernel) rfl rfl ⟨rfl, by decide, by decide⟩ (by decide +kernel) (fun w h Y => PySem.W.kIn_of Y) ?F ?S
  case F =>
    intro w mg fa h Y KX G hmg
    refine' Ob.all_mk KX G hmg ?a1 ?l1 ?c1 ?k1 ?a2 ?l2 ?c2 ?k2 ?a3 ?l3 ?c3 ?k3 ?a4 ?l4 ?c4 ?k4 ?a5 ?l5 ?c5 ?k5 ?a6 ?l6 ?c6 ?k6 ?a7 ?l7 ?c7 ?k7 ?a8 ?l8 ?c8 ?k8 ?a9 ?l9 ?c9 ?k9 ?a10 ?l10 ?c10 ?k10 ?a11 ?l11 ?c11 ?k11 ?a12 ?l12 ?c12 ?k12 ?a13 ?l13 ?c13 ?k13 ?a14 ?l14 ?c14 ?k14 ?a15 ?l15 ?c15 ?k15 ?a16 ?l16 ?c16 ?k16 ?a17 ?l17 ?c17 ?k17 ?a18 ?l18 ?c18 ?k18 ?a19 ?l19 ?c19 ?k19 ?a20 ?l20 ?c20 ?k20 ?a21 ?l21 ?c21 ?k21 ?a22 ?l22 ?c22 ?k22 ?a23 ?l23 ?c23 ?k23 ?a24 ?l24 ?c24 ?k24 ?a25 ?l25 ?c25 ?k25 ?a26 ?l26 ?c26 ?k26 ?a27 ?l27 ?c27 ?k27 ?a28 ?l28 ?c28 ?k28 ?a29 ?i29 ?l29 ?c29 ?k29 ?a30 ?i30 ?l30 ?c30 ?k30 ?a31 ?i31 ?l31 ?c31 ?k31 ?a32 ?i32 ?l32 ?c32 ?k32 ?a33 ?i33 ?l33 ?c33 ?k33 ?a34 ?i34 ?l34 ?c34 ?k34 ?a35 ?i35 ?l35 ?c35 ?k35 ?a36 ?i36 ?l36 ?c36 ?k36 ?a37 ?i37 ?l37 ?c37 ?k37 ?a38 ?i38 ?l38 ?c38 ?k38 ?a39 ?i39 ?l39 ?c39 ?k39 ?a40 ?i40 ?l40 ?c40 ?k40 ?a41 ?i41 ?l41 ?c41 ?k41 ?a42 ?i42 ?l42 ?c42 ?k42 ?a43 ?i43 ?l43 ?c43 ?k43 ?a44 ?i44 ?l44 ?c44 ?k44 ?aC ?pg ?hd ?po ?sa ?mk ?kc ?nH ?z0 ?z1 ?z2 ?z3 ?z4 ?z5 ?z6 ?z7 ?z8 ?z9 ?z10 ?v1 ?v2 ?w0 ?w1 ?w2 ?w3 ?w4 ?w5 ?w6 ?w7 ?w8 ?w9 ?w10 ?w11 ?w12 ?aL ?lL ?hcd ?lc ?v11 ?ch ?nT
    (case aC => k_is)
    (case pg => k_is)
    (case hd => k_is)
    (case po => k_is)
    (case sa => k_is)
    (case mk => k_is)
    (case kc => k_is)
    (case nH => k_is)
    (case z0 => k_is)
    (case z1 => k_is)
    (case z2 => k_is)
    (case z3 => k_is)
    (case z4 => k_is)
    (case z5 => k_is)
    (case z6 => k_is)
    (case z7 => k_is)
    (case z8 => k_is)
    (case z9 => k_is)
    (case z10 => k_is)
    (case v1 => k_is)
    (case v2 => k_is)
    (case w0 => k_is)
    (case w1 => k_is)
    (case w2 => k_is)
    (case w3 => k_is)
    (case w4 => k_is)
    (case w5 => k_is)
    (case w6 => k_is)
    (case w7 => k_is)
    (case w8 => k_is)
    (case w9 => k_is)
    (case w10 => k_is)
    (case w11 => k_is)
    (case w12 => k_is)
    (case aL => k_is)
    (case lL => k_is)
    (case a1 => k_is)
    (case l1 => k_is)
    (case c1 => k_is)
    (case k1 => k_is)
    (case a2 => k_is)
    (case l2 => k_is)
    (case c2 => k_is)
    (case k2 => k_is)
    (case a3 => k_is)
    (case l3 => k_is)
    (case c3 => k_is)
    (case k3 => k_is)
    (case a4 => k_is)
    (case l4 => k_is)
    (case c4 => k_is)
    (case k4 => k_is)
    (case a5 => k_is)
    (case l5 => k_is)
    (case c5 => k_is)
    (case k5 => k_is)
    (case a6 => k_is)
    (case l6 => k_is)
    (case c6 => k_is)
    (case k6 => k_is)
    (case a7 => k_is)
    (case l7 => k_is)
    (case c7 => k_is)
    (case k7 => k_is)
    (case a8 => k_is)
    (case l8 => k_is)
    (case c8 => k_is)
    (case k8 => k_is)
    (case a9 => k_is)
    (case l9 => k_is)
    (case c9 => k_is)
    (case k9 => k_is)
    (case a10 => k_is)
    (case l10 => k_is)
    (case c10 => k_is)
    (case k10 => k_is)
    (case a11 => k_is)
    (case l11 => k_is)
    (case c11 => k_is)
    (case k11 => k_is)
    (case a12 => k_is)
    (case l12 => k_is)
    (case c12 => k_is)
    (case k12 => k_is)
    (case a13 => k_is)
    (case l13 => k_is)
    (case c13 => k_is)
    (case k13 => k_is)
    (case a14 => k_is)
    (case l14 => k_is)
    (case c14 => k_is)
    (case k14 => k_is)
    (case a15 => k_is)
    (case l15 => k_is)
    (case c15 => k_is)
    (case k15 => k_is)
    (case a16 => k_is)
    (case l16 => k_is)
    (case c16 => k_is)
    (case k16 => k_is)
    (case a17 => k_is)
    (case l17 => k_is)
    (case c17 => k_is)
    (case k17 => k_is)
    (case a18 => k_is)
    (case l18 => k_is)
    (case c18 => k_is)
    (case k18 => k_is)
    (case a19 => k_is)
    (case l19 => k_is)
    (case c19 => k_is)
    (case k19 => k_is)
    (case a20 => k_is)
    (case l20 => k_is)
    (case c20 => k_is)
    (case k20 => k_is)
    (case a21 => k_is)
    (case l21 => k_is)
    (case c21 => k_is)
    (case k21 => k_is)
    (case a22 => k_is)
    (case l22 => k_is)
    (case c22 => k_is)
    (case k22 => k_is)
    (case a23 => k_is)
    (case l23 => k_is)
    (case c23 => k_is)
    (case k23 => k_is)
    (case a24 => k_is)
    (case l24 => k_is)
    (case c24 => k_is)
    (case k24 => k_is)
    (case a25 => k_is)
    (case l25 => k_is)
    (case c25 => k_is)
    (case k25 => k_is)
    (case a26 => k_is)
    (case l26 => k_is)
    (case c26 => k_is)
    (case k26 => k_is)
    (case a27 => k_is)
    (case l27 => k_is)
    (case c27 => k_is)
    (case k27 => k_is)
    (case a28 => k_is)
    (case l28 => k_is)
    (case c28 => k_is)
    (case k28 => k_is)
    (case a29 => k_is)
    (case i29 => k_is)
    (case l29 => k_is)
    (case c29 => k_is)
    (case k29 => k_is)
    (case a30 => k_is)
    (case i30 => k_is)
    (case l30 => k_is)
    (case c30 => k_is)
    (case k30 => k_is)
    (case a31 => k_is)
    (case i31 => k_is)
    (case l31 => k_is)
    (case c31 => k_is)
    (case k31 => k_is)
    (case a32 => k_is)
    (case i32 => k_is)
    (case l32 => k_is)
    (case c32 => k_is)
    (case k32 => k_is)
    (case a33 => k_is)
    (case i33 => k_is)
    (case l33 => k_is)
    (case c33 => k_is)
    (case k33 => k_is)
    (case a34 => k_is)
    (case i34 => k_is)
    (case l34 => k_is)
    (case c34 => k_is)
    (case k34 => k_is)
    (case a35 => k_is)
    (case i35 => k_is)
    (case l35 => k_is)
    (case c35 => k_is)
    (case k35 => k_is)
    (case a36 => k_is)
    (case i36 => k_is)
    (case l36 => k_is)
    (case c36 => k_is)
    (case k36 => k_is)
    (case a37 => k_is)
    (case i37 => k_is)
    (case l37 => k_is)
    (case c37 => k_is)
    (case k37 => k_is)
    (case a38 => k_is)
    (case i38 => k_is)
    (case l38 => k_is)
    (case c38 => k_is)
    (case k38 => k_is)
    (case a39 => k_is)
    (case i39 => k_is)
    (case l39 => k_is)
    (case c39 => k_is)
    (case k39 => k_is)
    (case a40 => k_is)
    (case i40 => k_is)
    (case l40 => k_is)
    (case c40 => k_is)
    (case k40 => k_is)
    (case a41 => k_is)
    (case i41 => k_is)
    (case l41 => k_is)
    (case c41 => k_is)
    (case k41 => k_is)
    (case a42 => k_is)
    (case i42 => k_is)
    (case l42 => k_is)
    (case c42 => k_is)
    (case k42 => k_is)
    (case a43 => k_is)
    (case i43 => k_is)
    (case l43 => k_is)
    (case c43 => k_is)
    (case k43 => k_is)
    (case a44 => k_is)
    (case i44 => k_is)
    (case l44 => k_is)
    (case c44 => k_is)
    (case k44 => k_is)
    (case hcd => rfl)
    (case lc => k_is)
    (case v11 => rfl)
    (case ch => kernel_rfl)
    (case nT => kernel_rfl)
  case S =>
    intro K T H xs a hO hwi hask hx
    cases hx with
    | cons h1 h2 =>
      cases h2
      cases h1 with
      | lst hs ha =>
        have e := L2.ints_dw a.1 _ ha
        subst e
        have q : ((Codec.inLen 0 1260 a.1 && a.1.all (Codec.inInt 0 4294967295)) && true) = true := hwi
        rw [Bool.and_eq_true, Bool.and_eq_true] at q
        obtain ⟨cs, e1, e2, e3⟩ := Om.parse_all (l := a.1) hask
        have hl := (Codec.inNat_iff.mp q.1.1).2
        refine ⟨_, cs, rfl, ?_, ?_, ?_, Ob.tab_none hO, fun H' p hp => .lst (L2.SqL.of hp) ?_⟩
        · rw [← Ob.vz_up, ← e1]; exact hs
        · have := congrArg List.length e1
          rw [show (Om.up32 (cs.flatMap Om.enc)).length = (cs.flatMap Om.enc).length from List.length_map ..] at this
          omega
        · rw [← e2]; exact e3
        · rw [← e2]; exact L2.dw_ints _
