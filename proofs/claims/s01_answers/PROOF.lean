import PyProof.Rows.All
import Wide.All
import OpenK.AllK
import Wide.FinOn
import KE.SortKeyHeap
import HandS.ForSpec
import HandS.Nested
import KE.DataMinKey
import HandS.SortKw
import HandS.TupSets
import HandS.SetFor
import HandS.Strs
import HandS.ForMost
import HandS.SortInts
import HandS.TupAny
import HandS.Conv
import HandS.Iter
import PyWideLaws
import HandS.Deep
import Open.SpecLaws
import KE.OsHead
import KE.OsGo
import HandS.Lambda
import PySem.Challenge.RW_floodedshape_s01_answers
/-! FlA: the mathematics of the specification: the order of simplices, the row. -/
namespace Fl
open HoBase
/-! ### lists in a strict order -/
theorem same_of_pairwise {α : Type} {R : α → α → Prop} (irr : ∀ a, ¬ R a a) (asy : ∀ a b, R a b → ¬ R b a) : ∀ {l m : List α}, l.Pairwise R → m.Pairwise R → (∀ x, x ∈ l ↔ x ∈ m) → l = m
  | [], [], _, _, _ => rfl
  | [], b :: m, _, _, h => by
    have := (h b).2 (List.mem_cons_self ..)
    cases this
  | a :: l, [], _, _, h => by
    have := (h a).1 (List.mem_cons_self ..)
    cases this
  | a :: l, b :: m, hl, hm, h => by
    obtain ⟨l1, l2⟩ := List.pairwise_cons.mp hl
    obtain ⟨m1, m2⟩ := List.pairwise_cons.mp hm
    have e : a = b := by
      rcases List.mem_cons.mp ((h a).1 (List.mem_cons_self ..)) with e | e
      · exact e
      · rcases List.mem_cons.mp ((h b).2 (List.mem_cons_self ..)) with e2 | e2
        · exact e2.symm
        · exact absurd (l1 b e2) (asy _ _ (m1 a e))
    subst e
    have t : l = m := same_of_pairwise irr asy l2 m2 fun x => by
      constructor
      · intro hx
        rcases List.mem_cons.mp ((h x).1 (List.mem_cons_of_mem _ hx)) with e | e
        · exact absurd (e ▸ l1 x hx) (irr a)
        · exact e
      · intro hx
        rcases List.mem_cons.mp ((h x).2 (List.mem_cons_of_mem _ hx)) with e | e
        · exact absurd (e ▸ m1 x hx) (irr a)
        · exact e
    rw [t]
/-! ### lexLess, before -/
theorem lex_irr : ∀ l : List Nat, lexLess l l = false
  | [] => rfl
  | a :: l => by
    show (decide (a < a) || (a == a && lexLess l l)) = false
    rw [lex_irr l]
    simp
theorem lex_cons {a b : Nat} {l k : List Nat} : lexLess (a :: l) (b :: k) = true ↔ a < b ∨ (a = b ∧ lexLess l k = true) := by
  show (decide (a < b) || (a == b && lexLess l k)) = true ↔ _
  simp
theorem lex_trans : ∀ {x y z : List Nat}, lexLess x y = true → lexLess y z = true → lexLess x z = true
  | [], _, _, h, _ => by cases h
  | _ :: _, [], _, h, _ => by cases h
  | _ :: _, _ :: _, [], _, h => by cases h
  | a :: x, b :: y, c :: z, h1, h2 => by
    rw [lex_cons] at *
    rcases h1 with h1 | ⟨rfl, h1⟩
    · rcases h2 with h2 | ⟨rfl, h2⟩
      · exact .inl (by omega)
      · exact .inl h1
    · rcases h2 with h2 | ⟨rfl, h2⟩
      · exact .inl h2
      · exact .inr ⟨rfl, lex_trans h1 h2⟩
theorem lex_tri : ∀ {x y : List Nat}, x.length = y.length → lexLess x y = true ∨ x = y ∨ lexLess y x = true
  | [], [], _ => .inr (.inl rfl)
  | a :: x, b :: y, h => by
    have h' : x.length = y.length := by simpa using h
    rw [lex_cons, lex_cons]
    rcases Nat.lt_trichotomy a b with e | e | e
    · exact .inl (.inl e)
    · subst e
      rcases lex_tri h' with q | q | q
      · exact .inl (.inr ⟨rfl, q⟩)
      · exact .inr (.inl (by rw [q]))
      · exact .inr (.inr (.inr ⟨rfl, q⟩))
    · exact .inr (.inr (.inl e))
theorem before_iff {x y : Sim} : before x y = true ↔ x.length < y.length ∨ (x.length = y.length ∧ lexLess x y = true) := by
  show (decide (x.length < y.length) || (x.length == y.length && lexLess x y)) = true ↔ _
  simp
theorem before_irr (x : Sim) : ¬ before x x = true := by
  rw [before_iff, lex_irr]
  simp
theorem before_trans {x y z : Sim} (h1 : before x y = true) (h2 : before y z = true) : before x z = true := by
  rw [before_iff] at *
  rcases h1 with h1 | ⟨e1, h1⟩ <;> rcases h2 with h2 | ⟨e2, h2⟩
  · exact .inl (by omega)
  · exact .inl (by omega)
  · exact .inl (by omega)
  · exact .inr ⟨by omega, lex_trans h1 h2⟩
theorem before_asy {x y : Sim} (h : before x y = true) : ¬ before y x = true := fun h2 => before_irr x (before_trans h h2)
theorem before_tri (x y : Sim) : before x y = true ∨ x = y ∨ before y x = true := by
  rw [before_iff, before_iff]
  rcases Nat.lt_trichotomy x.length y.length with e | e | e
  · exact .inl (.inl e)
  · rcases lex_tri e with q | q | q
    · exact .inl (.inr ⟨e, q⟩)
    · exact .inr (.inl q)
    · exact .inr (.inr (.inr ⟨e.symm, q⟩))
  · exact .inr (.inr (.inl e))
/-! ### sorted, closed -/
theorem mem_insert {x y : Sim} : ∀ {l : List Sim}, y ∈ HoBase.insert x l ↔ y = x ∨ y ∈ l
  | [] => by simp [HoBase.insert]
  | z :: l => by
    unfold HoBase.insert
    split
    · rename_i e
      subst e
      simp
    · split
      · simp
      · rw [List.mem_cons, mem_insert (l := l), List.mem_cons]
        constructor
        · rintro (h | h | h)
          · exact .inr (.inl h)
          · exact .inl h
          · exact .inr (.inr h)
        · rintro (h | h | h)
          · exact .inr (.inl h)
          · exact .inl h
          · exact .inr (.inr h)
theorem insert_pw {x : Sim} : ∀ {l : List Sim}, l.Pairwise (fun a b => before a b = true) → (HoBase.insert x l).Pairwise (fun a b => before a b = true)
  | [], _ => List.pairwise_singleton _ _
  | z :: l, h => by
    obtain ⟨h1, h2⟩ := List.pairwise_cons.mp h
    unfold HoBase.insert
    split
    · exact h
    · split
      · rename_i hb
        exact List.pairwise_cons.mpr ⟨fun y hy => by
          rcases List.mem_cons.mp hy with e | e
          · rw [e]; exact hb
          · exact before_trans hb (h1 y e), h⟩
      · rename_i hn hb
        refine List.pairwise_cons.mpr ⟨fun y hy => ?_, insert_pw h2⟩
        rcases mem_insert.mp hy with e | e
        · rw [e]
          rcases before_tri x z with q | q | q
          · exact absurd q hb
          · exact absurd q hn
          · exact q
        · exact h1 y e
theorem fold_insert_pw : ∀ (l m : List Sim), m.Pairwise (fun a b => before a b = true) → (l.foldl (fun (m : List Sim) (x : Sim) => HoBase.insert x m) m).Pairwise (fun a b => before a b = true)
  | [], _, h => h
  | x :: l, m, h => fold_insert_pw l (HoBase.insert x m) (insert_pw h)
theorem fold_insert_mem {y : Sim} : ∀ (l m : List Sim), y ∈ l.foldl (fun (m : List Sim) (x : Sim) => HoBase.insert x m) m ↔ y ∈ l ∨ y ∈ m
  | [], _ => by simp
  | x :: l, m => by
    rw [List.foldl_cons, fold_insert_mem l, mem_insert, List.mem_cons]
    constructor
    · rintro (h | h | h)
      · exact .inl (.inr h)
      · exact .inl (.inl h)
      · exact .inr h
    · rintro ((h | h) | h)
      · exact .inr (.inl h)
      · exact .inl h
      · exact .inr (.inr h)
theorem sorted_pw (l : List Sim) : (HoBase.sorted l).Pairwise (fun a b => before a b = true) := fold_insert_pw l [] List.Pairwise.nil
theorem mem_sorted {l : List Sim} {y : Sim} : y ∈ HoBase.sorted l ↔ y ∈ l := by
  unfold HoBase.sorted
  rw [fold_insert_mem]
  simp
/-- a list in the strict order with the same members is the sorted one -/
theorem sorted_unique {l m : List Sim} (h : m.Pairwise (fun a b => before a b = true)) (hm : ∀ x, x ∈ m ↔ x ∈ l) : m = HoBase.sorted l :=
  same_of_pairwise before_irr (fun _ _ => before_asy) h (sorted_pw l) fun x => (hm x).trans mem_sorted.symm
theorem closed_pw (l : List Sim) : (closed l).Pairwise (fun a b => before a b = true) := sorted_pw _
theorem pw_nodup {c : List Sim} (h : c.Pairwise (fun a b => before a b = true)) : c.Nodup :=
  List.Pairwise.imp (fun {a b} (q : before a b = true) (e : a = b) => before_irr b (e ▸ q)) h
theorem mem_closed {l : List Sim} {y : Sim} : y ∈ closed l ↔ ∃ x ∈ l, y ∈ parts x := by
  unfold closed
  rw [mem_sorted, List.mem_flatMap]
/-! ### parts -/
theorem mem_parts : ∀ {x y : Sim}, y ∈ parts x ↔ y ≠ [] ∧ y.Sublist x
  | [], y => by
    show y ∈ [] ↔ _
    constructor
    · intro h; cases h
    · rintro ⟨h1, h2⟩
      exact absurd (List.sublist_nil.mp h2) h1
  | a :: l, y => by
    show y ∈ [a] :: (parts l ++ (parts l).map fun (x : Sim) => a :: x) ↔ _
    rw [List.mem_cons, List.mem_append, List.mem_map]
    constructor
    · rintro (h | h | ⟨z, h, rfl⟩)
      · subst h
        exact ⟨by simp, List.Sublist.cons_cons a (List.nil_sublist l)⟩
      · obtain ⟨h1, h2⟩ := mem_parts.mp h
        exact ⟨h1, List.Sublist.cons a h2⟩
      · obtain ⟨h1, h2⟩ := mem_parts.mp h
        exact ⟨by simp, List.Sublist.cons_cons a h2⟩
    · rintro ⟨h1, h2⟩
      cases h2 with
      | cons _ h2 => exact .inr (.inl (mem_parts.mpr ⟨h1, h2⟩))
      | cons_cons _ h2 =>
        rename_i z
        by_cases e : z = []
        · subst e
          exact .inl rfl
        · exact .inr (.inr ⟨z, mem_parts.mpr ⟨e, h2⟩, rfl⟩)
/-! ### comes, row -/
open Ho02
theorem comes_iff {h : Heights} {x y : Sim} : comes h x y = true ↔ height h x < height h y ∨ (height h x = height h y ∧ before x y = true) := by
  show (decide (height h x < height h y) || (height h x == height h y && before x y)) = true ↔ _
  simp
theorem comes_irr (h : Heights) (x : Sim) : ¬ comes h x x = true := by
  rw [comes_iff]
  rintro (q | q)
  · omega
  · exact before_irr x q.2
theorem comes_trans {h : Heights} {x y z : Sim} (h1 : comes h x y = true) (h2 : comes h y z = true) : comes h x z = true := by
  rw [comes_iff] at *
  rcases h1 with h1 | ⟨e1, h1⟩ <;> rcases h2 with h2 | ⟨e2, h2⟩
  · exact .inl (by omega)
  · exact .inl (by omega)
  · exact .inl (by omega)
  · exact .inr ⟨by omega, before_trans h1 h2⟩
theorem comes_asy {h : Heights} {x y : Sim} (q : comes h x y = true) : ¬ comes h y x = true := fun q2 => comes_irr h x (comes_trans q q2)
theorem comes_tri (h : Heights) (x y : Sim) : comes h x y = true ∨ x = y ∨ comes h y x = true := by
  rw [comes_iff, comes_iff]
  rcases Nat.lt_trichotomy (height h x) (height h y) with e | e | e
  · exact .inl (.inl e)
  · rcases before_tri x y with q | q | q
    · exact .inl (.inr ⟨e, q⟩)
    · exact .inr (.inl q)
    · exact .inr (.inr (.inr ⟨e.symm, q⟩))
  · exact .inr (.inr (.inl e))
theorem mem_insertBy {h : Heights} {x y : Sim} : ∀ {l : List Sim}, y ∈ insertBy h x l ↔ y = x ∨ y ∈ l
  | [] => by simp [insertBy]
  | z :: l => by
    unfold insertBy
    split
    · simp
    · rw [List.mem_cons, mem_insertBy (l := l), List.mem_cons]
      constructor
      · rintro (h | h | h)
        · exact .inr (.inl h)
        · exact .inl h
        · exact .inr (.inr h)
      · rintro (h | h | h)
        · exact .inr (.inl h)
        · exact .inl h
        · exact .inr (.inr h)
theorem insertBy_pw {h : Heights} {x : Sim} : ∀ {l : List Sim}, x ∉ l → l.Pairwise (fun a b => comes h a b = true) → (insertBy h x l).Pairwise (fun a b => comes h a b = true)
  | [], _, _ => List.pairwise_singleton _ _
  | z :: l, hx, hp => by
    obtain ⟨h1, h2⟩ := List.pairwise_cons.mp hp
    have hxz : x ≠ z := fun e => hx (by rw [e]; exact List.mem_cons_self ..)
    have hxl : x ∉ l := fun e => hx (List.mem_cons_of_mem _ e)
    unfold insertBy
    split
    · rename_i hb
      exact List.pairwise_cons.mpr ⟨fun y hy => by
        rcases List.mem_cons.mp hy with e | e
        · rw [e]; exact hb
        · exact comes_trans hb (h1 y e), hp⟩
    · rename_i hb
      refine List.pairwise_cons.mpr ⟨fun y hy => ?_, insertBy_pw hxl h2⟩
      rcases mem_insertBy.mp hy with e | e
      · rw [e]
        rcases comes_tri h x z with q | q | q
        · exact absurd q hb
        · exact absurd q hxz
        · exact q
      · exact h1 y e
theorem fold_by_mem {h : Heights} {y : Sim} : ∀ (l m : List Sim), y ∈ l.foldl (fun (m : List Sim) (x : Sim) => insertBy h x m) m ↔ y ∈ l ∨ y ∈ m
  | [], _ => by simp
  | x :: l, m => by
    rw [List.foldl_cons, fold_by_mem l, mem_insertBy, List.mem_cons]
    constructor
    · rintro (h | h | h)
      · exact .inl (.inr h)
      · exact .inl (.inl h)
      · exact .inr h
    · rintro ((h | h) | h)
      · exact .inr (.inl h)
      · exact .inl h
      · exact .inr (.inr h)
theorem fold_by_pw {h : Heights} : ∀ (l m : List Sim), l.Nodup → (∀ x ∈ l, x ∉ m) → m.Pairwise (fun a b => comes h a b = true) → (l.foldl (fun (m : List Sim) (x : Sim) => insertBy h x m) m).Pairwise (fun a b => comes h a b = true)
  | [], _, _, _, hp => hp
  | x :: l, m, hn, hd, hp => by
    obtain ⟨n1, n2⟩ := List.nodup_cons.mp hn
    refine fold_by_pw l (insertBy h x m) n2 (fun y hy z => ?_) (insertBy_pw (hd x (List.mem_cons_self ..)) hp)
    rcases mem_insertBy.mp z with e | e
    · exact n1 (e ▸ hy)
    · exact hd y (List.mem_cons_of_mem _ hy) e
theorem row_pw {c : Cx} (h : Heights) (hc : c.Nodup) : (row c h).Pairwise (fun a b => comes h a b = true) := fold_by_pw c [] hc (fun _ _ z => by cases z) List.Pairwise.nil
theorem mem_row {c : Cx} {h : Heights} {x : Sim} : x ∈ row c h ↔ x ∈ c := by
  unfold row
  rw [fold_by_mem]
  simp
theorem row_nodup {c : Cx} (h : Heights) (hc : c.Nodup) : (row c h).Nodup := List.Pairwise.imp (fun {a b} (q : comes h a b = true) (e : a = b) => comes_irr h b (e ▸ q)) (row_pw h hc)
theorem insertBy_len {h : Heights} {x : Sim} : ∀ {l : List Sim}, (insertBy h x l).length = l.length + 1
  | [] => rfl
  | z :: l => by
    unfold insertBy
    split
    · rfl
    · rw [List.length_cons, insertBy_len, List.length_cons]
theorem fold_by_len {h : Heights} : ∀ (l m : List Sim), (l.foldl (fun (m : List Sim) (x : Sim) => insertBy h x m) m).length = l.length + m.length
  | [], m => by simp
  | x :: l, m => by
    rw [List.foldl_cons, fold_by_len l, insertBy_len, List.length_cons]
    omega
theorem row_len (c : Cx) (h : Heights) : (row c h).length = c.length := by
  unfold row
  rw [fold_by_len]
  rfl
/-- the row: by height, and of one height as in c -/
theorem row_le {c : Cx} (h : Heights) (hc : c.Pairwise (fun a b => before a b = true)) : (row c h).Pairwise (fun a b => height h a ≤ height h b) :=
  (row_pw h (pw_nodup hc)).imp fun {a b} q => by
    rcases comes_iff.mp q with q | q
    · omega
    · omega
theorem row_group {c : Cx} (h : Heights) (hc : c.Pairwise (fun a b => before a b = true)) (t : Nat) : (row c h).filter (fun x => height h x == t) = c.filter (fun x => height h x == t) := by
  refine same_of_pairwise (R := fun a b => before a b = true) before_irr (fun _ _ => before_asy) ?_ (hc.filter _) fun x => ?_
  · have q := (row_pw h (pw_nodup hc)).filter (fun x => height h x == t)
    refine (List.Pairwise.and_mem.mp q).imp fun {a b} ⟨ha, hb, q⟩ => ?_
    have ea : height h a = t := by simpa using (List.mem_filter.mp ha).2
    have eb : height h b = t := by simpa using (List.mem_filter.mp hb).2
    rcases comes_iff.mp q with q | q
    · omega
    · exact q.2
  · rw [List.mem_filter, List.mem_filter, mem_row]
end Fl

/-! FlB: chains by twos, lessen, pairs. -/
namespace Fl
open HoBase Ho02
abbrev Down (l : List Nat) : Prop := l.Pairwise (fun a b => b < a)
theorem down_same {l m : List Nat} (hl : Down l) (hm : Down m) (h : ∀ x, x ∈ l ↔ x ∈ m) : l = m :=
  same_of_pairwise (R := fun a b : Nat => b < a) (fun a q => Nat.lt_irrefl a q) (fun a b q1 q2 => Nat.lt_asymm q1 q2) hl hm h
theorem either_spec : ∀ (f : Nat) (a b : Two), Down a → Down b → a.length + b.length < f → Down (either f a b) ∧ ∀ x, x ∈ either f a b ↔ ¬ (x ∈ a ↔ x ∈ b)
  | 0, _, _, _, _, h => absurd h (by omega)
  | f + 1, [], b, _, hb, _ => by
    show Down b ∧ ∀ x, x ∈ b ↔ _
    refine ⟨hb, fun x => ?_⟩
    simp
  | f + 1, x :: a, [], ha, _, _ => by
    show Down (x :: a) ∧ ∀ y, y ∈ x :: a ↔ _
    refine ⟨ha, fun y => ?_⟩
    by_cases q : y ∈ x :: a <;> simp [q]
  | f + 1, x :: a, y :: b, ha, hb, hf => by
    obtain ⟨a1, a2⟩ := List.pairwise_cons.mp ha
    obtain ⟨b1, b2⟩ := List.pairwise_cons.mp hb
    simp only [List.length_cons] at hf
    show Down (if x = y then either f a b else if x < y then y :: either f (x :: a) b else x :: either f a (y :: b)) ∧ ∀ z, z ∈ (if x = y then either f a b else if x < y then y :: either f (x :: a) b else x :: either f a (y :: b)) ↔ _
    by_cases e : x = y
    · subst e
      rw [if_pos rfl]
      obtain ⟨i1, i2⟩ := either_spec f a b a2 b2 (by omega)
      refine ⟨i1, fun z => ?_⟩
      rw [i2, List.mem_cons, List.mem_cons]
      by_cases ez : z = x
      · subst ez
        have na : z ∉ a := fun q => Nat.lt_irrefl _ (a1 z q)
        have nb : z ∉ b := fun q => Nat.lt_irrefl _ (b1 z q)
        simp [na, nb]
      · simp [ez]
    · rw [if_neg e]
      by_cases l : x < y
      · rw [if_pos l]
        obtain ⟨i1, i2⟩ := either_spec f (x :: a) b ha b2 (by simp only [List.length_cons]; omega)
        have ny : y ∉ x :: a := fun q => by
          rcases List.mem_cons.mp q with q | q
          · omega
          · have := a1 y q; omega
        have nb : y ∉ b := fun q => Nat.lt_irrefl _ (b1 y q)
        refine ⟨List.pairwise_cons.mpr ⟨fun z hz => ?_, i1⟩, fun z => ?_⟩
        · by_cases q : z ∈ x :: a
          · rcases List.mem_cons.mp q with q | q
            · omega
            · have := a1 z q; omega
          · have h2 : z ∈ b := by
              have := (i2 z).mp hz
              by_cases q2 : z ∈ b
              · exact q2
              · exact absurd (iff_of_false q q2) this
            exact b1 z h2
        · rw [List.mem_cons, i2, List.mem_cons (a := z) (b := y)]
          by_cases ez : z = y
          · subst ez
            simp only [ny, true_or]
            simp
          · simp only [ez, false_or]
      · rw [if_neg l]
        obtain ⟨i1, i2⟩ := either_spec f a (y :: b) a2 hb (by simp only [List.length_cons]; omega)
        have nx : x ∉ y :: b := fun q => by
          rcases List.mem_cons.mp q with q | q
          · omega
          · have := b1 x q; omega
        have na : x ∉ a := fun q => Nat.lt_irrefl _ (a1 x q)
        refine ⟨List.pairwise_cons.mpr ⟨fun z hz => ?_, i1⟩, fun z => ?_⟩
        · by_cases q : z ∈ y :: b
          · rcases List.mem_cons.mp q with q | q
            · omega
            · have := b1 z q; omega
          · have h2 : z ∈ a := by
              have := (i2 z).mp hz
              by_cases q2 : z ∈ a
              · exact q2
              · exact absurd (iff_of_false q2 q) this
            exact a1 z h2
        · rw [List.mem_cons, i2, List.mem_cons (a := z) (b := x)]
          by_cases ez : z = x
          · subst ez
            simp only [nx, true_or]
            simp
          · simp only [ez, false_or]
theorem plus_down {a b : Two} (ha : Down a) (hb : Down b) : Down (plus a b) := (either_spec _ a b ha hb (Nat.lt_succ_self _)).1
theorem mem_plus {a b : Two} (ha : Down a) (hb : Down b) (x : Nat) : x ∈ plus a b ↔ ¬ (x ∈ a ↔ x ∈ b) := (either_spec _ a b ha hb (Nat.lt_succ_self _)).2 x
/-- two chains of one last: it goes -/
theorem plus_lt {m : Nat} {a b : List Nat} (ha : Down (m :: a)) (hb : Down (m :: b)) : ∀ x ∈ plus (m :: a) (m :: b), x < m := fun x hx => by
  have q := (mem_plus ha hb x).mp hx
  obtain ⟨a1, a2⟩ := List.pairwise_cons.mp ha
  obtain ⟨b1, b2⟩ := List.pairwise_cons.mp hb
  by_cases h1 : x ∈ m :: a
  · rcases List.mem_cons.mp h1 with e | e
    · subst e
      exact absurd (iff_of_true (List.mem_cons_self ..) (List.mem_cons_self ..)) q
    · exact a1 x e
  · by_cases h2 : x ∈ m :: b
    · rcases List.mem_cons.mp h2 with e | e
      · subst e
        exact absurd (List.mem_cons_self ..) h1
      · exact b1 x e
    · exact absurd (iff_of_false h1 h2) q
theorem insertDown_spec {n : Nat} : ∀ {l : Two}, Down l → n ∉ l → Down (insertDown n l) ∧ ∀ x, x ∈ insertDown n l ↔ x = n ∨ x ∈ l
  | [], _, _ => ⟨List.pairwise_singleton _ _, fun x => by simp [insertDown]⟩
  | m :: l, h, hn => by
    obtain ⟨h1, h2⟩ := List.pairwise_cons.mp h
    have hnm : n ≠ m := fun e => hn (by rw [e]; exact List.mem_cons_self ..)
    have hnl : n ∉ l := fun e => hn (List.mem_cons_of_mem _ e)
    unfold insertDown
    by_cases q : m < n
    · rw [if_pos q]
      refine ⟨List.pairwise_cons.mpr ⟨fun y hy => ?_, h⟩, fun x => List.mem_cons⟩
      rcases List.mem_cons.mp hy with e | e
      · omega
      · have := h1 y e; omega
    · rw [if_neg q]
      obtain ⟨i1, i2⟩ := insertDown_spec h2 hnl
      refine ⟨List.pairwise_cons.mpr ⟨fun y hy => ?_, i1⟩, fun x => ?_⟩
      · rcases (i2 y).mp hy with e | e
        · omega
        · exact h1 y e
      · rw [List.mem_cons, i2, List.mem_cons]
        constructor
        · rintro (h | h | h)
          · exact .inr (.inl h)
          · exact .inl h
          · exact .inr (.inr h)
        · rintro (h | h | h)
          · exact .inr (.inl h)
          · exact .inl h
          · exact .inr (.inr h)
theorem fold_down : ∀ (l m : List Nat), l.Nodup → (∀ x ∈ l, x ∉ m) → Down m → Down (l.foldl (fun (l : Two) (n : Nat) => insertDown n l) m) ∧ ∀ x, x ∈ l.foldl (fun (l : Two) (n : Nat) => insertDown n l) m ↔ x ∈ l ∨ x ∈ m
  | [], _, _, _, h => ⟨h, fun x => by simp⟩
  | n :: l, m, hn, hd, h => by
    obtain ⟨n1, n2⟩ := List.nodup_cons.mp hn
    obtain ⟨s1, s2⟩ := insertDown_spec h (hd n (List.mem_cons_self ..))
    obtain ⟨i1, i2⟩ := fold_down l (insertDown n m) n2 (fun y hy z => by
      rcases (s2 y).mp z with e | e
      · exact n1 (e ▸ hy)
      · exact hd y (List.mem_cons_of_mem _ hy) e) s1
    refine ⟨i1, fun x => ?_⟩
    rw [List.foldl_cons, i2, s2, List.mem_cons]
    constructor
    · rintro (h | h | h)
      · exact .inl (.inr h)
      · exact .inl (.inl h)
      · exact .inr h
    · rintro ((h | h) | h)
      · exact .inr (.inl h)
      · exact .inl h
      · exact .inr (.inr h)
/-! ### faces -/
theorem face_ne {x : Sim} (hx : x.Nodup) {i j : Nat} (hi : i < j) (hj : j < x.length) : face x i ≠ face x j := fun e => by
  have hi' : i < x.length := by omega
  have m1 : x[i] ∈ face x j := by
    unfold face
    refine List.mem_append.mpr (.inl ?_)
    exact List.mem_take_iff_getElem.mpr ⟨i, by omega, rfl⟩
  have m2 : x[i] ∉ face x i := by
    unfold face
    intro q
    rcases List.mem_append.mp q with q | q
    · obtain ⟨k, hk, e⟩ := List.mem_take_iff_getElem.mp q
      have := (List.getElem_inj hx).mp e
      omega
    · obtain ⟨k, hk, e⟩ := List.mem_drop_iff_getElem.mp q
      have := (List.getElem_inj hx).mp e
      omega
  exact m2 (e ▸ m1)
theorem idxOf_inj {α : Type} [BEq α] [LawfulBEq α] {r : List α} {a b : α} (ha : a ∈ r) (h : r.idxOf a = r.idxOf b) (hb : b ∈ r) : a = b := by
  have h1 := List.getElem_idxOf (List.idxOf_lt_length_of_mem ha)
  have h2 := List.getElem_idxOf (List.idxOf_lt_length_of_mem hb)
  rw [← h1, ← h2]
  congr 1
def rawEdge (r : List Sim) (x : Sim) : List Nat := (List.range x.length).map fun (i : Nat) => r.idxOf (face x i)
theorem rawEdge_nodup {r : List Sim} {x : Sim} (hx : x.Nodup) (hr : ∀ i, i < x.length → face x i ∈ r) : (rawEdge r x).Nodup := by
  unfold rawEdge
  unfold List.Nodup
  rw [List.pairwise_map]
  refine (List.Pairwise.and_mem.mp (List.pairwise_lt_range (n := x.length))).imp fun {i j} ⟨hi, hj, q⟩ e => ?_
  have hi := List.mem_range.mp hi
  have hj := List.mem_range.mp hj
  exact face_ne hx q hj (idxOf_inj (hr i hi) e (hr j hj))
theorem edgeOf_spec {r : List Sim} {x : Sim} (hx : x.Nodup) (hl : 1 < x.length) (hr : ∀ i, i < x.length → face x i ∈ r) : Down (edgeOf r x) ∧ ∀ n, n ∈ edgeOf r x ↔ n ∈ rawEdge r x := by
  unfold edgeOf
  rw [if_neg (by omega)]
  obtain ⟨h1, h2⟩ := fold_down (rawEdge r x) [] (rawEdge_nodup hx hr) (fun _ _ z => by cases z) List.Pairwise.nil
  exact ⟨h1, fun n => by rw [show ((List.range x.length).map fun (i : Nat) => r.idxOf (face x i)) = rawEdge r x from rfl, h2]; simp⟩
theorem edgeOf_one {r : List Sim} {x : Sim} (h : x.length ≤ 1) : edgeOf r x = [] := if_pos h
theorem rawEdge_lt {r : List Sim} {x : Sim} (hr : ∀ i, i < x.length → face x i ∈ r) : ∀ n ∈ rawEdge r x, n < r.length := fun n hn => by
  unfold rawEdge at hn
  obtain ⟨i, hi, e⟩ := List.mem_map.mp hn
  rw [← e]
  exact List.idxOf_lt_length_of_mem (hr i (List.mem_range.mp hi))
theorem edgeOf_good {r : List Sim} {x : Sim} (hx : x.Nodup) (hr : 1 < x.length → ∀ i, i < x.length → face x i ∈ r) : Down (edgeOf r x) ∧ ∀ n ∈ edgeOf r x, n < r.length := by
  by_cases hl : 1 < x.length
  · obtain ⟨h1, h2⟩ := edgeOf_spec hx hl (hr hl)
    exact ⟨h1, fun n hn => rawEdge_lt (hr hl) n ((h2 n).mp hn)⟩
  · rw [edgeOf_one (by omega)]
    exact ⟨List.Pairwise.nil, fun n hn => by cases hn⟩
/-! ### lessen -/
abbrev Done := List (Nat × Two)
def look (done : Done) (m : Nat) : Option (Nat × Two) := done.find? fun (x : Nat × Two) => decide (x.1 = m)
/-- what is kept: chains, falling, each told by its first -/
structure DoneOk (n : Nat) (done : Done) : Prop where
  head : ∀ p ∈ done, ∃ z, p.2 = p.1 :: z
  down : ∀ p ∈ done, Down p.2
  lt : ∀ p ∈ done, ∀ x ∈ p.2, x < n
theorem look_some {done : Done} {m : Nat} {p : Nat × Two} (h : look done m = some p) : p ∈ done ∧ p.1 = m := by
  unfold look at h
  exact ⟨List.mem_of_find?_eq_some h, by simpa using List.find?_some h⟩
theorem look_none {done : Done} {m : Nat} (h : look done m = none) : m ∉ done.map (·.1) := fun q => by
  obtain ⟨p, hp, e⟩ := List.mem_map.mp q
  unfold look at h
  have := List.find?_eq_none.mp h p hp
  simp [e] at this
theorem lessen_nil (done : Done) (f : Nat) : lessen done f [] = [] := by cases f <;> rfl
theorem lessen_stop {done : Done} {m : Nat} (h : look done m = none) (f : Nat) (z : Two) : lessen done f (m :: z) = m :: z := by
  cases f with
  | zero => rfl
  | succ f =>
    show (match done.find? fun (x : Nat × Two) => decide (x.1 = m) with
      | none => m :: z
      | some x => lessen done f (plus (m :: z) x.2)) = m :: z
    rw [show (done.find? fun (x : Nat × Two) => decide (x.1 = m)) = none from h]
theorem lessen_go {done : Done} {m : Nat} {p : Nat × Two} (h : look done m = some p) (f : Nat) (z : Two) : lessen done (f + 1) (m :: z) = lessen done f (plus (m :: z) p.2) := by
  show (match done.find? fun (x : Nat × Two) => decide (x.1 = m) with
      | none => m :: z
      | some x => lessen done f (plus (m :: z) x.2)) = _
  rw [show (done.find? fun (x : Nat × Two) => decide (x.1 = m)) = some p from h]
/-- one turn: the chain goes on falling, below its first -/
theorem turn_ok {n : Nat} {done : Done} (D : DoneOk n done) {m : Nat} {z : Two} {p : Nat × Two} (h : look done m = some p) (hz : Down (m :: z)) (hm : ∀ x ∈ m :: z, x < n) :
    Down (plus (m :: z) p.2) ∧ (∀ x ∈ plus (m :: z) p.2, x < m) ∧ ∀ x ∈ plus (m :: z) p.2, x < n := by
  obtain ⟨hp, e⟩ := look_some h
  obtain ⟨y, ey⟩ := D.head p hp
  have hd := D.down p hp
  rw [ey, e] at hd ⊢
  have l := plus_lt hz hd
  exact ⟨plus_down hz hd, l, fun x hx => Nat.lt_trans (l x hx) (hm m (List.mem_cons_self ..))⟩
theorem lessen_spec {n : Nat} {done : Done} (D : DoneOk n done) : ∀ (f : Nat) (z : Two), Down z → (∀ x ∈ z, x < n) → (∀ x ∈ z, x < f) →
    Down (lessen done f z) ∧ (∀ x ∈ lessen done f z, x < n) ∧ ∀ m y, lessen done f z = m :: y → look done m = none
  | f, [], _, _, _ => by
    rw [lessen_nil]
    exact ⟨List.Pairwise.nil, fun x hx => by (cases hx), fun m y e => by cases e⟩
  | 0, m :: z, _, _, hf => absurd (hf m (List.mem_cons_self ..)) (by omega)
  | f + 1, m :: z, hz, hn, hf => by
    cases h : look done m with
    | none =>
      rw [lessen_stop h]
      refine ⟨hz, hn, fun m' y e => ?_⟩
      rw [← (List.cons.inj e).1]
      exact h
    | some p =>
      rw [lessen_go h]
      obtain ⟨t1, t2, t3⟩ := turn_ok D h hz hn
      have := hf m (List.mem_cons_self ..)
      exact lessen_spec D f _ t1 t3 fun x hx => by
        have := t2 x hx
        omega
/-! ### pairs -/
abbrev PSt := Done × List (Nat × Nat)
def pstep (r : List Sim) (a : PSt) (x : Sim × Nat) : PSt := match lessen a.1 (r.length + 1) (edgeOf r x.1) with
  | [] => a
  | m :: z => (a.1 ++ [(m, m :: z)], a.2 ++ [(m, x.2)])
def upto (r : List Sim) (i : Nat) : PSt := ((r.zip (List.range r.length)).take i).foldl (pstep r) ([], [])
theorem pairs_upto (r : List Sim) : pairs r = (upto r r.length).2 := by
  unfold pairs upto
  rw [List.take_of_length_le (by simp)]
  rfl
theorem upto_zero (r : List Sim) : upto r 0 = ([], []) := rfl
theorem upto_succ {r : List Sim} {i : Nat} {x : Sim} (h : r[i]? = some x) : upto r (i + 1) = pstep r (upto r i) (x, i) := by
  have hi : i < r.length := (List.getElem?_eq_some_iff.mp h).1
  have e : (r.zip (List.range r.length))[i]? = some (x, i) := by
    rw [List.getElem?_zip_eq_some]
    exact ⟨h, by rw [List.getElem?_range hi]⟩
  unfold upto
  rw [List.take_add_one, e, List.foldl_append]
  rfl
theorem pstep_nil {r : List Sim} {a : PSt} {x : Sim × Nat} (h : lessen a.1 (r.length + 1) (edgeOf r x.1) = []) : pstep r a x = a := by
  unfold pstep
  rw [h]
theorem pstep_cons {r : List Sim} {a : PSt} {x : Sim × Nat} {m : Nat} {z : Two} (h : lessen a.1 (r.length + 1) (edgeOf r x.1) = m :: z) : pstep r a x = (a.1 ++ [(m, m :: z)], a.2 ++ [(m, x.2)]) := by
  unfold pstep
  rw [h]
/-- a row whose simplices' faces are all in it -/
structure RowOk (r : List Sim) : Prop where
  nd : ∀ x ∈ r, x.Nodup
  ne : ∀ x ∈ r, x ≠ []
  fc : ∀ x ∈ r, 1 < x.length → ∀ i, i < x.length → face x i ∈ r
structure UpOk (r : List Sim) (i : Nat) (a : PSt) : Prop where
  done : DoneOk r.length a.1
  keys : (a.1.map (·.1)).Nodup
  same : a.2.map (·.1) = a.1.map (·.1)
  rise : (a.2.map (·.2)).Pairwise (· < ·)
  lt : ∀ p ∈ a.2, p.2 < i ∧ p.1 < r.length
theorem upOk_zero (r : List Sim) : UpOk r 0 ([], []) :=
  ⟨⟨fun _ h => by (cases h), fun _ h => by (cases h), fun _ h => by cases h⟩, List.Pairwise.nil, rfl, List.Pairwise.nil, fun _ h => by cases h⟩
theorem edge_in {r : List Sim} (R : RowOk r) {i : Nat} {x : Sim} (h : r[i]? = some x) : Down (edgeOf r x) ∧ ∀ n ∈ edgeOf r x, n < r.length :=
  edgeOf_good (R.nd x (List.mem_of_getElem? h)) (R.fc x (List.mem_of_getElem? h))
theorem upOk_step {r : List Sim} (R : RowOk r) {i : Nat} {x : Sim} {a : PSt} (h : r[i]? = some x) (U : UpOk r i a) : UpOk r (i + 1) (pstep r a (x, i)) := by
  obtain ⟨e1, e2⟩ := edge_in R h
  obtain ⟨l1, l2, l3⟩ := lessen_spec U.done (r.length + 1) _ e1 e2 fun n hn => Nat.lt_succ_of_lt (e2 n hn)
  cases e : lessen a.1 (r.length + 1) (edgeOf r x) with
  | nil =>
    rw [pstep_nil e]
    exact ⟨U.done, U.keys, U.same, U.rise, fun p hp => ⟨Nat.lt_succ_of_lt (U.lt p hp).1, (U.lt p hp).2⟩⟩
  | cons m z =>
    rw [pstep_cons e]
    rw [e] at l1 l2
    have hnone := l3 m z e
    refine ⟨⟨fun p hp => ?_, fun p hp => ?_, fun p hp => ?_⟩, ?_, ?_, ?_, fun p hp => ?_⟩
    · rcases List.mem_append.mp hp with q | q
      · exact U.done.head p q
      · rw [List.mem_singleton.mp q]
        exact ⟨z, rfl⟩
    · rcases List.mem_append.mp hp with q | q
      · exact U.done.down p q
      · rw [List.mem_singleton.mp q]
        exact l1
    · rcases List.mem_append.mp hp with q | q
      · exact U.done.lt p q
      · rw [List.mem_singleton.mp q]
        exact l2
    · rw [List.map_append, List.nodup_append]
      refine ⟨U.keys, by simp, fun a ha b hb => ?_⟩
      have hb : b = m := by simpa using hb
      rw [hb]
      intro q
      exact look_none hnone (q ▸ ha)
    · rw [List.map_append, List.map_append, U.same]
      rfl
    · rw [List.map_append, List.pairwise_append]
      refine ⟨U.rise, by simp, fun a ha b hb => ?_⟩
      have hb : b = i := by simpa using hb
      obtain ⟨p, hp, rfl⟩ := List.mem_map.mp ha
      rw [hb]
      exact (U.lt p hp).1
    · rcases List.mem_append.mp hp with q | q
      · exact ⟨Nat.lt_succ_of_lt (U.lt p q).1, (U.lt p q).2⟩
      · rw [List.mem_singleton.mp q]
        exact ⟨Nat.lt_succ_self i, l2 m (List.mem_cons_self ..)⟩
theorem upto_ok {r : List Sim} (R : RowOk r) : ∀ i, i ≤ r.length → UpOk r i (upto r i)
  | 0, _ => upOk_zero r
  | i + 1, h => by
    have e : r[i]? = some r[i] := List.getElem?_eq_getElem (by omega)
    rw [upto_succ e]
    exact upOk_step R e (upto_ok R i (by omega))
end Fl

set_option Elab.async false
set_option maxHeartbeats 1000000
/-! FlM5: no simplex both bears and fills. -/
namespace Fl
open HoBase Ho02
/-! ### sums by twos -/
def xfold {α : Type} (l : List α) (t : α → Bool) : Bool := l.foldr (fun a b => xor (t a) b) false
theorem xfold_cons {α : Type} (a : α) (l : List α) (t : α → Bool) : xfold (a :: l) t = xor (t a) (xfold l t) := rfl
theorem xfold_zero {α : Type} : ∀ {l : List α} {t : α → Bool}, (∀ a ∈ l, t a = false) → xfold l t = false
  | [], _, _ => rfl
  | a :: l, t, h => by
    rw [xfold_cons, h a (List.mem_cons_self ..), xfold_zero fun b hb => h b (List.mem_cons_of_mem _ hb)]
    rfl
theorem xfold_congr {α : Type} : ∀ {l : List α} {t u : α → Bool}, (∀ a ∈ l, t a = u a) → xfold l t = xfold l u
  | [], _, _, _ => rfl
  | a :: l, t, u, h => by
    rw [xfold_cons, xfold_cons, h a (List.mem_cons_self ..), xfold_congr fun b hb => h b (List.mem_cons_of_mem _ hb)]
theorem xfold_xor {α : Type} : ∀ (l : List α) (t u : α → Bool), xfold l (fun a => xor (t a) (u a)) = xor (xfold l t) (xfold l u)
  | [], _, _ => rfl
  | a :: l, t, u => by
    rw [xfold_cons, xfold_cons, xfold_cons, xfold_xor l t u]
    cases t a <;> cases u a <;> cases xfold l t <;> cases xfold l u <;> rfl
theorem xfold_one {α : Type} : ∀ {l : List α} {t : α → Bool} {e : α}, l.Nodup → e ∈ l → (∀ a ∈ l, a ≠ e → t a = false) → xfold l t = t e
  | [], _, _, _, h, _ => by cases h
  | a :: l, t, e, nd, h, z => by
    obtain ⟨n1, n2⟩ := List.nodup_cons.mp nd
    rw [xfold_cons]
    rcases List.mem_cons.mp h with q | q
    · subst q
      rw [xfold_zero fun b hb => z b (List.mem_cons_of_mem _ hb) fun y => n1 (y ▸ hb)]
      exact Bool.xor_false _
    · rw [z a (List.mem_cons_self ..) fun y => n1 (y ▸ q), xfold_one n2 q fun b hb => z b (List.mem_cons_of_mem _ hb)]
      exact Bool.false_xor _
theorem xfold_map {α β : Type} (f : α → β) (t : β → Bool) : ∀ l : List α, xfold (l.map f) t = xfold l fun a => t (f a)
  | [] => rfl
  | a :: l => by
    rw [List.map_cons, xfold_cons, xfold_cons, xfold_map f t l]
/-- a chain by its places -/
abbrev Vec := Nat → Bool
def vec (z : List Nat) : Vec := fun k => decide (k ∈ z)
theorem vec_fold {l : List Nat} (nd : l.Nodup) (k : Nat) : vec l k = xfold l fun p => decide (k = p) := by
  unfold vec
  by_cases h : k ∈ l
  · rw [decide_eq_true h, xfold_one nd h fun a _ n => decide_eq_false fun z => n z.symm]
    simp
  · rw [decide_eq_false h, xfold_zero fun a ha => decide_eq_false fun (z : k = a) => h (z ▸ ha)]
theorem vec_plus {a b : Two} (ha : Down a) (hb : Down b) (k : Nat) : vec (plus a b) k = xor (vec a k) (vec b k) := by
  unfold vec
  by_cases h1 : k ∈ a <;> by_cases h2 : k ∈ b <;> simp [mem_plus ha hb, h1, h2]
theorem down_nodup {z : Two} (h : Down z) : z.Nodup := List.Pairwise.imp (fun {x y} (q : y < x) (e : x = y) => by omega) h
/-! ### the boundary -/
def bd (r : List Sim) (j k : Nat) : Bool := vec (edgeOf r (simAt r j)) k
def bdOf (r : List Sim) (v : Vec) : Vec := fun k => xfold (List.range r.length) fun j => v j && bd r j k
theorem bdOf_xor (r : List Sim) (v w : Vec) (k : Nat) : bdOf r (fun j => xor (v j) (w j)) k = xor (bdOf r v k) (bdOf r w k) := by
  unfold bdOf
  rw [← xfold_xor]
  refine xfold_congr fun j _ => ?_
  show ((xor (v j) (w j)) && bd r j k) = _
  cases v j <;> cases w j <;> cases bd r j k <;> rfl
theorem bdOf_list (r : List Sim) (k : Nat) : ∀ {z : List Nat}, z.Nodup → (∀ j ∈ z, j < r.length) → bdOf r (vec z) k = xfold z fun j => bd r j k
  | [], _, _ => xfold_zero fun j _ => by simp [vec]
  | a :: z, nd, lt => by
    obtain ⟨n1, n2⟩ := List.nodup_cons.mp nd
    have e : vec (a :: z) = fun j => xor (decide (j = a)) (vec z j) := by
      funext j
      unfold vec
      by_cases h : j = a
      · subst h
        simp [n1]
      · simp [h]
    rw [e, bdOf_xor, bdOf_list r k n2 fun j hj => lt j (List.mem_cons_of_mem _ hj), xfold_cons]
    have e1 : bdOf r (fun j => decide (j = a)) k = bd r a k := by
      unfold bdOf
      rw [xfold_one (e := a) List.nodup_range (List.mem_range.mpr (lt a (List.mem_cons_self ..))) fun j _ hj => by simp [hj]]
      simp
    rw [e1]
theorem simAt_idx {r : List Sim} {x : Sim} (h : x ∈ r) : simAt r (r.idxOf x) = x := by
  unfold simAt
  have lt := List.idxOf_lt_length_of_mem h
  rw [List.getD_eq_getElem?_getD, List.getElem?_eq_getElem lt]
  exact List.getElem_idxOf lt
theorem edge_vec {r : List Sim} {x : Sim} (nd : x.Nodup) (hl : 1 < x.length) (hr : ∀ i, i < x.length → face x i ∈ r) (k : Nat) : vec (edgeOf r x) k = xfold (List.range x.length) fun i => decide (k = r.idxOf (face x i)) := by
  obtain ⟨h1, h2⟩ := edgeOf_spec nd hl hr
  have e : vec (edgeOf r x) k = vec (rawEdge r x) k := by
    unfold vec
    rw [decide_eq_decide]
    exact h2 k
  rw [e, vec_fold (rawEdge_nodup nd hr)]
  unfold rawEdge
  rw [xfold_map]
theorem face_nodup {x : Sim} (nd : x.Nodup) (i : Nat) : (face x i).Nodup := by
  unfold face
  have s : (x.take i ++ x.drop (i + 1)).Sublist x := by
    have q := List.Sublist.append (List.Sublist.refl (x.take i)) (List.drop_sublist_drop_left x (Nat.le_succ i))
    rw [List.take_append_drop] at q
    exact q
  exact nd.sublist s
theorem face_len {x : Sim} {i : Nat} (h : i < x.length) : (face x i).length = x.length - 1 := by
  unfold face
  rw [List.length_append, List.length_take, List.length_drop]
  omega
/-- a boundary has no boundary -/
theorem bd_bd {r : List Sim} (R : RowOk r) {x : Sim} (hx : x ∈ r) (l4 : x.length ≤ 4) (k : Nat) : bdOf r (vec (edgeOf r x)) k = false := by
  by_cases l1 : 1 < x.length
  · have nd := R.nd x hx
    have fc := R.fc x hx l1
    obtain ⟨h1, h2⟩ := edgeOf_spec nd l1 fc
    have rnd := rawEdge_nodup nd fc
    have e : vec (edgeOf r x) = vec (rawEdge r x) := by
      funext j
      unfold vec
      rw [decide_eq_decide]
      exact h2 j
    rw [e, bdOf_list r k rnd fun j hj => rawEdge_lt fc j hj]
    unfold rawEdge
    rw [xfold_map]
    by_cases l2 : 2 < x.length
    · have e2 : (xfold (List.range x.length) fun i => bd r (r.idxOf (face x i)) k) = xfold (List.range x.length) fun i => xfold (List.range (x.length - 1)) fun j => decide (k = r.idxOf (face (face x i) j)) := by
        refine xfold_congr fun i hi => ?_
        have hi := List.mem_range.mp hi
        unfold bd
        rw [simAt_idx (fc i hi)]
        have fl := face_len hi
        rw [edge_vec (face_nodup nd i) (by omega) (fun j hj => R.fc _ (fc i hi) (by omega) j hj) k, fl]
      rw [e2]
      match x, l2, l4 with
      | [a, b, c], _, _ =>
        show (xfold [0, 1, 2] fun i => xfold [0, 1] fun j => decide (k = r.idxOf (face (face [a, b, c] i) j))) = false
        simp only [xfold, List.foldr_cons, List.foldr_nil, face, List.take, List.drop, List.cons_append, List.nil_append]
        generalize decide (k = r.idxOf [a]) = u1
        generalize decide (k = r.idxOf [b]) = u2
        generalize decide (k = r.idxOf [c]) = u3
        revert u1 u2 u3
        decide
      | [a, b, c, d], _, _ =>
        show (xfold [0, 1, 2, 3] fun i => xfold [0, 1, 2] fun j => decide (k = r.idxOf (face (face [a, b, c, d] i) j))) = false
        simp only [xfold, List.foldr_cons, List.foldr_nil, face, List.take, List.drop, List.cons_append, List.nil_append]
        generalize decide (k = r.idxOf [a, b]) = u1
        generalize decide (k = r.idxOf [a, c]) = u2
        generalize decide (k = r.idxOf [a, d]) = u3
        generalize decide (k = r.idxOf [b, c]) = u4
        generalize decide (k = r.idxOf [b, d]) = u5
        generalize decide (k = r.idxOf [c, d]) = u6
        revert u1 u2 u3 u4 u5 u6
        decide
      | [], h, _ => exact absurd h (by simp)
      | [_], h, _ => exact absurd h (by simp)
      | [_, _], h, _ => exact absurd h (by simp)
      | _ :: _ :: _ :: _ :: _ :: _, _, h => exact absurd h (by simp)
    · refine xfold_zero fun i hi => ?_
      have hi := List.mem_range.mp hi
      unfold bd
      rw [simAt_idx (fc i hi), edgeOf_one (by rw [face_len hi]; omega)]
      rfl
  · rw [edgeOf_one (by omega)]
    exact xfold_zero fun j _ => by simp [vec]
/-! ### what kept chains make -/
inductive Span (done : Done) : Vec → Prop
  | zero : Span done fun _ => false
  | add {e : Nat × Two} {v : Vec} : e ∈ done → Span done v → Span done fun k => xor (vec e.2 k) (v k)
theorem Span.mono {d d' : Done} (h : ∀ e ∈ d, e ∈ d') {v : Vec} (s : Span d v) : Span d' v := by
  induction s with
  | zero => exact .zero
  | add m _ ih => exact .add (h _ m) ih
theorem Span.xor {d : Done} {v w : Vec} (s : Span d v) (t : Span d w) : Span d fun k => Bool.xor (v k) (w k) := by
  induction s with
  | zero =>
    have e : (fun k => Bool.xor false (w k)) = w := by
      funext k
      exact Bool.false_xor _
    rw [e]
    exact t
  | @add e v m _ ih =>
    have q : (fun k => Bool.xor (Bool.xor (vec e.2 k) (v k)) (w k)) = fun k => Bool.xor (vec e.2 k) (Bool.xor (v k) (w k)) := by
      funext k
      exact Bool.xor_assoc _ _ _
    rw [q]
    exact .add m ih
theorem Span.one {d : Done} {e : Nat × Two} (h : e ∈ d) : Span d (vec e.2) := by
  have q : vec e.2 = fun k => Bool.xor (vec e.2 k) false := by
    funext k
    exact (Bool.xor_false _).symm
  rw [q]
  exact .add h .zero
theorem Span.fold {d : Done} {g : Nat → Vec} : ∀ {l : List Nat}, (∀ j ∈ l, Span d (g j)) → Span d fun k => xfold l fun j => g j k
  | [], _ => .zero
  | a :: l, h => Span.xor (h a (List.mem_cons_self ..)) (Span.fold fun j hj => h j (List.mem_cons_of_mem _ hj))
/-- which of them -/
theorem Span.sel {d : Done} (nd : (d.map (·.1)).Nodup) {v : Vec} (s : Span d v) : ∃ sel : Nat → Bool, ∀ k, v k = xfold d fun e => sel e.1 && vec e.2 k := by
  induction s with
  | zero => exact ⟨fun _ => false, fun k => (xfold_zero fun _ _ => rfl).symm⟩
  | @add e v m _ ih =>
    obtain ⟨sel, h⟩ := ih
    have nd' : d.Nodup := (List.pairwise_map.mp nd).imp fun {a b} q z => q (by rw [z])
    refine ⟨fun m => Bool.xor (decide (m = e.1)) (sel m), fun k => ?_⟩
    show Bool.xor (vec e.2 k) (v k) = _
    rw [h k]
    show _ = xfold d fun a => (Bool.xor (decide (a.1 = e.1)) (sel a.1)) && vec a.2 k
    have q : (xfold d fun a => (Bool.xor (decide (a.1 = e.1)) (sel a.1)) && vec a.2 k) = xfold d fun a => Bool.xor (decide (a.1 = e.1) && vec a.2 k) (sel a.1 && vec a.2 k) := by
      refine xfold_congr fun a _ => ?_
      cases decide (a.1 = e.1) <;> cases sel a.1 <;> cases vec a.2 k <;> rfl
    rw [q, xfold_xor]
    have q2 : (xfold d fun a => decide (a.1 = e.1) && vec a.2 k) = vec e.2 k := by
      rw [xfold_one nd' m fun a ha ne => ?_]
      · simp
      · have : a.1 ≠ e.1 := fun z => ne (by
          obtain ⟨i, hi, ei⟩ := List.getElem_of_mem ha
          obtain ⟨j, hj, ej⟩ := List.getElem_of_mem m
          have ij : i = j := (List.getElem_inj nd (h₀ := by simpa using hi) (h₁ := by simpa using hj)).mp (by simp [ei, ej, z])
          subst ij
          rw [← ei, ← ej])
        rw [decide_eq_false this]
        rfl
    rw [q2]
theorem max_sel (sel : Nat → Bool) : ∀ d : Done, (∀ e ∈ d, sel e.1 = false) ∨ ∃ e ∈ d, sel e.1 = true ∧ ∀ a ∈ d, sel a.1 = true → a.1 ≤ e.1
  | [] => .inl fun _ h => by cases h
  | a :: d => by
    rcases max_sel sel d with h | ⟨e, he, hs, hm⟩
    · cases q : sel a.1 with
      | false =>
        refine .inl fun e he => ?_
        rcases List.mem_cons.mp he with z | z
        · rw [z]; exact q
        · exact h e z
      | true =>
        refine .inr ⟨a, List.mem_cons_self .., q, fun b hb sb => ?_⟩
        rcases List.mem_cons.mp hb with z | z
        · rw [z]; exact Nat.le_refl _
        · rw [h b z] at sb
          cases sb
    · cases q : sel a.1 with
      | false =>
        refine .inr ⟨e, List.mem_cons_of_mem _ he, hs, fun b hb sb => ?_⟩
        rcases List.mem_cons.mp hb with z | z
        · rw [z, q] at sb
          cases sb
        · exact hm b z sb
      | true =>
        by_cases c : a.1 ≤ e.1
        · refine .inr ⟨e, List.mem_cons_of_mem _ he, hs, fun b hb sb => ?_⟩
          rcases List.mem_cons.mp hb with z | z
          · rw [z]; exact c
          · exact hm b z sb
        · refine .inr ⟨a, List.mem_cons_self .., q, fun b hb sb => ?_⟩
          rcases List.mem_cons.mp hb with z | z
          · rw [z]; exact Nat.le_refl _
          · have := hm b z sb
            omega
/-- a chain that the kept ones make ends like one of them -/
theorem Span.last {n : Nat} {d : Done} (D : DoneOk n d) (nd : (d.map (·.1)).Nodup) {m : Nat} {z : Two} (hz : Down (m :: z)) (s : Span d (vec (m :: z))) : m ∈ d.map (·.1) := by
  obtain ⟨sel, h⟩ := s.sel nd
  have nd' : d.Nodup := (List.pairwise_map.mp nd).imp fun {a b} q z => q (by rw [z])
  have hm : vec (m :: z) m = true := by simp [vec]
  have le : ∀ a ∈ d, ∀ k ∈ a.2, k ≤ a.1 := fun a ha k hk => by
    obtain ⟨y, ey⟩ := D.head a ha
    have dn := D.down a ha
    rw [ey] at hk dn
    rcases List.mem_cons.mp hk with q | q
    · omega
    · have := (List.pairwise_cons.mp dn).1 k q
      omega
  rcases max_sel sel d with h0 | ⟨e, he, hs, hmax⟩
  · rw [h m, xfold_zero fun a ha => by rw [h0 a ha]; rfl] at hm
    cases hm
  · have eh : e.1 ∈ e.2 := by
      obtain ⟨y, ey⟩ := D.head e he
      rw [ey]
      exact List.mem_cons_self ..
    have t1 : vec (m :: z) e.1 = true := by
      rw [h e.1, xfold_one nd' he fun a ha ne => ?_]
      · rw [hs]
        simp [vec, eh]
      · cases sa : sel a.1 with
        | false => rfl
        | true =>
          have l1 := hmax a ha sa
          have ne1 : a.1 ≠ e.1 := fun z => ne (by
            obtain ⟨i, hi, ei⟩ := List.getElem_of_mem ha
            obtain ⟨j, hj, ej⟩ := List.getElem_of_mem he
            have ij : i = j := (List.getElem_inj nd (h₀ := by simpa using hi) (h₁ := by simpa using hj)).mp (by simp [ei, ej, z])
            subst ij
            rw [← ei, ← ej])
          have : e.1 ∉ a.2 := fun q => by
            have := le a ha _ q
            omega
          simp [vec, this]
    have e1 : e.1 ≤ m := by
      have t1' : e.1 ∈ m :: z := by simpa [vec] using t1
      rcases List.mem_cons.mp t1' with q | q
      · omega
      · have := (List.pairwise_cons.mp hz).1 _ q
        omega
    have e2 : m ≤ e.1 := by
      refine Decidable.byContradiction fun lt => ?_
      rw [h m, xfold_zero fun a ha => ?_] at hm
      · cases hm
      · cases sa : sel a.1 with
        | false => rfl
        | true =>
          have l1 := hmax a ha sa
          have : m ∉ a.2 := fun q => by
            have := le a ha _ q
            omega
          simp [vec, this]
    have : m = e.1 := by omega
    rw [this]
    exact List.mem_map.mpr ⟨e, he, rfl⟩
/-! ### lessen, by what is added -/
theorem lessen_span {n : Nat} {done : Done} (D : DoneOk n done) : ∀ (f : Nat) (z : Two), Down z → (∀ x ∈ z, x < n) → Span done fun k => xor (vec z k) (vec (lessen done f z) k)
  | f, [], _, _ => by
    rw [lessen_nil]
    have e : (fun k => xor (vec [] k) (vec [] k)) = fun _ => false := by
      funext k
      exact Bool.xor_self _
    rw [e]
    exact .zero
  | 0, m :: z, _, _ => by
    have e : (fun k => xor (vec (m :: z) k) (vec (lessen done 0 (m :: z)) k)) = fun _ => false := by
      funext k
      exact Bool.xor_self _
    rw [e]
    exact .zero
  | f + 1, m :: z, hz, hn => by
    cases h : look done m with
    | none =>
      rw [lessen_stop h]
      have e : (fun k => xor (vec (m :: z) k) (vec (m :: z) k)) = fun _ => false := by
        funext k
        exact Bool.xor_self _
      rw [e]
      exact .zero
    | some p =>
      rw [lessen_go h]
      obtain ⟨t1, _, t3⟩ := turn_ok D h hz hn
      obtain ⟨hp, _⟩ := look_some h
      have ih := lessen_span D f _ t1 t3
      have e : (fun k => xor (vec (m :: z) k) (vec (lessen done f (plus (m :: z) p.2)) k)) = fun k => xor (vec p.2 k) (xor (vec (plus (m :: z) p.2) k) (vec (lessen done f (plus (m :: z) p.2)) k)) := by
        funext k
        rw [vec_plus hz (D.down p hp)]
        cases vec (m :: z) k <;> cases vec p.2 k <;> cases vec (lessen done f (plus (m :: z) p.2)) k <;> rfl
      rw [e]
      exact .add hp ih
theorem span_cycle {r : List Sim} {done : Done} (h : ∀ e ∈ done, ∀ k, bdOf r (vec e.2) k = false) {v : Vec} (s : Span done v) (k : Nat) : bdOf r v k = false := by
  induction s with
  | zero => exact xfold_zero fun _ _ => rfl
  | add m _ ih =>
    rw [bdOf_xor, h _ m k, ih]
    rfl
/-- behind i simplices: what is kept has no boundary, and makes each boundary -/
structure UpC (r : List Sim) (i : Nat) (a : PSt) : Prop where
  cyc : ∀ e ∈ a.1, ∀ k, bdOf r (vec e.2) k = false
  all : ∀ j, j < i → Span a.1 (bd r j)
theorem upto_c {r : List Sim} (R : RowOk r) (l4 : ∀ x ∈ r, x.length ≤ 4) : ∀ i, i ≤ r.length → UpC r i (upto r i)
  | 0, _ => ⟨fun _ h => by (rw [upto_zero] at h; cases h), fun _ h => absurd h (Nat.not_lt_zero _)⟩
  | i + 1, h => by
    have lt : i < r.length := by omega
    have ex : r[i]? = some r[i] := List.getElem?_eq_getElem lt
    have ih := upto_c R l4 i (by omega)
    have U := upto_ok R i (by omega)
    obtain ⟨e1, e2⟩ := edge_in R ex
    have sp := lessen_span U.done (r.length + 1) _ e1 e2
    have at_ : simAt r i = r[i] := by
      unfold simAt
      rw [List.getD_eq_getElem?_getD, ex]
      rfl
    have b0 := bd_bd R (List.getElem_mem lt) (l4 _ (List.getElem_mem lt))
    rw [upto_succ ex]
    cases eL : lessen (upto r i).1 (r.length + 1) (edgeOf r r[i]) with
    | nil =>
      rw [pstep_nil eL]
      refine ⟨ih.cyc, fun j hj => ?_⟩
      by_cases c : j < i
      · exact ih.all j c
      · have ej : j = i := by omega
        subst ej
        rw [eL] at sp
        have q : bd r j = fun k => xor (vec (edgeOf r r[j]) k) (vec [] k) := by
          funext k
          unfold bd
          rw [at_]
          exact (Bool.xor_false _).symm
        rw [q]
        exact sp
    | cons m z =>
      rw [pstep_cons eL]
      rw [eL] at sp
      refine ⟨fun e he k => ?_, fun j hj => ?_⟩
      · rcases List.mem_append.mp he with q | q
        · exact ih.cyc e q k
        · rw [List.mem_singleton.mp q]
          have c := span_cycle ih.cyc sp k
          rw [bdOf_xor, b0 k] at c
          simpa using c
      · by_cases c : j < i
        · exact (ih.all j c).mono fun e he => List.mem_append.mpr (.inl he)
        · have ej : j = i := by omega
          subst ej
          have s2 : Span ((upto r j).1 ++ [(m, m :: z)]) (fun k => xor (vec (edgeOf r r[j]) k) (vec (m :: z) k)) := sp.mono fun e he => List.mem_append.mpr (.inl he)
          have s3 : Span ((upto r j).1 ++ [(m, m :: z)]) (vec (m :: z)) := Span.one (e := (m, m :: z)) (List.mem_append.mpr (.inr (List.mem_singleton.mpr rfl)))
          have q : bd r j = fun k => xor (xor (vec (edgeOf r r[j]) k) (vec (m :: z) k)) (vec (m :: z) k) := by
            funext k
            unfold bd
            rw [at_]
            cases vec (edgeOf r r[j]) k <;> cases vec (m :: z) k <;> rfl
          rw [q]
          exact s2.xor s3
/-- who fills, and what was kept of it -/
theorem upto_mem {r : List Sim} (R : RowOk r) : ∀ i, i ≤ r.length → ∀ p ∈ (upto r i).2, ∃ (x : Sim) (z : Two), r[p.2]? = some x ∧ lessen (upto r p.2).1 (r.length + 1) (edgeOf r x) = p.1 :: z ∧ p.2 < i
  | 0, _, p, hp => by
    rw [upto_zero] at hp
    cases hp
  | i + 1, h, p, hp => by
    have lt : i < r.length := by omega
    have ex : r[i]? = some r[i] := List.getElem?_eq_getElem lt
    rw [upto_succ ex] at hp
    cases eL : lessen (upto r i).1 (r.length + 1) (edgeOf r r[i]) with
    | nil =>
      rw [pstep_nil eL] at hp
      obtain ⟨x, z, h1, h2, h3⟩ := upto_mem R i (by omega) p hp
      exact ⟨x, z, h1, h2, by omega⟩
    | cons m z =>
      rw [pstep_cons eL] at hp
      rcases List.mem_append.mp hp with q | q
      · obtain ⟨x, z, h1, h2, h3⟩ := upto_mem R i (by omega) p q
        exact ⟨x, z, h1, h2, by omega⟩
      · rw [List.mem_singleton.mp q]
        exact ⟨r[i], z, ex, eL, Nat.lt_succ_self i⟩
theorem upto_kept {r : List Sim} (R : RowOk r) : ∀ i, i ≤ r.length → ∀ p ∈ (upto r i).2, ∃ z, (p.1, p.1 :: z) ∈ (upto r i).1
  | 0, _, p, hp => by
    rw [upto_zero] at hp
    cases hp
  | i + 1, h, p, hp => by
    have lt : i < r.length := by omega
    have ex : r[i]? = some r[i] := List.getElem?_eq_getElem lt
    rw [upto_succ ex] at hp ⊢
    cases eL : lessen (upto r i).1 (r.length + 1) (edgeOf r r[i]) with
    | nil =>
      rw [pstep_nil eL] at hp ⊢
      exact upto_kept R i (by omega) p hp
    | cons m z =>
      rw [pstep_cons eL] at hp ⊢
      rcases List.mem_append.mp hp with q | q
      · obtain ⟨z', h1⟩ := upto_kept R i (by omega) p q
        exact ⟨z', List.mem_append.mpr (.inl h1)⟩
      · rw [List.mem_singleton.mp q]
        exact ⟨z, List.mem_append.mpr (.inr (List.mem_singleton.mpr rfl))⟩
/-- **what bears does not fill** -/
theorem apart {r : List Sim} (R : RowOk r) (l4 : ∀ x ∈ r, x.length ≤ 4) : ∀ p ∈ pairs r, ∀ q ∈ pairs r, p.1 ≠ q.2 := by
  intro p hp q hq e
  rw [pairs_upto] at hp hq
  obtain ⟨z, hz⟩ := upto_kept R r.length (Nat.le_refl _) p hp
  have UN := upto_ok R r.length (Nat.le_refl _)
  have cyc := (upto_c R l4 r.length (Nat.le_refl _)).cyc _ hz
  have dz : Down (p.1 :: z) := UN.done.down _ hz
  have ltz : ∀ x ∈ p.1 :: z, x < r.length := UN.done.lt _ hz
  obtain ⟨x, y, hx, hl, hlt⟩ := upto_mem R r.length (Nat.le_refl _) q hq
  rw [← e] at hx hl hlt
  have U := upto_ok R p.1 (Nat.le_of_lt hlt)
  have C := upto_c R l4 p.1 (Nat.le_of_lt hlt)
  obtain ⟨e1, e2⟩ := edge_in R hx
  have sp := lessen_span U.done (r.length + 1) _ e1 e2
  obtain ⟨l1, _, l3⟩ := lessen_spec U.done (r.length + 1) _ e1 e2 fun n hn => Nat.lt_succ_of_lt (e2 n hn)
  rw [hl] at sp l1
  have none_ := l3 _ _ hl
  have at_ : simAt r p.1 = x := by
    unfold simAt
    rw [List.getD_eq_getElem?_getD, hx]
    rfl
  have eb : vec (edgeOf r x) = fun k => xfold z fun j => bd r j k := by
    funext k
    have c := cyc k
    rw [bdOf_list r k (down_nodup dz) ltz, xfold_cons] at c
    have e0 : bd r p.1 k = vec (edgeOf r x) k := by
      unfold bd
      rw [at_]
    rw [e0] at c
    revert c
    cases vec (edgeOf r x) k <;> cases (xfold z fun j => bd r j k) <;> simp
  have sb : Span (upto r p.1).1 (vec (edgeOf r x)) := by
    rw [eb]
    exact Span.fold fun j hj => C.all j ((List.pairwise_cons.mp dz).1 j hj)
  have sl : Span (upto r p.1).1 (vec (q.1 :: y)) := by
    have e3 : vec (q.1 :: y) = fun k => xor (vec (edgeOf r x) k) (xor (vec (edgeOf r x) k) (vec (q.1 :: y) k)) := by
      funext k
      cases vec (edgeOf r x) k <;> cases vec (q.1 :: y) k <;> rfl
    rw [e3]
    exact sb.xor sp
  exact look_none none_ (Span.last U.done U.keys l1 sl)
end Fl

set_option Elab.async false
set_option maxHeartbeats 1000000
/-! FlM1: simplices as they are told, the shape, what is swamped, bars' ends, the longest, the partner. -/
namespace Fl
open HoBase Ho02
/-! ### simOf -/
def insN (l : List Nat) (n : Nat) : List Nat := (l.filter fun (m : Nat) => decide (m < n)) ++ n :: l.filter fun (m : Nat) => decide (n ≤ m)
def srt (l : List Nat) : List Nat := l.foldl insN []
theorem insN_perm (l : List Nat) (n : Nat) : (insN l n).Perm (n :: l) := by
  unfold insN
  refine List.perm_middle.trans (List.Perm.cons n ?_)
  have e : (fun (m : Nat) => decide (n ≤ m)) = fun m => !decide (m < n) := by
    funext m
    rw [Bool.eq_iff_iff]
    simp
  rw [e]
  exact List.filter_append_perm _ l
theorem insN_le {l : List Nat} (h : l.Pairwise (· ≤ ·)) (n : Nat) : (insN l n).Pairwise (· ≤ ·) := by
  unfold insN
  refine List.pairwise_append.mpr ⟨h.filter _, List.pairwise_cons.mpr ⟨fun m hm => ?_, h.filter _⟩, fun a ha b hb => ?_⟩
  · simpa using (List.mem_filter.mp hm).2
  · have h1 : a < n := by simpa using (List.mem_filter.mp ha).2
    rcases List.mem_cons.mp hb with q | q
    · omega
    · have h2 : n ≤ b := by simpa using (List.mem_filter.mp q).2
      omega
theorem fold_srt : ∀ (l acc : List Nat), acc.Pairwise (· ≤ ·) → (l.foldl insN acc).Pairwise (· ≤ ·) ∧ (l.foldl insN acc).Perm (l ++ acc)
  | [], acc, h => ⟨h, List.Perm.refl _⟩
  | n :: l, acc, h => by
    obtain ⟨h1, h2⟩ := fold_srt l (insN acc n) (insN_le h n)
    refine ⟨h1, h2.trans ?_⟩
    refine ((insN_perm acc n).append_left l).trans ?_
    exact List.perm_middle
theorem srt_le (l : List Nat) : (srt l).Pairwise (· ≤ ·) := (fold_srt l [] List.Pairwise.nil).1
theorem srt_perm (l : List Nat) : (srt l).Perm l := by
  have q := (fold_srt l [] List.Pairwise.nil).2
  rw [List.append_nil] at q
  exact q
theorem rising_iff : ∀ {s : List Nat}, rising s = true ↔ s.Pairwise (· < ·)
  | [] => by simp [rising]
  | [a] => by simp [rising]
  | a :: b :: l => by
    show (decide (a < b) && rising (b :: l)) = true ↔ _
    rw [Bool.and_eq_true, rising_iff (s := b :: l), List.pairwise_cons (a := a)]
    constructor
    · rintro ⟨h1, h2⟩
      have h1 : a < b := by simpa using h1
      refine ⟨fun c hc => ?_, h2⟩
      rcases List.mem_cons.mp hc with q | q
      · omega
      · have := (List.pairwise_cons.mp h2).1 c q
        omega
    · rintro ⟨h1, h2⟩
      exact ⟨by simpa using h1 b (List.mem_cons_self ..), h2⟩
theorem lt_of_le_nd {l : List Nat} (h : l.Pairwise (· ≤ ·)) (nd : l.Nodup) : l.Pairwise (· < ·) :=
  (h.and nd).imp fun {a b} ⟨q1, q2⟩ => Nat.lt_of_le_of_ne q1 q2
theorem rising_srt (l : List Nat) : rising (srt l) = true ↔ l.Nodup := by
  rw [rising_iff]
  constructor
  · intro h
    exact (srt_perm l).nodup_iff.mp (h.imp fun {a b} q (z : a = b) => by omega)
  · intro h
    exact lt_of_le_nd (srt_le l) ((srt_perm l).nodup_iff.mpr h)
/-- told as a simplex is told -/
structure Told (r : List Int) : Prop where
  l1 : 1 ≤ r.length
  l4 : r.length ≤ 4
  nd : r.Nodup
  ok : ∀ z ∈ r, 0 ≤ z ∧ z < 10
def simGet (r : List Int) : Sim := srt (r.map Int.toNat)
theorem toNat_nd {r : List Int} (h : ∀ z ∈ r, 0 ≤ z) : (r.map Int.toNat).Nodup ↔ r.Nodup := by
  unfold List.Nodup
  rw [List.pairwise_map]
  constructor
  · intro q
    exact q.imp fun {a b} q z => q (by rw [z])
  · intro q
    refine (List.Pairwise.and_mem.mp q).imp fun {a b} ⟨ha, hb, q⟩ z => q ?_
    have := h a ha
    have := h b hb
    omega
theorem all_ok {r : List Int} : (r.all fun (z : Int) => decide (0 ≤ z) && decide (z < (CORNERS : Int))) = true ↔ ∀ z ∈ r, 0 ≤ z ∧ z < 10 := by
  rw [List.all_eq_true]
  constructor
  · intro h z hz
    have := h z hz
    rw [Bool.and_eq_true] at this
    exact ⟨by simpa using this.1, of_decide_eq_true this.2⟩
  · intro h z hz
    rw [Bool.and_eq_true]
    exact ⟨by simpa using (h z hz).1, decide_eq_true (h z hz).2⟩
theorem simOf_def (r : List Int) : simOf r = if r.length < 1 ∨ DIM < r.length ∨ (r.all fun (z : Int) => decide (0 ≤ z) && decide (z < (CORNERS : Int))) = false then none else if rising (simGet r) = true then some (simGet r) else none := rfl
theorem simOf_some {r : List Int} (T : Told r) : simOf r = some (simGet r) := by
  rw [simOf_def, if_neg, if_pos]
  · exact (rising_srt _).mpr ((toNat_nd fun z hz => (T.ok z hz).1).mpr T.nd)
  · rintro (h | h | h)
    · have := T.l1
      omega
    · have := T.l4
      exact absurd (show 4 < r.length from h) (by omega)
    · rw [all_ok.mpr T.ok] at h
      cases h
theorem simOf_none {r : List Int} (T : ¬ Told r) : simOf r = none := by
  rw [simOf_def]
  by_cases h : r.length < 1 ∨ DIM < r.length ∨ (r.all fun (z : Int) => decide (0 ≤ z) && decide (z < (CORNERS : Int))) = false
  · rw [if_pos h]
  · rw [if_neg h, if_neg]
    intro q
    have ok : ∀ z ∈ r, 0 ≤ z ∧ z < 10 := all_ok.mp (by
      cases e : (r.all fun (z : Int) => decide (0 ≤ z) && decide (z < (CORNERS : Int))) with
      | true => rfl
      | false => exact absurd (.inr (.inr e)) h)
    refine T ⟨?_, ?_, (toNat_nd fun z hz => (ok z hz).1).mp ((rising_srt _).mp q), ok⟩
    · exact Decidable.byContradiction fun z => h (.inl (by omega))
    · exact Decidable.byContradiction fun z => h (.inr (.inl (show 4 < r.length by omega)))
/-- what a told simplex is -/
structure SimIs (x : Sim) : Prop where
  ne : x ≠ []
  l4 : x.length ≤ 4
  lt : ∀ n ∈ x, n < 10
  up : x.Pairwise (· < ·)
theorem SimIs.nd {x : Sim} (S : SimIs x) : x.Nodup := S.up.imp fun {a b} q (z : a = b) => by omega
theorem simGet_is {r : List Int} (T : Told r) : SimIs (simGet r) := by
  have pm := srt_perm (r.map Int.toNat)
  have len : (simGet r).length = r.length := by
    have q := pm.length_eq
    rw [List.length_map] at q
    exact q
  have l1 := T.l1
  have l4 := T.l4
  refine ⟨fun z => ?_, by omega, fun n hn => ?_, rising_iff.mp ((rising_srt _).mpr ((toNat_nd fun z hz => (T.ok z hz).1).mpr T.nd))⟩
  · rw [z] at len
    simp at len
    omega
  · obtain ⟨z, hz, rfl⟩ := List.mem_map.mp (pm.mem_iff.mp hn)
    have := T.ok z hz
    omega
theorem mapM_some : ∀ {l : List (List Int)}, (∀ r ∈ l, Told r) → l.mapM simOf = some (l.map simGet)
  | [], _ => rfl
  | r :: l, h => by
    rw [List.mapM_cons, simOf_some (h r (List.mem_cons_self ..)), mapM_some fun q hq => h q (List.mem_cons_of_mem _ hq)]
    rfl
theorem mapM_none : ∀ {l : List (List Int)} {r : List Int}, r ∈ l → ¬ Told r → l.mapM simOf = none
  | q :: l, r, h, n => by
    rw [List.mapM_cons]
    rcases List.mem_cons.mp h with e | e
    · rw [← e, simOf_none n]
      rfl
    · cases simOf q with
      | none => rfl
      | some x =>
        rw [mapM_none e n]
        rfl
/-- sorted numbers are the simplex -/
theorem sorted_is {r ns : List Int} (T : Told r) (pm : ns.Perm r) (le : ns.Pairwise (· ≤ ·)) : ns = (simGet r).map fun (n : Nat) => (n : Int) := by
  have S := simGet_is T
  have nd : ns.Nodup := pm.nodup_iff.mpr T.nd
  have up : ns.Pairwise (· < ·) := (le.and nd).imp fun {a b} ⟨q1, q2⟩ => by omega
  refine same_of_pairwise (R := fun a b : Int => a < b) (fun a q => Int.lt_irrefl a q) (fun _ _ q1 q2 => Int.lt_asymm q1 q2) up ?_ fun z => ?_
  · rw [List.pairwise_map]
    exact S.up.imp fun {a b} q => by omega
  · rw [pm.mem_iff, List.mem_map]
    constructor
    · intro h
      refine ⟨z.toNat, (srt_perm _).mem_iff.mpr (List.mem_map.mpr ⟨z, h, rfl⟩), ?_⟩
      have := (T.ok z h).1
      omega
    · rintro ⟨n, hn, rfl⟩
      obtain ⟨y, hy, e⟩ := List.mem_map.mp ((srt_perm _).mem_iff.mp hn)
      have := (T.ok y hy).1
      have : y = (n : Int) := by omega
      rw [← this]
      exact hy
/-! ### the shape -/
structure CxOk (c : Cx) : Prop where
  pw : c.Pairwise (fun a b => before a b = true)
  ok : ∀ x ∈ c, SimIs x
  sub : ∀ x ∈ c, ∀ y : Sim, y ≠ [] → y.Sublist x → y ∈ c
  len : c.length ≤ 60
theorem simIs_sub {x y : Sim} (S : SimIs x) (ne : y ≠ []) (h : y.Sublist x) : SimIs y :=
  ⟨ne, Nat.le_trans h.length_le S.l4, fun n hn => S.lt n (h.subset hn), S.up.sublist h⟩
theorem cxOk_nil : CxOk [] := ⟨List.Pairwise.nil, fun _ h => by (cases h), fun _ h => by (cases h), Nat.zero_le _⟩
theorem cxOk_closed {xs : List Sim} (h : ∀ x ∈ xs, SimIs x) (len : (closed xs).length ≤ 60) : CxOk (closed xs) := by
  refine ⟨closed_pw xs, fun y hy => ?_, fun y hy z hz hs => ?_, len⟩
  · obtain ⟨x, hx, q⟩ := mem_closed.mp hy
    obtain ⟨q1, q2⟩ := mem_parts.mp q
    exact simIs_sub (h x hx) q1 q2
  · obtain ⟨x, hx, q⟩ := mem_closed.mp hy
    obtain ⟨q1, q2⟩ := mem_parts.mp q
    exact mem_closed.mpr ⟨x, hx, mem_parts.mpr ⟨hz, hs.trans q2⟩⟩
theorem face_sub (x : Sim) (i : Nat) : (face x i).Sublist x := by
  unfold face
  have q := List.Sublist.append (List.Sublist.refl (x.take i)) (List.drop_sublist_drop_left x (Nat.le_succ i))
  rw [List.take_append_drop] at q
  exact q
theorem rowOk {c : Cx} (C : CxOk c) (h : Heights) : RowOk (row c h) := by
  refine ⟨fun x hx => (C.ok x (mem_row.mp hx)).nd, fun x hx => (C.ok x (mem_row.mp hx)).ne, fun x hx hl i hi => ?_⟩
  refine mem_row.mpr (C.sub x (mem_row.mp hx) _ (fun z => ?_) (face_sub x i))
  have q := face_len hi
  rw [z] at q
  simp at q
  omega
/-! ### what is swamped -/
theorem sub_sublist : ∀ {x y : List Nat}, x.Pairwise (· < ·) → y.Pairwise (· < ·) → (∀ n ∈ x, n ∈ y) → x.Sublist y
  | [], _, _, _, _ => List.nil_sublist _
  | a :: x, [], _, _, h => by
    have := h a (List.mem_cons_self ..)
    cases this
  | a :: x, b :: y, hx, hy, h => by
    obtain ⟨x1, x2⟩ := List.pairwise_cons.mp hx
    obtain ⟨y1, y2⟩ := List.pairwise_cons.mp hy
    by_cases e : a = b
    · subst e
      refine List.Sublist.cons_cons a (sub_sublist x2 y2 fun n hn => ?_)
      rcases List.mem_cons.mp (h n (List.mem_cons_of_mem _ hn)) with q | q
      · have := x1 n hn
        omega
      · exact q
    · refine List.Sublist.cons b (sub_sublist hx y2 fun n hn => ?_)
      have ab : a ∈ y := by
        rcases List.mem_cons.mp (h a (List.mem_cons_self ..)) with q | q
        · exact absurd q e
        · exact q
      have lt := y1 a ab
      rcases List.mem_cons.mp (h n hn) with q | q
      · rcases List.mem_cons.mp hn with z | z
        · omega
        · have := x1 n z
          omega
      · exact q
theorem inner_iff {x y : Sim} (hx : SimIs x) (hy : SimIs y) : (decide (x.length < y.length) && within x y) = true ↔ x.Sublist y ∧ x ≠ y := by
  rw [Bool.and_eq_true]
  constructor
  · rintro ⟨h1, h2⟩
    have h1 : x.length < y.length := by simpa using h1
    refine ⟨sub_sublist hx.up hy.up fun n hn => ?_, fun z => by rw [z] at h1; omega⟩
    have := List.all_eq_true.mp h2 n hn
    simpa using this
  · rintro ⟨h1, h2⟩
    refine ⟨decide_eq_true ?_, List.all_eq_true.mpr fun n hn => ?_⟩
    · rcases Nat.lt_or_ge x.length y.length with q | q
      · exact q
      · exact absurd (h1.eq_of_length_le q) h2
    · simpa using h1.subset hn
/-- those that are faces of others -/
def othersFace (d : List Sim) (x : Sim) : Prop := ∃ y ∈ d, y ≠ x ∧ x ∈ parts y
theorem tops_is {d : List Sim} (ok : ∀ x ∈ d, SimIs x) (g : Sim → Bool) (hg : ∀ x ∈ d, (g x = true ↔ othersFace d x)) : tops d = d.filter fun x => !g x := by
  unfold tops
  refine List.filter_congr fun x hx => ?_
  congr 1
  rw [Bool.eq_iff_iff, hg x hx, List.any_eq_true]
  constructor
  · rintro ⟨y, hy, q⟩
    obtain ⟨q1, q2⟩ := (inner_iff (ok x hx) (ok y hy)).mp q
    exact ⟨y, hy, fun z => q2 z.symm, mem_parts.mpr ⟨(ok x hx).ne, q1⟩⟩
  · rintro ⟨y, hy, q1, q2⟩
    exact ⟨y, hy, (inner_iff (ok x hx) (ok y hy)).mpr ⟨(mem_parts.mp q2).2, fun z => q1 z.symm⟩⟩
/-! ### heights along the row -/
theorem fmax_le : ∀ (l : List Nat) (a b : Nat), l.foldl max a ≤ b ↔ a ≤ b ∧ ∀ x ∈ l, x ≤ b
  | [], a, b => by simp
  | c :: l, a, b => by
    rw [List.foldl_cons, fmax_le l]
    constructor
    · rintro ⟨h1, h2⟩
      refine ⟨by omega, fun x hx => ?_⟩
      rcases List.mem_cons.mp hx with q | q
      · omega
      · exact h2 x q
    · rintro ⟨h1, h2⟩
      have := h2 c (List.mem_cons_self ..)
      exact ⟨by omega, fun x hx => h2 x (List.mem_cons_of_mem _ hx)⟩
theorem height_sub {h : Heights} {x y : Sim} (q : ∀ n ∈ y, n ∈ x) : height h y ≤ height h x := by
  unfold height
  rw [fmax_le]
  refine ⟨Nat.zero_le _, fun z hz => ?_⟩
  obtain ⟨n, hn, rfl⟩ := List.mem_map.mp hz
  exact ((fmax_le _ _ _).mp (Nat.le_refl _)).2 _ (List.mem_map.mpr ⟨n, q n hn, rfl⟩)
theorem edge_before {c : Cx} (C : CxOk c) (h : Heights) {j : Nat} {x : Sim} (hj : (row c h)[j]? = some x) : ∀ n ∈ edgeOf (row c h) x, n < j := fun n hn => by
  have R := rowOk C h
  have xr := List.mem_of_getElem? hj
  by_cases l1 : 1 < x.length
  · obtain ⟨_, e2⟩ := edgeOf_spec (R.nd x xr) l1 (R.fc x xr l1)
    have hn := (e2 n).mp hn
    unfold rawEdge at hn
    obtain ⟨i, hi, rfl⟩ := List.mem_map.mp hn
    have hi := List.mem_range.mp hi
    have fm := R.fc x xr l1 i hi
    have lt := List.idxOf_lt_length_of_mem fm
    have eg := List.getElem_idxOf lt
    obtain ⟨ltj, ej⟩ := List.getElem?_eq_some_iff.mp hj
    have cm : comes h (face x i) x = true := by
      rw [comes_iff]
      have hh : height h (face x i) ≤ height h x := height_sub fun n hn => (face_sub x i).subset hn
      have fl := face_len hi
      rcases Nat.lt_or_ge (height h (face x i)) (height h x) with q | q
      · exact .inl q
      · exact .inr ⟨by omega, before_iff.mpr (.inl (by omega))⟩
    have pw := row_pw h (pw_nodup C.pw)
    rcases Nat.lt_trichotomy ((row c h).idxOf (face x i)) j with q | q | q
    · exact q
    · have e3 : face x i = x := by
        have q1 : (row c h)[(row c h).idxOf (face x i)]? = some (face x i) := by rw [List.getElem?_eq_getElem lt, eg]
        rw [q, hj] at q1
        exact (Option.some.inj q1).symm
      rw [e3] at cm
      exact absurd cm (comes_irr h x)
    · have := List.pairwise_iff_getElem.mp pw j _ ltj lt q
      rw [eg, ej] at this
      exact absurd this (comes_asy cm)
  · rw [edgeOf_one (by omega)] at hn
    cases hn
theorem done_mono {n m : Nat} {d : Done} (D : DoneOk n d) (h : n ≤ m) : DoneOk m d := ⟨D.head, D.down, fun p hp x hx => Nat.lt_of_lt_of_le (D.lt p hp x hx) h⟩
theorem upto_before {r : List Sim} (R : RowOk r) (eb : ∀ j x, r[j]? = some x → ∀ n ∈ edgeOf r x, n < j) : ∀ i, i ≤ r.length → DoneOk i (upto r i).1 ∧ ∀ p ∈ (upto r i).2, p.1 < p.2
  | 0, _ => by
    rw [upto_zero]
    exact ⟨⟨fun _ h => by (cases h), fun _ h => by (cases h), fun _ h => by cases h⟩, fun _ h => by cases h⟩
  | i + 1, h => by
    have lt : i < r.length := by omega
    have ex : r[i]? = some r[i] := List.getElem?_eq_getElem lt
    obtain ⟨D, P⟩ := upto_before R eb i (by omega)
    obtain ⟨e1, e2⟩ := edge_in R ex
    have e3 := eb i _ ex
    obtain ⟨l1, l2, _⟩ := lessen_spec D (r.length + 1) _ e1 e3 fun n hn => Nat.lt_succ_of_lt (e2 n hn)
    rw [upto_succ ex]
    cases eL : lessen (upto r i).1 (r.length + 1) (edgeOf r r[i]) with
    | nil =>
      rw [pstep_nil eL]
      exact ⟨done_mono D (Nat.le_succ i), P⟩
    | cons m z =>
      rw [pstep_cons eL]
      rw [eL] at l1 l2
      refine ⟨⟨fun p hp => ?_, fun p hp => ?_, fun p hp => ?_⟩, fun p hp => ?_⟩
      · rcases List.mem_append.mp hp with q | q
        · exact D.head p q
        · rw [List.mem_singleton.mp q]
          exact ⟨z, rfl⟩
      · rcases List.mem_append.mp hp with q | q
        · exact D.down p q
        · rw [List.mem_singleton.mp q]
          exact l1
      · rcases List.mem_append.mp hp with q | q
        · exact fun x hx => Nat.lt_succ_of_lt (D.lt p q x hx)
        · rw [List.mem_singleton.mp q]
          exact fun x hx => Nat.lt_succ_of_lt (l2 x hx)
      · rcases List.mem_append.mp hp with q | q
        · exact P p q
        · rw [List.mem_singleton.mp q]
          exact l2 m (List.mem_cons_self ..)
theorem pairs_before {c : Cx} (C : CxOk c) (h : Heights) : ∀ p ∈ pairs (row c h), p.1 < p.2 ∧ p.2 < (row c h).length := fun p hp => by
  have R := rowOk C h
  rw [pairs_upto] at hp
  exact ⟨(upto_before R (fun j x hj => edge_before C h hj) _ (Nat.le_refl _)).2 p hp, ((upto_ok R _ (Nat.le_refl _)).lt p hp).1⟩
/-- a bar ends behind its beginning -/
theorem bar_ends {c : Cx} (C : CxOk c) (h : Heights) {b : Bar} (hb : b ∈ bars c h) {e : Nat} (he : b.to_ = some e) : b.from_ < e := by
  unfold bars at hb
  obtain ⟨i, hi, q⟩ := List.mem_filterMap.mp hb
  have hi := List.mem_range.mp hi
  split at q
  · cases q
  · dsimp only at q
    split at q
    · cases q
      cases he
    · rename_i x hx
      split at q
      · cases q
      · rename_i ne
        cases q
        cases he
        have xm := List.mem_of_find?_eq_some hx
        have xi : x.1 = i := by simpa using List.find?_some hx
        obtain ⟨p1, p2⟩ := pairs_before C h x xm
        have pw := row_le h C.pw
        have q2 := List.pairwise_iff_getElem.mp pw x.1 x.2 (by omega) p2 p1
        subst xi
        have s1 : simAt (row c h) x.1 = (row c h)[x.1] := by
          unfold simAt
          rw [List.getD_eq_getElem?_getD, List.getElem?_eq_getElem (show x.1 < (row c h).length by omega)]
          rfl
        have s2 : simAt (row c h) x.2 = (row c h)[x.2] := by
          unfold simAt
          rw [List.getD_eq_getElem?_getD, List.getElem?_eq_getElem p2]
          rfl
        show height h (simAt (row c h) x.1) < height h (simAt (row c h) x.2)
        rw [s1, s2] at ne ⊢
        omega
/-! ### the longest -/
def barLen (b : Bar) : Nat := b.to_.getD 0 - b.from_
def better (m : Option Bar) (b : Bar) : Option Bar := match m with
  | none => some b
  | some y => if barLen y < barLen b then some b else some y
def endingOf (l : List Bar) (d : Nat) : List Bar := l.filter fun b => decide (b.dim = d) && b.to_.isSome
theorem longest_fold (d : Nat) : ∀ (l : List Bar) (m : Option Bar), l.foldl (fun (m : Option Bar) (b : Bar) => match b.to_ with
  | none => m
  | some e => if b.dim ≠ d then m else match m with
    | none => some b
    | some y => if (y.to_.getD 0) - y.from_ < e - b.from_ then some b else some y) m = (endingOf l d).foldl better m
  | [], _ => rfl
  | b :: l, m => by
    rw [List.foldl_cons, longest_fold d l]
    unfold endingOf
    rw [List.filter_cons]
    cases e : b.to_ with
    | none => simp
    | some t =>
      by_cases c : b.dim = d
      · simp only [c, ne_eq, not_true_eq_false, if_false, decide_true, Option.isSome_some, Bool.and_self, if_true, List.foldl_cons]
        congr 1
        cases m with
        | none => rfl
        | some y =>
          show _ = if barLen y < barLen b then some b else some y
          unfold barLen
          rw [e]
          rfl
      · simp [c]
theorem longest_is (c : Cx) (h : Heights) (d : Nat) : longest c h d = (endingOf (bars c h) d).foldl better none := longest_fold d (bars c h) none
/-! ### counts -/
theorem count_dim (d : Nat) : ∀ l : List Bar, (l.map fun b => (b.dim : Int)).count (d : Int) = (l.filter fun b => decide (b.dim = d)).length
  | [] => rfl
  | b :: l => by
    rw [List.map_cons, List.count_cons, count_dim d l, List.filter_cons]
    by_cases c : b.dim = d
    · simp [c]
    · have : ¬ ((b.dim : Int) = (d : Int)) := by omega
      simp [c, this]
def dimsTold (l : List Bar) : List Int := (List.range 4).map fun (d : Nat) => ((l.map fun b => (b.dim : Int)).count (d : Int) : Nat)
theorem lasting_told (c : Cx) (h : Heights) (a b : Nat) : ((List.range DIM).map fun (d : Nat) => nat (lasting c h d a b)) = dimsTold (((bars c h).filter fun x => x.at_ a).filter fun x => x.at_ b) := by
  unfold dimsTold
  refine List.map_congr_left fun d _ => ?_
  rw [count_dim, List.filter_filter, List.filter_filter]
  unfold lasting nat
  congr 2
  refine List.filter_congr fun x _ => ?_
  cases x.at_ a <;> cases x.at_ b <;> cases decide (x.dim = d) <;> rfl
theorem at_told (c : Cx) (h : Heights) (t : Nat) : ((List.range DIM).map fun (d : Nat) => nat (lasting c h d t t)) = dimsTold ((bars c h).filter fun x => x.at_ t) := by
  rw [lasting_told, List.filter_filter]
  congr 1
  refine List.filter_congr fun x _ => ?_
  cases x.at_ t <;> rfl
/-! ### the partner -/
def partnerAns (w : List Sim) (p : List (Nat × Nat)) (i : Nat) : List Int := match p.find? fun (y : Nat × Nat) => decide (y.1 = i) || decide (y.2 = i) with
  | none => [0]
  | some y => if y.1 = i then 1 :: (simAt w y.2).map nat else 2 :: (simAt w y.1).map nat
theorem partner_is (w : List Sim) (p : List (Nat × Nat)) (i : Nat) (ap : ∀ a ∈ p, ∀ b ∈ p, a.1 ≠ b.2) : (match p.find? fun (y : Nat × Nat) => decide (y.1 = i) with
      | some y => 1 :: (simAt w y.2).map nat
      | none => match p.find? fun (y : Nat × Nat) => decide (y.2 = i) with
        | some y => 2 :: (simAt w y.1).map nat
        | none => [0]) = partnerAns w p i := by
  unfold partnerAns
  have congrF : ∀ (f g : Nat × Nat → Bool), (∀ x ∈ p, f x = g x) → p.find? f = p.find? g := fun f g h => by
    revert h
    clear ap
    induction p with
    | nil => intro _; rfl
    | cons a l ih =>
      intro h
      rw [List.find?_cons, List.find?_cons, h a (List.mem_cons_self ..), ih fun x hx => h x (List.mem_cons_of_mem _ hx)]
  cases h1 : p.find? fun (y : Nat × Nat) => decide (y.1 = i) with
  | some y =>
    have ym := List.mem_of_find?_eq_some h1
    have yi : y.1 = i := by simpa using List.find?_some h1
    have e : p.find? (fun (y : Nat × Nat) => decide (y.1 = i) || decide (y.2 = i)) = p.find? fun (y : Nat × Nat) => decide (y.1 = i) := congrF _ _ fun x hx => by
      have : ¬ x.2 = i := fun z => ap y ym x hx (yi.trans z.symm)
      simp [this]
    rw [e, h1]
    simp [yi]
  | none =>
    have no : ∀ x ∈ p, ¬ x.1 = i := fun x hx z => by
      have := List.find?_eq_none.mp h1 x hx
      simp [z] at this
    have e : p.find? (fun (y : Nat × Nat) => decide (y.1 = i) || decide (y.2 = i)) = p.find? fun (y : Nat × Nat) => decide (y.2 = i) := congrF _ _ fun x hx => by
      simp [no x hx]
    rw [e]
    cases h2 : p.find? fun (y : Nat × Nat) => decide (y.2 = i) with
    | none => rfl
    | some y =>
      have ym := List.mem_of_find?_eq_some h2
      simp [no y ym]
end Fl

set_option Elab.async false
set_option maxRecDepth 100000
set_option maxHeartbeats 2000000
/-! FlSort: sorted(xs, key=f) where a call of f may touch the slots of the frames that run (all else stays). -/
namespace Fl
open PySem PySem.W PySem.Calls PyProof.Rows
/-- all stays; of the frames fs but their slots -/
def KeepF (fs : List Addr) (h h' : Heap) : Prop := ∀ b o, h.get? b = some o → (b ∉ fs → h'.get? b = some o) ∧ ∃ sl, h'.get? b = some { o with slots := sl }
theorem KeepF.refl (fs : List Addr) (h : Heap) : KeepF fs h h := fun _ o e => ⟨fun _ => e, o.slots, e⟩
theorem KeepF.trans {fs : List Addr} {h1 h2 h3 : Heap} (a : KeepF fs h1 h2) (b : KeepF fs h2 h3) : KeepF fs h1 h3 := fun c o e => by
  obtain ⟨a1, sl, a2⟩ := a c o e
  refine ⟨fun n => (b c o (a1 n)).1 n, ?_⟩
  obtain ⟨_, sl2, b2⟩ := b c _ a2
  exact ⟨sl2, b2⟩
theorem KeepF.all {fs : List Addr} {h1 h2 : Heap} (k : ∀ b o, h1.get? b = some o → h2.get? b = some o) : KeepF fs h1 h2 := fun b o e => ⟨fun _ => k b o e, o.slots, k b o e⟩
/-- one object is changed that was not there -/
theorem KeepF.but {fs : List Addr} {h1 h2 h3 : Heap} {c : Addr} (a : KeepF fs h1 h2) (n : h1.get? c = none) (k : ∀ b, b ≠ c → h3.get? b = h2.get? b) : KeepF fs h1 h3 := fun b o e => by
  have hb : b ≠ c := fun z => by
    rw [z, n] at e
    cases e
  obtain ⟨a1, sl, a2⟩ := a b o e
  exact ⟨fun q => (k b hb).trans (a1 q), sl, (k b hb).trans a2⟩
mutual
theorem reads_keepF {fs : List Addr} {h h' : Heap} (k : KeepF fs h h') : ∀ {v : Value} {d : PyData} {as : List Addr}, Reads h v d as → Reads h' v d as
  | _, _, _, .none => .none
  | _, _, _, .bool b => .bool b
  | _, _, _, .int i t => .int i t
  | _, _, _, .str x t => .str x t
  | _, _, _, .list h1 h2 h3 h4 => by
    obtain ⟨_, sl, e⟩ := k _ _ h1
    exact .list e h2 h3 (readsAll_keepF k h4)
  | _, _, _, .tuple h1 h2 h3 h4 => by
    obtain ⟨_, sl, e⟩ := k _ _ h1
    exact .tuple e h2 h3 (readsAll_keepF k h4)
  | _, _, _, .dict h1 h2 h3 h4 h5 => by
    obtain ⟨_, sl, e⟩ := k _ _ h1
    exact .dict e h2 h3 (readsAll_keepF k h4) (readsAll_keepF k h5)
theorem readsAll_keepF {fs : List Addr} {h h' : Heap} (k : KeepF fs h h') : ∀ {vs : List Value} {ds : List PyData} {as : List Addr}, ReadsAll h vs ds as → ReadsAll h' vs ds as
  | _, _, _, .nil => .nil
  | _, _, _, .cons h1 h2 => .cons (reads_keepF k h1) (readsAll_keepF k h2)
end
/-- what a call may leave otherwise -/
structure Kst (fs : List Addr) (s s' : Shared) : Prop where
  os : s'.os = s.os
  bare : AllBare s'.gens
  keep : KeepF fs s.heap s'.heap
theorem Kst.trans {fs : List Addr} {s1 s2 s3 : Shared} (a : Kst fs s1 s2) (b : Kst fs s2 s3) : Kst fs s1 s3 := ⟨b.os.trans a.os, b.bare, a.keep.trans b.keep⟩
section
variable {prog : Program} {w : World} {A : Around} {E : Value → Shared → Prop} {fs : List Addr} {s0 : Shared} {a kS : Addr} {rev : Bool} {vs : List Value} {kz : List PyData} {P : PySem.Fin → Shared → Prop} {f : Value}
/-- the keys are made, one call an item; then the items are sorted by them -/
theorem keys_go {s1 : Shared} {ep : Nat} (K1 : Kst fs s0 s1) (freeK : s0.heap.get? kS = none) (freeA : s0.heap.get? a = none) (offK : kS ∉ fs) (offA : a ∉ fs) (apart : kS ≠ a)
    (atK : s1.heap.get? kS = some (seqObj "list" #[] 0)) (atA : s1.heap.get? a = some (seqObj "list" #[] ep))
    (len : kz.length = vs.length) (line : vs.length ≤ sizeLine) (hal : AllAlike kz) (hsk : Sortable kz) (hu : ∀ d, d ∈ kz → A.units + d.depth < cLine)
    (turn : ∀ (i : Nat) (v : Value) (k : PyData), vs[i]? = some v → kz[i]? = some k → ∀ s' : Shared, Kst fs s0 s' → wpAny (model prog w) A (call f [v]) (fun u s2 => Kst fs s' s2 ∧ Reads s2.heap u k []) (fun _ _ => False) s')
    (fin : ∀ (s' : Shared) (out : List Value) (c : Nat), Kst fs s0 s' → s'.heap.get? a = some (seqObj "list" out.toArray c) → KeyedOut rev kz vs out → P (.done (.ret .none)) s') :
    wpAny (model prog w) A (ksk_rest a f rev vs.toArray ep (.ref kS)) P E s1 := by
  unfold ksk_rest
  refine wpAny_bind (wpAny_rule ?_)
  have asList : ∀ (body : Value → PUnit → Sem (ForInStep PUnit)), forIn vs.toArray PUnit.unit body = forIn vs PUnit.unit body := fun body => by simp
  rw [asList]
  let Inv' : Nat → Shared → Prop := fun i s' => Kst fs s0 s' ∧ ∃ (made : Array Value) (e : Nat), s'.heap.get? kS = some (seqObj "list" made e) ∧ s'.heap.get? a = some (seqObj "list" #[] ep) ∧
    EachIs (fun v k => Reads s'.heap v k [] ∧ alike k k = true) made.toList (kz.take i)
  refine wpAny_bind (ksk_fold Inv' vs 0 s1 ⟨K1, #[], 0, atK, atA, by rw [List.take_zero]; exact EachIs.nil⟩ ?one ?all)
  case one =>
    intro j x s' hx hI
    rw [Nat.zero_add] at hI
    obtain ⟨Ks, made, e, mK, mA, keys⟩ := hI
    have hj : j < vs.length := (List.getElem?_eq_some_iff.mp hx).1
    have hj2 : j < kz.length := by rw [len]; exact hj
    have hk : kz[j]? = some kz[j] := List.getElem?_eq_getElem hj2
    have self : alike kz[j] kz[j] = true := hal _ (List.getElem_mem hj2) _ (List.getElem_mem hj2)
    have few : made.size ≤ j := by
      have q := keys.length
      rw [Array.length_toList, List.length_take] at q
      omega
    refine wpAny_bind (wpAny_attempt (wpAny_mono (turn j x _ hx hk s' Ks) (fun u s2 hq => ?_) fun _ _ z => z.elim))
    obtain ⟨Kt, rd⟩ := hq
    have nK := (Kt.keep kS _ mK).1 offK
    have nA := (Kt.keep a _ mA).1 offA
    have other := Heap.SameBut.update s2.heap kS (Obj.mapSeq (·.push u))
    obtain ⟨e2, nK2⟩ : ∃ e2, (s2.heap.update kS (Obj.mapSeq (·.push u))).get? kS = some (seqObj "list" (made.push u) e2) := ⟨_, get?_update_seq nK (·.push u)⟩
    have asCls : ∀ o, s2.heap.get? kS = some o → o.cls = .type "list" := fun o q => by
      rw [nK] at q
      rw [← Option.some.inj q]
    have over : ∀ (y : Value) (d : PyData), Reads s2.heap y d [] → alike d d = true → Reads (s2.heap.update kS (Obj.mapSeq (·.push u))) y d [] := fun y d r ad =>
      Reads.keepBut (a := kS) (fun b o hb q => (other.2 b hb).trans q) asCls d y [] ad r (by simp)
    refine wpAny_bind (listUpdate_at nK rfl ?_ (by omega) (by rw [Array.size_push]; omega))
    refine wpAny_pure ⟨rfl, ⟨Kt.os.trans Ks.os, Kt.bare, (Ks.keep.trans Kt.keep).but freeK fun b hb => other.2 b hb⟩, made.push u, e2, nK2, (other.2 a apart.symm).trans nA, ?_⟩
    have t1 : kz.take (0 + j + 1) = kz.take j ++ [kz[j]] := by rw [Nat.zero_add, List.take_add_one, hk]; rfl
    have t2 : (made.push u).toList = made.toList ++ [u] := by simp
    rw [t1, t2]
    exact each_snoc (R := fun (y : Value) (d : PyData) => Reads (s2.heap.update kS (Obj.mapSeq (·.push u))) y d [] ∧ alike d d = true) ⟨over u _ rd self, self⟩
      (keys.mono fun y d q => ⟨over y d (reads_keepF Kt.keep q.1) q.2, q.2⟩)
  case all =>
    rintro s' ⟨Ks, made, e, mK, mA, keys⟩
    have whole : kz.take (0 + vs.length) = kz := List.take_of_length_le (by omega)
    rw [whole] at keys
    have rds : EachIs (fun v k => ∃ as, Reads s'.heap v k as) made.toList kz := keys.mono fun v k q => ⟨[], q.1⟩
    have num : made.size = vs.length := by
      have q := rds.length
      rw [Array.length_toList] at q
      omega
    refine wpAny_bind (listItems_at mK rfl ?_)
    have hid : ∀ b o, (hideAll s'.heap [kS]).get? b = some o → s'.heap.get? b = some o := fun b o q => of_hideAll [kS] q
    have gone : (hideAll s'.heap [kS]).get? kS = none := hideAll_none [kS] (List.mem_singleton.mpr rfl)
    refine keyH_end (κ := dataKind s'.heap kz) (h₁ := hideAll s'.heap [kS]) (fun b o _ q => hid b o q) gone mK mA apart (SortsAt.data rds hal hsk hu) num line fun h3 tk3 c k3 at3 => ?_
    refine fin _ _ c ⟨Ks.os, Ks.bare, fun b o q => ?_⟩ at3 ⟨s'.heap, made.toList, hal, rfl, rds⟩
    have nk : b ≠ kS := fun z => by
      rw [z, freeK] at q
      cases q
    have na : b ≠ a := fun z => by
      rw [z, freeA] at q
      cases q
    have go : ∀ o', s'.heap.get? b = some o' → h3.get? b = some o' := fun o' q' => k3 b o' na (hideAll_get _ q' fun m => nk (List.mem_singleton.mp m))
    obtain ⟨g1, sl, g2⟩ := Ks.keep b o q
    exact ⟨fun n => go _ (g1 n), sl, go _ g2⟩
end
section
variable {prog : Program} {w : World} {A : Around} {E : Value → Shared → Prop} {fs : List Addr} {s : Shared} {β : Type} {vs : List Value} {bs : List β} {R : Value → β → Prop}
/-- sorted(xs, key=f), f a function object -/
theorem sorted_byKey {l q : Addr} {Q : Value → Shared → Prop} (k : β → PyData) (hl : s.heap.IsList l vs.toArray) (e : EachIs R vs bs) (hal : AllAlike (bs.map k)) (hk : Sortable (bs.map k)) (hL : bs.length ≤ sizeLine)
    (bare : AllBare s.gens) (off : ∀ b, s.heap.objs.size ≤ b → b ∉ fs) (hu : ∀ x, x ∈ bs → A.units + 2 + (k x).depth < cLine)
    (turn : ∀ (v : Value) (x : β), R v x → x ∈ bs → ∀ s' : Shared, Kst fs s s' → wpAny (model prog w) A.in1.in1 (call (.ref q) [v]) (fun u s2 => Kst fs s' s2 ∧ Reads s2.heap u (k x) []) (fun _ _ => False) s')
    (fin : ∀ (out : List Value) (c : Nat) (s' : Shared), Kst fs s s' → s'.heap.get? (s.heap.objs.size + 1) = some (seqObj "list" out.toArray c) → out.length = bs.length → EachIs R out (bs.mergeSort (dataLe false k)) → Q (.ref (s.heap.objs.size + 1)) s') :
    wpAny (model prog w) A (call (.builtin "sorted") [.ref l] [(Str.ofString "key", .ref q)]) Q E s := by
  have lenV : vs.length ≤ sizeLine := by rw [e.length]; exact hL
  have lenK : (bs.map k).length = vs.length := by rw [List.length_map, e.length]
  refine sorted_of_sort hl lenV (ksk_s1 _ _) (fun _ => ksk_l1 _ _) fun E' => ?_
  rw [ksk_t1]
  have at0 := copyHeap_at s.heap vs
  obtain ⟨ep, at1⟩ : ∃ ep, ((copyHeap s.heap vs).update (s.heap.objs.size + 1) (Obj.mapSeq fun _ => (#[] : Array Value))).get? (s.heap.objs.size + 1) = some (seqObj "list" #[] ep) := ⟨_, get?_update_seq at0 fun _ => #[]⟩
  have szC : s.heap.objs.size + 2 ≤ (copyHeap s.heap vs).objs.size := Heap.lt_size at0
  unfold ksk_tree
  refine wpAny_bind (listItems_at at0 rfl ?_)
  refine wpAny_bind (listUpdate_at at0 rfl ?_ (by rw [List.size_toArray]; exact lenV) (Nat.zero_le _))
  refine wpAny_bind (seqEpoch_at at1 rfl ?_)
  refine wpAny_bind (wpAny_newTuple ?_ (by show vs.length ≤ sizeLine; exact lenV))
  refine wpAny_bind (wpAny_newList ?_ (Nat.zero_le _))
  refine wpAny_holding ?_
  have szT : s.heap.objs.size + 2 ≤ (((copyHeap s.heap vs).update (s.heap.objs.size + 1) (Obj.mapSeq fun _ => (#[] : Array Value))).push (seqObj "tuple" vs.toArray 0)).objs.size := by
    rw [size_push', Heap.size_update]
    omega
  refine keys_go (fs := fs) (s0 := s) (kz := bs.map k) ⟨rfl, bare, KeepF.all fun b o q => ?_⟩ (Heap.get?_none_of_le (Nat.le_trans (by omega) szT)) (Heap.get?_none_of_le (Nat.le_succ _)) (off _ (Nat.le_trans (by omega) szT)) (off _ (Nat.le_succ _)) ?_ (Heap.get?_push_size _ rfl)
    (Heap.get?_push_of_some _ (Heap.get?_push_of_some _ at1)) lenK lenV hal hk ?_ ?_ fun s' out c Ks atO ko => ⟨rfl, ?_⟩
  · have lt := Heap.lt_size q
    refine Heap.get?_push_of_some _ (Heap.get?_push_of_some _ ?_)
    rw [Heap.get?_update_ne _ _ _ _ (Nat.ne_of_lt (Nat.lt_succ_of_lt lt))]
    exact copyHeap_old q
  · exact Nat.ne_of_gt (Nat.lt_of_lt_of_le (by omega) szT)
  · intro d hd
    obtain ⟨x, hx, rfl⟩ := List.mem_map.mp hd
    exact hu x hx
  · intro i v d hv hd s' Ks
    rw [List.getElem?_map] at hd
    obtain ⟨x, hx, rfl⟩ := Option.map_eq_some_iff.mp hd
    have both : (v, x) ∈ vs.zip bs := List.mem_of_getElem? (i := i) (by rw [List.getElem?_zip_eq_some]; exact ⟨hv, hx⟩)
    exact turn v x (e.zip _ both) (List.mem_of_getElem? hx) s' Ks
  · exact fin out c s' Ks atO ((ko.length lenK).trans e.length) (keyedOut_each k ko e)
end
end Fl

set_option Elab.async false
set_option maxRecDepth 100000
set_option maxHeartbeats 2000000
/-! FlLam: sorted(e, key=lambda a: body) over the hand layer: the lambda is made, its body is read once for each item; what is tracked is locked meanwhile. -/
namespace Fl
open PySem PySem.Spec PyProof.Rows L2 LamX NdefX
open PySem.W (EachIs AllAlike Sortable dataLe)
/-! ### keys: ints and tuples of them -/
mutual
inductive Kd (K : PySem.W.Frag) (H : Hp) : V → PyData → Prop
  | int (i : Int) : Kd K H (.int i) (.int i)
  | tup {a : Addr} {xs : List V} {ds : List PyData} : SqT K H a xs → KdAll K H xs ds → Kd K H (.ref a) (.tuple ds)
inductive KdAll (K : PySem.W.Frag) (H : Hp) : List V → List PyData → Prop
  | nil : KdAll K H [] []
  | cons {v : V} {vs : List V} {d : PyData} {ds : List PyData} : Kd K H v d → KdAll K H vs ds → KdAll K H (v :: vs) (d :: ds)
end
theorem kd_ints {K : PySem.W.Frag} {H : Hp} : ∀ ns : List Int, KdAll K H (ns.map V.int) (ns.map PyData.int)
  | [] => .nil
  | n :: r => .cons (.int n) (kd_ints r)
section
variable {P : Program} {w : World} {K : PySem.W.Frag} {H : Hp} {h : Heap}
mutual
theorem kd_reads (hok : HOk P w H h) (KX : K.In h) : ∀ {v : V} {d : PyData} {u : Value}, Kd K H v d → RelV v u → Reads h u d []
  | _, _, _, .int i, r => by
    obtain ⟨t, rfl⟩ := r
    exact .int i t
  | _, _, _, .tup hs ha, r => by
    cases r
    obtain ⟨its, o, n, rv, ho, hc, hd⟩ := sqT_at hok KX hs
    exact .tuple ho hc hd (by simpa using kd_readsAll hok KX ha rv)
theorem kd_readsAll (hok : HOk P w H h) (KX : K.In h) : ∀ {vs : List V} {ds : List PyData} {us : List Value}, KdAll K H vs ds → Vals vs us → ReadsAll h us ds []
  | _, _, _, .nil, r => by
    cases r
    exact .nil
  | _, _, _, .cons h1 h2, r => by
    cases r with
    | cons r1 r2 => exact ReadsAll.cons (as := []) (bs := []) (kd_reads hok KX h1 r1) (kd_readsAll hok KX h2 r2)
end
end
/-! ### what is tracked, locked -/
/-- lists and tuples are to be read, all else is out of sight -/
def lockH (H : Hp) (h : Heap) : Hp := fun b => match H b, h.get? b with
  | some (.lst xs), some o => some (.frz o (.lst xs))
  | some (.tup xs), some o => some (.frz o (.tup xs))
  | some (.frz o (.lst xs)), some _ => some (.frz o (.lst xs))
  | some (.frz o (.tup xs)), some _ => some (.frz o (.tup xs))
  | _, _ => none
theorem lock_none {H : Hp} {h : Heap} {b : Addr} (e : H b = none) : lockH H h b = none := by
  unfold lockH
  rw [e]
theorem lock_is {H : Hp} {h : Heap} {b : Addr} {u : HO} (e : lockH H h b = some u) : ∃ o ob u0, h.get? b = some ob ∧ u = .frz o u0 ∧ ((H b = some u0 ∧ o = ob) ∨ H b = some (.frz o u0)) ∧ ((∃ xs, u0 = .lst xs) ∨ ∃ xs, u0 = .tup xs) := by
  unfold lockH at e
  split at e
  · rename_i xs ob e1 e2
    exact ⟨ob, ob, .lst xs, e2, (Option.some.inj e).symm, .inl ⟨e1, rfl⟩, .inl ⟨xs, rfl⟩⟩
  · rename_i xs ob e1 e2
    exact ⟨ob, ob, .tup xs, e2, (Option.some.inj e).symm, .inl ⟨e1, rfl⟩, .inr ⟨xs, rfl⟩⟩
  · rename_i o xs ob e1 e2
    exact ⟨o, ob, .lst xs, e2, (Option.some.inj e).symm, .inr e1, .inl ⟨xs, rfl⟩⟩
  · rename_i o xs ob e1 e2
    exact ⟨o, ob, .tup xs, e2, (Option.some.inj e).symm, .inr e1, .inr ⟨xs, rfl⟩⟩
  · cases e
theorem lock_ok {P : Program} {w : World} {H : Hp} {h : Heap} (hok : HOk P w H h) : HOk P w (lockH H h) h := fun b u e => by
  obtain ⟨o, ob, u0, eo, rfl, e1, e2⟩ := lock_is e
  have core : h.get? b = some o ∧ ObjOk P w H h b u0 := by
    rcases e1 with ⟨e1, rfl⟩ | e1
    · exact ⟨eo, hok b _ e1⟩
    · obtain ⟨q1, q2⟩ := hok b _ e1
      exact ⟨q1, q2⟩
  refine ⟨core.1, ?_⟩
  rcases e2 with ⟨xs, rfl⟩ | ⟨xs, rfl⟩
  · exact core.2
  · exact core.2
/-- what could be read can be read -/
structure Locked (K : PySem.W.Frag) (H HL : Hp) : Prop where
  sl : ∀ a xs, SqL K H a xs → SqL K HL a xs
  st : ∀ a xs, SqT K H a xs → SqT K HL a xs
theorem lock_lst {P : Program} {w : World} {H : Hp} {h : Heap} (hok : HOk P w H h) {a : Addr} {xs : List V} (q : Rd H a (.lst xs)) : Rd (lockH H h) a (.lst xs) := by
  rcases q with q | ⟨o, q⟩
  · obtain ⟨_, its, n, _, eo⟩ := hok a _ q
    exact .inr ⟨_, by unfold lockH; rw [q, eo]⟩
  · obtain ⟨eo, _⟩ := hok a _ q
    exact .inr ⟨o, by unfold lockH; rw [q, eo]⟩
theorem lock_tup {P : Program} {w : World} {H : Hp} {h : Heap} (hok : HOk P w H h) {a : Addr} {xs : List V} (q : Rd H a (.tup xs)) : Rd (lockH H h) a (.tup xs) := by
  rcases q with q | ⟨o, q⟩
  · obtain ⟨_, its, _, ob, eo, _⟩ := hok a _ q
    exact .inr ⟨_, by unfold lockH; rw [q, eo]⟩
  · obtain ⟨eo, _⟩ := hok a _ q
    exact .inr ⟨o, by unfold lockH; rw [q, eo]⟩
theorem locked_of {P : Program} {w : World} {K : PySem.W.Frag} {H : Hp} {h : Heap} (hok : HOk P w H h) : Locked K H (lockH H h) :=
  ⟨fun _ _ q => q.elim (fun q => .inl (lock_lst hok q)) .inr, fun _ _ q => q.elim (fun q => .inl (lock_tup hok q)) .inr⟩
/-! ### a state that differs by frames' slots alone -/
section
variable {X : Cx} {pins : List (Addr × Obj)} {σ : L2.St} {H : Hp} {s s' : Shared}
theorem inv_kst (I : Inv X pins σ H s) (k : Kst (frs X.stack) s s') : Inv X pins σ H s' := by
  have off : ∀ b u, H b = some u → b ∉ frs X.stack := fun b u e z => by
    rw [I.stkFree b z] at e
    cases e
  refine I.call' (ch := []) k.os ⟨fun b o e _ nb _ => (k.keep b o e).1 nb, fun b o e _ _ _ => (k.keep b o e).2, fun _ _ _ n _ => n, fun b o e _ => ?_, fun _ _ e => e, fun _ _ _ e => e, fun _ ps e => ⟨#[], by rw [e]; simp⟩⟩ ?_ k.bare fun b z => absurd z (by simp)
  · obtain ⟨sl, q⟩ := (k.keep b o e).2
    exact ⟨_, q⟩
  · intro b u e
    refine (I.hok b u e).stay (fun d v hd q => (k.keep d v q).1 ?_) (fun _ q => q) fun _ _ q => q
    rcases hd with rfl | hd
    · exact off _ _ e
    · exact off _ _ hd
theorem env0_lock (I : Inv X pins σ H s) : Env0 X.prog X.w X.K X.mg X.base X.A.in1.in1 X.stack s (lockH H s.heap) := by
  have e := I.env0
  exact ⟨e.frames, e.mod, fun b o q => ⟨(e.bs b o q).1, lock_none (e.bs b o q).2⟩, e.bsz, e.funs, fun b q => lock_none (e.frf b q), lock_ok e.hok, e.bare⟩
end
/-! ### the lambda called -/
/-- the lambda as a made function -/
abbrev lamF (q : Str) (params : Arguments) (scope : Scope) (cl : List (Str × Addr)) (c : Addr) : NF := ⟨"<lambda>", q, params, [], scope, cl, c⟩
section
variable {P : Program} {w : World} {K : PySem.W.Frag} {mg : Str → Option Value} {base : Heap} {A : Around} {outer : List Env} {s : Shared} {H : Hp}
theorem lam_run {N fr : List Str} {a q : Str} {params : Arguments} {body : Expr} {scope : Scope} {cl : List (Str × Addr)} {f c : Addr} {pm ctv : Value} {k : Nat} {tb : TE} {ws : List (Option V)} {x : V} {u : Value} {Q : VK}
    (S : NScope N [a] fr scope) (hr : Room (k + 1) A) (e0 : Env0 P w K mg base A outer s H) (hf : s.heap.get? f = some (PySem.W.kla_obj "<lambda>" q params body scope cl pm c ctv)) (hc : s.heap.CodeRec (.ref c) q)
    (hb : bindArgs (PySem.W.kla_fn "<lambda>" q params body scope cl pm (.ref c) ctv) ⟨[u], []⟩ = pure [(a, u)]) (C : CellsAt cl fr ws s.heap H) (rx : RelV x u)
    (hbody : Room k (A.deeper (envF (lamF q params scope cl c) f s.heap.objs.size)) → PE (ncx L2.CX0 P w K mg base N (lamF q params scope cl c) f A outer s H L2.E0) body tb) (ht : tb (startF N [x] ws) H Q) :
    codeAny (model P w) A (.call (.ref f) ⟨[u], []⟩) (CR L2.CX0 outer P w H s Q L2.E0) s := by
  have lim : s.heap.NoLimit := e0.mod.nolimit.keeps fun b o e => (e0.bs b o e).1
  refine PySem.W.kla_callFunE hr.depth hf rfl S.co S.gen rfl hc ?_
  rw [hb]
  refine wpAny_pure (wpAny_newFunctionEnv S.nocell (fun y hy => ?_) (fun h1 hns hsb => ⟨lim.fresh _ hsb, ?_⟩) S.kind)
  · rw [List.mem_singleton.mp hy]
    exact S.par a (List.mem_singleton.mpr rfl)
  show codeAny _ _ (.expr body (envF (lamF q params scope cl c) f s.heap.objs.size)) _ _
  have kp : ∀ b o, s.heap.get? b = some o → h1.get? b = some o := fun b o e => hsb.extBut b o (Nat.ne_of_lt (Heap.lt_size e)) (Heap.get?_push_of_some _ e)
  have J : Inv (ncx L2.CX0 P w K mg base N (lamF q params scope cl c) f A outer s H L2.E0) [] (startF N [x] ws) H { s with heap := h1, toks := s.toks + ([(a, u)] : List (Str × Value)).length } :=
    inv_startN (F := lamF q params scope cl c) (us := [u]) S hr.hd e0 rfl (.cons rx .nil) C hns kp
  refine PySem.W.kla_codeExpr (wpAny_mono ((hbody (hr.deeper _)).run [] _ _ H Q J ht) (fun v s2 hq => ?_) fun e s2 hq => hq)
  obtain ⟨v', H', J', rv, q'⟩ := hq
  exact ⟨v', H', J'.os, J'.bare, J'.base, J'.hok, rv, q'⟩
end
/-- what a call over a locked heap may leave otherwise -/
theorem kst_of {P : Program} {w : World} {outer : List Env} {H H' : Hp} {s s' : Shared} (hok0 : HOk P w (lockH H s.heap) s.heap) (os : s'.os = s.os) (bare : AllBare s'.gens)
    (un : Un (frs outer) [] (lockH H s.heap) H' s.heap s'.heap) (hok : HOk P w H' s'.heap) : Kst (frs outer) s s' := by
  refine ⟨os, bare, fun b o e => ?_⟩
  cases q : lockH H s.heap b with
  | none =>
    refine ⟨fun nb => un.keep b o e q nb (by simp), un.any e q (by simp)⟩
  | some u =>
    obtain ⟨ob, _, u0, _, rfl, _, _⟩ := lock_is q
    obtain ⟨e1, _⟩ := hok0 b _ q
    obtain ⟨e2, _⟩ := hok b _ (un.frzs b ob u0 q)
    rw [e] at e1
    cases e1
    exact ⟨fun _ => e2, o.slots, e2⟩
theorem extN_seqL {K : PySem.W.Frag} {H H' : Hp} (x : ExtN H H') {a : Addr} {xs : List V} (h : SqL K H a xs) : SqL K H' a xs := by
  rcases h with (h | ⟨o, h⟩) | h
  · exact .inl (.inl (x _ _ h fun _ z => by cases z))
  · exact .inl (.inr ⟨o, x _ _ h fun _ z => by cases z⟩)
  · exact .inr h
theorem extN_seqT {K : PySem.W.Frag} {H H' : Hp} (x : ExtN H H') {a : Addr} {xs : List V} (h : SqT K H a xs) : SqT K H' a xs := by
  rcases h with (h | ⟨o, h⟩) | h
  · exact .inl (.inl (x _ _ h fun _ z => by cases z))
  · exact .inl (.inr ⟨o, x _ _ h fun _ z => by cases z⟩)
  · exact .inr h
theorem each_vals : ∀ {xs : List V} {us : List Value}, Vals xs us → EachIs (fun u x => RelV x u) us xs
  | _, _, .nil => .nil
  | _, _, .cons h t => .cons h (each_vals t)
theorem vals_each : ∀ {xs : List V} {us : List Value}, EachIs (fun u x => RelV x u) us xs → Vals xs us
  | _, _, .nil => .nil
  | _, _, .cons h t => .cons h (vals_each t)
/-- the reading of sorted(e, key=lambda a: body); N: the lambda's names (its parameter, the captured ones), js: where the captured ones stand in the def -/
def tSortLam (K : PySem.W.Frag) (T : List (Addr × Str)) (N : List Str) (js : List Nat) (ta : TA) (tb : TE) : TE := fun σ H Q => ta σ H fun vs H1 => ∃ (l : Addr) (xs : List V) (key : V → PyData), vs = [.ref l] ∧ SqL K H1 l xs ∧ Tabs T H1 ∧
  AllAlike (xs.map key) ∧ Sortable (xs.map key) ∧ (∀ x ∈ xs, (key x).depth ≤ 8) ∧
  (∀ H2 HL, ExtN H1 H2 → Locked K H2 HL → ∀ x ∈ xs, tb (startF N [x] (js.map (slotAt σ))) HL fun v H3 => Kd K H3 v (key x)) ∧
  ∀ (H2 : Hp) (p : Addr), ExtN H1 H2 → Tabs T H2 → H2 p = none → Q (.ref p) (upd H2 p (.lst (xs.mergeSort (dataLe false key))))
section
variable {X : Cx}
theorem pe_sortLam {T : List (Addr × Str)} {c P : Addr} {e : Expr} {params : Arguments} {body : Expr} {scope : Scope} {lpos kpos p pos : Pos} {ta : TA} {tb : TE} {N fr : List Str} {js : List Nat} {a : Str} {k : Nat}
    (hg : Gl X "sorted") (hm : X.mg "sorted" = none) (ha : PA X [e] ta) (TB : TabB X.base X.mg c P) (hcode : X.env.code = .ref c) (hmT : (P, X.env.qual ++ "<lambda>") ∈ T) (hu : ∀ p ∈ T, p.1 = P → p.2 = X.env.qual ++ "<lambda>")
    (hdef : defaultsOf params X.env = ([], [])) (hfree : ∀ y ∈ scope.names, y.2 = .free → X.env.scope.names.lookup y.1 = some .cell ∨ X.env.scope.names.lookup y.1 = some .free) (S : NScope N [a] fr scope) (hfr : ∀ y ∈ fr, (y, NameKind.free) ∈ scope.names)
    (hjs : js.map (fun j => X.N[j]?) = fr.map some) (hr : Room (k + 3) X.A)
    (hbind : ∀ (q : Str) (cl : List (Str × Addr)) (pm cv ctv u : Value), bindArgs (PySem.W.kla_fn "<lambda>" q params body scope cl pm cv ctv) ⟨[u], []⟩ = pure [(a, u)])
    (hbody : ∀ (A : Around) (outer : List Env) (s : Shared) (H : Hp) (q : Str) (cl : List (Str × Addr)) (f c' : Addr), Room k (A.deeper (envF (lamF q params scope cl c') f s.heap.objs.size)) → PE (ncx L2.CX0 X.prog X.w X.K X.mg X.base N (lamF q params scope cl c') f A outer s H L2.E0) body tb)
    (hst : backTo pos (starEach [e] X.env) = (false, eval e X.env) :: backTo pos (starEach [] X.env) := by rfl) (hpl : (backTo pos (starEach [e] X.env)).any (·.1) = false := by rfl) :
    PE X (.Call (.Name "sorted" p) [e] [⟨some (Str.ofString "key"), .Lambda params body scope lpos, kpos⟩] pos) (tSortLam X.K T N js ta tb) := by
  refine ⟨fun pins s σ H Q I h => ?_⟩
  refine wpAny_Call_Name_kw (ld_blt I hg hm (show bootBuiltins "sorted" = some (.builtin "sorted") by decide +kernel) ?_)
  refine callWith_kw (id := "sorted") ?_ hst hpl rfl rfl
  refine thn (ha.run pos pins s σ H _ I h) fun us s1 hq => ?_
  obtain ⟨vs, H1, I1, rv, l, xs, key, rfl, hl, hT, hal, hsk, hdp, hkey, hq⟩ := hq
  obtain ⟨u, rfl, ru⟩ := vals1 rv
  obtain rfl : u = Value.ref l := ru
  show wpAny _ _ (evalAll [(do let v ← eval (.Lambda params body scope lpos) X.env; standAt pos; pure v)]) _ _ s1
  have hasF : ∀ y ∈ scope.names, y.2 = .free → ∃ c, X.env.cells.lookup y.1 = some c := fun y hy e => (hfree y hy e).elim (fun z => I.ok.has _ (.inl z)) fun z => I.ok.has _ (.inr z)
  refine wpAny_evalAll_cons (wpAny_bind (lam_make2 I1 TB hcode hmT hu hT hdef hasF fun f c' pm ctv H2 s2 I2 x12 hT2 atF offF nF atC => wpAny_bind (wpAny_standAt (wpAny_pure (wpAny_evalAll_nil ?_)))))
  show wpAny _ _ (call (.builtin "sorted") [.ref l] [(Str.ofString "key", .ref f)]) _ _ s2
  have hl2 := extN_seqL x12 hl
  obtain ⟨its, rvs, pl, hz⟩ := I2.list hl2
  have C2 : ∀ s3 : Shared, Inv X pins σ H2 s3 → CellsAt (cloFrom X.env.cells scope.names []) fr (js.map (slotAt σ)) s3.heap H2 := fun s3 I3 => cells_of I3 (Caps.made I3.ok hfree hfr hjs)
  refine sorted_byKey (fs := frs X.stack) key pl.isList (each_vals rvs) hal hsk hz I2.bare (fun b hb z => ?_) (fun x hx => ?_) (fun u x rx hx s3 k3 => ?_) fun out cN s3 k3 atP lenO each => ?_
  · -- what is new is no frame
    rcases List.mem_cons.mp (I2.stkSub _ z) with e1 | e1
    · have h1 := I2.lt
      rw [← e1] at h1
      exact Nat.lt_irrefl _ (Nat.lt_of_lt_of_le h1 hb)
    · exact I2.nofs hb e1
  · have h1 := hr.un
    have h2 := hdp x hx
    omega
  · -- one key
    have I3 := inv_kst I2 k3
    have e0 := env0_lock I3
    have Cl := C2 s3 I3
    have Cl2 : CellsAt (cloFrom X.env.cells scope.names []) fr (js.map (slotAt σ)) s3.heap (lockH H2 s3.heap) := ⟨Cl.len, fun y b q => ⟨lock_none (Cl.all y b q).1, (Cl.all y b q).2⟩, Cl.inj, Cl.has⟩
    have atF3 := (k3.keep f _ atF).1 nF
    have code3 : s3.heap.CodeRec (.ref c') (X.env.qual ++ "<lambda>") := codeO_at I3.hok atC
    have hr2 : Room (k + 1) X.A.in1.in1 := Room.in1 (Room.in1 hr)
    have run := lam_run (P := X.prog) (w := X.w) (k := k) (x := x) (u := u) (tb := tb) S hr2 e0 atF3 code3 (hbind _ _ _ _ _ _) Cl2 rx (fun r => hbody _ _ _ _ _ _ _ _ r) (hkey H2 _ x12 (locked_of I3.hok) x hx)
    refine wpAny_call (codeAny_mono run fun r s4 hq4 => ?_)
    cases r with
    | error e => exact False.elim hq4
    | ok fl =>
      cases fl with
      | ret u4 =>
        obtain ⟨v4, H4, os4, bare4, un4, hok4, rel4, kd4⟩ := hq4
        have k4 := kst_of (lock_ok I3.hok) os4 bare4 un4 hok4
        have I4 := inv_kst I3 k4
        exact ⟨k4, kd_reads hok4 I4.kIn kd4 rel4⟩
      | next => exact False.elim hq4
      | brk => exact False.elim hq4
      | cont => exact False.elim hq4
  · -- the sorted list is new
    have I3 := inv_kst I2 k3
    have np : H2 (s2.heap.objs.size + 1) = none := I2.hok.fresh (Nat.le_succ _)
    have lenX : (xs.mergeSort (dataLe false key)).length ≤ sizeLine := by
      rw [List.length_mergeSort]
      exact hz
    have off : ∀ b u, H2 b = some u → b ∉ frs X.stack := fun b u e z => by
      rw [I2.stkFree b z] at e
      cases e
    have ne : ∀ b u, H2 b = some u → b ≠ s2.heap.objs.size + 1 := fun b u e => ne_of_none e np
    refine ⟨.ref _, upd H2 (s2.heap.objs.size + 1) (.lst (xs.mergeSort (dataLe false key))), ?_, rfl, hq H2 _ x12 hT2 np⟩
    refine I2.call' (ch := []) k3.os ⟨fun b o e _ nb _ => (k3.keep b o e).1 nb, fun b o e _ _ _ => (k3.keep b o e).2, fun b o e n _ => ?_, fun b o e _ => ?_, fun b ys e => by rw [upd_ne (ne b _ e)]; exact e,
      fun b o u e => by rw [upd_ne (ne b _ e)]; exact e, fun b ps e => ⟨#[], by rw [upd_ne (ne b _ e), e]; simp⟩⟩ (fun b u e => ?_) k3.bare fun b z => absurd z (by simp)
    · rw [upd_ne (Nat.ne_of_lt (Nat.lt_succ_of_lt (Heap.lt_size e)))]
      exact n
    · obtain ⟨sl, q⟩ := (k3.keep b o e).2
      exact ⟨_, q⟩
    · by_cases hb : b = s2.heap.objs.size + 1
      · subst hb
        rw [upd_same] at e
        cases e
        exact ⟨lenX, out, cN, vals_each each, atP⟩
      · rw [upd_ne hb] at e
        refine (I2.hok b u e).stay (fun d v hd q => (k3.keep d v q).1 ?_) (fun d q => by rw [upd_ne (ne d _ q)]; exact q) fun d ys q => by rw [upd_ne (ne d _ q)]; exact q
        rcases hd with rfl | hd
        · exact off _ _ e
        · exact off _ _ hd
end
end Fl

set_option Elab.async false
set_option maxRecDepth 100000
set_option maxHeartbeats 2000000
/-! FlMax: max(xs, key=f), f a def of the program: the first of those whose key (a whole number) is the greatest. -/
namespace Fl
open PySem PySem.Spec PyProof.Rows L2
/-- one is better than another: its key is greater -/
def btOf (key : V → Int) (vs : List V) : Nat → Nat → Bool := fun i j => decide ((vs[i]?.map key).getD 0 > (vs[j]?.map key).getD 0)
def rMaxKey (K : PySem.W.Frag) (sp : Sp) (f : Addr) : List V → List V → Hp → VK → Prop := fun xs zs H Q => ∃ (l : Addr) (vs : List V) (key : V → Int), xs = [.ref l] ∧ zs = [.ref f] ∧ SqL K H l vs ∧ 0 < vs.length ∧
  (∀ HL, Locked K H HL → ∀ v ∈ vs, sp [v] HL (fun r _ => r = .int (key v)) L2.E0) ∧ ∀ v, vs[argBest (btOf key vs) (vs.length - 1)]? = some v → Q v H
section
variable {X : Cx} {pins : List (Addr × Obj)} {σ : L2.St} {H : Hp} {s s' : Shared}
theorem env0_lock1 (I : Inv X pins σ H s) : Env0 X.prog X.w X.K X.mg X.base X.A.in1 X.stack s (lockH H s.heap) := by
  have e := I.env0
  exact ⟨e.frames, e.mod, fun b o q => ⟨(e.bs b o q).1, lock_none (e.bs b o q).2⟩, e.bsz, e.funs, fun b q => lock_none (e.frf b q), lock_ok e.hok, e.bare⟩
theorem vals_at : ∀ {xs : List V} {us : List Value}, Vals xs us → ∀ {i : Nat} {u : Value}, us[i]? = some u → ∃ x, xs[i]? = some x ∧ RelV x u
  | _, _, .nil, i, u, h => by cases h
  | _, _, .cons (a := x) r t, 0, u, h => ⟨x, rfl, by cases h; exact r⟩
  | _, _, .cons r t, i + 1, u, h => vals_at t (i := i) h
theorem vals_len : ∀ {xs : List V} {us : List Value}, Vals xs us → us.length = xs.length
  | _, _, .nil => rfl
  | _, _, .cons _ t => congrArg (· + 1) (vals_len t)
theorem isList_keepF {fs : List Addr} {h h' : Heap} (k : KeepF fs h h') {l : Addr} {items : Array Value} (x : h.IsList l items) : h'.IsList l items := by
  obtain ⟨o, e, c, n, d⟩ := x
  obtain ⟨_, sl, e'⟩ := k l o e
  exact ⟨_, e', c, n, d⟩
theorem isIter_keepF {fs : List Addr} {h h' : Heap} (k : KeepF fs h h') {l a : Addr} {i : Nat} (x : h.IsListIter a l i) : h'.IsListIter a l i := by
  obtain ⟨o, e, c, d⟩ := x
  obtain ⟨_, sl, e'⟩ := k a o e
  exact ⟨_, e', c, d⟩
end
theorem cr_maxKey {X : Cx} {k : Nat} {f : Addr} {fd : FuncData} {p : Str} {sp : Sp} (hc : X.calm = true) (F : FnOk X.prog X.w X.K X.mg X.base L2.CX0 k f fd [p] sp) (hb : Binds X.K fd [p] []) (hr : Room (k + 1) X.A) : CallRK X (.builtin "max") [Str.ofString "key"] (rMaxKey X.K sp f) := by
  intro pins s σ H xs zs us ws Q I rv rz h
  obtain ⟨l, vs, key, rfl, rfl, hl, ne, hk, fin⟩ := h
  rw [Vals.ref1 rv, Vals.ref1 rz]
  show wpAny _ _ (call (.builtin "max") [.ref l] [(Str.ofString "key", .ref f)]) _ _ s
  obtain ⟨its, rvs, pl, hz⟩ := I.list hl
  have lenI : its.length = vs.length := vals_len rvs
  have hls := pl.isList
  have ll : l < s.heap.objs.size := by
    obtain ⟨o, e, _⟩ := hls
    exact Heap.lt_size e
  have notFr : ∀ b, s.heap.objs.size ≤ b → b ∉ frs X.stack := fun b hb z => by
    rcases List.mem_cons.mp (I.stkSub _ z) with e1 | e1
    · have h1 := I.lt
      rw [← e1] at h1
      exact Nat.lt_irrefl _ (Nat.lt_of_lt_of_le h1 hb)
    · exact I.nofs hb e1
  refine call_max_walkK ?_
  refine wpAny_pyIter_list hls ?_
  have hne : l ≠ s.heap.objs.size := Nat.ne_of_lt ll
  have szS : (s.heap.push { cls := .type "list_iterator", data := .fields #[.ref l, .int 0 0] }).objs.size = s.heap.objs.size + 1 := size_push' ..
  have W := (Walks.list (prog := X.prog) (w := X.w) (A := X.A.in1) (I.ok.hd hc) s.heap.objs.size l hne its.toArray).toS
  have J0 : Kst (frs X.stack) s { s with heap := s.heap.push { cls := .type "list_iterator", data := .fields #[.ref l, .int 0 0] } } := ⟨rfl, I.bare, KeepF.all fun b o e => Heap.get?_push_of_some _ e⟩
  have sz : its.toArray.size = vs.length := by rw [List.size_toArray, lenI]
  refine ⟨s.heap.objs.size, _, _, _, _, _, _, Kst (frs X.stack) s, fun i kv _ => ∃ t, kv = .int ((vs[i]?.map key).getD 0) t, btOf key vs, rfl, W, ⟨⟨_, Heap.get?_push_size _ rfl, rfl, rfl⟩, ?_⟩, ?_, by rw [sz]; exact ne, ?_, J0, ?_⟩
  · obtain ⟨o, e, c, n, d⟩ := hls
    exact ⟨o, Heap.get?_push_of_some _ e, c, n, d⟩
  · intro b hb
    rcases List.mem_cons.mp hb with e | e
    · rw [e]
      show s.heap.objs.size < (s.heap.push { cls := .type "list_iterator", data := .fields #[.ref l, .int 0 0] }).objs.size
      rw [szS]
      exact Nat.lt_succ_self _
    · rw [List.mem_singleton.mp e]
      show l < (s.heap.push { cls := .type "list_iterator", data := .fields #[.ref l, .int 0 0] }).objs.size
      rw [szS]
      exact Nat.lt_succ_of_lt ll
  · refine ⟨fun a b j m => ⟨m.os.trans j.os, by rw [m.gens]; exact j.bare, fun c o e => ?_⟩, fun _ _ _ _ v _ => v, fun i v s1 o Q' E' hi hP hJ hSt hS hQ => ?_, fun i j ki kj s1 Q' E' _ hi hj hq => ?_⟩
    · have lt := Heap.lt_size e
      have nc : c ∉ (s.heap.push { cls := .type "list_iterator", data := .fields #[.ref l, .int 0 0] }).objs.size :: [s.heap.objs.size] := fun z => by
        rcases List.mem_cons.mp z with q | q
        · rw [q, szS] at lt
          exact absurd lt (Nat.not_lt.mpr (Nat.le_succ _))
        · rw [List.mem_singleton.mp q] at lt
          exact Nat.lt_irrefl _ lt
      obtain ⟨g1, sl, g2⟩ := j.keep c o e
      exact ⟨fun n => m.heap c _ nc (g1 n), sl, m.heap c _ nc g2⟩
    · -- one key
      have hv : its[i]? = some v := by simpa using hP
      obtain ⟨x, hx, rx⟩ := vals_at rvs hv
      have I1 := inv_kst I hJ
      have e0 := env0_lock1 I1
      have run := F.run X.A.in1 X.stack s1 (lockH H s1.heap) ⟨[v], []⟩ [v] [x] _ _ (Room.in1 hr) e0 (hb s1 [v] I1.kIn rfl) (.cons rx .nil) (hk _ (locked_of I1.hok) x (List.mem_of_getElem? hx))
      refine wpAny_call (codeAny_mono run fun r s4 hq4 => ?_)
      cases r with
      | error e => exact False.elim hq4
      | ok fl =>
        cases fl with
        | ret u4 =>
          obtain ⟨v4, H4, os4, bare4, un4, hok4, rel4, kd4⟩ := hq4
          have k4 := kst_of (lock_ok I1.hok) os4 bare4 un4 hok4
          refine hQ u4 s4 (hJ.trans k4) ⟨isIter_keepF k4.keep hSt.1, isList_keepF k4.keep hSt.2⟩ ((k4.keep _ _ hS).1 (notFr _ (by show s.heap.objs.size ≤ (s.heap.push { cls := .type "list_iterator", data := .fields #[.ref l, .int 0 0] }).objs.size; rw [szS]; exact Nat.le_succ _))) ?_ fun _ _ q => q
          subst kd4
          obtain ⟨t, rfl⟩ := rel4
          rw [hx]
          exact ⟨t, rfl⟩
        | next => exact False.elim hq4
        | brk => exact False.elim hq4
        | cont => exact False.elim hq4
    · exact CmpOf.ints_gt (prog := X.prog) (w := X.w) (A := X.A.in1) (P := fun i v => ∃ t, v = .int ((vs[i]?.map key).getD 0) t) (fun i => (vs[i]?.map key).getD 0) (fun i v h => h) i j ki kj s1 Q' E' hi hj hq
  · intro v s1 hP hJ
    rw [sz] at hP
    have hv : its[argBest (btOf key vs) (vs.length - 1)]? = some v := by simpa using hP
    obtain ⟨x, hx, rx⟩ := vals_at rvs hv
    exact ⟨x, H, inv_kst I hJ, rx, fin x hx⟩
end Fl

set_option Elab.async false
set_option maxRecDepth 100000
set_option maxHeartbeats 2000000
/-! FlTab: a set's table laid anew: every element finds a slot, none is lost. -/
namespace Fl
open PySem L2
/-! ### the slots that are looked at -/
def leaps (m : Nat) : Nat → Nat → Nat → Nat × Nat
  | 0, i, b => (i, b)
  | n + 1, i, b => leaps m n (SetTable.leap m i b).1 (SetTable.leap m i b).2
theorem leaps_add (m : Nat) : ∀ (a n i b : Nat), leaps m (a + n) i b = leaps m n (leaps m a i b).1 (leaps m a i b).2
  | 0, n, i, b => by rw [Nat.zero_add]; rfl
  | a + 1, n, i, b => by
    rw [Nat.succ_add]
    exact leaps_add m a n _ _
theorem leap_at_most (m i b : Nat) : (SetTable.leap m i b).1 ≤ m := Nat.le_of_lt_succ (Nat.mod_lt _ (Nat.succ_pos m))
theorem leaps_at_most (m : Nat) : ∀ (n i b : Nat), i ≤ m → (leaps m n i b).1 ≤ m
  | 0, _, _, h => h
  | n + 1, i, b, _ => leaps_at_most m n _ _ (leap_at_most m i b)
theorem leaps_snd (m : Nat) : ∀ (n i b : Nat), (leaps m n i b).2 = b / 32 ^ n
  | 0, _, b => by simp [leaps]
  | n + 1, i, b => by
    show (leaps m n _ _).2 = _
    rw [leaps_snd m n]
    show b / 32 / 32 ^ n = _
    rw [Nat.div_div_eq_div_mul, Nat.pow_succ, Nat.mul_comm]
/-- the slots from i on, where nothing perturbs -/
def orb (m : Nat) : Nat → Nat → List Nat
  | 0, _ => []
  | n + 1, i => i :: orb m n ((i * 5 + 1) % (m + 1))
theorem orb_leaps (m : Nat) : ∀ (n i j : Nat), j ∈ orb m n i → ∃ k, k < n ∧ (leaps m k i 0).1 = j
  | 0, _, _, h => by cases h
  | n + 1, i, j, h => by
    rcases List.mem_cons.mp h with e | e
    · exact ⟨0, Nat.succ_pos n, e.symm⟩
    · obtain ⟨k, hk, q⟩ := orb_leaps m n _ j e
      refine ⟨k + 1, Nat.succ_lt_succ hk, ?_⟩
      show (leaps m k (SetTable.leap m i 0).1 (SetTable.leap m i 0).2).1 = j
      have e1 : (SetTable.leap m i 0).1 = (i * 5 + 1) % (m + 1) := by simp [SetTable.leap]
      have e2 : (SetTable.leap m i 0).2 = 0 := by simp [SetTable.leap]
      rw [e1, e2]
      exact q
def orbAll (m : Nat) : Bool := ((List.range (m + 1)).all fun j => (orb m (m + 1) 0).contains j) && (leaps m (m + 1) 0 0).1 == 0
def GoodMask (m : Nat) : Prop := m = 7 ∨ m = 15 ∨ m = 31 ∨ m = 63 ∨ m = 127
theorem orbAll_7 : orbAll 7 = true := by decide +kernel
theorem orbAll_15 : orbAll 15 = true := by decide +kernel
theorem orbAll_31 : orbAll 31 = true := by decide +kernel
theorem orbAll_63 : orbAll 63 = true := by decide +kernel
theorem orbAll_127 : orbAll 127 = true := by decide +kernel
theorem good_orb {m : Nat} (h : GoodMask m) : orbAll m = true := by
  rcases h with rfl | rfl | rfl | rfl | rfl
  · exact orbAll_7
  · exact orbAll_15
  · exact orbAll_31
  · exact orbAll_63
  · exact orbAll_127
theorem still_met {m : Nat} (h : GoodMask m) {i j : Nat} (hi : i ≤ m) (hj : j ≤ m) : ∃ k, k < m + 1 ∧ (leaps m k i 0).1 = j := by
  have q := good_orb h
  unfold orbAll at q
  rw [Bool.and_eq_true] at q
  have from0 : ∀ x, x ≤ m → ∃ k, k < m + 1 ∧ (leaps m k 0 0).1 = x := fun x hx => orb_leaps m (m + 1) 0 x (by simpa using List.all_eq_true.mp q.1 x (List.mem_range.mpr (Nat.lt_succ_of_le hx)))
  have round : (leaps m (m + 1) 0 0).1 = 0 := by simpa using q.2
  have still : ∀ n i, (leaps m n i 0).2 = 0 := fun n i => by rw [leaps_snd]; simp
  obtain ⟨a, ha, ea⟩ := from0 i hi
  obtain ⟨c, hc, ec⟩ := from0 j hj
  have go : ∀ k, (leaps m k i 0).1 = (leaps m (a + k) 0 0).1 := fun k => by rw [leaps_add, still, ea]
  by_cases l : a ≤ c
  · refine ⟨c - a, by omega, ?_⟩
    rw [go, show a + (c - a) = c by omega]
    exact ec
  · refine ⟨c + (m + 1) - a, by omega, ?_⟩
    rw [go, show a + (c + (m + 1) - a) = (m + 1) + c by omega, leaps_add, still, round]
    exact ec
theorem all_met {m : Nat} (h : GoodMask m) {i j b : Nat} (hi : i ≤ m) (hj : j ≤ m) (hb : b < 2 ^ 64) : ∃ n, n < SetTable.turns m ∧ (leaps m n i b).1 = j := by
  obtain ⟨k, hk, e⟩ := still_met h (leaps_at_most m 13 i b hi) hj
  refine ⟨13 + k, by unfold SetTable.turns; omega, ?_⟩
  have z : b / 32 ^ 13 = 0 := Nat.div_eq_of_lt (Nat.lt_of_lt_of_le hb (by decide))
  rw [leaps_add, leaps_snd, z]
  exact e
/-! ### a free slot is found -/
theorem run_end {m i : Nat} (h : i ≤ m) : i ≤ SetTable.runEnd m i ∧ SetTable.runEnd m i ≤ m := by
  unfold SetTable.runEnd
  split <;> omega
theorem free_finds {m : Nat} {owner : Array (Option Nat)} : ∀ (fuel n i b : Nat), n < fuel → i ≤ m → owner.getD (leaps m n i b).1 (some 0) = none →
    ∃ j, SetTable.layClean.free m owner fuel i b = some j ∧ j ≤ m ∧ owner.getD j (some 0) = none
  | 0, _, _, _, h, _, _ => absurd h (Nat.not_lt_zero _)
  | fuel + 1, n, i, b, hn, hi, he => by
    obtain ⟨r1, r2⟩ := run_end hi
    unfold SetTable.layClean.free
    cases e : (List.range (SetTable.runEnd m i + 1 - i)).find? fun k => (owner.getD (i + k) (some 0)).isNone with
    | some k =>
      have hm := List.mem_range.mp (List.mem_of_find?_eq_some e)
      have hk := List.find?_some e
      refine ⟨i + k, rfl, by omega, ?_⟩
      cases z : owner.getD (i + k) (some 0) with
      | none => rfl
      | some v =>
        have hk' : (owner.getD (i + k) (some 0)).isNone = true := hk
        rw [z] at hk'
        cases hk'
    | none =>
      have h0 := List.find?_eq_none.mp e 0 (List.mem_range.mpr (by omega))
      cases n with
      | zero =>
        have he' : owner.getD i (some 0) = none := he
        rw [Nat.add_zero, he'] at h0
        exact absurd rfl h0
      | succ n => exact free_finds fuel n _ _ (Nat.lt_of_succ_lt_succ hn) (leap_at_most m i b) he
/-! ### all laid -/
structure Lay (m k : Nat) (owner : Array (Option Nat)) : Prop where
  sz : owner.size = m + 1
  le : ∀ j v, owner.getD j none = some v → v < k
  all : ∀ v, v < k → ∃ j, j ≤ m ∧ owner.getD j none = some v
  inj : ∀ i j v, owner.getD i none = some v → owner.getD j none = some v → i = j
theorem getD_two {owner : Array (Option Nat)} {j : Nat} (h : j < owner.size) (d e : Option Nat) : owner.getD j d = owner.getD j e := by
  rw [Array.getD_eq_getD_getElem?, Array.getD_eq_getD_getElem?, Array.getElem?_eq_getElem h]
  rfl
theorem Lay.free {m k : Nat} {owner : Array (Option Nat)} (L : Lay m k owner) (hk : k ≤ m) : ∃ j, j ≤ m ∧ owner.getD j none = none := by
  refine Classical.byContradiction fun no => ?_
  have taken : ∀ j, j ≤ m → ∃ v, owner.getD j none = some v := fun j hj => by
    cases e : owner.getD j none with
    | none => exact absurd ⟨j, hj, e⟩ no
    | some v => exact ⟨v, rfl⟩
  have nd : ((List.range (m + 1)).map fun j => (owner.getD j none).getD 0).Nodup := by
    unfold List.Nodup
    rw [List.pairwise_map]
    refine (List.Pairwise.and_mem.mp (List.pairwise_lt_range (n := m + 1))).imp fun {a b} ⟨ha, hb, lt⟩ q => ?_
    obtain ⟨u, hu⟩ := taken a (Nat.le_of_lt_succ (List.mem_range.mp ha))
    obtain ⟨v, hv⟩ := taken b (Nat.le_of_lt_succ (List.mem_range.mp hb))
    rw [hu, hv] at q
    have q' : u = v := q
    subst q'
    exact absurd (L.inj a b u hu hv) (Nat.ne_of_lt lt)
  have len := nat_nodup_len _ (List.range k) nd fun x hx => by
    obtain ⟨j, hj, e⟩ := List.mem_map.mp hx
    obtain ⟨v, hv⟩ := taken j (Nat.le_of_lt_succ (List.mem_range.mp hj))
    rw [hv] at e
    have e' : v = x := e
    exact List.mem_range.mpr (e' ▸ L.le j v hv)
  rw [List.length_map, List.length_range, List.length_range] at len
  omega
theorem Lay.one {m k : Nat} {owner : Array (Option Nat)} (g : GoodMask m) (L : Lay m k owner) (hk : k ≤ m) (h : Int) :
    ∃ j, SetTable.layClean.free m owner (SetTable.turns m) (SetTable.bits h % (m + 1)) (SetTable.bits h) = some j ∧ Lay m (k + 1) (owner.setIfInBounds j (some k)) := by
  obtain ⟨j0, hj0, e0⟩ := L.free hk
  have hi : SetTable.bits h % (m + 1) ≤ m := Nat.le_of_lt_succ (Nat.mod_lt _ (Nat.succ_pos m))
  obtain ⟨n, hn, en⟩ := all_met g hi hj0 (bits_lt h)
  have e0' : owner.getD (leaps m n (SetTable.bits h % (m + 1)) (SetTable.bits h)).1 (some 0) = none := by
    rw [en, getD_two (by rw [L.sz]; omega) (some 0) none]
    exact e0
  obtain ⟨j, f1, f2, f3⟩ := free_finds (SetTable.turns m) n _ _ hn hi e0'
  have hjs : j < owner.size := by rw [L.sz]; omega
  have fj : owner.getD j none = none := by rw [getD_two hjs none (some 0)]; exact f3
  have at_ : ∀ i, (owner.setIfInBounds j (some k)).getD i none = if i = j then some k else owner.getD i none := fun i => by
    by_cases c : i = j
    · subst c
      rw [if_pos rfl, Array.getD_eq_getD_getElem?, Array.getElem?_setIfInBounds, if_pos rfl, if_pos hjs]
      rfl
    · rw [if_neg c, Array.getD_eq_getD_getElem?, Array.getElem?_setIfInBounds, if_neg (fun z => c z.symm), ← Array.getD_eq_getD_getElem?]
  refine ⟨j, f1, ⟨by rw [Array.size_setIfInBounds]; exact L.sz, fun i v q => ?_, fun v hv => ?_, fun i i' v q q' => ?_⟩⟩
  · rw [at_] at q
    split at q
    · cases q
      exact Nat.lt_succ_self k
    · exact Nat.lt_succ_of_lt (L.le i v q)
  · by_cases c : v = k
    · exact ⟨j, f2, by rw [at_, if_pos rfl, c]⟩
    · obtain ⟨i, hi', q⟩ := L.all v (by omega)
      refine ⟨i, hi', ?_⟩
      rw [at_, if_neg (fun z => by rw [z, fj] at q; cases q)]
      exact q
  · rw [at_] at q q'
    split at q <;> split at q'
    · rename_i a b; rw [a, b]
    · cases q
      exact absurd (L.le _ _ q') (Nat.lt_irrefl _)
    · cases q'
      exact absurd (L.le _ _ q) (Nat.lt_irrefl _)
    · exact L.inj i i' v q q'
theorem lay_fold {m : Nat} (g : GoodMask m) : ∀ (hs : List Int) (k : Nat) (owner : Array (Option Nat)), Lay m k owner → k + hs.length ≤ m →
    ∃ owner', hs.foldl (stepF m) (some (owner, k)) = some (owner', k + hs.length) ∧ Lay m (k + hs.length) owner'
  | [], k, owner, L, _ => ⟨owner, rfl, L⟩
  | h :: hs, k, owner, L, hl => by
    rw [List.length_cons] at hl
    obtain ⟨j, e, L1⟩ := L.one g (by omega) h
    obtain ⟨owner', f, L2⟩ := lay_fold g hs (k + 1) _ L1 (by omega)
    have ek : k + 1 + hs.length = k + (h :: hs).length := by rw [List.length_cons]; omega
    rw [ek] at f L2
    exact ⟨owner', by rw [List.foldl_cons, stepF_some e]; exact f, L2⟩
theorem lay_start (m : Nat) : Lay m 0 (Array.replicate (m + 1) none) := by
  have z : ∀ j, (Array.replicate (m + 1) (none : Option Nat)).getD j none = none := fun j => by
    rw [Array.getD_eq_getD_getElem?, Array.getElem?_replicate]
    split <;> rfl
  exact ⟨by simp, fun j v q => (by rw [z] at q; cases q), fun v hv => absurd hv (Nat.not_lt_zero _), fun i j v q _ => (by rw [z] at q; cases q)⟩
/-- the table laid for the hashes hs: each place of hs stands in it once -/
theorem laid_ok {m : Nat} (g : GoodMask m) {hs : Array Int} (hn : hs.size ≤ m) (finger moves : Nat) (led plain : Bool) :
    ∃ t order, SetTable.laid m finger moves led plain hs = some (t, order) ∧ order.toList.Perm (List.range hs.size) ∧ Ris t.place.toList ∧ t.place.size = hs.size ∧ t.dummies = #[] ∧ t.mask = m ∧ t.led = led := by
  obtain ⟨owner, f, L⟩ := lay_fold g hs.toList 0 _ (lay_start m) (by rw [Array.length_toList]; omega)
  rw [Nat.zero_add, Array.length_toList] at f L
  have c : SetTable.layClean m hs = some owner := by
    rw [layClean_eq, f]
    rfl
  have ris := ris_live (fun j => owner.getD j none) (List.range (m + 1)) (by unfold Ris; exact List.pairwise_lt_range)
  have mem : ∀ {j v : Nat}, (j, v) ∈ liveOf m owner ↔ j ≤ m ∧ owner.getD j none = some v := fun {j v} => by
    unfold liveOf
    rw [List.mem_filterMap]
    constructor
    · rintro ⟨a, ha, q⟩
      obtain ⟨x, hx, ex⟩ := Option.map_eq_some_iff.mp q
      cases ex
      exact ⟨Nat.le_of_lt_succ (List.mem_range.mp ha), hx⟩
    · rintro ⟨hj, q⟩
      exact ⟨j, List.mem_range.mpr (Nat.lt_succ_of_le hj), by rw [q]; rfl⟩
  have all : ∀ v, v < hs.size → v ∈ (liveOf m owner).map (·.2) := fun v hv => by
    obtain ⟨j, hj, q⟩ := L.all v hv
    exact List.mem_map.mpr ⟨(j, v), mem.mpr ⟨hj, q⟩, rfl⟩
  have nd1 : ((liveOf m owner).map (·.1)).Nodup := List.Pairwise.imp (fun h => Nat.ne_of_lt h) ris.1
  have len : (liveOf m owner).length = hs.size := by
    have a := nat_nodup_len (List.range hs.size) ((liveOf m owner).map (·.2)) List.nodup_range fun v hv => all v (List.mem_range.mp hv)
    have nd2 : ((liveOf m owner).map (·.2)).Nodup := by
      unfold List.Nodup at nd1 ⊢
      rw [List.pairwise_map] at nd1 ⊢
      refine (List.Pairwise.and_mem.mp nd1).imp fun {p q} ⟨hp, hq, ne⟩ e => ne ?_
      exact L.inj _ _ _ (mem.mp hp).2 (e ▸ (mem.mp hq).2)
    have b := nat_nodup_len _ (List.range hs.size) nd2 fun x hx => by
      obtain ⟨p, hp, e⟩ := List.mem_map.mp hx
      exact List.mem_range.mpr (e ▸ L.le _ _ (mem.mp hp).2)
    rw [List.length_range, List.length_map] at a
    rw [List.length_range, List.length_map] at b
    omega
  refine ⟨{ mask := m, place := ((liveOf m owner).map (·.1)).toArray, dummies := #[], finger, led, moves, plain }, ((liveOf m owner).map (·.2)).toArray, ?_, ?_, ris.1, ?_, rfl, rfl, rfl⟩
  · unfold SetTable.laid
    rw [c]
    rfl
  · exact perm_range hs.size _ (by rw [List.length_map]; exact len) all
  · rw [List.size_toArray, List.length_map]
    exact len
theorem order_perm {α : Type} (es : Array α) (order : Array Nat) (h : order.toList.Perm (List.range es.size)) : (order.filterMap (es[·]?)).toList.Perm es.toList := by
  have e : (List.range es.size).filterMap (fun i => es[i]?) = es.toList := by
    have q : ∀ n, n ≤ es.size → (List.range n).filterMap (fun i => es[i]?) = es.toList.take n := fun n => by
      induction n with
      | zero => intro _; rfl
      | succ n ih =>
        intro hn
        have en : es[n]? = some es[n] := Array.getElem?_eq_getElem (by omega)
        rw [List.range_succ, List.filterMap_append, ih (by omega), List.take_add_one]
        simp [en]
    rw [q es.size (Nat.le_refl _)]
    exact List.take_of_length_le (by simp)
  rw [Array.toList_filterMap]
  exact (h.filterMap _).trans (by rw [e])
end Fl

set_option Elab.async false
set_option maxRecDepth 100000
set_option maxHeartbeats 2000000
/-! FlSetA: sets of ints: walked, an element dropped, one merged into an empty one. -/
namespace Fl
open PySem PySem.Spec PyProof.Rows L2
/-- the set of ints at a: its entries, its table -/
structure SetX (w : World) (h : Heap) (a : Addr) (es : Array (Int × Value)) (ep : Nat) (t : SetTable) : Prop where
  obj : ∃ o, h.get? a = some o ∧ o.ExactSet ∧ o.data = .set es ep t
  good : ∀ e ∈ es.toList, GoodE e
  nd : (es.toList.map keyOf).Nodup
  few : es.size < scanBound
  fits : t.fits es.size = true
  ris : Ris t.place.toList
  led : w.params.followText "set-order" = true ∨ t.led = true
theorem setR_x {w : World} {h : Heap} {a : Addr} {S : Int → Bool} {n : Nat} (R : SetR w h a S n) : ∃ es ep t, SetX w h a es ep t ∧ (∀ k, S k = true ↔ k ∈ es.toList.map keyOf) ∧ es.size = n := by
  obtain ⟨o, es, ep, t, ho, hex, hd, g, nd, hm, hb, hf, hn, hr, hl⟩ := R
  exact ⟨es, ep, t, ⟨⟨o, ho, hex, hd⟩, g, nd, hb, hf, hr, hl⟩, hm, hn⟩
theorem SetX.r {w : World} {h : Heap} {a : Addr} {es : Array (Int × Value)} {ep : Nat} {t : SetTable} (X : SetX w h a es ep t) {S : Int → Bool} (hm : ∀ k, S k = true ↔ k ∈ es.toList.map keyOf) : SetR w h a S es.size := by
  obtain ⟨o, ho, hex, hd⟩ := X.obj
  exact ⟨o, es, ep, t, ho, hex, hd, X.good, X.nd, hm, X.few, X.fits, rfl, X.ris, X.led⟩
theorem SetX.keep {w : World} {h h' : Heap} {a : Addr} {es : Array (Int × Value)} {ep : Nat} {t : SetTable} (X : SetX w h a es ep t) (k : ∀ o, h.get? a = some o → h'.get? a = some o) : SetX w h' a es ep t := by
  obtain ⟨o, ho, r⟩ := X.obj
  exact ⟨⟨o, k o ho, r⟩, X.good, X.nd, X.few, X.fits, X.ris, X.led⟩
/-- loops -/
theorem forIn_same {M : Model} {A : Around} {E : Value → Shared → Prop} {s : Shared} {α β : Type} {Q : β → Shared → Prop} {init : β} {body : α → β → Sem (ForInStep β)} : ∀ (l : List α),
    (∀ x ∈ l, ∀ R : ForInStep β → Shared → Prop, R (.yield init) s → wpAny M A (body x init) R E s) → Q init s → wpAny M A (forIn l init body) Q E s
  | [], _, h => by
    rw [List.forIn_nil]
    exact wpAny_pure h
  | x :: l, hb, h => by
    rw [List.forIn_cons]
    refine wpAny_bind (hb x (List.mem_cons_self ..) _ ?_)
    exact forIn_same l (fun y hy => hb y (List.mem_cons_of_mem _ hy)) h
theorem forIn_steps {M : Model} {A : Around} {E : Value → Shared → Prop} {α : Type} {Q : PUnit → Shared → Prop} {body : α → PUnit → Sem (ForInStep PUnit)} (I : Nat → Shared → Prop) : ∀ (l : List α) (i : Nat) (s : Shared), I i s →
    (∀ (j : Nat) (x : α) (s' : Shared), l[j]? = some x → I (i + j) s' → wpAny M A (body x ⟨⟩) (fun r s2 => r = .yield ⟨⟩ ∧ I (i + j + 1) s2) E s') → (∀ s', I (i + l.length) s' → Q ⟨⟩ s') → wpAny M A (forIn l PUnit.unit body) Q E s
  | [], i, s, h, _, fin => by
    rw [List.forIn_nil]
    exact wpAny_pure (fin s h)
  | x :: l, i, s, h, one, fin => by
    rw [List.forIn_cons]
    refine wpAny_bind (thn (one 0 x s rfl h) fun r s2 hq => ?_)
    obtain ⟨rfl, hq⟩ := hq
    have e : ∀ j, i + (j + 1) = i + 1 + j := fun j => by omega
    refine forIn_steps I l (i + 1) s2 hq (fun j y s' hy hj => ?_) fun s' hs => fin s' (by rw [List.length_cons, e]; exact hs)
    have q := one (j + 1) y s' hy (by rw [e]; exact hj)
    rw [e] at q
    exact q
section
variable {P : Program} {w : World} {A : Around} {E : Value → Shared → Prop} {s : Shared} {a f : Addr} {es ef : Array (Int × Value)} {ep epf : Nat} {t tf : SetTable}
theorem state_at (X : SetX w s.heap a es ep t) {Q : (Array (Int × Value) × Nat × SetTable) → Shared → Prop} (h : Q (es, ep, t) s) : wpAny (model P w) A (setState a) Q E s := by
  obtain ⟨o, ho, _, hd⟩ := X.obj
  exact wpAny_setState_of ho hd X.fits h
theorem epoch_at (X : SetX w s.heap a es ep t) {Q : Nat → Shared → Prop} (h : Q ep s) : wpAny (model P w) A (setEpoch a) Q E s := by
  unfold setEpoch
  exact wpAny_bind (state_at X (wpAny_pure h))
theorem entries_at (X : SetX w s.heap a es ep t) {Q : Array (Int × Value) → Shared → Prop} (h : Q es s) : wpAny (model P w) A (setEntries a) Q E s := by
  unfold setEntries
  exact wpAny_bind (state_at X (wpAny_pure h))
/-- in some order -/
theorem walk_at (X : SetX w s.heap a es ep t) {Q : Array (Int × Value) → Shared → Prop} (h : ∀ (out : Array (Int × Value)) (d : Drawn), out.toList.Perm es.toList → Q out { s with drawn := d }) : wpAny (model P w) A (setWalk a) Q E s := by
  unfold setWalk
  refine wpAny_bind (state_at X ?_)
  dsimp only
  refine wpAny_bind (wpAny_byText ?_)
  cases bt : w.params.followText "set-order" with
  | true =>
    refine wp_if_pos rfl ?_
    exact wpAny_bind (wpAny_askSetting (wpAny_pure (h _ s.drawn (pick_perm _ es))))
  | false =>
    have hl : t.led = true := X.led.resolve_left (by rw [bt]; exact Bool.false_ne_true)
    refine wp_if_neg Bool.false_ne_true ?_
    try refine wpAny_bind (wpAny_pure ?_)
    by_cases dr : (!t.plain && decide (es.size > 1)) = true
    · refine wp_if_pos dr ?_
      refine wpAny_bind (drawOrder_at es.size es.toList s _ (by simp) fun ys d q => wpAny_pure (h ys.toArray d ?_))
      simpa using q
    · refine wp_if_neg dr ?_
      try refine wpAny_bind (wpAny_pure ?_)
      refine wpAny_bind (wpAny_of_eq (a := ()) ?_ ?_)
      · show (if (!t.led && decide (es.size > 1)) = true then unsupported "set:maker-not-led" else pure ()) = pure ()
        rw [hl]
        rfl
      · exact wpAny_pure (h es s.drawn (List.Perm.refl _))
/-- ints are quiet -/
theorem quiet_at : ∀ (as : List Addr), (∀ b ∈ as, ∃ es ep t, SetX w s.heap b es ep t) → ∀ {Q : Bool → Shared → Prop}, Q true s → wpAny (model P w) A (setsQuiet as) Q E s := by
  intro as hx Q h
  unfold setsQuiet
  refine wpAny_bind (forIn_same as (fun b hb R hR => ?_) (wpAny_pure h))
  obtain ⟨es, ep, t, X⟩ := hx b hb
  refine wpAny_bind (entries_at X ?_)
  rw [← Array.forIn_toList]
  refine wpAny_bind (forIn_same es.toList (fun e he R' hR' => ?_) ?_)
  · obtain ⟨h0, v⟩ := e
    obtain ⟨k, tk, e1, _⟩ := X.good _ he
    have e1 : v = Value.int k tk := e1
    subst e1
    exact wpAny_pure hR'
  · exact wpAny_pure hR
/-- walked where nobody sees it: in some order; the one that is filled may be marked -/
theorem unseen_at (X : SetX w s.heap a es ep t) (F : SetX w s.heap f ef epf tf) {Q : Array (Int × Value) → Shared → Prop}
    (h : ∀ (out : Array (Int × Value)) (d : Drawn) (h' : Heap) (ep' : Nat) (t' : SetTable), out.toList.Perm es.toList → Heap.SameBut f s.heap h' → SetX w h' f ef ep' t' → Q out { s with heap := h', drawn := d }) :
    wpAny (model P w) A (setWalkUnseen a [f] (some f)) Q E s := by
  have plainly : wpAny (model P w) A (setWalk a) Q E s := walk_at X fun out d p => h out d s.heap epf tf p (Heap.SameBut.refl f s.heap) F
  unfold setWalkUnseen
  refine wpAny_bind (state_at X ?_)
  dsimp only
  refine wpAny_bind (wpAny_byText ?_)
  by_cases c1 : (w.params.followText "set-order" || (t.led && t.plain) || decide (es.size ≤ 1)) = true
  · refine wp_if_pos c1 ?_
    exact plainly
  · refine wp_if_neg c1 ?_
    try refine wpAny_bind (wpAny_pure ?_)
    refine wpAny_bind (quiet_at [a, f] (fun b hb => ?_) ?_)
    · rcases List.mem_cons.mp hb with e | hb
      · exact ⟨es, ep, t, by rw [e]; exact X⟩
      · exact ⟨ef, epf, tf, by rw [List.mem_singleton.mp hb]; exact F⟩
    refine wp_if_neg (by simp) ?_
    try refine wpAny_bind (wpAny_pure ?_)
    refine wpAny_bind (wpAny_rule ?_)
    refine wpAny_bind (state_at F ?_)
    dsimp only
    by_cases c2 : ((tf.led && !t.led) || (tf.plain && !t.plain)) = true
    · refine wp_if_pos c2 ?_
      obtain ⟨o, ho, hex, hd⟩ := F.obj
      refine wpAny_bind (wpAny_storeSet_of ho hd ?_ (fits_of_scanBound F.few))
      refine wpAny_pure (h es s.drawn _ (epf + 1) { tf with led := tf.led && t.led, plain := tf.plain && t.plain } (List.Perm.refl _) (Heap.SameBut.update _ _ _) ⟨⟨_, store_at ho hd, hex, rfl⟩, F.good, F.nd, F.few, F.fits, F.ris, ?_⟩)
      rcases X.led with l | l
      · exact .inl l
      · exact F.led.imp id fun z => by show (tf.led && t.led) = true; rw [z, l]; rfl
    · refine wp_if_neg c2 ?_
      exact wpAny_pure (h es s.drawn s.heap epf tf (List.Perm.refl _) (Heap.SameBut.refl f s.heap) F)
/-- an element dropped, if it is there -/
theorem erase_toList {α : Type} (xs : Array α) (p : Nat) : (SetTable.eraseAt xs p).toList = xs.toList.eraseIdx p := by
  unfold SetTable.eraseAt
  rw [Array.toList_append, Array.toList_extract, Array.toList_extract, List.eraseIdx_eq_take_drop_succ]
  simp only [List.extract, Nat.sub_zero, List.drop_zero, List.append_cancel_left_eq]
  exact List.take_of_length_le (by simp)
theorem ris_erase {xs : Array Nat} (r : Ris xs.toList) (p : Nat) : Ris (SetTable.eraseAt xs p).toList := by
  rw [erase_toList]
  exact List.Pairwise.sublist (List.eraseIdx_sublist _ _) r
theorem insert_size {α : Type} (xs : Array α) (p : Nat) (x : α) : (SetTable.insertAt xs p x).size = xs.size + 1 := by
  unfold SetTable.insertAt
  rw [Array.size_append, Array.size_push, Array.size_extract, Array.size_extract]
  omega
theorem drop_at {k : Int} {tk : Tok} {Q : Bool → Shared → Prop} (X : SetX w s.heap a es ep t)
    (no : k ∉ es.toList.map keyOf → Q false s)
    (yes : ∀ (h' : Heap) (es' : Array (Int × Value)) (ep' : Nat) (t' : SetTable), k ∈ es.toList.map keyOf → Heap.SameBut a s.heap h' → SetX w h' a es' ep' t' → (k :: es'.toList.map keyOf).Perm (es.toList.map keyOf) → Q true { s with heap := h' }) :
    wpAny (model P w) A (setDiscardHashed a (.int k tk) ((intKind P w).hash k)) Q E s := by
  obtain ⟨o, ho, hex, hd⟩ := X.obj
  have isk : (intKind P w).is k (.int k tk) = true := intKind_is P w k tk
  have hel : ElemsOf (intKind P w) es.toList := good_elems X.good
  unfold setDiscardHashed setFind setFindIn
  refine wpAny_bind (wpAny_bind (state_at X ?_))
  dsimp only
  rw [byScan_of (x := .int k tk) rfl X.few hel]
  simp only [↓reduceIte]
  refine wpAny_bind (wpAny_rule ?_)
  refine wpAny_bind (wpAny_setScan_of isk ho hd X.fits hel ?_)
  cases hfi : List.findIdx? (fun e => (intKind P w).is k e.2) es.toList with
  | none =>
    dsimp only
    refine wpAny_pure (wpAny_pure (no fun z => ?_))
    obtain ⟨e, he, q⟩ := (good_mem (P := P) (w := w) X.good k).1 z
    have c := List.findIdx?_eq_none_iff.mp hfi e he
    rw [q] at c
    cases c
  | some j =>
    obtain ⟨hj, pj, _⟩ := List.findIdx?_eq_some_iff_getElem.mp hfi
    have kj : keyOf es.toList[j] = k := (good_is (X.good _ (List.getElem_mem hj)) k).1 pj
    have here : k ∈ es.toList.map keyOf := List.mem_map.mpr ⟨_, List.getElem_mem hj, kj⟩
    dsimp only
    refine wpAny_pure ?_
    rw [Nat.zero_add]
    refine wpAny_bind (state_at X ?_)
    dsimp only
    have hj2 : j < es.size := by rw [← Array.length_toList]; exact hj
    have eT := erase_toList es j
    have szE : (SetTable.eraseAt es j).size + 1 = es.size := by
      rw [← Array.length_toList, eT, List.length_eraseIdx_of_lt hj, Array.length_toList]
      omega
    have fitsX := X.fits
    simp only [SetTable.fits, Bool.and_eq_true, beq_iff_eq, decide_eq_true_eq] at fitsX
    have hpl : j < t.place.size := by rw [fitsX.1]; exact hj2
    have pe : t.place[j]? = some t.place[j] := Array.getElem?_eq_getElem hpl
    have dr : t.drop j = { t with place := SetTable.eraseAt t.place j, dummies := SetTable.insertAt t.dummies (SetTable.below t.dummies t.place[j]) t.place[j] } := by
      unfold SetTable.drop
      rw [pe]
    have szP : (SetTable.eraseAt t.place j).size + 1 = t.place.size := by
      rw [← Array.length_toList, erase_toList, List.length_eraseIdx_of_lt (by rw [Array.length_toList]; exact hpl), Array.length_toList]
      omega
    refine wpAny_bind (wpAny_storeSet_of ho hd ?_ (fits_of_scanBound (by have := X.few; omega)))
    refine wpAny_bind (wpAny_point ?_)
    have pm : (es.toList[j] :: es.toList.eraseIdx j).Perm es.toList := erase_perm es.toList j _ (List.getElem?_eq_getElem hj)
    have pk : (k :: (SetTable.eraseAt es j).toList.map keyOf).Perm (es.toList.map keyOf) := by
      have q := pm.map keyOf
      rw [List.map_cons, kj] at q
      rw [eT]
      exact q
    refine wpAny_pure (yes _ (SetTable.eraseAt es j) (ep + 1) (t.drop j) here (Heap.SameBut.update _ _ _) ⟨⟨_, store_at ho hd, hex, rfl⟩, fun e he => ?_, ?_, ?_, ?_, ?_, ?_⟩ pk)
    · rw [eT] at he
      exact X.good e (List.mem_of_mem_eraseIdx he)
    · exact (List.nodup_cons.mp (pk.nodup_iff.mpr X.nd)).2
    · have := X.few
      omega
    · rw [dr]
      simp only [SetTable.fits, SetTable.fill, Bool.and_eq_true, beq_iff_eq, decide_eq_true_eq, insert_size]
      have h2 := fitsX.2
      simp only [SetTable.fill] at h2
      omega
    · rw [dr]
      exact ris_erase X.ris j
    · rw [dr]
      exact X.led
/-- an element that is there goes, one that isn't comes -/
theorem flip_at {k : Int} {tk : Tok} {Q : Unit → Shared → Prop} {S : Int → Bool} {n : Nat} (R : SetR w s.heap a S n) (room : n + 1 < scanBound)
    (h : ∀ (h' : Heap) (n' : Nat), Heap.SameBut a s.heap h' → n' ≤ n + 1 → SetR w h' a (fun j => if j = k then !S j else S j) n' → Q () { s with heap := h' }) :
    wpAny (model P w) A (holding [.int k tk] (do
      if !(← setDiscardHashed a (.int k tk) ((intKind P w).hash k)) then
        let _ ← setAddHashed a (.int k tk) ((intKind P w).hash k))) Q E s := by
  obtain ⟨es, ep, t, X, hm, hn⟩ := setR_x R
  refine wpAny_holding (wpAny_bind (drop_at X (fun no => ?_) fun h' es' ep' t' here sb X' pk => ?_))
  · have off : S k = false := by
      cases q : S k with
      | false => rfl
      | true => exact absurd ((hm k).1 q) no
    refine wp_if_pos rfl ?_
    refine wpAny_bind (setR_add_hashed R room fun h' sb R' => ?_)
    rw [off, if_neg Bool.false_ne_true] at R'
    refine wpAny_pure (h h' _ sb (Nat.le_refl _) (R'.congr fun j => ?_))
    by_cases c : j = k
    · subst c
      rw [if_pos rfl, off]
      simp
    · rw [if_neg c]
      simp [c]
  · have on : S k = true := (hm k).2 here
    refine wp_if_neg (by simp) ?_
    have sz : es'.size + 1 = es.size := by
      have q := pk.length_eq
      simp only [List.length_cons, List.length_map, Array.length_toList] at q
      exact q
    refine wpAny_pure (h h' es'.size sb (by omega) (X'.r fun j => ?_))
    have nk : k ∉ es'.toList.map keyOf := (List.nodup_cons.mp (pk.nodup_iff.mpr X.nd)).1
    by_cases c : j = k
    · subst c
      rw [if_pos rfl, on]
      constructor
      · intro z; cases z
      · intro z; exact absurd z nk
    · rw [if_neg c, hm j, ← pk.mem_iff, List.mem_cons]
      constructor
      · rintro (z | z)
        · exact absurd z c
        · exact z
      · exact .inr
/-! ### one merged into a new, empty one -/
/-- the mask that the new one gets -/
def roomMask (n : Nat) : Nat := if n * 5 ≥ 21 then SetTable.sizeAbove (n * 2) - 1 else 7
theorem roomMask_ok : ∀ n, n < 64 → GoodMask (roomMask n) ∧ n ≤ roomMask n := by
  have all : ((List.range 64).all fun n => (roomMask n == 7 || roomMask n == 15 || roomMask n == 31 || roomMask n == 63 || roomMask n == 127) && decide (n ≤ roomMask n)) = true := by decide +kernel
  intro n hn
  have q := List.all_eq_true.mp all n (List.mem_range.mpr hn)
  simp only [Bool.and_eq_true, Bool.or_eq_true, beq_iff_eq, decide_eq_true_eq] at q
  refine ⟨?_, q.2⟩
  rcases q.1 with (((z | z) | z) | z) | z
  · exact .inl z
  · exact .inr (.inl z)
  · exact .inr (.inr (.inl z))
  · exact .inr (.inr (.inr (.inl z)))
  · exact .inr (.inr (.inr (.inr z)))
theorem size_small : ∀ n, n < 64 → SetTable.sizeAbove (n * 2) ≤ 128 := by
  have all : ((List.range 64).all fun n => decide (SetTable.sizeAbove (n * 2) ≤ 128)) = true := by decide +kernel
  intro n hn
  simpa using List.all_eq_true.mp all n (List.mem_range.mpr hn)
/-- an empty set with a mask -/
structure SetE (w : World) (h : Heap) (a : Addr) (m : Nat) (ep : Nat) (t : SetTable) : Prop extends SetX w h a #[] ep t where
  mask : t.mask = m
  dum : t.dummies = #[]
theorem room_at {n : Nat} (hn : n < 64) {Q : Unit → Shared → Prop} (X : SetE w s.heap a 7 ep t)
    (h : ∀ (h' : Heap) (ep' : Nat) (t' : SetTable), Heap.SameBut a s.heap h' → SetE w h' a (roomMask n) ep' t' → Q () { s with heap := h' }) : wpAny (model P w) A (setRoomFor a n) Q E s := by
  have f0 := X.fits
  simp only [SetTable.fits, Bool.and_eq_true, beq_iff_eq, decide_eq_true_eq] at f0
  have p0 : t.place.size = 0 := f0.1
  have fl : t.fill = 0 := by unfold SetTable.fill; rw [p0, X.dum]; rfl
  unfold setRoomFor
  refine wpAny_bind (state_at X.toSetX ?_)
  dsimp only
  have rf : t.roomFor n = if n * 5 ≥ 21 then some (n * 2) else none := by
    unfold SetTable.roomFor
    rw [fl, X.mask, p0]
    simp
  rw [rf]
  by_cases c : n * 5 ≥ 21
  · rw [if_pos c]
    dsimp only
    rw [setRelay_eq]
    refine wpAny_bind (state_at X.toSetX ?_)
    dsimp only
    have small := size_small n hn
    refine wp_if_neg (by rw [sizeLine_eq]; omega) ?_
    try refine wpAny_bind (wpAny_pure ?_)
    obtain ⟨g, le⟩ := roomMask_ok n hn
    have eM : roomMask n = SetTable.sizeAbove (n * 2) - 1 := if_pos c
    rw [eM] at g le
    obtain ⟨t', order, e1, e2, e3, e4, e5, e6, e7⟩ := laid_ok g (hs := (#[] : Array Int)) (Nat.zero_le _) t.finger (t.movedTo (SetTable.sizeAbove (n * 2) - 1)) t.led t.plain
    have er : t.relaid ((#[] : Array (Int × Value)).map (·.1)) (n * 2) = some (t', order) := by
      rw [show (#[] : Array (Int × Value)).map (·.1) = #[] by simp]
      exact e1
    rw [er]
    have o0 : order = #[] := by
      have q : order.toList = [] := by simpa using e2
      exact Array.toList_inj.mp q
    subst o0
    dsimp only
    refine wpAny_bind ?_
    refine wp_if_neg (by simp) ?_
    try refine wpAny_bind (wpAny_pure ?_)
    refine wpAny_pure ?_
    dsimp only
    obtain ⟨o, ho, hex, hd⟩ := X.obj
    refine wpAny_storeSet_of ho hd ?_ (Nat.zero_le _)
    refine h _ (ep + 1) t' (Heap.SameBut.update _ _ _) ⟨⟨⟨_, store_at ho hd, hex, rfl⟩, fun e he => by simp at he, by simp, by decide, ?_, e3, ?_⟩, by rw [e6, eM], e5⟩
    · simp only [SetTable.fits, SetTable.fill, Bool.and_eq_true, beq_iff_eq, decide_eq_true_eq, e4, e5]
      simp
    · rw [e7]
      exact X.led
  · rw [if_neg c]
    refine wpAny_pure (h s.heap ep t (Heap.SameBut.refl a s.heap) ?_)
    have eM : roomMask n = 7 := if_neg c
    rw [eM]
    exact X
theorem keys_hash (w : World) (P : Program) (k : Int) : (intKind P w).hash k = hashInt k := rfl
/-- all of the one come to the other, which is empty -/
theorem merge_at {o : Addr} {eo : Array (Int × Value)} {epo : Nat} {to : SetTable} {each : Sem Unit} {Q : Unit → Shared → Prop} (X : SetE w s.heap a 7 ep t) (O : SetX w s.heap o eo epo to) (ne : a ≠ o) (few : eo.size < 64)
    (h : ∀ (h' : Heap) (es' : Array (Int × Value)) (ep' : Nat) (t' : SetTable), Heap.SameBut a s.heap h' → SetX w h' a es' ep' t' → es'.toList.Perm eo.toList → Q () { s with heap := h' }) :
    wpAny (model P w) A (setMerge a o each) Q E s := by
  unfold setMerge
  refine wp_if_neg (by simpa using ne) ?_
  try refine wpAny_bind (wpAny_pure ?_)
  refine wpAny_bind (state_at O ?_)
  dsimp only
  by_cases e0 : eo.isEmpty = true
  · refine wp_if_pos e0 ?_
    have z : eo = #[] := by simpa using e0
    exact wpAny_pure (h s.heap #[] ep t (Heap.SameBut.refl a s.heap) X.toSetX (by rw [z]))
  · refine wp_if_neg e0 ?_
    try refine wpAny_bind (wpAny_pure ?_)
    refine wpAny_bind (room_at few X fun h1 ep1 t1 sb1 X1 => ?_)
    have O1 : SetX w h1 o eo epo to := O.keep fun ob q => by rw [sb1.2 o (fun z => ne z.symm)]; exact q
    refine wpAny_bind (state_at (s := { s with heap := h1 }) X1.toSetX ?_)
    dsimp only
    have f1 := X1.fits
    simp only [SetTable.fits, Bool.and_eq_true, beq_iff_eq, decide_eq_true_eq] at f1
    have p1 : t1.place.size = 0 := f1.1
    have fl : t1.fill = 0 := by unfold SetTable.fill; rw [p1, X1.dum]; rfl
    have fo := O.fits
    simp only [SetTable.fits, Bool.and_eq_true, beq_iff_eq, decide_eq_true_eq] at fo
    obtain ⟨ob, hob, hex, hd⟩ := X1.obj
    have led2 : w.params.followText "set-order" = true ∨ (t1.led && to.led) = true := by
      rcases X1.led with l | l
      · exact .inl l
      · exact O.led.imp id fun z => by rw [l, z]; rfl
    by_cases c : (t1.mask == to.mask && to.dummies.isEmpty) = true
    · have rd : t1.road to = .slotForSlot := by
        unfold SetTable.road
        rw [fl, if_neg (by simp), if_pos c]
      rw [rd]
      dsimp only
      refine wpAny_storeSet_of (s := { s with heap := h1 }) hob hd ?_ (fits_of_scanBound O.few)
      refine h _ eo (ep1 + 1) _ (sb1.trans (Heap.SameBut.update _ _ _)) ⟨⟨_, store_at hob hd, hex, rfl⟩, O.good, O.nd, O.few, ?_, O.ris, led2⟩ (List.Perm.refl _)
      exact O.fits
    · have rd : t1.road to = .clean := by
        unfold SetTable.road
        rw [fl, if_neg (by simp), if_neg c]
      rw [rd]
      dsimp only
      obtain ⟨g, le⟩ := roomMask_ok eo.size few
      rw [← X1.mask] at g le
      obtain ⟨t', order, e1, e2, e3, e4, e5, e6, e7⟩ := laid_ok g (hs := eo.map (·.1)) (by rw [Array.size_map]; exact le) t1.finger t1.moves (t1.led && to.led) (t1.plain && to.plain)
      rw [Array.size_map] at e2 e4
      have pm := order_perm eo order e2
      have sz : (order.filterMap (eo[·]?)).size = eo.size := by
        have q := pm.length_eq
        rw [Array.length_toList, Array.length_toList] at q
        exact q
      rw [e1]
      refine wpAny_bind ?_
      show wpAny _ _ (do
        let es' := order.filterMap (eo[·]?)
        if es'.size != eo.size then unsupported "internal:set-table-lost-an-element"
        pure (es', t') : Sem (Array (Int × Value) × SetTable)) _ _ _
      dsimp only
      refine wp_if_neg (by simp [sz]) ?_
      try refine wpAny_bind (wpAny_pure ?_)
      refine wpAny_pure ?_
      dsimp only
      refine wpAny_storeSet_of (s := { s with heap := h1 }) hob hd ?_ (fits_of_scanBound (by rw [sz]; exact O.few))
      refine h _ _ (ep1 + 1) t' (sb1.trans (Heap.SameBut.update _ _ _)) ⟨⟨_, store_at hob hd, hex, rfl⟩, fun e he => O.good e (pm.mem_iff.mp he), (pm.map keyOf).nodup_iff.mpr O.nd, by rw [sz]; exact O.few, ?_, e3, by rw [e7]; exact led2⟩ pm
      simp only [SetTable.fits, SetTable.fill, Bool.and_eq_true, beq_iff_eq, decide_eq_true_eq, e4, e5, sz]
      rw [e6]
      simpa using le
end
end Fl

set_option Elab.async false
set_option maxRecDepth 100000
set_option maxHeartbeats 2000000
/-! FlSetB: s ^ t of two sets of ints. -/
namespace Fl
open PySem PySem.Spec PyProof.Rows L2
theorem entry_xor : entryFor table "set.__xor__" = some Builtin.«frozenset.__xor__» :=
  entryFor_alias (id' := "frozenset.__xor__") (by kernel_rfl) rfl (by decide +kernel) (by kernel_rfl)
section
variable {P : Program} {w : World} {A : Around} {E : Value → Shared → Prop} {s : Shared} {a b : Addr} {S T : Int → Bool} {n m : Nat}
theorem setR_type {w : World} {s : Shared} {a : Addr} {S : Int → Bool} {n : Nat} (R : SetR w s.heap a S n) : s.TypeIs (.ref a) "set" := by
  obtain ⟨o, es, ep, t, ho, hex, _⟩ := R
  exact ⟨o, ho, hex.1⟩
theorem anySet_at (R : SetR w s.heap a S n) {Q : Bool → Shared → Prop} (h : Q true s) : wpAny (model P w) A (Builtin.Frozenset.isAnySet (.ref a)) Q E s := by
  unfold Builtin.Frozenset.isAnySet
  refine wpAny_bind (wpAny_isInstance (b := true) (setR_type R) sub_set_self ?_)
  exact wpAny_pure h
theorem base_at (R : SetR w s.heap a S n) {Q : Value → Shared → Prop} (h : Q (.type "set") s) : wpAny (model P w) A (Builtin.Frozenset.baseOf a) Q E s := by
  unfold Builtin.Frozenset.baseOf
  refine wpAny_bind (wpAny_isInstance (b := true) (setR_type R) sub_set_self ?_)
  exact wpAny_pure h
theorem merge_new {id : String} {Q : Value → Shared → Prop} (R2 : SetR w s.heap b T m) (hm : m < 64)
    (h : ∀ (h' : Heap), (∀ d o, s.heap.get? d = some o → h'.get? d = some o) → SetR w h' s.heap.objs.size T m → Q (.ref s.heap.objs.size) { s with heap := h' }) :
    wpAny (model P w) A (Builtin.Frozenset.newFrom id (.type "set") (.ref b)) Q E s := by
  obtain ⟨es, ep, t, X, hmem, hsz⟩ := setR_x R2
  have lt : b < s.heap.objs.size := R2.lt
  unfold Builtin.Frozenset.newFrom newSet
  refine wpAny_bind (wpAny_bind (wpAny_byText ?_))
  dsimp only
  refine wpAny_newObj_type ?_
  refine wpAny_bind (wpAny_of_eq (a := s.heap.objs.size) rfl ?_)
  have fresh := setR_fresh (h := s.heap) w
  have keep : ∀ d o, s.heap.get? d = some o → (s.heap.push { cls := .type "set", dict := none, data := .set #[] 0 (.fresh 0 0 (!w.params.followText "set-order")) }).get? d = some o := fun d o e => Heap.get?_push_of_some _ e
  have R3 : SetR w (s.heap.push { cls := .type "set", dict := none, data := .set #[] 0 (.fresh 0 0 (!w.params.followText "set-order")) }) b T m := R2.at fun o e => keep b o e
  have X3 := X.keep fun o e => keep b o e
  refine wpAny_bind (wpAny_holding ?_)
  unfold Builtin.Frozenset.updateFrom
  refine wpAny_bind (anySet_at (s := { s with heap := s.heap.push { cls := .type "set", dict := none, data := .set #[] 0 (.fresh 0 0 (!w.params.followText "set-order")) } }) R3 ?_)
  refine wp_if_pos rfl ?_
  refine wpAny_bind (wpAny_of_eq (a := b) rfl ?_)
  unfold Builtin.Frozenset.merge
  refine wpAny_bind (epoch_at (s := { s with heap := s.heap.push { cls := .type "set", dict := none, data := .set #[] 0 (.fresh 0 0 (!w.params.followText "set-order")) } }) X3 ?_)
  have E0 : SetE w (s.heap.push { cls := .type "set", dict := none, data := .set #[] 0 (.fresh 0 0 (!w.params.followText "set-order")) }) s.heap.objs.size 7 0 (.fresh 0 0 (!w.params.followText "set-order")) := by
    obtain ⟨o, es', ep', t', ho, hex, hd, g, nd, hm', hb, hf, hn', hr, hl⟩ := fresh
    have at0 : (s.heap.push { cls := .type "set", dict := none, data := .set #[] 0 (.fresh 0 0 (!w.params.followText "set-order")) }).get? s.heap.objs.size = some { cls := .type "set", dict := none, data := .set #[] 0 (.fresh 0 0 (!w.params.followText "set-order")) } := Heap.get?_push_size _ rfl
    rw [at0] at ho
    cases ho
    cases hd
    exact ⟨⟨⟨_, at0, hex, rfl⟩, g, nd, hb, hf, hr, hl⟩, rfl, rfl⟩
  refine merge_at (s := { s with heap := s.heap.push { cls := .type "set", dict := none, data := .set #[] 0 (.fresh 0 0 (!w.params.followText "set-order")) } }) E0 X3 (Nat.ne_of_gt lt) (by omega) fun h' es' ep' t' sb X' pm => ?_
  refine wpAny_pure (h h' (fun d o e => ?_) ?_)
  · rw [sb.2 d (Nat.ne_of_lt (Heap.lt_size e))]
    exact keep d o e
  · have q := X'.r (S := T) fun k => (hmem k).trans (pm.map keyOf).mem_iff.symm
    have sz : es'.size = m := by
      have z := pm.length_eq
      rw [Array.length_toList, Array.length_toList] at z
      omega
    rw [sz] at q
    exact q
theorem xor_call {Q : Value → Shared → Prop} (R : SetR w s.heap a S n) (R2 : SetR w s.heap b T m) (hn : n < 64) (hm : m < 64) 
    (h : ∀ (s' : Shared) (c : Nat), (∀ d o, s.heap.get? d = some o → s'.heap.get? d = some o) → s'.gens = s.gens → s'.os = s.os → SetR w s'.heap s.heap.objs.size (fun k => S k != T k) c → c ≤ n + m → Q (.ref s.heap.objs.size) s') :
    wpAny (model P w) A (call (.builtin "set.__xor__") [.ref a, .ref b]) Q E s := by
  refine wpAny_call_entry F.slot_set_xor (setR_type R) entry_xor ?_ (F.args_set_xor_2 _ _)
  show wpAny _ _ (do
    let (self, other) ← Builtin.Frozenset.slot1 "__xor__" ⟨[.ref a, .ref b], []⟩
    let (l, r) := if false then (other, self) else (self, other)
    if !(← Builtin.Frozenset.isAnySet l <&&> Builtin.Frozenset.isAnySet r) then rule s!"frozenset.{"__xor__"}.declined"; return ← ret .notImplemented
    ret (← (fun (id : String) (l : Addr) (r : Value) => do
      let result ← Builtin.Frozenset.newFrom id (← Builtin.Frozenset.baseOf l) r
      holding [result] (Builtin.Frozenset.symmetricDifferenceUpdate id (← Builtin.Frozenset.addrOf result) (.ref l))
      return result : String → Addr → Value → Sem Value) s!"frozenset.{"__xor__"}" (← Builtin.Frozenset.addrOf l) r)) _ _ _
  refine wpAny_bind (wpAny_of_eq (a := (Value.ref a, Value.ref b)) rfl ?_)
  refine wpAny_bind (wpAny_bind (anySet_at R ?_))
  refine anySet_at R2 ?_
  refine wp_if_neg (by simp) ?_
  refine wpAny_bind (wpAny_of_eq (a := a) rfl ?_)
  refine wpAny_bind (wpAny_bind (base_at R ?_))
  refine wpAny_bind (merge_new R2 hm fun h1 k1 R3 => ?_)
  refine wpAny_bind (wpAny_of_eq (a := s.heap.objs.size) rfl ?_)
  refine wpAny_bind (wpAny_holding ?_)
  have R1 : SetR w h1 a S n := R.at fun o e => k1 a o e
  have ne : a ≠ s.heap.objs.size := Nat.ne_of_lt R.lt
  unfold Builtin.Frozenset.symmetricDifferenceUpdate
  refine wp_if_neg (by simpa using ne) ?_
  dsimp only
  refine wpAny_bind (wpAny_typeOf (s := { s with heap := h1 }) (setR_type (s := { s with heap := h1 }) R1) ?_)
  refine wp_if_neg (by decide) ?_
  refine wpAny_bind (anySet_at (s := { s with heap := h1 }) R1 ?_)
  refine wp_if_pos rfl ?_
  refine wpAny_bind (wpAny_pure ?_)
  refine wpAny_bind (wpAny_of_eq (a := a) rfl ?_)
  obtain ⟨es, ep, t, X, hmem, hsz⟩ := setR_x R1
  obtain ⟨ef, epf, tf, Xf, fmem, fsz⟩ := setR_x R3
  refine wpAny_bind (epoch_at (s := { s with heap := h1 }) X ?_)
  refine wpAny_holding ?_
  refine wpAny_bind (unseen_at (s := { s with heap := h1 }) X Xf fun out d h2 ep2 t2 pm sb X2 => ?_)
  have lt : ∀ {b : Addr} {o : Obj}, s.heap.get? b = some o → b ≠ s.heap.objs.size := fun e => Nat.ne_of_lt (Heap.lt_size e)
  have k2 : ∀ d o, s.heap.get? d = some o → h2.get? d = some o := fun d o e => by
    rw [sb.2 d (lt e)]
    exact k1 d o e
  have atA : ∀ s' : Shared, (∀ d o, s.heap.get? d = some o → s'.heap.get? d = some o) → SetX w s'.heap a es ep t := fun s' k => by
    obtain ⟨oa, hoa, ra⟩ := X.obj
    obtain ⟨o1, es1, ep1, t1, ho1, _⟩ := R
    have eo : oa = o1 := Option.some.inj (hoa.symm.trans (k1 a o1 ho1))
    rw [eo] at ra
    exact ⟨⟨o1, k a o1 ho1, ra⟩, X.good, X.nd, X.few, X.fits, X.ris, X.led⟩
  have ndO : (out.toList.map keyOf).Nodup := (pm.map keyOf).nodup_iff.mpr X.nd
  have lenO : out.toList.length = n := by
    rw [pm.length_eq, Array.length_toList]
    exact hsz
  rw [← Array.forIn_toList]
  refine wpAny_bind (forIn_steps (fun i s' => s'.gens = s.gens ∧ s'.os = s.os ∧ (∀ d o, s.heap.get? d = some o → s'.heap.get? d = some o) ∧ ∃ c, c ≤ m + i ∧ SetR w s'.heap s.heap.objs.size (fun k => T k != decide (k ∈ (out.toList.take i).map keyOf)) c)
    out.toList 0 _ ⟨rfl, rfl, k2, ef.size, by omega, ?start⟩ ?one ?all)
  case start =>
    refine X2.r fun k => ?_
    rw [← fmem k]
    simp
  case one =>
    rintro i e s' he ⟨g', o', k', c, hc, Rc⟩
    rw [Nat.zero_add] at hc Rc ⊢
    obtain ⟨hh, v⟩ := e
    have mem : (hh, v) ∈ out.toList := List.mem_of_getElem? he
    obtain ⟨k, tk, e1, e2⟩ := X.good _ (pm.mem_iff.mp mem)
    have e1 : v = Value.int k tk := e1
    have e2 : hh = hashInt k := e2
    subst e1
    subst e2
    have hi : i < out.toList.length := (List.getElem?_eq_some_iff.mp he).1
    dsimp only
    refine wpAny_bind (flip_at (P := P) (k := k) (tk := tk) Rc (by rw [lenO] at hi; have : scanBound = 4096 := rfl; omega) fun h3 c3 sb3 hc3 R4 => ?_)
    have k3 : ∀ d o, s.heap.get? d = some o → h3.get? d = some o := fun d o e => by
      rw [sb3.2 d (lt e)]
      exact k' d o e
    unfold Builtin.Frozenset.unchanged
    refine wpAny_bind (wpAny_bind (epoch_at (s := { s' with heap := h3 }) (atA { s' with heap := h3 } k3) ?_))
    refine wp_if_neg (by simp) ?_
    refine wpAny_pure (wpAny_pure ⟨rfl, g', o', k3, c3, by omega, R4.congr fun j => ?_⟩)
    have tk1 : out.toList.take (i + 1) = out.toList.take i ++ [(hashInt k, Value.int k tk)] := by
      rw [List.take_add_one, he]
      rfl
    have notIn : k ∉ (out.toList.take i).map keyOf := fun z => by
      have q := ndO
      rw [← List.take_append_drop (i + 1) out.toList, List.map_append, tk1, List.map_append] at q
      have q2 := (List.nodup_append.mp (List.nodup_append.mp q).1).2.2
      exact q2 k z k (List.mem_singleton.mpr rfl) rfl
    rw [tk1, List.map_append, List.map_cons, List.map_nil]
    have kk : keyOf (hashInt k, Value.int k tk) = k := rfl
    rw [kk]
    by_cases cj : j = k
    · subst cj
      have d0 : decide (j ∈ (out.toList.take i).map keyOf) = false := decide_eq_false notIn
      have d1 : decide (j ∈ (out.toList.take i).map keyOf ++ [j]) = true := decide_eq_true (List.mem_append.mpr (.inr (List.mem_singleton.mpr rfl)))
      rw [if_pos rfl, d0, d1]
      cases T j <;> rfl
    · rw [if_neg cj]
      simp [cj]
  case all =>
    rintro s' ⟨g', o', k', c, hc, Rc⟩
    rw [Nat.zero_add] at hc Rc
    rw [List.take_of_length_le (Nat.le_refl _)] at Rc
    refine wpAny_pure (wpAny_pure (wpAny_pure ⟨_, rfl, h s' c k' g' o' (Rc.congr fun k => ?_) (by omega)⟩))
    have q : decide (k ∈ out.toList.map keyOf) = S k := by
      rw [Bool.eq_iff_iff, decide_eq_true_eq, (pm.map keyOf).mem_iff, ← hmem k]
    rw [q]
    cases S k <;> cases T k <;> rfl
end
end Fl

set_option Elab.async false
set_option maxRecDepth 100000
set_option maxHeartbeats 3200000
/-! FlSetC: set(xs) of a list of ints; the rules for set(xs), len of it, s ^ t. -/
namespace Fl
open PySem PySem.Spec PyProof.Rows L2
/-- the object that set() begins with -/
abbrev newSetO (w : World) : Obj := { cls := .type "set", dict := none, data := .set #[] 0 (.fresh 0 0 (!w.params.followText "set-order")) }
section
variable {P : Program} {w : World} {A : Around} {E : Value → Shared → Prop} {s : Shared}
/-- what set.__init__ does with a list of ints -/
theorem init_ints {l : Addr} {items : Array Value} (ns : List Int) {R : PySem.Fin → Shared → Prop} (calm : A.handled = none) (hl : s.heap.IsList l items) (hit : IntsAre items.toList ns) (few : ns.length + 1 < scanBound)
    (fin : ∀ (h' : Heap) (tk c : Nat), SetR w h' s.heap.objs.size (fun j => decide (j ∈ ns)) c → c ≤ ns.length → (∀ b o, s.heap.get? b = some o → h'.get? b = some o) → R (.done (.ret .none)) { s with heap := h', toks := tk }) :
    wpAny (model P w) A (Builtin.«set.__init__» ⟨[.ref s.heap.objs.size, .ref l], []⟩) R E { s with heap := s.heap.push (newSetO w) } := by
  have len : items.size = ns.length := by
    have q := hit.length
    rw [Array.length_toList] at q
    exact q
  obtain ⟨ob, hob, hcls, nl, hdat⟩ := hl
  obtain ⟨oc, od, odat, osl⟩ := ob
  have hcls : oc = Value.type "list" := hcls
  have hdat : odat = .seq items nl := hdat
  subst hcls
  subst hdat
  have lt : l < s.heap.objs.size := Heap.lt_size hob
  have hob1 : (s.heap.push (newSetO w)).get? l = some { cls := .type "list", dict := od, data := .seq items nl, slots := osl } := Heap.get?_push_of_some _ hob
  have new1 : (s.heap.push (newSetO w)).get? s.heap.objs.size = some (newSetO w) := Heap.get?_push_size _ rfl
  have lst1 : (s.heap.push (newSetO w)).IsList l items := ⟨_, hob1, rfl, nl, rfl⟩
  have sub1 := F.sub_list_set
  have sub2 := F.sub_list_frozenset
  have nd : (Value.type "list" == Value.type "dict") = false := by decide
  have sz1 : (s.heap.push (newSetO w)).objs.size = s.heap.objs.size + 1 := Heap.size_push ..
  unfold Builtin.«set.__init__» noKeywords Builtin.Frozenset.updateFrom
  generalize hit' : pyIter = it
  wp_walk
  subst hit'
  refine wpAny_pyIter_list lst1 ?_
  refine wpAny_bind (wpAny_runValue ?_)
  have offL : l ≠ (s.heap.push (newSetO w)).objs.size := by
    rw [sz1]
    exact Nat.ne_of_lt (Nat.lt_succ_of_lt lt)
  have offS : s.heap.objs.size ∉ [(s.heap.push (newSetO w)).objs.size, l] := fun z => by
    rw [sz1] at z
    rcases List.mem_cons.mp z with z | z
    · exact absurd z (Nat.ne_of_lt (Nat.lt_succ_self _))
    · exact absurd (List.mem_singleton.mp z) (Nat.ne_of_gt lt)
  have each : ∀ (i : Nat) (v : Value), items[i]? = some v → ∃ k t, ns[i]? = some k ∧ v = .int k t := fun i v hv => by
    have hi : i < ns.length := by
      rw [← len]
      exact (Array.getElem?_eq_some_iff.mp hv).1
    obtain ⟨t, e⟩ := hit.int_at i v (by rw [Array.getElem?_toList]; exact hv)
    refine ⟨ns[i], t, List.getElem?_eq_getElem hi, ?_⟩
    rw [e, List.getD_eq_getElem?_getD, List.getElem?_eq_getElem hi]
    rfl
  have iter0 : ((s.heap.push (newSetO w)).push { cls := .type "list_iterator", data := .fields #[.ref l, .int 0 0] }).get? s.heap.objs.size = some (newSetO w) := Heap.get?_push_of_some _ new1
  refine set_update_ints ((Walks.list (by simp [calm]) _ l offL items).toS) s.heap.objs.size offS ns len few each (items.size - 0) 0 _ (by omega) (Nat.zero_le _)
    ⟨⟨_, Heap.get?_push_size _ rfl, rfl, rfl⟩, lst1.push _⟩ ⟨0, Nat.le_refl 0, setR_new_at iter0⟩ fun s' c mv hc hS => ?_
  obtain ⟨h', g', d', tk', os'⟩ := s'
  obtain rfl : g' = s.gens := mv.gens
  obtain rfl : d' = s.drawn := mv.drawn
  obtain rfl : os' = s.os := mv.os
  show wpAny _ _ _ _ _ _
  refine wpAny_pure ?_
  show wpAny _ _ (ret Value.none) _ _ _
  refine wpAny_pure (fin h' tk' c hS (by rw [len] at hc; exact hc) fun b o e => ?_)
  have lb : b < s.heap.objs.size := Heap.lt_size e
  refine mv.heap b o (fun z => ?_) (Heap.get?_push_of_some _ (Heap.get?_push_of_some _ e))
  rcases List.mem_cons.mp z with z | z
  · exact absurd z (Nat.ne_of_lt lb)
  · rw [List.mem_singleton.mp z, sz1] at lb
    exact absurd (Nat.lt_trans (Nat.lt_succ_self _) lb) (Nat.lt_irrefl _)
/-- set(xs) -/
theorem set_ints {l : Addr} {items : Array Value} (ns : List Int) {Q : Value → Shared → Prop} (calm : A.handled = none) (hl : s.heap.IsList l items) (hit : IntsAre items.toList ns) (few : ns.length + 1 < scanBound)
    (fin : ∀ (h' : Heap) (tk c : Nat), SetR w h' s.heap.objs.size (fun j => decide (j ∈ ns)) c → c ≤ ns.length → (∀ b o, s.heap.get? b = some o → h'.get? b = some o) → Q (.ref s.heap.objs.size) { s with heap := h', toks := tk }) :
    wpAny (model P w) A (call (.type "set") [.ref l]) Q E s := by
  obtain ⟨c0, tl, hmro⟩ := F.called_set.mro
  have made := F.called_set.made
  have sub := F.called_set.sub
  have notT := F.called_set.notType
  have can := F.called_set.canCreate
  have tc := F.typeCall_set_1 (.ref l)
  refine wpAny_call (codeAny_of_tree ?_)
  show wpAny _ _ (callAny (.type "set") _) _ _ _
  refine wpAny_pure ⟨Code.quiet_builtin _ (by decide +kernel), codeAny_builtin F.entry_type_call ?_⟩
  rw [Around.under_plain (weight_type_call_type "set" [.ref l] []) rfl]
  repeat (any_goals (first | assumption | wp_step))
  refine codeAny_mono (code_set_led1 (.ref l) (E := E) (Q₁ := fun v s1 => v = .ref s.heap.objs.size ∧ s1 = { s with heap := s.heap.push (newSetO w) }) ⟨rfl, rfl⟩) fun r s1 hr => ?_
  cases r with
  | error e => exact hr
  | ok fl =>
    cases fl with
    | ret v =>
      obtain ⟨rfl, rfl⟩ := hr
      have ty : Shared.TypeIs { s with heap := s.heap.push (newSetO w) } (.ref s.heap.objs.size) "set" := ⟨_, Heap.get?_push_size _ rfl, rfl⟩
      have look := F.called_set.init.lookup
      have bnd := F.called_set.init.bind (.ref s.heap.objs.size)
      repeat (any_goals (first | assumption | wp_step))
      refine codeAny_mono (codeAny_call_builtin (R := wants (fun r s2 => r = .none ∧ Q (.ref s.heap.objs.size) s2) E) F.called_set.init.plain F.entry_set_init (check_set_init_1 ty ?_)) fun r2 s2 hr2 => ?_
      · exact init_ints ns (by simp [calm]) hl hit few fun h' tk c h1 h2 h3 => ⟨rfl, fin h' tk c h1 h2 h3⟩
      · cases r2 with
        | error e => exact hr2
        | ok f2 =>
          cases f2 with
          | ret r =>
            obtain ⟨rfl, hq⟩ := hr2
            repeat (any_goals (first | assumption | wp_step))
          | _ => exact hr2.elim
    | _ => exact hr.elim
end
/-! ### the rules -/
section
variable {X : Cx}
/-- set(xs) -/
def rSetL (K : PySem.W.Frag) (w : World) : List V → Hp → VK → Prop := fun xs H Q => ∃ (l : Addr) (ns : List Int), xs = [.ref l] ∧ SqL K H l (ns.map V.int) ∧ ns.length + 1 < scanBound ∧
  ∀ (p : Addr) (ks : List Int), H p = none → ks.Nodup → (∀ k, k ∈ ks ↔ k ∈ ns) → Q (.ref p) (upd H p (SetO w p (fun j => decide (j ∈ ns)) ks.length))
theorem cr_setL (hc : X.calm = true) : CallR X (.type "set") (rSetL X.K X.w) := by
  intro pins s σ H xs us Q I r h
  obtain ⟨l, ns, rfl, hl, few, q⟩ := h
  rw [Vals.ref1 r]
  obtain ⟨its, rv, pl, hz⟩ := I.list hl
  refine set_ints ns (I.ok.hd hc) pl.isList (by simpa using rv.ints) few fun h' tk c hS _ keep => ?_
  obtain ⟨es, ep, t, Xs, hm, hn⟩ := setR_x hS
  have len : (es.toList.map keyOf).length = c := by rw [List.length_map, Array.length_toList]; exact hn
  have qq := q s.heap.objs.size (es.toList.map keyOf) (I.hok.fresh (Nat.le_refl _)) Xs.nd fun k => (hm k).symm.trans decide_eq_true_iff
  rw [len] at qq
  exact ⟨.ref _, _, I.laid (t' := tk) keep (Nat.le_refl _) (setO_new hS), rfl, qq⟩
/-- len(s) -/
def rLenS (w : World) : List V → Hp → VK → Prop := fun xs H Q => ∃ (a : Addr) (S : Int → Bool) (n : Nat), xs = [.ref a] ∧ H a = some (SetO w a S n) ∧ n < scanBound ∧ Q (.int (n : Int)) H
theorem cr_lenS : CallR X (.builtin "len") (rLenS X.w) := by
  intro pins s σ H xs us Q I r h
  obtain ⟨a, S, n, rfl, ha, few, q⟩ := h
  rw [Vals.ref1 r]
  obtain ⟨o, es, ep, t, ho, hex, hd, _, _, _, _, hf, hn, _⟩ := setO_get I ha
  have b : scanBound = 4096 := rfl
  exact call_len_set ho hex hd hf (by rw [hn]; omega) ⟨.int n, H, I.tok _, ⟨_, by rw [hn]⟩, q⟩
/-- s ^ t -/
def rXorS (w : World) : V → V → Hp → VK → Prop := fun x y H Q => ∃ (a b : Addr) (S T : Int → Bool) (n m : Nat), x = .ref a ∧ y = .ref b ∧ H a = some (SetO w a S n) ∧ H b = some (SetO w b T m) ∧ n < 64 ∧ m < 64 ∧
  ∀ (p : Addr) (ks : List Int), H p = none → ks.Nodup → (∀ k, k ∈ ks ↔ (S k != T k) = true) → Q (.ref p) (upd H p (SetO w p (fun k => S k != T k) ks.length))
theorem op_xorS : OpR X (binaryOp .BitXor) (rXorS X.w) := by
  intro pins s σ H x y v u Q I rx ry h
  obtain ⟨a, b, S, T, n, m, rfl, rfl, ha, hb, hn, hm, q⟩ := h
  obtain rfl : v = Value.ref a := rx
  obtain rfl : u = Value.ref b := ry
  have R := setO_get I ha
  have R2 := setO_get I hb
  refine wpAny_binaryOp_same (T := "set") (id := "set.__xor__") (setR_type R) (setR_type R2) F.fills_set_xor F.slot_set_xor ?_
  refine xor_call R R2 hn hm fun s' c keep g o hS _ => ⟨fun z => (by cases z), ?_⟩
  obtain ⟨es, ep, t, Xs, hmem, hsz⟩ := setR_x hS
  have len : (es.toList.map keyOf).length = c := by rw [List.length_map, Array.length_toList]; exact hsz
  have qq := q s.heap.objs.size (es.toList.map keyOf) (I.hok.fresh (Nat.le_refl _)) Xs.nd fun k => (hmem k).symm
  rw [len] at qq
  have hp := Nat.le_refl s.heap.objs.size
  refine ⟨.ref _, _, I.call' (ch := []) o (Un.laid keep hp (I.hok.fresh hp)) (I.hok.laid keep hp (setO_new hS)) (by rw [g]; exact I.bare) (fun b z => absurd z (by simp)), rfl, qq⟩
end
end Fl

set_option Elab.async false
set_option maxRecDepth 100000
set_option maxHeartbeats 2000000
/-! FlLib: words for this program: comprehensions that make lists of values, or of new tuples. -/
namespace Fl
open PySem PySem.Spec PyProof.Rows L2
theorem ite_b {c : Bool} {A B : Prop} (h1 : c = true → A) (h2 : c = false → B) : if c = true then A else B := by
  cases c with
  | true => exact iteT (h1 rfl)
  | false => exact iteF (h2 rfl)
theorem take_more {α : Type} {l : List α} {i : Nat} {x : α} (h : l[i]? = some x) : l.take (i + 1) = l.take i ++ [x] := by
  rw [List.take_add_one, h]
  rfl
theorem same_upd {H H' : Hp} {p : Addr} {o : HO} (s : L2.Same H H') (n : H p = none) : L2.Same H (upd H' p o) := fun b u e => by
  rw [upd_ne (ne_of_none e n)]
  exact s b u e
theorem same_new {H : Hp} {p : Addr} {o : HO} (n : H p = none) : L2.Same H (upd H p o) := same_upd (L2.Same.refl H) n
theorem same_tup {K : PySem.W.Frag} {H H' : Hp} {a : Addr} {xs : List V} (e : L2.Same H H') (h : SqT K H a xs) : SqT K H' a xs := by
  rcases h with (h | ⟨o, h⟩) | h
  · exact .inl (.inl (e _ _ h))
  · exact .inl (.inr ⟨o, e _ _ h⟩)
  · exact .inr h
theorem map_at {α β : Type} {f : α → β} {l : List α} {i : Nat} {y : β} (h : (l.map f)[i]? = some y) : ∃ x, l[i]? = some x ∧ y = f x := by
  rw [List.getElem?_map] at h
  obtain ⟨x, hx, e⟩ := Option.map_eq_some_iff.mp h
  exact ⟨x, hx, e.symm⟩
theorem paired_snoc {α β : Type} {F : α → β → Prop} : ∀ {l : List α} {m : List β} {a : α} {b : β}, Paired F l m → F a b → Paired F (l ++ [a]) (m ++ [b])
  | _, _, _, _, .nil, h => .cons h .nil
  | _, _, _, _, .cons h t, h' => .cons h (paired_snoc t h')
theorem paired_len {α β : Type} {F : α → β → Prop} : ∀ {l : List α} {m : List β}, Paired F l m → l.length = m.length
  | _, _, .nil => rfl
  | _, _, .cons _ t => congrArg (· + 1) (paired_len t)
theorem paired_at {α β : Type} {F : α → β → Prop} : ∀ {l : List α} {m : List β}, Paired F l m → ∀ {i : Nat} {b : β}, m[i]? = some b → ∃ a, l[i]? = some a ∧ F a b
  | _, _, .nil, i, b, h => by cases h
  | _, _, .cons (a := x) h t, 0, b, e => ⟨x, rfl, by cases e; exact h⟩
  | _, _, .cons h t, i + 1, b, e => paired_at t (i := i) e
theorem paired_at' {α β : Type} {F : α → β → Prop} : ∀ {l : List α} {m : List β}, Paired F l m → ∀ {i : Nat} {a : α}, l[i]? = some a → ∃ b, m[i]? = some b ∧ F a b
  | _, _, .nil, i, b, h => by cases h
  | _, _, .cons (b := y) h t, 0, b, e => ⟨y, rfl, by cases e; exact h⟩
  | _, _, .cons h t, i + 1, b, e => paired_at' t (i := i) e
/-- the reading of a comprehension behind its list -/
def LcAt (J : It) (g : TG) (tt : TT) (te : TE) (vs : List Nat) (σ : L2.St) (H : Hp) (Q : VK) : Prop := ∀ D, H D = none → ∃ W : Nat → Nat → Hp → Prop, (∃ m, W 0 m (upd H D (.lst []))) ∧ ∀ i m H, W i m H →
  (J.stop i H ∧ Q (.ref D) H) ∨ (J.go i H ∧ ∃ Nx : Hp → Prop, (∀ H', Nx H' → ∃ m', m' < m ∧ W (i + 1) m' H') ∧ ∀ x H', J.yld i H x H' → g x (wipe σ vs) H' fun σ2 H2 => wipe σ2 vs = wipe σ vs ∧ tt σ2 H2 fun b H3 =>
    if b = true then te σ2 H3 fun y H4 => ∃ acc, H4 D = some (.lst acc) ∧ acc.length < sizeLine ∧ Nx (upd H4 D (.lst (acc ++ [y]))) else Nx H3)
theorem tLc_of {K : PySem.W.Frag} {tl : TE} {g : TG} {tt : TT} {te : TE} {vs : List Nat} {σ : L2.St} {H : Hp} {Q : VK} (h : tl σ H fun x H1 => ∃ a, x = .ref a ∧ (∃ xs, SqL K H1 a xs) ∧ LcAt (Itl K a) g tt te vs σ H1 Q) : tLc (iList K tl) g tt te vs σ H Q := h
theorem tLc_tup {K : PySem.W.Frag} {tl : TE} {g : TG} {tt : TT} {te : TE} {vs : List Nat} {σ : L2.St} {H : Hp} {Q : VK} (h : tl σ H fun x H1 => ∃ a, x = .ref a ∧ (∃ xs, SqT K H1 a xs) ∧ LcAt (Itt K a) g tt te vs σ H1 Q) : tLc (iTup K tl) g tt te vs σ H Q := h
theorem tLc_w {wi : TI} {g : TG} {tt : TT} {te : TE} {vs : List Nat} {σ : L2.St} {H : Hp} {Q : VK} (h : wi σ H fun J H1 => LcAt J g tt te vs σ H1 Q) : tLc wi g tt te vs σ H Q := h
/-- the reading of [e for x in xs], xs a list: the values ys are known -/
theorem lc_known {K : PySem.W.Frag} {a : Addr} {xs : List V} {te : TE} {i : Nat} {σ : L2.St} {H : Hp} {Q : VK} (ys : List V) (len : ys.length = xs.length) (line : xs.length ≤ sizeLine) (hl : SqL K H a xs)
    (each : ∀ (j : Nat) (x y : V) (H' : Hp), xs[j]? = some x → ys[j]? = some y → L2.Same H H' → ∀ R : VK, (∀ H2, L2.Same H' H2 → R y H2) → te ((wipe σ [i]).set i (some x)) H' R)
    (fin : ∀ (H' : Hp) (p : Addr), L2.Same H H' → H p = none → H' p = some (.lst ys) → Q (.ref p) H') : LcAt (Itl K a) (gName i) tYes te [i] σ H Q := by
  intro D nD
  refine lc_list (K := K) (a := a) (xs := xs) (fun j H' => L2.Same H H' ∧ H' D = some (.lst (ys.take j))) ⟨same_new nD, upd_same⟩ (fun j H' _ p => p.1.seq hl) (fun j x H' hx p => ?_) fun H' p => ?_
  · obtain ⟨sm, at_⟩ := p
    have hj : j < xs.length := (List.getElem?_eq_some_iff.mp hx).1
    have hy : ys[j]? = some ys[j] := List.getElem?_eq_getElem (by omega)
    refine ⟨by simp [wipe], each j x _ H' hx hy sm _ fun H2 s2 => ?_⟩
    refine ⟨ys.take j, s2 _ _ at_, by rw [List.length_take]; omega, same_upd (sm.trans s2) nD, ?_⟩
    rw [upd_same, take_more hy]
  · obtain ⟨sm, at_⟩ := p
    rw [← len, List.take_length] at at_
    exact fin H' D sm nD at_
/-- .. over a range -/
theorem lc_knownR {lo : Int} {n : Nat} {te : TE} {i : Nat} {σ : L2.St} {H : Hp} {Q : VK} (ys : List V) (len : ys.length = n) (line : n ≤ sizeLine)
    (each : ∀ (j : Nat) (y : V) (H' : Hp), j < n → ys[j]? = some y → L2.Same H H' → ∀ R : VK, (∀ H2, L2.Same H' H2 → R y H2) → te ((wipe σ [i]).set i (some (.int (lo + j)))) H' R)
    (fin : ∀ (H' : Hp) (p : Addr), L2.Same H H' → H p = none → H' p = some (.lst ys) → Q (.ref p) H') : LcAt (Itr lo n) (gName i) tYes te [i] σ H Q := by
  intro D nD
  refine lc_range (lo := lo) (n := n) (fun j H' => L2.Same H H' ∧ H' D = some (.lst (ys.take j))) ⟨same_new nD, upd_same⟩ (fun j H' hj p => ?_) fun H' p => ?_
  · obtain ⟨sm, at_⟩ := p
    have hy : ys[j]? = some ys[j] := List.getElem?_eq_getElem (by omega)
    refine ⟨by simp [wipe], each j _ H' hj hy sm _ fun H2 s2 => ?_⟩
    refine ⟨ys.take j, s2 _ _ at_, by rw [List.length_take]; omega, same_upd (sm.trans s2) nD, ?_⟩
    rw [upd_same, take_more hy]
  · obtain ⟨sm, at_⟩ := p
    rw [← len, List.take_length] at at_
    exact fin H' D sm nD at_
/-- .. over a tuple -/
theorem lc_knownT {K : PySem.W.Frag} {a : Addr} {xs : List V} {te : TE} {i : Nat} {σ : L2.St} {H : Hp} {Q : VK} (ys : List V) (len : ys.length = xs.length) (line : xs.length ≤ sizeLine) (hl : SqT K H a xs)
    (each : ∀ (j : Nat) (x y : V) (H' : Hp), xs[j]? = some x → ys[j]? = some y → L2.Same H H' → ∀ R : VK, (∀ H2, L2.Same H' H2 → R y H2) → te ((wipe σ [i]).set i (some x)) H' R)
    (fin : ∀ (H' : Hp) (p : Addr), L2.Same H H' → H p = none → H' p = some (.lst ys) → Q (.ref p) H') : LcAt (Itt K a) (gName i) tYes te [i] σ H Q := by
  intro D nD
  refine lc_tup (K := K) (a := a) (xs := xs) (fun j H' => L2.Same H H' ∧ H' D = some (.lst (ys.take j))) ⟨same_new nD, upd_same⟩ (fun j H' _ p => same_tup p.1 hl) (fun j x H' hx p => ?_) fun H' p => ?_
  · obtain ⟨sm, at_⟩ := p
    have hj : j < xs.length := (List.getElem?_eq_some_iff.mp hx).1
    have hy : ys[j]? = some ys[j] := List.getElem?_eq_getElem (by omega)
    refine ⟨by simp [wipe], each j x _ H' hx hy sm _ fun H2 s2 => ?_⟩
    refine ⟨ys.take j, s2 _ _ at_, by rw [List.length_take]; omega, same_upd (sm.trans s2) nD, ?_⟩
    rw [upd_same, take_more hy]
  · obtain ⟨sm, at_⟩ := p
    rw [← len, List.take_length] at at_
    exact fin H' D sm nD at_
/-- .. : each value is a new tuple (or one that stands already) of the items f x -/
theorem lc_tups {K : PySem.W.Frag} {a : Addr} {xs : List V} {te : TE} {i : Nat} {σ : L2.St} {H : Hp} {Q : VK} (fs : List (List V)) (len : fs.length = xs.length) (line : xs.length ≤ sizeLine) (hl : SqL K H a xs)
    (each : ∀ (j : Nat) (x : V) (f : List V) (H' : Hp), xs[j]? = some x → fs[j]? = some f → L2.Same H H' → ∀ R : VK, (∀ H2 t, L2.Same H' H2 → H2 t = some (.tup f) → R (.ref t) H2) → te ((wipe σ [i]).set i (some x)) H' R)
    (fin : ∀ (H' : Hp) (p : Addr) (ts : List Addr), L2.Same H H' → H p = none → H' p = some (.lst (ts.map V.ref)) → Paired (fun f t => H' t = some (.tup f)) fs ts → Q (.ref p) H') : LcAt (Itl K a) (gName i) tYes te [i] σ H Q := by
  intro D nD
  refine lc_list (K := K) (a := a) (xs := xs) (fun j H' => L2.Same H H' ∧ ∃ ts : List Addr, H' D = some (.lst (ts.map V.ref)) ∧ Paired (fun f t => H' t = some (.tup f)) (fs.take j) ts) ⟨same_new nD, [], upd_same, by rw [List.take_zero]; exact Paired.nil⟩
    (fun j H' _ p => p.1.seq hl) (fun j x H' hx p => ?_) fun H' p => ?_
  · obtain ⟨sm, ts, at_, pr⟩ := p
    have hj : j < xs.length := (List.getElem?_eq_some_iff.mp hx).1
    have hf : fs[j]? = some fs[j] := List.getElem?_eq_getElem (by omega)
    refine ⟨by simp [wipe], each j x _ H' hx hf sm _ fun H2 t s2 ht => ?_⟩
    have atD := s2 _ _ at_
    have tn : t ≠ D := ne_of ht atD (by intro z; cases z)
    have lenT : ts.length = j := by
      have q := paired_len pr
      rw [List.length_take] at q
      omega
    refine ⟨ts.map V.ref, atD, by rw [List.length_map]; omega, same_upd (sm.trans s2) nD, ts ++ [t], by rw [upd_same, List.map_append]; rfl, ?_⟩
    rw [take_more hf]
    refine paired_snoc (L2.Paired.mapP pr fun f t' h => ?_) ((upd_ne tn).trans ht)
    exact (upd_ne (ne_of (s2 _ _ h) atD (by intro z; cases z))).trans (s2 _ _ h)
  · obtain ⟨sm, ts, at_, pr⟩ := p
    rw [← len, List.take_length] at pr
    exact fin H' D ts sm nD at_ pr
/-! ### lists without doubles -/
theorem nodup_sub {α : Type} [BEq α] [LawfulBEq α] : ∀ {l m : List α}, l.Nodup → (∀ x ∈ l, x ∈ m) → l.length ≤ m.length
  | [], m, _, _ => Nat.zero_le _
  | x :: l, m, nd, h => by
    obtain ⟨n1, n2⟩ := List.nodup_cons.mp nd
    have hx : x ∈ m := h x (List.mem_cons_self ..)
    have ih := nodup_sub (l := l) (m := m.erase x) n2 fun y hy => (List.mem_erase_of_ne (show y ≠ x from fun z => n1 (by rw [← z]; exact hy))).mpr (h y (List.mem_cons_of_mem _ hy))
    rw [List.length_erase_of_mem hx] at ih
    have : 0 < m.length := List.length_pos_of_mem hx
    rw [List.length_cons]
    omega
theorem nodup_back {α : Type} [BEq α] [LawfulBEq α] : ∀ {l m : List α}, l.Nodup → (∀ x ∈ l, x ∈ m) → m.length ≤ l.length → m.Nodup
  | [], m, _, _, hl => by
    rw [List.eq_nil_of_length_eq_zero (Nat.le_zero.mp hl)]
    exact List.Pairwise.nil
  | x :: l, m, nd, h, hl => by
    obtain ⟨n1, n2⟩ := List.nodup_cons.mp nd
    have hx : x ∈ m := h x (List.mem_cons_self ..)
    have sub : ∀ y ∈ l, y ∈ m.erase x := fun y hy => (List.mem_erase_of_ne (show y ≠ x from fun z => n1 (by rw [← z]; exact hy))).mpr (h y (List.mem_cons_of_mem _ hy))
    have le : (m.erase x).length ≤ l.length := by
      rw [List.length_erase_of_mem hx]
      rw [List.length_cons] at hl
      omega
    have ih := nodup_back n2 sub le
    refine (List.perm_cons_erase hx).nodup_iff.mpr (List.nodup_cons.mpr ⟨fun z => ?_, ih⟩)
    have q := nodup_sub (l := x :: l) (m := m.erase x) nd fun y hy => by
      rcases List.mem_cons.mp hy with e | e
      · rw [e]; exact z
      · exact sub y e
    rw [List.length_cons] at q
    omega
end Fl

set_option Elab.async false
set_option maxRecDepth 100000
set_option maxHeartbeats 4000000
/-! FlP1: the program's text by places; the promises and bodies of the smallest defs. -/
namespace Fl
open PySem PySem.Spec PyProof.Rows L2
def top (i : Nat) : Stmt := PySem.Challenge.pw_floodedshape_s01_answers.main.body.getD i (.Pass ⟨0, 0, 0, 0⟩)
abbrev sIsSimplex : Stmt := top 25
abbrev sAreHeights : Stmt := top 26
abbrev sFacesOf : Stmt := top 27
abbrev sWithAll : Stmt := top 28
abbrev sNoFaces : Stmt := top 29
abbrev sComesAt : Stmt := top 30
abbrev sRowBy : Stmt := top 31
abbrev sPlaces : Stmt := top 32
abbrev sBoundary : Stmt := top 33
abbrev sAdded : Stmt := top 34
abbrev sLeft : Stmt := top 35
abbrev sPairs : Stmt := top 36
abbrev sBars : Stmt := top 37
abbrev sIsThere : Stmt := top 38
abbrev sLength : Stmt := top 39
abbrev sPartnerIn : Stmt := top 40
abbrev sToldD : Stmt := top 41
abbrev sToldS : Stmt := top 42
abbrev sTold2 : Stmt := top 43
abbrev sClass : Stmt := top 44
abbrev sInit : Stmt := inClass sClass 0
abbrev sCurRow : Stmt := inClass sClass 1
abbrev sCurBars : Stmt := inClass sClass 2
abbrev mShape : Stmt := inClass sClass 3
abbrev mHeight : Stmt := inClass sClass 4
abbrev mRowOf : Stmt := inClass sClass 5
abbrev mPairs : Stmt := inClass sClass 6
abbrev mBars : Stmt := inClass sClass 7
abbrev mAt : Stmt := inClass sClass 8
abbrev mLasting : Stmt := inClass sClass 9
abbrev mLongest : Stmt := inClass sClass 10
abbrev mSwamped : Stmt := inClass sClass 11
abbrev mPartner : Stmt := inClass sClass 12
abbrev sAnswerOf : Stmt := top 45
abbrev sCounted : Stmt := top 46
abbrev sAnswers : Stmt := top 47
/-- what the module's names are -/
structure Txt (mg : Str → Option Value) : Prop where
  len : mg "len" = none
  all : mg "all" = none
  set : mg "set" = none
  max : mg "max" = none
  sorted : mg "sorted" = none
  list : mg "list" = none
  tuple : mg "tuple" = none
  enumerate : mg "enumerate" = none
  range : mg "range" = none
  corners : ∃ t, mg "HOW_MANY_CORNERS" = some (.int 10 t)
  most : ∃ t, mg "MOST_CORNERS_OF_A_SIMPLEX" = some (.int 4 t)
  high : ∃ t, mg "GREATEST_HEIGHT" = some (.int 1000 t)
/-! ### are_heights -/
def okH (z : Int) : Bool := decide (0 ≤ z) && decide (z ≤ 1000)
def areHeights (ns : List Int) : Bool := decide (ns.length = 10) && ns.all okH
def spAreHeights (K : PySem.W.Frag) : Sp := fun vs H Q _ => ∃ (a : Addr) (ns : List Int), vs = [.ref a] ∧ SqL K H a (ns.map V.int) ∧ ns.length ≤ 1000 ∧ ∀ H', L2.Same H H' → Q (.bl (areHeights ns)) H'
section
variable {P : Program} {w : World} {K : PySem.W.Frag} {mg : Str → Option Value} {base : Heap}
theorem scAH : FnScope ["heights", "height"] ["heights"] (defScope sAreHeights) := ⟨rfl, rfl, rfl, by decide +kernel, rfl, by decide +kernel, by decide +kernel⟩
theorem ok_areHeights {f : Addr} {fd : FuncData} (F : Fun K "are_heights" "are_heights" sAreHeights f fd) (T : Txt mg) : FnOk P w K mg base CX0 1 f fd ["heights"] (spAreHeights K) := by
  obtain ⟨t10, g10⟩ := T.corners
  obtain ⟨tH, gH⟩ := T.high
  refine F.ok scAH (fun vs H Q E h => ?_) (fun cdv A outer s H vs Q E hr h => ?_)
  · obtain ⟨a, ns, rfl, _⟩ := h
    rfl
  · obtain ⟨a, ns, rfl, hS, hlen, k⟩ := h
    refine ⟨_, pss_cons (ps_if (pt_cmpR op_ne (pe_callB call_len_seq (by rfl) T.len PySem.boot_len (pa_cons (pv 0) pa_nil)) (pe_glob (v := .int 10) rfl g10 ⟨_, rfl⟩) (nomark _)) (pss_one (ps_ret pe_bl)) pss_nil)
      (pss_one (ps_ret (pe_callB (cr_all rfl) (by rfl) T.all (by decide +kernel) (pa_cons
        (pe_lc (own := [("height", 1)]) (g := gName 1) (tt := tYes) rfl scAH.nd (pi_list (pv 0)) (blkOk_by (own := [("height", 1)]) (N := ["heights", "height"]) (sc := defScope sAreHeights) (by decide +kernel)) (fun _ _ _ _ _ => pg_name (i := 1) scAH.nd rfl (Or.inl rfl)) (fun _ _ _ _ _ => pts_nil)
          (fun _ _ _ _ _ => pe_and (pe_cmpR op_ge (pv 1) pe_int (nomark _)) (pe_one (pe_cmpR op_le (pv 1) (pe_glob (v := .int 1000) rfl gH ⟨_, rfl⟩) (nomark _))))) pa_nil)))), ?_⟩
    refine ⟨_, rfl, a, _, rfl, .inl hS, rfl, _, rfl, ?_⟩
    refine ite_b (fun c => ?_) fun c => ?_
    · have e : areHeights ns = false := by
        simp at c
        unfold areHeights
        rw [decide_eq_false (by omega)]
        rfl
      have q := k H (L2.Same.refl H)
      rw [e] at q
      exact q
    · have e : ns.length = 10 := by
        simp at c
        omega
      dsimp only [tNext, tRet, tCB, tCons, tNil]
      refine tLc_of ?_
      refine ⟨_, rfl, a, rfl, ⟨_, hS⟩, lc_known (ns.map fun z => V.bl (okH z)) (by simp) (by rw [List.length_map, sizeLine_eq]; omega) hS (fun j x y H' hx hy sm R hR => ?_) fun H' p sm np hp => ?_⟩
      · obtain ⟨z, hz, rfl⟩ := map_at hx
        obtain ⟨z', hz', rfl⟩ := map_at hy
        obtain rfl : z = z' := Option.some.inj (hz.symm.trans hz')
        refine ⟨_, rfl, _, _, rfl, rfl, _, rfl, ite_b (fun c1 => ?_) fun c1 => ?_⟩
        · have e2 : okH z = decide (z ≤ 1000) := by
            unfold okH
            rw [show decide (0 ≤ z) = true from c1]
            rfl
          rw [e2] at hR
          exact ⟨_, rfl, _, _, rfl, rfl, hR H' (L2.Same.refl H')⟩
        · have e2 : okH z = false := by
            unfold okH
            rw [show decide (0 ≤ z) = false from c1]
            rfl
          rw [e2] at hR
          exact hR H' (L2.Same.refl H')
      · refine ⟨p, ns.map okH, rfl, SqL.of (by rw [List.map_map]; exact hp), ?_⟩
        have e3 : areHeights ns = (ns.map okH).all id := by
          unfold areHeights
          rw [decide_eq_true e, List.all_map]
          rfl
        rw [← e3]
        exact k H' sm
/-! ### is_simplex -/
def okC (z : Int) : Bool := decide (0 ≤ z) && decide (z < 10)
def isSimplex (ns : List Int) : Bool := decide (1 ≤ ns.length) && decide (ns.length ≤ 4) && decide ns.Nodup && ns.all okC
theorem nodup_of_len {ns ks : List Int} (nd : ks.Nodup) (h : ∀ k, k ∈ ks ↔ k ∈ ns) : (ks.length < ns.length ↔ ¬ ns.Nodup) ∧ ks.length ≤ ns.length := by
  have le := nodup_sub nd fun x hx => (h x).1 hx
  refine ⟨⟨fun lt nd2 => ?_, fun nn => ?_⟩, le⟩
  · have := nodup_sub nd2 fun x hx => (h x).2 hx
    omega
  · rcases Nat.lt_or_ge ks.length ns.length with l | l
    · exact l
    · exact absurd (nodup_back nd (fun x hx => (h x).1 hx) l) nn
end
def spIsSimplex (K : PySem.W.Frag) : Sp := fun vs H Q _ => ∃ (a : Addr) (ns : List Int), vs = [.ref a] ∧ SqL K H a (ns.map V.int) ∧ ns.length ≤ 1000 ∧ ∀ H', L2.Same H H' → Q (.bl (isSimplex ns)) H'
section
variable {P : Program} {w : World} {K : PySem.W.Frag} {mg : Str → Option Value} {base : Heap}
theorem scIS : FnScope ["corners", "corner"] ["corners"] (defScope sIsSimplex) := ⟨rfl, rfl, rfl, by decide +kernel, rfl, by decide +kernel, by decide +kernel⟩
theorem ok_isSimplex {f : Addr} {fd : FuncData} (F : Fun K "is_simplex" "is_simplex" sIsSimplex f fd) (T : Txt mg) : FnOk P w K mg base CX0 1 f fd ["corners"] (spIsSimplex K) := by
  obtain ⟨t10, g10⟩ := T.corners
  obtain ⟨t4, g4⟩ := T.most
  refine F.ok scIS (fun vs H Q E h => ?_) (fun cdv A outer s H vs Q E hr h => ?_)
  · obtain ⟨a, ns, rfl, _⟩ := h
    rfl
  · obtain ⟨a, ns, rfl, hS, hlen, k⟩ := h
    refine ⟨_, pss_cons (ps_if (PW.pt (pw_or (pt_cmpR op_lt (pe_callB call_len_seq (by rfl) T.len PySem.boot_len (pa_cons (pv 0) pa_nil)) pe_int (nomark _)) (pw_or1 (pt_cmpR op_gt (pe_callB call_len_seq (by rfl) T.len PySem.boot_len (pa_cons (pv 0) pa_nil)) (pe_glob (v := .int 4) rfl g4 ⟨_, rfl⟩) (nomark _))))) (pss_one (ps_ret pe_bl)) pss_nil)
      (pss_cons (ps_if (pt_cmpR op_lt (pe_callB cr_lenS (by rfl) T.len PySem.boot_len (pa_cons (pe_callTy (cr_setL rfl) (by rfl) T.set (by decide +kernel) (pa_cons (pv 0) pa_nil)) pa_nil)) (pe_callB call_len_seq (by rfl) T.len PySem.boot_len (pa_cons (pv 0) pa_nil)) (nomark _)) (pss_one (ps_ret pe_bl)) pss_nil)
      (pss_one (ps_ret (pe_callB (cr_all rfl) (by rfl) T.all (by decide +kernel) (pa_cons
        (pe_lc (own := [("corner", 1)]) (g := gName 1) (tt := tYes) rfl scIS.nd (pi_list (pv 0)) (blkOk_by (own := [("corner", 1)]) (N := ["corners", "corner"]) (sc := defScope sIsSimplex) (by decide +kernel)) (fun _ _ _ _ _ => pg_name (i := 1) scIS.nd rfl (Or.inl rfl)) (fun _ _ _ _ _ => pts_nil)
          (fun _ _ _ _ _ => pe_and (pe_cmpR op_ge (pv 1) pe_int (nomark _)) (pe_one (pe_cmpR op_lt (pv 1) (pe_glob (v := .int 10) rfl g10 ⟨_, rfl⟩) (nomark _))))) pa_nil))))), ?_⟩
    have lenV : (ns.map V.int).length = ns.length := List.length_map _
    have no : isSimplex ns = false → Q (.bl false) H := fun e => by
      have q := k H (L2.Same.refl H)
      rw [e] at q
      exact q
    refine ⟨_, rfl, a, _, rfl, .inl hS, _, _, rfl, rfl, _, rfl, ite_b (fun c => ?_) fun c => ?_⟩
    · refine iteT (no ?_)
      have : ns.length < 1 := by
        have c' : ((ns.map V.int).length : Int) < 1 := by simpa using c
        rw [lenV] at c'
        omega
      unfold isSimplex
      rw [decide_eq_false (by omega)]
      rfl
    refine ⟨_, rfl, a, _, rfl, .inl hS, _, _, rfl, rfl, _, rfl, ite_b (fun c2 => ?_) fun c2 => ?_⟩
    · refine no ?_
      have : 4 < ns.length := by
        simp at c2
        omega
      unfold isSimplex
      rw [decide_eq_false (p := ns.length ≤ 4) (by omega), Bool.and_false]
      rfl
    have l1 : 1 ≤ ns.length := by
      have c' : ¬ ((ns.map V.int).length : Int) < 1 := by simpa using c
      rw [lenV] at c'
      omega
    have l4 : ns.length ≤ 4 := by
      have c' : ¬ (4 : Int) < ((ns.map V.int).length : Int) := by simpa using c2
      rw [lenV] at c'
      omega
    have b : scanBound = 4096 := rfl
    refine ⟨_, rfl, a, ns, rfl, hS, by omega, fun p ks np nd hk => ?_⟩
    obtain ⟨lt_iff, le⟩ := nodup_of_len nd hk
    have s1 : L2.Same H (upd H p (SetO w p (fun j => decide (j ∈ ns)) ks.length)) := same_new np
    refine ⟨p, _, _, rfl, upd_same, by omega, _, rfl, a, _, rfl, .inl (s1.seq hS), _, _, rfl, rfl, _, rfl, ite_b (fun c3 => ?_) fun c3 => ?_⟩
    · have nn : ¬ ns.Nodup := by
        have c' : (ks.length : Int) < ((ns.map V.int).length : Int) := by simpa using c3
        rw [lenV] at c'
        exact lt_iff.mp (by omega)
      have e : isSimplex ns = false := by
        unfold isSimplex
        rw [decide_eq_false nn, Bool.and_false]
        rfl
      have q := k _ s1
      rw [e] at q
      exact q
    have nd2 : ns.Nodup := by
      have c' : ¬ (ks.length : Int) < ((ns.map V.int).length : Int) := by simpa using c3
      rw [lenV] at c'
      exact Decidable.byContradiction fun z => absurd (lt_iff.mpr z) (by omega)
    have e0 : isSimplex ns = (ns.map okC).all id := by
      unfold isSimplex
      rw [decide_eq_true l1, decide_eq_true l4, decide_eq_true nd2, List.all_map]
      rfl
    dsimp only [tNext, tRet, tCB, tCons, tNil]
    refine tLc_of ?_
    refine ⟨_, rfl, a, rfl, ⟨_, s1.seq hS⟩, lc_known (ns.map fun z => V.bl (okC z)) (by simp) (by rw [lenV, sizeLine_eq]; omega) (s1.seq hS) (fun j x y H' hx hy sm R hR => ?_) fun H' p sm np hp => ?_⟩
    · obtain ⟨z, hz, rfl⟩ := map_at hx
      obtain ⟨z', hz', rfl⟩ := map_at hy
      obtain rfl : z = z' := Option.some.inj (hz.symm.trans hz')
      refine ⟨_, rfl, _, _, rfl, rfl, _, rfl, ite_b (fun c1 => ?_) fun c1 => ?_⟩
      · have e2 : okC z = decide (z < 10) := by
          unfold okC
          rw [show decide (0 ≤ z) = true from c1]
          rfl
        rw [e2] at hR
        exact ⟨_, rfl, _, _, rfl, rfl, hR H' (L2.Same.refl H')⟩
      · have e2 : okC z = false := by
          unfold okC
          rw [show decide (0 ≤ z) = false from c1]
          rfl
        rw [e2] at hR
        exact hR H' (L2.Same.refl H')
    · refine ⟨p, ns.map okC, rfl, SqL.of (by rw [List.map_map]; exact hp), ?_⟩
      rw [← e0]
      exact k H' (s1.trans sm)
end
end Fl

set_option Elab.async false
set_option maxRecDepth 100000
set_option maxHeartbeats 4000000
/-! FlP2: comes_at, faces_of, with_all_faces, row_by_heights. -/
namespace Fl
open PySem PySem.Spec PyProof.Rows L2
open HoBase (Sim)
/-- a number as a value; a simplex's corners as values -/
abbrev nv (n : Nat) : V := V.int (n : Int)
def simV (x : Sim) : List V := x.map nv
/-! ### comes_at -/
theorem max_is : ∀ (l : List Nat) (b : Nat) (m : Int), (∀ z ∈ l, (z : Int) ≤ m) → (b : Int) ≤ m → (m = (b : Int) ∨ ∃ z ∈ l, m = (z : Int)) → m = ((l.foldl max b : Nat) : Int)
  | [], b, m, _, _, h => by
    rcases h with h | ⟨z, hz, _⟩
    · exact h
    · cases hz
  | a :: l, b, m, h1, h2, h3 => by
    rw [List.foldl_cons]
    have ha := h1 a (List.mem_cons_self ..)
    refine max_is l (max b a) m (fun z hz => h1 z (List.mem_cons_of_mem _ hz)) (by omega) ?_
    rcases h3 with h | ⟨z, hz, h⟩
    · exact .inl (by omega)
    · rcases List.mem_cons.mp hz with e | e
      · subst e
        exact .inl (by omega)
      · exact .inr ⟨z, e, h⟩
def spComesAt (K : PySem.W.Frag) : Sp := fun vs H Q _ => ∃ (a b : Addr) (x : Sim) (hs : List Nat), vs = [.ref a, .ref b] ∧ SqT K H a (simV x) ∧ SqL K H b (hs.map nv) ∧ x ≠ [] ∧ x.length ≤ 4 ∧ (∀ c ∈ x, c < hs.length) ∧ ∀ H', L2.Same H H' → Q (nv (Ho02.height hs x)) H'
section
variable {P : Program} {w : World} {K : PySem.W.Frag} {mg : Str → Option Value} {base : Heap}
theorem scCA : FnScope ["simplex", "heights", "corner"] ["simplex", "heights"] (defScope sComesAt) := ⟨rfl, rfl, rfl, by decide +kernel, rfl, by decide +kernel, by decide +kernel⟩
theorem ok_comesAt {f : Addr} {fd : FuncData} (F : Fun K "comes_at" "comes_at" sComesAt f fd) (T : Txt mg) : FnOk P w K mg base CX0 1 f fd ["simplex", "heights"] (spComesAt K) := by
  refine F.ok scCA (fun vs H Q E h => ?_) (fun cdv A outer s H vs Q E hr h => ?_)
  · obtain ⟨a, b, x, hs, rfl, _⟩ := h
    rfl
  · obtain ⟨a, b, x, hs, rfl, hX, hH, ne, l4, lt, k⟩ := h
    refine ⟨_, pss_one (ps_ret (pe_callB (cr_max rfl) (by rfl) T.max (by decide +kernel) (pa_cons
      (pe_lc (te := tOp (rIxL K) (tVar 1) (tVar 2)) (own := [("corner", 2)]) (g := gName 2) (tt := tYes) rfl scCA.nd (pi_tup (pv 0)) (blkOk_by (own := [("corner", 2)]) (N := ["simplex", "heights", "corner"]) (sc := defScope sComesAt) (by decide +kernel)) (fun _ _ _ _ _ => pg_name (i := 2) scCA.nd rfl (Or.inl rfl)) (fun _ _ _ _ _ => pts_nil)
        (fun _ _ _ _ _ => pe_ix ix_list (pv 1) (pv 2) (fun _ _ => rfl))) pa_nil))), ?_⟩
    have lenV : (simV x).length = x.length := List.length_map _
    dsimp only [tNext, tRet, tCB, tCons, tNil]
    refine tLc_tup ?_
    refine ⟨_, rfl, a, rfl, ⟨_, hX⟩, lc_knownT (x.map fun c => nv (hs.getD c 0)) (by simp [simV]) (by rw [lenV, sizeLine_eq]; omega) hX (fun j v y H' hx hy sm R hR => ?_) fun H' p sm np hp => ?_⟩
    · obtain ⟨c, hc, rfl⟩ := map_at (show (x.map nv)[j]? = some v from hx)
      obtain ⟨c', hc', rfl⟩ := map_at hy
      obtain rfl : c = c' := Option.some.inj (hc.symm.trans hc')
      have lc := lt c (List.mem_of_getElem? hc)
      refine ⟨_, rfl, _, rfl, b, _, _, _, rfl, rfl, sm.seq hH, at_of (j := c) rfl ?_, hR H' (L2.Same.refl H')⟩
      rw [List.getElem?_map, List.getElem?_eq_getElem lc, List.getD_eq_getElem?_getD, List.getElem?_eq_getElem lc]
      rfl
    · refine ⟨p, x.map fun c => ((hs.getD c 0 : Nat) : Int), rfl, SqL.of (by rw [hp, List.map_map]; rfl), ?_, fun m hm hle => ?_⟩
      · rw [List.length_map]
        exact List.length_pos_iff.mpr ne
      · have e : m = ((Ho02.height hs x : Nat) : Int) := by
          refine max_is (x.map fun n => hs.getD n 0) 0 m (fun z hz => ?_) ?_ ?_
          · obtain ⟨c, hc, rfl⟩ := List.mem_map.mp hz
            exact hle _ (List.mem_map.mpr ⟨c, hc, rfl⟩)
          · obtain ⟨c, hc, rfl⟩ := List.mem_map.mp hm
            omega
          · obtain ⟨c, hc, e⟩ := List.mem_map.mp hm
            exact .inr ⟨_, List.mem_map.mpr ⟨c, hc, rfl⟩, e.symm⟩
        rw [e]
        exact k H' sm
/-! ### faces_of -/
def fstep (l : List Sim) (c : Nat) : List Sim := l ++ l.map fun y => y ++ [c]
def facesAll (x : Sim) : List Sim := x.foldl fstep [[]]
theorem facesAll_snoc (x : Sim) (c : Nat) : facesAll (x ++ [c]) = fstep (facesAll x) c := by
  unfold facesAll
  rw [List.foldl_append]
  rfl
theorem facesAll_len : ∀ (x : Sim) (l : List Sim), (x.foldl fstep l).length = l.length * 2 ^ x.length
  | [], l => by simp
  | c :: x, l => by
    rw [List.foldl_cons, facesAll_len x]
    unfold fstep
    rw [List.length_append, List.length_map, List.length_cons, Nat.pow_succ]
    rw [← Nat.two_mul, Nat.mul_comm 2, Nat.mul_assoc, Nat.mul_comm 2]
theorem fold_mem {y : Sim} : ∀ (x : Sim) (l : List Sim), y ∈ x.foldl fstep l ↔ ∃ u ∈ l, ∃ v, v.Sublist x ∧ y = u ++ v
  | [], l => by
    constructor
    · intro h
      exact ⟨y, h, [], List.Sublist.refl _, by simp⟩
    · rintro ⟨u, hu, v, hv, e⟩
      rw [List.sublist_nil.mp hv, List.append_nil] at e
      rw [e]
      exact hu
  | c :: x, l => by
    rw [List.foldl_cons, fold_mem x]
    constructor
    · rintro ⟨u, hu, v, hv, e⟩
      rcases List.mem_append.mp hu with h | h
      · exact ⟨u, h, v, hv.cons c, e⟩
      · obtain ⟨u0, h0, rfl⟩ := List.mem_map.mp h
        exact ⟨u0, h0, c :: v, hv.cons_cons c, by rw [e]; simp⟩
    · rintro ⟨u, hu, v, hv, e⟩
      cases hv with
      | cons _ hv => exact ⟨u, List.mem_append.mpr (.inl hu), v, hv, e⟩
      | cons_cons _ hv =>
        rename_i v0
        exact ⟨u ++ [c], List.mem_append.mpr (.inr (List.mem_map.mpr ⟨u, hu, rfl⟩)), v0, hv, by rw [e]; simp⟩
theorem fold_head : ∀ (x : Sim) (r : List Sim), (∀ y ∈ r, y ≠ []) → ∃ r', x.foldl fstep ([] :: r) = [] :: r' ∧ ∀ y ∈ r', y ≠ []
  | [], r, h => ⟨r, rfl, h⟩
  | c :: x, r, h => by
    have e : fstep ([] :: r) c = [] :: (r ++ ([] :: r).map fun y => y ++ [c]) := rfl
    rw [List.foldl_cons, e]
    refine fold_head x _ fun y hy => ?_
    rcases List.mem_append.mp hy with q | q
    · exact h y q
    · obtain ⟨z, _, rfl⟩ := List.mem_map.mp q
      simp
/-- the faces as the program finds them -/
def facesL (x : Sim) : List Sim := (facesAll x).drop 1
theorem mem_facesL {x y : Sim} : y ∈ facesL x ↔ y ∈ HoBase.parts x := by
  rw [mem_parts]
  obtain ⟨r, e, ne⟩ := fold_head x [] (fun y hy => by cases hy)
  have m := fold_mem (y := y) x [[]]
  have e2 : facesAll x = [] :: r := e
  unfold facesL
  rw [e2, List.drop_one, List.tail_cons]
  rw [e] at m
  constructor
  · intro h
    obtain ⟨u, hu, v, hv, q⟩ := m.mp (List.mem_cons_of_mem _ h)
    rw [List.mem_singleton.mp hu] at q
    exact ⟨ne y h, by rw [q]; exact hv⟩
  · rintro ⟨h1, h2⟩
    rcases List.mem_cons.mp (m.mpr ⟨[], List.mem_singleton.mpr rfl, y, h2, rfl⟩) with z | z
    · exact absurd z h1
    · exact z
theorem facesL_len (x : Sim) (h : x.length ≤ 4) : (facesAll x).length ≤ 16 := by
  unfold facesAll
  rw [facesAll_len]
  have : 2 ^ x.length ≤ 2 ^ 4 := Nat.pow_le_pow_right (by decide) h
  simp
  omega
/-- tuples of simplices -/
abbrev TupsAt (H : Hp) (xs : List Sim) (ts : List Addr) : Prop := Paired (fun y t => H t = some (.tup (simV y))) xs ts
theorem tups_same {H H' : Hp} (s : L2.Same H H') {xs : List Sim} {ts : List Addr} (p : TupsAt H xs ts) : TupsAt H' xs ts := L2.Paired.mapP p fun _ _ h => s _ _ h
theorem paired_append {α β : Type} {F : α → β → Prop} : ∀ {l l' : List α} {m m' : List β}, Paired F l m → Paired F l' m' → Paired F (l ++ l') (m ++ m')
  | _, _, _, _, .nil, h => h
  | _, _, _, _, .cons h t, h' => .cons h (paired_append t h')
theorem paired_drop {α β : Type} {F : α → β → Prop} : ∀ {l : List α} {m : List β} (n : Nat), Paired F l m → Paired F (l.drop n) (m.drop n)
  | _, _, 0, h => h
  | _, _, _ + 1, .nil => .nil
  | _, _, n + 1, .cons _ t => paired_drop n t
theorem paired_map {α β γ : Type} {F : γ → β → Prop} (g : α → γ) : ∀ {l : List α} {m : List β}, Paired F (l.map g) m → Paired (fun a b => F (g a) b) l m
  | [], _, h => by
    cases h
    exact .nil
  | _ :: _, _, h => by
    cases h with
    | cons h1 t => exact .cons h1 (paired_map g t)
def spFacesOf (K : PySem.W.Frag) : Sp := fun vs H Q _ => ∃ (a : Addr) (x : Sim), vs = [.ref a] ∧ SqT K H a (simV x) ∧ x.length ≤ 4 ∧
  ∀ (H' : Hp) (p : Addr) (ts : List Addr), L2.Same H H' → H p = none → H' p = some (.lst (ts.map V.ref)) → TupsAt H' (facesL x) ts → Q (.ref p) H'
theorem scFO : FnScope ["simplex", "faces", "corner", "face"] ["simplex"] (defScope sFacesOf) := ⟨rfl, rfl, rfl, by decide +kernel, rfl, by decide +kernel, by decide +kernel⟩
theorem ok_facesOf {f : Addr} {fd : FuncData} (F : Fun K "faces_of" "faces_of" sFacesOf f fd) : FnOk P w K mg base CX0 1 f fd ["simplex"] (spFacesOf K) := by
  refine F.ok scFO (fun vs H Q E h => ?_) (fun cdv A outer s H vs Q E hr h => ?_)
  · obtain ⟨a, x, rfl, _⟩ := h
    rfl
  · obtain ⟨a, x, rfl, hX, l4, k⟩ := h
    refine ⟨_, pss_cons (ps_set (i := 1) scFO.nd rfl (Or.inl rfl) (pe_lst (pa_cons (pe_tup pa_nil) pa_nil)))
      (pss_cons (ps_for PassesOwn.never rfl (pi_tup (pv 0)) (pg_name (i := 2) scFO.nd rfl (Or.inr rfl))
        (pss_one (ps_set (i := 1) scFO.nd rfl (Or.inl rfl) (pe_op op_cat (pv 1)
          (pe_lc (te := tOp (rCatA K) (tVar 3) (tTup (tCons (tVar 2) tNil))) (own := [("face", 3)]) (g := gName 3) (tt := tYes) rfl scFO.nd (pi_list (pv 1)) (blkOk_by (own := [("face", 3)]) (N := ["simplex", "faces", "corner", "face"]) (sc := defScope sFacesOf) (by decide +kernel)) (fun _ _ _ _ _ => pg_name (i := 3) scFO.nd rfl (Or.inl rfl)) (fun _ _ _ _ _ => pts_nil)
            (fun _ _ _ _ _ => pe_op op_catA (pv 3) (pe_tup (pa_cons (pv 2) pa_nil))))))))
      (pss_one (ps_ret (pe_slice sl_list (pv 1) (po_some pe_int) po_none)))), ?_⟩
    have lenV : (simV x).length = x.length := List.length_map _
    refine ⟨Nat.zero_le _, fun p0 n0 => ⟨by show 1 ≤ sizeLine; decide, fun l0 m0 => ?_⟩⟩
    have s0 : L2.Same H (upd (upd H p0 (.tup [])) l0 (.lst [.ref p0])) := same_upd (same_new n0) ((same_new n0).free m0)
    have p0l : p0 ≠ l0 := ne_of_none upd_same m0
    refine ⟨_, rfl, a, rfl, ⟨_, same_tup s0 hX⟩, for_tup (K := K) (a := a) (xs := simV x) (fun i σ H' => ∃ (l : Addr) (ts : List Addr) (v : Option V), σ = [some (.ref a), some (.ref l), v, none] ∧ L2.Same H H' ∧ H' l = some (.lst (ts.map V.ref)) ∧ TupsAt H' (facesAll (x.take i)) ts)
      ⟨l0, [p0], none, rfl, s0, upd_same, .cons ((upd_ne p0l).trans upd_same) .nil⟩ (fun i σ H' _ ⟨_, _, _, _, sm, _⟩ => same_tup sm hX) ?_ ?_⟩
    · rintro i y σ H' hi ⟨l, ts, v, rfl, sm, hl, pr⟩
      obtain ⟨c, hc, rfl⟩ := map_at (show (x.map nv)[i]? = some y from hi)
      have lenF : (facesAll (x.take i)).length ≤ 16 := facesL_len _ (by rw [List.length_take]; omega)
      have lenT : ts.length ≤ 16 := by rw [← paired_len pr]; exact lenF
      refine ⟨_, rfl, ?_⟩
      refine tLc_of ?_
      refine ⟨_, rfl, l, rfl, ⟨_, SqL.of hl⟩, lc_tups ((facesAll (x.take i)).map fun y => simV y ++ [nv c]) (by rw [List.length_map, List.length_map, paired_len pr]) (by rw [List.length_map, sizeLine_eq]; omega) (SqL.of hl) (fun j u g H2 hu hg s2 R hR => ?_) fun H2 q us s2 nq hq pu => ?_⟩
      · obtain ⟨t, ht, rfl⟩ := map_at hu
        obtain ⟨y, hy, rfl⟩ := map_at hg
        obtain ⟨y', hy', ty⟩ := paired_at pr ht
        obtain rfl : y = y' := Option.some.inj (hy.symm.trans hy')
        refine ⟨_, rfl, _, rfl, by show 1 ≤ sizeLine; decide, fun p np => ?_⟩
        have ty2 := s2 _ _ ty
        have s3 : L2.Same H2 (upd H2 p (.tup [nv c])) := same_new np
        have yl : (simV y).length ≤ 4 := by
          have hs := (fold_mem (y := y) (x.take i) [[]]).mp (List.mem_of_getElem? hy)
          obtain ⟨u0, h0, v0, hv0, e0⟩ := hs
          rw [List.mem_singleton.mp h0, List.nil_append] at e0
          have := hv0.length_le
          rw [List.length_take] at this
          show (y.map nv).length ≤ 4
          rw [List.length_map, e0]
          omega
        refine ⟨t, p, _, _, rfl, rfl, SqT.of (s3 _ _ ty2), SqT.of upd_same, by rw [sizeLine_eq, List.length_singleton]; omega, fun e => ?_, fun _ z => (by cases z), fun _ _ r nr => hR _ r (s3.trans (same_new nr)) upd_same⟩
        rw [e] at hR
        exact hR _ p s3 upd_same
      · refine ⟨l, q, _, _, rfl, rfl, s2 _ _ hl, hq, ?_, fun r nr => ?_⟩
        · have q1 := paired_len pu
          rw [List.length_map] at q1 ⊢
          rw [List.length_map, sizeLine_eq]
          omega
        · have s3 : L2.Same H2 (upd H2 r (.lst (ts.map V.ref ++ us.map V.ref))) := same_new nr
          refine ⟨r, ts ++ us, some (nv c), rfl, (sm.trans s2).trans s3, ?_, ?_⟩
          · rw [upd_same, List.map_append]
          · rw [take_more hc, facesAll_snoc]
            refine paired_append (tups_same (s2.trans s3) pr) ?_
            have pv2 := paired_map (fun y => simV y ++ [nv c]) pu
            have e4 : (facesAll (x.take i)).map (fun y => y ++ [c]) = (facesAll (x.take i)).map fun y => y ++ [c] := rfl
            have conv : ∀ {l : List Sim} {m : List Addr}, Paired (fun a b => H2 b = some (.tup (simV a ++ [nv c]))) l m → TupsAt (upd H2 r (.lst (ts.map V.ref ++ us.map V.ref))) (l.map fun y => y ++ [c]) m := by
              intro l m h
              induction h with
              | nil => exact .nil
              | cons h1 _ ih =>
                refine .cons ?_ ih
                have z := s3 _ _ h1
                rw [z]
                simp [simV]
            exact conv pv2
    · rintro σ H' ⟨l, ts, v, rfl, sm, hl, pr⟩
      rw [lenV, List.take_length] at pr
      refine ⟨_, rfl, _, rfl, l, _, rfl, SqL.of hl, fun r nr => ?_⟩
      have s3 := same_new (o := .lst (cutV (ts.map V.ref) (some 1) none)) nr
      have lenT : 1 ≤ ts.length := by
        rw [← paired_len pr]
        unfold facesAll
        rw [facesAll_len]
        exact Nat.pos_of_ne_zero (by simp)
      have ec : cutV (ts.map V.ref) (some 1) none = (ts.drop 1).map V.ref := by
        unfold cutV
        rw [show (some (1 : Int)) = some ((1 : Nat) : Int) from rfl, HT.sIx_nat, HT.sIx_none, List.length_map, Nat.min_eq_left lenT, List.map_drop]
        exact List.take_of_length_le (by simp)
      rw [ec] at s3 ⊢
      exact k _ r (ts.drop 1) (sm.trans s3) (sm.free nr) upd_same (tups_same s3 (paired_drop 1 pr))
end
end Fl

set_option Elab.async false
set_option maxRecDepth 100000
set_option maxHeartbeats 4000000
/-! FlKey: the order of the keys (len(face), face) and of heights; what sorted gives by them. -/
namespace Fl
open PySem PySem.Spec PyProof.Rows L2
open PySem.W (keyToks keyToksAll dataLe AllAlike Sortable alike alikeAll TotalLe sort_unique sort_pairwise sort_maps sameRank)
open HoBase (Sim before lexLess)
/-! ### keys -/
abbrev iD (n : Nat) : PyData := .int (n : Int)
abbrev iT (n : Nat) : List (Int ⊕ List Nat) := [.inl 1, .inl (n : Int)]
def simD (x : Sim) : PyData := .tuple (x.map iD)
def lenKey (x : Sim) : PyData := .tuple [.int (x.length : Int), simD x]
theorem toks_sim : ∀ x : Sim, keyToksAll (x.map iD) = (x.flatMap iT) ++ [.inl 0]
  | [] => by simp [keyToksAll]
  | a :: x => by
    rw [List.map_cons, List.flatMap_cons]
    show keyToksAll (PyData.int (a : Int) :: x.map iD) = _
    rw [keyToksAll, keyToks, toks_sim x]
    rfl
theorem lt_int {a b : Int} {r t : List (Int ⊕ List Nat)} : PyProof.Rows.lexLt itemOrd (.inl a :: r) (.inl b :: t) = (decide (a < b) || (decide (a = b) && PyProof.Rows.lexLt itemOrd r t)) := by
  by_cases e : a = b
  · subst e
    rw [PyProof.Rows.lex_self]
    simp
  · rw [PyProof.Rows.lex_diff (O := itemOrd) (fun z => e (Sum.inl.inj z))]
    show decide (a < b) = _
    simp [e]
theorem lex_sims : ∀ {x y : Sim}, x.length = y.length → PyProof.Rows.lexLt itemOrd (keyToksAll (x.map iD)) (keyToksAll (y.map iD)) = lexLess x y
  | [], [], _ => by
    rw [PyProof.Rows.lex_irrefl]
    rfl
  | a :: x, b :: y, h => by
    have ih := lex_sims (x := x) (y := y) (by simpa using h)
    rw [toks_sim, toks_sim] at ih ⊢
    rw [List.flatMap_cons, List.flatMap_cons]
    show PyProof.Rows.lexLt itemOrd (.inl 1 :: .inl (a : Int) :: ((x.flatMap iT) ++ [.inl 0])) (.inl 1 :: .inl (b : Int) :: ((y.flatMap iT) ++ [.inl 0])) = (decide (a < b) || (a == b && lexLess x y))
    rw [PyProof.Rows.lex_self, lt_int, ih]
    have e1 : decide ((a : Int) < (b : Int)) = decide (a < b) := by simp
    have e2 : decide ((a : Int) = (b : Int)) = (a == b) := by
      by_cases q : a = b
      · subst q; simp
      · have : ¬ ((a : Int) = (b : Int)) := by omega
        simp [q, this]
    rw [e1, e2]
theorem lt_keys (x y : Sim) : PyProof.Rows.lexLt itemOrd (keyToks (lenKey x)) (keyToks (lenKey y)) = before x y := by
  have tk : ∀ z : Sim, keyToks (lenKey z) = .inl 1 :: .inl (z.length : Int) :: .inl 1 :: (keyToksAll (z.map iD) ++ [.inl 0]) := fun z => by
    unfold lenKey simD
    rw [keyToks, keyToksAll, keyToks, keyToksAll, keyToks, keyToksAll]
    rfl
  rw [tk, tk, PyProof.Rows.lex_self, lt_int, PyProof.Rows.lex_self]
  show _ = (decide (x.length < y.length) || (x.length == y.length && lexLess x y))
  have e1 : decide ((x.length : Int) < (y.length : Int)) = decide (x.length < y.length) := by simp
  by_cases q : x.length = y.length
  · have e3 : PyProof.Rows.lexLt itemOrd (keyToksAll (x.map iD) ++ [.inl 0]) (keyToksAll (y.map iD) ++ [.inl 0]) = lexLess x y := by
      have gen : ∀ {a b : Sim}, a.length = b.length → PyProof.Rows.lexLt itemOrd ((a.flatMap iT) ++ [.inl 0] ++ [.inl 0]) ((b.flatMap iT) ++ [.inl 0] ++ [.inl 0]) = lexLess a b := by
        intro a
        induction a with
        | nil =>
          intro b hb
          cases b with
          | nil => rw [PyProof.Rows.lex_irrefl]; rfl
          | cons _ _ => cases hb
        | cons u a ih =>
          intro b hb
          cases b with
          | nil => cases hb
          | cons v b =>
            have ih := ih (b := b) (by simpa using hb)
            show PyProof.Rows.lexLt itemOrd (.inl 1 :: .inl (u : Int) :: ((a.flatMap iT) ++ [.inl 0] ++ [.inl 0])) (.inl 1 :: .inl (v : Int) :: ((b.flatMap iT) ++ [.inl 0] ++ [.inl 0])) = (decide (u < v) || (u == v && lexLess a b))
            rw [PyProof.Rows.lex_self, lt_int, ih]
            have e1 : decide ((u : Int) < (v : Int)) = decide (u < v) := by simp
            have e2 : decide ((u : Int) = (v : Int)) = (u == v) := by
              by_cases q : u = v
              · subst q; simp
              · have : ¬ ((u : Int) = (v : Int)) := by omega
                simp [q, this]
            rw [e1, e2]
      rw [toks_sim, toks_sim]
      exact gen q
    have e2 : ((x.length : Int) = (y.length : Int)) := by omega
    rw [e1, e3, decide_eq_true e2, beq_iff_eq.mpr q]
  · have e2 : ¬ ((x.length : Int) = (y.length : Int)) := by omega
    rw [e1, decide_eq_false e2]
    simp [q]
theorem le_keys (f : V → Sim) {key : V → PyData} {a b : V} (ha : key a = lenKey (f a)) (hb : key b = lenKey (f b)) : dataLe false key a b = !before (f b) (f a) := by
  show (!(PyProof.Rows.lexLt itemOrd (keyToks (key b)) (keyToks (key a)))) = _
  rw [ha, hb, lt_keys]
theorem le_ints (f : V → Nat) {key : V → PyData} {a b : V} (ha : key a = .int (f a : Int)) (hb : key b = .int (f b : Int)) : dataLe false key a b = decide (f a ≤ f b) := by
  show (!(PyProof.Rows.lexLt itemOrd (keyToks (key b)) (keyToks (key a)))) = _
  rw [ha, hb]
  show (!(PyProof.Rows.lexLt itemOrd [.inl (f b : Int)] [.inl (f a : Int)])) = _
  rw [lt_int]
  by_cases q : f a ≤ f b
  · have : ¬ ((f b : Int) < (f a : Int)) := by omega
    simp [q, this, PyProof.Rows.lexLt]
  · have : (f b : Int) < (f a : Int) := by omega
    simp [q, this]
/-! ### sorted by them -/
def bLe (x y : Sim) : Bool := !before y x
theorem bLe_total : TotalLe bLe where
  trans a b c h1 h2 := by
    unfold bLe at *
    rw [Bool.not_eq_true'] at *
    cases e : before c a with
    | false => rfl
    | true =>
      rcases before_tri a b with q | q | q
      · rw [before_trans e q] at h2
        cases h2
      · subst q
        rw [e] at h2
        cases h2
      · rw [q] at h1
        cases h1
  total a b := by
    unfold bLe
    rcases before_tri a b with q | q | q
    · left
      rw [Bool.not_eq_true']
      cases e : before b a with
      | false => rfl
      | true => exact absurd e (before_asy q)
    · subst q
      left
      rw [Bool.not_eq_true']
      cases e : before a a with
      | false => rfl
      | true => exact absurd e (before_irr a)
    · right
      rw [Bool.not_eq_true']
      cases e : before a b with
      | false => rfl
      | true => exact absurd e (before_asy q)
theorem sorted_bLe {ys : List Sim} (nd : ys.Nodup) (l : List Sim) (h : ∀ x, x ∈ ys ↔ x ∈ l) : ys.mergeSort bLe = HoBase.sorted l := by
  have pm := List.mergeSort_perm ys bLe
  refine sorted_unique ?_ fun x => pm.mem_iff.trans (h x)
  have pw := sort_pairwise bLe_total ys
  have nd2 : (ys.mergeSort bLe).Nodup := pm.nodup_iff.mpr nd
  refine (pw.and nd2).imp fun {a b} ⟨q1, q2⟩ => ?_
  unfold bLe at q1
  rcases before_tri a b with q | q | q
  · exact q
  · exact absurd q q2
  · rw [q] at q1
    cases q1
def hLe (h : List Nat) (x y : Sim) : Bool := decide (Ho02.height h x ≤ Ho02.height h y)
theorem hLe_total (h : List Nat) : TotalLe (hLe h) where
  trans a b c h1 h2 := by
    unfold hLe at *
    simp only [decide_eq_true_eq] at *
    omega
  total a b := by
    unfold hLe
    simp only [decide_eq_true_eq]
    omega
theorem row_sorted {c : HoBase.Cx} (h : List Nat) (hc : c.Pairwise (fun a b => before a b = true)) : c.mergeSort (hLe h) = Ho02.row c h := by
  refine (sort_unique (hLe_total h) ((row_le h hc).imp fun {a b} q => ?_) fun x => ?_).symm
  · unfold hLe
    exact decide_eq_true q
  · have e : sameRank (hLe h) x = fun y => Ho02.height h y == Ho02.height h x := by
      funext y
      unfold sameRank hLe
      rw [Bool.eq_iff_iff]
      simp
      omega
    rw [e]
    exact row_group h hc _
theorem alike_lens (xs : List Sim) : AllAlike (xs.map lenKey) := by
  have intsA : ∀ x y : Sim, alikeAll (x.map iD) (y.map iD) = true := by
    intro x
    induction x with
    | nil => intro y; cases y <;> rfl
    | cons a x ih =>
      intro y
      cases y with
      | nil => rfl
      | cons b y =>
        show (alike (.int a) (.int b) && alikeAll (x.map iD) (y.map iD)) = true
        rw [ih y]
        rfl
  intro d hd d' hd'
  obtain ⟨x, _, rfl⟩ := List.mem_map.mp hd
  obtain ⟨y, _, rfl⟩ := List.mem_map.mp hd'
  show (alike (.int (x.length : Int)) (.int (y.length : Int)) && (alike (simD x) (simD y) && true)) = true
  have q : alike (simD x) (simD y) = true := intsA x y
  rw [q]
  rfl
theorem sortable_lens (xs : List Sim) : Sortable (xs.map lenKey) := .inl fun d hd => by
  obtain ⟨x, _, rfl⟩ := List.mem_map.mp hd
  exact ⟨_, _, rfl⟩
end Fl

set_option Elab.async false
set_option maxRecDepth 100000
set_option maxHeartbeats 4000000
/-! FlP3: with_all_faces, row_by_heights: sorted by a lambda's key. -/
namespace Fl
open PySem PySem.Spec PyProof.Rows L2 LamX NdefX
open PySem.W (dataLe AllAlike Sortable sort_maps)
open HoBase (Sim before)
/-! ### a def that makes lambdas: its code object is known -/
structure FunC (K : PySem.W.Frag) (x qual : Str) (st : Stmt) (f : Addr) (fd : FuncData) (c : Addr) : Prop where
  ex : ∃ (oc : Value) (od : Option Addr) (kV doc pm : Value) (an : Option Addr) (ct : Value) (osl : Array (Option Value)),
    fd = PySem.W.fnOf x qual (defArgs st) (defBody st) (defScope st) .none kV doc pm an (.ref c) ct ∧ K.lookup f = some ⟨oc, od, .func fd, osl⟩ ∧ PySem.W.codeIn K (.ref c) qual = true
  kp : PySem.W.keepIn K (.ref f) = true
/-- a def's table among those that are tracked -/
structure TabF (T : List (Addr × Str)) (base : Heap) (mg : Str → Option Value) (c P : Addr) (q : Str) : Prop where
  tb : TabB base mg c P
  mem : (P, q) ∈ T
  uniq : ∀ p ∈ T, p.1 = P → p.2 = q
section
variable {P : Program} {w : World} {K : PySem.W.Frag} {mg : Str → Option Value} {base : Heap}
theorem FunC.ok {x qual : Str} {st : Stmt} {f c : Addr} {fd : FuncData} {N ps : List Str} {k : Nat} {sp : Sp} (F : FunC K x qual st f fd c) (S : FnScope N ps (defScope st)) (len : ∀ vs H Q E, sp vs H Q E → vs.length = ps.length)
    (hbody : ∀ (A : Around) (outer : List Env) (s : Shared) (H : Hp) (vs : List V) (Q : VK) (E : XK), Room k (A.deeper (envOfC qual (defScope st) s.heap.objs.size f (.ref c))) → sp vs H Q E →
      ∃ t, PSs (cxOf CX0 P w K mg base N qual (defScope st) f (.ref c) A outer s H E).nox (defBody st) t ∧ t { nx := fun _ H' => Q .non H', rt := Q } (L2.start N vs) H) : FnOk P w K mg base CX0 (k + 1) f fd ps sp := by
  obtain ⟨oc, od, kV, doc, pm, an, ct, osl, rfl, lk, cd⟩ := F.ex
  exact fn_of lk cd S len fun A outer s H vs Q E hr hsp => let ⟨t, h, q⟩ := hbody A outer s H vs Q E hr hsp; ⟨t, h.nox, q⟩
end
/-! ### dicts with simplices as keys -/
abbrev nk (n : Nat) : Key := Sum.inl (n : Int)
def simK (x : Sim) : List Key := x.map nk
theorem simK_V (x : Sim) : (simK x).map kV = simV x := by
  unfold simK simV
  rw [List.map_map]
  rfl
theorem simK_inj {x y : Sim} (h : simK x = simK y) : x = y := by
  unfold simK at h
  refine (List.map_inj_right fun a b e => ?_).mp h
  have := Sum.inl.inj e
  omega
theorem any_key {kvs : List (List Key × V)} {k : List Key} : (kvs.any fun kv => decide (kv.1 = k)) = true ↔ k ∈ kvs.map (·.1) := by
  rw [List.any_eq_true, List.mem_map]
  simp
theorem keys_put_in {kvs : List (List Key × V)} {k : List Key} {v : V} (c : k ∈ kvs.map (·.1)) : (putK kvs k v).map (·.1) = kvs.map (·.1) := by
  unfold putK
  rw [if_pos (any_key.mpr c), List.map_map]
  refine List.map_congr_left fun p _ => ?_
  show (if p.1 = k then (p.1, v) else p).1 = p.1
  split <;> rfl
theorem keys_put_new {kvs : List (List Key × V)} {k : List Key} {v : V} (c : k ∉ kvs.map (·.1)) : (putK kvs k v).map (·.1) = kvs.map (·.1) ++ [k] := by
  unfold putK
  rw [if_neg (fun z => c (any_key.mp z)), List.map_append]
  rfl
/-- the dict's keys are the simplices ks -/
structure KeysAre (H : Hp) (d : Addr) (ks : List Sim) (kvs : List (List Key × V)) : Prop where
  at_ : H d = some (.dT kvs)
  keys : kvs.map (·.1) = ks.map simK
theorem keysAre_len {H : Hp} {d : Addr} {ks : List Sim} {kvs : List (List Key × V)} (h : KeysAre H d ks kvs) : kvs.length = ks.length := by
  have q := congrArg List.length h.keys
  rw [List.length_map, List.length_map] at q
  exact q
def addSim (ks : List Sim) (y : Sim) : List Sim := if y ∈ ks then ks else ks ++ [y]
theorem keysAre_put {H H' : Hp} {d : Addr} {ks : List Sim} {kvs : List (List Key × V)} {y : Sim} {v : V} (h : KeysAre H d ks kvs) (e : H' d = some (.dT (putK kvs (simK y) v))) : KeysAre H' d (addSim ks y) (putK kvs (simK y) v) := by
  refine ⟨e, ?_⟩
  unfold addSim
  have m : simK y ∈ ks.map simK ↔ y ∈ ks := by
    constructor
    · intro z
      obtain ⟨x, hx, q⟩ := List.mem_map.mp z
      rw [← simK_inj q]
      exact hx
    · intro z
      exact List.mem_map.mpr ⟨y, z, rfl⟩
  by_cases c : y ∈ ks
  · rw [if_pos c, keys_put_in (by rw [h.keys]; exact m.mpr c)]
    exact h.keys
  · rw [if_neg c, keys_put_new (by rw [h.keys]; exact fun z => c (m.mp z)), h.keys, List.map_append]
    rfl
theorem mem_addSim {ks : List Sim} {y z : Sim} : z ∈ addSim ks y ↔ z = y ∨ z ∈ ks := by
  unfold addSim
  split
  · rename_i c
    constructor
    · exact .inr
    · rintro (e | e)
      · rw [e]; exact c
      · exact e
  · rw [List.mem_append, List.mem_singleton]
    exact Or.comm
theorem nodup_addSim {ks : List Sim} (h : ks.Nodup) (y : Sim) : (addSim ks y).Nodup := by
  unfold addSim
  split
  · exact h
  · rename_i c
    rw [List.nodup_append]
    refine ⟨h, by simp, fun a ha b hb e => ?_⟩
    rw [List.mem_singleton.mp hb] at e
    exact c (e ▸ ha)
theorem len_addSim (ks : List Sim) (y : Sim) : (addSim ks y).length ≤ ks.length + 1 := by
  unfold addSim
  split
  · omega
  · rw [List.length_append, List.length_singleton]
    omega
theorem fold_addSim {z : Sim} : ∀ (l ks : List Sim), (z ∈ l.foldl addSim ks ↔ z ∈ l ∨ z ∈ ks)
  | [], ks => by simp
  | y :: l, ks => by
    rw [List.foldl_cons, fold_addSim l, mem_addSim, List.mem_cons]
    constructor
    · rintro (h | h | h)
      · exact .inl (.inr h)
      · exact .inl (.inl h)
      · exact .inr h
    · rintro ((h | h) | h)
      · exact .inr (.inl h)
      · exact .inl h
      · exact .inr (.inr h)
theorem fold_nodup : ∀ (l : List Sim) {ks : List Sim}, ks.Nodup → (l.foldl addSim ks).Nodup
  | [], _, h => h
  | y :: l, _, h => fold_nodup l (nodup_addSim h y)
theorem fold_len : ∀ (l ks : List Sim), (l.foldl addSim ks).length ≤ ks.length + l.length
  | [], ks => by simp
  | y :: l, ks => by
    have := fold_len l (addSim ks y)
    have := len_addSim ks y
    rw [List.foldl_cons, List.length_cons]
    omega
/-- all faces, each once, as they are met -/
def allFaces (xs : List Sim) : List Sim := xs.foldl (fun ks x => (facesL x).foldl addSim ks) []
theorem allFaces_snoc (xs : List Sim) (x : Sim) : allFaces (xs ++ [x]) = (facesL x).foldl addSim (allFaces xs) := by
  unfold allFaces
  rw [List.foldl_append]
  rfl
theorem allFaces_ok : ∀ (xs : List Sim), (allFaces xs).Nodup ∧ ∀ y, y ∈ allFaces xs ↔ ∃ x ∈ xs, y ∈ HoBase.parts x := by
  have gen : ∀ (xs ks : List Sim), ks.Nodup → (xs.foldl (fun ks x => (facesL x).foldl addSim ks) ks).Nodup ∧ ∀ y, y ∈ xs.foldl (fun ks x => (facesL x).foldl addSim ks) ks ↔ (∃ x ∈ xs, y ∈ HoBase.parts x) ∨ y ∈ ks := by
    intro xs
    induction xs with
    | nil => intro ks h; exact ⟨h, fun y => by simp⟩
    | cons x xs ih =>
      intro ks h
      obtain ⟨i1, i2⟩ := ih ((facesL x).foldl addSim ks) (fold_nodup _ h)
      refine ⟨i1, fun y => ?_⟩
      rw [List.foldl_cons, i2, fold_addSim, mem_facesL]
      simp only [List.mem_cons, exists_eq_or_imp]
      constructor
      · rintro (h | h | h)
        · exact .inl (.inr h)
        · exact .inl (.inl h)
        · exact .inr h
      · rintro ((h | h) | h)
        · exact .inr (.inl h)
        · exact .inl h
        · exact .inr (.inr h)
  intro xs
  obtain ⟨h1, h2⟩ := gen xs [] List.Pairwise.nil
  exact ⟨h1, fun y => by rw [show allFaces xs = xs.foldl (fun ks x => (facesL x).foldl addSim ks) [] from rfl, h2]; simp⟩
theorem closed_is (xs : List Sim) : (allFaces xs).mergeSort bLe = HoBase.closed xs := by
  obtain ⟨h1, h2⟩ := allFaces_ok xs
  refine sorted_bLe h1 _ fun x => (h2 x).trans ?_
  rw [List.mem_flatMap]
/-! ### the simplex that a reference stands for -/
def natOf : V → Nat
  | .int n => n.toNat
  | _ => 0
def simAt (H : Hp) : V → Sim
  | .ref b => match H b with
    | some (.tup vs) => vs.map natOf
    | _ => []
  | _ => []
theorem simAt_of {H : Hp} {b : Addr} {x : Sim} (h : H b = some (.tup (simV x))) : simAt H (.ref b) = x := by
  unfold simAt
  simp only [h]
  unfold simV
  rw [List.map_map]
  have e : (natOf ∘ nv) = id := by
    funext n
    show ((n : Int)).toNat = n
    omega
  rw [e, List.map_id]
theorem tups_sims {H : Hp} : ∀ {xs : List Sim} {ts : List Addr}, TupsAt H xs ts → (ts.map V.ref).map (simAt H) = xs
  | _, _, .nil => rfl
  | _, _, .cons h t => by
    rw [List.map_cons, List.map_cons, simAt_of h, tups_sims t]
theorem sims_tups {H : Hp} : ∀ (ts : List Addr), (∀ t ∈ ts, H t = some (.tup (simV (simAt H (.ref t))))) → TupsAt H (ts.map fun t => simAt H (.ref t)) ts
  | [], _ => .nil
  | t :: ts, h => .cons (h t (List.mem_cons_self ..)) (sims_tups ts fun u hu => h u (List.mem_cons_of_mem _ hu))
def adr : V → Addr
  | .ref b => b
  | _ => (0 : Nat)
/-- references sorted as the simplices that they stand for -/
theorem sorted_refs {H : Hp} {xs : List Sim} {bs : List Addr} (p : TupsAt H xs bs) {r : V → V → Bool} {le : Sim → Sim → Bool} (hr : ∀ a ∈ bs.map V.ref, ∀ b ∈ bs.map V.ref, r a b = le (simAt H a) (simAt H b)) :
    ∃ ts : List Addr, (bs.map V.ref).mergeSort r = ts.map V.ref ∧ TupsAt H (xs.mergeSort le) ts := by
  have pm := List.mergeSort_perm (bs.map V.ref) r
  have isRef : ∀ v ∈ (bs.map V.ref).mergeSort r, ∃ b ∈ bs, v = V.ref b := fun v hv => by
    obtain ⟨b, hb, e⟩ := List.mem_map.mp (pm.mem_iff.mp hv)
    exact ⟨b, hb, e.symm⟩
  have e1 : (bs.map V.ref).mergeSort r = (((bs.map V.ref).mergeSort r).map adr).map V.ref := by
    rw [List.map_map]
    refine (List.map_id _).symm.trans (List.map_congr_left fun v hv => ?_)
    obtain ⟨b, _, rfl⟩ := isRef v hv
    rfl
  refine ⟨((bs.map V.ref).mergeSort r).map adr, e1, ?_⟩
  have e2 : ((bs.map V.ref).mergeSort r).map (simAt H) = xs.mergeSort le := by
    rw [sort_maps (simAt H) hr, tups_sims p]
  rw [← e2]
  have at_ : ∀ b ∈ bs, H b = some (.tup (simV (simAt H (.ref b)))) := fun b hb => by
    obtain ⟨i, hi⟩ := List.mem_iff_getElem?.mp hb
    obtain ⟨x, _, hx⟩ := paired_at p hi
    rw [simAt_of hx]
    exact hx
  have q := sims_tups (H := H) (((bs.map V.ref).mergeSort r).map adr) fun t ht => by
    obtain ⟨v, hv, rfl⟩ := List.mem_map.mp ht
    obtain ⟨b, hb, rfl⟩ := isRef v hv
    exact at_ b hb
  have e3 : (((bs.map V.ref).mergeSort r).map adr).map (fun t => simAt H (.ref t)) = ((bs.map V.ref).mergeSort r).map (simAt H) := by
    rw [List.map_map]
    refine List.map_congr_left fun v hv => ?_
    obtain ⟨b, _, rfl⟩ := isRef v hv
    rfl
  rw [e3] at q
  exact q
/-! ### with_all_faces -/
abbrev lamName (x : Str) : Str := (x ++ ".<locals>.") ++ "<lambda>"
abbrev rLen (K : PySem.W.Frag) : List V → Hp → VK → Prop := fun xs H Q => ∃ p ys, xs = [.ref p] ∧ (SqL K H p ys ∨ SqT K H p ys) ∧ Q (.int ys.length) H
/-- nothing but a table stood there -/
def NewN (H : Hp) (p : Addr) : Prop := ∀ b o, H b = some o → (∀ ps, o ≠ .tbl ps) → b ≠ p
theorem newN_of {H H' : Hp} {p : Addr} (x : ExtN H H') (n : H' p = none) : NewN H p := fun b o e nt z => by
  rw [← z, x b o e nt] at n
  cases n
/-- all but one -/
def SameBut1 (d : Addr) (H H' : Hp) : Prop := ∀ b o, H b = some o → b ≠ d → H' b = some o
theorem depth_nats : ∀ y : Sim, PyData.depthAll (y.map iD) = 0
  | [] => rfl
  | n :: y => by
    show max (PyData.depth (iD n)) (PyData.depthAll (y.map iD)) = 0
    rw [depth_nats y]
    rfl
theorem depth_key (y : Sim) : (lenKey y).depth ≤ 8 := by
  show max 0 (max (PyData.depthAll (y.map iD) + 1) 0) + 1 ≤ 8
  rw [depth_nats y]
  decide
theorem kd_nats {K : PySem.W.Frag} {H : Hp} : ∀ y : Sim, KdAll K H (simV y) (y.map iD)
  | [] => .nil
  | _ :: y => .cons (.int _) (kd_nats y)
def spWithAll (K : PySem.W.Frag) (T : List (Addr × Str)) : Sp := fun vs H Q _ => ∃ (l : Addr) (ts : List Addr) (xs : List Sim), vs = [.ref l] ∧ SqL K H l (ts.map V.ref) ∧ Paired (fun x t => SqT K H t (simV x)) xs ts ∧ xs.length ≤ 60 ∧ (∀ x ∈ xs, x.length ≤ 4) ∧ Tabs T H ∧
  ∀ (H' : Hp) (p : Addr) (us : List Addr), ExtN H H' → Tabs T H' → NewN H p → H' p = some (.lst (us.map V.ref)) → TupsAt H' (HoBase.closed xs) us → Q (.ref p) H'
theorem same_extN {H H' : Hp} (s : L2.Same H H') : ExtN H H' := fun b o e _ => s b o e
theorem keys_tups {H : Hp} : ∀ {ks : List Sim} {kvs : List (List Key × V)} {bs : List Addr}, kvs.map (·.1) = ks.map simK → Paired (fun p b => H b = some (.tup (p.1.map kV))) kvs bs → TupsAt H ks bs
  | [], [], _, _, h => by
    cases h
    exact .nil
  | [], _ :: _, _, e, _ => by cases e
  | _ :: _, [], _, e, _ => by cases e
  | k :: ks, p :: kvs, _, e, h => by
    cases h with
    | cons h1 t =>
      have e1 := (List.cons.inj e).1
      refine .cons ?_ (keys_tups (List.cons.inj e).2 t)
      rw [h1, show p.1 = simK k from e1, simK_V]
section
variable {P : Program} {w : World} {K : PySem.W.Frag} {mg : Str → Option Value} {base : Heap}
theorem scWA : FnScope ["simplices", "found", "simplex", "face"] ["simplices"] (defScope sWithAll) := ⟨rfl, rfl, rfl, by decide +kernel, rfl, by decide +kernel, by decide +kernel⟩
theorem ok_withAll {f fF c PT : Addr} {fd fdF : FuncData} {TB : List (Addr × Str)} (F : FunC K "with_all_faces" "with_all_faces" sWithAll f fd c) (T : Txt mg) (TF : TabF TB base mg c PT (lamName "with_all_faces"))
    (GF : FnOk P w K mg base CX0 1 fF fdF ["simplex"] (spFacesOf K)) (mF : mg "faces_of" = some (.ref fF)) (kF : PySem.W.keepIn K (.ref fF) = true) (bF : Binds K fdF ["simplex"] []) :
    FnOk P w K mg base CX0 4 f fd ["simplices"] (spWithAll K TB) := by
  refine F.ok scWA (fun vs H Q E h => ?_) (fun A outer s H vs Q E hr h => ?_)
  · obtain ⟨l, ts, xs, rfl, _⟩ := h
    rfl
  · obtain ⟨l, ts, xs, rfl, hl, pr, l60, l4, hT, k⟩ := h
    have hr1 : Room 1 _ := hr.mono (by decide)
    have hu := hu_of hr
    refine ⟨_, pss_cons (ps_set (i := 1) scWA.nd rfl (Or.inl rfl) pe_dnewT)
      (pss_cons (ps_for PassesOwn.never rfl (pi_list (pv 0)) (pg_name (i := 2) scWA.nd rfl (Or.inl rfl))
        (pss_one (ps_for PassesOwn.never rfl (pi_list (pe_call GF hr1 rfl mF kF bF .nil pass0 (pa_cons (pv 2) pa_nil))) (pg_name (i := 3) scWA.nd rfl (Or.inl rfl))
          (pss_one (ps_dput hu (pv 1) (pv 3) pe_bl rfl)))))
      (pss_one (ps_ret (pe_sortLam (k := 0) (T := TB) (c := c) (P := PT) (N := ["face"]) (fr := []) (js := []) (a := "face") (tb := tTup (tCons (tCB (rLen K) (tCons (tVar 0) tNil)) (tCons (tVar 0) tNil)))
        (by rfl) T.sorted (pa_cons (pe_callTy (call_list_dT rfl) (by rfl) T.list (by decide +kernel) (pa_cons (pv 1) pa_nil)) pa_nil) TF.tb rfl TF.mem TF.uniq rfl (ndef_free (sc := defScope sWithAll) (fr := []) (by decide +kernel)) (nscope_by (by decide +kernel)) (fun y hy => nomatch hy) rfl hr (fun _ _ _ _ _ _ => rfl)
        (fun _ _ _ _ _ _ _ _ _ => pe_tup (pa_cons (pe_callB call_len_seq (by rfl) T.len PySem.boot_len (pa_cons (pv 0) pa_nil)) (pa_cons (pv 0) pa_nil))))))), ?_⟩
    intro d nd
    have s0 : L2.Same H (upd H d (.dT [])) := same_new nd
    refine ⟨_, rfl, l, rfl, ⟨_, s0.seq hl⟩, for_list (K := K) (a := l) (xs := ts.map V.ref) (fun i σ H' => ∃ (v2 v3 : Option V) (kvs : List (List Key × V)), σ = [some (.ref l), some (.ref d), v2, v3] ∧ L2.Same H H' ∧ KeysAre H' d (allFaces (xs.take i)) kvs ∧ (allFaces (xs.take i)).length ≤ 16 * i)
      ⟨none, none, [], rfl, s0, ⟨upd_same, rfl⟩, Nat.zero_le _⟩ (fun i σ H' _ ⟨_, _, _, _, sm, _⟩ => sm.seq hl) ?_ ?_⟩
    · rintro i y σ H' hi ⟨v2, v3, kvs, rfl, sm, ka, hlen⟩
      obtain ⟨t, ht, rfl⟩ := map_at hi
      obtain ⟨x, hx, hxt⟩ := paired_at pr ht
      have xl := l4 x (List.mem_of_getElem? hx)
      have ix : i < xs.length := (List.getElem?_eq_some_iff.mp hx).1
      have fl : (facesL x).length ≤ 15 := by
        have := facesL_len x xl
        unfold facesL
        rw [List.length_drop]
        omega
      refine ⟨_, rfl, t, x, rfl, same_tup sm hxt, xl, fun H2 p us s2 np hp tp => ?_⟩
      have kaD := s2 _ _ ka.at_
      have pd : p ≠ d := ne_of hp kaD (by intro z; cases z)
      refine ⟨p, rfl, ⟨_, SqL.of hp⟩, for_list (K := K) (a := p) (xs := us.map V.ref) (fun j σ H3 => ∃ (v : Option V) (kvs3 : List (List Key × V)), σ = [some (.ref l), some (.ref d), some (.ref t), v] ∧ SameBut1 d H2 H3 ∧ KeysAre H3 d (((facesL x).take j).foldl addSim (allFaces (xs.take i))) kvs3)
        ⟨v3, kvs, rfl, fun b o e _ => e, ⟨kaD, ka.keys⟩⟩ (fun j σ H3 _ ⟨_, _, _, sb, _⟩ => SqL.of (sb _ _ hp pd)) ?_ ?_⟩
      · rintro j y σ H3 hj ⟨v, kvs3, rfl, sb, ka3⟩
        obtain ⟨u, hu', rfl⟩ := map_at hj
        obtain ⟨z, hz, hzt⟩ := paired_at tp hu'
        have hzt3 : H3 u = some (.tup ((simK z).map kV)) := by
          rw [simK_V]
          exact sb _ _ hzt (ne_of hzt kaD (by intro z; cases z))
        have lk : kvs3.length < sizeLine := by
          rw [keysAre_len ka3, sizeLine_eq]
          have := fold_len ((facesL x).take j) (allFaces (xs.take i))
          rw [List.length_take] at this
          omega
        refine ⟨_, rfl, _, rfl, d, _, rfl, DPut.t ka3.at_ hzt3 lk, some (.ref u), putK kvs3 (simK z) (V.bl true), rfl, fun b o e nb => ?_, ?_⟩
        · rw [upd_ne nb]
          exact sb b o e nb
        · have q := keysAre_put ka3 (H' := upd H3 d (.dT (putK kvs3 (simK z) (V.bl true)))) (y := z) (v := V.bl true) upd_same
          rw [take_more hz, List.foldl_append]
          exact q
      · rintro σ H3 ⟨v, kvs3, rfl, sb, ka3⟩
        rw [List.length_map, ← paired_len tp, List.take_length, ← allFaces_snoc, ← take_more hx] at ka3
        refine ⟨some (.ref t), v, kvs3, rfl, fun b o e => sb b o (s2 _ _ (sm _ _ e)) (ne_of_none e nd), ka3, ?_⟩
        rw [take_more hx, allFaces_snoc]
        have := fold_len (facesL x) (allFaces (xs.take i))
        omega
    · rintro σ H' ⟨v2, v3, kvs, rfl, sm, ka, hlen⟩
      have lenT : ts.length = xs.length := (paired_len pr).symm
      rw [List.length_map, lenT, List.take_length] at ka hlen
      dsimp only [tRet]
      refine ⟨_, rfl, d, kvs, rfl, .inl ka.at_, fun p bs np ik => ?_⟩
      have tp : TupsAt H' (allFaces xs) bs := keys_tups ka.keys ik
      have s1 : L2.Same H' (upd H' p (.lst (bs.map V.ref))) := same_new np
      have isT : ∀ v ∈ bs.map V.ref, ∃ b y, v = V.ref b ∧ H' b = some (.tup (simV y)) ∧ simAt H' v = y := fun v hv => by
        obtain ⟨b, hb, rfl⟩ := List.mem_map.mp hv
        obtain ⟨i, hi⟩ := List.mem_iff_getElem?.mp hb
        obtain ⟨y, _, hy⟩ := paired_at tp hi
        exact ⟨b, y, rfl, hy, simAt_of hy⟩
      have em : (bs.map V.ref).map (fun v => lenKey (simAt H' v)) = (allFaces xs).map lenKey := by
        rw [← tups_sims tp, List.map_map, List.map_map, List.map_map]
        rfl
      refine ⟨p, bs.map V.ref, fun v => lenKey (simAt H' v), rfl, SqL.of upd_same, (hT.ext sm).ext s1, by rw [em]; exact alike_lens _, by rw [em]; exact sortable_lens _, fun v hv => ?_, fun H2 HL x2 lk v hv => ?_, fun H2 q x2 t2 nq => ?_⟩
      · exact depth_key _
      · obtain ⟨b, y, rfl, hb, e⟩ := isT v hv
        have hb2 : SqT K HL b (simV y) := lk.st b _ (extN_seqT x2 (same_tup s1 (SqT.of hb)))
        refine ⟨_, rfl, b, _, rfl, .inr hb2, _, rfl, by show 2 ≤ sizeLine; decide, fun r nr => ?_⟩
        have e2 : ((simV y).length : Int) = (y.length : Int) := by unfold simV; rw [List.length_map]
        show Kd K (upd HL r (.tup [.int ((simV y).length : Int), .ref b])) (.ref r) (lenKey (simAt H' (.ref b)))
        rw [e2, e]
        exact .tup (SqT.of upd_same) (.cons (.int _) (.cons (.tup (same_tup (same_new nr) hb2) (kd_nats y)) .nil))
      · obtain ⟨us, e1, tu⟩ := sorted_refs (le := bLe) tp (r := dataLe false fun v => lenKey (simAt H' v)) fun a _ b _ => le_keys (simAt H') rfl rfl
        rw [e1]
        rw [closed_is] at tu
        have x3 : ExtN H' H2 := (same_extN s1).trans x2
        have s3 : L2.Same H2 (upd H2 q (.lst (us.map V.ref))) := same_new nq
        have x4 : ExtN H H2 := (same_extN sm).trans x3
        refine k _ q us (x4.trans (same_extN s3)) (t2.ext s3) (newN_of x4 nq) upd_same ?_
        exact L2.Paired.mapP tu fun y t h => s3 _ _ (x3 _ _ h fun _ z => by cases z)
/-! ### row_by_heights -/
theorem alike_ints (l : List V) (g : V → Nat) : AllAlike (l.map fun v => PyData.int (g v : Int)) := fun d hd d' hd' => by
  obtain ⟨_, _, rfl⟩ := List.mem_map.mp hd
  obtain ⟨_, _, rfl⟩ := List.mem_map.mp hd'
  rfl
theorem sortable_ints (l : List V) (g : V → Nat) : Sortable (l.map fun v => PyData.int (g v : Int)) := .inr fun d hd => by
  obtain ⟨_, _, rfl⟩ := List.mem_map.mp hd
  exact ⟨fun z => (by cases z), fun _ z => (by cases z)⟩
end
/-- a simplex whose corners have heights -/
structure SimOk (n : Nat) (x : Sim) : Prop where
  ne : x ≠ []
  l4 : x.length ≤ 4
  lt : ∀ c ∈ x, c < n
def spRowBy (K : PySem.W.Frag) (T : List (Addr × Str)) : Sp := fun vs H Q _ => ∃ (l b : Addr) (ts : List Addr) (c : List Sim) (hs : List Nat), vs = [.ref l, .ref b] ∧ SqL K H l (ts.map V.ref) ∧ TupsAt H c ts ∧ SqL K H b (hs.map nv) ∧
  c.Pairwise (fun x y => before x y = true) ∧ (∀ x ∈ c, SimOk hs.length x) ∧ Tabs T H ∧
  ∀ (H' : Hp) (p : Addr) (us : List Addr), ExtN H H' → Tabs T H' → NewN H p → H' p = some (.lst (us.map V.ref)) → TupsAt H' (Ho02.row c hs) us → Q (.ref p) H'
section
variable {P : Program} {w : World} {K : PySem.W.Frag} {mg : Str → Option Value} {base : Heap}
theorem scRB : FnScope ["simplices", "heights"] ["simplices", "heights"] (defScope sRowBy) := ⟨rfl, rfl, rfl, by decide +kernel, rfl, by decide +kernel, by decide +kernel⟩
theorem ok_rowBy {f fC c PT : Addr} {fd fdC : FuncData} {TB : List (Addr × Str)} (F : FunC K "row_by_heights" "row_by_heights" sRowBy f fd c) (T : Txt mg) (TF : TabF TB base mg c PT (lamName "row_by_heights"))
    (GC : FnOk P w K mg base CX0 1 fC fdC ["simplex", "heights"] (spComesAt K)) (mC : mg "comes_at" = some (.ref fC)) (kC : PySem.W.keepIn K (.ref fC) = true) (bC : Binds K fdC ["simplex", "heights"] []) :
    FnOk P w K mg base CX0 5 f fd ["simplices", "heights"] (spRowBy K TB) := by
  refine F.ok scRB (fun vs H Q E h => ?_) (fun A outer s H vs Q E hr h => ?_)
  · obtain ⟨l, b, ts, cx, hs, rfl, _⟩ := h
    rfl
  · obtain ⟨l, b, ts, cx, hs, rfl, hl, tp, hb, pw, ok, hT, k⟩ := h
    refine ⟨_, pss_one (ps_ret (pe_sortLam (k := 1) (T := TB) (c := c) (P := PT) (N := ["simplex", "heights"]) (fr := ["heights"]) (js := [1]) (a := "simplex") (tb := tCall (spComesAt K) [] E0 (tCons (tVar 0) (tCons (tVar 1) tNil)))
        (by rfl) T.sorted (pa_cons (pv 0) pa_nil) TF.tb rfl TF.mem TF.uniq rfl (ndef_free (sc := defScope sRowBy) (fr := ["heights"]) (by decide +kernel)) (nscope_by (by decide +kernel)) (ndef_fr (sc := defScope sRowBy) (fr := ["heights"]) (by decide +kernel)) rfl hr (fun _ _ _ _ _ _ => rfl)
        (fun _ _ _ _ _ _ _ _ hr2 => pe_call GC hr2 rfl mC kC bC .nil pass0 (pa_cons (pv 0) (pa_cons (pv 1) pa_nil))))), ?_⟩
    dsimp only [tRet]
    have isT : ∀ v ∈ ts.map V.ref, ∃ t y, v = V.ref t ∧ y ∈ cx ∧ H t = some (.tup (simV y)) ∧ simAt H v = y := fun v hv => by
      obtain ⟨t, ht, rfl⟩ := List.mem_map.mp hv
      obtain ⟨i, hi⟩ := List.mem_iff_getElem?.mp ht
      obtain ⟨y, hy, hyt⟩ := paired_at tp hi
      exact ⟨t, y, rfl, List.mem_of_getElem? hy, hyt, simAt_of hyt⟩
    refine ⟨_, rfl, l, ts.map V.ref, fun v => .int (Ho02.height hs (simAt H v) : Int), rfl, hl, hT, alike_ints _ _, sortable_ints _ _, fun v hv => Nat.zero_le _, fun H2 HL x2 lk v hv => ?_, fun H2 q x2 t2 nq => ?_⟩
    · obtain ⟨t, y, rfl, hy, hyt, e⟩ := isT v hv
      have o := ok y hy
      refine ⟨_, rfl, _, rfl, t, b, y, hs, rfl, lk.st t _ (extN_seqT x2 (SqT.of hyt)), lk.sl b _ (extN_seqL x2 hb), o.ne, o.l4, o.lt, fun H3 _ => ?_⟩
      show Kd K H3 (nv (Ho02.height hs y)) (.int (Ho02.height hs (simAt H (.ref t)) : Int))
      rw [e]
      exact .int _
    · obtain ⟨us, e1, tu⟩ := sorted_refs (le := hLe hs) tp (r := dataLe false fun v => .int (Ho02.height hs (simAt H v) : Int)) fun a _ b _ => le_ints (fun v => Ho02.height hs (simAt H v)) rfl rfl
      rw [e1]
      rw [row_sorted hs pw] at tu
      have s3 : L2.Same H2 (upd H2 q (.lst (us.map V.ref))) := same_new nq
      refine k _ q us (x2.trans (same_extN s3)) (t2.ext s3) (newN_of x2 nq) upd_same ?_
      exact L2.Paired.mapP tu fun y t h => s3 _ _ (x2 _ _ h fun _ z => by cases z)
end
end Fl

set_option Elab.async false
set_option maxRecDepth 100000
set_option maxHeartbeats 4000000
/-! FlP4: places_in, boundary_of, added_by_twos. -/
namespace Fl
open PySem PySem.Spec PyProof.Rows L2
open HoBase (Sim before face)
open Ho02 (edgeOf plus Two)
/-! ### rising lists of ints -/
theorem rise_same {l m : List Int} (hl : l.Pairwise (· < ·)) (hm : m.Pairwise (· < ·)) (h : ∀ x, x ∈ l ↔ x ∈ m) : l = m :=
  same_of_pairwise (R := fun a b : Int => a < b) (fun a q => Int.lt_irrefl a q) (fun _ _ q1 q2 => Int.lt_asymm q1 q2) hl hm h
abbrev ni (n : Nat) : Int := (n : Int)
theorem rise_rev {z : Two} (h : Down z) : (z.reverse.map ni).Pairwise (· < ·) := by
  rw [List.pairwise_map, List.pairwise_reverse]
  exact h.imp fun {a b} q => by
    show ((b : Nat) : Int) < ((a : Nat) : Int)
    omega
theorem nv_map (l : List Nat) : (l.map ni).map V.int = l.map nv := by
  rw [List.map_map]
  rfl
theorem mem_ni {l : List Nat} {k : Nat} : (k : Int) ∈ l.map ni ↔ k ∈ l := by
  rw [List.mem_map]
  constructor
  · rintro ⟨a, ha, e⟩
    have : a = k := by
      have e' : ((a : Nat) : Int) = (k : Int) := e
      omega
    rw [← this]
    exact ha
  · intro h
    exact ⟨k, h, rfl⟩
/-! ### added_by_twos -/
/-- a chain's list: its places, rising -/
abbrev chainV (z : Two) : List V := z.reverse.map nv
def spAdded (K : PySem.W.Frag) : Sp := fun vs H Q _ => ∃ (p q : Addr) (a b : Two), vs = [.ref p, .ref q] ∧ SqL K H p (chainV a) ∧ SqL K H q (chainV b) ∧ Down a ∧ Down b ∧ (∀ x ∈ a, x < 60) ∧ (∀ x ∈ b, x < 60) ∧
  ∀ (H' : Hp) (r : Addr), L2.Same H H' → H r = none → H' r = some (.lst (chainV (plus a b))) → Q (.ref r) H'
theorem down_len {a : Two} (h : Down a) (lt : ∀ x ∈ a, x < 60) : a.length ≤ 60 := by
  have nd : a.Nodup := List.Pairwise.imp (fun {x y} (q : y < x) (e : x = y) => by omega) h
  have q := nodup_sub (m := List.range 60) nd fun x hx => List.mem_range.mpr (lt x hx)
  rw [List.length_range] at q
  exact q
section
variable {P : Program} {w : World} {K : PySem.W.Frag} {mg : Str → Option Value} {base : Heap}
theorem scAD : FnScope ["chain", "other"] ["chain", "other"] (defScope sAdded) := ⟨rfl, rfl, rfl, by decide +kernel, rfl, by decide +kernel, by decide +kernel⟩
theorem ok_added {f : Addr} {fd : FuncData} (F : Fun K "added_by_twos" "added_by_twos" sAdded f fd) (T : Txt mg) : FnOk P w K mg base CX0 1 f fd ["chain", "other"] (spAdded K) := by
  refine F.ok scAD (fun vs H Q E h => ?_) (fun cdv A outer s H vs Q E hr h => ?_)
  · obtain ⟨p, q, a, b, rfl, _⟩ := h
    rfl
  · obtain ⟨p, q, a, b, rfl, hp, hq, da, db, la, lb, k⟩ := h
    refine ⟨_, pss_one (ps_ret (pe_callB (cr_sortedSet rfl) (by rfl) T.sorted (by decide +kernel) (pa_cons
      (pe_op op_xorS (pe_callTy (cr_setL rfl) (by rfl) T.set (by decide +kernel) (pa_cons (pv 0) pa_nil)) (pe_callTy (cr_setL rfl) (by rfl) T.set (by decide +kernel) (pa_cons (pv 1) pa_nil))) pa_nil))), ?_⟩
    have bd : scanBound = 4096 := rfl
    have na := down_len da la
    have nb := down_len db lb
    have lenA : (a.reverse.map ni).length = a.length := by rw [List.length_map, List.length_reverse]
    have lenB : (b.reverse.map ni).length = b.length := by rw [List.length_map, List.length_reverse]
    refine ⟨_, rfl, p, a.reverse.map ni, rfl, by rw [nv_map]; exact hp, by omega, fun p1 k1 n1 nd1 m1 => ?_⟩
    have s1 : L2.Same H (upd H p1 (SetO w p1 (fun j => decide (j ∈ a.reverse.map ni)) k1.length)) := same_new n1
    refine ⟨_, rfl, q, b.reverse.map ni, rfl, by rw [nv_map]; exact s1.seq hq, by omega, fun p2 k2 n2 nd2 m2 => ?_⟩
    have s2 := same_new (o := SetO w p2 (fun j => decide (j ∈ b.reverse.map ni)) k2.length) n2
    have l1 : k1.length ≤ a.length := by
      rw [← lenA]
      exact nodup_sub nd1 fun x hx => (m1 x).1 hx
    have l2 : k2.length ≤ b.length := by
      rw [← lenB]
      exact nodup_sub nd2 fun x hx => (m2 x).1 hx
    refine ⟨p1, p2, _, _, _, _, rfl, rfl, s2 _ _ upd_same, upd_same, by omega, by omega, fun p3 k3 n3 nd3 m3 => ?_⟩
    have s3 := same_new (o := SetO w p3 (fun k => decide (k ∈ a.reverse.map ni) != decide (k ∈ b.reverse.map ni)) k3.length) n3
    have mem3 : ∀ x, x ∈ k3 ↔ x ∈ (plus a b).reverse.map ni := fun x => by
      rw [m3]
      constructor
      · intro h
        have h' : ¬ (x ∈ a.reverse.map ni ↔ x ∈ b.reverse.map ni) := by
          intro e
          have e' : decide (x ∈ a.reverse.map ni) = decide (x ∈ b.reverse.map ni) := by simp only [e]
          rw [e'] at h
          simp at h
        have ex : ∃ k : Nat, x = (k : Int) := by
          by_cases c : x ∈ a.reverse.map ni
          · obtain ⟨k, _, e⟩ := List.mem_map.mp c
            exact ⟨k, e.symm⟩
          · by_cases c2 : x ∈ b.reverse.map ni
            · obtain ⟨k, _, e⟩ := List.mem_map.mp c2
              exact ⟨k, e.symm⟩
            · exact absurd (iff_of_false c c2) h'
        obtain ⟨k, rfl⟩ := ex
        rw [mem_ni, mem_ni, List.mem_reverse, List.mem_reverse] at h'
        rw [mem_ni, List.mem_reverse, mem_plus da db]
        exact h'
      · intro h
        obtain ⟨k, hk, rfl⟩ := List.mem_map.mp h
        have hk' := (mem_plus da db k).mp (List.mem_reverse.mp hk)
        have e1 : decide ((k : Int) ∈ a.reverse.map ni) = decide (k ∈ a) := by
          rw [decide_eq_decide, mem_ni, List.mem_reverse]
        have e2 : decide ((k : Int) ∈ b.reverse.map ni) = decide (k ∈ b) := by
          rw [decide_eq_decide, mem_ni, List.mem_reverse]
        show (decide ((k : Int) ∈ a.reverse.map ni) != decide ((k : Int) ∈ b.reverse.map ni)) = true
        rw [e1, e2]
        by_cases c1 : k ∈ a <;> by_cases c2 : k ∈ b <;> simp_all
    have dp := plus_down da db
    have lp : ∀ x ∈ plus a b, x < 60 := fun x hx => by
      have h' := (mem_plus da db x).mp hx
      by_cases c : x ∈ a
      · exact la x c
      · by_cases c2 : x ∈ b
        · exact lb x c2
        · exact absurd (iff_of_false c c2) h'
    have n60 := down_len dp lp
    have l3 : k3.length ≤ 60 := by
      have q := nodup_sub nd3 fun x hx => (mem3 x).1 hx
      rw [List.length_map, List.length_reverse] at q
      omega
    refine ⟨p3, _, _, rfl, upd_same, by omega, fun ns r rise mem _ nr => ?_⟩
    have s4 := same_new (o := .lst (ns.map V.int)) nr
    have e : ns = (plus a b).reverse.map ni := rise_same rise (rise_rev dp) fun x => by
      rw [mem, ← m3, mem3]
    have ev : ns.map V.int = chainV (plus a b) := by rw [e, nv_map]
    refine k _ r (((s1.trans s2).trans s3).trans s4) (((s1.trans s2).trans s3).free nr) ?_
    rw [upd_same, ev]
end
/-! ### for i, x in enumerate(xs) -/
theorem for_enum {K : PySem.W.Frag} {a : Addr} {xs : List V} {g : TG} {tb : TS} {D : Ends} {σ : L2.St} {H : Hp} (Pv : Nat → L2.St → Hp → Prop) (h0 : Pv 0 σ H) (hl : ∀ i σ H, i ≤ xs.length → Pv i σ H → SqL K H a xs)
    (hs : ∀ (i : Nat) (x : V) (σ : L2.St) (H : Hp) (T : Addr), xs[i]? = some x → Pv i σ H → H T = none → g (.ref T) σ (upd H T (.tup [nv i, x])) fun σ2 H2 => tb { D with nx := Pv (i + 1), ct := Pv (i + 1), bk := D.nx } σ2 H2) (hd : ∀ σ H, Pv xs.length σ H → D.nx σ H) :
    ∃ W : Nat → Nat → L2.St → Hp → Prop, (∃ m, W 0 m σ H) ∧ ∀ i m σ H, W i m σ H →
      ((Ite K a).stop i H ∧ D.nx σ H) ∨ ((Ite K a).go i H ∧ ∃ N : L2.St → Hp → Prop, (∀ σ' H', N σ' H' → ∃ m', m' < m ∧ W (i + 1) m' σ' H') ∧ ∀ x H', (Ite K a).yld i H x H' → g x σ H' fun σ2 H2 => tb { D with nx := N, ct := N, bk := D.nx } σ2 H2) := by
  refine ⟨fun i m σ H => m + i = xs.length ∧ Pv i σ H, ⟨xs.length, rfl, h0⟩, fun i m σ H ⟨em, p⟩ => ?_⟩
  have sq := hl i σ H (by omega) p
  by_cases lt : i < xs.length
  · refine .inr ⟨⟨xs, xs[i], sq, List.getElem?_eq_getElem lt⟩, Pv (i + 1), fun σ' H' p' => ⟨m - 1, by omega, by omega, p'⟩, fun v H' y => ?_⟩
    obtain ⟨T, x, rfl, nT, rfl, hx⟩ := y
    exact hs i x σ H T (hx xs sq) p nT
  · have ei : i = xs.length := by omega
    subst ei
    exact .inl ⟨⟨xs, sq, Nat.le_refl _⟩, hd σ H p⟩
/-! ### places_in -/
theorem idxOf_at {α : Type} [BEq α] [LawfulBEq α] {r : List α} {i : Nat} {x : α} (nd : r.Nodup) (h : r[i]? = some x) : r.idxOf x = i := by
  have m : x ∈ r := List.mem_of_getElem? h
  have lt := List.idxOf_lt_length_of_mem m
  have e1 := List.getElem_idxOf lt
  obtain ⟨hi, e2⟩ := List.getElem?_eq_some_iff.mp h
  exact (List.getElem_inj nd).mp (e1.trans e2.symm)
structure PlacesAt (H : Hp) (d : Addr) (r : List Sim) : Prop where
  ex : ∃ kvs, H d = some (.dT kvs) ∧ ∀ x ∈ r, valV kvs (simK x) = some (nv (r.idxOf x))
theorem places_same {H H' : Hp} {d : Addr} {r : List Sim} (s : L2.Same H H') (p : PlacesAt H d r) : PlacesAt H' d r := by
  obtain ⟨kvs, h1, h2⟩ := p.ex
  exact ⟨kvs, s _ _ h1, h2⟩
def spPlaces (K : PySem.W.Frag) : Sp := fun vs H Q _ => ∃ (l : Addr) (ts : List Addr) (r : List Sim), vs = [.ref l] ∧ SqL K H l (ts.map V.ref) ∧ TupsAt H r ts ∧ r.Nodup ∧ r.length ≤ 60 ∧
  ∀ (H' : Hp) (d : Addr), L2.Same H H' → H d = none → PlacesAt H' d r → Q (.ref d) H'
section
variable {P : Program} {w : World} {K : PySem.W.Frag} {mg : Str → Option Value} {base : Heap}
theorem scPL : FnScope ["row", "places", "place", "simplex"] ["row"] (defScope sPlaces) := ⟨rfl, rfl, rfl, by decide +kernel, rfl, by decide +kernel, by decide +kernel⟩
theorem ok_places {f : Addr} {fd : FuncData} (F : Fun K "places_in" "places_in" sPlaces f fd) (T : Txt mg) : FnOk P w K mg base CX0 1 f fd ["row"] (spPlaces K) := by
  refine F.ok scPL (fun vs H Q E h => ?_) (fun cdv A outer s H vs Q E hr h => ?_)
  · obtain ⟨l, ts, r, rfl, _⟩ := h
    rfl
  · obtain ⟨l, ts, r, rfl, hl, tp, nd, l60, k⟩ := h
    have hu := hu_of hr
    refine ⟨_, pss_cons (ps_set (i := 1) scPL.nd rfl (Or.inl rfl) pe_dnewT)
      (pss_cons (ps_for PassesOwn.never rfl (pi_enum (by rfl) T.enumerate (pa_cons (pv 0) pa_nil)) (pg_tup rfl (pgs_cons (pg_name (i := 2) scPL.nd rfl (Or.inl rfl)) (pgs_cons (pg_name (i := 3) scPL.nd rfl (Or.inl rfl)) pgs_nil)))
        (pss_one (ps_dput hu (pv 1) (pv 3) (pv 2) rfl)))
      (pss_one (ps_ret (pv 1)))), ?_⟩
    intro d n0
    have s0 : L2.Same H (upd H d (.dT [])) := same_new n0
    refine ⟨_, rfl, l, _, rfl, s0.seq hl, for_enum (K := K) (a := l) (xs := ts.map V.ref) (fun i σ H' => ∃ (v2 v3 : Option V) (kvs : List (List Key × V)), σ = [some (.ref l), some (.ref d), v2, v3] ∧ L2.Same H H' ∧ H' d = some (.dT kvs) ∧ kvs.length ≤ i ∧ ∀ x ∈ r.take i, valV kvs (simK x) = some (nv (r.idxOf x)))
      ⟨none, none, [], rfl, s0, upd_same, Nat.zero_le _, fun x hx => by cases hx⟩ (fun i σ H' _ ⟨_, _, _, _, sm, _⟩ => sm.seq hl) ?_ ?_⟩
    · rintro i v σ H' U hi ⟨v2, v3, kvs, rfl, sm, hd, len, val⟩ nU
      obtain ⟨t, ht, rfl⟩ := map_at hi
      obtain ⟨x, hx, hxt⟩ := paired_at tp ht
      have ir : i < r.length := (List.getElem?_eq_some_iff.mp hx).1
      have s1 : L2.Same H' (upd H' U (.tup [nv i, .ref t])) := same_new nU
      have hd1 := s1 _ _ hd
      have ht1 : upd H' U (.tup [nv i, .ref t]) t = some (.tup ((simK x).map kV)) := by
        rw [simK_V]
        exact s1 _ _ (sm _ _ hxt)
      have ei : r.idxOf x = i := idxOf_at nd hx
      refine ⟨U, _, rfl, SqT.of upd_same, rfl, _, _, rfl, _, _, rfl, rfl, ?_⟩
      refine ⟨_, rfl, _, rfl, _, rfl, d, _, rfl, DPut.t hd1 ht1 (by rw [sizeLine_eq]; omega), some (nv i), some (.ref t), putK kvs (simK x) (nv i), rfl, fun b o e => ?_, upd_same, ?_, fun y hy => ?_⟩
      · rw [upd_ne (ne_of_none e n0)]
        exact s1 _ _ (sm _ _ e)
      · unfold putK
        split
        · rw [List.length_map]
          omega
        · rw [List.length_append, List.length_singleton]
          omega
      · rw [valV_put]
        by_cases c : simK y = simK x
        · rw [if_pos c, simK_inj c, ei]
        · rw [if_neg c]
          rw [take_more hx] at hy
          rcases List.mem_append.mp hy with q | q
          · exact val y q
          · exact absurd (by rw [List.mem_singleton.mp q]) c
    · rintro σ H' ⟨v2, v3, kvs, rfl, sm, hd, len, val⟩
      rw [List.length_map, ← paired_len tp, List.take_length] at val
      exact ⟨_, rfl, k H' d sm n0 ⟨kvs, hd, val⟩⟩
/-! ### boundary_of -/
end
def spBoundary (K : PySem.W.Frag) : Sp := fun vs H Q _ => ∃ (t d : Addr) (x : Sim) (r : List Sim), vs = [.ref t, .ref d] ∧ SqT K H t (simV x) ∧ PlacesAt H d r ∧ x ≠ [] ∧ x.length ≤ 4 ∧ x.Nodup ∧ (1 < x.length → ∀ i, i < x.length → face x i ∈ r) ∧
  ∀ (H' : Hp) (p : Addr), L2.Same H H' → H p = none → H' p = some (.lst (chainV (edgeOf r x))) → Q (.ref p) H'
theorem cut_left (x : Sim) (k : Nat) (h : k < x.length) : cutV (simV x) none (some (k : Int)) = simV (x.take k) := by
  unfold cutV simV
  rw [HT.sIx_nat, HT.sIx_none, List.length_map, Nat.min_eq_left (by omega), List.drop_zero, Nat.sub_zero, List.map_take]
theorem cut_right (x : Sim) (k : Nat) (h : k < x.length) : cutV (simV x) (some ((k : Int) + 1)) none = simV (x.drop (k + 1)) := by
  unfold cutV simV
  rw [show (k : Int) + 1 = ((k + 1 : Nat) : Int) by omega, HT.sIx_nat, HT.sIx_none, List.length_map, Nat.min_eq_left (by omega), List.map_drop]
  exact List.take_of_length_le (by simp)
section
variable {P : Program} {w : World} {K : PySem.W.Frag} {mg : Str → Option Value} {base : Heap}
theorem scBD : FnScope ["simplex", "places", "k"] ["simplex", "places"] (defScope sBoundary) := ⟨rfl, rfl, rfl, by decide +kernel, rfl, by decide +kernel, by decide +kernel⟩
theorem ok_boundary {f : Addr} {fd : FuncData} (F : Fun K "boundary_of" "boundary_of" sBoundary f fd) (T : Txt mg) : FnOk P w K mg base CX0 1 f fd ["simplex", "places"] (spBoundary K) := by
  refine F.ok scBD (fun vs H Q E h => ?_) (fun cdv A outer s H vs Q E hr h => ?_)
  · obtain ⟨t, d, x, r, rfl, _⟩ := h
    rfl
  · obtain ⟨t, d, x, r, rfl, ht, pl, ne, l4, nd, fc, k⟩ := h
    have hu := hu_of hr
    refine ⟨_, pss_cons (ps_if (pt_cmpR op_eq (pe_callB call_len_seq (by rfl) T.len PySem.boot_len (pa_cons (pv 0) pa_nil)) pe_int (nomark _)) (pss_one (ps_ret (pe_lst pa_nil))) pss_nil)
      (pss_one (ps_ret (pe_callB cr_sortedI (by rfl) T.sorted (by decide +kernel) (pa_cons
        (pe_lc (te := tDGet (tVar 1) (tOp (rCatA K) (tSl (rSlA K) (tVar 0) tNoPart (tPart (tVar 2))) (tSl (rSlA K) (tVar 0) (tPart (tOp (rI0 fun i j => .int (i + j)) (tVar 2) (tC (.int 1)))) tNoPart))) (own := [("k", 2)]) (g := gName 2) (tt := tYes) rfl scBD.nd (pi_range1 (by rfl) T.range (pa_cons (pe_callB call_len_seq (by rfl) T.len PySem.boot_len (pa_cons (pv 0) pa_nil)) pa_nil))
          (blkOk_by (own := [("k", 2)]) (N := ["simplex", "places", "k"]) (sc := defScope sBoundary) (by decide +kernel)) (fun _ _ _ _ _ => pg_name (i := 2) scBD.nd rfl (Or.inl rfl)) (fun _ _ _ _ _ => pts_nil)
          (fun _ _ _ _ _ => pe_dget hu (pv 1) (pe_op op_catA (pe_slice sl_tupA (pv 0) po_none (po_some (pv 2))) (pe_slice sl_tupA (pv 0) (po_some (pe_op op_add (pv 2) pe_int)) po_none)) (fun _ _ => rfl))) pa_nil)))), ?_⟩
    obtain ⟨kvs, hd, val⟩ := pl.ex
    have lenV : (simV x).length = x.length := List.length_map _
    refine ⟨_, rfl, t, _, rfl, .inr ht, rfl, _, rfl, ite_b (fun c => ?_) fun c => ?_⟩
    · have e1 : x.length = 1 := by
        simp at c
        rw [lenV] at c
        omega
      refine ⟨Nat.zero_le _, fun p np => k _ p (same_new np) np ?_⟩
      rw [upd_same, edgeOf_one (by omega)]
      rfl
    have l1 : 1 < x.length := by
      have h0 : 0 < x.length := List.length_pos_iff.mpr ne
      have : ¬ x.length = 1 := by
        intro z
        simp at c
        rw [lenV] at c
        omega
      omega
    have fc := fc l1
    obtain ⟨eD, eM⟩ := edgeOf_spec nd l1 fc
    dsimp only [tNext, tRet, tCB, tCons, tNil]
    refine tLc_w ?_
    refine ⟨_, rfl, t, _, rfl, .inr ht, _, rfl, by rw [lenV]; omega, by rw [lenV]; omega, ?_⟩
    have eN : ((simV x).length : Int).toNat = x.length := by rw [lenV]; omega
    rw [eN]
    refine lc_knownR ((rawEdge r x).map nv) (by rw [List.length_map]; unfold rawEdge; rw [List.length_map, List.length_range]) (by rw [sizeLine_eq]; omega) (fun j y H' hj hy sm R hR => ?_) fun H' p sm np hp => ?_
    · obtain ⟨m, hm, rfl⟩ := map_at hy
      have em : m = r.idxOf (face x j) := by
        unfold rawEdge at hm
        obtain ⟨j', hj', e⟩ := map_at hm
        rw [List.getElem?_range hj] at hj'
        rw [e, ← Option.some.inj hj']
      have fj := fc j hj
      have v1 := val _ fj
      have zj : (0 : Int) + (j : Int) = (j : Int) := by omega
      have tl : (simV (x.take j)).length ≤ 4 := by
        show ((x.take j).map nv).length ≤ 4
        rw [List.length_map, List.length_take]
        omega
      have dl : (simV (x.drop (j + 1))).length ≤ 4 := by
        show ((x.drop (j + 1)).map nv).length ≤ 4
        rw [List.length_map, List.length_drop]
        omega
      have ef : simV (x.take j) ++ simV (x.drop (j + 1)) = (simK (face x j)).map kV := by
        rw [simK_V]
        unfold face simV
        rw [List.map_append]
      refine ⟨_, rfl, _, rfl, _, rfl, _, rfl, t, _, rfl, same_tup sm ht, fun wh => ?_, fun _ p1 n1 => ?_⟩
      · have w2 := wh.2
        rw [zj, HT.sIx_nat, lenV, Nat.min_eq_left (by omega)] at w2
        omega
      rw [zj, cut_left x j hj]
      have s1 : L2.Same H' (upd H' p1 (.tup (simV (x.take j)))) := same_new n1
      refine ⟨_, rfl, _, rfl, _, _, rfl, rfl, _, rfl, t, _, rfl, same_tup (sm.trans s1) ht, fun wh => ?_, fun _ p2 n2 => ?_⟩
      · have w1 := wh.1
        rw [show (j : Int) + 1 = ((j + 1 : Nat) : Int) by omega, HT.sIx_nat, lenV] at w1
        omega
      rw [cut_right x j hj]
      have s2 := same_new (o := .tup (simV (x.drop (j + 1)))) n2
      have h1 := s2 _ _ (upd_same (H := H') (a := p1) (o := .tup (simV (x.take j))))
      have hdd := s2 _ _ (s1 _ _ (sm _ _ hd))
      have lookup : ∀ (H3 : Hp) (b : Addr), L2.Same H' H3 → H3 b = some (.tup ((simK (face x j)).map kV)) → ∃ a v, V.ref d = .ref a ∧ DGet H3 a (.ref b) (some v) ∧ R v H3 := fun H3 b s3 hb => by
        refine ⟨d, nv m, rfl, ?_, hR H3 s3⟩
        have q := DGet.t (k := simK (face x j)) (s3 _ _ (sm _ _ hd)) hb
        rw [v1, ← em] at q
        exact q
      refine ⟨p1, p2, _, _, rfl, rfl, SqT.of h1, SqT.of upd_same, by rw [sizeLine_eq]; omega, fun e => ?_, fun _ e => ?_, fun _ _ p3 n3 => ?_⟩
      · refine lookup _ p2 (s1.trans s2) ?_
        have eq : (simK (face x j)).map kV = simV (x.drop (j + 1)) := by rw [← ef, e, List.nil_append]
        rw [eq]
        exact upd_same
      · refine lookup _ p1 (s1.trans s2) ?_
        have eq : (simK (face x j)).map kV = simV (x.take j) := by rw [← ef, e, List.append_nil]
        rw [eq]
        exact h1
      · have s3 := same_new (o := .tup (simV (x.take j) ++ simV (x.drop (j + 1)))) n3
        refine lookup _ p3 ((s1.trans s2).trans s3) ?_
        rw [← ef]
        exact upd_same
    · refine ⟨p, (rawEdge r x).map ni, rfl, SqL.of (by rw [nv_map]; exact hp), fun ns' q pm le nq => ?_⟩
      have s2 := same_new (o := .lst (ns'.map V.int)) nq
      have ndR : ((rawEdge r x).map ni).Nodup := by
        unfold List.Nodup
        rw [List.pairwise_map]
        exact (rawEdge_nodup nd fc).imp fun {a b} h e => h (by
          have e' : ((a : Nat) : Int) = ((b : Nat) : Int) := e
          omega)
      have rise : ns'.Pairwise (· < ·) := lt_of_le_nodup ns' le (pm.nodup_iff.mpr ndR)
      have e : ns' = (edgeOf r x).reverse.map ni := rise_same rise (rise_rev eD) fun z => by
        rw [pm.mem_iff]
        constructor
        · intro h
          obtain ⟨m, hm, rfl⟩ := List.mem_map.mp h
          exact mem_ni.mpr (List.mem_reverse.mpr ((eM m).mpr hm))
        · intro h
          obtain ⟨m, hm, rfl⟩ := List.mem_map.mp h
          exact mem_ni.mpr ((eM m).mp (List.mem_reverse.mp hm))
      refine k _ q (sm.trans s2) (sm.free nq) ?_
      rw [upd_same, e, nv_map]
end
end Fl

set_option Elab.async false
set_option maxRecDepth 100000
set_option maxHeartbeats 4000000
/-! FlP5: what_is_left, pairs_in. -/
namespace Fl
open PySem PySem.Spec PyProof.Rows L2
open HoBase (Sim before face)
open Ho02 (edgeOf plus Two lessen)
/-! ### what is kept -/
/-- none of the kept chains' lists is the one at no -/
structure KeptAt (H : Hp) (d : Addr) (done : Done) (no : Addr) : Prop where
  ex : ∃ kvs : List (Key × V), H d = some (.dK kvs) ∧ kvs.length ≤ done.length ∧ (∀ m e, look done m = some e → ∃ q, valV kvs (nk m) = some (.ref q) ∧ H q = some (.lst (chainV e.2)) ∧ q ≠ no) ∧ ∀ m, look done m = none → valV kvs (nk m) = none
theorem kept_same {H H' : Hp} {d no : Addr} {done : Done} (s : L2.Same H H') (p : KeptAt H d done no) : KeptAt H' d done no := by
  obtain ⟨kvs, h1, h2, h3, h4⟩ := p.ex
  refine ⟨kvs, s _ _ h1, h2, fun m e he => ?_, h4⟩
  obtain ⟨q, q1, q2, q3⟩ := h3 m e he
  exact ⟨q, q1, s _ _ q2, q3⟩
theorem look_snoc (done : Done) (m : Nat) (z : Two) (h : look done m = none) (j : Nat) : look (done ++ [(m, z)]) j = if j = m then some (m, z) else look done j := by
  unfold look at *
  rw [List.find?_append]
  by_cases c : j = m
  · subst c
    rw [h, if_pos rfl]
    simp
  · rw [if_neg c]
    have : (List.find? (fun (x : Nat × Two) => decide (x.1 = j)) [(m, z)]) = none := by
      simp
      omega
    rw [this, Option.or_none]
theorem chain_last (m : Nat) (z : Two) : chainV (m :: z) = chainV z ++ [nv m] := by
  unfold chainV
  rw [List.reverse_cons, List.map_append]
  rfl
def spLeft (_ : PySem.W.Frag) : Sp := fun vs H Q _ => ∃ (p d no : Addr) (z : Two) (done : Done) (n f : Nat), vs = [.ref p, .ref d] ∧ H p = some (.lst (chainV z)) ∧ KeptAt H d done no ∧ DoneOk n done ∧ n ≤ 60 ∧ Down z ∧ (∀ x ∈ z, x < n) ∧ (∀ x ∈ z, x < f) ∧
  ∀ (H' : Hp) (q : Addr), L2.Same H H' → (q = p ∨ H q = none) → H' q = some (.lst (chainV (lessen done f z))) → Q (.ref q) H'
section
variable {P : Program} {w : World} {K : PySem.W.Frag} {mg : Str → Option Value} {base : Heap}
theorem scLE : FnScope ["boundary", "kept", "left"] ["boundary", "kept"] (defScope sLeft) := ⟨rfl, rfl, rfl, by decide +kernel, rfl, by decide +kernel, by decide +kernel⟩
theorem ok_left {f fA : Addr} {fd fdA : FuncData} (F : Fun K "what_is_left" "what_is_left" sLeft f fd) (T : Txt mg) (GA : FnOk P w K mg base CX0 1 fA fdA ["chain", "other"] (spAdded K)) (mA : mg "added_by_twos" = some (.ref fA)) (kA : PySem.W.keepIn K (.ref fA) = true) (bA : Binds K fdA ["chain", "other"] []) :
    FnOk P w K mg base CX0 2 f fd ["boundary", "kept"] (spLeft K) := by
  refine F.ok scLE (fun vs H Q E h => ?_) (fun cdv A outer s H vs Q E hr h => ?_)
  · obtain ⟨p, d, no, z, done, n, fu, rfl, _⟩ := h
    rfl
  · obtain ⟨p, d, no, z, done, n, fu, rfl, hp, kd, dk, n60, dz, lz, lf, k⟩ := h
    have hu := hu_of hr
    refine ⟨_, pss_cons (ps_set (i := 2) scLE.nd rfl (Or.inl rfl) (pv 0))
      (pss_cons (ps_while PassesOwn.never (PW.pt (pw_and (pt_cmpR op_gt (pe_callB call_len_seq (by rfl) T.len PySem.boot_len (pa_cons (pv 2) pa_nil)) pe_int (nomark _)) (pw_and1 (pt_cmp (pc_din hu (pe_ix ix_list (pv 2) (pe_un un_neg pe_int) (fun _ _ => rfl)) (pv 1))))))
        (pss_one (ps_set (i := 2) scLE.nd rfl (Or.inl rfl) (pe_call GA hr rfl mA kA bA .nil pass0 (pa_cons (pv 2) (pa_cons (pe_dget hu (pv 1) (pe_ix ix_list (pv 2) (pe_un un_neg pe_int) (fun _ _ => rfl)) (fun _ _ => rfl)) pa_nil))))))
      (pss_one (ps_ret (pv 2)))), ?_⟩
    refine ⟨_, rfl, ?_⟩
    refine ⟨fun m σ H' => ∃ (q : Addr) (y : Two), σ = [some (.ref p), some (.ref d), some (.ref q)] ∧ L2.Same H H' ∧ (q = p ∨ H q = none) ∧ H' q = some (.lst (chainV y)) ∧ Down y ∧ (∀ x ∈ y, x < n) ∧ (∀ x ∈ y, x < m) ∧ lessen done m y = lessen done fu z,
      ⟨fu, p, z, rfl, L2.Same.refl H, .inl rfl, hp, dz, lz, lf, rfl⟩, ?_⟩
    rintro m σ H' ⟨q, y, rfl, sm, new, hq, dy, ly, lm, ey⟩
    have lenY : (chainV y).length = y.length := by unfold chainV; rw [List.length_map, List.length_reverse]
    refine ⟨_, rfl, q, _, rfl, .inl (SqL.of hq), _, _, rfl, rfl, _, rfl, ?_⟩
    cases y with
    | nil =>
      refine ite_b (fun c => ?_) fun _ => iteF ?_
      · simp at c
      · rw [lessen_nil] at ey
        refine ⟨_, rfl, k H' q sm new ?_⟩
        rw [← ey]
        exact hq
    | cons a y =>
      refine ite_b (fun _ => ?_) fun c => ?_
      · obtain ⟨kvs, hd, hk1, hk2, hk3⟩ := (kept_same sm kd).ex
        have lastV : atI (chainV (a :: y)) (-1) = some (nv a) := by
          rw [chain_last]
          exact atI_last _ _
        refine ⟨_, rfl, _, rfl, q, _, _, _, rfl, rfl, SqL.of hq, lastV, _, rfl, d, _, rfl, DGet.k (k := nk a) hd, _, rfl, ?_⟩
        cases hl : look done a with
        | none =>
          rw [hk3 a hl]
          refine iteF ?_
          rw [lessen_stop hl] at ey
          refine ⟨_, rfl, k H' q sm new ?_⟩
          rw [← ey]
          exact hq
        | some e =>
          obtain ⟨q2, hv, hq2, _⟩ := hk2 a e hl
          rw [hv]
          refine iteT ⟨_, fun σ' H2 h => h, ?_⟩
          obtain ⟨t1, t2, t3⟩ := turn_ok dk hl dy ly
          obtain ⟨he, _⟩ := look_some hl
          refine ⟨_, rfl, _, rfl, _, rfl, _, rfl, q, _, _, _, rfl, rfl, SqL.of hq, lastV, d, _, rfl, by rw [← hv]; exact DGet.k (k := nk a) hd, ?_⟩
          refine ⟨q, q2, a :: y, e.2, rfl, SqL.of hq, SqL.of hq2, dy, dk.down e he, fun x hx => Nat.lt_of_lt_of_le (ly x hx) n60, fun x hx => Nat.lt_of_lt_of_le (dk.lt e he x hx) n60, fun H2 r s2 nr hr2 => ?_⟩
          have am := lm a (List.mem_cons_self ..)
          refine ⟨m - 1, by omega, r, plus (a :: y) e.2, rfl, sm.trans s2, .inr (sm.free nr), hr2, t1, t3, fun x hx => ?_, ?_⟩
          · have := t2 x hx
            omega
          · rw [← ey]
            obtain ⟨m', rfl⟩ : ∃ m', m = m' + 1 := ⟨m - 1, by omega⟩
            rw [lessen_go hl]
            rfl
      · have c' : ¬ ((0 : Int) < ((chainV (a :: y)).length : Int)) := by simpa using c
        rw [lenY, List.length_cons] at c'
        omega
/-! ### pairs_in -/
end
/-- tuples of two numbers -/
abbrev TwosAt (H : Hp) (ps : List (Nat × Nat)) (us : List Addr) : Prop := Paired (fun p t => H t = some (.tup [nv p.1, nv p.2])) ps us
def spPairs (K : PySem.W.Frag) : Sp := fun vs H Q _ => ∃ (l : Addr) (ts : List Addr) (r : List Sim), vs = [.ref l] ∧ SqL K H l (ts.map V.ref) ∧ TupsAt H r ts ∧ r.Nodup ∧ r.length ≤ 60 ∧ RowOk r ∧ (∀ x ∈ r, x.length ≤ 4) ∧
  ∀ (H' : Hp) (p : Addr) (us : List Addr), L2.Same H H' → H p = none → H' p = some (.lst (us.map V.ref)) → TwosAt H' (Ho02.pairs r) us → Q (.ref p) H'
theorem up_len {r : List Sim} (R : RowOk r) {i : Nat} (hi : i ≤ r.length) : (upto r i).1.length ≤ r.length ∧ (upto r i).2.length = (upto r i).1.length := by
  have U := upto_ok R i hi
  have e := congrArg List.length U.same
  rw [List.length_map, List.length_map] at e
  refine ⟨?_, e⟩
  have q := nodup_sub (m := List.range r.length) U.keys fun x hx => by
    obtain ⟨p, hp, rfl⟩ := List.mem_map.mp hx
    obtain ⟨z, hz⟩ := U.done.head p hp
    exact List.mem_range.mpr (U.done.lt p hp p.1 (by rw [hz]; exact List.mem_cons_self ..))
  rw [List.length_map, List.length_range] at q
  exact q
section
variable {P : Program} {w : World} {K : PySem.W.Frag} {mg : Str → Option Value} {base : Heap}
theorem scPA : FnScope ["row", "places", "kept", "found", "place", "simplex", "left"] ["row"] (defScope sPairs) := ⟨rfl, rfl, rfl, by decide +kernel, rfl, by decide +kernel, by decide +kernel⟩
theorem ok_pairs {f fP fB fL : Addr} {fd fdP fdB fdL : FuncData} (F : Fun K "pairs_in" "pairs_in" sPairs f fd) (T : Txt mg)
    (GP : FnOk P w K mg base CX0 1 fP fdP ["row"] (spPlaces K)) (mP : mg "places_in" = some (.ref fP)) (kP : PySem.W.keepIn K (.ref fP) = true) (bP : Binds K fdP ["row"] [])
    (GB : FnOk P w K mg base CX0 1 fB fdB ["simplex", "places"] (spBoundary K)) (mB : mg "boundary_of" = some (.ref fB)) (kB : PySem.W.keepIn K (.ref fB) = true) (bB : Binds K fdB ["simplex", "places"] [])
    (GL : FnOk P w K mg base CX0 2 fL fdL ["boundary", "kept"] (spLeft K)) (mL : mg "what_is_left" = some (.ref fL)) (kL : PySem.W.keepIn K (.ref fL) = true) (bL : Binds K fdL ["boundary", "kept"] []) :
    FnOk P w K mg base CX0 3 f fd ["row"] (spPairs K) := by
  refine F.ok scPA (fun vs H Q E h => ?_) (fun cdv A outer s H vs Q E hr h => ?_)
  · obtain ⟨l, ts, r, rfl, _⟩ := h
    rfl
  · obtain ⟨l, ts, r, rfl, hl, tp, nd, l60, R, l4, k⟩ := h
    have hu := hu_of hr
    have hr1 : Room 1 _ := hr.mono (by decide)
    have nd7 := scPA.nd
    refine ⟨_, pss_cons (ps_set (i := 1) nd7 rfl (Or.inl rfl) (pe_call GP hr1 rfl mP kP bP .nil pass0 (pa_cons (pv 0) pa_nil)))
      (pss_cons (ps_set (i := 2) nd7 rfl (Or.inl rfl) pe_dnewK)
      (pss_cons (ps_set (i := 3) nd7 rfl (Or.inl rfl) (pe_lst pa_nil))
      (pss_cons (ps_for PassesOwn.never rfl (pi_enum (by rfl) T.enumerate (pa_cons (pv 0) pa_nil)) (pg_tup rfl (pgs_cons (pg_name (i := 4) nd7 rfl (Or.inl rfl)) (pgs_cons (pg_name (i := 5) nd7 rfl (Or.inl rfl)) pgs_nil)))
        (pss_cons (ps_set (i := 6) nd7 rfl (Or.inl rfl) (pe_call GL hr rfl mL kL bL .nil pass0 (pa_cons (pe_call GB hr1 rfl mB kB bB .nil pass0 (pa_cons (pv 5) (pa_cons (pv 1) pa_nil))) (pa_cons (pv 2) pa_nil))))
        (pss_one (ps_if (pt_cmpR op_gt (pe_callB call_len_seq (by rfl) T.len PySem.boot_len (pa_cons (pv 6) pa_nil)) pe_int (nomark _))
          (pss_cons (ps_dput hu (pv 2) (pe_ix ix_list (pv 6) (pe_un un_neg pe_int) (fun _ _ => rfl)) (pv 6) rfl)
          (pss_one (ps_expr (pe_bm PySem.F.plainAttrs_list PySem.F.slot_list_append PySem.F.type_list_append mt_append (pv 3) (pa_cons (pe_tup (pa_cons (pe_ix ix_list (pv 6) (pe_un un_neg pe_int) (fun _ _ => rfl)) (pa_cons (pv 4) pa_nil))) pa_nil))))) pss_nil))))
      (pss_one (ps_ret (pv 3)))))), ?_⟩
    refine ⟨_, rfl, l, ts, r, rfl, hl, tp, nd, l60, fun H1 dp s1 ndp pl => ?_⟩
    intro dk ndk
    have s2 : L2.Same H1 (upd H1 dk (.dK [])) := same_new ndk
    refine ⟨Nat.zero_le _, fun pf npf => ?_⟩
    have s3 := same_new (o := .lst []) npf
    have nk0 : H dk = none := s1.free ndk
    have nf0 : H pf = none := (s1.trans s2).free npf
    have dkf : dk ≠ pf := ne_of_none upd_same npf
    have s13 := (s1.trans s2).trans s3
    refine ⟨_, rfl, l, _, rfl, s13.seq hl, for_enum (K := K) (a := l) (xs := ts.map V.ref)
      (fun i σ H' => ∃ (v4 v5 v6 : Option V) (us : List Addr), σ = [some (.ref l), some (.ref dp), some (.ref dk), some (.ref pf), v4, v5, v6] ∧ L2.Same H H' ∧ PlacesAt H' dp r ∧ KeptAt H' dk (upto r i).1 pf ∧ H' pf = some (.lst (us.map V.ref)) ∧ TwosAt H' (upto r i).2 us)
      ⟨none, none, none, [], rfl, s13, places_same (s2.trans s3) pl, ⟨[], s3 _ _ upd_same, Nat.zero_le _, fun m e he => (by cases he), fun m _ => rfl⟩, upd_same, .nil⟩ (fun i σ H' _ ⟨_, _, _, _, _, sm, _⟩ => sm.seq hl) ?_ ?_⟩
    · rintro i v σ H' U hi ⟨v4, v5, v6, us, rfl, sm, pl', kd, hf, tw⟩ nU
      obtain ⟨t, ht, rfl⟩ := map_at hi
      obtain ⟨x, hx, hxt⟩ := paired_at tp ht
      have xr : x ∈ r := List.mem_of_getElem? hx
      have ir : i < r.length := (List.getElem?_eq_some_iff.mp hx).1
      have s4 : L2.Same H' (upd H' U (.tup [nv i, .ref t])) := same_new nU
      have U0 := upto_ok R i (by omega)
      obtain ⟨ed, el⟩ := edge_in R hx
      obtain ⟨ul1, ul2⟩ := up_len R (i := i) (by omega)
      refine ⟨U, _, rfl, SqT.of upd_same, rfl, _, _, rfl, _, _, rfl, rfl, ?_⟩
      refine ⟨_, rfl, _, rfl, t, dp, x, r, rfl, same_tup (sm.trans s4) (SqT.of hxt), places_same s4 pl', R.ne x xr, l4 x xr, R.nd x xr, R.fc x xr, fun H2 b s5 nb hb => ?_⟩
      refine ⟨_, rfl, b, dk, pf, edgeOf r x, (upto r i).1, r.length, r.length + 1, rfl, hb, kept_same (s4.trans s5) kd, U0.done, l60, ed, el, fun n hn => Nat.lt_succ_of_lt (el n hn), fun H3 q s6 newq hq => ?_⟩
      have s46 := (s4.trans s5).trans s6
      have step := upto_succ hx
      have qpf : q ≠ pf := by
        rcases newq with e | e
        · rw [e]
          exact (ne_of_none (s4 _ _ hf) nb).symm
        · exact (ne_of_none (s5 _ _ (s4 _ _ hf)) e).symm
      obtain ⟨ld, ll, lnone⟩ := lessen_spec U0.done (r.length + 1) _ ed el fun n hn => Nat.lt_succ_of_lt (el n hn)
      refine ⟨_, rfl, q, _, rfl, .inl (SqL.of hq), _, _, rfl, rfl, _, rfl, ?_⟩
      cases eL : lessen (upto r i).1 (r.length + 1) (edgeOf r x) with
      | nil =>
        rw [eL] at hq
        rw [pstep_nil eL] at step
        refine iteF ⟨some (nv i), some (.ref t), some (.ref q), us, rfl, sm.trans s46, places_same s46 pl', ?_, s46 _ _ hf, ?_⟩
        · rw [step]
          exact kept_same s46 kd
        · rw [step]
          exact L2.Paired.mapP tw fun _ _ h => s46 _ _ h
      | cons m z =>
        rw [eL] at hq ld ll
        rw [pstep_cons eL] at step
        have none_m := lnone m z eL
        have lastV : atI (chainV (m :: z)) (-1) = some (nv m) := by
          rw [chain_last]
          exact atI_last _ _
        obtain ⟨kvs, hd, hk1, hk2, hk3⟩ := (kept_same s46 kd).ex
        have qd : q ≠ dk := ne_of hq hd (by intro z; cases z)
        have fd' : pf ≠ dk := dkf.symm
        have hf3 := s46 _ _ hf
        refine ite_b (fun _ => ?_) fun c => ?_
        · refine ⟨_, rfl, _, rfl, _, rfl, _, rfl, q, _, _, _, rfl, rfl, SqL.of hq, lastV, dk, _, rfl, DPut.k (k := nk m) hd (by rw [sizeLine_eq]; omega), ?_⟩
          have hf4 : upd H3 dk (.dK (putK kvs (nk m) (.ref q))) pf = some (.lst (us.map V.ref)) := (upd_ne fd').trans hf3
          have hq4 : upd H3 dk (.dK (putK kvs (nk m) (.ref q))) q = some (.lst (chainV (m :: z))) := (upd_ne qd).trans hq
          refine ⟨_, rfl, .inl ⟨rfl, _, SqL.of hf4⟩, _, rfl, _, rfl, q, _, _, _, rfl, rfl, SqL.of hq4, lastV, _, rfl, by show 2 ≤ sizeLine; decide, fun g ng => ?_⟩
          have s7 : L2.Same (upd H3 dk (.dK (putK kvs (nk m) (.ref q)))) (upd (upd H3 dk (.dK (putK kvs (nk m) (.ref q)))) g (.tup [nv m, nv i])) := same_new ng
          have hf5 := s7 _ _ hf4
          have gf : g ≠ pf := ne_of upd_same hf5 (by intro z; cases z)
          have lus : us.length ≤ 60 := by rw [← paired_len tw]; omega
          refine ⟨pf, _, _, rfl, rfl, hf5, by rw [List.length_map, sizeLine_eq]; omega, ?_⟩
          have all : ∀ b o, H3 b = some o → b ≠ dk → b ≠ pf → upd (upd (upd H3 dk (.dK (putK kvs (nk m) (.ref q)))) g (.tup [nv m, nv i])) pf (.lst (us.map V.ref ++ [.ref g])) b = some o := fun b o e n1 n2 => by
            rw [upd_ne n2]
            exact s7 _ _ ((upd_ne n1).trans e)
          have tups : ∀ b xs, H3 b = some (.tup xs) → upd (upd (upd H3 dk (.dK (putK kvs (nk m) (.ref q)))) g (.tup [nv m, nv i])) pf (.lst (us.map V.ref ++ [.ref g])) b = some (.tup xs) := fun b xs e =>
            all b _ e (ne_of e hd (by intro z; cases z)) (ne_of e hf3 (by intro z; cases z))
          refine ⟨some (nv i), some (.ref t), some (.ref q), us ++ [g], rfl, fun b o e => all b o (s46 _ _ (sm _ _ e)) (ne_of_none e nk0) (ne_of_none e nf0), ?_, ?_, ?_, ?_⟩
          · obtain ⟨pk, p1, p2⟩ := (places_same s46 pl').ex
            exact ⟨pk, all _ _ p1 (ne_of p1 hd (by intro z; cases z)) (ne_of p1 hf3 (by intro z; cases z)), p2⟩
          · rw [step]
            refine ⟨putK kvs (nk m) (.ref q), ?_, ?_, fun j e he => ?_, fun j he => ?_⟩
            · rw [upd_ne dkf]
              exact s7 _ _ upd_same
            · rw [List.length_append, List.length_singleton]
              unfold putK
              split
              · rw [List.length_map]
                omega
              · rw [List.length_append, List.length_singleton]
                omega
            · rw [look_snoc _ _ _ none_m] at he
              rw [valV_put]
              by_cases c : j = m
              · subst c
                rw [if_pos rfl] at he ⊢
                cases he
                exact ⟨q, rfl, all q _ hq qd qpf, qpf⟩
              · rw [if_neg c] at he
                have cn : ¬ nk j = nk m := fun z => c (by
                  have z' := Sum.inl.inj z
                  omega)
                rw [if_neg cn]
                obtain ⟨q6, h6, h7, h8⟩ := hk2 j e he
                exact ⟨q6, h6, all q6 _ h7 (ne_of h7 hd (by intro z; cases z)) h8, h8⟩
            · rw [look_snoc _ _ _ none_m] at he
              by_cases c : j = m
              · rw [if_pos c] at he
                cases he
              · rw [if_neg c] at he
                have cn : ¬ nk j = nk m := fun z => c (by
                  have z' := Sum.inl.inj z
                  omega)
                rw [valV_put, if_neg cn]
                exact hk3 j he
          · rw [upd_same, List.map_append]
            rfl
          · rw [step]
            refine paired_snoc (L2.Paired.mapP tw fun _ _ h => tups _ _ (s46 _ _ h)) ?_
            rw [upd_ne gf]
            exact upd_same
        · have c' : ¬ ((0 : Int) < ((chainV (m :: z)).length : Int)) := by simpa using c
          rw [chain_last, List.length_append, List.length_singleton] at c'
          omega
    · rintro σ H' ⟨v4, v5, v6, us, rfl, sm, _, _, hf, tw⟩
      rw [List.length_map, ← paired_len tp, ← pairs_upto] at tw
      exact ⟨_, rfl, k H' pf us sm nf0 hf tw⟩
end
end Fl

set_option Elab.async false
set_option maxRecDepth 100000
set_option maxHeartbeats 4000000
/-! FlP6: bars_in. -/
namespace Fl
open PySem PySem.Spec PyProof.Rows L2
open HoBase (Sim before face)
open Ho02 (Bar)
/-! ### bars, place by place -/
def barAt (r : List Sim) (p : List (Nat × Nat)) (h : List Nat) (i : Nat) : Option Bar :=
  if p.any (fun (x : Nat × Nat) => decide (x.2 = i)) = true then none else
  match p.find? fun (x : Nat × Nat) => decide (x.1 = i) with
  | none => some ⟨(Ho02.simAt r i).length - 1, Ho02.height h (Ho02.simAt r i), none⟩
  | some x => if Ho02.height h (Ho02.simAt r x.2) = Ho02.height h (Ho02.simAt r i) then none else some ⟨(Ho02.simAt r i).length - 1, Ho02.height h (Ho02.simAt r i), some (Ho02.height h (Ho02.simAt r x.2))⟩
def barsOf (r : List Sim) (h : List Nat) : List Bar := (List.range r.length).filterMap (barAt r (Ho02.pairs r) h)
theorem bars_are (c : HoBase.Cx) (h : List Nat) : Ho02.bars c h = barsOf (Ho02.row c h) h := rfl
def endV : Option Nat → V
  | none => .int (-1)
  | some e => nv e
def barV (b : Bar) : List V := [nv b.dim, nv b.from_, endV b.to_]
abbrev BarsAt (H : Hp) (bs : List Bar) (us : List Addr) : Prop := Paired (fun b t => H t = some (.tup (barV b))) bs us
/-! ### the two dicts -/
def FillerIs (kvs : List (Key × V)) (ps : List (Nat × Nat)) : Prop := ∀ i : Nat, valV kvs (nk i) = (ps.find? fun (x : Nat × Nat) => decide (x.1 = i)).map fun x => nv x.2
def FillsIs (kvs : List (Key × V)) (ps : List (Nat × Nat)) : Prop := ∀ i : Nat, (valV kvs (nk i)).isSome = ps.any fun (x : Nat × Nat) => decide (x.2 = i)
theorem nk_inj {i j : Nat} (h : nk i = nk j) : i = j := by
  have := Sum.inl.inj h
  omega
theorem filler_put {kvs : List (Key × V)} {ps : List (Nat × Nat)} {p : Nat × Nat} (h : FillerIs kvs ps) (n : p.1 ∉ ps.map (·.1)) : FillerIs (putK kvs (nk p.1) (nv p.2)) (ps ++ [p]) := fun i => by
  rw [valV_put, List.find?_append]
  by_cases c : i = p.1
  · subst c
    have z : (ps.find? fun (x : Nat × Nat) => decide (x.1 = p.1)) = none := List.find?_eq_none.mpr fun x hx e => n (List.mem_map.mpr ⟨x, hx, by simpa using e⟩)
    rw [if_pos rfl, z]
    simp
  · rw [if_neg (fun z => c (nk_inj z)), h i]
    have z : ([p].find? fun (x : Nat × Nat) => decide (x.1 = i)) = none := by
      simp
      omega
    rw [z, Option.or_none]
theorem fills_put {kvs : List (Key × V)} {ps : List (Nat × Nat)} {p : Nat × Nat} {v : V} (h : FillsIs kvs ps) : FillsIs (putK kvs (nk p.2) v) (ps ++ [p]) := fun i => by
  rw [valV_put, List.any_append]
  by_cases c : i = p.2
  · subst c
    rw [if_pos rfl]
    simp
  · rw [if_neg (fun z => c (nk_inj z)), h i]
    have z : [p].any (fun (x : Nat × Nat) => decide (x.2 = i)) = false := by
      simp
      omega
    rw [z, Bool.or_false]
theorem putK_len (kvs : List (Key × V)) (k : Key) (v : V) : (putK kvs k v).length ≤ kvs.length + 1 := by
  unfold putK
  split
  · rw [List.length_map]
    omega
  · rw [List.length_append, List.length_singleton]
    omega
theorem filter_snoc (g : Nat → Option Bar) (i : Nat) : (List.range (i + 1)).filterMap g = (List.range i).filterMap g ++ (g i).toList := by
  rw [List.range_succ, List.filterMap_append]
  cases e : g i <;> simp [e]
theorem simAt_row {r : List Sim} {i : Nat} {x : Sim} (h : r[i]? = some x) : Ho02.simAt r i = x := by
  unfold Ho02.simAt
  rw [List.getD_eq_getElem?_getD, h]
  rfl
def spBars (K : PySem.W.Frag) : Sp := fun vs H Q _ => ∃ (l b : Addr) (ts : List Addr) (r : List Sim) (hs : List Nat), vs = [.ref l, .ref b] ∧ SqL K H l (ts.map V.ref) ∧ TupsAt H r ts ∧ SqL K H b (hs.map nv) ∧ r.Nodup ∧ r.length ≤ 60 ∧ RowOk r ∧ (∀ x ∈ r, SimOk hs.length x) ∧
  ∀ (H' : Hp) (p : Addr) (us : List Addr), L2.Same H H' → H p = none → H' p = some (.lst (us.map V.ref)) → BarsAt H' (barsOf r hs) us → Q (.ref p) H'
section
variable {P : Program} {w : World} {K : PySem.W.Frag} {mg : Str → Option Value} {base : Heap}
theorem scBA : FnScope ["row", "heights", "filler", "fills", "pair", "found", "place", "simplex", "beginning", "end"] ["row", "heights"] (defScope sBars) := ⟨rfl, rfl, rfl, by decide +kernel, rfl, by decide +kernel, by decide +kernel⟩
theorem ok_bars {f fP fC : Addr} {fd fdP fdC : FuncData} {tE : Tok} (F : Fun K "bars_in" "bars_in" sBars f fd) (T : Txt mg) (gE : mg "NO_END" = some (.int (-1) tE))
    (GP : FnOk P w K mg base CX0 3 fP fdP ["row"] (spPairs K)) (mP : mg "pairs_in" = some (.ref fP)) (kP : PySem.W.keepIn K (.ref fP) = true) (bP : Binds K fdP ["row"] [])
    (GC : FnOk P w K mg base CX0 1 fC fdC ["simplex", "heights"] (spComesAt K)) (mC : mg "comes_at" = some (.ref fC)) (kC : PySem.W.keepIn K (.ref fC) = true) (bC : Binds K fdC ["simplex", "heights"] []) :
    FnOk P w K mg base CX0 4 f fd ["row", "heights"] (spBars K) := by
  refine F.ok scBA (fun vs H Q E h => ?_) (fun cdv A outer s H vs Q E hr h => ?_)
  · obtain ⟨l, b, ts, r, hs, rfl, _⟩ := h
    rfl
  · obtain ⟨l, b, ts, r, hs, rfl, hl, tp, hb, nd, l60, R, so, k⟩ := h
    have hu := hu_of hr
    have hr1 : Room 1 _ := hr.mono (by decide)
    have N := scBA.nd
    refine ⟨_, pss_cons (ps_set (i := 2) N rfl (Or.inl rfl) pe_dnewK)
      (pss_cons (ps_set (i := 3) N rfl (Or.inl rfl) pe_dnewK)
      (pss_cons (ps_for PassesOwn.never rfl (pi_list (pe_call GP hr rfl mP kP bP .nil pass0 (pa_cons (pv 0) pa_nil))) (pg_name (i := 4) N rfl (Or.inl rfl))
        (pss_cons (ps_dput hu (pv 2) (pe_ix ix_tup (pv 4) pe_int (fun _ _ => rfl)) (pe_ix ix_tup (pv 4) pe_int (fun _ _ => rfl)) rfl)
        (pss_one (ps_dput hu (pv 3) (pe_ix ix_tup (pv 4) pe_int (fun _ _ => rfl)) pe_bl rfl))))
      (pss_cons (ps_set (i := 5) N rfl (Or.inl rfl) (pe_lst pa_nil))
      (pss_cons (ps_for PassesOwn.never rfl (pi_enum (by rfl) T.enumerate (pa_cons (pv 0) pa_nil)) (pg_tup rfl (pgs_cons (pg_name (i := 6) N rfl (Or.inl rfl)) (pgs_cons (pg_name (i := 7) N rfl (Or.inl rfl)) pgs_nil)))
        (pss_cons (ps_if (pt_cmp (pc_din hu (pv 6) (pv 3))) (pss_one ps_continue) pss_nil)
        (pss_cons (ps_set (i := 8) N rfl (Or.inl rfl) (pe_call GC hr1 rfl mC kC bC .nil pass0 (pa_cons (pv 7) (pa_cons (pv 1) pa_nil))))
        (pss_cons (ps_set (i := 9) N rfl (Or.inl rfl) (pe_ifExp (pt_cmp (pc_din hu (pv 6) (pv 2))) (pe_call GC hr1 rfl mC kC bC .nil pass0 (pa_cons (pe_ix ix_list (pv 0) (pe_dget hu (pv 2) (pv 6) (fun _ _ => rfl)) (fun _ _ => rfl)) (pa_cons (pv 1) pa_nil))) (pe_glob (v := .int (-1)) rfl gE ⟨_, rfl⟩)))
        (pss_one (ps_if (pt_cmpR op_ne (pv 9) (pv 8) (nomark _))
          (pss_one (ps_expr (pe_bm PySem.F.plainAttrs_list PySem.F.slot_list_append PySem.F.type_list_append mt_append (pv 5) (pa_cons (pe_tup (pa_cons (pe_op op_sub (pe_callB call_len_seq (by rfl) T.len PySem.boot_len (pa_cons (pv 7) pa_nil)) pe_int) (pa_cons (pv 8) (pa_cons (pv 9) pa_nil)))) pa_nil)))) pss_nil))))))
      (pss_one (ps_ret (pv 5))))))), ?_⟩
    intro df ndf
    intro dl ndl
    have s1 : L2.Same H (upd H df (.dK [])) := same_new ndf
    have s2 := same_new (o := .dK []) ndl
    have s12 := s1.trans s2
    have dfl : df ≠ dl := ne_of_none upd_same ndl
    refine ⟨_, rfl, l, ts, r, rfl, s12.seq hl, tups_same s12 tp, nd, l60, R, fun x hx => (so x hx).l4, fun H1 pp us s3 npp hpp tw => ?_⟩
    have UO := upto_ok R r.length (Nat.le_refl _)
    rw [show (upto r r.length) = ((upto r r.length).1, Ho02.pairs r) from by rw [pairs_upto]] at UO
    have firsts : ((Ho02.pairs r).map (·.1)).Nodup := by
      have e : (Ho02.pairs r).map (·.1) = (upto r r.length).1.map (·.1) := UO.same
      rw [e]
      exact UO.keys
    have pl60 : (Ho02.pairs r).length ≤ 60 := by
      have q := up_len R (i := r.length) (Nat.le_refl _)
      rw [← pairs_upto] at q
      omega
    have hdf := s3 _ _ (s2 _ _ (upd_same (H := H) (a := df) (o := .dK [])))
    have hdl := s3 _ _ (upd_same (H := upd H df (.dK [])) (a := dl) (o := .dK []))
    have ppf : pp ≠ df := ne_of hpp hdf (by intro z; cases z)
    have ppl : pp ≠ dl := ne_of hpp hdl (by intro z; cases z)
    have n0f : H df = none := ndf
    have n0l : H dl = none := s1.free ndl
    refine ⟨pp, rfl, ⟨_, SqL.of hpp⟩, for_list (K := K) (a := pp) (xs := us.map V.ref)
      (fun i σ H' => ∃ (v : Option V) (kf kl : List (Key × V)), σ = [some (.ref l), some (.ref b), some (.ref df), some (.ref dl), v, none, none, none, none, none] ∧ (∀ c o, H1 c = some o → c ≠ df → c ≠ dl → H' c = some o) ∧ H' df = some (.dK kf) ∧ H' dl = some (.dK kl) ∧ kf.length ≤ i ∧ kl.length ≤ i ∧ FillerIs kf ((Ho02.pairs r).take i) ∧ FillsIs kl ((Ho02.pairs r).take i))
      ⟨none, [], [], rfl, fun _ _ e _ _ => e, hdf, hdl, Nat.le_refl _, Nat.le_refl _, fun _ => rfl, fun _ => rfl⟩ (fun i σ H' _ ⟨_, _, _, _, sm, _⟩ => SqL.of (sm _ _ hpp ppf ppl)) ?_ ?_⟩
    · rintro i y σ H' hi ⟨v, kf, kl, rfl, sm, hf, hl', lf, ll, ff, fl⟩
      obtain ⟨t, ht, rfl⟩ := map_at hi
      obtain ⟨p, hp, hpt⟩ := paired_at tw ht
      have ip : i < (Ho02.pairs r).length := (List.getElem?_eq_some_iff.mp hp).1
      have hpt' : H' t = some (.tup [nv p.1, nv p.2]) := sm _ _ hpt (ne_of hpt hdf (by intro z; cases z)) (ne_of hpt hdl (by intro z; cases z))
      have tdf : t ≠ df := ne_of hpt' hf (by intro z; cases z)
      refine ⟨_, rfl, t, _, _, _, rfl, rfl, SqT.of hpt', at_of (j := 1) rfl rfl, _, rfl, _, rfl, t, _, _, _, rfl, rfl, SqT.of hpt', at_of (j := 0) rfl rfl, df, _, rfl, DPut.k (k := nk p.1) hf (by rw [sizeLine_eq]; omega), ?_⟩
      have hpt2 : upd H' df (.dK (putK kf (nk p.1) (nv p.2))) t = some (.tup [nv p.1, nv p.2]) := (upd_ne tdf).trans hpt'
      have hl2 : upd H' df (.dK (putK kf (nk p.1) (nv p.2))) dl = some (.dK kl) := (upd_ne dfl.symm).trans hl'
      refine ⟨_, rfl, _, rfl, t, _, _, _, rfl, rfl, SqT.of hpt2, at_of (j := 1) rfl rfl, dl, _, rfl, DPut.k (k := nk p.2) hl2 (by rw [sizeLine_eq]; omega), some (.ref t), putK kf (nk p.1) (nv p.2), putK kl (nk p.2) (.bl true), rfl, fun c o e n1 n2 => ?_, ?_, upd_same, ?_, ?_, ?_, ?_⟩
      · rw [upd_ne n2, upd_ne n1]
        exact sm c o e n1 n2
      · rw [upd_ne dfl]
        exact upd_same
      · have := putK_len kf (nk p.1) (nv p.2)
        omega
      · have := putK_len kl (nk p.2) (.bl true)
        omega
      · rw [take_more hp]
        refine filler_put ff fun z => ?_
        have q := firsts
        rw [← List.take_append_drop (i + 1) (Ho02.pairs r), List.map_append, take_more hp, List.map_append] at q
        exact (List.nodup_append.mp (List.nodup_append.mp q).1).2.2 _ z p.1 (List.mem_singleton.mpr rfl) rfl
      · rw [take_more hp]
        exact fills_put fl
    · rintro σ H2 ⟨v, kf, kl, rfl, sm, hf, hl', lf, ll, ff, fl⟩
      rw [List.length_map, ← paired_len tw, List.take_length] at ff fl
      have sH2 : L2.Same H H2 := fun c o e => sm c o (s3 _ _ (s12 _ _ e)) (ne_of_none e n0f) (ne_of_none e n0l)
      refine ⟨Nat.zero_le _, fun pf npf => ?_⟩
      have s4 := same_new (o := .lst []) npf
      have n0p : H pf = none := sH2.free npf
      refine ⟨_, rfl, l, _, rfl, (sH2.trans s4).seq hl, for_enum (K := K) (a := l) (xs := ts.map V.ref)
        (fun i σ H' => ∃ (v6 v7 v8 v9 : Option V) (bs : List Addr), σ = [some (.ref l), some (.ref b), some (.ref df), some (.ref dl), v, some (.ref pf), v6, v7, v8, v9] ∧ L2.Same H2 H' ∧ H' pf = some (.lst (bs.map V.ref)) ∧ bs.length ≤ i ∧ BarsAt H' ((List.range i).filterMap (barAt r (Ho02.pairs r) hs)) bs)
        ⟨none, none, none, none, [], rfl, s4, upd_same, Nat.le_refl _, .nil⟩ (fun i σ H' _ ⟨_, _, _, _, _, _, sm, _⟩ => (sH2.trans sm).seq hl) ?_ ?_⟩
      · rintro i y σ H' U hi ⟨v6, v7, v8, v9, bs, rfl, sq, hp, lb, ba⟩ nU
        obtain ⟨t, ht, rfl⟩ := map_at hi
        obtain ⟨x, hx, hxt⟩ := paired_at tp ht
        have xr : x ∈ r := List.mem_of_getElem? hx
        have ir : i < r.length := (List.getElem?_eq_some_iff.mp hx).1
        have o := so x xr
        have s5 : L2.Same H' (upd H' U (.tup [nv i, .ref t])) := same_new nU
        have sU := sq.trans s5
        have hUx := sU _ _ (sH2 _ _ hxt)
        have ex : Ho02.simAt r i = x := simAt_row hx
        have lenX : ((simV x).length : Int) - 1 = ((x.length - 1 : Nat) : Int) := by
          have h0 : 0 < x.length := List.length_pos_iff.mpr o.ne
          rw [show (simV x).length = x.length from List.length_map _]
          omega
        refine ⟨U, _, rfl, SqT.of upd_same, rfl, _, _, rfl, _, _, rfl, rfl, ?_⟩
        refine ⟨_, rfl, _, rfl, dl, _, rfl, DGet.k (k := nk i) (sU _ _ hl'), _, rfl, ?_⟩
        have keep : ∀ (H3 : Hp), L2.Same (upd H' U (.tup [nv i, .ref t])) H3 → barAt r (Ho02.pairs r) hs i = none → ∀ (w8 w9 : Option V),
            ∃ (v6 v7 v8 v9 : Option V) (bs : List Addr), [some (V.ref l), some (.ref b), some (.ref df), some (.ref dl), v, some (.ref pf), some (nv i), some (.ref t), w8, w9] = [some (.ref l), some (.ref b), some (.ref df), some (.ref dl), v, some (.ref pf), v6, v7, v8, v9] ∧ L2.Same H2 H3 ∧ H3 pf = some (.lst (bs.map V.ref)) ∧ bs.length ≤ i + 1 ∧ BarsAt H3 ((List.range (i + 1)).filterMap (barAt r (Ho02.pairs r) hs)) bs := fun H3 s6 hn w8 w9 => by
          refine ⟨_, _, _, _, bs, rfl, sU.trans s6, s6 _ _ (s5 _ _ hp), by omega, ?_⟩
          rw [filter_snoc, hn]
          simp only [Option.toList_none, List.append_nil]
          exact L2.Paired.mapP ba fun _ _ h => s6 _ _ (s5 _ _ h)
        refine ite_b (fun c => ?_) fun c => ?_
        · refine keep _ (L2.Same.refl _) ?_ _ _
          rw [fl i] at c
          unfold barAt
          rw [if_pos c]
        rw [fl i] at c
        refine ⟨_, rfl, _, rfl, t, b, x, hs, rfl, SqT.of hUx, (sH2.trans sU).seq hb, o.ne, o.l4, o.lt, fun H3 s6 => ?_⟩
        have hf3 := s6 _ _ (sU _ _ hf)
        refine ⟨_, rfl, _, rfl, df, _, rfl, DGet.k (k := nk i) hf3, _, rfl, ?_⟩
        have add : ∀ (H4 : Hp) (e : Option Nat), L2.Same H3 H4 → barAt r (Ho02.pairs r) hs i = some ⟨x.length - 1, Ho02.height hs x, e⟩ → ∀ (g : Addr), H4 g = none →
            ∃ (v6 v7 v8 v9 : Option V) (bs' : List Addr), [some (V.ref l), some (.ref b), some (.ref df), some (.ref dl), v, some (.ref pf), some (nv i), some (.ref t), some (nv (Ho02.height hs x)), some (endV e)] = [some (.ref l), some (.ref b), some (.ref df), some (.ref dl), v, some (.ref pf), v6, v7, v8, v9] ∧
              L2.Same H2 (upd (upd H4 g (.tup (barV ⟨x.length - 1, Ho02.height hs x, e⟩))) pf (.lst (bs.map V.ref ++ [.ref g]))) ∧ upd (upd H4 g (.tup (barV ⟨x.length - 1, Ho02.height hs x, e⟩))) pf (.lst (bs.map V.ref ++ [.ref g])) pf = some (.lst (bs'.map V.ref)) ∧ bs'.length ≤ i + 1 ∧
              BarsAt (upd (upd H4 g (.tup (barV ⟨x.length - 1, Ho02.height hs x, e⟩))) pf (.lst (bs.map V.ref ++ [.ref g]))) ((List.range (i + 1)).filterMap (barAt r (Ho02.pairs r) hs)) bs' := fun H4 e s7 hbar g ng => by
          have s8 : L2.Same H4 (upd H4 g (.tup (barV ⟨x.length - 1, Ho02.height hs x, e⟩))) := same_new ng
          have s48 := ((s5.trans s6).trans s7).trans s8
          have hp8 := s48 _ _ hp
          have gp : g ≠ pf := ne_of upd_same hp8 (by intro z; cases z)
          refine ⟨_, _, _, _, bs ++ [g], rfl, fun c o' e' => ?_, ?_, by rw [List.length_append, List.length_singleton]; omega, ?_⟩
          · rw [upd_ne (ne_of_none e' npf)]
            exact s48 _ _ (sq _ _ e')
          · rw [upd_same, List.map_append]
            rfl
          · rw [filter_snoc, hbar]
            refine paired_snoc (L2.Paired.mapP ba fun _ u h => ?_) ((upd_ne gp).trans upd_same)
            have h8 := s48 _ _ h
            rw [upd_ne (ne_of h8 hp8 (by intro z; cases z))]
            exact h8
        have unf : barAt r (Ho02.pairs r) hs i = match (Ho02.pairs r).find? fun (x : Nat × Nat) => decide (x.1 = i) with
            | none => some ⟨x.length - 1, Ho02.height hs x, none⟩
            | some y => if Ho02.height hs (Ho02.simAt r y.2) = Ho02.height hs x then none else some ⟨x.length - 1, Ho02.height hs x, some (Ho02.height hs (Ho02.simAt r y.2))⟩ := by
          unfold barAt
          rw [c, if_neg Bool.false_ne_true, ex]
        rw [ff i]
        cases hfi : (Ho02.pairs r).find? (fun (x : Nat × Nat) => decide (x.1 = i)) with
        | none =>
          rw [hfi] at unf
          refine iteF ?_
          refine ⟨_, rfl, _, rfl, rfl, _, rfl, ?_⟩
          refine ite_b (fun _ => ?_) fun c2 => ?_
          · refine ⟨_, rfl, .inl ⟨rfl, _, SqL.of (s6 _ _ (s5 _ _ hp))⟩, _, rfl, t, _, rfl, .inr (SqT.of (s6 _ _ hUx)), _, _, rfl, rfl, _, rfl, _, rfl, by show 3 ≤ sizeLine; decide, fun g ng => ?_⟩
            dsimp only [tNil]
            rw [lenX]
            have hp4 := (same_new (o := .tup [nv (x.length - 1), nv (Ho02.height hs x), .int (-1)]) ng) _ _ (s6 _ _ (s5 _ _ hp))
            exact ⟨pf, _, _, rfl, rfl, hp4, by rw [List.length_map, sizeLine_eq]; omega, add H3 none (L2.Same.refl H3) unf g ng⟩
          · simp at c2
        | some y =>
          rw [hfi] at unf
          have ym := List.mem_of_find?_eq_some hfi
          have ylt : y.2 < r.length := (UO.lt y ym).1
          have hy : r[y.2]? = some r[y.2] := List.getElem?_eq_getElem ylt
          obtain ⟨u, hu', hut⟩ := paired_at' tp hy
          have oy := so r[y.2] (List.getElem_mem ylt)
          dsimp only at unf
          rw [simAt_row hy] at unf
          have vf : valV kf (nk i) = some (nv y.2) := by
            rw [ff i, hfi]
            rfl
          refine iteT ?_
          refine ⟨_, rfl, _, rfl, _, rfl, df, _, rfl, by rw [← vf]; exact DGet.k (k := nk i) hf3, l, _, _, _, rfl, rfl, (sH2.trans (sU.trans s6)).seq hl, at_of (j := y.2) rfl (by rw [List.getElem?_map, hu']; rfl), _, rfl, ?_⟩
          refine ⟨u, b, r[y.2], hs, rfl, SqT.of ((sH2.trans (sU.trans s6)) _ _ hut), (sH2.trans (sU.trans s6)).seq hb, oy.ne, oy.l4, oy.lt, fun H4 s7 => ?_⟩
          refine ⟨_, rfl, _, rfl, rfl, _, rfl, ?_⟩
          refine ite_b (fun c2 => ?_) fun c2 => ?_
          · have ne : ¬ Ho02.height hs r[y.2] = Ho02.height hs x := by
              simp at c2
              omega
            rw [if_neg ne] at unf
            refine ⟨_, rfl, .inl ⟨rfl, _, SqL.of (s7 _ _ (s6 _ _ (s5 _ _ hp)))⟩, _, rfl, t, _, rfl, .inr (SqT.of (s7 _ _ (s6 _ _ hUx))), _, _, rfl, rfl, _, rfl, _, rfl, by show 3 ≤ sizeLine; decide, fun g ng => ?_⟩
            dsimp only [tNil]
            rw [lenX]
            have hp4 := (same_new (o := .tup [nv (x.length - 1), nv (Ho02.height hs x), nv (Ho02.height hs r[y.2])]) ng) _ _ (s7 _ _ (s6 _ _ (s5 _ _ hp)))
            exact ⟨pf, _, _, rfl, rfl, hp4, by rw [List.length_map, sizeLine_eq]; omega, add H4 (some (Ho02.height hs r[y.2])) s7 unf g ng⟩
          · have eq : Ho02.height hs r[y.2] = Ho02.height hs x := by
              simp at c2
              omega
            rw [if_pos eq] at unf
            exact keep H4 (s6.trans s7) unf _ _
      · rintro σ H' ⟨v6, v7, v8, v9, bs, rfl, sq, hp, lb, ba⟩
        rw [List.length_map, ← paired_len tp] at ba
        exact ⟨_, rfl, k H' pf bs (sH2.trans sq) n0p hp ba⟩
end
end Fl

set_option Elab.async false
set_option maxRecDepth 100000
set_option maxHeartbeats 4000000
/-! FlQ1: comprehensions with an if; is_bar_there, length_of, told_simplices, told_twos, told_by_dimension. -/
namespace Fl
open PySem PySem.Spec PyProof.Rows L2
open HoBase (Sim before face)
open Ho02 (Bar)
/-- the reading of [e for x in xs if t], xs a list of tuples: those of which f holds, each as the tuple of g -/
theorem lc_fm {α γ : Type} {K : PySem.W.Frag} {a : Addr} {bs : List α} {us : List Addr} {fv : α → List V} {gv : γ → List V} {tt : TT} {te : TE} {i : Nat} {σ : L2.St} {H : Hp} {Q : VK} (f : α → Bool) (g : α → γ) (line : us.length ≤ 1000) (hl : SqL K H a (us.map V.ref))
    (pr : Paired (fun b t => H t = some (.tup (fv b))) bs us)
    (test : ∀ (b : α) (u : Addr) (H' : Hp), b ∈ bs → H' u = some (.tup (fv b)) → L2.Same H H' → ∀ R : Bool → Hp → Prop, (∀ H2, L2.Same H' H2 → R (f b) H2) → tt ((wipe σ [i]).set i (some (.ref u))) H' R)
    (made : ∀ (b : α) (u : Addr) (H' : Hp), b ∈ bs → f b = true → H' u = some (.tup (fv b)) → L2.Same H H' → ∀ R : VK, (∀ H2 t, L2.Same H' H2 → H2 t = some (.tup (gv (g b))) → R (.ref t) H2) → te ((wipe σ [i]).set i (some (.ref u))) H' R)
    (fin : ∀ (H' : Hp) (p : Addr) (ts : List Addr), L2.Same H H' → H p = none → H' p = some (.lst (ts.map V.ref)) → Paired (fun c t => H' t = some (.tup (gv c))) ((bs.filter f).map g) ts → Q (.ref p) H') : LcAt (Itl K a) (gName i) tt te [i] σ H Q := by
  intro D nD
  have lenB := paired_len pr
  refine lc_list (K := K) (a := a) (xs := us.map V.ref) (fun j H' => L2.Same H H' ∧ ∃ ts : List Addr, ts.length ≤ j ∧ H' D = some (.lst (ts.map V.ref)) ∧ Paired (fun c t => H' t = some (.tup (gv c))) (((bs.take j).filter f).map g) ts) ⟨same_new nD, [], Nat.le_refl _, upd_same, by rw [List.take_zero]; exact Paired.nil⟩
    (fun j H' _ p => p.1.seq hl) (fun j x H' hx p => ?_) fun H' p => ?_
  · obtain ⟨sm, ts, lt, at_, pr'⟩ := p
    obtain ⟨u, hu, rfl⟩ := map_at hx
    obtain ⟨b, hb, hbu⟩ := paired_at pr hu
    have bm : b ∈ bs := List.mem_of_getElem? hb
    have ju : j < us.length := (List.getElem?_eq_some_iff.mp hu).1
    refine ⟨by simp [wipe], test b u H' bm (sm _ _ hbu) sm _ fun H2 s2 => ?_⟩
    have atD := s2 _ _ at_
    refine ite_b (fun c => ?_) fun c => ?_
    · refine made b u H2 bm c (s2 _ _ (sm _ _ hbu)) (sm.trans s2) _ fun H3 t s3 ht => ?_
      have atD3 := s3 _ _ atD
      have tn : t ≠ D := ne_of ht atD3 (by intro z; cases z)
      refine ⟨ts.map V.ref, atD3, by rw [List.length_map, sizeLine_eq]; omega, same_upd ((sm.trans s2).trans s3) nD, ts ++ [t], by rw [List.length_append, List.length_singleton]; omega, by rw [upd_same, List.map_append]; rfl, ?_⟩
      rw [take_more hb, List.filter_append, List.map_append]
      have e1 : ([b].filter f).map g = [g b] := by simp [c]
      rw [e1]
      refine paired_snoc (L2.Paired.mapP pr' fun d t' h => ?_) ((upd_ne tn).trans ht)
      have h' := s3 _ _ (s2 _ _ h)
      exact (upd_ne (ne_of h' atD3 (by intro z; cases z))).trans h'
    · refine ⟨sm.trans s2, ts, by omega, atD, ?_⟩
      rw [take_more hb, List.filter_append, List.map_append]
      have e1 : ([b].filter f).map g = [] := by simp [c]
      rw [e1, List.append_nil]
      exact L2.Paired.mapP pr' fun d t' h => s2 _ _ h
  · obtain ⟨sm, ts, _, at_, pr'⟩ := p
    rw [List.length_map, ← lenB, List.take_length] at pr'
    exact fin H' D ts sm nD at_ pr'
/-! ### is_bar_there, length_of -/
def spIsThere (K : PySem.W.Frag) : Sp := fun vs H Q _ => ∃ (t : Addr) (b : Bar) (h : Nat), vs = [.ref t, nv h] ∧ SqT K H t (barV b) ∧ ∀ H', L2.Same H H' → Q (.bl (b.at_ h)) H'
def spLength (K : PySem.W.Frag) : Sp := fun vs H Q _ => ∃ (t : Addr) (b : Bar) (e : Nat), vs = [.ref t] ∧ SqT K H t (barV b) ∧ b.to_ = some e ∧ ∀ H', L2.Same H H' → Q (.int ((e : Int) - (b.from_ : Int))) H'
section
variable {P : Program} {w : World} {K : PySem.W.Frag} {mg : Str → Option Value} {base : Heap}
theorem scIT : FnScope ["bar", "height"] ["bar", "height"] (defScope sIsThere) := ⟨rfl, rfl, rfl, by decide +kernel, rfl, by decide +kernel, by decide +kernel⟩
theorem ok_isThere {f : Addr} {fd : FuncData} {tE : Tok} (F : Fun K "is_bar_there" "is_bar_there" sIsThere f fd) (gE : mg "NO_END" = some (.int (-1) tE)) : FnOk P w K mg base CX0 1 f fd ["bar", "height"] (spIsThere K) := by
  refine F.ok scIT (fun vs H Q E h => ?_) (fun cdv A outer s H vs Q E hr h => ?_)
  · obtain ⟨t, b, h, rfl, _⟩ := h
    rfl
  · obtain ⟨t, b, h, rfl, ht, k⟩ := h
    refine ⟨_, pss_one (ps_ret (pe_and (pe_cmpR op_le (pe_ix ix_tup (pv 0) pe_int (fun _ _ => rfl)) (pv 1) (nomark _)) (pe_one (pe_or (pe_cmpR op_eq (pe_ix ix_tup (pv 0) pe_int (fun _ _ => rfl)) (pe_glob (v := .int (-1)) rfl gE ⟨_, rfl⟩) (nomark _)) (pe_one (pe_cmpR op_lt (pv 1) (pe_ix ix_tup (pv 0) pe_int (fun _ _ => rfl)) (nomark _))))))), ?_⟩
    have q := k H (L2.Same.refl H)
    refine ⟨_, rfl, t, _, _, _, rfl, rfl, ht, at_of (j := 1) rfl rfl, _, rfl, _, _, rfl, rfl, _, rfl, ite_b (fun c1 => ?_) fun c1 => ?_⟩
    · have l1 : b.from_ ≤ h := by
        simp at c1
        omega
      refine ⟨_, rfl, t, _, _, _, rfl, rfl, ht, at_of (j := 2) rfl rfl, ?_⟩
      cases e : b.to_ with
      | none =>
        have e2 : b.at_ h = true := by
          unfold Ho02.Bar.at_
          rw [decide_eq_true l1, e]
          rfl
        rw [e2] at q
        refine ⟨rfl, _, rfl, ite_b (fun _ => q) fun c => ?_⟩
        simp [endV] at c
      | some u =>
        have e2 : b.at_ h = decide (h < u) := by
          unfold Ho02.Bar.at_
          rw [decide_eq_true l1, e]
          rfl
        rw [e2] at q
        refine ⟨rfl, _, rfl, ite_b (fun c => ?_) fun _ => ?_⟩
        · simp [endV] at c
        · refine ⟨_, rfl, _, rfl, t, _, _, _, rfl, rfl, ht, at_of (j := 2) rfl rfl, ?_⟩
          rw [e]
          refine ⟨_, _, rfl, rfl, ?_⟩
          have e3 : decide ((h : Int) < (u : Int)) = decide (h < u) := by simp
          show Q (.bl (decide ((h : Int) < (u : Int)))) H
          rw [e3]
          exact q
    · have l1 : ¬ b.from_ ≤ h := by
        simp at c1
        omega
      have e2 : b.at_ h = false := by
        unfold Ho02.Bar.at_
        rw [decide_eq_false l1]
        rfl
      rw [e2] at q
      exact q
theorem scLN : FnScope ["bar"] ["bar"] (defScope sLength) := ⟨rfl, rfl, rfl, by decide +kernel, rfl, by decide +kernel, by decide +kernel⟩
theorem ok_length {f : Addr} {fd : FuncData} (F : Fun K "length_of" "length_of" sLength f fd) : FnOk P w K mg base CX0 1 f fd ["bar"] (spLength K) := by
  refine F.ok scLN (fun vs H Q E h => ?_) (fun cdv A outer s H vs Q E hr h => ?_)
  · obtain ⟨t, b, e, rfl, _⟩ := h
    rfl
  · obtain ⟨t, b, e, rfl, ht, he, k⟩ := h
    refine ⟨_, pss_one (ps_ret (pe_op op_sub (pe_ix ix_tup (pv 0) pe_int (fun _ _ => rfl)) (pe_ix ix_tup (pv 0) pe_int (fun _ _ => rfl)))), ?_⟩
    refine ⟨_, rfl, t, _, _, _, rfl, rfl, ht, at_of (j := 2) rfl rfl, ?_⟩
    rw [he]
    exact ⟨_, rfl, t, _, _, _, rfl, rfl, ht, at_of (j := 1) rfl rfl, _, _, rfl, rfl, k H (L2.Same.refl H)⟩
/-! ### told_simplices, told_twos -/
end
def simsTold (l : List Sim) : List Int := (l.length : Int) :: l.flatMap fun (x : Sim) => (x.length : Int) :: x.map ni
theorem simsTold_is (l : List Sim) : simsTold l = Ho02.toldSims l := rfl
def spToldS (K : PySem.W.Frag) : Sp := fun vs H Q _ => ∃ (l : Addr) (ts : List Addr) (xs : List Sim), vs = [.ref l] ∧ SqL K H l (ts.map V.ref) ∧ Paired (fun x t => SqT K H t (simV x)) xs ts ∧ xs.length ≤ 60 ∧ (∀ x ∈ xs, x.length ≤ 4) ∧
  ∀ (H' : Hp) (p : Addr), L2.Same H H' → H p = none → H' p = some (.lst ((simsTold xs).map V.int)) → Q (.ref p) H'
theorem told_len {xs : List Sim} (h : ∀ x ∈ xs, x.length ≤ 4) : (xs.flatMap fun (x : Sim) => (x.length : Int) :: x.map ni).length ≤ 5 * xs.length := by
  induction xs with
  | nil => exact Nat.le_refl _
  | cons x xs ih =>
    have h1 := h x (List.mem_cons_self ..)
    have h2 := ih fun y hy => h y (List.mem_cons_of_mem _ hy)
    rw [List.flatMap_cons, List.length_append, List.length_cons, List.length_map, List.length_cons]
    omega
section
variable {P : Program} {w : World} {K : PySem.W.Frag} {mg : Str → Option Value} {base : Heap}
theorem scTS : FnScope ["simplices", "told", "simplex"] ["simplices"] (defScope sToldS) := ⟨rfl, rfl, rfl, by decide +kernel, rfl, by decide +kernel, by decide +kernel⟩
theorem ok_toldS {f : Addr} {fd : FuncData} (F : Fun K "told_simplices" "told_simplices" sToldS f fd) (T : Txt mg) : FnOk P w K mg base CX0 1 f fd ["simplices"] (spToldS K) := by
  refine F.ok scTS (fun vs H Q E h => ?_) (fun cdv A outer s H vs Q E hr h => ?_)
  · obtain ⟨l, ts, xs, rfl, _⟩ := h
    rfl
  · obtain ⟨l, ts, xs, rfl, hl, pr, l60, l4, k⟩ := h
    refine ⟨_, pss_cons (ps_set (i := 1) scTS.nd rfl (Or.inl rfl) (pe_lst (pa_cons (pe_callB call_len_seq (by rfl) T.len PySem.boot_len (pa_cons (pv 0) pa_nil)) pa_nil)))
      (pss_cons (ps_for PassesOwn.never rfl (pi_list (pv 0)) (pg_name (i := 2) scTS.nd rfl (Or.inl rfl))
        (pss_cons (ps_expr (pe_bm PySem.F.plainAttrs_list PySem.F.slot_list_append PySem.F.type_list_append mt_append (pv 1) (pa_cons (pe_callB call_len_seq (by rfl) T.len PySem.boot_len (pa_cons (pv 2) pa_nil)) pa_nil)))
        (pss_one (ps_expr (pe_bm PySem.F.plainAttrs_list PySem.F.slot_list_extend PySem.F.type_list_extend mt_extend (pv 1) (pa_cons (pe_callTy call_list_of (by rfl) T.list (by decide +kernel) (pa_cons (pv 2) pa_nil)) pa_nil))))))
      (pss_one (ps_ret (pv 1)))), ?_⟩
    have lenT : ts.length = xs.length := (paired_len pr).symm
    refine ⟨_, rfl, l, _, rfl, .inl hl, by show 1 ≤ sizeLine; decide, fun p np => ?_⟩
    dsimp only [tNil]
    rw [List.length_map, lenT]
    have s0 := same_new (o := .lst [.int (xs.length : Int)]) np
    refine ⟨_, rfl, l, rfl, ⟨_, s0.seq hl⟩, for_list (K := K) (a := l) (xs := ts.map V.ref) (fun i σ H' => ∃ (v : Option V), σ = [some (.ref l), some (.ref p), v] ∧ L2.Same H H' ∧ H' p = some (.lst (((xs.length : Int) :: (xs.take i).flatMap fun (x : Sim) => (x.length : Int) :: x.map ni).map V.int)))
      ⟨none, rfl, s0, upd_same⟩ (fun i σ H' _ ⟨_, _, sm, _⟩ => sm.seq hl) ?_ ?_⟩
    · rintro i y σ H' hi ⟨v, rfl, sm, hp⟩
      obtain ⟨t, ht, rfl⟩ := map_at hi
      obtain ⟨x, hx, hxt⟩ := paired_at pr ht
      have xl := l4 x (List.mem_of_getElem? hx)
      have ix : i < xs.length := (List.getElem?_eq_some_iff.mp hx).1
      have tl := told_len (xs := xs.take i) fun y hy => l4 y (List.mem_of_mem_take hy)
      rw [List.length_take] at tl
      have lenX : (simV x).length = x.length := List.length_map _
      refine ⟨_, rfl, .inl ⟨rfl, _, SqL.of hp⟩, _, rfl, t, _, rfl, .inr (same_tup sm hxt), p, _, _, rfl, rfl, hp, by rw [List.length_map, List.length_cons, sizeLine_eq]; omega, ?_⟩
      rw [lenX]
      refine ⟨_, rfl, .inl ⟨rfl, _, SqL.of upd_same⟩, _, rfl, t, simV x, rfl, .inr ?_, fun q nq => ?_⟩
      · rcases same_tup sm hxt with (h | ⟨o, h⟩) | h
        · exact .inl (.inl ((upd_ne (ne_of h hp (by intro z; cases z))).trans h))
        · exact .inl (.inr ⟨o, (upd_ne (ne_of h hp (by intro z; cases z))).trans h⟩)
        · exact .inr h
      · have s2 := same_new (o := .lst (simV x)) nq
        have hp2 := s2 _ _ (upd_same (H := H') (a := p) (o := .lst ((((xs.length : Int) :: (xs.take i).flatMap fun (x : Sim) => (x.length : Int) :: x.map ni).map V.int) ++ [V.int (x.length : Int)])))
        have pq : p ≠ q := ne_of_none upd_same nq
        refine ⟨p, q, _, _, rfl, rfl, hp2, upd_same, ?_, some (.ref t), rfl, fun b o e => ?_, ?_⟩
        · rw [List.length_append, List.length_map, List.length_cons, List.length_singleton, lenX, sizeLine_eq]
          omega
        · have bp : b ≠ p := ne_of_none e np
          rw [upd_ne bp]
          exact s2 _ _ ((upd_ne bp).trans (sm _ _ e))
        · rw [upd_same, take_more hx, List.flatMap_append]
          simp [simV]
    · rintro σ H' ⟨v, rfl, sm, hp⟩
      rw [List.length_map, lenT, List.take_length] at hp
      exact ⟨_, rfl, k H' p sm np hp⟩
/-! ### told_twos -/
end
def twosTold {α : Type} (g : α → Int × Int) (l : List α) : List Int := (l.length : Int) :: l.flatMap fun x => [(g x).1, (g x).2]
def spTold2 (K : PySem.W.Frag) : Sp := fun vs H Q _ => ∃ (l : Addr) (ts : List Addr) (xs : List (Int × Int)), vs = [.ref l] ∧ SqL K H l (ts.map V.ref) ∧ Paired (fun x t => H t = some (.tup [.int x.1, .int x.2])) xs ts ∧ xs.length ≤ 60 ∧
  ∀ (H' : Hp) (p : Addr), L2.Same H H' → H p = none → H' p = some (.lst ((twosTold id xs).map V.int)) → Q (.ref p) H'
theorem twos_len (xs : List (Int × Int)) : (xs.flatMap fun x => [x.1, x.2]).length = 2 * xs.length := by
  induction xs with
  | nil => rfl
  | cons x xs ih =>
    rw [List.flatMap_cons, List.length_append, ih]
    simp
    omega
section
variable {P : Program} {w : World} {K : PySem.W.Frag} {mg : Str → Option Value} {base : Heap}
theorem scT2 : FnScope ["twos", "told", "two"] ["twos"] (defScope sTold2) := ⟨rfl, rfl, rfl, by decide +kernel, rfl, by decide +kernel, by decide +kernel⟩
theorem ok_told2 {f : Addr} {fd : FuncData} (F : Fun K "told_twos" "told_twos" sTold2 f fd) (T : Txt mg) : FnOk P w K mg base CX0 1 f fd ["twos"] (spTold2 K) := by
  refine F.ok scT2 (fun vs H Q E h => ?_) (fun cdv A outer s H vs Q E hr h => ?_)
  · obtain ⟨l, ts, xs, rfl, _⟩ := h
    rfl
  · obtain ⟨l, ts, xs, rfl, hl, pr, l60, k⟩ := h
    refine ⟨_, pss_cons (ps_set (i := 1) scT2.nd rfl (Or.inl rfl) (pe_lst (pa_cons (pe_callB call_len_seq (by rfl) T.len PySem.boot_len (pa_cons (pv 0) pa_nil)) pa_nil)))
      (pss_cons (ps_for PassesOwn.never rfl (pi_list (pv 0)) (pg_name (i := 2) scT2.nd rfl (Or.inl rfl))
        (pss_cons (ps_expr (pe_bm PySem.F.plainAttrs_list PySem.F.slot_list_append PySem.F.type_list_append mt_append (pv 1) (pa_cons (pe_ix ix_tup (pv 2) pe_int (fun _ _ => rfl)) pa_nil)))
        (pss_one (ps_expr (pe_bm PySem.F.plainAttrs_list PySem.F.slot_list_append PySem.F.type_list_append mt_append (pv 1) (pa_cons (pe_ix ix_tup (pv 2) pe_int (fun _ _ => rfl)) pa_nil))))))
      (pss_one (ps_ret (pv 1)))), ?_⟩
    have lenT : ts.length = xs.length := (paired_len pr).symm
    refine ⟨_, rfl, l, _, rfl, .inl hl, by show 1 ≤ sizeLine; decide, fun p np => ?_⟩
    dsimp only [tNil]
    rw [List.length_map, lenT]
    have s0 := same_new (o := .lst [.int (xs.length : Int)]) np
    refine ⟨_, rfl, l, rfl, ⟨_, s0.seq hl⟩, for_list (K := K) (a := l) (xs := ts.map V.ref) (fun i σ H' => ∃ (v : Option V), σ = [some (.ref l), some (.ref p), v] ∧ L2.Same H H' ∧ H' p = some (.lst (((xs.length : Int) :: (xs.take i).flatMap fun x => [x.1, x.2]).map V.int)))
      ⟨none, rfl, s0, upd_same⟩ (fun i σ H' _ ⟨_, _, sm, _⟩ => sm.seq hl) ?_ ?_⟩
    · rintro i y σ H' hi ⟨v, rfl, sm, hp⟩
      obtain ⟨t, ht, rfl⟩ := map_at hi
      obtain ⟨x, hx, hxt⟩ := paired_at pr ht
      have ix : i < xs.length := (List.getElem?_eq_some_iff.mp hx).1
      have tl := twos_len (xs.take i)
      rw [List.length_take] at tl
      have ht' := sm _ _ hxt
      have tp : t ≠ p := ne_of ht' hp (by intro z; cases z)
      refine ⟨_, rfl, .inl ⟨rfl, _, SqL.of hp⟩, _, rfl, t, _, _, _, rfl, rfl, SqT.of ht', at_of (j := 0) rfl rfl, p, _, _, rfl, rfl, hp, by rw [List.length_map, List.length_cons, sizeLine_eq]; omega, ?_⟩
      refine ⟨_, rfl, .inl ⟨rfl, _, SqL.of upd_same⟩, _, rfl, t, _, _, _, rfl, rfl, SqT.of ((upd_ne tp).trans ht'), at_of (j := 1) rfl rfl, p, _, _, rfl, rfl, upd_same, by rw [List.length_append, List.length_map, List.length_cons, List.length_singleton, sizeLine_eq]; omega, ?_⟩
      refine ⟨some (.ref t), rfl, fun b o e => ?_, ?_⟩
      · have bp : b ≠ p := ne_of_none e np
        rw [upd_ne bp, upd_ne bp]
        exact sm _ _ e
      · rw [upd_same, take_more hx, List.flatMap_append]
        simp
    · rintro σ H' ⟨v, rfl, sm, hp⟩
      rw [List.length_map, lenT, List.take_length] at hp
      exact ⟨_, rfl, k H' p sm np hp⟩
/-! ### told_by_dimension -/
end
def spToldD (K : PySem.W.Frag) : Sp := fun vs H Q _ => ∃ (l : Addr) (us : List Addr) (bs : List Bar), vs = [.ref l] ∧ SqL K H l (us.map V.ref) ∧ BarsAt H bs us ∧ bs.length ≤ 60 ∧
  ∀ (H' : Hp) (p : Addr), L2.Same H H' → H p = none → H' p = some (.lst ((dimsTold bs).map V.int)) → Q (.ref p) H'
section
variable {P : Program} {w : World} {K : PySem.W.Frag} {mg : Str → Option Value} {base : Heap}
theorem scTD : FnScope ["bars", "dimensions", "bar", "dimension"] ["bars"] (defScope sToldD) := ⟨rfl, rfl, rfl, by decide +kernel, rfl, by decide +kernel, by decide +kernel⟩
theorem ok_toldD {f : Addr} {fd : FuncData} (F : Fun K "told_by_dimension" "told_by_dimension" sToldD f fd) (T : Txt mg) : FnOk P w K mg base CX0 1 f fd ["bars"] (spToldD K) := by
  obtain ⟨t4, g4⟩ := T.most
  refine F.ok scTD (fun vs H Q E h => ?_) (fun cdv A outer s H vs Q E hr h => ?_)
  · obtain ⟨l, us, bs, rfl, _⟩ := h
    rfl
  · obtain ⟨l, us, bs, rfl, hl, ba, l60, k⟩ := h
    refine ⟨_, pss_cons (ps_set (i := 1) scTD.nd rfl (Or.inr rfl)
        (pe_lc (te := tOp (rIxT K) (tVar 2) (tC (.int 0))) (own := [("bar", 2)]) (g := gName 2) (tt := tYes) rfl scTD.nd (pi_list (pv 0)) (blkOk_by (own := [("bar", 2)]) (N := ["bars", "dimensions", "bar", "dimension"]) (sc := defScope sToldD) (by decide +kernel)) (fun _ _ _ _ _ => pg_name (i := 2) scTD.nd rfl (Or.inl rfl)) (fun _ _ _ _ _ => pts_nil)
          (fun _ _ _ _ _ => pe_ix ix_tup (pv 2) pe_int (fun _ _ => rfl))))
      (pss_one (ps_ret (pe_lc (te := tBM K "list" (rCntI K) (tVar 1) (tCons (tVar 3) tNil)) (own := [("dimension", 3)]) (g := gName 3) (tt := tYes) rfl scTD.nd (pi_range1 (by rfl) T.range (pa_cons (pe_glob (v := .int 4) rfl g4 ⟨_, rfl⟩) pa_nil))
          (blkOk_by (own := [("dimension", 3)]) (N := ["bars", "dimensions", "bar", "dimension"]) (sc := defScope sToldD) (by decide +kernel)) (fun _ _ _ _ _ => pg_name (i := 3) scTD.nd rfl (Or.inl rfl)) (fun _ _ _ _ _ => pts_nil)
          (fun _ _ _ _ _ => pe_bm PySem.F.plainAttrs_list PySem.F.slot_list_count PySem.F.type_list_count mt_lcount (pv 1) (pa_cons (pv 3) pa_nil))))), ?_⟩
    have lenU : us.length = bs.length := (paired_len ba).symm
    dsimp only [tSeq, tAsg, tRet]
    refine tLc_of ?_
    refine ⟨_, rfl, l, rfl, ⟨_, hl⟩, lc_known (bs.map fun b => nv b.dim) (by rw [List.length_map, List.length_map, lenU]) (by rw [List.length_map, sizeLine_eq]; omega) hl (fun j x y H' hx hy sm R hR => ?_) fun H' p sm np hp => ?_⟩
    · obtain ⟨u, hu, rfl⟩ := map_at hx
      obtain ⟨b, hb, rfl⟩ := map_at hy
      obtain ⟨b', hb', hbu⟩ := paired_at ba hu
      obtain rfl : b = b' := Option.some.inj (hb.symm.trans hb')
      exact ⟨_, rfl, u, _, _, _, rfl, rfl, SqT.of (sm _ _ hbu), at_of (j := 0) rfl rfl, hR H' (L2.Same.refl H')⟩
    · refine tLc_w ?_
      refine ⟨4, rfl, by decide, by decide, ?_⟩
      refine lc_knownR ((dimsTold bs).map V.int) (by unfold dimsTold; rw [List.length_map, List.length_map, List.length_range]; rfl) (by rw [sizeLine_eq]; decide) (fun j y H2 hj hy s2 R hR => ?_) fun H2 q s2 nq hq => ?_
      · obtain ⟨m, hm, rfl⟩ := map_at hy
        unfold dimsTold at hm
        obtain ⟨d, hd, rfl⟩ := map_at hm
        have ej : d = j := by
          rw [List.getElem?_range (show j < 4 from hj)] at hd
          exact (Option.some.inj hd).symm
        subst ej
        have hp2 := s2 _ _ hp
        have e0 : (0 : Int) + (d : Int) = (d : Int) := by omega
        refine ⟨_, rfl, .inl ⟨rfl, _, SqL.of hp2⟩, _, rfl, p, bs.map fun b => (b.dim : Int), _, rfl, rfl, SqL.of (by rw [hp2, List.map_map]; rfl), ?_⟩
        rw [e0]
        exact hR H2 (L2.Same.refl H2)
      · exact k H2 q (sm.trans s2) (sm.free nq) hq
end
end Fl

set_option Elab.async false
set_option maxRecDepth 100000
set_option maxHeartbeats 4000000
/-! FlQ2: no_faces_of_others, partner_in, counted. -/
namespace Fl
open PySem PySem.Spec PyProof.Rows L2
open HoBase (Sim before face)
open Ho02 (Bar)
/-! ### simplices as data -/
theorem dp_nats {K : PySem.W.Frag} {H : Hp} : ∀ x : Sim, DpAll K H (simV x) (x.map iD)
  | [] => .nil
  | _ :: x => .cons (.int _) (dp_nats x)
theorem dp_sim {K : PySem.W.Frag} {H : Hp} {t : Addr} {x : Sim} (h : SqT K H t (simV x)) : Dp K H (.ref t) (simD x) := .tup h (dp_nats x)
theorem canLay_nats : ∀ x : Sim, PyData.canLayAll0 (x.map iD) = true
  | [] => rfl
  | _ :: x => by
    rw [List.map_cons, PyData.canLayAll0, canLay_nats x]
    rfl
theorem shaped_sim (x : Sim) : SeqAt.shaped (simD x) = true := by
  unfold SeqAt.shaped simD
  rw [PyData.canLay0, canLay_nats x]
  show decide (PyData.depthAll (x.map iD) + 1 ≤ 64) = true
  rw [depth_nats x]
  rfl
theorem eqv_nats : ∀ x y : Sim, PyData.eqvAll (x.map iD) (y.map iD) = decide (x = y)
  | [], [] => rfl
  | [], _ :: _ => by
    rw [List.map_cons, List.map_nil, PyData.eqvAll]
    simp
  | _ :: _, [] => by
    rw [List.map_cons, List.map_nil, PyData.eqvAll]
    simp
  | a :: x, b :: y => by
    rw [List.map_cons, List.map_cons, PyData.eqvAll, eqv_nats x y, PyData.eqv]
    by_cases c : a = b
    · subst c
      simp
    · have : ¬ ((a : Int) = (b : Int)) := by omega
      simp [c, this]
theorem eqv_sim (x y : Sim) : PyData.eqv (simD x) (simD y) = decide (x = y) := by
  unfold simD
  rw [PyData.eqv, eqv_nats]
/-! ### no_faces_of_others -/
/-- which simplices are keys -/
def KeyIs (kvs : List (List Key × V)) (p : Sim → Prop) : Prop := ∀ y : Sim, (valV kvs (simK y)).isSome = true ↔ p y
def spNoFaces (K : PySem.W.Frag) : Sp := fun vs H Q _ => ∃ (l : Addr) (ts : List Addr) (xs : List Sim), vs = [.ref l] ∧ SqL K H l (ts.map V.ref) ∧ TupsAt H xs ts ∧ xs.length ≤ 60 ∧ (∀ x ∈ xs, SimIs x) ∧
  ∀ (H' : Hp) (p : Addr) (us : List Addr), L2.Same H H' → H p = none → H' p = some (.lst (us.map V.ref)) → TupsAt H' (HoBase.tops xs) us → Q (.ref p) H'
theorem keyIs_put {kvs : List (List Key × V)} {p : Sim → Prop} {x : Sim} {v : V} (h : KeyIs kvs p) : KeyIs (putK kvs (simK x) v) fun y => p y ∨ y = x := fun y => by
  rw [valV_put]
  by_cases c : simK y = simK x
  · rw [if_pos c]
    exact ⟨fun _ => .inr (simK_inj c), fun _ => rfl⟩
  · rw [if_neg c, h y]
    exact ⟨.inl, fun z => z.elim id fun z => absurd (by rw [z]) c⟩
theorem putT_len (kvs : List (List Key × V)) (k : List Key) (v : V) : (putK kvs k v).length ≤ kvs.length + 1 := by
  unfold putK
  split
  · rw [List.length_map]
    omega
  · rw [List.length_append, List.length_singleton]
    omega
theorem facesL_few {x : Sim} (h : x.length ≤ 4) : (facesL x).length ≤ 15 := by
  have := facesL_len x h
  unfold facesL
  rw [List.length_drop]
  omega
section
variable {P : Program} {w : World} {K : PySem.W.Frag} {mg : Str → Option Value} {base : Heap}
theorem scNF : FnScope ["simplices", "faces_of_others", "simplex", "face"] ["simplices"] (defScope sNoFaces) := ⟨rfl, rfl, rfl, by decide +kernel, rfl, by decide +kernel, by decide +kernel⟩
theorem ok_noFaces {f fF : Addr} {fd fdF : FuncData} (F : Fun K "no_faces_of_others" "no_faces_of_others" sNoFaces f fd)
    (GF : FnOk P w K mg base CX0 1 fF fdF ["simplex"] (spFacesOf K)) (mF : mg "faces_of" = some (.ref fF)) (kF : PySem.W.keepIn K (.ref fF) = true) (bF : Binds K fdF ["simplex"] []) :
    FnOk P w K mg base CX0 2 f fd ["simplices"] (spNoFaces K) := by
  refine F.ok scNF (fun vs H Q E h => ?_) (fun cdv A outer s H vs Q E hr h => ?_)
  · obtain ⟨l, ts, xs, rfl, _⟩ := h
    rfl
  · obtain ⟨l, ts, xs, rfl, hl, tp, l60, ok, k⟩ := h
    have hu := hu_of hr
    refine ⟨_, pss_cons (ps_set (i := 1) scNF.nd rfl (Or.inr rfl) pe_dnewT)
      (pss_cons (ps_for PassesOwn.never rfl (pi_list (pv 0)) (pg_name (i := 2) scNF.nd rfl (Or.inl rfl))
        (pss_one (ps_for PassesOwn.never rfl (pi_list (pe_call GF hr rfl mF kF bF .nil pass0 (pa_cons (pv 2) pa_nil))) (pg_name (i := 3) scNF.nd rfl (Or.inl rfl))
          (pss_one (ps_if (pt_cmpR (op_neD hr.units) (pv 3) (pv 2) (nomark _)) (pss_one (ps_dput hu (pv 1) (pv 3) pe_bl rfl)) pss_nil)))))
      (pss_one (ps_ret (pe_lc (te := tVar 2) (own := [("simplex", 2)]) (g := gName 2) (tt := tTest (tDNotIn (tVar 2) (tVar 1))) rfl scNF.nd (pi_list (pv 0)) (blkOk_by (own := [("simplex", 2)]) (N := ["simplices", "faces_of_others", "simplex", "face"]) (sc := defScope sNoFaces) (by decide +kernel)) (fun _ _ _ _ _ => pg_name (i := 2) scNF.nd rfl (Or.inl rfl))
        (fun _ _ _ _ _ => pts_one (pt_cmp (pc_dnotin hu (pv 2) (pv 1)))) (fun _ _ _ _ _ => pv 2))))), ?_⟩
    intro d nd
    have s0 : L2.Same H (upd H d (.dT [])) := same_new nd
    have lenT : ts.length = xs.length := (paired_len tp).symm
    refine ⟨_, rfl, l, rfl, ⟨_, s0.seq hl⟩, for_list (K := K) (a := l) (xs := ts.map V.ref) (fun i σ H' => ∃ (v2 v3 : Option V) (kvs : List (List Key × V)), σ = [some (.ref l), some (.ref d), v2, v3] ∧ L2.Same H H' ∧ H' d = some (.dT kvs) ∧ kvs.length ≤ 16 * i ∧ KeyIs kvs fun y => ∃ z ∈ xs.take i, z ≠ y ∧ y ∈ facesL z)
      ⟨none, none, [], rfl, s0, upd_same, Nat.zero_le _, fun y => ⟨fun z => (by cases z), fun ⟨z, hz, _⟩ => by rw [List.take_zero] at hz; cases hz⟩⟩ (fun i σ H' _ ⟨_, _, _, _, sm, _⟩ => sm.seq hl) ?_ ?_⟩
    · rintro i y σ H' hi ⟨v2, v3, kvs, rfl, sm, hd, hlen, ky⟩
      obtain ⟨t, ht, rfl⟩ := map_at hi
      obtain ⟨x, hx, hxt⟩ := paired_at tp ht
      have xl := (ok x (List.mem_of_getElem? hx)).l4
      have ix : i < xs.length := (List.getElem?_eq_some_iff.mp hx).1
      have fl := facesL_few xl
      have hxt' := sm _ _ hxt
      refine ⟨_, rfl, t, x, rfl, SqT.of hxt', xl, fun H2 p us s2 np hp up => ?_⟩
      have hd2 := s2 _ _ hd
      have pd : p ≠ d := ne_of hp hd2 (by intro z; cases z)
      refine ⟨p, rfl, ⟨_, SqL.of hp⟩, for_list (K := K) (a := p) (xs := us.map V.ref) (fun j σ H3 => ∃ (v : Option V) (kvs3 : List (List Key × V)), σ = [some (.ref l), some (.ref d), some (.ref t), v] ∧ SameBut1 d H2 H3 ∧ H3 d = some (.dT kvs3) ∧ kvs3.length ≤ 16 * i + j ∧ KeyIs kvs3 fun y => (∃ z ∈ xs.take i, z ≠ y ∧ y ∈ facesL z) ∨ (x ≠ y ∧ y ∈ (facesL x).take j))
        ⟨v3, kvs, rfl, fun b o e _ => e, hd2, hlen, fun y => (ky y).trans ⟨.inl, fun z => z.elim id fun z => by rw [List.take_zero] at z; cases z.2⟩⟩ (fun j σ H3 _ ⟨_, _, _, sb, _⟩ => SqL.of (sb _ _ hp pd)) ?_ ?_⟩
      · rintro j y σ H3 hj ⟨v, kvs3, rfl, sb, hd3, len3, ky3⟩
        obtain ⟨u, hu', rfl⟩ := map_at hj
        obtain ⟨z, hz, hzt⟩ := paired_at up hu'
        have jl : j < (facesL x).length := (List.getElem?_eq_some_iff.mp hz).1
        have hzt3 : H3 u = some (.tup (simV z)) := sb _ _ hzt (ne_of hzt hd2 (by intro z; cases z))
        have hxt3 : H3 t = some (.tup (simV x)) := sb _ _ (s2 _ _ hxt') (ne_of (s2 _ _ hxt') hd2 (by intro z; cases z))
        refine ⟨_, rfl, _, rfl, simD z, simD x, dp_sim (SqT.of hzt3), dp_sim (SqT.of hxt3), shaped_sim z, shaped_sim x, _, rfl, ?_⟩
        rw [eqv_sim]
        refine ite_b (fun c => ?_) fun c => ?_
        · have ne : ¬ z = x := by simpa using c
          have hzt4 : H3 u = some (.tup ((simK z).map kV)) := by rw [simK_V]; exact hzt3
          refine ⟨_, rfl, _, rfl, d, _, rfl, DPut.t hd3 hzt4 (by rw [sizeLine_eq]; omega), some (.ref u), putK kvs3 (simK z) (V.bl true), rfl, fun b o e nb => ?_, upd_same, ?_, fun y => (keyIs_put ky3 y).trans ?_⟩
          · rw [upd_ne nb]
            exact sb b o e nb
          · have := putT_len kvs3 (simK z) (V.bl true)
            omega
          · rw [take_more hz]
            dsimp only
            rw [List.mem_append, List.mem_singleton]
            constructor
            · rintro ((h | ⟨h1, h2⟩) | h)
              · exact .inl h
              · exact .inr ⟨h1, .inl h2⟩
              · rw [h]
                exact .inr ⟨fun q => ne q.symm, .inr rfl⟩
            · rintro (h | ⟨h1, h2 | h2⟩)
              · exact .inl (.inl h)
              · exact .inl (.inr ⟨h1, h2⟩)
              · exact .inr h2
        · have eq : z = x := by simpa using c
          refine ⟨some (.ref u), kvs3, rfl, sb, hd3, by omega, fun y => (ky3 y).trans ?_⟩
          rw [take_more hz]
          dsimp only
          rw [List.mem_append, List.mem_singleton]
          constructor
          · rintro (h | ⟨h1, h2⟩)
            · exact .inl h
            · exact .inr ⟨h1, .inl h2⟩
          · rintro (h | ⟨h1, h2 | h2⟩)
            · exact .inl h
            · exact .inr ⟨h1, h2⟩
            · exact absurd (eq.symm.trans h2.symm) h1
      · rintro σ H3 ⟨v, kvs3, rfl, sb, hd3, len3, ky3⟩
        rw [List.length_map, ← paired_len up] at len3 ky3
        rw [List.take_length] at ky3
        refine ⟨some (.ref t), v, kvs3, rfl, fun b o e => sb b o (s2 _ _ (sm _ _ e)) (ne_of_none e nd), hd3, by omega, fun y => (ky3 y).trans ?_⟩
        rw [take_more hx]
        constructor
        · rintro (⟨z, h1, h2⟩ | h)
          · exact ⟨z, List.mem_append.mpr (.inl h1), h2⟩
          · exact ⟨x, List.mem_append.mpr (.inr (List.mem_singleton.mpr rfl)), h⟩
        · rintro ⟨z, h1, h2⟩
          rcases List.mem_append.mp h1 with q | q
          · exact .inl ⟨z, q, h2⟩
          · rw [List.mem_singleton.mp q] at h2
            exact .inr h2
    · rintro σ H' ⟨v2, v3, kvs, rfl, sm, hd, hlen, ky⟩
      rw [List.length_map, lenT, List.take_length] at ky
      dsimp only [tRet]
      refine tLc_of ?_
      refine ⟨_, rfl, l, rfl, ⟨_, sm.seq hl⟩, lc_fm (bs := xs) (us := ts) (fv := simV) (gv := simV) (fun x => !(valV kvs (simK x)).isSome) id (by omega) (sm.seq hl) (tups_same sm tp) (fun x u H2 xm hxu s2 R hR => ?_) (fun x u H2 xm _ hxu s2 R hR => ?_) fun H2 p us s2 np hp up => ?_⟩
      · have hk : H2 u = some (.tup ((simK x).map kV)) := by rw [simK_V]; exact hxu
        exact ⟨_, rfl, _, rfl, d, _, rfl, DGet.t (k := simK x) (s2 _ _ hd) hk, _, rfl, hR H2 (L2.Same.refl H2)⟩
      · exact ⟨_, rfl, hR H2 u (L2.Same.refl H2) hxu⟩
      · refine k H2 p us (sm.trans s2) (sm.free np) hp ?_
        rw [List.map_id] at up
        rw [tops_is ok (fun x => (valV kvs (simK x)).isSome) fun x _ => (ky x).trans ?_]
        · exact up
        · unfold othersFace
          constructor
          · rintro ⟨z, h1, h2, h3⟩
            exact ⟨z, h1, h2, mem_facesL.mp h3⟩
          · rintro ⟨z, h1, h2, h3⟩
            exact ⟨z, h1, h2, mem_facesL.mpr h3⟩
/-! ### partner_in -/
end
def spPartnerIn (K : PySem.W.Frag) : Sp := fun vs H Q _ => ∃ (l t : Addr) (ts : List Addr) (r : List Sim) (x : Sim), vs = [.ref l, .ref t] ∧ SqL K H l (ts.map V.ref) ∧ TupsAt H r ts ∧ H t = some (.tup (simV x)) ∧ x ∈ r ∧ r.Nodup ∧ r.length ≤ 60 ∧ RowOk r ∧ (∀ x ∈ r, x.length ≤ 4) ∧
  ∀ (H' : Hp) (p : Addr), L2.Same H H' → H p = none → H' p = some (.lst ((partnerAns r (Ho02.pairs r) (r.idxOf x)).map V.int)) → Q (.ref p) H'
theorem pairs_lt {r : List Sim} (R : RowOk r) : ∀ p ∈ Ho02.pairs r, p.1 < r.length ∧ p.2 < r.length := fun p hp => by
  rw [pairs_upto] at hp
  have q := (upto_ok R r.length (Nat.le_refl _)).lt p hp
  exact ⟨q.2, q.1⟩
section
variable {P : Program} {w : World} {K : PySem.W.Frag} {mg : Str → Option Value} {base : Heap}
theorem scPI : FnScope ["row", "simplex", "place", "pair"] ["row", "simplex"] (defScope sPartnerIn) := ⟨rfl, rfl, rfl, by decide +kernel, rfl, by decide +kernel, by decide +kernel⟩
theorem ok_partnerIn {f fP fL : Addr} {fd fdP fdL : FuncData} {tk0 tk1 tk2 : Tok} (F : Fun K "partner_in" "partner_in" sPartnerIn f fd) (T : Txt mg) (g0 : mg "NOTHING_FILLS_IT" = some (.int 0 tk0)) (g1 : mg "FILLED_BY" = some (.int 1 tk1)) (g2 : mg "FILLS_WHAT_IS_BORNE_BY" = some (.int 2 tk2))
    (GL : FnOk P w K mg base CX0 1 fL fdL ["row"] (spPlaces K)) (mL : mg "places_in" = some (.ref fL)) (kL : PySem.W.keepIn K (.ref fL) = true) (bL : Binds K fdL ["row"] [])
    (GP : FnOk P w K mg base CX0 3 fP fdP ["row"] (spPairs K)) (mP : mg "pairs_in" = some (.ref fP)) (kP : PySem.W.keepIn K (.ref fP) = true) (bP : Binds K fdP ["row"] []) :
    FnOk P w K mg base CX0 4 f fd ["row", "simplex"] (spPartnerIn K) := by
  refine F.ok scPI (fun vs H Q E h => ?_) (fun cdv A outer s H vs Q E hr h => ?_)
  · obtain ⟨l, t, ts, r, x, rfl, _⟩ := h
    rfl
  · obtain ⟨l, t, ts, r, x, rfl, hl, tp, ht, xr, nd, l60, R, l4, k⟩ := h
    have hu := hu_of hr
    have hr1 : Room 1 _ := hr.mono (by decide)
    have N := scPI.nd
    refine ⟨_, pss_cons (ps_set (i := 2) N rfl (Or.inl rfl) (pe_dget hu (pe_call GL hr1 rfl mL kL bL .nil pass0 (pa_cons (pv 0) pa_nil)) (pv 1) (fun _ _ => rfl)))
      (pss_cons (ps_for PassesOwn.never rfl (pi_list (pe_call GP hr rfl mP kP bP .nil pass0 (pa_cons (pv 0) pa_nil))) (pg_name (i := 3) N rfl (Or.inl rfl))
        (pss_cons (ps_if (pt_cmpR op_eq (pe_ix ix_tup (pv 3) pe_int (fun _ _ => rfl)) (pv 2) (nomark _))
          (pss_one (ps_ret (pe_op op_cat (pe_lst (pa_cons (pe_glob (v := .int 1) rfl g1 ⟨_, rfl⟩) pa_nil)) (pe_callTy call_list_of (by rfl) T.list (by decide +kernel) (pa_cons (pe_ix ix_list (pv 0) (pe_ix ix_tup (pv 3) pe_int (fun _ _ => rfl)) (fun _ _ => rfl)) pa_nil))))) pss_nil)
        (pss_one (ps_if (pt_cmpR op_eq (pe_ix ix_tup (pv 3) pe_int (fun _ _ => rfl)) (pv 2) (nomark _))
          (pss_one (ps_ret (pe_op op_cat (pe_lst (pa_cons (pe_glob (v := .int 2) rfl g2 ⟨_, rfl⟩) pa_nil)) (pe_callTy call_list_of (by rfl) T.list (by decide +kernel) (pa_cons (pe_ix ix_list (pv 0) (pe_ix ix_tup (pv 3) pe_int (fun _ _ => rfl)) (fun _ _ => rfl)) pa_nil))))) pss_nil))))
      (pss_one (ps_ret (pe_lst (pa_cons (pe_glob (v := .int 0) rfl g0 ⟨_, rfl⟩) pa_nil))))), ?_⟩
    have lenT : ts.length = r.length := (paired_len tp).symm
    refine ⟨_, rfl, l, ts, r, rfl, hl, tp, nd, l60, fun H1 d s1 ndd pl => ?_⟩
    obtain ⟨kvs, hd, val⟩ := pl.ex
    have hk : H1 t = some (.tup ((simK x).map kV)) := by rw [simK_V]; exact s1 _ _ ht
    refine ⟨_, rfl, d, _, rfl, by rw [← val x xr]; exact DGet.t (k := simK x) hd hk, ?_⟩
    refine ⟨_, rfl, l, ts, r, rfl, s1.seq hl, tups_same s1 tp, nd, l60, R, l4, fun H2 pp us s2 npp hpp tw => ?_⟩
    have s12 := s1.trans s2
    have done : ∀ (H3 : Hp) (n : Int) (j : Nat) (y : Sim), L2.Same H H3 → r[j]? = some y → y.length ≤ 4 → partnerAns r (Ho02.pairs r) (r.idxOf x) = n :: y.map ni → ∀ (q : Addr) (nq : H3 q = none) (u : Addr), H u = some (.tup (simV y)) → ∀ z, upd H3 q (.lst [.int n]) z = none →
        rCat (.ref q) (.ref z) (upd (upd H3 q (.lst [.int n])) z (.lst (simV y))) Q := fun H3 n j y s3 hj yl ea q nq u hu' z nz => by
      have sq := same_new (o := .lst [.int n]) nq
      have sz := same_new (o := .lst (simV y)) nz
      have lenY : (simV y).length = y.length := List.length_map _
      refine ⟨q, z, _, _, rfl, rfl, sz _ _ upd_same, upd_same, by rw [lenY, List.length_singleton, sizeLine_eq]; omega, fun p np => ?_⟩
      have sp := same_new (o := .lst ([.int n] ++ simV y)) np
      refine k _ p (((s3.trans sq).trans sz).trans sp) (((s3.trans sq).trans sz).free np) ?_
      rw [upd_same, ea, List.map_cons, nv_map]
      rfl
    refine ⟨pp, rfl, ⟨_, SqL.of hpp⟩, for_list (K := K) (a := pp) (xs := us.map V.ref)
      (fun i σ H' => ∃ (v : Option V), σ = [some (.ref l), some (.ref t), some (nv (r.idxOf x)), v] ∧ L2.Same H2 H' ∧ ∀ y ∈ (Ho02.pairs r).take i, (decide (y.1 = r.idxOf x) || decide (y.2 = r.idxOf x)) = false)
      ⟨none, rfl, L2.Same.refl _, fun y hy => by rw [List.take_zero] at hy; cases hy⟩ (fun i σ H' _ ⟨_, _, sm, _⟩ => SqL.of (sm _ _ hpp)) ?_ ?_⟩
    · rintro i y σ H' hi ⟨v, rfl, sm, no⟩
      obtain ⟨u, hu', rfl⟩ := map_at hi
      obtain ⟨p, hp, hpt⟩ := paired_at tw hu'
      have pm := List.mem_of_getElem? hp
      have hpt' := sm _ _ hpt
      have pl2 := pairs_lt R p pm
      have found : (decide (p.1 = r.idxOf x) || decide (p.2 = r.idxOf x)) = true → (Ho02.pairs r).find? (fun (y : Nat × Nat) => decide (y.1 = r.idxOf x) || decide (y.2 = r.idxOf x)) = some p := fun c => by
        have e : Ho02.pairs r = (Ho02.pairs r).take i ++ p :: (Ho02.pairs r).drop (i + 1) := by
          have q := (List.take_append_drop (i + 1) (Ho02.pairs r)).symm
          rw [take_more hp, List.append_assoc] at q
          exact q
        rw [e, List.find?_append, List.find?_eq_none.mpr (fun y hy => by rw [no y hy]; exact Bool.false_ne_true), Option.none_or, List.find?_cons, c]
      refine ⟨_, rfl, u, _, _, _, rfl, rfl, SqT.of hpt', at_of (j := 0) rfl rfl, _, rfl, rfl, _, rfl, ite_b (fun c1 => ?_) fun c1 => ?_⟩
      · have e1 : p.1 = r.idxOf x := by
          simp at c1
          omega
        have hj : r[p.2]? = some r[p.2] := List.getElem?_eq_getElem pl2.2
        obtain ⟨u2, hu2, hut2⟩ := paired_at' tp hj
        have ea : partnerAns r (Ho02.pairs r) (r.idxOf x) = 1 :: r[p.2].map ni := by
          unfold partnerAns
          rw [found (by simp [e1])]
          simp only [e1, if_true]
          rw [simAt_row hj]
          rfl
        refine ⟨by show 1 ≤ sizeLine; decide, fun q nq => ?_⟩
        have sq := same_new (o := .lst [.int 1]) nq
        refine ⟨_, rfl, _, rfl, u, _, _, _, rfl, rfl, SqT.of (sq _ _ hpt'), at_of (j := 1) rfl rfl, l, _, _, _, rfl, rfl, ((s12.trans sm).trans sq).seq hl, at_of (j := p.2) rfl (by rw [List.getElem?_map, hu2]; rfl), ?_⟩
        refine ⟨u2, simV r[p.2], rfl, .inr (SqT.of (((s12.trans sm).trans sq) _ _ hut2)), fun z nz => ?_⟩
        exact done H' 1 p.2 _ (s12.trans sm) hj (l4 _ (List.getElem_mem _)) ea q nq u2 hut2 z nz
      · refine ⟨_, rfl, u, _, _, _, rfl, rfl, SqT.of hpt', at_of (j := 1) rfl rfl, _, rfl, rfl, _, rfl, ite_b (fun c2 => ?_) fun c2 => ?_⟩
        · have e1 : ¬ p.1 = r.idxOf x := by
            simp at c1
            omega
          have e2 : p.2 = r.idxOf x := by
            simp at c2
            omega
          have hj : r[p.1]? = some r[p.1] := List.getElem?_eq_getElem pl2.1
          obtain ⟨u2, hu2, hut2⟩ := paired_at' tp hj
          have ea : partnerAns r (Ho02.pairs r) (r.idxOf x) = 2 :: r[p.1].map ni := by
            unfold partnerAns
            rw [found (by simp [e2])]
            dsimp only
            rw [if_neg e1, simAt_row hj]
            rfl
          refine ⟨by show 1 ≤ sizeLine; decide, fun q nq => ?_⟩
          have sq := same_new (o := .lst [.int 2]) nq
          refine ⟨_, rfl, _, rfl, u, _, _, _, rfl, rfl, SqT.of (sq _ _ hpt'), at_of (j := 0) rfl rfl, l, _, _, _, rfl, rfl, ((s12.trans sm).trans sq).seq hl, at_of (j := p.1) rfl (by rw [List.getElem?_map, hu2]; rfl), ?_⟩
          refine ⟨u2, simV r[p.1], rfl, .inr (SqT.of (((s12.trans sm).trans sq) _ _ hut2)), fun z nz => ?_⟩
          exact done H' 2 p.1 _ (s12.trans sm) hj (l4 _ (List.getElem_mem _)) ea q nq u2 hut2 z nz
        · refine ⟨some (.ref u), rfl, sm, fun y hy => ?_⟩
          rw [take_more hp] at hy
          rcases List.mem_append.mp hy with q | q
          · exact no y q
          · rw [List.mem_singleton.mp q]
            simp at c1 c2
            simp
            omega
    · rintro σ H' ⟨v, rfl, sm, no⟩
      rw [List.length_map, ← paired_len tw, List.take_length] at no
      have ea : partnerAns r (Ho02.pairs r) (r.idxOf x) = [0] := by
        unfold partnerAns
        rw [List.find?_eq_none.mpr fun y hy => by rw [no y hy]; exact Bool.false_ne_true]
      refine ⟨by show 1 ≤ sizeLine; decide, fun q nq => ?_⟩
      have sq := same_new (o := .lst [.int 0]) nq
      refine k _ q ((s12.trans sm).trans sq) ((s12.trans sm).free nq) ?_
      rw [ea]
      exact upd_same
/-! ### counted -/
end
def spCounted (K : PySem.W.Frag) : Sp := fun vs H Q _ => ∃ (a : Addr) (pre xs rest : List Int), vs = [.ref a, nv pre.length] ∧ SqL K H a ((pre ++ (PyFlat.putRow xs ++ rest)).map V.int) ∧
  ∀ (H' : Hp) (p : Addr), L2.Same H H' → H p = none → H' p = some (.lst (xs.map V.int)) → Q (.ref p) H'
section
variable {P : Program} {w : World} {K : PySem.W.Frag} {mg : Str → Option Value} {base : Heap}
theorem scCO : FnScope ["calls", "start"] ["calls", "start"] (defScope sCounted) := ⟨rfl, rfl, rfl, by decide +kernel, rfl, by decide +kernel, by decide +kernel⟩
theorem ok_counted {f : Addr} {fd : FuncData} (F : Fun K "counted" "counted" sCounted f fd) : FnOk P w K mg base CX0 1 f fd ["calls", "start"] (spCounted K) := by
  refine F.ok scCO (fun vs H Q E h => ?_) (fun cdv A outer s H vs Q E hr h => ?_)
  · obtain ⟨a, pre, xs, rest, rfl, _⟩ := h
    rfl
  · obtain ⟨a, pre, xs, rest, rfl, ha, k⟩ := h
    refine ⟨_, pss_one (ps_ret (pe_slice sl_list (pv 0) (po_some (pe_op op_add (pv 1) pe_int)) (po_some (pe_op op_add (pe_op op_add (pv 1) pe_int) (pe_ix ix_list (pv 0) (pv 1) (fun _ _ => rfl)))))), ?_⟩
    have at0 : ((pre ++ (PyFlat.putRow xs ++ rest)).map V.int)[pre.length]? = some (V.int (xs.length : Int)) := by
      rw [List.getElem?_map, List.getElem?_append_right (Nat.le_refl _), Nat.sub_self]
      rfl
    refine ⟨_, rfl, _, rfl, _, _, rfl, rfl, _, rfl, _, rfl, _, _, rfl, rfl, _, rfl, _, rfl, a, _, _, _, rfl, rfl, ha, at_of (j := pre.length) rfl at0, _, _, rfl, rfl, _, rfl, a, _, rfl, ha, fun p np => ?_⟩
    have ec : cutV ((pre ++ (PyFlat.putRow xs ++ rest)).map V.int) (some ((pre.length : Int) + 1)) (some ((pre.length : Int) + 1 + (xs.length : Int))) = xs.map V.int := by
      unfold cutV
      rw [show (pre.length : Int) + 1 + (xs.length : Int) = ((pre.length + 1 + xs.length : Nat) : Int) by omega, show (pre.length : Int) + 1 = ((pre.length + 1 : Nat) : Int) by omega, HT.sIx_nat, HT.sIx_nat]
      have lenA : ((pre ++ (PyFlat.putRow xs ++ rest)).map V.int).length = pre.length + (1 + xs.length + rest.length) := by
        rw [List.length_map, List.length_append, List.length_append]
        show pre.length + (xs.length + 1 + rest.length) = _
        omega
      rw [lenA, Nat.min_eq_left (by omega), Nat.min_eq_left (by omega), List.map_append, List.drop_append]
      have e1 : (pre.map V.int).drop (pre.length + 1) = [] := List.drop_of_length_le (by rw [List.length_map]; omega)
      rw [e1, List.length_map, List.nil_append, show pre.length + 1 - pre.length = 1 by omega, show pre.length + 1 + xs.length - (pre.length + 1) = xs.length by omega]
      show ((xs ++ rest).map V.int).take xs.length = _
      rw [List.map_append, List.take_append_of_le_length (by rw [List.length_map]; omega)]
      exact List.take_of_length_le (by rw [List.length_map]; omega)
    have sp := same_new (o := .lst (xs.map V.int)) np
    rw [ec]
    exact k _ p sp np upd_same
end
end Fl

set_option Elab.async false
set_option maxRecDepth 100000
set_option maxHeartbeats 4000000
/-! FlR1: the object, current_row, current_bars; the methods that only read: row_of, pairs, bars, at, lasting. -/
namespace Fl
open PySem PySem.Spec PyProof.Rows L2 LamX
open HoBase (Sim before face)
open Ho02 (Bar)
/-! ### defs and methods, as callers know them -/
structure Df (P : Program) (w : World) (K : PySem.W.Frag) (mg : Str → Option Value) (base : Heap) (k : Nat) (x : Str) (ps : List Str) (sp : Sp) : Prop where
  ex : ∃ (f : Addr) (fd : FuncData), FnOk P w K mg base CX0 k f fd ps sp ∧ mg x = some (.ref f) ∧ PySem.W.keepIn K (.ref f) = true ∧ Binds K fd ps []
structure Md (P : Program) (w : World) (K : PySem.W.Frag) (mg : Str → Option Value) (base : Heap) (C : Addr) (k : Nat) (x : Str) (ps : List Str) (sp : Sp) : Prop where
  ex : ∃ (f : Addr) (fd : FuncData), FnOk P w K mg base CX0 k f fd ps sp ∧ Meth K C x f ∧ Binds K fd ps []
structure TxtC (K : PySem.W.Frag) (C : Addr) : Prop where
  cl : Cls K C
  nS : NoAttr K C "simplices"
  nH : NoAttr K C "heights"
/-! ### the object -/
abbrev fF (sl hl : Addr) : List (Str × V) := [("simplices", .ref sl), ("heights", .ref hl)]
structure FSat (C : Addr) (H : Hp) (o : Addr) (st : Ho02.State) (no : Addr) : Prop where
  ex : ∃ (dx sl hl : Addr) (ts : List Addr), H o = some (.ins C dx (fF sl hl)) ∧ H sl = some (.lst (ts.map V.ref)) ∧ TupsAt H st.shape ts ∧ H hl = some (.lst (st.heights.map nv)) ∧ sl ≠ no ∧ hl ≠ no
  ok : CxOk st.shape
  len : st.heights.length = 10
theorem tups_ext {H H' : Hp} (s : ExtN H H') {xs : List Sim} {ts : List Addr} (p : TupsAt H xs ts) : TupsAt H' xs ts := L2.Paired.mapP p fun _ _ h => s _ _ h fun _ z => by cases z
theorem FSat.ext {C : Addr} {H H' : Hp} {o no : Addr} {st : Ho02.State} (x : ExtN H H') (F : FSat C H o st no) : FSat C H' o st no := by
  obtain ⟨dx, sl, hl, ts, h1, h2, h3, h4, h5, h6⟩ := F.ex
  exact ⟨⟨dx, sl, hl, ts, x _ _ h1 (fun _ z => by cases z), x _ _ h2 (fun _ z => by cases z), tups_ext x h3, x _ _ h4 (fun _ z => by cases z), h5, h6⟩, F.ok, F.len⟩
theorem lk_here {k : Str} {v : V} {r : List (Str × V)} : List.lookup k ((k, v) :: r) = some v := by
  have e : (k == k) = true := beq_self_eq_true k
  simp only [List.lookup, e]
theorem lk_past {k g : Str} {v : V} {r : List (Str × V)} (h : (k == g) = false) : List.lookup k ((g, v) :: r) = List.lookup k r := by
  simp only [List.lookup, h]
theorem fF_s (sl hl : Addr) : (fF sl hl).lookup ("simplices" : Str) = some (.ref sl) := lk_here
theorem fF_h (sl hl : Addr) : (fF sl hl).lookup ("heights" : Str) = some (.ref hl) := (lk_past (by decide +kernel)).trans lk_here
theorem fF_no {m : Str} (sl hl : Addr) (h1 : (m == ("simplices" : Str)) = false) (h2 : (m == ("heights" : Str)) = false) : (fF sl hl).lookup m = none := (lk_past h1).trans ((lk_past h2).trans rfl)
/-- all but o stands, tables aside -/
def ExtO (o : Addr) (H H' : Hp) : Prop := ∀ b u, H b = some u → (∀ ps, u ≠ .tbl ps) → b ≠ o → H' b = some u
/-- what a method leaves -/
def Ans (C : Addr) (T : List (Addr × Str)) (H : Hp) (Q : VK) (o no : Addr) (st : Ho02.State) (c : Ho02.Call) : Prop :=
  ∀ (H' : Hp) (p : Addr), ExtO o H H' → Tabs T H' → NewN H p → H' p = some (.lst ((Ho02.step st c).2.map V.int)) → FSat C H' o (Ho02.step st c).1 no → Q (.ref p) H'
theorem Ans.ro {C : Addr} {T : List (Addr × Str)} {H : Hp} {Q : VK} {o no : Addr} {st : Ho02.State} {c : Ho02.Call} (h : Ans C T H Q o no st c) (F : FSat C H o st no) {ans : List Int} (e : Ho02.step st c = (st, ans)) {H' : Hp} {p : Addr} (x : ExtN H H') (t : Tabs T H') (n : NewN H p) (hp : H' p = some (.lst (ans.map V.int))) : Q (.ref p) H' := by
  unfold Ans at h
  rw [e] at h
  exact h H' p (fun b u q n _ => x b u q n) t n hp (F.ext x)
theorem simOk10 {st : Ho02.State} {C o no : Addr} {H : Hp} (F : FSat C H o st no) : ∀ x ∈ st.shape, SimOk st.heights.length x := fun x hx => by
  have S := F.ok.ok x hx
  exact ⟨S.ne, S.l4, by rw [F.len]; exact S.lt⟩
abbrev rowOf (st : Ho02.State) : List Sim := Ho02.row st.shape st.heights
structure RowIs (r : List Sim) : Prop where
  nd : r.Nodup
  l60 : r.length ≤ 60
  R : RowOk r
  l4 : ∀ x ∈ r, x.length ≤ 4
theorem rowIs {st : Ho02.State} {C o no : Addr} {H : Hp} (F : FSat C H o st no) : RowIs (rowOf st) :=
  ⟨row_nodup _ (pw_nodup F.ok.pw), by rw [row_len]; exact F.ok.len, rowOk F.ok _, fun x hx => (F.ok.ok x (mem_row.mp hx)).l4⟩
theorem bars_len {st : Ho02.State} {C o no : Addr} {H : Hp} (F : FSat C H o st no) : (Ho02.bars st.shape st.heights).length ≤ 60 := by
  rw [bars_are]
  unfold barsOf
  have h1 := List.length_filterMap_le (barAt (Ho02.row st.shape st.heights) (Ho02.pairs (Ho02.row st.shape st.heights)) st.heights) (List.range (Ho02.row st.shape st.heights).length)
  rw [List.length_range] at h1
  have h2 := row_len st.shape st.heights
  have := F.ok.len
  omega
def spCurRow (C : Addr) (T : List (Addr × Str)) : Sp := fun vs H Q _ => ∃ (o no : Addr) (st : Ho02.State), vs = [.ref o] ∧ FSat C H o st no ∧ Tabs T H ∧
  ∀ (H' : Hp) (p : Addr) (us : List Addr), ExtN H H' → Tabs T H' → NewN H p → H' p = some (.lst (us.map V.ref)) → TupsAt H' (rowOf st) us → Q (.ref p) H'
def spCurBars (C : Addr) (T : List (Addr × Str)) : Sp := fun vs H Q _ => ∃ (o no : Addr) (st : Ho02.State), vs = [.ref o] ∧ FSat C H o st no ∧ Tabs T H ∧
  ∀ (H' : Hp) (p : Addr) (us : List Addr), ExtN H H' → Tabs T H' → NewN H p → H' p = some (.lst (us.map V.ref)) → BarsAt H' (Ho02.bars st.shape st.heights) us → Q (.ref p) H'
section
variable {P : Program} {w : World} {K : PySem.W.Frag} {mg : Str → Option Value} {base : Heap} {C : Addr} {TB : List (Addr × Str)}
theorem scCR : FnScope ["self"] ["self"] (defScope sCurRow) := ⟨rfl, rfl, rfl, by decide +kernel, rfl, by decide +kernel, by decide +kernel⟩
theorem ok_curRow {f : Addr} {fd : FuncData} (F : Fun K "current_row" "FloodedShape.current_row" sCurRow f fd) (TC : TxtC K C) (DR : Df P w K mg base 5 "row_by_heights" ["simplices", "heights"] (spRowBy K TB)) : FnOk P w K mg base CX0 6 f fd ["self"] (spCurRow C TB) := by
  obtain ⟨fR, fdR, GR, mR, kR, bR⟩ := DR.ex
  refine F.ok scCR (fun vs H Q E h => ?_) (fun cdv A outer s H vs Q E hr h => ?_)
  · obtain ⟨o, no, st, rfl, _⟩ := h
    rfl
  · obtain ⟨o, no, st, rfl, FS, hT, k⟩ := h
    obtain ⟨dx, sl, hl, ts, h1, h2, h3, h4, _, _⟩ := FS.ex
    refine ⟨_, pss_one (ps_ret (pe_call GR hr rfl mR kR bR .nil pass0 (pa_cons (pe_fld (pv 0) rfl) (pa_cons (pe_fld (pv 0) rfl) pa_nil)))), ?_⟩
    refine ⟨_, rfl, o, C, dx, _, _, rfl, h1, TC.cl, TC.nS, fF_s sl hl, _, rfl, o, C, dx, _, _, rfl, h1, TC.cl, TC.nH, fF_h sl hl, ?_⟩
    exact ⟨sl, hl, ts, st.shape, st.heights, rfl, SqL.of h2, h3, SqL.of h4, FS.ok.pw, simOk10 FS, hT, k⟩
theorem scCB : FnScope ["self"] ["self"] (defScope sCurBars) := ⟨rfl, rfl, rfl, by decide +kernel, rfl, by decide +kernel, by decide +kernel⟩
theorem ok_curBars {f : Addr} {fd : FuncData} (F : Fun K "current_bars" "FloodedShape.current_bars" sCurBars f fd) (TC : TxtC K C) (MR : Md P w K mg base C 6 "current_row" ["self"] (spCurRow C TB)) (DB : Df P w K mg base 4 "bars_in" ["row", "heights"] (spBars K)) :
    FnOk P w K mg base CX0 7 f fd ["self"] (spCurBars C TB) := by
  obtain ⟨fR, fdR, GR, mR, bR⟩ := MR.ex
  obtain ⟨fB, fdB, GB, mB, kB, bB⟩ := DB.ex
  refine F.ok scCB (fun vs H Q E h => ?_) (fun cdv A outer s H vs Q E hr h => ?_)
  · obtain ⟨o, no, st, rfl, _⟩ := h
    rfl
  · obtain ⟨o, no, st, rfl, FS, hT, k⟩ := h
    obtain ⟨dx, sl, hl, ts, h1, h2, h3, h4, _, _⟩ := FS.ex
    have hr4 : Room 4 _ := hr.mono (by decide)
    refine ⟨_, pss_one (ps_ret (pe_call GB hr4 rfl mB kB bB .nil pass0 (pa_cons (pe_meth0 (pv 0) TC.cl mR GR hr bR .nil pass0) (pa_cons (pe_fld (pv 0) rfl) pa_nil)))), ?_⟩
    refine ⟨_, rfl, o, dx, _, rfl, h1, fF_no sl hl (by decide +kernel) (by decide +kernel), o, no, st, rfl, FS, hT, fun H1 p us x1 t1 np hp tp => ?_⟩
    refine ⟨_, rfl, o, C, dx, _, _, rfl, x1 _ _ h1 (fun _ z => by cases z), TC.cl, TC.nH, fF_h sl hl, ?_⟩
    have RI := rowIs FS
    refine ⟨p, hl, us, rowOf st, st.heights, rfl, SqL.of hp, tp, SqL.of (x1 _ _ h4 (fun _ z => by cases z)), RI.nd, RI.l60, RI.R, fun x hx => simOk10 FS x (mem_row.mp hx), fun H2 q vs s2 nq hq ba => ?_⟩
    exact k H2 q vs (x1.trans (same_extN s2)) (t1.ext s2) (newN_of x1 nq) hq ba
/-! ### row_of, pairs -/
end
theorem paired_into {α β γ : Type} {F : γ → β → Prop} (g : α → γ) : ∀ {l : List α} {m : List β}, Paired (fun a b => F (g a) b) l m → Paired F (l.map g) m
  | _, _, .nil => .nil
  | _, _, .cons h t => .cons h (paired_into g t)
def spRowOf (C : Addr) (T : List (Addr × Str)) : Sp := fun vs H Q _ => ∃ (o no : Addr) (st : Ho02.State), vs = [.ref o] ∧ FSat C H o st no ∧ Tabs T H ∧ Ans C T H Q o no st .row
def spPairsM (C : Addr) (T : List (Addr × Str)) : Sp := fun vs H Q _ => ∃ (o no : Addr) (st : Ho02.State), vs = [.ref o] ∧ FSat C H o st no ∧ Tabs T H ∧ Ans C T H Q o no st .pairs
def spBarsM (C : Addr) (T : List (Addr × Str)) : Sp := fun vs H Q _ => ∃ (o no : Addr) (st : Ho02.State) (d : Nat), vs = [.ref o, nv d] ∧ FSat C H o st no ∧ Tabs T H ∧ Ans C T H Q o no st (.bars d)
def spAt (C : Addr) (T : List (Addr × Str)) : Sp := fun vs H Q _ => ∃ (o no : Addr) (st : Ho02.State) (t : Nat), vs = [.ref o, nv t] ∧ FSat C H o st no ∧ Tabs T H ∧ Ans C T H Q o no st (.at_ t)
def spLasting (C : Addr) (T : List (Addr × Str)) : Sp := fun vs H Q _ => ∃ (o no : Addr) (st : Ho02.State) (a b : Nat), vs = [.ref o, nv a, nv b] ∧ FSat C H o st no ∧ Tabs T H ∧ Ans C T H Q o no st (.lasting a b)
def twoI (p : Nat × Nat) : Int × Int := ((p.1 : Int), (p.2 : Int))
theorem pairs_len {r : List Sim} (R : RowIs r) : (Ho02.pairs r).length ≤ 60 := by
  have q := up_len R.R (i := r.length) (Nat.le_refl _)
  rw [← pairs_upto] at q
  have := R.l60
  omega
def endI : Option Nat → Int
  | none => -1
  | some e => (e : Int)
theorem endV_is (e : Option Nat) : endV e = .int (endI e) := by cases e <;> rfl
def barI (b : Bar) : Int × Int := ((b.from_ : Int), endI b.to_)
theorem toldBar_is (b : Bar) : Ho02.toldBar b = [(barI b).1, (barI b).2] := by
  obtain ⟨d, f, e⟩ := b
  cases e <;> rfl
section
variable {P : Program} {w : World} {K : PySem.W.Frag} {mg : Str → Option Value} {base : Heap} {C : Addr} {TB : List (Addr × Str)}
theorem scRO : FnScope ["self"] ["self"] (defScope mRowOf) := ⟨rfl, rfl, rfl, by decide +kernel, rfl, by decide +kernel, by decide +kernel⟩
theorem ok_rowOf {f : Addr} {fd : FuncData} (F : Fun K "row_of" "FloodedShape.row_of" mRowOf f fd) (TC : TxtC K C) (MR : Md P w K mg base C 6 "current_row" ["self"] (spCurRow C TB)) (DT : Df P w K mg base 1 "told_simplices" ["simplices"] (spToldS K)) :
    FnOk P w K mg base CX0 8 f fd ["self"] (spRowOf C TB) := by
  obtain ⟨fR, fdR, GR, mR, bR⟩ := MR.ex
  obtain ⟨fT, fdT, GT, mT, kT, bT⟩ := DT.ex
  refine F.ok scRO (fun vs H Q E h => ?_) (fun cdv A outer s H vs Q E hr h => ?_)
  · obtain ⟨o, no, st, rfl, _⟩ := h
    rfl
  · obtain ⟨o, no, st, rfl, FS, hT, k⟩ := h
    obtain ⟨dx, sl, hl, ts, h1, h2, h3, h4, _, _⟩ := FS.ex
    have hr1 : Room 1 _ := hr.mono (by decide)
    have hr6 : Room 6 _ := hr.mono (by decide)
    refine ⟨_, pss_one (ps_ret (pe_call GT hr1 rfl mT kT bT .nil pass0 (pa_cons (pe_meth0 (pv 0) TC.cl mR GR hr6 bR .nil pass0) pa_nil))), ?_⟩
    refine ⟨_, rfl, o, dx, _, rfl, h1, fF_no sl hl (by decide +kernel) (by decide +kernel), o, no, st, rfl, FS, hT, fun H1 p us x1 t1 np hp tp => ?_⟩
    have RI := rowIs FS
    exact ⟨p, us, rowOf st, rfl, SqL.of hp, L2.Paired.mapP tp fun _ _ h => SqT.of h, RI.l60, RI.l4, fun H2 q s2 nq hq => k.ro FS (ans := simsTold (rowOf st)) rfl (x1.trans (same_extN s2)) (t1.ext s2) (newN_of x1 nq) hq⟩
theorem scPM : FnScope ["self"] ["self"] (defScope mPairs) := ⟨rfl, rfl, rfl, by decide +kernel, rfl, by decide +kernel, by decide +kernel⟩
theorem ok_pairsM {f : Addr} {fd : FuncData} (F : Fun K "pairs" "FloodedShape.pairs" mPairs f fd) (TC : TxtC K C) (MR : Md P w K mg base C 6 "current_row" ["self"] (spCurRow C TB)) (DP : Df P w K mg base 3 "pairs_in" ["row"] (spPairs K)) (DT : Df P w K mg base 1 "told_twos" ["twos"] (spTold2 K)) :
    FnOk P w K mg base CX0 8 f fd ["self"] (spPairsM C TB) := by
  obtain ⟨fR, fdR, GR, mR, bR⟩ := MR.ex
  obtain ⟨fP, fdP, GP, mP, kP, bP⟩ := DP.ex
  obtain ⟨fT, fdT, GT, mT, kT, bT⟩ := DT.ex
  refine F.ok scPM (fun vs H Q E h => ?_) (fun cdv A outer s H vs Q E hr h => ?_)
  · obtain ⟨o, no, st, rfl, _⟩ := h
    rfl
  · obtain ⟨o, no, st, rfl, FS, hT, k⟩ := h
    obtain ⟨dx, sl, hl, ts, h1, h2, h3, h4, _, _⟩ := FS.ex
    have hr1 : Room 1 _ := hr.mono (by decide)
    have hr3 : Room 3 _ := hr.mono (by decide)
    have hr6 : Room 6 _ := hr.mono (by decide)
    refine ⟨_, pss_one (ps_ret (pe_call GT hr1 rfl mT kT bT .nil pass0 (pa_cons (pe_call GP hr3 rfl mP kP bP .nil pass0 (pa_cons (pe_meth0 (pv 0) TC.cl mR GR hr6 bR .nil pass0) pa_nil)) pa_nil))), ?_⟩
    refine ⟨_, rfl, o, dx, _, rfl, h1, fF_no sl hl (by decide +kernel) (by decide +kernel), o, no, st, rfl, FS, hT, fun H1 p us x1 t1 np hp tp => ?_⟩
    have RI := rowIs FS
    refine ⟨p, us, rowOf st, rfl, SqL.of hp, tp, RI.nd, RI.l60, RI.R, RI.l4, fun H2 q vs s2 nq hq tw => ?_⟩
    have pl := pairs_len RI
    refine ⟨q, vs, (Ho02.pairs (rowOf st)).map twoI, rfl, SqL.of hq, paired_into twoI tw, by rw [List.length_map]; exact pl, fun H3 z s3 nz hz => ?_⟩
    refine k.ro FS (ans := twosTold id ((Ho02.pairs (rowOf st)).map twoI)) ?_ (x1.trans (same_extN (s2.trans s3))) (t1.ext (s2.trans s3)) (newN_of (x1.trans (same_extN s2)) nz) hz
    show (st, _) = (st, _)
    unfold twosTold
    rw [List.length_map, List.flatMap_map]
    rfl
theorem scBM : FnScope ["self", "dimension", "bar"] ["self", "dimension"] (defScope mBars) := ⟨rfl, rfl, rfl, by decide +kernel, rfl, by decide +kernel, by decide +kernel⟩
theorem ok_barsM {f : Addr} {fd : FuncData} (F : Fun K "bars" "FloodedShape.bars" mBars f fd) (TC : TxtC K C) (MB : Md P w K mg base C 7 "current_bars" ["self"] (spCurBars C TB)) (DT : Df P w K mg base 1 "told_twos" ["twos"] (spTold2 K)) :
    FnOk P w K mg base CX0 8 f fd ["self", "dimension"] (spBarsM C TB) := by
  obtain ⟨fB, fdB, GB, mB, bB⟩ := MB.ex
  obtain ⟨fT, fdT, GT, mT, kT, bT⟩ := DT.ex
  refine F.ok scBM (fun vs H Q E h => ?_) (fun cdv A outer s H vs Q E hr h => ?_)
  · obtain ⟨o, no, st, d, rfl, _⟩ := h
    rfl
  · obtain ⟨o, no, st, d, rfl, FS, hT, k⟩ := h
    obtain ⟨dx, sl, hl, ts, h1, h2, h3, h4, _, _⟩ := FS.ex
    have hr1 : Room 1 _ := hr.mono (by decide)
    refine ⟨_, pss_one (ps_ret (pe_call GT hr1 rfl mT kT bT .nil pass0 (pa_cons
      (pe_lc (te := tTup (tCons (tOp (rIxT K) (tVar 2) (tC (.int 1))) (tCons (tOp (rIxT K) (tVar 2) (tC (.int 2))) tNil))) (own := [("bar", 2)]) (g := gName 2) (tt := tTest (tOp (rEq) (tOp (rIxT K) (tVar 2) (tC (.int 0))) (tVar 1))) rfl scBM.nd (pi_list (pe_meth0 (pv 0) TC.cl mB GB hr bB .nil pass0)) (blkOk_by (own := [("bar", 2)]) (N := ["self", "dimension", "bar"]) (sc := defScope mBars) (by decide +kernel)) (fun _ _ _ _ _ => pg_name (i := 2) scBM.nd rfl (Or.inl rfl))
        (fun _ _ _ _ _ => pts_one (pt_cmpR op_eq (pe_ix ix_tup (pv 2) pe_int (fun _ _ => rfl)) (pv 1) (nomark _))) (fun _ _ _ _ _ => pe_tup (pa_cons (pe_ix ix_tup (pv 2) pe_int (fun _ _ => rfl)) (pa_cons (pe_ix ix_tup (pv 2) pe_int (fun _ _ => rfl)) pa_nil)))) pa_nil))), ?_⟩
    dsimp only [tRet, tCall, tCons, tNil]
    refine tLc_of ?_
    refine ⟨_, rfl, o, dx, _, rfl, h1, fF_no sl hl (by decide +kernel) (by decide +kernel), o, no, st, rfl, FS, hT, fun H1 p us x1 t1 np hp ba => ?_⟩
    have bl := bars_len FS
    have lenU : us.length = (Ho02.bars st.shape st.heights).length := (paired_len ba).symm
    refine ⟨p, rfl, ⟨_, SqL.of hp⟩, lc_fm (bs := Ho02.bars st.shape st.heights) (us := us) (fv := barV) (gv := fun (q : Int × Int) => [V.int q.1, V.int q.2]) (fun b => decide (b.dim = d)) barI (by omega) (SqL.of hp) ba (fun b u H2 bm hb s2 R hR => ?_) (fun b u H2 bm _ hb s2 R hR => ?_) fun H2 q vs s2 nq hq pr => ?_⟩
    · refine ⟨_, rfl, u, _, _, _, rfl, rfl, SqT.of hb, at_of (j := 0) rfl rfl, _, rfl, rfl, _, rfl, ?_⟩
      have e : decide (nv b.dim = nv d) = decide (b.dim = d) := by
        rw [decide_eq_decide]
        constructor
        · intro z
          have := V.int.inj z
          omega
        · intro z
          rw [z]
      show R (decide (nv b.dim = nv d)) H2
      rw [e]
      exact hR H2 (L2.Same.refl H2)
    · refine ⟨_, rfl, u, _, _, _, rfl, rfl, SqT.of hb, at_of (j := 1) rfl rfl, _, rfl, u, _, _, _, rfl, rfl, SqT.of hb, at_of (j := 2) rfl rfl, by show 2 ≤ sizeLine; decide, fun t nt => ?_⟩
      refine hR _ t (same_new nt) ?_
      show upd H2 t (.tup [nv b.from_, endV b.to_]) t = _
      rw [upd_same, endV_is]
      rfl
    · have fl : ((Ho02.bars st.shape st.heights).filter fun b => decide (b.dim = d)).length ≤ 60 := Nat.le_trans (List.length_filter_le _ _) bl
      refine ⟨q, vs, _, rfl, SqL.of hq, pr, by rw [List.length_map]; exact fl, fun H3 z s3 nz hz => ?_⟩
      refine k.ro FS (ans := twosTold id (((Ho02.bars st.shape st.heights).filter fun b => decide (b.dim = d)).map barI)) ?_ (x1.trans (same_extN (s2.trans s3))) (t1.ext (s2.trans s3)) (newN_of (x1.trans (same_extN s2)) nz) hz
      show (st, _) = (st, _)
      unfold twosTold
      rw [List.length_map, List.flatMap_map]
      congr 2
/-! ### at, lasting -/
theorem scAT : FnScope ["self", "height", "bar"] ["self", "height"] (defScope mAt) := ⟨rfl, rfl, rfl, by decide +kernel, rfl, by decide +kernel, by decide +kernel⟩
theorem ok_at {f : Addr} {fd : FuncData} (F : Fun K "at" "FloodedShape.at" mAt f fd) (TC : TxtC K C) (MB : Md P w K mg base C 7 "current_bars" ["self"] (spCurBars C TB)) (DI : Df P w K mg base 1 "is_bar_there" ["bar", "height"] (spIsThere K)) (DT : Df P w K mg base 1 "told_by_dimension" ["bars"] (spToldD K)) :
    FnOk P w K mg base CX0 8 f fd ["self", "height"] (spAt C TB) := by
  obtain ⟨fB, fdB, GB, mB, bB⟩ := MB.ex
  obtain ⟨fI, fdI, GI, mI, kI, bI⟩ := DI.ex
  obtain ⟨fT, fdT, GT, mT, kT, bT⟩ := DT.ex
  refine F.ok scAT (fun vs H Q E h => ?_) (fun cdv A outer s H vs Q E hr h => ?_)
  · obtain ⟨o, no, st, d, rfl, _⟩ := h
    rfl
  · obtain ⟨o, no, st, t, rfl, FS, hT, k⟩ := h
    obtain ⟨dx, sl, hl, ts, h1, h2, h3, h4, _, _⟩ := FS.ex
    have hr1 : Room 1 _ := hr.mono (by decide)
    refine ⟨_, pss_one (ps_ret (pe_call GT hr1 rfl mT kT bT .nil pass0 (pa_cons
      (pe_lc (te := tVar 2) (own := [("bar", 2)]) (g := gName 2) (tt := tTest (tCall (spIsThere K) [] E0 (tCons (tVar 2) (tCons (tVar 1) tNil)))) rfl scAT.nd (pi_list (pe_meth0 (pv 0) TC.cl mB GB hr bB .nil pass0)) (blkOk_by (own := [("bar", 2)]) (N := ["self", "height", "bar"]) (sc := defScope mAt) (by decide +kernel)) (fun _ _ _ _ _ => pg_name (i := 2) scAT.nd rfl (Or.inl rfl))
        (fun _ _ _ _ _ => pts_one (pt_val (pe_call GI hr1 rfl mI kI bI .nil pass0 (pa_cons (pv 2) (pa_cons (pv 1) pa_nil))))) (fun _ _ _ _ _ => pv 2)) pa_nil))), ?_⟩
    dsimp only [tRet, tCall, tCons, tNil]
    refine tLc_of ?_
    refine ⟨_, rfl, o, dx, _, rfl, h1, fF_no sl hl (by decide +kernel) (by decide +kernel), o, no, st, rfl, FS, hT, fun H1 p us x1 t1 np hp ba => ?_⟩
    have bl := bars_len FS
    have lenU : us.length = (Ho02.bars st.shape st.heights).length := (paired_len ba).symm
    refine ⟨p, rfl, ⟨_, SqL.of hp⟩, lc_fm (bs := Ho02.bars st.shape st.heights) (us := us) (fv := barV) (gv := barV) (fun b => b.at_ t) id (by omega) (SqL.of hp) ba (fun b u H2 bm hb s2 R hR => ?_) (fun b u H2 bm _ hb s2 R hR => ?_) fun H2 q vs s2 nq hq pr => ?_⟩
    · exact ⟨_, rfl, _, rfl, u, b, t, rfl, SqT.of hb, fun H3 s3 => ⟨_, rfl, hR H3 s3⟩⟩
    · exact ⟨_, rfl, hR H2 u (L2.Same.refl H2) hb⟩
    · rw [List.map_id] at pr
      have fl : ((Ho02.bars st.shape st.heights).filter fun b => b.at_ t).length ≤ 60 := Nat.le_trans (List.length_filter_le _ _) bl
      refine ⟨q, vs, _, rfl, SqL.of hq, pr, fl, fun H3 z s3 nz hz => ?_⟩
      refine k.ro FS ?_ (x1.trans (same_extN (s2.trans s3))) (t1.ext (s2.trans s3)) (newN_of (x1.trans (same_extN s2)) nz) hz
      rw [← at_told]
      rfl
theorem scLA : FnScope ["self", "height", "other", "there", "bar"] ["self", "height", "other"] (defScope mLasting) := ⟨rfl, rfl, rfl, by decide +kernel, rfl, by decide +kernel, by decide +kernel⟩
theorem ok_lasting {f : Addr} {fd : FuncData} {tk : Tok} (F : Fun K "lasting" "FloodedShape.lasting" mLasting f fd) (TC : TxtC K C) (gL : mg "SECOND_IS_LOWER" = some (.int (-1) tk)) (MB : Md P w K mg base C 7 "current_bars" ["self"] (spCurBars C TB)) (DI : Df P w K mg base 1 "is_bar_there" ["bar", "height"] (spIsThere K)) (DT : Df P w K mg base 1 "told_by_dimension" ["bars"] (spToldD K)) :
    FnOk P w K mg base CX0 8 f fd ["self", "height", "other"] (spLasting C TB) := by
  obtain ⟨fB, fdB, GB, mB, bB⟩ := MB.ex
  obtain ⟨fI, fdI, GI, mI, kI, bI⟩ := DI.ex
  obtain ⟨fT, fdT, GT, mT, kT, bT⟩ := DT.ex
  refine F.ok scLA (fun vs H Q E h => ?_) (fun cdv A outer s H vs Q E hr h => ?_)
  · obtain ⟨o, no, st, a, b, rfl, _⟩ := h
    rfl
  · obtain ⟨o, no, st, a, c, rfl, FS, hT, k⟩ := h
    obtain ⟨dx, sl, hl, ts, h1, h2, h3, h4, _, _⟩ := FS.ex
    have hr1 : Room 1 _ := hr.mono (by decide)
    refine ⟨_, pss_cons (ps_if (pt_cmpR op_lt (pv 2) (pv 1) (nomark _)) (pss_one (ps_ret (pe_lst (pa_cons (pe_glob (v := .int (-1)) rfl gL ⟨_, rfl⟩) pa_nil)))) pss_nil)
      (pss_cons (ps_setLc (i := 3) (te := tVar 4) (own := [("bar", 4)]) (g := gName 4) (tt := tTest (tCall (spIsThere K) [] E0 (tCons (tVar 4) (tCons (tVar 1) tNil)))) rfl scLA.nd rfl rfl (sw_true rfl rfl rfl (by decide +kernel)) (pi_list (pe_meth0 (pv 0) TC.cl mB GB hr bB .nil pass0)) (blkOk_by (own := [("bar", 4)]) (N := ["self", "height", "other", "there", "bar"]) (sc := defScope mLasting) (by decide +kernel)) (fun _ _ _ _ _ => pg_name (i := 4) scLA.nd rfl (Or.inl rfl))
        (fun _ _ _ _ _ => pts_one (pt_val (pe_call GI hr1 rfl mI kI bI .nil pass0 (pa_cons (pv 4) (pa_cons (pv 1) pa_nil))))) (fun _ _ _ _ _ => pv 4))
      (pss_one (ps_ret (pe_call GT hr1 rfl mT kT bT .nil pass0 (pa_cons
        (pe_lc (te := tVar 4) (own := [("bar", 4)]) (g := gName 4) (tt := tTest (tCall (spIsThere K) [] E0 (tCons (tVar 4) (tCons (tVar 2) tNil)))) rfl scLA.nd (pi_list (pv 3)) (blkOk_by (own := [("bar", 4)]) (N := ["self", "height", "other", "there", "bar"]) (sc := defScope mLasting) (by decide +kernel)) (fun _ _ _ _ _ => pg_name (i := 4) scLA.nd rfl (Or.inl rfl))
          (fun _ _ _ _ _ => pts_one (pt_val (pe_call GI hr1 rfl mI kI bI .nil pass0 (pa_cons (pv 4) (pa_cons (pv 2) pa_nil))))) (fun _ _ _ _ _ => pv 4)) pa_nil))))), ?_⟩
    refine ⟨_, rfl, _, rfl, _, _, rfl, rfl, _, rfl, ite_b (fun c1 => ?_) fun c1 => ?_⟩
    · have lt : c < a := by
        simp at c1
        omega
      refine ⟨by show 1 ≤ sizeLine; decide, fun p np => ?_⟩
      refine k.ro FS (ans := [-1]) ?_ (same_extN (same_new np)) (hT.ext (same_new np)) (newN_of (ExtN.refl H) np) upd_same
      show (st, if c < a then [-1] else _) = _
      rw [if_pos lt]
    have ge : ¬ c < a := by
      simp at c1
      omega
    dsimp only [tSeq, tAsg, tNext]
    refine tLc_of ?_
    refine ⟨_, rfl, o, dx, _, rfl, h1, fF_no sl hl (by decide +kernel) (by decide +kernel), o, no, st, rfl, FS, hT, fun H1 p us x1 t1 np hp ba => ?_⟩
    have bl := bars_len FS
    have lenU : us.length = (Ho02.bars st.shape st.heights).length := (paired_len ba).symm
    refine ⟨p, rfl, ⟨_, SqL.of hp⟩, lc_fm (bs := Ho02.bars st.shape st.heights) (us := us) (fv := barV) (gv := barV) (fun b => b.at_ a) id (by omega) (SqL.of hp) ba (fun b u H2 bm hb s2 R hR => ?_) (fun b u H2 bm _ hb s2 R hR => ?_) fun H2 q vs s2 nq hq pr => ?_⟩
    · exact ⟨_, rfl, _, rfl, u, b, a, rfl, SqT.of hb, fun H3 s3 => ⟨_, rfl, hR H3 s3⟩⟩
    · exact ⟨_, rfl, hR H2 u (L2.Same.refl H2) hb⟩
    rw [List.map_id] at pr
    have fl : ((Ho02.bars st.shape st.heights).filter fun b => b.at_ a).length ≤ 60 := Nat.le_trans (List.length_filter_le _ _) bl
    have lenV : vs.length = ((Ho02.bars st.shape st.heights).filter fun b => b.at_ a).length := (paired_len pr).symm
    show tRet _ _ _ _
    dsimp only [tRet, tCall, tCons, tNil]
    refine tLc_of ?_
    refine ⟨_, rfl, q, rfl, ⟨_, SqL.of hq⟩, lc_fm (bs := (Ho02.bars st.shape st.heights).filter fun b => b.at_ a) (us := vs) (fv := barV) (gv := barV) (fun b => b.at_ c) id (by omega) (SqL.of hq) pr (fun b u H3 bm hb s3 R hR => ?_) (fun b u H3 bm _ hb s3 R hR => ?_) fun H3 z us3 s3 nz hz pr3 => ?_⟩
    · exact ⟨_, rfl, _, rfl, u, b, c, rfl, SqT.of hb, fun H4 s4 => ⟨_, rfl, hR H4 s4⟩⟩
    · exact ⟨_, rfl, hR H3 u (L2.Same.refl H3) hb⟩
    rw [List.map_id] at pr3
    have fl3 : (((Ho02.bars st.shape st.heights).filter fun b => b.at_ a).filter fun b => b.at_ c).length ≤ 60 := Nat.le_trans (List.length_filter_le _ _) fl
    refine ⟨z, us3, _, rfl, SqL.of hz, pr3, fl3, fun H4 y s4 ny hy => ?_⟩
    refine k.ro FS ?_ (x1.trans (same_extN ((s2.trans s3).trans s4))) (t1.ext ((s2.trans s3).trans s4)) (newN_of (x1.trans (same_extN (s2.trans s3))) ny) hy
    rw [← lasting_told]
    show (st, if c < a then [-1] else _) = _
    rw [if_neg ge]
end
end Fl

set_option Elab.async false
set_option maxRecDepth 100000
set_option maxHeartbeats 4000000
/-! FlR2: longest, swamped, partner, shape, height, __init__. -/
namespace Fl
open PySem PySem.Spec PyProof.Rows L2 LamX
open HoBase (Sim before face)
open Ho02 (Bar)
/-! ### the longest -/
def keyH (H : Hp) : V → Int
  | .ref u => match H u with
    | some (.tup [_, .int f, .int e]) => e - f
    | _ => 0
  | _ => 0
theorem keyH_bar {H : Hp} {u : Addr} {b : Bar} {e : Nat} (h : H u = some (.tup (barV b))) (he : b.to_ = some e) : keyH H (.ref u) = (e : Int) - (b.from_ : Int) := by
  have h' : H u = some (.tup [nv b.dim, .int (b.from_ : Int), .int (e : Int)]) := by
    rw [h]
    unfold barV
    rw [he]
    rfl
  show (match H u with
    | some (.tup [_, .int f, .int e]) => e - f
    | _ => 0) = _
  rw [h']
theorem best_fold {bs : List Bar} {bt : Nat → Nat → Bool} (h : ∀ i j (hi : i < bs.length) (hj : j < bs.length), bt i j = decide (barLen bs[j] < barLen bs[i])) : ∀ n, n < bs.length → argBest bt n ≤ n ∧ (bs.take (n + 1)).foldl better none = bs[argBest bt n]?
  | 0, h0 => by
    refine ⟨Nat.le_refl _, ?_⟩
    rw [take_more (List.getElem?_eq_getElem h0), List.take_zero, List.nil_append]
    show some bs[0] = bs[0]?
    rw [List.getElem?_eq_getElem h0]
  | n + 1, hn => by
    obtain ⟨le, ih⟩ := best_fold h n (by omega)
    have hb : argBest bt n < bs.length := by omega
    rw [take_more (List.getElem?_eq_getElem hn), List.foldl_append, ih, List.getElem?_eq_getElem hb]
    show (if bt (n + 1) (argBest bt n) then n + 1 else argBest bt n) ≤ n + 1 ∧ (if barLen bs[argBest bt n] < barLen bs[n + 1] then some bs[n + 1] else some bs[argBest bt n]) = bs[if bt (n + 1) (argBest bt n) then n + 1 else argBest bt n]?
    rw [h (n + 1) (argBest bt n) hn hb]
    by_cases c : barLen bs[argBest bt n] < barLen bs[n + 1]
    · simp only [c, decide_true, if_true]
      exact ⟨Nat.le_refl _, (List.getElem?_eq_getElem hn).symm⟩
    · simp only [c, decide_false, if_false, Bool.false_eq_true]
      exact ⟨by omega, (List.getElem?_eq_getElem hb).symm⟩
def spLongest (C : Addr) (T : List (Addr × Str)) : Sp := fun vs H Q _ => ∃ (o no : Addr) (st : Ho02.State) (d : Nat), vs = [.ref o, nv d] ∧ FSat C H o st no ∧ Tabs T H ∧ Ans C T H Q o no st (.longest d)
def spSwamped (C : Addr) (T : List (Addr × Str)) : Sp := fun vs H Q _ => ∃ (o no : Addr) (st : Ho02.State) (t : Nat), vs = [.ref o, nv t] ∧ FSat C H o st no ∧ Tabs T H ∧ Ans C T H Q o no st (.swamped t)
def spPartner (K : PySem.W.Frag) (C : Addr) (T : List (Addr × Str)) : Sp := fun vs H Q _ => ∃ (o no a : Addr) (st : Ho02.State) (ns : List Int), vs = [.ref o, .ref a] ∧ SqL K H a (ns.map V.int) ∧ ns.length ≤ 1000 ∧ FSat C H o st no ∧ Tabs T H ∧ Ans C T H Q o no st (.partner ns)
theorem int_eq (a b : Nat) : decide (nv a = nv b) = decide (a = b) := by
  rw [decide_eq_decide]
  constructor
  · intro z
    have := V.int.inj z
    omega
  · intro z
    rw [z]
section
variable {P : Program} {w : World} {K : PySem.W.Frag} {mg : Str → Option Value} {base : Heap} {C : Addr} {TB : List (Addr × Str)}
theorem scLO : FnScope ["self", "dimension", "ending", "bar"] ["self", "dimension"] (defScope mLongest) := ⟨rfl, rfl, rfl, by decide +kernel, rfl, by decide +kernel, by decide +kernel⟩
theorem ok_longest {f : Addr} {fd : FuncData} {tE t6 : Tok} (F : Fun K "longest" "FloodedShape.longest" mLongest f fd) (T : Txt mg) (TC : TxtC K C) (gE : mg "NO_END" = some (.int (-1) tE)) (g6 : mg "NONE_THAT_ENDS" = some (.int (-6) t6)) (MB : Md P w K mg base C 7 "current_bars" ["self"] (spCurBars C TB)) (DL : Df P w K mg base 1 "length_of" ["bar"] (spLength K)) :
    FnOk P w K mg base CX0 8 f fd ["self", "dimension"] (spLongest C TB) := by
  obtain ⟨fB, fdB, GB, mB, bB⟩ := MB.ex
  obtain ⟨fL, fdL, GL, mL, kL, bL⟩ := DL.ex
  refine F.ok scLO (fun vs H Q E h => ?_) (fun cdv A outer s H vs Q E hr h => ?_)
  · obtain ⟨o, no, st, d, rfl, _⟩ := h
    rfl
  · obtain ⟨o, no, st, d, rfl, FS, hT, k⟩ := h
    obtain ⟨dx, sl, hl, ts, h1, h2, h3, h4, _, _⟩ := FS.ex
    have hr1 : Room 1 _ := hr.mono (by decide)
    have hr2 : Room 2 _ := hr.mono (by decide)
    refine ⟨_, pss_cons (ps_setLc (i := 2) (te := tVar 3) (own := [("bar", 3)]) (g := gName 3) (tt := tAnd (tTest (tOp rEq (tOp (rIxT K) (tVar 3) (tC (.int 0))) (tVar 1))) (tTest (tOp rNe (tOp (rIxT K) (tVar 3) (tC (.int 2))) (tC (.int (-1)))))) rfl scLO.nd rfl rfl (sw_true rfl rfl rfl (by decide +kernel)) (pi_list (pe_meth0 (pv 0) TC.cl mB GB hr bB .nil pass0)) (blkOk_by (own := [("bar", 3)]) (N := ["self", "dimension", "ending", "bar"]) (sc := defScope mLongest) (by decide +kernel)) (fun _ _ _ _ _ => pg_name (i := 3) scLO.nd rfl (Or.inl rfl))
        (fun _ _ _ _ _ => pts_one (PW.pt (pw_and (pt_cmpR op_eq (pe_ix ix_tup (pv 3) pe_int (fun _ _ => rfl)) (pv 1) (nomark _)) (pw_and1 (pt_cmpR op_ne (pe_ix ix_tup (pv 3) pe_int (fun _ _ => rfl)) (pe_glob (v := .int (-1)) rfl gE ⟨_, rfl⟩) (nomark _)))))) (fun _ _ _ _ _ => pv 3))
      (pss_cons (ps_if (pt_cmpR op_eq (pe_callB call_len_seq (by rfl) T.len PySem.boot_len (pa_cons (pv 2) pa_nil)) pe_int (nomark _)) (pss_one (ps_ret (pe_lst (pa_cons (pe_glob (v := .int (-6)) rfl g6 ⟨_, rfl⟩) pa_nil)))) pss_nil)
      (pss_cons (ps_set (i := 3) scLO.nd rfl (Or.inl rfl) (pe_callBK (cr_maxKey rfl GL bL hr2) (by rfl) T.max (by decide +kernel) (pa_cons (pv 2) pa_nil) (pk_cons (pe_glob (v := .ref fL) rfl mL rfl) pk_nil)))
      (pss_one (ps_ret (pe_lst (pa_cons (pe_call GL hr1 rfl mL kL bL .nil pass0 (pa_cons (pv 3) pa_nil)) (pa_cons (pe_ix ix_tup (pv 3) pe_int (fun _ _ => rfl)) (pa_cons (pe_ix ix_tup (pv 3) pe_int (fun _ _ => rfl)) pa_nil)))))))), ?_⟩
    dsimp only [tSeq, tAsg]
    refine tLc_of ?_
    refine ⟨_, rfl, o, dx, _, rfl, h1, fF_no sl hl (by decide +kernel) (by decide +kernel), o, no, st, rfl, FS, hT, fun H1 p us x1 t1 np hp ba => ?_⟩
    have bl := bars_len FS
    have lenU : us.length = (Ho02.bars st.shape st.heights).length := (paired_len ba).symm
    refine ⟨p, rfl, ⟨_, SqL.of hp⟩, lc_fm (bs := Ho02.bars st.shape st.heights) (us := us) (fv := barV) (gv := barV) (fun b => decide (b.dim = d) && b.to_.isSome) id (by omega) (SqL.of hp) ba (fun b u H2 bm hb s2 R hR => ?_) (fun b u H2 bm _ hb s2 R hR => ?_) fun H2 q vs s2 nq hq pr => ?_⟩
    · have hR0 := hR H2 (L2.Same.refl H2)
      refine ⟨_, rfl, u, _, _, _, rfl, rfl, SqT.of hb, at_of (j := 0) rfl rfl, _, rfl, rfl, _, rfl, ?_⟩
      rw [int_eq]
      refine ite_b (fun c => ?_) fun c => ?_
      · rw [c, Bool.true_and] at hR0
        refine ⟨_, rfl, u, _, _, _, rfl, rfl, SqT.of hb, at_of (j := 2) rfl rfl, ?_⟩
        cases e : b.to_ with
        | none =>
          rw [e] at hR0
          refine ⟨rfl, _, rfl, ?_⟩
          exact hR0
        | some n =>
          rw [e] at hR0
          refine ⟨rfl, _, rfl, ?_⟩
          have ne : decide (endV (some n) = V.int (-1)) = false := decide_eq_false fun z => by
            have := V.int.inj z
            omega
          rw [ne]
          exact hR0
      · rw [c, Bool.false_and] at hR0
        exact hR0
    · exact ⟨_, rfl, hR H2 u (L2.Same.refl H2) hb⟩
    rw [List.map_id] at pr
    have pr : BarsAt H2 (endingOf (Ho02.bars st.shape st.heights) d) vs := pr
    have fl : (endingOf (Ho02.bars st.shape st.heights) d).length ≤ 60 := Nat.le_trans (List.length_filter_le _ _) bl
    have lenV : vs.length = (endingOf (Ho02.bars st.shape st.heights) d).length := (paired_len pr).symm
    have ends : ∀ b ∈ endingOf (Ho02.bars st.shape st.heights) d, ∃ e : Nat, b.to_ = some e ∧ b.from_ < e := fun b hb => by
      obtain ⟨m1, m2⟩ := List.mem_filter.mp hb
      rw [Bool.and_eq_true] at m2
      obtain ⟨e, he⟩ := Option.isSome_iff_exists.mp m2.2
      exact ⟨e, he, bar_ends FS.ok _ m1 he⟩
    have x2 : ExtN H H2 := x1.trans (same_extN s2)
    have t2 := t1.ext s2
    refine ⟨_, rfl, q, _, rfl, .inl (SqL.of hq), rfl, _, rfl, ite_b (fun c => ?_) fun c => ?_⟩
    · have z : (endingOf (Ho02.bars st.shape st.heights) d).length = 0 := by
        simp at c
        rw [← lenV]
        simp [c]
      refine ⟨by show 1 ≤ sizeLine; decide, fun r nr => ?_⟩
      refine k.ro FS (ans := [-6]) ?_ (x2.trans (same_extN (same_new nr))) (t2.ext (same_new nr)) (newN_of x2 nr) upd_same
      show (st, match Ho02.longest st.shape st.heights d with
        | none => [-6]
        | some b => Ho02.nat (b.to_.getD 0 - b.from_) :: Ho02.toldBar b) = _
      rw [longest_is, List.eq_nil_of_length_eq_zero z]
      rfl
    · have pos : 0 < (endingOf (Ho02.bars st.shape st.heights) d).length := by
        rcases Nat.eq_zero_or_pos (endingOf (Ho02.bars st.shape st.heights) d).length with z | z
        · rw [← lenV] at z
          simp [z] at c
        · exact z
      have keyAt : ∀ i (hi : i < (endingOf (Ho02.bars st.shape st.heights) d).length), (((vs.map V.ref)[i]?).map (keyH H2)).getD 0 = (barLen (endingOf (Ho02.bars st.shape st.heights) d)[i] : Int) := fun i hi => by
        obtain ⟨u, hu, hut⟩ := paired_at' pr (List.getElem?_eq_getElem hi)
        obtain ⟨e, he, lt⟩ := ends _ (List.getElem_mem hi)
        rw [List.getElem?_map, hu]
        show keyH H2 (.ref u) = _
        rw [keyH_bar hut he]
        unfold barLen
        rw [he]
        show (e : Int) - _ = ((e - _ : Nat) : Int)
        omega
      have bf := best_fold (bs := endingOf (Ho02.bars st.shape st.heights) d) (bt := btOf (keyH H2) (vs.map V.ref)) (fun i j hi hj => by
        unfold btOf
        rw [keyAt i hi, keyAt j hj, decide_eq_decide]
        omega) ((endingOf (Ho02.bars st.shape st.heights) d).length - 1) (by omega)
      rw [show (endingOf (Ho02.bars st.shape st.heights) d).length - 1 + 1 = (endingOf (Ho02.bars st.shape st.heights) d).length by omega, List.take_length] at bf
      refine ⟨_, rfl, q, vs.map V.ref, keyH H2, rfl, rfl, SqL.of hq, by rw [List.length_map]; omega, fun HL lk v hv => ?_, fun v hv => ?_⟩
      · obtain ⟨u, hu, rfl⟩ := List.mem_map.mp hv
        obtain ⟨i, hi⟩ := List.mem_iff_getElem?.mp hu
        obtain ⟨b, hb, hbt⟩ := paired_at pr hi
        obtain ⟨e, he, _⟩ := ends b (List.mem_of_getElem? hb)
        exact ⟨u, b, e, rfl, lk.st u _ (SqT.of hbt), he, fun _ _ => by rw [keyH_bar hbt he]⟩
      · rw [List.length_map, lenV] at hv
        obtain ⟨u, hu, rfl⟩ := map_at hv
        obtain ⟨b, hb, hbt⟩ := paired_at pr hu
        obtain ⟨e, he, lt⟩ := ends b (List.mem_of_getElem? hb)
        refine ⟨_, rfl, u, b, e, rfl, SqT.of hbt, he, fun H3 s3 => ?_⟩
        have hbt3 := s3 _ _ hbt
        refine ⟨_, rfl, u, _, _, _, rfl, rfl, SqT.of hbt3, at_of (j := 1) rfl rfl, _, rfl, u, _, _, _, rfl, rfl, SqT.of hbt3, at_of (j := 2) rfl rfl, by show 3 ≤ sizeLine; decide, fun r nr => ?_⟩
        refine k.ro FS (ans := [(e : Int) - (b.from_ : Int), (b.from_ : Int), (e : Int)]) ?_ (x2.trans (same_extN (s3.trans (same_new nr)))) (t2.ext (s3.trans (same_new nr))) (newN_of (x2.trans (same_extN s3)) nr) ?_
        · show (st, match Ho02.longest st.shape st.heights d with
            | none => [-6]
            | some b => Ho02.nat (b.to_.getD 0 - b.from_) :: Ho02.toldBar b) = _
          rw [longest_is, bf.2, hb]
          show (st, Ho02.nat (b.to_.getD 0 - b.from_) :: Ho02.toldBar b) = _
          rw [toldBar_is]
          unfold barI
          rw [he]
          show (st, [((e - b.from_ : Nat) : Int), (b.from_ : Int), (e : Int)]) = _
          rw [show ((e - b.from_ : Nat) : Int) = (e : Int) - (b.from_ : Int) by omega]
        · rw [upd_same, he]
          rfl
/-! ### swamped -/
theorem scSW : FnScope ["self", "height", "there", "simplex"] ["self", "height"] (defScope mSwamped) := ⟨rfl, rfl, rfl, by decide +kernel, rfl, by decide +kernel, by decide +kernel⟩
theorem ok_swamped {f : Addr} {fd : FuncData} (F : Fun K "swamped" "FloodedShape.swamped" mSwamped f fd) (TC : TxtC K C) (DC : Df P w K mg base 1 "comes_at" ["simplex", "heights"] (spComesAt K)) (DN : Df P w K mg base 2 "no_faces_of_others" ["simplices"] (spNoFaces K)) (DT : Df P w K mg base 1 "told_simplices" ["simplices"] (spToldS K)) :
    FnOk P w K mg base CX0 8 f fd ["self", "height"] (spSwamped C TB) := by
  obtain ⟨fC, fdC, GC, mC, kC, bC⟩ := DC.ex
  obtain ⟨fN, fdN, GN, mN, kN, bN⟩ := DN.ex
  obtain ⟨fT, fdT, GT, mT, kT, bT⟩ := DT.ex
  refine F.ok scSW (fun vs H Q E h => ?_) (fun cdv A outer s H vs Q E hr h => ?_)
  · obtain ⟨o, no, st, t, rfl, _⟩ := h
    rfl
  · obtain ⟨o, no, st, t, rfl, FS, hT, k⟩ := h
    obtain ⟨dx, sl, hl, ts, h1, h2, h3, h4, _, _⟩ := FS.ex
    have hr1 : Room 1 _ := hr.mono (by decide)
    have hr2 : Room 2 _ := hr.mono (by decide)
    refine ⟨_, pss_cons (ps_setLc (i := 2) (te := tVar 3) (own := [("simplex", 3)]) (g := gName 3) (tt := tTest (tOp (rI0 fun i j => .bl (decide (i ≤ j))) (tCall (spComesAt K) [] E0 (tCons (tVar 3) (tCons (tFld K (tVar 0) "heights") tNil))) (tVar 1))) rfl scSW.nd rfl rfl (sw_true rfl rfl rfl (by decide +kernel)) (pi_list (pe_fld (pv 0) rfl)) (blkOk_by (own := [("simplex", 3)]) (N := ["self", "height", "there", "simplex"]) (sc := defScope mSwamped) (by decide +kernel)) (fun _ _ _ _ _ => pg_name (i := 3) scSW.nd rfl (Or.inl rfl))
        (fun _ _ _ _ _ => pts_one (pt_cmpR op_le (pe_call GC hr1 rfl mC kC bC .nil pass0 (pa_cons (pv 3) (pa_cons (pe_fld (pv 0) rfl) pa_nil))) (pv 1) (nomark _))) (fun _ _ _ _ _ => pv 3))
      (pss_one (ps_ret (pe_call GT hr1 rfl mT kT bT .nil pass0 (pa_cons (pe_call GN hr2 rfl mN kN bN .nil pass0 (pa_cons (pv 2) pa_nil)) pa_nil)))), ?_⟩
    dsimp only [tSeq, tAsg]
    refine tLc_of ?_
    have lenT : ts.length = st.shape.length := (paired_len h3).symm
    have c60 := FS.ok.len
    refine ⟨_, rfl, o, C, dx, _, _, rfl, h1, TC.cl, TC.nS, fF_s sl hl, sl, rfl, ⟨_, SqL.of h2⟩, lc_fm (bs := st.shape) (us := ts) (fv := simV) (gv := simV) (fun x => decide (Ho02.height st.heights x ≤ t)) id (by omega) (SqL.of h2) h3 (fun x u H2 xm hx s2 R hR => ?_) (fun x u H2 xm _ hx s2 R hR => ?_) fun H2 q vs s2 nq hq pr => ?_⟩
    · have so := simOk10 FS x xm
      refine ⟨_, rfl, _, rfl, o, C, dx, _, _, rfl, s2 _ _ h1, TC.cl, TC.nH, fF_h sl hl, u, hl, x, st.heights, rfl, SqT.of hx, SqL.of (s2 _ _ h4), so.ne, so.l4, so.lt, fun H3 s3 => ?_⟩
      refine ⟨_, rfl, _, _, rfl, rfl, _, rfl, ?_⟩
      have e : decide ((Ho02.height st.heights x : Int) ≤ (t : Int)) = decide (Ho02.height st.heights x ≤ t) := by
        rw [decide_eq_decide]
        omega
      rw [e]
      exact hR H3 s3
    · exact ⟨_, rfl, hR H2 u (L2.Same.refl H2) hx⟩
    rw [List.map_id] at pr
    have pr : TupsAt H2 (Ho02.upTo st.shape st.heights t) vs := pr
    have sub : ∀ x ∈ Ho02.upTo st.shape st.heights t, x ∈ st.shape := fun x hx => (List.mem_filter.mp hx).1
    have ul : (Ho02.upTo st.shape st.heights t).length ≤ 60 := Nat.le_trans (List.length_filter_le _ _) c60
    refine ⟨_, rfl, q, vs, Ho02.upTo st.shape st.heights t, rfl, SqL.of hq, pr, ul, fun x hx => FS.ok.ok x (sub x hx), fun H3 r us s3 nr hr3 tp3 => ?_⟩
    have tl : (HoBase.tops (Ho02.upTo st.shape st.heights t)).length ≤ 60 := Nat.le_trans (List.length_filter_le _ _) ul
    refine ⟨r, us, HoBase.tops (Ho02.upTo st.shape st.heights t), rfl, SqL.of hr3, L2.Paired.mapP tp3 fun _ _ h => SqT.of h, tl, fun x hx => (FS.ok.ok x (sub x (List.mem_filter.mp hx).1)).l4, fun H4 z s4 nz hz => ?_⟩
    exact k.ro FS (ans := simsTold (HoBase.tops (Ho02.upTo st.shape st.heights t))) rfl (same_extN ((s2.trans s3).trans s4)) (hT.ext ((s2.trans s3).trans s4)) (newN_of (same_extN (s2.trans s3)) nz) hz
end
end Fl

set_option Elab.async false
set_option maxRecDepth 100000
set_option maxHeartbeats 4000000
/-! FlR3: partner, shape, height, __init__. -/
namespace Fl
open PySem PySem.Spec PyProof.Rows L2 LamX
open HoBase (Sim before face)
open Ho02 (Bar)
theorem isSimplex_iff {r : List Int} : isSimplex r = true ↔ Told r := by
  unfold isSimplex
  rw [Bool.and_eq_true, Bool.and_eq_true, Bool.and_eq_true, decide_eq_true_eq, decide_eq_true_eq, decide_eq_true_eq, List.all_eq_true]
  constructor
  · rintro ⟨⟨⟨h1, h2⟩, h3⟩, h4⟩
    refine ⟨h1, h2, h3, fun z hz => ?_⟩
    have := h4 z hz
    unfold okC at this
    rw [Bool.and_eq_true, decide_eq_true_eq, decide_eq_true_eq] at this
    exact this
  · rintro ⟨h1, h2, h3, h4⟩
    refine ⟨⟨⟨h1, h2⟩, h3⟩, fun z hz => ?_⟩
    unfold okC
    rw [Bool.and_eq_true, decide_eq_true_eq, decide_eq_true_eq]
    exact h4 z hz
theorem isSimplex_no {r : List Int} (h : isSimplex r = false) : ¬ Told r := fun T => by
  rw [isSimplex_iff.mpr T] at h
  cases h
theorem told_simV {r ns : List Int} (T : Told r) (pm : ns.Perm r) (le : ns.Pairwise (· ≤ ·)) : ns.map V.int = simV (simGet r) := by
  rw [sorted_is T pm le, List.map_map]
  rfl
theorem units65 {k : Nat} {A : Around} (r : Room k A) : A.units + 65 < cLine := by
  have := r.un
  omega
theorem tabs_but {T : List (Addr × Str)} {H H' : Hp} {o C dx : Addr} {fs : List (Str × V)} (t : Tabs T H) (ho : H o = some (.ins C dx fs)) (keep : ∀ b u, H b = some u → b ≠ o → H' b = some u) : Tabs T H' := fun p hp => by
  obtain ⟨ps, h1, h2, h3⟩ := t p hp
  refine ⟨ps, keep _ _ h1 (ne_of h1 ho (by intro z; cases z)), h2, fun pos cv hc => ?_⟩
  obtain ⟨c, e1, e2⟩ := h3 pos cv hc
  exact ⟨c, e1, keep _ _ e2 (ne_of e2 ho (by intro z; cases z))⟩
theorem new_but {H H' : Hp} {o r : Addr} {u0 : HO} (keep : ExtO o H H') (ho : H' o = some u0) (n : H' r = none) : NewN H r := fun b u e nt z => by
  by_cases c : b = o
  · rw [← z, c, ho] at n
    cases n
  · rw [← z, keep b u e nt c] at n
    cases n
/-! ### is it in the shape -/
theorem dp_sims {K : PySem.W.Frag} {H : Hp} : ∀ {xs : List Sim} {ts : List Addr}, TupsAt H xs ts → DpAll K H (ts.map V.ref) (xs.map simD)
  | _, _, .nil => .nil
  | _, _, .cons h t => .cons (dp_sim (SqT.of h)) (dp_sims t)
theorem canLay_sims : ∀ xs : List Sim, PyData.canLayAll0 (xs.map simD) = true
  | [] => rfl
  | x :: xs => by
    rw [List.map_cons, PyData.canLayAll0, canLay_sims xs]
    unfold simD
    rw [PyData.canLay0, canLay_nats x]
    rfl
theorem depth_sims : ∀ xs : List Sim, PyData.depthAll (xs.map simD) ≤ 1
  | [] => Nat.zero_le _
  | x :: xs => by
    show max (PyData.depthAll (x.map iD) + 1) (PyData.depthAll (xs.map simD)) ≤ 1
    have := depth_sims xs
    rw [depth_nats x]
    omega
theorem shaped_sims (xs : List Sim) : SeqAt.shaped (.list (xs.map simD)) = true := by
  unfold SeqAt.shaped
  rw [PyData.canLay0, canLay_sims xs]
  show decide (PyData.depthAll (xs.map simD) + 1 ≤ 64) = true
  have := depth_sims xs
  exact decide_eq_true (by omega)
theorem any_sims (xs : List Sim) (x : Sim) : (xs.map simD).any (fun z => PyData.eqv z (simD x)) = xs.contains x := by
  rw [List.any_map]
  rw [Bool.eq_iff_iff, List.any_eq_true, List.contains_iff_mem]
  constructor
  · rintro ⟨y, hy, e⟩
    have e' : PyData.eqv (simD y) (simD x) = true := e
    rw [eqv_sim, decide_eq_true_eq] at e'
    rw [← e']
    exact hy
  · intro h
    refine ⟨x, h, ?_⟩
    show PyData.eqv (simD x) (simD x) = true
    rw [eqv_sim]
    simp
section
variable {P : Program} {w : World} {K : PySem.W.Frag} {mg : Str → Option Value} {base : Heap} {C : Addr} {TB : List (Addr × Str)}
theorem scPT : FnScope ["self", "corners", "simplex"] ["self", "corners"] (defScope mPartner) := ⟨rfl, rfl, rfl, by decide +kernel, rfl, by decide +kernel, by decide +kernel⟩
theorem ok_partner {f : Addr} {fd : FuncData} {t1 t3 : Tok} (F : Fun K "partner" "FloodedShape.partner" mPartner f fd) (T : Txt mg) (TC : TxtC K C) (g1 : mg "NOT_A_SIMPLEX" = some (.int (-1) t1)) (g3 : mg "NOT_THERE" = some (.int (-3) t3)) (DI : Df P w K mg base 1 "is_simplex" ["corners"] (spIsSimplex K)) (MR : Md P w K mg base C 6 "current_row" ["self"] (spCurRow C TB)) (DP : Df P w K mg base 4 "partner_in" ["row", "simplex"] (spPartnerIn K)) :
    FnOk P w K mg base CX0 8 f fd ["self", "corners"] (spPartner K C TB) := by
  obtain ⟨fI, fdI, GI, mI, kI, bI⟩ := DI.ex
  obtain ⟨fR, fdR, GR, mR, bR⟩ := MR.ex
  obtain ⟨fP, fdP, GP, mP, kP, bP⟩ := DP.ex
  refine F.ok scPT (fun vs H Q E h => ?_) (fun cdv A outer s H vs Q E hr h => ?_)
  · obtain ⟨o, no, a, st, ns, rfl, _⟩ := h
    rfl
  · obtain ⟨o, no, a, st, ns, rfl, ha, len, FS, hT, k⟩ := h
    obtain ⟨dx, sl, hl, ts, h1, h2, h3, h4, _, _⟩ := FS.ex
    have hr1 : Room 1 _ := hr.mono (by decide)
    have hr4 : Room 4 _ := hr.mono (by decide)
    have hr6 : Room 6 _ := hr.mono (by decide)
    refine ⟨_, pss_cons (ps_if (pt_not (pt_val (pe_call GI hr1 rfl mI kI bI .nil pass0 (pa_cons (pv 1) pa_nil)))) (pss_one (ps_ret (pe_lst (pa_cons (pe_glob (v := .int (-1)) rfl g1 ⟨_, rfl⟩) pa_nil)))) pss_nil)
      (pss_cons (ps_set (i := 2) scPT.nd rfl (Or.inl rfl) (pe_callTy call_tuple_of (by rfl) T.tuple (by decide +kernel) (pa_cons (pe_callB cr_sortedI (by rfl) T.sorted (by decide +kernel) (pa_cons (pv 1) pa_nil)) pa_nil)))
      (pss_cons (ps_if (pt_cmpR (op_notInD (units65 hr)) (pv 2) (pe_fld (pv 0) rfl) (by rfl)) (pss_one (ps_ret (pe_lst (pa_cons (pe_glob (v := .int (-3)) rfl g3 ⟨_, rfl⟩) pa_nil)))) pss_nil)
      (pss_one (ps_ret (pe_call GP hr4 rfl mP kP bP .nil pass0 (pa_cons (pe_meth0 (pv 0) TC.cl mR GR hr6 bR .nil pass0) (pa_cons (pv 2) pa_nil))))))), ?_⟩
    refine ⟨_, rfl, a, ns, rfl, ha, len, fun H1 s1 => ⟨_, rfl, ?_⟩⟩
    cases e0 : isSimplex ns with
    | false =>
      refine iteT ⟨by show 1 ≤ sizeLine; decide, fun p np => ?_⟩
      refine k.ro FS (ans := [-1]) ?_ (same_extN (s1.trans (same_new np))) (hT.ext (s1.trans (same_new np))) (newN_of (same_extN s1) np) upd_same
      show (st, match Ho02.simOf ns with
        | none => [-1]
        | some x => _) = _
      rw [simOf_none (isSimplex_no e0)]
    | true =>
      have TD := isSimplex_iff.mp e0
      refine iteF ?_
      refine ⟨_, rfl, a, ns, rfl, s1.seq ha, fun ns' q pm le nq => ?_⟩
      have sq := same_new (o := .lst (ns'.map V.int)) nq
      refine ⟨q, _, rfl, .inl ⟨SqL.of upd_same, fun t nt => ?_⟩⟩
      have st' := same_new (o := .tup (ns'.map V.int)) nt
      have ht : upd (upd H1 q (.lst (ns'.map V.int))) t (.tup (ns'.map V.int)) t = some (.tup (simV (simGet ns))) := by rw [upd_same, told_simV TD pm le]
      have s3 := (s1.trans sq).trans st'
      refine ⟨_, rfl, _, rfl, o, C, dx, _, _, rfl, s3 _ _ h1, TC.cl, TC.nS, fF_s sl hl, simD (simGet ns), st.shape.map simD, dp_sim (SqT.of ht), .lst (SqL.of (s3 _ _ h2)) (dp_sims (tups_same s3 h3)), shaped_sim _, shaped_sims _, _, rfl, ?_⟩
      rw [any_sims]
      cases e1 : st.shape.contains (simGet ns) with
      | false =>
        refine iteT ⟨by show 1 ≤ sizeLine; decide, fun p np => ?_⟩
        refine k.ro FS (ans := [-3]) ?_ (same_extN (s3.trans (same_new np))) (hT.ext (s3.trans (same_new np))) (newN_of (same_extN s3) np) upd_same
        show (st, match Ho02.simOf ns with
          | none => [-1]
          | some x => if st.shape.contains x = false then [-3] else _) = _
        rw [simOf_some TD]
        dsimp only
        rw [e1, if_pos rfl]
      | true =>
        have xm : simGet ns ∈ st.shape := by simpa using e1
        refine iteF ?_
        have FS3 := FS.ext (same_extN s3)
        refine ⟨_, rfl, o, dx, _, rfl, s3 _ _ h1, fF_no sl hl (by decide +kernel) (by decide +kernel), o, no, st, rfl, FS3, hT.ext s3, fun H4 p us x4 t4 np hp tp => ?_⟩
        have RI := rowIs FS
        refine ⟨_, rfl, p, t, us, rowOf st, simGet ns, rfl, SqL.of hp, tp, x4 _ _ ht (fun _ z => by cases z), mem_row.mpr xm, RI.nd, RI.l60, RI.R, RI.l4, fun H5 z s5 nz hz => ?_⟩
        refine k.ro FS ?_ (((same_extN s3).trans x4).trans (same_extN s5)) (t4.ext s5) (newN_of ((same_extN s3).trans x4) nz) hz
        rw [← partner_is _ _ _ (apart RI.R RI.l4)]
        show (st, match Ho02.simOf ns with
          | none => [-1]
          | some x => if st.shape.contains x = false then [-3] else _) = _
        rw [simOf_some TD]
        dsimp only
        rw [e1, if_neg (by simp)]
        rfl
/-! ### height -/
end
def spHeight (K : PySem.W.Frag) (C : Addr) (T : List (Addr × Str)) : Sp := fun vs H Q _ => ∃ (o no a : Addr) (st : Ho02.State) (ns : List Int), vs = [.ref o, .ref a] ∧ SqL K H a (ns.map V.int) ∧ ns.length ≤ 1000 ∧ FSat C H o st no ∧ Tabs T H ∧ (∃ ys, H no = some (.lst ys)) ∧ Ans C T H Q o no st (.height ns)
theorem heights_nat {ns : List Int} (h : ns.all okH = true) : ns.map V.int = (ns.map Int.toNat).map nv := by
  rw [List.map_map]
  refine List.map_congr_left fun z hz => ?_
  have := List.all_eq_true.mp h z hz
  unfold okH at this
  rw [Bool.and_eq_true, decide_eq_true_eq, decide_eq_true_eq] at this
  show V.int z = V.int (z.toNat : Int)
  congr 1
  omega
theorem step_height_no {st : Ho02.State} {ns : List Int} (h : areHeights ns = false) : Ho02.step st (.height ns) = (st, [-1]) := by
  show (if ns.length ≠ Ho02.CORNERS ∨ (ns.all fun (z : Int) => decide (0 ≤ z) && decide (z ≤ (Ho02.HIGH : Int))) = false then (st, [-1]) else _) = _
  refine if_pos ?_
  unfold areHeights at h
  rw [Bool.and_eq_false_iff] at h
  rcases h with h | h
  · exact .inl (of_decide_eq_false h)
  · exact .inr h
theorem step_height_yes {st : Ho02.State} {ns : List Int} (h : areHeights ns = true) : Ho02.step st (.height ns) = ({ st with heights := ns.map Int.toNat }, [((Ho02.bars st.shape (ns.map Int.toNat)).length : Int)]) := by
  show (if ns.length ≠ Ho02.CORNERS ∨ (ns.all fun (z : Int) => decide (0 ≤ z) && decide (z ≤ (Ho02.HIGH : Int))) = false then (st, [-1]) else _) = _
  unfold areHeights at h
  rw [Bool.and_eq_true, decide_eq_true_eq] at h
  rw [if_neg]
  · rfl
  · rintro (z | z)
    · exact z h.1
    · have h2 : (ns.all fun (z : Int) => decide (0 ≤ z) && decide (z ≤ (Ho02.HIGH : Int))) = true := h.2
      rw [h2] at z
      cases z
theorem put_s (sl hl sl' : Addr) : putF "simplices" (.ref sl') (fF sl hl) = fF sl' hl := if_pos rfl
theorem put_h (sl hl hl' : Addr) : putF "heights" (.ref hl') (fF sl hl) = fF sl hl' := by
  have e : ¬ (("simplices" : Str) = "heights") := by decide +kernel
  show (if ("simplices" : Str) = "heights" then _ else _) = _
  rw [if_neg e]
  exact congrArg _ (if_pos rfl)
section
variable {P : Program} {w : World} {K : PySem.W.Frag} {mg : Str → Option Value} {base : Heap} {C : Addr} {TB : List (Addr × Str)}
theorem scHE : FnScope ["self", "heights"] ["self", "heights"] (defScope mHeight) := ⟨rfl, rfl, rfl, by decide +kernel, rfl, by decide +kernel, by decide +kernel⟩
theorem ok_height {f : Addr} {fd : FuncData} {t1 : Tok} (F : Fun K "height" "FloodedShape.height" mHeight f fd) (T : Txt mg) (TC : TxtC K C) (g1 : mg "NOT_HEIGHTS" = some (.int (-1) t1)) (DA : Df P w K mg base 1 "are_heights" ["heights"] (spAreHeights K)) (MB : Md P w K mg base C 7 "current_bars" ["self"] (spCurBars C TB)) :
    FnOk P w K mg base CX0 8 f fd ["self", "heights"] (spHeight K C TB) := by
  obtain ⟨fA, fdA, GA, mA, kA, bA⟩ := DA.ex
  obtain ⟨fB, fdB, GB, mB, bB⟩ := MB.ex
  refine F.ok scHE (fun vs H Q E h => ?_) (fun cdv A outer s H vs Q E hr h => ?_)
  · obtain ⟨o, no, a, st, ns, rfl, _⟩ := h
    rfl
  · obtain ⟨o, no, a, st, ns, rfl, ha, len, FS, hT, ⟨ys, hno⟩, k⟩ := h
    obtain ⟨dx, sl, hl, ts, h1, h2, h3, h4, n5, n6⟩ := FS.ex
    have hr1 : Room 1 _ := hr.mono (by decide)
    refine ⟨_, pss_cons (ps_if (pt_not (pt_val (pe_call GA hr1 rfl mA kA bA .nil pass0 (pa_cons (pv 1) pa_nil)))) (pss_one (ps_ret (pe_lst (pa_cons (pe_glob (v := .int (-1)) rfl g1 ⟨_, rfl⟩) pa_nil)))) pss_nil)
      (pss_cons (ps_fld (pv 0) (pe_callTy call_list_of (by rfl) T.list (by decide +kernel) (pa_cons (pv 1) pa_nil)) rfl)
      (pss_one (ps_ret (pe_lst (pa_cons (pe_callB call_len_seq (by rfl) T.len PySem.boot_len (pa_cons (pe_meth0 (pv 0) TC.cl mB GB hr bB .nil pass0) pa_nil)) pa_nil))))), ?_⟩
    refine ⟨_, rfl, a, ns, rfl, ha, len, fun H1 s1 => ⟨_, rfl, ?_⟩⟩
    cases e0 : areHeights ns with
    | false =>
      refine iteT ⟨by show 1 ≤ sizeLine; decide, fun p np => ?_⟩
      exact k.ro FS (ans := [-1]) (step_height_no e0) (same_extN (s1.trans (same_new np))) (hT.ext (s1.trans (same_new np))) (newN_of (same_extN s1) np) upd_same
    | true =>
      have l10 : ns.length = 10 ∧ ns.all okH = true := by
        unfold areHeights at e0
        rw [Bool.and_eq_true, decide_eq_true_eq] at e0
        exact e0
      refine iteF ?_
      refine ⟨_, rfl, a, _, rfl, .inl (s1.seq ha), fun q nq => ?_⟩
      have sq := same_new (o := .lst (ns.map V.int)) nq
      have s2 := s1.trans sq
      have nq0 : H q = none := s1.free nq
      refine ⟨_, rfl, o, C, dx, _, rfl, s2 _ _ h1, TC.cl, TC.nH, (by show 2 < 1000; decide), ?_⟩
      rw [put_h]
      have oq : q ≠ o := (ne_of_none h1 nq0).symm
      have keep : ∀ b u, H b = some u → b ≠ o → upd (upd H1 q (.lst (ns.map V.int))) o (.ins C dx (fF sl q)) b = some u := fun b u e nb => by
        rw [upd_ne nb]
        exact s2 _ _ e
      have FS' : FSat C (upd (upd H1 q (.lst (ns.map V.int))) o (.ins C dx (fF sl q))) o { st with heights := ns.map Int.toNat } no := by
        refine ⟨⟨dx, sl, q, ts, upd_same, keep _ _ h2 (ne_of h2 h1 (by intro z; cases z)), L2.Paired.mapP h3 fun _ _ h => keep _ _ h (ne_of h h1 (by intro z; cases z)), ?_, n5, (ne_of_none hno nq0).symm⟩, FS.ok, ?_⟩
        · rw [upd_ne oq, upd_same, heights_nat l10.2]
        · show (ns.map Int.toNat).length = 10
          rw [List.length_map]
          exact l10.1
      have hT' : Tabs TB (upd (upd H1 q (.lst (ns.map V.int))) o (.ins C dx (fF sl q))) := tabs_but hT h1 keep
      refine ⟨_, rfl, o, dx, _, rfl, upd_same, fF_no sl q (by decide +kernel) (by decide +kernel), o, no, { st with heights := ns.map Int.toNat }, rfl, FS', hT', fun H3 p us x3 t3 np hp ba => ?_⟩
      refine ⟨p, _, rfl, .inl (SqL.of hp), by show 1 ≤ sizeLine; decide, fun r nr => ?_⟩
      have sr := same_new (o := .lst [V.int ((us.map V.ref).length : Int)]) nr
      have x4 := x3.trans (same_extN sr)
      have lenU : (us.map V.ref).length = (Ho02.bars st.shape (ns.map Int.toNat)).length := by
        rw [List.length_map]
        exact (paired_len ba).symm
      refine k _ r (fun b u e nt nb => x4 b u (keep b u e nb) nt) (t3.ext sr) (new_but (keep := fun b u e nt nb => x3 b u (keep b u e nb) nt) (x3 _ _ upd_same (fun _ z => by cases z)) nr) ?_ ?_
      · rw [step_height_yes e0]
        show upd H3 r (.lst [V.int ((us.map V.ref).length : Int)]) r = _
        rw [upd_same, lenU]
        rfl
      · rw [step_height_yes e0]
        exact FS'.ext x4
end
end Fl

set_option Elab.async false
set_option maxRecDepth 100000
set_option maxHeartbeats 4000000
/-! FlR4: shape, __init__. -/
namespace Fl
open PySem PySem.Spec PyProof.Rows L2 LamX
open HoBase (Sim before face)
def spShape (K : PySem.W.Frag) (C : Addr) (T : List (Addr × Str)) : Sp := fun vs H Q _ => ∃ (o no l : Addr) (st : Ho02.State) (ls : List Addr) (rows : List (List Int)), vs = [.ref o, .ref l] ∧ SqL K H l (ls.map V.ref) ∧ Paired (fun r t => SqL K H t (r.map V.int)) rows ls ∧ rows.length ≤ 60 ∧ (∀ r ∈ rows, r.length ≤ 6) ∧
  FSat C H o st no ∧ Tabs T H ∧ (∃ ys, H no = some (.lst ys)) ∧ Ans C T H Q o no st (.shape rows)
theorem step_shape_no {st : Ho02.State} {rows : List (List Int)} {r : List Int} (hr : r ∈ rows) (h : ¬ Told r) : Ho02.step st (.shape rows) = (st, [-1]) := by
  show (match rows.mapM Ho02.simOf with
    | none => (st, [-1])
    | some x => _) = _
  rw [mapM_none hr h]
theorem step_shape_some {st : Ho02.State} {rows : List (List Int)} (h : ∀ r ∈ rows, Told r) : Ho02.step st (.shape rows) = if 60 < (HoBase.closed (rows.map simGet)).length then (st, [-2]) else ({ st with shape := HoBase.closed (rows.map simGet) }, [((HoBase.closed (rows.map simGet)).length : Int)]) := by
  show (match rows.mapM Ho02.simOf with
    | none => (st, [-1])
    | some x => if Ho02.MOST < (HoBase.closed x).length then (st, [-2]) else ({ st with shape := HoBase.closed x }, [Ho02.nat (HoBase.closed x).length])) = _
  rw [mapM_some h]
  rfl
theorem seqs_same {K : PySem.W.Frag} {H H' : Hp} (s : L2.Same H H') {rows : List (List Int)} {ls : List Addr} (p : Paired (fun r t => SqL K H t (r.map V.int)) rows ls) : Paired (fun r t => SqL K H' t (r.map V.int)) rows ls := L2.Paired.mapP p fun _ _ h => s.seq h
abbrev rTupOf (K : PySem.W.Frag) : List V → Hp → VK → Prop := fun xs H Q => ∃ p ys, xs = [.ref p] ∧ ((SqL K H p ys ∧ ∀ l, H l = none → Q (.ref l) (upd H l (.tup ys))) ∨ (SqT K H p ys ∧ Q (.ref p) H))
section
variable {P : Program} {w : World} {K : PySem.W.Frag} {mg : Str → Option Value} {base : Heap} {C : Addr} {TB : List (Addr × Str)}
theorem scSH : FnScope ["self", "simplices", "closed", "corners"] ["self", "simplices"] (defScope mShape) := ⟨rfl, rfl, rfl, by decide +kernel, rfl, by decide +kernel, by decide +kernel⟩
theorem ok_shape {f : Addr} {fd : FuncData} {t1 t2 t60 : Tok} (F : Fun K "shape" "FloodedShape.shape" mShape f fd) (T : Txt mg) (TC : TxtC K C) (g1 : mg "NOT_A_SIMPLEX" = some (.int (-1) t1)) (g2 : mg "TOO_MANY_SIMPLICES" = some (.int (-2) t2)) (g60 : mg "MOST_SIMPLICES" = some (.int 60 t60))
    (DI : Df P w K mg base 1 "is_simplex" ["corners"] (spIsSimplex K)) (DW : Df P w K mg base 4 "with_all_faces" ["simplices"] (spWithAll K TB)) :
    FnOk P w K mg base CX0 8 f fd ["self", "simplices"] (spShape K C TB) := by
  obtain ⟨fI, fdI, GI, mI, kI, bI⟩ := DI.ex
  obtain ⟨fW, fdW, GW, mW, kW, bW⟩ := DW.ex
  refine F.ok scSH (fun vs H Q E h => ?_) (fun cdv A outer s H vs Q E hr h => ?_)
  · obtain ⟨o, no, l, st, ls, rows, rfl, _⟩ := h
    rfl
  · obtain ⟨o, no, l, st, ls, rows, rfl, hl0, pr, l60, l6, FS, hT, ⟨ys, hno⟩, k⟩ := h
    obtain ⟨dx, sl, hl, ts, h1, h2, h3, h4, n5, n6⟩ := FS.ex
    have hr1 : Room 1 _ := hr.mono (by decide)
    have hr4 : Room 4 _ := hr.mono (by decide)
    refine ⟨_, pss_cons (ps_if (pt_not (pt_val (pe_callB (cr_all rfl) (by rfl) T.all (by decide +kernel) (pa_cons
        (pe_lc (te := tCall (spIsSimplex K) [] E0 (tCons (tVar 3) tNil)) (own := [("corners", 3)]) (g := gName 3) (tt := tYes) rfl scSH.nd (pi_list (pv 1)) (blkOk_by (own := [("corners", 3)]) (N := ["self", "simplices", "closed", "corners"]) (sc := defScope mShape) (by decide +kernel)) (fun _ _ _ _ _ => pg_name (i := 3) scSH.nd rfl (Or.inl rfl)) (fun _ _ _ _ _ => pts_nil)
          (fun _ _ _ _ _ => pe_call GI hr1 rfl mI kI bI .nil pass0 (pa_cons (pv 3) pa_nil))) pa_nil)))) (pss_one (ps_ret (pe_lst (pa_cons (pe_glob (v := .int (-1)) rfl g1 ⟨_, rfl⟩) pa_nil)))) pss_nil)
      (pss_cons (ps_set (i := 2) scSH.nd rfl (Or.inl rfl) (pe_call GW hr4 rfl mW kW bW .nil pass0 (pa_cons
        (pe_lc (te := tCB (rTupOf K) (tCons (tCB (rSortedI K) (tCons (tVar 3) tNil)) tNil)) (own := [("corners", 3)]) (g := gName 3) (tt := tYes) rfl scSH.nd (pi_list (pv 1)) (blkOk_by (own := [("corners", 3)]) (N := ["self", "simplices", "closed", "corners"]) (sc := defScope mShape) (by decide +kernel)) (fun _ _ _ _ _ => pg_name (i := 3) scSH.nd rfl (Or.inl rfl)) (fun _ _ _ _ _ => pts_nil)
          (fun _ _ _ _ _ => pe_callTy call_tuple_of (by rfl) T.tuple (by decide +kernel) (pa_cons (pe_callB cr_sortedI (by rfl) T.sorted (by decide +kernel) (pa_cons (pv 3) pa_nil)) pa_nil))) pa_nil)))
      (pss_cons (ps_if (pt_cmpR op_gt (pe_callB call_len_seq (by rfl) T.len PySem.boot_len (pa_cons (pv 2) pa_nil)) (pe_glob (v := .int 60) rfl g60 ⟨_, rfl⟩) (nomark _)) (pss_one (ps_ret (pe_lst (pa_cons (pe_glob (v := .int (-2)) rfl g2 ⟨_, rfl⟩) pa_nil)))) pss_nil)
      (pss_cons (ps_fld (pv 0) (pv 2) rfl)
      (pss_one (ps_ret (pe_lst (pa_cons (pe_callB call_len_seq (by rfl) T.len PySem.boot_len (pa_cons (pv 2) pa_nil)) pa_nil))))))), ?_⟩
    have lenL : ls.length = rows.length := (paired_len pr).symm
    dsimp only [tSeq, tIfS, tNot, tB, tCB, tCons, tNil]
    refine tLc_of ?_
    refine ⟨_, rfl, l, rfl, ⟨_, hl0⟩, lc_known (rows.map fun r => V.bl (isSimplex r)) (by rw [List.length_map, List.length_map, lenL]) (by rw [List.length_map, sizeLine_eq]; omega) hl0 (fun j x y H' hx hy sm R hR => ?_) fun H1 p s1 np hp => ?_⟩
    · obtain ⟨t, ht, rfl⟩ := map_at hx
      obtain ⟨r, hr', rfl⟩ := map_at hy
      obtain ⟨r2, hr2, hrt⟩ := paired_at pr ht
      obtain rfl : r = r2 := Option.some.inj (hr'.symm.trans hr2)
      have rl := l6 r (List.mem_of_getElem? hr')
      exact ⟨_, rfl, t, r, rfl, sm.seq hrt, by omega, fun H2 s2 => hR H2 s2⟩
    refine ⟨p, rows.map isSimplex, rfl, SqL.of (by rw [List.map_map]; exact hp), _, rfl, ?_⟩
    cases e0 : (rows.map isSimplex).all id with
    | false =>
      refine iteT ⟨by show 1 ≤ sizeLine; decide, fun q nq => ?_⟩
      obtain ⟨r, hr', nr⟩ : ∃ r ∈ rows, ¬ Told r := by
        rw [List.all_eq_false] at e0
        obtain ⟨b, hb, nb⟩ := e0
        obtain ⟨r, hr', rfl⟩ := List.mem_map.mp hb
        exact ⟨r, hr', isSimplex_no (by simpa using nb)⟩
      exact k.ro FS (ans := [-1]) (step_shape_no hr' nr) (same_extN (s1.trans (same_new nq))) (hT.ext (s1.trans (same_new nq))) (newN_of (same_extN s1) nq) upd_same
    | true =>
      have told : ∀ r ∈ rows, Told r := fun r hr' => isSimplex_iff.mp (by
        have := List.all_eq_true.mp e0 _ (List.mem_map.mpr ⟨r, hr', rfl⟩)
        simpa using this)
      have hl1 := s1.seq hl0
      have pr1 := seqs_same s1 pr
      refine iteF ?_
      dsimp only [tNext, tSeq, tAsg, tCall, tCons, tNil]
      refine tLc_of ?_
      refine ⟨_, rfl, l, rfl, ⟨_, hl1⟩, lc_tups (rows.map fun r => simV (simGet r)) (by rw [List.length_map, List.length_map, lenL]) (by rw [List.length_map, sizeLine_eq]; omega) hl1 (fun j x g H' hx hg sm R hR => ?_) fun H2 q us s2 nq hq pu => ?_⟩
      · obtain ⟨t, ht, rfl⟩ := map_at hx
        obtain ⟨r, hr', rfl⟩ := map_at hg
        obtain ⟨r2, hr2, hrt⟩ := paired_at pr1 ht
        obtain rfl : r = r2 := Option.some.inj (hr'.symm.trans hr2)
        have TD := told r (List.mem_of_getElem? hr')
        refine ⟨_, rfl, t, r, rfl, sm.seq hrt, fun ns' q pm le nq => ?_⟩
        refine ⟨q, _, rfl, .inl ⟨SqL.of upd_same, fun t nt => ?_⟩⟩
        refine hR _ t ((same_new nq).trans (same_new nt)) ?_
        rw [upd_same, told_simV TD pm le]
      have s12 := s1.trans s2
      have pu2 : Paired (fun x t => SqT K H2 t (simV x)) (rows.map simGet) us := paired_into simGet (L2.Paired.mapP (paired_map (fun r => simV (simGet r)) pu) fun _ _ h => SqT.of h)
      refine ⟨q, us, rows.map simGet, rfl, SqL.of hq, pu2, by rw [List.length_map]; exact l60, fun x hx => ?_, hT.ext s12, fun H3 c vs x3 t3 nc hc tc => ?_⟩
      · obtain ⟨r, hr', rfl⟩ := List.mem_map.mp hx
        exact (simGet_is (told r hr')).l4
      have x03 : ExtN H H3 := (same_extN s12).trans x3
      have lenV : vs.length = (HoBase.closed (rows.map simGet)).length := (paired_len tc).symm
      refine ⟨_, rfl, c, _, rfl, .inl (SqL.of hc), _, _, rfl, rfl, _, rfl, ite_b (fun c1 => ?_) fun c1 => ?_⟩
      · have many : 60 < (HoBase.closed (rows.map simGet)).length := by
          simp at c1
          omega
        refine ⟨by show 1 ≤ sizeLine; decide, fun r nr => ?_⟩
        refine k.ro FS (ans := [-2]) ?_ (x03.trans (same_extN (same_new nr))) (t3.ext (same_new nr)) (newN_of x03 nr) upd_same
        rw [step_shape_some told, if_pos many]
      · have few : ¬ 60 < (HoBase.closed (rows.map simGet)).length := by
          simp at c1
          omega
        have ins3 := x03 _ _ h1 (fun _ z => by cases z)
        refine ⟨_, rfl, _, rfl, o, C, dx, _, rfl, ins3, TC.cl, TC.nS, (by show 2 < 1000; decide), ?_⟩
        rw [put_s]
        have oc : c ≠ o := ne_of hc ins3 (by intro z; cases z)
        have keep : ∀ b u, H3 b = some u → b ≠ o → upd H3 o (.ins C dx (fF c hl)) b = some u := fun b u e nb => (upd_ne nb).trans e
        have hc4 := keep _ _ hc oc
        have cno : c ≠ no := fun z => nc no _ (s12 _ _ hno) (fun _ z => by cases z) z.symm
        have FS' : FSat C (upd H3 o (.ins C dx (fF c hl))) o { st with shape := HoBase.closed (rows.map simGet) } no := by
          refine ⟨⟨dx, c, hl, vs, upd_same, hc4, L2.Paired.mapP tc fun _ _ h => keep _ _ h (ne_of h ins3 (by intro z; cases z)), ?_, cno, n6⟩, cxOk_closed (fun x hx => ?_) (by omega), FS.len⟩
          · have h43 := x03 _ _ h4 (fun _ z => by cases z)
            exact keep _ _ h43 (ne_of h43 ins3 (by intro z; cases z))
          · obtain ⟨r, hr', rfl⟩ := List.mem_map.mp hx
            exact simGet_is (told r hr')
        have t4 : Tabs TB (upd H3 o (.ins C dx (fF c hl))) := tabs_but t3 ins3 keep
        refine ⟨_, rfl, c, _, rfl, .inl (SqL.of hc4), by show 1 ≤ sizeLine; decide, fun r nr => ?_⟩
        have sr := same_new (o := .lst [V.int ((vs.map V.ref).length : Int)]) nr
        refine k _ r (fun b u e nt nb => sr _ _ (keep _ _ (x03 _ _ e nt) nb)) (t4.ext sr) (new_but (keep := fun b u e nt nb => keep _ _ (x03 _ _ e nt) nb) upd_same nr) ?_ ?_
        · rw [step_shape_some told, if_neg few]
          show upd (upd H3 o (.ins C dx (fF c hl))) r (.lst [V.int ((vs.map V.ref).length : Int)]) r = _
          rw [upd_same, List.length_map, lenV]
          rfl
        · rw [step_shape_some told, if_neg few]
          exact FS'.ext (same_extN sr)
/-! ### __init__ -/
end
def spInit (C : Addr) : Sp := fun vs H Q _ => ∃ (o dx : Addr), vs = [.ref o] ∧ H o = some (.ins C dx []) ∧
  ∀ (H' : Hp) (sl hl : Addr), H' o = some (.ins C dx (fF sl hl)) → H' sl = some (.lst []) → H' hl = some (.lst ((List.replicate 10 0).map nv)) → (∀ b u, H b = some u → b ≠ o → H' b = some u) → Q .non H'
theorem put_s0 (sl : Addr) : putF "simplices" (.ref sl) [] = [(("simplices" : Str), V.ref sl)] := rfl
theorem put_h0 (sl hl : Addr) : putF "heights" (.ref hl) [(("simplices" : Str), V.ref sl)] = fF sl hl := by
  have e : ¬ (("simplices" : Str) = "heights") := by decide +kernel
  show (if ("simplices" : Str) = "heights" then _ else _) = _
  rw [if_neg e]
  rfl
section
variable {P : Program} {w : World} {K : PySem.W.Frag} {mg : Str → Option Value} {base : Heap} {C : Addr}
theorem scIN : FnScope ["self"] ["self"] (defScope sInit) := ⟨rfl, rfl, rfl, by decide +kernel, rfl, by decide +kernel, by decide +kernel⟩
theorem ok_init {f : Addr} {fd : FuncData} (F : Fun K "__init__" "FloodedShape.__init__" sInit f fd) (T : Txt mg) (TC : TxtC K C) : FnOk P w K mg base CX0 1 f fd ["self"] (spInit C) := by
  obtain ⟨t10, g10⟩ := T.corners
  refine F.ok scIN (fun vs H Q E h => ?_) (fun cdv A outer s H vs Q E hr h => ?_)
  · obtain ⟨o, dx, rfl, _⟩ := h
    rfl
  · obtain ⟨o, dx, rfl, ho, k⟩ := h
    refine ⟨_, pss_cons (ps_fld (pv 0) (pe_lst pa_nil) rfl) (pss_one (ps_fld (pv 0) (pe_op op_rep (pe_lst (pa_cons pe_int pa_nil)) (pe_glob (v := .int 10) rfl g10 ⟨_, rfl⟩)) rfl)), ?_⟩
    refine ⟨Nat.zero_le _, fun sl nsl => ?_⟩
    have s1 := same_new (o := .lst []) nsl
    have so : sl ≠ o := (ne_of_none ho nsl).symm
    refine ⟨_, rfl, o, C, dx, [], rfl, s1 _ _ ho, TC.cl, TC.nS, (by show 0 < 1000; decide), ?_⟩
    rw [put_s0]
    refine ⟨by show 1 ≤ sizeLine; decide, fun q nq => ?_⟩
    have s2 := same_new (o := .lst [.int 0]) nq
    refine ⟨q, 10, _, rfl, rfl, upd_same, by decide, by decide, by show 1 * 10 ≤ sizeLine; decide, fun hl nhl => ?_⟩
    have s3 := same_new (o := .lst (List.replicate (10 : Int).toNat [V.int 0]).flatten) nhl
    have ins1 := s3 _ _ (s2 _ _ (upd_same (H := upd H sl (.lst [])) (a := o) (o := .ins C dx [(("simplices" : Str), V.ref sl)])))
    have ho' : hl ≠ o := (ne_of_none (s2 _ _ upd_same) nhl).symm
    refine ⟨_, rfl, o, C, dx, _, rfl, ins1, TC.cl, TC.nH, (by show 1 < 1000; decide), ?_⟩
    rw [put_h0]
    refine k _ sl hl upd_same ?_ ?_ fun b u e nb => ?_
    · rw [upd_ne so]
      exact s3 _ _ (s2 _ _ ((upd_ne so).trans upd_same))
    · rw [upd_ne ho', upd_same]
      rfl
    · rw [upd_ne nb]
      exact s3 _ _ (s2 _ _ ((upd_ne nb).trans (s1 _ _ e)))
end
end Fl

set_option Elab.async false
set_option maxRecDepth 100000
set_option maxHeartbeats 4000000
/-! FlR5: the calls as they are told; answer_of. -/
namespace Fl
open PySem PySem.Spec PyProof.Rows L2 LamX
open HoBase (Sim before face)
/-- a call, its numbers, its lists -/
inductive CallIs : Int → List Int → List (List Int) → Ho02.Call → Prop
  | shape (rows : List (List Int)) : rows.length ≤ 60 → (∀ r ∈ rows, r.length ≤ 6) → CallIs 0 [] rows (.shape rows)
  | height (ns : List Int) : ns.length ≤ 1000 → CallIs 1 ns [] (.height ns)
  | row : CallIs 2 [] [] .row
  | pairs : CallIs 3 [] [] .pairs
  | bars (d : Nat) : CallIs 4 [(d : Int)] [] (.bars d)
  | at_ (t : Nat) : CallIs 5 [(t : Int)] [] (.at_ t)
  | lasting (a b : Nat) : CallIs 6 [(a : Int), (b : Int)] [] (.lasting a b)
  | longest (d : Nat) : CallIs 7 [(d : Int)] [] (.longest d)
  | swamped (t : Nat) : CallIs 8 [(t : Int)] [] (.swamped t)
  | partner (ns : List Int) : ns.length ≤ 1000 → CallIs 9 ns [] (.partner ns)
theorem callIs_of {p : Int} {ns : List Int} {rows : List (List Int)} {c : Ho02.Call} (h : CallIs p ns rows c) : Ho02.callOf ((p :: ns) :: rows) = some c := by
  cases h with
  | shape => rfl
  | height => rfl
  | row => rfl
  | pairs => rfl
  | bars d => rfl
  | at_ t => rfl
  | lasting a b => rfl
  | longest d => rfl
  | swamped t => rfl
  | partner => rfl
/-- what the specification asks of a call's form -/
def fitsAs (a : List (Int × Int)) (m1 m2 : Nat) (lo hi : Int) (r : List (Int × Int × Nat × Nat)) (k n1 n2 : Nat) (llo lhi : Int) (l1 l2 : Nat) (xs : List Int) (rows : List (List Int)) : Bool :=
  decide (a.length ≤ xs.length) && PyInside.each a xs && decide (m1 ≤ (xs.drop a.length).length) && decide ((xs.drop a.length).length ≤ m2) && (xs.drop a.length).all (PyInside.within lo hi) && decide (r.length ≤ rows.length) && decide (n1 ≤ ((rows.drop k).take (rows.length - r.length)).length) && decide (((rows.drop k).take (rows.length - r.length)).length ≤ n2) && ((rows.drop k).take (rows.length - r.length)).all (fun l => decide (l1 ≤ l.length) && decide (l.length ≤ l2) && l.all (PyInside.within llo lhi)) && PyInside.lists r (rows.take k ++ rows.drop (k + (rows.length - r.length)))
theorem fitsAs_0 {xs : List Int} {rows : List (List Int)} (h : fitsAs [] 0 0 0 0 [] 0 0 60 (-4294967295) 4294967295 0 6 xs rows = true) : xs = [] ∧ rows.length ≤ 60 ∧ ∀ r ∈ rows, r.length ≤ 6 := by
  unfold fitsAs at h
  simp only [Bool.and_eq_true, decide_eq_true_eq, List.length_nil, List.drop_zero, Nat.sub_zero, List.take_length, List.all_eq_true] at h
  obtain ⟨⟨⟨⟨⟨⟨⟨⟨⟨_, _⟩, _⟩, h1⟩, _⟩, _⟩, _⟩, h2⟩, h3⟩, _⟩ := h
  exact ⟨List.eq_nil_of_length_eq_zero (by omega), h2, fun r hr => (h3 r hr).1.2⟩
theorem fitsAs_m {m : Nat} {lo hi : Int} {xs : List Int} {rows : List (List Int)} (h : fitsAs [] 0 m lo hi [] 0 0 0 0 0 0 0 xs rows = true) : xs.length ≤ m ∧ rows = [] := by
  unfold fitsAs at h
  simp only [Bool.and_eq_true, decide_eq_true_eq, List.length_nil, List.drop_zero, Nat.sub_zero, List.take_length, List.all_eq_true] at h
  obtain ⟨⟨⟨⟨⟨⟨⟨⟨⟨_, _⟩, _⟩, h1⟩, _⟩, _⟩, _⟩, h2⟩, _⟩, _⟩ := h
  exact ⟨h1, List.eq_nil_of_length_eq_zero (by omega)⟩
theorem fitsAs_1 {u : Int} {xs : List Int} {rows : List (List Int)} (h : fitsAs [(0, u)] 0 0 0 0 [] 0 0 0 0 0 0 0 xs rows = true) : (∃ d : Nat, xs = [(d : Int)]) ∧ rows = [] := by
  unfold fitsAs at h
  simp only [Bool.and_eq_true, decide_eq_true_eq, List.length_nil, List.drop_zero, Nat.sub_zero, List.take_length, List.all_eq_true, List.length_cons] at h
  obtain ⟨⟨⟨⟨⟨⟨⟨⟨⟨h0, h5⟩, _⟩, h1⟩, _⟩, _⟩, _⟩, h2⟩, _⟩, _⟩ := h
  refine ⟨?_, List.eq_nil_of_length_eq_zero (by omega)⟩
  match xs, h0, h1, h5 with
  | [], h0, _, _ => simp at h0
  | [x], _, _, h5 =>
    simp only [PyInside.each, PyInside.within, Bool.and_eq_true, decide_eq_true_eq, and_true] at h5
    exact ⟨x.toNat, by rw [Int.toNat_of_nonneg h5.1]⟩
  | _ :: _ :: _, _, h1, _ => simp at h1
theorem fitsAs_2 {u v : Int} {xs : List Int} {rows : List (List Int)} (h : fitsAs [(0, u), (0, v)] 0 0 0 0 [] 0 0 0 0 0 0 0 xs rows = true) : (∃ a b : Nat, xs = [(a : Int), (b : Int)]) ∧ rows = [] := by
  unfold fitsAs at h
  simp only [Bool.and_eq_true, decide_eq_true_eq, List.length_nil, List.drop_zero, Nat.sub_zero, List.take_length, List.all_eq_true, List.length_cons] at h
  obtain ⟨⟨⟨⟨⟨⟨⟨⟨⟨h0, h5⟩, _⟩, h1⟩, _⟩, _⟩, _⟩, h2⟩, _⟩, _⟩ := h
  refine ⟨?_, List.eq_nil_of_length_eq_zero (by omega)⟩
  match xs, h0, h1, h5 with
  | [], h0, _, _ => simp at h0
  | [_], h0, _, _ => simp at h0
  | [x, y], _, _, h5 =>
    simp only [PyInside.each, PyInside.within, Bool.and_eq_true, decide_eq_true_eq, and_true] at h5
    exact ⟨x.toNat, y.toNat, by rw [Int.toNat_of_nonneg h5.1.1, Int.toNat_of_nonneg h5.2.1]⟩
  | _ :: _ :: _ :: _, _, h1, _ => simp at h1
theorem fits_call {p : Int} {xs : List Int} {rows : List (List Int)} (h : PyHo02.fits ((p :: xs) :: rows) = true) : ∃ c, CallIs p xs rows c := by
  by_cases e0 : p = 0
  · subst e0
    obtain ⟨rfl, h2, h3⟩ := fitsAs_0 (xs := xs) (rows := rows) h
    exact ⟨_, .shape rows h2 h3⟩
  by_cases e1 : p = 1
  · subst e1
    obtain ⟨h1, rfl⟩ := fitsAs_m (m := 12) (lo := -4294967295) (hi := 4294967295) (xs := xs) (rows := rows) h
    exact ⟨_, .height xs (by omega)⟩
  by_cases e2 : p = 2
  · subst e2
    obtain ⟨h1, rfl⟩ := fitsAs_m (m := 0) (lo := 0) (hi := 0) (xs := xs) (rows := rows) h
    obtain rfl := List.eq_nil_of_length_eq_zero (Nat.le_zero.mp h1)
    exact ⟨_, .row⟩
  by_cases e3 : p = 3
  · subst e3
    obtain ⟨h1, rfl⟩ := fitsAs_m (m := 0) (lo := 0) (hi := 0) (xs := xs) (rows := rows) h
    obtain rfl := List.eq_nil_of_length_eq_zero (Nat.le_zero.mp h1)
    exact ⟨_, .pairs⟩
  by_cases e4 : p = 4
  · subst e4
    obtain ⟨⟨d, rfl⟩, rfl⟩ := fitsAs_1 (u := 4294967295) (xs := xs) (rows := rows) h
    exact ⟨_, .bars d⟩
  by_cases e5 : p = 5
  · subst e5
    obtain ⟨⟨d, rfl⟩, rfl⟩ := fitsAs_1 (u := 4294967295) (xs := xs) (rows := rows) h
    exact ⟨_, .at_ d⟩
  by_cases e6 : p = 6
  · subst e6
    obtain ⟨⟨a, b, rfl⟩, rfl⟩ := fitsAs_2 (u := 4294967295) (v := 4294967295) (xs := xs) (rows := rows) h
    exact ⟨_, .lasting a b⟩
  by_cases e7 : p = 7
  · subst e7
    obtain ⟨⟨d, rfl⟩, rfl⟩ := fitsAs_1 (u := 4294967295) (xs := xs) (rows := rows) h
    exact ⟨_, .longest d⟩
  by_cases e8 : p = 8
  · subst e8
    obtain ⟨⟨d, rfl⟩, rfl⟩ := fitsAs_1 (u := 4294967295) (xs := xs) (rows := rows) h
    exact ⟨_, .swamped d⟩
  by_cases e9 : p = 9
  · subst e9
    obtain ⟨h1, rfl⟩ := fitsAs_m (m := 6) (lo := -4294967295) (hi := 4294967295) (xs := xs) (rows := rows) h
    exact ⟨_, .partner xs (by omega)⟩
  · exfalso
    have f : PyHo02.form p = none := by
      unfold PyHo02.form
      rw [if_neg e0, if_neg e1, if_neg e2, if_neg e3, if_neg e4, if_neg e5, if_neg e6, if_neg e7, if_neg e8, if_neg e9]
    unfold PyHo02.fits at h
    dsimp only at h
    rw [f] at h
    cases h
/-! ### answer_of -/
def spAnswerOf (K : PySem.W.Frag) (C : Addr) (T : List (Addr × Str)) : Sp := fun vs H Q _ => ∃ (o no a l : Addr) (st : Ho02.State) (ls : List Addr) (p : Int) (ns : List Int) (rows : List (List Int)) (c : Ho02.Call), vs = [.ref o, .int p, .ref a, .ref l] ∧ SqL K H a (ns.map V.int) ∧ SqL K H l (ls.map V.ref) ∧ Paired (fun r t => SqL K H t (r.map V.int)) rows ls ∧ CallIs p ns rows c ∧
  FSat C H o st no ∧ Tabs T H ∧ (∃ ys, H no = some (.lst ys)) ∧ Ans C T H Q o no st c
structure CallTxt (mg : Str → Option Value) : Prop where
  c0 : ∃ t, mg "SHAPE" = some (.int 0 t)
  c1 : ∃ t, mg "HEIGHT" = some (.int 1 t)
  c2 : ∃ t, mg "ROW_OF" = some (.int 2 t)
  c3 : ∃ t, mg "PAIRS" = some (.int 3 t)
  c4 : ∃ t, mg "BARS" = some (.int 4 t)
  c5 : ∃ t, mg "AT" = some (.int 5 t)
  c6 : ∃ t, mg "LASTING" = some (.int 6 t)
  c7 : ∃ t, mg "LONGEST" = some (.int 7 t)
  c8 : ∃ t, mg "SWAMPED" = some (.int 8 t)
  c9 : ∃ t, mg "PARTNER" = some (.int 9 t)
theorem skipI {p k : Int} {A B : Prop} (h : p ≠ k) (hB : B) : if decide (V.int p = V.int k) = true then A else B := by
  rw [decide_eq_false fun z => h (V.int.inj z)]
  exact iteF hB
theorem takeI {p : Int} {A B : Prop} (hA : A) : if decide (V.int p = V.int p) = true then A else B := by
  rw [decide_eq_true rfl]
  exact iteT hA
section
variable {P : Program} {w : World} {K : PySem.W.Frag} {mg : Str → Option Value} {base : Heap} {C : Addr} {TB : List (Addr × Str)}
theorem scAO : FnScope ["flooded", "call", "numbers", "lists"] ["flooded", "call", "numbers", "lists"] (defScope sAnswerOf) := ⟨rfl, rfl, rfl, by decide +kernel, rfl, by decide +kernel, by decide +kernel⟩
theorem ok_answerOf {f : Addr} {fd : FuncData} (F : Fun K "answer_of" "answer_of" sAnswerOf f fd) (TC : TxtC K C) (CT : CallTxt mg)
    (M0 : Md P w K mg base C 8 "shape" ["self", "simplices"] (spShape K C TB)) (M1 : Md P w K mg base C 8 "height" ["self", "heights"] (spHeight K C TB)) (M2 : Md P w K mg base C 8 "row_of" ["self"] (spRowOf C TB)) (M3 : Md P w K mg base C 8 "pairs" ["self"] (spPairsM C TB))
    (M4 : Md P w K mg base C 8 "bars" ["self", "dimension"] (spBarsM C TB)) (M5 : Md P w K mg base C 8 "at" ["self", "height"] (spAt C TB)) (M6 : Md P w K mg base C 8 "lasting" ["self", "height", "other"] (spLasting C TB)) (M7 : Md P w K mg base C 8 "longest" ["self", "dimension"] (spLongest C TB))
    (M8 : Md P w K mg base C 8 "swamped" ["self", "height"] (spSwamped C TB)) (M9 : Md P w K mg base C 8 "partner" ["self", "corners"] (spPartner K C TB)) :
    FnOk P w K mg base CX0 9 f fd ["flooded", "call", "numbers", "lists"] (spAnswerOf K C TB) := by
  obtain ⟨f0, fd0, G0, m0, b0⟩ := M0.ex
  obtain ⟨f1, fd1, G1, m1, b1⟩ := M1.ex
  obtain ⟨f2, fd2, G2, m2, b2⟩ := M2.ex
  obtain ⟨f3, fd3, G3, m3, b3⟩ := M3.ex
  obtain ⟨f4, fd4, G4, m4, b4⟩ := M4.ex
  obtain ⟨f5, fd5, G5, m5, b5⟩ := M5.ex
  obtain ⟨f6, fd6, G6, m6, b6⟩ := M6.ex
  obtain ⟨f7, fd7, G7, m7, b7⟩ := M7.ex
  obtain ⟨f8, fd8, G8, m8, b8⟩ := M8.ex
  obtain ⟨f9, fd9, G9, m9, b9⟩ := M9.ex
  obtain ⟨t0, g0⟩ := CT.c0
  obtain ⟨t1, g1⟩ := CT.c1
  obtain ⟨t2, g2⟩ := CT.c2
  obtain ⟨t3, g3⟩ := CT.c3
  obtain ⟨t4, g4⟩ := CT.c4
  obtain ⟨t5, g5⟩ := CT.c5
  obtain ⟨t6, g6⟩ := CT.c6
  obtain ⟨t7, g7⟩ := CT.c7
  obtain ⟨t8, g8⟩ := CT.c8
  obtain ⟨t9, g9⟩ := CT.c9
  refine F.ok scAO (fun vs H Q E h => ?_) (fun cdv A outer s H vs Q E hr h => ?_)
  · obtain ⟨o, no, a, l, st, ls, p, ns, rows, c, rfl, _⟩ := h
    rfl
  · obtain ⟨o, no, a, l, st, ls, p, ns, rows, c, rfl, ha, hl0, pr, ci, FS, hT, hno, k⟩ := h
    obtain ⟨dx, sl, hl, ts, h1, _⟩ := FS.ex
    refine ⟨_, pss_cons (ps_if (pt_cmpR op_eq (pv 1) (pe_glob (v := .int 0) rfl g0 ⟨_, rfl⟩) (nomark _)) (pss_one (ps_ret (pe_meth (pv 0) TC.cl m0 G0 hr b0 .nil pass0 (pa_cons (pv 3) pa_nil)))) pss_nil)
      (pss_cons (ps_if (pt_cmpR op_eq (pv 1) (pe_glob (v := .int 1) rfl g1 ⟨_, rfl⟩) (nomark _)) (pss_one (ps_ret (pe_meth (pv 0) TC.cl m1 G1 hr b1 .nil pass0 (pa_cons (pv 2) pa_nil)))) pss_nil)
      (pss_cons (ps_if (pt_cmpR op_eq (pv 1) (pe_glob (v := .int 2) rfl g2 ⟨_, rfl⟩) (nomark _)) (pss_one (ps_ret (pe_meth0 (pv 0) TC.cl m2 G2 hr b2 .nil pass0))) pss_nil)
      (pss_cons (ps_if (pt_cmpR op_eq (pv 1) (pe_glob (v := .int 3) rfl g3 ⟨_, rfl⟩) (nomark _)) (pss_one (ps_ret (pe_meth0 (pv 0) TC.cl m3 G3 hr b3 .nil pass0))) pss_nil)
      (pss_cons (ps_if (pt_cmpR op_eq (pv 1) (pe_glob (v := .int 4) rfl g4 ⟨_, rfl⟩) (nomark _)) (pss_one (ps_ret (pe_meth (pv 0) TC.cl m4 G4 hr b4 .nil pass0 (pa_cons (pe_ix ix_list (pv 2) pe_int (fun _ _ => rfl)) pa_nil)))) pss_nil)
      (pss_cons (ps_if (pt_cmpR op_eq (pv 1) (pe_glob (v := .int 5) rfl g5 ⟨_, rfl⟩) (nomark _)) (pss_one (ps_ret (pe_meth (pv 0) TC.cl m5 G5 hr b5 .nil pass0 (pa_cons (pe_ix ix_list (pv 2) pe_int (fun _ _ => rfl)) pa_nil)))) pss_nil)
      (pss_cons (ps_if (pt_cmpR op_eq (pv 1) (pe_glob (v := .int 6) rfl g6 ⟨_, rfl⟩) (nomark _)) (pss_one (ps_ret (pe_meth (pv 0) TC.cl m6 G6 hr b6 .nil pass0 (pa_cons (pe_ix ix_list (pv 2) pe_int (fun _ _ => rfl)) (pa_cons (pe_ix ix_list (pv 2) pe_int (fun _ _ => rfl)) pa_nil))))) pss_nil)
      (pss_cons (ps_if (pt_cmpR op_eq (pv 1) (pe_glob (v := .int 7) rfl g7 ⟨_, rfl⟩) (nomark _)) (pss_one (ps_ret (pe_meth (pv 0) TC.cl m7 G7 hr b7 .nil pass0 (pa_cons (pe_ix ix_list (pv 2) pe_int (fun _ _ => rfl)) pa_nil)))) pss_nil)
      (pss_cons (ps_if (pt_cmpR op_eq (pv 1) (pe_glob (v := .int 8) rfl g8 ⟨_, rfl⟩) (nomark _)) (pss_one (ps_ret (pe_meth (pv 0) TC.cl m8 G8 hr b8 .nil pass0 (pa_cons (pe_ix ix_list (pv 2) pe_int (fun _ _ => rfl)) pa_nil)))) pss_nil)
      (pss_cons (ps_if (pt_cmpR op_eq (pv 1) (pe_glob (v := .int 9) rfl g9 ⟨_, rfl⟩) (nomark _)) (pss_one (ps_ret (pe_meth (pv 0) TC.cl m9 G9 hr b9 .nil pass0 (pa_cons (pv 2) pa_nil)))) pss_nil)
      (pss_one ps_never)))))))))), ?_⟩
    have no_ : ∀ {m : Str}, (m == ("simplices" : Str)) = false → (m == ("heights" : Str)) = false → (fF sl hl).lookup m = none := fun h1 h2 => fF_no sl hl h1 h2
    cases ci with
    | shape _ l60 l6 =>
      refine ⟨_, rfl, rfl, _, rfl, takeI ?_⟩
      exact ⟨_, rfl, o, dx, _, rfl, h1, no_ (by decide +kernel) (by decide +kernel), _, rfl, o, no, l, st, ls, rows, rfl, hl0, pr, l60, l6, FS, hT, hno, k⟩
    | height _ len =>
      refine ⟨_, rfl, rfl, _, rfl, skipI (by decide) ?_⟩
      refine ⟨_, rfl, rfl, _, rfl, takeI ?_⟩
      exact ⟨_, rfl, o, dx, _, rfl, h1, no_ (by decide +kernel) (by decide +kernel), _, rfl, o, no, a, st, ns, rfl, ha, len, FS, hT, hno, k⟩
    | row =>
      refine ⟨_, rfl, rfl, _, rfl, skipI (by decide) ?_⟩
      refine ⟨_, rfl, rfl, _, rfl, skipI (by decide) ?_⟩
      refine ⟨_, rfl, rfl, _, rfl, takeI ?_⟩
      exact ⟨_, rfl, o, dx, _, rfl, h1, no_ (by decide +kernel) (by decide +kernel), o, no, st, rfl, FS, hT, k⟩
    | pairs =>
      refine ⟨_, rfl, rfl, _, rfl, skipI (by decide) ?_⟩
      refine ⟨_, rfl, rfl, _, rfl, skipI (by decide) ?_⟩
      refine ⟨_, rfl, rfl, _, rfl, skipI (by decide) ?_⟩
      refine ⟨_, rfl, rfl, _, rfl, takeI ?_⟩
      exact ⟨_, rfl, o, dx, _, rfl, h1, no_ (by decide +kernel) (by decide +kernel), o, no, st, rfl, FS, hT, k⟩
    | bars d =>
      refine ⟨_, rfl, rfl, _, rfl, skipI (by decide) ?_⟩
      refine ⟨_, rfl, rfl, _, rfl, skipI (by decide) ?_⟩
      refine ⟨_, rfl, rfl, _, rfl, skipI (by decide) ?_⟩
      refine ⟨_, rfl, rfl, _, rfl, skipI (by decide) ?_⟩
      refine ⟨_, rfl, rfl, _, rfl, takeI ?_⟩
      exact ⟨_, rfl, o, dx, _, rfl, h1, no_ (by decide +kernel) (by decide +kernel), _, rfl, a, _, _, _, rfl, rfl, ha, at_of (j := 0) rfl rfl, o, no, st, d, rfl, FS, hT, k⟩
    | at_ t =>
      refine ⟨_, rfl, rfl, _, rfl, skipI (by decide) ?_⟩
      refine ⟨_, rfl, rfl, _, rfl, skipI (by decide) ?_⟩
      refine ⟨_, rfl, rfl, _, rfl, skipI (by decide) ?_⟩
      refine ⟨_, rfl, rfl, _, rfl, skipI (by decide) ?_⟩
      refine ⟨_, rfl, rfl, _, rfl, skipI (by decide) ?_⟩
      refine ⟨_, rfl, rfl, _, rfl, takeI ?_⟩
      exact ⟨_, rfl, o, dx, _, rfl, h1, no_ (by decide +kernel) (by decide +kernel), _, rfl, a, _, _, _, rfl, rfl, ha, at_of (j := 0) rfl rfl, o, no, st, t, rfl, FS, hT, k⟩
    | lasting u v =>
      refine ⟨_, rfl, rfl, _, rfl, skipI (by decide) ?_⟩
      refine ⟨_, rfl, rfl, _, rfl, skipI (by decide) ?_⟩
      refine ⟨_, rfl, rfl, _, rfl, skipI (by decide) ?_⟩
      refine ⟨_, rfl, rfl, _, rfl, skipI (by decide) ?_⟩
      refine ⟨_, rfl, rfl, _, rfl, skipI (by decide) ?_⟩
      refine ⟨_, rfl, rfl, _, rfl, skipI (by decide) ?_⟩
      refine ⟨_, rfl, rfl, _, rfl, takeI ?_⟩
      exact ⟨_, rfl, o, dx, _, rfl, h1, no_ (by decide +kernel) (by decide +kernel), _, rfl, a, _, _, _, rfl, rfl, ha, at_of (j := 0) rfl rfl, _, rfl, a, _, _, _, rfl, rfl, ha, at_of (j := 1) rfl rfl, o, no, st, u, v, rfl, FS, hT, k⟩
    | longest d =>
      refine ⟨_, rfl, rfl, _, rfl, skipI (by decide) ?_⟩
      refine ⟨_, rfl, rfl, _, rfl, skipI (by decide) ?_⟩
      refine ⟨_, rfl, rfl, _, rfl, skipI (by decide) ?_⟩
      refine ⟨_, rfl, rfl, _, rfl, skipI (by decide) ?_⟩
      refine ⟨_, rfl, rfl, _, rfl, skipI (by decide) ?_⟩
      refine ⟨_, rfl, rfl, _, rfl, skipI (by decide) ?_⟩
      refine ⟨_, rfl, rfl, _, rfl, skipI (by decide) ?_⟩
      refine ⟨_, rfl, rfl, _, rfl, takeI ?_⟩
      exact ⟨_, rfl, o, dx, _, rfl, h1, no_ (by decide +kernel) (by decide +kernel), _, rfl, a, _, _, _, rfl, rfl, ha, at_of (j := 0) rfl rfl, o, no, st, d, rfl, FS, hT, k⟩
    | swamped t =>
      refine ⟨_, rfl, rfl, _, rfl, skipI (by decide) ?_⟩
      refine ⟨_, rfl, rfl, _, rfl, skipI (by decide) ?_⟩
      refine ⟨_, rfl, rfl, _, rfl, skipI (by decide) ?_⟩
      refine ⟨_, rfl, rfl, _, rfl, skipI (by decide) ?_⟩
      refine ⟨_, rfl, rfl, _, rfl, skipI (by decide) ?_⟩
      refine ⟨_, rfl, rfl, _, rfl, skipI (by decide) ?_⟩
      refine ⟨_, rfl, rfl, _, rfl, skipI (by decide) ?_⟩
      refine ⟨_, rfl, rfl, _, rfl, skipI (by decide) ?_⟩
      refine ⟨_, rfl, rfl, _, rfl, takeI ?_⟩
      exact ⟨_, rfl, o, dx, _, rfl, h1, no_ (by decide +kernel) (by decide +kernel), _, rfl, a, _, _, _, rfl, rfl, ha, at_of (j := 0) rfl rfl, o, no, st, t, rfl, FS, hT, k⟩
    | partner _ len =>
      refine ⟨_, rfl, rfl, _, rfl, skipI (by decide) ?_⟩
      refine ⟨_, rfl, rfl, _, rfl, skipI (by decide) ?_⟩
      refine ⟨_, rfl, rfl, _, rfl, skipI (by decide) ?_⟩
      refine ⟨_, rfl, rfl, _, rfl, skipI (by decide) ?_⟩
      refine ⟨_, rfl, rfl, _, rfl, skipI (by decide) ?_⟩
      refine ⟨_, rfl, rfl, _, rfl, skipI (by decide) ?_⟩
      refine ⟨_, rfl, rfl, _, rfl, skipI (by decide) ?_⟩
      refine ⟨_, rfl, rfl, _, rfl, skipI (by decide) ?_⟩
      refine ⟨_, rfl, rfl, _, rfl, skipI (by decide) ?_⟩
      refine ⟨_, rfl, rfl, _, rfl, takeI ?_⟩
      exact ⟨_, rfl, o, dx, _, rfl, h1, no_ (by decide +kernel) (by decide +kernel), _, rfl, o, no, a, st, ns, rfl, ha, len, FS, hT, k⟩
end
end Fl

set_option Elab.async false
set_option maxRecDepth 100000
set_option maxHeartbeats 4000000
/-! FlR6: answers. -/
namespace Fl
open PySem PySem.Spec PyProof.Rows L2 LamX
open HoBase (Sim before face)
open PyFlat (putRow putRows told played)
theorem callIs_rows {p : Int} {ns : List Int} {rows : List (List Int)} {c : Ho02.Call} (h : CallIs p ns rows c) : rows.length ≤ 60 := by
  cases h with
  | shape _ h _ => exact h
  | height => exact Nat.zero_le _
  | row => exact Nat.zero_le _
  | pairs => exact Nat.zero_le _
  | bars => exact Nat.zero_le _
  | at_ => exact Nat.zero_le _
  | lasting => exact Nat.zero_le _
  | longest => exact Nat.zero_le _
  | swamped => exact Nat.zero_le _
  | partner => exact Nat.zero_le _
theorem putRows_snoc : ∀ (xs : List (List Int)) (r : List Int), putRows (xs ++ [r]) = putRows xs ++ putRow r
  | [], r => by
    show putRow r ++ [] = [] ++ putRow r
    simp
  | x :: xs, r => by
    show putRow x ++ putRows (xs ++ [r]) = (putRow x ++ putRows xs) ++ putRow r
    rw [putRows_snoc xs r, List.append_assoc]
theorem putRows_app : ∀ (xs ys : List (List Int)), putRows (xs ++ ys) = putRows xs ++ putRows ys
  | [], ys => rfl
  | x :: xs, ys => by
    show putRow x ++ putRows (xs ++ ys) = (putRow x ++ putRows xs) ++ putRows ys
    rw [putRows_app xs ys, List.append_assoc]
theorem putRow_len (r : List Int) : (putRow r).length = r.length + 1 := rfl
/-- a call as it stands -/
def CallOk (c : List (List Int)) : Prop := ∃ p xs rows d, c = (p :: xs) :: rows ∧ CallIs p xs rows d
theorem told_cons (st : Ho02.State) {p : Int} {xs : List Int} {rows : List (List Int)} {d : Ho02.Call} (h : CallIs p xs rows d) (cs : List (List (List Int))) :
    told (played Ho02Neutral.step st (((p :: xs) :: rows) :: cs)) = (((Ho02.step st d).2.length : Int) :: (Ho02.step st d).2) ++ told (played Ho02Neutral.step (Ho02.step st d).1 cs) := by
  have e : Ho02Neutral.step st ((p :: xs) :: rows) = Ho02.step st d := by
    unfold Ho02Neutral.step Ho02Neutral.callOf
    rw [callIs_of h]
  show told ((Ho02Neutral.step st ((p :: xs) :: rows)).2 :: played Ho02Neutral.step (Ho02Neutral.step st ((p :: xs) :: rows)).1 cs) = _
  rw [e]
  rfl
def spAnswers (K : PySem.W.Frag) (T : List (Addr × Str)) : Sp := fun vs H Q _ => ∃ (a : Addr) (cs : List (List (List Int))), vs = [.ref a] ∧ SqL K H a ((PyWide.put cs).map V.int) ∧ (∀ c ∈ cs, CallOk c) ∧ Tabs T H ∧ (told (played Ho02Neutral.step Ho02.init cs)).length ≤ 10000000 ∧
  ∀ (H' : Hp) (p : Addr), H' p = some (.lst ((told (played Ho02Neutral.step Ho02.init cs)).map V.int)) → Q (.ref p) H'
abbrev nAns : List Str := ["calls", "flooded", "answered", "start", "call", "numbers", "how_many_lists", "lists", "answer"]
section
variable {P : Program} {w : World} {K : PySem.W.Frag} {mg : Str → Option Value} {base : Heap} {C : Addr} {TB : List (Addr × Str)}
theorem scAN : FnScope nAns ["calls"] (defScope sAnswers) := ⟨rfl, rfl, rfl, by decide +kernel, rfl, by decide +kernel, by decide +kernel⟩
theorem ok_answers {f fI : Addr} {fd fdI : FuncData} (F : Fun K "answers" "answers" sAnswers f fd) (T : Txt mg) (M : Mk K C fI) (gC : mg "FloodedShape" = some (.ref C)) (GI : FnOk P w K mg base CX0 1 fI fdI ["self"] (spInit C)) (bI : Binds K fdI ["self"] [])
    (DC : Df P w K mg base 1 "counted" ["calls", "start"] (spCounted K)) (DA : Df P w K mg base 9 "answer_of" ["flooded", "call", "numbers", "lists"] (spAnswerOf K C TB)) : FnOk P w K mg base CX0 10 f fd ["calls"] (spAnswers K TB) := by
  obtain ⟨fC, fdC, GC, mC, kC, bC⟩ := DC.ex
  obtain ⟨fA, fdA, GA, mA, kA, bA⟩ := DA.ex
  refine F.ok scAN (fun vs H Q E h => ?_) (fun cdv A outer s H vs Q E hr h => ?_)
  · obtain ⟨a, cs, rfl, _⟩ := h
    rfl
  · obtain ⟨a, cs, rfl, ha, ok, hT, few, k⟩ := h
    have hr1 : Room 1 _ := hr.mono (by decide)
    have hr2 : Room 2 _ := hr.mono (by decide)
    have N := scAN.nd
    refine ⟨_, pss_cons (ps_set (i := 1) N rfl (Or.inl rfl) (pe_make0 M GI hr2 rfl gC bI .nil pass0))
      (pss_cons (ps_set (i := 2) N rfl (Or.inl rfl) (pe_lst pa_nil))
      (pss_cons (ps_set (i := 3) N rfl (Or.inl rfl) pe_int)
      (pss_cons (ps_while PassesOwn.never (pt_cmpR op_lt (pv 3) (pe_callB call_len_seq (by rfl) T.len PySem.boot_len (pa_cons (pv 0) pa_nil)) (nomark _))
        (pss_cons (ps_set (i := 4) N rfl (Or.inl rfl) (pe_ix ix_list (pv 0) (pv 3) (fun _ _ => rfl)))
        (pss_cons (ps_set (i := 5) N rfl (Or.inl rfl) (pe_call GC hr1 rfl mC kC bC .nil pass0 (pa_cons (pv 0) (pa_cons (pe_op op_add (pv 3) pe_int) pa_nil))))
        (pss_cons (ps_set (i := 3) N rfl (Or.inl rfl) (pe_op op_add (pe_op op_add (pv 3) pe_int) (pe_callB call_len_seq (by rfl) T.len PySem.boot_len (pa_cons (pv 5) pa_nil))))
        (pss_cons (ps_set (i := 6) N rfl (Or.inl rfl) (pe_ix ix_list (pv 0) (pv 3) (fun _ _ => rfl)))
        (pss_cons (ps_set (i := 3) N rfl (Or.inl rfl) (pe_op op_add (pv 3) pe_int))
        (pss_cons (ps_set (i := 7) N rfl (Or.inl rfl) (pe_lst pa_nil))
        (pss_cons (ps_while PassesOwn.never (pt_cmpR op_lt (pe_callB call_len_seq (by rfl) T.len PySem.boot_len (pa_cons (pv 7) pa_nil)) (pv 6) (nomark _))
          (pss_cons (ps_expr (pe_bm PySem.F.plainAttrs_list PySem.F.slot_list_append PySem.F.type_list_append mt_append (pv 7) (pa_cons (pe_call GC hr1 rfl mC kC bC .nil pass0 (pa_cons (pv 0) (pa_cons (pv 3) pa_nil))) pa_nil)))
          (pss_one (ps_set (i := 3) N rfl (Or.inl rfl) (pe_op op_add (pe_op op_add (pv 3) pe_int) (pe_callB call_len_seq (by rfl) T.len PySem.boot_len (pa_cons (pe_ix ix_list (pv 7) (pe_un un_neg pe_int) (fun _ _ => rfl)) pa_nil)))))))
        (pss_cons (ps_set (i := 8) N rfl (Or.inl rfl) (pe_call GA hr rfl mA kA bA .nil pass0 (pa_cons (pv 1) (pa_cons (pv 4) (pa_cons (pv 5) (pa_cons (pv 7) pa_nil))))))
        (pss_cons (ps_expr (pe_bm PySem.F.plainAttrs_list PySem.F.slot_list_append PySem.F.type_list_append mt_append (pv 2) (pa_cons (pe_callB call_len_seq (by rfl) T.len PySem.boot_len (pa_cons (pv 8) pa_nil)) pa_nil)))
        (pss_one (ps_expr (pe_bm PySem.F.plainAttrs_list PySem.F.slot_list_extend PySem.F.type_list_extend mt_extend (pv 2) (pa_cons (pv 8) pa_nil))))))))))))))
      (pss_one (ps_ret (pv 2)))))), ?_⟩
    -- flooded = FloodedShape()
    intro o dx no_ nd_ ne_
    refine ⟨o, dx, rfl, upd_same, fun H1 sl hl i1 i2 i3 kp => ⟨rfl, ?_⟩⟩
    have s1 : L2.Same H H1 := L2.Same.made no_ nd_ kp
    -- answered = []
    refine ⟨Nat.zero_le _, fun an nan => ?_⟩
    have s2 := same_new (o := .lst []) nan
    have an0 : H an = none := s1.free nan
    have FS0 : FSat C (upd H1 an (.lst [])) o Ho02.init an := by
      refine ⟨⟨dx, sl, hl, [], s2 _ _ i1, s2 _ _ i2, .nil, s2 _ _ i3, ne_of_none i2 nan, ne_of_none i3 nan⟩, cxOk_nil, rfl⟩
    refine ⟨fun m σ H' => ∃ (pre : List Int) (rest : List (List (List Int))) (st : Ho02.State) (acc : List Int) (v4 v5 v6 v7 v8 : Option V), σ = [some (.ref a), some (.ref o), some (.ref an), some (nv pre.length), v4, v5, v6, v7, v8] ∧ m = rest.length ∧ PyWide.put cs = pre ++ PyWide.put rest ∧ (∀ c ∈ rest, CallOk c) ∧
        ExtN H H' ∧ Tabs TB H' ∧ FSat C H' o st an ∧ H' an = some (.lst (acc.map V.int)) ∧ acc ++ told (played Ho02Neutral.step st rest) = told (played Ho02Neutral.step Ho02.init cs),
      ⟨cs.length, [], cs, Ho02.init, [], none, none, none, none, none, rfl, rfl, rfl, ok, same_extN (s1.trans s2), hT.ext (s1.trans s2), FS0, upd_same, rfl⟩, ?_⟩
    rintro m σ H' ⟨pre, rest, st, acc, v4, v5, v6, v7, v8, rfl, rfl, ep, okr, xH, tH, FS, hAn, etot⟩
    have ha' : SqL K H' a ((PyWide.put cs).map V.int) := extN_seqL xH ha
    have acc_len : acc.length + (told (played Ho02Neutral.step st rest)).length ≤ 10000000 := by
      rw [← etot, List.length_append] at few
      exact few
    refine ⟨_, rfl, _, rfl, a, _, rfl, .inl ha', _, _, rfl, rfl, _, rfl, ?_⟩
    have lenA : ((PyWide.put cs).map V.int).length = pre.length + (PyWide.put rest).length := by rw [List.length_map, ep, List.length_append]
    cases rest with
    | nil =>
      refine ite_b (fun c => ?_) fun _ => ?_
      · rw [lenA] at c
        simp [PyWide.put] at c
      · have e : acc = told (played Ho02Neutral.step Ho02.init cs) := by
          rw [← etot]
          show acc = acc ++ []
          rw [List.append_nil]
        refine ⟨_, rfl, k H' an ?_⟩
        rw [← e]
        exact hAn
    | cons c rest =>
      obtain ⟨p, xs, rows, d, rfl, ci⟩ := okr c (List.mem_cons_self ..)
      have okr' : ∀ c ∈ rest, CallOk c := fun c hc => okr c (List.mem_cons_of_mem _ hc)
      have rows60 := callIs_rows ci
      have ep2 : PyWide.put cs = pre ++ (p :: (putRow xs ++ ((rows.length : Int) :: (putRows rows ++ PyWide.put rest)))) := by
        rw [ep]
        show pre ++ (PyWide.put1 ((p :: xs) :: rows) ++ PyWide.put rest) = _
        rw [PyWide.put1_append]
      rw [told_cons st ci] at etot acc_len
      refine ite_b (fun _ => ?_) fun c => ?_
      rotate_left
      · rw [lenA] at c
        have : 0 < (PyWide.put (((p :: xs) :: rows) :: rest)).length := by
          show 0 < (PyWide.put1 ((p :: xs) :: rows) ++ PyWide.put rest).length
          rw [PyWide.put1_append, List.length_cons]
          omega
        simp at c
        omega
      refine ⟨_, fun σ' H2 h => h, ?_⟩
      -- call = calls[start]
      have at0 : ((PyWide.put cs).map V.int)[pre.length]? = some (V.int p) := by
        rw [List.getElem?_map, ep2, List.getElem?_append_right (Nat.le_refl _), Nat.sub_self]
        rfl
      refine ⟨_, rfl, _, rfl, a, _, _, _, rfl, rfl, ha', at_of (j := pre.length) rfl at0, ?_⟩
      -- numbers = counted(calls, start + 1)
      have e1 : (pre.length : Int) + 1 = ((pre ++ [p]).length : Int) := by
        rw [List.length_append, List.length_singleton]
        omega
      refine ⟨_, rfl, _, rfl, _, _, rfl, rfl, a, pre ++ [p], xs, (rows.length : Int) :: (putRows rows ++ PyWide.put rest), by show [V.ref a, V.int ((pre.length : Int) + 1)] = _; rw [e1], ?_, fun H2 num s3 nnum hnum => ?_⟩
      · rw [ep2] at ha'
        rw [List.append_assoc]
        exact ha'
      -- start = start + 2 + len(numbers)
      refine ⟨_, rfl, _, _, rfl, rfl, _, rfl, num, _, rfl, .inl (SqL.of hnum), _, _, rfl, rfl, ?_⟩
      have e2 : (pre.length : Int) + 2 + ((xs.map V.int).length : Int) = ((pre ++ (p :: putRow xs)).length : Int) := by
        rw [List.length_map, List.length_append, List.length_cons, putRow_len]
        omega
      dsimp only
      rw [e2]
      -- how_many_lists = calls[start]
      have at1 : ((PyWide.put cs).map V.int)[(pre ++ (p :: putRow xs)).length]? = some (nv rows.length) := by
        have q : PyWide.put cs = (pre ++ (p :: putRow xs)) ++ ((rows.length : Int) :: (putRows rows ++ PyWide.put rest)) := by
          rw [ep2, List.append_assoc]
          rfl
        rw [List.getElem?_map, q, List.getElem?_append_right (Nat.le_refl _), Nat.sub_self]
        rfl
      refine ⟨_, rfl, _, rfl, a, _, _, _, rfl, rfl, s3.seq ha', at_of (j := (pre ++ (p :: putRow xs)).length) rfl at1, ?_⟩
      -- start = start + 1
      refine ⟨_, rfl, _, _, rfl, rfl, ?_⟩
      have e3 : ((pre ++ (p :: putRow xs)).length : Int) + 1 = ((pre ++ (p :: (putRow xs ++ [(rows.length : Int)]))).length : Int) := by
        rw [List.length_append, List.length_append, List.length_cons, List.length_cons, List.length_append, List.length_singleton]
        omega
      dsimp only
      rw [e3]
      -- lists = []
      refine ⟨Nat.zero_le _, fun L nL => ?_⟩
      have sL := same_new (o := .lst []) nL
      -- while len(lists) < how_many_lists
      refine ⟨fun m2 σ H3 => ∃ (done todo : List (List Int)) (ls : List Addr), σ = [some (.ref a), some (.ref o), some (.ref an), some (nv ((pre ++ (p :: (putRow xs ++ [(rows.length : Int)]))) ++ putRows done).length), some (.int p), some (.ref num), some (nv rows.length), some (.ref L), v8] ∧ m2 = todo.length ∧ rows = done ++ todo ∧
          L2.Same H2 H3 ∧ H3 L = some (.lst (ls.map V.ref)) ∧ Paired (fun r t => H3 t = some (.lst (r.map V.int)) ∧ t ≠ L) done ls,
        ⟨rows.length, [], rows, [], by show _ = [_, _, _, some (nv ((pre ++ (p :: (putRow xs ++ [(rows.length : Int)]))) ++ []).length), _, _, _, _, _]; rw [List.append_nil]; rfl, rfl, rfl, sL, upd_same, .nil⟩, ?_⟩
      rintro m2 σ H3 ⟨done, todo, ls, rfl, rfl, er, s4, hL, pd⟩
      have lenL : ls.length = done.length := (paired_len pd).symm
      have lenR : rows.length = done.length + todo.length := by rw [er, List.length_append]
      refine ⟨_, rfl, L, _, rfl, .inl (SqL.of hL), _, rfl, _, _, rfl, rfl, _, rfl, ?_⟩
      cases todo with
      | cons r todo =>
        refine ite_b (fun _ => ?_) fun c => ?_
        rotate_left
        · rw [List.length_cons] at lenR
          simp at c
          omega
        refine ⟨_, fun σ' H2 h => h, ?_⟩
        have ha3 : SqL K H3 a ((PyWide.put cs).map V.int) := s4.seq (s3.seq ha')
        refine ⟨_, rfl, .inl ⟨rfl, _, SqL.of hL⟩, _, rfl, _, rfl, a, (pre ++ (p :: (putRow xs ++ [(rows.length : Int)]))) ++ putRows done, r, putRows todo ++ PyWide.put rest, rfl, ?_, fun H4 q s5 nq hq => ?_⟩
        · have e : (pre ++ (p :: (putRow xs ++ [(rows.length : Int)]))) ++ putRows done ++ (putRow r ++ (putRows todo ++ PyWide.put rest)) = PyWide.put cs := by
            rw [ep2, er, putRows_app]
            show _ = pre ++ (p :: (putRow xs ++ (((done ++ r :: todo).length : Int) :: (putRows done ++ (putRow r ++ putRows todo) ++ PyWide.put rest))))
            simp only [List.append_assoc, List.cons_append, List.nil_append]
          rw [e]
          exact ha3
        have hL4 := s5 _ _ hL
        have qL : q ≠ L := (ne_of_none hL nq).symm
        refine ⟨L, _, _, rfl, rfl, hL4, by rw [List.length_map, sizeLine_eq]; omega, ?_⟩
        have hL5 : upd H4 L (.lst (ls.map V.ref ++ [.ref q])) L = some (.lst (ls.map V.ref ++ [.ref q])) := upd_same
        refine ⟨_, rfl, _, _, rfl, rfl, _, rfl, _, rfl, L, _, _, _, rfl, rfl, SqL.of hL5, atI_last _ _, q, _, rfl, .inl (SqL.of ((upd_ne qL).trans hq)), _, _, rfl, rfl, ?_⟩
        have e5 : ((((pre ++ (p :: (putRow xs ++ [(rows.length : Int)]))) ++ putRows done).length : Nat) : Int) + 1 + ((r.map V.int).length : Int) = ((((pre ++ (p :: (putRow xs ++ [(rows.length : Int)]))) ++ putRows (done ++ [r])).length : Nat) : Int) := by
          rw [putRows_snoc, List.length_map, List.length_append, List.length_append (bs := putRows done ++ putRow r), List.length_append (as := putRows done), putRow_len]
          omega
        refine ⟨todo.length, Nat.lt_succ_self _, done ++ [r], todo, ls ++ [q], ?_, rfl, by rw [er, List.append_assoc]; rfl, fun b u e => ?_, by rw [upd_same, List.map_append]; rfl, paired_snoc (L2.Paired.mapP pd fun r' t h => ⟨(upd_ne h.2).trans (s5 _ _ h.1), h.2⟩) ⟨(upd_ne qL).trans hq, qL⟩⟩
        · rw [show nv ((pre ++ (p :: (putRow xs ++ [(rows.length : Int)]))) ++ putRows (done ++ [r])).length = V.int (((((pre ++ (p :: (putRow xs ++ [(rows.length : Int)]))) ++ putRows done).length : Nat) : Int) + 1 + ((r.map V.int).length : Int)) from congrArg V.int e5.symm]
          rfl
        · rw [upd_ne (ne_of_none e nL)]
          exact s5 _ _ (s4 _ _ e)
      | nil =>
        refine ite_b (fun c => ?_) fun _ => ?_
        · rw [List.length_nil] at lenR
          simp at c
          omega
        rw [List.append_nil] at er
        subst er
        -- answer = answer_of(flooded, call, numbers, lists)
        have x3 : ExtN H' H3 := same_extN (s3.trans s4)
        have hAn3 := s4 _ _ (s3 _ _ hAn)
        refine ⟨_, rfl, _, rfl, _, rfl, _, rfl, o, an, num, L, st, ls, p, xs, rows, d, rfl, SqL.of (s4 _ _ hnum), SqL.of hL, L2.Paired.mapP pd fun _ _ h => SqL.of h.1, ci, FS.ext x3, tH.ext (s3.trans s4), ⟨_, hAn3⟩, fun H4 q x4 t4 nq hq FS4 => ?_⟩
        obtain ⟨dx0, sl0, hl0, ts0, ho0, _⟩ := (FS.ext x3).ex
        have aO : an ≠ o := ne_of hAn3 ho0 (by intro z; cases z)
        have hAn4 := x4 _ _ hAn3 (fun _ z => by cases z) aO
        have qA : q ≠ an := fun z => nq an _ hAn3 (fun _ z => by cases z) z.symm
        have lens : acc.length + (1 + (Ho02.step st d).2.length) ≤ 10000000 := by
          rw [List.length_append, List.length_cons] at acc_len
          omega
        have lq : ((Ho02.step st d).2.map V.int).length = (Ho02.step st d).2.length := List.length_map _
        -- answered.append(len(answer))
        refine ⟨_, rfl, .inl ⟨rfl, _, SqL.of hAn4⟩, _, rfl, q, _, rfl, .inl (SqL.of hq), an, _, _, rfl, rfl, hAn4, by rw [List.length_map, sizeLine_eq]; omega, ?_⟩
        rw [lq]
        have hq5 : upd H4 an (.lst (acc.map V.int ++ [V.int ((Ho02.step st d).2.length : Int)])) q = some (.lst ((Ho02.step st d).2.map V.int)) := (upd_ne qA).trans hq
        -- answered.extend(answer)
        refine ⟨_, rfl, .inl ⟨rfl, _, SqL.of upd_same⟩, _, rfl, an, q, _, _, rfl, rfl, upd_same, hq5, by rw [List.length_append, List.length_map, List.length_singleton, lq, sizeLine_eq]; omega, ?_⟩
        obtain ⟨dx4, sl4, hl4, ts4, o1, o2, o3, o4, o5, o6⟩ := FS4.ex
        have keep : ∀ b u, H4 b = some u → b ≠ an → upd (upd H4 an (.lst (acc.map V.int ++ [V.int ((Ho02.step st d).2.length : Int)]))) an (.lst (acc.map V.int ++ [V.int ((Ho02.step st d).2.length : Int)] ++ (Ho02.step st d).2.map V.int)) b = some u := fun b u e nb => by
          rw [upd_ne nb, upd_ne nb]
          exact e
        refine ⟨rest.length, Nat.lt_succ_self _, (pre ++ (p :: (putRow xs ++ [(rows.length : Int)]))) ++ putRows rows, rest, (Ho02.step st d).1, acc ++ (((Ho02.step st d).2.length : Int) :: (Ho02.step st d).2), some (.int p), some (.ref num), some (nv rows.length), some (.ref L), some (.ref q), rfl, rfl, ?_, okr', ?_, ?_, ?_, ?_, ?_⟩
        · rw [ep2]
          simp only [List.append_assoc, List.cons_append, List.nil_append]
        · intro b u e nt
          have nb : b ≠ an := ne_of_none e an0
          have nbo : b ≠ o := ne_of_none e no_
          exact keep b u (x4 b u (x3 b u (xH b u e nt) nt) nt nbo) nb
        · intro p' hp'
          obtain ⟨ps, t1, t2, t3⟩ := t4 p' hp'
          refine ⟨ps, keep _ _ t1 (ne_of t1 hAn4 (by intro z; cases z)), t2, fun pos cv hc => ?_⟩
          obtain ⟨c, e1, e2⟩ := t3 pos cv hc
          exact ⟨c, e1, keep _ _ e2 (ne_of e2 hAn4 (by intro z; cases z))⟩
        · exact ⟨⟨dx4, sl4, hl4, ts4, keep _ _ o1 aO.symm, keep _ _ o2 o5, L2.Paired.mapP o3 fun _ _ h => keep _ _ h (ne_of h hAn4 (by intro z; cases z)), keep _ _ o4 o6, o5, o6⟩, FS4.ok, FS4.len⟩
        · rw [upd_same]
          simp only [List.map_append, List.map_cons, List.append_assoc, List.cons_append, List.nil_append]
        · rw [← etot]
          simp only [List.append_assoc, List.cons_append]
end
end Fl

set_option Elab.async false
set_option maxRecDepth 100000
set_option maxHeartbeats 2000000
/-! FlEnd: a row of a specification whose program makes lambdas: the arguments are locked, the tables of code objects are tracked from the start. -/
namespace Fl
open PySem PySem.Spec PyProof.Rows L2 LamX
open PySem.W (WData Codec OpenSpec WellAll ReadsW)
/-! ### data that stands in a heap stands in a larger one -/
mutual
theorem dw_up {K : PySem.W.Frag} {H H' : Hp} (up : L2.Same H H') : ∀ {v : V} {d : WData}, Dw K H v d → Dw K H' v d
  | _, _, .non => .non
  | _, _, .bl b => .bl b
  | _, _, .int i => .int i
  | _, _, .str x => .str x
  | _, _, .byt b => .byt b
  | _, _, .lst q r => .lst (up.seq q) (dws_up up r)
  | _, _, .tup q r => .tup (q.imp (fun z => z.imp (up _ _) fun ⟨o, z⟩ => ⟨o, up _ _ z⟩) id) (dws_up up r)
theorem dws_up {K : PySem.W.Frag} {H H' : Hp} (up : L2.Same H H') : ∀ {vs : List V} {ds : List WData}, DwAll K H vs ds → DwAll K H' vs ds
  | _, _, .nil => .nil
  | _, _, .cons a b => .cons (dw_up up a) (dws_up up b)
end
/-- an empty table of code objects -/
abbrev noCode : Obj := { cls := .none, data := .fields #[] }
/-- the heap at the call: tables (their owners' code objects beside them) and locked arguments, nothing else -/
structure Begun (P : Program) (w : World) (K : PySem.W.Frag) (tabs : List (Addr × Addr)) (s : Shared) (H : Hp) : Prop where
  tab : ∀ t ∈ tabs, H t.2 = some (.tbl #[])
  raw : ∀ t ∈ tabs, s.heap.get? t.2 = some noCode
  ok : HOk P w H s.heap
  only : ∀ b u, H b = some u → (∃ t ∈ tabs, b = t.2) ∨ ∃ o u', u = .frz o u'
  offK : ∀ b u, H b = some u → K.lookup b = none
  seqs : ∀ b u o, H b = some u → s.heap.get? b = some o → (∃ vs n, o.data = .seq vs n) ∨ o.data = .fields #[]
theorem begin_with {P : Program} {w : World} {K : PySem.W.Frag} {tabs : List (Addr × Addr)} {s : Shared} {vals : List Value} {ds : List WData} (KX : K.In s.heap) (raw : ∀ t ∈ tabs, s.heap.get? t.2 = some noCode) (offT : ∀ t ∈ tabs, K.lookup t.2 = none)
    (well : WellAll w.params s.heap vals ds) (pl : plWs ds = true) (wt : ∀ d ∈ ds, d.weight ≤ 1048576) : ∃ (H : Hp) (xs : List V), Begun P w K tabs s H ∧ Vals xs vals ∧ DwAll K H xs ds := by
  obtain ⟨area, inA, each⟩ := area_all ds vals well pl wt
  have isTab : ∀ b, b ∈ tabs.map (·.2) → s.heap.get? b = some noCode ∧ K.lookup b = none := fun b hb => by
    obtain ⟨t, ht, rfl⟩ := List.mem_map.mp hb
    exact ⟨raw t ht, offT t ht⟩
  have argNo : ∀ b u, argH K s.heap area b = some u → b ∉ tabs.map (·.2) := fun b u q z => by
    have e := (isTab b z).1
    obtain ⟨_, vs, _, _, c⟩ := argH_is each q
    rcases c with c | c <;> (rw [c.1] at e; cases e)
  have up : L2.Same (argH K s.heap area) (fun b => if b ∈ tabs.map (·.2) then some (.tbl #[]) else argH K s.heap area b) := fun b u q => (if_neg (argNo b u q)).trans q
  refine ⟨_, _, ⟨fun t ht => if_pos (List.mem_map.mpr ⟨t, ht, rfl⟩), raw, fun b u q => ?_, fun b u q => ?_, fun b u q => ?_, fun b u o q e => ?_⟩, vals_toV inA, dws_up up (dw_all KX each ds vals well pl inA)⟩
  all_goals by_cases m : b ∈ tabs.map (·.2)
  all_goals first | (have q' := (if_pos m).symm.trans q; cases q') | (have q' := (if_neg m).symm.trans q)
  · exact (isTab b m).1
  · obtain ⟨_, vs, z, oks, ⟨e, rfl⟩ | ⟨e, rfl⟩⟩ := argH_is each q'
    · exact ⟨e, by rw [List.length_map]; exact z, vs, _, vals_toV oks, e⟩
    · exact ⟨e, by rw [List.length_map]; exact z, vs, vals_toV oks, _, e, rfl, _, rfl⟩
  · obtain ⟨t, ht, e⟩ := List.mem_map.mp m
    exact .inl ⟨t, ht, e.symm⟩
  · obtain ⟨_, vs, _, _, ⟨_, rfl⟩ | ⟨_, rfl⟩⟩ := argH_is each q'
    · exact .inr ⟨_, _, rfl⟩
    · exact .inr ⟨_, _, rfl⟩
  · exact (isTab b m).2
  · exact (argH_is each q').1
  · rw [(isTab b m).1] at e
    cases e
    exact .inr rfl
  · obtain ⟨_, vs, _, _, ⟨c, _⟩ | ⟨c, _⟩⟩ := argH_is each q' <;> (rw [c] at e; cases e; exact .inl ⟨_, _, rfl⟩)
section
variable {P : Program} {w : World} {K : PySem.W.Frag} {tabs : List (Addr × Addr)} {s : Shared} {H : Hp} {mg mb : Str → Option Value}
/-- what is neither a sequence nor an empty table is not tracked -/
theorem Begun.other (B : Begun P w K tabs s H) {b : Addr} {o : Obj} (e : s.heap.get? b = some o) (n1 : ∀ vs n, o.data ≠ .seq vs n) (n2 : o.data ≠ .fields #[]) : H b = none := by
  cases q : H b with
  | none => rfl
  | some u =>
    rcases B.seqs b u o q e with ⟨vs, n, z⟩ | z
    · exact absurd z (n1 vs n)
    · exact absurd z n2
theorem Begun.hid (B : Begun P w K tabs s H) {b : Addr} {o : Obj} (e : s.heap.get? b = some o) (n1 : ∀ vs n, o.data ≠ .seq vs n) (n2 : o.data ≠ .fields #[]) : (hidT s.heap H).get? b = some o := hidT_get e (B.other e n1 n2)
theorem Begun.ns (B : Begun P w K tabs s H) {b : Addr} {m : Str → Option Value} (h : s.heap.Ns b m) : (hidT s.heap H).Ns b m := by
  obtain ⟨o, es, ep, e, d, r⟩ := h
  exact ⟨o, es, ep, B.hid e (fun vs n z => by rw [d] at z; cases z) (fun z => by rw [d] at z; cases z), d, r⟩
theorem Begun.kin (B : Begun P w K tabs s H) (KX : K.In s.heap) : K.In (hidT s.heap H) := fun b o e => hidT_get (KX b o e) (by
  cases q : H b with
  | none => rfl
  | some u =>
    rw [B.offK b u q] at e
    cases e)
theorem Begun.env (B : Begun P w K tabs s H) (KX : K.In s.heap) (g : s.heap.Ns mainGlobals mg) (b : s.heap.Ns builtinsNs mb) (bb : ∀ x : Str, x ≠ "__name__" → mb x = bootBuiltins x) (lim : s.heap.NoLimit) (gens : s.gens = #[]) :
    Env0 P w K mg (hidT s.heap H) callerA [] s H where
  frames := rfl
  mod := ⟨B.kin KX, B.ns g, ⟨mb, B.ns b, bb⟩, lim.elim fun mc h => ⟨mc, B.ns h.1, h.2⟩⟩
  bs := fun _ _ e => of_hidT e
  bsz := Nat.le_of_eq (hidT_size _ _)
  funs := trivial
  frf := fun _ z => nomatch (show _ ∈ ([] : List Addr) from z)
  hok := B.ok
  bare := .of_eq gens
theorem Begun.table (B : Begun P w K tabs s H) (g : s.heap.Ns mainGlobals mg) (code : ∀ t ∈ tabs, PySem.W.CodeHd s.heap t.1 t.2)
    (bm : ∃ (m : Addr) (ob : Obj), mg "__builtins__" = some (.ref m) ∧ m ≠ builtinsNs ∧ s.heap.get? m = some ob ∧ ob.cls = .type "module" ∧ ob.dict = some builtinsNs ∧ ob.data = .plain) : ∀ t ∈ tabs, TabB (hidT s.heap H) mg t.1 t.2 := by
  intro t ht
  have rt := B.raw t ht
  obtain ⟨go, ges, gep, ge, gd, _⟩ := g
  refine ⟨?_, ?_, fun z => ?_⟩
  · obtain ⟨o, us, file, tf, flags, tg, inF, text, tt, e, c1, c2, c3, rest⟩ := code t ht
    refine ⟨o, us, file, tf, flags, tg, inF, text, tt, B.hid e (fun vs n z => ?_) (fun z => ?_), c1, c2, c3, rest⟩
    · rw [c2] at z
      cases z
    · rw [c2] at z
      cases z
      simp at c3
  · obtain ⟨m, ob, m1, m2, m3, m4, m5, m6⟩ := bm
    refine ⟨m, ob, m1, m2, fun z => ?_, fun z => ?_, B.hid m3 (fun vs n z => by rw [m6] at z; cases z) (fun z => by rw [m6] at z; cases z), m4, m5, m6⟩
    · rw [z, ge] at m3
      cases m3
      rw [gd] at m6
      cases m6
    · rw [z, rt] at m3
      cases m3
      cases m6
  · rw [z, rt] at ge
    cases ge
    cases gd
/-- behind the call: all that was there stands, but for tables that grew -/
theorem Begun.after (B : Begun P w K tabs s H) (code : ∀ t ∈ tabs, PySem.W.CodeHd s.heap t.1 t.2) {s' : Shared} {H' : Hp} (un : Un (frs []) [] H H' s.heap s'.heap) (ok' : HOk P w H' s'.heap) :
    (∀ b o, (∀ t ∈ tabs, b ≠ t.2) → s.heap.get? b = some o → s'.heap.get? b = some o) ∧ OldK s.heap s'.heap := by
  have stays : ∀ b o, (∀ t ∈ tabs, b ≠ t.2) → s.heap.get? b = some o → s'.heap.get? b = some o := fun b o no e => by
    cases q : H b with
    | none => exact un.keep b o e q (fun z => nomatch (show b ∈ ([] : List Addr) from z)) (by simp)
    | some u =>
      rcases B.only b u q with ⟨t, ht, z⟩ | ⟨ob, u', rfl⟩
      · exact absurd z (no t ht)
      · have before := (B.ok b _ q).1
        have after := (ok' b _ (un.frzs b ob u' q)).1
        rw [e] at before
        cases before
        exact after
  have grew : ∀ t ∈ tabs, ∃ more : Array Value, s'.heap.get? t.2 = some { cls := .none, data := .fields more } := fun t ht => by
    obtain ⟨more, z⟩ := un.tbls t.2 #[] (B.tab t ht)
    exact ⟨_, ok' t.2 _ z⟩
  refine ⟨stays, ⟨fun b o e => ?_, fun b o e => ?_⟩⟩
  · by_cases c : ∃ t ∈ tabs, b = t.2
    · obtain ⟨t, ht, rfl⟩ := c
      obtain ⟨more, hm⟩ := grew t ht
      rw [B.raw t ht] at e
      cases e
      exact .inr (.inl ⟨((code t ht).tab (B.raw t ht)).isCodeTable, rfl, #[], more, rfl, by rw [Array.empty_append]; exact hm⟩)
    · exact .inl (stays b o (fun t ht z => c ⟨t, ht, z⟩) e)
  · by_cases c : ∃ t ∈ tabs, b = t.2
    · obtain ⟨t, ht, rfl⟩ := c
      obtain ⟨more, hm⟩ := grew t ht
      exact ⟨_, hm⟩
    · exact ⟨o, stays b o (fun t ht z => c ⟨t, ht, z⟩) e⟩
end
/-- what the end asks of the row's def at the head's heap h -/
structure Ends1 (r : OpenSpec) (w : World) (K : PySem.W.Frag) (k : Nat) (ps : List Str) (mg : Str → Option Value) (fa : Addr) (h : Heap) where
  fd : FuncData
  tabs : List (Addr × Addr)
  sp : Sp
  raw : ∀ t ∈ tabs, h.get? t.2 = some noCode
  off : ∀ t ∈ tabs, K.lookup t.2 = none
  code : ∀ t ∈ tabs, PySem.W.CodeHd h t.1 t.2
  binds : ∀ (s : Shared) (us : List Value), us.length = ps.length → BindsTo s fd ⟨us, []⟩ (ps.zip us)
  says : ∀ (H : Hp) (xs : List V) (a : Codec.denoteAll r.args), (∀ t ∈ tabs, H t.2 = some (.tbl #[])) → Codec.withinAll r.args a = true → Codec.app r.args r.asked a = true → DwAll K H xs (Codec.encAll r.args a) →
    sp xs H (fun v H' => Dw K H' v (r.ret.enc (Codec.app r.args r.f a))) L2.E0
  ok : ∀ base : Heap, K.In base → base.Ns mainGlobals mg → (∀ t ∈ tabs, TabB base mg t.1 t.2) → FnOk r.prog w K mg base L2.CX0 k fa fd ps sp
theorem walk_specT {r : OpenSpec} {k : Nat} {q : Program} {loose : List Str} {XP : (Str → Option Value) → Heap → Prop} {YP : World → Heap → Prop} {d : DefRec} {K : Params → PySem.W.Frag} {ps : List Str}
    (well : r.wellSaid = true) (num : r.args.length = ps.length) (room : Room k callerA) (kin : ∀ (w : World) (h : Heap), YP w h → (K w.params).In h)
    (F : ∀ (w : World) (mg mb : Str → Option Value) (mean : ExcName → Option Value) (fa : Addr) (h : Heap), (K w.params).In h → Top q (PySem.W.looseW q loose) mean mg mb h → mg d.name = some (.ref fa) → Nonempty (Ends1 r w (K w.params) k ps mg fa h)) :
    PySem.W.WalkOS q loose XP YP r d [] (fun f vs => PySem.call f vs) := by
  intro w s0 s mg mb G Y fa o pm cd doc dV kV ho hd hcd hD hmg hg args vals as hpre hlay hrd hwl hlo
  obtain ⟨a, ea, asked⟩ := PySem.W.os_pre_some hpre
  obtain ⟨rfl, within⟩ := Codec.encAll_of_decAll r.args args a ea
  have KX := kin w _ Y
  obtain ⟨Z⟩ := F w mg mb _ fa _ KX G.T hmg
  obtain ⟨H, xs, B, rel, dws⟩ := begin_with (P := r.prog) KX Z.raw Z.off hwl (pl_encAll _ _) (layable_weight hlay)
  have len : vals.length = ps.length := by rw [wellAll_len hwl, encAll_len]; exact num
  have run := (Z.ok _ (B.kin KX) (B.ns G.T.g) (B.table G.T.g Z.code G.T.bmain)).run callerA [] s H ⟨vals, []⟩ vals xs _ _ room (B.env KX G.T.g G.T.b G.T.builtins G.T.nolimit hg) (Z.binds s vals len) rel (Z.says H xs a B.tab within asked dws)
  refine PySem.W.enter_call (codeAny_mono run fun res s' x => ?_)
  cases res with
  | error e => exact False.elim x
  | ok fl =>
    cases fl with
    | next => exact False.elim x
    | brk => exact False.elim x
    | cont => exact False.elim x
    | ret u =>
      obtain ⟨v, H', os, bare, un, ok', rv, dw⟩ := x
      obtain ⟨stays, old⟩ := B.after Z.code un ok'
      have KX' : (K w.params).In s'.heap := fun b o e => stays b o (fun t ht z => by rw [z, Z.off t ht] at e; cases e) (KX b o e)
      obtain ⟨as', rd⟩ := Dw.reads (R := []) (cl := classAt s0.heap) ok' KX' _ v u dw rv
      exact ⟨.inl ⟨u, _, as', rfl, fun _ => rfl, rd, (OpenSpec.post_iff well within _ _).mpr rfl, fun z => Bool.noConfusion (show false = true from z)⟩, old, os, bare⟩
end Fl

set_option Elab.async false
set_option maxRecDepth 100000
set_option maxHeartbeats 4000000
/-! FlZ: what the top has written; all defs together; the end. -/
namespace Fl
open PySem PySem.Spec PyProof.Rows L2 LamX
open PySem.W (Codec nsIn findIn keepIn codeIn isFn)
open PyFlat (told played)
/-- a def of the top -/
structure GF (K : PySem.W.Frag) (x : Str) (st : Stmt) : Prop where
  ex : ∃ (f : Addr) (oc : Value) (od : Option Addr) (kV doc pm : Value) (an : Option Addr) (cd ct : Value) (sl : Array (Option Value)), nsIn K mainGlobals x = some (some (.ref f)) ∧ K.lookup f = some ⟨oc, od, .func (PySem.W.fnOf x x (defArgs st) (defBody st) (defScope st) .none kV doc pm an cd ct), sl⟩ ∧ codeIn K cd x = true ∧ keepIn K (.ref f) = true
/-- one that makes lambdas: its code object at c, whose table is at P -/
structure GC (K : PySem.W.Frag) (x : Str) (st : Stmt) (c P : Addr) : Prop where
  ex : ∃ (f : Addr) (oc : Value) (od : Option Addr) (kV doc pm : Value) (an : Option Addr) (ct : Value) (sl : Array (Option Value)) (kc : Value) (kd : Option Addr) (vs : Array Value) (ks : Array (Option Value)), nsIn K mainGlobals x = some (some (.ref f)) ∧ K.lookup f = some ⟨oc, od, .func (PySem.W.fnOf x x (defArgs st) (defBody st) (defScope st) .none kV doc pm an (.ref c) ct), sl⟩ ∧ codeIn K (.ref c) x = true ∧ keepIn K (.ref f) = true ∧
    K.lookup c = some ⟨kc, kd, .fields vs, ks⟩ ∧ vs[11]? = some (.ref P)
/-- a method of the class at C -/
structure MF (K : PySem.W.Frag) (C : Addr) (x qual : Str) (st : Stmt) : Prop where
  ex : ∃ (f : Addr) (oc : Value) (od : Option Addr) (kV doc pm : Value) (an : Option Addr) (cd ct : Value) (sl : Array (Option Value)), findIn K (.ref C) x = some (some (.ref f)) ∧ isFn K (.ref f) = true ∧ K.lookup f = some ⟨oc, od, .func (PySem.W.fnOf x qual (defArgs st) (defBody st) (defScope st) .none kV doc pm an cd ct), sl⟩ ∧ codeIn K cd qual = true ∧ keepIn K (.ref f) = true
/-- a number of the top -/
structure NF (K : PySem.W.Frag) (x : Str) (v : Int) : Prop where
  ex : ∃ t : Tok, nsIn K mainGlobals x = some (some (.int v t))
/-- the class -/
structure CF (K : PySem.W.Frag) (C : Addr) : Prop where
  g : nsIn K mainGlobals "FloodedShape" = some (some (.ref C))
  pg : PySem.W.plainGet K C Str.empty = true
  hd : PySem.W.hasDictIn K C = true
  po : PySem.W.plainOver K C = true
  sa : findIn K (.ref C) "__setattr__" = some (some (.builtin "object.__setattr__"))
  mks : PySem.W.makesIn K C = true
  kc : keepIn K (.ref C) = true
  nS : findIn K (.ref C) "simplices" = some none
  nH : findIn K (.ref C) "heights" = some none
structure Facts (K : PySem.W.Frag) (C cW pW cR pR : Addr) : Prop where
  d_is_simplex : GF K "is_simplex" sIsSimplex
  d_are_heights : GF K "are_heights" sAreHeights
  d_faces_of : GF K "faces_of" sFacesOf
  d_no_faces_of_others : GF K "no_faces_of_others" sNoFaces
  d_comes_at : GF K "comes_at" sComesAt
  d_places_in : GF K "places_in" sPlaces
  d_boundary_of : GF K "boundary_of" sBoundary
  d_added_by_twos : GF K "added_by_twos" sAdded
  d_what_is_left : GF K "what_is_left" sLeft
  d_pairs_in : GF K "pairs_in" sPairs
  d_bars_in : GF K "bars_in" sBars
  d_is_bar_there : GF K "is_bar_there" sIsThere
  d_length_of : GF K "length_of" sLength
  d_partner_in : GF K "partner_in" sPartnerIn
  d_told_by_dimension : GF K "told_by_dimension" sToldD
  d_told_simplices : GF K "told_simplices" sToldS
  d_told_twos : GF K "told_twos" sTold2
  d_answer_of : GF K "answer_of" sAnswerOf
  d_counted : GF K "counted" sCounted
  d_answers : GF K "answers" sAnswers
  d_with_all_faces : GC K "with_all_faces" sWithAll cW pW
  d_row_by_heights : GC K "row_by_heights" sRowBy cR pR
  m_init : MF K C "__init__" "FloodedShape.__init__" sInit
  m_current_row : MF K C "current_row" "FloodedShape.current_row" sCurRow
  m_current_bars : MF K C "current_bars" "FloodedShape.current_bars" sCurBars
  m_shape : MF K C "shape" "FloodedShape.shape" mShape
  m_height : MF K C "height" "FloodedShape.height" mHeight
  m_row_of : MF K C "row_of" "FloodedShape.row_of" mRowOf
  m_pairs : MF K C "pairs" "FloodedShape.pairs" mPairs
  m_bars : MF K C "bars" "FloodedShape.bars" mBars
  m_at : MF K C "at" "FloodedShape.at" mAt
  m_lasting : MF K C "lasting" "FloodedShape.lasting" mLasting
  m_longest : MF K C "longest" "FloodedShape.longest" mLongest
  m_swamped : MF K C "swamped" "FloodedShape.swamped" mSwamped
  m_partner : MF K C "partner" "FloodedShape.partner" mPartner
  n_HOW_MANY_CORNERS : NF K "HOW_MANY_CORNERS" (10)
  n_MOST_CORNERS_OF_A_SIMPLEX : NF K "MOST_CORNERS_OF_A_SIMPLEX" (4)
  n_MOST_SIMPLICES : NF K "MOST_SIMPLICES" (60)
  n_GREATEST_HEIGHT : NF K "GREATEST_HEIGHT" (1000)
  n_NO_END : NF K "NO_END" (-1)
  n_NOT_A_SIMPLEX : NF K "NOT_A_SIMPLEX" (-1)
  n_TOO_MANY_SIMPLICES : NF K "TOO_MANY_SIMPLICES" (-2)
  n_NOT_HEIGHTS : NF K "NOT_HEIGHTS" (-1)
  n_SECOND_IS_LOWER : NF K "SECOND_IS_LOWER" (-1)
  n_NOT_THERE : NF K "NOT_THERE" (-3)
  n_NONE_THAT_ENDS : NF K "NONE_THAT_ENDS" (-6)
  n_NOTHING_FILLS_IT : NF K "NOTHING_FILLS_IT" (0)
  n_FILLED_BY : NF K "FILLED_BY" (1)
  n_FILLS_WHAT_IS_BORNE_BY : NF K "FILLS_WHAT_IS_BORNE_BY" (2)
  n_SHAPE : NF K "SHAPE" (0)
  n_HEIGHT : NF K "HEIGHT" (1)
  n_ROW_OF : NF K "ROW_OF" (2)
  n_PAIRS : NF K "PAIRS" (3)
  n_BARS : NF K "BARS" (4)
  n_AT : NF K "AT" (5)
  n_LASTING : NF K "LASTING" (6)
  n_LONGEST : NF K "LONGEST" (7)
  n_SWAMPED : NF K "SWAMPED" (8)
  n_PARTNER : NF K "PARTNER" (9)
  z_len : nsIn K mainGlobals "len" = some none
  z_all : nsIn K mainGlobals "all" = some none
  z_set : nsIn K mainGlobals "set" = some none
  z_max : nsIn K mainGlobals "max" = some none
  z_sorted : nsIn K mainGlobals "sorted" = some none
  z_list : nsIn K mainGlobals "list" = some none
  z_tuple : nsIn K mainGlobals "tuple" = some none
  z_enumerate : nsIn K mainGlobals "enumerate" = some none
  z_range : nsIn K mainGlobals "range" = some none
  cls : CF K C
  offW : K.lookup pW = none
  offR : K.lookup pR = none
  apart : pW ≠ pR
theorem GF.of {K : PySem.W.Frag} {x : Str} {st : Stmt} {f : Addr} {oc : Value} {od : Option Addr} {kV doc pm : Value} {an : Option Addr} {cd ct : Value} {sl : Array (Option Value)} (a : nsIn K mainGlobals x = some (some (.ref f))) (l : K.lookup f = some ⟨oc, od, .func (PySem.W.fnOf x x (defArgs st) (defBody st) (defScope st) .none kV doc pm an cd ct), sl⟩) (c : codeIn K cd x = true) (k : keepIn K (.ref f) = true) : GF K x st := ⟨f, oc, od, kV, doc, pm, an, cd, ct, sl, a, l, c, k⟩
theorem GC.of {K : PySem.W.Frag} {x : Str} {st : Stmt} {f cA pA : Addr} {oc : Value} {od : Option Addr} {kV doc pm : Value} {an : Option Addr} {ct : Value} {sl : Array (Option Value)} {kc : Value} {kd : Option Addr} {vs : Array Value} {ks : Array (Option Value)} (a : nsIn K mainGlobals x = some (some (.ref f))) (l : K.lookup f = some ⟨oc, od, .func (PySem.W.fnOf x x (defArgs st) (defBody st) (defScope st) .none kV doc pm an (.ref cA) ct), sl⟩) (c : codeIn K (.ref cA) x = true) (k : keepIn K (.ref f) = true)
    (m : K.lookup cA = some ⟨kc, kd, .fields vs, ks⟩) (v : vs[11]? = some (.ref pA)) : GC K x st cA pA := ⟨f, oc, od, kV, doc, pm, an, ct, sl, kc, kd, vs, ks, a, l, c, k, m, v⟩
theorem MF.of {K : PySem.W.Frag} {C : Addr} {x qual : Str} {st : Stmt} {f : Addr} {oc : Value} {od : Option Addr} {kV doc pm : Value} {an : Option Addr} {cd ct : Value} {sl : Array (Option Value)} (a : findIn K (.ref C) x = some (some (.ref f))) (i : isFn K (.ref f) = true) (l : K.lookup f = some ⟨oc, od, .func (PySem.W.fnOf x qual (defArgs st) (defBody st) (defScope st) .none kV doc pm an cd ct), sl⟩) (c : codeIn K cd qual = true) (k : keepIn K (.ref f) = true) : MF K C x qual st := ⟨f, oc, od, kV, doc, pm, an, cd, ct, sl, a, i, l, c, k⟩
theorem NF.of {K : PySem.W.Frag} {x : Str} {v : Int} {t : Tok} (a : nsIn K mainGlobals x = some (some (.int v t))) : NF K x v := ⟨t, a⟩
theorem Facts.some_ {K : PySem.W.Frag} {C cW pW cR pR : Addr} (F : Facts K C cW pW cR pR) : ∃ C cW pW cR pR, Facts K C cW pW cR pR := ⟨C, cW, pW, cR, pR, F⟩
/-! ### from what is written to defs that keep their promises -/
section
variable {P : Program} {w : World} {K : PySem.W.Frag} {mg : Str → Option Value} {base h : Heap}
theorem gf_df {x : Str} {st : Stmt} {ps : List Str} {k : Nat} {sp : Sp} (X : K.In h) (G : h.Ns mainGlobals mg) (g : GF K x st) (bd : ∀ (kV doc pm : Value) (an : Option Addr) (cd ct : Value) (us : List Value), us.length = ps.length → bindArgs (PySem.W.fnOf x x (defArgs st) (defBody st) (defScope st) .none kV doc pm an cd ct) ⟨us, []⟩ = pure (ps.zip us))
    (ok : ∀ (f : Addr) (fd : FuncData), Fun K x x st f fd → FnOk P w K mg base CX0 k f fd ps sp) : Df P w K mg base k x ps sp := by
  obtain ⟨f, oc, od, kV, doc, pm, an, cd, ct, sl, a, l, c, kp⟩ := g.ex
  have F := fun_mk (st := st) l c kp
  exact ⟨f, _, ok f _ F, PySem.W.mg_of X G a, kp, F.binds bd⟩
theorem mf_md {C : Addr} {x qual : Str} {st : Stmt} {ps : List Str} {k : Nat} {sp : Sp} (g : MF K C x qual st) (bd : ∀ (kV doc pm : Value) (an : Option Addr) (cd ct : Value) (us : List Value), us.length = ps.length → bindArgs (PySem.W.fnOf x qual (defArgs st) (defBody st) (defScope st) .none kV doc pm an cd ct) ⟨us, []⟩ = pure (ps.zip us))
    (ok : ∀ (f : Addr) (fd : FuncData), Fun K x qual st f fd → FnOk P w K mg base CX0 k f fd ps sp) : Md P w K mg base C k x ps sp := by
  obtain ⟨f, oc, od, kV, doc, pm, an, cd, ct, sl, a, i, l, c, kp⟩ := g.ex
  have F := fun_mk (st := st) l c kp
  exact ⟨f, _, ok f _ F, ⟨a, i, kp⟩, F.binds bd⟩
theorem gc_df {x : Str} {st : Stmt} {c PT : Addr} {ps : List Str} {k : Nat} {sp : Sp} (X : K.In h) (G : h.Ns mainGlobals mg) (g : GC K x st c PT) (bd : ∀ (kV doc pm : Value) (an : Option Addr) (cd ct : Value) (us : List Value), us.length = ps.length → bindArgs (PySem.W.fnOf x x (defArgs st) (defBody st) (defScope st) .none kV doc pm an cd ct) ⟨us, []⟩ = pure (ps.zip us))
    (ok : ∀ (f : Addr) (fd : FuncData), FunC K x x st f fd c → FnOk P w K mg base CX0 k f fd ps sp) : Df P w K mg base k x ps sp := by
  obtain ⟨f, oc, od, kV, doc, pm, an, ct, sl, kc, kd, vs, ks, a, l, c1, kp, _, _⟩ := g.ex
  exact ⟨f, _, ok f _ ⟨⟨oc, od, kV, doc, pm, an, ct, sl, rfl, l, c1⟩, kp⟩, PySem.W.mg_of X G a, kp, .all (bd kV doc pm an _ ct)⟩
theorem gc_tab {x : Str} {st : Stmt} {c PT : Addr} (g : GC K x st c PT) : PySem.W.tabIn K x = some (c, PT) := by
  obtain ⟨f, oc, od, kV, doc, pm, an, ct, sl, kc, kd, vs, ks, a, l, c1, kp, lc, lv⟩ := g.ex
  unfold PySem.W.tabIn
  rw [a]
  dsimp only
  rw [l]
  show (match K.lookup c with
        | some ⟨_, _, .fields vs, _⟩ => (match (vs[11]? : Option Value) with
          | some (.ref P) => some (c, P)
          | _ => none)
        | _ => none) = _
  rw [lc]
  dsimp only
  rw [lv]
abbrev tbOf (pW pR : Addr) : List (Addr × Str) := [(pW, lamName "with_all_faces"), (pR, lamName "row_by_heights")]
theorem nf_mg (X : K.In h) (G : h.Ns mainGlobals mg) {x : Str} {v : Int} (n : NF K x v) : ∃ t, mg x = some (.int v t) := by
  obtain ⟨t, e⟩ := n.ex
  exact ⟨t, PySem.W.mg_of X G e⟩
theorem prog_ok {C cW pW cR pR : Addr} (X : K.In h) (G : h.Ns mainGlobals mg) (F : Facts K C cW pW cR pR) (tW : TabB base mg cW pW) (tR : TabB base mg cR pR) : ∀ (f : Addr) (fd : FuncData), Fun K "answers" "answers" sAnswers f fd → FnOk P w K mg base CX0 10 f fd ["calls"] (spAnswers K (tbOf pW pR)) := by
  have T : Txt mg := ⟨PySem.W.mg_none_of X G F.z_len, PySem.W.mg_none_of X G F.z_all, PySem.W.mg_none_of X G F.z_set, PySem.W.mg_none_of X G F.z_max, PySem.W.mg_none_of X G F.z_sorted, PySem.W.mg_none_of X G F.z_list, PySem.W.mg_none_of X G F.z_tuple, PySem.W.mg_none_of X G F.z_enumerate, PySem.W.mg_none_of X G F.z_range, nf_mg X G F.n_HOW_MANY_CORNERS, nf_mg X G F.n_MOST_CORNERS_OF_A_SIMPLEX, nf_mg X G F.n_GREATEST_HEIGHT⟩
  have TC : TxtC K C := ⟨⟨F.cls.pg, F.cls.hd, F.cls.po, F.cls.sa⟩, F.cls.nS, F.cls.nH⟩
  have CT : CallTxt mg := ⟨nf_mg X G F.n_SHAPE, nf_mg X G F.n_HEIGHT, nf_mg X G F.n_ROW_OF, nf_mg X G F.n_PAIRS, nf_mg X G F.n_BARS, nf_mg X G F.n_AT, nf_mg X G F.n_LASTING, nf_mg X G F.n_LONGEST, nf_mg X G F.n_SWAMPED, nf_mg X G F.n_PARTNER⟩
  obtain ⟨tE, gE⟩ := nf_mg X G F.n_NO_END
  obtain ⟨tS, gS⟩ := nf_mg X G F.n_NOT_A_SIMPLEX
  obtain ⟨tM, gM⟩ := nf_mg X G F.n_TOO_MANY_SIMPLICES
  obtain ⟨t60, g60⟩ := nf_mg X G F.n_MOST_SIMPLICES
  obtain ⟨tH, gH⟩ := nf_mg X G F.n_NOT_HEIGHTS
  obtain ⟨tL, gL⟩ := nf_mg X G F.n_SECOND_IS_LOWER
  obtain ⟨tN, gN⟩ := nf_mg X G F.n_NOT_THERE
  obtain ⟨t6, g6⟩ := nf_mg X G F.n_NONE_THAT_ENDS
  obtain ⟨tk0, k0⟩ := nf_mg X G F.n_NOTHING_FILLS_IT
  obtain ⟨tk1, k1⟩ := nf_mg X G F.n_FILLED_BY
  obtain ⟨tk2, k2⟩ := nf_mg X G F.n_FILLS_WHAT_IS_BORNE_BY
  have TW : TabF (tbOf pW pR) base mg cW pW (lamName "with_all_faces") := ⟨tW, List.mem_cons_self .., fun p hp e => by
    rcases List.mem_cons.mp hp with q | q
    · rw [q]
    · rw [List.mem_singleton.mp q] at e
      exact absurd e.symm F.apart⟩
  have TR : TabF (tbOf pW pR) base mg cR pR (lamName "row_by_heights") := ⟨tR, List.mem_cons_of_mem _ (List.mem_cons_self ..), fun p hp e => by
    rcases List.mem_cons.mp hp with q | q
    · rw [q] at e
      exact absurd e F.apart
    · rw [List.mem_singleton.mp q]⟩
  have dIS : Df P w K mg base 1 "is_simplex" ["corners"] (spIsSimplex K) := gf_df X G F.d_is_simplex (fun _ _ _ _ _ _ us hl => match us, hl with | [_], _ => rfl) fun f fd Fn => ok_isSimplex Fn T
  have dAH : Df P w K mg base 1 "are_heights" ["heights"] (spAreHeights K) := gf_df X G F.d_are_heights (fun _ _ _ _ _ _ us hl => match us, hl with | [_], _ => rfl) fun f fd Fn => ok_areHeights Fn T
  have dFO : Df P w K mg base 1 "faces_of" ["simplex"] (spFacesOf K) := gf_df X G F.d_faces_of (fun _ _ _ _ _ _ us hl => match us, hl with | [_], _ => rfl) fun f fd Fn => ok_facesOf Fn
  have dCA : Df P w K mg base 1 "comes_at" ["simplex", "heights"] (spComesAt K) := gf_df X G F.d_comes_at (fun _ _ _ _ _ _ us hl => match us, hl with | [_, _], _ => rfl) fun f fd Fn => ok_comesAt Fn T
  have dPL : Df P w K mg base 1 "places_in" ["row"] (spPlaces K) := gf_df X G F.d_places_in (fun _ _ _ _ _ _ us hl => match us, hl with | [_], _ => rfl) fun f fd Fn => ok_places Fn T
  have dBO : Df P w K mg base 1 "boundary_of" ["simplex", "places"] (spBoundary K) := gf_df X G F.d_boundary_of (fun _ _ _ _ _ _ us hl => match us, hl with | [_, _], _ => rfl) fun f fd Fn => ok_boundary Fn T
  have dAD : Df P w K mg base 1 "added_by_twos" ["chain", "other"] (spAdded K) := gf_df X G F.d_added_by_twos (fun _ _ _ _ _ _ us hl => match us, hl with | [_, _], _ => rfl) fun f fd Fn => ok_added Fn T
  have dIT : Df P w K mg base 1 "is_bar_there" ["bar", "height"] (spIsThere K) := gf_df X G F.d_is_bar_there (fun _ _ _ _ _ _ us hl => match us, hl with | [_, _], _ => rfl) fun f fd Fn => ok_isThere Fn gE
  have dLN : Df P w K mg base 1 "length_of" ["bar"] (spLength K) := gf_df X G F.d_length_of (fun _ _ _ _ _ _ us hl => match us, hl with | [_], _ => rfl) fun f fd Fn => ok_length Fn
  have dTD : Df P w K mg base 1 "told_by_dimension" ["bars"] (spToldD K) := gf_df X G F.d_told_by_dimension (fun _ _ _ _ _ _ us hl => match us, hl with | [_], _ => rfl) fun f fd Fn => ok_toldD Fn T
  have dTS : Df P w K mg base 1 "told_simplices" ["simplices"] (spToldS K) := gf_df X G F.d_told_simplices (fun _ _ _ _ _ _ us hl => match us, hl with | [_], _ => rfl) fun f fd Fn => ok_toldS Fn T
  have dT2 : Df P w K mg base 1 "told_twos" ["twos"] (spTold2 K) := gf_df X G F.d_told_twos (fun _ _ _ _ _ _ us hl => match us, hl with | [_], _ => rfl) fun f fd Fn => ok_told2 Fn T
  have dCO : Df P w K mg base 1 "counted" ["calls", "start"] (spCounted K) := gf_df X G F.d_counted (fun _ _ _ _ _ _ us hl => match us, hl with | [_, _], _ => rfl) fun f fd Fn => ok_counted Fn
  obtain ⟨fFO, fdFO, GFO, mFO, kFO, bFO⟩ := dFO.ex
  obtain ⟨fCA, fdCA, GCA, mCA, kCA, bCA⟩ := dCA.ex
  obtain ⟨fPL, fdPL, GPL, mPL, kPL, bPL⟩ := dPL.ex
  obtain ⟨fBO, fdBO, GBO, mBO, kBO, bBO⟩ := dBO.ex
  obtain ⟨fAD, fdAD, GAD, mAD, kAD, bAD⟩ := dAD.ex
  have dNF : Df P w K mg base 2 "no_faces_of_others" ["simplices"] (spNoFaces K) := gf_df X G F.d_no_faces_of_others (fun _ _ _ _ _ _ us hl => match us, hl with | [_], _ => rfl) fun f fd Fn => ok_noFaces Fn GFO mFO kFO bFO
  have dWA : Df P w K mg base 4 "with_all_faces" ["simplices"] (spWithAll K (tbOf pW pR)) := gc_df X G F.d_with_all_faces (fun _ _ _ _ _ _ us hl => match us, hl with | [_], _ => rfl) fun f fd Fn => ok_withAll Fn T TW GFO mFO kFO bFO
  have dRB : Df P w K mg base 5 "row_by_heights" ["simplices", "heights"] (spRowBy K (tbOf pW pR)) := gc_df X G F.d_row_by_heights (fun _ _ _ _ _ _ us hl => match us, hl with | [_, _], _ => rfl) fun f fd Fn => ok_rowBy Fn T TR GCA mCA kCA bCA
  have dLE : Df P w K mg base 2 "what_is_left" ["boundary", "kept"] (spLeft K) := gf_df X G F.d_what_is_left (fun _ _ _ _ _ _ us hl => match us, hl with | [_, _], _ => rfl) fun f fd Fn => ok_left Fn T GAD mAD kAD bAD
  obtain ⟨fLE, fdLE, GLE, mLE, kLE, bLE⟩ := dLE.ex
  have dPA : Df P w K mg base 3 "pairs_in" ["row"] (spPairs K) := gf_df X G F.d_pairs_in (fun _ _ _ _ _ _ us hl => match us, hl with | [_], _ => rfl) fun f fd Fn => ok_pairs Fn T GPL mPL kPL bPL GBO mBO kBO bBO GLE mLE kLE bLE
  obtain ⟨fPA, fdPA, GPA, mPA, kPA, bPA⟩ := dPA.ex
  have dBA : Df P w K mg base 4 "bars_in" ["row", "heights"] (spBars K) := gf_df X G F.d_bars_in (fun _ _ _ _ _ _ us hl => match us, hl with | [_, _], _ => rfl) fun f fd Fn => ok_bars Fn T gE GPA mPA kPA bPA GCA mCA kCA bCA
  have dPI : Df P w K mg base 4 "partner_in" ["row", "simplex"] (spPartnerIn K) := gf_df X G F.d_partner_in (fun _ _ _ _ _ _ us hl => match us, hl with | [_, _], _ => rfl) fun f fd Fn => ok_partnerIn Fn T k0 k1 k2 GPL mPL kPL bPL GPA mPA kPA bPA
  have mCR : Md P w K mg base C 6 "current_row" ["self"] (spCurRow C (tbOf pW pR)) := mf_md F.m_current_row (fun _ _ _ _ _ _ us hl => match us, hl with | [_], _ => rfl) fun f fd Fn => ok_curRow Fn TC dRB
  have mCB : Md P w K mg base C 7 "current_bars" ["self"] (spCurBars C (tbOf pW pR)) := mf_md F.m_current_bars (fun _ _ _ _ _ _ us hl => match us, hl with | [_], _ => rfl) fun f fd Fn => ok_curBars Fn TC mCR dBA
  have m0 : Md P w K mg base C 8 "shape" ["self", "simplices"] (spShape K C (tbOf pW pR)) := mf_md F.m_shape (fun _ _ _ _ _ _ us hl => match us, hl with | [_, _], _ => rfl) fun f fd Fn => ok_shape Fn T TC gS gM g60 dIS dWA
  have m1 : Md P w K mg base C 8 "height" ["self", "heights"] (spHeight K C (tbOf pW pR)) := mf_md F.m_height (fun _ _ _ _ _ _ us hl => match us, hl with | [_, _], _ => rfl) fun f fd Fn => ok_height Fn T TC gH dAH mCB
  have m2 : Md P w K mg base C 8 "row_of" ["self"] (spRowOf C (tbOf pW pR)) := mf_md F.m_row_of (fun _ _ _ _ _ _ us hl => match us, hl with | [_], _ => rfl) fun f fd Fn => ok_rowOf Fn TC mCR dTS
  have m3 : Md P w K mg base C 8 "pairs" ["self"] (spPairsM C (tbOf pW pR)) := mf_md F.m_pairs (fun _ _ _ _ _ _ us hl => match us, hl with | [_], _ => rfl) fun f fd Fn => ok_pairsM Fn TC mCR dPA dT2
  have m4 : Md P w K mg base C 8 "bars" ["self", "dimension"] (spBarsM C (tbOf pW pR)) := mf_md F.m_bars (fun _ _ _ _ _ _ us hl => match us, hl with | [_, _], _ => rfl) fun f fd Fn => ok_barsM Fn TC mCB dT2
  have m5 : Md P w K mg base C 8 "at" ["self", "height"] (spAt C (tbOf pW pR)) := mf_md F.m_at (fun _ _ _ _ _ _ us hl => match us, hl with | [_, _], _ => rfl) fun f fd Fn => ok_at Fn TC mCB dIT dTD
  have m6 : Md P w K mg base C 8 "lasting" ["self", "height", "other"] (spLasting C (tbOf pW pR)) := mf_md F.m_lasting (fun _ _ _ _ _ _ us hl => match us, hl with | [_, _, _], _ => rfl) fun f fd Fn => ok_lasting Fn TC gL mCB dIT dTD
  have m7 : Md P w K mg base C 8 "longest" ["self", "dimension"] (spLongest C (tbOf pW pR)) := mf_md F.m_longest (fun _ _ _ _ _ _ us hl => match us, hl with | [_, _], _ => rfl) fun f fd Fn => ok_longest Fn T TC gE g6 mCB dLN
  have m8 : Md P w K mg base C 8 "swamped" ["self", "height"] (spSwamped C (tbOf pW pR)) := mf_md F.m_swamped (fun _ _ _ _ _ _ us hl => match us, hl with | [_, _], _ => rfl) fun f fd Fn => ok_swamped Fn TC dCA dNF dTS
  have m9 : Md P w K mg base C 8 "partner" ["self", "corners"] (spPartner K C (tbOf pW pR)) := mf_md F.m_partner (fun _ _ _ _ _ _ us hl => match us, hl with | [_, _], _ => rfl) fun f fd Fn => ok_partner Fn T TC gS gN dIS mCR dPI
  have dAO : Df P w K mg base 9 "answer_of" ["flooded", "call", "numbers", "lists"] (spAnswerOf K C (tbOf pW pR)) := gf_df X G F.d_answer_of (fun _ _ _ _ _ _ us hl => match us, hl with | [_, _, _, _], _ => rfl) fun f fd Fn => ok_answerOf Fn TC CT m0 m1 m2 m3 m4 m5 m6 m7 m8 m9
  have mI : Md P w K mg base C 1 "__init__" ["self"] (spInit C) := mf_md F.m_init (fun _ _ _ _ _ _ us hl => match us, hl with | [_], _ => rfl) fun f fd Fn => ok_init Fn T TC
  obtain ⟨fI, fdI, GI, mI, bI⟩ := mI.ex
  exact fun f fd Fn => ok_answers Fn T ⟨F.cls.mks, mI.at_, mI.fn, F.cls.kc⟩ (PySem.W.mg_of X G F.cls.g) GI bI dCO dAO
/-! ### the request -/
end
theorem asked_is {l : List Int} (h : PyHo02.answers_asked l = true) : ∃ cs, l = PyWide.put cs ∧ (∀ c ∈ cs, CallOk c) ∧ PyHo02.answers l = told (played Ho02Neutral.step Ho02.init cs) ∧ (told (played Ho02Neutral.step Ho02.init cs)).length ≤ 10000000 := by
  unfold PyHo02.answers_asked at h
  cases e : PyHo02.calls l with
  | none =>
    rw [e] at h
    cases h
  | some cs =>
    rw [e] at h
    dsimp only at h
    simp only [Bool.and_eq_true] at h
    obtain ⟨⟨⟨⟨_, h2⟩, _⟩, _⟩, h5⟩ := h
    have ea : PyHo02.answers l = told (played Ho02Neutral.step Ho02.init cs) := by
      unfold PyHo02.answers
      rw [e]
      rfl
    obtain ⟨p1, p2⟩ := PyWide.put_calls l.length l cs e
    refine ⟨cs, p1, fun c hc => ?_, ea, ?_⟩
    · obtain ⟨p, ns, xs, rfl⟩ := p2 c hc
      obtain ⟨d, hd⟩ := fits_call (List.all_eq_true.mp h2 _ hc)
      exact ⟨p, ns, xs, d, rfl, hd⟩
    · rw [← ea]
      unfold PyFlat.short at h5
      simpa using h5
section
variable {w : World} {K : PySem.W.Frag} {mg : Str → Option Value} {h : Heap}
theorem ends {C cW pW cR pR fa : Addr} (X : K.In h) (G : h.Ns mainGlobals mg) (F : Facts K C cW pW cR pR) (hfa : mg "answers" = some (.ref fa))
    (tW : PySem.W.CodeHd h cW pW ∧ h.get? pW = some noCode) (tR : PySem.W.CodeHd h cR pR ∧ h.get? pR = some noCode) : Nonempty (Ends1 PySem.Challenge.rw_floodedshape_s01_answers w K 10 ["calls"] mg fa h) := by
  obtain ⟨f, oc, od, kV, doc, pm, an, cd, ct, sl, a, l, c, kp⟩ := F.d_answers.ex
  obtain rfl : fa = f := by
    have e := hfa.symm.trans (PySem.W.mg_of X G a)
    cases e
    rfl
  refine ⟨⟨PySem.W.fnOf "answers" "answers" (defArgs sAnswers) (defBody sAnswers) (defScope sAnswers) .none kV doc pm an cd ct, [(cW, pW), (cR, pR)], spAnswers K (tbOf pW pR), fun t ht => ?_, fun t ht => ?_, fun t ht => ?_, fun s us hu => match us, hu with | [_], _ => .of_eq rfl, fun H xs q hO hwi hask hx => ?_, fun base KB GB hTB => ?_⟩⟩
  · rcases List.mem_cons.mp ht with e | e
    · rw [e]; exact tW.2
    · rw [List.mem_singleton.mp e]; exact tR.2
  · rcases List.mem_cons.mp ht with e | e
    · rw [e]; exact F.offW
    · rw [List.mem_singleton.mp e]; exact F.offR
  · rcases List.mem_cons.mp ht with e | e
    · rw [e]; exact tW.1
    · rw [List.mem_singleton.mp e]; exact tR.1
  · cases hx with
    | cons h1 h2 =>
      cases h2
      cases h1 with
      | lst hs ha =>
        have e := L2.ints_dw q.1 _ ha
        subst e
        obtain ⟨cs, e1, e2, e3, e4⟩ := asked_is (l := q.1) hask
        refine ⟨_, cs, rfl, by rw [← e1]; exact hs, e2, fun p hp => ?_, e4, fun H' p hp => ?_⟩
        · rcases List.mem_cons.mp hp with e | e
          · rw [e]; exact TabS.nil (hO (cW, pW) (List.mem_cons_self ..))
          · rw [List.mem_singleton.mp e]; exact TabS.nil (hO (cR, pR) (List.mem_cons_of_mem _ (List.mem_cons_self ..)))
        · rw [← e3] at hp
          exact .lst (L2.SqL.of hp) (L2.dw_ints _)
  · exact prog_ok X G F (hTB _ (List.mem_cons_self ..)) (hTB _ (List.mem_cons_of_mem _ (List.mem_cons_self ..))) _ _ (fun_mk (st := sAnswers) l c kp)
theorem ends2 {fa : Addr} {p : Program} {loose : List Str} {mean : ExcName → Option Value} {mb : Str → Option Value} {d1 d2 : DefRec} (X : K.In h) (T : Top p loose mean mg mb h) (F : ∃ C cW pW cR pR, Facts K C cW pW cR pR) (hfa : mg "answers" = some (.ref fa))
    (r1 : (recsOf p).find? (fun e => e.name == ("with_all_faces" : Str)) = some d1) (r2 : (recsOf p).find? (fun e => e.name == ("row_by_heights" : Str)) = some d2) : Nonempty (Ends1 PySem.Challenge.rw_floodedshape_s01_answers w K 10 ["calls"] mg fa h) := by
  obtain ⟨C, cW, pW, cR, pR, F⟩ := F
  exact ends X T.g F hfa (PySem.W.tab_of T X r1 (gc_tab F.d_with_all_faces)) (PySem.W.tab_of T X r2 (gc_tab F.d_row_by_heights))
end
end Fl

open PySem PySem.W PyProof.Rows
set_option Elab.async false
set_option maxRecDepth 100000 in
set_option maxHeartbeats 8000000 in
theorem PySem.Challenge.cw_floodedshape_s01_answers_holds : PySem.Challenge.rw_floodedshape_s01_answers.Holds := by
  w_on; k_headS; (case hw => exact ⟨[.list [.int 2, .int 0, .int 0]], by decide +kernel, by decide +kernel⟩)
  k_fillS
  refine Fl.walk_specT (r := PySem.Challenge.rw_floodedshape_s01_answers) (k := 10) (ps := ["calls"]) (by decide +kernel) rfl ⟨rfl, by decide, by decide⟩ (fun w h Y => PySem.W.kIn_of Y) ?F
  intro w mg mb mean fa h KX T hmg
  refine' Fl.ends2 KX T ?facts hmg rfl rfl
  case facts =>
  refine' Fl.Facts.some_ (Fl.Facts.mk ?d_is_simplex ?d_are_heights ?d_faces_of ?d_no_faces_of_others ?d_comes_at ?d_places_in ?d_boundary_of ?d_added_by_twos ?d_what_is_left ?d_pairs_in ?d_bars_in ?d_is_bar_there ?d_length_of ?d_partner_in ?d_told_by_dimension ?d_told_simplices ?d_told_twos ?d_answer_of ?d_counted ?d_answers ?d_with_all_faces ?d_row_by_heights ?m_init ?m_current_row ?m_current_bars ?m_shape ?m_height ?m_row_of ?m_pairs ?m_bars ?m_at ?m_lasting ?m_longest ?m_swamped ?m_partner ?n_HOW_MANY_CORNERS ?n_MOST_CORNERS_OF_A_SIMPLEX ?n_MOST_SIMPLICES ?n_GREATEST_HEIGHT ?n_NO_END ?n_NOT_A_SIMPLEX ?n_TOO_MANY_SIMPLICES ?n_NOT_HEIGHTS ?n_SECOND_IS_LOWER ?n_NOT_THERE ?n_NONE_THAT_ENDS ?n_NOTHING_FILLS_IT ?n_FILLED_BY ?n_FILLS_WHAT_IS_BORNE_BY ?n_SHAPE ?n_HEIGHT ?n_ROW_OF ?n_PAIRS ?n_BARS ?n_AT ?n_LASTING ?n_LONGEST ?n_SWAMPED ?n_PARTNER ?z_len ?z_all ?z_set ?z_max ?z_sorted ?z_list ?z_tuple ?z_enumerate ?z_range ?cls ?offW ?offR ?apart)
  case cls => refine' ⟨?g, ?pg, ?hd, ?po, ?sa, ?mk, ?kc, ?nS, ?nH⟩; (case g => k_is); (case pg => k_is); (case hd => k_is); (case po => k_is); (case sa => k_is); (case mk => k_is); (case kc => k_is); (case nS => k_is); (case nH => k_is)
  case d_is_simplex => refine' Fl.GF.of ?a ?l ?c ?k; (case a => k_is); (case l => k_is); (case c => k_is); (case k => k_is)
  case d_are_heights => refine' Fl.GF.of ?a ?l ?c ?k; (case a => k_is); (case l => k_is); (case c => k_is); (case k => k_is)
  case d_faces_of => refine' Fl.GF.of ?a ?l ?c ?k; (case a => k_is); (case l => k_is); (case c => k_is); (case k => k_is)
  case d_no_faces_of_others => refine' Fl.GF.of ?a ?l ?c ?k; (case a => k_is); (case l => k_is); (case c => k_is); (case k => k_is)
  case d_comes_at => refine' Fl.GF.of ?a ?l ?c ?k; (case a => k_is); (case l => k_is); (case c => k_is); (case k => k_is)
  case d_places_in => refine' Fl.GF.of ?a ?l ?c ?k; (case a => k_is); (case l => k_is); (case c => k_is); (case k => k_is)
  case d_boundary_of => refine' Fl.GF.of ?a ?l ?c ?k; (case a => k_is); (case l => k_is); (case c => k_is); (case k => k_is)
  case d_added_by_twos => refine' Fl.GF.of ?a ?l ?c ?k; (case a => k_is); (case l => k_is); (case c => k_is); (case k => k_is)
  case d_what_is_left => refine' Fl.GF.of ?a ?l ?c ?k; (case a => k_is); (case l => k_is); (case c => k_is); (case k => k_is)
  case d_pairs_in => refine' Fl.GF.of ?a ?l ?c ?k; (case a => k_is); (case l => k_is); (case c => k_is); (case k => k_is)
  case d_bars_in => refine' Fl.GF.of ?a ?l ?c ?k; (case a => k_is); (case l => k_is); (case c => k_is); (case k => k_is)
  case d_is_bar_there => refine' Fl.GF.of ?a ?l ?c ?k; (case a => k_is); (case l => k_is); (case c => k_is); (case k => k_is)
  case d_length_of => refine' Fl.GF.of ?a ?l ?c ?k; (case a => k_is); (case l => k_is); (case c => k_is); (case k => k_is)
  case d_partner_in => refine' Fl.GF.of ?a ?l ?c ?k; (case a => k_is); (case l => k_is); (case c => k_is); (case k => k_is)
  case d_told_by_dimension => refine' Fl.GF.of ?a ?l ?c ?k; (case a => k_is); (case l => k_is); (case c => k_is); (case k => k_is)
  case d_told_simplices => refine' Fl.GF.of ?a ?l ?c ?k; (case a => k_is); (case l => k_is); (case c => k_is); (case k => k_is)
  case d_told_twos => refine' Fl.GF.of ?a ?l ?c ?k; (case a => k_is); (case l => k_is); (case c => k_is); (case k => k_is)
  case d_answer_of => refine' Fl.GF.of ?a ?l ?c ?k; (case a => k_is); (case l => k_is); (case c => k_is); (case k => k_is)
  case d_counted => refine' Fl.GF.of ?a ?l ?c ?k; (case a => k_is); (case l => k_is); (case c => k_is); (case k => k_is)
  case d_answers => refine' Fl.GF.of ?a ?l ?c ?k; (case a => k_is); (case l => k_is); (case c => k_is); (case k => k_is)
  case d_with_all_faces => refine' Fl.GC.of ?a ?l ?c ?k ?m ?v; (case a => k_is); (case l => k_is); (case c => k_is); (case k => k_is); (case m => k_is); (case v => rfl)
  case d_row_by_heights => refine' Fl.GC.of ?a ?l ?c ?k ?m ?v; (case a => k_is); (case l => k_is); (case c => k_is); (case k => k_is); (case m => k_is); (case v => rfl)
  case m_init => refine' Fl.MF.of ?a ?i ?l ?c ?k; (case a => k_is); (case i => k_is); (case l => k_is); (case c => k_is); (case k => k_is)
  case m_current_row => refine' Fl.MF.of ?a ?i ?l ?c ?k; (case a => k_is); (case i => k_is); (case l => k_is); (case c => k_is); (case k => k_is)
  case m_current_bars => refine' Fl.MF.of ?a ?i ?l ?c ?k; (case a => k_is); (case i => k_is); (case l => k_is); (case c => k_is); (case k => k_is)
  case m_shape => refine' Fl.MF.of ?a ?i ?l ?c ?k; (case a => k_is); (case i => k_is); (case l => k_is); (case c => k_is); (case k => k_is)
  case m_height => refine' Fl.MF.of ?a ?i ?l ?c ?k; (case a => k_is); (case i => k_is); (case l => k_is); (case c => k_is); (case k => k_is)
  case m_row_of => refine' Fl.MF.of ?a ?i ?l ?c ?k; (case a => k_is); (case i => k_is); (case l => k_is); (case c => k_is); (case k => k_is)
  case m_pairs => refine' Fl.MF.of ?a ?i ?l ?c ?k; (case a => k_is); (case i => k_is); (case l => k_is); (case c => k_is); (case k => k_is)
  case m_bars => refine' Fl.MF.of ?a ?i ?l ?c ?k; (case a => k_is); (case i => k_is); (case l => k_is); (case c => k_is); (case k => k_is)
  case m_at => refine' Fl.MF.of ?a ?i ?l ?c ?k; (case a => k_is); (case i => k_is); (case l => k_is); (case c => k_is); (case k => k_is)
  case m_lasting => refine' Fl.MF.of ?a ?i ?l ?c ?k; (case a => k_is); (case i => k_is); (case l => k_is); (case c => k_is); (case k => k_is)
  case m_longest => refine' Fl.MF.of ?a ?i ?l ?c ?k; (case a => k_is); (case i => k_is); (case l => k_is); (case c => k_is); (case k => k_is)
  case m_swamped => refine' Fl.MF.of ?a ?i ?l ?c ?k; (case a => k_is); (case i => k_is); (case l => k_is); (case c => k_is); (case k => k_is)
  case m_partner => refine' Fl.MF.of ?a ?i ?l ?c ?k; (case a => k_is); (case i => k_is); (case l => k_is); (case c => k_is); (case k => k_is)
  case n_HOW_MANY_CORNERS => refine' Fl.NF.of ?a; (case a => k_is)
  case n_MOST_CORNERS_OF_A_SIMPLEX => refine' Fl.NF.of ?a; (case a => k_is)
  case n_MOST_SIMPLICES => refine' Fl.NF.of ?a; (case a => k_is)
  case n_GREATEST_HEIGHT => refine' Fl.NF.of ?a; (case a => k_is)
  case n_NO_END => refine' Fl.NF.of ?a; (case a => k_is)
  case n_NOT_A_SIMPLEX => refine' Fl.NF.of ?a; (case a => k_is)
  case n_TOO_MANY_SIMPLICES => refine' Fl.NF.of ?a; (case a => k_is)
  case n_NOT_HEIGHTS => refine' Fl.NF.of ?a; (case a => k_is)
  case n_SECOND_IS_LOWER => refine' Fl.NF.of ?a; (case a => k_is)
  case n_NOT_THERE => refine' Fl.NF.of ?a; (case a => k_is)
  case n_NONE_THAT_ENDS => refine' Fl.NF.of ?a; (case a => k_is)
  case n_NOTHING_FILLS_IT => refine' Fl.NF.of ?a; (case a => k_is)
  case n_FILLED_BY => refine' Fl.NF.of ?a; (case a => k_is)
  case n_FILLS_WHAT_IS_BORNE_BY => refine' Fl.NF.of ?a; (case a => k_is)
  case n_SHAPE => refine' Fl.NF.of ?a; (case a => k_is)
  case n_HEIGHT => refine' Fl.NF.of ?a; (case a => k_is)
  case n_ROW_OF => refine' Fl.NF.of ?a; (case a => k_is)
  case n_PAIRS => refine' Fl.NF.of ?a; (case a => k_is)
  case n_BARS => refine' Fl.NF.of ?a; (case a => k_is)
  case n_AT => refine' Fl.NF.of ?a; (case a => k_is)
  case n_LASTING => refine' Fl.NF.of ?a; (case a => k_is)
  case n_LONGEST => refine' Fl.NF.of ?a; (case a => k_is)
  case n_SWAMPED => refine' Fl.NF.of ?a; (case a => k_is)
  case n_PARTNER => refine' Fl.NF.of ?a; (case a => k_is)
  case z_len => k_is
  case z_all => k_is
  case z_set => k_is
  case z_max => k_is
  case z_sorted => k_is
  case z_list => k_is
  case z_tuple => k_is
  case z_enumerate => k_is
  case z_range => k_is
  case offW => first | k_is | rfl | kernel_rfl
  case offR => first | k_is | rfl | kernel_rfl
  case apart => decide
#print axioms PySem.Challenge.cw_floodedshape_s01_answers_holds
