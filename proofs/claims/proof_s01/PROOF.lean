import PyProof.Rows.All
import Wide.All
import OpenK.AllK
import Wide.FinOn
import Open.SpecLaws
import KE.OsHead
import KE.OsGo
import HandS.ForSpec
import HandS.ForMost
import KE.KeyNested
import HandS.Walk
import HandS.Conv
import HandS.Style
import HandS.SortInts
import HandS.More
import HandS.TupLen
import HandS.WordsDict
import PySem.Challenge.RW_sweptheapdesk_s01_answers
set_option Elab.async false
set_option maxRecDepth 100000
set_option maxHeartbeats 8000000
namespace Sw
open Lg04 (Cell Heap M Value Choice cellAt look through bind within stands same mark unify)

/-- A cell from which all that can be come to stands well: places within the heap, going down, structures whole, nothing within itself. -/
inductive Good (h : Heap) : Cell → Prop where
  | con (s : Nat) : Good h (.con s)
  | free (a : Nat) : a < h.size → cellAt h a = .ref a → Good h (.ref a)
  | ref (a b : Nat) : a < h.size → cellAt h a = .ref b → b < a → Good h (.ref b) → Good h (.ref a)
  | rcon (a s : Nat) : a < h.size → cellAt h a = .con s → Good h (.ref a)
  | rstr (a p : Nat) : a < h.size → cellAt h a = .str p → Good h (.str p) → Good h (.ref a)
  | str (p s k : Nat) : cellAt h p = .head s k → 1 ≤ k → k ≤ 4 → p + k < h.size → (∀ i, i < k → cellAt h (p + 1 + i) ≠ .ref (p + 1 + i)) → (∀ i, i < k → Good h (.ref (p + 1 + i))) → Good h (.str p)

theorem Good.no_head {h : Heap} {s k : Nat} (g : Good h (.head s k)) : False := by cases g

theorem Good.lt {h : Heap} {a : Nat} (g : Good h (.ref a)) : a < h.size := by
  cases g <;> assumption

/-- of a place that isn't free, what its cell is -/
theorem Good.next {h : Heap} {a : Nat} (g : Good h (.ref a)) (n : cellAt h a ≠ .ref a) : Good h (cellAt h a) ∧ ∀ b, cellAt h a = .ref b → b < a := by
  cases g with
  | free _ l e => exact absurd e n
  | ref _ b l e lt g => rw [e]; exact ⟨g, fun c q => by cases q; exact lt⟩
  | rcon _ s l e => rw [e]; exact ⟨.con s, fun c q => by cases q⟩
  | rstr _ p l e g => rw [e]; exact ⟨g, fun c q => by cases q⟩

theorem Good.ofNext {h : Heap} {a : Nat} (l : a < h.size) (n : ∀ b, cellAt h a = .ref b → b < a) (g : Good h (cellAt h a)) : Good h (.ref a) := by
  cases e : cellAt h a with
  | ref b => rw [e] at g; exact .ref a b l e (n b e) g
  | con s => exact .rcon a s l e
  | str p => rw [e] at g; exact .rstr a p l e g
  | head s k => rw [e] at g; exact g.no_head.elim

theorem Good.parts {h : Heap} {p : Nat} (g : Good h (.str p)) : ∃ s k, cellAt h p = .head s k ∧ 1 ≤ k ∧ k ≤ 4 ∧ p + k < h.size ∧ (∀ i, i < k → cellAt h (p + 1 + i) ≠ .ref (p + 1 + i)) ∧ (∀ i, i < k → Good h (.ref (p + 1 + i))) := by
  cases g with
  | str _ s k e l1 l4 b n a => exact ⟨s, k, e, l1, l4, b, n, a⟩

theorem through_other {h : Heap} {c : Cell} (n : ∀ a, c ≠ .ref a) : ∀ k, through h k c = c := by
  intro k
  cases c with
  | ref a => exact absurd rfl (n a)
  | con s => cases k <;> rfl
  | str p => cases k <;> rfl
  | head s j => cases k <;> rfl

theorem through_fuel {h : Heap} : ∀ (a : Nat), Good h (.ref a) → ∀ k j, a < k → a < j → through h k (.ref a) = through h j (.ref a) := by
  intro a
  induction a using Nat.strongRecOn with
  | ind a ih =>
    intro g k j hk hj
    match k, j, hk, hj with
    | k + 1, j + 1, hk, hj =>
      unfold through
      by_cases e : cellAt h a = .ref a
      · rw [if_pos e, if_pos e]
      · rw [if_neg e, if_neg e]
        obtain ⟨g', lt⟩ := g.next e
        cases e' : cellAt h a with
        | ref b =>
          have := lt b e'
          rw [e'] at g'
          exact ih b this g' k j (by omega) (by omega)
        | con s => rw [through_other (by intro a q; cases q), through_other (by intro a q; cases q)]
        | str p => rw [through_other (by intro a q; cases q), through_other (by intro a q; cases q)]
        | head s k => rw [through_other (by intro a q; cases q), through_other (by intro a q; cases q)]

theorem look_con {h : Heap} {s : Nat} : look h (.con s) = .con s := through_other (by intro a q; cases q) _
theorem look_str {h : Heap} {s : Nat} : look h (.str s) = .str s := through_other (by intro a q; cases q) _
theorem look_free {h : Heap} {a : Nat} (e : cellAt h a = .ref a) : look h (.ref a) = .ref a := by
  unfold look through
  rw [if_pos e]
theorem look_next {h : Heap} {a : Nat} (g : Good h (.ref a)) (n : cellAt h a ≠ .ref a) : look h (.ref a) = look h (cellAt h a) := by
  obtain ⟨g', lt⟩ := g.next n
  have l := g.lt
  show through h (h.size + 1) (.ref a) = through h (h.size + 1) (cellAt h a)
  conv => lhs; unfold through
  rw [if_neg n]
  cases e' : cellAt h a with
  | ref b =>
    have := lt b e'
    rw [e'] at g'
    exact through_fuel b g' _ _ (by omega) (by omega)
  | con s => rw [through_other (by intro a q; cases q), through_other (by intro a q; cases q)]
  | str p => rw [through_other (by intro a q; cases q), through_other (by intro a q; cases q)]
  | head s k => rw [through_other (by intro a q; cases q), through_other (by intro a q; cases q)]

/-- What a look ends at. -/
def Final (h : Heap) : Cell → Prop
  | .ref a => a < h.size ∧ cellAt h a = .ref a
  | .con _ => True
  | .str _ => True
  | .head _ _ => False

theorem look_ref_good {h : Heap} : ∀ (a : Nat), Good h (.ref a) → Good h (look h (.ref a)) ∧ Final h (look h (.ref a)) := by
  intro a
  induction a using Nat.strongRecOn with
  | ind a ih =>
    intro g
    by_cases e : cellAt h a = .ref a
    · rw [look_free e]
      exact ⟨g, g.lt, e⟩
    · rw [look_next g e]
      obtain ⟨g', lt⟩ := g.next e
      cases e' : cellAt h a with
      | ref b =>
        have := lt b e'
        rw [e'] at g'
        exact ih b this g'
      | con s => rw [look_con]; exact ⟨.con s, trivial⟩
      | str p => rw [look_str]; rw [e'] at g'; exact ⟨g', trivial⟩
      | head s k => rw [e'] at g'; exact g'.no_head.elim

theorem look_good {h : Heap} {c : Cell} (g : Good h c) : Good h (look h c) ∧ Final h (look h c) := by
  cases c with
  | ref a => exact look_ref_good a g
  | con s => rw [look_con]; exact ⟨g, trivial⟩
  | str p => rw [look_str]; exact ⟨g, trivial⟩
  | head s k => exact g.no_head.elim

theorem look_final {h : Heap} {c : Cell} (f : Final h c) : look h c = c := by
  cases c with
  | ref a => exact look_free f.2
  | con s => exact look_con
  | str p => exact look_str
  | head s k => exact f.elim

/-- The free variable at a stands in c. -/
inductive Occ (h : Heap) (a : Nat) : Cell → Prop where
  | here (c : Cell) : look h c = .ref a → Occ h a c
  | arg (c : Cell) (p s k i : Nat) : look h c = .str p → cellAt h p = .head s k → i < k → Occ h a (.ref (p + 1 + i)) → Occ h a c

theorem filter_le {p q : Nat → Bool} : ∀ (l : List Nat), (∀ x, x ∈ l → p x = true → q x = true) → (l.filter p).length ≤ (l.filter q).length
  | [], _ => Nat.le_refl _
  | x :: l, h => by
    have ih := filter_le l fun y m => h y (.tail _ m)
    rw [List.filter_cons, List.filter_cons]
    by_cases hp : p x = true
    · rw [if_pos hp, if_pos (h x (.head _) hp), List.length_cons, List.length_cons]
      exact Nat.succ_le_succ ih
    · rw [if_neg hp]
      split
      · rw [List.length_cons]; omega
      · exact ih
theorem filter_lt {p q : Nat → Bool} : ∀ (l : List Nat), (∀ x, x ∈ l → p x = true → q x = true) → ∀ y, y ∈ l → p y = false → q y = true → (l.filter p).length + 1 ≤ (l.filter q).length
  | x :: l, h, y, m, hp, hq => by
    have hl : ∀ x, x ∈ l → p x = true → q x = true := fun z mz => h z (.tail _ mz)
    rw [List.filter_cons, List.filter_cons]
    by_cases e : x = y
    · subst e
      rw [if_neg (by rw [hp]; decide), if_pos hq, List.length_cons]
      exact Nat.succ_le_succ (filter_le l hl)
    · have m' : y ∈ l := by
        cases m with
        | head => exact absurd rfl e
        | tail _ m => exact m
      have ih := filter_lt l hl y m' hp hq
      by_cases hx : p x = true
      · rw [if_pos hx, if_pos (h x (.head _) hx), List.length_cons, List.length_cons]
        omega
      · rw [if_neg hx]
        split
        · rw [List.length_cons]; omega
        · exact ih

/-- how many places are not yet among those seen -/
def unseen (n : Nat) (seen : List Nat) : Nat := ((List.range n).filter fun p => !decide (p ∈ seen)).length

theorem unseen_mono {n : Nat} {l l' : List Nat} (s : ∀ p, p ∈ l → p ∈ l') : unseen n l' ≤ unseen n l :=
  filter_le _ fun x _ h => by
    simp at h ⊢
    exact fun m => h (s x m)
theorem unseen_cons {n s : Nat} {seen : List Nat} (hs : s < n) (hn : s ∉ seen) : unseen n (s :: seen) + 1 ≤ unseen n seen :=
  filter_lt _ (fun x _ h => by simp at h ⊢; exact h.2) s (List.mem_range.mpr hs) (by simp) (by simpa using hn)

/-- c isn't the variable, and if it's a structure that's among those seen -/
def Cov (h : Heap) (a : Nat) (seen : List Nat) (c : Cell) : Prop := look h c ≠ .ref a ∧ ∀ s, look h c = .str s → s ∈ seen
theorem Cov.mono {h : Heap} {a : Nat} {l l' : List Nat} {c : Cell} (x : Cov h a l c) (s : ∀ p, p ∈ l → p ∈ l') : Cov h a l' c := ⟨x.1, fun p e => s p (x.2 p e)⟩
def Shut (h : Heap) (a : Nat) (seen : List Nat) (p : Nat) : Prop := ∀ s k i, cellAt h p = .head s k → i < k → Cov h a seen (.ref (p + 1 + i))

theorem not_occ {h : Heap} {a : Nat} {seen : List Nat} (cl : ∀ p, p ∈ seen → Shut h a seen p) {c : Cell} (v : Cov h a seen c) : ¬ Occ h a c := by
  intro o
  induction o with
  | here c e => exact v.1 e
  | arg c p s k i e e' l o ih => exact ih (cl p (v.2 p e) s k i e' l)

structure Stood (h : Heap) (a : Nat) (seen : List Nat) (c : Cell) (r : Bool × List Nat) : Prop where
  sub : ∀ p, p ∈ seen → p ∈ r.2
  yes : r.1 = true → Occ h a c
  no : r.1 = false → Cov h a r.2 c ∧ ∀ p, p ∈ r.2 → p ∉ seen → Shut h a r.2 p

theorem stands_stood {h : Heap} {a : Nat} : ∀ (k : Nat) (c : Cell) (seen : List Nat), Good h c → unseen h.size seen < k → Stood h a seen c (stands h a k c seen) := by
  intro k
  induction k with
  | zero => intro c seen g u; omega
  | succ k ih =>
    intro c seen g u
    obtain ⟨g2, f2⟩ := look_good g
    unfold stands
    cases e : look h c with
    | ref b =>
      refine ⟨fun p m => m, fun y => .here c ?_, fun n => ⟨⟨?_, ?_⟩, fun p m m' => absurd m m'⟩⟩
      · have : a = b := by simpa using y
        rw [e, this]
      · intro q
        rw [e] at q
        cases q
        simp at n
      · intro s q
        rw [e] at q
        cases q
    | con b =>
      refine ⟨fun p m => m, fun y => by simp at y, fun n => ⟨⟨?_, ?_⟩, fun p m m' => absurd m m'⟩⟩
      · rw [e]; intro q; cases q
      · rw [e]; intro s q; cases q
    | head s j => rw [e] at g2; exact g2.no_head.elim
    | str s =>
      rw [e] at g2
      obtain ⟨sy, n, eh, l1, l4, lb, nf, ga⟩ := g2.parts
      dsimp only
      by_cases m : seen.contains s = true
      · rw [if_pos m]
        refine ⟨fun p m => m, fun y => by simp at y, fun _ => ⟨⟨?_, ?_⟩, fun p m m' => absurd m m'⟩⟩
        · rw [e]; intro q; cases q
        · rw [e]; intro s' q; cases q; simpa using m
      · rw [if_neg m]
        have m : seen.contains s = false := by simpa using m
        simp only [eh]
        have u1 : unseen h.size (s :: seen) < k := by
          have := unseen_cons (n := h.size) (s := s) (seen := seen) (by omega) (by simpa using m)
          omega
        -- the fold over the arguments
        have fold : ∀ (l : List Nat) (x : Bool × List Nat), (∀ i, i ∈ l → i < n) → (∀ p, p ∈ s :: seen → p ∈ x.2) →
            (x.1 = true → Occ h a c) → 
            let r := l.foldl (fun (x : Bool × List Nat) (i : Nat) => if x.1 = true then x else stands h a k (.ref (s + 1 + i)) x.2) x
            (∀ p, p ∈ x.2 → p ∈ r.2) ∧ (r.1 = true → Occ h a c) ∧ (r.1 = false → x.1 = false ∧ (∀ i, i ∈ l → Cov h a r.2 (.ref (s + 1 + i))) ∧ ∀ p, p ∈ r.2 → p ∉ x.2 → Shut h a r.2 p) := by
          intro l
          induction l with
          | nil => intro x hl hs hy; exact ⟨fun p m => m, hy, fun n => ⟨n, fun i m => (by cases m), fun p m m' => absurd m m'⟩⟩
          | cons i l ihl =>
            intro x hl hs hy
            simp only [List.foldl_cons]
            by_cases xt : x.1 = true
            · rw [if_pos xt]
              obtain ⟨r1, r2, r3⟩ := ihl x (fun i m => hl i (.tail _ m)) hs hy
              refine ⟨r1, r2, fun n => ?_⟩
              have := (r3 n).1
              rw [xt] at this
              cases this
            · rw [if_neg xt]
              have xf : x.1 = false := by simpa using xt
              have gi := ga i (hl i (.head _))
              have st := ih (.ref (s + 1 + i)) x.2 gi (Nat.lt_of_le_of_lt (unseen_mono hs) u1)
              obtain ⟨r1, r2, r3⟩ := ihl (stands h a k (.ref (s + 1 + i)) x.2) (fun i m => hl i (.tail _ m)) (fun p m => st.sub p (hs p m)) (fun y => .arg c s sy n i e eh (hl i (.head _)) (st.yes y))
              refine ⟨fun p m => r1 p (st.sub p m), r2, fun n => ?_⟩
              obtain ⟨q1, q2, q3⟩ := r3 n
              obtain ⟨c1, c2⟩ := st.no q1
              refine ⟨xf, ?_, ?_⟩
              · intro j mj
                cases mj with
                | head => exact c1.mono r1
                | tail _ mj => exact q2 j mj
              · intro p mp np
                by_cases mq : p ∈ (stands h a k (.ref (s + 1 + i)) x.2).2
                · intro s' k' i' e' l'
                  exact (c2 p mq np s' k' i' e' l').mono r1
                · exact q3 p mp mq
        obtain ⟨r1, r2, r3⟩ := fold (List.range n) (false, s :: seen) (fun i m => List.mem_range.mp m) (fun p m => m) (fun y => by simp at y)
        refine ⟨fun p m => r1 p (.tail _ m), r2, fun z => ?_⟩
        obtain ⟨_, q2, q3⟩ := r3 z
        refine ⟨⟨(by rw [e]; intro q; cases q), fun s' q => ?_⟩, fun p mp np => ?_⟩
        · rw [e] at q; cases q
          exact r1 _ (.head _)
        · by_cases ps : p = s
          · subst ps
            intro s' k' i' e' l'
            rw [eh] at e'
            cases e'
            exact q2 i' (List.mem_range.mpr l')
          · exact q3 p mp (fun q => by cases q with | head => exact ps rfl | tail _ q => exact np q)

theorem within_iff {h : Heap} {a : Nat} {c : Cell} (g : Good h c) : within h a c = true ↔ Occ h a c := by
  have st := stands_stood (a := a) (h.size + 1) c [] g (by
    have : unseen h.size [] ≤ h.size := by
      unfold unseen
      refine Nat.le_trans (List.length_filter_le _ _) ?_
      simp
    omega)
  unfold within
  constructor
  · exact st.yes
  · intro o
    cases e : (stands h a (h.size + 1) c []).1 with
    | true => rfl
    | false =>
      obtain ⟨cv, sh⟩ := st.no e
      exact absurd o (not_occ (fun p m => sh p m (by simp)) cv)
end Sw
namespace Sw
open Lg04 (Cell Heap M Value Choice cellAt look through bind within stands same mark unify undone)

theorem cellAt_lt {h : Heap} {a : Nat} (l : a < h.size) : cellAt h a = h[a] := by
  unfold cellAt
  rw [Array.getD_eq_getD_getElem?, Array.getElem?_eq_getElem l, Option.getD_some]
theorem cellAt_ge {h : Heap} {a : Nat} (l : h.size ≤ a) : cellAt h a = .con 0 := by
  unfold cellAt
  rw [Array.getD_eq_getD_getElem?, Array.getElem?_eq_none l, Option.getD_none]
theorem set_size {h : Heap} {a : Nat} {c : Cell} : (h.setIfInBounds a c).size = h.size := by simp
theorem cellAt_set_same {h : Heap} {a : Nat} {c : Cell} (l : a < h.size) : cellAt (h.setIfInBounds a c) a = c := by
  unfold cellAt
  rw [Array.getD_eq_getD_getElem?, Array.getElem?_setIfInBounds]
  simp [l]
theorem cellAt_set_ne {h : Heap} {a b : Nat} {c : Cell} (n : b ≠ a) : cellAt (h.setIfInBounds a c) b = cellAt h b := by
  unfold cellAt
  rw [Array.getD_eq_getD_getElem?, Array.getD_eq_getD_getElem?, Array.getElem?_setIfInBounds, if_neg (fun e => n e.symm)]
theorem cellAt_push_lt {h : Heap} {b : Nat} {c : Cell} (l : b < h.size) : cellAt (h.push c) b = cellAt h b := by
  rw [cellAt_lt l, cellAt_lt (by rw [Array.size_push]; omega), Array.getElem_push_lt l]
theorem cellAt_push_eq {h : Heap} {c : Cell} : cellAt (h.push c) h.size = c := by
  rw [cellAt_lt (by rw [Array.size_push]; omega), Array.getElem_push_eq]
theorem take_size {h : Heap} {n : Nat} (l : n ≤ h.size) : (h.take n).size = n := by
  simp; omega
theorem cellAt_take {h : Heap} {n a : Nat} (l : a < n) : cellAt (h.take n) a = cellAt h a := by
  by_cases q : a < h.size
  · rw [cellAt_lt q, cellAt_lt (by simp; omega)]
    simp
  · rw [cellAt_ge (by simp; omega), cellAt_ge (by omega)]
theorem heap_ext {h h' : Heap} (s : h.size = h'.size) (e : ∀ a, a < h.size → cellAt h a = cellAt h' a) : h = h' := by
  apply Array.ext s
  intro i l l'
  have := e i l
  rw [cellAt_lt l, cellAt_lt l'] at this
  exact this

/-- places made free again -/
def undo (l : List Nat) (h : Heap) : Heap := l.foldl (fun (h : Heap) (a : Nat) => h.setIfInBounds a (.ref a)) h
theorem undo_size : ∀ (l : List Nat) (h : Heap), (undo l h).size = h.size
  | [], _ => rfl
  | a :: l, h => by
    show (undo l (h.setIfInBounds a (.ref a))).size = h.size
    rw [undo_size l, set_size]
theorem undo_out : ∀ (l : List Nat) (h : Heap) (x : Nat), x ∉ l → cellAt (undo l h) x = cellAt h x
  | [], _, _, _ => rfl
  | a :: l, h, x, n => by
    show cellAt (undo l (h.setIfInBounds a (.ref a))) x = cellAt h x
    rw [undo_out l _ x (fun m => n (.tail _ m)), cellAt_set_ne (fun e => n (by rw [e]; exact .head _))]
theorem undo_in : ∀ (l : List Nat) (h : Heap) (x : Nat), x ∈ l → x < h.size → cellAt (undo l h) x = .ref x
  | a :: l, h, x, m, s => by
    show cellAt (undo l (h.setIfInBounds a (.ref a))) x = .ref x
    by_cases q : x ∈ l
    · exact undo_in l _ x q (by rw [set_size]; exact s)
    · rw [undo_out l _ x q]
      have : x = a := by
        cases m with
        | head => rfl
        | tail _ m => exact absurd m q
      subst this
      exact cellAt_set_same s

theorem undone_eq {m : M} {i : Nat} {b : Choice} (e : m.choices[i]? = some b) : undone m i = (undo (m.trail.take (m.trail.length - b.trail)) m.heap).take b.heap := by
  unfold undone
  rw [e]
  rfl

/-! Good under what happens to a heap. -/
theorem Good.mono {h h' : Heap} (s : h.size ≤ h'.size) (e : ∀ a, a < h.size → cellAt h' a = cellAt h a) {c : Cell} (g : Good h c) : Good h' c := by
  induction g with
  | con s => exact .con s
  | free a l q => exact .free a (by omega) (by rw [e a l]; exact q)
  | ref a b l q lt _ ih => exact .ref a b (by omega) (by rw [e a l]; exact q) lt ih
  | rcon a s l q => exact .rcon a s (by omega) (by rw [e a l]; exact q)
  | rstr a p l q _ ih => exact .rstr a p (by omega) (by rw [e a l]; exact q) ih
  | str p s k q l1 l4 b n _ ih =>
    exact .str p s k (by rw [e p (by omega)]; exact q) l1 l4 (by omega) (fun i l => by rw [e _ (by omega)]; exact n i l) ih

theorem Good.push {h : Heap} {c d : Cell} (g : Good h c) : Good (h.push d) c :=
  g.mono (by rw [Array.size_push]; omega) fun a l => cellAt_push_lt l

theorem Occ.of_look {h : Heap} {a : Nat} {c d : Cell} (e : look h c = look h d) (o : Occ h a c) : Occ h a d := by
  cases o with
  | here _ q => exact .here d (by rw [← e]; exact q)
  | arg _ p s k i q r l o => exact .arg d p s k i (by rw [← e]; exact q) r l o

section
variable {h : Heap} {a : Nat} {c : Cell}
theorem Good.bind1 (fa : cellAt h a = .ref a) {d : Cell} (g : Good h d) (o : ¬ Occ h a d) : Good (h.setIfInBounds a c) d := by
  induction g with
  | con s => exact .con s
  | free b l q =>
    have n : b ≠ a := fun e => o (by subst e; exact .here _ (look_free fa))
    exact .free b (by rw [set_size]; exact l) (by rw [cellAt_set_ne n]; exact q)
  | ref b b' l q lt g ih =>
    have n : b ≠ a := fun e => by subst e; rw [fa] at q; cases q; omega
    exact .ref b b' (by rw [set_size]; exact l) (by rw [cellAt_set_ne n]; exact q) lt (ih fun oc => o (oc.of_look (by
      rw [look_next (.ref b b' l q lt g) (by rw [q]; intro z; cases z; omega), q])))
  | rcon b s l q =>
    have n : b ≠ a := fun e => by subst e; rw [fa] at q; cases q
    exact .rcon b s (by rw [set_size]; exact l) (by rw [cellAt_set_ne n]; exact q)
  | rstr b p l q g ih =>
    have n : b ≠ a := fun e => by subst e; rw [fa] at q; cases q
    exact .rstr b p (by rw [set_size]; exact l) (by rw [cellAt_set_ne n]; exact q) (ih fun oc => o (oc.of_look (by
      rw [look_next (.rstr b p l q g) (by rw [q]; intro z; cases z), q])))
  | str p s k q l1 l4 b n g ih =>
    have n0 : p ≠ a := fun e => by subst e; rw [fa] at q; cases q
    have n1 : ∀ i, i < k → p + 1 + i ≠ a := fun i l e => n i l (by rw [e]; exact fa)
    exact .str p s k (by rw [cellAt_set_ne n0]; exact q) l1 l4 (by rw [set_size]; exact b) (fun i l => by rw [cellAt_set_ne (n1 i l)]; exact n i l)
      fun i l => ih i l fun oc => o (.arg _ p s k i look_str q l oc)

theorem Good.bind (fa : cellAt h a = .ref a) (la : a < h.size) (gc : Good h c) (oc : ¬ Occ h a c) (lt : ∀ b, c = .ref b → b < a) {d : Cell} (g : Good h d) : Good (h.setIfInBounds a c) d := by
  have g2 : Good (h.setIfInBounds a c) c := gc.bind1 fa oc
  have ga : Good (h.setIfInBounds a c) (.ref a) := Good.ofNext (by rw [set_size]; exact la) (fun b e => lt b (by rw [cellAt_set_same la] at e; exact e)) (by rw [cellAt_set_same la]; exact g2)
  induction g with
  | con s => exact .con s
  | free b l q =>
    by_cases n : b = a
    · subst n; exact ga
    · exact .free b (by rw [set_size]; exact l) (by rw [cellAt_set_ne n]; exact q)
  | ref b b' l q lt g ih =>
    have n : b ≠ a := fun e => by subst e; rw [fa] at q; cases q; omega
    exact .ref b b' (by rw [set_size]; exact l) (by rw [cellAt_set_ne n]; exact q) lt ih
  | rcon b s l q =>
    have n : b ≠ a := fun e => by subst e; rw [fa] at q; cases q
    exact .rcon b s (by rw [set_size]; exact l) (by rw [cellAt_set_ne n]; exact q)
  | rstr b p l q g ih =>
    have n : b ≠ a := fun e => by subst e; rw [fa] at q; cases q
    exact .rstr b p (by rw [set_size]; exact l) (by rw [cellAt_set_ne n]; exact q) ih
  | str p s k q l1 l4 b n g ih =>
    have n0 : p ≠ a := fun e => by subst e; rw [fa] at q; cases q
    have n1 : ∀ i, i < k → p + 1 + i ≠ a := fun i l e => n i l (by rw [e]; exact fa)
    exact .str p s k (by rw [cellAt_set_ne n0]; exact q) l1 l4 (by rw [set_size]; exact b) (fun i l => by rw [cellAt_set_ne (n1 i l)]; exact n i l) ih
end

/-! The machine's invariant. -/
def RegsOk (h : Heap) (l : List (Option Value)) : Prop := l.length = 16 ∧ ∀ v, v ∈ l → v = none ∨ ∃ c, v = some (.cell c) ∧ Good h c
theorem RegsOk.map {h h' : Heap} {l : List (Option Value)} (r : RegsOk h l) (f : ∀ c, Good h c → Good h' c) : RegsOk h' l :=
  ⟨r.1, fun v m => (r.2 v m).imp id fun ⟨c, e, g⟩ => ⟨c, e, f c g⟩⟩

structure Inv (m : M) : Prop where
  regs : RegsOk m.heap m.regs
  views : ∀ i b, m.choices[i]? = some b → RegsOk (undone m i) b.regs
  low : ∀ b, b ∈ m.choices → b.heap ≤ m.heap.size ∧ b.trail ≤ m.trail.length
  chain : m.choices.Pairwise fun b c => c.heap ≤ b.heap ∧ c.trail ≤ b.trail
  nodup : m.trail.Nodup
  bound : ∀ a, a ∈ m.trail → a < m.heap.size ∧ cellAt m.heap a ≠ .ref a
  old : ∀ b, b ∈ m.choices → ∀ a, a ∈ m.trail.drop (m.trail.length - b.trail) → a < b.heap
  few : m.choices.length ≤ 20

theorem mark_le {m : M} (I : Inv m) {b : Choice} (mb : b ∈ m.choices) : b.heap ≤ mark m := by
  unfold mark
  have ch := I.chain
  cases e : m.choices with
  | nil => rw [e] at mb; cases mb
  | cons x r =>
    rw [e] at mb ch
    show b.heap ≤ x.heap
    cases mb with
    | head => exact Nat.le_refl _
    | tail _ mb => exact ((List.pairwise_cons.mp ch).1 b mb).1

theorem mark_size {m : M} (I : Inv m) : mark m ≤ m.heap.size := by
  unfold mark
  cases e : m.choices with
  | nil => exact Nat.zero_le _
  | cons x r => exact (I.low x (by rw [e]; exact .head _)).1

theorem undone_size {m : M} (I : Inv m) {i : Nat} {b : Choice} (e : m.choices[i]? = some b) : (undone m i).size = b.heap := by
  rw [undone_eq e, take_size]
  rw [undo_size]
  exact (I.low b (List.mem_of_getElem? e)).1
theorem undone_in {m : M} (I : Inv m) {i : Nat} {b : Choice} (e : m.choices[i]? = some b) {x : Nat} (l : x < b.heap) (mx : x ∈ m.trail.take (m.trail.length - b.trail)) : cellAt (undone m i) x = .ref x := by
  have := (I.low b (List.mem_of_getElem? e)).1
  rw [undone_eq e, cellAt_take l, undo_in _ _ _ mx (by omega)]
theorem undone_out {m : M} {i : Nat} {b : Choice} (e : m.choices[i]? = some b) {x : Nat} (l : x < b.heap) (mx : x ∉ m.trail.take (m.trail.length - b.trail)) : cellAt (undone m i) x = cellAt m.heap x := by
  rw [undone_eq e, cellAt_take l, undo_out _ _ _ mx]

theorem bind_undone {m : M} {a : Nat} {c : Cell} (I : Inv m) (fa : cellAt m.heap a = .ref a) (i : Nat) (b : Choice) (e : m.choices[i]? = some b) : undone (bind m a c) i = undone m i := by
  have mb := List.mem_of_getElem? e
  have lo := I.low b mb
  have mk := mark_le I mb
  have e' : (bind m a c).choices[i]? = some b := e
  apply heap_ext
  · rw [undone_eq e', undone_eq e, take_size, take_size]
    · rw [undo_size]; exact lo.1
    · rw [undo_size]; show _ ≤ (m.heap.setIfInBounds a c).size; rw [set_size]; exact lo.1
  · intro x lx
    have lx : x < b.heap := by
      rw [undone_eq e', take_size] at lx
      · exact lx
      · rw [undo_size]; show _ ≤ (m.heap.setIfInBounds a c).size; rw [set_size]; exact lo.1
    rw [undone_eq e', undone_eq e, cellAt_take lx, cellAt_take lx]
    show cellAt (undo ((if a < mark m then a :: m.trail else m.trail).take ((if a < mark m then a :: m.trail else m.trail).length - b.trail)) (m.heap.setIfInBounds a c)) x = _
    by_cases q : a < mark m
    · rw [if_pos q, List.length_cons, show m.trail.length + 1 - b.trail = (m.trail.length - b.trail) + 1 by omega, List.take_succ_cons]
      by_cases xa : x = a
      · subst xa
        rw [undo_in _ _ _ (.head _) (by rw [set_size]; omega)]
        by_cases mx : x ∈ m.trail.take (m.trail.length - b.trail)
        · rw [undo_in _ _ _ mx (by omega)]
        · rw [undo_out _ _ _ mx, fa]
      · by_cases mx : x ∈ m.trail.take (m.trail.length - b.trail)
        · rw [undo_in _ _ _ mx (by omega), undo_in _ _ _ (.tail _ mx) (by rw [set_size]; omega)]
        · rw [undo_out _ _ _ mx, undo_out _ _ _ (fun z => by cases z with | head => exact xa rfl | tail _ z => exact mx z), cellAt_set_ne xa]
    · rw [if_neg q]
      have xa : x ≠ a := by omega
      by_cases mx : x ∈ m.trail.take (m.trail.length - b.trail)
      · rw [undo_in _ _ _ mx (by rw [set_size]; omega), undo_in _ _ _ mx (by omega)]
      · rw [undo_out _ _ _ mx, undo_out _ _ _ mx, cellAt_set_ne xa]

theorem Inv.bind {m : M} {a : Nat} {c : Cell} (I : Inv m) (fa : cellAt m.heap a = .ref a) (la : a < m.heap.size) (gc : Good m.heap c) (oc : ¬ Occ m.heap a c) (lt : ∀ b, c = .ref b → b < a) : Inv (bind m a c) where
  regs := I.regs.map fun d g => Good.bind fa la gc oc lt g
  views := fun i b e => by
    rw [bind_undone I fa i b e]
    exact I.views i b e
  low := fun b mb => by
    have := I.low b mb
    refine ⟨?_, ?_⟩
    · show b.heap ≤ (m.heap.setIfInBounds a c).size
      rw [set_size]; exact this.1
    · show b.trail ≤ (if a < mark m then a :: m.trail else m.trail).length
      split
      · rw [List.length_cons]; omega
      · exact this.2
  chain := I.chain
  nodup := by
    show (if a < mark m then a :: m.trail else m.trail).Nodup
    split
    · exact List.nodup_cons.mpr ⟨fun z => (I.bound a z).2 fa, I.nodup⟩
    · exact I.nodup
  bound := fun x mx => by
    show x < (m.heap.setIfInBounds a c).size ∧ cellAt (m.heap.setIfInBounds a c) x ≠ .ref x
    rw [set_size]
    by_cases xa : x = a
    · subst xa
      rw [cellAt_set_same la]
      exact ⟨la, fun z => by have := lt x z; omega⟩
    · rw [cellAt_set_ne xa]
      have mx' : x ∈ (if a < mark m then a :: m.trail else m.trail) := mx
      have : x ∈ m.trail := by
        split at mx'
        · cases mx' with
          | head => exact absurd rfl xa
          | tail _ z => exact z
        · exact mx'
      exact I.bound x this
  old := fun b mb x mx => by
    have lo := I.low b mb
    have mx' : x ∈ (if a < mark m then a :: m.trail else m.trail).drop ((if a < mark m then a :: m.trail else m.trail).length - b.trail) := mx
    apply I.old b mb
    split at mx'
    · rw [List.length_cons, show m.trail.length + 1 - b.trail = (m.trail.length - b.trail) + 1 by omega, List.drop_succ_cons] at mx'
      exact mx'
    · exact mx'
  few := I.few
end Sw
namespace Sw
open Lg04 (Cell Heap M Value Choice cellAt look through bind within stands same mark unify undone)

theorem Good.of_look {h : Heap} {c d : Cell} (g : Good h c) (e : look h c = d) : Good h d ∧ Final h d := by
  rw [← e]; exact look_good g

/-- what stays when cells are made the same -/
structure Kept (m n : M) : Prop where
  size : n.heap.size = m.heap.size
  regs : n.regs = m.regs
  choices : n.choices = m.choices
  good : ∀ c, Good m.heap c → Good n.heap c
  head : ∀ a s k, cellAt m.heap a = .head s k → cellAt n.heap a = .head s k
  fixed : ∀ a, cellAt m.heap a ≠ .ref a → cellAt n.heap a = cellAt m.heap a

theorem Kept.rfl {m : M} : Kept m m := ⟨Eq.refl _, Eq.refl _, Eq.refl _, fun _ g => g, fun _ _ _ e => e, fun _ _ => Eq.refl _⟩
theorem Kept.trans {m n q : M} (x : Kept m n) (y : Kept n q) : Kept m q :=
  ⟨y.size.trans x.size, y.regs.trans x.regs, y.choices.trans x.choices, fun c g => y.good c (x.good c g), fun a s k e => y.head a s k (x.head a s k e),
    fun a n => by
      have e := x.fixed a n
      rw [y.fixed a (by rw [e]; exact n), e]⟩

theorem bind_kept {m : M} {a : Nat} {c : Cell} (fa : cellAt m.heap a = .ref a) (la : a < m.heap.size) (gc : Good m.heap c) (oc : ¬ Occ m.heap a c) (lt : ∀ b, c = .ref b → b < a) : Kept m (bind m a c) where
  size := set_size
  regs := rfl
  choices := rfl
  good := fun d g => Good.bind fa la gc oc lt g
  head := fun b s k e => by
    show cellAt (m.heap.setIfInBounds a c) b = _
    rw [cellAt_set_ne (fun z => by subst z; rw [fa] at e; cases e), e]
  fixed := fun b n => by
    show cellAt (m.heap.setIfInBounds a c) b = _
    rw [cellAt_set_ne (fun z => by subst z; exact n fa)]

theorem occ_ref {h : Heap} {a b : Nat} (e : cellAt h b = .ref b) (n : b ≠ a) : ¬ Occ h a (.ref b) := by
  intro o
  cases o with
  | here _ q => rw [look_free e] at q; cases q; exact n rfl
  | arg _ p s k i q => rw [look_free e] at q; cases q

theorem occ_con {h : Heap} {a s : Nat} : ¬ Occ h a (.con s) := by
  intro o
  cases o with
  | here _ q => rw [look_con] at q; cases q
  | arg _ p s k i q => rw [look_con] at q; cases q

/-- a variable bound to the place of a lesser one -/
theorem bind_var {m : M} (I : Inv m) {a b : Nat} (fa : Final m.heap (.ref a)) (fb : Final m.heap (.ref b)) (lt : b < a) : Inv (bind m a (.ref b)) ∧ Kept m (bind m a (.ref b)) := by
  have oc : ¬ Occ m.heap a (.ref b) := occ_ref fb.2 (by omega)
  exact ⟨I.bind fa.2 fa.1 (.free b fb.1 fb.2) oc (fun c e => by cases e; exact lt), bind_kept fa.2 fa.1 (.free b fb.1 fb.2) oc (fun c e => by cases e; exact lt)⟩

/-- a variable bound to something else in which it doesn't stand -/
theorem bind_term {m : M} (I : Inv m) {a : Nat} {c : Cell} (fa : Final m.heap (.ref a)) (gc : Good m.heap c) (nr : ∀ b, c ≠ .ref b) (w : within m.heap a c = false) : Inv (bind m a c) ∧ Kept m (bind m a c) := by
  have oc : ¬ Occ m.heap a c := fun o => by rw [(within_iff gc).mpr o] at w; cases w
  exact ⟨I.bind fa.2 fa.1 gc oc (fun b e => absurd e (nr b)), bind_kept fa.2 fa.1 gc oc (fun b e => absurd e (nr b))⟩

def PairsOk (h : Heap) (l : List (Cell × Cell)) : Prop := ∀ p, p ∈ l → Good h p.1 ∧ Good h p.2

theorem same_inv : ∀ (k : Nat) (l : List (Cell × Cell)) (seen : List (Nat × Nat)) (m n : M), Inv m → PairsOk m.heap l → same k l seen m = some n → Inv n ∧ Kept m n := by
  intro k
  induction k with
  | zero =>
    intro l seen m n I ok e
    cases l with
    | nil => unfold same at e; cases e; exact ⟨I, .rfl⟩
    | cons p r => unfold same at e; cases e
  | succ k ih =>
    intro l seen m n I ok e
    cases l with
    | nil => unfold same at e; cases e; exact ⟨I, .rfl⟩
    | cons p r =>
      have okr : PairsOk m.heap r := fun q mq => ok q (.tail _ mq)
      obtain ⟨g1, f1⟩ := look_good (ok p (.head _)).1
      obtain ⟨g2, f2⟩ := look_good (ok p (.head _)).2
      have on : ∀ q : M, Inv q ∧ Kept m q → same k r seen q = some n → Inv n ∧ Kept m n := fun q hq e => by
        obtain ⟨J, K⟩ := ih r seen q n hq.1 (fun z mz => ⟨hq.2.good _ (okr z mz).1, hq.2.good _ (okr z mz).2⟩) e
        exact ⟨J, hq.2.trans K⟩
      unfold same at e
      cases e1 : look m.heap p.1 with
      | head s j => rw [e1] at g1; exact g1.no_head.elim
      | ref a =>
        rw [e1] at g1 f1
        cases e2 : look m.heap p.2 with
        | head s j => rw [e2] at g2; exact g2.no_head.elim
        | ref b =>
          rw [e2] at g2 f2
          simp only [e1, e2] at e
          by_cases q : a = b
          · rw [if_pos q] at e; exact on m ⟨I, .rfl⟩ e
          · rw [if_neg q] at e
            by_cases q2 : a < b
            · rw [if_pos q2] at e; exact on _ (bind_var I f2 f1 q2) e
            · rw [if_neg q2] at e; exact on _ (bind_var I f1 f2 (by omega)) e
        | con s =>
          rw [e2] at g2 f2
          simp only [e1, e2] at e
          by_cases q : within m.heap a (.con s) = true
          · rw [if_pos q] at e; cases e
          · rw [if_neg q] at e; exact on _ (bind_term I f1 g2 (fun b z => by cases z) (by simpa using q)) e
        | str s =>
          rw [e2] at g2 f2
          simp only [e1, e2] at e
          by_cases q : within m.heap a (.str s) = true
          · rw [if_pos q] at e; cases e
          · rw [if_neg q] at e; exact on _ (bind_term I f1 g2 (fun b z => by cases z) (by simpa using q)) e
      | con t =>
        rw [e1] at g1 f1
        cases e2 : look m.heap p.2 with
        | head s j => rw [e2] at g2; exact g2.no_head.elim
        | ref a =>
          rw [e2] at g2 f2
          simp only [e1, e2] at e
          by_cases q : within m.heap a (.con t) = true
          · rw [if_pos q] at e; cases e
          · rw [if_neg q] at e; exact on _ (bind_term I f2 g1 (fun b z => by cases z) (by simpa using q)) e
        | con s =>
          simp only [e1, e2] at e
          by_cases q : t = s
          · rw [if_pos q] at e; exact on m ⟨I, .rfl⟩ e
          · rw [if_neg q] at e; cases e
        | str s => simp only [e1, e2] at e; cases e
      | str t =>
        rw [e1] at g1 f1
        cases e2 : look m.heap p.2 with
        | head s j => rw [e2] at g2; exact g2.no_head.elim
        | ref a =>
          rw [e2] at g2 f2
          simp only [e1, e2] at e
          by_cases q : within m.heap a (.str t) = true
          · rw [if_pos q] at e; cases e
          · rw [if_neg q] at e; exact on _ (bind_term I f2 g1 (fun b z => by cases z) (by simpa using q)) e
        | con s => simp only [e1, e2] at e; cases e
        | str s =>
          rw [e2] at g2
          simp only [e1, e2] at e
          by_cases q : t = s ∨ seen.contains (t, s) = true
          · rw [if_pos q] at e; exact on m ⟨I, .rfl⟩ e
          · rw [if_neg q] at e
            obtain ⟨y1, k1, h1, _, _, _, _, a1⟩ := g1.parts
            obtain ⟨y2, k2, h2, _, _, _, _, a2⟩ := g2.parts
            simp only [h1, h2] at e
            by_cases q2 : y1 = y2 ∧ k1 = k2
            · rw [if_pos q2] at e
              refine ih _ _ m n I (fun z mz => ?_) e
              rcases List.mem_append.mp mz with mz | mz
              · obtain ⟨i, mi, rfl⟩ := List.mem_map.mp mz
                have := List.mem_range.mp mi
                exact ⟨a1 i this, a2 i (by omega)⟩
              · exact okr z mz
            · rw [if_neg q2] at e; cases e

theorem unify_inv {m n : M} {x y : Cell} (I : Inv m) (gx : Good m.heap x) (gy : Good m.heap y) (e : unify m x y = some n) : Inv n ∧ Kept m n :=
  same_inv _ _ _ _ _ I (fun p mp => by simp at mp; subst mp; exact ⟨gx, gy⟩) e

/-! The other calls. -/
/-- a heap grown at its end -/
structure Grown (h h' : Heap) : Prop where
  size : h.size ≤ h'.size
  at_ : ∀ a, a < h.size → cellAt h' a = cellAt h a
theorem Grown.push {h : Heap} {c : Cell} : Grown h (h.push c) := ⟨by rw [Array.size_push]; omega, fun a l => cellAt_push_lt l⟩
theorem Grown.refl {h : Heap} : Grown h h := ⟨Nat.le_refl _, fun _ _ => rfl⟩
theorem Grown.trans {h h' h2 : Heap} (x : Grown h h') (y : Grown h' h2) : Grown h h2 := ⟨Nat.le_trans x.size y.size, fun a l => by rw [y.at_ a (Nat.lt_of_lt_of_le l x.size), x.at_ a l]⟩
theorem Good.grown {h h' : Heap} {c : Cell} (g : Good h c) (x : Grown h h') : Good h' c := g.mono x.size x.at_

theorem grown_undone {m n : M} (I : Inv m) (x : Grown m.heap n.heap) (ht : n.trail = m.trail) (hc : n.choices = m.choices) {i : Nat} {b : Choice} (e : m.choices[i]? = some b) : undone n i = undone m i := by
  have lo := I.low b (List.mem_of_getElem? e)
  have e' : n.choices[i]? = some b := by rw [hc]; exact e
  have xs := x.size
  apply heap_ext
  · rw [undone_eq e', undone_eq e, take_size, take_size]
    · rw [undo_size]; exact lo.1
    · rw [undo_size]; omega
  · intro y ly
    have ly : y < b.heap := by
      rw [undone_eq e', take_size] at ly
      · exact ly
      · rw [undo_size]; omega
    rw [undone_eq e', undone_eq e, cellAt_take ly, cellAt_take ly, ht]
    by_cases my : y ∈ m.trail.take (m.trail.length - b.trail)
    · rw [undo_in _ _ _ my (by omega), undo_in _ _ _ my (by omega)]
    · rw [undo_out _ _ _ my, undo_out _ _ _ my, x.at_ y (by omega)]

/-- the heap grown, registers changed: the rest stands -/
theorem Inv.grow {m n : M} (I : Inv m) (x : Grown m.heap n.heap) (ht : n.trail = m.trail) (hc : n.choices = m.choices) (r : RegsOk n.heap n.regs) : Inv n where
  regs := r
  views := fun i b e => by
    rw [hc] at e
    rw [grown_undone I x ht hc e]
    exact I.views i b e
  low := fun b mb => by
    rw [hc] at mb
    have := I.low b mb
    rw [ht]
    exact ⟨Nat.le_trans this.1 x.size, this.2⟩
  chain := by rw [hc]; exact I.chain
  nodup := by rw [ht]; exact I.nodup
  bound := fun a ma => by
    rw [ht] at ma
    have := I.bound a ma
    rw [x.at_ a this.1]
    exact ⟨Nat.lt_of_lt_of_le this.1 x.size, this.2⟩
  old := fun b mb => by
    rw [hc] at mb
    rw [ht]
    exact I.old b mb
  few := by rw [hc]; exact I.few

theorem RegsOk.set {h : Heap} {l : List (Option Value)} (r : RegsOk h l) {i : Nat} {v : Option Value} (hv : v = none ∨ ∃ c, v = some (.cell c) ∧ Good h c) : RegsOk h (l.set i v) :=
  ⟨by rw [List.length_set]; exact r.1, fun w mw => by
    rcases List.mem_or_eq_of_mem_set mw with z | z
    · exact r.2 w z
    · subst z; exact hv⟩

theorem regs_cell {h : Heap} {m : M} {r : Nat} {c : Cell} (ok : RegsOk h m.regs) (e : Lg06.cellIn m r = some c) : Good h c := by
  unfold Lg06.cellIn Lg04.cellOf Lg04.regVal at e
  rw [List.getD_eq_getElem?_getD] at e
  cases q : m.regs[r]? with
  | none => rw [q] at e; simp at e
  | some v =>
    rw [q] at e
    rcases ok.2 v (List.mem_of_getElem? q) with z | ⟨d, z, g⟩
    · subst z; simp at e
    · subst z; simp at e; subst e; exact g

theorem mapM_cells {m : M} : ∀ {l : List Nat} {cs : List Cell}, l.mapM (Lg06.cellIn m) = some cs → cs.length = l.length ∧ ∀ c, c ∈ cs → ∃ r, r ∈ l ∧ Lg06.cellIn m r = some c
  | [], cs, e => by
    simp at e
    subst e
    exact ⟨rfl, fun c mc => by cases mc⟩
  | r :: l, cs, e => by
    rw [List.mapM_cons] at e
    cases q : Lg06.cellIn m r with
    | none => rw [q] at e; cases e
    | some c =>
      cases q2 : l.mapM (Lg06.cellIn m) with
      | none => rw [q, q2] at e; cases e
      | some ds =>
        rw [q, q2] at e
        cases e
        obtain ⟨h1, h2⟩ := mapM_cells q2
        refine ⟨by simp [h1], fun d md => ?_⟩
        cases md with
        | head => exact ⟨r, .head _, q⟩
        | tail _ md =>
          obtain ⟨x, mx, ex⟩ := h2 d md
          exact ⟨x, .tail _ mx, ex⟩

/-- cells behind one another at a heap's end -/
theorem pushes_grown : ∀ (cs : List Cell) (h : Heap), let h' := cs.foldl (fun (h : Heap) (x : Cell) => h.push x) h
    Grown h h' ∧ h'.size = h.size + cs.length ∧ ∀ i c, cs[i]? = some c → cellAt h' (h.size + i) = c
  | [], h => ⟨.refl, rfl, fun i c e => by simp at e⟩
  | d :: cs, h => by
    obtain ⟨g, s, c⟩ := pushes_grown cs (h.push d)
    rw [Array.size_push] at s
    refine ⟨Grown.push.trans g, by simp only [List.foldl_cons, List.length_cons] at *; omega, fun i x e => ?_⟩
    match i, e with
    | 0, e =>
      have e : d = x := by simpa using e
      subst e
      show cellAt (cs.foldl _ (h.push d)) h.size = d
      rw [g.at_ h.size (by rw [Array.size_push]; omega), cellAt_push_eq]
    | i + 1, e =>
      have := c i x (by simpa using e)
      rw [Array.size_push] at this
      show cellAt (cs.foldl _ (h.push d)) (h.size + (i + 1)) = x
      rw [show h.size + (i + 1) = h.size + 1 + i by omega]
      exact this

theorem Good.low {h : Heap} {c : Cell} (g : Good h c) : ∀ a, c = .ref a → a < h.size := fun a e => by subst e; exact g.lt

/-- a structure put together of good cells -/
theorem str_good {h : Heap} {s : Nat} {cs : List Cell} (l1 : 1 ≤ cs.length) (l4 : cs.length ≤ 4) (g : ∀ c, c ∈ cs → Good h c) :
    Good (cs.foldl (fun (h : Heap) (x : Cell) => h.push x) (h.push (.head s cs.length))) (.str h.size) := by
  obtain ⟨gr, sz, at_⟩ := pushes_grown cs (h.push (.head s cs.length))
  have gr0 : Grown h (cs.foldl (fun (h : Heap) (x : Cell) => h.push x) (h.push (.head s cs.length))) := Grown.push.trans gr
  rw [Array.size_push] at sz at_
  have hd : cellAt (cs.foldl (fun (h : Heap) (x : Cell) => h.push x) (h.push (.head s cs.length))) h.size = .head s cs.length := by
    rw [gr.at_ h.size (by rw [Array.size_push]; omega), cellAt_push_eq]
  have ar : ∀ i, i < cs.length → ∃ c, c ∈ cs ∧ cellAt (cs.foldl (fun (h : Heap) (x : Cell) => h.push x) (h.push (.head s cs.length))) (h.size + 1 + i) = c := fun i l => by
    exact ⟨cs[i], List.getElem_mem l, at_ i _ (List.getElem?_eq_getElem l)⟩
  refine .str _ s cs.length hd l1 l4 (by rw [sz]; omega) (fun i l => ?_) (fun i l => ?_)
  · obtain ⟨c, mc, e⟩ := ar i l
    rw [e]
    intro z
    have := (g c mc).low _ z
    omega
  · obtain ⟨c, mc, e⟩ := ar i l
    have gc := g c mc
    refine Good.ofNext (by rw [sz]; omega) (fun b z => ?_) ?_
    · rw [e] at z
      have := gc.low _ z
      omega
    · rw [e]; exact gc.grown gr0
end Sw
namespace Sw
open Lg04 (Cell Heap M Value Choice cellAt look through bind within stands same mark unify undone)
open Lg06 (View leads roots spread seen isSeen)

/-- a place that may be seen: it's within, and all that its cell leads to is like that -/
def PlaceOk (h : Heap) (a : Nat) : Prop := a < h.size ∧ (Good h (.ref a) ∨ ∃ s k, cellAt h a = .head s k)

theorem leads_str {h : Heap} {p s k : Nat} (e : cellAt h p = .head s k) : leads h (.str p) = (List.range (k + 1)).map fun (i : Nat) => p + i := by
  show (match cellAt h p with
    | .head _ k => (List.range (k + 1)).map fun (i : Nat) => p + i
    | _ => []) = _
  rw [e]

theorem leads_good {h : Heap} {c : Cell} (g : Good h c) : (leads h c).length ≤ 5 ∧ ∀ b, b ∈ leads h c → PlaceOk h b := by
  cases c with
  | ref a =>
    refine ⟨by show 1 ≤ 5; decide, fun b m => ?_⟩
    have : b = a := by simpa [leads] using m
    subst this
    exact ⟨g.lt, .inl g⟩
  | con s => exact ⟨by show 0 ≤ 5; decide, fun b m => by cases m⟩
  | head s k => exact g.no_head.elim
  | str p =>
    obtain ⟨s, k, e, l1, l4, lb, nf, ga⟩ := g.parts
    rw [leads_str e]
    refine ⟨by simp; omega, fun b m => ?_⟩
    obtain ⟨i, mi, rfl⟩ := List.mem_map.mp m
    have mi := List.mem_range.mp mi
    refine ⟨by show p + i < h.size; omega, ?_⟩
    match i, mi with
    | 0, _ => exact .inr ⟨s, k, e⟩
    | i + 1, mi =>
      have := ga i (by omega)
      refine .inl ?_
      show Good h (.ref (p + (i + 1)))
      rw [show p + (i + 1) = p + 1 + i by omega]
      exact this

theorem PlaceOk.leads {h : Heap} {a : Nat} (o : PlaceOk h a) : (leads h (cellAt h a)).length ≤ 5 ∧ ∀ b, b ∈ leads h (cellAt h a) → PlaceOk h b := by
  obtain ⟨l, g | ⟨s, k, e⟩⟩ := o
  · by_cases n : cellAt h a = .ref a
    · rw [n]; exact leads_good g
    · exact leads_good (g.next n).1
  · rw [e]; exact ⟨by show 0 ≤ 5; decide, fun b m => by cases m⟩

/-- a way from a place to a place -/
inductive Way (h : Heap) : Nat → Nat → Prop where
  | here (a : Nat) : Way h a a
  | on (a b c : Nat) : b ∈ leads h (cellAt h a) → Way h b c → Way h a c

theorem Way.snoc {h : Heap} {a b c : Nat} (w : Way h a b) (m : c ∈ leads h (cellAt h b)) : Way h a c := by
  induction w with
  | here a => exact .on _ _ _ m (.here c)
  | on a b d mb w ih => exact .on _ _ _ mb (ih m)

theorem getD_in {s : Array Bool} {a : Nat} (l : a < s.size) : s.getD a true = isSeen s a := by
  unfold isSeen
  rw [Array.getD_eq_getD_getElem?, Array.getD_eq_getD_getElem?, Array.getElem?_eq_getElem l]
  rfl
theorem isSeen_lt {s : Array Bool} {a : Nat} (e : isSeen s a = true) : a < s.size := by
  unfold isSeen at e
  by_cases l : a < s.size
  · exact l
  · rw [Array.getD_eq_getD_getElem?, Array.getElem?_eq_none (by omega)] at e
    cases e
theorem isSeen_set {s : Array Bool} {a b : Nat} (l : a < s.size) : isSeen (s.setIfInBounds a true) b = (decide (b = a) || isSeen s b) := by
  unfold isSeen
  rw [Array.getD_eq_getD_getElem?, Array.getD_eq_getD_getElem?, Array.getElem?_setIfInBounds]
  by_cases e : a = b
  · subst e
    simp [l]
  · rw [if_neg e]
    have : decide (b = a) = false := by simp; exact fun z => e z.symm
    rw [this, Bool.false_or]

/-- how many places are not marked -/
def open_ (s : Array Bool) : Nat := ((List.range s.size).filter fun a => !isSeen s a).length
theorem open_set {s : Array Bool} {a : Nat} (l : a < s.size) (n : isSeen s a = false) : open_ (s.setIfInBounds a true) + 1 ≤ open_ s := by
  unfold open_
  rw [Array.size_setIfInBounds]
  exact filter_lt _ (fun x _ hx => by rw [isSeen_set l] at hx; simp at hx ⊢; exact hx.2) a (List.mem_range.mpr l) (by rw [isSeen_set l]; simp) (by rw [n]; rfl)

structure Spreads (h : Heap) (l : List Nat) (s r : Array Bool) : Prop where
  size : r.size = s.size
  sub : ∀ a, isSeen s a = true → isSeen r a = true
  all : ∀ a, a ∈ l → isSeen r a = true
  shut : ∀ a, isSeen r a = true → isSeen s a = false → ∀ b, b ∈ leads h (cellAt h a) → isSeen r b = true
  from_ : ∀ a, isSeen r a = true → isSeen s a = false → ∃ x, x ∈ l ∧ Way h x a

theorem spread_ok {h : Heap} : ∀ (k : Nat) (l : List Nat) (s : Array Bool), s.size = h.size → (∀ a, a ∈ l → PlaceOk h a) → l.length + 5 * open_ s ≤ k → Spreads h l s (spread h k l s) := by
  intro k
  induction k with
  | zero =>
    intro l s hs ok f
    have : l = [] := List.eq_nil_of_length_eq_zero (by omega)
    subst this
    exact ⟨rfl, fun a e => e, fun a m => (by cases m), fun a e n => (by unfold spread at e; rw [n] at e; cases e), fun a e n => (by unfold spread at e; rw [n] at e; cases e)⟩
  | succ k ih =>
    intro l s hs ok f
    cases l with
    | nil => exact ⟨rfl, fun a e => e, fun a m => (by cases m), fun a e n => (by unfold spread at e; rw [n] at e; cases e), fun a e n => (by unfold spread at e; rw [n] at e; cases e)⟩
    | cons a l =>
      have oka := ok a (.head _)
      have la : a < s.size := by rw [hs]; exact oka.1
      unfold spread
      rw [getD_in la]
      rw [List.length_cons] at f
      by_cases q : isSeen s a = true
      · rw [if_pos q]
        have r := ih l s hs (fun b m => ok b (.tail _ m)) (by omega)
        refine ⟨r.size, r.sub, fun b m => ?_, r.shut, fun b e n => ?_⟩
        · cases m with
          | head => exact r.sub a q
          | tail _ m => exact r.all b m
        · obtain ⟨x, mx, w⟩ := r.from_ b e n
          exact ⟨x, .tail _ mx, w⟩
      · have qf : isSeen s a = false := by simpa using q
        rw [if_neg q]
        obtain ⟨l5, okl⟩ := oka.leads
        have os := open_set la qf
        have r := ih (leads h (cellAt h a) ++ l) (s.setIfInBounds a true) (by rw [Array.size_setIfInBounds]; exact hs)
          (fun b m => by
            rcases List.mem_append.mp m with m | m
            · exact okl b m
            · exact ok b (.tail _ m)) (by rw [List.length_append]; omega)
        have sa : isSeen (spread h k (leads h (cellAt h a) ++ l) (s.setIfInBounds a true)) a = true := r.sub a (by rw [isSeen_set la]; simp)
        refine ⟨by rw [r.size, Array.size_setIfInBounds], fun b e => r.sub b (by rw [isSeen_set la, e]; simp), fun b m => ?_, fun b e n => ?_, fun b e n => ?_⟩
        · cases m with
          | head => exact sa
          | tail _ m => exact r.all b (List.mem_append_right _ m)
        · by_cases ba : b = a
          · subst ba
            intro c mc
            exact r.all c (List.mem_append_left _ mc)
          · exact r.shut b e (by rw [isSeen_set la, n]; simpa using ba)
        · by_cases ba : b = a
          · subst ba
            exact ⟨b, .head _, .here b⟩
          · obtain ⟨x, mx, w⟩ := r.from_ b e (by rw [isSeen_set la, n]; simpa using ba)
            rcases List.mem_append.mp mx with mx | mx
            · exact ⟨a, .head _, .on _ _ _ mx w⟩
            · exact ⟨x, .tail _ mx, w⟩

theorem isSeen_none {n a : Nat} : isSeen (Array.replicate n false) a = false := by
  unfold isSeen
  rw [Array.getD_eq_getD_getElem?]
  by_cases l : a < n
  · rw [Array.getElem?_replicate, if_pos l]; rfl
  · rw [Array.getElem?_replicate, if_neg l]; rfl

theorem roots_ok {h : Heap} : ∀ {l : List (Option Value)}, (∀ v, v ∈ l → v = none ∨ ∃ c, v = some (.cell c) ∧ Good h c) → (roots (h, l)).length ≤ 5 * l.length ∧ ∀ a, a ∈ roots (h, l) → PlaceOk h a
  | [], _ => ⟨by show 0 ≤ 0; decide, fun a m => by cases m⟩
  | v :: l, ok => by
    obtain ⟨r1, r2⟩ := roots_ok (h := h) (l := l) fun w m => ok w (.tail _ m)
    rcases ok v (.head _) with rfl | ⟨c, rfl, g⟩
    · have e : roots (h, none :: l) = roots (h, l) := by unfold roots; simp
      rw [e, List.length_cons]
      exact ⟨by omega, r2⟩
    · have e : roots (h, some (.cell c) :: l) = leads h c ++ roots (h, l) := by unfold roots; simp
      obtain ⟨l5, okl⟩ := leads_good g
      rw [e, List.length_append, List.length_cons]
      refine ⟨by omega, fun a m => ?_⟩
      rcases List.mem_append.mp m with m | m
      · exact okl a m
      · exact r2 a m

/-- **What's seen of a view that stands well.** -/
structure SeenOk (h : Heap) (l : List (Option Value)) (s : Array Bool) : Prop where
  size : s.size = h.size
  root : ∀ c, some (.cell c) ∈ l → ∀ a, a ∈ leads h c → isSeen s a = true
  shut : ∀ a, isSeen s a = true → ∀ b, b ∈ leads h (cellAt h a) → isSeen s b = true
  from_ : ∀ a, isSeen s a = true → ∃ x, x ∈ roots (h, l) ∧ Way h x a

theorem seen_ok {h : Heap} {l : List (Option Value)} (r : RegsOk h l) : SeenOk h l (seen (h, l)) := by
  obtain ⟨r1, r2⟩ := roots_ok r.2
  have op : open_ (Array.replicate h.size false) ≤ h.size := by
    unfold open_
    refine Nat.le_trans (List.length_filter_le _ _) ?_
    simp
  have sp := spread_ok (h := h) (6 * h.size + 200) (roots (h, l)) (Array.replicate h.size false) (by simp) r2 (by rw [r.1] at r1; omega)
  refine ⟨by rw [show (seen (h, l)) = spread h (6 * h.size + 200) (roots (h, l)) (Array.replicate h.size false) from rfl, sp.size]; simp, fun c mc a ma => sp.all a ?_, fun a e => sp.shut a e isSeen_none, fun a e => sp.from_ a e isSeen_none⟩
  unfold roots
  rw [List.mem_flatMap]
  exact ⟨_, mc, ma⟩

theorem SeenOk.way {h : Heap} {l : List (Option Value)} {s : Array Bool} (o : SeenOk h l s) {a b : Nat} (w : Way h a b) (e : isSeen s a = true) : isSeen s b = true := by
  induction w with
  | here a => exact e
  | on a b c m w ih => exact ih (o.shut a e b m)
theorem SeenOk.iff {h : Heap} {l : List (Option Value)} {s : Array Bool} (o : SeenOk h l s) {a : Nat} : isSeen s a = true ↔ ∃ x, x ∈ roots (h, l) ∧ Way h x a := by
  refine ⟨o.from_ a, fun ⟨x, mx, w⟩ => o.way w ?_⟩
  unfold roots at mx
  obtain ⟨v, mv, mx⟩ := List.mem_flatMap.mp mx
  cases v with
  | none => cases mx
  | some v =>
    cases v with
    | cell c => exact o.root c mv x mx
    | level n => cases mx
theorem SeenOk.lt {h : Heap} {l : List (Option Value)} {s : Array Bool} (o : SeenOk h l s) {a : Nat} (e : isSeen s a = true) : a < h.size := by
  rw [← o.size]; exact isSeen_lt e
end Sw
namespace Sw
open Lg04 (Cell Heap M Value Choice cellAt look through bind within stands same mark unify undone)
open Lg06 (View leads roots spread seen isSeen Sight sight kept seenBound seenFree oldest stays reset places cellTo valueTo regsTo swept both viewNow viewOf)

/-! How many kept places are below one. -/
def cnt (kp : Nat → Bool) (a : Nat) : Nat := ((List.range a).filter kp).length
theorem cnt_succ {kp : Nat → Bool} {a : Nat} : cnt kp (a + 1) = cnt kp a + if kp a = true then 1 else 0 := by
  unfold cnt
  rw [List.range_succ, List.filter_append, List.length_append]
  congr 1
  rw [List.filter_cons]
  split <;> simp
theorem cnt_kept {kp : Nat → Bool} {a : Nat} (h : kp a = true) : cnt kp (a + 1) = cnt kp a + 1 := by rw [cnt_succ, if_pos h]
theorem cnt_mono {kp : Nat → Bool} {a b : Nat} (h : a ≤ b) : cnt kp a ≤ cnt kp b := by
  induction h with
  | refl => exact Nat.le_refl _
  | step _ ih => rw [Nat.succ_eq_add_one, cnt_succ]; omega
theorem cnt_lt {kp : Nat → Bool} {a b : Nat} (h : a < b) (k : kp a = true) : cnt kp a < cnt kp b := by
  have := cnt_mono (kp := kp) (show a + 1 ≤ b from h)
  rw [cnt_kept k] at this
  omega
theorem cnt_inj {kp : Nat → Bool} {a b : Nat} (ka : kp a = true) (kb : kp b = true) (e : cnt kp a = cnt kp b) : a = b := by
  rcases Nat.lt_trichotomy a b with l | l | l
  · have := cnt_lt l ka; omega
  · exact l
  · have := cnt_lt l kb; omega
theorem cnt_at {kp : Nat → Bool} {a : Nat} : ∀ {n : Nat}, a < n → kp a = true → ((List.range n).filter kp)[cnt kp a]? = some a
  | n + 1, l, k => by
    rw [List.range_succ, List.filter_append]
    by_cases e : a = n
    · subst e
      rw [List.getElem?_append_right (show ((List.range a).filter kp).length ≤ cnt kp a from Nat.le_refl _)]
      show ([a].filter kp)[cnt kp a - cnt kp a]? = some a
      rw [Nat.sub_self, List.filter_cons, if_pos k]
      rfl
    · have l' : a < n := by omega
      rw [List.getElem?_append_left (cnt_lt l' k)]
      exact cnt_at l' k

theorem places_fold (x : Sight) : ∀ n : Nat, ((List.range n).foldl (fun (y : Array Nat × Nat) (a : Nat) => (y.1.push y.2, if kept x a = true then y.2 + 1 else y.2)) (#[], 0)).2 = cnt (kept x) n ∧
    ((List.range n).foldl (fun (y : Array Nat × Nat) (a : Nat) => (y.1.push y.2, if kept x a = true then y.2 + 1 else y.2)) (#[], 0)).1.size = n ∧
    ∀ a, a < n → ((List.range n).foldl (fun (y : Array Nat × Nat) (a : Nat) => (y.1.push y.2, if kept x a = true then y.2 + 1 else y.2)) (#[], 0)).1.getD a 0 = cnt (kept x) a
  | 0 => ⟨rfl, rfl, fun a l => by omega⟩
  | n + 1 => by
    obtain ⟨h1, h2, h3⟩ := places_fold x n
    rw [List.range_succ, List.foldl_append]
    generalize (List.range n).foldl (fun (y : Array Nat × Nat) (a : Nat) => (y.1.push y.2, if kept x a = true then y.2 + 1 else y.2)) (#[], 0) = z at h1 h2 h3
    simp only [List.foldl_cons, List.foldl_nil]
    refine ⟨?_, by rw [Array.size_push, h2], fun a l => ?_⟩
    · rw [h1, cnt_succ]; split <;> omega
    · rw [Array.getD_eq_getD_getElem?]
      by_cases e : a = n
      · subst e
        rw [show a = z.1.size from h2.symm, Array.getElem?_push_size, h1, h2]
        rfl
      · rw [Array.getElem?_push_lt (by omega), ← Array.getElem?_eq_getElem, ← Array.getD_eq_getD_getElem?]
        exact h3 a (by omega)
theorem places_at {m : M} {x : Sight} {a : Nat} (l : a ≤ m.heap.size) : (places m x).getD a 0 = cnt (kept x) a :=
  (places_fold x (m.heap.size + 1)).2.2 a (by omega)

/-! The trail, the oldest first. -/
theorem mem_oldest {m : M} {a j : Nat} : (a, j) ∈ oldest m ↔ m.trail.reverse[j]? = some a := by
  unfold oldest
  rw [List.mem_zipIdx_iff_getElem?]
theorem mem_newer {m : M} {k a : Nat} : a ∈ m.trail.take (m.trail.length - k) ↔ ∃ j, k ≤ j ∧ (a, j) ∈ oldest m := by
  have e : a ∈ m.trail.take (m.trail.length - k) ↔ a ∈ m.trail.reverse.drop k := by
    rw [← List.mem_reverse, List.reverse_take]
    by_cases q : k ≤ m.trail.length
    · rw [show m.trail.length - (m.trail.length - k) = k by omega]
    · rw [show m.trail.length - (m.trail.length - k) = m.trail.length by omega, List.drop_eq_nil_of_le (by simp), List.drop_eq_nil_of_le (by simp; omega)]
  rw [e]
  constructor
  · intro h
    obtain ⟨i, hi⟩ := List.mem_iff_getElem?.mp h
    rw [List.getElem?_drop] at hi
    exact ⟨k + i, by omega, mem_oldest.mpr hi⟩
  · rintro ⟨j, hj, h⟩
    refine List.mem_iff_getElem?.mpr ⟨j - k, ?_⟩
    rw [List.getElem?_drop, show k + (j - k) = j by omega]
    exact mem_oldest.mp h
theorem mem_older {m : M} {k a : Nat} (l : k ≤ m.trail.length) : a ∈ m.trail.drop (m.trail.length - k) ↔ ∃ j, j < k ∧ (a, j) ∈ oldest m := by
  have e : a ∈ m.trail.drop (m.trail.length - k) ↔ a ∈ m.trail.reverse.take k := by
    rw [← List.mem_reverse, List.reverse_drop, show m.trail.length - (m.trail.length - k) = k by omega]
  rw [e]
  constructor
  · intro h
    obtain ⟨i, hi⟩ := List.mem_iff_getElem?.mp h
    rw [List.getElem?_take] at hi
    split at hi
    · exact ⟨i, by assumption, mem_oldest.mpr hi⟩
    · cases hi
  · rintro ⟨j, hj, h⟩
    refine List.mem_iff_getElem?.mpr ⟨j, ?_⟩
    rw [List.getElem?_take, if_pos hj]
    exact mem_oldest.mp h
theorem oldest_one {m : M} (I : Inv m) {a i j : Nat} (h : (a, i) ∈ oldest m) (h' : (a, j) ∈ oldest m) : i = j := by
  have nd : m.trail.reverse.Nodup := List.pairwise_reverse.mpr (I.nodup.imp fun h e => h e.symm)
  have h := mem_oldest.mp h
  have h' := mem_oldest.mp h'
  obtain ⟨l, e⟩ := List.getElem?_eq_some_iff.mp h
  obtain ⟨l', e'⟩ := List.getElem?_eq_some_iff.mp h'
  exact (List.getElem_inj nd).mp (e.trans e'.symm)
theorem oldest_trail {m : M} {a j : Nat} (h : (a, j) ∈ oldest m) : a ∈ m.trail :=
  List.mem_reverse.mp (List.mem_of_getElem? (mem_oldest.mp h))
theorem oldest_sorted {m : M} : (oldest m).Pairwise fun y z => y.2 < z.2 := by
  unfold oldest
  rw [List.pairwise_iff_getElem]
  intro i j hi hj l
  simp only [List.getElem_zipIdx]
  omega

/-! Bindings undone. -/
def resets (cond : Nat × Nat → Bool) (l : List (Nat × Nat)) (h : Heap) : Heap := l.foldl (fun (h : Heap) (y : Nat × Nat) => if cond y = true then h else h.setIfInBounds y.1 (.ref y.1)) h
theorem resets_size {cond : Nat × Nat → Bool} : ∀ (l : List (Nat × Nat)) (h : Heap), (resets cond l h).size = h.size
  | [], _ => rfl
  | y :: l, h => by
    show (resets cond l (if cond y = true then h else h.setIfInBounds y.1 (.ref y.1))).size = _
    rw [resets_size l]
    split
    · rfl
    · exact set_size
theorem resets_out {cond : Nat × Nat → Bool} : ∀ (l : List (Nat × Nat)) (h : Heap) (a : Nat), (∀ j, (a, j) ∈ l → cond (a, j) = true) → cellAt (resets cond l h) a = cellAt h a
  | [], _, _, _ => rfl
  | y :: l, h, a, n => by
    show cellAt (resets cond l (if cond y = true then h else h.setIfInBounds y.1 (.ref y.1))) a = _
    rw [resets_out l _ a fun j m => n j (.tail _ m)]
    by_cases c : cond y = true
    · rw [if_pos c]
    · rw [if_neg c, cellAt_set_ne]
      intro e
      apply c
      have := n y.2 (by rw [e]; exact .head _)
      rw [e] at this
      exact this
theorem resets_in {cond : Nat × Nat → Bool} : ∀ (l : List (Nat × Nat)) (h : Heap) (a j : Nat), a < h.size → (a, j) ∈ l → cond (a, j) = false → cellAt (resets cond l h) a = .ref a
  | y :: l, h, a, j, s, m, c => by
    show cellAt (resets cond l (if cond y = true then h else h.setIfInBounds y.1 (.ref y.1))) a = _
    by_cases q : ∃ j, (a, j) ∈ l ∧ cond (a, j) = false
    · obtain ⟨j', m', c'⟩ := q
      refine resets_in l _ a j' ?_ m' c'
      split
      · exact s
      · rw [set_size]; exact s
    · have e : y = (a, j) := by
        cases m with
        | head => rfl
        | tail _ m => exact absurd ⟨j, m, c⟩ q
      subst e
      rw [resets_out l _ a fun j m => by
        cases z : cond (a, j) with
        | true => rfl
        | false => exact absurd ⟨j, m, z⟩ q]
      rw [if_neg (by rw [c]; decide)]
      exact cellAt_set_same s

theorem reset_eq (m : M) (x : Sight) : reset m x = resets (fun y => seenBound m x y.1 y.2) (oldest m) m.heap := rfl

/-! A sight of a machine that stands well. -/
theorem view_ok {m : M} (I : Inv m) {i : Nat} {b : Choice} (e : m.choices[i]? = some b) : SeenOk (undone m i) b.regs (seen (viewOf m i)) := by
  have : viewOf m i = (undone m i, b.regs) := by unfold viewOf; rw [e]; rfl
  rw [this]
  exact seen_ok (I.views i b e)
theorem now_ok {m : M} (I : Inv m) : SeenOk m.heap m.regs (sight m).now := seen_ok I.regs
theorem behind_at {m : M} {i : Nat} {b : Choice} (e : m.choices[i]? = some b) : (sight m).behind[i]? = some (seen (viewOf m i)) := by
  have l : i < m.choices.length := (List.getElem?_eq_some_iff.mp e).1
  show ((List.range m.choices.length).map fun (i : Nat) => seen (viewOf m i))[i]? = _
  rw [List.getElem?_map, List.getElem?_range l]
  rfl
theorem both_at {m : M} {b : Choice} {s : Array Bool} : (b, s) ∈ both m (sight m) ↔ ∃ i, m.choices[i]? = some b ∧ s = seen (viewOf m i) := by
  unfold both
  rw [List.mem_iff_getElem?]
  constructor
  · rintro ⟨i, h⟩
    rw [List.getElem?_zip_eq_some] at h
    refine ⟨i, h.1, ?_⟩
    rw [behind_at h.1] at h
    exact (Option.some.inj h.2).symm
  · rintro ⟨i, h, rfl⟩
    refine ⟨i, ?_⟩
    rw [List.getElem?_zip_eq_some]
    exact ⟨h, behind_at h⟩
theorem kept_iff {m : M} {a : Nat} : kept (sight m) a = true ↔ isSeen (sight m).now a = true ∨ ∃ i b, m.choices[i]? = some b ∧ isSeen (seen (viewOf m i)) a = true := by
  unfold kept
  rw [Bool.or_eq_true, List.any_eq_true]
  constructor
  · rintro (h | ⟨s, ms, e⟩)
    · exact .inl h
    · obtain ⟨i, mi, rfl⟩ := List.mem_map.mp ms
      have l := List.mem_range.mp mi
      exact .inr ⟨i, _, List.getElem?_eq_getElem l, e⟩
  · rintro (h | ⟨i, b, e, s⟩)
    · exact .inl h
    · exact .inr ⟨_, List.mem_of_getElem? (behind_at e), s⟩
theorem kept_now {m : M} {a : Nat} (h : isSeen (sight m).now a = true) : kept (sight m) a = true := kept_iff.mpr (.inl h)
theorem kept_view {m : M} {i : Nat} {b : Choice} (e : m.choices[i]? = some b) {a : Nat} (h : isSeen (seen (viewOf m i)) a = true) : kept (sight m) a = true := kept_iff.mpr (.inr ⟨i, b, e, h⟩)
theorem kept_lt {m : M} (I : Inv m) {a : Nat} (h : kept (sight m) a = true) : a < m.heap.size := by
  rcases kept_iff.mp h with h | ⟨i, b, e, h⟩
  · exact (now_ok I).lt h
  · have := (view_ok I e).lt h
    rw [undone_size I e] at this
    exact Nat.lt_of_lt_of_le this (I.low b (List.mem_of_getElem? e)).1
theorem bound_iff {m : M} {a j : Nat} : seenBound m (sight m) a j = true ↔ isSeen (sight m).now a = true ∨ ∃ i b, m.choices[i]? = some b ∧ j < b.trail ∧ isSeen (seen (viewOf m i)) a = true := by
  unfold seenBound
  rw [Bool.or_eq_true, List.any_eq_true]
  constructor
  · rintro (h | ⟨⟨b, s⟩, ms, e⟩)
    · exact .inl h
    · obtain ⟨i, ei, rfl⟩ := both_at.mp ms
      rw [Bool.and_eq_true, decide_eq_true_iff] at e
      exact .inr ⟨i, b, ei, e.1, e.2⟩
  · rintro (h | ⟨i, b, e, l, s⟩)
    · exact .inl h
    · exact .inr ⟨(b, _), both_at.mpr ⟨i, e, rfl⟩, by rw [Bool.and_eq_true, decide_eq_true_iff]; exact ⟨l, s⟩⟩
theorem free_iff {m : M} {a j : Nat} : seenFree m (sight m) a j = true ↔ ∃ i b, m.choices[i]? = some b ∧ b.trail ≤ j ∧ isSeen (seen (viewOf m i)) a = true := by
  unfold seenFree
  rw [List.any_eq_true]
  constructor
  · rintro ⟨⟨b, s⟩, ms, e⟩
    obtain ⟨i, ei, rfl⟩ := both_at.mp ms
    rw [Bool.and_eq_true, decide_eq_true_iff] at e
    exact ⟨i, b, ei, e.1, e.2⟩
  · rintro ⟨i, b, e, l, s⟩
    exact ⟨(b, _), both_at.mpr ⟨i, e, rfl⟩, by rw [Bool.and_eq_true, decide_eq_true_iff]; exact ⟨l, s⟩⟩
theorem bound_kept {m : M} {a j : Nat} (h : seenBound m (sight m) a j = true) : kept (sight m) a = true := by
  rcases bound_iff.mp h with h | ⟨i, b, e, _, h⟩
  · exact kept_now h
  · exact kept_view e h

/-! What is moved. -/
theorem good_moved {h h' : Heap} {kp : Nat → Bool} {p : Array Nat} {S : Nat → Prop} (hp : ∀ a, S a → p.getD a 0 = cnt kp a) (sk : ∀ a, S a → kp a = true)
    (at_ : ∀ a, S a → cnt kp a < h'.size ∧ cellAt h' (cnt kp a) = cellTo p (cellAt h a)) (cl : ∀ a, S a → ∀ b, b ∈ leads h (cellAt h a) → S b)
    {c : Cell} (g : Good h c) : (∀ a, a ∈ leads h c → S a) → Good h' (cellTo p c) := by
  induction g with
  | con s => intro _; exact .con s
  | free a l e =>
    intro ld
    have sa := ld a (by simp [leads])
    show Good h' (.ref (p.getD a 0))
    obtain ⟨l', e'⟩ := at_ a sa
    rw [hp a sa]
    refine .free _ l' ?_
    rw [e', e]
    show Cell.ref (p.getD a 0) = _
    rw [hp a sa]
  | ref a b l e lt g ih =>
    intro ld
    have sa := ld a (by simp [leads])
    have sb : S b := cl a sa b (by rw [e]; simp [leads])
    show Good h' (.ref (p.getD a 0))
    obtain ⟨l', e'⟩ := at_ a sa
    rw [hp a sa]
    have gb : Good h' (.ref (p.getD b 0)) := ih (fun x mx => by simp [leads] at mx; subst mx; exact sb)
    rw [hp b sb] at gb
    refine .ref _ (cnt kp b) l' ?_ (cnt_lt lt (sk b sb)) gb
    rw [e', e]
    show Cell.ref (p.getD b 0) = _
    rw [hp b sb]
  | rcon a s l e =>
    intro ld
    have sa := ld a (by simp [leads])
    show Good h' (.ref (p.getD a 0))
    obtain ⟨l', e'⟩ := at_ a sa
    rw [hp a sa]
    refine .rcon _ s l' ?_
    rw [e', e]
    rfl
  | rstr a q l e g ih =>
    intro ld
    have sa := ld a (by simp [leads])
    show Good h' (.ref (p.getD a 0))
    obtain ⟨l', e'⟩ := at_ a sa
    rw [hp a sa]
    refine .rstr _ (p.getD q 0) l' ?_ (ih fun x mx => cl a sa x (by rw [e]; exact mx))
    rw [e', e]
    rfl
  | str q s k e l1 l4 lb nf g ih =>
    intro ld
    have sq : ∀ i, i ≤ k → S (q + i) := fun i l => ld (q + i) (by rw [leads_str e]; exact List.mem_map.mpr ⟨i, List.mem_range.mpr (by omega), rfl⟩)
    have ct : ∀ i, i ≤ k → cnt kp (q + i) = cnt kp q + i := by
      intro i
      induction i with
      | zero => intro _; rfl
      | succ i ih =>
        intro l
        rw [← Nat.add_assoc, cnt_kept (sk _ (sq i (by omega))), ih (by omega)]
        rfl
    have s0 : S q := sq 0 (by omega)
    show Good h' (.str (p.getD q 0))
    rw [hp q s0]
    have ce : ∀ i, i < k → cnt kp q + 1 + i = cnt kp (q + 1 + i) := fun i l => by
      rw [show q + 1 + i = q + (i + 1) by omega, ct (i + 1) (by omega)]; omega
    have sa : ∀ i, i < k → S (q + 1 + i) := fun i l => by rw [show q + 1 + i = q + (i + 1) by omega]; exact sq (i + 1) (by omega)
    refine .str _ s k ?_ l1 l4 ?_ (fun i l => ?_) (fun i l => ?_)
    · rw [(at_ q s0).2, e]; rfl
    · have := (at_ (q + k) (sq k (by omega))).1
      rw [ct k (by omega)] at this
      exact this
    · rw [ce i l, (at_ _ (sa i l)).2]
      intro z
      cases e2 : cellAt h (q + 1 + i) with
      | ref b =>
        rw [e2] at z
        have sb : S b := cl _ (sa i l) b (by rw [e2]; simp [leads])
        have z : Cell.ref (p.getD b 0) = _ := z
        rw [hp b sb] at z
        have z := Cell.ref.inj z
        exact nf i l (by rw [e2, cnt_inj (sk b sb) (sk _ (sa i l)) z])
      | con s => rw [e2] at z; cases z
      | str s => rw [e2] at z; cases z
      | head s k => rw [e2] at z; cases z
    · have := ih i l (fun x mx => by simp [leads] at mx; subst mx; exact sa i l)
      rw [ce i l]
      have t : Good h' (.ref (p.getD (q + 1 + i) 0)) := this
      rw [hp _ (sa i l)] at t
      exact t

theorem drop_filter {t : List (Nat × Nat)} {k : Nat} (s : t.Pairwise fun y z => y.2 < z.2) : t.drop (t.filter fun (y : Nat × Nat) => decide (y.2 < k)).length = t.filter (fun y => decide (k ≤ y.2)) ∧ t.take (t.filter fun (y : Nat × Nat) => decide (y.2 < k)).length = t.filter (fun y => decide (y.2 < k)) := by
  induction t with
  | nil => exact ⟨rfl, rfl⟩
  | cons y t ih =>
    obtain ⟨s1, s2⟩ := List.pairwise_cons.mp s
    obtain ⟨i1, i2⟩ := ih s2
    by_cases q : y.2 < k
    · rw [List.filter_cons, if_pos (by simpa using q), List.filter_cons, if_neg (by simp; omega), List.length_cons, List.drop_succ_cons, List.take_succ_cons, i1, i2]
      exact ⟨rfl, rfl⟩
    · have e : t.filter (fun (y : Nat × Nat) => decide (y.2 < k)) = [] := by
        rw [List.filter_eq_nil_iff]
        intro z mz
        have := s1 z mz
        simp; omega
      have e2 : t.filter (fun (y : Nat × Nat) => decide (k ≤ y.2)) = t := by
        rw [List.filter_eq_self]
        intro z mz
        have := s1 z mz
        simp; omega
      rw [List.filter_cons, if_neg (by simpa using q), e, List.filter_cons, if_pos (by simp; omega), e2]
      exact ⟨rfl, rfl⟩
end Sw
namespace Sw
open Lg04 (Cell Heap M Value Choice cellAt look through bind within stands same mark unify undone)
open Lg06 (View leads roots spread seen isSeen Sight sight kept seenBound seenFree oldest stays reset places cellTo valueTo regsTo swept both viewNow viewOf)

theorem mem_take_end {l : List Nat} {k a : Nat} : a ∈ l.take (l.length - k) ↔ a ∈ l.reverse.drop k := by
  rw [← List.mem_reverse, List.reverse_take]
  by_cases q : k ≤ l.length
  · rw [show l.length - (l.length - k) = k by omega]
  · rw [show l.length - (l.length - k) = l.length by omega, List.drop_eq_nil_of_le (by simp), List.drop_eq_nil_of_le (by simp; omega)]
theorem mem_drop_end {l : List Nat} {k a : Nat} (h : k ≤ l.length) : a ∈ l.drop (l.length - k) ↔ a ∈ l.reverse.take k := by
  rw [← List.mem_reverse, List.reverse_drop, show l.length - (l.length - k) = k by omega]

section
variable {m : M}
/-- those of the trail that stay -/
def stayed (m : M) : List (Nat × Nat) := (oldest m).filter (stays m (sight m))
def moved (m : M) (b : Choice) : Choice := { b with regs := regsTo (places m (sight m)) b.regs, heap := (places m (sight m)).getD b.heap 0, trail := ((stayed m).filter fun (y : Nat × Nat) => decide (y.2 < b.trail)).length }

theorem mem_stayed {a j : Nat} : (a, j) ∈ stayed m ↔ (a, j) ∈ oldest m ∧ seenBound m (sight m) a j = true ∧ seenFree m (sight m) a j = true := by
  unfold stayed
  rw [List.mem_filter]
  unfold stays
  rw [Bool.and_eq_true]

theorem swept_choices (i : Nat) : (swept m).choices[i]? = (m.choices[i]?).map (moved m) := by
  show (m.choices.map _)[i]? = _
  rw [List.getElem?_map]
  rfl
theorem swept_size : (swept m).heap.size = cnt (kept (sight m)) m.heap.size := by
  show (List.toArray _).size = _
  rw [List.size_toArray, List.length_map]
  rfl
theorem swept_at {a : Nat} (l : a < m.heap.size) (k : kept (sight m) a = true) : cellAt (swept m).heap (cnt (kept (sight m)) a) = cellTo (places m (sight m)) (cellAt (reset m (sight m)) a) := by
  have e : (((List.range m.heap.size).filter (kept (sight m))).map fun (a : Nat) => cellTo (places m (sight m)) (cellAt (reset m (sight m)) a))[cnt (kept (sight m)) a]? = some (cellTo (places m (sight m)) (cellAt (reset m (sight m)) a)) := by
    rw [List.getElem?_map, cnt_at l k]
    rfl
  show ((((List.range m.heap.size).filter (kept (sight m))).map fun (a : Nat) => cellTo (places m (sight m)) (cellAt (reset m (sight m)) a)).toArray).getD _ _ = _
  rw [Array.getD_eq_getD_getElem?, List.getElem?_toArray, e]
  rfl
theorem swept_trail : (swept m).trail.reverse = (stayed m).map fun y => (places m (sight m)).getD y.1 0 := by
  show (List.reverse _).reverse = _
  rw [List.reverse_reverse]
  rfl
theorem stayed_sorted : (stayed m).Pairwise fun y z => y.2 < z.2 := List.Pairwise.sublist List.filter_sublist oldest_sorted
theorem swept_trail_length : (swept m).trail.length = (stayed m).length := by
  rw [← List.length_reverse, swept_trail, List.length_map]

theorem swept_newer {b : Choice} {x : Nat} : x ∈ (swept m).trail.take ((swept m).trail.length - (moved m b).trail) ↔ ∃ y, y ∈ stayed m ∧ b.trail ≤ y.2 ∧ (places m (sight m)).getD y.1 0 = x := by
  rw [mem_take_end, swept_trail, ← List.map_drop]
  show x ∈ List.map _ ((stayed m).drop ((stayed m).filter fun (y : Nat × Nat) => decide (y.2 < b.trail)).length) ↔ _
  rw [(drop_filter stayed_sorted).1, List.mem_map]
  constructor
  · rintro ⟨y, my, rfl⟩
    rw [List.mem_filter, decide_eq_true_iff] at my
    exact ⟨y, my.1, my.2, rfl⟩
  · rintro ⟨y, my, l, rfl⟩
    exact ⟨y, by rw [List.mem_filter, decide_eq_true_iff]; exact ⟨my, l⟩, rfl⟩
theorem moved_trail_le {b : Choice} : (moved m b).trail ≤ (swept m).trail.length := by
  rw [swept_trail_length]
  exact List.length_filter_le _ _
theorem swept_older {b : Choice} {x : Nat} : x ∈ (swept m).trail.drop ((swept m).trail.length - (moved m b).trail) ↔ ∃ y, y ∈ stayed m ∧ y.2 < b.trail ∧ (places m (sight m)).getD y.1 0 = x := by
  rw [mem_drop_end moved_trail_le, swept_trail, ← List.map_take]
  show x ∈ List.map _ ((stayed m).take ((stayed m).filter fun (y : Nat × Nat) => decide (y.2 < b.trail)).length) ↔ _
  rw [(drop_filter stayed_sorted).2, List.mem_map]
  constructor
  · rintro ⟨y, my, rfl⟩
    rw [List.mem_filter, decide_eq_true_iff] at my
    exact ⟨y, my.1, my.2, rfl⟩
  · rintro ⟨y, my, l, rfl⟩
    exact ⟨y, by rw [List.mem_filter, decide_eq_true_iff]; exact ⟨my, l⟩, rfl⟩

variable (I : Inv m)
include I
theorem place_kept {a : Nat} (k : kept (sight m) a = true) : (places m (sight m)).getD a 0 = cnt (kept (sight m)) a := places_at (Nat.le_of_lt (kept_lt I k))
theorem stayed_place {y : Nat × Nat} (my : y ∈ stayed m) : kept (sight m) y.1 = true ∧ (places m (sight m)).getD y.1 0 = cnt (kept (sight m)) y.1 := by
  have k := bound_kept (mem_stayed.mp my).2.1
  exact ⟨k, place_kept I k⟩
theorem moved_heap {b : Choice} (mb : b ∈ m.choices) : (moved m b).heap = cnt (kept (sight m)) b.heap := places_at (I.low b mb).1

/-- what's seen now is as it was, moved -/
theorem now_moved {a : Nat} (s : isSeen (sight m).now a = true) : cnt (kept (sight m)) a < (swept m).heap.size ∧ cellAt (swept m).heap (cnt (kept (sight m)) a) = cellTo (places m (sight m)) (cellAt m.heap a) := by
  have k := kept_now s
  have l := kept_lt I k
  refine ⟨by rw [swept_size]; exact cnt_lt l k, ?_⟩
  rw [swept_at l k, reset_eq, resets_out]
  intro j mj
  exact bound_iff.mpr (.inl s)

theorem view_size {i : Nat} {b : Choice} (e : m.choices[i]? = some b) : (undone (swept m) i).size = cnt (kept (sight m)) b.heap := by
  have mb := List.mem_of_getElem? e
  have e' : (swept m).choices[i]? = some (moved m b) := by rw [swept_choices, e]; rfl
  rw [undone_eq e', take_size, moved_heap I mb]
  rw [undo_size, moved_heap I mb, swept_size]
  exact cnt_mono (I.low b mb).1

/-- what's seen behind a choice is as it was, moved -/
theorem view_moved {i : Nat} {b : Choice} (e : m.choices[i]? = some b) {a : Nat} (s : isSeen (seen (viewOf m i)) a = true) :
    cnt (kept (sight m)) a < (undone (swept m) i).size ∧ cellAt (undone (swept m) i) (cnt (kept (sight m)) a) = cellTo (places m (sight m)) (cellAt (undone m i) a) := by
  have mb := List.mem_of_getElem? e
  have k := kept_view e s
  have l := kept_lt I k
  have lb : a < b.heap := by
    have := (view_ok I e).lt s
    rw [undone_size I e] at this
    exact this
  have e' : (swept m).choices[i]? = some (moved m b) := by rw [swept_choices, e]; rfl
  have lc : cnt (kept (sight m)) a < cnt (kept (sight m)) b.heap := cnt_lt lb k
  have ls : cnt (kept (sight m)) a < (swept m).heap.size := by rw [swept_size]; exact cnt_lt l k
  refine ⟨by rw [view_size I e]; exact lc, ?_⟩
  rw [undone_eq e', cellAt_take (by rw [moved_heap I mb]; exact lc)]
  have self : cellTo (places m (sight m)) (.ref a) = .ref (cnt (kept (sight m)) a) := by
    show Cell.ref ((places m (sight m)).getD a 0) = _
    rw [place_kept I k]
  -- who in the new trail comes to that place
  have who : ∀ y, y ∈ stayed m → (places m (sight m)).getD y.1 0 = cnt (kept (sight m)) a → y.1 = a := fun y my ey => by
    obtain ⟨ky, py⟩ := stayed_place I my
    rw [py] at ey
    exact cnt_inj ky k ey
  by_cases on : ∃ j, (a, j) ∈ oldest m
  · obtain ⟨j, mj⟩ := on
    by_cases q : b.trail ≤ j
    · -- it's free there
      rw [undone_in I e lb (mem_newer.mpr ⟨j, q, mj⟩), self]
      by_cases sb : seenBound m (sight m) a j = true
      · have st : (a, j) ∈ stayed m := mem_stayed.mpr ⟨mj, sb, free_iff.mpr ⟨i, b, e, q, s⟩⟩
        exact undo_in _ _ _ (swept_newer.mpr ⟨(a, j), st, q, place_kept I k⟩) ls
      · rw [undo_out]
        · rw [swept_at l k, reset_eq, resets_in _ _ a j l mj (by simpa using sb), self]
        · intro z
          obtain ⟨y, my, _, ey⟩ := swept_newer.mp z
          have ya := who y my ey
          have yj : (a, y.2) ∈ oldest m := by rw [← ya]; exact (mem_stayed.mp my).1
          have := oldest_one I yj mj
          apply sb
          have h2 := (mem_stayed.mp my).2.1
          rw [ya, this] at h2
          exact h2
    · -- it's bound there
      have sb : seenBound m (sight m) a j = true := bound_iff.mpr (.inr ⟨i, b, e, by omega, s⟩)
      rw [undone_out e lb (fun z => by
        obtain ⟨j', q', mj'⟩ := mem_newer.mp z
        have := oldest_one I mj mj'
        omega)]
      rw [undo_out]
      · rw [swept_at l k, reset_eq, resets_out]
        intro j' mj'
        rw [oldest_one I mj' mj]
        exact sb
      · intro z
        obtain ⟨y, my, ly, ey⟩ := swept_newer.mp z
        have ya := who y my ey
        have yj : (a, y.2) ∈ oldest m := by rw [← ya]; exact (mem_stayed.mp my).1
        have := oldest_one I yj mj
        omega
  · rw [undone_out e lb (fun z => by
      obtain ⟨j', q', mj'⟩ := mem_newer.mp z
      exact on ⟨j', mj'⟩)]
    rw [undo_out]
    · rw [swept_at l k, reset_eq, resets_out]
      intro j' mj'
      exact absurd ⟨j', mj'⟩ on
    · intro z
      obtain ⟨y, my, ly, ey⟩ := swept_newer.mp z
      have ya := who y my ey
      exact on ⟨y.2, by rw [← ya]; exact (mem_stayed.mp my).1⟩

theorem regs_moved {h h' : Heap} {l : List (Option Value)} {s : Array Bool} (r : RegsOk h l) (o : SeenOk h l s) (sk : ∀ a, isSeen s a = true → kept (sight m) a = true)
    (at_ : ∀ a, isSeen s a = true → cnt (kept (sight m)) a < h'.size ∧ cellAt h' (cnt (kept (sight m)) a) = cellTo (places m (sight m)) (cellAt h a)) : RegsOk h' (regsTo (places m (sight m)) l) := by
  refine ⟨by unfold regsTo; rw [List.length_map]; exact r.1, fun v mv => ?_⟩
  unfold regsTo at mv
  obtain ⟨w, mw, rfl⟩ := List.mem_map.mp mv
  rcases r.2 w mw with rfl | ⟨c, rfl, g⟩
  · exact .inl rfl
  · refine .inr ⟨cellTo (places m (sight m)) c, rfl, ?_⟩
    exact good_moved (S := fun a => isSeen s a = true) (fun a sa => place_kept I (sk a sa)) sk at_ (fun a sa => o.shut a sa) g (o.root c mw)

theorem inv_swept : Inv (swept m) where
  regs := regs_moved I I.regs (now_ok I) (fun a s => kept_now s) (fun a s => now_moved I s)
  views := fun i b' e' => by
    rw [swept_choices] at e'
    cases e : m.choices[i]? with
    | none => rw [e] at e'; cases e'
    | some b =>
      rw [e] at e'
      have e' : moved m b = b' := Option.some.inj e'
      subst e'
      exact regs_moved I (I.views i b e) (view_ok I e) (fun a s => kept_view e s) (fun a s => view_moved I e s)
  low := fun b' mb' => by
    obtain ⟨b, mb, rfl⟩ := List.mem_map.mp (show b' ∈ m.choices.map (moved m) from mb')
    refine ⟨?_, moved_trail_le⟩
    rw [moved_heap I mb, swept_size]
    exact cnt_mono (I.low b mb).1
  chain := by
    show (m.choices.map (moved m)).Pairwise _
    rw [List.pairwise_map]
    have ch := I.chain
    rw [List.pairwise_iff_forall_sublist] at ch ⊢
    intro b c s
    have mb : b ∈ m.choices := s.subset (by simp)
    have mc : c ∈ m.choices := s.subset (by simp)
    obtain ⟨h1, h2⟩ := ch s
    rw [moved_heap I mb, moved_heap I mc]
    refine ⟨cnt_mono h1, ?_⟩
    show (List.filter _ _).length ≤ (List.filter _ _).length
    generalize stayed m = t
    induction t with
    | nil => exact Nat.le_refl _
    | cons y t ih =>
      rw [List.filter_cons, List.filter_cons]
      by_cases q : y.2 < c.trail
      · rw [if_pos (by simpa using q), if_pos (by simp; omega), List.length_cons, List.length_cons]
        omega
      · rw [if_neg (by simpa using q)]
        split
        · rw [List.length_cons]; omega
        · exact ih
  nodup := by
    have : (swept m).trail.reverse.Nodup := by
      rw [swept_trail]
      unfold List.Nodup
      rw [List.pairwise_map]
      have st := stayed_sorted (m := m)
      rw [List.pairwise_iff_forall_sublist] at st ⊢
      intro y z s
      have my : y ∈ stayed m := s.subset (by simp)
      have mz : z ∈ stayed m := s.subset (by simp)
      obtain ⟨ky, py⟩ := stayed_place I my
      obtain ⟨kz, pz⟩ := stayed_place I mz
      rw [py, pz]
      intro ez
      have yz := cnt_inj ky kz ez
      have := oldest_one I (mem_stayed.mp my).1 (show (y.1, z.2) ∈ oldest m by rw [yz]; exact (mem_stayed.mp mz).1)
      have := st s
      omega
    have := List.pairwise_reverse.mp this
    exact this.imp fun h e => h e.symm
  bound := fun x mx => by
    have mx : x ∈ (swept m).trail.reverse := List.mem_reverse.mpr mx
    rw [swept_trail] at mx
    obtain ⟨y, my, rfl⟩ := List.mem_map.mp mx
    obtain ⟨ky, py⟩ := stayed_place I my
    have l := kept_lt I ky
    show (places m (sight m)).getD y.1 0 < _ ∧ cellAt _ ((places m (sight m)).getD y.1 0) ≠ .ref ((places m (sight m)).getD y.1 0)
    rw [py]
    refine ⟨by rw [swept_size]; exact cnt_lt l ky, ?_⟩
    have ms := mem_stayed.mp my
    rw [swept_at l ky, reset_eq, resets_out _ _ _ (fun j' mj' => by rw [oldest_one I mj' ms.1]; exact ms.2.1)]
    have bd := I.bound y.1 (oldest_trail ms.1)
    intro z
    cases e2 : cellAt m.heap y.1 with
    | con s => rw [e2] at z; cases z
    | str s => rw [e2] at z; cases z
    | head s k => rw [e2] at z; cases z
    | ref c =>
      rw [e2] at z
      -- c is kept: where y is seen bound, c is seen too
      have kc : kept (sight m) c = true := by
        rcases bound_iff.mp ms.2.1 with s | ⟨i, b, e, lj, s⟩
        · exact kept_now ((now_ok I).shut y.1 s c (by rw [e2]; simp [leads]))
        · have lb : y.1 < b.heap := by
            have := (view_ok I e).lt s
            rw [undone_size I e] at this
            exact this
          refine kept_view e ((view_ok I e).shut y.1 s c ?_)
          rw [undone_out e lb (fun z => by
            obtain ⟨j', q', mj'⟩ := mem_newer.mp z
            have := oldest_one I ms.1 mj'
            omega), e2]
          simp [leads]
      have z : Cell.ref ((places m (sight m)).getD c 0) = _ := z
      rw [place_kept I kc] at z
      have := cnt_inj kc ky (Cell.ref.inj z)
      subst this
      exact bd.2 e2
  old := fun b' mb' x mx => by
    obtain ⟨b, mb, rfl⟩ := List.mem_map.mp (show b' ∈ m.choices.map (moved m) from mb')
    obtain ⟨y, my, ly, rfl⟩ := swept_older.mp mx
    obtain ⟨ky, py⟩ := stayed_place I my
    rw [moved_heap I mb, py]
    refine cnt_lt ?_ ky
    exact I.old b mb y.1 ((mem_older (I.low b mb).2).mpr ⟨y.2, ly, (mem_stayed.mp my).1⟩)
  few := by
    show (m.choices.map _).length ≤ 20
    rw [List.length_map]
    exact I.few
end
end Sw
namespace Sw
open Lg04 (Cell Heap M Value Choice cellAt look through bind within stands same mark unify undone)
open Lg06 (View leads roots spread seen isSeen Sight sight kept seenBound seenFree oldest stays reset places cellTo valueTo regsTo swept both viewNow viewOf cellIn put isReg)

theorem inv_init : Inv Lg06.init where
  regs := ⟨by show (List.replicate 16 none).length = 16; simp, fun v mv => .inl (List.eq_of_mem_replicate mv)⟩
  views := fun i b e => by
    have e : ([] : List Choice)[i]? = some b := e
    simp at e
  low := fun b mb => by cases mb
  chain := List.Pairwise.nil
  nodup := List.Pairwise.nil
  bound := fun a ma => by cases ma
  old := fun b mb => by cases mb
  few := by show 0 ≤ 20; decide

theorem inv_regs {m : M} (I : Inv m) {l : List (Option Value)} (r : RegsOk m.heap l) : Inv { m with regs := l } :=
  I.grow (n := { m with regs := l }) .refl rfl rfl r

theorem inv_put {m : M} (I : Inv m) {r : Nat} {c : Cell} (g : Good m.heap c) : Inv (put m r c) :=
  inv_regs I (I.regs.set (.inr ⟨c, rfl, g⟩))

theorem inv_new {m : M} (I : Inv m) {r : Nat} : Inv (put { m with heap := m.heap.push (.ref m.heap.size) } r (.ref m.heap.size)) := by
  have J : Inv { m with heap := m.heap.push (.ref m.heap.size) } := I.grow (n := { m with heap := m.heap.push (.ref m.heap.size) }) .push rfl rfl (I.regs.map fun c g => g.push)
  exact inv_put J (.free _ (by show m.heap.size < (m.heap.push _).size; rw [Array.size_push]; omega) cellAt_push_eq)

theorem inv_str {m : M} (I : Inv m) {r s : Nat} {cs : List Cell} (l1 : 1 ≤ cs.length) (l4 : cs.length ≤ 4) (g : ∀ c, c ∈ cs → Good m.heap c) :
    Inv (put { m with heap := cs.foldl (fun (h : Heap) (x : Cell) => h.push x) (m.heap.push (.head s cs.length)) } r (.str m.heap.size)) := by
  have gr : Grown m.heap (cs.foldl (fun (h : Heap) (x : Cell) => h.push x) (m.heap.push (.head s cs.length))) := Grown.push.trans (pushes_grown cs _).1
  have J : Inv { m with heap := cs.foldl (fun (h : Heap) (x : Cell) => h.push x) (m.heap.push (.head s cs.length)) } := I.grow (n := { m with heap := cs.foldl (fun (h : Heap) (x : Cell) => h.push x) (m.heap.push (.head s cs.length)) }) gr rfl rfl (I.regs.map fun c g => g.grown gr)
  exact inv_put J (str_good l1 l4 g)

/-- a choice made: its view is that of now -/
def chosen (m : M) : M := { m with choices := ⟨m.regs, [], none, 0, m.heap.size, m.trail.length, (0, 0)⟩ :: m.choices }
theorem chosen_undone {m : M} : undone (chosen m) 0 = m.heap := by
  rw [undone_eq (m := chosen m) (b := ⟨m.regs, [], none, 0, m.heap.size, m.trail.length, (0, 0)⟩) rfl]
  show (undo (m.trail.take (m.trail.length - m.trail.length)) m.heap).take m.heap.size = m.heap
  rw [Nat.sub_self, List.take_zero]
  show m.heap.take m.heap.size = m.heap
  simp
theorem inv_chosen {m : M} (I : Inv m) (f : m.choices.length < 20) : Inv (chosen m) where
  regs := I.regs
  views := fun i b e => by
    match i, e with
    | 0, e =>
      have e : _ = b := Option.some.inj e
      subst e
      rw [chosen_undone]
      exact I.regs
    | i + 1, e => exact I.views i b e
  low := fun b mb => by
    cases mb with
    | head => exact ⟨Nat.le_refl _, Nat.le_refl _⟩
    | tail _ mb => exact I.low b mb
  chain := List.pairwise_cons.mpr ⟨fun b mb => I.low b mb, I.chain⟩
  nodup := I.nodup
  bound := I.bound
  old := fun b mb a ma => by
    cases mb with
    | head =>
      refine (I.bound a ?_).1
      exact List.mem_of_mem_drop ma
    | tail _ mb => exact I.old b mb a ma
  few := by
    show (_ :: m.choices).length ≤ 20
    rw [List.length_cons]
    omega

theorem inv_cut {m : M} (I : Inv m) (k : Nat) : Inv { m with choices := m.choices.drop k } where
  regs := I.regs
  views := fun i b e => by
    have e : (m.choices.drop k)[i]? = some b := e
    rw [List.getElem?_drop] at e
    have u : undone { m with choices := m.choices.drop k } i = undone m (k + i) := by
      rw [undone_eq (m := { m with choices := m.choices.drop k }) (show (m.choices.drop k)[i]? = some b by rw [List.getElem?_drop]; exact e), undone_eq e]
    rw [u]
    exact I.views (k + i) b e
  low := fun b mb => I.low b (List.mem_of_mem_drop mb)
  chain := I.chain.sublist (List.drop_sublist _ _)
  nodup := I.nodup
  bound := I.bound
  old := fun b mb => I.old b (List.mem_of_mem_drop mb)
  few := by
    show (m.choices.drop k).length ≤ 20
    rw [List.length_drop]
    have := I.few
    omega

/-- gone back -/
def gone (m : M) (b : Choice) : M := { Lg04.cutTo { m with heap := undo (m.trail.take (m.trail.length - b.trail)) m.heap } b.heap b.trail with regs := b.regs, frames := b.frames, back := b.back, level := b.level, mode := .plain, pos := b.next }
theorem backed_eq {m : M} {b : Choice} {r : List Choice} (e : m.choices = b :: r) : Lg04.backed m = some (gone m b) := by
  unfold Lg04.backed
  cases m
  cases e
  rfl
theorem gone_trail {m : M} {b : Choice} : (gone m b).trail = m.trail.drop (m.trail.length - b.trail) := rfl
theorem gone_heap {m : M} {b : Choice} {r : List Choice} (e : m.choices = b :: r) : (gone m b).heap = undone m 0 := by
  rw [undone_eq (b := b) (by rw [e]; rfl)]
  rfl
theorem inv_back {m : M} (I : Inv m) {b : Choice} {r : List Choice} (e : m.choices = b :: r) : Inv (gone m b) := by
  have e0 : m.choices[0]? = some b := by rw [e]; rfl
  have mb : b ∈ m.choices := List.mem_of_getElem? e0
  have lo := I.low b mb
  have sz : (gone m b).heap.size = b.heap := by rw [gone_heap e, undone_size I e0]
  have tl : (gone m b).trail.length = b.trail := by rw [gone_trail, List.length_drop]; omega
  have ch := I.chain
  have below : ∀ c, c ∈ m.choices → c.heap ≤ b.heap ∧ c.trail ≤ b.trail := fun c mc => by
    rw [e] at mc ch
    cases mc with
    | head => exact ⟨Nat.le_refl _, Nat.le_refl _⟩
    | tail _ mc => exact (List.pairwise_cons.mp ch).1 c mc
  -- the cells of those that are still on the trail are as they were
  have nn : ∀ a, a ∈ m.trail.drop (m.trail.length - b.trail) → a ∉ m.trail.take (m.trail.length - b.trail) := fun a ma mt => by
    have nd := I.nodup
    rw [← List.take_append_drop (m.trail.length - b.trail) m.trail] at nd
    exact (List.nodup_append.mp nd).2.2 a mt a ma rfl
  have und : ∀ i c, m.choices[i]? = some c → undone (gone m b) i = undone m i := fun i c ec => by
    have mc := List.mem_of_getElem? ec
    have bc := below c mc
    have lc := I.low c mc
    have ec' : (gone m b).choices[i]? = some c := ec
    apply heap_ext
    · rw [undone_eq ec', take_size, undone_size I ec]
      rw [undo_size, sz]; exact bc.1
    · intro x lx
      have lx : x < c.heap := by
        rw [undone_eq ec', take_size] at lx
        · exact lx
        · rw [undo_size, sz]; exact bc.1
      have split : ∀ y, y ∈ m.trail.take (m.trail.length - c.trail) ↔ y ∈ m.trail.take (m.trail.length - b.trail) ∨ y ∈ (gone m b).trail.take ((gone m b).trail.length - c.trail) := fun y => by
        rw [tl, gone_trail]
        have : m.trail.length - c.trail = (m.trail.length - b.trail) + (b.trail - c.trail) := by omega
        rw [this, List.take_add, List.mem_append]
      rw [undone_eq ec', cellAt_take lx]
      by_cases mx : x ∈ (gone m b).trail.take ((gone m b).trail.length - c.trail)
      · rw [undo_in _ _ _ mx (by rw [sz]; omega), undone_in I ec lx ((split x).mpr (.inr mx))]
      · rw [undo_out _ _ _ mx, gone_heap e]
        by_cases mx2 : x ∈ m.trail.take (m.trail.length - b.trail)
        · rw [undone_in I e0 (by omega) mx2, undone_in I ec lx ((split x).mpr (.inl mx2))]
        · rw [undone_out e0 (by omega) mx2, undone_out ec lx (fun z => by
            rcases (split x).mp z with z | z
            · exact mx2 z
            · exact mx z)]
  exact {
    regs := by
      show RegsOk (gone m b).heap b.regs
      rw [gone_heap e]
      exact I.views 0 b e0
    views := fun i c ec => by
      rw [und i c ec]
      exact I.views i c ec
    low := fun c mc => by
      rw [sz, tl]
      exact below c mc
    chain := I.chain
    nodup := I.nodup.sublist (List.drop_sublist _ _)
    bound := fun a ma => by
      have ma : a ∈ m.trail.drop (m.trail.length - b.trail) := ma
      have la := I.old b mb a ma
      rw [sz, gone_heap e, undone_out e0 la (nn a ma)]
      exact ⟨la, (I.bound a (List.mem_of_mem_drop ma)).2⟩
    old := fun c mc a ma => by
      have bc := below c mc
      apply I.old c mc
      have ma : a ∈ (m.trail.drop (m.trail.length - b.trail)).drop ((gone m b).trail.length - c.trail) := ma
      rw [tl, List.drop_drop] at ma
      rw [show m.trail.length - c.trail = m.trail.length - b.trail + (b.trail - c.trail) by omega]
      exact ma
    few := I.few }

/-- **Every call keeps the invariant**; the heap grows by five at the most. -/
theorem inv_step {m : M} (I : Inv m) (c : Lg06.Call) : Inv (Lg06.step m c).1 ∧ (Lg06.step m c).1.heap.size ≤ m.heap.size + 5 := by
  unfold Lg06.step
  cases c with
  | new_ r =>
    dsimp only
    split
    · exact ⟨I, Nat.le_add_right _ _⟩
    · exact ⟨inv_new I, by show (m.heap.push _).size ≤ _; rw [Array.size_push]; omega⟩
  | con r s =>
    dsimp only
    split
    · exact ⟨I, Nat.le_add_right _ _⟩
    · split
      · exact ⟨I, Nat.le_add_right _ _⟩
      · exact ⟨inv_put I (.con s), by show m.heap.size ≤ _; omega⟩
  | str r s l =>
    dsimp only
    split
    · exact ⟨I, Nat.le_add_right _ _⟩
    · split
      · exact ⟨I, Nat.le_add_right _ _⟩
      · rename_i q
        split
        · exact ⟨I, Nat.le_add_right _ _⟩
        · rename_i cs ecs
          obtain ⟨h1, h2⟩ := mapM_cells ecs
          have g : ∀ c, c ∈ cs → Good m.heap c := fun c mc => by
            obtain ⟨r, _, er⟩ := h2 c mc
            exact regs_cell I.regs er
          rw [← h1]
          refine ⟨inv_str I (by omega) (by omega) g, ?_⟩
          show (cs.foldl (fun (h : Heap) (x : Cell) => h.push x) (m.heap.push (.head s cs.length))).size ≤ _
          rw [(pushes_grown cs _).2.1, Array.size_push]
          omega
  | copy r q =>
    dsimp only
    split
    · exact ⟨I, Nat.le_add_right _ _⟩
    · split
      · exact ⟨I, Nat.le_add_right _ _⟩
      · rename_i x ex
        exact ⟨inv_put I (regs_cell I.regs ex), by show m.heap.size ≤ _; omega⟩
  | clear r =>
    dsimp only
    split
    · exact ⟨I, Nat.le_add_right _ _⟩
    · exact ⟨inv_regs I (I.regs.set (.inl rfl)), by show m.heap.size ≤ _; omega⟩
  | same r q =>
    dsimp only
    split
    · exact ⟨I, Nat.le_add_right _ _⟩
    · split
      · rename_i x y ex ey
        split
        · rename_i n en
          obtain ⟨J, K⟩ := unify_inv I (regs_cell I.regs ex) (regs_cell I.regs ey) en
          exact ⟨J, by show n.heap.size ≤ _; rw [K.size]; omega⟩
        · exact ⟨I, Nat.le_add_right _ _⟩
      · exact ⟨I, Nat.le_add_right _ _⟩
  | arg r i q =>
    dsimp only
    split
    · exact ⟨I, Nat.le_add_right _ _⟩
    · split
      · exact ⟨I, Nat.le_add_right _ _⟩
      · rename_i x ex
        have g := look_good (regs_cell I.regs ex)
        split
        · rename_i p ep
          rw [ep] at g
          split
          · rename_i s k ek
            split
            · obtain ⟨s', k', e', _, _, _, _, ga⟩ := g.1.parts
              rw [e'] at ek
              cases ek
              exact ⟨inv_put I (ga i (by assumption)), by show m.heap.size ≤ _; omega⟩
            · exact ⟨I, Nat.le_add_right _ _⟩
          · exact ⟨I, Nat.le_add_right _ _⟩
        · exact ⟨I, Nat.le_add_right _ _⟩
  | choice =>
    dsimp only
    split
    · exact ⟨I, Nat.le_add_right _ _⟩
    · rename_i q
      exact ⟨inv_chosen I (by unfold Lg06.CHOICES at q; omega), by show m.heap.size ≤ _; omega⟩
  | back =>
    dsimp only
    cases e : m.choices with
    | nil =>
      have : Lg04.backed m = none := by unfold Lg04.backed; rw [e]
      rw [this]
      exact ⟨I, Nat.le_add_right _ _⟩
    | cons b r =>
      rw [backed_eq e]
      refine ⟨inv_back I e, ?_⟩
      show (gone m b).heap.size ≤ _
      rw [gone_heap e, undone_size I (b := b) (by rw [e]; rfl)]
      have := (I.low b (by rw [e]; exact .head _)).1
      omega
  | cut k => exact ⟨inv_cut I _, by show m.heap.size ≤ _; omega⟩
  | value l => exact ⟨I, by show m.heap.size ≤ _; omega⟩
  | look => exact ⟨I, by show m.heap.size ≤ _; omega⟩
  | sweep =>
    refine ⟨inv_swept I, ?_⟩
    show (swept m).heap.size ≤ _
    rw [swept_size]
    have : cnt (kept (sight m)) m.heap.size ≤ m.heap.size := by
      unfold cnt
      refine Nat.le_trans (List.length_filter_le _ _) ?_
      simp
    omega
  | heap => exact ⟨I, by show m.heap.size ≤ _; omega⟩
end Sw
namespace Sw
open Lg04 (Cell Heap M Value Choice cellAt look through bind within stands same mark unify undone)

/-- on the way or covered -/
def Wt (h : Heap) (a : Nat) (cs : List Cell) (seen : List Nat) (c : Cell) : Prop := (∃ d, d ∈ cs ∧ look h d = look h c) ∨ Cov h a seen c
/-- an occurs check by a list of cells that wait -/
structure Walk (h : Heap) (a : Nat) (c0 : Cell) (cs : List Cell) (seen : List Nat) : Prop where
  good : ∀ c, c ∈ cs → Good h c
  sound : ∀ c, c ∈ cs → Occ h a c → Occ h a c0
  cov : Wt h a cs seen c0
  shut : ∀ p, p ∈ seen → ∀ y k i, cellAt h p = .head y k → i < k → Wt h a cs seen (.ref (p + 1 + i))
  low : ∀ p, p ∈ seen → p < h.size
  nd : seen.Nodup

theorem Walk.start {h : Heap} {a : Nat} {c : Cell} (g : Good h c) : Walk h a c [c] [] :=
  ⟨fun d m => by simp at m; subst m; exact g, fun d m o => by simp at m; subst m; exact o, .inl ⟨c, by simp, rfl⟩, fun p m => (by cases m), fun p m => (by cases m), List.Pairwise.nil⟩
theorem Walk.done {h : Heap} {a : Nat} {c : Cell} {seen : List Nat} (x : Walk h a c [] seen) : ¬ Occ h a c := by
  have f : ∀ d, Wt h a [] seen d → Cov h a seen d := fun d z => by
    rcases z with ⟨e, m, _⟩ | z
    · cases m
    · exact z
  exact not_occ (fun p m s k i e l => f _ (x.shut p m s k i e l)) (f _ x.cov)
theorem Walk.found {h : Heap} {a : Nat} {c d : Cell} {cs : List Cell} {seen : List Nat} (x : Walk h a c (cs ++ [d]) seen) (e : look h d = .ref a) : Occ h a c :=
  x.sound d (by simp) (.here d e)
theorem Walk.skip {h : Heap} {a : Nat} {c d : Cell} {cs : List Cell} {seen : List Nat} (x : Walk h a c (cs ++ [d]) seen) (e : Cov h a seen d) : Walk h a c cs seen := by
  have f : ∀ b, Wt h a (cs ++ [d]) seen b → Wt h a cs seen b := fun b z => by
    rcases z with ⟨u, m, q⟩ | z
    · rcases List.mem_append.mp m with m | m
      · exact .inl ⟨u, m, q⟩
      · simp at m
        subst m
        refine .inr ⟨?_, fun s y => ?_⟩
        · rw [← q]; exact e.1
        · rw [← q] at y; exact e.2 s y
    · exact .inr z
  exact ⟨fun b m => x.good b (List.mem_append_left _ m), fun b m => x.sound b (List.mem_append_left _ m), f _ x.cov, fun p m s k i q l => f _ (x.shut p m s k i q l), x.low, x.nd⟩
/-- a structure's arguments as they stand -/
def args (h : Heap) (p k : Nat) : List Cell := (List.range k).map fun i => cellAt h (p + 1 + i)
theorem mem_args {h : Heap} {p k : Nat} {c : Cell} : c ∈ args h p k ↔ ∃ i, i < k ∧ cellAt h (p + 1 + i) = c := by
  unfold args
  rw [List.mem_map]
  exact ⟨fun ⟨i, m, e⟩ => ⟨i, List.mem_range.mp m, e⟩, fun ⟨i, m, e⟩ => ⟨i, List.mem_range.mpr m, e⟩⟩
theorem Walk.enter {h : Heap} {a : Nat} {c d : Cell} {cs : List Cell} {seen : List Nat} {p y k : Nat} (x : Walk h a c (cs ++ [d]) seen) (e : look h d = .str p) (eh : cellAt h p = .head y k) (n : p ∉ seen) :
    Walk h a c (cs ++ args h p k) (seen ++ [p]) := by
  have gd : Good h (.str p) := ((x.good d (by simp)).of_look e).1
  obtain ⟨y', k', eh', l1, l4, lb, nf, ga⟩ := gd.parts
  rw [eh] at eh'
  cases eh'
  have arg : ∀ i, i < k → look h (.ref (p + 1 + i)) = look h (cellAt h (p + 1 + i)) := fun i l => look_next (ga i l) (nf i l)
  have f : ∀ b, Wt h a (cs ++ [d]) seen b → Wt h a (cs ++ args h p k) (seen ++ [p]) b := fun b z => by
    rcases z with ⟨u, m, q⟩ | z
    · rcases List.mem_append.mp m with m | m
      · exact .inl ⟨u, List.mem_append_left _ m, q⟩
      · simp at m
        subst m
        refine .inr ⟨?_, fun s y => ?_⟩
        · rw [← q, e]; intro z; cases z
        · rw [← q, e] at y; cases y; simp
    · exact .inr (z.mono fun s m => List.mem_append_left _ m)
  refine ⟨fun b m => ?_, fun b m o => ?_, f _ x.cov, fun q m s j i eq l => ?_, fun q m => ?_, ?_⟩
  · rcases List.mem_append.mp m with m | m
    · exact x.good b (List.mem_append_left _ m)
    · obtain ⟨i, l, rfl⟩ := mem_args.mp m
      exact ((ga i l).next (nf i l)).1
  · rcases List.mem_append.mp m with m | m
    · exact x.sound b (List.mem_append_left _ m) o
    · obtain ⟨i, l, rfl⟩ := mem_args.mp m
      exact x.sound d (by simp) (.arg d p y k i e eh l (o.of_look (arg i l).symm))
  · rcases List.mem_append.mp m with m | m
    · exact f _ (x.shut q m s j i eq l)
    · simp at m
      subst m
      rw [eh] at eq
      cases eq
      exact .inl ⟨_, List.mem_append_right _ (mem_args.mpr ⟨i, l, rfl⟩), (arg i l).symm⟩
  · rcases List.mem_append.mp m with m | m
    · exact x.low q m
    · simp at m; subst m; omega
  · rw [List.nodup_append]
    exact ⟨x.nd, List.pairwise_singleton _ _, fun q m r mr z => by simp at mr; subst mr; subst z; exact n m⟩
theorem unseen_snoc {n s : Nat} {seen : List Nat} (hs : s < n) (hn : s ∉ seen) : unseen n (seen ++ [s]) + 1 ≤ unseen n seen := by
  have h1 := unseen_cons hs hn
  have h2 : unseen n (seen ++ [s]) ≤ unseen n (s :: seen) := unseen_mono fun p m => by
    cases m with
    | head => simp
    | tail _ m => exact List.mem_append_left _ m
  omega
end Sw
namespace Sw
open Lg04 (Cell Heap M Value Choice cellAt look through bind within stands same mark unify undone)

theorem within_ref {h : Heap} {a b : Nat} (f : Final h (.ref b)) (n : b ≠ a) : within h a (.ref b) = false := by
  cases e : within h a (.ref b) with
  | false => rfl
  | true => exact absurd ((within_iff (.free b f.1 f.2)).mp e) (occ_ref f.2 n)

section
variable {k : Nat} {p : Cell × Cell} {r : List (Cell × Cell)} {seen : List (Nat × Nat)} {m : M}
theorem step_eq (g : Good m.heap (look m.heap p.1)) (e : look m.heap p.1 = look m.heap p.2) : same (k + 1) (p :: r) seen m = same k r seen m := by
  conv => lhs; unfold same
  rw [← e]
  cases e1 : look m.heap p.1 with
  | ref a => simp
  | con s => simp
  | str a => simp
  | head s j => rw [e1] at g; exact g.no_head.elim
theorem step_seen {a b : Nat} (e1 : look m.heap p.1 = .str a) (e2 : look m.heap p.2 = .str b) (h : (a, b) ∈ seen) : same (k + 1) (p :: r) seen m = same k r seen m := by
  conv => lhs; unfold same
  simp only [e1, e2]
  rw [if_pos (.inr (by simpa using h))]
/-- the first is bound -/
theorem step_one {a : Nat} {y : Cell} (e1 : look m.heap p.1 = .ref a) (e2 : look m.heap p.2 = y) (g : Good m.heap y) (f : Final m.heap y) (lt : ∀ b, y = .ref b → b < a) :
    same (k + 1) (p :: r) seen m = if within m.heap a y = true then none else same k r seen (bind m a y) := by
  conv => lhs; unfold same
  subst e2
  cases e2 : look m.heap p.2 with
  | ref b =>
    have l := lt b e2
    rw [e2] at f
    simp only [e1]
    rw [if_neg (by omega), if_neg (by omega), within_ref f (by omega), if_neg (by decide)]
  | con s => simp only [e1]
  | str a => simp only [e1]
  | head s j => rw [e2] at g; exact g.no_head.elim
/-- the other is bound -/
theorem step_two {b : Nat} {x : Cell} (e1 : look m.heap p.1 = x) (e2 : look m.heap p.2 = .ref b) (g : Good m.heap x) (f : Final m.heap x) (lt : ∀ a, x = .ref a → a < b) :
    same (k + 1) (p :: r) seen m = if within m.heap b x = true then none else same k r seen (bind m b x) := by
  conv => lhs; unfold same
  subst e1
  cases e1 : look m.heap p.1 with
  | ref a =>
    have l := lt a e1
    rw [e1] at f
    simp only [e2]
    rw [if_neg (by omega), if_pos (by omega), within_ref f (by omega), if_neg (by decide)]
  | con s => simp only [e2]
  | str a => simp only [e2]
  | head s j => rw [e1] at g; exact g.no_head.elim
theorem step_enter {a b s n : Nat} (e1 : look m.heap p.1 = .str a) (e2 : look m.heap p.2 = .str b) (ne : a ≠ b) (h : (a, b) ∉ seen) (h1 : cellAt m.heap a = .head s n) (h2 : cellAt m.heap b = .head s n) :
    same (k + 1) (p :: r) seen m = same k ((List.range n).map (fun (i : Nat) => (Cell.ref (a + 1 + i), Cell.ref (b + 1 + i))) ++ r) ((a, b) :: seen) m := by
  conv => lhs; unfold same
  simp only [e1, e2]
  rw [if_neg (by simp; exact ⟨ne, h⟩)]
  simp only [h1, h2]
  rw [if_pos ⟨trivial, trivial⟩]
/-- neither is free, they are unlike, and no structures of equal heads -/
theorem step_fail {x y : Cell} (e1 : look m.heap p.1 = x) (e2 : look m.heap p.2 = y) (ne : x ≠ y) (nx : ∀ a, x ≠ .ref a) (ny : ∀ a, y ≠ .ref a) (ns : ∀ a b, x = .str a → y = .str b → (a, b) ∉ seen ∧ cellAt m.heap a ≠ cellAt m.heap b) :
    same (k + 1) (p :: r) seen m = none := by
  conv => lhs; unfold same
  subst e1 e2
  cases e1 : look m.heap p.1 with
  | ref a => exact absurd e1 (nx a)
  | con s =>
    cases e2 : look m.heap p.2 with
    | ref a => exact absurd e2 (ny a)
    | con t =>
      simp only []
      rw [if_neg (by intro z; subst z; exact ne (e1.trans e2.symm))]
    | str a => simp only []
    | head s j => simp only []
  | str a =>
    cases e2 : look m.heap p.2 with
    | ref a => exact absurd e2 (ny a)
    | con t => simp only []
    | str b =>
      obtain ⟨n1, n2⟩ := ns a b e1 e2
      simp only []
      rw [if_neg (by
        simp
        exact ⟨fun z => by subst z; exact ne (e1.trans e2.symm), n1⟩)]
      split
      · rename_i s n t j q1 q2
        rw [if_neg (by
          rintro ⟨rfl, rfl⟩
          exact n2 (q1.trans q2.symm))]
      · rfl
    | head s j => simp only []
  | head s j =>
    cases e2 : look m.heap p.2 with
    | ref a => exact absurd e2 (ny a)
    | con t => simp only []
    | str a => simp only []
    | head s j => simp only []
end

/-! A cell that waits as it stands in the place that the other has. -/
def LEq (h : Heap) (c d : Cell) : Prop := c = d ∨ ∃ q, d = .ref q ∧ c = cellAt h q ∧ cellAt h q ≠ .ref q ∧ Good h (.ref q)
theorem LEq.look {h : Heap} {c d : Cell} (x : LEq h c d) : look h c = look h d := by
  rcases x with rfl | ⟨q, rfl, rfl, n, g⟩
  · rfl
  · exact (look_next g n).symm
theorem LEq.good {h : Heap} {c d : Cell} (x : LEq h c d) (g : Good h d) : Good h c := by
  rcases x with rfl | ⟨q, rfl, rfl, n, g⟩
  · exact g
  · exact (g.next n).1
theorem LEq.kept {m n : M} {c d : Cell} (x : LEq m.heap c d) (K : Kept m n) : LEq n.heap c d := by
  rcases x with rfl | ⟨q, rfl, rfl, ne, g⟩
  · exact .inl rfl
  · have e := K.fixed q ne
    exact .inr ⟨q, rfl, e.symm, by rw [e]; exact ne, K.good _ g⟩
/-- the program's pairs (the last one comes first) and the specification's -/
inductive Lst (h : Heap) : List (Cell × Cell) → List (Cell × Cell) → Prop where
  | nil : Lst h [] []
  | snoc {c d c' d' : Cell} {ws l : List (Cell × Cell)} : LEq h c c' → LEq h d d' → Lst h ws l → Lst h (ws ++ [(c, d)]) ((c', d') :: l)
theorem Lst.kept {m n : M} {ws l : List (Cell × Cell)} (x : Lst m.heap ws l) (K : Kept m n) : Lst n.heap ws l := by
  induction x with
  | nil => exact .nil
  | snoc a b _ ih => exact .snoc (a.kept K) (b.kept K) ih
theorem Lst.length {h : Heap} {ws l : List (Cell × Cell)} (x : Lst h ws l) : ws.length = l.length := by
  induction x with
  | nil => rfl
  | snoc _ _ _ ih => rw [List.length_append, List.length_singleton, List.length_cons, ih]
theorem Lst.append {h : Heap} : ∀ {vs ks ws l : List (Cell × Cell)}, Lst h ws l → Lst h vs ks → Lst h (ws ++ vs) (ks ++ l) := by
  intro vs ks ws l x y
  induction y with
  | nil => rw [List.append_nil]; exact x
  | snoc a b _ ih => rw [← List.append_assoc, List.cons_append]; exact .snoc a b ih

theorem down_lst {h : Heap} {a b : Nat} : ∀ (k j : Nat), (∀ i, i < j + k → cellAt h (a + 1 + i) ≠ .ref (a + 1 + i) ∧ Good h (.ref (a + 1 + i))) → (∀ i, i < j + k → cellAt h (b + 1 + i) ≠ .ref (b + 1 + i) ∧ Good h (.ref (b + 1 + i))) →
    Lst h ((List.range k).map fun i => (cellAt h (a + (j + k - i)), cellAt h (b + (j + k - i)))) ((List.range k).map fun i => (Cell.ref (a + 1 + (j + i)), Cell.ref (b + 1 + (j + i))))
  | 0, j, _, _ => .nil
  | k + 1, j, ha, hb => by
    have ih := down_lst (h := h) (a := a) (b := b) k (j + 1) (fun i l => ha i (by omega)) (fun i l => hb i (by omega))
    have e1 : ((List.range (k + 1)).map fun i => (cellAt h (a + (j + (k + 1) - i)), cellAt h (b + (j + (k + 1) - i)))) = ((List.range k).map fun i => (cellAt h (a + (j + 1 + k - i)), cellAt h (b + (j + 1 + k - i)))) ++ [(cellAt h (a + 1 + j), cellAt h (b + 1 + j))] := by
      rw [List.range_succ, List.map_append]
      congr 1
      · apply List.map_congr_left
        intro i _
        rw [show j + (k + 1) - i = j + 1 + k - i by omega]
      · simp only [List.map_cons, List.map_nil]
        rw [show a + (j + (k + 1) - k) = a + 1 + j by omega, show b + (j + (k + 1) - k) = b + 1 + j by omega]
    have e2 : ((List.range (k + 1)).map fun i => (Cell.ref (a + 1 + (j + i)), Cell.ref (b + 1 + (j + i)))) = (Cell.ref (a + 1 + j), Cell.ref (b + 1 + j)) :: ((List.range k).map fun i => (Cell.ref (a + 1 + (j + 1 + i)), Cell.ref (b + 1 + (j + 1 + i)))) := by
      rw [List.range_succ_eq_map, List.map_cons, List.map_map]
      congr 1
      apply List.map_congr_left
      intro i _
      show (Cell.ref (a + 1 + (j + (i + 1))), Cell.ref (b + 1 + (j + (i + 1)))) = _
      rw [show j + (i + 1) = j + 1 + i by omega]
    rw [e1, e2]
    exact .snoc (.inr ⟨_, rfl, rfl, ha j (by omega)⟩) (.inr ⟨_, rfl, rfl, hb j (by omega)⟩) ih

/-- pairs as numbers -/
def nums (N : Nat) (l : List (Nat × Nat)) : List Nat := l.map fun p => p.1 * N + p.2
theorem num_inj {N a b c d : Nat} (hb : b < N) (hd : d < N) (e : a * N + b = c * N + d) : a = c ∧ b = d := by
  have h1 : (a * N + b) % N = b := by rw [Nat.mul_comm, Nat.mul_add_mod, Nat.mod_eq_of_lt hb]
  have h2 : (c * N + d) % N = d := by rw [Nat.mul_comm, Nat.mul_add_mod, Nat.mod_eq_of_lt hd]
  have e2 : b = d := by rw [← h1, ← h2, e]
  subst e2
  have : a * N = c * N := by omega
  exact ⟨Nat.eq_of_mul_eq_mul_right (by omega) this, rfl⟩
theorem nums_lt {N a b : Nat} (ha : a < N) (hb : b < N) : a * N + b < N * N := by
  have : (a + 1) * N ≤ N * N := Nat.mul_le_mul_right N ha
  rw [Nat.add_mul] at this
  omega
/-- how many pairs of places haven't been gone into -/
def left2 (N : Nat) (seen : List (Nat × Nat)) : Nat := unseen (N * N) (nums N seen)
theorem left2_cons {N a b : Nat} {seen : List (Nat × Nat)} (ha : a < N) (hb : b < N) (low : ∀ p, p ∈ seen → p.2 < N) (n : (a, b) ∉ seen) : left2 N ((a, b) :: seen) + 1 ≤ left2 N seen := by
  refine unseen_cons (nums_lt ha hb) fun m => ?_
  obtain ⟨⟨c, d⟩, mc, e⟩ := List.mem_map.mp m
  obtain ⟨rfl, rfl⟩ := num_inj (low _ mc) hb e
  exact n mc

theorem nodup_le : ∀ {N : Nat} {l : List Nat}, l.Nodup → (∀ x, x ∈ l → x < N) → l.length + unseen N l ≤ N
  | N, [], _, _ => by
    unfold unseen
    have := List.length_filter_le (fun p => !decide (p ∈ ([] : List Nat))) (List.range N)
    simp at this ⊢
    exact this
  | N, x :: l, nd, h => by
    obtain ⟨h1, h2⟩ := List.nodup_cons.mp nd
    have ih := nodup_le h2 fun y m => h y (.tail _ m)
    have := unseen_cons (h x (.head _)) h1
    rw [List.length_cons]
    omega
theorem Inv.trail_le {m : M} (I : Inv m) : m.trail.length ≤ m.heap.size := by
  have := nodup_le I.nodup fun x mx => (I.bound x mx).1
  omega
end Sw
namespace Sw
open Lg04 (Cell Heap M Value Choice cellAt look through bind within stands same mark unify undone termAt termOf)
open Lg01 (Term)

/-! The term of a cell. -/
inductive Tm (h : Heap) : Cell → Term → Prop where
  | var (c : Cell) (a : Nat) : look h c = .ref a → Tm h c (.var a)
  | con (c : Cell) (s : Nat) : look h c = .con s → Tm h c (.sym s)
  | str (c : Cell) (p s k : Nat) (ts : List Term) : look h c = .str p → cellAt h p = .head s k → ts.length = k → (∀ i t, ts[i]? = some t → Tm h (.ref (p + 1 + i)) t) → Tm h c (ts.foldl .ap (.sym s))

theorem Tm.of_look {h : Heap} {c d : Cell} {t : Term} (e : look h c = look h d) (x : Tm h c t) : Tm h d t := by
  cases x with
  | var _ a q => exact .var d a (by rw [← e]; exact q)
  | con _ s q => exact .con d s (by rw [← e]; exact q)
  | str _ p s k ts q r l g => exact .str d p s k ts (by rw [← e]; exact q) r l g

theorem choose_list {α : Type} {P : Nat → α → Prop} : ∀ (k : Nat), (∀ i, i < k → ∃ t, P i t) → ∃ ts : List α, ts.length = k ∧ ∀ i t, ts[i]? = some t → P i t
  | 0, _ => ⟨[], rfl, fun i t e => by simp at e⟩
  | k + 1, h => by
    obtain ⟨ts, l, g⟩ := choose_list k fun i li => h i (by omega)
    obtain ⟨t, ht⟩ := h k (by omega)
    refine ⟨ts ++ [t], by simp [l], fun i u e => ?_⟩
    by_cases q : i < k
    · rw [List.getElem?_append_left (by omega)] at e
      exact g i u e
    · rw [List.getElem?_append_right (by omega)] at e
      by_cases q2 : i = k
      · subst q2
        rw [l, Nat.sub_self] at e
        cases (Option.some.inj e)
        exact ht
      · rw [List.getElem?_eq_none (by simp; omega)] at e
        cases e

theorem tm_ex {h : Heap} {c : Cell} (g : Good h c) : ∃ t, Tm h c t := by
  induction g with
  | con s => exact ⟨_, .con _ s look_con⟩
  | free a l e => exact ⟨_, .var _ a (look_free e)⟩
  | ref a b l e lt g ih =>
    obtain ⟨t, ht⟩ := ih
    refine ⟨t, ht.of_look ?_⟩
    rw [look_next (.ref a b l e lt g) (by rw [e]; intro z; cases z; omega), e]
  | rcon a s l e =>
    refine ⟨_, .con _ s ?_⟩
    rw [look_next (.rcon a s l e) (by rw [e]; intro z; cases z), e, look_con]
  | rstr a p l e g ih =>
    obtain ⟨t, ht⟩ := ih
    refine ⟨t, ht.of_look ?_⟩
    rw [look_next (.rstr a p l e g) (by rw [e]; intro z; cases z), e]
  | str p s k e l1 l4 b n g ih =>
    obtain ⟨ts, l, q⟩ := choose_list k ih
    exact ⟨_, .str _ p s k ts look_str e l q⟩

/-! Nothing stands within itself. -/
inductive Inn (h : Heap) (d : Cell) : Cell → Prop where
  | arg (c : Cell) (p s k i : Nat) : look h c = .str p → cellAt h p = .head s k → i < k → d = .ref (p + 1 + i) → Inn h d c
  | step (c : Cell) (p s k i : Nat) : look h c = .str p → cellAt h p = .head s k → i < k → Inn h d (.ref (p + 1 + i)) → Inn h d c
theorem Inn.of_look {h : Heap} {c c' d : Cell} (e : look h c = look h c') (x : Inn h d c) : Inn h d c' := by
  cases x with
  | arg _ p s k i q r l z => exact .arg c' p s k i (by rw [← e]; exact q) r l z
  | step _ p s k i q r l z => exact .step c' p s k i (by rw [← e]; exact q) r l z
theorem Inn.trans {h : Heap} {c d f : Cell} (x : Inn h d c) (y : Inn h f d) : Inn h f c := by
  induction x with
  | arg c p s k i q r l z => subst z; exact .step c p s k i q r l y
  | step c p s k i q r l z ih => exact .step c p s k i q r l ih
theorem no_loop {h : Heap} {c : Cell} (g : Good h c) : ∀ d, Inn h d c → look h d ≠ look h c := by
  induction g with
  | con s => intro d x; cases x with
    | arg _ p s k i q => rw [look_con] at q; cases q
    | step _ p s k i q => rw [look_con] at q; cases q
  | free a l e => intro d x; cases x with
    | arg _ p s k i q => rw [look_free e] at q; cases q
    | step _ p s k i q => rw [look_free e] at q; cases q
  | ref a b l e lt g ih =>
    have eq : look h (.ref a) = look h (.ref b) := by rw [look_next (.ref a b l e lt g) (by rw [e]; intro z; cases z; omega), e]
    intro d x
    rw [eq]
    exact ih d (x.of_look eq)
  | rcon a s l e =>
    have eq : look h (.ref a) = .con s := by rw [look_next (.rcon a s l e) (by rw [e]; intro z; cases z), e, look_con]
    intro d x; cases x with
    | arg _ p s k i q => rw [eq] at q; cases q
    | step _ p s k i q => rw [eq] at q; cases q
  | rstr a p l e g ih =>
    have eq : look h (.ref a) = look h (.str p) := by rw [look_next (.rstr a p l e g) (by rw [e]; intro z; cases z), e]
    intro d x
    rw [eq]
    exact ih d (x.of_look eq)
  | str p s k e l1 l4 b n g ih =>
    intro d x z
    -- d is an argument, or within one; its arguments are those of the whole
    have key : ∀ i, i < k → Inn h (.ref (p + 1 + i)) (.ref (p + 1 + i)) → False := fun i l y => ih i l _ y rfl
    have dz : ∀ i, i < k → Inn h (.ref (p + 1 + i)) d := fun i l => .arg d p s k i (by rw [z, look_str]) e l rfl
    cases x with
    | arg _ p' s' k' i q r l w =>
      rw [look_str] at q
      cases q
      rw [e] at r
      cases r
      subst w
      exact key i l (dz i l)
    | step _ p' s' k' i q r l w =>
      rw [look_str] at q
      cases q
      rw [e] at r
      cases r
      exact key i l (w.trans (dz i l))

/-- how deep structures stand in one another -/
inductive Hg (h : Heap) : Nat → Cell → Prop where
  | leaf (n : Nat) (c : Cell) : (∀ p, look h c ≠ .str p) → Hg h (n + 1) c
  | str (n : Nat) (c : Cell) (p s k : Nat) : look h c = .str p → cellAt h p = .head s k → (∀ i, i < k → Hg h n (.ref (p + 1 + i))) → Hg h (n + 1) c

theorem hg_of {h : Heap} : ∀ (n : Nat) (U : List Nat) (c : Cell), U.length ≤ n → Good h c → (∀ p, look h c = .str p → p ∈ U) → (∀ d p, Inn h d c → look h d = .str p → p ∈ U) → Hg h (n + 1) c := by
  intro n
  induction n with
  | zero =>
    intro U c l g h1 h2
    have : U = [] := List.eq_nil_of_length_eq_zero (by omega)
    subst this
    exact .leaf 0 c fun p e => by cases h1 p e
  | succ n ih =>
    intro U c l g h1 h2
    cases e : look h c with
    | ref a => exact .leaf _ c fun p z => by rw [e] at z; cases z
    | con a => exact .leaf _ c fun p z => by rw [e] at z; cases z
    | head a b => exact .leaf _ c fun p z => by rw [e] at z; cases z
    | str p =>
      have gs := (g.of_look e).1
      obtain ⟨s, k, eh, l1, l4, lb, nf, ga⟩ := gs.parts
      refine .str _ c p s k e eh fun i li => ih (U.erase p) _ ?_ (ga i li) ?_ ?_
      · rw [List.length_erase_of_mem (h1 p e)]
        omega
      · intro q eq
        have m := h2 _ q (.arg c p s k i e eh li rfl) eq
        have ne : q ≠ p := fun z => by
          subst z
          exact no_loop g _ (.arg c q s k i e eh li rfl) (eq.trans e.symm)
        exact (List.mem_erase_of_ne ne).mpr m
      · intro d q x eq
        have y : Inn h d c := .step c p s k i e eh li x
        have m := h2 d q y eq
        have ne : q ≠ p := fun z => by
          subst z
          exact no_loop g _ y (eq.trans e.symm)
        exact (List.mem_erase_of_ne ne).mpr m

theorem Inn.good {h : Heap} {c d : Cell} (x : Inn h d c) (g : Good h c) : Good h d := by
  induction x with
  | arg c p s k i q r l z =>
    obtain ⟨s', k', e', _, _, _, _, ga⟩ := (g.of_look q).1.parts
    rw [r] at e'
    cases e'
    subst z
    exact ga i l
  | step c p s k i q r l z ih =>
    obtain ⟨s', k', e', _, _, _, _, ga⟩ := (g.of_look q).1.parts
    rw [r] at e'
    cases e'
    exact ih (ga i l)
theorem str_lt {h : Heap} {c : Cell} {p : Nat} (g : Good h c) (e : look h c = .str p) : p < h.size := by
  obtain ⟨s, k, eh, l1, l4, lb, _⟩ := (g.of_look e).1.parts
  omega
theorem hg_good {h : Heap} {c : Cell} (g : Good h c) : Hg h (h.size + 1) c :=
  hg_of h.size (List.range h.size) c (by simp) g (fun p e => List.mem_range.mpr (str_lt g e)) (fun d p x e => List.mem_range.mpr (str_lt (x.good g) e))

theorem size_pos : ∀ t : Term, 1 ≤ Lg01.size t
  | .var _ => Nat.le_refl _
  | .sym _ => Nat.le_refl _
  | .ap f a => by
    have := size_pos f
    show 1 ≤ Lg01.size f + Lg01.size a
    omega
theorem size_foldl : ∀ (ts : List Term) (f : Term), Lg01.size (ts.foldl .ap f) = Lg01.size f + (ts.map Lg01.size).sum
  | [], f => rfl
  | t :: ts, f => by
    rw [List.foldl_cons, size_foldl ts, List.map_cons, List.sum_cons]
    show Lg01.size f + Lg01.size t + _ = _
    omega

/-- **The specification's term of a cell, by its size.** -/
theorem termAt_eq {h : Heap} : ∀ {n : Nat} {c : Cell} {t : Term}, Hg h n c → Good h c → Tm h c t → ∀ b, termAt h n b c = if Lg01.size t ≤ b then some (t, b - Lg01.size t) else none := by
  intro n
  induction n with
  | zero => intro c t hg; cases hg
  | succ n ih =>
    intro c t hg g x b
    unfold termAt
    by_cases b0 : b = 0
    · rw [if_pos b0, if_neg (by have := size_pos t; omega)]
    · rw [if_neg b0]
      cases x with
      | var _ a q =>
        rw [q]
        dsimp only
        rw [if_pos (show Lg01.size (Term.var a) ≤ b from (by omega : 1 ≤ b))]
        rfl
      | con _ s q =>
        rw [q]
        dsimp only
        rw [if_pos (show Lg01.size (Term.sym s) ≤ b from (by omega : 1 ≤ b))]
        rfl
      | str _ p s k ts q r l w =>
        rw [q]
        simp only [r]
        obtain ⟨s', k', e', _, _, _, _, ga⟩ := (g.of_look q).1.parts
        rw [r] at e'
        cases e'
        have hga : ∀ i, i < k → Hg h n (.ref (p + 1 + i)) := by
          cases hg with
          | leaf _ _ nn => exact absurd q (nn p)
          | str _ _ p' s' k' q' r' w' =>
            rw [q] at q'
            cases q'
            rw [r] at r'
            cases r'
            exact w'
        have fold : ∀ j, j ≤ k → (List.range j).foldl (fun (o : Option (Term × Nat)) (i : Nat) => o.bind fun (x : Term × Nat) => (termAt h n x.2 (.ref (p + 1 + i))).map fun (y : Term × Nat) => (.ap x.1 y.1, y.2)) (some (.sym s, b - 1)) =
            if Lg01.size ((ts.take j).foldl .ap (.sym s)) ≤ b then some ((ts.take j).foldl .ap (.sym s), b - Lg01.size ((ts.take j).foldl .ap (.sym s))) else none := by
          intro j
          induction j with
          | zero =>
            intro _
            rw [List.take_zero, List.foldl_nil, if_pos (show Lg01.size (Term.sym s) ≤ b from (by omega : 1 ≤ b))]
            rfl
          | succ j ihj =>
            intro lj
            rw [List.range_succ, List.foldl_append, ihj (by omega), List.foldl_cons, List.foldl_nil]
            obtain ⟨tj, ej⟩ : ∃ tj, ts[j]? = some tj := ⟨_, List.getElem?_eq_getElem (by omega)⟩
            have et : ts.take (j + 1) = ts.take j ++ [tj] := by rw [List.take_add_one, ej]; rfl
            have eF : (ts.take (j + 1)).foldl Term.ap (.sym s) = Term.ap ((ts.take j).foldl .ap (.sym s)) tj := by rw [et, List.foldl_append]; rfl
            rw [eF]
            have sa : Lg01.size (Term.ap ((ts.take j).foldl .ap (.sym s)) tj) = Lg01.size ((ts.take j).foldl .ap (.sym s)) + Lg01.size tj := rfl
            have := size_pos tj
            by_cases c1 : Lg01.size ((ts.take j).foldl .ap (.sym s)) ≤ b
            · rw [if_pos c1]
              simp only [Option.bind_some]
              rw [ih (hga j (by omega)) (ga j (by omega)) (w j tj ej)]
              by_cases c2 : Lg01.size tj ≤ b - Lg01.size ((ts.take j).foldl .ap (.sym s))
              · have le : Lg01.size (Term.ap ((ts.take j).foldl .ap (.sym s)) tj) ≤ b := by rw [sa]; omega
                rw [if_pos c2]
                split
                · simp only [Option.map_some]
                  rw [sa, Nat.sub_sub]
                · rename_i nle
                  exact absurd le nle
              · have le : ¬ Lg01.size (Term.ap ((ts.take j).foldl .ap (.sym s)) tj) ≤ b := by rw [sa]; omega
                rw [if_neg c2]
                split
                · rename_i yle
                  exact absurd yle le
                · rfl
            · have le : ¬ Lg01.size (Term.ap ((ts.take j).foldl .ap (.sym s)) tj) ≤ b := by rw [sa]; omega
              rw [if_neg c1]
              split
              · rename_i yle
                exact absurd yle le
              · rfl
        have := fold k (Nat.le_refl _)
        rw [List.take_of_length_le (by omega)] at this
        exact this

theorem termOf_eq {h : Heap} {c : Cell} {t : Term} (g : Good h c) (x : Tm h c t) : termOf h c = if Lg01.size t ≤ 500 then some t else none := by
  unfold termOf
  rw [termAt_eq (hg_good g) g x]
  show Option.map _ (if Lg01.size t ≤ 500 then _ else none) = _
  by_cases q : Lg01.size t ≤ 500
  · rw [if_pos q, if_pos q]; rfl
  · rw [if_neg q, if_neg q]; rfl
end Sw
namespace Sw
open Lg04 (Cell Heap M Value Choice cellAt look)
open Lg01 (Term)

/-! A term's variables and symbols as they come. -/
inductive Tok where
  | var (a : Nat)
  | sym (s k : Nat)
  deriving DecidableEq
def toksA : Term → Nat → List Tok → List Tok
  | .var a, _, r => .var a :: r
  | .sym s, n, r => .sym s n :: r
  | .ap f a, n, r => toksA f (n + 1) (toksA a 0 r)
def toks (t : Term) : List Tok := toksA t 0 []
theorem toksA_app : ∀ (t : Term) (n : Nat) (r : List Tok), toksA t n r = toksA t n [] ++ r
  | .var a, n, r => rfl
  | .sym s, n, r => rfl
  | .ap f a, n, r => by
    show toksA f (n + 1) (toksA a 0 r) = toksA f (n + 1) (toksA a 0 []) ++ r
    rw [toksA_app f, toksA_app a 0 r, toksA_app f (n + 1) (toksA a 0 []), List.append_assoc]
theorem toksA_foldl : ∀ (ts : List Term) (f : Term) (n : Nat), toksA (ts.foldl .ap f) n [] = toksA f (n + ts.length) [] ++ ts.flatMap toks
  | [], f, n => by simp
  | t :: ts, f, n => by
    rw [List.foldl_cons, toksA_foldl ts, List.flatMap_cons]
    show toksA f (n + ts.length + 1) (toksA t 0 []) ++ _ = _
    rw [toksA_app f, List.append_assoc, List.length_cons]
    rfl
theorem toks_str (ts : List Term) (s : Nat) : toks (ts.foldl .ap (.sym s)) = .sym s ts.length :: ts.flatMap toks := by
  unfold toks
  rw [toksA_foldl]
  simp [toksA]
  rfl
theorem size_toks : ∀ (t : Term) (n : Nat), (toksA t n []).length = Lg01.size t
  | .var a, n => rfl
  | .sym s, n => rfl
  | .ap f a, n => by
    show (toksA f (n + 1) (toksA a 0 [])).length = _
    rw [toksA_app, List.length_append, size_toks f, size_toks a]
    rfl
def varsT (l : List Tok) : List Nat := l.filterMap fun t => match t with
  | .var a => some a
  | .sym _ _ => none
theorem varsT_app (a b : List Tok) : varsT (a ++ b) = varsT a ++ varsT b := by unfold varsT; rw [List.filterMap_append]
theorem vars_toksA : ∀ (t : Term) (n : Nat), varsT (toksA t n []) = Lg01.varsOf t
  | .var a, n => rfl
  | .sym s, n => rfl
  | .ap f a, n => by
    show varsT (toksA f (n + 1) (toksA a 0 [])) = _
    rw [toksA_app, varsT_app, vars_toksA f, vars_toksA a]
    rfl
theorem vars_toks (ts : List Term) : varsT (ts.flatMap toks) = ts.flatMap Lg01.varsOf := by
  induction ts with
  | nil => rfl
  | cons t ts ih =>
    rw [List.flatMap_cons, List.flatMap_cons, varsT_app, ih]
    unfold toks
    rw [vars_toksA]

/-- a token as numbers, its variables by a list of names -/
def encT (names : List Nat) : Tok → List Nat
  | .var a => [0, names.findIdx fun m => m == a]
  | .sym s k => [k + 1, s]
/-- a term that begins with a symbol, where it has arguments -/
theorem rowFrom_eq (names : List Nat) : ∀ (t : Term) (l : List (List Nat)), Lg01.headed t = true ∨ l = [] → Lg01.proper t = true →
    Lg01.rowFrom (Lg01.renamed names t) l = (toksA t l.length []).flatMap (encT names) ++ l.flatten
  | .var a, l, h, _ => by
    have : l = [] := by
      rcases h with h | h
      · cases h
      · exact h
    subst this
    rfl
  | .sym s, l, _, _ => by
    show (l.length + 1) :: s :: l.flatten = _
    rfl
  | .ap f a, l, h, p => by
    have p : (Lg01.headed f && (Lg01.proper f && Lg01.proper a)) = true := p
    rw [Bool.and_eq_true, Bool.and_eq_true] at p
    show Lg01.rowFrom (Lg01.renamed names f) (Lg01.rowFrom (Lg01.renamed names a) [] :: l) = _
    rw [rowFrom_eq names f _ (.inl p.1) p.2.1, rowFrom_eq names a [] (.inr rfl) p.2.2]
    show _ = (toksA f (l.length + 1) (toksA a 0 [])).flatMap (encT names) ++ l.flatten
    rw [toksA_app f (l.length + 1) (toksA a 0 []), List.flatMap_append, List.length_cons]
    simp
theorem foldl_proper : ∀ (ts : List Term) (f : Term), Lg01.headed f = true → Lg01.proper f = true → (∀ t, t ∈ ts → Lg01.proper t = true) → Lg01.proper (ts.foldl .ap f) = true ∧ Lg01.headed (ts.foldl .ap f) = true
  | [], f, h, p, _ => ⟨p, h⟩
  | t :: ts, f, h, p, g => by
    rw [List.foldl_cons]
    refine foldl_proper ts _ h ?_ fun u m => g u (.tail _ m)
    show (Lg01.headed f && (Lg01.proper f && Lg01.proper t)) = true
    rw [h, p, g t (.head _)]
    rfl
theorem Tm.proper {h : Heap} {c : Cell} {t : Term} (x : Tm h c t) : Lg01.proper t = true := by
  induction x with
  | var c a q => rfl
  | con c s q => rfl
  | str c p s k ts q r l w ih =>
    refine (foldl_proper ts (.sym s) rfl rfl fun t m => ?_).1
    obtain ⟨i, e⟩ := List.mem_iff_getElem?.mp m
    exact ih i t e
theorem row_eq (names : List Nat) {t : Term} (p : Lg01.proper t = true) : Lg01.row (Lg01.renamed names t) = (toks t).flatMap (encT names) := by
  unfold Lg01.row
  rw [rowFrom_eq names t [] (.inr rfl) p]
  simp
  rfl

/-! Variables numbered as they come. -/
def once (l : List Nat) : List Nat := Lg01.once l
theorem once_snoc (l : List Nat) (a : Nat) : once (l ++ [a]) = if a ∈ once l then once l else once l ++ [a] := by
  unfold once Lg01.once
  rw [List.foldl_append, List.foldl_cons, List.foldl_nil]
  by_cases q : a ∈ l.foldl (fun (a : List Nat) (n : Nat) => if a.contains n = true then a else a ++ [n]) []
  · rw [if_pos q, if_pos (by simpa using q)]
  · rw [if_neg q, if_neg (by simpa using q)]
theorem once_nil : once [] = [] := rfl
theorem mem_once (l : List Nat) : ∀ a, a ∈ l → a ∈ once l := by
  suffices ∀ (r : List Nat), ∀ a, a ∈ r.reverse → a ∈ once r.reverse by
    intro a m
    have := this l.reverse a (by simpa using m)
    simpa using this
  intro r
  induction r with
  | nil => intro a m; simp at m
  | cons x r ih =>
    intro a m
    rw [List.reverse_cons] at m ⊢
    rw [once_snoc]
    rcases List.mem_append.mp m with m | m
    · have := ih a m
      split
      · exact this
      · exact List.mem_append_left _ this
    · simp at m
      subst m
      split
      · assumption
      · simp
/-- names had so far, numbers told so far -/
def nextT (s : List Nat × List Nat) : Tok → List Nat × List Nat
  | .var a => if a ∈ s.1 then (s.1, s.2 ++ [0, s.1.findIdx fun m => m == a]) else (s.1 ++ [a], s.2 ++ [0, s.1.length])
  | .sym x k => (s.1, s.2 ++ [k + 1, x])
def numbered (T : List Tok) : List Nat × List Nat := T.foldl nextT ([], [])
theorem findIdx_app {l r : List Nat} {a : Nat} (m : a ∈ l) : (l ++ r).findIdx (fun m => m == a) = l.findIdx (fun m => m == a) := by
  rw [List.findIdx_append, if_pos]
  rw [List.findIdx_lt_length]
  exact ⟨a, m, by simp⟩
theorem findIdx_end {l : List Nat} {a : Nat} (m : a ∉ l) : (l ++ [a]).findIdx (fun m => m == a) = l.length := by
  rw [List.findIdx_append, if_neg]
  · simp
  · rw [List.findIdx_lt_length]
    rintro ⟨x, mx, e⟩
    have : x = a := by simpa using e
    subst this
    exact m mx
theorem encT_more {names more : List Nat} {T : List Tok} (h : ∀ a, a ∈ varsT T → a ∈ names) : T.flatMap (encT (names ++ more)) = T.flatMap (encT names) := by
  induction T with
  | nil => rfl
  | cons t T ih =>
    rw [List.flatMap_cons, List.flatMap_cons]
    cases t with
    | var a =>
      have ha : a ∈ names := h a (by unfold varsT; simp)
      rw [ih (fun b m => h b (by unfold varsT at m ⊢; simp at m ⊢; exact .inr m))]
      show [0, (names ++ more).findIdx fun m => m == a] ++ _ = [0, names.findIdx fun m => m == a] ++ _
      rw [findIdx_app ha]
    | sym x k =>
      rw [ih (fun b m => h b (by unfold varsT at m ⊢; simp at m ⊢; exact m))]
      rfl
theorem numbered_snoc (T : List Tok) (t : Tok) : numbered (T ++ [t]) = nextT (numbered T) t := by
  unfold numbered
  rw [List.foldl_append]
  rfl
/-- **What numbering on the way comes to.** -/
theorem numbered_eq (T : List Tok) : numbered T = (once (varsT T), T.flatMap (encT (once (varsT T)))) := by
  suffices ∀ (R : List Tok), numbered R.reverse = (once (varsT R.reverse), R.reverse.flatMap (encT (once (varsT R.reverse)))) by
    have := this T.reverse
    simpa using this
  intro R
  induction R with
  | nil => rfl
  | cons t R ih =>
    rw [List.reverse_cons, numbered_snoc, ih]
    generalize R.reverse = T
    have cov : ∀ a, a ∈ varsT T → a ∈ once (varsT T) := fun a m => mem_once _ a m
    cases t with
    | var a =>
      have ev : varsT (T ++ [.var a]) = varsT T ++ [a] := by rw [varsT_app]; rfl
      rw [ev, once_snoc, List.flatMap_append]
      by_cases q : a ∈ once (varsT T)
      · rw [if_pos q]
        show (if a ∈ once (varsT T) then _ else _) = _
        rw [if_pos q]
        simp [encT]
      · rw [if_neg q]
        show (if a ∈ once (varsT T) then _ else _) = _
        rw [if_neg q, encT_more cov]
        simp [encT]
        exact (findIdx_end q).symm
    | sym x k =>
      have ev : varsT (T ++ [.sym x k]) = varsT T := by rw [varsT_app]; simp [varsT]
      rw [ev, List.flatMap_append]
      show (_, _ ++ [k + 1, x]) = _
      simp [encT]

/-- **value's numbers**, of the terms' tokens -/
theorem rowsOf_eq {ts : List Term} (p : ∀ t, t ∈ ts → Lg01.proper t = true) : Lg04.rowsOf ts = (numbered (ts.flatMap toks)).2 := by
  rw [numbered_eq]
  show ts.flatMap (fun (t : Term) => Lg01.row (Lg01.renamed (Lg01.once (ts.flatMap Lg01.varsOf)) t)) = (ts.flatMap toks).flatMap (encT (once (varsT (ts.flatMap toks))))
  rw [vars_toks]
  show _ = (ts.flatMap toks).flatMap (encT (Lg01.once (ts.flatMap Lg01.varsOf)))
  generalize Lg01.once (ts.flatMap Lg01.varsOf) = names
  induction ts with
  | nil => rfl
  | cons t ts ih =>
    rw [List.flatMap_cons, List.flatMap_cons, List.flatMap_append, row_eq names (p t (.head _)), ih fun u m => p u (.tail _ m)]
end Sw
namespace Sw
open Lg04 (Cell Heap M Value Choice cellAt look undone)
open Lg06 (leads roots seen isSeen kept sight seenBound seenFree oldest reset places stays swept cellTo viewOf regsTo)

/-! Going back, the oldest place first. -/
theorem undo_congr {l l' : List Nat} (e : ∀ x, x ∈ l ↔ x ∈ l') (h : Heap) : undo l h = undo l' h := by
  apply heap_ext
  · rw [undo_size, undo_size]
  · intro a la
    rw [undo_size] at la
    by_cases m : a ∈ l
    · rw [undo_in _ _ _ m la, undo_in _ _ _ ((e a).mp m) la]
    · rw [undo_out _ _ _ m, undo_out _ _ _ (fun z => m ((e a).mpr z))]
theorem undone_old {m : M} {i : Nat} {b : Choice} (e : m.choices[i]? = some b) : undone m i = (undo (m.trail.reverse.drop b.trail) m.heap).take b.heap := by
  rw [undone_eq e, undo_congr (fun x => mem_take_end)]

/-! What is seen, by a list of cells that wait. -/
theorem seen_place {h : Heap} {l : List (Option Value)} (r : RegsOk h l) {a : Nat} (e : isSeen (seen (h, l)) a = true) : PlaceOk h a := by
  obtain ⟨x, mx, w⟩ := (seen_ok r).from_ a e
  have ok := (roots_ok r.2).2 x mx
  clear mx e
  induction w with
  | here a => exact ok
  | on a b c m w ih => exact ih (ok.leads.2 b m)
def HeadOk (c : Cell) : Prop := ∀ s k, c = .head s k → 1 ≤ k
theorem Good.headOk {h : Heap} {c : Cell} (g : Good h c) : HeadOk c := fun s k e => by subst e; exact g.no_head.elim
theorem leads_head {h : Heap} {c : Cell} (g : Good h c) : ∀ b, b ∈ leads h c → HeadOk (cellAt h b) := by
  have ofRef : ∀ {a}, Good h (.ref a) → HeadOk (cellAt h a) := fun {a} g s k e => by
    have := (g.next (by rw [e]; intro z; cases z)).1
    rw [e] at this
    exact this.no_head.elim
  cases c with
  | ref a =>
    intro b m
    have : b = a := by simpa [leads] using m
    subst this
    exact ofRef g
  | con s => intro b m; cases m
  | head s k => exact g.no_head.elim
  | str p =>
    obtain ⟨s, k, e, l1, l4, lb, nf, ga⟩ := g.parts
    rw [leads_str e]
    intro b m
    obtain ⟨i, mi, rfl⟩ := List.mem_map.mp m
    have mi := List.mem_range.mp mi
    match i, mi with
    | 0, _ =>
      intro s' k' e'
      have e' : cellAt h p = .head s' k' := e'
      rw [e] at e'
      cases e'
      exact l1
    | i + 1, mi =>
      have := ofRef (ga i (by omega))
      rw [show p + 1 + i = p + (i + 1) by omega] at this
      exact this
theorem seen_head {h : Heap} {l : List (Option Value)} (r : RegsOk h l) {a : Nat} (e : isSeen (seen (h, l)) a = true) : HeadOk (cellAt h a) := by
  obtain ⟨x, mx, w⟩ := (seen_ok r).from_ a e
  have ok := (roots_ok r.2).2 x mx
  have ok2 : HeadOk (cellAt h x) := by
    unfold roots at mx
    obtain ⟨v, mv, mx⟩ := List.mem_flatMap.mp mx
    rcases r.2 v mv with rfl | ⟨c, rfl, g⟩
    · cases mx
    · exact leads_head g x mx
  clear mx e
  induction w with
  | here a => exact ok2
  | on a b c m w ih =>
    refine ih (ok.leads.2 b m) ?_
    obtain ⟨l, g | ⟨s, k, e⟩⟩ := ok
    · by_cases n : cellAt h a = .ref a
      · rw [n] at m; exact leads_head g b m
      · exact leads_head (g.next n).1 b m
    · rw [e] at m; cases m
theorem PlaceOk.good {h : Heap} {a : Nat} (g : Good h (.ref a)) : Good h (cellAt h a) := by
  by_cases n : cellAt h a = .ref a
  · rw [n]; exact g
  · exact (g.next n).1
def regCells (l : List (Option Value)) : List Cell := l.filterMap Lg04.cellOf
theorem mem_regCells {l : List (Option Value)} {c : Cell} : c ∈ regCells l ↔ some (.cell c) ∈ l := by
  unfold regCells
  rw [List.mem_filterMap]
  constructor
  · rintro ⟨v, mv, e⟩
    match v, e with
    | some (.cell d), e =>
      have : d = c := by simpa [Lg04.cellOf] using e
      subst this
      exact mv
  · intro m
    exact ⟨_, m, rfl⟩

structure Sees (h : Heap) (l : List (Option Value)) (S : List Nat) (ws : List Cell) (rest : List Nat) : Prop where
  nodup : S.Nodup
  yes : ∀ a, a ∈ S → isSeen (seen (h, l)) a = true
  wait : ∀ c, c ∈ ws → (Good h c ∨ ∃ s k, c = .head s k ∧ 1 ≤ k) ∧ ∀ b, b ∈ leads h c → isSeen (seen (h, l)) b = true
  left : ∀ b, b ∈ rest → isSeen (seen (h, l)) b = true
  root : ∀ c, some (.cell c) ∈ l → ∀ b, b ∈ leads h c → b ∈ S ∨ (∃ c, c ∈ ws ∧ b ∈ leads h c) ∨ b ∈ rest
  shut : ∀ a, a ∈ S → ∀ b, b ∈ leads h (cellAt h a) → b ∈ S ∨ (∃ c, c ∈ ws ∧ b ∈ leads h c) ∨ b ∈ rest
section
variable {h : Heap} {l : List (Option Value)} {S : List Nat} {ws : List Cell} {rest : List Nat} {c : Cell} {b : Nat}
theorem Sees.start (r : RegsOk h l) : Sees h l [] (regCells l) [] where
  nodup := List.nodup_nil
  yes := fun a m => by cases m
  wait := fun c m => by
    have mc := mem_regCells.mp m
    refine ⟨.inl ?_, (seen_ok r).root c mc⟩
    rcases r.2 _ mc with z | ⟨d, e, g⟩
    · cases z
    · cases e; exact g
  left := fun b m => by cases m
  root := fun c mc b mb => .inr (.inl ⟨c, mem_regCells.mpr mc, mb⟩)
  shut := fun a m => by cases m
theorem Sees.pop (x : Sees h l S (ws ++ [c]) []) : Sees h l S ws (leads h c) := by
  have mv : ∀ b, (b ∈ S ∨ (∃ d, d ∈ ws ++ [c] ∧ b ∈ leads h d) ∨ b ∈ ([] : List Nat)) → b ∈ S ∨ (∃ d, d ∈ ws ∧ b ∈ leads h d) ∨ b ∈ leads h c := by
    rintro b (m | ⟨d, md, mb⟩ | m)
    · exact .inl m
    · rcases List.mem_append.mp md with md | md
      · exact .inr (.inl ⟨d, md, mb⟩)
      · simp at md; subst md; exact .inr (.inr mb)
    · cases m
  exact ⟨x.nodup, x.yes, fun d m => x.wait d (List.mem_append_left _ m), (x.wait c (by simp)).2, fun d md b mb => mv b (x.root d md b mb), fun a ma b mb => mv b (x.shut a ma b mb)⟩
theorem Sees.skip (x : Sees h l S ws (b :: rest)) (m : b ∈ S) : Sees h l S ws rest := by
  have mv : ∀ a, (a ∈ S ∨ (∃ d, d ∈ ws ∧ a ∈ leads h d) ∨ a ∈ b :: rest) → a ∈ S ∨ (∃ d, d ∈ ws ∧ a ∈ leads h d) ∨ a ∈ rest := by
    rintro a (z | z | z)
    · exact .inl z
    · exact .inr (.inl z)
    · cases z with
      | head => exact .inl m
      | tail _ z => exact .inr (.inr z)
  exact ⟨x.nodup, x.yes, x.wait, fun a ma => x.left a (.tail _ ma), fun d md a ma => mv a (x.root d md a ma), fun d md a ma => mv a (x.shut d md a ma)⟩
theorem Sees.enter (r : RegsOk h l) (x : Sees h l S ws (b :: rest)) (m : b ∉ S) : b < h.size ∧ Sees h l (S ++ [b]) (ws ++ [cellAt h b]) rest := by
  have sb := x.left b (.head _)
  have ok := seen_place r sb
  have mv : ∀ a, (a ∈ S ∨ (∃ d, d ∈ ws ∧ a ∈ leads h d) ∨ a ∈ b :: rest) → a ∈ S ++ [b] ∨ (∃ d, d ∈ ws ++ [cellAt h b] ∧ a ∈ leads h d) ∨ a ∈ rest := by
    rintro a (z | ⟨d, md, z⟩ | z)
    · exact .inl (List.mem_append_left _ z)
    · exact .inr (.inl ⟨d, List.mem_append_left _ md, z⟩)
    · cases z with
      | head => exact .inl (by simp)
      | tail _ z => exact .inr (.inr z)
  refine ⟨ok.1, ?_, ?_, ?_, fun a ma => x.left a (.tail _ ma), fun d md a ma => mv a (x.root d md a ma), ?_⟩
  · rw [List.nodup_append]
    refine ⟨x.nodup, by simp, ?_⟩
    intro a ma c mc
    simp at mc
    subst mc
    intro e
    subst e
    exact m ma
  · intro a ma
    rcases List.mem_append.mp ma with ma | ma
    · exact x.yes a ma
    · simp at ma; subst ma; exact sb
  · intro d md
    rcases List.mem_append.mp md with md | md
    · exact x.wait d md
    · simp at md
      subst md
      refine ⟨?_, (seen_ok r).shut b sb⟩
      rcases ok.2 with g | ⟨s, k, e⟩
      · exact .inl (PlaceOk.good g)
      · exact .inr ⟨s, k, e, seen_head r sb s k e⟩
  · intro a ma d md
    rcases List.mem_append.mp ma with ma | ma
    · exact mv d (x.shut a ma d md)
    · simp at ma
      subst ma
      exact .inr (.inl ⟨_, by simp, md⟩)
theorem Sees.done (r : RegsOk h l) (x : Sees h l S [] []) (a : Nat) : a ∈ S ↔ isSeen (seen (h, l)) a = true := by
  refine ⟨x.yes a, fun e => ?_⟩
  have inS : ∀ b, (b ∈ S ∨ (∃ d, d ∈ ([] : List Cell) ∧ b ∈ leads h d) ∨ b ∈ ([] : List Nat)) → b ∈ S := by
    rintro b (z | ⟨d, z, _⟩ | z)
    · exact z
    · cases z
    · cases z
  obtain ⟨y, my, w⟩ := (seen_ok r).from_ a e
  have ys : y ∈ S := by
    unfold roots at my
    obtain ⟨v, mv, my⟩ := List.mem_flatMap.mp my
    cases v with
    | none => cases my
    | some v =>
      cases v with
      | cell c => exact inS y (x.root c mv y my)
      | level n => cases my
  clear e my
  induction w with
  | here a => exact ys
  | on a b c m w ih => exact ih (inS b (x.shut a ys b m))
end

/-! Views as the program has them. -/
abbrev Vw := List Nat × Nat
def vBound (vs : List Vw) (a j : Nat) : Bool := vs.any fun v => decide (j < v.2) && decide (a ∈ v.1)
def vFree (vs : List Vw) (a j : Nat) : Bool := vs.any fun v => !decide (j < v.2) && decide (a ∈ v.1)
def vKept (vs : List Vw) (a : Nat) : Bool := vs.any fun v => decide (a ∈ v.1)
def vwAt (m : M) (j : Nat) (v : Vw) : Prop := (j = m.choices.length ∧ v.2 = m.trail.length ∧ ∀ a, a ∈ v.1 ↔ isSeen (sight m).now a = true) ∨
  ∃ b, j < m.choices.length ∧ m.choices[m.choices.length - 1 - j]? = some b ∧ v.2 = b.trail ∧ ∀ a, a ∈ v.1 ↔ isSeen (seen (viewOf m (m.choices.length - 1 - j))) a = true
structure VwsOk (m : M) (vs : List Vw) : Prop where
  len : vs.length = m.choices.length + 1
  at_ : ∀ j v, vs[j]? = some v → vwAt m j v
section
variable {m : M} {vs : List Vw}
theorem VwsOk.all (x : VwsOk m vs) {v : Vw} (mv : v ∈ vs) : (v.2 = m.trail.length ∧ ∀ a, a ∈ v.1 ↔ isSeen (sight m).now a = true) ∨ ∃ i b, m.choices[i]? = some b ∧ v.2 = b.trail ∧ ∀ a, a ∈ v.1 ↔ isSeen (seen (viewOf m i)) a = true := by
  obtain ⟨j, e⟩ := List.mem_iff_getElem?.mp mv
  rcases x.at_ j v e with ⟨_, a, b⟩ | ⟨b, _, c, d, f⟩
  · exact .inl ⟨a, b⟩
  · exact .inr ⟨_, b, c, d, f⟩
theorem VwsOk.now (x : VwsOk m vs) : ∃ v, v ∈ vs ∧ v.2 = m.trail.length ∧ ∀ a, a ∈ v.1 ↔ isSeen (sight m).now a = true := by
  have l : m.choices.length < vs.length := by rw [x.len]; omega
  have e := List.getElem?_eq_getElem l
  rcases x.at_ _ _ e with ⟨_, a, b⟩ | ⟨b, c, _⟩
  · exact ⟨_, List.getElem_mem l, a, b⟩
  · omega
theorem VwsOk.ch (x : VwsOk m vs) {i : Nat} {b : Choice} (e : m.choices[i]? = some b) : ∃ v, v ∈ vs ∧ v.2 = b.trail ∧ ∀ a, a ∈ v.1 ↔ isSeen (seen (viewOf m i)) a = true := by
  have li : i < m.choices.length := by
    cases h : decide (i < m.choices.length) with
    | true => exact of_decide_eq_true h
    | false =>
      rw [List.getElem?_eq_none (by have := of_decide_eq_false h; omega)] at e
      cases e
  have l : m.choices.length - 1 - i < vs.length := by rw [x.len]; omega
  have e2 := List.getElem?_eq_getElem l
  rcases x.at_ _ _ e2 with ⟨z, _⟩ | ⟨b', _, c, d, f⟩
  · omega
  · have ei : m.choices.length - 1 - (m.choices.length - 1 - i) = i := by omega
    rw [ei] at c f
    rw [c] at e
    cases e
    exact ⟨_, List.getElem_mem l, d, f⟩
theorem vKept_eq (x : VwsOk m vs) (a : Nat) : vKept vs a = kept (sight m) a := by
  rw [Bool.eq_iff_iff, kept_iff]
  unfold vKept
  rw [List.any_eq_true]
  constructor
  · rintro ⟨v, mv, e⟩
    have e := of_decide_eq_true e
    rcases x.all mv with ⟨_, s⟩ | ⟨i, b, h, _, s⟩
    · exact .inl ((s a).mp e)
    · exact .inr ⟨i, b, h, (s a).mp e⟩
  · rintro (s | ⟨i, b, h, s⟩)
    · obtain ⟨v, mv, _, q⟩ := x.now
      exact ⟨v, mv, decide_eq_true ((q a).mpr s)⟩
    · obtain ⟨v, mv, _, q⟩ := x.ch h
      exact ⟨v, mv, decide_eq_true ((q a).mpr s)⟩
theorem vBound_eq (x : VwsOk m vs) {a j : Nat} (lj : j < m.trail.length) : vBound vs a j = seenBound m (sight m) a j := by
  rw [Bool.eq_iff_iff, bound_iff]
  unfold vBound
  rw [List.any_eq_true]
  constructor
  · rintro ⟨v, mv, e⟩
    rw [Bool.and_eq_true] at e
    have e1 := of_decide_eq_true e.1
    have e2 := of_decide_eq_true e.2
    rcases x.all mv with ⟨_, s⟩ | ⟨i, b, h, t, s⟩
    · exact .inl ((s a).mp e2)
    · exact .inr ⟨i, b, h, by rw [← t]; exact e1, (s a).mp e2⟩
  · rintro (s | ⟨i, b, h, l, s⟩)
    · obtain ⟨v, mv, t, q⟩ := x.now
      exact ⟨v, mv, by rw [Bool.and_eq_true]; exact ⟨decide_eq_true (by rw [t]; exact lj), decide_eq_true ((q a).mpr s)⟩⟩
    · obtain ⟨v, mv, t, q⟩ := x.ch h
      exact ⟨v, mv, by rw [Bool.and_eq_true]; exact ⟨decide_eq_true (by rw [t]; exact l), decide_eq_true ((q a).mpr s)⟩⟩
theorem vFree_eq (x : VwsOk m vs) {a j : Nat} (lj : j < m.trail.length) : vFree vs a j = seenFree m (sight m) a j := by
  rw [Bool.eq_iff_iff, free_iff]
  unfold vFree
  rw [List.any_eq_true]
  constructor
  · rintro ⟨v, mv, e⟩
    rw [Bool.and_eq_true, Bool.not_eq_true'] at e
    have e1 := of_decide_eq_false e.1
    have e2 := of_decide_eq_true e.2
    rcases x.all mv with ⟨t, s⟩ | ⟨i, b, h, t, s⟩
    · rw [t] at e1; exact absurd lj e1
    · exact ⟨i, b, h, by rw [← t]; omega, (s a).mp e2⟩
  · rintro ⟨i, b, h, l, s⟩
    obtain ⟨v, mv, t, q⟩ := x.ch h
    exact ⟨v, mv, by rw [Bool.and_eq_true, Bool.not_eq_true']; exact ⟨decide_eq_false (by rw [t]; omega), decide_eq_true ((q a).mpr s)⟩⟩
end

/-! Where kept cells lead. -/
def at1 : Cell → Option Nat
  | .ref a => some a
  | .str p => some p
  | _ => none
theorem good_at1 {h : Heap} {c : Cell} (g : Good h c) {b : Nat} (e : at1 c = some b) : b ∈ leads h c := by
  cases c with
  | ref a => cases e; simp [leads]
  | con s => cases e
  | head s k => cases e
  | str p =>
    cases e
    obtain ⟨s, k, eh, _⟩ := g.parts
    rw [leads_str eh, List.mem_map]
    exact ⟨0, List.mem_range.mpr (by omega), rfl⟩
theorem seen_to {h : Heap} {l : List (Option Value)} (r : RegsOk h l) {a b : Nat} (s : isSeen (seen (h, l)) a = true) (e : at1 (cellAt h a) = some b) : isSeen (seen (h, l)) b = true := by
  rcases (seen_place r s).2 with g | ⟨y, k, q⟩
  · exact (seen_ok r).shut a s b (good_at1 (PlaceOk.good g) e)
  · rw [q] at e; cases e
theorem regs_to {h : Heap} {l : List (Option Value)} (r : RegsOk h l) {c : Cell} (mc : some (.cell c) ∈ l) {b : Nat} (e : at1 c = some b) : isSeen (seen (h, l)) b = true := by
  refine (seen_ok r).root c mc b (good_at1 ?_ e)
  rcases r.2 _ mc with z | ⟨d, e, g⟩
  · cases z
  · cases e; exact g
section
variable {m : M} (I : Inv m)
include I
theorem kept_cell {a : Nat} (k : kept (sight m) a = true) : cellAt (reset m (sight m)) a = .ref a ∨
    ∃ h l, RegsOk h l ∧ isSeen (seen (h, l)) a = true ∧ cellAt (reset m (sight m)) a = cellAt h a ∧ ∀ b, isSeen (seen (h, l)) b = true → kept (sight m) b = true := by
  have lone : ∀ {j}, (a, j) ∈ oldest m → seenBound m (sight m) a j = true → cellAt (reset m (sight m)) a = cellAt m.heap a := fun {j} hj hb => by
    rw [reset_eq, resets_out]
    intro j' mj'
    rw [oldest_one I mj' hj]
    exact hb
  have byNow : isSeen (sight m).now a = true → ∃ h l, RegsOk h l ∧ isSeen (seen (h, l)) a = true ∧ cellAt (reset m (sight m)) a = cellAt h a ∧ ∀ b, isSeen (seen (h, l)) b = true → kept (sight m) b = true := fun s => by
    refine ⟨m.heap, m.regs, I.regs, s, ?_, fun b sb => kept_now sb⟩
    rw [reset_eq, resets_out _ _ _ (fun j _ => bound_iff.mpr (.inl s))]
  have byView : ∀ i c, m.choices[i]? = some c → isSeen (seen (viewOf m i)) a = true → a ∉ m.trail.take (m.trail.length - c.trail) → cellAt (reset m (sight m)) a = cellAt m.heap a →
      ∃ h l, RegsOk h l ∧ isSeen (seen (h, l)) a = true ∧ cellAt (reset m (sight m)) a = cellAt h a ∧ ∀ b, isSeen (seen (h, l)) b = true → kept (sight m) b = true := fun i c ec s nm er => by
    have ev : viewOf m i = (undone m i, c.regs) := by
      unfold viewOf
      rw [ec]
      rfl
    have lb : a < c.heap := by
      have := (view_ok I ec).lt s
      rw [undone_size I ec] at this
      exact this
    refine ⟨undone m i, c.regs, I.views i c ec, by rw [← ev]; exact s, by rw [er, undone_out ec lb nm], fun b sb => kept_view ec (by rw [ev]; exact sb)⟩
  rcases kept_iff.mp k with s | ⟨i, c, ec, s⟩
  · exact .inr (byNow s)
  · by_cases nw : a ∈ m.trail.take (m.trail.length - c.trail)
    · obtain ⟨j, lj, hj⟩ := mem_newer.mp nw
      cases sb : seenBound m (sight m) a j with
      | false =>
        rw [reset_eq, resets_in _ _ _ j (kept_lt I k) hj sb]
        exact .inl rfl
      | true =>
        rcases bound_iff.mp sb with s2 | ⟨i2, c2, ec2, l2, s2⟩
        · exact .inr (byNow s2)
        · refine .inr (byView i2 c2 ec2 s2 (fun z => ?_) (lone hj sb))
          obtain ⟨j2, lj2, hj2⟩ := mem_newer.mp z
          have := oldest_one I hj hj2
          omega
    · refine .inr (byView i c ec s nw ?_)
      by_cases on : ∃ j, (a, j) ∈ oldest m
      · obtain ⟨j, hj⟩ := on
        refine lone hj (bound_iff.mpr (.inr ⟨i, c, ec, ?_, s⟩))
        by_cases q : j < c.trail
        · exact q
        · exact absurd (mem_newer.mpr ⟨j, by omega, hj⟩) nw
      · rw [reset_eq, resets_out]
        intro j mj
        exact absurd ⟨j, mj⟩ on
theorem kept_to {a b : Nat} (k : kept (sight m) a = true) (e : at1 (cellAt (reset m (sight m)) a) = some b) : kept (sight m) b = true := by
  rcases kept_cell I k with z | ⟨h, l, r, s, z, up⟩
  · rw [z] at e
    cases e
    exact k
  · rw [z] at e
    exact up b (seen_to r s e)
theorem kept_head {a : Nat} (k : kept (sight m) a = true) : HeadOk (cellAt (reset m (sight m)) a) := by
  rcases kept_cell I k with z | ⟨h, l, r, s, z, up⟩
  · rw [z]
    intro s k e
    cases e
  · rw [z]
    exact seen_head r s
omit I in
theorem reset_undo {l : List Nat} (e : ∀ x, x ∈ l ↔ ∃ j, (x, j) ∈ oldest m ∧ seenBound m (sight m) x j = false) : undo l m.heap = reset m (sight m) := by
  apply heap_ext
  · rw [undo_size, reset_eq, resets_size]
  · intro a la
    rw [undo_size] at la
    by_cases ma : a ∈ l
    · obtain ⟨j, hj, hb⟩ := (e a).mp ma
      rw [undo_in _ _ _ ma la, reset_eq, resets_in _ _ _ j la hj hb]
    · rw [undo_out _ _ _ ma, reset_eq, resets_out]
      intro j hj
      cases hb : seenBound m (sight m) a j with
      | true => rfl
      | false => exact absurd ((e a).mpr ⟨j, hj, hb⟩) ma
end

/-! Lists in order. -/
theorem rising_eq : ∀ {l l' : List Nat}, l.Pairwise (· < ·) → l'.Pairwise (· < ·) → (∀ x, x ∈ l ↔ x ∈ l') → l = l'
  | [], [], _, _, _ => rfl
  | [], y :: l', _, _, e => by have := (e y).mpr (.head _); cases this
  | x :: l, [], _, _, e => by have := (e x).mp (.head _); cases this
  | x :: l, y :: l', s, s', e => by
    obtain ⟨s1, s2⟩ := List.pairwise_cons.mp s
    obtain ⟨t1, t2⟩ := List.pairwise_cons.mp s'
    have xy : x = y := by
      have h1 := (e x).mp (.head _)
      have h2 := (e y).mpr (.head _)
      cases h1 with
      | head => rfl
      | tail _ h1 =>
        cases h2 with
        | head => rfl
        | tail _ h2 =>
          have := t1 x h1
          have := s1 y h2
          omega
    subst xy
    rw [rising_eq s2 t2 fun z => ?_]
    constructor
    · intro mz
      have := (e z).mp (.tail _ mz)
      cases this with
      | head => have := s1 _ mz; omega
      | tail _ q => exact q
    · intro mz
      have := (e z).mpr (.tail _ mz)
      cases this with
      | head => have := t1 _ mz; omega
      | tail _ q => exact q
theorem range_rising {n : Nat} : (List.range n).Pairwise (· < ·) := List.pairwise_lt_range
theorem cnt_idx {kp : Nat → Bool} {n i a : Nat} (e : ((List.range n).filter kp)[i]? = some a) : cnt kp a = i ∧ kp a = true ∧ a < n := by
  have ma := List.mem_of_getElem? e
  obtain ⟨m1, m2⟩ := List.mem_filter.mp ma
  have la := List.mem_range.mp m1
  have e2 := cnt_at la m2
  refine ⟨?_, m2, la⟩
  have nd : ((List.range n).filter kp).Nodup := List.Nodup.sublist List.filter_sublist List.nodup_range
  have l1 : i < ((List.range n).filter kp).length := by
    rcases Nat.lt_or_ge i ((List.range n).filter kp).length with h | h
    · exact h
    · rw [List.getElem?_eq_none h] at e; cases e
  have l2 : cnt kp a < ((List.range n).filter kp).length := by
    rcases Nat.lt_or_ge (cnt kp a) ((List.range n).filter kp).length with h | h
    · exact h
    · rw [List.getElem?_eq_none h] at e2; cases e2
  rw [List.getElem?_eq_getElem l1] at e
  rw [List.getElem?_eq_getElem l2] at e2
  exact (List.getElem_inj nd).mp ((Option.some.inj e2).trans (Option.some.inj e).symm)
theorem filter_below {kp : Nat → Bool} {n x : Nat} (l : x ≤ n) : ((List.range n).filter kp).filter (fun a => decide (a < x)) = (List.range x).filter kp := by
  refine rising_eq ?_ ?_ fun a => ?_
  · exact (range_rising.filter _).filter _
  · exact range_rising.filter _
  · rw [List.mem_filter, List.mem_filter, List.mem_filter, List.mem_range, List.mem_range, decide_eq_true_iff]
    constructor
    · rintro ⟨⟨_, k⟩, b⟩; exact ⟨b, k⟩
    · rintro ⟨b, k⟩; exact ⟨⟨by omega, k⟩, b⟩

/-! The trail's numbers that stay. -/
def tr (m : M) (j : Nat) : Nat := m.trail.reverse.getD j 0
theorem tr_at {m : M} {j : Nat} (l : j < m.trail.length) : m.trail.reverse[j]? = some (tr m j) := by
  unfold tr
  rw [List.getD_eq_getElem?_getD, List.getElem?_eq_getElem (by rw [List.length_reverse]; exact l)]
  rfl
theorem oldest_range (m : M) : oldest m = (List.range m.trail.length).map fun j => (tr m j, j) := by
  apply List.ext_getElem?
  intro j
  unfold oldest
  rw [List.getElem?_zipIdx, List.getElem?_map]
  by_cases l : j < m.trail.length
  · rw [List.getElem?_range l, tr_at l]
    simp
  · rw [List.getElem?_eq_none (by simp; omega), List.getElem?_eq_none (by simp; omega)]
    rfl
theorem mem_old {m : M} {a j : Nat} : (a, j) ∈ oldest m ↔ j < m.trail.length ∧ a = tr m j := by
  rw [oldest_range, List.mem_map]
  constructor
  · rintro ⟨i, mi, e⟩
    cases e
    exact ⟨List.mem_range.mp mi, rfl⟩
  · rintro ⟨l, rfl⟩
    exact ⟨j, List.mem_range.mpr l, rfl⟩
def boundL (m : M) : List Nat := (List.range m.trail.length).filter fun j => seenBound m (sight m) (tr m j) j
def stayL (m : M) : List Nat := (boundL m).filter fun j => seenFree m (sight m) (tr m j) j
theorem stayed_list (m : M) : stayed m = (stayL m).map fun j => (tr m j, j) := by
  unfold stayed stayL boundL
  rw [oldest_range, List.filter_map, List.filter_filter]
  congr 1
  apply List.filter_congr
  intro j _
  show stays m (sight m) (tr m j, j) = _
  unfold stays
  rw [Bool.and_comm]
theorem swept_trail_list (m : M) : (swept m).trail.reverse = (stayL m).map fun j => (places m (sight m)).getD (tr m j) 0 := by
  rw [swept_trail, stayed_list, List.map_map]
  rfl
theorem moved_trail_list (m : M) (b : Choice) : (moved m b).trail = ((stayL m).filter fun j => decide (j < b.trail)).length := by
  show ((stayed m).filter _).length = _
  rw [stayed_list, List.filter_map, List.length_map]
  rfl
end Sw
namespace Sw
open Lg04 (Cell Heap M Value Choice cellAt look)
open Lg01 (Term)

/-! A term's tokens by a list of cells that wait. -/
def tokOf (h : Heap) : Cell → Tok
  | .ref a => .var a
  | .con s => .sym s 0
  | .str p => (match cellAt h p with
    | .head s k => .sym s k
    | _ => .sym 0 0)
  | .head _ _ => .sym 0 0
inductive Tms (h : Heap) : List Cell → List Term → Prop where
  | nil : Tms h [] []
  | cons {c : Cell} {t : Term} {cs : List Cell} {ts : List Term} : Tm h c t → Tms h cs ts → Tms h (c :: cs) (t :: ts)
theorem Tms.append {h : Heap} {cs ds : List Cell} {ts us : List Term} (x : Tms h cs ts) (y : Tms h ds us) : Tms h (cs ++ ds) (ts ++ us) := by
  induction x with
  | nil => exact y
  | cons a _ ih => exact .cons a ih
theorem Tms.reverse {h : Heap} {cs : List Cell} {ts : List Term} (x : Tms h cs ts) : Tms h cs.reverse ts.reverse := by
  induction x with
  | nil => exact .nil
  | cons a _ ih =>
    rw [List.reverse_cons, List.reverse_cons]
    exact ih.append (.cons a .nil)
theorem Tms.snoc {h : Heap} {cs : List Cell} {c : Cell} {ts : List Term} (x : Tms h (cs ++ [c]) ts) : ∃ ts' t, ts = ts' ++ [t] ∧ Tms h cs ts' ∧ Tm h c t := by
  induction cs generalizing ts with
  | nil =>
    cases x with
    | cons a r =>
      cases r
      exact ⟨[], _, rfl, .nil, a⟩
  | cons d cs ih =>
    cases x with
    | cons a r =>
      obtain ⟨ts', t, rfl, p, q⟩ := ih r
      exact ⟨_ :: ts', t, rfl, .cons a p, q⟩
theorem tms_ex {h : Heap} : ∀ (cs : List Cell), (∀ c, c ∈ cs → Good h c) → ∃ ts, Tms h cs ts
  | [], _ => ⟨[], .nil⟩
  | c :: cs, g => by
    obtain ⟨t, ht⟩ := tm_ex (g c (.head _))
    obtain ⟨ts, hts⟩ := tms_ex cs fun d m => g d (.tail _ m)
    exact ⟨t :: ts, .cons ht hts⟩
theorem Tms.of_at {h : Heap} : ∀ {cs : List Cell} {ts : List Term}, cs.length = ts.length → (∀ (i : Nat) (c : Cell) (t : Term), cs[i]? = some c → ts[i]? = some t → Tm h c t) → Tms h cs ts
  | [], [], _, _ => .nil
  | c :: cs, t :: ts, l, g => .cons (g 0 c t rfl rfl) (Tms.of_at (by simpa using l) fun i c t e1 e2 => g (i + 1) c t e1 e2)

/-- what has been told of a term, and what waits -/
structure Telling (h : Heap) (t : Term) (ps ws : List Cell) : Prop where
  us : ∃ us, Tms h ws us ∧ toks t = ps.map (tokOf h) ++ us.reverse.flatMap toks
  good : ∀ c, c ∈ ws → Good h c
  fin : ∀ c, c ∈ ps → Good h c ∧ Final h c
  few : ws.length ≤ 1 + 4 * ps.length
section
variable {h : Heap} {t : Term} {ps ws : List Cell} {c : Cell}
theorem Telling.start (g : Good h c) (x : Tm h c t) : Telling h t [] [c] where
  us := ⟨[t], .cons x .nil, by simp⟩
  good := fun d m => by simp at m; subst m; exact g
  fin := fun d m => by cases m
  few := by simp
theorem Telling.flat (x : Telling h t ps (ws ++ [c])) (n : ∀ p, look h c ≠ .str p) : Telling h t (ps ++ [look h c]) ws := by
  obtain ⟨us, tm, e⟩ := x.us
  obtain ⟨us', u, rfl, tm', tu⟩ := tm.snoc
  have gc := x.good c (by simp)
  have few := x.few
  rw [List.length_append, List.length_singleton] at few
  refine ⟨⟨us', tm', ?_⟩, fun d m => x.good d (List.mem_append_left _ m), fun d m => ?_, by rw [List.length_append, List.length_singleton]; omega⟩
  · rw [e, List.reverse_append, List.reverse_singleton, List.flatMap_append, List.map_append, List.append_assoc]
    congr 1
    rw [List.flatMap_singleton]
    congr 1
    cases tu with
    | var _ a q => rw [q]; rfl
    | con _ s q => rw [q]; rfl
    | str _ p s k ts q r l g => exact absurd q (n p)
  · rcases List.mem_append.mp m with m | m
    · exact x.fin d m
    · simp at m; subst m; exact look_good gc
theorem Telling.enter {p s k : Nat} (x : Telling h t ps (ws ++ [c])) (e1 : look h c = .str p) (e2 : cellAt h p = .head s k) : Telling h t (ps ++ [look h c]) (ws ++ (args h p k).reverse) := by
  obtain ⟨us, tm, e⟩ := x.us
  obtain ⟨us', u, rfl, tm', tu⟩ := tm.snoc
  have gc := x.good c (by simp)
  have gl := (look_good gc).1
  rw [e1] at gl
  obtain ⟨s', k', e3, l1, l4, lb, nf, ga⟩ := gl.parts
  rw [e2] at e3
  cases e3
  have few := x.few
  rw [List.length_append, List.length_singleton] at few
  have al : (args h p k).length = k := by unfold args; rw [List.length_map, List.length_range]
  cases tu with
  | var _ a q => rw [e1] at q; cases q
  | con _ s q => rw [e1] at q; cases q
  | str _ p2 s2 k2 ts q r l g =>
    rw [e1] at q
    cases q
    rw [e2] at r
    cases r
    have tms : Tms h (args h p k) ts := by
      refine Tms.of_at (by rw [al, l]) fun i c t ec et => ?_
      have li : i < k := by
        rcases Nat.lt_or_ge i k with z | z
        · exact z
        · rw [List.getElem?_eq_none (by omega)] at et; cases et
      have : c = cellAt h (p + 1 + i) := by
        unfold args at ec
        rw [List.getElem?_map, List.getElem?_range li] at ec
        exact (Option.some.inj ec).symm
      subst this
      exact (g i t et).of_look (look_next (ga i li) (nf i li))
    refine ⟨⟨us' ++ ts.reverse, tm'.append tms.reverse, ?_⟩, fun d m => ?_, fun d m => ?_, ?_⟩
    · rw [e, List.reverse_append, List.reverse_singleton, List.flatMap_append, List.map_append, List.append_assoc, List.reverse_append, List.reverse_reverse, List.flatMap_append]
      congr 1
      rw [List.flatMap_singleton, toks_str, e1, l]
      have : tokOf h (.str p) = .sym s k := by
        show (match cellAt h p with
          | .head s k => Tok.sym s k
          | _ => .sym 0 0) = _
        rw [e2]
      rw [List.map_singleton, this]
      rfl
    · rcases List.mem_append.mp m with m | m
      · exact x.good d (List.mem_append_left _ m)
      · obtain ⟨i, li, rfl⟩ := mem_args.mp (List.mem_reverse.mp m)
        exact ((ga i li).next (nf i li)).1
    · rcases List.mem_append.mp m with m | m
      · exact x.fin d m
      · simp at m; subst m; exact look_good gc
    · rw [List.length_append, List.length_append, List.length_reverse, List.length_singleton, al]
      omega
theorem Telling.done (x : Telling h t ps []) : toks t = ps.map (tokOf h) ∧ Lg01.size t = ps.length := by
  obtain ⟨us, tm, e⟩ := x.us
  cases tm
  have e : toks t = ps.map (tokOf h) := by simpa using e
  refine ⟨e, ?_⟩
  rw [← size_toks t 0]
  show (toks t).length = _
  rw [e, List.length_map]
theorem Telling.least (x : Telling h t ps ws) : ps.length ≤ Lg01.size t := by
  obtain ⟨us, tm, e⟩ := x.us
  rw [← size_toks t 0]
  show _ ≤ (toks t).length
  rw [e, List.length_append, List.length_map]
  omega
end
end Sw
namespace Sw
open Lg04 (M)
open Lg06Neutral (callOf asked1 start many)

abbrev Raw := List (List Int)
theorem whole_eq (c : Raw) : PyLg06.whole c = c := by
  unfold PyLg06.whole
  split <;> rfl
theorem wholes_eq (cs : List Raw) : cs.map PyLg06.whole = cs := by
  rw [List.map_congr_left (g := id) fun c _ => whole_eq c, List.map_id]

/-! The list of calls taken apart. -/
def wn : List Nat := [1, 2, 2, 2, 1, 2, 3, 0, 0, 1, 0, 0, 0, 0]
theorem shape_some {p : Int} {n k : Nat} (e : PyLg06.shape p = some (n, k)) : ∃ q : Nat, q < 14 ∧ p = (q : Int) ∧ wn[q]? = some n ∧ ((q = 2 ∨ q = 10) ∧ k = 1 ∨ ¬ (q = 2 ∨ q = 10) ∧ k = 0) := by
  unfold PyLg06.shape at e
  by_cases h0 : p = 0
  · rw [if_pos h0] at e; cases e; exact ⟨0, by decide, h0, rfl, .inr (by decide)⟩
  rw [if_neg h0] at e
  by_cases h1 : p = 1
  · rw [if_pos h1] at e; cases e; exact ⟨1, by decide, h1, rfl, .inr (by decide)⟩
  rw [if_neg h1] at e
  by_cases h2 : p = 2
  · rw [if_pos h2] at e; cases e; exact ⟨2, by decide, h2, rfl, .inl (by decide)⟩
  rw [if_neg h2] at e
  by_cases h3 : p = 3
  · rw [if_pos h3] at e; cases e; exact ⟨3, by decide, h3, rfl, .inr (by decide)⟩
  rw [if_neg h3] at e
  by_cases h4 : p = 4
  · rw [if_pos h4] at e; cases e; exact ⟨4, by decide, h4, rfl, .inr (by decide)⟩
  rw [if_neg h4] at e
  by_cases h5 : p = 5
  · rw [if_pos h5] at e; cases e; exact ⟨5, by decide, h5, rfl, .inr (by decide)⟩
  rw [if_neg h5] at e
  by_cases h6 : p = 6
  · rw [if_pos h6] at e; cases e; exact ⟨6, by decide, h6, rfl, .inr (by decide)⟩
  rw [if_neg h6] at e
  by_cases h7 : p = 7
  · rw [if_pos h7] at e; cases e; exact ⟨7, by decide, h7, rfl, .inr (by decide)⟩
  rw [if_neg h7] at e
  by_cases h8 : p = 8
  · rw [if_pos h8] at e; cases e; exact ⟨8, by decide, h8, rfl, .inr (by decide)⟩
  rw [if_neg h8] at e
  by_cases h9 : p = 9
  · rw [if_pos h9] at e; cases e; exact ⟨9, by decide, h9, rfl, .inr (by decide)⟩
  rw [if_neg h9] at e
  by_cases h10 : p = 10
  · rw [if_pos h10] at e; cases e; exact ⟨10, by decide, h10, rfl, .inl (by decide)⟩
  rw [if_neg h10] at e
  by_cases h11 : p = 11
  · rw [if_pos h11] at e; cases e; exact ⟨11, by decide, h11, rfl, .inr (by decide)⟩
  rw [if_neg h11] at e
  by_cases h12 : p = 12
  · rw [if_pos h12] at e; cases e; exact ⟨12, by decide, h12, rfl, .inr (by decide)⟩
  rw [if_neg h12] at e
  by_cases h13 : p = 13
  · rw [if_pos h13] at e; cases e; exact ⟨13, by decide, h13, rfl, .inr (by decide)⟩
  rw [if_neg h13] at e
  cases e

/-- a call's number, its numbers, its row -/
def pOf : Raw → Int
  | (p :: _) :: _ => p
  | _ => 0
def numsOf : Raw → List Int
  | (_ :: x) :: _ => x
  | _ => []
def rowOf : Raw → List Int
  | _ :: r :: _ => r
  | _ => []
/-- what stands of the list, and the calls that it is -/
def Left (l : List Int) (raw : List Raw) : Prop := ∃ f, PyFlat.calls PyLg06.shape f l = some raw
theorem Left.nil {raw : List Raw} (x : Left [] raw) : raw = [] := by
  obtain ⟨f, e⟩ := x
  cases f <;> (unfold PyFlat.calls at e; cases e; rfl)
theorem Left.cons {p : Int} {r : List Int} {raw : List Raw} (x : Left (p :: r) raw) : ∃ (q n : Nat) (c : Raw) (raw' : List Raw), q < 14 ∧ p = (q : Int) ∧ wn[q]? = some n ∧ n ≤ r.length ∧ raw = c :: raw' ∧ pOf c = p ∧ numsOf c = r.take n ∧
    ((¬ (q = 2 ∨ q = 10) ∧ rowOf c = [] ∧ Left (r.drop n) raw') ∨ ((q = 2 ∨ q = 10) ∧ ∃ (k : Nat) (s : List Int), r.drop n = (k : Int) :: s ∧ k ≤ s.length ∧ rowOf c = s.take k ∧ Left (s.drop k) raw')) := by
  obtain ⟨f, e⟩ := x
  cases f with
  | zero => unfold PyFlat.calls at e; cases e
  | succ f =>
    unfold PyFlat.calls at e
    unfold PyFlat.call at e
    dsimp only at e
    cases es : PyLg06.shape p with
    | none => rw [es] at e; cases e
    | some nk =>
      obtain ⟨n, k⟩ := nk
      rw [es] at e
      dsimp only at e
      obtain ⟨q, lq, ep, ew, hk⟩ := shape_some es
      by_cases ln : r.length < n
      · rw [if_pos ln] at e; cases e
      · rw [if_neg ln] at e
        rcases hk with ⟨hq, rfl⟩ | ⟨hq, rfl⟩
        · unfold PyFlat.rows at e
          cases ed : r.drop n with
          | nil => rw [ed] at e; unfold PyFlat.row at e; cases e
          | cons z s =>
            rw [ed] at e
            unfold PyFlat.row at e
            dsimp only at e
            by_cases hz : 0 ≤ z ∧ z.toNat ≤ s.length
            · rw [if_pos hz] at e
              dsimp only at e
              unfold PyFlat.rows at e
              dsimp only at e
              cases ec : PyFlat.calls PyLg06.shape f (s.drop z.toNat) with
              | none => rw [ec] at e; cases e
              | some raw' =>
                rw [ec] at e
                cases e
                exact ⟨q, n, _, raw', lq, ep, ew, by omega, rfl, rfl, rfl, .inr ⟨hq, z.toNat, s, by rw [Int.toNat_of_nonneg hz.1]; exact ed, hz.2, rfl, f, ec⟩⟩
            · rw [if_neg hz] at e
              cases e
        · unfold PyFlat.rows at e
          dsimp only at e
          cases ec : PyFlat.calls PyLg06.shape f (r.drop n) with
          | none => rw [ec] at e; cases e
          | some raw' =>
            rw [ec] at e
            cases e
            exact ⟨q, n, _, raw', lq, ep, ew, by omega, rfl, rfl, rfl, .inl ⟨hq, rfl, f, ec⟩⟩

/-! A call that is asked. -/
def casts (l : List Nat) : List Int := l.map fun (n : Nat) => (n : Int)
theorem number_nat {z : Int} (h : Lg06Neutral.number z = true) : ∃ n : Nat, z = (n : Int) := by
  unfold Lg06Neutral.number at h
  rw [Bool.and_eq_true] at h
  have := of_decide_eq_true h.1
  exact ⟨z.toNat, (Int.toNat_of_nonneg this).symm⟩
theorem numbers_nats : ∀ {l : List Int}, l.all Lg06Neutral.number = true → ∃ ns : List Nat, l = casts ns
  | [], _ => ⟨[], rfl⟩
  | z :: l, h => by
    rw [List.all_cons, Bool.and_eq_true] at h
    obtain ⟨n, rfl⟩ := number_nat h.1
    obtain ⟨ns, rfl⟩ := numbers_nats h.2
    exact ⟨n :: ns, rfl⟩
theorem nats_casts (l : List Nat) : Lg06Neutral.nats (casts l) = l := by
  unfold Lg06Neutral.nats casts
  rw [List.map_map]
  have : (Int.toNat ∘ fun (n : Nat) => (n : Int)) = id := by funext n; rfl
  rw [this, List.map_id]
inductive Ask : Raw → Lg06.Call → Prop where
  | new_ (r : Nat) : Ask [[0, (r : Int)]] (.new_ r)
  | con (r s : Nat) : Ask [[1, (r : Int), (s : Int)]] (.con r s)
  | str (r s : Nat) (l : List Nat) : l.length ≤ 30 → Ask [[2, (r : Int), (s : Int)], casts l] (.str r s l)
  | copy (r q : Nat) : Ask [[3, (r : Int), (q : Int)]] (.copy r q)
  | clear (r : Nat) : Ask [[4, (r : Int)]] (.clear r)
  | same (r q : Nat) : Ask [[5, (r : Int), (q : Int)]] (.same r q)
  | arg (r i q : Nat) : Ask [[6, (r : Int), (i : Int), (q : Int)]] (.arg r i q)
  | choice : Ask [[7]] .choice
  | back : Ask [[8]] .back
  | cut (k : Nat) : Ask [[9, (k : Int)]] (.cut k)
  | value (l : List Nat) : l.length ≤ 30 → Ask [[10], casts l] (.value l)
  | look : Ask [[11]] .look
  | sweep : Ask [[12]] .sweep
  | heap : Ask [[13]] .heap
theorem ask_of {c : Raw} (h : asked1 c = true) : ∃ x, callOf c = some x ∧ Ask c x := by
  unfold asked1 at h
  rw [Bool.and_eq_true] at h
  obtain ⟨h1, h2⟩ := h
  have g : ∀ l, l ∈ c → l.length ≤ 30 ∧ ∃ ns, l = casts ns := fun l ml => by
    have := List.all_eq_true.mp h2 l ml
    rw [Bool.and_eq_true] at this
    exact ⟨of_decide_eq_true this.1, numbers_nats this.2⟩
  unfold callOf at h1 ⊢
  split at h1
  · obtain ⟨_, ns, e⟩ := g _ (.head _)
    match ns, e with
    | [_, r], e => cases e; exact ⟨_, rfl, .new_ r⟩
  · obtain ⟨_, ns, e⟩ := g _ (.head _)
    match ns, e with
    | [_, r, s], e => cases e; exact ⟨_, rfl, .con r s⟩
  · obtain ⟨_, ns, e⟩ := g _ (.head _)
    obtain ⟨l30, ms, e2⟩ := g _ (.tail _ (.head _))
    match ns, e with
    | [_, r, s], e =>
      cases e
      subst e2
      refine ⟨_, rfl, ?_⟩
      rw [nats_casts]
      exact .str r s ms (by simpa [casts] using l30)
  · obtain ⟨_, ns, e⟩ := g _ (.head _)
    match ns, e with
    | [_, r, s], e => cases e; exact ⟨_, rfl, .copy r s⟩
  · obtain ⟨_, ns, e⟩ := g _ (.head _)
    match ns, e with
    | [_, r], e => cases e; exact ⟨_, rfl, .clear r⟩
  · obtain ⟨_, ns, e⟩ := g _ (.head _)
    match ns, e with
    | [_, r, s], e => cases e; exact ⟨_, rfl, .same r s⟩
  · obtain ⟨_, ns, e⟩ := g _ (.head _)
    match ns, e with
    | [_, r, i, s], e => cases e; exact ⟨_, rfl, .arg r i s⟩
  · exact ⟨_, rfl, .choice⟩
  · exact ⟨_, rfl, .back⟩
  · obtain ⟨_, ns, e⟩ := g _ (.head _)
    match ns, e with
    | [_, r], e => cases e; exact ⟨_, rfl, .cut r⟩
  · obtain ⟨l30, ms, e2⟩ := g _ (.tail _ (.head _))
    subst e2
    refine ⟨_, rfl, ?_⟩
    rw [nats_casts]
    exact .value ms (by simpa [casts] using l30)
  · exact ⟨_, rfl, .look⟩
  · exact ⟨_, rfl, .sweep⟩
  · exact ⟨_, rfl, .heap⟩
  · cases h1

/-! Calls one behind another. -/
def after (s : M) (cs : List Raw) : M := cs.foldl (fun s c => (Lg06Neutral.step s c).1) s
theorem after_snoc (s : M) (cs : List Raw) (c : Raw) : after s (cs ++ [c]) = (Lg06Neutral.step (after s cs) c).1 := by
  unfold after
  rw [List.foldl_append]
  rfl
theorem played_snoc : ∀ (cs : List Raw) (s : M) (c : Raw), PyFlat.played Lg06Neutral.step s (cs ++ [c]) = PyFlat.played Lg06Neutral.step s cs ++ [(Lg06Neutral.step (after s cs) c).2]
  | [], s, c => rfl
  | d :: cs, s, c => by
    show _ :: PyFlat.played Lg06Neutral.step _ (cs ++ [c]) = _
    rw [played_snoc cs]
    rfl
theorem told_snoc (l : List (List Int)) (a : List Int) : PyFlat.told (l ++ [a]) = PyFlat.told l ++ (a.length : Int) :: a := by
  unfold PyFlat.told
  rw [List.flatMap_append]
  simp
theorem told_len : ∀ (cs : List Raw) (s : M), (PyFlat.told (PyFlat.played Lg06Neutral.step s cs)).length = cs.length + many s cs
  | [], s => rfl
  | c :: cs, s => by
    show (PyFlat.told ((Lg06Neutral.step s c).2 :: PyFlat.played Lg06Neutral.step (Lg06Neutral.step s c).1 cs)).length = _
    unfold PyFlat.told
    rw [List.flatMap_cons, List.length_append]
    have := told_len cs (Lg06Neutral.step s c).1
    unfold PyFlat.told at this
    rw [this, List.length_cons, List.length_cons]
    show _ = cs.length + 1 + ((Lg06Neutral.step s c).2.length + many (Lg06Neutral.step s c).1 cs)
    omega
theorem many_app : ∀ (cs ds : List Raw) (s : M), many s cs ≤ many s (cs ++ ds)
  | [], ds, s => Nat.zero_le _
  | c :: cs, ds, s => by
    show (Lg06Neutral.step s c).2.length + many (Lg06Neutral.step s c).1 cs ≤ (Lg06Neutral.step s c).2.length + many (Lg06Neutral.step s c).1 (cs ++ ds)
    have := many_app cs ds (Lg06Neutral.step s c).1
    omega
theorem step_call {s : M} {c : Raw} {x : Lg06.Call} (e : callOf c = some x) : Lg06Neutral.step s c = Lg06.step s x := by
  unfold Lg06Neutral.step
  rw [e]
structure Due (l : List Int) (raw : List Raw) : Prop where
  left : Left l raw
  many : many start raw ≤ 1000000
  few : raw.length ≤ 100
  ask : ∀ c, c ∈ raw → ∃ x, callOf c = some x ∧ Ask c x
  ans : PyLg06.answers l = PyFlat.told (PyFlat.played Lg06Neutral.step start raw)
theorem due_of {l : List Int} (h : PyLg06.answers_asked l = true) : ∃ raw, Due l raw := by
  unfold PyLg06.answers_asked at h
  cases e : PyFlat.calls PyLg06.shape l.length l with
  | none => rw [e] at h; cases h
  | some raw =>
    rw [e] at h
    dsimp only at h
    rw [Bool.and_eq_true, Bool.and_eq_true, wholes_eq] at h
    have a := h.1.2
    unfold Lg06Neutral.asked at a
    rw [Bool.and_eq_true, Bool.and_eq_true, Bool.and_eq_true] at a
    refine ⟨raw, ⟨_, e⟩, of_decide_eq_true a.2.2.2, of_decide_eq_true a.2.1, fun c mc => ask_of (List.all_eq_true.mp a.2.2.1 c mc), ?_⟩
    unfold PyLg06.answers PyLg06.calls
    rw [e]
    dsimp only
    rw [wholes_eq]
end Sw
namespace Sw
open PySem PySem.Spec PyProof.Rows L2
open PySem.W (Codec)
open Lg04 (Cell cellAt look)

def top (i : Nat) : Stmt := PySem.Challenge.pw_sweptheapdesk_s01_answers.main.body.getD i (.Pass ⟨0, 0, 0, 0⟩)

/-! Cells as Python has them. -/
def n1 : Cell → Int
  | .ref _ => 0
  | .con _ => 1
  | .str _ => 2
  | .head _ k => 2 + k
def n2 : Cell → Int
  | .ref a => a
  | .con s => s
  | .str a => a
  | .head s _ => s
def enc (c : Cell) : List V := [.int (n1 c), .int (n2 c)]
/-- the tuple at t is the cell c -/
def CellIs (H : Hp) (t : Addr) (c : Cell) : Prop := H t = some (.tup (enc c))
/-- the tuples at ts are the cells cs -/
inductive Cells (H : Hp) : List Addr → List Cell → Prop where
  | nil : Cells H [] []
  | cons {t : Addr} {c : Cell} {ts : List Addr} {cs : List Cell} : CellIs H t c → Cells H ts cs → Cells H (t :: ts) (c :: cs)
theorem Cells.length {H : Hp} {ts : List Addr} {cs : List Cell} (x : Cells H ts cs) : ts.length = cs.length := by
  induction x with
  | nil => rfl
  | cons _ _ ih => rw [List.length_cons, List.length_cons, ih]
theorem Cells.get {H : Hp} {ts : List Addr} {cs : List Cell} (x : Cells H ts cs) : ∀ {i : Nat} {c : Cell}, cs[i]? = some c → ∃ t, ts[i]? = some t ∧ CellIs H t c := by
  induction x with
  | nil => intro i c e; simp at e
  | cons h _ ih =>
    intro i c e
    match i, e with
    | 0, e =>
      cases (Option.some.inj e)
      exact ⟨_, rfl, h⟩
    | i + 1, e => exact ih e
theorem Cells.append {H : Hp} {ts us : List Addr} {cs ds : List Cell} (x : Cells H ts cs) (y : Cells H us ds) : Cells H (ts ++ us) (cs ++ ds) := by
  induction x with
  | nil => exact y
  | cons h _ ih => exact .cons h ih
theorem Cells.drop {H : Hp} {ts : List Addr} {cs : List Cell} (x : Cells H ts cs) : ∀ (n : Nat), Cells H (ts.drop n) (cs.drop n) := by
  induction x with
  | nil => intro n; rw [List.drop_nil, List.drop_nil]; exact .nil
  | cons h t ih =>
    intro n
    match n with
    | 0 => exact .cons h t
    | n + 1 => exact ih n
theorem Cells.take {H : Hp} {ts : List Addr} {cs : List Cell} (x : Cells H ts cs) : ∀ (n : Nat), Cells H (ts.take n) (cs.take n) := by
  induction x with
  | nil => intro n; rw [List.take_nil, List.take_nil]; exact .nil
  | cons h t ih =>
    intro n
    match n with
    | 0 => exact .nil
    | n + 1 => exact .cons h (ih n)
theorem Cells.set {H : Hp} {ts : List Addr} {cs : List Cell} (x : Cells H ts cs) {t : Addr} {c : Cell} (h : CellIs H t c) : ∀ (n : Nat), Cells H (ts.set n t) (cs.set n c) := by
  induction x with
  | nil => intro n; exact .nil
  | cons h' r ih =>
    intro n
    match n with
    | 0 => exact .cons h r
    | n + 1 => exact .cons h' (ih n)
/-- the tuples stay -/
def Tups (H H' : Hp) : Prop := ∀ t xs, H t = some (.tup xs) → H' t = some (.tup xs)
theorem Tups.refl (H : Hp) : Tups H H := fun _ _ e => e
theorem Tups.trans {H H1 H2 : Hp} (x : Tups H H1) (y : Tups H1 H2) : Tups H H2 := fun t xs e => y t xs (x t xs e)
theorem Tups.of_same {H H' : Hp} (x : Same H H') : Tups H H' := fun t xs e => x t _ e
theorem Tups.new {H : Hp} {p : Addr} {o : HO} (n : H p = none) : Tups H (upd H p o) := fun t xs e => by rw [upd_ne (ne_of_none e n)]; exact e
theorem Tups.lst {H : Hp} {p : Addr} {o : HO} {ys : List V} (n : H p = some (.lst ys)) : Tups H (upd H p o) := fun t xs e => by rw [upd_ne (ne_of e n (fun z => nomatch z))]; exact e
theorem Tups.dict {H : Hp} {p : Addr} {o : HO} {ys : List (Key × V)} (n : H p = some (.dK ys)) : Tups H (upd H p o) := fun t xs e => by rw [upd_ne (ne_of e n (fun z => nomatch z))]; exact e
theorem Tups.ext {H : Hp} {p : Addr} {o : HO} {q : PySem.Heap → Prop} (n : H p = some (.ext q)) : Tups H (upd H p o) := fun t xs e => by rw [upd_ne (ne_of e n (fun z => nomatch z))]; exact e
theorem Tups.ins {H : Hp} {p C dx : Addr} {o : HO} {fs : List (Str × V)} (n : H p = some (.ins C dx fs)) : Tups H (upd H p o) := fun t xs e => by rw [upd_ne (ne_of e n (fun z => nomatch z))]; exact e
theorem CellIs.keep {H H' : Hp} {t : Addr} {c : Cell} (x : CellIs H t c) (k : Tups H H') : CellIs H' t c := k _ _ x
theorem Cells.keep {H H' : Hp} {ts : List Addr} {cs : List Cell} (x : Cells H ts cs) (k : Tups H H') : Cells H' ts cs := by
  induction x with
  | nil => exact .nil
  | cons h _ ih => exact .cons (h.keep k) ih
/-- a new object leaves what stood there -/
theorem same_new {H : Hp} {p : Addr} {o : HO} (n : H p = none) : Same H (upd H p o) := fun b u e => by rw [upd_ne (ne_of_none e n)]; exact e

/-- the list at l is the heap h -/
def HeapIs (H : Hp) (l : Addr) (h : Lg04.Heap) : Prop := ∃ ts : List Addr, H l = some (.lst (ts.map V.ref)) ∧ Cells H ts h.toList
theorem HeapIs.same {H H' : Hp} {l : Addr} {h : Lg04.Heap} (x : HeapIs H l h) (s : Same H H') : HeapIs H' l h := by
  obtain ⟨ts, e, c⟩ := x
  exact ⟨ts, s _ _ e, c.keep (.of_same s)⟩
theorem toList_at {h : Lg04.Heap} {a : Nat} (la : a < h.size) : h.toList[a]? = some (cellAt h a) := by
  rw [cellAt_lt la, Array.getElem?_toList, Array.getElem?_eq_getElem la]
theorem HeapIs.item {H : Hp} {l : Addr} {h : Lg04.Heap} (x : HeapIs H l h) {a : Nat} (la : a < h.size) : ∃ (vs : List V) (t : Addr), H l = some (.lst vs) ∧ atI vs (a : Int) = some (.ref t) ∧ CellIs H t (cellAt h a) := by
  obtain ⟨ts, e, c⟩ := x
  obtain ⟨t, et, ct⟩ := c.get (toList_at la)
  exact ⟨_, t, e, atI_nat (by rw [List.getElem?_map, et]; rfl), ct⟩

/-- the data that a cell is -/
def dat (c : Cell) : PyData := .tuple [.int (n1 c), .int (n2 c)]
theorem CellIs.dp {K : PySem.W.Frag} {H : Hp} {t : Addr} {c : Cell} (x : CellIs H t c) : Dp K H (.ref t) (dat c) := .tup (SqT.of x) (.cons (.int _) (.cons (.int _) .nil))
theorem dat_shaped (c : Cell) : SeqAt.shaped (dat c) = true := by
  unfold SeqAt.shaped dat
  rfl
theorem dat_eqv (c d : Cell) : PyData.eqv (dat c) (dat d) = (n1 c == n1 d && n2 c == n2 d) := by
  unfold dat
  simp [PyData.eqv, PyData.eqvAll]

theorem enc0 {c : Cell} : atI (enc c) 0 = some (.int (n1 c)) := rfl
theorem enc1 {c : Cell} : atI (enc c) 1 = some (.int (n2 c)) := rfl
theorem of_n1_zero {c : Cell} (h : n1 c = 0) : ∃ a, c = .ref a := by
  cases c with
  | ref a => exact ⟨a, rfl⟩
  | con s => cases h
  | str s => cases h
  | head s k =>
    have : (2 : Int) + (k : Int) = 0 := h
    omega
theorem look_other {h : Lg04.Heap} {c : Cell} (n : ¬ n1 c = 0) : look h c = c := through_other (fun a e => n (by rw [e]; rfl)) _
def steps : Cell → Nat
  | .ref a => a + 1
  | _ => 0

theorem ifT {b : Bool} {A B : Prop} (e : b = true) (h : A) : if b = true then A else B := by rw [if_pos e]; exact h
theorem ifF {b : Bool} {A B : Prop} (e : b = false) (h : B) : if b = true then A else B := by rw [if_neg (by rw [e]; decide)]; exact h
theorem decT {i j : Int} (e : i = j) : decide (V.int i = V.int j) = true := by rw [e]; exact decide_eq_true rfl
theorem decF {i j : Int} (e : ¬ i = j) : decide (V.int i = V.int j) = false := decide_eq_false fun z => e (V.int.inj z)

structure Txt (K : PySem.W.Frag) (mg : Str → Option Value) : Prop where
  place : ∃ t, mg "PLACE" = some (.int 0 t)
  con : ∃ t, mg "CONSTANT" = some (.int 1 t)
  str : ∃ t, mg "STRUCTURE" = some (.int 2 t)

section
variable {P : Program} {w : World} {K : PySem.W.Frag} {mg : Str → Option Value} {base : PySem.Heap}

abbrev sLook : Stmt := top 4
theorem scLook : FnScope ["heap", "cell"] ["heap", "cell"] (defScope sLook) := ⟨rfl, rfl, rfl, by decide +kernel, rfl, by decide +kernel, by decide +kernel⟩
def spLook : Sp := fun vs H Q _ => ∃ (l t : Addr) (h : Lg04.Heap) (c : Cell), vs = [.ref l, .ref t] ∧ HeapIs H l h ∧ CellIs H t c ∧ Good h c ∧ ∀ t', CellIs H t' (look h c) → Q (.ref t') H

theorem ok_look {f : Addr} {fd : FuncData} (F : Fun K "looked_through" "looked_through" sLook f fd) (T : Txt K mg) : FnOk P w K mg base CX0 1 f fd ["heap", "cell"] spLook := by
  refine F.ok scLook (fun vs H Q E h => ?_) (fun cdv A outer s H vs Q E hr h => ?_)
  · obtain ⟨l, t, h, c, rfl, _⟩ := h
    rfl
  · obtain ⟨l, t, h, c, rfl, hh, hc, g, k⟩ := h
    obtain ⟨tp, mgp⟩ := T.place
    refine ⟨_, pss_cons (ps_while PassesOwn.never (PW.pt (pw_and (pt_cmpR op_eq (pe_ix ix_tup (pv 1) pe_int (fun _ _ => rfl)) (pe_glob (v := .int 0) rfl mgp ⟨_, rfl⟩) (nomark _)) (pw_and1 (pt_cmpR (op_neD hr.units) (pe_ix ix_list (pv 0) (pe_ix ix_tup (pv 1) pe_int (fun _ _ => rfl)) (fun _ _ => rfl)) (pv 1) (nomark _)))))
        (pss_one (ps_set (i := 1) scLook.nd rfl (Or.inl rfl) (pe_ix ix_list (pv 0) (pe_ix ix_tup (pv 1) pe_int (fun _ _ => rfl)) (fun _ _ => rfl)))))
      (pss_one (ps_ret (pv 1))), ?_⟩
    refine ⟨fun m σ H' => H' = H ∧ ∃ t' c', σ = [some (.ref l), some (.ref t')] ∧ CellIs H t' c' ∧ Good h c' ∧ look h c' = look h c ∧ m = steps c', ⟨_, rfl, t, c, rfl, hc, g, rfl, rfl⟩, ?_⟩
    rintro m σ H' ⟨rfl, t', c', rfl, hc', g', e', rfl⟩
    refine ⟨_, rfl, t', _, _, _, rfl, rfl, SqT.of hc', enc0, rfl, _, rfl, ?_⟩
    by_cases q : n1 c' = 0
    · refine ifT (decT q) ?_
      obtain ⟨a, rfl⟩ := of_n1_zero q
      obtain ⟨vs, u, hv, hat, hu⟩ := hh.item g'.lt
      refine ⟨_, rfl, _, rfl, t', _, _, _, rfl, rfl, SqT.of hc', enc1, l, vs, _, _, rfl, rfl, SqL.of hv, hat, _, rfl, _, _, hu.dp, hc'.dp, dat_shaped _, dat_shaped _, _, rfl, ?_⟩
      by_cases e : cellAt h a = .ref a
      · refine ifF (by rw [dat_eqv, e]; simp) ?_
        refine ⟨_, rfl, k t' ?_⟩
        rw [← e', look_free e]
        exact hc'
      · have ne : (!(n1 (cellAt h a) == n1 (Cell.ref a) && n2 (cellAt h a) == n2 (Cell.ref a))) = true := by
          rw [Bool.not_eq_true', Bool.and_eq_false_iff]
          by_cases z : n1 (cellAt h a) = 0
          · right
            obtain ⟨b, eb⟩ := of_n1_zero z
            rw [eb] at e ⊢
            show ((b : Int) == (a : Int)) = false
            rw [beq_eq_false_iff_ne]
            intro y
            exact e (by rw [Int.ofNat.inj y])
          · left
            rw [beq_eq_false_iff_ne]
            exact z
        refine ifT (by rw [dat_eqv]; exact ne) ?_
        refine ⟨fun σ' H'' => ∃ m', m' < steps (.ref a) ∧ H'' = H' ∧ ∃ t2 c2, σ' = [some (.ref l), some (.ref t2)] ∧ CellIs H' t2 c2 ∧ Good h c2 ∧ look h c2 = look h c ∧ m' = steps c2, fun _ _ z => z, ?_⟩
        refine ⟨_, rfl, _, rfl, t', _, _, _, rfl, rfl, SqT.of hc', enc1, l, vs, _, _, rfl, rfl, SqL.of hv, hat, ?_⟩
        obtain ⟨gn, lt⟩ := g'.next e
        refine ⟨_, ?_, rfl, u, _, rfl, hu, gn, by rw [← look_next g' e]; exact e', rfl⟩
        cases e2 : cellAt h a with
        | ref b =>
          have := lt b e2
          show b + 1 < a + 1
          omega
        | con s => exact Nat.succ_pos _
        | str s => exact Nat.succ_pos _
        | head s j => exact Nat.succ_pos _
    · refine ifF (decF q) (iteF ?_)
      refine ⟨_, rfl, k t' ?_⟩
      have f : look h c' = c' := look_other q
      rw [← e', f]
      exact hc'
end
end Sw
namespace Sw
open PySem PySem.Spec PyProof.Rows L2
open Lg04 (Cell cellAt look within)

/-- a def of the file's top -/
structure Dn (K : PySem.W.Frag) (mg : Str → Option Value) (x : Str) (st : Stmt) (ps : List Str) (f : Addr) (fd : FuncData) : Prop where
  F : Fun K x x st f fd
  m : mg x = some (.ref f)
  b : Binds K fd ps []

section
variable {P : Program} {w : World} {K : PySem.W.Frag} {mg : Str → Option Value} {base : PySem.Heap}

abbrev sCount : Stmt := top 5
theorem scCount : FnScope ["heap", "head_place"] ["heap", "head_place"] (defScope sCount) := ⟨rfl, rfl, rfl, by decide +kernel, rfl, by decide +kernel, by decide +kernel⟩
def spCount : Sp := fun vs H Q _ => ∃ (l : Addr) (p s k : Nat) (h : Lg04.Heap), vs = [.ref l, .int p] ∧ HeapIs H l h ∧ p < h.size ∧ cellAt h p = .head s k ∧ Q (.int k) H
theorem ok_count {f : Addr} {fd : FuncData} (D : Dn K mg "argument_count" sCount ["heap", "head_place"] f fd) (T : Txt K mg) : FnOk P w K mg base CX0 1 f fd ["heap", "head_place"] spCount := by
  refine D.F.ok scCount (fun vs H Q E h => ?_) (fun cdv A outer s H vs Q E hr h => ?_)
  · obtain ⟨l, p, s, k, h, rfl, _⟩ := h
    rfl
  · obtain ⟨l, p, sy, k, h, rfl, hh, lp, e, q⟩ := h
    obtain ⟨ts, mgs⟩ := T.str
    refine ⟨_, pss_one (ps_ret (pe_op op_sub (pe_ix ix_tup (pe_ix ix_list (pv 0) (pv 1) (fun _ _ => rfl)) pe_int (fun _ _ => rfl)) (pe_glob (v := .int 2) rfl mgs ⟨_, rfl⟩))), ?_⟩
    obtain ⟨ws, t, hv, hat, ht⟩ := hh.item lp
    refine ⟨_, rfl, _, rfl, l, ws, _, _, rfl, rfl, SqL.of hv, hat, t, _, _, _, rfl, rfl, SqT.of ht, enc0, _, _, rfl, rfl, ?_⟩
    rw [e]
    have e2 : n1 (Cell.head sy k) - 2 = (k : Int) := by show (2 : Int) + (k : Int) - 2 = (k : Int); omega
    show Q (.int (n1 (Cell.head sy k) - 2)) H
    rw [e2]
    exact q

abbrev sCells : Stmt := top 6
theorem scCells : FnScope ["heap", "head_place", "first"] ["heap", "head_place"] (defScope sCells) := ⟨rfl, rfl, rfl, by decide +kernel, rfl, by decide +kernel, by decide +kernel⟩
def spCells : Sp := fun vs H Q _ => ∃ (l : Addr) (p s k : Nat) (h : Lg04.Heap), vs = [.ref l, .int p] ∧ HeapIs H l h ∧ p + k < h.size ∧ cellAt h p = .head s k ∧
  ∀ q ts, H q = none → Cells H ts (args h p k) → Q (.ref q) (upd H q (.lst (ts.map V.ref)))
theorem args_cut {h : Lg04.Heap} {p k : Nat} (l : p + k < h.size) : (h.toList.drop (p + 1)).take k = args h p k := by
  apply List.ext_getElem?
  intro i
  unfold args
  rw [List.getElem?_take, List.getElem?_map]
  by_cases q : i < k
  · rw [if_pos q, List.getElem?_drop, toList_at (by omega), List.getElem?_range q]
    rfl
  · rw [if_neg q, List.getElem?_eq_none (by simp; omega)]
    rfl
theorem ok_cells {f fC : Addr} {fd fdC : FuncData} (D : Dn K mg "argument_cells" sCells ["heap", "head_place"] f fd) (DC : Dn K mg "argument_count" sCount ["heap", "head_place"] fC fdC) (T : Txt K mg) : FnOk P w K mg base CX0 2 f fd ["heap", "head_place"] spCells := by
  have GC : FnOk P w K mg base CX0 1 fC fdC ["heap", "head_place"] spCount := ok_count DC T
  refine D.F.ok scCells (fun vs H Q E h => ?_) (fun cdv A outer s H vs Q E hr h => ?_)
  · obtain ⟨l, p, s, k, h, rfl, _⟩ := h
    rfl
  · obtain ⟨l, p, sy, k, h, rfl, hh, lp, e, q⟩ := h
    refine ⟨_, pss_cons (ps_set (i := 2) scCells.nd rfl (Or.inl rfl) (pe_op op_add (pv 1) pe_int))
      (pss_one (ps_ret (pe_slice sl_list (pv 0) (po_some (pv 2)) (po_some (pe_op op_add (pv 2) (pe_call GC hr rfl DC.m DC.F.kp DC.b .nil pass0 (pa_cons (pv 0) (pa_cons (pv 1) pa_nil)))))))), ?_⟩
    refine ⟨_, rfl, _, _, rfl, rfl, ?_⟩
    refine ⟨_, rfl, _, rfl, _, rfl, _, rfl, _, rfl, _, rfl, l, p, sy, k, h, rfl, hh, by omega, e, _, _, rfl, rfl, _, rfl, ?_⟩
    obtain ⟨ts, hv, hc⟩ := hh
    refine ⟨l, _, rfl, SqL.of hv, fun r hr0 => ?_⟩
    have ec : cutV (ts.map V.ref) (some ((p : Int) + 1)) (some ((p : Int) + 1 + (k : Int))) = ((ts.drop (p + 1)).take k).map V.ref := by
      unfold cutV
      have tl : ts.length = h.size := by rw [hc.length, Array.length_toList]
      rw [show (p : Int) + 1 = ((p + 1 : Nat) : Int) by omega, show ((p + 1 : Nat) : Int) + (k : Int) = ((p + 1 + k : Nat) : Int) by omega, HT.sIx_nat, HT.sIx_nat, List.length_map, Nat.min_eq_left (by omega), Nat.min_eq_left (by omega), ← List.map_drop, ← List.map_take,
        show p + 1 + k - (p + 1) = k by omega]
    rw [ec]
    refine q r _ hr0 ?_
    rw [← args_cut lp]
    exact (hc.drop (p + 1)).take k

/-! stands_in -/
theorem unseen_le {n : Nat} {l : List Nat} : unseen n l ≤ n := by
  unfold unseen
  refine Nat.le_trans (List.length_filter_le _ _) ?_
  simp
theorem Cells.snoc {H : Hp} {ts : List Addr} {cs : List Cell} {c : Cell} (x : Cells H ts (cs ++ [c])) : ∃ ts' t, ts = ts' ++ [t] ∧ Cells H ts' cs ∧ CellIs H t c := by
  induction cs generalizing ts with
  | nil =>
    cases x with
    | cons h r =>
      cases r
      exact ⟨[], _, rfl, .nil, h⟩
  | cons d cs ih =>
    cases x with
    | cons h r =>
      obtain ⟨ts', t, rfl, a, b⟩ := ih r
      exact ⟨_ :: ts', t, rfl, .cons h a, b⟩
/-- a cell that tells itself apart by its two numbers -/
def Plain : Cell → Prop
  | .head _ k => 1 ≤ k
  | _ => True
theorem dat_inj {c d : Cell} (pc : Plain c) (pd : Plain d) : PyData.eqv (dat c) (dat d) = decide (c = d) := by
  rw [dat_eqv]
  by_cases e : c = d
  · subst e
    simp
  · rw [decide_eq_false e, Bool.and_eq_false_iff, beq_eq_false_iff_ne, beq_eq_false_iff_ne]
    cases c <;> cases d <;> simp_all [n1, n2, Plain] <;> omega
theorem Good.plain {h : Lg04.Heap} {c : Cell} (g : Good h c) : Plain c := by
  cases c with
  | head s k => exact g.no_head.elim
  | _ => trivial

theorem of_n1_two {c : Cell} (p : Plain c) (h : n1 c = 2) : ∃ a, c = .str a := by
  cases c with
  | str a => exact ⟨a, rfl⟩
  | con s => cases h
  | ref s => cases h
  | head s k =>
    have : (2 : Int) + (k : Int) = 2 := h
    have : 1 ≤ k := p
    omega
/-- a dict of places gone into -/
def entries (l : List Nat) : List (Key × V) := l.map fun (p : Nat) => (Sum.inl (p : Int), V.bl true)
theorem entries_val {l : List Nat} {p : Nat} : valV (entries l) (Sum.inl (p : Int)) = if p ∈ l then some (.bl true) else none := by
  induction l with
  | nil => rfl
  | cons x l ih =>
    by_cases e : x = p
    · subst e
      rw [if_pos (.head _)]
      exact valV_pos rfl
    · show valV ((Sum.inl (x : Int), V.bl true) :: entries l) _ = _
      rw [valV_neg (by intro z; exact e (Int.ofNat.inj (Sum.inl.inj z))), ih]
      by_cases m : p ∈ l
      · rw [if_pos m, if_pos (.tail _ m)]
      · rw [if_neg m, if_neg (by intro z; cases z with | head => exact e rfl | tail _ z => exact m z)]
theorem entries_put {l : List Nat} {p : Nat} (n : p ∉ l) : putK (entries l) (Sum.inl (p : Int)) (.bl true) = entries (l ++ [p]) := by
  rw [putK_new _ (by rw [entries_val, if_neg n])]
  unfold entries
  rw [List.map_append]
  rfl

def StW (H : Hp) (l tv tc wl d : Addr) (h : Lg04.Heap) (a : Nat) (c : Cell) (m : Nat) (σ : L2.St) (H' : Hp) : Prop := ∃ ts cs seen vf, σ = [some (.ref l), some (.ref tv), some (.ref tc), some (.ref wl), some (.ref d), vf] ∧ Same H H' ∧ H' wl = some (.lst (ts.map V.ref)) ∧ Cells H' ts cs ∧
  H' d = some (.dK (entries seen)) ∧ Walk h a c cs seen ∧ cs.length + 5 * unseen h.size seen ≤ 5 * h.size + 1 ∧ seen.length + unseen h.size seen ≤ h.size ∧ m = 5 * unseen h.size seen + cs.length
abbrev sStands : Stmt := top 8
theorem scStands : FnScope ["heap", "variable", "cell", "waiting", "entered", "found"] ["heap", "variable", "cell"] (defScope sStands) := ⟨rfl, rfl, rfl, by decide +kernel, rfl, by decide +kernel, by decide +kernel⟩
def spStands : Sp := fun vs H Q _ => ∃ (l tv tc : Addr) (a : Nat) (h : Lg04.Heap) (c : Cell), vs = [.ref l, .ref tv, .ref tc] ∧ HeapIs H l h ∧ h.size ≤ 1000 ∧ CellIs H tv (.ref a) ∧ CellIs H tc c ∧ Good h c ∧
  ∀ H', Same H H' → Q (.bl (within h a c)) H'

theorem ok_stands {f fL fA fC : Addr} {fd fdL fdA fdC : FuncData} (D : Dn K mg "stands_in" sStands ["heap", "variable", "cell"] f fd) (DL : Dn K mg "looked_through" sLook ["heap", "cell"] fL fdL)
    (DA : Dn K mg "argument_cells" sCells ["heap", "head_place"] fA fdA) (DC : Dn K mg "argument_count" sCount ["heap", "head_place"] fC fdC) (T : Txt K mg) (len : mg "len" = none) : FnOk P w K mg base CX0 3 f fd ["heap", "variable", "cell"] spStands := by
  have GL : FnOk P w K mg base CX0 1 fL fdL ["heap", "cell"] spLook := ok_look DL.F T
  have GA : FnOk P w K mg base CX0 2 fA fdA ["heap", "head_place"] spCells := ok_cells DA DC T
  refine D.F.ok scStands (fun vs H Q E h => ?_) (fun cdv A outer s H vs Q E hr h => ?_)
  · obtain ⟨l, tv, tc, a, h, c, rfl, _⟩ := h
    rfl
  · obtain ⟨l, tv, tc, a, h, c, rfl, hh, hsz, hv, hc, g, q⟩ := h
    obtain ⟨ts, mgs⟩ := T.str
    have hr1 : Room 1 _ := hr.mono (by decide)
    refine ⟨_, pss_cons (ps_set (i := 3) scStands.nd rfl (Or.inl rfl) (pe_lst (pa_cons (pv 2) pa_nil)))
      (pss_cons (ps_set (i := 4) scStands.nd rfl (Or.inl rfl) pe_dnewK)
      (pss_cons (ps_while PassesOwn.never (pt_cmpR op_gt (pe_callB call_len_seq (by rfl) len PySem.boot_len (pa_cons (pv 3) pa_nil)) pe_int (nomark _))
        (pss_cons (ps_set (i := 5) scStands.nd rfl (Or.inl rfl) (pe_call GL hr1 rfl DL.m DL.F.kp DL.b .nil pass0 (pa_cons (pv 0) (pa_cons (pe_bm0 PySem.F.plainAttrs_list PySem.F.slot_list_pop PySem.F.type_list_pop mt_pop (pv 3)) pa_nil))))
        (pss_cons (ps_if (pt_cmpR (op_eqD hr.units) (pv 5) (pv 1) (nomark _)) (pss_one (ps_ret pe_bl)) pss_nil)
        (pss_one (ps_if (PW.pt (pw_and (pt_cmpR op_eq (pe_ix ix_tup (pv 5) pe_int (fun _ _ => rfl)) (pe_glob (v := .int 2) rfl mgs ⟨_, rfl⟩) (nomark _)) (pw_and1 (pt_cmp (pc_dnotin (hu_of hr) (pe_ix ix_tup (pv 5) pe_int (fun _ _ => rfl)) (pv 4))))))
          (pss_cons (ps_dput (hu_of hr) (pv 4) (pe_ix ix_tup (pv 5) pe_int (fun _ _ => rfl)) pe_bl rfl)
          (pss_one (ps_expr (pe_bm PySem.F.plainAttrs_list PySem.F.slot_list_extend PySem.F.type_list_extend mt_extend (pv 3) (pa_cons (pe_call GA hr rfl DA.m DA.F.kp DA.b .nil pass0 (pa_cons (pv 0) (pa_cons (pe_ix ix_tup (pv 5) pe_int (fun _ _ => rfl)) pa_nil))) pa_nil))))) pss_nil)))))
      (pss_one (ps_ret pe_bl)))), ?_⟩
    refine ⟨_, rfl, (by show 1 ≤ sizeLine; decide), fun wl hwl => ?_⟩
    intro d hd
    have nwd : wl ≠ d := fun z => by subst z; rw [upd_same] at hd; cases hd
    have hd0 : H d = none := by rw [upd_ne (Ne.symm nwd)] at hd; exact hd
    have fresh : ∀ {H' : Hp} {p : Addr} {o : HO}, Same H H' → H p = none → Same H (upd H' p o) := fun sm n b u e => by rw [upd_ne (ne_of_none e n)]; exact sm b u e
    refine ⟨StW H l tv tc wl d h a c, ⟨_, [tc], [c], [], none, rfl, ?_, ?_, ?_, upd_same, Walk.start g, ?_, ?_, rfl⟩, ?_⟩
    · exact fresh (fresh (.refl H) hwl) hd0
    · rw [upd_ne nwd, upd_same]; rfl
    · exact .cons (CellIs.keep hc ((Tups.new hwl).trans (.new hd))) .nil
    · have : unseen h.size [] ≤ h.size := unseen_le
      simp
      omega
    · have : unseen h.size [] ≤ h.size := unseen_le
      simpa using this
    rintro m σ H' ⟨ts, cs, seen, vf, rfl, sm, hw, hcs, hdd, W, lc, ls, rfl⟩
    refine ⟨_, rfl, wl, _, rfl, .inl (SqL.of hw), _, _, rfl, rfl, _, rfl, ?_⟩
    rw [List.length_map, hcs.length]
    rcases List.eq_nil_or_concat cs with rfl | ⟨cs', c1, rfl⟩
    · refine ifF (decide_eq_false (by simp)) ?_
      have e : within h a c = false := by
        cases e : within h a c with
        | false => rfl
        | true => exact absurd ((within_iff g).mp e) W.done
      have := q H' sm
      rw [e] at this
      exact this
    · refine ifT (decide_eq_true (by simp)) ?_
      rw [List.concat_eq_append] at hcs W lc
      obtain ⟨ts', t1, rfl, hcs', ht1⟩ := hcs.snoc
      refine ⟨fun σ' H' => ∃ m', m' < 5 * unseen h.size seen + (cs'.concat c1).length ∧ StW H l tv tc wl d h a c m' σ' H', fun _ _ z => z, ?_⟩
      rw [List.length_concat]
      rw [List.length_append, List.length_singleton] at lc
      have hH : HeapIs H' l h := hh.same sm
      have tu : Tups H' (upd H' wl (.lst (ts'.map V.ref))) := Tups.lst hw
      have g1 : Good h c1 := W.good c1 (by simp)
      have lw : l ≠ wl := by
        obtain ⟨us, eu, _⟩ := hh
        exact ne_of_none eu hwl
      have ld : l ≠ d := by
        obtain ⟨us, eu, _⟩ := hh
        exact ne_of_none eu hd0
      have sm1 : Same H (upd H' wl (.lst (ts'.map V.ref))) := fresh sm hwl
      refine ⟨_, rfl, _, rfl, .inl ⟨rfl, _, SqL.of hw⟩, wl, _, _, rfl, rfl, hw, (by rw [List.length_map, List.length_append, List.length_singleton, Nat.add_sub_cancel, List.map_append, List.getElem?_append_right (by simp)]; simp; rfl), ?_⟩
      rw [List.map_append, List.map_singleton, List.dropLast_concat]
      refine ⟨l, t1, h, c1, rfl, hh.same sm1, ht1.keep tu, g1, fun t2 ht2 => ?_⟩
      obtain ⟨g2, f2⟩ := look_good g1
      refine ⟨_, rfl, _, rfl, _, _, ht2.dp, (hv.keep (.of_same sm1)).dp, dat_shaped _, dat_shaped _, _, rfl, ?_⟩
      have hw1 : (upd H' wl (.lst (ts'.map V.ref))) wl = some (.lst (ts'.map V.ref)) := upd_same
      have hd1 : (upd H' wl (.lst (ts'.map V.ref))) d = some (.dK (entries seen)) := by rw [upd_ne (Ne.symm nwd)]; exact hdd
      have skip : Walk h a c cs' seen → ∃ m', m' < 5 * unseen h.size seen + (cs'.length + 1) ∧ StW H l tv tc wl d h a c m' [some (.ref l), some (.ref tv), some (.ref tc), some (.ref wl), some (.ref d), some (.ref t2)] (upd H' wl (.lst (ts'.map V.ref))) :=
        fun W2 => ⟨_, (by rw [← Nat.add_assoc]; exact Nat.lt_succ_self _), ts', cs', seen, _, rfl, sm1, hw1, hcs'.keep tu, hd1, W2, by omega, ls, rfl⟩
      rw [dat_inj g2.plain (show Plain (.ref a) from trivial)]
      by_cases ev : look h c1 = .ref a
      · refine ifT (decide_eq_true ev) ?_
        have := q _ sm1
        rw [(within_iff g).mpr (W.found ev)] at this
        exact this
      · refine ifF (decide_eq_false ev) ?_
        refine ⟨_, rfl, t2, _, _, _, rfl, rfl, SqT.of ht2, enc0, rfl, _, rfl, ?_⟩
        by_cases es : n1 (look h c1) = 2
        · refine ifT (decT es) ?_
          obtain ⟨p, ep⟩ := of_n1_two g2.plain es
          rw [ep] at ht2 g2
          obtain ⟨y, k, eh, l1, l4, lb, nf, ga⟩ := g2.parts
          refine ⟨_, rfl, t2, _, _, _, rfl, rfl, SqT.of ht2, enc1, _, rfl, d, _, rfl, DGet.k (k := Sum.inl (p : Int)) hd1, _, rfl, ?_⟩
          rw [entries_val]
          by_cases mp : p ∈ seen
          · rw [if_pos mp]
            refine iteF (skip (W.skip ⟨ev, fun s z => ?_⟩))
            rw [ep] at z
            cases z
            exact mp
          · rw [if_neg mp]
            refine iteT ?_
            have us := unseen_snoc (n := h.size) (by omega) mp
            have sl : seen.length ≤ 1000 := by omega
            refine ⟨_, rfl, _, rfl, t2, _, _, _, rfl, rfl, SqT.of ht2, enc1, d, _, rfl, DPut.k (k := Sum.inl (p : Int)) hd1 (by unfold entries; rw [List.length_map]; exact small1000 sl), ?_⟩
            rw [entries_put mp]
            generalize eH2 : upd (upd H' wl (.lst (ts'.map V.ref))) d (.dK (entries (seen ++ [p]))) = H2
            have sm2 : Same H H2 := by rw [← eH2]; exact fresh sm1 hd0
            have hw2 : H2 wl = some (.lst (ts'.map V.ref)) := by rw [← eH2, upd_ne nwd]; exact hw1
            have tu2 : Tups H' H2 := by rw [← eH2]; exact tu.trans (Tups.dict hd1)
            have ht22 : CellIs H2 t2 (.str p) := by rw [← eH2]; exact ht2.keep (Tups.dict hd1)
            have hd2 : H2 d = some (.dK (entries (seen ++ [p]))) := by rw [← eH2]; exact upd_same
            refine ⟨_, rfl, .inl ⟨rfl, _, SqL.of hw2⟩, _, rfl, _, rfl, t2, _, _, _, rfl, rfl, SqT.of ht22, enc1, l, p, y, k, h, rfl, hh.same sm2, lb, eh, fun r us hr0 hus => ?_⟩
            have wr : wl ≠ r := ne_of_none hw2 hr0
            have dr : d ≠ r := ne_of_none hd2 hr0
            have hw3 : (upd H2 r (.lst (us.map V.ref))) wl = some (.lst (ts'.map V.ref)) := by rw [upd_ne wr]; exact hw2
            have al : (args h p k).length = k := by unfold args; rw [List.length_map, List.length_range]
            refine ⟨wl, r, _, _, rfl, rfl, hw3, upd_same, ?_, ?_⟩
            · rw [List.length_map, List.length_map, hus.length, hcs'.length, al]
              show cs'.length + k ≤ 2 ^ 24
              omega
            · rw [← List.map_append]
              have tu3 : Tups H2 (upd (upd H2 r (.lst (us.map V.ref))) wl (.lst ((ts' ++ us).map V.ref))) := (Tups.new hr0).trans (Tups.lst hw3)
              refine ⟨_, ?_, ts' ++ us, cs' ++ args h p k, seen ++ [p], _, rfl, ?_, upd_same, ((hcs'.keep tu2).append hus).keep tu3, ?_, W.enter ep eh mp, ?_, ?_, rfl⟩
              · rw [List.length_append, al]
                omega
              · exact fresh (fresh sm2 (sm2.free hr0)) hwl
              · rw [upd_ne (Ne.symm nwd), upd_ne dr]
                exact hd2
              · rw [List.length_append, al]
                omega
              · rw [List.length_append, List.length_singleton]
                omega
        · refine ifF (decF es) (iteF (skip (W.skip ⟨ev, fun s z => ?_⟩)))
          exact absurd (by rw [z]; rfl) es
end
end Sw
namespace Sw
open PySem PySem.Spec PyProof.Rows L2
open Lg04 (Cell cellAt look within)

/-! The machine's own fields. -/
def mf (l r t c : Addr) : List (Str × V) := [("heap", .ref l), ("registers", .ref r), ("trail", .ref t), ("choices", .ref c)]
def cf (r : Addr) (h t : Nat) : List (Str × V) := [("registers", .ref r), ("heap_length", .int h), ("trail_length", .int t)]
theorem lookup_yes {f : Str} {v : V} {r : List (Str × V)} : List.lookup f ((f, v) :: r) = some v := by rw [List.lookup_cons, beq_self_eq_true]
theorem lookup_no {f g : Str} {v : V} {r : List (Str × V)} (n : f ≠ g) : List.lookup f ((g, v) :: r) = List.lookup f r := by rw [List.lookup_cons, beq_false_of_ne n]
theorem sne1 : ("registers" : Str) ≠ "heap" := by decide +kernel
theorem sne2 : ("trail" : Str) ≠ "heap" := by decide +kernel
theorem sne3 : ("trail" : Str) ≠ "registers" := by decide +kernel
theorem sne4 : ("choices" : Str) ≠ "heap" := by decide +kernel
theorem sne5 : ("choices" : Str) ≠ "registers" := by decide +kernel
theorem sne6 : ("choices" : Str) ≠ "trail" := by decide +kernel
theorem sne7 : ("heap_length" : Str) ≠ "registers" := by decide +kernel
theorem sne8 : ("trail_length" : Str) ≠ "registers" := by decide +kernel
theorem sne9 : ("trail_length" : Str) ≠ "heap_length" := by decide +kernel
section
variable {l r t c : Addr}
theorem mf_heap : (mf l r t c).lookup ("heap" : Str) = some (.ref l) := lookup_yes
theorem mf_regs : (mf l r t c).lookup ("registers" : Str) = some (.ref r) := (lookup_no sne1).trans lookup_yes
theorem mf_trail : (mf l r t c).lookup ("trail" : Str) = some (.ref t) := (lookup_no sne2).trans ((lookup_no sne3).trans lookup_yes)
theorem mf_choices : (mf l r t c).lookup ("choices" : Str) = some (.ref c) := (lookup_no sne4).trans ((lookup_no sne5).trans ((lookup_no sne6).trans lookup_yes))
theorem mf_none {x : Str} (n1 : x ≠ "heap") (n2 : x ≠ "registers") (n3 : x ≠ "trail") (n4 : x ≠ "choices") : (mf l r t c).lookup x = none :=
  (lookup_no n1).trans ((lookup_no n2).trans ((lookup_no n3).trans ((lookup_no n4).trans rfl)))
theorem putF_yes {f : Str} {v x : V} {r : List (Str × V)} : putF f v ((f, x) :: r) = (f, v) :: r := by
  show (if f = f then _ else _) = _
  rw [if_pos rfl]
theorem putF_no {f g : Str} {v x : V} {r : List (Str × V)} (n : g ≠ f) : putF f v ((g, x) :: r) = (g, x) :: putF f v r := by
  show (if g = f then _ else _) = _
  rw [if_neg n]
theorem mf_put_heap {l' : Addr} : putF "heap" (.ref l') (mf l r t c) = mf l' r t c := putF_yes
theorem mf_put_regs {r' : Addr} : putF "registers" (.ref r') (mf l r t c) = mf l r' t c := (putF_no (Ne.symm sne1)).trans (congrArg _ putF_yes)
theorem mf_put_trail {t' : Addr} : putF "trail" (.ref t') (mf l r t c) = mf l r t' c := (putF_no (Ne.symm sne2)).trans (congrArg _ ((putF_no (Ne.symm sne3)).trans (congrArg _ putF_yes)))
theorem mf_put_choices {c' : Addr} : putF "choices" (.ref c') (mf l r t c) = mf l r t c' := (putF_no (Ne.symm sne4)).trans (congrArg _ ((putF_no (Ne.symm sne5)).trans (congrArg _ ((putF_no (Ne.symm sne6)).trans (congrArg _ putF_yes)))))
theorem cf_heap {h k : Nat} : (cf r h k).lookup ("heap_length" : Str) = some (.int h) := (lookup_no sne7).trans lookup_yes
theorem cf_regs {h k : Nat} : (cf r h k).lookup ("registers" : Str) = some (.ref r) := lookup_yes
theorem cf_trail {h k : Nat} : (cf r h k).lookup ("trail_length" : Str) = some (.int k) := (lookup_no sne8).trans ((lookup_no sne9).trans lookup_yes)
end

/-- the classes, and that their instances' fields are no attributes of theirs -/
structure Cl (K : PySem.W.Frag) (C CC : Addr) : Prop where
  cl : Cls K C
  nh : NoAttr K C "heap"
  nr : NoAttr K C "registers"
  nt : NoAttr K C "trail"
  nc : NoAttr K C "choices"
  ccl : Cls K CC
  cnh : NoAttr K CC "heap_length"
  cnr : NoAttr K CC "registers"
  cnt : NoAttr K CC "trail_length"

/-- the places of the trail, the oldest first -/
def trailV (l : List Nat) : List V := l.reverse.map fun (a : Nat) => V.int (a : Int)
/-- the choices' lengths of the heap -/
inductive Tops (H : Hp) (CC : Addr) : List Addr → List Lg04.Choice → Prop where
  | nil : Tops H CC [] []
  | snoc {q dx r : Addr} {qs : List Addr} {b : Lg04.Choice} {bs : List Lg04.Choice} : H q = some (.ins CC dx (cf r b.heap b.trail)) → Tops H CC qs bs → Tops H CC (qs ++ [q]) (b :: bs)

/-- what making the same needs of a machine -/
structure Core (C CC : Addr) (H : Hp) (p dx l r t c : Addr) (m : Lg04.M) : Prop where
  ins : H p = some (.ins C dx (mf l r t c))
  heap : HeapIs H l m.heap
  trail : H t = some (.lst (trailV m.trail))
  tops : ∃ qs, H c = some (.lst (qs.map V.ref)) ∧ Tops H CC qs m.choices
  lt : l ≠ t
  lc : l ≠ c
  tc : t ≠ c

/-- only the heap's and the trail's list have changed -/
def Fr (l t : Addr) (H H' : Hp) : Prop := ∀ b o, H b = some o → b ≠ l → b ≠ t → H' b = some o
theorem Fr.refl {l t : Addr} {H : Hp} : Fr l t H H := fun _ _ e _ _ => e
theorem Fr.trans {l t : Addr} {H H1 H2 : Hp} (x : Fr l t H H1) (y : Fr l t H1 H2) : Fr l t H H2 := fun b o e n1 n2 => y b o (x b o e n1 n2) n1 n2
theorem Fr.of_same {l t : Addr} {H H' : Hp} (x : Same H H') : Fr l t H H' := fun b o e _ _ => x b o e
theorem Fr.tups {l t : Addr} {H H' : Hp} (x : Fr l t H H') {xs ys : List V} (hl : H l = some (.lst xs)) (ht : H t = some (.lst ys)) : Tups H H' := fun u zs e => x u _ e (ne_of e hl (fun z => nomatch z)) (ne_of e ht (fun z => nomatch z))
theorem Tops.keep {H H' : Hp} {CC : Addr} {qs : List Addr} {bs : List Lg04.Choice} (x : Tops H CC qs bs) (k : ∀ q dx fs, H q = some (.ins CC dx fs) → H' q = some (.ins CC dx fs)) : Tops H' CC qs bs := by
  induction x with
  | nil => exact .nil
  | snoc h _ ih => exact .snoc (k _ _ _ h) ih

section
variable {P : Program} {w : World} {K : PySem.W.Frag} {mg : Str → Option Value} {base : PySem.Heap}
abbrev sBind : Stmt := inClass (top 12) 3
theorem scBind : FnScope ["self", "place", "cell"] ["self", "place", "cell"] (defScope sBind) := ⟨rfl, rfl, rfl, by decide +kernel, rfl, by decide +kernel, by decide +kernel⟩
def spBind (C CC : Addr) : Sp := fun vs H Q _ => ∃ (p dx l r t c tc : Addr) (a : Nat) (m : Lg04.M) (x : Cell), vs = [.ref p, .int a, .ref tc] ∧ Core C CC H p dx l r t c m ∧ a < m.heap.size ∧ m.trail.length ≤ 1000 ∧ CellIs H tc x ∧
  ∀ H', Core C CC H' p dx l r t c (Lg04.bind m a x) → Fr l t H H' → Q .non H'

theorem trailV_cons {l : List Nat} {a : Nat} : trailV (a :: l) = trailV l ++ [.int a] := by
  unfold trailV
  rw [List.reverse_cons, List.map_append]
  rfl
theorem ok_bind {C CC f : Addr} {fd : FuncData} (F : Fun K "bind" "Machine.bind" sBind f fd) (L : Cl K C CC) (len : mg "len" = none) : FnOk P w K mg base CX0 1 f fd ["self", "place", "cell"] (spBind C CC) := by
  refine F.ok scBind (fun vs H Q E h => ?_) (fun cdv A outer s H vs Q E hr h => ?_)
  · obtain ⟨p, dx, l, r, t, c, tc, a, m, x, rfl, _⟩ := h
    rfl
  · obtain ⟨p, dx, l, r, t, c, tc, a, m, x, rfl, R, la, tl, hx, q⟩ := h
    refine ⟨_, pss_cons (ps_asg (pv 2) (pg_sub (pe_fld (pv 0) rfl) (pv 1) set_list))
      (pss_one (ps_if (PW.pt (pw_and (pt_cmpR op_gt (pe_callB call_len_seq (by rfl) len PySem.boot_len (pa_cons (pe_fld (pv 0) rfl) pa_nil)) pe_int (nomark _))
          (pw_and1 (pt_cmpR op_gt (pe_fld (pe_ix ix_list (pe_fld (pv 0) rfl) (pe_un un_neg pe_int) (fun _ _ => rfl)) rfl) (pv 1) (nomark _)))))
        (pss_one (ps_expr (pe_bm PySem.F.plainAttrs_list PySem.F.slot_list_append PySem.F.type_list_append mt_append (pe_fld (pv 0) rfl) (pa_cons (pv 1) pa_nil)))) pss_nil)), ?_⟩
    obtain ⟨ts, hl, hc⟩ := R.heap
    have tsl : ts.length = m.heap.size := by rw [hc.length, Array.length_toList]
    refine ⟨_, rfl, _, rfl, p, C, dx, _, _, rfl, R.ins, L.cl, L.nh, mf_heap, _, rfl, l, _, _, a, rfl, rfl, hl, ?_, ?_⟩
    · rw [List.length_map, tsl]
      unfold ixN
      rw [if_pos (by omega), if_pos (by omega)]
      simp
    generalize eH1 : upd H l (.lst ((ts.map V.ref).set a (.ref tc))) = H1
    have fr1 : Fr l t H H1 := fun b o e nl nt => by rw [← eH1, upd_ne nl]; exact e
    have tu1 : Tups H H1 := by rw [← eH1]; exact Tups.lst hl
    have hl1 : H1 l = some (.lst ((ts.set a tc).map V.ref)) := by rw [← eH1, upd_same, List.map_set]
    have ht1 : H1 t = some (.lst (trailV m.trail)) := by rw [← eH1, upd_ne (Ne.symm R.lt)]; exact R.trail
    have hp1 : H1 p = some (.ins C dx (mf l r t c)) := by rw [← eH1, upd_ne (ne_of R.ins hl (fun z => nomatch z))]; exact R.ins
    have hh1 : HeapIs H1 l (m.heap.setIfInBounds a x) := ⟨_, hl1, by
      have := (hc.keep tu1).set (hx.keep tu1) a
      rw [Array.toList_setIfInBounds]
      exact this⟩
    obtain ⟨qs, hq, tp⟩ := R.tops
    have hq1 : H1 c = some (.lst (qs.map V.ref)) := by rw [← eH1, upd_ne (Ne.symm R.lc)]; exact hq
    have ki : ∀ u d2 fs, H u = some (.ins CC d2 fs) → H1 u = some (.ins CC d2 fs) := fun u d2 fs e => by rw [← eH1, upd_ne (ne_of e hl (fun z => nomatch z))]; exact e
    have tp1 := tp.keep ki
    have stay : ¬ a < Lg04.mark m → Q .non H1 := fun n => by
      refine q H1 ⟨hp1, hh1, ?_, ⟨qs, hq1, tp1⟩, R.lt, R.lc, R.tc⟩ fr1
      show H1 t = some (.lst (trailV (if a < Lg04.mark m then a :: m.trail else m.trail)))
      rw [if_neg n]
      exact ht1
    refine ⟨_, rfl, p, C, dx, _, _, rfl, hp1, L.cl, L.nc, mf_choices, c, _, rfl, .inl (SqL.of hq1), _, _, rfl, rfl, _, rfl, ?_⟩
    rw [List.length_map]
    cases e : m.choices with
    | nil =>
      rw [e] at tp
      cases tp
      refine ifF (decide_eq_false (by decide)) (iteF (stay ?_))
      unfold Lg04.mark
      rw [e]
      exact Nat.not_lt_zero _
    | cons b bs =>
      rw [e] at tp1
      have em : Lg04.mark m = b.heap := by unfold Lg04.mark; rw [e]; rfl
      cases tp1 with
      | @snoc u d2 r2 qs' _ _ hu tp' =>
        refine ifT (decide_eq_true (by simp)) ?_
        refine ⟨_, rfl, p, C, dx, _, _, rfl, hp1, L.cl, L.nc, mf_choices, _, rfl, c, _, _, _, rfl, rfl, SqL.of hq1, (by rw [List.map_append]; exact atI_last _ _), u, CC, d2, _, _, rfl, hu, L.ccl, L.cnh, cf_heap, _, rfl, _, _, rfl, rfl, _, rfl, ?_⟩
        by_cases lt : a < b.heap
        · refine ifT (decide_eq_true (by omega)) ?_
          refine ⟨_, rfl, p, C, dx, _, _, rfl, hp1, L.cl, L.nt, mf_trail, .inl ⟨rfl, _, SqL.of ht1⟩, _, rfl, t, _, _, rfl, rfl, ht1, ?_, ?_⟩
          · unfold trailV
            rw [List.length_map, List.length_reverse]
            exact small1000 tl
          · rw [← trailV_cons]
            have tu2 : Tups H1 (upd H1 t (.lst (trailV (a :: m.trail)))) := Tups.lst ht1
            refine q _ ⟨?_, ⟨ts.set a tc, ?_, ?_⟩, ?_, ⟨qs' ++ [u], ?_, ?_⟩, R.lt, R.lc, R.tc⟩ (fr1.trans fun b o e nl nt => by rw [upd_ne nt]; exact e)
            · rw [upd_ne (ne_of hp1 ht1 (fun z => nomatch z))]; exact hp1
            · rw [upd_ne R.lt]; exact hl1
            · have := (hc.keep (tu1.trans tu2)).set (hx.keep (tu1.trans tu2)) a
              show Cells _ _ (m.heap.setIfInBounds a x).toList
              rw [Array.toList_setIfInBounds]
              exact this
            · show _ = some (HO.lst (trailV (if a < Lg04.mark m then a :: m.trail else m.trail)))
              rw [em, if_pos lt, upd_same]
            · rw [upd_ne (Ne.symm R.tc)]; exact hq1
            · show Tops _ CC _ m.choices
              rw [e]
              refine Tops.keep (.snoc hu tp') fun u2 d3 fs e2 => ?_
              rw [upd_ne (ne_of e2 ht1 (fun z => nomatch z))]; exact e2
        · refine ifF (decide_eq_false (by omega)) (stay ?_)
          rw [em]; exact lt
end
end Sw
namespace Sw
open PySem PySem.Spec PyProof.Rows L2
open Lg04 (Cell cellAt look within)

/-! A dict whose keys are pairs of cells. -/
def key2 (c : Cell) : NestedKey := .tup [.num (n1 c), .num (n2 c)]
def key4 (c d : Cell) : NestedKey := .tup [key2 c, key2 d]
def ent (e : Cell × Cell × Addr) : NestedKey × Addr × Value := (key4 e.1 e.2.1, e.2.2, Value.bool true)
theorem key2_inj {c d : Cell} (pc : Plain c) (pd : Plain d) (e : key2 c = key2 d) : c = d := by
  unfold key2 at e
  have e1 := NestedKey.tup.inj e
  have e2 := NestedKey.num.inj (List.cons.inj e1).1
  have e3 := NestedKey.num.inj (List.cons.inj (List.cons.inj e1).2).1
  have z := dat_inj pc pd
  rw [dat_eqv, e2, e3] at z
  simp at z
  exact z
theorem key4_inj {c d c' d' : Cell} (pc : Plain c) (pd : Plain d) (pc' : Plain c') (pd' : Plain d') (e : key4 c d = key4 c' d') : c = c' ∧ d = d' := by
  have e1 := NestedKey.tup.inj e
  exact ⟨key2_inj pc pc' (List.cons.inj e1).1, key2_inj pd pd' (List.cons.inj (List.cons.inj e1).2).1⟩
/-- the tuple at b is the pair of the cells c and d -/
def PairIs (H : Hp) (b : Addr) (c d : Cell) : Prop := ∃ t u, H b = some (.tup [.ref t, .ref u]) ∧ CellIs H t c ∧ CellIs H u d
theorem PairIs.keep {H H' : Hp} {b : Addr} {c d : Cell} (x : PairIs H b c d) (k : Tups H H') : PairIs H' b c d := by
  obtain ⟨t, u, e, a, b⟩ := x
  exact ⟨t, u, k _ _ e, a.keep k, b.keep k⟩
section
variable {P : Program} {w : World} {H : Hp} {h : PySem.Heap}
theorem cell_nested {t : Addr} {c : Cell} (ok : HOk P w H h) (x : CellIs H t c) : NestedIs h (key2 c) (.ref t) := by
  obtain ⟨_, its, r, o, h1, h2, n, h3⟩ := (show ObjOk P w H h t (.tup (enc c)) from ok t _ x)
  refine .tup h1 h2 h3 ?_
  unfold enc at r
  cases r with
  | cons r1 r =>
    cases r with
    | cons r2 r =>
      cases r
      obtain ⟨k1, rfl⟩ := r1
      obtain ⟨k2, rfl⟩ := r2
      exact .cons (.int _ _) (.cons (.int _ _) .nil)
theorem pair_nested {b : Addr} {c d : Cell} (ok : HOk P w H h) (x : PairIs H b c d) : (nestedKind P w).is h (key4 c d) b := by
  obtain ⟨t, u, e, ht, hu⟩ := x
  obtain ⟨_, its, r, o, h1, h2, n, h3⟩ := (show ObjOk P w H h b (.tup [.ref t, .ref u]) from ok b _ e)
  refine ⟨.tup h1 h2 h3 ?_, by show (2 : Nat) ≤ 8; decide⟩
  cases r with
  | cons r1 r =>
    cases r with
    | cons r2 r =>
      cases r
      cases (show _ = Value.ref t from r1)
      cases (show _ = Value.ref u from r2)
      exact .cons (cell_nested ok ht) (.cons (cell_nested ok hu) .nil)
/-- the dict at d has just these keys -/
def PD (P : Program) (w : World) (d : Addr) (ps : List (Cell × Cell × Addr)) : HO := .ext fun h => (d == sysModules) = false ∧ ps.length ≤ sizeLine ∧
  ∃ o es ep, h.get? d = some o ∧ o.ExactDict ∧ o.data = .dict es ep ∧ es.toList = (ps.map ent).map (entryOfKey (nestedKind P w)) ∧ ((ps.map ent).map (·.1)).Nodup
def PairsOk2 (H : Hp) (ps : List (Cell × Cell × Addr)) : Prop := ∀ e, e ∈ ps → PairIs H e.2.2 e.1 e.2.1
theorem pd_of {d : Addr} {ps : List (Cell × Cell × Addr)} (ok : HOk P w H h) (e : H d = some (PD P w d ps)) (pk : PairsOk2 H ps) : (d == sysModules) = false ∧ ps.length ≤ sizeLine ∧ h.DictOfH (nestedKind P w) d (ps.map ent) := by
  obtain ⟨⟨z, y, o, es, ep, h1, h2, h3, h4, h5⟩, _⟩ := (show ObjOk P w H h d (PD P w d ps) from ok d _ e)
  refine ⟨z, y, o, es, ep, h1, h2, h3, h4, fun x mx => ?_, h5⟩
  obtain ⟨v, mv, rfl⟩ := List.mem_map.mp mx
  exact pair_nested ok (pk v mv)
theorem pd_stay {d : Addr} {ps : List (Cell × Cell × Addr)} {h1 h2 : PySem.Heap} (x : (d == sysModules) = false ∧ ps.length ≤ sizeLine ∧ ∃ o es ep, h1.get? d = some o ∧ o.ExactDict ∧ o.data = .dict es ep ∧ es.toList = (ps.map ent).map (entryOfKey (nestedKind P w)) ∧ ((ps.map ent).map (·.1)).Nodup)
    (k : ∀ o, h1.get? d = some o → h2.get? d = some o) : (d == sysModules) = false ∧ ps.length ≤ sizeLine ∧ ∃ o es ep, h2.get? d = some o ∧ o.ExactDict ∧ o.data = .dict es ep ∧ es.toList = (ps.map ent).map (entryOfKey (nestedKind P w)) ∧ ((ps.map ent).map (·.1)).Nodup := by
  obtain ⟨z, y, o, es, ep, e1, e2⟩ := x
  exact ⟨z, y, o, es, ep, k o e1, e2⟩
end
section
variable {X : Cx} {pos pos' : Pos} {i o value : Expr} {ty td tv : TE}
def tPDNew (X : Cx) : TE := fun _ H Q => ∀ p, H p = none → Q (.ref p) (upd H p (PD X.prog X.w p []))
theorem pe_pdnew : PE X (.Dict [] [] pos) (tPDNew X) := by
  refine ⟨fun pn sh sg HH QQ inv hw => ?_⟩
  refine wpAny_Dict_empty ⟨.ref sh.heap.objs.size, _, inv.laid (a := sh.heap.objs.size) (o := PD X.prog X.w sh.heap.objs.size []) (t' := sh.toks) (fun _ _ q => Heap.get?_push_of_some _ q) (Nat.le_refl _) ?_, rfl, hw _ (inv.hok.fresh (Nat.le_refl _))⟩
  refine ⟨⟨beq_eq_false_iff_ne.mpr (Ne.symm (Nat.ne_of_lt inv.big)), Nat.zero_le _, _, #[], 0, Heap.get?_push_size _ rfl, ⟨rfl, rfl, rfl⟩, rfl, rfl, List.nodup_nil⟩, ⟨_, Heap.get?_push_size _ rfl⟩, fun h1 h2 x k => pd_stay x k⟩
def tPDIn (X : Cx) (ty td : TE) : TE := fun σ H Q => ty σ H fun y H1 => td σ H1 fun x H2 => ∃ d b c1 c2 ps, x = .ref d ∧ y = .ref b ∧ H2 d = some (PD X.prog X.w d ps) ∧ PairIs H2 b c1 c2 ∧ PairsOk2 H2 ps ∧ Q (.bl (atKey (ps.map ent) (key4 c1 c2)).isSome) H2
theorem pc_pdin (hu : X.A.units + 64 < cLine) (hi : PE X i ty) (ho : PE X o td) : PC X .In i o (tPDIn X ty td) := by
  refine ⟨fun pn sh sg HH QQ inv hw => ?_⟩
  refine thn (hi.run pn sh sg HH _ inv hw) fun iv s1 ⟨y, H1, I1, ry, q1⟩ => thn (ho.run pn s1 sg H1 _ I1 q1) fun du s2 ⟨x, H2, I2, rx, d, b, c1, c2, ps, ex, ey, hd, hb, pk, q2⟩ => ?_
  subst ex ey
  obtain rfl : du = Value.ref d := rx
  obtain rfl : iv = Value.ref b := ry
  obtain ⟨z, _, dd⟩ := pd_of I2.hok hd pk
  refine wpAny_in_heap (knd := nestedKind X.prog X.w) (show _ + 8 < cLine from ?_) (pair_nested I2.hok hb) z dd ⟨.bl _, H2, I2.tok _, rfl, q2⟩
  show X.A.units + 1 + 8 < cLine
  omega
def sPDPut (X : Cx) (td ty tv : TE) : TS := fun D σ H => tv σ H fun v H1 => td σ H1 fun x H2 => ty σ H2 fun y H3 => ∃ d b c1 c2 ps, v = .bl true ∧ x = .ref d ∧ y = .ref b ∧ H3 d = some (PD X.prog X.w d ps) ∧ PairIs H3 b c1 c2 ∧ PairsOk2 H3 ps ∧
  atKey (ps.map ent) (key4 c1 c2) = none ∧ ps.length < sizeLine ∧ D.nx σ (upd H3 d (PD X.prog X.w d (ps ++ [(c1, c2, b)])))
theorem ps_pdput (hu : X.A.units + 64 < cLine) (ho : PE X o td) (hi : PE X i ty) (hv : PE X value tv) (hs : swapsWith value (some (.Subscript o i pos')) pos.line X.env = pure false) :
    PS X (.Assign [.Subscript o i pos'] value pos) (sPDPut X td ty tv) := by
  refine ⟨fun pn sh sg HH ends inv hw => ?_⟩
  refine wpAny_Assign_Subscript (thn (hv.run pn sh sg HH _ inv hw) fun r s1 ⟨v, H1, I1, rv, q1⟩ => thn (ho.run pn s1 sg H1 _ I1 q1) fun du s2 ⟨x, H2, I2, rx, q2⟩ => thn (hi.run pn s2 sg H2 _ I2 q2) fun iv s3 ⟨y, H3, I3, ry, d, b, c1, c2, ps, ev, ex, ey, hd, hb, pk, nk, lt, q3⟩ => ?_) hs
  subst ev ex ey
  obtain rfl : du = Value.ref d := rx
  obtain rfl : iv = Value.ref b := ry
  obtain rfl : r = Value.bool true := rv
  obtain ⟨z, y2, dd⟩ := pd_of I3.hok hd pk
  refine wpAny_setItem_heap (knd := nestedKind X.prog X.w) (hsz := by rw [List.length_map]; exact y2) (show _ + 8 < cLine from ?_) (pair_nested I3.hok hb) dd fun h' dd' hs' => ⟨sg, _, ?_, q3⟩
  · show X.A.units + 1 + 8 < cLine
    omega
  · rw [storedH_new nk] at dd'
    obtain ⟨ob, es, ep, hq, h2, h3, h4, _, h5⟩ := dd'
    have em : (ps.map ent) ++ [(key4 c1 c2, b, Value.bool true)] = (ps ++ [(c1, c2, b)]).map ent := by rw [List.map_append]; rfl
    rw [em] at h4 h5
    refine I3.write (x := d) (e := d) (by rw [hd]; exact True.intro) (.inl rfl) (fun c v hc e => (hs'.2 c hc).trans e) ⟨ob, hq⟩ ?_
    refine ⟨⟨z, by rw [List.length_append, List.length_singleton]; exact lt, ob, es, ep, hq, h2, h3, h4, h5⟩, ⟨ob, hq⟩, fun h1 h2 x k => pd_stay x k⟩
end
theorem Tups.pd {P : Program} {w : World} {H : Hp} {p d : Addr} {o : HO} {ps : List (Cell × Cell × Addr)} (n : H p = some (PD P w d ps)) : Tups H (upd H p o) := Tups.ext n

/-- the keys as pairs of places -/
def pairsOf (ps : List (Cell × Cell × Addr)) : List (Cell × Cell) := ps.map fun e => (e.1, e.2.1)
theorem atKey_none {ps : List (Cell × Cell × Addr)} {c d : Cell} (pc : Plain c) (pd : Plain d) (pp : ∀ e, e ∈ ps → Plain e.1 ∧ Plain e.2.1) : (atKey (ps.map ent) (key4 c d)).isSome = decide ((c, d) ∈ pairsOf ps) := by
  induction ps with
  | nil => rfl
  | cons e ps ih =>
    have ih := ih fun x mx => pp x (.tail _ mx)
    obtain ⟨p1, p2⟩ := pp e (.head _)
    by_cases q : e.1 = c ∧ e.2.1 = d
    · obtain ⟨rfl, rfl⟩ := q
      have : (e.1, e.2.1) ∈ pairsOf (e :: ps) := .head _
      rw [decide_eq_true this]
      unfold atKey
      rw [List.map_cons, List.find?_cons]
      simp [ent]
    · have nk : ¬ key4 e.1 e.2.1 = key4 c d := fun z => q (key4_inj p1 p2 pc pd z)
      have e2 : atKey ((e :: ps).map ent) (key4 c d) = atKey (ps.map ent) (key4 c d) := by
        unfold atKey
        rw [List.map_cons, List.find?_cons]
        have : decide ((ent e).1 = key4 c d) = false := decide_eq_false nk
        rw [this]
      rw [e2, ih]
      congr 1
      apply propext
      constructor
      · intro z; exact .tail _ z
      · intro z
        cases z with
        | head => exact absurd ⟨rfl, rfl⟩ q
        | tail _ z => exact z
end Sw
namespace Sw
open PySem PySem.Spec PyProof.Rows L2
open Lg04 (Cell cellAt look within)

section
variable {P : Program} {w : World} {K : PySem.W.Frag} {mg : Str → Option Value} {base : PySem.Heap}

/-! is_to_bind -/
def toBind (c d : Cell) : Bool := if n1 c = 0 then (if n1 d = 0 then decide (n2 c > n2 d) else true) else false
abbrev sTB : Stmt := top 22
theorem scTB : FnScope ["cell", "other"] ["cell", "other"] (defScope sTB) := ⟨rfl, rfl, rfl, by decide +kernel, rfl, by decide +kernel, by decide +kernel⟩
def spTB : Sp := fun vs H Q _ => ∃ (t u : Addr) (c d : Cell), vs = [.ref t, .ref u] ∧ CellIs H t c ∧ CellIs H u d ∧ Q (.bl (toBind c d)) H
theorem ok_tb {f : Addr} {fd : FuncData} (D : Dn K mg "is_to_bind" sTB ["cell", "other"] f fd) (T : Txt K mg) : FnOk P w K mg base CX0 1 f fd ["cell", "other"] spTB := by
  refine D.F.ok scTB (fun vs H Q E h => ?_) (fun cdv A outer s H vs Q E hr h => ?_)
  · obtain ⟨t, u, c, d, rfl, _⟩ := h
    rfl
  · obtain ⟨t, u, c, d, rfl, hc, hd, q⟩ := h
    obtain ⟨tp, mgp⟩ := T.place
    refine ⟨_, pss_one (ps_ret (pe_and (pe_cmpR op_eq (pe_ix ix_tup (pv 0) pe_int (fun _ _ => rfl)) (pe_glob (v := .int 0) rfl mgp ⟨_, rfl⟩) (nomark _)) (pe_one
      (pe_or (pe_cmpR op_ne (pe_ix ix_tup (pv 1) pe_int (fun _ _ => rfl)) (pe_glob (v := .int 0) rfl mgp ⟨_, rfl⟩) (nomark _)) (pe_one
        (pe_cmpR op_gt (pe_ix ix_tup (pv 0) pe_int (fun _ _ => rfl)) (pe_ix ix_tup (pv 1) pe_int (fun _ _ => rfl)) (nomark _))))))), ?_⟩
    refine ⟨_, rfl, t, _, _, _, rfl, rfl, SqT.of hc, enc0, rfl, _, rfl, ?_⟩
    unfold toBind at q
    by_cases e : n1 c = 0
    · rw [if_pos e] at q
      refine ifT (decT e) ?_
      refine ⟨_, rfl, u, _, _, _, rfl, rfl, SqT.of hd, enc0, rfl, _, rfl, ?_⟩
      by_cases e2 : n1 d = 0
      · rw [if_pos e2] at q
        refine ifF (by rw [decT e2]; rfl) ?_
        exact ⟨_, rfl, t, _, _, _, rfl, rfl, SqT.of hc, enc1, _, rfl, u, _, _, _, rfl, rfl, SqT.of hd, enc1, _, _, rfl, rfl, q⟩
      · rw [if_neg e2] at q
        exact ifT (by rw [decF e2]; rfl) q
    · rw [if_neg e] at q
      exact ifF (decF e) q

/-! bind_to -/
abbrev sBT : Stmt := top 23
theorem scBT : FnScope ["machine", "variable", "cell"] ["machine", "variable", "cell"] (defScope sBT) := ⟨rfl, rfl, rfl, by decide +kernel, rfl, by decide +kernel, by decide +kernel⟩
def spBT (C CC : Addr) : Sp := fun vs H Q _ => ∃ (p dx l r t c tv tx : Addr) (a : Nat) (m : Lg04.M) (x : Cell), vs = [.ref p, .ref tv, .ref tx] ∧ Core C CC H p dx l r t c m ∧ a < m.heap.size ∧ m.heap.size ≤ 1000 ∧ m.trail.length ≤ 1000 ∧ CellIs H tv (.ref a) ∧ CellIs H tx x ∧ Good m.heap x ∧
  (within m.heap a x = true → ∀ H', Core C CC H' p dx l r t c m → Fr l t H H' → Q (.bl false) H') ∧
  (within m.heap a x = false → ∀ H', Core C CC H' p dx l r t c (Lg04.bind m a x) → Fr l t H H' → Q (.bl true) H')
theorem Core.same {C CC : Addr} {H H' : Hp} {p dx l r t c : Addr} {m : Lg04.M} (R : Core C CC H p dx l r t c m) (s : Same H H') : Core C CC H' p dx l r t c m :=
  ⟨s _ _ R.ins, R.heap.same s, s _ _ R.trail, (let ⟨qs, e, tp⟩ := R.tops; ⟨qs, s _ _ e, tp.keep fun q d2 fs e2 => s _ _ e2⟩), R.lt, R.lc, R.tc⟩
theorem ok_bt {C CC f fS fL fA fC fB : Addr} {fd fdS fdL fdA fdC fdB : FuncData} (D : Dn K mg "bind_to" sBT ["machine", "variable", "cell"] f fd)
    (GS : FnOk P w K mg base CX0 3 fS fdS ["heap", "variable", "cell"] spStands) (DS : Dn K mg "stands_in" sStands ["heap", "variable", "cell"] fS fdS)
    (GB : FnOk P w K mg base CX0 1 fB fdB ["self", "place", "cell"] (spBind C CC)) (bB : Binds K fdB ["self", "place", "cell"] []) (mB : Meth K C "bind" fB) (L : Cl K C CC) :
    FnOk P w K mg base CX0 4 f fd ["machine", "variable", "cell"] (spBT C CC) := by
  refine D.F.ok scBT (fun vs H Q E h => ?_) (fun cdv A outer s H vs Q E hr h => ?_)
  · obtain ⟨p, dx, l, r, t, c, tv, tx, a, m, x, rfl, _⟩ := h
    rfl
  · obtain ⟨p, dx, l, r, t, c, tv, tx, a, m, x, rfl, R, la, hs, htl, hv, hx, gx, q1, q2⟩ := h
    refine ⟨_, pss_cons (ps_if (pt_val (pe_call GS hr rfl DS.m DS.F.kp DS.b .nil pass0 (pa_cons (pe_fld (pv 0) rfl) (pa_cons (pv 1) (pa_cons (pv 2) pa_nil))))) (pss_one (ps_ret pe_bl)) pss_nil)
      (pss_cons (ps_expr (pe_meth (pv 0) L.cl mB GB (hr.mono (by decide)) bB .nil pass0 (pa_cons (pe_ix ix_tup (pv 1) pe_int (fun _ _ => rfl)) (pa_cons (pv 2) pa_nil))))
      (pss_one (ps_ret pe_bl))), ?_⟩
    refine ⟨_, rfl, p, C, dx, _, _, rfl, R.ins, L.cl, L.nh, mf_heap, _, rfl, _, rfl, l, tv, tx, a, m.heap, x, rfl, R.heap, hs, hv, hx, gx, fun H1 sm => ?_⟩
    have R1 := R.same sm
    refine ⟨_, rfl, ?_⟩
    cases e : within m.heap a x with
    | true => exact ifT rfl (q1 e H1 R1 (.of_same sm))
    | false =>
      refine ifF rfl ?_
      refine ⟨_, rfl, p, dx, _, rfl, R1.ins, ?_, _, rfl, tv, _, _, _, rfl, rfl, SqT.of (hv.keep (.of_same sm)), enc1, _, rfl, p, dx, l, r, t, c, tx, a, m, x, rfl, R1, la, htl, hx.keep (.of_same sm), fun H2 R2 f2 => ?_⟩
      · exact mf_none (by decide +kernel) (by decide +kernel) (by decide +kernel) (by decide +kernel)
      · exact q2 e H2 R2 (.trans (.of_same sm) f2)

/-! have_equal_heads -/
abbrev sEH : Stmt := top 24
theorem scEH : FnScope ["heap", "one", "other"] ["heap", "one", "other"] (defScope sEH) := ⟨rfl, rfl, rfl, by decide +kernel, rfl, by decide +kernel, by decide +kernel⟩
def eqHeads (h : Lg04.Heap) : Cell → Cell → Bool
  | .str a, .str b => decide (cellAt h a = cellAt h b)
  | _, _ => false
def spEH : Sp := fun vs H Q _ => ∃ (l t u : Addr) (h : Lg04.Heap) (c d : Cell), vs = [.ref l, .ref t, .ref u] ∧ HeapIs H l h ∧ CellIs H t c ∧ CellIs H u d ∧ Good h c ∧ Good h d ∧ Q (.bl (eqHeads h c d)) H
theorem head_plain {h : Lg04.Heap} {p : Nat} (g : Good h (.str p)) : p < h.size ∧ Plain (cellAt h p) := by
  obtain ⟨s, k, e, l1, l4, lb, _⟩ := g.parts
  rw [e]
  exact ⟨by omega, l1⟩
theorem ok_eh {f : Addr} {fd : FuncData} (D : Dn K mg "have_equal_heads" sEH ["heap", "one", "other"] f fd) (T : Txt K mg) : FnOk P w K mg base CX0 1 f fd ["heap", "one", "other"] spEH := by
  refine D.F.ok scEH (fun vs H Q E h => ?_) (fun cdv A outer s H vs Q E hr h => ?_)
  · obtain ⟨l, t, u, h, c, d, rfl, _⟩ := h
    rfl
  · obtain ⟨l, t, u, h, c, d, rfl, hh, hc, hd, gc, gd, q⟩ := h
    obtain ⟨ts, mgs⟩ := T.str
    refine ⟨_, pss_one (ps_ret (pe_and (pe_cmpR op_eq (pe_ix ix_tup (pv 1) pe_int (fun _ _ => rfl)) (pe_glob (v := .int 2) rfl mgs ⟨_, rfl⟩) (nomark _))
      (pe_and (pe_cmpR op_eq (pe_ix ix_tup (pv 2) pe_int (fun _ _ => rfl)) (pe_glob (v := .int 2) rfl mgs ⟨_, rfl⟩) (nomark _)) (pe_one
        (pe_cmpR (op_eqD hr.units) (pe_ix ix_list (pv 0) (pe_ix ix_tup (pv 1) pe_int (fun _ _ => rfl)) (fun _ _ => rfl)) (pe_ix ix_list (pv 0) (pe_ix ix_tup (pv 2) pe_int (fun _ _ => rfl)) (fun _ _ => rfl)) (nomark _)))))), ?_⟩
    refine ⟨_, rfl, t, _, _, _, rfl, rfl, SqT.of hc, enc0, rfl, _, rfl, ?_⟩
    by_cases e : n1 c = 2
    · refine ifT (decT e) ?_
      obtain ⟨a, rfl⟩ := of_n1_two gc.plain e
      refine ⟨_, rfl, u, _, _, _, rfl, rfl, SqT.of hd, enc0, rfl, _, rfl, ?_⟩
      by_cases e2 : n1 d = 2
      · refine ifT (decT e2) ?_
        obtain ⟨b, rfl⟩ := of_n1_two gd.plain e2
        obtain ⟨la, pa⟩ := head_plain gc
        obtain ⟨lb, pb⟩ := head_plain gd
        obtain ⟨v1, t1, h1, a1, c1⟩ := hh.item la
        obtain ⟨v2, t2, h2, a2, c2⟩ := hh.item lb
        refine ⟨_, rfl, _, rfl, t, _, _, _, rfl, rfl, SqT.of hc, enc1, l, _, _, _, rfl, rfl, SqL.of h1, a1, _, rfl, _, rfl, u, _, _, _, rfl, rfl, SqT.of hd, enc1, l, _, _, _, rfl, rfl, SqL.of h2, a2, _, _, c1.dp, c2.dp, dat_shaped _, dat_shaped _, ?_⟩
        rw [dat_inj pa pb]
        exact q
      · have z : eqHeads h (.str a) d = false := by
          cases d with
          | str b => exact absurd rfl e2
          | _ => rfl
        rw [z] at q
        exact ifF (decF e2) q
    · have z : eqHeads h c d = false := by
        cases c with
        | str b => exact absurd rfl e
        | _ => rfl
      rw [z] at q
      exact ifF (decF e) q
end
end Sw
namespace Sw
open PySem PySem.Spec PyProof.Rows
open L2 hiding Walk
open Lg04 (Cell cellAt look within)

/-- the tuples at bs are pairs of cells -/
inductive Pairs (H : Hp) : List Addr → List (Cell × Cell) → Prop where
  | nil : Pairs H [] []
  | cons {b : Addr} {c d : Cell} {bs : List Addr} {ps : List (Cell × Cell)} : PairIs H b c d → Pairs H bs ps → Pairs H (b :: bs) ((c, d) :: ps)
theorem Pairs.length {H : Hp} {bs : List Addr} {ps : List (Cell × Cell)} (x : Pairs H bs ps) : bs.length = ps.length := by
  induction x with
  | nil => rfl
  | cons _ _ ih => rw [List.length_cons, List.length_cons, ih]
theorem Pairs.append {H : Hp} {bs cs : List Addr} {ps qs : List (Cell × Cell)} (x : Pairs H bs ps) (y : Pairs H cs qs) : Pairs H (bs ++ cs) (ps ++ qs) := by
  induction x with
  | nil => exact y
  | cons h _ ih => exact .cons h ih
theorem Pairs.keep {H H' : Hp} {bs : List Addr} {ps : List (Cell × Cell)} (x : Pairs H bs ps) (k : Tups H H') : Pairs H' bs ps := by
  induction x with
  | nil => exact .nil
  | cons h _ ih => exact .cons (h.keep k) ih
theorem Pairs.snoc {H : Hp} {bs : List Addr} {ps : List (Cell × Cell)} {c d : Cell} (x : Pairs H bs (ps ++ [(c, d)])) : ∃ bs' b, bs = bs' ++ [b] ∧ Pairs H bs' ps ∧ PairIs H b c d := by
  induction ps generalizing bs with
  | nil =>
    cases x with
    | cons h r =>
      cases r
      exact ⟨[], _, rfl, .nil, h⟩
  | cons e ps ih =>
    cases x with
    | cons h r =>
      obtain ⟨bs', b, rfl, a, b⟩ := ih r
      exact ⟨_ :: bs', _, rfl, .cons h a, b⟩

/-- the arguments of two structures pair by pair, from the last on -/
def down (h : Lg04.Heap) (a b k : Nat) : List (Cell × Cell) := (List.range k).map fun i => (cellAt h (a + (k - i)), cellAt h (b + (k - i)))

section
variable {P : Program} {w : World} {K : PySem.W.Frag} {mg : Str → Option Value} {base : PySem.Heap}
abbrev sAP : Stmt := top 25
theorem scAP : FnScope ["heap", "one", "other", "count", "k"] ["heap", "one", "other"] (defScope sAP) := ⟨rfl, rfl, rfl, by decide +kernel, rfl, by decide +kernel, by decide +kernel⟩
def spAP : Sp := fun vs H Q _ => ∃ (l t u : Addr) (a b s k : Nat) (h : Lg04.Heap), vs = [.ref l, .ref t, .ref u] ∧ HeapIs H l h ∧ CellIs H t (.str a) ∧ CellIs H u (.str b) ∧ cellAt h a = .head s k ∧ k ≤ 4 ∧ a + k < h.size ∧ b + k < h.size ∧
  ∀ H' q bs, Same H H' → H q = none → H' q = some (.lst (bs.map V.ref)) → Pairs H' bs (down h a b k) → Q (.ref q) H'

theorem ok_ap {f fC : Addr} {fd fdC : FuncData} (D : Dn K mg "argument_pairs" sAP ["heap", "one", "other"] f fd) (DC : Dn K mg "argument_count" sCount ["heap", "head_place"] fC fdC) (T : Txt K mg) (rng : mg "range" = none) :
    FnOk P w K mg base CX0 2 f fd ["heap", "one", "other"] spAP := by
  have GC : FnOk P w K mg base CX0 1 fC fdC ["heap", "head_place"] spCount := ok_count DC T
  refine D.F.ok scAP (fun vs H Q E h => ?_) (fun cdv A outer s H vs Q E hr h => ?_)
  · obtain ⟨l, t, u, a, b, s, k, h, rfl, _⟩ := h
    rfl
  · obtain ⟨l, t, u, a, b, sy, k, h, rfl, hh, ht, hu, e, l4, la, lb, q⟩ := h
    refine ⟨_, pss_cons (ps_set (i := 3) scAP.nd rfl (Or.inl rfl) (pe_call GC hr rfl DC.m DC.F.kp DC.b .nil pass0 (pa_cons (pv 0) (pa_cons (pe_ix ix_tup (pv 1) pe_int (fun _ _ => rfl)) pa_nil))))
      (pss_one (ps_ret (pe_lc (own := [("k", 4)]) (g := gName 4) (tt := tYes) rfl scAP.nd (pi_range3 (by rfl) rng (pa_cons (pv 3) (pa_cons pe_int (pa_cons (pe_un un_neg pe_int) pa_nil)))) (blkOk_by (N := ["heap", "one", "other", "count", "k"]) (sc := defScope sAP) (by decide +kernel))
        (fun _ _ _ _ _ => pg_name (i := 4) scAP.nd rfl (Or.inl rfl)) (fun _ _ _ _ _ => pts_nil)
        (fun _ _ _ _ _ => pe_tup (pa_cons (pe_ix (r := rIxL K) ix_list (pv 0) (pe_op op_add (pe_ix (r := rIxT K) ix_tup (pv 1) pe_int (fun _ _ => rfl)) (pv 4)) (fun _ _ => rfl)) (pa_cons (pe_ix (r := rIxL K) ix_list (pv 0) (pe_op op_add (pe_ix (r := rIxT K) ix_tup (pv 2) pe_int (fun _ _ => rfl)) (pv 4)) (fun _ _ => rfl)) pa_nil)))))), ?_⟩
    refine ⟨_, rfl, _, rfl, t, _, _, _, rfl, rfl, SqT.of ht, enc1, l, a, sy, k, h, rfl, hh, by omega, e, ?_⟩
    refine ⟨_, rfl, _, rfl, (k : Int), 0, -1, ((k : Int) - 0).toNat, rfl, RgC.neg (by omega) (by omega) (by decide) (by decide), fun d hd => ?_⟩
    have en : ((k : Int) - 0).toNat = k := by omega
    rw [en]
    refine lc_it (L2.walk_rangeC) (fun i H' => Same H H' ∧ ∃ bs, H' d = some (.lst (bs.map V.ref)) ∧ Pairs H' bs ((down h a b k).take i)) ⟨same_new hd, [], upd_same, .nil⟩ (fun _ _ _ _ => trivial) ?_ ?_
    · rintro i x H0 H1 li ⟨sm, bs, h1, h2⟩ ⟨rfl, rfl⟩
      have e1 : (k : Int) + (i : Nat) * (-1) = ((k - i : Nat) : Int) := by omega
      refine ⟨rfl, ?_⟩
      unfold tYes
      refine iteT ?_
      have hH := hh.same sm
      obtain ⟨v1, t1, g1, a1, c1⟩ := hH.item (a := a + (k - i)) (by omega)
      obtain ⟨v2, t2, g2, a2, c2⟩ := hH.item (a := b + (k - i)) (by omega)
      have z1 : n2 (Cell.str a) + ((k : Int) + (i : Nat) * (-1)) = ((a + (k - i) : Nat) : Int) := by show (a : Int) + _ = _; omega
      have z2 : n2 (Cell.str b) + ((k : Int) + (i : Nat) * (-1)) = ((b + (k - i) : Nat) : Int) := by show (b : Int) + _ = _; omega
      refine ⟨_, rfl, _, rfl, t, _, _, _, rfl, rfl, SqT.of (ht.keep (.of_same sm)), enc1, _, rfl, _, _, rfl, rfl, l, _, _, _, rfl, rfl, SqL.of g1, (by rw [z1]; exact a1), ?_⟩
      refine ⟨_, rfl, _, rfl, u, _, _, _, rfl, rfl, SqT.of (hu.keep (.of_same sm)), enc1, _, rfl, _, _, rfl, rfl, l, _, _, _, rfl, rfl, SqL.of g2, (by rw [z2]; exact a2), (by show 2 ≤ sizeLine; decide), fun p hp => ?_⟩
      have dp : d ≠ p := ne_of_none h1 hp
      refine ⟨_, (by rw [upd_ne dp]; exact h1), ?_, ?_⟩
      · rw [List.length_map, h2.length, List.length_take]
        exact small1000 (by omega)
      · have sm2 : Same H (upd H1 p (.tup [.ref t1, .ref t2])) := fun y o ey => by rw [upd_ne (ne_of_none (sm _ _ ey) hp)]; exact sm _ _ ey
        have tu : Tups H1 (upd (upd H1 p (.tup [.ref t1, .ref t2])) d (.lst (bs.map V.ref ++ [.ref p]))) := (Tups.new hp).trans (Tups.lst (by rw [upd_ne dp]; exact h1))
        refine ⟨fun y o ey => by rw [upd_ne (ne_of_none ey hd)]; exact sm2 _ _ ey, bs ++ [p], (by rw [upd_same, List.map_append]; rfl), ?_⟩
        have ed : (down h a b k).take (i + 1) = (down h a b k).take i ++ [(cellAt h (a + (k - i)), cellAt h (b + (k - i)))] := by
          have : (down h a b k)[i]? = some (cellAt h (a + (k - i)), cellAt h (b + (k - i))) := by
            unfold down
            rw [List.getElem?_map, List.getElem?_range li]
            rfl
          rw [List.take_add_one, this]
          rfl
        rw [ed]
        refine (h2.keep tu).append (.cons ⟨t1, t2, ?_, c1.keep tu, c2.keep tu⟩ .nil)
        rw [upd_ne (Ne.symm dp), upd_same]
    · rintro H' ⟨sm, bs, h1, h2⟩
      have dl : (down h a b k).length = k := by unfold down; rw [List.length_map, List.length_range]
      rw [List.take_of_length_le (by omega)] at h2
      exact q H' d bs sm hd h1 h2
end
end Sw
namespace Sw
open PySem PySem.Spec PyProof.Rows
open L2 hiding Walk
open Lg04 (Cell cellAt look within unify same)

def strP (q : Nat × Nat) : Cell × Cell := (.str q.1, .str q.2)
/-- between two turns of making the same -/
def TW (P : Program) (w : World) (C CC : Addr) (H : Hp) (p dx l r t c t1 t2 wl d : Addr) (m0 : Lg04.M) (x y : Cell) (mz : Nat) (σ : L2.St) (H' : Hp) : Prop :=
  ∃ (bs : List Addr) (ws : List (Cell × Cell)) (ps : List (Cell × Cell × Addr)) (lst : List (Cell × Cell)) (seen : List (Nat × Nat)) (n : Nat) (m : Lg04.M) (v5 v6 v7 v8 : Option V),
    σ = [some (.ref p), some (.ref t1), some (.ref t2), some (.ref wl), some (.ref d), v5, v6, v7, v8] ∧
    H' wl = some (.lst (bs.map V.ref)) ∧ Pairs H' bs ws ∧ Lst m.heap ws lst ∧ PairsOk m.heap lst ∧
    H' d = some (PD P w d ps) ∧ PairsOk2 H' ps ∧ pairsOf ps = seen.reverse.map strP ∧ (∀ q, q ∈ seen → q.1 < m0.heap.size ∧ q.2 < m0.heap.size) ∧
    Core C CC H' p dx l r t c m ∧ Inv m ∧ Kept m0 m ∧ Fr l t H H' ∧ unify m0 x y = same n lst seen m ∧
    lst.length + 5 * left2 m0.heap.size seen ≤ n ∧ lst.length + 5 * left2 m0.heap.size seen ≤ 5 * (m0.heap.size * m0.heap.size) + 1 ∧ seen.length + left2 m0.heap.size seen ≤ m0.heap.size * m0.heap.size ∧ mz = lst.length + 5 * left2 m0.heap.size seen

theorem Core.upd {C CC : Addr} {H : Hp} {p dx l r t c q : Addr} {m : Lg04.M} {o : HO} (R : Core C CC H p dx l r t c m) (np : q ≠ p) (nl : q ≠ l) (nt : q ≠ t) (nc : q ≠ c) (tu : Tups H (L2.upd H q o))
    (ni : ∀ u d2 fs, H u = some (.ins CC d2 fs) → u ≠ q) : Core C CC (L2.upd H q o) p dx l r t c m := by
  refine ⟨?_, ?_, ?_, ?_, R.lt, R.lc, R.tc⟩
  · rw [upd_ne (Ne.symm np)]; exact R.ins
  · obtain ⟨us, e2, cs⟩ := R.heap
    exact ⟨us, (by rw [upd_ne (Ne.symm nl)]; exact e2), cs.keep tu⟩
  · rw [upd_ne (Ne.symm nt)]; exact R.trail
  · obtain ⟨qs, e2, tp⟩ := R.tops
    exact ⟨qs, (by rw [upd_ne (Ne.symm nc)]; exact e2), tp.keep fun u d2 fs e3 => by rw [upd_ne (ni u d2 fs e3)]; exact e3⟩
theorem toBind_yes {c d : Cell} (h : toBind c d = true) : ∃ a, c = .ref a ∧ ∀ b, d = .ref b → b < a := by
  unfold toBind at h
  by_cases e : n1 c = 0
  · rw [if_pos e] at h
    obtain ⟨a, rfl⟩ := of_n1_zero e
    refine ⟨a, rfl, fun b eb => ?_⟩
    subst eb
    rw [if_pos (show n1 (Cell.ref b) = 0 from rfl)] at h
    have : (a : Int) > (b : Int) := of_decide_eq_true h
    omega
  · rw [if_neg e] at h
    cases h
theorem toBind_no {c d : Cell} (ne : c ≠ d) (h : toBind c d = false) (h' : toBind d c = false) : (∀ a, c ≠ .ref a) ∧ (∀ a, d ≠ .ref a) := by
  constructor
  · intro a e
    subst e
    unfold toBind at h
    rw [if_pos (show n1 (Cell.ref a) = 0 from rfl)] at h
    by_cases e2 : n1 d = 0
    · rw [if_pos e2] at h
      obtain ⟨b, rfl⟩ := of_n1_zero e2
      unfold toBind at h'
      rw [if_pos (show n1 (Cell.ref b) = 0 from rfl), if_pos (show n1 (Cell.ref a) = 0 from rfl)] at h'
      have h1 := of_decide_eq_false h
      have h2 := of_decide_eq_false h'
      have h1 : ¬ (a : Int) > (b : Int) := h1
      have h2 : ¬ (b : Int) > (a : Int) := h2
      exact ne (by rw [show a = b by omega])
    · rw [if_neg e2] at h
      cases h
  · intro b e
    subst e
    unfold toBind at h'
    rw [if_pos (show n1 (Cell.ref b) = 0 from rfl)] at h'
    by_cases e2 : n1 c = 0
    · rw [if_pos e2] at h'
      obtain ⟨a, rfl⟩ := of_n1_zero e2
      unfold toBind at h
      rw [if_pos (show n1 (Cell.ref a) = 0 from rfl), if_pos (show n1 (Cell.ref b) = 0 from rfl)] at h
      have h1 := of_decide_eq_false h
      have h2 := of_decide_eq_false h'
      have h1 : ¬ (a : Int) > (b : Int) := h1
      have h2 : ¬ (b : Int) > (a : Int) := h2
      exact ne (by rw [show a = b by omega])
    · rw [if_neg e2] at h'
      cases h'
theorem eqHeads_yes {h : Lg04.Heap} {c d : Cell} (e : eqHeads h c d = true) : ∃ a b, c = .str a ∧ d = .str b ∧ cellAt h a = cellAt h b := by
  cases c with
  | str a =>
    cases d with
    | str b => exact ⟨a, b, rfl, rfl, of_decide_eq_true e⟩
    | _ => cases e
  | _ => cases e

section
variable {P : Program} {w : World} {K : PySem.W.Frag} {mg : Str → Option Value} {base : PySem.Heap}
abbrev sTry : Stmt := top 26
theorem scTry : FnScope ["machine", "first", "second", "waiting", "entered", "pair", "one", "other", "fits"] ["machine", "first", "second"] (defScope sTry) := ⟨rfl, rfl, rfl, by decide +kernel, rfl, by decide +kernel, by decide +kernel⟩
def spTry (C CC : Addr) : Sp := fun vs H Q _ => ∃ (p dx l r t c t1 t2 : Addr) (m : Lg04.M) (x y : Cell), vs = [.ref p, .ref t1, .ref t2] ∧ Core C CC H p dx l r t c m ∧ Inv m ∧ m.heap.size ≤ 1000 ∧ CellIs H t1 x ∧ CellIs H t2 y ∧ Good m.heap x ∧ Good m.heap y ∧
  (∀ n H', unify m x y = some n → Core C CC H' p dx l r t c n → Fr l t H H' → Q (.bl true) H') ∧
  (∀ H', unify m x y = none → Fr l t H H' → Q (.bl false) H')

theorem ok_try {C CC f fL fT fB fE fP : Addr} {fd fdL fdT fdB fdE fdP : FuncData} (D : Dn K mg "try_to_make_same" sTry ["machine", "first", "second"] f fd) (L : Cl K C CC) (len : mg "len" = none)
    (GL : FnOk P w K mg base CX0 1 fL fdL ["heap", "cell"] spLook) (DL : Dn K mg "looked_through" sLook ["heap", "cell"] fL fdL)
    (GT : FnOk P w K mg base CX0 1 fT fdT ["cell", "other"] spTB) (DT : Dn K mg "is_to_bind" sTB ["cell", "other"] fT fdT)
    (GB : FnOk P w K mg base CX0 4 fB fdB ["machine", "variable", "cell"] (spBT C CC)) (DB : Dn K mg "bind_to" sBT ["machine", "variable", "cell"] fB fdB)
    (GE : FnOk P w K mg base CX0 1 fE fdE ["heap", "one", "other"] spEH) (DE : Dn K mg "have_equal_heads" sEH ["heap", "one", "other"] fE fdE)
    (GP : FnOk P w K mg base CX0 2 fP fdP ["heap", "one", "other"] spAP) (DP : Dn K mg "argument_pairs" sAP ["heap", "one", "other"] fP fdP) :
    FnOk P w K mg base CX0 5 f fd ["machine", "first", "second"] (spTry C CC) := by
  refine D.F.ok scTry (fun vs H Q E h => ?_) (fun cdv A outer s H vs Q E hr h => ?_)
  · obtain ⟨p, dx, l, r, t, c, t1, t2, m, x, y, rfl, _⟩ := h
    rfl
  · obtain ⟨p, dx, l, r, t, c, t1, t2, m0, x, y, rfl, R, I0, hs, h1, h2, g1, g2, q1, q2⟩ := h
    have hr1 : Room 1 _ := hr.mono (by decide)
    have hr2 : Room 2 _ := hr.mono (by decide)
    refine ⟨_, pss_cons (ps_set (i := 3) scTry.nd rfl (Or.inl rfl) (pe_lst (pa_cons (pe_tup (pa_cons (pv 1) (pa_cons (pv 2) pa_nil))) pa_nil)))
      (pss_cons (ps_set (i := 4) scTry.nd rfl (Or.inl rfl) pe_pdnew)
      (pss_cons (ps_while PassesOwn.never (pt_cmpR op_gt (pe_callB call_len_seq (by rfl) len PySem.boot_len (pa_cons (pv 3) pa_nil)) pe_int (nomark _))
        (pss_cons (ps_set (i := 5) scTry.nd rfl (Or.inl rfl) (pe_bm0 PySem.F.plainAttrs_list PySem.F.slot_list_pop PySem.F.type_list_pop mt_pop (pv 3)))
        (pss_cons (ps_set (i := 6) scTry.nd rfl (Or.inl rfl) (pe_call GL hr1 rfl DL.m DL.F.kp DL.b .nil pass0 (pa_cons (pe_fld (pv 0) rfl) (pa_cons (pe_ix ix_tup (pv 5) pe_int (fun _ _ => rfl)) pa_nil))))
        (pss_cons (ps_set (i := 7) scTry.nd rfl (Or.inl rfl) (pe_call GL hr1 rfl DL.m DL.F.kp DL.b .nil pass0 (pa_cons (pe_fld (pv 0) rfl) (pa_cons (pe_ix ix_tup (pv 5) pe_int (fun _ _ => rfl)) pa_nil))))
        (pss_cons (ps_if (PW.pt (pw_or (pt_cmpR (op_eqD hr.units) (pv 6) (pv 7) (nomark _)) (pw_or1 (pt_cmp (pc_pdin hr.units (pe_tup (pa_cons (pv 6) (pa_cons (pv 7) pa_nil))) (pv 4)))))) (pss_one ps_continue) pss_nil)
        (pss_cons (ps_if (pt_val (pe_call GT hr1 rfl DT.m DT.F.kp DT.b .nil pass0 (pa_cons (pv 6) (pa_cons (pv 7) pa_nil))))
            (pss_one (ps_set (i := 8) scTry.nd rfl (Or.inl rfl) (pe_call GB hr rfl DB.m DB.F.kp DB.b .nil pass0 (pa_cons (pv 0) (pa_cons (pv 6) (pa_cons (pv 7) pa_nil))))))
          (pss_one (ps_if (pt_val (pe_call GT hr1 rfl DT.m DT.F.kp DT.b .nil pass0 (pa_cons (pv 7) (pa_cons (pv 6) pa_nil))))
            (pss_one (ps_set (i := 8) scTry.nd rfl (Or.inl rfl) (pe_call GB hr rfl DB.m DB.F.kp DB.b .nil pass0 (pa_cons (pv 0) (pa_cons (pv 7) (pa_cons (pv 6) pa_nil))))))
            (pss_cons (ps_set (i := 8) scTry.nd rfl (Or.inl rfl) (pe_call GE hr1 rfl DE.m DE.F.kp DE.b .nil pass0 (pa_cons (pe_fld (pv 0) rfl) (pa_cons (pv 6) (pa_cons (pv 7) pa_nil)))))
            (pss_one (ps_if (pt_val (pv 8))
              (pss_cons (ps_pdput hr.units (pv 4) (pe_tup (pa_cons (pv 6) (pa_cons (pv 7) pa_nil))) pe_bl rfl)
              (pss_one (ps_expr (pe_bm PySem.F.plainAttrs_list PySem.F.slot_list_extend PySem.F.type_list_extend mt_extend (pv 3) (pa_cons (pe_call GP hr2 rfl DP.m DP.F.kp DP.b .nil pass0 (pa_cons (pe_fld (pv 0) rfl) (pa_cons (pv 6) (pa_cons (pv 7) pa_nil)))) pa_nil)))))
              pss_nil))))))
        (pss_one (ps_if (pt_not (pt_val (pv 8))) (pss_one (ps_ret pe_bl)) pss_nil))))))))
      (pss_one (ps_ret pe_bl)))), ?_⟩
    refine ⟨_, rfl, _, rfl, (by show 2 ≤ sizeLine; decide), fun b0 hb0 => ⟨(by show 1 ≤ sizeLine; decide), fun wl hwl => ?_⟩⟩
    intro d hd
    have nbw : b0 ≠ wl := fun z => by subst z; rw [upd_same] at hwl; cases hwl
    have hwl0 : H wl = none := by rw [upd_ne (Ne.symm nbw)] at hwl; exact hwl
    have nwd : wl ≠ d := fun z => by subst z; rw [upd_same] at hd; cases hd
    have nbd : b0 ≠ d := fun z => by subst z; rw [upd_ne nbw, upd_same] at hd; cases hd
    have hd0 : H d = none := by rw [upd_ne (Ne.symm nwd), upd_ne (Ne.symm nbd)] at hd; exact hd
    have sm0 : Same H (upd (upd (upd H b0 (.tup [.ref t1, .ref t2])) wl (.lst [.ref b0])) d (PD P w d [])) := fun b o e => by
      rw [upd_ne (ne_of_none e hd0), upd_ne (ne_of_none e hwl0), upd_ne (ne_of_none e hb0)]; exact e
    have lwl : l ≠ wl := by obtain ⟨us, eu, _⟩ := R.heap; exact ne_of_none eu hwl0
    have ld : l ≠ d := by obtain ⟨us, eu, _⟩ := R.heap; exact ne_of_none eu hd0
    have twl : t ≠ wl := ne_of_none R.trail hwl0
    have td : t ≠ d := ne_of_none R.trail hd0
    have N2 : m0.heap.size * m0.heap.size ≤ 1000000 := Nat.mul_le_mul hs hs
    refine ⟨TW P w C CC H p dx l r t c t1 t2 wl d m0 x y, ⟨_, [b0], [(x, y)], [], [(x, y)], [], Lg04.FUEL, m0, none, none, none, none, rfl, ?_, ?_, ?_, ?_, upd_same, ?_, rfl, ?_, R.same sm0, I0, .rfl, .of_same sm0, rfl, ?_, ?_, ?_, rfl⟩, ?_⟩
    · rw [upd_ne nwd, upd_same]; rfl
    · refine .cons ⟨t1, t2, ?_, h1.keep (.of_same sm0), h2.keep (.of_same sm0)⟩ .nil
      rw [upd_ne nbd, upd_ne nbw, upd_same]
    · exact Lst.snoc (.inl rfl) (.inl rfl) .nil
    · intro q mq
      simp at mq
      subst mq
      exact ⟨g1, g2⟩
    · intro e me
      cases me
    · intro q mq
      cases mq
    · have : left2 m0.heap.size [] ≤ m0.heap.size * m0.heap.size := unseen_le
      show 1 + _ ≤ 100000000
      omega
    · have : left2 m0.heap.size [] ≤ m0.heap.size * m0.heap.size := unseen_le
      show 1 + _ ≤ _
      omega
    · have : left2 m0.heap.size [] ≤ m0.heap.size * m0.heap.size := unseen_le
      show 0 + _ ≤ _
      omega
    rintro mz σ H' ⟨bs, ws, ps, lst, seen, n, m, v5, v6, v7, v8, rfl, hw, hbs, hl, ok, hdd, pk, epk, low, Rm, I, Kp, fr, eu, fu, lc, lse, rfl⟩
    refine ⟨_, rfl, wl, _, rfl, .inl (SqL.of hw), _, _, rfl, rfl, _, rfl, ?_⟩
    rw [List.length_map, hbs.length]
    cases hl with
    | nil =>
      refine ifF (decide_eq_false (by simp)) ?_
      have eu2 : unify m0 x y = some m := by rw [eu]; cases n <;> rfl
      exact q1 m H' eu2 Rm fr
    | @snoc c1 d1 c2 d2 ws' l' le1 le2 hl' =>
      refine ifT (decide_eq_true (by simp)) ?_
      obtain ⟨bs', b1, rfl, hbs', pb⟩ := hbs.snoc
      obtain ⟨u1, u2, hb1, hc1, hc2⟩ := pb
      refine ⟨fun σ' H' => ∃ m', m' < ((c2, d2) :: l').length + 5 * left2 m0.heap.size seen ∧ TW P w C CC H p dx l r t c t1 t2 wl d m0 x y m' σ' H', fun _ _ z => z, ?_⟩
      rw [List.length_cons] at fu lc
      rw [List.length_cons]
      obtain ⟨gp1, gp2⟩ := ok (c2, d2) (.head _)
      have okr : PairsOk m.heap l' := fun z mz => ok z (.tail _ mz)
      obtain ⟨n', rfl⟩ : ∃ n', n = n' + 1 := ⟨n - 1, by omega⟩
      -- the pair is taken off
      refine ⟨_, rfl, .inl ⟨rfl, _, SqL.of hw⟩, wl, _, _, rfl, rfl, hw, (by rw [List.length_map, List.length_append, List.length_singleton, Nat.add_sub_cancel, List.map_append, List.getElem?_append_right (by simp)]; simp; rfl), ?_⟩
      rw [List.map_append, List.map_singleton, List.dropLast_concat]
      generalize eH1 : upd H' wl (.lst (bs'.map V.ref)) = H1
      have tu1 : Tups H' H1 := by rw [← eH1]; exact Tups.lst hw
      have hw1 : H1 wl = some (.lst (bs'.map V.ref)) := by rw [← eH1, upd_same]
      have hd1 : H1 d = some (PD P w d ps) := by rw [← eH1, upd_ne (Ne.symm nwd)]; exact hdd
      have fr1 : Fr l t H H1 := fun b o e nl nt => by rw [← eH1, upd_ne (ne_of_none e hwl0)]; exact fr b o e nl nt
      have wc : wl ≠ c := by
        obtain ⟨qs, eq, _⟩ := R.tops
        exact Ne.symm (ne_of_none eq hwl0)
      have R1 : Core C CC H1 p dx l r t c m := by
        refine ⟨?_, ?_, ?_, ?_, Rm.lt, Rm.lc, Rm.tc⟩
        · rw [← eH1, upd_ne (ne_of Rm.ins hw (fun z => nomatch z))]; exact Rm.ins
        · obtain ⟨us, e2, cs⟩ := Rm.heap
          exact ⟨us, (by rw [← eH1, upd_ne lwl]; exact e2), cs.keep tu1⟩
        · rw [← eH1, upd_ne twl]; exact Rm.trail
        · obtain ⟨qs, e2, tp⟩ := Rm.tops
          exact ⟨qs, (by rw [← eH1, upd_ne (Ne.symm wc)]; exact e2), tp.keep fun q d2 fs e3 => by rw [← eH1, upd_ne (ne_of e3 hw (fun z => nomatch z))]; exact e3⟩
      have hb1' := tu1 _ _ hb1
      have pk1 : PairsOk2 H1 ps := fun e me => (pk e me).keep tu1
      have gc1 : Good m.heap c1 := le1.good gp1
      have gd1 : Good m.heap d1 := le2.good gp2
      refine ⟨_, rfl, p, C, dx, _, _, rfl, R1.ins, L.cl, L.nh, mf_heap, _, rfl, b1, _, _, _, rfl, rfl, SqT.of hb1', rfl, l, u1, m.heap, c1, rfl, R1.heap, hc1.keep tu1, gc1, fun w1 hw1c => ?_⟩
      refine ⟨_, rfl, p, C, dx, _, _, rfl, R1.ins, L.cl, L.nh, mf_heap, _, rfl, b1, _, _, _, rfl, rfl, SqT.of hb1', rfl, l, u2, m.heap, d1, rfl, R1.heap, hc2.keep tu1, gd1, fun w2 hw2c => ?_⟩
      obtain ⟨gx, fx⟩ := look_good gc1
      obtain ⟨gy, fy⟩ := look_good gd1
      rw [le1.look] at gx fx hw1c
      rw [le2.look] at gy fy hw2c
      refine ⟨_, rfl, _, rfl, _, _, hw1c.dp, hw2c.dp, dat_shaped _, dat_shaped _, _, rfl, ?_⟩
      rw [dat_inj gx.plain gy.plain]
      obtain ⟨hls, hlE, _⟩ := R1.heap
      have contTo : ∀ (m' : Lg04.M) (H3 : Hp) (v5 v6 v7 v8 : Option V), Fr l t H1 H3 → Core C CC H3 p dx l r t c m' → Inv m' → Kept m m' → unify m0 x y = same n' l' seen m' →
          ∃ z, z < l'.length + 1 + 5 * left2 m0.heap.size seen ∧ TW P w C CC H p dx l r t c t1 t2 wl d m0 x y z [some (.ref p), some (.ref t1), some (.ref t2), some (.ref wl), some (.ref d), v5, v6, v7, v8] H3 :=
        fun m' H3 v5 v6 v7 v8 f3 R3 I3 K3 e3 => by
          have tu3 : Tups H1 H3 := f3.tups hlE R1.trail
          exact ⟨_, (by show l'.length + 5 * left2 m0.heap.size seen < _; omega), bs', ws', ps, l', seen, n', m', v5, v6, v7, v8, rfl, f3 _ _ hw1 (Ne.symm lwl) (Ne.symm twl), (hbs'.keep tu1).keep tu3, hl'.kept K3, fun z mz => ⟨K3.good _ (okr z mz).1, K3.good _ (okr z mz).2⟩,
            f3 _ _ hd1 (Ne.symm ld) (Ne.symm td), fun e me => (pk1 e me).keep tu3, epk, low, R3, I3, Kp.trans K3, fr1.trans f3, e3, by omega, by omega, lse, rfl⟩
      have skipTo : ∀ (H3 : Hp) (v5 v6 v7 v8 : Option V), Same H1 H3 → unify m0 x y = same n' l' seen m →
          ∃ z, z < l'.length + 1 + 5 * left2 m0.heap.size seen ∧ TW P w C CC H p dx l r t c t1 t2 wl d m0 x y z [some (.ref p), some (.ref t1), some (.ref t2), some (.ref wl), some (.ref d), v5, v6, v7, v8] H3 :=
        fun H3 v5 v6 v7 v8 sm3 e3 => contTo m H3 v5 v6 v7 v8 (.of_same sm3) (R1.same sm3) I .rfl e3
      generalize eX : look m.heap c2 = X at gx fx hw1c
      generalize eY : look m.heap d2 = Y at gy fy hw2c
      by_cases ev : X = Y
      · refine ifT (decide_eq_true ev) (iteT (skipTo H1 _ _ _ _ (.refl _) ?_))
        rw [eu]
        refine step_eq ?_ ?_
        · show Good m.heap (look m.heap c2)
          rw [eX]; exact gx
        · show look m.heap c2 = look m.heap d2
          rw [eX, eY]; exact ev
      refine ifF (decide_eq_false ev) ?_
      refine ⟨_, rfl, _, rfl, (by show 2 ≤ sizeLine; decide), fun b2 hb2 => ?_⟩
      have sm2 : Same H1 (upd H1 b2 (.tup [.ref w1, .ref w2])) := same_new hb2
      have pr2 : PairIs (upd H1 b2 (.tup [.ref w1, .ref w2])) b2 X Y := ⟨w1, w2, upd_same, hw1c.keep (.of_same sm2), hw2c.keep (.of_same sm2)⟩
      generalize upd H1 b2 (.tup [.ref w1, .ref w2]) = H2 at sm2 pr2
      have hd2 := sm2 _ _ hd1
      have pk2 : PairsOk2 H2 ps := fun e me => (pk1 e me).keep (.of_same sm2)
      have plain : ∀ e, e ∈ ps → Plain e.1 ∧ Plain e.2.1 := fun e me => by
        have : (e.1, e.2.1) ∈ pairsOf ps := List.mem_map.mpr ⟨e, me, rfl⟩
        rw [epk] at this
        obtain ⟨q, _, eq⟩ := List.mem_map.mp this
        have e1 : Cell.str q.1 = e.1 := congrArg Prod.fst eq
        have e2 : Cell.str q.2 = e.2.1 := congrArg Prod.snd eq
        rw [← e1, ← e2]
        exact ⟨trivial, trivial⟩
      refine ⟨_, rfl, d, b2, X, Y, ps, rfl, rfl, hd2, pr2, pk2, _, rfl, ?_⟩
      rw [atKey_none gx.plain gy.plain plain]
      by_cases me : (X, Y) ∈ pairsOf ps
      · refine ifT (decide_eq_true me) (skipTo H2 _ _ _ _ sm2 ?_)
        rw [epk] at me
        obtain ⟨q, mq, eq⟩ := List.mem_map.mp me
        have mq : q ∈ seen := List.mem_reverse.mp mq
        cases eq
        rw [eu]
        exact step_seen (a := q.1) (b := q.2) eX eY mq
      refine ifF (decide_eq_false me) ?_
      have hw12 := hw1c.keep (Tups.of_same sm2)
      have hw22 := hw2c.keep (Tups.of_same sm2)
      have R2 := R1.same sm2
      have hsz : m.heap.size ≤ 1000 := by rw [Kp.size]; exact hs
      have htl : m.trail.length ≤ 1000 := Nat.le_trans I.trail_le hsz
      have fail : ∀ H3, Fr l t H1 H3 → unify m0 x y = none → Q (.bl false) H3 := fun H3 f3 e3 => q2 H3 e3 (fr1.trans f3)
      refine ⟨_, rfl, _, rfl, w1, w2, X, Y, rfl, hw12, hw22, _, rfl, ?_⟩
      by_cases tb : toBind X Y = true
      · refine ifT tb ?_
        obtain ⟨a, rfl, lt⟩ := toBind_yes tb
        refine ⟨_, rfl, _, rfl, _, rfl, p, dx, l, r, t, c, w1, w2, a, m, Y, rfl, R2, fx.1, hsz, htl, hw12, hw22, gy, fun wi H3 R3 f3 => ?_, fun wi H3 R3 f3 => ?_⟩
        · refine ⟨_, rfl, _, rfl, iteT (fail H3 (.trans (.of_same sm2) f3) ?_)⟩
          rw [eu, step_one eX eY gy fy lt, if_pos wi]
        · have ik : Inv (Lg04.bind m a Y) ∧ Kept m (Lg04.bind m a Y) := by
            cases Y with
            | ref b => exact bind_var I fx fy (lt b rfl)
            | con s => exact bind_term I fx gy (fun b z => by cases z) wi
            | str s => exact bind_term I fx gy (fun b z => by cases z) wi
            | head s j => exact gy.no_head.elim
          refine ⟨_, rfl, _, rfl, iteF (contTo _ H3 _ _ _ _ (.trans (.of_same sm2) f3) R3 ik.1 ik.2 ?_)⟩
          rw [eu, step_one eX eY gy fy lt, if_neg (by rw [wi]; decide)]
      refine ifF (by simpa using tb) ?_
      refine ⟨_, rfl, _, rfl, w2, w1, Y, X, rfl, hw22, hw12, _, rfl, ?_⟩
      by_cases tb2 : toBind Y X = true
      · refine ifT tb2 ?_
        obtain ⟨a, rfl, lt⟩ := toBind_yes tb2
        refine ⟨_, rfl, _, rfl, _, rfl, p, dx, l, r, t, c, w2, w1, a, m, X, rfl, R2, fy.1, hsz, htl, hw22, hw12, gx, fun wi H3 R3 f3 => ?_, fun wi H3 R3 f3 => ?_⟩
        · refine ⟨_, rfl, _, rfl, iteT (fail H3 (.trans (.of_same sm2) f3) ?_)⟩
          rw [eu, step_two eX eY gx fx lt, if_pos wi]
        · have ik : Inv (Lg04.bind m a X) ∧ Kept m (Lg04.bind m a X) := by
            cases X with
            | ref b => exact bind_var I fy fx (lt b rfl)
            | con s => exact bind_term I fy gx (fun b z => by cases z) wi
            | str s => exact bind_term I fy gx (fun b z => by cases z) wi
            | head s j => exact gx.no_head.elim
          refine ⟨_, rfl, _, rfl, iteF (contTo _ H3 _ _ _ _ (.trans (.of_same sm2) f3) R3 ik.1 ik.2 ?_)⟩
          rw [eu, step_two eX eY gx fx lt, if_neg (by rw [wi]; decide)]
      refine ifF (by simpa using tb2) ?_
      obtain ⟨nx, ny⟩ := toBind_no ev (by simpa using tb) (by simpa using tb2)
      refine ⟨_, rfl, p, C, dx, _, _, rfl, R2.ins, L.cl, L.nh, mf_heap, _, rfl, _, rfl, l, w1, w2, m.heap, X, Y, rfl, R2.heap, hw12, hw22, gx, gy, ?_⟩
      refine ⟨_, rfl, _, rfl, ?_⟩
      cases eh : eqHeads m.heap X Y with
      | false =>
        refine ifF rfl ?_
        refine ⟨_, rfl, _, rfl, iteT (fail H2 (.of_same sm2) ?_)⟩
        rw [eu]
        refine step_fail eX eY ev nx ny fun a b ea eb => ?_
        subst ea eb
        refine ⟨fun z => me ?_, of_decide_eq_false eh⟩
        rw [epk]
        exact List.mem_map.mpr ⟨(a, b), List.mem_reverse.mpr z, rfl⟩
      | true =>
        refine ifT rfl ?_
        obtain ⟨a, b, rfl, rfl, ehh⟩ := eqHeads_yes eh
        obtain ⟨sy, k, eha, k1, k4, lka, nfa, gaa⟩ := gx.parts
        obtain ⟨sy', k', ehb, k1', k4', lkb, nfb, gab⟩ := gy.parts
        rw [eha, ehb] at ehh
        cases ehh
        have ne : a ≠ b := fun z => ev (by rw [z])
        have ns : (a, b) ∉ seen := fun z => me (by rw [epk]; exact List.mem_map.mpr ⟨(a, b), List.mem_reverse.mpr z, rfl⟩)
        have pl : ps.length = seen.length := by
          have := congrArg List.length epk
          unfold pairsOf at this
          rw [List.length_map, List.length_map, List.length_reverse] at this
          exact this
        refine ⟨_, rfl, _, rfl, _, rfl, (by show 2 ≤ sizeLine; decide), fun b3 hb3 => ?_⟩
        have sm3 : Same H2 (upd H2 b3 (.tup [.ref w1, .ref w2])) := same_new hb3
        have pr3 : PairIs (upd H2 b3 (.tup [.ref w1, .ref w2])) b3 (.str a) (.str b) := ⟨w1, w2, upd_same, hw12.keep (.of_same sm3), hw22.keep (.of_same sm3)⟩
        generalize upd H2 b3 (.tup [.ref w1, .ref w2]) = H3 at sm3 pr3
        have hd3 := sm3 _ _ hd2
        have sm13 : Same H1 H3 := sm2.trans sm3
        have pk3 : PairsOk2 H3 ps := fun e me => (pk1 e me).keep (.of_same sm13)
        have R3 := R1.same sm13
        refine ⟨d, b3, .str a, .str b, ps, rfl, rfl, rfl, hd3, pr3, pk3, ?_, ?_, ?_⟩
        · have z := atKey_none (ps := ps) (c := .str a) (d := .str b) trivial trivial plain
          rw [decide_eq_false me] at z
          exact Option.isSome_eq_false_iff.mp z |> Option.isNone_iff_eq_none.mp
        · rw [pl]
          show seen.length < 2 ^ 24
          omega
        have tu4 : Tups H3 (upd H3 d (PD P w d (ps ++ [(.str a, .str b, b3)]))) := Tups.pd hd3
        have R4 : Core C CC (upd H3 d (PD P w d (ps ++ [(.str a, .str b, b3)]))) p dx l r t c m := R3.upd (ne_of hd3 R3.ins (fun z => nomatch z)) (Ne.symm ld) (Ne.symm td) (by obtain ⟨qs, eq, _⟩ := R3.tops; exact ne_of hd3 eq (fun z => nomatch z)) tu4 (fun u d2 fs e2 => ne_of e2 hd3 (fun z => nomatch z))
        have hw4 : (upd H3 d (PD P w d (ps ++ [(.str a, .str b, b3)]))) wl = some (.lst (bs'.map V.ref)) := by rw [upd_ne nwd]; exact sm13 _ _ hw1
        have hd4 : (upd H3 d (PD P w d (ps ++ [(.str a, .str b, b3)]))) d = some (PD P w d (ps ++ [(.str a, .str b, b3)])) := upd_same
        have fr4 : Fr l t H (upd H3 d (PD P w d (ps ++ [(.str a, .str b, b3)]))) := fun q o e nl nt => by rw [upd_ne (ne_of_none e hd0)]; exact sm13 _ _ (fr1 q o e nl nt)
        have pr4 := pr3.keep tu4
        have pk4 : PairsOk2 (upd H3 d (PD P w d (ps ++ [(.str a, .str b, b3)]))) ps := fun e me => (pk3 e me).keep tu4
        have tu14 : Tups H1 (upd H3 d (PD P w d (ps ++ [(.str a, .str b, b3)]))) := (Tups.of_same sm13).trans tu4
        have hw14 := hw1c.keep tu14
        have hw24 := hw2c.keep tu14
        refine ⟨_, rfl, .inl ⟨rfl, _, SqL.of hw4⟩, _, rfl, p, C, dx, _, _, rfl, R4.ins, L.cl, L.nh, mf_heap, _, rfl, _, rfl, l, w1, w2, a, b, sy, k, m.heap, rfl, R4.heap, hw14, hw24, eha, k4, lka, lkb, fun H5 q cs sm5 hq0 hq5 hcs => ?_⟩
        have hw5 := sm5 _ _ hw4
        have hd5 := sm5 _ _ hd4
        have wq : wl ≠ q := ne_of_none hw4 hq0
        have dl : (down m.heap a b k).length = k := by unfold down; rw [List.length_map, List.length_range]
        have lb2 := left2_cons (N := m0.heap.size) (a := a) (b := b) (seen := seen) (by rw [← Kp.size]; omega) (by rw [← Kp.size]; omega) (fun q mq => (low q mq).2) ns
        refine ⟨wl, q, _, _, rfl, rfl, hw5, hq5, ?_, ?_⟩
        · rw [List.length_map, List.length_map, hcs.length, dl, hbs'.length, hl'.length]
          show l'.length + k ≤ 2 ^ 24
          omega
        rw [← List.map_append]
        have tu6 : Tups H5 (upd H5 wl (.lst ((bs' ++ cs).map V.ref))) := Tups.lst hw5
        have R6 : Core C CC (upd H5 wl (.lst ((bs' ++ cs).map V.ref))) p dx l r t c m := (R4.same sm5).upd (ne_of hw5 (sm5 _ _ R4.ins) (fun z => nomatch z)) (Ne.symm lwl) (Ne.symm twl) wc tu6 (fun u d2 fs e2 => ne_of e2 hw5 (fun z => nomatch z))
        refine ⟨_, rfl, _, rfl, iteF ?_⟩
        have tu46 : Tups (upd H3 d (PD P w d (ps ++ [(.str a, .str b, b3)]))) (upd H5 wl (.lst ((bs' ++ cs).map V.ref))) := (Tups.of_same sm5).trans tu6
        have al : ((List.range k).map (fun (i : Nat) => (Cell.ref (a + 1 + i), Cell.ref (b + 1 + i))) ++ l').length = k + l'.length := by rw [List.length_append, List.length_map, List.length_range]
        refine ⟨_, ?_, bs' ++ cs, ws' ++ down m.heap a b k, ps ++ [(.str a, .str b, b3)], (List.range k).map (fun (i : Nat) => (Cell.ref (a + 1 + i), Cell.ref (b + 1 + i))) ++ l', (a, b) :: seen, n', m, _, _, _, _, rfl, upd_same, ?_, ?_, ?_, ?_, ?_, ?_, ?_, R6, I, Kp, ?_, ?_, ?_, ?_, ?_, rfl⟩
        · rw [al]
          omega
        · exact (((hbs'.keep tu1).keep tu14).keep tu46).append (hcs.keep tu6)
        · refine Lst.append hl' ?_
          have := down_lst (h := m.heap) (a := a) (b := b) k 0 (fun i li => ⟨nfa i (by omega), gaa i (by omega)⟩) (fun i li => ⟨nfb i (by omega), gab i (by omega)⟩)
          simp only [Nat.zero_add] at this
          exact this
        · intro z mz
          rcases List.mem_append.mp mz with mz | mz
          · obtain ⟨i, mi, rfl⟩ := List.mem_map.mp mz
            have := List.mem_range.mp mi
            exact ⟨gaa i this, gab i this⟩
          · exact okr z mz
        · rw [upd_ne (Ne.symm nwd)]
          exact hd5
        · intro e me
          rcases List.mem_append.mp me with me | me
          · exact (pk4 e me).keep tu46
          · simp at me
            subst me
            exact pr4.keep tu46
        · unfold pairsOf at epk ⊢
          rw [List.map_append, epk, List.reverse_cons, List.map_append]
          rfl
        · intro z mz
          cases mz with
          | head => exact ⟨by rw [← Kp.size]; show a < _; omega, by rw [← Kp.size]; show b < _; omega⟩
          | tail _ mz => exact low z mz
        · intro z o e nl nt
          rw [upd_ne (ne_of_none e hwl0)]
          exact sm5 _ _ (fr4 z o e nl nt)
        · rw [eu]
          exact step_enter eX eY ne ns eha ehb
        · rw [al]
          omega
        · rw [al]
          omega
        · rw [List.length_cons]
          omega
end
end Sw
namespace Sw
open PySem PySem.Spec PyProof.Rows
open L2 hiding Walk
open Lg04 (Cell cellAt look within unify same)

/-- all but these stands as it was -/
def But (xs : List Addr) (H H' : Hp) : Prop := ∀ b o, H b = some o → b ∉ xs → H' b = some o
theorem Fr.but {l t : Addr} {H H' : Hp} (x : Fr l t H H') {xs : List Addr} (hl : l ∈ xs) (ht : t ∈ xs) : But xs H H' := fun b o e n => x b o e (fun z => n (z ▸ hl)) (fun z => n (z ▸ ht))

theorem Tops.keep2 {H H' : Hp} {CC : Addr} {qs : List Addr} {bs : List Lg04.Choice} (x : Tops H CC qs bs) (k : ∀ q dx r i j, H q = some (.ins CC dx (cf r i j)) → H' q = some (.ins CC dx (cf r i j))) : Tops H' CC qs bs := by
  induction x with
  | nil => exact .nil
  | snoc h _ ih => exact .snoc (k _ _ _ _ _ h) ih
theorem mf_cf {l r t c r' : Addr} {i j : Nat} (e : mf l r t c = cf r' i j) : False := by
  have := congrArg List.length e
  revert this
  show 4 = 3 → False
  decide

section
variable {P : Program} {w : World} {K : PySem.W.Frag} {mg : Str → Option Value} {base : PySem.Heap}
abbrev sMS : Stmt := top 27
theorem scMS : FnScope ["machine", "first", "second", "heap_before", "trail_before"] ["machine", "first", "second"] (defScope sMS) := ⟨rfl, rfl, rfl, by decide +kernel, rfl, by decide +kernel, by decide +kernel⟩
def spMS (C CC : Addr) : Sp := fun vs H Q _ => ∃ (p dx l r t c t1 t2 : Addr) (m : Lg04.M) (x y : Cell), vs = [.ref p, .ref t1, .ref t2] ∧ Core C CC H p dx l r t c m ∧ Inv m ∧ m.heap.size ≤ 1000 ∧ CellIs H t1 x ∧ CellIs H t2 y ∧ Good m.heap x ∧ Good m.heap y ∧
  (∀ n H', unify m x y = some n → Core C CC H' p dx l r t c n → But [p, l, t] H H' → Q (.bl true) H') ∧
  (∀ H' l' t', unify m x y = none → Core C CC H' p dx l' r t' c m → H l' = none → H t' = none → But [p, l, t] H H' → Q (.bl false) H')

theorem ok_ms {C CC f fT : Addr} {fd fdT : FuncData} (D : Dn K mg "make_same" sMS ["machine", "first", "second"] f fd) (L : Cl K C CC) (lst : mg "list" = none)
    (GT : FnOk P w K mg base CX0 5 fT fdT ["machine", "first", "second"] (spTry C CC)) (DT : Dn K mg "try_to_make_same" sTry ["machine", "first", "second"] fT fdT) :
    FnOk P w K mg base CX0 6 f fd ["machine", "first", "second"] (spMS C CC) := by
  refine D.F.ok scMS (fun vs H Q E h => ?_) (fun cdv A outer s H vs Q E hr h => ?_)
  · obtain ⟨p, dx, l, r, t, c, t1, t2, m, x, y, rfl, _⟩ := h
    rfl
  · obtain ⟨p, dx, l, r, t, c, t1, t2, m, x, y, rfl, R, I, hs, h1, h2, g1, g2, q1, q2⟩ := h
    refine ⟨_, pss_cons (ps_set (i := 3) scMS.nd rfl (Or.inl rfl) (pe_callTy call_list_of (by rfl) lst (by decide +kernel) (pa_cons (pe_fld (pv 0) rfl) pa_nil)))
      (pss_cons (ps_set (i := 4) scMS.nd rfl (Or.inl rfl) (pe_callTy call_list_of (by rfl) lst (by decide +kernel) (pa_cons (pe_fld (pv 0) rfl) pa_nil)))
      (pss_cons (ps_if (pt_val (pe_call GT hr rfl DT.m DT.F.kp DT.b .nil pass0 (pa_cons (pv 0) (pa_cons (pv 1) (pa_cons (pv 2) pa_nil))))) (pss_one (ps_ret pe_bl)) pss_nil)
      (pss_cons (ps_fld (pv 0) (pv 3) rfl)
      (pss_cons (ps_fld (pv 0) (pv 4) rfl)
      (pss_one (ps_ret pe_bl)))))), ?_⟩
    obtain ⟨ts, hl, hc⟩ := R.heap
    refine ⟨_, rfl, p, C, dx, _, _, rfl, R.ins, L.cl, L.nh, mf_heap, l, _, rfl, .inl (SqL.of hl), fun hb hhb => ?_⟩
    have sm1 : Same H (upd H hb (.lst (ts.map V.ref))) := same_new hhb
    have hb1 : (upd H hb (.lst (ts.map V.ref))) hb = some (.lst (ts.map V.ref)) := upd_same
    generalize upd H hb (.lst (ts.map V.ref)) = H1 at sm1 hb1
    have R1 := R.same sm1
    refine ⟨_, rfl, p, C, dx, _, _, rfl, R1.ins, L.cl, L.nt, mf_trail, t, _, rfl, .inl (SqL.of R1.trail), fun tb htb => ?_⟩
    have sm2 : Same H1 (upd H1 tb (.lst (trailV m.trail))) := same_new htb
    have tb2 : (upd H1 tb (.lst (trailV m.trail))) tb = some (.lst (trailV m.trail)) := upd_same
    generalize upd H1 tb (.lst (trailV m.trail)) = H2 at sm2 tb2
    have sm := sm1.trans sm2
    have hb2 := sm2 _ _ hb1
    have htb0 : H tb = none := sm1.free htb
    have nbt : hb ≠ tb := ne_of_none hb1 htb
    have R2 := R.same sm
    have frm : ∀ {H3 : Hp}, Fr l t H2 H3 → But [p, l, t] H H3 := fun f3 b o e n => f3 b o (sm _ _ e) (fun z => n (by rw [z]; simp)) (fun z => n (by rw [z]; simp))
    refine ⟨_, rfl, _, rfl, _, rfl, p, dx, l, r, t, c, t1, t2, m, x, y, rfl, R2, I, hs, h1.keep (.of_same sm), h2.keep (.of_same sm), g1, g2, fun n H3 en R3 f3 => ?_, fun H3 en f3 => ?_⟩
    · exact ⟨_, rfl, iteT (q1 n H3 en R3 (frm f3))⟩
    · refine ⟨_, rfl, iteF ?_⟩
      have nl : hb ≠ l := Ne.symm (ne_of_none hl hhb)
      have nt : hb ≠ t := Ne.symm (ne_of_none R.trail hhb)
      have ml : tb ≠ l := Ne.symm (ne_of_none (sm1 _ _ hl) htb)
      have mt : tb ≠ t := Ne.symm (ne_of_none R1.trail htb)
      obtain ⟨qs, hq, tp⟩ := R.tops
      have nc : hb ≠ c := Ne.symm (ne_of_none hq hhb)
      have mc : tb ≠ c := Ne.symm (ne_of_none hq htb0)
      have hp3 := f3 _ _ R2.ins (ne_of R2.ins (sm _ _ hl) (fun z => nomatch z)) (ne_of R2.ins R2.trail (fun z => nomatch z))
      have hb3 := f3 _ _ hb2 nl nt
      have tb3 := f3 _ _ tb2 ml mt
      have hc3 := f3 _ _ (sm _ _ hq) (Ne.symm R.lc) (Ne.symm R.tc)
      refine ⟨_, rfl, _, rfl, p, C, dx, _, rfl, hp3, L.cl, L.nh, (by show 4 < 1000; decide), ?_⟩
      rw [mf_put_heap]
      refine ⟨_, rfl, _, rfl, p, C, dx, _, rfl, upd_same, L.cl, L.nt, (by show 4 < 1000; decide), ?_⟩
      rw [mf_put_trail, upd_upd]
      have tu3 : Tups H2 H3 := f3.tups (sm _ _ hl) R2.trail
      have tu4 : Tups H3 (upd H3 p (.ins C dx (mf hb r tb c))) := Tups.ins hp3
      have tu : Tups H (upd H3 p (.ins C dx (mf hb r tb c))) := ((Tups.of_same sm).trans tu3).trans tu4
      refine q2 _ hb tb en ⟨upd_same, ⟨ts, ?_, hc.keep tu⟩, ?_, ⟨qs, ?_, tp.keep2 fun u d2 r2 i2 j2 e2 => ?_⟩, nbt, nc, mc⟩ hhb htb0 ?_
      · rw [upd_ne (ne_of hb3 hp3 (fun z => nomatch z))]; exact hb3
      · rw [upd_ne (ne_of tb3 hp3 (fun z => nomatch z))]; exact tb3
      · rw [upd_ne (ne_of hc3 hp3 (fun z => nomatch z))]; exact hc3
      · have e3 := f3 _ _ (sm _ _ e2) (ne_of e2 hl (fun z => nomatch z)) (ne_of e2 R.trail (fun z => nomatch z))
        rw [upd_ne (ne_of e3 hp3 (fun z => mf_cf (HO.ins.inj z).2.2.symm))]
        exact e3
      · intro b o e n
        rw [upd_ne (fun z => n (by rw [z]; simp))]
        exact frm f3 b o e n
end
end Sw
namespace Sw
open PySem PySem.Spec PyProof.Rows
open L2 hiding Walk
open Lg04 (Cell cellAt look within unify same)

/-! The whole machine. -/
inductive RVals (H : Hp) : List V → List (Option Lg04.Value) → Prop where
  | nil : RVals H [] []
  | emp {vs : List V} {rs : List (Option Lg04.Value)} : RVals H vs rs → RVals H (.non :: vs) (Option.none :: rs)
  | cel {vs : List V} {rs : List (Option Lg04.Value)} {t : Addr} {c : Cell} : CellIs H t c → RVals H vs rs → RVals H (.ref t :: vs) (some (.cell c) :: rs)
theorem RVals.keep {H H' : Hp} {vs : List V} {rs : List (Option Lg04.Value)} (x : RVals H vs rs) (k : Tups H H') : RVals H' vs rs := by
  induction x with
  | nil => exact .nil
  | emp _ ih => exact .emp ih
  | cel h _ ih => exact .cel (h.keep k) ih
theorem RVals.length {H : Hp} {vs : List V} {rs : List (Option Lg04.Value)} (x : RVals H vs rs) : vs.length = rs.length := by
  induction x with
  | nil => rfl
  | emp _ ih => rw [List.length_cons, List.length_cons, ih]
  | cel _ _ ih => rw [List.length_cons, List.length_cons, ih]
theorem RVals.setCell {H : Hp} {vs : List V} {rs : List (Option Lg04.Value)} (x : RVals H vs rs) {t : Addr} {c : Cell} (h : CellIs H t c) : ∀ n, RVals H (vs.set n (.ref t)) (rs.set n (some (.cell c))) := by
  induction x with
  | nil => intro n; exact .nil
  | emp r ih =>
    intro n
    match n with
    | 0 => exact .cel h r
    | n + 1 => exact .emp (ih n)
  | cel h' r ih =>
    intro n
    match n with
    | 0 => exact .cel h r
    | n + 1 => exact .cel h' (ih n)
theorem RVals.setNone {H : Hp} {vs : List V} {rs : List (Option Lg04.Value)} (x : RVals H vs rs) : ∀ n, RVals H (vs.set n .non) (rs.set n none) := by
  induction x with
  | nil => intro n; exact .nil
  | emp r ih =>
    intro n
    match n with
    | 0 => exact .emp r
    | n + 1 => exact .emp (ih n)
  | cel h' r ih =>
    intro n
    match n with
    | 0 => exact .emp r
    | n + 1 => exact .cel h' (ih n)
/-- what a register has -/
theorem RVals.at_ {H : Hp} {vs : List V} {rs : List (Option Lg04.Value)} (x : RVals H vs rs) : ∀ n, n < rs.length → (vs[n]? = some .non ∧ rs[n]? = some none) ∨ ∃ t c, vs[n]? = some (.ref t) ∧ rs[n]? = some (some (.cell c)) ∧ CellIs H t c := by
  induction x with
  | nil => intro n l; cases l
  | emp r ih =>
    intro n l
    match n with
    | 0 => exact .inl ⟨rfl, rfl⟩
    | n + 1 => exact ih n (Nat.lt_of_succ_lt_succ l)
  | cel h' r ih =>
    intro n l
    match n with
    | 0 => exact .inr ⟨_, _, rfl, rfl, h'⟩
    | n + 1 => exact ih n (Nat.lt_of_succ_lt_succ l)
def RegsIs (H : Hp) (r : Addr) (rs : List (Option Lg04.Value)) : Prop := ∃ vs, H r = some (.lst vs) ∧ RVals H vs rs

/-- the choices, with their registers' lists -/
inductive Chs (H : Hp) (CC : Addr) : List Addr → List Addr → List Lg04.Choice → Prop where
  | nil : Chs H CC [] [] []
  | snoc {q dx g : Addr} {qs gs : List Addr} {b : Lg04.Choice} {bs : List Lg04.Choice} : H q = some (.ins CC dx (cf g b.heap b.trail)) → RegsIs H g b.regs → Chs H CC qs gs bs → Chs H CC (qs ++ [q]) (gs ++ [g]) (b :: bs)
theorem Chs.tops {H : Hp} {CC : Addr} {qs gs : List Addr} {bs : List Lg04.Choice} (x : Chs H CC qs gs bs) : Tops H CC qs bs := by
  induction x with
  | nil => exact .nil
  | snoc h _ _ ih => exact .snoc h ih
theorem Chs.keep {H H' : Hp} {CC : Addr} {qs gs : List Addr} {bs : List Lg04.Choice} (x : Chs H CC qs gs bs) (tu : Tups H H') (k : ∀ q dx g i j, H q = some (.ins CC dx (cf g i j)) → H' q = some (.ins CC dx (cf g i j))) (kg : ∀ g, g ∈ gs → ∀ xs, H g = some (.lst xs) → H' g = some (.lst xs)) : Chs H' CC qs gs bs := by
  induction x with
  | nil => exact .nil
  | snoc h r _ ih =>
    obtain ⟨vs, e, rv⟩ := r
    exact .snoc (k _ _ _ _ _ h) ⟨vs, kg _ (List.mem_append_right _ (.head _)) _ e, rv.keep tu⟩ (ih fun g mg => kg g (List.mem_append_left _ mg))

structure Mach (C CC : Addr) (H : Hp) (p dx l r t c : Addr) (qs gs : List Addr) (m : Lg04.M) : Prop where
  ins : H p = some (.ins C dx (mf l r t c))
  heap : HeapIs H l m.heap
  regs : RegsIs H r m.regs
  trail : H t = some (.lst (trailV m.trail))
  clst : H c = some (.lst (qs.map V.ref))
  chs : Chs H CC qs gs m.choices
  lr : l ≠ r
  lt : l ≠ t
  lc : l ≠ c
  rt : r ≠ t
  rc : r ≠ c
  tc : t ≠ c
  gl : l ∉ gs
  gr : r ∉ gs
  gt : t ∉ gs
  gc : c ∉ gs
theorem Mach.core {C CC : Addr} {H : Hp} {p dx l r t c : Addr} {qs gs : List Addr} {m : Lg04.M} (R : Mach C CC H p dx l r t c qs gs m) : Core C CC H p dx l r t c m :=
  ⟨R.ins, R.heap, R.trail, ⟨qs, R.clst, R.chs.tops⟩, R.lt, R.lc, R.tc⟩
theorem Mach.same {C CC : Addr} {H H' : Hp} {p dx l r t c : Addr} {qs gs : List Addr} {m : Lg04.M} (R : Mach C CC H p dx l r t c qs gs m) (s : Same H H') : Mach C CC H' p dx l r t c qs gs m :=
  ⟨s _ _ R.ins, R.heap.same s, (let ⟨vs, e, x⟩ := R.regs; ⟨vs, s _ _ e, x.keep (.of_same s)⟩), s _ _ R.trail,
    s _ _ R.clst, R.chs.keep (.of_same s) (fun _ _ _ _ _ e => s _ _ e) (fun _ _ _ e => s _ _ e), R.lr, R.lt, R.lc, R.rt, R.rc, R.tc, R.gl, R.gr, R.gt, R.gc⟩
/-- what the machine's own objects are: these alone it changes -/
def own (p l r t c : Addr) (qs gs : List Addr) : List Addr := p :: l :: r :: t :: c :: (gs ++ qs)
theorem Chs.tracked {H : Hp} {CC : Addr} {qs gs : List Addr} {bs : List Lg04.Choice} (x : Chs H CC qs gs bs) : (∀ q, q ∈ qs → ∃ o, H q = some o) ∧ ∀ g, g ∈ gs → ∃ o, H g = some o := by
  induction x with
  | nil => exact ⟨fun q m => (by cases m), fun q m => (by cases m)⟩
  | snoc h r _ ih =>
    obtain ⟨vs, e, _⟩ := r
    refine ⟨fun q m => ?_, fun q m => ?_⟩
    · rcases List.mem_append.mp m with m | m
      · exact ih.1 q m
      · simp at m; subst m; exact ⟨_, h⟩
    · rcases List.mem_append.mp m with m | m
      · exact ih.2 q m
      · simp at m; subst m; exact ⟨_, e⟩
theorem Mach.tracked {C CC : Addr} {H : Hp} {p dx l r t c : Addr} {qs gs : List Addr} {m : Lg04.M} (R : Mach C CC H p dx l r t c qs gs m) {b : Addr} (mb : b ∈ own p l r t c qs gs) : ∃ o, H b = some o := by
  unfold own at mb
  simp only [List.mem_cons, List.mem_append] at mb
  rcases mb with rfl | rfl | rfl | rfl | rfl | mb | mb
  · exact ⟨_, R.ins⟩
  · obtain ⟨ts, e, _⟩ := R.heap; exact ⟨_, e⟩
  · obtain ⟨ts, e, _⟩ := R.regs; exact ⟨_, e⟩
  · exact ⟨_, R.trail⟩
  · exact ⟨_, R.clst⟩
  · exact R.chs.tracked.2 b mb
  · exact R.chs.tracked.1 b mb
def MachW (C CC : Addr) (H : Hp) (p : Addr) (ow : List Addr) (m : Lg04.M) : Prop := ∃ dx l r t c qs gs, Mach C CC H p dx l r t c qs gs m ∧ ow = own p l r t c qs gs
/-- **A call done**: what is wanted of what comes behind it. -/
def Does (C CC p : Addr) (ow : List Addr) (m : Lg04.M) (call : Lg06.Call) (H : Hp) (Q : VK) : Prop :=
  ∀ H' ow' q, MachW C CC H' p ow' (Lg06.step m call).1 → (∀ b, b ∈ ow' → b ∈ ow ∨ H b = none) → But ow H H' → (H q = none ∨ q ∈ ow) → q ∉ ow' → H' q = some (.lst ((Lg06.step m call).2.map V.int)) → Q (.ref q) H'
theorem Does.fin {C CC p dx l r t c : Addr} {qs gs ow : List Addr} {m n : Lg04.M} {call : Lg06.Call} {H H1 : Hp} {Q : VK} {zs : List Int} (d : Does C CC p ow m call H Q) (W : Mach C CC H1 p dx l r t c qs gs n) (e : Lg06.step m call = (n, zs))
    (o : ∀ b, b ∈ own p l r t c qs gs → b ∈ ow ∨ H b = none) (b : But ow H H1) {q : Addr} (hq : H1 q = none) {vs : List V} (ev : vs = zs.map V.int) : Q (.ref q) (upd H1 q (.lst vs)) := by
  have nq : q ∉ own p l r t c qs gs := fun z => by
    obtain ⟨o, eo⟩ := W.tracked z
    rw [hq] at eo; cases eo
  refine d _ _ q (by rw [e]; exact ⟨dx, l, r, t, c, qs, gs, W.same (same_new hq), rfl⟩) o (fun u v eu nu => ?_) ?_ nq (by rw [upd_same, e, ev])
  · have := b u v eu nu
    rw [upd_ne (ne_of_none this hq)]; exact this
  · cases eq : H q with
    | none => exact .inl rfl
    | some v =>
      by_cases mq : q ∈ ow
      · exact .inr mq
      · rw [b q v eq mq] at hq; cases hq
end Sw
namespace Sw
open PySem PySem.Spec PyProof.Rows
open L2 hiding Walk
open Lg04 (Cell cellAt look within unify same)

/-- the heap's list changed to another -/
theorem Core.setHeap {C CC : Addr} {H : Hp} {p dx l r t c : Addr} {m : Lg04.M} (R : Core C CC H p dx l r t c m) {us : List Addr} {h' : Lg04.Heap} (cs : Cells H us h'.toList) : Core C CC (L2.upd H l (.lst (us.map V.ref))) p dx l r t c { m with heap := h' } := by
  obtain ⟨ts, hl, _⟩ := R.heap
  have tu : Tups H (L2.upd H l (.lst (us.map V.ref))) := Tups.lst hl
  refine ⟨?_, ⟨us, upd_same, cs.keep tu⟩, ?_, ?_, R.lt, R.lc, R.tc⟩
  · rw [upd_ne (ne_of R.ins hl (fun z => nomatch z))]; exact R.ins
  · rw [upd_ne (Ne.symm R.lt)]; exact R.trail
  · obtain ⟨qs, e, tp⟩ := R.tops
    exact ⟨qs, (by rw [upd_ne (Ne.symm R.lc)]; exact e), tp.keep fun u d2 fs e2 => by rw [upd_ne (ne_of e2 hl (fun z => nomatch z))]; exact e2⟩
theorem But.upd {H H' : Hp} {xs : List Addr} {q : Addr} {o : HO} (b : But xs H H') (m : q ∈ xs) : But xs H (L2.upd H' q o) := fun u v e n => by
  rw [upd_ne (fun z => n (by rw [z]; exact m))]
  exact b u v e n
theorem But.new {H H' : Hp} {xs : List Addr} {q : Addr} {o : HO} (b : But xs H H') (n : H q = none) : But xs H (L2.upd H' q o) := fun u v e nn => by
  rw [upd_ne (ne_of_none e n)]
  exact b u v e nn
theorem But.refl {H : Hp} {xs : List Addr} : But xs H H := fun _ _ e _ => e
theorem But.of_same {H H' : Hp} {xs : List Addr} (s : Same H H') : But xs H H' := fun _ _ e _ => s _ _ e

section
variable {P : Program} {w : World} {K : PySem.W.Frag} {mg : Str → Option Value} {base : PySem.Heap}
abbrev sAV : Stmt := inClass (top 12) 1
theorem scAV : FnScope ["self", "cell"] ["self"] (defScope sAV) := ⟨rfl, rfl, rfl, by decide +kernel, rfl, by decide +kernel, by decide +kernel⟩
def spAV (C CC : Addr) : Sp := fun vs H Q _ => ∃ (p dx l r t c : Addr) (m : Lg04.M), vs = [.ref p] ∧ Core C CC H p dx l r t c m ∧ m.heap.size ≤ 1000 ∧
  ∀ H' tc, CellIs H' tc (.ref m.heap.size) → H tc = none → Core C CC H' p dx l r t c { m with heap := m.heap.push (.ref m.heap.size) } → But [l] H H' → Q (.ref tc) H'
theorem ok_av {C CC f : Addr} {fd : FuncData} (F : Fun K "add_variable" "Machine.add_variable" sAV f fd) (L : Cl K C CC) (T : Txt K mg) (len : mg "len" = none) : FnOk P w K mg base CX0 1 f fd ["self"] (spAV C CC) := by
  refine F.ok scAV (fun vs H Q E h => ?_) (fun cdv A outer s H vs Q E hr h => ?_)
  · obtain ⟨p, dx, l, r, t, c, m, rfl, _⟩ := h
    rfl
  · obtain ⟨p, dx, l, r, t, c, m, rfl, R, hs, q⟩ := h
    obtain ⟨tp, mgp⟩ := T.place
    refine ⟨_, pss_cons (ps_set (i := 1) scAV.nd rfl (Or.inl rfl) (pe_tup (pa_cons (pe_glob (v := .int 0) rfl mgp ⟨_, rfl⟩) (pa_cons (pe_callB call_len_seq (by rfl) len PySem.boot_len (pa_cons (pe_fld (pv 0) rfl) pa_nil)) pa_nil))))
      (pss_cons (ps_expr (pe_bm PySem.F.plainAttrs_list PySem.F.slot_list_append PySem.F.type_list_append mt_append (pe_fld (pv 0) rfl) (pa_cons (pv 1) pa_nil)))
      (pss_one (ps_ret (pv 1)))), ?_⟩
    obtain ⟨ts, hl, hc⟩ := R.heap
    have tsl : ts.length = m.heap.size := by rw [hc.length, Array.length_toList]
    refine ⟨_, rfl, p, C, dx, _, _, rfl, R.ins, L.cl, L.nh, mf_heap, l, _, rfl, .inl (SqL.of hl), (by show 2 ≤ sizeLine; decide), fun tc htc => ?_⟩
    rw [List.length_map, tsl]
    have sm : Same H (upd H tc (.tup [.int 0, .int m.heap.size])) := same_new htc
    have ct : CellIs (upd H tc (.tup [.int 0, .int m.heap.size])) tc (.ref m.heap.size) := upd_same
    generalize upd H tc (.tup [.int 0, .int m.heap.size]) = H1 at sm ct
    have R1 := R.same sm
    have hl1 := sm _ _ hl
    refine ⟨_, rfl, p, C, dx, _, _, rfl, R1.ins, L.cl, L.nh, mf_heap, .inl ⟨rfl, _, SqL.of hl1⟩, _, rfl, l, _, _, rfl, rfl, hl1, (by rw [List.length_map, tsl]; exact small1000 hs), ?_⟩
    refine ⟨_, rfl, ?_⟩
    have ee : ts.map V.ref ++ [V.ref tc] = (ts ++ [tc]).map V.ref := by rw [List.map_append]; rfl
    have R2 := R1.setHeap (us := ts ++ [tc]) (h' := m.heap.push (.ref m.heap.size)) (by rw [Array.toList_push]; exact (hc.keep (.of_same sm)).append (.cons ct .nil))
    rw [← ee] at R2
    exact q _ tc (ct.keep (Tups.lst hl1)) htc R2 ((But.of_same sm).upd (by simp))

theorem pushes_toList : ∀ (cs : List Cell) (h : Lg04.Heap), (cs.foldl (fun (h : Lg04.Heap) (x : Cell) => h.push x) h).toList = h.toList ++ cs
  | [], h => by simp
  | c :: cs, h => by rw [List.foldl_cons, pushes_toList cs, Array.toList_push, List.append_assoc]; rfl
abbrev sAS : Stmt := inClass (top 12) 2
theorem scAS : FnScope ["self", "symbol", "cells", "head_place"] ["self", "symbol", "cells"] (defScope sAS) := ⟨rfl, rfl, rfl, by decide +kernel, rfl, by decide +kernel, by decide +kernel⟩
def spAS (C CC : Addr) : Sp := fun vs H Q _ => ∃ (p dx l r t c y : Addr) (m : Lg04.M) (sy : Nat) (ts : List Addr) (cs : List Cell), vs = [.ref p, .int sy, .ref y] ∧ Core C CC H p dx l r t c m ∧ m.heap.size ≤ 1000 ∧ cs.length ≤ 4 ∧ H y = some (.lst (ts.map V.ref)) ∧ Cells H ts cs ∧ y ≠ l ∧
  ∀ H' tc, CellIs H' tc (.str m.heap.size) → H tc = none → Core C CC H' p dx l r t c { m with heap := cs.foldl (fun (h : Lg04.Heap) (x : Cell) => h.push x) (m.heap.push (.head sy cs.length)) } → But [l] H H' → Q (.ref tc) H'
theorem ok_as {C CC f : Addr} {fd : FuncData} (F : Fun K "add_structure" "Machine.add_structure" sAS f fd) (L : Cl K C CC) (T : Txt K mg) (len : mg "len" = none) : FnOk P w K mg base CX0 1 f fd ["self", "symbol", "cells"] (spAS C CC) := by
  refine F.ok scAS (fun vs H Q E h => ?_) (fun cdv A outer s H vs Q E hr h => ?_)
  · obtain ⟨p, dx, l, r, t, c, y, m, sy, ts, cs, rfl, _⟩ := h
    rfl
  · obtain ⟨p, dx, l, r, t, c, y, m, sy, us, cs, rfl, R, hs, l4, hy, hcs, nyl, q⟩ := h
    obtain ⟨tp, mgp⟩ := T.str
    refine ⟨_, pss_cons (ps_set (i := 3) scAS.nd rfl (Or.inl rfl) (pe_callB call_len_seq (by rfl) len PySem.boot_len (pa_cons (pe_fld (pv 0) rfl) pa_nil)))
      (pss_cons (ps_expr (pe_bm PySem.F.plainAttrs_list PySem.F.slot_list_append PySem.F.type_list_append mt_append (pe_fld (pv 0) rfl) (pa_cons (pe_tup (pa_cons (pe_op op_add (pe_glob (v := .int 2) rfl mgp ⟨_, rfl⟩) (pe_callB call_len_seq (by rfl) len PySem.boot_len (pa_cons (pv 2) pa_nil))) (pa_cons (pv 1) pa_nil))) pa_nil)))
      (pss_cons (ps_expr (pe_bm PySem.F.plainAttrs_list PySem.F.slot_list_extend PySem.F.type_list_extend mt_extend (pe_fld (pv 0) rfl) (pa_cons (pv 2) pa_nil)))
      (pss_one (ps_ret (pe_tup (pa_cons (pe_glob (v := .int 2) rfl mgp ⟨_, rfl⟩) (pa_cons (pv 3) pa_nil))))))), ?_⟩
    obtain ⟨ts, hl, hc⟩ := R.heap
    have tsl : ts.length = m.heap.size := by rw [hc.length, Array.length_toList]
    refine ⟨_, rfl, p, C, dx, _, _, rfl, R.ins, L.cl, L.nh, mf_heap, l, _, rfl, .inl (SqL.of hl), ?_⟩
    rw [List.length_map, tsl]
    refine ⟨_, rfl, p, C, dx, _, _, rfl, R.ins, L.cl, L.nh, mf_heap, .inl ⟨rfl, _, SqL.of hl⟩, _, rfl, y, _, rfl, .inl (SqL.of hy), _, _, rfl, rfl, _, rfl, (by show 2 ≤ sizeLine; decide), fun th hth => ?_⟩
    rw [List.length_map, hcs.length]
    have sm : Same H (upd H th (.tup [.int (2 + (cs.length : Int)), .int sy])) := same_new hth
    have ct : CellIs (upd H th (.tup [.int (2 + (cs.length : Int)), .int sy])) th (.head sy cs.length) := upd_same
    generalize upd H th (.tup [.int (2 + (cs.length : Int)), .int sy]) = H1 at sm ct
    have R1 := R.same sm
    have hl1 := sm _ _ hl
    have hy1 := sm _ _ hy
    refine ⟨l, _, _, rfl, rfl, hl1, (by rw [List.length_map, tsl]; exact small1000 hs), ?_⟩
    have ee : ts.map V.ref ++ [V.ref th] = (ts ++ [th]).map V.ref := by rw [List.map_append]; rfl
    have R2 := R1.setHeap (us := ts ++ [th]) (h' := m.heap.push (.head sy cs.length)) (by rw [Array.toList_push]; exact (hc.keep (.of_same sm)).append (.cons ct .nil))
    have tu2 : Tups H1 (upd H1 l (.lst ((ts ++ [th]).map V.ref))) := Tups.lst hl1
    have hl2 : (upd H1 l (.lst ((ts ++ [th]).map V.ref))) l = some (.lst ((ts ++ [th]).map V.ref)) := upd_same
    have hy2 : (upd H1 l (.lst ((ts ++ [th]).map V.ref))) y = some (.lst (us.map V.ref)) := by rw [upd_ne nyl]; exact hy1
    have b2 : But [l] H (upd H1 l (.lst ((ts ++ [th]).map V.ref))) := (But.of_same sm).upd (by simp)
    have cs2 := (hcs.keep (.of_same sm)).keep tu2
    have hc2 := ((hc.keep (.of_same sm)).append (.cons ct .nil)).keep tu2
    rw [ee]
    generalize upd H1 l (.lst ((ts ++ [th]).map V.ref)) = H2 at R2 tu2 hl2 hy2 b2 cs2 hc2
    refine ⟨_, rfl, p, C, dx, _, _, rfl, R2.ins, L.cl, L.nh, mf_heap, .inl ⟨rfl, _, SqL.of hl2⟩, _, rfl, l, y, _, _, rfl, rfl, hl2, hy2, ?_, ?_⟩
    · rw [List.length_map, List.length_map, List.length_append, List.length_singleton, tsl, hcs.length]
      show m.heap.size + 1 + cs.length ≤ 2 ^ 24
      omega
    rw [← List.map_append]
    have R3 := R2.setHeap (us := (ts ++ [th]) ++ us) (h' := cs.foldl (fun (h : Lg04.Heap) (x : Cell) => h.push x) (m.heap.push (.head sy cs.length))) (by rw [pushes_toList, Array.toList_push]; exact hc2.append cs2)
    have b3 := b2.upd (q := l) (o := .lst (((ts ++ [th]) ++ us).map V.ref)) (by simp)
    refine ⟨_, rfl, (by show 2 ≤ sizeLine; decide), fun tc htc => ?_⟩
    have nx : H tc = none := by
      cases e : H tc with
      | none => rfl
      | some o =>
        by_cases z : tc = l
        · subst z; rw [upd_same] at htc; cases htc
        · have := b3 tc o e (by simpa using z)
          rw [this] at htc; cases htc
    exact q _ tc upd_same nx (R3.same (same_new htc)) (b3.new nx)
end
end Sw
namespace Sw
open PySem PySem.Spec PyProof.Rows
open L2 hiding Walk
open Lg04 (Cell cellAt look within unify same)

section
variable {C CC : Addr} {H H' : Hp} {p dx l r t c l' t' : Addr} {qs gs : List Addr} {m n : Lg04.M}
theorem Mach.updRegs (R : Mach C CC H p dx l r t c qs gs m) {vs : List V} {rs : List (Option Lg04.Value)} (rv : RVals H vs rs) : Mach C CC (upd H r (.lst vs)) p dx l r t c qs gs { m with regs := rs } := by
  obtain ⟨us, e, _⟩ := R.regs
  have tu : Tups H (upd H r (.lst vs)) := Tups.lst e
  obtain ⟨ts, hl, hc⟩ := R.heap
  refine ⟨?_, ⟨ts, ?_, hc.keep tu⟩, ⟨vs, upd_same, rv.keep tu⟩, ?_, ?_, R.chs.keep tu (fun q d2 g i j e2 => ?_) (fun g mg xs e2 => ?_), R.lr, R.lt, R.lc, R.rt, R.rc, R.tc, R.gl, R.gr, R.gt, R.gc⟩
  · rw [upd_ne (ne_of R.ins e (fun z => nomatch z))]; exact R.ins
  · rw [upd_ne R.lr]; exact hl
  · rw [upd_ne (Ne.symm R.rt)]; exact R.trail
  · rw [upd_ne (Ne.symm R.rc)]; exact R.clst
  · rw [upd_ne (ne_of e2 e (fun z => nomatch z))]; exact e2
  · rw [upd_ne (fun z => R.gr (by rw [← z]; exact mg))]; exact e2
theorem Mach.next (R : Mach C CC H p dx l r t c qs gs m) (S : Core C CC H' p dx l' r t' c n) (er : n.regs = m.regs) (ec : n.choices = m.choices) (b : But [p, l, t] H H') (nl : l' = l ∨ H l' = none) (nt : t' = t ∨ H t' = none) : Mach C CC H' p dx l' r t' c qs gs n := by
  obtain ⟨us, e, rv⟩ := R.regs
  obtain ⟨ts, hl, hc⟩ := R.heap
  have out : ∀ {u : Addr} {o : HO}, H u = some o → u ≠ p → u ≠ l → u ≠ t → H' u = some o := fun eu n1 n2 n3 => b _ _ eu (by simp; exact ⟨n1, n2, n3⟩)
  have tu : Tups H H' := fun u xs eu => out eu (ne_of eu R.ins (fun z => nomatch z)) (ne_of eu hl (fun z => nomatch z)) (ne_of eu R.trail (fun z => nomatch z))
  have fr : ∀ {u v : Addr} {o : HO}, (u = v ∨ H u = none) → ∀ {w : Addr}, H w = some o → v ≠ w → u ≠ w := fun h w ew nw => by
    rcases h with rfl | h
    · exact nw
    · exact Ne.symm (ne_of_none ew h)
  have frg : ∀ {u v : Addr}, (u = v ∨ H u = none) → v ∉ gs → u ∉ gs := fun h ng mg => by
    rcases h with rfl | h
    · exact ng mg
    · obtain ⟨o, eo⟩ := R.chs.tracked.2 _ mg
      rw [h] at eo; cases eo
  refine ⟨S.ins, S.heap, ⟨us, out e (ne_of e R.ins (fun z => nomatch z)) (Ne.symm R.lr) R.rt, by rw [er]; exact rv.keep tu⟩, S.trail, out R.clst (ne_of R.clst R.ins (fun z => nomatch z)) (Ne.symm R.lc) (Ne.symm R.tc), ?_,
    fr nl e R.lr, S.lt, S.lc, Ne.symm (fr nt e (Ne.symm R.rt)), R.rc, S.tc, frg nl R.gl, R.gr, frg nt R.gt, R.gc⟩
  rw [ec]
  refine R.chs.keep tu (fun q d2 g i j e2 => ?_) (fun g mg xs e2 => ?_)
  · exact out e2 (ne_of e2 R.ins (fun z => mf_cf (HO.ins.inj z).2.2.symm)) (ne_of e2 hl (fun z => nomatch z)) (ne_of e2 R.trail (fun z => nomatch z))
  · exact out e2 (ne_of e2 R.ins (fun z => nomatch z)) (fun z => R.gl (by rw [← z]; exact mg)) (fun z => R.gt (by rw [← z]; exact mg))
end

/-! Refusals. -/
/-- which refusal is due: none of them 0 -/
def refCode (m : Lg04.M) (named : List Nat) (oob : Bool) (looked : List Nat) : Int := if named.all Lg06.isReg = false then -2 else if oob = true then -1 else if (looked.any fun x => (Lg06.cellIn m x).isNone) = true then -4 else 0
def nats (l : List Nat) : List V := l.map fun (n : Nat) => V.int (n : Int)
def spRef (C CC : Addr) : Sp := fun vs H Q _ => ∃ (p dx l r t c na nb : Addr) (qs gs : List Addr) (m : Lg04.M) (named looked : List Nat) (oob : Bool), vs = [.ref p, .ref na, .bl oob, .ref nb] ∧ Mach C CC H p dx l r t c qs gs m ∧ m.regs.length = 16 ∧
  H na = some (.lst (nats named)) ∧ H nb = some (.lst (nats looked)) ∧ (∀ x, x ∈ looked → x ∈ named) ∧ named.length ≤ 40 ∧ looked.length ≤ 40 ∧ ∀ H', Same H H' → Q (.int (refCode m named oob looked)) H'

/-- names of the single calls' file -/
structure Txt2 (mg : Str → Option Value) : Prop where
  ok : ∃ t, mg "NOT_REFUSED" = some (.int 0 t)
  high : ∃ t, mg "HIGHEST_SYMBOL" = some (.int 999 t)
  most : ∃ t, mg "MOST_ARGUMENTS" = some (.int 4 t)

theorem isReg_iff {r : Nat} : Lg06.isReg r = true ↔ r < 16 := by
  unfold Lg06.isReg Lg04.REGS
  exact decide_eq_true_iff
theorem reg_at {H : Hp} {vs : List V} {m : Lg04.M} (rv : RVals H vs m.regs) (l16 : m.regs.length = 16) {k : Nat} (lk : k < 16) : (atI vs (k : Int) = some .non ∧ Lg06.cellIn m k = none) ∨ ∃ t x, atI vs (k : Int) = some (.ref t) ∧ Lg06.cellIn m k = some x ∧ CellIs H t x := by
  rcases rv.at_ k (by omega) with ⟨e1, e2⟩ | ⟨t, x, e1, e2, h⟩
  · refine .inl ⟨atI_nat e1, ?_⟩
    unfold Lg06.cellIn Lg04.regVal
    rw [List.getD_eq_getElem?_getD, e2]
    rfl
  · refine .inr ⟨t, x, atI_nat e1, ?_, h⟩
    unfold Lg06.cellIn Lg04.regVal
    rw [List.getD_eq_getElem?_getD, e2]
    rfl
theorem ixN_nat {n k : Nat} (h : k < n) : ixN n (k : Int) = some k := by
  unfold ixN
  rw [if_pos (by omega), if_pos (by omega)]
  simp

section
variable {P : Program} {w : World} {K : PySem.W.Frag} {mg : Str → Option Value} {base : PySem.Heap}
abbrev sNew : Stmt := top 31
theorem scNew : FnScope ["machine", "r", "refused"] ["machine", "r"] (defScope sNew) := ⟨rfl, rfl, rfl, by decide +kernel, rfl, by decide +kernel, by decide +kernel⟩
def spNew (C CC : Addr) : Sp := fun vs H Q _ => ∃ (p : Addr) (ow : List Addr) (m : Lg04.M) (r0 : Nat), vs = [.ref p, .int r0] ∧ MachW C CC H p ow m ∧ Inv m ∧ m.heap.size ≤ 900 ∧ Does C CC p ow m (.new_ r0) H Q
abbrev sRef : Stmt := top 20
theorem ok_new {C CC f fR fV : Addr} {fd fdR fdV : FuncData} (D : Dn K mg "call_new" sNew ["machine", "r"] f fd) (L : Cl K C CC) (T2 : Txt2 mg)
    (GR : FnOk P w K mg base CX0 1 fR fdR ["machine", "named", "out_of_bounds", "looked_at"] (spRef C CC)) (DR : Dn K mg "refusal" sRef ["machine", "named", "out_of_bounds", "looked_at"] fR fdR)
    (GV : FnOk P w K mg base CX0 1 fV fdV ["self"] (spAV C CC)) (bV : Binds K fdV ["self"] []) (mV : Meth K C "add_variable" fV) : FnOk P w K mg base CX0 2 f fd ["machine", "r"] (spNew C CC) := by
  refine D.F.ok scNew (fun vs H Q E h => ?_) (fun cdv A outer s H vs Q E hr h => ?_)
  · obtain ⟨p, ow, m, r0, rfl, _⟩ := h
    rfl
  · obtain ⟨p, ow, m, r0, rfl, ⟨dx, l, r, t, c, qs, gs, R, rfl⟩, I, hs, d⟩ := h
    obtain ⟨tn, mgn⟩ := T2.ok
    refine ⟨_, pss_cons (ps_set (i := 2) scNew.nd rfl (Or.inl rfl) (pe_call GR hr rfl DR.m DR.F.kp DR.b .nil pass0 (pa_cons (pv 0) (pa_cons (pe_lst (pa_cons (pv 1) pa_nil)) (pa_cons pe_bl (pa_cons (pe_lst pa_nil) pa_nil))))))
      (pss_cons (ps_if (pt_cmpR op_ne (pv 2) (pe_glob (v := .int 0) rfl mgn ⟨_, rfl⟩) (nomark _)) (pss_one (ps_ret (pe_lst (pa_cons (pv 2) pa_nil)))) pss_nil)
      (pss_cons (ps_asg (pe_meth0 (pv 0) L.cl mV GV hr bV .nil pass0) (pg_sub (pe_fld (pv 0) rfl) (pv 1) set_list))
      (pss_one (ps_ret (pe_lst (pa_cons pe_int pa_nil)))))), ?_⟩
    refine ⟨_, rfl, _, rfl, (by show 1 ≤ sizeLine; decide), fun na hna => ⟨(by show 0 ≤ sizeLine; decide), fun nb hnb => ?_⟩⟩
    have sm : Same H (upd (upd H na (.lst [.int r0])) nb (.lst [])) := (same_new hna).trans (same_new hnb)
    have hna2 : (upd (upd H na (.lst [.int r0])) nb (.lst [])) na = some (.lst (nats [r0])) := by rw [upd_ne (ne_of_none upd_same hnb), upd_same]; rfl
    have hnb2 : (upd (upd H na (.lst [.int r0])) nb (.lst [])) nb = some (.lst (nats [])) := upd_same
    generalize upd (upd H na (.lst [.int r0])) nb (.lst []) = H1 at sm hna2 hnb2
    refine ⟨p, dx, l, r, t, c, na, nb, qs, gs, m, [r0], [], false, rfl, R.same sm, I.regs.1, hna2, hnb2, (fun x mx => by cases mx), (by show 1 ≤ 40; decide), (by show 0 ≤ 40; decide), fun H2 sm2 => ?_⟩
    have smm := sm.trans sm2
    have R2 := R.same smm
    refine ⟨_, rfl, rfl, _, rfl, ?_⟩
    by_cases lr : r0 < 16
    · have z : refCode m [r0] false [] = 0 := by unfold refCode; simp [isReg_iff.mpr lr]
      rw [z]
      refine ifF (by rfl) ?_
      have st : Lg06.step m (.new_ r0) = (Lg06.put { m with heap := m.heap.push (.ref m.heap.size) } r0 (.ref m.heap.size), [0]) := by
        unfold Lg06.step
        dsimp only
        rw [if_neg (by rw [isReg_iff.mpr lr]; decide)]
      refine ⟨_, rfl, p, dx, _, rfl, R2.ins, mf_none (by decide +kernel) (by decide +kernel) (by decide +kernel) (by decide +kernel), p, dx, l, r, t, c, m, rfl, R2.core, by omega, fun H3 tc hc3 ntc S3 b3 => ?_⟩
      have b3' : But [p, l, t] H2 H3 := fun u o e n => b3 u o e (fun z => n (by simp at z; subst z; simp))
      have R3 := R2.next S3 rfl rfl b3' (.inl rfl) (.inl rfl)
      obtain ⟨vs, hv, rv⟩ := R3.regs
      have vl : vs.length = 16 := by rw [rv.length]; exact I.regs.1
      refine ⟨_, rfl, p, C, dx, _, _, rfl, R3.ins, L.cl, L.nr, mf_regs, _, rfl, r, _, _, r0, rfl, rfl, hv, ixN_nat (by omega), ?_⟩
      refine ⟨(by show 1 ≤ sizeLine; decide), fun q hq => ?_⟩
      refine d.fin (R3.updRegs (rv.setCell hc3 r0)) st (fun b mb => .inl mb) ?_ hq rfl
      intro u o e n
      have n' : u ∉ own p l r t c qs gs := n
      unfold own at n'
      simp only [List.mem_cons, not_or] at n'
      rw [upd_ne n'.2.2.1]
      exact b3 u o (smm _ _ e) (by simp; exact n'.2.1)
    · have z : refCode m [r0] false [] = -2 := by
        unfold refCode
        have : Lg06.isReg r0 = false := by
          cases e : Lg06.isReg r0 with
          | false => rfl
          | true => exact absurd (isReg_iff.mp e) lr
        simp [this]
      rw [z]
      refine ifT (by rfl) ?_
      refine ⟨_, rfl, (by show 1 ≤ sizeLine; decide), fun q hq => ?_⟩
      refine d.fin R2 (n := m) (zs := [-2]) ?_ (fun b mb => .inl mb) (But.of_same smm) hq rfl
      unfold Lg06.step
      dsimp only
      rw [if_pos (by
        cases e : Lg06.isReg r0 with
        | false => rfl
        | true => exact absurd (isReg_iff.mp e) lr)]
end
end Sw
namespace Sw
open PySem PySem.Spec PyProof.Rows
open L2 hiding Walk
open Lg04 (Cell cellAt look within unify same)

theorem isReg_no {r : Nat} (h : ¬ r < 16) : Lg06.isReg r = false := by
  cases e : Lg06.isReg r with
  | false => rfl
  | true => exact absurd (isReg_iff.mp e) h
theorem own_out {p l r t c u : Addr} {qs gs : List Addr} (n : u ∉ own p l r t c qs gs) : u ≠ p ∧ u ≠ l ∧ u ≠ r ∧ u ≠ t ∧ u ≠ c := by
  unfold own at n
  simp only [List.mem_cons, not_or] at n
  exact ⟨n.1, n.2.1, n.2.2.1, n.2.2.2.1, n.2.2.2.2.1⟩
/-- the registers' list alone changed -/
theorem but_regs {p l r t c : Addr} {qs gs : List Addr} {H H2 : Hp} {o : HO} (b : But (own p l r t c qs gs) H H2) : But (own p l r t c qs gs) H (upd H2 r o) := b.upd (by unfold own; simp)

theorem ref_zero {m : Lg04.M} {named looked : List Nat} {oob : Bool} (h : refCode m named oob looked = 0) : (∀ x, x ∈ named → x < 16) ∧ oob = false ∧ ∀ x, x ∈ looked → ∃ v, Lg06.cellIn m x = some v := by
  unfold refCode at h
  by_cases h1 : named.all Lg06.isReg = false
  · rw [if_pos h1] at h; cases h
  · rw [if_neg h1] at h
    by_cases h2 : oob = true
    · rw [if_pos h2] at h; cases h
    · rw [if_neg h2] at h
      by_cases h3 : (looked.any fun x => (Lg06.cellIn m x).isNone) = true
      · rw [if_pos h3] at h; cases h
      · refine ⟨fun x mx => ?_, by simpa using h2, fun x mx => ?_⟩
        · have : named.all Lg06.isReg = true := by simpa using h1
          exact isReg_iff.mp (List.all_eq_true.mp this x mx)
        · cases e : Lg06.cellIn m x with
          | some v => exact ⟨v, rfl⟩
          | none =>
            exfalso
            apply h3
            rw [List.any_eq_true]
            exact ⟨x, mx, by rw [e]; rfl⟩
theorem ref_not {m : Lg04.M} {named looked : List Nat} {oob : Bool} (h : ¬ refCode m named oob looked = 0) : (named.all Lg06.isReg = false ∧ refCode m named oob looked = -2) ∨
    (named.all Lg06.isReg = true ∧ oob = true ∧ refCode m named oob looked = -1) ∨ (named.all Lg06.isReg = true ∧ oob = false ∧ (looked.any fun x => (Lg06.cellIn m x).isNone) = true ∧ refCode m named oob looked = -4) := by
  unfold refCode at h ⊢
  by_cases h1 : named.all Lg06.isReg = false
  · exact .inl ⟨h1, by rw [if_pos h1]⟩
  · have h1' : named.all Lg06.isReg = true := by simpa using h1
    rw [if_neg h1] at h ⊢
    by_cases h2 : oob = true
    · exact .inr (.inl ⟨h1', h2, by rw [if_pos h2]⟩)
    · have h2' : oob = false := by simpa using h2
      rw [if_neg h2] at h ⊢
      by_cases h3 : (looked.any fun x => (Lg06.cellIn m x).isNone) = true
      · exact .inr (.inr ⟨h1', h2', h3, by rw [if_pos h3]⟩)
      · rw [if_neg h3] at h
        exact absurd rfl h
theorem neT {z : Int} (h : ¬ z = 0) : (!decide (V.int z = V.int 0)) = true := by rw [decF h]; rfl
theorem neF {z : Int} (h : z = 0) : (!decide (V.int z = V.int 0)) = false := by rw [decT h]; rfl
theorem all1 {r : Nat} : ([r].all Lg06.isReg) = Lg06.isReg r := by simp
theorem all2 {r q : Nat} : ([r, q].all Lg06.isReg) = (Lg06.isReg r && Lg06.isReg q) := by simp
theorem or_reg {r q : Nat} (h : (Lg06.isReg r && Lg06.isReg q) = false) : Lg06.isReg r = false ∨ Lg06.isReg q = false := Bool.and_eq_false_iff.mp h
theorem nor_reg {r q : Nat} (h : (Lg06.isReg r && Lg06.isReg q) = true) : ¬ (Lg06.isReg r = false ∨ Lg06.isReg q = false) := by
  rw [Bool.and_eq_true] at h
  rintro (z | z)
  · rw [h.1] at z; cases z
  · rw [h.2] at z; cases z
theorem step_con_ref {m : Lg04.M} {r sy : Nat} (h : ¬ refCode m [r] (decide ((sy : Int) > 999)) [] = 0) : Lg06.step m (.con r sy) = (m, [refCode m [r] (decide ((sy : Int) > 999)) []]) := by
  unfold Lg06.step
  dsimp only
  rcases ref_not h with ⟨a, e⟩ | ⟨a, b, e⟩ | ⟨a, b, x, e⟩
  · rw [all1] at a
    rw [if_pos a, e]
  · rw [all1] at a
    rw [if_neg (by rw [a]; decide), if_pos (by have := of_decide_eq_true b; omega), e]
  · cases x
theorem step_clear_ref {m : Lg04.M} {r : Nat} (h : ¬ refCode m [r] false [] = 0) : Lg06.step m (.clear r) = (m, [refCode m [r] false []]) := by
  unfold Lg06.step
  dsimp only
  rcases ref_not h with ⟨a, e⟩ | ⟨a, b, e⟩ | ⟨a, b, x, e⟩
  · rw [all1] at a
    rw [if_pos a, e]
  · cases b
  · cases x
theorem step_copy_ref {m : Lg04.M} {r q : Nat} (h : ¬ refCode m [r, q] false [r] = 0) : Lg06.step m (.copy r q) = (m, [refCode m [r, q] false [r]]) := by
  unfold Lg06.step
  dsimp only
  rcases ref_not h with ⟨a, e⟩ | ⟨a, b, e⟩ | ⟨a, b, x, e⟩
  · rw [all2] at a
    rw [if_pos (or_reg a), e]
  · cases b
  · rw [all2] at a
    rw [if_neg (nor_reg a), e]
    simp at x
    rw [x]
theorem step_arg_ref {m : Lg04.M} {r i q : Nat} (h : ¬ refCode m [r, q] false [r] = 0) : Lg06.step m (.arg r i q) = (m, [refCode m [r, q] false [r]]) := by
  unfold Lg06.step
  dsimp only
  rcases ref_not h with ⟨a, e⟩ | ⟨a, b, e⟩ | ⟨a, b, x, e⟩
  · rw [all2] at a
    rw [if_pos (or_reg a), e]
  · cases b
  · rw [all2] at a
    rw [if_neg (nor_reg a), e]
    simp at x
    rw [x]
theorem step_same_ref {m : Lg04.M} {r q : Nat} (h : ¬ refCode m [r, q] false [r, q] = 0) : Lg06.step m (.same r q) = (m, [refCode m [r, q] false [r, q]]) := by
  unfold Lg06.step
  dsimp only
  rcases ref_not h with ⟨a, e⟩ | ⟨a, b, e⟩ | ⟨a, b, x, e⟩
  · rw [all2] at a
    rw [if_pos (or_reg a), e]
  · cases b
  · rw [all2] at a
    rw [if_neg (nor_reg a), e]
    simp at x
    rcases x with x | x
    · rw [x]
    · rw [x]
      cases Lg06.cellIn m r <;> rfl

section
variable {P : Program} {w : World} {K : PySem.W.Frag} {mg : Str → Option Value} {base : PySem.Heap}
/-! con -/
abbrev sCon : Stmt := top 32
theorem scCon : FnScope ["machine", "r", "symbol", "refused"] ["machine", "r", "symbol"] (defScope sCon) := ⟨rfl, rfl, rfl, by decide +kernel, rfl, by decide +kernel, by decide +kernel⟩
def spCon (C CC : Addr) : Sp := fun vs H Q _ => ∃ (p : Addr) (ow : List Addr) (m : Lg04.M) (r0 sy : Nat), vs = [.ref p, .int r0, .int sy] ∧ MachW C CC H p ow m ∧ Inv m ∧ Does C CC p ow m (.con r0 sy) H Q
theorem ok_con {C CC f fR : Addr} {fd fdR : FuncData} (D : Dn K mg "call_con" sCon ["machine", "r", "symbol"] f fd) (L : Cl K C CC) (T : Txt K mg) (T2 : Txt2 mg)
    (GR : FnOk P w K mg base CX0 1 fR fdR ["machine", "named", "out_of_bounds", "looked_at"] (spRef C CC)) (DR : Dn K mg "refusal" sRef ["machine", "named", "out_of_bounds", "looked_at"] fR fdR) : FnOk P w K mg base CX0 2 f fd ["machine", "r", "symbol"] (spCon C CC) := by
  refine D.F.ok scCon (fun vs H Q E h => ?_) (fun cdv A outer s H vs Q E hr h => ?_)
  · obtain ⟨p, ow, m, r0, sy, rfl, _⟩ := h
    rfl
  · obtain ⟨p, ow, m, r0, sy, rfl, ⟨dx, l, r, t, c, qs, gs, R, rfl⟩, I, d⟩ := h
    obtain ⟨tn, mgn⟩ := T2.ok
    obtain ⟨th, mgh⟩ := T2.high
    obtain ⟨tc0, mgc⟩ := T.con
    refine ⟨_, pss_cons (ps_set (i := 3) scCon.nd rfl (Or.inl rfl) (pe_call GR hr rfl DR.m DR.F.kp DR.b .nil pass0 (pa_cons (pv 0) (pa_cons (pe_lst (pa_cons (pv 1) pa_nil)) (pa_cons (pe_cmpR op_gt (pv 2) (pe_glob (v := .int 999) rfl mgh ⟨_, rfl⟩) (nomark _)) (pa_cons (pe_lst pa_nil) pa_nil))))))
      (pss_cons (ps_if (pt_cmpR op_ne (pv 3) (pe_glob (v := .int 0) rfl mgn ⟨_, rfl⟩) (nomark _)) (pss_one (ps_ret (pe_lst (pa_cons (pv 3) pa_nil)))) pss_nil)
      (pss_cons (ps_asg (pe_tup (pa_cons (pe_glob (v := .int 1) rfl mgc ⟨_, rfl⟩) (pa_cons (pv 2) pa_nil))) (pg_sub (pe_fld (pv 0) rfl) (pv 1) set_list))
      (pss_one (ps_ret (pe_lst (pa_cons pe_int pa_nil)))))), ?_⟩
    refine ⟨_, rfl, _, rfl, (by show 1 ≤ sizeLine; decide), fun na hna => ⟨_, rfl, _, _, rfl, rfl, (by show 0 ≤ sizeLine; decide), fun nb hnb => ?_⟩⟩
    have sm : Same H (upd (upd H na (.lst [.int r0])) nb (.lst [])) := (same_new hna).trans (same_new hnb)
    have hna2 : (upd (upd H na (.lst [.int r0])) nb (.lst [])) na = some (.lst (nats [r0])) := by rw [upd_ne (ne_of_none upd_same hnb), upd_same]; rfl
    have hnb2 : (upd (upd H na (.lst [.int r0])) nb (.lst [])) nb = some (.lst (nats [])) := upd_same
    generalize upd (upd H na (.lst [.int r0])) nb (.lst []) = H1 at sm hna2 hnb2
    refine ⟨p, dx, l, r, t, c, na, nb, qs, gs, m, [r0], [], _, rfl, R.same sm, I.regs.1, hna2, hnb2, (fun x mx => by cases mx), (by show 1 ≤ 40; decide), (by show 0 ≤ 40; decide), fun H2 sm2 => ?_⟩
    have smm := sm.trans sm2
    have R2 := R.same smm
    refine ⟨_, rfl, rfl, _, rfl, ?_⟩
    by_cases z : refCode m [r0] (decide ((sy : Int) > 999)) [] = 0
    · obtain ⟨z1, z2, _⟩ := ref_zero z
      have lr : r0 < 16 := z1 r0 (.head _)
      have ls : ¬ (sy : Int) > 999 := of_decide_eq_false z2
      refine ifF (neF z) ?_
      refine ⟨_, rfl, (by show 2 ≤ sizeLine; decide), fun tc htc => ?_⟩
      have sm3 : Same H2 (upd H2 tc (.tup [.int 1, .int sy])) := same_new htc
      have ct : CellIs (upd H2 tc (.tup [.int 1, .int sy])) tc (.con sy) := upd_same
      generalize upd H2 tc (.tup [.int 1, .int sy]) = H3 at sm3 ct
      have R3 := R2.same sm3
      obtain ⟨vs, hv, rv⟩ := R3.regs
      have vl : vs.length = 16 := by rw [rv.length]; exact I.regs.1
      refine ⟨_, rfl, p, C, dx, _, _, rfl, R3.ins, L.cl, L.nr, mf_regs, _, rfl, r, _, _, r0, rfl, rfl, hv, ixN_nat (by omega), ?_⟩
      refine ⟨(by show 1 ≤ sizeLine; decide), fun q hq => ?_⟩
      refine d.fin (R3.updRegs (rv.setCell ct r0)) (zs := [0]) ?_ (fun b mb => .inl mb) (but_regs (But.of_same (smm.trans sm3))) hq rfl
      unfold Lg06.step
      dsimp only
      rw [if_neg (by rw [isReg_iff.mpr lr]; decide), if_neg (by omega)]
      rfl
    · exact ifT (neT z) ⟨_, rfl, (by show 1 ≤ sizeLine; decide), fun q hq => d.fin R2 (step_con_ref z) (fun b mb => .inl mb) (But.of_same smm) hq rfl⟩

/-! clear -/
abbrev sClear : Stmt := top 35
theorem scClear : FnScope ["machine", "r", "refused"] ["machine", "r"] (defScope sClear) := ⟨rfl, rfl, rfl, by decide +kernel, rfl, by decide +kernel, by decide +kernel⟩
def spClear (C CC : Addr) : Sp := fun vs H Q _ => ∃ (p : Addr) (ow : List Addr) (m : Lg04.M) (r0 : Nat), vs = [.ref p, .int r0] ∧ MachW C CC H p ow m ∧ Inv m ∧ Does C CC p ow m (.clear r0) H Q
theorem ok_clear {C CC f fR : Addr} {fd fdR : FuncData} (D : Dn K mg "call_clear" sClear ["machine", "r"] f fd) (L : Cl K C CC) (T2 : Txt2 mg)
    (GR : FnOk P w K mg base CX0 1 fR fdR ["machine", "named", "out_of_bounds", "looked_at"] (spRef C CC)) (DR : Dn K mg "refusal" sRef ["machine", "named", "out_of_bounds", "looked_at"] fR fdR) : FnOk P w K mg base CX0 2 f fd ["machine", "r"] (spClear C CC) := by
  refine D.F.ok scClear (fun vs H Q E h => ?_) (fun cdv A outer s H vs Q E hr h => ?_)
  · obtain ⟨p, ow, m, r0, rfl, _⟩ := h
    rfl
  · obtain ⟨p, ow, m, r0, rfl, ⟨dx, l, r, t, c, qs, gs, R, rfl⟩, I, d⟩ := h
    obtain ⟨tn, mgn⟩ := T2.ok
    refine ⟨_, pss_cons (ps_set (i := 2) scClear.nd rfl (Or.inl rfl) (pe_call GR hr rfl DR.m DR.F.kp DR.b .nil pass0 (pa_cons (pv 0) (pa_cons (pe_lst (pa_cons (pv 1) pa_nil)) (pa_cons pe_bl (pa_cons (pe_lst pa_nil) pa_nil))))))
      (pss_cons (ps_if (pt_cmpR op_ne (pv 2) (pe_glob (v := .int 0) rfl mgn ⟨_, rfl⟩) (nomark _)) (pss_one (ps_ret (pe_lst (pa_cons (pv 2) pa_nil)))) pss_nil)
      (pss_cons (ps_asg pe_non (pg_sub (pe_fld (pv 0) rfl) (pv 1) set_list))
      (pss_one (ps_ret (pe_lst (pa_cons pe_int pa_nil)))))), ?_⟩
    refine ⟨_, rfl, _, rfl, (by show 1 ≤ sizeLine; decide), fun na hna => ⟨(by show 0 ≤ sizeLine; decide), fun nb hnb => ?_⟩⟩
    have sm : Same H (upd (upd H na (.lst [.int r0])) nb (.lst [])) := (same_new hna).trans (same_new hnb)
    have hna2 : (upd (upd H na (.lst [.int r0])) nb (.lst [])) na = some (.lst (nats [r0])) := by rw [upd_ne (ne_of_none upd_same hnb), upd_same]; rfl
    have hnb2 : (upd (upd H na (.lst [.int r0])) nb (.lst [])) nb = some (.lst (nats [])) := upd_same
    generalize upd (upd H na (.lst [.int r0])) nb (.lst []) = H1 at sm hna2 hnb2
    refine ⟨p, dx, l, r, t, c, na, nb, qs, gs, m, [r0], [], _, rfl, R.same sm, I.regs.1, hna2, hnb2, (fun x mx => by cases mx), (by show 1 ≤ 40; decide), (by show 0 ≤ 40; decide), fun H2 sm2 => ?_⟩
    have smm := sm.trans sm2
    have R2 := R.same smm
    refine ⟨_, rfl, rfl, _, rfl, ?_⟩
    by_cases z : refCode m [r0] false [] = 0
    · obtain ⟨z1, _, _⟩ := ref_zero z
      have lr : r0 < 16 := z1 r0 (.head _)
      refine ifF (neF z) ?_
      obtain ⟨vs, hv, rv⟩ := R2.regs
      have vl : vs.length = 16 := by rw [rv.length]; exact I.regs.1
      refine ⟨_, rfl, p, C, dx, _, _, rfl, R2.ins, L.cl, L.nr, mf_regs, _, rfl, r, _, _, r0, rfl, rfl, hv, ixN_nat (by omega), ?_⟩
      refine ⟨(by show 1 ≤ sizeLine; decide), fun q hq => ?_⟩
      refine d.fin (R2.updRegs (rv.setNone r0)) (zs := [0]) ?_ (fun b mb => .inl mb) (but_regs (But.of_same smm)) hq rfl
      unfold Lg06.step
      dsimp only
      rw [if_neg (by rw [isReg_iff.mpr lr]; decide)]
    · exact ifT (neT z) ⟨_, rfl, (by show 1 ≤ sizeLine; decide), fun q hq => d.fin R2 (step_clear_ref z) (fun b mb => .inl mb) (But.of_same smm) hq rfl⟩

/-! copy -/
abbrev sCopy : Stmt := top 34
theorem scCopy : FnScope ["machine", "r", "q", "refused"] ["machine", "r", "q"] (defScope sCopy) := ⟨rfl, rfl, rfl, by decide +kernel, rfl, by decide +kernel, by decide +kernel⟩
def spCopy (C CC : Addr) : Sp := fun vs H Q _ => ∃ (p : Addr) (ow : List Addr) (m : Lg04.M) (r0 q0 : Nat), vs = [.ref p, .int r0, .int q0] ∧ MachW C CC H p ow m ∧ Inv m ∧ Does C CC p ow m (.copy r0 q0) H Q
theorem ok_copy {C CC f fR : Addr} {fd fdR : FuncData} (D : Dn K mg "call_copy" sCopy ["machine", "r", "q"] f fd) (L : Cl K C CC) (T2 : Txt2 mg)
    (GR : FnOk P w K mg base CX0 1 fR fdR ["machine", "named", "out_of_bounds", "looked_at"] (spRef C CC)) (DR : Dn K mg "refusal" sRef ["machine", "named", "out_of_bounds", "looked_at"] fR fdR) : FnOk P w K mg base CX0 2 f fd ["machine", "r", "q"] (spCopy C CC) := by
  refine D.F.ok scCopy (fun vs H Q E h => ?_) (fun cdv A outer s H vs Q E hr h => ?_)
  · obtain ⟨p, ow, m, r0, q0, rfl, _⟩ := h
    rfl
  · obtain ⟨p, ow, m, r0, q0, rfl, ⟨dx, l, r, t, c, qs, gs, R, rfl⟩, I, d⟩ := h
    obtain ⟨tn, mgn⟩ := T2.ok
    refine ⟨_, pss_cons (ps_set (i := 3) scCopy.nd rfl (Or.inl rfl) (pe_call GR hr rfl DR.m DR.F.kp DR.b .nil pass0 (pa_cons (pv 0) (pa_cons (pe_lst (pa_cons (pv 1) (pa_cons (pv 2) pa_nil))) (pa_cons pe_bl (pa_cons (pe_lst (pa_cons (pv 1) pa_nil)) pa_nil))))))
      (pss_cons (ps_if (pt_cmpR op_ne (pv 3) (pe_glob (v := .int 0) rfl mgn ⟨_, rfl⟩) (nomark _)) (pss_one (ps_ret (pe_lst (pa_cons (pv 3) pa_nil)))) pss_nil)
      (pss_cons (ps_asg (pe_ix ix_list (pe_fld (pv 0) rfl) (pv 1) (fun _ _ => rfl)) (pg_sub (pe_fld (pv 0) rfl) (pv 2) set_list))
      (pss_one (ps_ret (pe_lst (pa_cons pe_int pa_nil)))))), ?_⟩
    refine ⟨_, rfl, _, rfl, _, rfl, (by show 2 ≤ sizeLine; decide), fun na hna => ⟨_, rfl, (by show 1 ≤ sizeLine; decide), fun nb hnb => ?_⟩⟩
    have sm : Same H (upd (upd H na (.lst [.int r0, .int q0])) nb (.lst [.int r0])) := (same_new hna).trans (same_new hnb)
    have hna2 : (upd (upd H na (.lst [.int r0, .int q0])) nb (.lst [.int r0])) na = some (.lst (nats [r0, q0])) := by rw [upd_ne (ne_of_none upd_same hnb), upd_same]; rfl
    have hnb2 : (upd (upd H na (.lst [.int r0, .int q0])) nb (.lst [.int r0])) nb = some (.lst (nats [r0])) := upd_same
    generalize upd (upd H na (.lst [.int r0, .int q0])) nb (.lst [.int r0]) = H1 at sm hna2 hnb2
    refine ⟨p, dx, l, r, t, c, na, nb, qs, gs, m, [r0, q0], [r0], _, rfl, R.same sm, I.regs.1, hna2, hnb2, (fun x mx => by simp at mx; subst mx; simp), (by show 2 ≤ 40; decide), (by show 1 ≤ 40; decide), fun H2 sm2 => ?_⟩
    have smm := sm.trans sm2
    have R2 := R.same smm
    refine ⟨_, rfl, rfl, _, rfl, ?_⟩
    by_cases z : refCode m [r0, q0] false [r0] = 0
    · obtain ⟨z1, _, z3⟩ := ref_zero z
      have lr : r0 < 16 := z1 r0 (.head _)
      have lq : q0 < 16 := z1 q0 (.tail _ (.head _))
      obtain ⟨x, ex⟩ := z3 r0 (.head _)
      refine ifF (neF z) ?_
      obtain ⟨vs, hv, rv⟩ := R2.regs
      have vl : vs.length = 16 := by rw [rv.length]; exact I.regs.1
      rcases reg_at rv I.regs.1 lr with ⟨_, e2⟩ | ⟨tc, x', ea, e2, hc⟩
      · rw [ex] at e2; cases e2
      rw [ex] at e2
      cases e2
      refine ⟨_, rfl, p, C, dx, _, _, rfl, R2.ins, L.cl, L.nr, mf_regs, _, rfl, r, _, _, _, rfl, rfl, SqL.of hv, ea, ?_⟩
      refine ⟨_, rfl, p, C, dx, _, _, rfl, R2.ins, L.cl, L.nr, mf_regs, _, rfl, r, _, _, q0, rfl, rfl, hv, ixN_nat (by omega), ?_⟩
      refine ⟨(by show 1 ≤ sizeLine; decide), fun q hq => ?_⟩
      refine d.fin (R2.updRegs (rv.setCell hc q0)) (zs := [0]) ?_ (fun b mb => .inl mb) (but_regs (But.of_same smm)) hq rfl
      unfold Lg06.step
      dsimp only
      rw [if_neg (by rw [isReg_iff.mpr lr, isReg_iff.mpr lq]; simp), ex]
      rfl
    · exact ifT (neT z) ⟨_, rfl, (by show 1 ≤ sizeLine; decide), fun q hq => d.fin R2 (step_copy_ref z) (fun b mb => .inl mb) (But.of_same smm) hq rfl⟩
end
end Sw
namespace Sw
open PySem PySem.Spec PyProof.Rows
open L2 hiding Walk
open Lg04 (Cell cellAt look within unify same)

section
variable {P : Program} {w : World} {K : PySem.W.Frag} {mg : Str → Option Value} {base : PySem.Heap}
/-! arg -/
abbrev sArg : Stmt := top 37
theorem scArg : FnScope ["machine", "r", "i", "q", "refused", "cell"] ["machine", "r", "i", "q"] (defScope sArg) := ⟨rfl, rfl, rfl, by decide +kernel, rfl, by decide +kernel, by decide +kernel⟩
def spArg (C CC : Addr) : Sp := fun vs H Q _ => ∃ (p : Addr) (ow : List Addr) (m : Lg04.M) (r0 i0 q0 : Nat), vs = [.ref p, .int r0, .int i0, .int q0] ∧ MachW C CC H p ow m ∧ Inv m ∧ Does C CC p ow m (.arg r0 i0 q0) H Q
theorem ok_arg {C CC f fR fL fC : Addr} {fd fdR fdL fdC : FuncData} (D : Dn K mg "call_arg" sArg ["machine", "r", "i", "q"] f fd) (L : Cl K C CC) (T : Txt K mg) (T2 : Txt2 mg)
    (GR : FnOk P w K mg base CX0 1 fR fdR ["machine", "named", "out_of_bounds", "looked_at"] (spRef C CC)) (DR : Dn K mg "refusal" sRef ["machine", "named", "out_of_bounds", "looked_at"] fR fdR)
    (GL : FnOk P w K mg base CX0 1 fL fdL ["heap", "cell"] spLook) (DL : Dn K mg "looked_through" sLook ["heap", "cell"] fL fdL)
    (GC : FnOk P w K mg base CX0 1 fC fdC ["heap", "head_place"] spCount) (DC : Dn K mg "argument_count" sCount ["heap", "head_place"] fC fdC) : FnOk P w K mg base CX0 2 f fd ["machine", "r", "i", "q"] (spArg C CC) := by
  refine D.F.ok scArg (fun vs H Q E h => ?_) (fun cdv A outer s H vs Q E hr h => ?_)
  · obtain ⟨p, ow, m, r0, i0, q0, rfl, _⟩ := h
    rfl
  · obtain ⟨p, ow, m, r0, i0, q0, rfl, ⟨dx, l, r, t, c, qs, gs, R, rfl⟩, I, d⟩ := h
    obtain ⟨tn, mgn⟩ := T2.ok
    obtain ⟨tp, mgp⟩ := T.place
    obtain ⟨ts, mgs⟩ := T.str
    refine ⟨_, pss_cons (ps_set (i := 4) scArg.nd rfl (Or.inl rfl) (pe_call GR hr rfl DR.m DR.F.kp DR.b .nil pass0 (pa_cons (pv 0) (pa_cons (pe_lst (pa_cons (pv 1) (pa_cons (pv 3) pa_nil))) (pa_cons pe_bl (pa_cons (pe_lst (pa_cons (pv 1) pa_nil)) pa_nil))))))
      (pss_cons (ps_if (pt_cmpR op_ne (pv 4) (pe_glob (v := .int 0) rfl mgn ⟨_, rfl⟩) (nomark _)) (pss_one (ps_ret (pe_lst (pa_cons (pv 4) pa_nil)))) pss_nil)
      (pss_cons (ps_set (i := 5) scArg.nd rfl (Or.inl rfl) (pe_call GL hr rfl DL.m DL.F.kp DL.b .nil pass0 (pa_cons (pe_fld (pv 0) rfl) (pa_cons (pe_ix ix_list (pe_fld (pv 0) rfl) (pv 1) (fun _ _ => rfl)) pa_nil))))
      (pss_cons (ps_if (PW.pt (pw_or (pt_cmpR op_ne (pe_ix ix_tup (pv 5) pe_int (fun _ _ => rfl)) (pe_glob (v := .int 2) rfl mgs ⟨_, rfl⟩) (nomark _)) (pw_or1 (pt_cmpR op_ge (pv 2) (pe_call GC hr rfl DC.m DC.F.kp DC.b .nil pass0 (pa_cons (pe_fld (pv 0) rfl) (pa_cons (pe_ix ix_tup (pv 5) pe_int (fun _ _ => rfl)) pa_nil))) (nomark _))))) (pss_one (ps_ret (pe_lst (pa_cons pe_int pa_nil)))) pss_nil)
      (pss_cons (ps_asg (pe_tup (pa_cons (pe_glob (v := .int 0) rfl mgp ⟨_, rfl⟩) (pa_cons (pe_op op_add (pe_op op_add (pe_ix ix_tup (pv 5) pe_int (fun _ _ => rfl)) pe_int) (pv 2)) pa_nil))) (pg_sub (pe_fld (pv 0) rfl) (pv 3) set_list))
      (pss_one (ps_ret (pe_lst (pa_cons pe_int pa_nil)))))))), ?_⟩
    refine ⟨_, rfl, _, rfl, _, rfl, (by show 2 ≤ sizeLine; decide), fun na hna => ⟨_, rfl, (by show 1 ≤ sizeLine; decide), fun nb hnb => ?_⟩⟩
    have sm : Same H (upd (upd H na (.lst [.int r0, .int q0])) nb (.lst [.int r0])) := (same_new hna).trans (same_new hnb)
    have hna2 : (upd (upd H na (.lst [.int r0, .int q0])) nb (.lst [.int r0])) na = some (.lst (nats [r0, q0])) := by rw [upd_ne (ne_of_none upd_same hnb), upd_same]; rfl
    have hnb2 : (upd (upd H na (.lst [.int r0, .int q0])) nb (.lst [.int r0])) nb = some (.lst (nats [r0])) := upd_same
    generalize upd (upd H na (.lst [.int r0, .int q0])) nb (.lst [.int r0]) = H1 at sm hna2 hnb2
    refine ⟨p, dx, l, r, t, c, na, nb, qs, gs, m, [r0, q0], [r0], _, rfl, R.same sm, I.regs.1, hna2, hnb2, (fun x mx => by simp at mx; subst mx; simp), (by show 2 ≤ 40; decide), (by show 1 ≤ 40; decide), fun H2 sm2 => ?_⟩
    have smm := sm.trans sm2
    have R2 := R.same smm
    refine ⟨_, rfl, rfl, _, rfl, ?_⟩
    by_cases z : refCode m [r0, q0] false [r0] = 0
    · obtain ⟨z1, _, z3⟩ := ref_zero z
      have lr : r0 < 16 := z1 r0 (.head _)
      have lq : q0 < 16 := z1 q0 (.tail _ (.head _))
      obtain ⟨x, ex⟩ := z3 r0 (.head _)
      refine ifF (neF z) ?_
      obtain ⟨vs, hv, rv⟩ := R2.regs
      have vl : vs.length = 16 := by rw [rv.length]; exact I.regs.1
      rcases reg_at rv I.regs.1 lr with ⟨_, e2⟩ | ⟨tc, x', ea, e2, hc⟩
      · rw [ex] at e2; cases e2
      rw [ex] at e2
      cases e2
      have gx : Good m.heap x := regs_cell I.regs ex
      have nref : ¬ (Lg06.isReg r0 = false ∨ Lg06.isReg q0 = false) := by rw [isReg_iff.mpr lr, isReg_iff.mpr lq]; simp
      refine ⟨_, rfl, p, C, dx, _, _, rfl, R2.ins, L.cl, L.nh, mf_heap, _, rfl, p, C, dx, _, _, rfl, R2.ins, L.cl, L.nr, mf_regs, _, rfl, r, _, _, _, rfl, rfl, SqL.of hv, ea, l, tc, m.heap, x, rfl, R2.heap, hc, gx, fun u hu => ?_⟩
      obtain ⟨gl, fl⟩ := look_good gx
      refine ⟨_, rfl, u, _, _, _, rfl, rfl, SqT.of hu, enc0, rfl, _, rfl, ?_⟩
      have zero : ∀ q, H2 q = none → Lg06.step m (.arg r0 i0 q0) = (m, [0]) → Q (.ref q) (upd H2 q (.lst [.int 0])) := fun q hq st => d.fin R2 st (fun b mb => .inl mb) (But.of_same smm) hq rfl
      by_cases e : n1 (look m.heap x) = 2
      · refine ifF (by rw [decT e]; rfl) ?_
        obtain ⟨a, el⟩ := of_n1_two gl.plain e
        rw [el] at gl hu
        obtain ⟨sy, k, eh, l1, l4, lb, nf, ga⟩ := gl.parts
        refine ⟨_, rfl, _, rfl, p, C, dx, _, _, rfl, R2.ins, L.cl, L.nh, mf_heap, _, rfl, u, _, _, _, rfl, rfl, SqT.of hu, enc1, l, a, sy, k, m.heap, rfl, R2.heap, by omega, eh, _, _, rfl, rfl, _, rfl, ?_⟩
        by_cases li : i0 < k
        · refine ifF (decide_eq_false (by omega)) ?_
          refine ⟨_, rfl, u, _, _, _, rfl, rfl, SqT.of hu, enc1, _, _, rfl, rfl, _, rfl, _, _, rfl, rfl, (by show 2 ≤ sizeLine; decide), fun tn htn => ?_⟩
          have es : n2 (Cell.str a) + 1 + (i0 : Int) = ((a + 1 + i0 : Nat) : Int) := by show (a : Int) + 1 + (i0 : Int) = _; omega
          have sm3 : Same H2 (upd H2 tn (.tup [.int 0, .int (n2 (Cell.str a) + 1 + (i0 : Int))])) := same_new htn
          have ct : CellIs (upd H2 tn (.tup [.int 0, .int (n2 (Cell.str a) + 1 + (i0 : Int))])) tn (.ref (a + 1 + i0)) := by
            unfold CellIs
            rw [upd_same, es]
            rfl
          generalize upd H2 tn (.tup [.int 0, .int (n2 (Cell.str a) + 1 + (i0 : Int))]) = H3 at sm3 ct
          have R3 := R2.same sm3
          obtain ⟨vs, hv, rv⟩ := R3.regs
          have vl : vs.length = 16 := by rw [rv.length]; exact I.regs.1
          refine ⟨_, rfl, p, C, dx, _, _, rfl, R3.ins, L.cl, L.nr, mf_regs, _, rfl, r, _, _, q0, rfl, rfl, hv, ixN_nat (by omega), ?_⟩
          refine ⟨(by show 1 ≤ sizeLine; decide), fun q hq => ?_⟩
          refine d.fin (R3.updRegs (rv.setCell ct q0)) (zs := [1]) ?_ (fun b mb => .inl mb) (but_regs (But.of_same (smm.trans sm3))) hq rfl
          unfold Lg06.step
          dsimp only
          rw [if_neg nref, ex]
          simp only [el, eh]
          rw [if_pos li]
          rfl
        · refine ifT (decide_eq_true (by omega)) ⟨(by show 1 ≤ sizeLine; decide), fun q hq => zero q hq ?_⟩
          unfold Lg06.step
          dsimp only
          rw [if_neg nref, ex]
          simp only [el, eh]
          rw [if_neg li]
      · refine ifT (by rw [decF e]; rfl) (iteT ⟨(by show 1 ≤ sizeLine; decide), fun q hq => zero q hq ?_⟩)
        unfold Lg06.step
        dsimp only
        rw [if_neg nref, ex]
        cases el : look m.heap x with
        | str a => rw [el] at e; exact absurd rfl e
        | ref a => simp only [el]
        | con a => simp only [el]
        | head a b => simp only [el]
    · exact ifT (neT z) ⟨_, rfl, (by show 1 ≤ sizeLine; decide), fun q hq => d.fin R2 (step_arg_ref z) (fun b mb => .inl mb) (But.of_same smm) hq rfl⟩

/-! same -/
abbrev sSame : Stmt := top 36
theorem scSame : FnScope ["machine", "r", "q", "refused"] ["machine", "r", "q"] (defScope sSame) := ⟨rfl, rfl, rfl, by decide +kernel, rfl, by decide +kernel, by decide +kernel⟩
def spSame (C CC : Addr) : Sp := fun vs H Q _ => ∃ (p : Addr) (ow : List Addr) (m : Lg04.M) (r0 q0 : Nat), vs = [.ref p, .int r0, .int q0] ∧ MachW C CC H p ow m ∧ Inv m ∧ m.heap.size ≤ 900 ∧ Does C CC p ow m (.same r0 q0) H Q
theorem ok_same {C CC f fR fM : Addr} {fd fdR fdM : FuncData} (D : Dn K mg "call_same" sSame ["machine", "r", "q"] f fd) (L : Cl K C CC) (T2 : Txt2 mg)
    (GR : FnOk P w K mg base CX0 1 fR fdR ["machine", "named", "out_of_bounds", "looked_at"] (spRef C CC)) (DR : Dn K mg "refusal" sRef ["machine", "named", "out_of_bounds", "looked_at"] fR fdR)
    (GM : FnOk P w K mg base CX0 6 fM fdM ["machine", "first", "second"] (spMS C CC)) (DM : Dn K mg "make_same" sMS ["machine", "first", "second"] fM fdM) : FnOk P w K mg base CX0 7 f fd ["machine", "r", "q"] (spSame C CC) := by
  refine D.F.ok scSame (fun vs H Q E h => ?_) (fun cdv A outer s H vs Q E hr h => ?_)
  · obtain ⟨p, ow, m, r0, q0, rfl, _⟩ := h
    rfl
  · obtain ⟨p, ow, m, r0, q0, rfl, ⟨dx, l, r, t, c, qs, gs, R, rfl⟩, I, hs, d⟩ := h
    obtain ⟨tn, mgn⟩ := T2.ok
    refine ⟨_, pss_cons (ps_set (i := 3) scSame.nd rfl (Or.inl rfl) (pe_call GR (hr.mono (by decide)) rfl DR.m DR.F.kp DR.b .nil pass0 (pa_cons (pv 0) (pa_cons (pe_lst (pa_cons (pv 1) (pa_cons (pv 2) pa_nil))) (pa_cons pe_bl (pa_cons (pe_lst (pa_cons (pv 1) (pa_cons (pv 2) pa_nil))) pa_nil))))))
      (pss_cons (ps_if (pt_cmpR op_ne (pv 3) (pe_glob (v := .int 0) rfl mgn ⟨_, rfl⟩) (nomark _)) (pss_one (ps_ret (pe_lst (pa_cons (pv 3) pa_nil)))) pss_nil)
      (pss_cons (ps_if (pt_val (pe_call GM hr rfl DM.m DM.F.kp DM.b .nil pass0 (pa_cons (pv 0) (pa_cons (pe_ix ix_list (pe_fld (pv 0) rfl) (pv 1) (fun _ _ => rfl)) (pa_cons (pe_ix ix_list (pe_fld (pv 0) rfl) (pv 2) (fun _ _ => rfl)) pa_nil))))) (pss_one (ps_ret (pe_lst (pa_cons pe_int pa_nil)))) pss_nil)
      (pss_one (ps_ret (pe_lst (pa_cons pe_int pa_nil)))))), ?_⟩
    refine ⟨_, rfl, _, rfl, _, rfl, (by show 2 ≤ sizeLine; decide), fun na hna => ⟨_, rfl, _, rfl, (by show 2 ≤ sizeLine; decide), fun nb hnb => ?_⟩⟩
    have sm : Same H (upd (upd H na (.lst [.int r0, .int q0])) nb (.lst [.int r0, .int q0])) := (same_new hna).trans (same_new hnb)
    have hna2 : (upd (upd H na (.lst [.int r0, .int q0])) nb (.lst [.int r0, .int q0])) na = some (.lst (nats [r0, q0])) := by rw [upd_ne (ne_of_none upd_same hnb), upd_same]; rfl
    have hnb2 : (upd (upd H na (.lst [.int r0, .int q0])) nb (.lst [.int r0, .int q0])) nb = some (.lst (nats [r0, q0])) := upd_same
    generalize upd (upd H na (.lst [.int r0, .int q0])) nb (.lst [.int r0, .int q0]) = H1 at sm hna2 hnb2
    refine ⟨p, dx, l, r, t, c, na, nb, qs, gs, m, [r0, q0], [r0, q0], _, rfl, R.same sm, I.regs.1, hna2, hnb2, (fun x mx => mx), (by show 2 ≤ 40; decide), (by show 2 ≤ 40; decide), fun H2 sm2 => ?_⟩
    have smm := sm.trans sm2
    have R2 := R.same smm
    refine ⟨_, rfl, rfl, _, rfl, ?_⟩
    by_cases z : refCode m [r0, q0] false [r0, q0] = 0
    · obtain ⟨z1, _, z3⟩ := ref_zero z
      have lr : r0 < 16 := z1 r0 (.head _)
      have lq : q0 < 16 := z1 q0 (.tail _ (.head _))
      obtain ⟨x, ex⟩ := z3 r0 (.head _)
      obtain ⟨y, ey⟩ := z3 q0 (.tail _ (.head _))
      refine ifF (neF z) ?_
      obtain ⟨vs, hv, rv⟩ := R2.regs
      rcases reg_at rv I.regs.1 lr with ⟨_, e2⟩ | ⟨tc, x', ea, e2, hc⟩
      · rw [ex] at e2; cases e2
      rw [ex] at e2
      cases e2
      rcases reg_at rv I.regs.1 lq with ⟨_, e2⟩ | ⟨td, y', eb, e2, hd⟩
      · rw [ey] at e2; cases e2
      rw [ey] at e2
      cases e2
      have nref : ¬ (Lg06.isReg r0 = false ∨ Lg06.isReg q0 = false) := by rw [isReg_iff.mpr lr, isReg_iff.mpr lq]; simp
      have sub : ∀ {H3 : Hp}, But [p, l, t] H2 H3 → But (own p l r t c qs gs) H H3 := fun b3 u o e n => by
        obtain ⟨n1, n2, _, n4, _⟩ := own_out n
        exact b3 u o (smm _ _ e) (by simp; exact ⟨n1, n2, n4⟩)
      refine ⟨_, rfl, _, rfl, p, C, dx, _, _, rfl, R2.ins, L.cl, L.nr, mf_regs, _, rfl, r, _, _, _, rfl, rfl, SqL.of hv, ea, _, rfl, p, C, dx, _, _, rfl, R2.ins, L.cl, L.nr, mf_regs, _, rfl, r, _, _, _, rfl, rfl, SqL.of hv, eb,
        p, dx, l, r, t, c, tc, td, m, x, y, rfl, R2.core, I, by omega, hc, hd, regs_cell I.regs ex, regs_cell I.regs ey, fun n H3 en S3 b3 => ?_, fun H3 l' t' en S3 nl nt b3 => ?_⟩
      · have K3 := (unify_inv I (regs_cell I.regs ex) (regs_cell I.regs ey) en).2
        refine ⟨_, rfl, iteT ⟨(by show 1 ≤ sizeLine; decide), fun q hq => ?_⟩⟩
        refine d.fin (R2.next S3 K3.regs K3.choices b3 (.inl rfl) (.inl rfl)) (zs := [1]) ?_ (fun b mb => .inl mb) (sub b3) hq rfl
        unfold Lg06.step
        dsimp only
        rw [if_neg nref, ex, ey]
        simp only [en]
      · refine ⟨_, rfl, iteF ⟨(by show 1 ≤ sizeLine; decide), fun q hq => ?_⟩⟩
        refine d.fin (R2.next S3 rfl rfl b3 (.inr nl) (.inr nt)) (zs := [0]) ?_ (fun b mb => ?_) (sub b3) hq rfl
        · unfold Lg06.step
          dsimp only
          rw [if_neg nref, ex, ey]
          simp only [en]
        · unfold own at mb ⊢
          simp only [List.mem_cons] at mb ⊢
          rcases mb with h | h | h | h | h | h
          · exact .inl (.inl h)
          · exact .inr (by rw [h]; exact smm.free nl)
          · exact .inl (.inr (.inr (.inl h)))
          · exact .inr (by rw [h]; exact smm.free nt)
          · exact .inl (.inr (.inr (.inr (.inr (.inl h)))))
          · exact .inl (.inr (.inr (.inr (.inr (.inr h)))))
    · exact ifT (neT z) ⟨_, rfl, (by show 1 ≤ sizeLine; decide), fun q hq => d.fin R2 (step_same_ref z) (fun b mb => .inl mb) (But.of_same smm) hq rfl⟩
end
end Sw
namespace Sw
open PySem PySem.Spec PyProof.Rows
open L2 hiding Walk
open Lg04 (Cell cellAt look within unify same)

def oobStr (sy n : Nat) : Bool := decide ((sy : Int) > 999) || !(decide ((1 : Int) ≤ (n : Int)) && decide ((n : Int) ≤ 4))
theorem oob_false {sy n : Nat} (h : oobStr sy n = false) : ¬ (999 < sy ∨ n < 1 ∨ 4 < n) := by
  unfold oobStr at h
  simp at h
  omega
theorem oob_true {sy n : Nat} (h : oobStr sy n = true) : 999 < sy ∨ n < 1 ∨ 4 < n := by
  unfold oobStr at h
  simp at h
  omega
theorem mapM_some {m : Lg04.M} : ∀ (l : List Nat), (∀ x, x ∈ l → ∃ v, Lg06.cellIn m x = some v) → ∃ cs, l.mapM (Lg06.cellIn m) = some cs ∧ cs.length = l.length ∧ ∀ (i : Nat) (x : Nat), l[i]? = some x → ∃ v, cs[i]? = some v ∧ Lg06.cellIn m x = some v
  | [], _ => ⟨[], rfl, rfl, fun i x e => by simp at e⟩
  | y :: l, h => by
    obtain ⟨v, ev⟩ := h y (.head _)
    obtain ⟨cs, e, le, g⟩ := mapM_some l fun x mx => h x (.tail _ mx)
    refine ⟨v :: cs, ?_, by simp [le], fun i x ex => ?_⟩
    · rw [List.mapM_cons, ev, e]
      rfl
    · match i, ex with
      | 0, ex =>
        cases (Option.some.inj ex)
        exact ⟨v, rfl, ev⟩
      | i + 1, ex => exact g i x ex
theorem mapM_none {m : Lg04.M} : ∀ (l : List Nat), (l.any fun x => (Lg06.cellIn m x).isNone) = true → l.mapM (Lg06.cellIn m) = none
  | [], h => by cases h
  | y :: l, h => by
    rw [List.mapM_cons]
    cases e : Lg06.cellIn m y with
    | none => rfl
    | some v =>
      rw [List.any_cons, e] at h
      rw [mapM_none l h]
      rfl
theorem step_str_ref {m : Lg04.M} {r sy : Nat} {l : List Nat} (h : ¬ refCode m (r :: l) (oobStr sy l.length) l = 0) : Lg06.step m (.str r sy l) = (m, [refCode m (r :: l) (oobStr sy l.length) l]) := by
  unfold Lg06.step
  dsimp only
  rcases ref_not h with ⟨a, e⟩ | ⟨a, b, e⟩ | ⟨a, b, x, e⟩
  · rw [if_pos a, e]
  · rw [if_neg (by rw [a]; decide), if_pos (oob_true b), e]
  · rw [if_neg (by rw [a]; decide), if_neg (oob_false b), e, mapM_none l x]

section
variable {P : Program} {w : World} {K : PySem.W.Frag} {mg : Str → Option Value} {base : PySem.Heap}
abbrev sStr : Stmt := top 33
theorem scStr : FnScope ["machine", "r", "symbol", "registers", "out_of_bounds", "refused", "cells", "k"] ["machine", "r", "symbol", "registers"] (defScope sStr) := ⟨rfl, rfl, rfl, by decide +kernel, rfl, by decide +kernel, by decide +kernel⟩
def spStr (C CC : Addr) : Sp := fun vs H Q _ => ∃ (p y : Addr) (ow : List Addr) (m : Lg04.M) (r0 sy : Nat) (rl : List Nat), vs = [.ref p, .int r0, .int sy, .ref y] ∧ MachW C CC H p ow m ∧ Inv m ∧ m.heap.size ≤ 900 ∧ H y = some (.lst (nats rl)) ∧ y ∉ ow ∧ rl.length ≤ 30 ∧ Does C CC p ow m (.str r0 sy rl) H Q
theorem ok_str {C CC f fR fS : Addr} {fd fdR fdS : FuncData} (D : Dn K mg "call_str" sStr ["machine", "r", "symbol", "registers"] f fd) (L : Cl K C CC) (T2 : Txt2 mg) (len : mg "len" = none)
    (GR : FnOk P w K mg base CX0 1 fR fdR ["machine", "named", "out_of_bounds", "looked_at"] (spRef C CC)) (DR : Dn K mg "refusal" sRef ["machine", "named", "out_of_bounds", "looked_at"] fR fdR)
    (GS : FnOk P w K mg base CX0 1 fS fdS ["self", "symbol", "cells"] (spAS C CC)) (bS : Binds K fdS ["self", "symbol", "cells"] []) (mS : Meth K C "add_structure" fS) : FnOk P w K mg base CX0 2 f fd ["machine", "r", "symbol", "registers"] (spStr C CC) := by
  refine D.F.ok scStr (fun vs H Q E h => ?_) (fun cdv A outer s H vs Q E hr h => ?_)
  · obtain ⟨p, y, ow, m, r0, sy, rl, rfl, _⟩ := h
    rfl
  · obtain ⟨p, y, ow, m, r0, sy, rl, rfl, ⟨dx, l, r, t, c, qs, gs, R, rfl⟩, I, hs, hy, nyo, l30, d⟩ := h
    obtain ⟨tn, mgn⟩ := T2.ok
    obtain ⟨th, mgh⟩ := T2.high
    obtain ⟨tm, mgm⟩ := T2.most
    refine ⟨_, pss_cons (ps_set (i := 4) scStr.nd rfl (Or.inl rfl) (pe_or (pe_cmpR op_gt (pv 2) (pe_glob (v := .int 999) rfl mgh ⟨_, rfl⟩) (nomark _)) (pe_one (pe_not (pe_chain op_le op_le pe_int (pe_callB call_len_seq (by rfl) len PySem.boot_len (pa_cons (pv 3) pa_nil)) (pe_glob (v := .int 4) rfl mgm ⟨_, rfl⟩))))))
      (pss_cons (ps_set (i := 5) scStr.nd rfl (Or.inl rfl) (pe_call GR hr rfl DR.m DR.F.kp DR.b .nil pass0 (pa_cons (pv 0) (pa_cons (pe_op op_cat (pe_lst (pa_cons (pv 1) pa_nil)) (pv 3)) (pa_cons (pv 4) (pa_cons (pv 3) pa_nil))))))
      (pss_cons (ps_if (pt_cmpR op_ne (pv 5) (pe_glob (v := .int 0) rfl mgn ⟨_, rfl⟩) (nomark _)) (pss_one (ps_ret (pe_lst (pa_cons (pv 5) pa_nil)))) pss_nil)
      (pss_cons (ps_setLc (i := 6) (own := [("k", 7)]) (g := gName 7) (tt := tYes) (te := tOp (rIxL K) (tFld K (tVar 0) "registers") (tVar 7)) rfl scStr.nd rfl rfl (sw_true rfl rfl rfl (by decide +kernel)) (pi_list (pv 3)) (blkOk_by (N := ["machine", "r", "symbol", "registers", "out_of_bounds", "refused", "cells", "k"]) (sc := defScope sStr) (by decide +kernel))
          (fun _ _ _ _ _ => pg_name (i := 7) scStr.nd rfl (Or.inl rfl)) (fun _ _ _ _ _ => pts_nil) (fun _ _ _ _ _ => pe_ix (r := rIxL K) ix_list (pe_fld (pv 0) rfl) (pv 7) (fun _ _ => rfl)))
      (pss_cons (ps_asg (pe_meth (pv 0) L.cl mS GS hr bS .nil pass0 (pa_cons (pv 2) (pa_cons (pv 6) pa_nil))) (pg_sub (pe_fld (pv 0) rfl) (pv 1) set_list))
      (pss_one (ps_ret (pe_lst (pa_cons pe_int pa_nil)))))))), ?_⟩
    refine (show ∀ Q' : VK, Q' (V.bl (oobStr sy rl.length)) H → (tOrV _ _ _ H Q') from ?_) _ ?_
    · intro Q' hQ
      refine ⟨_, rfl, _, _, rfl, rfl, _, rfl, ?_⟩
      unfold oobStr at hQ
      by_cases b1 : (sy : Int) > 999
      · rw [decide_eq_true b1] at hQ
        exact ifT (decide_eq_true b1) hQ
      · rw [decide_eq_false b1, Bool.false_or] at hQ
        refine ifF (decide_eq_false b1) ?_
        refine ⟨_, rfl, y, _, rfl, .inl (SqL.of hy), _, _, rfl, rfl, _, rfl, ?_⟩
        have ln : (nats rl).length = rl.length := by unfold nats; rw [List.length_map]
        rw [ln]
        by_cases b2 : (1 : Int) ≤ (rl.length : Int)
        · rw [decide_eq_true b2, Bool.true_and] at hQ
          exact ifT (decide_eq_true b2) ⟨_, _, rfl, rfl, _, rfl, hQ⟩
        · rw [decide_eq_false b2, Bool.false_and] at hQ
          exact ifF (decide_eq_false b2) ⟨_, rfl, hQ⟩
    generalize eob : oobStr sy rl.length = ob
    refine ⟨_, rfl, _, rfl, (by show 1 ≤ sizeLine; decide), fun n0 hn0 => ?_⟩
    have ly : (nats rl).length = rl.length := by unfold nats; rw [List.length_map]
    have hy0 : (upd H n0 (.lst [.int r0])) y = some (.lst (nats rl)) := by rw [upd_ne (ne_of_none hy hn0)]; exact hy
    refine ⟨_, rfl, n0, y, _, _, rfl, rfl, upd_same, hy0, (by rw [ly]; show 1 + rl.length ≤ 2 ^ 24; omega), fun na hna => ?_⟩
    have sm : Same H (upd (upd H n0 (.lst [.int r0])) na (.lst ([.int r0] ++ nats rl))) := (same_new hn0).trans (same_new hna)
    have hna2 : (upd (upd H n0 (.lst [.int r0])) na (.lst ([.int r0] ++ nats rl))) na = some (.lst (nats (r0 :: rl))) := upd_same
    generalize upd (upd H n0 (.lst [.int r0])) na (.lst ([.int r0] ++ nats rl)) = H1 at sm hna2
    refine ⟨_, rfl, _, rfl, p, dx, l, r, t, c, na, y, qs, gs, m, r0 :: rl, rl, ob, rfl, R.same sm, I.regs.1, hna2, sm _ _ hy, (fun x mx => .tail _ mx), (by rw [List.length_cons]; omega), (by omega), fun H2 sm2 => ?_⟩
    have smm := sm.trans sm2
    have R2 := R.same smm
    refine ⟨_, rfl, rfl, _, rfl, ?_⟩
    by_cases z : refCode m (r0 :: rl) ob rl = 0
    · obtain ⟨z1, z2, z3⟩ := ref_zero z
      have lr : r0 < 16 := z1 r0 (.head _)
      have lall : ∀ x, x ∈ rl → x < 16 := fun x mx => z1 x (.tail _ mx)
      obtain ⟨cs, ecs, lcs, gcs⟩ := mapM_some rl z3
      refine ifF (neF z) ?_
      have hy2 := smm _ _ hy
      obtain ⟨vs, hv, rv⟩ := R2.regs
      refine ⟨_, rfl, y, rfl, ⟨_, SqL.of hy2⟩, fun dl hdl => ?_⟩
      refine lc_list (K := K) (a := y) (xs := nats rl) (fun i H' => Same H2 H' ∧ ∃ us, H' dl = some (.lst (us.map V.ref)) ∧ Cells H' us (cs.take i)) ⟨same_new hdl, [], upd_same, .nil⟩ (fun i H' _ q => SqL.of (q.1 _ _ hy2)) ?_ ?_
      · rintro i x H3 ei ⟨sm3, us, h3, c3⟩
        obtain ⟨k, ek, rfl⟩ : ∃ k, rl[i]? = some k ∧ x = V.int (k : Int) := by
          unfold nats at ei
          rw [List.getElem?_map] at ei
          cases e : rl[i]? with
          | none => rw [e] at ei; cases ei
          | some k => rw [e] at ei; exact ⟨k, rfl, (Option.some.inj ei).symm⟩
        have mk : k ∈ rl := List.mem_of_getElem? ek
        obtain ⟨v, ecv, ev⟩ := gcs i k ek
        refine ⟨rfl, ?_⟩
        unfold tYes
        refine iteT ?_
        rcases reg_at rv I.regs.1 (lall k mk) with ⟨_, e2⟩ | ⟨tc, x', ea, e2, hc⟩
        · rw [ev] at e2; cases e2
        rw [ev] at e2
        cases e2
        refine ⟨_, rfl, p, C, dx, _, _, rfl, sm3 _ _ R2.ins, L.cl, L.nr, mf_regs, _, rfl, r, _, _, _, rfl, rfl, SqL.of (sm3 _ _ hv), ea, _, h3, ?_, ?_⟩
        · rw [List.length_map, c3.length, List.length_take]
          exact small1000 (by omega)
        · have tu : Tups H3 (upd H3 dl (.lst (us.map V.ref ++ [.ref tc]))) := Tups.lst h3
          refine ⟨fun b o e => by rw [upd_ne (ne_of_none e hdl)]; exact sm3 _ _ e, us ++ [tc], (by rw [upd_same, List.map_append]; rfl), ?_⟩
          rw [List.take_add_one, ecv]
          exact (c3.keep tu).append (.cons ((hc.keep (.of_same sm3)).keep tu) .nil)
      · rintro H3 ⟨sm3, us, h3, c3⟩
        have nl : (nats rl).length = cs.length := by rw [ly, lcs]
        rw [nl, List.take_length] at c3
        have R3 := R2.same sm3
        have nb : ¬ (999 < sy ∨ rl.length < 1 ∨ 4 < rl.length) := oob_false (by rw [eob]; exact z2)
        obtain ⟨hts, hlE, _⟩ := R3.heap
        have ndl : dl ≠ l := by
          obtain ⟨ts2, hl2, _⟩ := R2.heap
          exact Ne.symm (ne_of_none hl2 hdl)
        refine ⟨_, rfl, p, dx, _, rfl, R3.ins, mf_none (by decide +kernel) (by decide +kernel) (by decide +kernel) (by decide +kernel), _, rfl, _, rfl, p, dx, l, r, t, c, dl, m, sy, us, cs, rfl, R3.core, by omega, by omega, h3, c3, ndl, fun H4 tc hc4 ntc S4 b4 => ?_⟩
        have b4' : But [p, l, t] H3 H4 := fun u o e n => b4 u o e (fun z => n (by simp at z; subst z; simp))
        have R4 := R3.next S4 rfl rfl b4' (.inl rfl) (.inl rfl)
        obtain ⟨vs4, hv4, rv4⟩ := R4.regs
        have vl : vs4.length = 16 := by rw [rv4.length]; exact I.regs.1
        refine ⟨_, rfl, p, C, dx, _, _, rfl, R4.ins, L.cl, L.nr, mf_regs, _, rfl, r, _, _, r0, rfl, rfl, hv4, ixN_nat (by omega), ?_⟩
        refine ⟨(by show 1 ≤ sizeLine; decide), fun q hq => ?_⟩
        refine d.fin (R4.updRegs (rv4.setCell hc4 r0)) (zs := [0]) ?_ (fun b mb => .inl mb) (but_regs fun u o e n => ?_) hq rfl
        · unfold Lg06.step
          dsimp only
          have al : (r0 :: rl).all Lg06.isReg = true := List.all_eq_true.mpr fun x mx => isReg_iff.mpr (z1 x mx)
          rw [if_neg (by rw [al]; decide), if_neg nb, ecs]
          simp only [← lcs]
          rfl
        · exact b4 u o (sm3 _ _ (smm _ _ e)) (by simp; exact (own_out n).2.1)
    · refine ifT (neT z) ⟨_, rfl, (by show 1 ≤ sizeLine; decide), fun q hq => ?_⟩
      subst eob
      exact d.fin R2 (step_str_ref z) (fun b mb => .inl mb) (But.of_same smm) hq rfl
end
end Sw
namespace Sw
open PySem PySem.Spec PyProof.Rows
open L2 hiding Walk
open Lg04 (Cell cellAt look within unify same)

theorem rvals_none {H : Hp} : ∀ n, RVals H (List.replicate n .non) (List.replicate n none)
  | 0 => .nil
  | n + 1 => .emp (rvals_none n)
section
variable {P : Program} {w : World} {K : PySem.W.Frag} {mg : Str → Option Value} {base : PySem.Heap}
abbrev sInit : Stmt := inClass (top 12) 0
theorem scInit : FnScope ["self"] ["self"] (defScope sInit) := ⟨rfl, rfl, rfl, by decide +kernel, rfl, by decide +kernel, by decide +kernel⟩
def spInit (C CC : Addr) : Sp := fun vs H Q _ => ∃ (p dx : Addr), vs = [.ref p] ∧ H p = some (.ins C dx []) ∧ ∀ H' l r t c, Mach C CC H' p dx l r t c [] [] Lg06.init → (∀ b o, H b = some o → b ≠ p → H' b = some o) → H l = none → H r = none → H t = none → H c = none → Q .non H'
theorem ok_init {C CC f : Addr} {fd : FuncData} (F : Fun K "__init__" "Machine.__init__" sInit f fd) (L : Cl K C CC) (rc : ∃ t, mg "REGISTER_COUNT" = some (.int 16 t)) : FnOk P w K mg base CX0 1 f fd ["self"] (spInit C CC) := by
  refine F.ok scInit (fun vs H Q E h => ?_) (fun cdv A outer s H vs Q E hr h => ?_)
  · obtain ⟨p, dx, rfl, _⟩ := h
    rfl
  · obtain ⟨p, dx, rfl, hp, k⟩ := h
    obtain ⟨tr, mgr⟩ := rc
    refine ⟨_, pss_cons (ps_fld (pv 0) (pe_lst pa_nil) rfl) (pss_cons (ps_fld (pv 0) (pe_op op_rep (pe_lst (pa_cons pe_non pa_nil)) (pe_glob (v := .int 16) rfl mgr ⟨_, rfl⟩)) rfl) (pss_cons (ps_fld (pv 0) (pe_lst pa_nil) rfl) (pss_one (ps_fld (pv 0) (pe_lst pa_nil) rfl)))), ?_⟩
    refine ⟨(by show 0 ≤ sizeLine; decide), fun l hl => ?_⟩
    have pl : p ≠ l := ne_of_none hp hl
    refine ⟨_, rfl, p, C, dx, _, rfl, (by rw [upd_ne pl]; exact hp), L.cl, L.nh, (by show 0 < 1000; decide), ?_⟩
    generalize eH1 : upd (upd H l (.lst [])) p (.ins C dx (putF "heap" (.ref l) [])) = H1
    have fr1 : ∀ b o, H b = some o → b ≠ p → H1 b = some o := fun b o e n => by rw [← eH1, upd_ne n, upd_ne (ne_of_none e hl)]; exact e
    have hp1 : H1 p = some (.ins C dx (putF "heap" (.ref l) [])) := by rw [← eH1, upd_same]
    have hl1 : H1 l = some (.lst []) := by rw [← eH1, upd_ne (Ne.symm pl), upd_same]
    refine ⟨(by show 1 ≤ sizeLine; decide), fun n0 hn0 => ?_⟩
    refine ⟨n0, 16, _, rfl, rfl, upd_same, (by decide), (by decide), (by show 1 * 16 ≤ sizeLine; decide), fun r hr1 => ?_⟩
    have hr0 : H1 r = none := by
      by_cases z : r = n0
      · subst z; exact hn0
      · rw [upd_ne z] at hr1; exact hr1
    have pr : p ≠ r := ne_of_none hp1 hr0
    have pn : p ≠ n0 := ne_of_none hp1 hn0
    have hpn : (upd (upd H1 n0 (.lst [.non])) r (.lst (List.replicate (16 : Int).toNat [V.non]).flatten)) p = some (.ins C dx (putF "heap" (.ref l) [])) := by rw [upd_ne pr, upd_ne pn]; exact hp1
    refine ⟨_, rfl, p, C, dx, _, rfl, hpn, L.cl, L.nr, (by show 1 < 1000; decide), ?_⟩
    generalize eH2 : upd (upd (upd H1 n0 (.lst [.non])) r (.lst (List.replicate (16 : Int).toNat [V.non]).flatten)) p (.ins C dx (putF "registers" (.ref r) (putF "heap" (.ref l) []))) = H2
    have fr2 : ∀ b o, H1 b = some o → b ≠ p → H2 b = some o := fun b o e n => by rw [← eH2, upd_ne n, upd_ne (ne_of_none e hr0), upd_ne (ne_of_none e hn0)]; exact e
    have hp2 : H2 p = some (.ins C dx (putF "registers" (.ref r) (putF "heap" (.ref l) []))) := by rw [← eH2, upd_same]
    have hr2 : H2 r = some (.lst (List.replicate 16 V.non)) := by rw [← eH2, upd_ne (Ne.symm pr), upd_same]; rfl
    have hl2 := fr2 _ _ hl1 (Ne.symm pl)
    refine ⟨(by show 0 ≤ sizeLine; decide), fun t ht => ?_⟩
    have pt : p ≠ t := ne_of_none hp2 ht
    refine ⟨_, rfl, p, C, dx, _, rfl, (by rw [upd_ne pt]; exact hp2), L.cl, L.nt, (by show 2 < 1000; decide), ?_⟩
    generalize eH3 : upd (upd H2 t (.lst [])) p (.ins C dx (putF "trail" (.ref t) (putF "registers" (.ref r) (putF "heap" (.ref l) [])))) = H3
    have fr3 : ∀ b o, H2 b = some o → b ≠ p → H3 b = some o := fun b o e n => by rw [← eH3, upd_ne n, upd_ne (ne_of_none e ht)]; exact e
    have hp3 : H3 p = some (.ins C dx (putF "trail" (.ref t) (putF "registers" (.ref r) (putF "heap" (.ref l) [])))) := by rw [← eH3, upd_same]
    have ht3 : H3 t = some (.lst []) := by rw [← eH3, upd_ne (Ne.symm pt), upd_same]
    have hl3 := fr3 _ _ hl2 (Ne.symm pl)
    have hr3 := fr3 _ _ hr2 (Ne.symm pr)
    refine ⟨(by show 0 ≤ sizeLine; decide), fun c hc => ?_⟩
    have pc : p ≠ c := ne_of_none hp3 hc
    refine ⟨_, rfl, p, C, dx, _, rfl, (by rw [upd_ne pc]; exact hp3), L.cl, L.nc, (by show 3 < 1000; decide), ?_⟩
    have ef : putF "choices" (.ref c) (putF "trail" (.ref t) (putF "registers" (.ref r) (putF "heap" (.ref l) []))) = mf l r t c := by
      have e1 : putF "heap" (.ref l) [] = [(("heap" : Str), V.ref l)] := rfl
      rw [e1, putF_no (Ne.symm sne1), putF_no (Ne.symm sne2), putF_no (Ne.symm sne4)]
      show _ :: putF "choices" _ (putF "trail" _ [(("registers" : Str), V.ref r)]) = _
      rw [putF_no (Ne.symm sne3), putF_no (Ne.symm sne5)]
      show _ :: _ :: putF "choices" _ [(("trail" : Str), V.ref t)] = _
      rw [putF_no (Ne.symm sne6)]
      rfl
    rw [ef]
    have H3n : ∀ {b : Addr}, H3 b = none → H b = none := fun {b} e => by
      cases q : H b with
      | none => rfl
      | some o =>
        by_cases z : b = p
        · subst z; rw [hp3] at e; cases e
        · rw [fr3 _ _ (fr2 _ _ (fr1 _ _ q z) z) z] at e; cases e
    have H1n : ∀ {b : Addr}, H1 b = none → H b = none := fun {b} e => by
      cases q : H b with
      | none => rfl
      | some o =>
        by_cases z : b = p
        · subst z; rw [hp1] at e; cases e
        · rw [fr1 _ _ q z] at e; cases e
    have H2n : ∀ {b : Addr}, H2 b = none → H b = none := fun {b} e => by
      refine H1n ?_
      cases q : H1 b with
      | none => rfl
      | some o =>
        by_cases z : b = p
        · subst z; rw [hp2] at e; cases e
        · rw [fr2 _ _ q z] at e; cases e
    have lc : l ≠ c := ne_of_none hl3 hc
    have rc : r ≠ c := ne_of_none hr3 hc
    have tc : t ≠ c := ne_of_none ht3 hc
    have up : ∀ {b : Addr} {o : HO}, H3 b = some o → b ≠ p → (upd (upd H3 c (.lst [])) p (.ins C dx (mf l r t c))) b = some o := fun e n => by rw [upd_ne n, upd_ne (ne_of_none e hc)]; exact e
    refine k _ l r t c ⟨upd_same, ⟨[], up hl3 (Ne.symm pl), .nil⟩, ⟨_, up hr3 (Ne.symm pr), rvals_none 16⟩, up ht3 (Ne.symm pt), ?_, .nil, ne_of_none hl1 hr0, ne_of_none hl2 ht, lc, ne_of_none hr2 ht, rc, tc, by simp, by simp, by simp, by simp⟩ ?_ hl (H1n hr0) (H2n ht) (H3n hc)
    · rw [upd_ne (Ne.symm pc), upd_same]
      rfl
    · intro b o e n
      exact up (fr3 _ _ (fr2 _ _ (fr1 _ _ e n) n) n) n
end
end Sw
namespace Sw
open PySem PySem.Spec PyProof.Rows
open L2 hiding Walk
open Lg04 (Cell cellAt look within unify same)

structure Txt3 (mg : Str → Option Value) : Prop where
  nosuch : ∃ t, mg "NO_SUCH_REGISTER" = some (.int (-2) t)
  oob : ∃ t, mg "OUT_OF_BOUNDS" = some (.int (-1) t)
  nothing : ∃ t, mg "HAS_NOTHING" = some (.int (-4) t)
  count : ∃ t, mg "REGISTER_COUNT" = some (.int 16 t)
theorem nats_at {l : List Nat} {i : Nat} {x : V} (ei : (nats l)[i]? = some x) : ∃ k, l[i]? = some k ∧ x = V.int (k : Int) := by
  unfold nats at ei
  rw [List.getElem?_map] at ei
  cases e : l[i]? with
  | none => rw [e] at ei; cases ei
  | some k => rw [e] at ei; exact ⟨k, rfl, (Option.some.inj ei).symm⟩
theorem nats_len {l : List Nat} : (nats l).length = l.length := by unfold nats; rw [List.length_map]
theorem take_snoc {α : Type} {l : List α} {i : Nat} {x : α} (e : l[i]? = some x) : l.take (i + 1) = l.take i ++ [x] := by
  rw [List.take_add_one, e]
  rfl
theorem any_id_map {α : Type} (f : α → Bool) (l : List α) : (l.map f).any id = l.any f := by rw [List.any_map]; rfl
theorem all_reg (l : List Nat) : (l.any fun (r : Nat) => decide ((r : Int) ≥ 16)) = !l.all Lg06.isReg := by
  induction l with
  | nil => rfl
  | cons x l ih =>
    rw [List.any_cons, List.all_cons, ih, Bool.not_and]
    congr 1
    by_cases h : x < 16
    · rw [isReg_iff.mpr h, decide_eq_false (by omega)]; rfl
    · rw [isReg_no h, decide_eq_true (by omega)]; rfl

section
variable {P : Program} {w : World} {K : PySem.W.Frag} {mg : Str → Option Value} {base : PySem.Heap}
theorem scRef : FnScope ["machine", "named", "out_of_bounds", "looked_at", "r"] ["machine", "named", "out_of_bounds", "looked_at"] (defScope sRef) := ⟨rfl, rfl, rfl, by decide +kernel, rfl, by decide +kernel, by decide +kernel⟩
theorem ok_ref {C CC f : Addr} {fd : FuncData} (D : Dn K mg "refusal" sRef ["machine", "named", "out_of_bounds", "looked_at"] f fd) (L : Cl K C CC) (T2 : Txt2 mg) (T3 : Txt3 mg) (any : mg "any" = none) :
    FnOk P w K mg base CX0 1 f fd ["machine", "named", "out_of_bounds", "looked_at"] (spRef C CC) := by
  refine D.F.ok scRef (fun vs H Q E h => ?_) (fun cdv A outer s H vs Q E hr h => ?_)
  · obtain ⟨p, dx, l, r, t, c, na, nb, qs, gs, m, named, looked, oob, rfl, _⟩ := h
    rfl
  · obtain ⟨p, dx, l, r, t, c, na, nb, qs, gs, m, named, looked, oob, rfl, R, l16, hna, hnb, sub, l40, m40, q⟩ := h
    obtain ⟨t1, mg1⟩ := T3.nosuch
    obtain ⟨t2, mg2⟩ := T3.oob
    obtain ⟨t3, mg3⟩ := T3.nothing
    obtain ⟨t4, mg4⟩ := T3.count
    obtain ⟨t5, mg5⟩ := T2.ok
    refine ⟨_, pss_cons (ps_if (pt_val (pe_callB (cr_any rfl) (by rfl) any (by decide +kernel) (pa_cons (pe_lc (own := [("r", 4)]) (g := gName 4) (tt := tYes) rfl scRef.nd (pi_list (pv 1)) (blkOk_by (N := ["machine", "named", "out_of_bounds", "looked_at", "r"]) (sc := defScope sRef) (by decide +kernel))
          (fun _ _ _ _ _ => pg_name (i := 4) scRef.nd rfl (Or.inl rfl)) (fun _ _ _ _ _ => pts_nil) (fun _ _ _ _ _ => pe_cmpR op_ge (pv 4) (pe_glob (v := .int 16) rfl mg4 ⟨_, rfl⟩) (nomark _))) pa_nil)))
        (pss_one (ps_ret (pe_glob (v := .int (-2)) rfl mg1 ⟨_, rfl⟩))) pss_nil)
      (pss_cons (ps_if (pt_val (pv 2)) (pss_one (ps_ret (pe_glob (v := .int (-1)) rfl mg2 ⟨_, rfl⟩))) pss_nil)
      (pss_cons (ps_if (pt_val (pe_callB (cr_any rfl) (by rfl) any (by decide +kernel) (pa_cons (pe_lc (own := [("r", 4)]) (g := gName 4) (tt := tYes) (te := tIsN (tOp (rIxL K) (tFld K (tVar 0) "registers") (tVar 4))) rfl scRef.nd (pi_list (pv 3)) (blkOk_by (N := ["machine", "named", "out_of_bounds", "looked_at", "r"]) (sc := defScope sRef) (by decide +kernel))
          (fun _ _ _ _ _ => pg_name (i := 4) scRef.nd rfl (Or.inl rfl)) (fun _ _ _ _ _ => pts_nil) (fun _ _ _ _ _ => pe_cmp (pc_isN (pe_ix (r := rIxL K) ix_list (pe_fld (pv 0) rfl) (pv 4) (fun _ _ => rfl))))) pa_nil)))
        (pss_one (ps_ret (pe_glob (v := .int (-4)) rfl mg3 ⟨_, rfl⟩))) pss_nil)
      (pss_one (ps_ret (pe_glob (v := .int 0) rfl mg5 ⟨_, rfl⟩))))), ?_⟩
    refine ⟨_, rfl, na, rfl, ⟨_, SqL.of hna⟩, fun d1 hd1 => ?_⟩
    refine lc_list (K := K) (a := na) (xs := nats named) (fun i H' => Same H H' ∧ H' d1 = some (.lst (((named.take i).map fun (r : Nat) => decide ((r : Int) ≥ 16)).map V.bl))) ⟨same_new hd1, upd_same⟩ (fun i H' _ z => SqL.of (z.1 _ _ hna)) ?_ ?_
    · rintro i x H1 ei ⟨sm, h1⟩
      obtain ⟨k, ek, rfl⟩ := nats_at ei
      refine ⟨rfl, ?_⟩
      unfold tYes
      refine iteT ?_
      refine ⟨_, rfl, _, _, rfl, rfl, _, h1, ?_, ?_⟩
      · simp
        exact small1000 (by omega)
      · refine ⟨fun b o e => by rw [upd_ne (ne_of_none e hd1)]; exact sm _ _ e, ?_⟩
        rw [upd_same, take_snoc ek]
        simp
    rintro H1 ⟨sm1, h1⟩
    rw [nats_len, List.take_length] at h1
    refine ⟨d1, _, rfl, SqL.of h1, _, rfl, ?_⟩
    rw [any_id_map, all_reg]
    by_cases ar : named.all Lg06.isReg = false
    · refine ifT (by rw [ar]; rfl) ?_
      have e : refCode m named oob looked = -2 := by unfold refCode; rw [if_pos ar]
      have := q H1 sm1
      rw [e] at this
      exact this
    · have ar' : named.all Lg06.isReg = true := by simpa using ar
      refine ifF (by rw [ar']; rfl) ?_
      refine ⟨_, rfl, _, rfl, ?_⟩
      cases oob with
      | true =>
        refine iteT ?_
        have e : refCode m named true looked = -1 := by unfold refCode; rw [if_neg ar, if_pos rfl]
        have := q H1 sm1
        rw [e] at this
        exact this
      | false =>
        refine iteF ?_
        have hnb1 := sm1 _ _ hnb
        have R1 := R.same sm1
        obtain ⟨vs, hv, rv⟩ := R1.regs
        refine ⟨_, rfl, nb, rfl, ⟨_, SqL.of hnb1⟩, fun d2 hd2 => ?_⟩
        refine lc_list (K := K) (a := nb) (xs := nats looked) (fun i H' => Same H1 H' ∧ H' d2 = some (.lst (((looked.take i).map fun x => (Lg06.cellIn m x).isNone).map V.bl))) ⟨same_new hd2, upd_same⟩ (fun i H' _ z => SqL.of (z.1 _ _ hnb1)) ?_ ?_
        · rintro i x H2 ei ⟨sm, h2⟩
          obtain ⟨k, ek, rfl⟩ := nats_at ei
          have mk : k ∈ looked := List.mem_of_getElem? ek
          have lk : k < 16 := isReg_iff.mp (List.all_eq_true.mp ar' k (sub k mk))
          refine ⟨rfl, ?_⟩
          unfold tYes
          refine iteT ?_
          have go : ∀ (b : Bool), (Lg06.cellIn m k).isNone = b → ∃ acc, H2 d2 = some (.lst acc) ∧ acc.length < sizeLine ∧ (Same H1 (upd H2 d2 (.lst (acc ++ [V.bl b]))) ∧ (upd H2 d2 (.lst (acc ++ [V.bl b]))) d2 = some (.lst (((looked.take (i + 1)).map fun x => (Lg06.cellIn m x).isNone).map V.bl))) := fun b eb => by
            refine ⟨_, h2, ?_, fun u o e => by rw [upd_ne (ne_of_none e hd2)]; exact sm _ _ e, ?_⟩
            · simp
              exact small1000 (by omega)
            · rw [upd_same, take_snoc ek]
              simp [eb]
          rcases reg_at rv l16 lk with ⟨ea, e2⟩ | ⟨tc, x', ea, e2, hc⟩
          · refine ⟨_, rfl, p, C, dx, _, _, rfl, sm _ _ R1.ins, L.cl, L.nr, mf_regs, _, rfl, r, _, _, _, rfl, rfl, SqL.of (sm _ _ hv), ea, go true ?_⟩
            rw [e2]; rfl
          · refine ⟨_, rfl, p, C, dx, _, _, rfl, sm _ _ R1.ins, L.cl, L.nr, mf_regs, _, rfl, r, _, _, _, rfl, rfl, SqL.of (sm _ _ hv), ea, go false ?_⟩
            rw [e2]; rfl
        rintro H2 ⟨sm2, h2⟩
        rw [nats_len, List.take_length] at h2
        refine ⟨d2, _, rfl, SqL.of h2, _, rfl, ?_⟩
        rw [any_id_map]
        have := q H2 (sm1.trans sm2)
        by_cases an : (looked.any fun x => (Lg06.cellIn m x).isNone) = true
        · refine ifT an ?_
          have e : refCode m named false looked = -4 := by unfold refCode; rw [if_neg ar, if_neg (by decide), if_pos an]
          rw [e] at this
          exact this
        · refine ifF (by simpa using an) ?_
          have e : refCode m named false looked = 0 := by unfold refCode; rw [if_neg ar, if_neg (by decide), if_neg an]
          rw [e] at this
          exact this
end
end Sw
namespace Sw
open PySem PySem.Spec PyProof.Rows
open L2 hiding Walk
open Lg04 (Cell cellAt look within unify same)

theorem cut_from {xs : List V} {k : Nat} : cutV xs (some (k : Int)) none = xs.drop k := by
  unfold cutV
  rw [HT.sIx_nat, HT.sIx_none]
  rcases Nat.le_total k xs.length with h | h
  · rw [Nat.min_eq_left h, List.take_of_length_le (by rw [List.length_drop]; omega)]
  · rw [Nat.min_eq_right h, List.drop_of_length_le (Nat.le_refl _), List.drop_of_length_le h, List.take_nil]
theorem cut_to {xs : List V} {k : Nat} : cutV xs none (some (k : Int)) = xs.take k := by
  unfold cutV
  rw [HT.sIx_nat, HT.sIx_none, List.drop_zero, Nat.sub_zero]
  rcases Nat.le_total k xs.length with h | h
  · rw [Nat.min_eq_left h]
  · rw [Nat.min_eq_right h, List.take_of_length_le (Nat.le_refl _), List.take_of_length_le h]
theorem nats_drop {l : List Nat} {k : Nat} : (nats l).drop k = nats (l.drop k) := by unfold nats; rw [List.map_drop]
theorem nats_take {l : List Nat} {k : Nat} : (nats l).take k = nats (l.take k) := by unfold nats; rw [List.map_take]
theorem trailV_nats {l : List Nat} : trailV l = nats l.reverse := rfl
theorem undo_snoc {l : List Nat} {a : Nat} {h : Lg04.Heap} : undo (l ++ [a]) h = (undo l h).setIfInBounds a (.ref a) := by
  unfold undo
  rw [List.foldl_append]
  rfl
theorem HeapIs.put {H : Hp} {y tc : Addr} {h : Lg04.Heap} {ts : List Addr} {c : Cell} (hl : H y = some (.lst (ts.map V.ref))) (cs : Cells H ts h.toList) (ct : CellIs H tc c) (a : Nat) : HeapIs (upd H y (.lst ((ts.map V.ref).set a (.ref tc)))) y (h.setIfInBounds a c) := by
  refine ⟨ts.set a tc, by rw [upd_same, List.map_set], ?_⟩
  rw [Array.toList_setIfInBounds]
  exact (cs.set ct a).keep (Tups.lst hl)
theorem toList_take {h : Lg04.Heap} {n : Nat} : (h.take n).toList = h.toList.take n := by simp
theorem same_put {H H' : Hp} {y : Addr} {o : HO} (s : Same H H') (n : H y = none) : Same H (upd H' y o) := fun b u e => by
  rw [upd_ne (ne_of_none e n)]
  exact s _ _ e
theorem rgV_nats {p k : Nat} : rgV (p : Int) ((p : Int) + 1 + (k : Int)) = nats ((List.range (k + 1)).map fun (i : Nat) => p + i) := by
  unfold rgV nats
  rw [show ((p : Int) + 1 + (k : Int) - (p : Int)).toNat = k + 1 by omega, List.map_map]
  apply List.map_congr_left
  intro i _
  show V.int ((p : Int) + (i : Nat)) = V.int ((p + i : Nat) : Int)
  rw [Int.natCast_add]

section
variable {P : Program} {w : World} {K : PySem.W.Frag} {mg : Str → Option Value} {base : PySem.Heap}
/-! places_led_to -/
abbrev sLed : Stmt := top 7
theorem scLed : FnScope ["heap", "cell"] ["heap", "cell"] (defScope sLed) := ⟨rfl, rfl, rfl, by decide +kernel, rfl, by decide +kernel, by decide +kernel⟩
def spLed : Sp := fun vs H Q _ => ∃ (l t : Addr) (h : Lg04.Heap) (c : Cell), vs = [.ref l, .ref t] ∧ HeapIs H l h ∧ CellIs H t c ∧ (Good h c ∨ ∃ s k, c = .head s k ∧ 1 ≤ k) ∧ h.size ≤ 1000 ∧ ∀ q, H q = none → Q (.ref q) (upd H q (.lst (nats (Lg06.leads h c))))
theorem ok_led {f fC : Addr} {fd fdC : FuncData} (D : Dn K mg "places_led_to" sLed ["heap", "cell"] f fd) (DC : Dn K mg "argument_count" sCount ["heap", "head_place"] fC fdC) (T : Txt K mg) (lst : mg "list" = none) (rng : mg "range" = none) :
    FnOk P w K mg base CX0 2 f fd ["heap", "cell"] spLed := by
  have GC : FnOk P w K mg base CX0 1 fC fdC ["heap", "head_place"] spCount := ok_count DC T
  refine D.F.ok scLed (fun vs H Q E h => ?_) (fun cdv A outer s H vs Q E hr h => ?_)
  · obtain ⟨l, t, h, c, rfl, _⟩ := h
    rfl
  · obtain ⟨l, t, h, c, rfl, hh, hc, gh, hs, q⟩ := h
    obtain ⟨tp, mgp⟩ := T.place
    obtain ⟨ts, mgs⟩ := T.str
    refine ⟨_, pss_cons (ps_if (pt_cmpR op_eq (pe_ix ix_tup (pv 1) pe_int (fun _ _ => rfl)) (pe_glob (v := .int 0) rfl mgp ⟨_, rfl⟩) (nomark _)) (pss_one (ps_ret (pe_lst (pa_cons (pe_ix ix_tup (pv 1) pe_int (fun _ _ => rfl)) pa_nil)))) pss_nil)
      (pss_cons (ps_if (pt_cmpR op_eq (pe_ix ix_tup (pv 1) pe_int (fun _ _ => rfl)) (pe_glob (v := .int 2) rfl mgs ⟨_, rfl⟩) (nomark _))
        (pss_one (ps_ret (pe_listRg rfl (by rfl) lst (prg_2 (by rfl) rng (pe_ix ix_tup (pv 1) pe_int (fun _ _ => rfl)) (pe_op op_add (pe_op op_add (pe_ix ix_tup (pv 1) pe_int (fun _ _ => rfl)) pe_int) (pe_call GC hr rfl DC.m DC.F.kp DC.b .nil pass0 (pa_cons (pv 0) (pa_cons (pe_ix ix_tup (pv 1) pe_int (fun _ _ => rfl)) pa_nil)))))))) pss_nil)
      (pss_one (ps_ret (pe_lst pa_nil)))), ?_⟩
    refine ⟨_, rfl, t, _, _, _, rfl, rfl, SqT.of hc, enc0, rfl, _, rfl, ?_⟩
    by_cases e0 : n1 c = 0
    · refine ifT (decT e0) ?_
      obtain ⟨a, rfl⟩ := of_n1_zero e0
      exact ⟨_, rfl, t, _, _, _, rfl, rfl, SqT.of hc, enc1, (by show 1 ≤ sizeLine; decide), fun r hr0 => q r hr0⟩
    · refine ifF (decF e0) ?_
      refine ⟨_, rfl, t, _, _, _, rfl, rfl, SqT.of hc, enc0, rfl, _, rfl, ?_⟩
      by_cases e2 : n1 c = 2
      · refine ifT (decT e2) ?_
        have pl : Plain c := by
          rcases gh with g | ⟨s, k, rfl, l1⟩
          · exact g.plain
          · exact l1
        obtain ⟨p, rfl⟩ := of_n1_two pl e2
        rcases gh with g | ⟨s, k, z, _⟩
        · obtain ⟨sy, k, eh, l1, l4, lb, nf, ga⟩ := g.parts
          refine ⟨_, rfl, t, _, _, _, rfl, rfl, SqT.of hc, enc1, _, rfl, t, _, _, _, rfl, rfl, SqT.of hc, enc1, _, _, rfl, rfl, _, rfl, _, rfl, t, _, _, _, rfl, rfl, SqT.of hc, enc1, l, p, sy, k, h, rfl, hh, by omega, eh, _, _, rfl, rfl, _, _, rfl, rfl, ?_, fun r hr0 => ?_⟩
          · exact RgOk.of_le (by show (0 : Int) ≤ (p : Int); omega) (by show (p : Int) + 1 + (k : Int) ≤ _; omega) (by show (p : Int) ≤ _; omega) (by show (0 : Int) ≤ (p : Int) + 1 + (k : Int); omega)
          · have := q r hr0
            rw [leads_str eh, ← rgV_nats] at this
            exact this
        · cases z
      · refine ifF (decF e2) ?_
        refine ⟨(by show 0 ≤ sizeLine; decide), fun r hr0 => ?_⟩
        have := q r hr0
        cases c with
        | ref a => exact absurd rfl e0
        | str a => exact absurd rfl e2
        | con s => exact this
        | head s k => exact this

/-! Choice.__init__ -/
abbrev sCI : Stmt := inClass (top 11) 0
theorem scCI : FnScope ["self", "registers", "heap_length", "trail_length"] ["self", "registers", "heap_length", "trail_length"] (defScope sCI) := ⟨rfl, rfl, rfl, by decide +kernel, rfl, by decide +kernel, by decide +kernel⟩
def spCI (CC : Addr) : Sp := fun vs H Q _ => ∃ (p dx r : Addr) (i j : Nat), vs = [.ref p, .ref r, .int i, .int j] ∧ H p = some (.ins CC dx []) ∧ ∀ H', H' p = some (.ins CC dx (cf r i j)) → (∀ b o, H b = some o → b ≠ p → H' b = some o) → Q .non H'
theorem ok_ci {C CC f : Addr} {fd : FuncData} (F : Fun K "__init__" "Choice.__init__" sCI f fd) (L : Cl K C CC) : FnOk P w K mg base CX0 1 f fd ["self", "registers", "heap_length", "trail_length"] (spCI CC) := by
  refine F.ok scCI (fun vs H Q E h => ?_) (fun cdv A outer s H vs Q E hr h => ?_)
  · obtain ⟨p, dx, r, i, j, rfl, _⟩ := h
    rfl
  · obtain ⟨p, dx, r, i, j, rfl, hp, k⟩ := h
    refine ⟨_, pss_cons (ps_fld (pv 0) (pv 1) rfl) (pss_cons (ps_fld (pv 0) (pv 2) rfl) (pss_one (ps_fld (pv 0) (pv 3) rfl))), ?_⟩
    refine ⟨_, rfl, _, rfl, p, CC, dx, _, rfl, hp, L.ccl, L.cnr, (by show 0 < 1000; decide), ?_⟩
    refine ⟨_, rfl, _, rfl, p, CC, dx, _, rfl, upd_same, L.ccl, L.cnh, (by show 1 < 1000; decide), ?_⟩
    refine ⟨_, rfl, _, rfl, p, CC, dx, _, rfl, upd_same, L.ccl, L.cnt, (by show 2 < 1000; decide), ?_⟩
    have ef : putF "trail_length" (.int j) (putF "heap_length" (.int i) (putF "registers" (.ref r) [])) = cf r i j := by
      have e1 : putF "registers" (.ref r) [] = [(("registers" : Str), V.ref r)] := rfl
      rw [e1, putF_no (Ne.symm sne7), putF_no (Ne.symm sne8)]
      show _ :: putF "trail_length" _ [(("heap_length" : Str), V.int i)] = _
      rw [putF_no (Ne.symm sne9)]
      rfl
    refine k _ (by rw [upd_same, ef]) fun b o e n => by rw [upd_ne n, upd_ne n, upd_ne n]; exact e

/-! choice_of_now -/
abbrev sCN : Stmt := inClass (top 12) 4
theorem scCN : FnScope ["self"] ["self"] (defScope sCN) := ⟨rfl, rfl, rfl, by decide +kernel, rfl, by decide +kernel, by decide +kernel⟩
def spCN (C CC : Addr) : Sp := fun vs H Q _ => ∃ (p dx l r t c : Addr) (ts : List V) (tl : List Nat) (rs : List (Option Lg04.Value)), vs = [.ref p] ∧ H p = some (.ins C dx (mf l r t c)) ∧ H l = some (.lst ts) ∧ H t = some (.lst (trailV tl)) ∧ RegsIs H r rs ∧
  ∀ H' q dq g, Same H H' → H q = none → H g = none → H' q = some (.ins CC dq (cf g ts.length tl.length)) → RegsIs H' g rs → Q (.ref q) H'
theorem ok_cn {C CC f fI : Addr} {fd fdI : FuncData} (F : Fun K "choice_of_now" "Machine.choice_of_now" sCN f fd) (L : Cl K C CC) (len : mg "len" = none) (lst : mg "list" = none)
    (mgC : mg "Choice" = some (.ref CC)) (M : Mk K CC fI) (GI : FnOk P w K mg base CX0 1 fI fdI ["self", "registers", "heap_length", "trail_length"] (spCI CC)) (bI : Binds K fdI ["self", "registers", "heap_length", "trail_length"] []) :
    FnOk P w K mg base CX0 3 f fd ["self"] (spCN C CC) := by
  refine F.ok scCN (fun vs H Q E h => ?_) (fun cdv A outer s H vs Q E hr h => ?_)
  · obtain ⟨p, dx, l, r, t, c, ts, tl, rs, rfl, _⟩ := h
    rfl
  · obtain ⟨p, dx, l, r, t, c, ts, tl, rs, rfl, hp, hl, ht, hrs, k⟩ := h
    refine ⟨_, pss_one (ps_ret (pe_make M GI hr rfl mgC bI .nil pass0 (pa_cons (pe_callTy call_list_of (by rfl) lst (by decide +kernel) (pa_cons (pe_fld (pv 0) rfl) pa_nil))
      (pa_cons (pe_callB call_len_seq (by rfl) len PySem.boot_len (pa_cons (pe_fld (pv 0) rfl) pa_nil)) (pa_cons (pe_callB call_len_seq (by rfl) len PySem.boot_len (pa_cons (pe_fld (pv 0) rfl) pa_nil)) pa_nil))))), ?_⟩
    obtain ⟨vs, hv, rv⟩ := hrs
    refine ⟨_, rfl, p, C, dx, _, _, rfl, hp, L.cl, L.nr, mf_regs, r, _, rfl, .inl (SqL.of hv), fun g hg => ?_⟩
    have sm : Same H (upd H g (.lst vs)) := same_new hg
    have hg1 : (upd H g (.lst vs)) g = some (.lst vs) := upd_same
    generalize upd H g (.lst vs) = H1 at sm hg1
    refine ⟨_, rfl, p, C, dx, _, _, rfl, sm _ _ hp, L.cl, L.nh, mf_heap, l, _, rfl, .inl (SqL.of (sm _ _ hl)), _, rfl, p, C, dx, _, _, rfl, sm _ _ hp, L.cl, L.nt, mf_trail, t, _, rfl, .inl (SqL.of (sm _ _ ht)), ?_⟩
    intro q dq hq hdq ne
    have tl2 : (trailV tl).length = tl.length := by unfold trailV; rw [List.length_map, List.length_reverse]
    rw [tl2]
    refine ⟨q, dq, g, ts.length, tl.length, rfl, upd_same, fun H2 h2 k2 => ⟨rfl, ?_⟩⟩
    have sm2 : Same H1 H2 := Same.made hq hdq k2
    exact k H2 q dq g (sm.trans sm2) (sm.free hq) hg h2 ⟨vs, sm2 _ _ hg1, (rv.keep (.of_same sm)).keep (.of_same sm2)⟩

/-! heap_behind -/
abbrev sHB : Stmt := inClass (top 12) 5
theorem scHB : FnScope ["self", "choice", "heap", "place"] ["self", "choice"] (defScope sHB) := ⟨rfl, rfl, rfl, by decide +kernel, rfl, by decide +kernel, by decide +kernel⟩
def spHB (C CC : Addr) : Sp := fun vs H Q _ => ∃ (p dx l r t c q dq g : Addr) (i j : Nat) (h : Lg04.Heap) (tl : List Nat), vs = [.ref p, .ref q] ∧ H p = some (.ins C dx (mf l r t c)) ∧ HeapIs H l h ∧ H t = some (.lst (trailV tl)) ∧ H q = some (.ins CC dq (cf g i j)) ∧ (∀ a, a ∈ tl → a < h.size) ∧
  ∀ H' y, Same H H' → H y = none → HeapIs H' y ((undo (tl.reverse.drop j) h).take i) → Q (.ref y) H'
theorem ok_hb {C CC f : Addr} {fd : FuncData} (F : Fun K "heap_behind" "Machine.heap_behind" sHB f fd) (L : Cl K C CC) (T : Txt K mg) (lst : mg "list" = none) : FnOk P w K mg base CX0 1 f fd ["self", "choice"] (spHB C CC) := by
  refine F.ok scHB (fun vs H Q E h => ?_) (fun cdv A outer s H vs Q E hr h => ?_)
  · obtain ⟨p, dx, l, r, t, c, q, dq, g, i, j, h, tl, rfl, _⟩ := h
    rfl
  · obtain ⟨p, dx, l, r, t, c, q, dq, g, i, j, h, tl, rfl, hp, hh, ht, hq, small, k⟩ := h
    obtain ⟨tp, mgp⟩ := T.place
    refine ⟨_, pss_cons (ps_set (i := 2) scHB.nd rfl (Or.inl rfl) (pe_callTy call_list_of (by rfl) lst (by decide +kernel) (pa_cons (pe_fld (pv 0) rfl) pa_nil)))
      (pss_cons (ps_for PassesOwn.never rfl (pi_list (pe_slice sl_list (pe_fld (pv 0) rfl) (po_some (pe_fld (pv 1) rfl)) po_none)) (pg_name (i := 3) scHB.nd rfl (Or.inl rfl))
        (pss_one (ps_asg (pe_tup (pa_cons (pe_glob (v := .int 0) rfl mgp ⟨_, rfl⟩) (pa_cons (pv 3) pa_nil))) (pg_sub (pv 2) (pv 3) set_list))))
      (pss_one (ps_ret (pe_slice sl_list (pv 2) po_none (po_some (pe_fld (pv 1) rfl)))))), ?_⟩
    obtain ⟨ts, hl, hc⟩ := hh
    refine ⟨_, rfl, p, C, dx, _, _, rfl, hp, L.cl, L.nh, mf_heap, l, _, rfl, .inl (SqL.of hl), fun y hy => ?_⟩
    have sm : Same H (upd H y (.lst (ts.map V.ref))) := same_new hy
    have hy1 : (upd H y (.lst (ts.map V.ref))) y = some (.lst (ts.map V.ref)) := upd_same
    generalize upd H y (.lst (ts.map V.ref)) = H1 at sm hy1
    refine ⟨_, rfl, p, C, dx, _, _, rfl, sm _ _ hp, L.cl, L.nt, mf_trail, _, rfl, q, CC, dq, _, _, rfl, sm _ _ hq, L.ccl, L.cnt, cf_trail, _, rfl, t, _, rfl, SqL.of (sm _ _ ht), fun z hz => ?_⟩
    have ez : cutV (trailV tl) (some (j : Int)) none = nats (tl.reverse.drop j) := by rw [cut_from, trailV_nats, nats_drop]
    rw [ez]
    have yz : y ≠ z := ne_of_none hy1 hz
    have hz0 : H z = none := sm.free hz
    have sm2 : Same H (upd H1 z (.lst (nats (tl.reverse.drop j)))) := same_put sm hz0
    have hy2 : (upd H1 z (.lst (nats (tl.reverse.drop j)))) y = some (.lst (ts.map V.ref)) := by rw [upd_ne yz]; exact hy1
    have hz2 : (upd H1 z (.lst (nats (tl.reverse.drop j)))) z = some (.lst (nats (tl.reverse.drop j))) := upd_same
    generalize upd H1 z (.lst (nats (tl.reverse.drop j))) = H2 at sm2 hy2 hz2
    refine ⟨z, rfl, ⟨_, SqL.of hz2⟩, for_list (K := K) (a := z) (xs := nats (tl.reverse.drop j)) (fun n σ H' => ∃ v3, σ = [some (.ref p), some (.ref q), some (.ref y), v3] ∧ Same H H' ∧ H' z = some (.lst (nats (tl.reverse.drop j))) ∧ HeapIs H' y (undo ((tl.reverse.drop j).take n) h))
      ⟨none, rfl, sm2, hz2, ts, hy2, hc.keep (.of_same sm2)⟩ (fun n σ H' _ ⟨_, _, _, z, _⟩ => SqL.of z) ?_ ?_⟩
    · rintro n x σ H3 en ⟨v3, rfl, sm3, hz3, us, hy3, hc3⟩
      obtain ⟨a, ea, rfl⟩ := nats_at en
      have la : a < h.size := small a (List.mem_reverse.mp (List.mem_of_mem_drop (List.mem_of_getElem? ea)))
      refine ⟨_, rfl, (by show 2 ≤ sizeLine; decide), fun tc htc => ?_⟩
      have sm4 : Same H3 (upd H3 tc (.tup [.int 0, .int a])) := same_new htc
      have ct : CellIs (upd H3 tc (.tup [.int 0, .int a])) tc (.ref a) := upd_same
      generalize upd H3 tc (.tup [.int 0, .int a]) = H4 at sm4 ct
      have ul : us.length = h.size := by rw [hc3.length, Array.length_toList, undo_size]
      refine ⟨_, rfl, _, rfl, y, _, _, a, rfl, rfl, sm4 _ _ hy3, ixN_nat (by rw [List.length_map]; omega), ?_⟩
      refine ⟨_, rfl, same_put (sm3.trans sm4) hy, (by rw [upd_ne (Ne.symm yz)]; exact sm4 _ _ hz3), ?_⟩
      rw [take_snoc ea, undo_snoc]
      exact HeapIs.put (sm4 _ _ hy3) (hc3.keep (.of_same sm4)) ct a
    · rintro σ H3 ⟨v3, rfl, sm3, hz3, us, hy3, hc3⟩
      rw [nats_len, List.take_length] at hc3
      refine ⟨_, rfl, _, rfl, q, CC, dq, _, _, rfl, sm3 _ _ hq, L.ccl, L.cnh, cf_heap, _, rfl, y, _, rfl, SqL.of hy3, fun o ho => ?_⟩
      rw [cut_to]
      refine k _ o (same_put sm3 (sm3.free ho)) (sm3.free ho) ⟨us.take i, by rw [upd_same, List.map_take], ?_⟩
      rw [toList_take]
      exact (hc3.take i).keep (.new ho)
end
end Sw
namespace Sw
open PySem PySem.Spec PyProof.Rows
open L2 hiding Walk
open Lg04 (Cell cellAt look within unify same)

theorem Chs.get {H : Hp} {CC : Addr} {qs gs : List Addr} {bs : List Lg04.Choice} (x : Chs H CC qs gs bs) : qs.length = bs.length ∧ gs.length = bs.length ∧ ∀ (i : Nat) (q : Addr), qs[i]? = some q → ∃ (b : Lg04.Choice) (dx g : Addr), bs.reverse[i]? = some b ∧ gs[i]? = some g ∧ H q = some (.ins CC dx (cf g b.heap b.trail)) ∧ RegsIs H g b.regs := by
  induction x with
  | nil => exact ⟨rfl, rfl, fun i q e => by simp at e⟩
  | @snoc q0 dx g qs gs b bs h r _ ih =>
    obtain ⟨l1, l2, ih⟩ := ih
    refine ⟨by simp [l1], by simp [l2], fun i q e => ?_⟩
    by_cases li : i < qs.length
    · rw [List.getElem?_append_left li] at e
      obtain ⟨b', dx', g', e1, e2, e3, e4⟩ := ih i q e
      refine ⟨b', dx', g', ?_, ?_, e3, e4⟩
      · rw [List.reverse_cons, List.getElem?_append_left (by rw [List.length_reverse]; omega)]; exact e1
      · rw [List.getElem?_append_left (by omega)]; exact e2
    · rw [List.getElem?_append_right (by omega)] at e
      have ei : i = qs.length := by
        rcases Nat.lt_or_ge 0 (i - qs.length) with z | z
        · rw [List.getElem?_eq_none (by simp; omega)] at e; cases e
        · omega
      subst ei
      rw [Nat.sub_self] at e
      cases (Option.some.inj e)
      refine ⟨b, dx, g, ?_, ?_, h, r⟩
      · rw [List.reverse_cons, List.getElem?_append_right (by rw [List.length_reverse]; omega), List.length_reverse, l1, Nat.sub_self]; rfl
      · rw [List.getElem?_append_right (by omega), l1, l2, Nat.sub_self]; rfl
theorem Chs.take {H : Hp} {CC : Addr} {qs gs : List Addr} {bs : List Lg04.Choice} (x : Chs H CC qs gs bs) (k : Nat) : Chs H CC (qs.take k) (gs.take k) (bs.drop (bs.length - k)) := by
  induction x with
  | nil => simp; exact .nil
  | @snoc q0 dx g qs gs b bs h r x ih =>
    obtain ⟨l1, l2, _⟩ := x.get
    by_cases lk : bs.length + 1 ≤ k
    · rw [List.take_of_length_le (by simp; omega), List.take_of_length_le (by simp; omega), List.length_cons, show bs.length + 1 - k = 0 by omega]
      exact .snoc h r x
    · rw [List.take_append_of_le_length (by omega), List.take_append_of_le_length (by omega), List.length_cons, show bs.length + 1 - k = (bs.length - k) + 1 by omega, List.drop_succ_cons]
      exact ih
section
variable {C CC : Addr} {H H' : Hp} {p dx l r t c l' r' t' : Addr} {qs gs ow : List Addr} {m n : Lg04.M}
theorem Mach.renew (R : Mach C CC H p dx l r t c qs gs m) (kp : ∀ b o, H b = some o → b ≠ p → H' b = some o) (hp : H' p = some (.ins C dx (mf l' r' t' c))) (hh : HeapIs H' l' n.heap) (hr : RegsIs H' r' n.regs)
    (ht : H' t' = some (.lst (trailV n.trail))) (ec : n.choices = m.choices) (fl : H l' = none) (fr : H r' = none) (ft : H t' = none) (lr : l' ≠ r') (lt : l' ≠ t') (rt : r' ≠ t') : Mach C CC H' p dx l' r' t' c qs gs n := by
  have tu : Tups H H' := fun u xs eu => kp _ _ eu (ne_of eu R.ins (fun z => nomatch z))
  have ng : ∀ {u : Addr}, H u = none → u ∉ gs := fun hu mu => by
    obtain ⟨o, eo⟩ := R.chs.tracked.2 _ mu
    rw [hu] at eo; cases eo
  refine ⟨hp, hh, hr, ht, kp _ _ R.clst (ne_of R.clst R.ins (fun z => nomatch z)), ?_, lr, lt, Ne.symm (ne_of_none R.clst fl), rt, Ne.symm (ne_of_none R.clst fr), Ne.symm (ne_of_none R.clst ft), ng fl, ng fr, ng ft, R.gc⟩
  rw [ec]
  refine R.chs.keep tu (fun q d2 g i j e2 => ?_) (fun g mg xs e2 => ?_)
  · exact kp _ _ e2 (ne_of e2 R.ins (fun z => mf_cf (HO.ins.inj z).2.2.symm))
  · exact kp _ _ e2 (ne_of e2 R.ins (fun z => nomatch z))
theorem Does.read {call : Lg06.Call} {Q : VK} {zs : List Int} {q : Addr} (d : Does C CC p (own p l r t c qs gs) m call H Q) (W : Mach C CC H p dx l r t c qs gs m) (e : Lg06.step m call = (m, zs)) (sm : Same H H') (nq : H q = none) (hq : H' q = some (.lst (zs.map V.int))) : Q (.ref q) H' := by
  refine d H' _ q (by rw [e]; exact ⟨dx, l, r, t, c, qs, gs, W.same sm, rfl⟩) (fun b mb => .inl mb) (But.of_same sm) (.inl nq) (fun z => ?_) (by rw [e]; exact hq)
  obtain ⟨o, eo⟩ := W.tracked z
  rw [nq] at eo; cases eo
theorem own_p {p l r t c : Addr} {qs gs : List Addr} : p ∈ own p l r t c qs gs := by unfold own; simp
end
theorem trailV_len {l : List Nat} : (trailV l).length = l.length := by unfold trailV; rw [List.length_map, List.length_reverse]
theorem gone_trailV {m : Lg04.M} {b : Lg04.Choice} : trailV (gone m b).trail = (trailV m.trail).take b.trail := by
  rw [gone_trail, trailV_nats, trailV_nats, nats_take, List.take_reverse]
theorem int_len {l : List Nat} : (l.map fun (n : Nat) => (n : Int)).length = l.length := List.length_map _

section
variable {P : Program} {w : World} {K : PySem.W.Frag} {mg : Str → Option Value} {base : PySem.Heap}
/-! back_to_topmost -/
abbrev sBk : Stmt := inClass (top 12) 6
theorem scBk : FnScope ["self", "choice"] ["self"] (defScope sBk) := ⟨rfl, rfl, rfl, by decide +kernel, rfl, by decide +kernel, by decide +kernel⟩
def spBk (C CC : Addr) : Sp := fun vs H Q _ => ∃ (p dx l r t c : Addr) (qs gs : List Addr) (m : Lg04.M) (b : Lg04.Choice) (bs : List Lg04.Choice), vs = [.ref p] ∧ Mach C CC H p dx l r t c qs gs m ∧ Inv m ∧ m.choices = b :: bs ∧
  ∀ H' l' r' t', Mach C CC H' p dx l' r' t' c qs gs (gone m b) → H l' = none → H r' = none → H t' = none → But [p] H H' → Q .non H'
theorem ok_bk {C CC f fH : Addr} {fd fdH : FuncData} (F : Fun K "back_to_topmost" "Machine.back_to_topmost" sBk f fd) (L : Cl K C CC) (lst : mg "list" = none)
    (GH : FnOk P w K mg base CX0 1 fH fdH ["self", "choice"] (spHB C CC)) (bH : Binds K fdH ["self", "choice"] []) (mH : Meth K C "heap_behind" fH) : FnOk P w K mg base CX0 2 f fd ["self"] (spBk C CC) := by
  refine F.ok scBk (fun vs H Q E h => ?_) (fun cdv A outer s H vs Q E hr h => ?_)
  · obtain ⟨p, dx, l, r, t, c, qs, gs, m, b, bs, rfl, _⟩ := h
    rfl
  · obtain ⟨p, dx, l, r, t, c, qs, gs, m, b, bs, rfl, R, I, eb, k⟩ := h
    refine ⟨_, pss_cons (ps_set (i := 1) scBk.nd rfl (Or.inl rfl) (pe_ix ix_list (pe_fld (pv 0) rfl) (pe_un un_neg pe_int) (fun _ _ => rfl)))
      (pss_cons (ps_fld (pv 0) (pe_meth (pv 0) L.cl mH GH hr bH .nil pass0 (pa_cons (pv 1) pa_nil)) rfl)
      (pss_cons (ps_fld (pv 0) (pe_slice sl_list (pe_fld (pv 0) rfl) po_none (po_some (pe_fld (pv 1) rfl))) rfl)
      (pss_one (ps_fld (pv 0) (pe_callTy call_list_of (by rfl) lst (by decide +kernel) (pa_cons (pe_fld (pv 1) rfl) pa_nil)) rfl)))), ?_⟩
    have ch := R.chs
    rw [eb] at ch
    obtain ⟨q, dq, g, qs', eq, hq, hg⟩ : ∃ q dq g qs', qs = qs' ++ [q] ∧ H q = some (.ins CC dq (cf g b.heap b.trail)) ∧ RegsIs H g b.regs := by
      cases ch with
      | snoc h1 h2 _ => exact ⟨_, _, _, _, rfl, h1, h2⟩
    refine ⟨_, rfl, p, C, dx, _, _, rfl, R.ins, L.cl, L.nc, mf_choices, _, rfl, c, _, _, _, rfl, rfl, SqL.of R.clst, (by rw [eq, List.map_append]; exact atI_last _ _), ?_⟩
    refine ⟨_, rfl, p, dx, _, rfl, R.ins, mf_none (by decide +kernel) (by decide +kernel) (by decide +kernel) (by decide +kernel), _, rfl, p, dx, l, r, t, c, q, dq, g, b.heap, b.trail, m.heap, m.trail, rfl, R.ins, R.heap, R.trail, hq, (fun a ma => (I.bound a ma).1), fun H1 l' sm1 nl' hh1 => ?_⟩
    have hp1 := sm1 _ _ R.ins
    have hl1 : ∃ xs, H1 l' = some (.lst xs) := by
      obtain ⟨ts, e, _⟩ := hh1
      exact ⟨_, e⟩
    obtain ⟨xs1, hl1⟩ := hl1
    have pl : p ≠ l' := ne_of_none R.ins nl'
    refine ⟨_, rfl, p, C, dx, _, rfl, hp1, L.cl, L.nh, (by show 4 < 1000; decide), ?_⟩
    rw [mf_put_heap]
    -- the trail
    have kp2 : ∀ u o, H1 u = some o → u ≠ p → (upd H1 p (.ins C dx (mf l' r t c))) u = some o := fun u o e n => by rw [upd_ne n]; exact e
    have hp2 : (upd H1 p (.ins C dx (mf l' r t c))) p = some (.ins C dx (mf l' r t c)) := upd_same
    generalize upd H1 p (.ins C dx (mf l' r t c)) = H2 at kp2 hp2
    have qp : q ≠ p := ne_of hq R.ins (fun z => mf_cf (HO.ins.inj z).2.2.symm)
    have tp : t ≠ p := ne_of R.trail R.ins (fun z => nomatch z)
    have ht2 := kp2 _ _ (sm1 _ _ R.trail) tp
    have hq2 := kp2 _ _ (sm1 _ _ hq) qp
    refine ⟨_, rfl, p, C, dx, _, _, rfl, hp2, L.cl, L.nt, mf_trail, _, rfl, q, CC, dq, _, _, rfl, hq2, L.ccl, L.cnt, cf_trail, _, rfl, t, _, rfl, SqL.of ht2, fun t' nt' => ?_⟩
    rw [cut_to, ← gone_trailV]
    have pt : p ≠ t' := ne_of_none hp2 nt'
    have kp3 : ∀ u o, H2 u = some o → u ≠ p → (upd H2 t' (.lst (trailV (gone m b).trail))) u = some o := fun u o e n => by rw [upd_ne (ne_of_none e nt')]; exact e
    have hp3 : (upd H2 t' (.lst (trailV (gone m b).trail))) p = some (.ins C dx (mf l' r t c)) := by rw [upd_ne pt]; exact hp2
    have ht3 : (upd H2 t' (.lst (trailV (gone m b).trail))) t' = some (.lst (trailV (gone m b).trail)) := upd_same
    generalize upd H2 t' (.lst (trailV (gone m b).trail)) = H3 at kp3 hp3 ht3
    refine ⟨_, rfl, p, C, dx, _, rfl, hp3, L.cl, L.nt, (by show 4 < 1000; decide), ?_⟩
    rw [mf_put_trail]
    have kp4 : ∀ u o, H3 u = some o → u ≠ p → (upd H3 p (.ins C dx (mf l' r t' c))) u = some o := fun u o e n => by rw [upd_ne n]; exact e
    have hp4 : (upd H3 p (.ins C dx (mf l' r t' c))) p = some (.ins C dx (mf l' r t' c)) := upd_same
    generalize upd H3 p (.ins C dx (mf l' r t' c)) = H4 at kp4 hp4
    have kp : ∀ u o, H1 u = some o → u ≠ p → H4 u = some o := fun u o e n => kp4 _ _ (kp3 _ _ (kp2 _ _ e n) n) n
    obtain ⟨vs, hg0, rv⟩ := hg
    have gp : g ≠ p := ne_of hg0 R.ins (fun z => nomatch z)
    have hg4 := kp _ _ (sm1 _ _ hg0) gp
    refine ⟨_, rfl, q, CC, dq, _, _, rfl, kp _ _ (sm1 _ _ hq) qp, L.ccl, L.cnr, cf_regs, g, _, rfl, .inl (SqL.of hg4), fun r' nr' => ?_⟩
    have pr : p ≠ r' := ne_of_none hp4 nr'
    refine ⟨_, rfl, p, C, dx, _, rfl, (by rw [upd_ne pr]; exact hp4), L.cl, L.nr, (by show 4 < 1000; decide), ?_⟩
    rw [mf_put_regs]
    have kp5 : ∀ u o, H4 u = some o → u ≠ p → (upd (upd H4 r' (.lst vs)) p (.ins C dx (mf l' r' t' c))) u = some o := fun u o e n => by rw [upd_ne n, upd_ne (ne_of_none e nr')]; exact e
    have hp5 : (upd (upd H4 r' (.lst vs)) p (.ins C dx (mf l' r' t' c))) p = some (.ins C dx (mf l' r' t' c)) := upd_same
    have hr5 : (upd (upd H4 r' (.lst vs)) p (.ins C dx (mf l' r' t' c))) r' = some (.lst vs) := by rw [upd_ne (Ne.symm pr), upd_same]
    generalize upd (upd H4 r' (.lst vs)) p (.ins C dx (mf l' r' t' c)) = H5 at kp5 hp5 hr5
    have kpa : ∀ u o, H1 u = some o → u ≠ p → H5 u = some o := fun u o e n => kp5 _ _ (kp _ _ e n) n
    have kph : ∀ u o, H u = some o → u ≠ p → H5 u = some o := fun u o e n => kpa _ _ (sm1 _ _ e) n
    have tu1 : Tups H1 H5 := fun u ys eu => kpa _ _ eu (ne_of eu hp1 (fun z => nomatch z))
    have free : ∀ {u : Addr} {H6 : Hp}, (∀ v o, H v = some o → v ≠ p → H6 v = some o) → u ≠ p → H6 u = none → H u = none := fun {u} {H6} k6 n e => by
      cases z : H u with
      | none => rfl
      | some o => rw [k6 u o z n] at e; cases e
    have nt0 : H t' = none := free (H6 := H2) (fun v o e n => kp2 _ _ (sm1 _ _ e) n) (Ne.symm pt) nt'
    have nr0 : H r' = none := free (H6 := H4) (fun v o e n => kp _ _ (sm1 _ _ e) n) (Ne.symm pr) nr'
    refine k H5 l' r' t' (R.renew kph hp5 ?_ ⟨vs, hr5, ?_⟩ ?_ rfl nl' nr0 nt0 ?_ ?_ ?_) nl' nr0 nt0 (fun u o e n => kph u o e (by simpa using n))
    · rw [gone_heap eb, undone_old (b := b) (by rw [eb]; rfl)]
      obtain ⟨us, e1, e2⟩ := hh1
      exact ⟨us, kpa _ _ e1 (Ne.symm pl), e2.keep tu1⟩
    · exact (rv.keep (.of_same sm1)).keep tu1
    · exact kp5 _ _ (kp4 _ _ ht3 (Ne.symm pt)) (Ne.symm pt)
    · exact ne_of_none (kp _ _ hl1 (Ne.symm pl)) nr'
    · exact ne_of_none (kp2 _ _ hl1 (Ne.symm pl)) nt'
    · exact Ne.symm (ne_of_none (kp4 _ _ ht3 (Ne.symm pt)) nr')

/-! the calls choice, back, cut, look -/
structure Txt4 (mg : Str → Option Value) : Prop where
  most : ∃ t, mg "MOST_CHOICES" = some (.int 20 t)
  many : ∃ t, mg "TOO_MANY_CHOICES" = some (.int (-8) t)
  terms : ∃ t, mg "MOST_TERMS" = some (.int 16 t)
  size : ∃ t, mg "MOST_SIZE" = some (.int 500 t)
  large : ∃ t, mg "TOO_LARGE" = some (.int (-5) t)
abbrev sCh : Stmt := top 58
theorem scCh : FnScope ["machine"] ["machine"] (defScope sCh) := ⟨rfl, rfl, rfl, by decide +kernel, rfl, by decide +kernel, by decide +kernel⟩
def spCh (C CC : Addr) : Sp := fun vs H Q _ => ∃ (p : Addr) (ow : List Addr) (m : Lg04.M), vs = [.ref p] ∧ MachW C CC H p ow m ∧ Inv m ∧ Does C CC p ow m .choice H Q
theorem ok_ch {C CC f fN : Addr} {fd fdN : FuncData} (D : Dn K mg "call_choice" sCh ["machine"] f fd) (L : Cl K C CC) (T4 : Txt4 mg) (len : mg "len" = none)
    (GN : FnOk P w K mg base CX0 3 fN fdN ["self"] (spCN C CC)) (bN : Binds K fdN ["self"] []) (mN : Meth K C "choice_of_now" fN) : FnOk P w K mg base CX0 4 f fd ["machine"] (spCh C CC) := by
  refine D.F.ok scCh (fun vs H Q E h => ?_) (fun cdv A outer s H vs Q E hr h => ?_)
  · obtain ⟨p, ow, m, rfl, _⟩ := h
    rfl
  · obtain ⟨p, ow, m, rfl, ⟨dx, l, r, t, c, qs, gs, R, rfl⟩, I, d⟩ := h
    obtain ⟨t1, mg1⟩ := T4.most
    obtain ⟨t2, mg2⟩ := T4.many
    refine ⟨_, pss_cons (ps_if (pt_cmpR op_ge (pe_callB call_len_seq (by rfl) len PySem.boot_len (pa_cons (pe_fld (pv 0) rfl) pa_nil)) (pe_glob (v := .int 20) rfl mg1 ⟨_, rfl⟩) (nomark _)) (pss_one (ps_ret (pe_lst (pa_cons (pe_glob (v := .int (-8)) rfl mg2 ⟨_, rfl⟩) pa_nil)))) pss_nil)
      (pss_cons (ps_expr (pe_bm PySem.F.plainAttrs_list PySem.F.slot_list_append PySem.F.type_list_append mt_append (pe_fld (pv 0) rfl) (pa_cons (pe_meth0 (pv 0) L.cl mN GN hr bN .nil pass0) pa_nil)))
      (pss_one (ps_ret (pe_lst (pa_cons (pe_callB call_len_seq (by rfl) len PySem.boot_len (pa_cons (pe_fld (pv 0) rfl) pa_nil)) pa_nil))))), ?_⟩
    obtain ⟨lq, lg, _⟩ := R.chs.get
    refine ⟨_, rfl, p, C, dx, _, _, rfl, R.ins, L.cl, L.nc, mf_choices, c, _, rfl, .inl (SqL.of R.clst), _, _, rfl, rfl, _, rfl, ?_⟩
    rw [List.length_map, lq]
    by_cases full : 20 ≤ m.choices.length
    · refine ifT (decide_eq_true (by omega)) ⟨(by show 1 ≤ sizeLine; decide), fun q hq => ?_⟩
      refine d.fin R (n := m) (zs := [-8]) ?_ (fun b mb => .inl mb) But.refl hq rfl
      unfold Lg06.step
      dsimp only
      rw [if_pos (show Lg06.CHOICES ≤ m.choices.length from full)]
    · refine ifF (decide_eq_false (by omega)) ?_
      obtain ⟨ts, hl, hc⟩ := R.heap
      have tsl : ts.length = m.heap.size := by rw [hc.length, Array.length_toList]
      refine ⟨_, rfl, p, C, dx, _, _, rfl, R.ins, L.cl, L.nc, mf_choices, .inl ⟨rfl, _, SqL.of R.clst⟩, _, rfl, p, dx, _, rfl, R.ins, mf_none (by decide +kernel) (by decide +kernel) (by decide +kernel) (by decide +kernel), p, dx, l, r, t, c, _, m.trail, m.regs, rfl, R.ins, hl, R.trail, R.regs, fun H1 q dq g sm nq ng hq hg => ?_⟩
      have R1 := R.same sm
      refine ⟨c, _, _, rfl, rfl, R1.clst, (by rw [List.length_map, lq]; exact small1000 (by omega)), ?_⟩
      rw [List.length_map, tsl] at hq
      have ee : qs.map V.ref ++ [V.ref q] = (qs ++ [q]).map V.ref := by rw [List.map_append]; rfl
      rw [ee]
      have tu : Tups H1 (upd H1 c (.lst ((qs ++ [q]).map V.ref))) := Tups.lst R1.clst
      have kpi : ∀ {u C0 d0 : Addr} {fs : List (Str × V)}, H1 u = some (.ins C0 d0 fs) → (upd H1 c (.lst ((qs ++ [q]).map V.ref))) u = some (.ins C0 d0 fs) := fun e => by rw [upd_ne (ne_of e R1.clst (fun z => nomatch z))]; exact e
      obtain ⟨vg, hgv, rvg⟩ := hg
      have gc : g ≠ c := Ne.symm (ne_of_none R.clst ng)
      obtain ⟨vr, hrv, rvr⟩ := R1.regs
      have R2 : Mach C CC (upd H1 c (.lst ((qs ++ [q]).map V.ref))) p dx l r t c (qs ++ [q]) (gs ++ [g]) (chosen m) := by
        refine ⟨kpi R1.ins, ⟨ts, by rw [upd_ne R.lc]; exact sm _ _ hl, (hc.keep (.of_same sm)).keep tu⟩, ⟨vr, by rw [upd_ne R.rc]; exact hrv, rvr.keep tu⟩, by rw [upd_ne R.tc]; exact R1.trail, upd_same, ?_, R.lr, R.lt, R.lc, R.rt, R.rc, R.tc, ?_, ?_, ?_, ?_⟩
        · refine .snoc (b := ⟨m.regs, [], none, 0, m.heap.size, m.trail.length, (0, 0)⟩) (kpi hq) ⟨vg, by rw [upd_ne gc]; exact hgv, rvg.keep tu⟩ (R1.chs.keep tu (fun _ _ _ _ _ e => kpi e) (fun u mu xs e => ?_))
          rw [upd_ne (fun z => R.gc (by rw [← z]; exact mu))]; exact e
        · intro z
          rcases List.mem_append.mp z with z | z
          · exact R.gl z
          · simp at z; subst z; exact ne_of_none hl ng rfl
        · intro z
          rcases List.mem_append.mp z with z | z
          · exact R.gr z
          · simp at z; subst z
            obtain ⟨v0, e0, _⟩ := R.regs
            exact ne_of_none e0 ng rfl
        · intro z
          rcases List.mem_append.mp z with z | z
          · exact R.gt z
          · simp at z; subst z; exact ne_of_none R.trail ng rfl
        · intro z
          rcases List.mem_append.mp z with z | z
          · exact R.gc z
          · simp at z; exact gc z.symm
      refine ⟨_, rfl, p, C, dx, _, _, rfl, R2.ins, L.cl, L.nc, mf_choices, c, _, rfl, .inl (SqL.of R2.clst), (by show 1 ≤ sizeLine; decide), fun y hy => ?_⟩
      refine d.fin R2 (zs := [((m.choices.length + 1 : Nat) : Int)]) ?_ (fun b mb => ?_) ?_ hy (by rw [List.length_map, List.length_append, List.length_singleton, lq]; rfl)
      · unfold Lg06.step
        dsimp only
        rw [if_neg (show ¬ Lg06.CHOICES ≤ m.choices.length from full)]
        rfl
      · unfold own at mb ⊢
        simp only [List.mem_cons, List.mem_append] at mb ⊢
        rcases mb with h | h | h | h | h | (h | h) | (h | h)
        · exact .inl (.inl h)
        · exact .inl (.inr (.inl h))
        · exact .inl (.inr (.inr (.inl h)))
        · exact .inl (.inr (.inr (.inr (.inl h))))
        · exact .inl (.inr (.inr (.inr (.inr (.inl h)))))
        · exact .inl (.inr (.inr (.inr (.inr (.inr (.inl h))))))
        · simp at h; subst h; exact .inr ng
        · exact .inl (.inr (.inr (.inr (.inr (.inr (.inr h))))))
        · simp at h; subst h; exact .inr nq
      · exact (But.of_same sm).upd (by unfold own; simp)

abbrev sBack : Stmt := top 59
theorem scBack : FnScope ["machine"] ["machine"] (defScope sBack) := ⟨rfl, rfl, rfl, by decide +kernel, rfl, by decide +kernel, by decide +kernel⟩
def spBack (C CC : Addr) : Sp := fun vs H Q _ => ∃ (p : Addr) (ow : List Addr) (m : Lg04.M), vs = [.ref p] ∧ MachW C CC H p ow m ∧ Inv m ∧ Does C CC p ow m .back H Q
theorem ok_back {C CC f fB : Addr} {fd fdB : FuncData} (D : Dn K mg "call_back" sBack ["machine"] f fd) (L : Cl K C CC) (len : mg "len" = none)
    (GB : FnOk P w K mg base CX0 2 fB fdB ["self"] (spBk C CC)) (bB : Binds K fdB ["self"] []) (mB : Meth K C "back_to_topmost" fB) : FnOk P w K mg base CX0 3 f fd ["machine"] (spBack C CC) := by
  refine D.F.ok scBack (fun vs H Q E h => ?_) (fun cdv A outer s H vs Q E hr h => ?_)
  · obtain ⟨p, ow, m, rfl, _⟩ := h
    rfl
  · obtain ⟨p, ow, m, rfl, ⟨dx, l, r, t, c, qs, gs, R, rfl⟩, I, d⟩ := h
    refine ⟨_, pss_cons (ps_if (pt_cmpR op_eq (pe_callB call_len_seq (by rfl) len PySem.boot_len (pa_cons (pe_fld (pv 0) rfl) pa_nil)) pe_int (nomark _)) (pss_one (ps_ret (pe_lst (pa_cons pe_int pa_nil)))) pss_nil)
      (pss_cons (ps_expr (pe_meth0 (pv 0) L.cl mB GB hr bB .nil pass0))
      (pss_one (ps_ret (pe_lst (pa_cons pe_int pa_nil))))), ?_⟩
    obtain ⟨lq, lg, _⟩ := R.chs.get
    refine ⟨_, rfl, p, C, dx, _, _, rfl, R.ins, L.cl, L.nc, mf_choices, c, _, rfl, .inl (SqL.of R.clst), rfl, _, rfl, ?_⟩
    rw [List.length_map, lq]
    cases eb : m.choices with
    | nil =>
      refine ifT (decT (by rfl)) ⟨(by show 1 ≤ sizeLine; decide), fun q hq => ?_⟩
      refine d.fin R (n := m) (zs := [0]) ?_ (fun b mb => .inl mb) But.refl hq rfl
      unfold Lg06.step
      dsimp only
      have : Lg04.backed m = none := by unfold Lg04.backed; rw [eb]
      rw [this]
    | cons b bs =>
      refine ifF (decF (by rw [List.length_cons]; omega)) ?_
      refine ⟨_, rfl, p, dx, _, rfl, R.ins, mf_none (by decide +kernel) (by decide +kernel) (by decide +kernel) (by decide +kernel), p, dx, l, r, t, c, qs, gs, m, b, bs, rfl, R, I, eb, fun H1 l' r' t' R1 nl nr nt b1 => ?_⟩
      refine ⟨(by show 1 ≤ sizeLine; decide), fun q hq => ?_⟩
      refine d.fin R1 (zs := [1]) ?_ (fun u mu => ?_) (fun u o e n => b1 u o e (by simp; exact (own_out n).1)) hq rfl
      · unfold Lg06.step
        dsimp only
        rw [backed_eq eb]
      · unfold own at mu ⊢
        simp only [List.mem_cons, List.mem_append] at mu ⊢
        rcases mu with h | h | h | h | h | h | h
        · exact .inl (.inl h)
        · subst h; exact .inr nl
        · subst h; exact .inr nr
        · subst h; exact .inr nt
        · exact .inl (.inr (.inr (.inr (.inr (.inl h)))))
        · exact .inl (.inr (.inr (.inr (.inr (.inr (.inl h))))))
        · exact .inl (.inr (.inr (.inr (.inr (.inr (.inr h))))))

abbrev sCut : Stmt := top 60
theorem scCut : FnScope ["machine", "k"] ["machine", "k"] (defScope sCut) := ⟨rfl, rfl, rfl, by decide +kernel, rfl, by decide +kernel, by decide +kernel⟩
def spCut (C CC : Addr) : Sp := fun vs H Q _ => ∃ (p : Addr) (ow : List Addr) (m : Lg04.M) (k : Nat), vs = [.ref p, .int k] ∧ MachW C CC H p ow m ∧ Inv m ∧ Does C CC p ow m (.cut k) H Q
theorem ok_cut {C CC f : Addr} {fd : FuncData} (D : Dn K mg "call_cut" sCut ["machine", "k"] f fd) (L : Cl K C CC) (len : mg "len" = none) : FnOk P w K mg base CX0 1 f fd ["machine", "k"] (spCut C CC) := by
  refine D.F.ok scCut (fun vs H Q E h => ?_) (fun cdv A outer s H vs Q E hr h => ?_)
  · obtain ⟨p, ow, m, k, rfl, _⟩ := h
    rfl
  · obtain ⟨p, ow, m, k, rfl, ⟨dx, l, r, t, c, qs, gs, R, rfl⟩, I, d⟩ := h
    refine ⟨_, pss_cons (ps_fld (pv 0) (pe_slice sl_list (pe_fld (pv 0) rfl) po_none (po_some (pv 1))) rfl)
      (pss_one (ps_ret (pe_lst (pa_cons (pe_callB call_len_seq (by rfl) len PySem.boot_len (pa_cons (pe_fld (pv 0) rfl) pa_nil)) pa_nil)))), ?_⟩
    obtain ⟨lq, lg, _⟩ := R.chs.get
    refine ⟨_, rfl, p, C, dx, _, _, rfl, R.ins, L.cl, L.nc, mf_choices, _, rfl, _, rfl, c, _, rfl, SqL.of R.clst, fun c' nc' => ?_⟩
    rw [cut_to, ← List.map_take]
    have pc : p ≠ c' := ne_of_none R.ins nc'
    refine ⟨_, rfl, p, C, dx, _, rfl, (by rw [upd_ne pc]; exact R.ins), L.cl, L.nc, (by show 4 < 1000; decide), ?_⟩
    rw [mf_put_choices]
    have kp : ∀ u o, H u = some o → u ≠ p → (upd (upd H c' (.lst ((qs.take k).map V.ref))) p (.ins C dx (mf l r t c'))) u = some o := fun u o e n => by rw [upd_ne n, upd_ne (ne_of_none e nc')]; exact e
    have hp1 : (upd (upd H c' (.lst ((qs.take k).map V.ref))) p (.ins C dx (mf l r t c'))) p = some (.ins C dx (mf l r t c')) := upd_same
    have hc1 : (upd (upd H c' (.lst ((qs.take k).map V.ref))) p (.ins C dx (mf l r t c'))) c' = some (.lst ((qs.take k).map V.ref)) := by rw [upd_ne (Ne.symm pc), upd_same]
    generalize upd (upd H c' (.lst ((qs.take k).map V.ref))) p (.ins C dx (mf l r t c')) = H1 at kp hp1 hc1
    have tu : Tups H H1 := fun u xs eu => kp _ _ eu (ne_of eu R.ins (fun z => nomatch z))
    obtain ⟨ts, hl, hc⟩ := R.heap
    obtain ⟨vr, hrv, rvr⟩ := R.regs
    have mt : ∀ {u : Addr}, u ∈ gs.take k → u ∈ gs := fun z => List.mem_of_mem_take z
    have R1 : Mach C CC H1 p dx l r t c' (qs.take k) (gs.take k) { m with choices := m.choices.drop (m.choices.length - k) } := by
      refine ⟨hp1, ⟨ts, kp _ _ hl (ne_of hl R.ins (fun z => nomatch z)), hc.keep tu⟩, ⟨vr, kp _ _ hrv (ne_of hrv R.ins (fun z => nomatch z)), rvr.keep tu⟩, kp _ _ R.trail (ne_of R.trail R.ins (fun z => nomatch z)), hc1, ?_, R.lr, R.lt, ne_of_none hl nc', R.rt, ne_of_none hrv nc', ne_of_none R.trail nc', fun z => R.gl (mt z), fun z => R.gr (mt z), fun z => R.gt (mt z), fun z => ?_⟩
      · refine (R.chs.take k).keep tu (fun q d2 g i j e2 => ?_) (fun g mg xs e2 => ?_)
        · exact kp _ _ e2 (ne_of e2 R.ins (fun z => mf_cf (HO.ins.inj z).2.2.symm))
        · exact kp _ _ e2 (ne_of e2 R.ins (fun z => nomatch z))
      · obtain ⟨o, eo⟩ := R.chs.tracked.2 _ (mt z)
        rw [nc'] at eo; cases eo
    refine ⟨_, rfl, p, C, dx, _, _, rfl, R1.ins, L.cl, L.nc, mf_choices, c', _, rfl, .inl (SqL.of R1.clst), (by show 1 ≤ sizeLine; decide), fun y hy => ?_⟩
    refine d.fin R1 (zs := [((min k m.choices.length : Nat) : Int)]) rfl (fun u mu => ?_) (fun u o e n => kp u o e (own_out n).1) hy (by rw [List.length_map, List.length_take, lq]; rfl)
    unfold own at mu ⊢
    simp only [List.mem_cons, List.mem_append] at mu ⊢
    rcases mu with h | h | h | h | h | h | h
    · exact .inl (.inl h)
    · exact .inl (.inr (.inl h))
    · exact .inl (.inr (.inr (.inl h)))
    · exact .inl (.inr (.inr (.inr (.inl h))))
    · subst h; exact .inr nc'
    · exact .inl (.inr (.inr (.inr (.inr (.inr (.inl (mt h)))))))
    · exact .inl (.inr (.inr (.inr (.inr (.inr (.inr (List.mem_of_mem_take h)))))))

abbrev sLk : Stmt := top 62
theorem scLk : FnScope ["machine"] ["machine"] (defScope sLk) := ⟨rfl, rfl, rfl, by decide +kernel, rfl, by decide +kernel, by decide +kernel⟩
def spLk (C CC : Addr) : Sp := fun vs H Q _ => ∃ (p : Addr) (ow : List Addr) (m : Lg04.M), vs = [.ref p] ∧ MachW C CC H p ow m ∧ Does C CC p ow m .look H Q
theorem ok_lk {C CC f : Addr} {fd : FuncData} (D : Dn K mg "call_look" sLk ["machine"] f fd) (L : Cl K C CC) (len : mg "len" = none) : FnOk P w K mg base CX0 1 f fd ["machine"] (spLk C CC) := by
  refine D.F.ok scLk (fun vs H Q E h => ?_) (fun cdv A outer s H vs Q E hr h => ?_)
  · obtain ⟨p, ow, m, rfl, _⟩ := h
    rfl
  · obtain ⟨p, ow, m, rfl, ⟨dx, l, r, t, c, qs, gs, R, rfl⟩, d⟩ := h
    refine ⟨_, pss_one (ps_ret (pe_lst (pa_cons (pe_callB call_len_seq (by rfl) len PySem.boot_len (pa_cons (pe_fld (pv 0) rfl) pa_nil)) (pa_cons (pe_callB call_len_seq (by rfl) len PySem.boot_len (pa_cons (pe_fld (pv 0) rfl) pa_nil)) (pa_cons (pe_callB call_len_seq (by rfl) len PySem.boot_len (pa_cons (pe_fld (pv 0) rfl) pa_nil)) pa_nil))))), ?_⟩
    obtain ⟨lq, lg, _⟩ := R.chs.get
    obtain ⟨ts, hl, hc⟩ := R.heap
    have tsl : ts.length = m.heap.size := by rw [hc.length, Array.length_toList]
    refine ⟨_, rfl, p, C, dx, _, _, rfl, R.ins, L.cl, L.nh, mf_heap, l, _, rfl, .inl (SqL.of hl), _, rfl, p, C, dx, _, _, rfl, R.ins, L.cl, L.nt, mf_trail, t, _, rfl, .inl (SqL.of R.trail), _, rfl, p, C, dx, _, _, rfl, R.ins, L.cl, L.nc, mf_choices, c, _, rfl, .inl (SqL.of R.clst), (by show 3 ≤ sizeLine; decide), fun q hq => ?_⟩
    refine d.read R (zs := Lg06.ints [m.heap.size, m.trail.length, m.choices.length]) rfl (same_new hq) hq ?_
    rw [upd_same, List.length_map, List.length_map, tsl, trailV_len, lq]
    rfl
end
end Sw
namespace Sw
open PySem PySem.Spec PyProof.Rows
open L2 hiding Walk
open Lg04 (Cell cellAt look within unify same)

def cellI (c : Cell) : List Int := [n1 c, n2 c]
theorem cellNums_int (c : Cell) : (Lg04.cellNums c).map (fun (n : Nat) => (n : Int)) = cellI c := by
  cases c with
  | ref a => rfl
  | con s => rfl
  | str p => rfl
  | head s k =>
    show [((2 + k : Nat) : Int), (s : Int)] = [2 + (k : Int), (s : Int)]
    rw [Int.natCast_add]
    rfl
theorem cells_int (cs : List Cell) : (cs.flatMap Lg04.cellNums).map (fun (n : Nat) => (n : Int)) = cs.flatMap cellI := by
  induction cs with
  | nil => rfl
  | cons c cs ih => rw [List.flatMap_cons, List.flatMap_cons, List.map_append, ih, cellNums_int]
def choI (b : Lg04.Choice) : List Int := [(b.heap : Int), (b.trail : Int)]
theorem chos_int (bs : List Lg04.Choice) : (bs.flatMap fun (b : Lg04.Choice) => [b.heap, b.trail]).map (fun (n : Nat) => (n : Int)) = bs.flatMap choI := by
  induction bs with
  | nil => rfl
  | cons c cs ih => rw [List.flatMap_cons, List.flatMap_cons, List.map_append, ih]; rfl
theorem flat2 {α : Type} (f : α → List Int) (h : ∀ a, (f a).length = 2) (l : List α) : (l.flatMap f).length = 2 * l.length := by
  induction l with
  | nil => rfl
  | cons c cs ih => rw [List.flatMap_cons, List.length_append, ih, h, List.length_cons]; omega
theorem vint_app {a b : List Int} : a.map V.int ++ b.map V.int = (a ++ b).map V.int := by rw [List.map_append]
theorem nats_int {l : List Nat} : nats l = (l.map fun (n : Nat) => (n : Int)).map V.int := by unfold nats; rw [List.map_map]; rfl
theorem inv_trail_len {m : Lg04.M} (I : Inv m) : m.trail.length ≤ m.heap.size := I.trail_le
theorem small_line {n : Nat} (h : n ≤ 2000000) : n < sizeLine := Nat.lt_of_le_of_lt h (by decide)
theorem small_line' {n : Nat} (h : n ≤ 2000000) : n ≤ sizeLine := Nat.le_of_lt (small_line h)

section
variable {P : Program} {w : World} {K : PySem.W.Frag} {mg : Str → Option Value} {base : PySem.Heap}
abbrev sHp : Stmt := top 64
theorem scHp : FnScope ["machine", "told", "cell", "choice"] ["machine"] (defScope sHp) := ⟨rfl, rfl, rfl, by decide +kernel, rfl, by decide +kernel, by decide +kernel⟩
def spHp (C CC : Addr) : Sp := fun vs H Q _ => ∃ (p : Addr) (ow : List Addr) (m : Lg04.M), vs = [.ref p] ∧ MachW C CC H p ow m ∧ Inv m ∧ m.heap.size ≤ 900 ∧ Does C CC p ow m .heap H Q
theorem ok_hp {C CC f : Addr} {fd : FuncData} (D : Dn K mg "call_heap" sHp ["machine"] f fd) (L : Cl K C CC) (len : mg "len" = none) : FnOk P w K mg base CX0 1 f fd ["machine"] (spHp C CC) := by
  refine D.F.ok scHp (fun vs H Q E h => ?_) (fun cdv A outer s H vs Q E hr h => ?_)
  · obtain ⟨p, ow, m, rfl, _⟩ := h
    rfl
  · obtain ⟨p, ow, m, rfl, ⟨dx, l, r, t, c, qs, gs, R, rfl⟩, I, hs, d⟩ := h
    refine ⟨_, pss_cons (ps_set (i := 1) scHp.nd rfl (Or.inl rfl) (pe_lst (pa_cons (pe_callB call_len_seq (by rfl) len PySem.boot_len (pa_cons (pe_fld (pv 0) rfl) pa_nil)) pa_nil)))
      (pss_cons (ps_for PassesOwn.never rfl (pi_list (pe_fld (pv 0) rfl)) (pg_name (i := 2) scHp.nd rfl (Or.inl rfl))
        (pss_one (ps_expr (pe_bm PySem.F.plainAttrs_list PySem.F.slot_list_extend PySem.F.type_list_extend mt_extend (pv 1) (pa_cons (pe_lst (pa_cons (pe_ix ix_tup (pv 2) pe_int (fun _ _ => rfl)) (pa_cons (pe_ix ix_tup (pv 2) pe_int (fun _ _ => rfl)) pa_nil))) pa_nil)))))
      (pss_cons (ps_expr (pe_bm PySem.F.plainAttrs_list PySem.F.slot_list_append PySem.F.type_list_append mt_append (pv 1) (pa_cons (pe_callB call_len_seq (by rfl) len PySem.boot_len (pa_cons (pe_fld (pv 0) rfl) pa_nil)) pa_nil)))
      (pss_cons (ps_expr (pe_bm PySem.F.plainAttrs_list PySem.F.slot_list_extend PySem.F.type_list_extend mt_extend (pv 1) (pa_cons (pe_fld (pv 0) rfl) pa_nil)))
      (pss_cons (ps_expr (pe_bm PySem.F.plainAttrs_list PySem.F.slot_list_append PySem.F.type_list_append mt_append (pv 1) (pa_cons (pe_callB call_len_seq (by rfl) len PySem.boot_len (pa_cons (pe_fld (pv 0) rfl) pa_nil)) pa_nil)))
      (pss_cons (ps_for PassesOwn.never rfl (pi_list (pe_fld (pv 0) rfl)) (pg_name (i := 3) scHp.nd rfl (Or.inl rfl))
        (pss_one (ps_expr (pe_bm PySem.F.plainAttrs_list PySem.F.slot_list_extend PySem.F.type_list_extend mt_extend (pv 1) (pa_cons (pe_lst (pa_cons (pe_fld (pv 3) rfl) (pa_cons (pe_fld (pv 3) rfl) pa_nil))) pa_nil)))))
      (pss_one (ps_ret (pv 1)))))))), ?_⟩
    obtain ⟨lq, lg, cget⟩ := R.chs.get
    obtain ⟨ts, hl, hc⟩ := R.heap
    have tsl : ts.length = m.heap.size := by rw [hc.length, Array.length_toList]
    have tll : m.trail.length ≤ 900 := Nat.le_trans (inv_trail_len I) hs
    have few := I.few
    refine ⟨_, rfl, p, C, dx, _, _, rfl, R.ins, L.cl, L.nh, mf_heap, l, _, rfl, .inl (SqL.of hl), (by show 1 ≤ sizeLine; decide), fun y hy => ?_⟩
    rw [List.length_map, tsl]
    have sm0 : Same H (upd H y (.lst [.int m.heap.size])) := same_new hy
    have hy0 : (upd H y (.lst [.int m.heap.size])) y = some (.lst ([(m.heap.size : Int)].map V.int)) := upd_same
    generalize upd H y (.lst [.int m.heap.size]) = H0 at sm0 hy0
    refine ⟨_, rfl, p, C, dx, _, _, rfl, sm0 _ _ R.ins, L.cl, L.nh, mf_heap, l, rfl, ⟨_, SqL.of (sm0 _ _ hl)⟩, for_list (K := K) (a := l) (xs := ts.map V.ref) (fun n σ H' => ∃ v2, σ = [some (.ref p), some (.ref y), v2, none] ∧ Same H H' ∧ H' y = some (.lst (((m.heap.size : Int) :: (m.heap.toList.take n).flatMap cellI).map V.int)))
      ⟨none, rfl, sm0, hy0⟩ (fun n σ H' _ ⟨_, _, z, _⟩ => SqL.of (z _ _ hl)) ?_ ?_⟩
    · rintro n x σ H1 en ⟨v2, rfl, sm, hy1⟩
      obtain ⟨tc, etc, rfl⟩ : ∃ tc, ts[n]? = some tc ∧ x = V.ref tc := by
        rw [List.getElem?_map] at en
        cases e : ts[n]? with
        | none => rw [e] at en; cases en
        | some z => rw [e] at en; exact ⟨z, rfl, (Option.some.inj en).symm⟩
      have ln : n < m.heap.size := by
        rcases Nat.lt_or_ge n ts.length with z | z
        · omega
        · rw [List.getElem?_eq_none z] at etc; cases etc
      have ec := toList_at ln
      obtain ⟨tc', etc', htc⟩ := hc.get ec
      rw [etc] at etc'
      cases etc'
      have ht1 := htc.keep (.of_same sm)
      refine ⟨_, rfl, .inl ⟨rfl, _, SqL.of hy1⟩, _, rfl, tc, _, _, _, rfl, rfl, SqT.of ht1, enc0, _, rfl, tc, _, _, _, rfl, rfl, SqT.of ht1, enc1, (by show 2 ≤ sizeLine; decide), fun e he => ?_⟩
      refine ⟨y, e, _, _, rfl, rfl, (by rw [upd_ne (ne_of_none hy1 he)]; exact hy1), upd_same, ?_, ?_⟩
      · rw [List.length_map, List.length_cons, flat2 _ (fun _ => rfl), List.length_take]
        exact small_line' (by show _ + 2 ≤ _; omega)
      · refine ⟨_, rfl, same_put (same_put sm (sm.free he)) hy, ?_⟩
        rw [upd_same, take_snoc ec, List.flatMap_append]
        simp [cellI]
    rintro σ H1 ⟨v2, rfl, sm1, hy1⟩
    rw [List.length_map, tsl, List.take_of_length_le (by rw [Array.length_toList]; exact Nat.le_refl _)] at hy1
    have l1 : ((m.heap.size : Int) :: m.heap.toList.flatMap cellI).length ≤ 2000 := by rw [List.length_cons, flat2 _ (fun _ => rfl), Array.length_toList]; omega
    -- the trail
    refine ⟨_, rfl, .inl ⟨rfl, _, SqL.of hy1⟩, _, rfl, p, C, dx, _, _, rfl, sm1 _ _ R.ins, L.cl, L.nt, mf_trail, t, _, rfl, .inl (SqL.of (sm1 _ _ R.trail)), y, _, _, rfl, rfl, hy1, (by rw [List.length_map]; exact small_line (by omega)), ?_⟩
    rw [trailV_len]
    have sm2 : Same H (upd H1 y (.lst (((m.heap.size : Int) :: m.heap.toList.flatMap cellI).map V.int ++ [.int m.trail.length]))) := same_put sm1 hy
    have hy2 : (upd H1 y (.lst (((m.heap.size : Int) :: m.heap.toList.flatMap cellI).map V.int ++ [.int m.trail.length]))) y = some (.lst ((((m.heap.size : Int) :: m.heap.toList.flatMap cellI) ++ [(m.trail.length : Int)]).map V.int)) := by rw [upd_same, List.map_append]; rfl
    generalize upd H1 y (.lst (((m.heap.size : Int) :: m.heap.toList.flatMap cellI).map V.int ++ [.int m.trail.length])) = H2 at sm2 hy2
    refine ⟨_, rfl, .inl ⟨rfl, _, SqL.of hy2⟩, _, rfl, p, C, dx, _, _, rfl, sm2 _ _ R.ins, L.cl, L.nt, mf_trail, y, t, _, _, rfl, rfl, hy2, sm2 _ _ R.trail, (by rw [List.length_map, List.length_append, trailV_len, List.length_singleton]; exact small_line' (by omega)), ?_⟩
    rw [trailV_nats, nats_int, vint_app]
    generalize ez : ((m.heap.size : Int) :: m.heap.toList.flatMap cellI) ++ [(m.trail.length : Int)] ++ m.trail.reverse.map (fun (n : Nat) => (n : Int)) = zs
    have lz : zs.length ≤ 3000 := by rw [← ez, List.length_append, List.length_append, List.length_map, List.length_reverse, List.length_singleton]; omega
    have sm3 : Same H (upd H2 y (.lst (zs.map V.int))) := same_put sm2 hy
    have hy3 : (upd H2 y (.lst (zs.map V.int))) y = some (.lst (zs.map V.int)) := upd_same
    generalize upd H2 y (.lst (zs.map V.int)) = H3 at sm3 hy3
    -- the choices
    refine ⟨_, rfl, .inl ⟨rfl, _, SqL.of hy3⟩, _, rfl, p, C, dx, _, _, rfl, sm3 _ _ R.ins, L.cl, L.nc, mf_choices, c, _, rfl, .inl (SqL.of (sm3 _ _ R.clst)), y, _, _, rfl, rfl, hy3, (by rw [List.length_map]; exact small_line (by omega)), ?_⟩
    rw [List.length_map, lq]
    have sm4 : Same H (upd H3 y (.lst (zs.map V.int ++ [.int m.choices.length]))) := same_put sm3 hy
    have hy4 : (upd H3 y (.lst (zs.map V.int ++ [.int m.choices.length]))) y = some (.lst ((zs ++ ((m.choices.length : Int) :: ([] : List Lg04.Choice).flatMap choI)).map V.int)) := by rw [upd_same, List.map_append]; rfl
    generalize upd H3 y (.lst (zs.map V.int ++ [.int m.choices.length])) = H4 at sm4 hy4
    refine ⟨_, rfl, p, C, dx, _, _, rfl, sm4 _ _ R.ins, L.cl, L.nc, mf_choices, c, rfl, ⟨_, SqL.of (sm4 _ _ R.clst)⟩, for_list (K := K) (a := c) (xs := qs.map V.ref) (fun n σ H' => ∃ v3, σ = [some (.ref p), some (.ref y), v2, v3] ∧ Same H H' ∧ H' y = some (.lst ((zs ++ ((m.choices.length : Int) :: (m.choices.reverse.take n).flatMap choI)).map V.int)))
      ⟨none, rfl, sm4, hy4⟩ (fun n σ H' _ ⟨_, _, z, _⟩ => SqL.of (z _ _ R.clst)) ?_ ?_⟩
    · rintro n x σ H5 en ⟨v3, rfl, sm, hy5⟩
      obtain ⟨q, eq, rfl⟩ : ∃ q, qs[n]? = some q ∧ x = V.ref q := by
        rw [List.getElem?_map] at en
        cases e : qs[n]? with
        | none => rw [e] at en; cases en
        | some z => rw [e] at en; exact ⟨z, rfl, (Option.some.inj en).symm⟩
      obtain ⟨b, dq, g, eb, _, hq, _⟩ := cget n q eq
      refine ⟨_, rfl, .inl ⟨rfl, _, SqL.of hy5⟩, _, rfl, q, CC, dq, _, _, rfl, sm _ _ hq, L.ccl, L.cnh, cf_heap, _, rfl, q, CC, dq, _, _, rfl, sm _ _ hq, L.ccl, L.cnt, cf_trail, (by show 2 ≤ sizeLine; decide), fun e he => ?_⟩
      refine ⟨y, e, _, _, rfl, rfl, (by rw [upd_ne (ne_of_none hy5 he)]; exact hy5), upd_same, ?_, ?_⟩
      · rw [List.length_map, List.length_append, List.length_cons, flat2 _ (fun _ => rfl), List.length_take, List.length_reverse]
        exact small_line' (by show _ + 2 ≤ _; omega)
      · refine ⟨_, rfl, same_put (same_put sm (sm.free he)) hy, ?_⟩
        rw [upd_same, take_snoc eb, List.flatMap_append]
        simp [choI]
    rintro σ H5 ⟨v3, rfl, sm5, hy5⟩
    rw [List.length_map, lq, List.take_of_length_le (by rw [List.length_reverse]; exact Nat.le_refl _)] at hy5
    refine ⟨_, rfl, ?_⟩
    refine d.read R (H' := H5) rfl sm5 hy ?_
    rw [hy5, ← ez]
    congr 2
    show _ = (Lg06.ints (m.heap.size :: m.heap.toList.flatMap Lg04.cellNums ++ (m.trail.length :: m.trail.reverse) ++ (m.choices.length :: m.choices.reverse.flatMap fun (b : Lg04.Choice) => [b.heap, b.trail]))).map V.int
    unfold Lg06.ints
    simp only [List.map_append, List.map_cons, ← cells_int, ← chos_int, List.append_assoc, List.cons_append, List.nil_append, List.map_nil]
end
end Sw
namespace Sw
open PySem PySem.Spec PyProof.Rows
open L2 hiding Walk
open Lg04 (Cell cellAt look within unify same)

theorem Cells.reverse {H : Hp} {ts : List Addr} {cs : List Cell} (x : Cells H ts cs) : Cells H ts.reverse cs.reverse := by
  induction x with
  | nil => exact .nil
  | cons h _ ih =>
    rw [List.reverse_cons, List.reverse_cons]
    exact ih.append (.cons h .nil)
theorem refs_at {ts : List Addr} {n : Nat} {x : V} (en : (ts.map V.ref)[n]? = some x) : ∃ q, ts[n]? = some q ∧ x = V.ref q := by
  rw [List.getElem?_map] at en
  cases e : ts[n]? with
  | none => rw [e] at en; cases en
  | some z => rw [e] at en; exact ⟨z, rfl, (Option.some.inj en).symm⟩
theorem Cells.at_ {H : Hp} {ts : List Addr} {cs : List Cell} (x : Cells H ts cs) {n : Nat} {t : Addr} (e : ts[n]? = some t) : ∃ c, cs[n]? = some c ∧ CellIs H t c := by
  induction x generalizing n with
  | nil => simp at e
  | cons h _ ih =>
    match n, e with
    | 0, e =>
      cases (Option.some.inj e)
      exact ⟨_, rfl, h⟩
    | n + 1, e => exact ih e
def TPw (H : Hp) (l tc y wl : Addr) (h : Lg04.Heap) (t : Lg01.Term) (mz : Nat) (σ : L2.St) (H' : Hp) : Prop := ∃ us ps ws vs vf, σ = [some (.ref l), some (.ref tc), some (.int 500), some (.ref y), some (.ref wl), vf] ∧ Same H H' ∧
  H' wl = some (.lst (us.map V.ref)) ∧ Cells H' us ws ∧ H' y = some (.lst (vs.map V.ref)) ∧ Cells H' vs ps ∧ Telling h t ps ws ∧ ps.length ≤ 501 ∧ mz = 501 - ps.length

section
variable {P : Program} {w : World} {K : PySem.W.Frag} {mg : Str → Option Value} {base : PySem.Heap}
abbrev sTP : Stmt := top 51
theorem scTP : FnScope ["heap", "cell", "most", "parts", "waiting", "found"] ["heap", "cell", "most"] (defScope sTP) := ⟨rfl, rfl, rfl, by decide +kernel, rfl, by decide +kernel, by decide +kernel⟩
def spTP : Sp := fun vs H Q _ => ∃ (l tc : Addr) (h : Lg04.Heap) (c : Cell) (t : Lg01.Term), vs = [.ref l, .ref tc, .int 500] ∧ HeapIs H l h ∧ CellIs H tc c ∧ Good h c ∧ Tm h c t ∧
  ∀ H' y ts ps, Same H H' → H y = none → H' y = some (.lst (ts.map V.ref)) → Cells H' ts ps → (∀ c, c ∈ ps → Good h c ∧ Final h c) → ps.length ≤ 501 → (ps.length ≤ 500 → toks t = ps.map (tokOf h)) → (ps.length ≤ 500 ↔ Lg01.size t ≤ 500) → Q (.ref y) H'
theorem ok_tp {f fL fA : Addr} {fd fdL fdA : FuncData} (D : Dn K mg "term_parts" sTP ["heap", "cell", "most"] f fd) (T : Txt K mg) (len : mg "len" = none)
    (GL : FnOk P w K mg base CX0 1 fL fdL ["heap", "cell"] spLook) (DL : Dn K mg "looked_through" sLook ["heap", "cell"] fL fdL)
    (GA : FnOk P w K mg base CX0 2 fA fdA ["heap", "head_place"] spCells) (DA : Dn K mg "argument_cells" sCells ["heap", "head_place"] fA fdA) : FnOk P w K mg base CX0 3 f fd ["heap", "cell", "most"] spTP := by
  refine D.F.ok scTP (fun vs H Q E h => ?_) (fun cdv A outer s H vs Q E hr h => ?_)
  · obtain ⟨l, tc, h, c, t, rfl, _⟩ := h
    rfl
  · obtain ⟨l, tc, h, c, t, rfl, hh, hc, g, tm, q⟩ := h
    obtain ⟨ts, mgs⟩ := T.str
    have hr1 : Room 1 _ := hr.mono (by decide)
    refine ⟨_, pss_cons (ps_set (i := 3) scTP.nd rfl (Or.inl rfl) (pe_lst pa_nil))
      (pss_cons (ps_set (i := 4) scTP.nd rfl (Or.inl rfl) (pe_lst (pa_cons (pv 1) pa_nil)))
      (pss_cons (ps_while PassesOwn.never (PW.pt (pw_and (pt_cmpR op_gt (pe_callB call_len_seq (by rfl) len PySem.boot_len (pa_cons (pv 4) pa_nil)) pe_int (nomark _)) (pw_and1 (pt_cmpR op_le (pe_callB call_len_seq (by rfl) len PySem.boot_len (pa_cons (pv 3) pa_nil)) (pv 2) (nomark _)))))
        (pss_cons (ps_set (i := 5) scTP.nd rfl (Or.inl rfl) (pe_call GL hr1 rfl DL.m DL.F.kp DL.b .nil pass0 (pa_cons (pv 0) (pa_cons (pe_bm0 PySem.F.plainAttrs_list PySem.F.slot_list_pop PySem.F.type_list_pop mt_pop (pv 4)) pa_nil))))
        (pss_cons (ps_expr (pe_bm PySem.F.plainAttrs_list PySem.F.slot_list_append PySem.F.type_list_append mt_append (pv 3) (pa_cons (pv 5) pa_nil)))
        (pss_one (ps_if (pt_cmpR op_eq (pe_ix ix_tup (pv 5) pe_int (fun _ _ => rfl)) (pe_glob (v := .int 2) rfl mgs ⟨_, rfl⟩) (nomark _))
          (pss_one (ps_expr (pe_bm PySem.F.plainAttrs_list PySem.F.slot_list_extend PySem.F.type_list_extend mt_extend (pv 4) (pa_cons (pe_revL (pe_call GA hr rfl DA.m DA.F.kp DA.b .nil pass0 (pa_cons (pv 0) (pa_cons (pe_ix ix_tup (pv 5) pe_int (fun _ _ => rfl)) pa_nil)))) pa_nil)))) pss_nil)))))
      (pss_one (ps_ret (pv 3))))), ?_⟩
    refine ⟨(by show 0 ≤ sizeLine; decide), fun y hy => ?_⟩
    refine ⟨_, rfl, (by show 1 ≤ sizeLine; decide), fun wl hwl => ?_⟩
    have yw : y ≠ wl := fun z => by subst z; rw [upd_same] at hwl; cases hwl
    have hwl0 : H wl = none := by rw [upd_ne (Ne.symm yw)] at hwl; exact hwl
    have sm0 : Same H (upd (upd H y (.lst [])) wl (.lst [.ref tc])) := (same_new hy).trans (same_new hwl)
    refine ⟨TPw H l tc y wl h t, ⟨_, [tc], [], [c], [], none, rfl, sm0, upd_same, .cons (hc.keep (.of_same sm0)) .nil, (by rw [upd_ne yw, upd_same]; rfl), .nil, Telling.start g tm, by decide, rfl⟩, ?_⟩
    rintro mz σ H1 ⟨us, ps, ws, vs, vf, rfl, sm, hw, hus, hy1, hvs, te, l501, rfl⟩
    refine ⟨_, rfl, wl, _, rfl, .inl (SqL.of hw), _, _, rfl, rfl, _, rfl, ?_⟩
    rw [List.length_map, hus.length]
    have stop : (ws = [] ∨ 500 < ps.length) → Q (.ref y) H1 := fun z => by
      refine q H1 y vs ps sm hy hy1 hvs te.fin l501 (fun z2 => ?_) ?_
      · rcases z with rfl | z
        · exact te.done.1
        · omega
      · rcases z with rfl | z
        · rw [te.done.2]
        · have := te.least
          constructor
          · intro z2; omega
          · intro z2; omega
    rcases List.eq_nil_or_concat ws with rfl | ⟨ws', c1, rfl⟩
    · refine ifF (decide_eq_false (by simp)) (iteF ⟨_, rfl, stop (.inl rfl)⟩)
    refine ifT (decide_eq_true (by simp)) ?_
    refine ⟨_, rfl, y, _, rfl, .inl (SqL.of hy1), _, rfl, _, _, rfl, rfl, _, rfl, ?_⟩
    rw [List.length_map, hvs.length]
    by_cases l5 : ps.length ≤ 500
    · refine ifT (decide_eq_true (by omega)) ?_
      rw [List.concat_eq_append] at hus te
      obtain ⟨us', t1, rfl, hus', ht1⟩ := hus.snoc
      refine ⟨fun σ' H' => ∃ m', m' < 501 - ps.length ∧ TPw H l tc y wl h t m' σ' H', fun _ _ z => z, ?_⟩
      have g1 : Good h c1 := te.good c1 (by simp)
      have tu : Tups H1 (upd H1 wl (.lst (us'.map V.ref))) := Tups.lst hw
      have sm1 : Same H (upd H1 wl (.lst (us'.map V.ref))) := same_put sm hwl0
      refine ⟨_, rfl, _, rfl, .inl ⟨rfl, _, SqL.of hw⟩, wl, _, _, rfl, rfl, hw, (by rw [List.length_map, List.length_append, List.length_singleton, Nat.add_sub_cancel, List.map_append, List.getElem?_append_right (by simp)]; simp; rfl), ?_⟩
      rw [List.map_append, List.map_singleton, List.dropLast_concat]
      have hw1 : (upd H1 wl (.lst (us'.map V.ref))) wl = some (.lst (us'.map V.ref)) := upd_same
      have hy2 : (upd H1 wl (.lst (us'.map V.ref))) y = some (.lst (vs.map V.ref)) := by rw [upd_ne yw]; exact hy1
      have hus2 := hus'.keep tu
      have hvs2 := hvs.keep tu
      have ht2 := ht1.keep tu
      generalize upd H1 wl (.lst (us'.map V.ref)) = H2 at sm1 hw1 hy2 hus2 hvs2 ht2
      refine ⟨l, t1, h, c1, rfl, hh.same sm1, ht2, g1, fun t2 hf => ?_⟩
      obtain ⟨g2, f2⟩ := look_good g1
      refine ⟨_, rfl, .inl ⟨rfl, _, SqL.of hy2⟩, _, rfl, y, _, _, rfl, rfl, hy2, (by rw [List.length_map, hvs2.length]; exact small1000 (by omega)), ?_⟩
      have ee : vs.map V.ref ++ [V.ref t2] = (vs ++ [t2]).map V.ref := by rw [List.map_append]; rfl
      rw [ee]
      have tu3 : Tups H2 (upd H2 y (.lst ((vs ++ [t2]).map V.ref))) := Tups.lst hy2
      have sm3 : Same H (upd H2 y (.lst ((vs ++ [t2]).map V.ref))) := same_put sm1 hy
      have hw3 : (upd H2 y (.lst ((vs ++ [t2]).map V.ref))) wl = some (.lst (us'.map V.ref)) := by rw [upd_ne (Ne.symm yw)]; exact hw1
      have hy3 : (upd H2 y (.lst ((vs ++ [t2]).map V.ref))) y = some (.lst ((vs ++ [t2]).map V.ref)) := upd_same
      have hf3 := hf.keep tu3
      have hus3 := hus2.keep tu3
      have hvs3 : Cells (upd H2 y (.lst ((vs ++ [t2]).map V.ref))) (vs ++ [t2]) (ps ++ [look h c1]) := (hvs2.keep tu3).append (.cons hf3 .nil)
      generalize upd H2 y (.lst ((vs ++ [t2]).map V.ref)) = H3 at sm3 hw3 hy3 hf3 hus3 hvs3
      have pl : (ps ++ [look h c1]).length ≤ 501 := by rw [List.length_append, List.length_singleton]; omega
      refine ⟨_, rfl, t2, _, _, _, rfl, rfl, SqT.of hf3, enc0, rfl, _, rfl, ?_⟩
      by_cases es : n1 (look h c1) = 2
      · refine ifT (decT es) ?_
        obtain ⟨p, ep⟩ := of_n1_two g2.plain es
        have g2' := g2
        rw [ep] at g2'
        obtain ⟨sy, k, eh, l1, l4, lb, nf, ga⟩ := g2'.parts
        have en2 : n2 (look h c1) = (p : Int) := by rw [ep]; rfl
        have teN := te.enter ep eh
        have few := teN.few
        refine ⟨_, rfl, .inl ⟨rfl, _, SqL.of hw3⟩, _, rfl, _, rfl, t2, _, _, _, rfl, rfl, SqT.of hf3, enc1, l, p, sy, k, h, (by rw [en2]; rfl), hh.same sm3, lb, eh, fun r zs hr0 hzs => ?_⟩
        refine ⟨r, _, rfl, SqL.of upd_same, fun r2 hr2 => ?_⟩
        rw [← List.map_reverse]
        have wr : wl ≠ r := ne_of_none hw3 hr0
        have hw4 : (upd H3 r (.lst (zs.map V.ref))) wl = some (.lst (us'.map V.ref)) := by rw [upd_ne wr]; exact hw3
        have wr2 : wl ≠ r2 := ne_of_none hw4 hr2
        have hw5 : (upd (upd H3 r (.lst (zs.map V.ref))) r2 (.lst (zs.reverse.map V.ref))) wl = some (.lst (us'.map V.ref)) := by rw [upd_ne wr2]; exact hw4
        have al : (args h p k).length = k := by unfold args; rw [List.length_map, List.length_range]
        have sm5 : Same H3 (upd (upd H3 r (.lst (zs.map V.ref))) r2 (.lst (zs.reverse.map V.ref))) := (same_new hr0).trans (same_new hr2)
        refine ⟨wl, r2, _, _, rfl, rfl, hw5, upd_same, ?_, ?_⟩
        · rw [List.length_map, List.length_map, List.length_reverse, hzs.length, hus3.length, al]
          rw [List.length_append, List.length_reverse, al] at few
          exact small_line' (by omega)
        · rw [← List.map_append]
          have tu6 : Tups H3 (upd (upd (upd H3 r (.lst (zs.map V.ref))) r2 (.lst (zs.reverse.map V.ref))) wl (.lst ((us' ++ zs.reverse).map V.ref))) := (Tups.of_same sm5).trans (Tups.lst hw5)
          refine ⟨501 - (ps ++ [look h c1]).length, by rw [List.length_append, List.length_singleton]; omega, us' ++ zs.reverse, ps ++ [look h c1], ws' ++ (args h p k).reverse, vs ++ [t2], _, rfl, same_put (sm3.trans sm5) hwl0, upd_same, (hus3.append hzs.reverse).keep tu6, ?_, hvs3.keep tu6, teN, pl, rfl⟩
          rw [upd_ne yw]
          exact sm5 _ _ hy3
      · refine ifF (decF es) ?_
        refine ⟨501 - (ps ++ [look h c1]).length, by rw [List.length_append, List.length_singleton]; omega, us', ps ++ [look h c1], ws', vs ++ [t2], _, rfl, sm3, hw3, hus3, hy3, hvs3, te.flat (fun p z => es (by rw [z]; rfl)), pl, rfl⟩
    · exact ifF (decide_eq_false (by omega)) ⟨_, rfl, stop (.inr (by omega))⟩

/-! variable_numbers -/
def keyR (a : Nat) : List Key := [Sum.inl 0, Sum.inl (a : Int)]
def numE (names : List Nat) : List (List Key × V) := names.zipIdx.map fun x => (keyR x.1, V.int (x.2 : Int))
theorem numE_snoc {names : List Nat} {a : Nat} : numE (names ++ [a]) = numE names ++ [(keyR a, V.int (names.length : Int))] := by
  unfold numE
  rw [List.zipIdx_append, List.map_append]
  simp
theorem keyR_inj {a b : Nat} (e : keyR a = keyR b) : a = b := by
  have := Sum.inl.inj (List.cons.inj (List.cons.inj e).2).1
  exact Int.ofNat.inj this
theorem numE_val {a : Nat} (names : List Nat) : valV (numE names) (keyR a) = if a ∈ names then some (V.int ((names.findIdx fun m => m == a : Nat) : Int)) else none := by
  suffices ∀ (r : List Nat), valV (numE r.reverse) (keyR a) = if a ∈ r.reverse then some (V.int ((r.reverse.findIdx fun m => m == a : Nat) : Int)) else none by
    have := this names.reverse
    simpa using this
  intro r
  induction r with
  | nil => rfl
  | cons x r ih =>
    rw [List.reverse_cons, numE_snoc]
    generalize r.reverse = l at ih
    by_cases m : a ∈ l
    · rw [if_pos m] at ih
      rw [if_pos (List.mem_append_left _ m), findIdx_app m]
      unfold valV at ih ⊢
      rw [List.find?_append]
      cases e : (numE l).find? fun kv => decide (kv.1 = keyR a) with
      | none => rw [e] at ih; cases ih
      | some z => rw [e] at ih; rw [Option.some_or]; exact ih
    · rw [if_neg m] at ih
      by_cases xa : x = a
      · subst xa
        rw [if_pos (by simp), findIdx_end m, valV_snoc _ _ _ _ ih, if_pos rfl]
      · rw [if_neg (by simp; exact ⟨m, fun z => xa z.symm⟩)]
        unfold valV at ih ⊢
        rw [List.find?_append]
        cases e : (numE l).find? fun kv => decide (kv.1 = keyR a) with
        | some z => rw [e] at ih; cases ih
        | none =>
          rw [Option.none_or, List.find?_cons]
          have : decide (keyR x = keyR a) = false := decide_eq_false fun z => xa (keyR_inj z)
          rw [this]
          rfl
theorem final_cases {h : Lg04.Heap} {c : Cell} (f : Final h c) : (∃ a, c = .ref a) ∨ (∃ s, c = .con s) ∨ ∃ p, c = .str p := by
  cases c with
  | ref a => exact .inl ⟨a, rfl⟩
  | con s => exact .inr (.inl ⟨s, rfl⟩)
  | str p => exact .inr (.inr ⟨p, rfl⟩)
  | head s k => exact f.elim
theorem numE_len {names : List Nat} : (numE names).length = names.length := by unfold numE; rw [List.length_map, List.length_zipIdx]
theorem varsT_len (T : List Tok) : (varsT T).length ≤ T.length := List.length_filterMap_le _ _
theorem once_len (l : List Nat) : (once l).length ≤ l.length := by
  suffices ∀ (r : List Nat), (once r.reverse).length ≤ r.length by
    have := this l.reverse
    simpa using this
  intro r
  induction r with
  | nil => exact Nat.le_refl _
  | cons x r ih =>
    rw [List.reverse_cons, once_snoc]
    split
    · rw [List.length_cons]; omega
    · rw [List.length_append, List.length_singleton, List.length_cons]; omega

abbrev sVN : Stmt := top 52
theorem scVN : FnScope ["parts", "numbers", "cell"] ["parts"] (defScope sVN) := ⟨rfl, rfl, rfl, by decide +kernel, rfl, by decide +kernel, by decide +kernel⟩
def spVN : Sp := fun vs H Q _ => ∃ (y : Addr) (ts : List Addr) (ps : List Cell) (h : Lg04.Heap), vs = [.ref y] ∧ H y = some (.lst (ts.map V.ref)) ∧ Cells H ts ps ∧ (∀ c, c ∈ ps → Good h c ∧ Final h c) ∧ ps.length ≤ 20000 ∧
  ∀ H' d, Same H H' → H d = none → H' d = some (.dT (numE (once (varsT (ps.map (tokOf h)))))) → Q (.ref d) H'
theorem ok_vn {f : Addr} {fd : FuncData} (D : Dn K mg "variable_numbers" sVN ["parts"] f fd) (T : Txt K mg) (len : mg "len" = none) : FnOk P w K mg base CX0 1 f fd ["parts"] spVN := by
  refine D.F.ok scVN (fun vs H Q E h => ?_) (fun cdv A outer s H vs Q E hr h => ?_)
  · obtain ⟨y, ts, ps, h, rfl, _⟩ := h
    rfl
  · obtain ⟨y, ts, ps, h, rfl, hy, hps, fin, few, q⟩ := h
    obtain ⟨tp, mgp⟩ := T.place
    refine ⟨_, pss_cons (ps_set (i := 1) scVN.nd rfl (Or.inl rfl) pe_dnewT)
      (pss_cons (ps_for PassesOwn.never rfl (pi_list (pv 0)) (pg_name (i := 2) scVN.nd rfl (Or.inl rfl))
        (pss_one (ps_if (PW.pt (pw_and (pt_cmpR op_eq (pe_ix ix_tup (pv 2) pe_int (fun _ _ => rfl)) (pe_glob (v := .int 0) rfl mgp ⟨_, rfl⟩) (nomark _)) (pw_and1 (pt_cmp (pc_dnotin (hu_of hr) (pv 2) (pv 1))))))
          (pss_one (ps_dput (hu_of hr) (pv 1) (pv 2) (pe_callB call_len_dT (by rfl) len PySem.boot_len (pa_cons (pv 1) pa_nil)) rfl)) pss_nil)))
      (pss_one (ps_ret (pv 1)))), ?_⟩
    intro d hd
    have sm0 : Same H (upd H d (.dT [])) := same_new hd
    refine ⟨_, rfl, y, rfl, ⟨_, SqL.of (sm0 _ _ hy)⟩, for_list (K := K) (a := y) (xs := ts.map V.ref) (fun n σ H' => ∃ v2, σ = [some (.ref y), some (.ref d), v2] ∧ Same H H' ∧ H' d = some (.dT (numE (once (varsT ((ps.take n).map (tokOf h)))))))
      ⟨none, rfl, sm0, upd_same⟩ (fun n σ H' _ ⟨_, _, z, _⟩ => SqL.of (z _ _ hy)) ?_ ?_⟩
    · rintro n x σ H1 en ⟨v2, rfl, sm, hd1⟩
      obtain ⟨tc, et, rfl⟩ := refs_at en
      obtain ⟨c, ec, hc⟩ := hps.at_ et
      have hc1 := hc.keep (.of_same sm)
      obtain ⟨gc, fc⟩ := fin c (List.mem_of_getElem? ec)
      refine ⟨_, rfl, tc, _, _, _, rfl, rfl, SqT.of hc1, enc0, rfl, _, rfl, ?_⟩
      rw [take_snoc ec, List.map_append, List.map_singleton, varsT_app]
      by_cases e0 : n1 c = 0
      · refine ifT (decT e0) ?_
        obtain ⟨a, rfl⟩ := of_n1_zero e0
        have ev : varsT [tokOf h (.ref a)] = [a] := rfl
        rw [ev]
        generalize eN : varsT ((ps.take n).map (tokOf h)) = N at hd1
        have hk : H1 tc = some (.tup ((keyR a).map kV)) := hc1
        refine ⟨_, rfl, _, rfl, d, _, rfl, DGet.t hd1 hk, _, rfl, ?_⟩
        rw [numE_val, once_snoc]
        by_cases m : a ∈ once N
        · rw [if_pos m, if_pos m]
          exact iteF ⟨_, rfl, sm, hd1⟩
        · rw [if_neg m, if_neg m]
          refine iteT ?_
          have ll : (numE (once N)).length < sizeLine := by
            rw [numE_len]
            have h1 := once_len N
            have h2 := varsT_len ((ps.take n).map (tokOf h))
            rw [eN, List.length_map, List.length_take] at h2
            exact small_line (by omega)
          refine ⟨_, rfl, d, _, rfl, hd1, _, rfl, _, rfl, d, _, rfl, DPut.t hd1 hk ll, ?_⟩
          refine ⟨_, rfl, same_put sm hd, ?_⟩
          rw [upd_same, putK_new _ (by rw [numE_val, if_neg m]), numE_snoc, numE_len]
      · refine ifF (decF e0) (iteF ?_)
        refine ⟨_, rfl, sm, ?_⟩
        have ev : varsT [tokOf h c] = [] := by
          rcases final_cases fc with ⟨a, rfl⟩ | ⟨s, rfl⟩ | ⟨p, rfl⟩
          · exact absurd rfl e0
          · rfl
          · obtain ⟨sy, k, eh, _⟩ := gc.parts
            have : tokOf h (.str p) = .sym sy k := by
              show (match cellAt h p with
                | .head s k => Tok.sym s k
                | _ => .sym 0 0) = _
              rw [eh]
            rw [this]
            rfl
        rw [ev, List.append_nil]
        exact hd1
    · rintro σ H1 ⟨v2, rfl, sm, hd1⟩
      rw [List.length_map, hps.length, List.take_length] at hd1
      exact ⟨_, rfl, q H1 d sm hd hd1⟩
end
end Sw
namespace Sw
open PySem PySem.Spec PyProof.Rows
open L2 hiding Walk
open Lg04 (Cell cellAt look within unify same)

def encI (names : List Nat) (t : Tok) : List Int := (encT names t).map fun (n : Nat) => (n : Int)
theorem encI_len (names : List Nat) (t : Tok) : (encI names t).length = 2 := by
  unfold encI
  cases t <;> rfl
theorem encI_flat (names : List Nat) (T : List Tok) : (T.flatMap (encT names)).map (fun (n : Nat) => (n : Int)) = T.flatMap (encI names) := by
  induction T with
  | nil => rfl
  | cons t T ih => rw [List.flatMap_cons, List.flatMap_cons, List.map_append, ih]; rfl
theorem tok_str {h : Lg04.Heap} {p s k : Nat} (e : cellAt h p = .head s k) : tokOf h (.str p) = .sym s k := by
  show (match cellAt h p with
    | .head s k => Tok.sym s k
    | _ => .sym 0 0) = _
  rw [e]
theorem vars_in {h : Lg04.Heap} {ps : List Cell} {a : Nat} (m : Cell.ref a ∈ ps) : a ∈ once (varsT (ps.map (tokOf h))) := by
  refine mem_once _ a ?_
  unfold varsT
  rw [List.mem_filterMap]
  exact ⟨.var a, List.mem_map.mpr ⟨_, m, rfl⟩, rfl⟩
theorem answer_some {h : Lg04.Heap} {cs : List Cell} {ts : List Lg01.Term} (x : Tms h cs ts) (g : ∀ c, c ∈ cs → Good h c) (s : ∀ t, t ∈ ts → Lg01.size t ≤ 500) : cs.mapM (Lg04.termOf h) = some ts := by
  induction x with
  | nil => rfl
  | @cons c t cs ts a _ ih =>
    rw [List.mapM_cons, termOf_eq (g c (.head _)) a, if_pos (s t (.head _)), ih (fun d m => g d (.tail _ m)) (fun u m => s u (.tail _ m))]
    rfl
theorem answer_none {h : Lg04.Heap} {cs : List Cell} {ts : List Lg01.Term} (x : Tms h cs ts) (g : ∀ c, c ∈ cs → Good h c) {t : Lg01.Term} (mt : t ∈ ts) (s : ¬ Lg01.size t ≤ 500) : cs.mapM (Lg04.termOf h) = none := by
  induction x with
  | nil => cases mt
  | @cons c u cs ts a _ ih =>
    rw [List.mapM_cons, termOf_eq (g c (.head _)) a]
    by_cases q : Lg01.size u ≤ 500
    · rw [if_pos q]
      cases mt with
      | head => exact absurd q s
      | tail _ mt =>
        rw [ih (fun d m => g d (.tail _ m)) mt]
        rfl
    · rw [if_neg q]
      rfl
theorem Tms.length {h : Lg04.Heap} {cs : List Cell} {ts : List Lg01.Term} (x : Tms h cs ts) : cs.length = ts.length := by
  induction x with
  | nil => rfl
  | cons _ _ ih => rw [List.length_cons, List.length_cons, ih]
theorem Tms.get {h : Lg04.Heap} {cs : List Cell} {ts : List Lg01.Term} (x : Tms h cs ts) : ∀ {n : Nat} {c : Cell}, cs[n]? = some c → ∃ t, ts[n]? = some t ∧ Tm h c t := by
  induction x with
  | nil => intro n c e; simp at e
  | cons a _ ih =>
    intro n c e
    match n, e with
    | 0, e =>
      cases (Option.some.inj e)
      exact ⟨_, rfl, a⟩
    | n + 1, e => exact ih e
theorem Tms.proper {h : Lg04.Heap} {cs : List Cell} {ts : List Lg01.Term} (x : Tms h cs ts) : ∀ t, t ∈ ts → Lg01.proper t = true := by
  induction x with
  | nil => intro t m; cases m
  | cons a _ ih =>
    intro t m
    cases m with
    | head => exact a.proper
    | tail _ m => exact ih t m
theorem step_value_ref {m : Lg04.M} {l : List Nat} (h : ¬ refCode m l (decide ((l.length : Int) > 16)) l = 0) : Lg06.step m (.value l) = (m, [refCode m l (decide ((l.length : Int) > 16)) l]) := by
  unfold Lg06.step
  dsimp only
  rcases ref_not h with ⟨a, e⟩ | ⟨a, b, e⟩ | ⟨a, b, x, e⟩
  · rw [if_pos a, e]
  · rw [if_neg (by rw [a]; decide), if_pos (by have := of_decide_eq_true b; omega), e]
  · rw [if_neg (by rw [a]; decide), if_neg (by have := of_decide_eq_false b; omega), e, mapM_none l x]

section
variable {P : Program} {w : World} {K : PySem.W.Frag} {mg : Str → Option Value} {base : PySem.Heap}
abbrev sRow : Stmt := top 53
theorem scRow : FnScope ["heap", "parts", "numbers", "told", "cell"] ["heap", "parts"] (defScope sRow) := ⟨rfl, rfl, rfl, by decide +kernel, rfl, by decide +kernel, by decide +kernel⟩
def spRow : Sp := fun vs H Q _ => ∃ (l y : Addr) (ts : List Addr) (ps : List Cell) (h : Lg04.Heap), vs = [.ref l, .ref y] ∧ HeapIs H l h ∧ H y = some (.lst (ts.map V.ref)) ∧ Cells H ts ps ∧ (∀ c, c ∈ ps → Good h c ∧ Final h c) ∧ ps.length ≤ 20000 ∧
  ∀ H' o, Same H H' → H o = none → H' o = some (.lst (((ps.map (tokOf h)).flatMap (encI (once (varsT (ps.map (tokOf h)))))).map V.int)) → Q (.ref o) H'
theorem ok_row {f fV fC : Addr} {fd fdV fdC : FuncData} (D : Dn K mg "rows" sRow ["heap", "parts"] f fd) (T : Txt K mg)
    (GV : FnOk P w K mg base CX0 1 fV fdV ["parts"] spVN) (DV : Dn K mg "variable_numbers" sVN ["parts"] fV fdV)
    (GC : FnOk P w K mg base CX0 1 fC fdC ["heap", "head_place"] spCount) (DC : Dn K mg "argument_count" sCount ["heap", "head_place"] fC fdC) : FnOk P w K mg base CX0 2 f fd ["heap", "parts"] spRow := by
  refine D.F.ok scRow (fun vs H Q E h => ?_) (fun cdv A outer s H vs Q E hr h => ?_)
  · obtain ⟨l, y, ts, ps, h, rfl, _⟩ := h
    rfl
  · obtain ⟨l, y, ts, ps, h, rfl, hh, hy, hps, fin, few, q⟩ := h
    obtain ⟨tp, mgp⟩ := T.place
    obtain ⟨tn, mgn⟩ := T.con
    refine ⟨_, pss_cons (ps_set (i := 2) scRow.nd rfl (Or.inl rfl) (pe_call GV hr rfl DV.m DV.F.kp DV.b .nil pass0 (pa_cons (pv 1) pa_nil)))
      (pss_cons (ps_set (i := 3) scRow.nd rfl (Or.inl rfl) (pe_lst pa_nil))
      (pss_cons (ps_for PassesOwn.never rfl (pi_list (pv 1)) (pg_name (i := 4) scRow.nd rfl (Or.inl rfl))
        (pss_one (ps_if (pt_cmpR op_eq (pe_ix ix_tup (pv 4) pe_int (fun _ _ => rfl)) (pe_glob (v := .int 0) rfl mgp ⟨_, rfl⟩) (nomark _))
          (pss_one (ps_expr (pe_bm PySem.F.plainAttrs_list PySem.F.slot_list_extend PySem.F.type_list_extend mt_extend (pv 3) (pa_cons (pe_lst (pa_cons pe_int (pa_cons (pe_dget (hu_of hr) (pv 2) (pv 4) (fun _ _ => rfl)) pa_nil))) pa_nil))))
          (pss_one (ps_if (pt_cmpR op_eq (pe_ix ix_tup (pv 4) pe_int (fun _ _ => rfl)) (pe_glob (v := .int 1) rfl mgn ⟨_, rfl⟩) (nomark _))
            (pss_one (ps_expr (pe_bm PySem.F.plainAttrs_list PySem.F.slot_list_extend PySem.F.type_list_extend mt_extend (pv 3) (pa_cons (pe_lst (pa_cons pe_int (pa_cons (pe_ix ix_tup (pv 4) pe_int (fun _ _ => rfl)) pa_nil))) pa_nil))))
            (pss_one (ps_expr (pe_bm PySem.F.plainAttrs_list PySem.F.slot_list_extend PySem.F.type_list_extend mt_extend (pv 3) (pa_cons (pe_lst (pa_cons (pe_op op_add (pe_call GC hr rfl DC.m DC.F.kp DC.b .nil pass0 (pa_cons (pv 0) (pa_cons (pe_ix ix_tup (pv 4) pe_int (fun _ _ => rfl)) pa_nil))) pe_int)
              (pa_cons (pe_ix ix_tup (pe_ix ix_list (pv 0) (pe_ix ix_tup (pv 4) pe_int (fun _ _ => rfl)) (fun _ _ => rfl)) pe_int (fun _ _ => rfl)) pa_nil))) pa_nil)))))))))
      (pss_one (ps_ret (pv 3))))), ?_⟩
    refine ⟨_, rfl, y, ts, ps, h, rfl, hy, hps, fin, few, fun H1 d sm1 nd hd1 => ?_⟩
    generalize eN : once (varsT (ps.map (tokOf h))) = N at hd1 q
    refine ⟨(by show 0 ≤ sizeLine; decide), fun o ho => ?_⟩
    have no : H o = none := sm1.free ho
    have sm2 : Same H (upd H1 o (.lst [])) := sm1.trans (same_new ho)
    have hd2 : (upd H1 o (.lst [])) d = some (.dT (numE N)) := same_new ho _ _ hd1
    have od : o ≠ d := Ne.symm (ne_of_none hd1 ho)
    refine ⟨_, rfl, y, rfl, ⟨_, SqL.of (sm2 _ _ hy)⟩, for_list (K := K) (a := y) (xs := ts.map V.ref) (fun n σ H' => ∃ v4, σ = [some (.ref l), some (.ref y), some (.ref d), some (.ref o), v4] ∧ Same H H' ∧ H' d = some (.dT (numE N)) ∧ H' o = some (.lst ((((ps.take n).map (tokOf h)).flatMap (encI N)).map V.int)))
      ⟨none, rfl, sm2, hd2, upd_same⟩ (fun n σ H' _ ⟨_, _, z, _⟩ => SqL.of (z _ _ hy)) ?_ ?_⟩
    · rintro n x σ H3 en ⟨v4, rfl, sm, hd3, ho3⟩
      obtain ⟨tc, et, rfl⟩ := refs_at en
      obtain ⟨c, ec, hc⟩ := hps.at_ et
      have hc1 := hc.keep (.of_same sm)
      have mc := List.mem_of_getElem? ec
      obtain ⟨gc, fc⟩ := fin c mc
      have ext : ∀ {H4 : Hp} {e : Addr} {a b : Int}, Same H3 H4 → H4 e = none → encI N (tokOf h c) = [a, b] →
          ∃ l' b' xs' zs', V.ref o = .ref l' ∧ [V.ref e] = [V.ref b'] ∧ (upd H4 e (.lst [.int a, .int b])) l' = some (.lst xs') ∧ (upd H4 e (.lst [.int a, .int b])) b' = some (.lst zs') ∧ xs'.length + zs'.length ≤ sizeLine ∧
            ∃ v4, [some (V.ref l), some (.ref y), some (.ref d), some (.ref o), some (.ref tc)] = [some (V.ref l), some (.ref y), some (.ref d), some (.ref o), v4] ∧ Same H (upd (upd H4 e (.lst [.int a, .int b])) l' (.lst (xs' ++ zs'))) ∧
              (upd (upd H4 e (.lst [.int a, .int b])) l' (.lst (xs' ++ zs'))) d = some (.dT (numE N)) ∧ (upd (upd H4 e (.lst [.int a, .int b])) l' (.lst (xs' ++ zs'))) o = some (.lst ((((ps.take (n + 1)).map (tokOf h)).flatMap (encI N)).map V.int)) := fun {H4 e a b} s4 ne ee => by
        have ho4 := s4 _ _ ho3
        have oe : o ≠ e := ne_of_none ho4 ne
        have de : d ≠ e := ne_of_none (s4 _ _ hd3) ne
        refine ⟨o, e, _, _, rfl, rfl, (by rw [upd_ne oe]; exact ho4), upd_same, ?_, _, rfl, same_put (same_put (sm.trans s4) ((sm.trans s4).free ne)) no, ?_, ?_⟩
        · rw [List.length_map, flat2 _ (encI_len N), List.length_map, List.length_take]
          exact small_line' (by show _ + 2 ≤ _; omega)
        · rw [upd_ne (Ne.symm od), upd_ne de]; exact s4 _ _ hd3
        · rw [upd_same, take_snoc ec, List.map_append, List.flatMap_append, List.map_append, List.map_singleton, List.flatMap_singleton, ee]
          rfl
      refine ⟨_, rfl, tc, _, _, _, rfl, rfl, SqT.of hc1, enc0, rfl, _, rfl, ?_⟩
      rcases final_cases fc with ⟨a, rfl⟩ | ⟨sy, rfl⟩ | ⟨p, rfl⟩
      · refine ifT (decT (by rfl)) ?_
        have hk : H3 tc = some (.tup ((keyR a).map kV)) := hc1
        have ma : a ∈ N := by rw [← eN]; exact vars_in mc
        have dg := DGet.t hd3 hk
        rw [numE_val, if_pos ma] at dg
        refine ⟨_, rfl, .inl ⟨rfl, _, SqL.of ho3⟩, _, rfl, _, rfl, d, _, rfl, dg, (by show 2 ≤ sizeLine; decide), fun e he => ?_⟩
        exact ext (.refl _) he rfl
      · refine ifF (decF (by show ¬ (1 : Int) = 0; decide)) ?_
        refine ⟨_, rfl, tc, _, _, _, rfl, rfl, SqT.of hc1, enc0, rfl, _, rfl, ?_⟩
        refine ifT (decT (by rfl)) ?_
        refine ⟨_, rfl, .inl ⟨rfl, _, SqL.of ho3⟩, _, rfl, tc, _, _, _, rfl, rfl, SqT.of hc1, enc1, (by show 2 ≤ sizeLine; decide), fun e he => ?_⟩
        exact ext (.refl _) he rfl
      · refine ifF (decF (by show ¬ (2 : Int) = 0; decide)) ?_
        refine ⟨_, rfl, tc, _, _, _, rfl, rfl, SqT.of hc1, enc0, rfl, _, rfl, ?_⟩
        refine ifF (decF (by show ¬ (2 : Int) = 1; decide)) ?_
        obtain ⟨sy, k, eh, l1, l4, lb, nf, ga⟩ := gc.parts
        obtain ⟨vs2, th, hv, hat, hth⟩ := (hh.same sm).item (a := p) (by omega)
        rw [eh] at hth
        refine ⟨_, rfl, .inl ⟨rfl, _, SqL.of ho3⟩, _, rfl, _, rfl, tc, _, _, _, rfl, rfl, SqT.of hc1, enc1, l, p, sy, k, h, rfl, hh.same sm, by omega, eh, _, _, rfl, rfl, _, rfl, _, rfl, tc, _, _, _, rfl, rfl, SqT.of hc1, enc1, l, vs2, _, _, rfl, rfl, SqL.of hv, hat, th, _, _, _, rfl, rfl, SqT.of hth, enc1, (by show 2 ≤ sizeLine; decide), fun e he => ?_⟩
        refine ext (.refl _) he ?_
        rw [tok_str eh]
        show [((k + 1 : Nat) : Int), (sy : Int)] = [(k : Int) + 1, (sy : Int)]
        rw [Int.natCast_add]
        rfl
    · rintro σ H3 ⟨v4, rfl, sm, hd3, ho3⟩
      rw [List.length_map, hps.length, List.take_length] at ho3
      exact ⟨_, rfl, q H3 o sm no ho3⟩

/-! value -/
abbrev sVal : Stmt := top 61
theorem scVal : FnScope ["machine", "registers", "refused", "parts", "r", "of_one"] ["machine", "registers"] (defScope sVal) := ⟨rfl, rfl, rfl, by decide +kernel, rfl, by decide +kernel, by decide +kernel⟩
def spVal (C CC : Addr) : Sp := fun vs H Q _ => ∃ (p y : Addr) (ow : List Addr) (m : Lg04.M) (rl : List Nat), vs = [.ref p, .ref y] ∧ MachW C CC H p ow m ∧ Inv m ∧ H y = some (.lst (nats rl)) ∧ rl.length ≤ 30 ∧ Does C CC p ow m (.value rl) H Q
theorem ok_val {C CC f fR fT fW : Addr} {fd fdR fdT fdW : FuncData} (D : Dn K mg "call_value" sVal ["machine", "registers"] f fd) (L : Cl K C CC) (T2 : Txt2 mg) (T4 : Txt4 mg) (len : mg "len" = none)
    (GR : FnOk P w K mg base CX0 1 fR fdR ["machine", "named", "out_of_bounds", "looked_at"] (spRef C CC)) (DR : Dn K mg "refusal" sRef ["machine", "named", "out_of_bounds", "looked_at"] fR fdR)
    (GT : FnOk P w K mg base CX0 3 fT fdT ["heap", "cell", "most"] spTP) (DT : Dn K mg "term_parts" sTP ["heap", "cell", "most"] fT fdT)
    (GW : FnOk P w K mg base CX0 2 fW fdW ["heap", "parts"] spRow) (DW : Dn K mg "rows" sRow ["heap", "parts"] fW fdW) : FnOk P w K mg base CX0 4 f fd ["machine", "registers"] (spVal C CC) := by
  refine D.F.ok scVal (fun vs H Q E h => ?_) (fun cdv A outer s H vs Q E hr h => ?_)
  · obtain ⟨p, y, ow, m, rl, rfl, _⟩ := h
    rfl
  · obtain ⟨p, y, ow, m, rl, rfl, ⟨dx, l, r, t, c, qs, gs, R, rfl⟩, I, hy, l30, d⟩ := h
    obtain ⟨tn, mgn⟩ := T2.ok
    obtain ⟨t1, mg1⟩ := T4.terms
    obtain ⟨t2, mg2⟩ := T4.size
    obtain ⟨t3, mg3⟩ := T4.large
    refine ⟨_, pss_cons (ps_set (i := 2) scVal.nd rfl (Or.inl rfl) (pe_call GR (hr.mono (by decide)) rfl DR.m DR.F.kp DR.b .nil pass0 (pa_cons (pv 0) (pa_cons (pv 1) (pa_cons (pe_cmpR op_gt (pe_callB call_len_seq (by rfl) len PySem.boot_len (pa_cons (pv 1) pa_nil)) (pe_glob (v := .int 16) rfl mg1 ⟨_, rfl⟩) (nomark _)) (pa_cons (pv 1) pa_nil))))))
      (pss_cons (ps_if (pt_cmpR op_ne (pv 2) (pe_glob (v := .int 0) rfl mgn ⟨_, rfl⟩) (nomark _)) (pss_one (ps_ret (pe_lst (pa_cons (pv 2) pa_nil)))) pss_nil)
      (pss_cons (ps_set (i := 3) scVal.nd rfl (Or.inl rfl) (pe_lst pa_nil))
      (pss_cons (ps_for PassesOwn.never rfl (pi_list (pv 1)) (pg_name (i := 4) scVal.nd rfl (Or.inl rfl))
        (pss_cons (ps_set (i := 5) scVal.nd rfl (Or.inl rfl) (pe_call GT hr rfl DT.m DT.F.kp DT.b .nil pass0 (pa_cons (pe_fld (pv 0) rfl) (pa_cons (pe_ix ix_list (pe_fld (pv 0) rfl) (pv 4) (fun _ _ => rfl)) (pa_cons (pe_glob (v := .int 500) rfl mg2 ⟨_, rfl⟩) pa_nil)))))
        (pss_cons (ps_if (pt_cmpR op_gt (pe_callB call_len_seq (by rfl) len PySem.boot_len (pa_cons (pv 5) pa_nil)) (pe_glob (v := .int 500) rfl mg2 ⟨_, rfl⟩) (nomark _)) (pss_one (ps_ret (pe_lst (pa_cons (pe_glob (v := .int (-5)) rfl mg3 ⟨_, rfl⟩) pa_nil)))) pss_nil)
        (pss_one (ps_expr (pe_bm PySem.F.plainAttrs_list PySem.F.slot_list_extend PySem.F.type_list_extend mt_extend (pv 3) (pa_cons (pv 5) pa_nil)))))))
      (pss_one (ps_ret (pe_op op_cat (pe_lst (pa_cons pe_int pa_nil)) (pe_call GW (hr.mono (by decide)) rfl DW.m DW.F.kp DW.b .nil pass0 (pa_cons (pe_fld (pv 0) rfl) (pa_cons (pv 3) pa_nil))))))))), ?_⟩
    refine ⟨_, rfl, _, rfl, _, rfl, y, _, rfl, .inl (SqL.of hy), _, _, rfl, rfl, _, rfl, ?_⟩
    rw [nats_len]
    refine ⟨p, dx, l, r, t, c, y, y, qs, gs, m, rl, rl, _, rfl, R, I.regs.1, hy, hy, (fun x mx => mx), by omega, by omega, fun H2 sm => ?_⟩
    have R2 := R.same sm
    refine ⟨_, rfl, rfl, _, rfl, ?_⟩
    by_cases z : refCode m rl (decide ((rl.length : Int) > 16)) rl = 0
    · obtain ⟨z1, z2, z3⟩ := ref_zero z
      have l16 : rl.length ≤ 16 := by have := of_decide_eq_false z2; omega
      obtain ⟨cs, ecs, lcs, gcs⟩ := mapM_some rl z3
      have good : ∀ c, c ∈ cs → Good m.heap c := fun x mx => by
        obtain ⟨i, ei⟩ := List.mem_iff_getElem?.mp mx
        have li : i < rl.length := by
          rcases Nat.lt_or_ge i cs.length with h | h
          · omega
          · rw [List.getElem?_eq_none h] at ei; cases ei
        obtain ⟨v, ev, ec⟩ := gcs i rl[i] (List.getElem?_eq_getElem li)
        rw [ei] at ev
        cases ev
        exact regs_cell I.regs ec
      obtain ⟨tms, htms⟩ := tms_ex cs good
      have al : rl.all Lg06.isReg = true := List.all_eq_true.mpr fun x mx => isReg_iff.mpr (z1 x mx)
      have st : ∀ o, cs.mapM (Lg04.termOf m.heap) = o → Lg06.step m (.value rl) = (m, match o with
          | none => [-5]
          | some ts => 0 :: Lg06.ints (Lg04.rowsOf ts)) := fun o eo => by
        unfold Lg06.step
        dsimp only
        rw [if_neg (by rw [al]; decide), if_neg (by omega), ecs]
        show (m, match Lg04.answerOf m cs with
          | none => [-5]
          | some ts => 0 :: Lg06.ints (Lg04.rowsOf ts)) = _
        unfold Lg04.answerOf
        rw [eo]
      refine ifF (neF z) ?_
      refine ⟨(by show 0 ≤ sizeLine; decide), fun o ho => ?_⟩
      have no : H o = none := sm.free ho
      have sm3 : Same H2 (upd H2 o (.lst [])) := same_new ho
      have hy2 := sm _ _ hy
      refine ⟨_, rfl, y, rfl, ⟨_, SqL.of (sm3 _ _ hy2)⟩, for_list (K := K) (a := y) (xs := nats rl) (fun n σ H' => ∃ v4 v5 us ps, σ = [some (.ref p), some (.ref y), some (.int (refCode m rl (decide ((rl.length : Int) > 16)) rl)), some (.ref o), v4, v5] ∧ Same H2 H' ∧ H' o = some (.lst (us.map V.ref)) ∧ Cells H' us ps ∧
          (∀ c, c ∈ ps → Good m.heap c ∧ Final m.heap c) ∧ ps.length ≤ 500 * n ∧ ps.map (tokOf m.heap) = (tms.take n).flatMap toks ∧ ∀ u, u ∈ tms.take n → Lg01.size u ≤ 500)
        ⟨none, none, [], [], rfl, sm3, upd_same, .nil, (fun c mc => by cases mc), by simp, rfl, fun u mu => by cases mu⟩ (fun n σ H' _ ⟨_, _, _, _, _, q, _⟩ => SqL.of (q _ _ hy2)) ?_ ?_⟩
      · rintro n x σ H3 en ⟨v4, v5, us, ps, rfl, sm4, ho3, hus, fin, lps, etk, sz⟩
        obtain ⟨k, ek, rfl⟩ := nats_at en
        have mk : k ∈ rl := List.mem_of_getElem? ek
        have ln : n < rl.length := by
          rcases Nat.lt_or_ge n rl.length with h | h
          · exact h
          · rw [List.getElem?_eq_none h] at ek; cases ek
        obtain ⟨v, ecv, ev⟩ := gcs n k ek
        obtain ⟨tv, etv, htv⟩ := htms.get ecv
        have R3 := R2.same sm4
        obtain ⟨vr, hvr, rvr⟩ := R3.regs
        rcases reg_at rvr I.regs.1 (z1 k mk) with ⟨_, e2⟩ | ⟨tc, x', ea, e2, hc⟩
        · rw [ev] at e2; cases e2
        rw [ev] at e2
        cases e2
        refine ⟨_, rfl, p, C, dx, _, _, rfl, R3.ins, L.cl, L.nh, mf_heap, _, rfl, p, C, dx, _, _, rfl, R3.ins, L.cl, L.nr, mf_regs, _, rfl, r, _, _, _, rfl, rfl, SqL.of hvr, ea, l, tc, m.heap, v, tv, rfl, R3.heap, hc, good v (List.mem_of_getElem? ecv), htv, fun H4 e ts1 ps1 sm5 ne he4 hts1 fin1 l501 tk1 szi => ?_⟩
        refine ⟨_, rfl, e, _, rfl, .inl (SqL.of he4), _, _, rfl, rfl, _, rfl, ?_⟩
        rw [List.length_map, hts1.length]
        by_cases l5 : ps1.length ≤ 500
        · refine ifF (decide_eq_false (by omega)) ?_
          have ho4 := sm5 _ _ ho3
          refine ⟨_, rfl, .inl ⟨rfl, _, SqL.of ho4⟩, _, rfl, o, e, _, _, rfl, rfl, ho4, he4, ?_, ?_⟩
          · rw [List.length_map, List.length_map, hts1.length, hus.length]
            exact small_line' (by omega)
          · rw [← List.map_append]
            have tu : Tups H4 (upd H4 o (.lst ((us ++ ts1).map V.ref))) := Tups.lst ho4
            refine ⟨_, _, us ++ ts1, ps ++ ps1, rfl, same_put (sm4.trans sm5) ho, upd_same, ((hus.keep (.of_same sm5)).append hts1).keep tu, fun u mu => ?_, by rw [List.length_append]; omega, ?_, fun u mu => ?_⟩
            · rcases List.mem_append.mp mu with mu | mu
              · exact fin u mu
              · exact fin1 u mu
            · rw [List.map_append, etk, take_snoc etv, List.flatMap_append, List.flatMap_singleton, tk1 l5]
            · rw [take_snoc etv] at mu
              rcases List.mem_append.mp mu with mu | mu
              · exact sz u mu
              · simp at mu; subst mu; exact szi.mp l5
        · refine ifT (decide_eq_true (by omega)) ⟨(by show 1 ≤ sizeLine; decide), fun q hq => ?_⟩
          have smA := (sm.trans sm4).trans sm5
          refine d.read R (H' := upd H4 q (.lst [.int (-5)])) (zs := [-5]) ?_ (smA.trans (same_new hq)) (smA.free hq) upd_same
          rw [st none (answer_none htms good (List.mem_of_getElem? etv) (fun z => l5 (szi.mpr z)))]
      · rintro σ H3 ⟨v4, v5, us, ps, rfl, sm4, ho3, hus, fin, lps, etk, sz⟩
        have R3 := R2.same sm4
        have ltm : tms.length = rl.length := by rw [← htms.length, lcs]
        rw [nats_len, List.take_of_length_le (by omega)] at etk sz
        rw [nats_len] at lps
        refine ⟨(by show 1 ≤ sizeLine; decide), fun n0 hn0 => ?_⟩
        have sm5 : Same H3 (upd H3 n0 (.lst [.int 0])) := same_new hn0
        have h05 : (upd H3 n0 (.lst [.int 0])) n0 = some (.lst [.int 0]) := upd_same
        generalize upd H3 n0 (.lst [.int 0]) = H4 at sm5 h05
        have R4 := R3.same sm5
        refine ⟨_, rfl, p, C, dx, _, _, rfl, R4.ins, L.cl, L.nh, mf_heap, _, rfl, l, o, us, ps, m.heap, rfl, R4.heap, sm5 _ _ ho3, hus.keep (.of_same sm5), fin, by omega, fun H5 b sm6 nb hb => ?_⟩
        refine ⟨n0, b, _, _, rfl, rfl, sm6 _ _ h05, hb, ?_, fun q hq => ?_⟩
        · rw [List.length_map, flat2 _ (encI_len _), List.length_map]
          exact small_line' (by show 1 + _ ≤ _; omega)
        · have smA := ((sm.trans sm4).trans sm5).trans sm6
          refine d.read R (H' := upd H5 q _) (zs := 0 :: Lg06.ints (Lg04.rowsOf tms)) ?_ (smA.trans (same_new hq)) (smA.free hq) ?_
          · rw [st (some tms) (answer_some htms good sz)]
          · rw [upd_same, rowsOf_eq htms.proper, numbered_eq, ← etk]
            show _ = some (HO.lst ((0 :: ((ps.map (tokOf m.heap)).flatMap (encT _)).map (fun (n : Nat) => (n : Int))).map V.int))
            rw [encI_flat]
            rfl
    · exact ifT (neT z) ⟨_, rfl, (by show 1 ≤ sizeLine; decide), fun q hq => d.fin R2 (step_value_ref z) (fun b mb => .inl mb) (But.of_same sm) hq rfl⟩
end
end Sw
namespace Sw
open PySem PySem.Spec PyProof.Rows
open L2 hiding Walk
open Lg04 (Cell cellAt look within unify same)

/-! d.update(e), sorted(d) of dicts with whole numbers as keys. -/
def rUpd : V → List V → Hp → VK → Prop := fun x vs H Q => ∃ (a b : Addr) (kvs more : List (Key × V)), x = .ref a ∧ vs = [.ref b] ∧ a ≠ b ∧ H a = some (.dK kvs) ∧ H b = some (.dK more) ∧ kvs.length + more.length ≤ sizeLine ∧ Q .non (upd H a (.dK (mergeK kvs more)))
theorem mt_upd {X : Cx} : MtR X "dict.update" rUpd := by
  intro pn sh sg HH xx ws vv us QQ inv rx rv hw
  obtain ⟨a, b, kvs, more, rfl, rfl, nab, ha, hb, lz, q⟩ := hw
  obtain rfl : vv = Value.ref a := rx
  obtain ⟨ub, rfl, rb⟩ := rv.one
  obtain rfl : ub = Value.ref b := rb
  obtain ⟨_, sa, va, ka, da⟩ := dk_of inv.hok ha
  obtain ⟨_, sb, vb, kb, db⟩ := dk_of inv.hok hb
  refine call_meetsIn PySem.F.slot_dict_update da.typeIs PySem.F.entry_dict_update (PySem.F.args_dict_update_2 _ _) (meets_dict_update (mixKind X.prog X.w) a b nab sb) ⟨va, vb, da, db, by rw [← ka.length, ← kb.length]; exact lz, fun hn d1 _ hs => ?_⟩
  have there : ∃ o, hn.get? a = some o := let ⟨o, _, _, ho, _⟩ := d1; ⟨o, ho⟩
  exact ⟨.non, _, d_write inv (by rw [ha]; exact True.intro) hs there (dk_new (Nat.le_trans (length_mergeK more kvs) lz) sa (KV.merge kb ka) d1), rfl, q⟩

def rSortD : List V → Hp → VK → Prop := fun vs H Q => ∃ (a : Addr) (ks : List Nat), vs = [.ref a] ∧ H a = some (.dK (entries ks)) ∧ ∀ (ys : List Int) (p : Addr), ys.Perm (ks.map fun (n : Nat) => (n : Int)) → ys.Pairwise (· ≤ ·) → H p = none → Q (.ref p) (upd H p (.lst (ys.map V.int)))
theorem cr_sortD {X : Cx} (calm : X.calm = true) : CallR X (.builtin "sorted") rSortD := by
  intro pn sh sg HH ws us QQ inv rr hw
  obtain ⟨a, ks, rfl, ha, q⟩ := hw
  obtain ⟨ua, rfl, ra⟩ := vals1 rr
  cases ra
  obtain ⟨lz, sa, va, ka, da⟩ := dk_of inv.hok ha
  obtain ⟨ep, dat⟩ := da.dictAt
  have keys : va.map (·.1) = (ks.map fun (n : Nat) => (n : Int)).map Sum.inl := by
    rw [← ka.keys]
    unfold entries
    rw [List.map_map, List.map_map]
    rfl
  have vl : va.length = ks.length := by
    have := congrArg List.length keys
    simpa using this
  have kl : va.length ≤ sizeLine := by rw [← ka.length]; exact lz
  refine Calls.call_function_entry kind_sorted plain_sorted entry_sorted (args_sorted1 _) (?_ : wpAny _ _ _ _ _ _)
  unfold Builtin.«sorted»
  refine wpAny_bind (m := checkCount "sorted" 1 1 _) (wpAny_pure (wpAny_bind (PySem.W.kdu_collect (A := X.A.in1) (PySem.W.kdl_dict (knd := mixKind X.prog X.w) (kvs := va) (ep := ep) sa) (inv.ok.hd calm) dat kl fun hn tk got hk hgot => ?_)))
  have gl : got.toList.length = (ks.map fun (n : Nat) => (n : Int)).length := by rw [Array.length_toList, hgot.1, vl, List.length_map]
  have areInts : IntsAre got.toList (ks.map fun (n : Nat) => (n : Int)) := ints_each gl fun j u eu => by
    obtain ⟨k, x, e1, e2⟩ := hgot.2 j u (by rw [← Array.getElem?_toList]; exact eu)
    have ek : (va.map (·.1))[j]? = some k := by rw [List.getElem?_map, e1]; rfl
    rw [keys, List.getElem?_map] at ek
    cases en : (ks.map fun (n : Nat) => (n : Int))[j]? with
    | none => rw [en] at ek; cases ek
    | some n =>
      rw [en] at ek
      obtain rfl : Sum.inl n = k := Option.some.inj ek
      rcases keyIs_shape (show keyIs (Sum.inl n) u = true from e2) with ⟨i, t, ei, ev⟩ | ⟨i, t, ei, ev⟩
      · cases ei; exact ⟨n, t, rfl, ev⟩
      · cases ei
  have inv1 : L2.Inv X pn sg HH { sh with heap := hn, toks := tk } := inv.kept hk
  have glz : got.toList.length ≤ sizeLine := by rw [gl, List.length_map, ← vl]; exact kl
  refine wpAny_bind (wpAny_newList ?_ glz)
  have laid : (hn.push (seqObj "list" got.toList.toArray 0)).get? hn.objs.size = some (seqObj "list" got.toList.toArray 0) := Heap.get?_push_size _ rfl
  show wpAny _ _ _ _ _ { sh with heap := hn.push (seqObj "list" got.toList.toArray 0), toks := tk }
  refine wpAny_bind (wpAny_holding (wpAny_call_entry slot_list_sort ⟨_, laid, rfl⟩ entry_list_sort
    (SrtO.list_sort_ord (s := { sh with heap := hn.push (seqObj "list" got.toList.toArray 0), toks := tk }) SrtO.swo_int laid glz (fun two => SrtO.ints_sortable areInts two) fun out h1 h2 => ⟨.none, rfl, ?_⟩) (args_list_sort _)))
  obtain ⟨k1, k2, k3⟩ := SrtO.ints_out areInts h1 h2
  obtain ⟨eq, here⟩ := sortedHeap_at (vs := got.toList) (out := out.toArray) laid
  have ol : ((out.map SrtO.iv).map V.int).length ≤ sizeLine := by rw [List.length_map, k2.length_eq, ← gl]; exact glz
  refine wpAny_pure ⟨_, rfl, .ref hn.objs.size, upd HH hn.objs.size (.lst ((out.map SrtO.iv).map V.int)), inv1.laid (t' := tk) (fun b u stood => ?_) (Nat.le_refl _) ⟨ol, out, eq, vals_of_ints k1, here⟩, rfl, q _ _ k2 k3 (inv1.hok.fresh (Nat.le_refl _))⟩
  have bl : b < hn.objs.size := Heap.lt_size stood
  rw [sortedHeap_old (Nat.ne_of_lt bl) (by rw [size_push']; exact Nat.lt_succ_of_lt bl)]
  exact Heap.get?_push_of_some _ stood

/-- the places of both -/
theorem merge_entries : ∀ (T S : List Nat), S.Nodup → ∃ U, mergeK (entries S) (entries T) = entries U ∧ U.Nodup ∧ ∀ a, a ∈ U ↔ a ∈ S ∨ a ∈ T
  | [], S, nd => ⟨S, rfl, nd, fun a => by simp⟩
  | x :: T, S, nd => by
    have step : mergeK (entries S) (entries (x :: T)) = mergeK (putK (entries S) (Sum.inl (x : Int)) (.bl true)) (entries T) := rfl
    by_cases m : x ∈ S
    · have same : putK (entries S) (Sum.inl (x : Int)) (.bl true) = entries S := by
        unfold putK
        rw [valV_any, entries_val, if_pos m]
        rw [if_pos (show (some (V.bl true)).isSome = true from rfl)]
        have : ∀ kv, kv ∈ entries S → (if kv.1 = Sum.inl (x : Int) then (kv.1, V.bl true) else kv) = kv := by
          intro kv mk
          unfold entries at mk
          obtain ⟨n, _, rfl⟩ := List.mem_map.mp mk
          split <;> rfl
        rw [List.map_congr_left this]
        exact List.map_id' _
      obtain ⟨U, e, n2, h⟩ := merge_entries T S nd
      refine ⟨U, by rw [step, same, e], n2, fun a => ?_⟩
      rw [h a, List.mem_cons]
      constructor
      · rintro (z | z)
        · exact .inl z
        · exact .inr (.inr z)
      · rintro (z | z | z)
        · exact .inl z
        · exact .inl (by rw [z]; exact m)
        · exact .inr z
    · obtain ⟨U, e, n2, h⟩ := merge_entries T (S ++ [x]) (by
        rw [List.nodup_append]
        exact ⟨nd, by simp, fun a ma b mb => by simp at mb; subst mb; intro z; subst z; exact m ma⟩)
      refine ⟨U, by rw [step, entries_put m, e], n2, fun a => ?_⟩
      rw [h a, List.mem_append, List.mem_singleton, or_assoc, List.mem_cons]
end Sw
namespace Sw
open PySem PySem.Spec PyProof.Rows
open L2 hiding Walk
open Lg04 (Cell cellAt look within unify same)

theorem same_dput {H H' : Hp} {d : Addr} {o : HO} (s : Same H H') (n : H d = none) : Same H (upd H' d o) := same_put s n
theorem rvals_some {H : Hp} {vs : List V} {rs : List (Option Lg04.Value)} (x : RVals H vs rs) {n : Nat} {v : V} (e : vs[n]? = some v) :
    (v = .non ∧ rs[n]? = some none) ∨ ∃ t c, v = .ref t ∧ rs[n]? = some (some (.cell c)) ∧ CellIs H t c := by
  have ln : n < rs.length := by
    rw [← x.length]
    rcases Nat.lt_or_ge n vs.length with h | h
    · exact h
    · rw [List.getElem?_eq_none h] at e; cases e
  rcases x.at_ n ln with ⟨e1, e2⟩ | ⟨t, c, e1, e2, h⟩
  · rw [e] at e1
    exact .inl ⟨Option.some.inj e1, e2⟩
  · rw [e] at e1
    exact .inr ⟨t, c, Option.some.inj e1, e2, h⟩
def SPw (H : Hp) (l g d wl : Addr) (h : Lg04.Heap) (rs : List (Option Lg04.Value)) (mz : Nat) (σ : L2.St) (H' : Hp) : Prop := ∃ us ws S v4 v5, σ = [some (.ref l), some (.ref g), some (.ref d), some (.ref wl), v4, v5] ∧ Same H H' ∧
  H' wl = some (.lst (us.map V.ref)) ∧ Cells H' us ws ∧ H' d = some (.dK (entries S)) ∧ Sees h rs S ws [] ∧ S.length + unseen h.size S ≤ h.size ∧ ws.length + unseen h.size S ≤ h.size + 16 ∧ mz = 2 * unseen h.size S + ws.length

section
variable {P : Program} {w : World} {K : PySem.W.Frag} {mg : Str → Option Value} {base : PySem.Heap}
abbrev sSP : Stmt := top 40
theorem scSP : FnScope ["heap", "registers", "seen", "waiting", "cell", "place"] ["heap", "registers"] (defScope sSP) := ⟨rfl, rfl, rfl, by decide +kernel, rfl, by decide +kernel, by decide +kernel⟩
def spSP : Sp := fun vs H Q _ => ∃ (l g : Addr) (h : Lg04.Heap) (rs : List (Option Lg04.Value)), vs = [.ref l, .ref g] ∧ HeapIs H l h ∧ RegsIs H g rs ∧ RegsOk h rs ∧ h.size ≤ 1000 ∧
  ∀ H' d S, Same H H' → H d = none → H' d = some (.dK (entries S)) → S.Nodup → S.length ≤ 1000 → (∀ a, a ∈ S ↔ Lg06.isSeen (Lg06.seen (h, rs)) a = true) → Q (.ref d) H'
theorem ok_sp {f fL : Addr} {fd fdL : FuncData} (D : Dn K mg "seen_places" sSP ["heap", "registers"] f fd) (len : mg "len" = none)
    (GL : FnOk P w K mg base CX0 2 fL fdL ["heap", "cell"] spLed) (DL : Dn K mg "places_led_to" sLed ["heap", "cell"] fL fdL) : FnOk P w K mg base CX0 3 f fd ["heap", "registers"] spSP := by
  refine D.F.ok scSP (fun vs H Q E h => ?_) (fun cdv A outer s H vs Q E hr h => ?_)
  · obtain ⟨l, g, h, rs, rfl, _⟩ := h
    rfl
  · obtain ⟨l, g, h, rs, rfl, hh, hg, ro, hs, q⟩ := h
    refine ⟨_, pss_cons (ps_set (i := 2) scSP.nd rfl (Or.inl rfl) pe_dnewK)
      (pss_cons (ps_setLc (i := 3) (own := [("cell", 4)]) (g := gName 4) (tt := tB (tNotN (tVar 4))) (te := tVar 4) rfl scSP.nd rfl rfl (sw_true rfl rfl rfl (by decide +kernel)) (pi_list (pv 1)) (blkOk_by (N := ["heap", "registers", "seen", "waiting", "cell", "place"]) (sc := defScope sSP) (by decide +kernel))
          (fun _ _ _ _ _ => pg_name (i := 4) scSP.nd rfl (Or.inl rfl)) (fun _ _ _ _ _ => pts_one (pt_cmp (pc_notN (pv 4)))) (fun _ _ _ _ _ => pv 4))
      (pss_cons (ps_while PassesOwn.never (pt_cmpR op_gt (pe_callB call_len_seq (by rfl) len PySem.boot_len (pa_cons (pv 3) pa_nil)) pe_int (nomark _))
        (pss_cons (ps_set (i := 4) scSP.nd rfl (Or.inl rfl) (pe_bm0 PySem.F.plainAttrs_list PySem.F.slot_list_pop PySem.F.type_list_pop mt_pop (pv 3)))
        (pss_one (ps_for PassesOwn.never rfl (pi_list (pe_call GL hr rfl DL.m DL.F.kp DL.b .nil pass0 (pa_cons (pv 0) (pa_cons (pv 4) pa_nil)))) (pg_name (i := 5) scSP.nd rfl (Or.inl rfl))
          (pss_one (ps_if (pt_cmp (pc_dnotin (hu_of hr) (pv 5) (pv 2)))
            (pss_cons (ps_dput (hu_of hr) (pv 2) (pv 5) pe_bl rfl)
            (pss_one (ps_expr (pe_bm PySem.F.plainAttrs_list PySem.F.slot_list_append PySem.F.type_list_append mt_append (pv 3) (pa_cons (pe_ix ix_list (pv 0) (pv 5) (fun _ _ => rfl)) pa_nil))))) pss_nil))))))
      (pss_one (ps_ret (pv 2))))), ?_⟩
    intro d hd
    have sm0 : Same H (upd H d (.dK [])) := same_new hd
    have hd0 : (upd H d (.dK [])) d = some (.dK (entries [])) := upd_same
    generalize upd H d (.dK []) = H0 at sm0 hd0
    obtain ⟨vr, hgv, rv⟩ := hg
    have rl := rv.length
    have r16 := ro.1
    refine ⟨_, rfl, g, rfl, ⟨_, SqL.of (sm0 _ _ hgv)⟩, fun wl hwl => ?_⟩
    have hwl0 : H wl = none := sm0.free hwl
    have dw : d ≠ wl := ne_of_none hd0 hwl
    refine lc_list (K := K) (a := g) (xs := vr) (fun i H' => Same H H' ∧ H' d = some (.dK (entries [])) ∧ ∃ us, H' wl = some (.lst (us.map V.ref)) ∧ Cells H' us (regCells (rs.take i)) ∧ us.length ≤ i) ⟨sm0.trans (same_new hwl), (by rw [upd_ne dw]; exact hd0), [], upd_same, .nil, Nat.le_refl _⟩ (fun i H' _ z => SqL.of (z.1 _ _ hgv)) ?_ ?_
    · rintro i x H1 ei ⟨sm1, hd1, us, hw1, hc1, ul⟩
      have li : i < 16 := by
        rcases Nat.lt_or_ge i vr.length with z | z
        · omega
        · rw [List.getElem?_eq_none z] at ei; cases ei
      refine ⟨rfl, ?_⟩
      rcases rvals_some rv ei with ⟨rfl, er⟩ | ⟨t, c, rfl, er, ht⟩
      · refine ⟨_, rfl, _, rfl, iteF ⟨sm1, hd1, us, hw1, ?_, by omega⟩⟩
        rw [take_snoc er]
        unfold regCells at hc1 ⊢
        rw [List.filterMap_append]
        rw [show List.filterMap Lg04.cellOf [none] = [] from rfl, List.append_nil]
        exact hc1
      · refine ⟨_, rfl, _, rfl, iteT ⟨_, rfl, _, hw1, (by rw [List.length_map]; exact small1000 (by omega)), ?_⟩⟩
        have tu : Tups H1 (upd H1 wl (.lst (us.map V.ref ++ [.ref t]))) := Tups.lst hw1
        refine ⟨same_put sm1 hwl0, (by rw [upd_ne dw]; exact hd1), us ++ [t], (by rw [upd_same, List.map_append]; rfl), ?_, by rw [List.length_append, List.length_singleton]; omega⟩
        rw [take_snoc er]
        unfold regCells at hc1 ⊢
        rw [List.filterMap_append]
        exact (hc1.keep tu).append (.cons ((ht.keep (.of_same sm1)).keep tu) .nil)
    rintro H1 ⟨sm1, hd1, us, hw1, hc1, ul⟩
    rw [rl, List.take_length] at hc1
    refine ⟨SPw H l g d wl h rs, ⟨_, us, regCells rs, [], none, none, rfl, sm1, hw1, hc1, hd1, Sees.start ro, ?_, ?_, rfl⟩, ?_⟩
    · have : unseen h.size [] ≤ h.size := unseen_le
      simpa using this
    · have : unseen h.size [] ≤ h.size := unseen_le
      rw [← hc1.length]
      omega
    rintro mz σ H2 ⟨us, ws, S, v4, v5, rfl, sm, hw, hus, hd2, W, lS, lw, rfl⟩
    refine ⟨_, rfl, wl, _, rfl, .inl (SqL.of hw), _, _, rfl, rfl, _, rfl, ?_⟩
    rw [List.length_map, hus.length]
    rcases List.eq_nil_or_concat ws with rfl | ⟨ws', c1, rfl⟩
    · refine ifF (decide_eq_false (by simp)) ?_
      exact ⟨_, rfl, q H2 d S sm hd hd2 W.nodup (by omega) (fun a => W.done ro a)⟩
    refine ifT (decide_eq_true (by simp)) ?_
    rw [List.concat_eq_append] at hus W lw ⊢
    obtain ⟨us', t1, rfl, hus', ht1⟩ := hus.snoc
    refine ⟨fun σ' H' => ∃ m', m' < 2 * unseen h.size S + (ws' ++ [c1]).length ∧ SPw H l g d wl h rs m' σ' H', fun _ _ z => z, ?_⟩
    rw [List.length_append, List.length_singleton] at lw ⊢
    have tu : Tups H2 (upd H2 wl (.lst (us'.map V.ref))) := Tups.lst hw
    refine ⟨_, rfl, .inl ⟨rfl, _, SqL.of hw⟩, wl, _, _, rfl, rfl, hw, (by rw [List.length_map, List.length_append, List.length_singleton, Nat.add_sub_cancel, List.map_append, List.getElem?_append_right (by simp)]; simp; rfl), ?_⟩
    rw [List.map_append, List.map_singleton, List.dropLast_concat]
    have sm3 : Same H (upd H2 wl (.lst (us'.map V.ref))) := same_put sm hwl0
    have hw3 : (upd H2 wl (.lst (us'.map V.ref))) wl = some (.lst (us'.map V.ref)) := upd_same
    have hd3 : (upd H2 wl (.lst (us'.map V.ref))) d = some (.dK (entries S)) := by rw [upd_ne dw]; exact hd2
    have hus3 := hus'.keep tu
    have ht3 := ht1.keep tu
    generalize upd H2 wl (.lst (us'.map V.ref)) = H3 at sm3 hw3 hd3 hus3 ht3
    refine ⟨_, rfl, _, rfl, l, t1, h, c1, rfl, hh.same sm3, ht3, (W.wait c1 (by simp)).1, hs, fun z hz => ?_⟩
    have hz0 : H z = none := sm3.free hz
    have zw : z ≠ wl := Ne.symm (ne_of_none hw3 hz)
    have zd : z ≠ d := Ne.symm (ne_of_none hd3 hz)
    have sm4 : Same H3 (upd H3 z (.lst (nats (Lg06.leads h c1)))) := same_new hz
    have hz4 : (upd H3 z (.lst (nats (Lg06.leads h c1)))) z = some (.lst (nats (Lg06.leads h c1))) := upd_same
    generalize upd H3 z (.lst (nats (Lg06.leads h c1))) = H4 at sm4 hz4
    refine ⟨z, rfl, ⟨_, SqL.of hz4⟩, for_list (K := K) (a := z) (xs := nats (Lg06.leads h c1)) (fun n σ H' => ∃ us ws S' v5, σ = [some (.ref l), some (.ref g), some (.ref d), some (.ref wl), some (.ref t1), v5] ∧ Same H H' ∧ H' z = some (.lst (nats (Lg06.leads h c1))) ∧
        H' wl = some (.lst (us.map V.ref)) ∧ Cells H' us ws ∧ H' d = some (.dK (entries S')) ∧ Sees h rs S' ws ((Lg06.leads h c1).drop n) ∧ S'.length + unseen h.size S' ≤ h.size ∧ ws.length + unseen h.size S' ≤ h.size + 16 ∧ 2 * unseen h.size S' + ws.length ≤ 2 * unseen h.size S + ws'.length)
      ⟨us', ws', S, v5, rfl, sm3.trans sm4, hz4, sm4 _ _ hw3, hus3.keep (.of_same sm4), sm4 _ _ hd3, W.pop, lS, by omega, Nat.le_refl _⟩ (fun n σ H' _ ⟨_, _, _, _, _, _, z, _⟩ => SqL.of z) ?_ ?_⟩
    · rintro n x σ H5 en ⟨us, ws, S', v5, rfl, sm5, hz5, hw5, hus5, hd5, W5, lS5, lw5, lm5⟩
      obtain ⟨a, ea, rfl⟩ := nats_at en
      have ed : (Lg06.leads h c1).drop n = a :: (Lg06.leads h c1).drop (n + 1) := by
        have ln : n < (Lg06.leads h c1).length := by
          rcases Nat.lt_or_ge n (Lg06.leads h c1).length with z | z
          · exact z
          · rw [List.getElem?_eq_none z] at ea; cases ea
        rw [List.drop_eq_getElem_cons ln]
        rw [List.getElem?_eq_getElem ln] at ea
        rw [Option.some.inj ea]
      rw [ed] at W5
      refine ⟨_, rfl, _, rfl, d, _, rfl, DGet.k (k := Sum.inl (a : Int)) hd5, _, rfl, ?_⟩
      rw [entries_val]
      by_cases ma : a ∈ S'
      · rw [if_pos ma]
        exact iteF ⟨us, ws, S', _, rfl, sm5, hz5, hw5, hus5, hd5, W5.skip ma, lS5, lw5, lm5⟩
      · rw [if_neg ma]
        refine iteT ?_
        obtain ⟨la, WE⟩ := W5.enter ro ma
        have us1 := unseen_snoc (n := h.size) la ma
        refine ⟨_, rfl, _, rfl, d, _, rfl, DPut.k (k := Sum.inl (a : Int)) hd5 (by unfold entries; rw [List.length_map]; exact small1000 (by omega)), ?_⟩
        rw [entries_put ma]
        have sm6 : Same H (upd H5 d (.dK (entries (S' ++ [a])))) := same_put sm5 hd
        have tu6 : Tups H5 (upd H5 d (.dK (entries (S' ++ [a])))) := Tups.dict hd5
        have hz6 : (upd H5 d (.dK (entries (S' ++ [a])))) z = some (.lst (nats (Lg06.leads h c1))) := by rw [upd_ne zd]; exact hz5
        have hw6 : (upd H5 d (.dK (entries (S' ++ [a])))) wl = some (.lst (us.map V.ref)) := by rw [upd_ne (Ne.symm dw)]; exact hw5
        have hd6 : (upd H5 d (.dK (entries (S' ++ [a])))) d = some (.dK (entries (S' ++ [a]))) := upd_same
        have hus6 := hus5.keep tu6
        generalize upd H5 d (.dK (entries (S' ++ [a]))) = H6 at sm6 hz6 hw6 hd6 hus6
        obtain ⟨vs7, t7, hv7, hat7, ht7⟩ := (hh.same sm6).item la
        refine ⟨_, rfl, .inl ⟨rfl, _, SqL.of hw6⟩, _, rfl, _, rfl, l, vs7, _, _, rfl, rfl, SqL.of hv7, hat7, wl, _, _, rfl, rfl, hw6, (by rw [List.length_map, hus6.length]; exact small_line (by omega)), ?_⟩
        have tu7 : Tups H6 (upd H6 wl (.lst (us.map V.ref ++ [.ref t7]))) := Tups.lst hw6
        refine ⟨us ++ [t7], ws ++ [cellAt h a], S' ++ [a], _, rfl, same_put sm6 hwl0, (by rw [upd_ne zw]; exact hz6), (by rw [upd_same, List.map_append]; rfl), (hus6.keep tu7).append (.cons (ht7.keep tu7) .nil), (by rw [upd_ne dw]; exact hd6), WE, ?_, ?_, ?_⟩
        · rw [List.length_append, List.length_singleton]; omega
        · rw [List.length_append, List.length_singleton]; omega
        · rw [List.length_append, List.length_singleton]; omega
    · rintro σ H5 ⟨us, ws, S', v5, rfl, sm5, hz5, hw5, hus5, hd5, W5, lS5, lw5, lm5⟩
      rw [nats_len, List.drop_of_length_le (Nat.le_refl _)] at W5
      exact ⟨_, by omega, us, ws, S', _, _, rfl, sm5, hw5, hus5, hd5, W5, lS5, lw5, rfl⟩

/-! View.__init__ -/
def vf (d : Addr) (t : Nat) : List (Str × V) := [("seen", .ref d), ("trail_length", .int t)]
theorem sneV : ("trail_length" : Str) ≠ "seen" := by decide +kernel
theorem vf_seen {d : Addr} {t : Nat} : (vf d t).lookup ("seen" : Str) = some (.ref d) := lookup_yes
theorem vf_trail {d : Addr} {t : Nat} : (vf d t).lookup ("trail_length" : Str) = some (.int t) := (lookup_no sneV).trans lookup_yes
structure Cv (K : PySem.W.Frag) (CV : Addr) : Prop where
  cl : Cls K CV
  ns : NoAttr K CV "seen"
  nt : NoAttr K CV "trail_length"
abbrev sVI : Stmt := inClass (top 39) 0
theorem scVI : FnScope ["self", "seen", "trail_length"] ["self", "seen", "trail_length"] (defScope sVI) := ⟨rfl, rfl, rfl, by decide +kernel, rfl, by decide +kernel, by decide +kernel⟩
def spVI (CV : Addr) : Sp := fun vs H Q _ => ∃ (p dx d : Addr) (j : Nat), vs = [.ref p, .ref d, .int j] ∧ H p = some (.ins CV dx []) ∧ ∀ H', H' p = some (.ins CV dx (vf d j)) → (∀ b o, H b = some o → b ≠ p → H' b = some o) → Q .non H'
theorem ok_vi {CV f : Addr} {fd : FuncData} (F : Fun K "__init__" "View.__init__" sVI f fd) (L : Cv K CV) : FnOk P w K mg base CX0 1 f fd ["self", "seen", "trail_length"] (spVI CV) := by
  refine F.ok scVI (fun vs H Q E h => ?_) (fun cdv A outer s H vs Q E hr h => ?_)
  · obtain ⟨p, dx, d, j, rfl, _⟩ := h
    rfl
  · obtain ⟨p, dx, d, j, rfl, hp, k⟩ := h
    refine ⟨_, pss_cons (ps_fld (pv 0) (pv 1) rfl) (pss_one (ps_fld (pv 0) (pv 2) rfl)), ?_⟩
    refine ⟨_, rfl, _, rfl, p, CV, dx, _, rfl, hp, L.cl, L.ns, (by show 0 < 1000; decide), ?_⟩
    refine ⟨_, rfl, _, rfl, p, CV, dx, _, rfl, upd_same, L.cl, L.nt, (by show 1 < 1000; decide), ?_⟩
    have ef : putF "trail_length" (.int j) (putF "seen" (.ref d) []) = vf d j := by
      have e1 : putF "seen" (.ref d) [] = [(("seen" : Str), V.ref d)] := rfl
      rw [e1, putF_no (Ne.symm sneV)]
      rfl
    refine k _ (by rw [upd_same, ef]) fun b o e n => by rw [upd_ne n, upd_ne n]; exact e
end
end Sw
namespace Sw
open PySem PySem.Spec PyProof.Rows
open L2 hiding Walk
open Lg04 (Cell cellAt look within unify same)

def ViewAt (H : Hp) (CV k : Addr) (v : Vw) : Prop := ∃ dk d, H k = some (.ins CV dk (vf d v.2)) ∧ H d = some (.dK (entries v.1)) ∧ v.1.Nodup ∧ v.1.length ≤ 1000
theorem ViewAt.same {H H' : Hp} {CV k : Addr} {v : Vw} (x : ViewAt H CV k v) (s : Same H H') : ViewAt H' CV k v := by
  obtain ⟨dk, d, e1, e2, n, l⟩ := x
  exact ⟨dk, d, s _ _ e1, s _ _ e2, n, l⟩
inductive Vws (H : Hp) (CV : Addr) : List Addr → List Vw → Prop where
  | nil : Vws H CV [] []
  | cons {k : Addr} {v : Vw} {ks : List Addr} {vs : List Vw} : ViewAt H CV k v → Vws H CV ks vs → Vws H CV (k :: ks) (v :: vs)
theorem Vws.same {H H' : Hp} {CV : Addr} {ks : List Addr} {vs : List Vw} (x : Vws H CV ks vs) (s : Same H H') : Vws H' CV ks vs := by
  induction x with
  | nil => exact .nil
  | cons h _ ih => exact .cons (h.same s) ih
theorem Vws.length {H : Hp} {CV : Addr} {ks : List Addr} {vs : List Vw} (x : Vws H CV ks vs) : ks.length = vs.length := by
  induction x with
  | nil => rfl
  | cons _ _ ih => rw [List.length_cons, List.length_cons, ih]
theorem Vws.append {H : Hp} {CV : Addr} {ks js : List Addr} {vs ws : List Vw} (x : Vws H CV ks vs) (y : Vws H CV js ws) : Vws H CV (ks ++ js) (vs ++ ws) := by
  induction x with
  | nil => exact y
  | cons h _ ih => exact .cons h ih
theorem Vws.at_ {H : Hp} {CV : Addr} {ks : List Addr} {vs : List Vw} (x : Vws H CV ks vs) {n : Nat} {k : Addr} (e : ks[n]? = some k) : ∃ v, vs[n]? = some v ∧ ViewAt H CV k v := by
  induction x generalizing n with
  | nil => simp at e
  | cons h _ ih =>
    match n, e with
    | 0, e =>
      cases (Option.some.inj e)
      exact ⟨_, rfl, h⟩
    | n + 1, e => exact ih e
theorem take_all {h : Lg04.Heap} : h.take h.size = h := by
  apply heap_ext
  · rw [take_size (Nat.le_refl _)]
  · intro a la
    rw [take_size (Nat.le_refl _)] at la
    exact cellAt_take la
/-- what each choice's view is, and that of now -/
theorem view_item {C CC : Addr} {H : Hp} {p dx l r t c q dq g : Addr} {qs gs : List Addr} {m : Lg04.M} (R : Mach C CC H p dx l r t c qs gs m) (I : Inv m) (hq : H q = some (.ins CC dq (cf g m.heap.size m.trail.length))) (hg : RegsIs H g m.regs)
    {n : Nat} {k : Addr} (e : (qs ++ [q])[n]? = some k) : ∃ (dk gk : Addr) (i j : Nat) (rs : List (Option Lg04.Value)), H k = some (.ins CC dk (cf gk i j)) ∧ RegsIs H gk rs ∧ RegsOk ((undo (m.trail.reverse.drop j) m.heap).take i) rs ∧ ((undo (m.trail.reverse.drop j) m.heap).take i).size ≤ m.heap.size ∧
      ∀ S : List Nat, (∀ a, a ∈ S ↔ Lg06.isSeen (Lg06.seen ((undo (m.trail.reverse.drop j) m.heap).take i, rs)) a = true) → vwAt m n (S, j) := by
  obtain ⟨lq, lg, cget⟩ := R.chs.get
  by_cases ln : n < qs.length
  · rw [List.getElem?_append_left ln] at e
    obtain ⟨b, dk, gk, eb, _, hk, hr⟩ := cget n k e
    have eb' : m.choices[m.choices.length - 1 - n]? = some b := by
      rw [List.getElem?_reverse (by omega)] at eb
      exact eb
    have eu := undone_old eb'
    refine ⟨dk, gk, b.heap, b.trail, b.regs, hk, hr, ?_, ?_, fun S hS => .inr ⟨b, by omega, eb', rfl, ?_⟩⟩
    · rw [← eu]; exact I.views _ b eb'
    · rw [← eu, undone_size I eb']
      exact (I.low b (List.mem_of_getElem? eb')).1
    · rw [← eu] at hS
      have ev : Lg06.viewOf m (m.choices.length - 1 - n) = (Lg04.undone m (m.choices.length - 1 - n), b.regs) := by
        unfold Lg06.viewOf
        rw [eb']
        rfl
      rw [ev]
      exact hS
  · rw [List.getElem?_append_right (by omega)] at e
    have en : n = qs.length := by
      rcases Nat.lt_or_ge 0 (n - qs.length) with z | z
      · rw [List.getElem?_eq_none (by simp; omega)] at e; cases e
      · omega
    subst en
    rw [Nat.sub_self] at e
    cases (Option.some.inj e)
    have eu : (undo (m.trail.reverse.drop m.trail.length) m.heap).take m.heap.size = m.heap := by
      rw [List.drop_of_length_le (by rw [List.length_reverse]; exact Nat.le_refl _)]
      exact take_all
    refine ⟨dq, g, m.heap.size, m.trail.length, m.regs, hq, hg, ?_, ?_, fun S hS => .inl ⟨lq, rfl, ?_⟩⟩
    · rw [eu]; exact I.regs
    · rw [eu]; exact Nat.le_refl _
    · rw [eu] at hS
      exact hS

section
variable {P : Program} {w : World} {K : PySem.W.Frag} {mg : Str → Option Value} {base : PySem.Heap}
abbrev sAll : Stmt := top 41
theorem scAll : FnScope ["machine", "views", "choice", "seen"] ["machine"] (defScope sAll) := ⟨rfl, rfl, rfl, by decide +kernel, rfl, by decide +kernel, by decide +kernel⟩
def spAll (C CC CV : Addr) : Sp := fun vs H Q _ => ∃ (p dx l r t c : Addr) (qs gs : List Addr) (m : Lg04.M), vs = [.ref p] ∧ Mach C CC H p dx l r t c qs gs m ∧ Inv m ∧ m.heap.size ≤ 900 ∧
  ∀ H' y ks ws, Same H H' → H y = none → H' y = some (.lst (ks.map V.ref)) → Vws H' CV ks ws → VwsOk m ws → Q (.ref y) H'
theorem ok_all {C CC CV f fN fH fS fI : Addr} {fd fdN fdH fdS fdI : FuncData} (D : Dn K mg "all_views" sAll ["machine"] f fd) (L : Cl K C CC) (LV : Cv K CV)
    (GN : FnOk P w K mg base CX0 3 fN fdN ["self"] (spCN C CC)) (bN : Binds K fdN ["self"] []) (mN : Meth K C "choice_of_now" fN)
    (GH : FnOk P w K mg base CX0 1 fH fdH ["self", "choice"] (spHB C CC)) (bH : Binds K fdH ["self", "choice"] []) (mH : Meth K C "heap_behind" fH)
    (GS : FnOk P w K mg base CX0 3 fS fdS ["heap", "registers"] spSP) (DS : Dn K mg "seen_places" sSP ["heap", "registers"] fS fdS)
    (mgV : mg "View" = some (.ref CV)) (M : Mk K CV fI) (GI : FnOk P w K mg base CX0 1 fI fdI ["self", "seen", "trail_length"] (spVI CV)) (bI : Binds K fdI ["self", "seen", "trail_length"] []) :
    FnOk P w K mg base CX0 4 f fd ["machine"] (spAll C CC CV) := by
  refine D.F.ok scAll (fun vs H Q E h => ?_) (fun cdv A outer s H vs Q E hr h => ?_)
  · obtain ⟨p, dx, l, r, t, c, qs, gs, m, rfl, _⟩ := h
    rfl
  · obtain ⟨p, dx, l, r, t, c, qs, gs, m, rfl, R, I, hs, k⟩ := h
    have hr1 : Room 1 _ := hr.mono (by decide)
    have hr2 : Room (1 + 1) _ := hr.mono (by decide)
    refine ⟨_, pss_cons (ps_set (i := 1) scAll.nd rfl (Or.inl rfl) (pe_lst pa_nil))
      (pss_cons (ps_for PassesOwn.never rfl (pi_list (pe_op op_cat (pe_fld (pv 0) rfl) (pe_lst (pa_cons (pe_meth0 (pv 0) L.cl mN GN hr bN .nil pass0) pa_nil)))) (pg_name (i := 2) scAll.nd rfl (Or.inl rfl))
        (pss_cons (ps_set (i := 3) scAll.nd rfl (Or.inl rfl) (pe_call GS hr rfl DS.m DS.F.kp DS.b .nil pass0 (pa_cons (pe_meth (pv 0) L.cl mH GH hr1 bH .nil pass0 (pa_cons (pv 2) pa_nil)) (pa_cons (pe_fld (pv 2) rfl) pa_nil))))
        (pss_one (ps_expr (pe_bm PySem.F.plainAttrs_list PySem.F.slot_list_append PySem.F.type_list_append mt_append (pv 1) (pa_cons (pe_make M GI hr2 rfl mgV bI .nil pass0 (pa_cons (pv 3) (pa_cons (pe_fld (pv 2) rfl) pa_nil))) pa_nil))))))
      (pss_one (ps_ret (pv 1)))), ?_⟩
    refine ⟨(by show 0 ≤ sizeLine; decide), fun y hy => ?_⟩
    have sm0 : Same H (upd H y (.lst [])) := same_new hy
    have hy0 : (upd H y (.lst [])) y = some (.lst []) := upd_same
    generalize upd H y (.lst []) = H0 at sm0 hy0
    have R0 := R.same sm0
    obtain ⟨lq, lg, _⟩ := R.chs.get
    have few := I.few
    obtain ⟨ts, hl, hc⟩ := R0.heap
    have tsl : ts.length = m.heap.size := by rw [hc.length, Array.length_toList]
    refine ⟨_, rfl, p, C, dx, _, _, rfl, R0.ins, L.cl, L.nc, mf_choices, _, rfl, p, dx, _, rfl, R0.ins, mf_none (by decide +kernel) (by decide +kernel) (by decide +kernel) (by decide +kernel), p, dx, l, r, t, c, _, m.trail, m.regs, rfl, R0.ins, hl, R0.trail, R0.regs, fun H1 q dq g sm1 nq ng hq hg => ?_⟩
    rw [List.length_map, tsl] at hq
    refine ⟨(by show 1 ≤ sizeLine; decide), fun e he => ?_⟩
    have sm2 : Same H1 (upd H1 e (.lst [.ref q])) := same_new he
    have he2 : (upd H1 e (.lst [.ref q])) e = some (.lst [.ref q]) := upd_same
    generalize upd H1 e (.lst [.ref q]) = H2 at sm2 he2
    have R2 := (R0.same sm1).same sm2
    refine ⟨c, e, _, _, rfl, rfl, R2.clst, he2, (by rw [List.length_map, lq]; exact small_line' (by show _ + 1 ≤ _; omega)), fun z hz => ?_⟩
    have ez : qs.map V.ref ++ [V.ref q] = (qs ++ [q]).map V.ref := by rw [List.map_append]; rfl
    rw [ez]
    have sm3 : Same H2 (upd H2 z (.lst ((qs ++ [q]).map V.ref))) := same_new hz
    have hz3 : (upd H2 z (.lst ((qs ++ [q]).map V.ref))) z = some (.lst ((qs ++ [q]).map V.ref)) := upd_same
    generalize upd H2 z (.lst ((qs ++ [q]).map V.ref)) = H3 at sm3 hz3
    have R3 := R2.same sm3
    have s13 := sm2.trans sm3
    have s03 := (sm0.trans sm1).trans s13
    have hy3 := s13 _ _ (sm1 _ _ hy0)
    have hq3 := s13 _ _ hq
    have hg3 : RegsIs H3 g m.regs := by
      obtain ⟨vg, e1, e2⟩ := hg
      exact ⟨vg, s13 _ _ e1, e2.keep (.of_same s13)⟩
    have yz : y ≠ z := fun w => by subst w; rw [sm2 _ _ (sm1 _ _ hy0)] at hz; cases hz
    refine ⟨z, rfl, ⟨_, SqL.of hz3⟩, for_list (K := K) (a := z) (xs := (qs ++ [q]).map V.ref) (fun n σ H' => ∃ v2 v3 ks ws, σ = [some (.ref p), some (.ref y), v2, v3] ∧ (∀ b o, H3 b = some o → b ≠ y → H' b = some o) ∧ Same H H' ∧ H' y = some (.lst (ks.map V.ref)) ∧ Vws H' CV ks ws ∧ ws.length = n ∧ ∀ j v, ws[j]? = some v → vwAt m j v)
      ⟨none, none, [], [], rfl, fun b o e _ => e, s03, hy3, .nil, rfl, fun j v e => by simp at e⟩ (fun n σ H' _ ⟨_, _, _, _, _, w, _⟩ => SqL.of (w _ _ hz3 (Ne.symm yz))) ?_ ?_⟩
    · rintro n x σ H4 en ⟨v2, v3, ks, ws, rfl, kp, sm4, hy4, hv4, lw, vw4⟩
      obtain ⟨qn, eq, rfl⟩ := refs_at en
      obtain ⟨dk, gk, i, j, rs, hk, hrs, ro, hsz, vw⟩ := view_item R3 I hq3 hg3 eq
      have nyi : ∀ {b C0 d0 : Addr} {fs : List (Str × V)}, H3 b = some (.ins C0 d0 fs) → b ≠ y := fun e => ne_of e hy3 (fun z => nomatch z)
      have hk4 := kp _ _ hk (nyi hk)
      have hp4 := kp _ _ R3.ins (nyi R3.ins)
      have ln : n < 21 := by
        rcases Nat.lt_or_ge n (qs ++ [q]).length with z | z
        · rw [List.length_append, List.length_singleton] at z; omega
        · rw [List.getElem?_eq_none z] at eq; cases eq
      refine ⟨_, rfl, p, dx, _, rfl, hp4, mf_none (by decide +kernel) (by decide +kernel) (by decide +kernel) (by decide +kernel), _, rfl, p, dx, l, r, t, c, qn, dk, gk, i, j, m.heap, m.trail, rfl, hp4, R.heap.same sm4, sm4 _ _ R.trail, hk4, (fun a ma => (I.bound a ma).1), fun H5 u sm5 nu hu => ?_⟩
      have rg5 : RegsIs H5 gk rs := by
        obtain ⟨vg, e1, e2⟩ := hrs
        by_cases gy : gk = y
        · exfalso
          subst gy
          rw [hy3] at e1
          cases e1
          cases e2
          have := ro.1
          cases this
        · have tu : Tups H3 H5 := fun b xs e => sm5 _ _ (kp _ _ e (ne_of e hy3 (fun z => nomatch z)))
          exact ⟨vg, sm5 _ _ (kp _ _ e1 gy), e2.keep tu⟩
      refine ⟨_, rfl, qn, CC, dk, _, _, rfl, sm5 _ _ hk4, L.ccl, L.cnr, cf_regs, u, gk, _, rs, rfl, hu, rg5, ro, by omega, fun H6 d S sm6 nd hd6 ndS lS hS => ?_⟩
      have s46 := sm5.trans sm6
      refine ⟨_, rfl, .inl ⟨rfl, _, SqL.of (s46 _ _ hy4)⟩, _, rfl, _, rfl, qn, CC, dk, _, _, rfl, s46 _ _ hk4, L.ccl, L.cnt, cf_trail, ?_⟩
      intro kv dkv hkv hdkv nkv
      refine ⟨kv, dkv, d, j, rfl, upd_same, fun H7 h7 k7 => ⟨rfl, ?_⟩⟩
      have sm7 : Same H6 H7 := Same.made hkv hdkv k7
      have s47 := s46.trans sm7
      have hy7 := s47 _ _ hy4
      refine ⟨y, _, _, rfl, rfl, hy7, (by rw [List.length_map, hv4.length]; exact small1000 (by omega)), ?_⟩
      have nk7 : kv ≠ y := ne_of h7 hy7 (fun z => nomatch z)
      have keepV : ∀ {b : Addr} {v : Vw}, ViewAt H7 CV b v → ViewAt (upd H7 y (.lst (ks.map V.ref ++ [.ref kv]))) CV b v := fun ⟨dk, d, e1, e2, n, l⟩ =>
        ⟨dk, d, by rw [upd_ne (ne_of e1 hy7 (fun z => nomatch z))]; exact e1, by rw [upd_ne (ne_of e2 hy7 (fun z => nomatch z))]; exact e2, n, l⟩
      have keepVs : ∀ {bs : List Addr} {vs : List Vw}, Vws H7 CV bs vs → Vws (upd H7 y (.lst (ks.map V.ref ++ [.ref kv]))) CV bs vs := fun x => by
        induction x with
        | nil => exact .nil
        | cons a _ ih => exact .cons (keepV a) ih
      refine ⟨_, _, ks ++ [kv], ws ++ [(S, j)], rfl, fun b o e n => by rw [upd_ne n]; exact s47 _ _ (kp b o e n), same_put (sm4.trans s47) hy, (by rw [upd_same, List.map_append]; rfl), ?_, by rw [List.length_append, List.length_singleton, lw], fun j' v e => ?_⟩
      · exact (keepVs (hv4.same s47)).append (.cons (keepV ⟨dkv, d, h7, sm7 _ _ hd6, ndS, lS⟩) .nil)
      · by_cases lj : j' < ws.length
        · rw [List.getElem?_append_left lj] at e
          exact vw4 j' v e
        · rw [List.getElem?_append_right (by omega)] at e
          have ej : j' = n := by
            rcases Nat.lt_or_ge 0 (j' - ws.length) with z | z
            · rw [List.getElem?_eq_none (by simp; omega)] at e; cases e
            · omega
          rw [ej, lw, Nat.sub_self] at e
          cases (Option.some.inj e)
          rw [ej]
          exact vw S hS
    · rintro σ H4 ⟨v2, v3, ks, ws, rfl, kp, sm4, hy4, hv4, lw, vw4⟩
      exact ⟨_, rfl, k H4 y ks ws sm4 hy hy4 hv4 ⟨by rw [lw, List.length_map, List.length_append, List.length_singleton, lq], vw4⟩⟩

/-! is_bound_in, is_seen_bound, is_seen_free -/
abbrev sIB : Stmt := top 42
theorem scIB : FnScope ["view", "at"] ["view", "at"] (defScope sIB) := ⟨rfl, rfl, rfl, by decide +kernel, rfl, by decide +kernel, by decide +kernel⟩
def spIB (CV : Addr) : Sp := fun vs H Q _ => ∃ (k : Addr) (v : Vw) (j : Nat), vs = [.ref k, .int j] ∧ ViewAt H CV k v ∧ Q (.bl (decide (j < v.2))) H
theorem dec_lt {i j : Nat} : decide ((i : Int) < (j : Int)) = decide (i < j) := by
  by_cases h : i < j
  · rw [decide_eq_true h, decide_eq_true (by omega)]
  · rw [decide_eq_false h, decide_eq_false (by omega)]
theorem ok_ib {CV f : Addr} {fd : FuncData} (D : Dn K mg "is_bound_in" sIB ["view", "at"] f fd) (LV : Cv K CV) : FnOk P w K mg base CX0 1 f fd ["view", "at"] (spIB CV) := by
  refine D.F.ok scIB (fun vs H Q E h => ?_) (fun cdv A outer s H vs Q E hr h => ?_)
  · obtain ⟨k, v, j, rfl, _⟩ := h
    rfl
  · obtain ⟨k, v, j, rfl, ⟨dk, d, hk, _⟩, q⟩ := h
    refine ⟨_, pss_one (ps_ret (pe_cmpR op_lt (pv 1) (pe_fld (pv 0) rfl) (nomark _))), ?_⟩
    refine ⟨_, rfl, _, rfl, k, CV, dk, _, _, rfl, hk, LV.cl, LV.nt, vf_trail, _, _, rfl, rfl, ?_⟩
    rw [← dec_lt] at q
    exact q
abbrev sSB : Stmt := top 43
theorem scSB : FnScope ["views", "trail", "at", "view"] ["views", "trail", "at"] (defScope sSB) := ⟨rfl, rfl, rfl, by decide +kernel, rfl, by decide +kernel, by decide +kernel⟩
abbrev sSF : Stmt := top 44
theorem scSF : FnScope ["views", "trail", "at", "view"] ["views", "trail", "at"] (defScope sSF) := ⟨rfl, rfl, rfl, by decide +kernel, rfl, by decide +kernel, by decide +kernel⟩
def spSB (CV : Addr) (fn : List Vw → Nat → Nat → Bool) : Sp := fun vs H Q _ => ∃ (y z : Addr) (ks : List Addr) (ws : List Vw) (tl : List Nat) (j a : Nat), vs = [.ref y, .ref z, .int j] ∧ H y = some (.lst (ks.map V.ref)) ∧ Vws H CV ks ws ∧ ws.length ≤ 30 ∧ H z = some (.lst (nats tl)) ∧ tl[j]? = some a ∧
  ∀ H', Same H H' → Q (.bl (fn ws a j)) H'
theorem nats_get {l : List Nat} {j a : Nat} (e : l[j]? = some a) : atI (nats l) (j : Int) = some (.int a) := atI_nat (by unfold nats; rw [List.getElem?_map, e]; rfl)
theorem ok_sb {CV f fI : Addr} {fd fdI : FuncData} (D : Dn K mg "is_seen_bound" sSB ["views", "trail", "at"] f fd) (LV : Cv K CV) (any : mg "any" = none)
    (GI : FnOk P w K mg base CX0 1 fI fdI ["view", "at"] (spIB CV)) (DI : Dn K mg "is_bound_in" sIB ["view", "at"] fI fdI) : FnOk P w K mg base CX0 2 f fd ["views", "trail", "at"] (spSB CV vBound) := by
  refine D.F.ok scSB (fun vs H Q E h => ?_) (fun cdv A outer s H vs Q E hr h => ?_)
  · obtain ⟨y, z, ks, ws, tl, j, a, rfl, _⟩ := h
    rfl
  · obtain ⟨y, z, ks, ws, tl, j, a, rfl, hy, hw, few, hz, ea, q⟩ := h
    refine ⟨_, pss_one (ps_ret (pe_callB (cr_any rfl) (by rfl) any (by decide +kernel) (pa_cons (pe_lc (own := [("view", 3)]) (g := gName 3) (tt := tB (tCall (spIB CV) [] E0 (tCons (tVar 3) (tCons (tVar 2) tNil)))) (te := tDIn (tOp (rIxL K) (tVar 1) (tVar 2)) (tFld K (tVar 3) "seen")) rfl scSB.nd (pi_list (pv 0)) (blkOk_by (N := ["views", "trail", "at", "view"]) (sc := defScope sSB) (by decide +kernel))
          (fun _ _ _ _ _ => pg_name (i := 3) scSB.nd rfl (Or.inl rfl)) (fun _ _ _ _ _ => pts_one (pt_val (pe_call GI hr rfl DI.m DI.F.kp DI.b .nil pass0 (pa_cons (pv 3) (pa_cons (pv 2) pa_nil))))) (fun _ _ _ _ _ => pe_cmp (pc_din (hu_of hr) (pe_ix (r := rIxL K) ix_list (pv 1) (pv 2) (fun _ _ => rfl)) (pe_fld (pv 3) rfl)))) pa_nil))), ?_⟩
    refine ⟨_, rfl, y, rfl, ⟨_, SqL.of hy⟩, fun d hd => ?_⟩
    refine lc_list (K := K) (a := y) (xs := ks.map V.ref) (fun i H' => Same H H' ∧ H' d = some (.lst ((((ws.take i).filter fun v => decide (j < v.2)).map fun v => decide (a ∈ v.1)).map V.bl))) ⟨same_new hd, upd_same⟩ (fun i H' _ z => SqL.of (z.1 _ _ hy)) ?_ ?_
    · rintro i x H1 ei ⟨sm, h1⟩
      obtain ⟨kq, ek, rfl⟩ := refs_at ei
      obtain ⟨v, ev, hv⟩ := hw.at_ ek
      have hv1 := hv.same sm
      refine ⟨rfl, ?_⟩
      refine ⟨_, rfl, _, rfl, kq, v, j, rfl, hv1, _, rfl, ?_⟩
      rw [take_snoc ev, List.filter_append, List.map_append]
      by_cases lj : j < v.2
      · refine ifT (decide_eq_true lj) ?_
        obtain ⟨dk, dd, hk, hdd, _, _⟩ := hv1
        refine ⟨_, rfl, _, rfl, z, _, _, _, rfl, rfl, SqL.of (sm _ _ hz), nats_get ea, _, rfl, kq, CV, dk, _, _, rfl, hk, LV.cl, LV.ns, vf_seen, dd, _, rfl, DGet.k (k := Sum.inl (a : Int)) hdd, _, h1, ?_, ?_⟩
        · rw [List.length_map, List.length_map]
          refine small1000 (Nat.le_trans (List.length_filter_le _ _) ?_)
          rw [List.length_take]; omega
        · refine ⟨same_put sm hd, ?_⟩
          rw [upd_same, entries_val, List.filter_cons, if_pos (decide_eq_true lj), List.map_append]
          by_cases m : a ∈ v.1
          · rw [if_pos m]; simp [m]
          · rw [if_neg m]; simp [m]
      · refine ifF (decide_eq_false lj) ⟨sm, ?_⟩
        rw [List.filter_cons, if_neg (by simpa using lj)]
        simpa using h1
    · rintro H1 ⟨sm, h1⟩
      rw [List.length_map, hw.length, List.take_length] at h1
      refine ⟨d, _, rfl, SqL.of h1, ?_⟩
      rw [any_id_map, List.any_filter]
      exact q H1 sm
theorem ok_sf {CV f fI : Addr} {fd fdI : FuncData} (D : Dn K mg "is_seen_free" sSF ["views", "trail", "at"] f fd) (LV : Cv K CV) (any : mg "any" = none)
    (GI : FnOk P w K mg base CX0 1 fI fdI ["view", "at"] (spIB CV)) (DI : Dn K mg "is_bound_in" sIB ["view", "at"] fI fdI) : FnOk P w K mg base CX0 2 f fd ["views", "trail", "at"] (spSB CV vFree) := by
  refine D.F.ok scSF (fun vs H Q E h => ?_) (fun cdv A outer s H vs Q E hr h => ?_)
  · obtain ⟨y, z, ks, ws, tl, j, a, rfl, _⟩ := h
    rfl
  · obtain ⟨y, z, ks, ws, tl, j, a, rfl, hy, hw, few, hz, ea, q⟩ := h
    refine ⟨_, pss_one (ps_ret (pe_callB (cr_any rfl) (by rfl) any (by decide +kernel) (pa_cons (pe_lc (own := [("view", 3)]) (g := gName 3) (tt := tNot (tB (tCall (spIB CV) [] E0 (tCons (tVar 3) (tCons (tVar 2) tNil))))) (te := tDIn (tOp (rIxL K) (tVar 1) (tVar 2)) (tFld K (tVar 3) "seen")) rfl scSF.nd (pi_list (pv 0)) (blkOk_by (N := ["views", "trail", "at", "view"]) (sc := defScope sSF) (by decide +kernel))
          (fun _ _ _ _ _ => pg_name (i := 3) scSF.nd rfl (Or.inl rfl)) (fun _ _ _ _ _ => pts_one (pt_not (pt_val (pe_call GI hr rfl DI.m DI.F.kp DI.b .nil pass0 (pa_cons (pv 3) (pa_cons (pv 2) pa_nil)))))) (fun _ _ _ _ _ => pe_cmp (pc_din (hu_of hr) (pe_ix (r := rIxL K) ix_list (pv 1) (pv 2) (fun _ _ => rfl)) (pe_fld (pv 3) rfl)))) pa_nil))), ?_⟩
    refine ⟨_, rfl, y, rfl, ⟨_, SqL.of hy⟩, fun d hd => ?_⟩
    refine lc_list (K := K) (a := y) (xs := ks.map V.ref) (fun i H' => Same H H' ∧ H' d = some (.lst ((((ws.take i).filter fun v => !decide (j < v.2)).map fun v => decide (a ∈ v.1)).map V.bl))) ⟨same_new hd, upd_same⟩ (fun i H' _ z => SqL.of (z.1 _ _ hy)) ?_ ?_
    · rintro i x H1 ei ⟨sm, h1⟩
      obtain ⟨kq, ek, rfl⟩ := refs_at ei
      obtain ⟨v, ev, hv⟩ := hw.at_ ek
      have hv1 := hv.same sm
      refine ⟨rfl, ?_⟩
      refine ⟨_, rfl, _, rfl, kq, v, j, rfl, hv1, _, rfl, ?_⟩
      rw [take_snoc ev, List.filter_append, List.map_append]
      by_cases lj : j < v.2
      · refine ifF (by rw [decide_eq_true lj]; rfl) ⟨sm, ?_⟩
        rw [List.filter_cons, if_neg (by rw [decide_eq_true lj]; decide)]
        simpa using h1
      · refine ifT (by rw [decide_eq_false lj]; rfl) ?_
        obtain ⟨dk, dd, hk, hdd, _, _⟩ := hv1
        refine ⟨_, rfl, _, rfl, z, _, _, _, rfl, rfl, SqL.of (sm _ _ hz), nats_get ea, _, rfl, kq, CV, dk, _, _, rfl, hk, LV.cl, LV.ns, vf_seen, dd, _, rfl, DGet.k (k := Sum.inl (a : Int)) hdd, _, h1, ?_, ?_⟩
        · rw [List.length_map, List.length_map]
          refine small1000 (Nat.le_trans (List.length_filter_le _ _) ?_)
          rw [List.length_take]; omega
        · refine ⟨same_put sm hd, ?_⟩
          rw [upd_same, entries_val, List.filter_cons, if_pos (show (!decide (j < v.2)) = true by rw [decide_eq_false lj]; rfl), List.map_append]
          by_cases m : a ∈ v.1
          · rw [if_pos m]; simp [m]
          · rw [if_neg m]; simp [m]
    · rintro H1 ⟨sm, h1⟩
      rw [List.length_map, hw.length, List.take_length] at h1
      refine ⟨d, _, rfl, SqL.of h1, ?_⟩
      rw [any_id_map, List.any_filter]
      exact q H1 sm
end
end Sw
namespace Sw
open PySem PySem.Spec PyProof.Rows
open L2 hiding Walk
open Lg04 (Cell cellAt look within unify same)

/-! Where kept places come to. -/
def comeL (kp : Nat → Bool) (l : List Nat) : List (Key × V) := l.map fun (a : Nat) => (Sum.inl (a : Int), V.int (cnt kp a : Nat))
def keptN (kp : Nat → Bool) (n : Nat) : List Nat := (List.range n).filter kp
def comeE (kp : Nat → Bool) (n : Nat) : List (Key × V) := comeL kp (keptN kp n)
theorem comeL_val {kp : Nat → Bool} {l : List Nat} {p : Nat} : valV (comeL kp l) (Sum.inl (p : Int)) = if p ∈ l then some (.int (cnt kp p : Nat)) else none := by
  induction l with
  | nil => rfl
  | cons x l ih =>
    by_cases e : x = p
    · subst e
      rw [if_pos (.head _)]
      exact valV_pos rfl
    · show valV ((Sum.inl (x : Int), V.int (cnt kp x : Nat)) :: comeL kp l) _ = _
      rw [valV_neg (by intro z; exact e (Int.ofNat.inj (Sum.inl.inj z))), ih]
      by_cases m : p ∈ l
      · rw [if_pos m, if_pos (.tail _ m)]
      · rw [if_neg m, if_neg (by intro z; cases z with | head => exact e rfl | tail _ z => exact m z)]
theorem mem_keptN {kp : Nat → Bool} {n a : Nat} : a ∈ keptN kp n ↔ kp a = true ∧ a < n := by
  unfold keptN
  rw [List.mem_filter, List.mem_range]
  exact And.comm
theorem comeE_val {kp : Nat → Bool} {n p : Nat} (k : kp p = true) (l : p < n) : valV (comeE kp n) (Sum.inl (p : Int)) = some (.int (cnt kp p : Nat)) := by
  unfold comeE
  rw [comeL_val, if_pos (mem_keptN.mpr ⟨k, l⟩)]
theorem keptN_len {kp : Nat → Bool} {n : Nat} : (keptN kp n).length ≤ n := by
  unfold keptN
  refine Nat.le_trans (List.length_filter_le _ _) ?_
  rw [List.length_range]; exact Nat.le_refl _
theorem risingI_eq : ∀ {l l' : List Int}, l.Pairwise (· < ·) → l'.Pairwise (· < ·) → (∀ x, x ∈ l ↔ x ∈ l') → l = l'
  | [], [], _, _, _ => rfl
  | [], y :: l', _, _, e => by have := (e y).mpr (.head _); cases this
  | x :: l, [], _, _, e => by have := (e x).mp (.head _); cases this
  | x :: l, y :: l', s, s', e => by
    obtain ⟨s1, s2⟩ := List.pairwise_cons.mp s
    obtain ⟨t1, t2⟩ := List.pairwise_cons.mp s'
    have xy : x = y := by
      have h1 := (e x).mp (.head _)
      have h2 := (e y).mpr (.head _)
      cases h1 with
      | head => rfl
      | tail _ h1 =>
        cases h2 with
        | head => rfl
        | tail _ h2 =>
          have := t1 x h1
          have := s1 y h2
          omega
    subst xy
    rw [risingI_eq s2 t2 fun z => ?_]
    constructor
    · intro mz
      have := (e z).mp (.tail _ mz)
      cases this with
      | head => have := s1 _ mz; omega
      | tail _ q => exact q
    · intro mz
      have := (e z).mpr (.tail _ mz)
      cases this with
      | head => have := t1 _ mz; omega
      | tail _ q => exact q
theorem sorted_places {U : List Nat} {ys : List Int} (nd : U.Nodup) (pm : ys.Perm (U.map fun (n : Nat) => (n : Int))) (st : ys.Pairwise (· ≤ ·)) {kp : Nat → Bool} {n : Nat} (e : ∀ a, a ∈ U ↔ kp a = true ∧ a < n) : ys.map V.int = nats (keptN kp n) := by
  have ndI : (U.map fun (n : Nat) => (n : Int)).Nodup := by
    unfold List.Nodup
    rw [List.pairwise_map]
    exact nd.imp fun h z => h (Int.ofNat.inj z)
  have ndY : ys.Nodup := pm.nodup_iff.mpr ndI
  have r1 : ys.Pairwise (· < ·) := (st.and ndY).imp fun ⟨h1, h2⟩ => by omega
  have r2 : ((keptN kp n).map fun (n : Nat) => (n : Int)).Pairwise (· < ·) := by
    rw [List.pairwise_map]
    exact (range_rising.filter _).imp fun h => by omega
  have := risingI_eq r1 r2 fun x => by
    rw [pm.mem_iff, List.mem_map, List.mem_map]
    constructor
    · rintro ⟨a, ma, rfl⟩; exact ⟨a, mem_keptN.mpr ((e a).mp ma), rfl⟩
    · rintro ⟨a, ma, rfl⟩; exact ⟨a, (e a).mpr (mem_keptN.mp ma), rfl⟩
  rw [this, nats_int]
def toC (kp : Nat → Bool) : Cell → Cell
  | .ref a => .ref (cnt kp a)
  | .str a => .str (cnt kp a)
  | c => c
def toV (kp : Nat → Bool) : Lg04.Value → Lg04.Value
  | .cell c => .cell (toC kp c)
  | v => v
/-- a cell that may be moved -/
def Mov (kp : Nat → Bool) (n : Nat) (c : Cell) : Prop := HeadOk c ∧ ∀ b, at1 c = some b → kp b = true ∧ b < n
theorem same_unlock {H H' : Hp} {d : Addr} {od : Obj} {u : HO} (s : Same (upd H d (.frz od u)) H') (h : H d = some u) : Same H (upd H' d u) := fun b o e => by
  by_cases z : b = d
  · subst z
    rw [upd_same, ← e, h]
  · rw [upd_ne z]
    exact s _ _ (by rw [upd_ne z]; exact e)
theorem rd_same {H H' : Hp} {d : Addr} {u : HO} (r : Rd H d u) (s : Same H H') : Rd H' d u := by
  rcases r with r | ⟨o, r⟩
  · exact .inl (s _ _ r)
  · exact .inr ⟨o, s _ _ r⟩

section
variable {P : Program} {w : World} {K : PySem.W.Frag} {mg : Str → Option Value} {base : PySem.Heap}
abbrev sPC : Stmt := top 45
theorem scPC : FnScope ["views", "kept", "view", "come", "place"] ["views"] (defScope sPC) := ⟨rfl, rfl, rfl, by decide +kernel, rfl, by decide +kernel, by decide +kernel⟩
def spPC (CV : Addr) : Sp := fun vs H Q _ => ∃ (y : Addr) (ks : List Addr) (ws : List Vw) (kp : Nat → Bool) (n : Nat), vs = [.ref y] ∧ H y = some (.lst (ks.map V.ref)) ∧ Vws H CV ks ws ∧ ws.length ≤ 30 ∧ n ≤ 1000 ∧ (∀ a, vKept ws a = true ↔ kp a = true ∧ a < n) ∧
  ∀ H' e, Same H H' → H e = none → H' e = some (.dK (comeE kp n)) → Q (.ref e) H'
theorem ok_pc {CV f : Addr} {fd : FuncData} (D : Dn K mg "places_to_come" sPC ["views"] f fd) (LV : Cv K CV) (len : mg "len" = none) (srt : mg "sorted" = none) : FnOk P w K mg base CX0 1 f fd ["views"] (spPC CV) := by
  refine D.F.ok scPC (fun vs H Q E h => ?_) (fun cdv A outer s H vs Q E hr h => ?_)
  · obtain ⟨y, ks, ws, kp, n, rfl, _⟩ := h
    rfl
  · obtain ⟨y, ks, ws, kp, n, rfl, hy, hw, few, ln, kpe, q⟩ := h
    refine ⟨_, pss_cons (ps_set (i := 1) scPC.nd rfl (Or.inl rfl) pe_dnewK)
      (pss_cons (ps_for PassesOwn.never rfl (pi_list (pv 0)) (pg_name (i := 2) scPC.nd rfl (Or.inl rfl))
        (pss_one (ps_expr (pe_bm PySem.F.plainAttrs_dict PySem.F.slot_dict_update PySem.F.type_dict_update mt_upd (pv 1) (pa_cons (pe_fld (pv 2) rfl) pa_nil)))))
      (pss_cons (ps_set (i := 3) scPC.nd rfl (Or.inl rfl) pe_dnewK)
      (pss_cons (ps_for PassesOwn.never rfl (pi_list (pe_callB (cr_sortD rfl) (by rfl) srt (by decide +kernel) (pa_cons (pv 1) pa_nil))) (pg_name (i := 4) scPC.nd rfl (Or.inl rfl))
        (pss_one (ps_dput (hu_of hr) (pv 3) (pv 4) (pe_callB call_lenD (by rfl) len PySem.boot_len (pa_cons (pv 3) pa_nil)) rfl)))
      (pss_one (ps_ret (pv 3)))))), ?_⟩
    intro d hd
    have sm0 : Same H (upd H d (.dK [])) := same_new hd
    refine ⟨_, rfl, y, rfl, ⟨_, SqL.of (sm0 _ _ hy)⟩, for_list (K := K) (a := y) (xs := ks.map V.ref) (fun i σ H' => ∃ v2 U, σ = [some (.ref y), some (.ref d), v2, none, none] ∧ Same H H' ∧ H' d = some (.dK (entries U)) ∧ U.Nodup ∧ U.length ≤ 1000 * i ∧ ∀ a, a ∈ U ↔ ∃ v, v ∈ ws.take i ∧ a ∈ v.1)
      ⟨none, [], rfl, sm0, upd_same, List.nodup_nil, by simp, fun a => by simp⟩ (fun i σ H' _ ⟨_, _, _, z, _⟩ => SqL.of (z _ _ hy)) ?_ ?_⟩
    · rintro i x σ H1 ei ⟨v2, U, rfl, sm, hd1, nd, lU, mU⟩
      obtain ⟨kq, ek, rfl⟩ := refs_at ei
      obtain ⟨v, ev, hv⟩ := hw.at_ ek
      obtain ⟨dk, dd, hk, hdd, nv, lv⟩ := hv
      have ndd : d ≠ dd := Ne.symm (ne_of_none hdd hd)
      have li : i < 30 := by
        rcases Nat.lt_or_ge i ws.length with z | z
        · omega
        · rw [List.getElem?_eq_none z] at ev; cases ev
      obtain ⟨W, eW, nW, mW⟩ := merge_entries v.1 U nd
      have elen : ∀ l : List Nat, (entries l).length = l.length := fun l => by unfold entries; rw [List.length_map]
      refine ⟨_, rfl, .inr (.inr (.inl ⟨rfl, .inl ⟨_, hd1⟩⟩)), _, rfl, kq, CV, dk, _, _, rfl, sm _ _ hk, LV.cl, LV.ns, vf_seen, d, dd, _, _, rfl, rfl, ndd, hd1, sm _ _ hdd, (by rw [elen, elen]; exact small_line' (by omega)), ?_⟩
      rw [eW]
      refine ⟨_, W, rfl, same_put sm hd, upd_same, nW, ?_, fun a => ?_⟩
      · have := length_mergeK (entries v.1) (entries U)
        rw [eW, elen, elen, elen] at this
        omega
      · rw [mW a, mU a, take_snoc ev]
        constructor
        · rintro (⟨u, mu, ma⟩ | ma)
          · exact ⟨u, List.mem_append_left _ mu, ma⟩
          · exact ⟨v, by simp, ma⟩
        · rintro ⟨u, mu, ma⟩
          rcases List.mem_append.mp mu with mu | mu
          · exact .inl ⟨u, mu, ma⟩
          · simp at mu; subst mu; exact .inr ma
    rintro σ H1 ⟨v2, U, rfl, sm1, hd1, nd, lU, mU⟩
    rw [List.length_map, hw.length, List.take_length] at mU
    have eU : ∀ a, a ∈ U ↔ kp a = true ∧ a < n := fun a => by
      rw [mU a, ← kpe a]
      unfold vKept
      rw [List.any_eq_true]
      constructor
      · rintro ⟨v, mv, ma⟩; exact ⟨v, mv, decide_eq_true ma⟩
      · rintro ⟨v, mv, ma⟩; exact ⟨v, mv, of_decide_eq_true ma⟩
    intro e he
    have ne0 : H e = none := sm1.free he
    have sm2 : Same H1 (upd H1 e (.dK [])) := same_new he
    have he2 : (upd H1 e (.dK [])) e = some (.dK (comeL kp [])) := upd_same
    generalize upd H1 e (.dK []) = H2 at sm2 he2
    refine ⟨_, rfl, d, U, rfl, sm2 _ _ hd1, fun ys z pm st hz => ?_⟩
    rw [sorted_places nd pm st eU]
    have ez : e ≠ z := ne_of_none he2 hz
    have nz : H z = none := (sm1.trans sm2).free hz
    have sm3 : Same H2 (upd H2 z (.lst (nats (keptN kp n)))) := same_new hz
    have hz3 : (upd H2 z (.lst (nats (keptN kp n)))) z = some (.lst (nats (keptN kp n))) := upd_same
    have he3 : (upd H2 z (.lst (nats (keptN kp n)))) e = some (.dK (comeL kp [])) := sm3 _ _ he2
    have s03 := (sm1.trans sm2).trans sm3
    generalize upd H2 z (.lst (nats (keptN kp n))) = H3 at sm3 hz3 he3 s03
    refine ⟨z, rfl, ⟨_, SqL.of hz3⟩, for_list (K := K) (a := z) (xs := nats (keptN kp n)) (fun i σ H' => ∃ v4, σ = [some (.ref y), some (.ref d), v2, some (.ref e), v4] ∧ Same H H' ∧ H' z = some (.lst (nats (keptN kp n))) ∧ H' e = some (.dK (comeL kp ((keptN kp n).take i))))
      ⟨none, rfl, s03, hz3, he3⟩ (fun i σ H' _ ⟨_, _, _, z, _⟩ => SqL.of z) ?_ ?_⟩
    · rintro i x σ H4 ei ⟨v4, rfl, sm4, hz4, he4⟩
      obtain ⟨a, ea, rfl⟩ := nats_at ei
      obtain ⟨ca, ka, la⟩ := cnt_idx (show ((List.range n).filter kp)[i]? = some a from ea)
      have li : i < (keptN kp n).length := by
        rcases Nat.lt_or_ge i (keptN kp n).length with z | z
        · exact z
        · rw [List.getElem?_eq_none z] at ea; cases ea
      have tl : ((keptN kp n).take i).length = i := by rw [List.length_take]; omega
      have cl : (comeL kp ((keptN kp n).take i)).length = i := by unfold comeL; rw [List.length_map]; exact tl
      have na : a ∉ (keptN kp n).take i := fun m => by
        obtain ⟨i', e'⟩ := List.mem_iff_getElem?.mp m
        rw [List.getElem?_take] at e'
        split at e'
        · rename_i li'
          have := (cnt_idx (show ((List.range n).filter kp)[i']? = some a from e')).1
          omega
        · cases e'
      have kn := keptN_len (kp := kp) (n := n)
      refine ⟨_, rfl, e, _, rfl, he4, _, rfl, _, rfl, e, _, rfl, DPut.k (k := Sum.inl (a : Int)) he4 (by rw [cl]; exact small1000 (by omega)), ?_⟩
      refine ⟨_, rfl, same_put sm4 ne0, (by rw [upd_ne (Ne.symm ez)]; exact hz4), ?_⟩
      rw [upd_same, putK_new _ (by rw [comeL_val, if_neg na]), cl, take_snoc ea]
      unfold comeL
      rw [List.map_append, List.map_singleton, ca]
    · rintro σ H4 ⟨v4, rfl, sm4, hz4, he4⟩
      rw [nats_len, List.take_length] at he4
      exact ⟨_, rfl, q H4 e sm4 ne0 he4⟩

/-! moved -/
abbrev sMv : Stmt := top 46
theorem scMv : FnScope ["cell", "come"] ["cell", "come"] (defScope sMv) := ⟨rfl, rfl, rfl, by decide +kernel, rfl, by decide +kernel, by decide +kernel⟩
def spMv : Sp := fun vs H Q _ => ∃ (v : V) (d : Addr) (kp : Nat → Bool) (n : Nat), vs = [v, .ref d] ∧ Rd H d (.dK (comeE kp n)) ∧
  ((v = .non ∧ Q .non H) ∨ ∃ (t : Addr) (c : Cell), v = .ref t ∧ CellIs H t c ∧ Mov kp n c ∧ ∀ H' t', Same H H' → CellIs H' t' (toC kp c) → Q (.ref t') H')
theorem ok_mv {f : Addr} {fd : FuncData} (D : Dn K mg "moved" sMv ["cell", "come"] f fd) (T : Txt K mg) : FnOk P w K mg base CX0 1 f fd ["cell", "come"] spMv := by
  refine D.F.ok scMv (fun vs H Q E h => ?_) (fun cdv A outer s H vs Q E hr h => ?_)
  · obtain ⟨v, d, kp, n, rfl, _⟩ := h
    rfl
  · obtain ⟨v, d, kp, n, rfl, hd, q⟩ := h
    obtain ⟨tp, mgp⟩ := T.place
    obtain ⟨ts, mgs⟩ := T.str
    refine ⟨_, pss_cons (ps_if (PW.pt (pw_or (pt_cmp (pc_isN (pv 0))) (pw_or1 (pt_cmpR op_notIn_seq (pe_ix ix_tup (pv 0) pe_int (fun _ _ => rfl)) (pe_tup (pa_cons (pe_glob (v := .int 0) rfl mgp ⟨_, rfl⟩) (pa_cons (pe_glob (v := .int 2) rfl mgs ⟨_, rfl⟩) pa_nil))) (by rfl))))) (pss_one (ps_ret (pv 0))) pss_nil)
      (pss_one (ps_ret (pe_tup (pa_cons (pe_ix ix_tup (pv 0) pe_int (fun _ _ => rfl)) (pa_cons (pe_dget (hu_of hr) (pv 1) (pe_ix ix_tup (pv 0) pe_int (fun _ _ => rfl)) (fun _ _ => rfl)) pa_nil))))), ?_⟩
    rcases q with ⟨rfl, q⟩ | ⟨t, c, rfl, hc, mv, q⟩
    · exact ⟨_, rfl, _, rfl, iteT (iteT ⟨_, rfl, q⟩)⟩
    · refine ⟨_, rfl, _, rfl, iteF ?_⟩
      refine ⟨_, rfl, t, _, _, _, rfl, rfl, SqT.of hc, enc0, (by show 2 ≤ sizeLine; decide), fun z hz => ?_⟩
      have sm : Same H (upd H z (.tup [.int 0, .int 2])) := same_new hz
      have hz1 : (upd H z (.tup [.int 0, .int 2])) z = some (.tup [.int 0, .int 2]) := upd_same
      generalize upd H z (.tup [.int 0, .int 2]) = H1 at sm hz1
      have hc1 := hc.keep (.of_same sm)
      refine ⟨z, _, rfl, .inr (SqT.of hz1), rfl, rfl, _, rfl, ?_⟩
      have go : ∀ b : Nat, at1 c = some b → n2 c = (b : Int) → (toC kp c = .ref (cnt kp b) ∧ n1 c = 0 ∨ toC kp c = .str (cnt kp b) ∧ n1 c = 2) → (!inV (V.int (n1 c)) [.int 0, .int 2]) = false → 
          (if (!inV (V.int (n1 c)) [.int 0, .int 2]) = true then ∃ v, [some (V.ref t), some (.ref d)][0]? = some (some v) ∧ Q v H1 else (tTup (tCons (tOp (rIxT K) (tVar 0) (tC (.int 0))) (tCons (tDGet (tVar 1) (tOp (rIxT K) (tVar 0) (tC (.int 1)))) tNil))) [some (V.ref t), some (.ref d)] H1 Q) := fun b eb e2 ec ei => by
        refine ifF ei ?_
        obtain ⟨kb, lb⟩ := mv.2 b eb
        have dg : DGet H1 d (V.int (b : Int)) (some (.int (cnt kp b : Nat))) := .inl ⟨_, Sum.inl (b : Int), rd_same hd sm, rfl, (comeE_val kb lb).symm⟩
        refine ⟨_, rfl, t, _, _, _, rfl, rfl, SqT.of hc1, enc0, _, rfl, _, rfl, t, _, _, _, rfl, rfl, SqT.of hc1, enc1, d, _, rfl, (by rw [e2]; exact dg), (by show 2 ≤ sizeLine; decide), fun tn htn => ?_⟩
        refine q _ tn (sm.trans (same_new htn)) ?_
        unfold CellIs
        rw [upd_same]
        rcases ec with ⟨e3, e4⟩ | ⟨e3, e4⟩
        · rw [e3, e4]; rfl
        · rw [e3, e4]; rfl
      cases c with
      | ref a => exact go a rfl rfl (.inl ⟨rfl, rfl⟩) rfl
      | str a => exact go a rfl rfl (.inr ⟨rfl, rfl⟩) rfl
      | con s => exact ifT (by rfl) ⟨_, rfl, q H1 t sm hc1⟩
      | head s k =>
        refine ifT ?_ ⟨_, rfl, q H1 t sm hc1⟩
        have := mv.1 s k rfl
        show (!inV (V.int (2 + (k : Int))) [.int 0, .int 2]) = true
        unfold inV
        simp [eqV]
        omega
end
end Sw
namespace Sw
open PySem PySem.Spec PyProof.Rows
open L2 hiding Walk
open Lg04 (Cell cellAt look within unify same)

def MovR (kp : Nat → Bool) (n : Nat) (rs : List (Option Lg04.Value)) : Prop := ∀ v, v ∈ rs → v = none ∨ ∃ c, v = some (.cell c) ∧ Mov kp n c
def regsK (kp : Nat → Bool) (rs : List (Option Lg04.Value)) : List (Option Lg04.Value) := rs.map fun v => v.map (toV kp)
theorem RVals.snocN {H : Hp} {vs : List V} {rs : List (Option Lg04.Value)} (x : RVals H vs rs) : RVals H (vs ++ [.non]) (rs ++ [none]) := by
  induction x with
  | nil => exact .emp .nil
  | emp _ ih => exact .emp ih
  | cel h _ ih => exact .cel h ih
theorem RVals.snocC {H : Hp} {vs : List V} {rs : List (Option Lg04.Value)} (x : RVals H vs rs) {t : Addr} {c : Cell} (h : CellIs H t c) : RVals H (vs ++ [.ref t]) (rs ++ [some (.cell c)]) := by
  induction x with
  | nil => exact .cel h .nil
  | emp _ ih => exact .emp ih
  | cel h' _ ih => exact .cel h' ih
theorem come_at {kp : Nat → Bool} {n i : Nat} {k : Key} {v : V} (e : (comeE kp n)[i]? = some (k, v)) : ∃ a, (keptN kp n)[i]? = some a ∧ k = Sum.inl (a : Int) := by
  unfold comeE comeL at e
  rw [List.getElem?_map] at e
  cases ea : (keptN kp n)[i]? with
  | none => rw [ea] at e; cases e
  | some a =>
    rw [ea] at e
    have := Option.some.inj e
    exact ⟨a, rfl, (Prod.mk.inj this).1.symm⟩
theorem come_len {kp : Nat → Bool} {n : Nat} : (comeE kp n).length = (keptN kp n).length := by unfold comeE comeL; rw [List.length_map]

section
variable {P : Program} {w : World} {K : PySem.W.Frag} {mg : Str → Option Value} {base : PySem.Heap}
abbrev sMC : Stmt := top 47
theorem scMC : FnScope ["choice", "come", "staying", "heap_length", "trail_length", "place", "at", "cell"] ["choice", "come", "staying"] (defScope sMC) := ⟨rfl, rfl, rfl, by decide +kernel, rfl, by decide +kernel, by decide +kernel⟩
def spMC (CC : Addr) : Sp := fun vs H Q _ => ∃ (q dq g e z : Addr) (i j n : Nat) (rs : List (Option Lg04.Value)) (kp : Nat → Bool) (sl : List Nat), vs = [.ref q, .ref e, .ref z] ∧ H q = some (.ins CC dq (cf g i j)) ∧ RegsIs H g rs ∧ rs.length ≤ 16 ∧ H e = some (.dK (comeE kp n)) ∧ n ≤ 1000 ∧ H z = some (.lst (nats sl)) ∧ sl.length ≤ 1000 ∧ MovR kp n rs ∧
  ∀ H' q' dq' g', Same H H' → H q' = none → H g' = none → H' q' = some (.ins CC dq' (cf g' ((keptN kp n).filter fun a => decide (a < i)).length (sl.filter fun a => decide (a < j)).length)) → RegsIs H' g' (regsK kp rs) → Q (.ref q') H'
theorem ok_mc {C CC f fI fM : Addr} {fd fdI fdM : FuncData} (D : Dn K mg "moved_choice" sMC ["choice", "come", "staying"] f fd) (L : Cl K C CC) (len : mg "len" = none)
    (GM : FnOk P w K mg base CX0 1 fM fdM ["cell", "come"] spMv) (DM : Dn K mg "moved" sMv ["cell", "come"] fM fdM)
    (mgC : mg "Choice" = some (.ref CC)) (M : Mk K CC fI) (GI : FnOk P w K mg base CX0 1 fI fdI ["self", "registers", "heap_length", "trail_length"] (spCI CC)) (bI : Binds K fdI ["self", "registers", "heap_length", "trail_length"] []) :
    FnOk P w K mg base CX0 3 f fd ["choice", "come", "staying"] (spMC CC) := by
  refine D.F.ok scMC (fun vs H Q E h => ?_) (fun cdv A outer s H vs Q E hr h => ?_)
  · obtain ⟨q, dq, g, e, z, i, j, n, rs, kp, sl, rfl, _⟩ := h
    rfl
  · obtain ⟨q, dq, g, e, z, i, j, n, rs, kp, sl, rfl, hq, hg, l16, he, ln, hz, lsl, mr, k⟩ := h
    have hr1 : Room 1 _ := hr.mono (by decide)
    refine ⟨_, pss_cons (ps_set (i := 3) scMC.nd rfl (Or.inl rfl) (pe_callB call_len_seq (by rfl) len PySem.boot_len (pa_cons (pe_lock (pe_lc (own := [("place", 5)]) (g := gName 5) (tt := tTest (tOp (rI0 fun i j => .bl (decide (i < j))) (tVar 5) (tFld K (tVar 0) "heap_length"))) (te := tVar 5) rfl scMC.nd (pi_keys (pv 1)) (blkOk_by (N := ["choice", "come", "staying", "heap_length", "trail_length", "place", "at", "cell"]) (sc := defScope sMC) (by decide +kernel))
          (fun _ _ _ _ _ => pg_name (i := 5) scMC.nd rfl (Or.inl rfl)) (fun _ _ _ _ _ => pts_one (pt_cmpR op_lt (pv 5) (pe_fld (pv 0) rfl) (nomark _))) (fun _ _ _ _ _ => pv 5))) pa_nil)))
      (pss_cons (ps_set (i := 4) scMC.nd rfl (Or.inl rfl) (pe_callB call_len_seq (by rfl) len PySem.boot_len (pa_cons (pe_lc (own := [("at", 6)]) (g := gName 6) (tt := tTest (tOp (rI0 fun i j => .bl (decide (i < j))) (tVar 6) (tFld K (tVar 0) "trail_length"))) (te := tVar 6) rfl scMC.nd (pi_list (pv 2)) (blkOk_by (N := ["choice", "come", "staying", "heap_length", "trail_length", "place", "at", "cell"]) (sc := defScope sMC) (by decide +kernel))
          (fun _ _ _ _ _ => pg_name (i := 6) scMC.nd rfl (Or.inl rfl)) (fun _ _ _ _ _ => pts_one (pt_cmpR op_lt (pv 6) (pe_fld (pv 0) rfl) (nomark _))) (fun _ _ _ _ _ => pv 6)) pa_nil)))
      (pss_one (ps_ret (pe_make M GI hr rfl mgC bI .nil pass0 (pa_cons (pe_lc (own := [("cell", 7)]) (g := gName 7) (tt := tYes) (te := tCall spMv [] E0 (tCons (tVar 7) (tCons (tVar 1) tNil))) rfl scMC.nd (pi_list (pe_fld (pv 0) rfl)) (blkOk_by (N := ["choice", "come", "staying", "heap_length", "trail_length", "place", "at", "cell"]) (sc := defScope sMC) (by decide +kernel))
          (fun _ _ _ _ _ => pg_name (i := 7) scMC.nd rfl (Or.inl rfl)) (fun _ _ _ _ _ => pts_nil) (fun _ _ _ _ _ => pe_call GM hr1 rfl DM.m DM.F.kp DM.b .nil pass0 (pa_cons (pv 7) (pa_cons (pv 1) pa_nil)))) (pa_cons (pv 3) (pa_cons (pv 4) pa_nil))))))), ?_⟩
    -- the heap's length
    refine ⟨e, _, he, trivial, fun od => ?_⟩
    have qe : q ≠ e := ne_of hq he (fun z => nomatch z)
    have hqL : (upd H e (.frz od (.dK (comeE kp n)))) q = some (.ins CC dq (cf g i j)) := by rw [upd_ne qe]; exact hq
    have heL : (upd H e (.frz od (.dK (comeE kp n)))) e = some (.frz od (.dK (comeE kp n))) := upd_same
    generalize eHL : upd H e (.frz od (.dK (comeE kp n))) = HL at hqL heL
    have kn := keptN_len (kp := kp) (n := n)
    refine ⟨_, rfl, e, od, rfl, .inl ⟨_, heL, fun d hd => ?_⟩⟩
    refine lc_it (L2.walk_keys) (fun a H' => Same HL H' ∧ H' d = some (.lst (nats (((keptN kp n).take a).filter fun a => decide (a < i))))) ⟨same_new hd, upd_same⟩ (fun a H' _ z => z.1 _ _ heL) ?_ ?_
    · rintro a x H0 H1 la ⟨sm, h1⟩ ⟨rfl, kk, vv, ek, rfl⟩
      obtain ⟨b, eb, rfl⟩ := come_at ek
      refine ⟨rfl, ?_⟩
      rw [come_len] at la
      refine ⟨_, rfl, _, rfl, q, CC, dq, _, _, rfl, sm _ _ hqL, L.ccl, L.cnh, cf_heap, _, _, rfl, rfl, _, rfl, ?_⟩
      rw [take_snoc eb, List.filter_append, List.filter_cons, dec_lt]
      by_cases lb : b < i
      · refine ifT (decide_eq_true lb) ⟨_, rfl, _, h1, ?_, ?_⟩
        · rw [nats_len]
          refine small1000 (Nat.le_trans (List.length_filter_le _ _) ?_)
          rw [List.length_take]; omega
        · refine ⟨same_put sm hd, ?_⟩
          rw [upd_same, if_pos (decide_eq_true lb)]
          unfold nats
          rw [List.map_append]
          rfl
      · refine ifF (decide_eq_false lb) ⟨sm, ?_⟩
        rw [if_neg (by simpa using lb), List.filter_nil, List.append_nil]
        exact h1
    rintro H1 ⟨sm1, h1⟩
    rw [come_len, List.take_length] at h1
    refine ⟨sm1 _ _ heL, ?_⟩
    have smU : Same H (upd H1 e (.dK (comeE kp n))) := same_unlock (od := od) (by rw [eHL]; exact sm1) he
    have de : d ≠ e := Ne.symm (ne_of_none heL hd)
    have h1U : (upd H1 e (.dK (comeE kp n))) d = some (.lst (nats ((keptN kp n).filter fun a => decide (a < i)))) := by rw [upd_ne de]; exact h1
    generalize upd H1 e (.dK (comeE kp n)) = H2 at smU h1U
    refine ⟨d, _, rfl, .inl (SqL.of h1U), ?_⟩
    rw [nats_len]
    -- the trail's length
    refine ⟨_, rfl, z, rfl, ⟨_, SqL.of (smU _ _ hz)⟩, fun d2 hd2 => ?_⟩
    refine lc_list (K := K) (a := z) (xs := nats sl) (fun a H' => Same H2 H' ∧ H' d2 = some (.lst (nats ((sl.take a).filter fun a => decide (a < j))))) ⟨same_new hd2, upd_same⟩ (fun a H' _ w => SqL.of (w.1 _ _ (smU _ _ hz))) ?_ ?_
    · rintro a x H3 ea ⟨sm, h3⟩
      obtain ⟨b, eb, rfl⟩ := nats_at ea
      refine ⟨rfl, ?_⟩
      refine ⟨_, rfl, _, rfl, q, CC, dq, _, _, rfl, sm _ _ (smU _ _ hq), L.ccl, L.cnt, cf_trail, _, _, rfl, rfl, _, rfl, ?_⟩
      rw [take_snoc eb, List.filter_append, List.filter_cons, dec_lt]
      by_cases lb : b < j
      · refine ifT (decide_eq_true lb) ⟨_, rfl, _, h3, ?_, ?_⟩
        · rw [nats_len]
          refine small1000 (Nat.le_trans (List.length_filter_le _ _) ?_)
          rw [List.length_take]; omega
        · refine ⟨same_put sm hd2, ?_⟩
          rw [upd_same, if_pos (decide_eq_true lb)]
          unfold nats
          rw [List.map_append]
          rfl
      · refine ifF (decide_eq_false lb) ⟨sm, ?_⟩
        rw [if_neg (by simpa using lb), List.filter_nil, List.append_nil]
        exact h3
    rintro H3 ⟨sm3, h3⟩
    rw [nats_len, List.take_length] at h3
    refine ⟨d2, _, rfl, .inl (SqL.of h3), ?_⟩
    rw [nats_len]
    have s03 := smU.trans sm3
    -- the registers
    obtain ⟨vg, hgv, rv⟩ := hg
    have hgv3 := s03 _ _ hgv
    refine ⟨_, rfl, q, CC, dq, _, _, rfl, s03 _ _ hq, L.ccl, L.cnr, cf_regs, g, rfl, ⟨_, SqL.of hgv3⟩, fun d3 hd3 => ?_⟩
    refine lc_list (K := K) (a := g) (xs := vg) (fun a H' => Same H3 H' ∧ ∃ us, H' d3 = some (.lst us) ∧ RVals H' us (regsK kp (rs.take a))) ⟨same_new hd3, [], upd_same, .nil⟩ (fun a H' _ w => SqL.of (w.1 _ _ hgv3)) ?_ ?_
    · rintro a x H4 ea ⟨sm, us, h4, rv4⟩
      refine ⟨rfl, ?_⟩
      unfold tYes
      refine iteT ?_
      have la : a < 16 := by
        rcases Nat.lt_or_ge a vg.length with z | z
        · rw [rv.length] at z; omega
        · rw [List.getElem?_eq_none z] at ea; cases ea
      have ul : us.length ≤ 16 := by
        rw [rv4.length]
        unfold regsK
        rw [List.length_map, List.length_take]; omega
      have s04 := s03.trans sm
      refine ⟨_, rfl, _, rfl, x, e, kp, n, rfl, .inl (s04 _ _ he), ?_⟩
      rcases rvals_some rv ea with ⟨rfl, er⟩ | ⟨t, c, rfl, er, ht⟩
      · refine .inl ⟨rfl, _, h4, small1000 (by omega), same_put sm hd3, us ++ [.non], upd_same, ?_⟩
        have tu : Tups H4 (upd H4 d3 (.lst (us ++ [.non]))) := Tups.lst h4
        rw [take_snoc er]
        unfold regsK at rv4 ⊢
        rw [List.map_append]
        exact (rv4.keep tu).snocN
      · refine .inr ⟨t, c, rfl, ht.keep (.of_same s04), ?_, fun H5 t' sm5 hc5 => ?_⟩
        · rcases mr _ (List.mem_of_getElem? er) with w | ⟨c', ec, mv⟩
          · cases w
          · cases ec; exact mv
        · have h5 := sm5 _ _ h4
          refine ⟨_, h5, small1000 (by omega), same_put (sm.trans sm5) hd3, us ++ [.ref t'], upd_same, ?_⟩
          have tu : Tups H5 (upd H5 d3 (.lst (us ++ [.ref t']))) := Tups.lst h5
          rw [take_snoc er]
          unfold regsK at rv4 ⊢
          rw [List.map_append]
          exact ((rv4.keep (.of_same sm5)).keep tu).snocC (hc5.keep tu)
    rintro H4 ⟨sm4, us, h4, rv4⟩
    rw [rv.length, List.take_length] at rv4
    have s04 := s03.trans sm4
    refine ⟨_, rfl, _, rfl, ?_⟩
    intro q' dq' hq' hdq' ne'
    refine ⟨q', dq', d3, _, _, rfl, upd_same, fun H5 h5 k5 => ⟨rfl, ?_⟩⟩
    have sm5 : Same H4 H5 := Same.made hq' hdq' k5
    exact k H5 q' dq' d3 (s04.trans sm5) (s04.free hq') (s03.free hd3) h5 ⟨us, sm5 _ _ h4, rv4.keep (.of_same sm5)⟩

/-! swept_heap -/
abbrev sSH : Stmt := top 48
theorem scSH : FnScope ["heap", "unbound", "come", "left", "place"] ["heap", "unbound", "come"] (defScope sSH) := ⟨rfl, rfl, rfl, by decide +kernel, rfl, by decide +kernel, by decide +kernel⟩
def spSH : Sp := fun vs H Q _ => ∃ (l u e : Addr) (h : Lg04.Heap) (ub : List Nat) (kp : Nat → Bool), vs = [.ref l, .ref u, .ref e] ∧ HeapIs H l h ∧ h.size ≤ 1000 ∧ H u = some (.lst (nats ub)) ∧ (∀ a, a ∈ ub → a < h.size) ∧ H e = some (.dK (comeE kp h.size)) ∧ (∀ a, kp a = true → a < h.size → Mov kp h.size (cellAt (undo ub h) a)) ∧
  ∀ H' y ts, Same H H' → H y = none → H' y = some (.lst (ts.map V.ref)) → Cells H' ts ((keptN kp h.size).map fun a => toC kp (cellAt (undo ub h) a)) → Q (.ref y) H'
theorem ok_sh {f fM : Addr} {fd fdM : FuncData} (D : Dn K mg "swept_heap" sSH ["heap", "unbound", "come"] f fd) (T : Txt K mg) (lst : mg "list" = none)
    (GM : FnOk P w K mg base CX0 1 fM fdM ["cell", "come"] spMv) (DM : Dn K mg "moved" sMv ["cell", "come"] fM fdM) : FnOk P w K mg base CX0 2 f fd ["heap", "unbound", "come"] spSH := by
  refine D.F.ok scSH (fun vs H Q E h => ?_) (fun cdv A outer s H vs Q E hr h => ?_)
  · obtain ⟨l, u, e, h, ub, kp, rfl, _⟩ := h
    rfl
  · obtain ⟨l, u, e, h, ub, kp, rfl, hh, hs, hu, small, he, mv, k⟩ := h
    obtain ⟨tp, mgp⟩ := T.place
    refine ⟨_, pss_cons (ps_set (i := 3) scSH.nd rfl (Or.inr rfl) (pe_callTy call_list_of (by rfl) lst (by decide +kernel) (pa_cons (pv 0) pa_nil)))
      (pss_cons (ps_for PassesOwn.never rfl (pi_list (pv 1)) (pg_name (i := 4) scSH.nd rfl (Or.inl rfl))
        (pss_one (ps_asg (pe_tup (pa_cons (pe_glob (v := .int 0) rfl mgp ⟨_, rfl⟩) (pa_cons (pv 4) pa_nil))) (pg_sub (pv 3) (pv 4) set_list))))
      (pss_one (ps_ret (pe_lock (pe_lc (own := [("place", 4)]) (g := gName 4) (tt := tYes) (te := tCall spMv [] E0 (tCons (tOp (rIxL K) (tVar 3) (tVar 4)) (tCons (tVar 2) tNil))) rfl scSH.nd (pi_keys (pv 2)) (blkOk_by (N := ["heap", "unbound", "come", "left", "place"]) (sc := defScope sSH) (by decide +kernel))
          (fun _ _ _ _ _ => pg_name (i := 4) scSH.nd rfl (Or.inl rfl)) (fun _ _ _ _ _ => pts_nil) (fun _ _ _ _ _ => pe_call GM hr rfl DM.m DM.F.kp DM.b .nil pass0 (pa_cons (pe_ix (r := rIxL K) ix_list (pv 3) (pv 4) (fun _ _ => rfl)) (pa_cons (pv 2) pa_nil)))))))), ?_⟩
    obtain ⟨ts, hl, hc⟩ := hh
    refine ⟨_, rfl, l, _, rfl, .inl (SqL.of hl), fun y hy => ?_⟩
    have sm : Same H (upd H y (.lst (ts.map V.ref))) := same_new hy
    have hy1 : (upd H y (.lst (ts.map V.ref))) y = some (.lst (ts.map V.ref)) := upd_same
    generalize upd H y (.lst (ts.map V.ref)) = H1 at sm hy1
    refine ⟨_, rfl, u, rfl, ⟨_, SqL.of (sm _ _ hu)⟩, for_list (K := K) (a := u) (xs := nats ub) (fun n σ H' => ∃ v4, σ = [some (.ref l), some (.ref u), some (.ref e), some (.ref y), v4] ∧ Same H H' ∧ HeapIs H' y (undo (ub.take n) h))
      ⟨none, rfl, sm, ts, hy1, hc.keep (.of_same sm)⟩ (fun n σ H' _ ⟨_, _, z, _⟩ => SqL.of (z _ _ hu)) ?_ ?_⟩
    · rintro n x σ H3 en ⟨v4, rfl, sm3, us, hy3, hc3⟩
      obtain ⟨a, ea, rfl⟩ := nats_at en
      have la : a < h.size := small a (List.mem_of_getElem? ea)
      refine ⟨_, rfl, (by show 2 ≤ sizeLine; decide), fun tc htc => ?_⟩
      have sm4 : Same H3 (upd H3 tc (.tup [.int 0, .int a])) := same_new htc
      have ct : CellIs (upd H3 tc (.tup [.int 0, .int a])) tc (.ref a) := upd_same
      generalize upd H3 tc (.tup [.int 0, .int a]) = H4 at sm4 ct
      have ul : us.length = h.size := by rw [hc3.length, Array.length_toList, undo_size]
      refine ⟨_, rfl, _, rfl, y, _, _, a, rfl, rfl, sm4 _ _ hy3, ixN_nat (by rw [List.length_map]; omega), ?_⟩
      refine ⟨_, rfl, same_put (sm3.trans sm4) hy, ?_⟩
      rw [take_snoc ea, undo_snoc]
      exact HeapIs.put (sm4 _ _ hy3) (hc3.keep (.of_same sm4)) ct a
    rintro σ H3 ⟨v4, rfl, sm3, hh3⟩
    rw [nats_len, List.take_length] at hh3
    have he3 := sm3 _ _ he
    refine ⟨e, _, he3, trivial, fun od => ?_⟩
    have tuL : Tups H3 (upd H3 e (.frz od (.dK (comeE kp h.size)))) := fun b xs eb => by rw [upd_ne (ne_of eb he3 (fun z => nomatch z))]; exact eb
    have hhL : HeapIs (upd H3 e (.frz od (.dK (comeE kp h.size)))) y (undo ub h) := by
      obtain ⟨us, e1, e2⟩ := hh3
      exact ⟨us, by rw [upd_ne (ne_of e1 he3 (fun z => nomatch z))]; exact e1, e2.keep tuL⟩
    have heL : (upd H3 e (.frz od (.dK (comeE kp h.size)))) e = some (.frz od (.dK (comeE kp h.size))) := upd_same
    generalize eHL : upd H3 e (.frz od (.dK (comeE kp h.size))) = HL at hhL heL
    have kn := keptN_len (kp := kp) (n := h.size)
    refine ⟨_, rfl, e, od, rfl, .inl ⟨_, heL, fun d hd => ?_⟩⟩
    refine lc_it (L2.walk_keys) (fun a H' => Same HL H' ∧ ∃ us, H' d = some (.lst (us.map V.ref)) ∧ Cells H' us (((keptN kp h.size).take a).map fun a => toC kp (cellAt (undo ub h) a))) ⟨same_new hd, [], upd_same, .nil⟩ (fun a H' _ z => z.1 _ _ heL) ?_ ?_
    · rintro a x H0 H4 la ⟨sm4, us, h4, c4⟩ ⟨rfl, kk, vv, ek, rfl⟩
      obtain ⟨b, eb, rfl⟩ := come_at ek
      obtain ⟨kb, lb⟩ := mem_keptN.mp (List.mem_of_getElem? eb)
      rw [come_len] at la
      refine ⟨rfl, ?_⟩
      unfold tYes
      refine iteT ?_
      obtain ⟨vs5, t5, hv5, hat5, ht5⟩ := (hhL.same sm4).item (a := b) (by rw [undo_size]; exact lb)
      refine ⟨_, rfl, _, rfl, y, vs5, _, _, rfl, rfl, SqL.of hv5, hat5, _, rfl, _, e, kp, h.size, rfl, .inr ⟨od, sm4 _ _ heL⟩, .inr ⟨t5, _, rfl, ht5, mv b kb lb, fun H5 t' sm5 hc5 => ?_⟩⟩
      have h5 := sm5 _ _ h4
      have tu : Tups H5 (upd H5 d (.lst (us.map V.ref ++ [.ref t']))) := Tups.lst h5
      refine ⟨_, h5, ?_, same_put (sm4.trans sm5) hd, us ++ [t'], (by rw [upd_same, List.map_append]; rfl), ?_⟩
      · rw [List.length_map, c4.length, List.length_map, List.length_take]
        exact small1000 (by omega)
      · rw [take_snoc eb, List.map_append]
        exact ((c4.keep (.of_same sm5)).keep tu).append (.cons (hc5.keep tu) .nil)
    rintro H4 ⟨sm4, us, h4, c4⟩
    rw [come_len, List.take_length] at c4
    refine ⟨sm4 _ _ heL, ?_⟩
    have he4 := sm4 _ _ heL
    have de : d ≠ e := Ne.symm (ne_of_none heL hd)
    have smU : Same H3 (upd H4 e (.dK (comeE kp h.size))) := same_unlock (od := od) (by rw [eHL]; exact sm4) he3
    have nd : H3 d = none := by
      cases w : H3 d with
      | none => rfl
      | some o =>
        rw [← eHL, upd_ne de, w] at hd
        cases hd
    refine k _ d us (sm3.trans smU) (sm3.free nd) (by rw [upd_ne de]; exact h4) (c4.keep fun b xs eb => ?_)
    rw [upd_ne (ne_of eb he4 (fun z => nomatch z))]
    exact eb
end
end Sw
namespace Sw
open PySem PySem.Spec PyProof.Rows
open L2 hiding Walk
open Lg04 (Cell cellAt look within unify same)

theorem in_nats {l : List Nat} {a : Nat} : inV (V.int (a : Int)) (nats l) = decide (a ∈ l) := by
  unfold inV nats
  induction l with
  | nil => rfl
  | cons x l ih =>
    rw [List.map_cons, List.any_cons, ih]
    show (((x : Int) == (a : Int)) || _) = _
    by_cases e : x = a
    · subst e
      simp
    · have : ((x : Int) == (a : Int)) = false := by rw [beq_eq_false_iff_ne]; intro z; exact e (Int.ofNat.inj z)
      rw [this, Bool.false_or]
      congr 1
      apply propext
      constructor
      · intro m; exact .tail _ m
      · intro m
        cases m with
        | head => exact absurd rfl e
        | tail _ m => exact m
theorem nats_flat {l : List Nat} : (nats l).all flatV = true := by
  unfold nats
  rw [List.all_map, List.all_eq_true]
  intro x _
  rfl
theorem nats_snoc {l : List Nat} {a : Nat} : nats l ++ [V.int (a : Int)] = nats (l ++ [a]) := by
  unfold nats
  rw [List.map_append]
  rfl
section
variable {m : Lg04.M} (I : Inv m)
include I
theorem toC_eq {c : Cell} (k : ∀ b, at1 c = some b → Lg06.kept (Lg06.sight m) b = true) : toC (Lg06.kept (Lg06.sight m)) c = Lg06.cellTo (Lg06.places m (Lg06.sight m)) c := by
  cases c with
  | ref a => show Cell.ref _ = Cell.ref _; rw [place_kept I (k a rfl)]
  | str a => show Cell.str _ = Cell.str _; rw [place_kept I (k a rfl)]
  | con s => rfl
  | head s k => rfl
theorem regs_mov {h : Lg04.Heap} {rs : List (Option Lg04.Value)} (ro : RegsOk h rs) (up : ∀ b, Lg06.isSeen (Lg06.seen (h, rs)) b = true → Lg06.kept (Lg06.sight m) b = true) :
    MovR (Lg06.kept (Lg06.sight m)) m.heap.size rs ∧ regsK (Lg06.kept (Lg06.sight m)) rs = Lg06.regsTo (Lg06.places m (Lg06.sight m)) rs := by
  have key : ∀ c, some (Lg04.Value.cell c) ∈ rs → ∀ b, at1 c = some b → Lg06.kept (Lg06.sight m) b = true := fun c mc b eb => up b (regs_to ro mc eb)
  refine ⟨fun v mv => ?_, ?_⟩
  · rcases ro.2 v mv with rfl | ⟨c, rfl, g⟩
    · exact .inl rfl
    · exact .inr ⟨c, rfl, g.headOk, fun b eb => ⟨key c mv b eb, kept_lt I (key c mv b eb)⟩⟩
  · unfold regsK Lg06.regsTo
    apply List.map_congr_left
    intro v mv
    rcases ro.2 v mv with rfl | ⟨c, rfl, g⟩
    · rfl
    · show some (Lg04.Value.cell _) = some (Lg04.Value.cell _)
      rw [toC_eq I (key c mv)]
theorem kept_mov {a : Nat} (k : Lg06.kept (Lg06.sight m) a = true) : Mov (Lg06.kept (Lg06.sight m)) m.heap.size (cellAt (Lg06.reset m (Lg06.sight m)) a) :=
  ⟨kept_head I k, fun _ eb => ⟨kept_to I k eb, kept_lt I (kept_to I k eb)⟩⟩
theorem swept_cells : (keptN (Lg06.kept (Lg06.sight m)) m.heap.size).map (fun a => toC (Lg06.kept (Lg06.sight m)) (cellAt (Lg06.reset m (Lg06.sight m)) a)) = (Lg06.swept m).heap.toList := by
  show _ = ((((List.range m.heap.size).filter (Lg06.kept (Lg06.sight m))).map fun (a : Nat) => Lg06.cellTo (Lg06.places m (Lg06.sight m)) (cellAt (Lg06.reset m (Lg06.sight m)) a)).toArray).toList
  rw [List.toList_toArray]
  apply List.map_congr_left
  intro a ma
  exact toC_eq I fun b eb => kept_to I (mem_keptN.mp ma).1 eb
theorem swept_trailV : trailV (Lg06.swept m).trail = nats ((stayL m).map fun j => cnt (Lg06.kept (Lg06.sight m)) (tr m j)) := by
  rw [trailV_nats, swept_trail_list]
  congr 1
  apply List.map_congr_left
  intro j mj
  unfold stayL boundL at mj
  exact place_kept I (bound_kept (List.mem_filter.mp (List.mem_filter.mp mj).1).2)
theorem moved_lens {b : Lg04.Choice} (mb : b ∈ m.choices) : ((keptN (Lg06.kept (Lg06.sight m)) m.heap.size).filter fun a => decide (a < b.heap)).length = (moved m b).heap ∧ ((stayL m).filter fun j => decide (j < b.trail)).length = (moved m b).trail := by
  refine ⟨?_, (moved_trail_list m b).symm⟩
  rw [moved_heap I mb]
  unfold keptN
  rw [filter_below (I.low b mb).1]
  rfl
end
theorem swept_chs {m : Lg04.M} : (Lg06.swept m).choices = m.choices.map (moved m) := rfl
def unbL (m : Lg04.M) : List Nat := ((List.range m.trail.length).filter fun j => !decide (j ∈ boundL m)).map (tr m)
theorem mem_unbL {m : Lg04.M} {x : Nat} : x ∈ unbL m ↔ ∃ j, (x, j) ∈ Lg06.oldest m ∧ Lg06.seenBound m (Lg06.sight m) x j = false := by
  unfold unbL
  rw [List.mem_map]
  constructor
  · rintro ⟨j, mj, rfl⟩
    obtain ⟨m1, m2⟩ := List.mem_filter.mp mj
    refine ⟨j, mem_old.mpr ⟨List.mem_range.mp m1, rfl⟩, ?_⟩
    cases e : Lg06.seenBound m (Lg06.sight m) (tr m j) j with
    | false => rfl
    | true =>
      have : j ∈ boundL m := List.mem_filter.mpr ⟨m1, e⟩
      rw [decide_eq_true this] at m2
      cases m2
  · rintro ⟨j, mj, e⟩
    obtain ⟨l, rfl⟩ := mem_old.mp mj
    refine ⟨j, List.mem_filter.mpr ⟨List.mem_range.mpr l, ?_⟩, rfl⟩
    have : j ∉ boundL m := fun z => by
      have := (List.mem_filter.mp z).2
      rw [e] at this
      cases this
    rw [decide_eq_false this]
    rfl
theorem tr_nats {m : Lg04.M} {j : Nat} (l : j < m.trail.length) : atI (trailV m.trail) (j : Int) = some (.int (tr m j)) := nats_get (tr_at l)

section
variable {P : Program} {w : World} {K : PySem.W.Frag} {mg : Str → Option Value} {base : PySem.Heap}
abbrev sSw : Stmt := top 49
abbrev nSw : List Str := ["machine", "views", "come", "trail", "bound", "unbound", "staying", "at", "cell", "choice"]
theorem scSw : FnScope nSw ["machine"] (defScope sSw) := ⟨rfl, rfl, rfl, by decide +kernel, rfl, by decide +kernel, by decide +kernel⟩
def spSw (C CC : Addr) : Sp := fun vs H Q _ => ∃ (p dx l r t c : Addr) (qs gs : List Addr) (m : Lg04.M), vs = [.ref p] ∧ Mach C CC H p dx l r t c qs gs m ∧ Inv m ∧ m.heap.size ≤ 900 ∧
  ∀ H' l' r' t' c' qs' gs', Mach C CC H' p dx l' r' t' c' qs' gs' (Lg06.swept m) → (∀ b, b ∈ own p l' r' t' c' qs' gs' → b = p ∨ H b = none) → But [p] H H' → Q .non H'
theorem ok_sw {C CC CV f fA fP fB fF fS fM fMC : Addr} {fd fdA fdP fdB fdF fdS fdM fdMC : FuncData} (D : Dn K mg "sweep" sSw ["machine"] f fd) (L : Cl K C CC) (len : mg "len" = none) (rng : mg "range" = none)
    (GA : FnOk P w K mg base CX0 4 fA fdA ["machine"] (spAll C CC CV)) (DA : Dn K mg "all_views" sAll ["machine"] fA fdA)
    (GP : FnOk P w K mg base CX0 1 fP fdP ["views"] (spPC CV)) (DP : Dn K mg "places_to_come" sPC ["views"] fP fdP)
    (GB : FnOk P w K mg base CX0 2 fB fdB ["views", "trail", "at"] (spSB CV vBound)) (DB : Dn K mg "is_seen_bound" sSB ["views", "trail", "at"] fB fdB)
    (GF : FnOk P w K mg base CX0 2 fF fdF ["views", "trail", "at"] (spSB CV vFree)) (DF : Dn K mg "is_seen_free" sSF ["views", "trail", "at"] fF fdF)
    (GS : FnOk P w K mg base CX0 2 fS fdS ["heap", "unbound", "come"] spSH) (DS : Dn K mg "swept_heap" sSH ["heap", "unbound", "come"] fS fdS)
    (GM : FnOk P w K mg base CX0 1 fM fdM ["cell", "come"] spMv) (DM : Dn K mg "moved" sMv ["cell", "come"] fM fdM)
    (GC : FnOk P w K mg base CX0 3 fMC fdMC ["choice", "come", "staying"] (spMC CC)) (DC : Dn K mg "moved_choice" sMC ["choice", "come", "staying"] fMC fdMC) :
    FnOk P w K mg base CX0 5 f fd ["machine"] (spSw C CC) := by
  refine D.F.ok scSw (fun vs H Q E h => ?_) (fun cdv A outer s H vs Q E hr h => ?_)
  · obtain ⟨p, dx, l, r, t, c, qs, gs, m, rfl, _⟩ := h
    rfl
  · obtain ⟨p, dx, l, r, t, c, qs, gs, m, rfl, R, I, hs, k⟩ := h
    have hr1 : Room 1 _ := hr.mono (by decide)
    have hr2 : Room 2 _ := hr.mono (by decide)
    have hr3 : Room 3 _ := hr.mono (by decide)
    refine ⟨_, pss_cons (ps_set (i := 1) scSw.nd rfl (Or.inr rfl) (pe_call GA hr rfl DA.m DA.F.kp DA.b .nil pass0 (pa_cons (pv 0) pa_nil)))
      (pss_cons (ps_set (i := 2) scSw.nd rfl (Or.inr rfl) (pe_call GP hr1 rfl DP.m DP.F.kp DP.b .nil pass0 (pa_cons (pv 1) pa_nil)))
      (pss_cons (ps_set (i := 3) scSw.nd rfl (Or.inr rfl) (pe_fld (pv 0) rfl))
      (pss_cons (ps_set (i := 4) scSw.nd rfl (Or.inr rfl) (pe_lc (own := [("at", 7)]) (g := gName 7) (tt := tB (tCall (spSB CV vBound) [] E0 (tCons (tVar 1) (tCons (tVar 3) (tCons (tVar 7) tNil))))) (te := tVar 7) rfl scSw.nd (pi_range1 (by rfl) rng (pa_cons (pe_callB call_len_seq (by rfl) len PySem.boot_len (pa_cons (pv 3) pa_nil)) pa_nil)) (blkOk_by (N := nSw) (sc := defScope sSw) (by decide +kernel))
          (fun _ _ _ _ _ => pg_name (i := 7) scSw.nd rfl (Or.inl rfl)) (fun _ _ _ _ _ => pts_one (pt_val (pe_call GB hr2 rfl DB.m DB.F.kp DB.b .nil pass0 (pa_cons (pv 1) (pa_cons (pv 3) (pa_cons (pv 7) pa_nil)))))) (fun _ _ _ _ _ => pv 7)))
      (pss_cons (ps_setLc (i := 5) (own := [("at", 7)]) (g := gName 7) (tt := tTest (tOp (rIn K true) (tVar 7) (tVar 4))) (te := tOp (rIxL K) (tVar 3) (tVar 7)) rfl scSw.nd rfl rfl (sw_true rfl rfl rfl (by decide +kernel)) (pi_range1 (by rfl) rng (pa_cons (pe_callB call_len_seq (by rfl) len PySem.boot_len (pa_cons (pv 3) pa_nil)) pa_nil)) (blkOk_by (N := nSw) (sc := defScope sSw) (by decide +kernel))
          (fun _ _ _ _ _ => pg_name (i := 7) scSw.nd rfl (Or.inl rfl)) (fun _ _ _ _ _ => pts_one (pt_cmpR (r := rIn K true) op_notIn_seq (pv 7) (pv 4) (by rfl))) (fun _ _ _ _ _ => pe_ix (r := rIxL K) ix_list (pv 3) (pv 7) (fun _ _ => rfl)))
      (pss_cons (ps_set (i := 6) scSw.nd rfl (Or.inr rfl) (pe_lc (own := [("at", 7)]) (g := gName 7) (tt := tB (tCall (spSB CV vFree) [] E0 (tCons (tVar 1) (tCons (tVar 3) (tCons (tVar 7) tNil))))) (te := tVar 7) rfl scSw.nd (pi_list (pv 4)) (blkOk_by (N := nSw) (sc := defScope sSw) (by decide +kernel))
          (fun _ _ _ _ _ => pg_name (i := 7) scSw.nd rfl (Or.inl rfl)) (fun _ _ _ _ _ => pts_one (pt_val (pe_call GF hr2 rfl DF.m DF.F.kp DF.b .nil pass0 (pa_cons (pv 1) (pa_cons (pv 3) (pa_cons (pv 7) pa_nil)))))) (fun _ _ _ _ _ => pv 7)))
      (pss_cons (ps_fld (pv 0) (pe_call GS hr2 rfl DS.m DS.F.kp DS.b .nil pass0 (pa_cons (pe_fld (pv 0) rfl) (pa_cons (pv 5) (pa_cons (pv 2) pa_nil)))) rfl)
      (pss_cons (ps_fld (pv 0) (pe_lc (own := [("cell", 8)]) (g := gName 8) (tt := tYes) (te := tCall spMv [] E0 (tCons (tVar 8) (tCons (tVar 2) tNil))) rfl scSw.nd (pi_list (pe_fld (pv 0) rfl)) (blkOk_by (N := nSw) (sc := defScope sSw) (by decide +kernel))
          (fun _ _ _ _ _ => pg_name (i := 8) scSw.nd rfl (Or.inl rfl)) (fun _ _ _ _ _ => pts_nil) (fun _ _ _ _ _ => pe_call GM hr1 rfl DM.m DM.F.kp DM.b .nil pass0 (pa_cons (pv 8) (pa_cons (pv 2) pa_nil)))) rfl)
      (pss_cons (ps_fld (pv 0) (pe_lc (own := [("choice", 9)]) (g := gName 9) (tt := tYes) (te := tCall (spMC CC) [] E0 (tCons (tVar 9) (tCons (tVar 2) (tCons (tVar 6) tNil)))) rfl scSw.nd (pi_list (pe_fld (pv 0) rfl)) (blkOk_by (N := nSw) (sc := defScope sSw) (by decide +kernel))
          (fun _ _ _ _ _ => pg_name (i := 9) scSw.nd rfl (Or.inl rfl)) (fun _ _ _ _ _ => pts_nil) (fun _ _ _ _ _ => pe_call GC hr3 rfl DC.m DC.F.kp DC.b .nil pass0 (pa_cons (pv 9) (pa_cons (pv 2) (pa_cons (pv 6) pa_nil))))) rfl)
      (pss_one (ps_fld (pv 0) (pe_lc (own := [("at", 7)]) (g := gName 7) (tt := tYes) (te := tDGet (tVar 2) (tOp (rIxL K) (tVar 3) (tVar 7))) rfl scSw.nd (pi_list (pv 6)) (blkOk_by (N := nSw) (sc := defScope sSw) (by decide +kernel))
          (fun _ _ _ _ _ => pg_name (i := 7) scSw.nd rfl (Or.inl rfl)) (fun _ _ _ _ _ => pts_nil) (fun _ _ _ _ _ => pe_dget (hu_of hr) (pv 2) (pe_ix (r := rIxL K) ix_list (pv 3) (pv 7) (fun _ _ => rfl)) (fun _ _ => rfl))) rfl)))))))))), ?_⟩
    have tll : m.trail.length ≤ 900 := Nat.le_trans I.trail_le hs
    have kpl : ∀ a, Lg06.kept (Lg06.sight m) a = true → a < m.heap.size := fun a ka => kept_lt I ka
    have bll : (boundL m).length ≤ 900 := by
      unfold boundL
      refine Nat.le_trans (List.length_filter_le _ _) ?_
      rw [List.length_range]; exact tll
    have sll : (stayL m).length ≤ 900 := by
      unfold stayL
      exact Nat.le_trans (List.length_filter_le _ _) bll
    -- views, come, trail
    refine ⟨_, rfl, p, dx, l, r, t, c, qs, gs, m, rfl, R, I, hs, fun H1 y ks ws sm1 ny hy1 hv1 ok => ?_⟩
    have lws : ws.length ≤ 30 := by have := ok.len; have := I.few; omega
    refine ⟨_, rfl, y, ks, ws, Lg06.kept (Lg06.sight m), m.heap.size, rfl, hy1, hv1, lws, by omega, (fun a => by rw [vKept_eq ok]; exact ⟨fun h => ⟨h, kpl a h⟩, fun h => h.1⟩), fun H2 e sm2 ne he2 => ?_⟩
    have s02 := sm1.trans sm2
    have R2 := R.same s02
    have hy2 := sm2 _ _ hy1
    have hv2 := hv1.same sm2
    refine ⟨_, rfl, p, C, dx, _, _, rfl, R2.ins, L.cl, L.nt, mf_trail, ?_⟩
    have ht2 := R2.trail
    -- bound
    have fn1 : ((m.trail.length : Int)).toNat = m.trail.length := by omega
    refine ⟨_, rfl, t, _, rfl, .inl (SqL.of ht2), _, rfl, (by rw [trailV_len]; omega), (by rw [trailV_len]; omega), fun b1 nb1 => ?_⟩
    rw [trailV_len, fn1]
    refine lc_range (lo := 0) (n := m.trail.length) (fun i H' => Same H2 H' ∧ H' b1 = some (.lst (nats ((List.range i).filter fun j => Lg06.seenBound m (Lg06.sight m) (tr m j) j)))) ⟨same_new nb1, upd_same⟩ ?_ ?_
    · rintro i H3 li ⟨sm3, h3⟩
      refine ⟨rfl, ?_⟩
      rw [Int.zero_add]
      refine ⟨_, rfl, _, rfl, _, rfl, y, t, ks, ws, m.trail.reverse, i, tr m i, rfl, sm3 _ _ hy2, hv2.same sm3, lws, sm3 _ _ ht2, tr_at li, fun H4 sm4 => ⟨_, rfl, ?_⟩⟩
      rw [vBound_eq ok li, List.range_succ, List.filter_append, List.filter_cons]
      have h4 := sm4 _ _ h3
      cases eb : Lg06.seenBound m (Lg06.sight m) (tr m i) i with
      | true =>
        refine iteT ⟨_, rfl, _, h4, ?_, same_put (sm3.trans sm4) nb1, ?_⟩
        · rw [nats_len]
          refine small1000 (Nat.le_trans (List.length_filter_le _ _) ?_)
          rw [List.length_range]; omega
        · rw [upd_same, nats_snoc, if_pos rfl]
          rfl
      | false =>
        refine iteF ⟨sm3.trans sm4, ?_⟩
        rw [if_neg (by decide), List.filter_nil, List.append_nil]
        exact h4
    rintro H3 ⟨sm3, h3⟩
    have hb3 : H3 b1 = some (.lst (nats (boundL m))) := h3
    have ht3 := sm3 _ _ ht2
    -- unbound
    refine ⟨_, rfl, t, _, rfl, .inl (SqL.of ht3), _, rfl, (by rw [trailV_len]; omega), (by rw [trailV_len]; omega), fun u1 nu1 => ?_⟩
    rw [trailV_len, fn1]
    refine lc_range (lo := 0) (n := m.trail.length) (fun i H' => Same H3 H' ∧ H' u1 = some (.lst (nats (((List.range i).filter fun j => !decide (j ∈ boundL m)).map (tr m))))) ⟨same_new nu1, upd_same⟩ ?_ ?_
    · rintro i H4 li ⟨sm4, h4⟩
      refine ⟨rfl, ?_⟩
      rw [Int.zero_add]
      refine ⟨_, rfl, _, rfl, b1, _, rfl, .inl (SqL.of (sm4 _ _ hb3)), rfl, nats_flat, _, rfl, ?_⟩
      rw [in_nats, List.range_succ, List.filter_append, List.filter_cons, List.map_append]
      by_cases mi : i ∈ boundL m
      · refine ifF (by rw [decide_eq_true mi]; rfl) ⟨sm4, ?_⟩
        rw [if_neg (by rw [decide_eq_true mi]; decide), List.filter_nil, List.map_nil, List.append_nil]
        exact h4
      · refine ifT (by rw [decide_eq_false mi]; rfl) ?_
        refine ⟨_, rfl, _, rfl, t, _, _, _, rfl, rfl, SqL.of (sm4 _ _ ht3), tr_nats li, _, h4, ?_, same_put sm4 nu1, ?_⟩
        · rw [nats_len, List.length_map]
          refine small1000 (Nat.le_trans (List.length_filter_le _ _) ?_)
          rw [List.length_range]; omega
        · rw [upd_same, nats_snoc, if_pos (show (!decide (i ∈ boundL m)) = true by rw [decide_eq_false mi]; rfl)]
          rfl
    rintro H4 ⟨sm4, h4⟩
    have hu4 : H4 u1 = some (.lst (nats (unbL m))) := h4
    have hb4 := sm4 _ _ hb3
    have s24 := sm3.trans sm4
    have ht4 := s24 _ _ ht2
    -- staying
    refine ⟨_, rfl, b1, rfl, ⟨_, SqL.of hb4⟩, fun z1 nz1 => ?_⟩
    refine lc_list (K := K) (a := b1) (xs := nats (boundL m)) (fun i H' => Same H4 H' ∧ H' z1 = some (.lst (nats (((boundL m).take i).filter fun j => Lg06.seenFree m (Lg06.sight m) (tr m j) j)))) ⟨same_new nz1, upd_same⟩ (fun i H' _ w => SqL.of (w.1 _ _ hb4)) ?_ ?_
    · rintro i x H5 ei ⟨sm5, h5⟩
      obtain ⟨j, ej, rfl⟩ := nats_at ei
      have lj : j < m.trail.length := List.mem_range.mp (List.mem_filter.mp (List.mem_of_getElem? ej)).1
      have s25 := s24.trans sm5
      refine ⟨rfl, ?_⟩
      refine ⟨_, rfl, _, rfl, _, rfl, y, t, ks, ws, m.trail.reverse, j, tr m j, rfl, s25 _ _ hy2, hv2.same s25, lws, s25 _ _ ht2, tr_at lj, fun H6 sm6 => ⟨_, rfl, ?_⟩⟩
      rw [vFree_eq ok lj, take_snoc ej, List.filter_append, List.filter_cons]
      have h6 := sm6 _ _ h5
      cases eb : Lg06.seenFree m (Lg06.sight m) (tr m j) j with
      | true =>
        refine iteT ⟨_, rfl, _, h6, ?_, same_put (sm5.trans sm6) nz1, ?_⟩
        · rw [nats_len]
          refine small1000 (Nat.le_trans (List.length_filter_le _ _) ?_)
          rw [List.length_take]; omega
        · rw [upd_same, nats_snoc, if_pos rfl]
          rfl
      | false =>
        refine iteF ⟨sm5.trans sm6, ?_⟩
        rw [if_neg (by decide), List.filter_nil, List.append_nil]
        exact h6
    rintro H5 ⟨sm5, h5⟩
    rw [nats_len, List.take_length] at h5
    have hz5 : H5 z1 = some (.lst (nats (stayL m))) := h5
    have s25 := s24.trans sm5
    have s05 := s02.trans s25
    have R5 := R.same s05
    have he5 := s25 _ _ he2
    have hu5 := sm5 _ _ hu4
    have ht5 := s25 _ _ ht2
    -- machine.heap
    have eun : undo (unbL m) m.heap = Lg06.reset m (Lg06.sight m) := reset_undo fun x => mem_unbL
    refine ⟨_, rfl, p, C, dx, _, _, rfl, R5.ins, L.cl, L.nh, mf_heap, _, rfl, _, rfl, l, u1, e, m.heap, unbL m, Lg06.kept (Lg06.sight m), rfl, R5.heap, by omega, hu5, (fun a ma => ?_), he5, (fun a ka _ => by rw [eun]; exact kept_mov I ka), fun H6 l' ts6 sm6 nl' hl6 hc6 => ?_⟩
    · obtain ⟨j, hj, _⟩ := mem_unbL.mp ma
      exact (I.bound a (oldest_trail hj)).1
    rw [eun, swept_cells I] at hc6
    have s06 := s05.trans sm6
    have nl0 : H l' = none := s05.free nl'
    have R6 := R.same s06
    refine ⟨_, rfl, p, C, dx, _, rfl, R6.ins, L.cl, L.nh, (by show 4 < 1000; decide), ?_⟩
    rw [mf_put_heap]
    have pl : p ≠ l' := ne_of_none R.ins nl0
    have kp7 : ∀ u o, H6 u = some o → u ≠ p → (upd H6 p (.ins C dx (mf l' r t c))) u = some o := fun u o e n => by rw [upd_ne n]; exact e
    have hp7 : (upd H6 p (.ins C dx (mf l' r t c))) p = some (.ins C dx (mf l' r t c)) := upd_same
    generalize upd H6 p (.ins C dx (mf l' r t c)) = H7 at kp7 hp7
    have np : ∀ {b : Addr} {o : HO}, H6 b = some o → (∀ C0 d0 f0, o ≠ .ins C0 d0 f0) → b ≠ p := fun e n => ne_of e R6.ins (n _ _ _)
    have f67 : ∀ {b : Addr} {o : HO}, H6 b = some o → (∀ C0 d0 f0, o ≠ .ins C0 d0 f0) → H7 b = some o := fun e n => kp7 _ _ e (np e n)
    have tu7 : Tups H6 H7 := fun b xs e => f67 e (fun _ _ _ z => nomatch z)
    have hl7 := f67 hl6 (fun _ _ _ z => nomatch z)
    have hc7 := hc6.keep tu7
    have he7 := f67 (sm6 _ _ he5) (fun _ _ _ z => nomatch z)
    have hz7 := f67 (sm6 _ _ hz5) (fun _ _ _ z => nomatch z)
    have ht7 := f67 (sm6 _ _ ht5) (fun _ _ _ z => nomatch z)
    have hcl7 := f67 R6.clst (fun _ _ _ z => nomatch z)
    obtain ⟨vr, hr6, rv6⟩ := R6.regs
    have hr7 := f67 hr6 (fun _ _ _ z => nomatch z)
    have rv7 := rv6.keep tu7
    have chs7 : Chs H7 CC qs gs m.choices := by
      refine R6.chs.keep tu7 (fun q d2 g i j e2 => ?_) (fun g mg xs e2 => f67 e2 (fun _ _ _ z => nomatch z))
      exact kp7 _ _ e2 (ne_of e2 R6.ins (fun z => mf_cf (HO.ins.inj z).2.2.symm))
    -- machine.registers
    have mr := regs_mov I I.regs (fun b sb => kept_now sb)
    refine ⟨_, rfl, p, C, dx, _, _, rfl, hp7, L.cl, L.nr, mf_regs, r, rfl, ⟨_, SqL.of hr7⟩, fun r' nr' => ?_⟩
    refine lc_list (K := K) (a := r) (xs := vr) (fun a H' => Same H7 H' ∧ ∃ us, H' r' = some (.lst us) ∧ RVals H' us (regsK (Lg06.kept (Lg06.sight m)) (m.regs.take a))) ⟨same_new nr', [], upd_same, .nil⟩ (fun a H' _ w => SqL.of (w.1 _ _ hr7)) ?_ ?_
    · rintro a x H8 ea ⟨sm8, us, h8, rv8⟩
      refine ⟨rfl, ?_⟩
      unfold tYes
      refine iteT ?_
      have la : a < 16 := by
        rcases Nat.lt_or_ge a vr.length with z | z
        · rw [rv7.length, I.regs.1] at z; exact z
        · rw [List.getElem?_eq_none z] at ea; cases ea
      have ul : us.length ≤ 16 := by
        rw [rv8.length]
        unfold regsK
        rw [List.length_map, List.length_take]; omega
      refine ⟨_, rfl, _, rfl, x, e, Lg06.kept (Lg06.sight m), m.heap.size, rfl, .inl (sm8 _ _ he7), ?_⟩
      rcases rvals_some rv7 ea with ⟨rfl, er⟩ | ⟨tc, cc, rfl, er, htc⟩
      · refine .inl ⟨rfl, _, h8, small1000 (by omega), same_put sm8 nr', us ++ [.non], upd_same, ?_⟩
        have tu : Tups H8 (upd H8 r' (.lst (us ++ [.non]))) := Tups.lst h8
        rw [take_snoc er]
        unfold regsK at rv8 ⊢
        rw [List.map_append]
        exact (rv8.keep tu).snocN
      · refine .inr ⟨tc, cc, rfl, htc.keep (.of_same sm8), ?_, fun H9 t' sm9 hc9 => ?_⟩
        · rcases mr.1 _ (List.mem_of_getElem? er) with w | ⟨c', ec, mv⟩
          · cases w
          · cases ec; exact mv
        · have h9 := sm9 _ _ h8
          refine ⟨_, h9, small1000 (by omega), same_put (sm8.trans sm9) nr', us ++ [.ref t'], upd_same, ?_⟩
          have tu : Tups H9 (upd H9 r' (.lst (us ++ [.ref t']))) := Tups.lst h9
          rw [take_snoc er]
          unfold regsK at rv8 ⊢
          rw [List.map_append]
          exact ((rv8.keep (.of_same sm9)).keep tu).snocC (hc9.keep tu)
    rintro H8 ⟨sm8, us8, h8, rv8⟩
    rw [rv7.length, List.take_length, mr.2] at rv8
    have hp8 := sm8 _ _ hp7
    have pr : p ≠ r' := ne_of_none hp7 nr'
    refine ⟨_, rfl, p, C, dx, _, rfl, hp8, L.cl, L.nr, (by show 4 < 1000; decide), ?_⟩
    rw [mf_put_regs]
    have kp9 : ∀ u o, H8 u = some o → u ≠ p → (upd H8 p (.ins C dx (mf l' r' t c))) u = some o := fun u o e n => by rw [upd_ne n]; exact e
    have hp9 : (upd H8 p (.ins C dx (mf l' r' t c))) p = some (.ins C dx (mf l' r' t c)) := upd_same
    generalize upd H8 p (.ins C dx (mf l' r' t c)) = H9 at kp9 hp9
    have f79 : ∀ {b : Addr} {o : HO}, H7 b = some o → (∀ C0 d0 f0, o ≠ .ins C0 d0 f0) → H9 b = some o := fun e n => kp9 _ _ (sm8 _ _ e) (ne_of (sm8 _ _ e) hp8 (n _ _ _))
    have f89 : ∀ {b : Addr} {o : HO}, H8 b = some o → (∀ C0 d0 f0, o ≠ .ins C0 d0 f0) → H9 b = some o := fun e n => kp9 _ _ e (ne_of e hp8 (n _ _ _))
    have tu9 : Tups H7 H9 := fun b xs e => f79 e (fun _ _ _ z => nomatch z)
    have tu89 : Tups H8 H9 := fun b xs e => f89 e (fun _ _ _ z => nomatch z)
    have hl9 := f79 hl7 (fun _ _ _ z => nomatch z)
    have hc9 := hc7.keep tu9
    have he9 := f79 he7 (fun _ _ _ z => nomatch z)
    have hz9 := f79 hz7 (fun _ _ _ z => nomatch z)
    have ht9 := f79 ht7 (fun _ _ _ z => nomatch z)
    have hcl9 := f79 hcl7 (fun _ _ _ z => nomatch z)
    have hr9 := f89 h8 (fun _ _ _ z => nomatch z)
    have rv9 := rv8.keep tu89
    have chs9 : Chs H9 CC qs gs m.choices := by
      refine chs7.keep tu9 (fun q d2 g i j e2 => ?_) (fun g mg xs e2 => f79 e2 (fun _ _ _ z => nomatch z))
      exact kp9 _ _ (sm8 _ _ e2) (ne_of (sm8 _ _ e2) hp8 (fun z => mf_cf (HO.ins.inj z).2.2.symm))
    have lr9 : l' ≠ r' := ne_of_none hl7 nr'
    -- machine.choices
    obtain ⟨lq, lg, cget⟩ := chs9.get
    have few := I.few
    refine ⟨_, rfl, p, C, dx, _, _, rfl, hp9, L.cl, L.nc, mf_choices, c, rfl, ⟨_, SqL.of hcl9⟩, fun c' nc' => ?_⟩
    refine lc_list (K := K) (a := c) (xs := qs.map V.ref) (fun a H' => Same H9 H' ∧ ∃ qs' gs', H' c' = some (.lst (qs'.map V.ref)) ∧ Chs H' CC qs' gs' ((m.choices.drop (m.choices.length - a)).map (moved m)) ∧ (∀ b, b ∈ qs' → H9 b = none) ∧ (∀ b, b ∈ gs' → H9 b = none ∧ b ≠ c')) ⟨same_new nc', [], [], upd_same, ?_, (fun b mb => by cases mb), (fun b mb => by cases mb)⟩ (fun a H' _ w => SqL.of (w.1 _ _ hcl9)) ?_ ?_
    · rw [Nat.sub_zero, List.drop_length]
      exact .nil
    · rintro a x H10 ea ⟨sm10, qs', gs', h10, ch10, fq, fg⟩
      obtain ⟨q, eq, rfl⟩ := refs_at ea
      obtain ⟨b, dq, g, eb, _, hq, hg⟩ := cget a q eq
      have la : a < m.choices.length := by
        rcases Nat.lt_or_ge a qs.length with z | z
        · omega
        · rw [List.getElem?_eq_none z] at eq; cases eq
      have eb' : m.choices[m.choices.length - 1 - a]? = some b := by
        rw [List.getElem?_reverse la] at eb
        exact eb
      have mb := List.mem_of_getElem? eb'
      have ev : Lg06.viewOf m (m.choices.length - 1 - a) = (Lg04.undone m (m.choices.length - 1 - a), b.regs) := by
        unfold Lg06.viewOf
        rw [eb']
        rfl
      have ro := I.views _ b eb'
      have mrb := regs_mov I ro (fun z sz => kept_view eb' (by rw [ev]; exact sz))
      obtain ⟨l1, l2⟩ := moved_lens I mb
      refine ⟨rfl, ?_⟩
      unfold tYes
      refine iteT ?_
      have hg10 : RegsIs H10 g b.regs := by
        obtain ⟨vg, e1, e2⟩ := hg
        exact ⟨vg, sm10 _ _ e1, e2.keep (.of_same sm10)⟩
      refine ⟨_, rfl, _, rfl, _, rfl, q, dq, g, e, z1, b.heap, b.trail, m.heap.size, b.regs, Lg06.kept (Lg06.sight m), stayL m, rfl, sm10 _ _ hq, hg10, by rw [ro.1]; exact Nat.le_refl _, sm10 _ _ he9, by omega, sm10 _ _ hz9, by omega, mrb.1, fun H11 q' dq' g' sm11 nq' ng' hq' hg' => ?_⟩
      rw [l1, l2] at hq'
      rw [mrb.2] at hg'
      have h11 := sm11 _ _ h10
      obtain ⟨lq', lg', _⟩ := ch10.get
      have gc' : g' ≠ c' := fun z => by
        subst z
        rw [h10] at ng'
        cases ng'
      refine ⟨_, h11, (by rw [List.length_map, lq', List.length_map, List.length_drop]; exact small1000 (by omega)), same_put (sm10.trans sm11) nc', qs' ++ [q'], gs' ++ [g'], (by rw [upd_same, List.map_append]; rfl), ?_, (fun z mz => ?_), (fun z mz => ?_)⟩
      · have ed : m.choices.drop (m.choices.length - (a + 1)) = b :: m.choices.drop (m.choices.length - a) := by
          have li : m.choices.length - 1 - a < m.choices.length := by omega
          rw [show m.choices.length - (a + 1) = m.choices.length - 1 - a by omega, List.drop_eq_getElem_cons li]
          rw [List.getElem?_eq_getElem li] at eb'
          rw [Option.some.inj eb', show m.choices.length - 1 - a + 1 = m.choices.length - a by omega]
        rw [ed, List.map_cons]
        have kpi : ∀ {u C0 d0 : Addr} {fs : List (Str × V)}, H11 u = some (.ins C0 d0 fs) → (upd H11 c' (.lst (qs'.map V.ref ++ [.ref q']))) u = some (.ins C0 d0 fs) := fun e => by rw [upd_ne (ne_of e h11 (fun z => nomatch z))]; exact e
        have tu : Tups H11 (upd H11 c' (.lst (qs'.map V.ref ++ [.ref q']))) := Tups.lst h11
        obtain ⟨vg, e1, e2⟩ := hg'
        refine .snoc (kpi hq') ⟨vg, by rw [upd_ne gc']; exact e1, e2.keep tu⟩ (((ch10.keep (.of_same sm11) (fun _ _ _ _ _ e => sm11 _ _ e) (fun _ _ _ e => sm11 _ _ e))).keep tu (fun _ _ _ _ _ e => kpi e) (fun u mu xs e => ?_))
        rw [upd_ne (fg u mu).2]; exact e
      · rcases List.mem_append.mp mz with mz | mz
        · exact fq z mz
        · simp at mz; subst mz; exact sm10.free nq'
      · rcases List.mem_append.mp mz with mz | mz
        · exact fg z mz
        · simp at mz; subst mz; exact ⟨sm10.free ng', gc'⟩
    rintro H10 ⟨sm10, qs', gs', h10, ch10, fq, fg⟩
    rw [List.length_map, lq, Nat.sub_self, List.drop_zero] at ch10
    have hp10 := sm10 _ _ hp9
    have pc : p ≠ c' := ne_of_none hp9 nc'
    refine ⟨_, rfl, p, C, dx, _, rfl, hp10, L.cl, L.nc, (by show 4 < 1000; decide), ?_⟩
    rw [mf_put_choices]
    have kpB : ∀ u o, H10 u = some o → u ≠ p → (upd H10 p (.ins C dx (mf l' r' t c'))) u = some o := fun u o e n => by rw [upd_ne n]; exact e
    have hpB : (upd H10 p (.ins C dx (mf l' r' t c'))) p = some (.ins C dx (mf l' r' t c')) := upd_same
    generalize upd H10 p (.ins C dx (mf l' r' t c')) = HB at kpB hpB
    have f9B : ∀ {b : Addr} {o : HO}, H9 b = some o → (∀ C0 d0 f0, o ≠ .ins C0 d0 f0) → HB b = some o := fun e n => kpB _ _ (sm10 _ _ e) (ne_of (sm10 _ _ e) hp10 (n _ _ _))
    have fTB : ∀ {b : Addr} {o : HO}, H10 b = some o → (∀ C0 d0 f0, o ≠ .ins C0 d0 f0) → HB b = some o := fun e n => kpB _ _ e (ne_of e hp10 (n _ _ _))
    have tuB : Tups H9 HB := fun b xs e => f9B e (fun _ _ _ z => nomatch z)
    have tuTB : Tups H10 HB := fun b xs e => fTB e (fun _ _ _ z => nomatch z)
    have hlB := f9B hl9 (fun _ _ _ z => nomatch z)
    have hcB := hc9.keep tuB
    have heB := f9B he9 (fun _ _ _ z => nomatch z)
    have hzB := f9B hz9 (fun _ _ _ z => nomatch z)
    have htB := f9B ht9 (fun _ _ _ z => nomatch z)
    have hrB := f9B hr9 (fun _ _ _ z => nomatch z)
    have rvB := rv9.keep tuB
    have hclB := fTB h10 (fun _ _ _ z => nomatch z)
    have chB : Chs HB CC qs' gs' (m.choices.map (moved m)) := by
      refine ch10.keep tuTB (fun q d2 g i j e2 => ?_) (fun g mg xs e2 => fTB e2 (fun _ _ _ z => nomatch z))
      exact kpB _ _ e2 (ne_of e2 hp10 (fun z => mf_cf (HO.ins.inj z).2.2.symm))
    -- machine.trail
    refine ⟨_, rfl, z1, rfl, ⟨_, SqL.of hzB⟩, fun t' nt' => ?_⟩
    refine lc_list (K := K) (a := z1) (xs := nats (stayL m)) (fun a H' => Same HB H' ∧ H' t' = some (.lst (nats (((stayL m).take a).map fun j => cnt (Lg06.kept (Lg06.sight m)) (tr m j))))) ⟨same_new nt', upd_same⟩ (fun a H' _ w => SqL.of (w.1 _ _ hzB)) ?_ ?_
    · rintro a x HC ea ⟨smC, hC⟩
      obtain ⟨j, ej, rfl⟩ := nats_at ea
      have mj := List.mem_of_getElem? ej
      have mjb := (List.mem_filter.mp mj).1
      obtain ⟨mjr, bj⟩ := List.mem_filter.mp mjb
      have lj : j < m.trail.length := List.mem_range.mp mjr
      have kj := bound_kept bj
      have la : a < (stayL m).length := by
        rcases Nat.lt_or_ge a (stayL m).length with z | z
        · exact z
        · rw [List.getElem?_eq_none z] at ej; cases ej
      refine ⟨rfl, ?_⟩
      unfold tYes
      refine iteT ?_
      have dg : DGet HC e (V.int ((tr m j : Nat) : Int)) (some (.int (cnt (Lg06.kept (Lg06.sight m)) (tr m j) : Nat))) := .inl ⟨_, Sum.inl ((tr m j : Nat) : Int), .inl (smC _ _ heB), rfl, (comeE_val kj (kpl _ kj)).symm⟩
      refine ⟨_, rfl, _, rfl, _, rfl, t, _, _, _, rfl, rfl, SqL.of (smC _ _ htB), tr_nats lj, e, _, rfl, dg, _, hC, ?_, same_put smC nt', ?_⟩
      · rw [nats_len, List.length_map, List.length_take]
        exact small1000 (by omega)
      · rw [upd_same, nats_snoc, take_snoc ej, List.map_append]
        rfl
    rintro HC ⟨smC, hC⟩
    rw [nats_len, List.take_length, ← swept_trailV I] at hC
    have hpC := smC _ _ hpB
    have pt : p ≠ t' := ne_of_none hpB nt'
    refine ⟨_, rfl, p, C, dx, _, rfl, hpC, L.cl, L.nt, (by show 4 < 1000; decide), ?_⟩
    rw [mf_put_trail]
    have kpD : ∀ u o, HC u = some o → u ≠ p → (upd HC p (.ins C dx (mf l' r' t' c'))) u = some o := fun u o e n => by rw [upd_ne n]; exact e
    have hpD : (upd HC p (.ins C dx (mf l' r' t' c'))) p = some (.ins C dx (mf l' r' t' c')) := upd_same
    generalize upd HC p (.ins C dx (mf l' r' t' c')) = HD at kpD hpD
    have fBD : ∀ {b : Addr} {o : HO}, HB b = some o → (∀ C0 d0 f0, o ≠ .ins C0 d0 f0) → HD b = some o := fun e n => kpD _ _ (smC _ _ e) (ne_of (smC _ _ e) hpC (n _ _ _))
    have tuD : Tups HB HD := fun b xs e => fBD e (fun _ _ _ z => nomatch z)
    -- what was free
    have back : ∀ {b : Addr} {o : HO}, H b = some o → b ≠ p → H7 b = some o := fun e n => kp7 _ _ (s06 _ _ e) n
    have free7 : ∀ {b : Addr}, b ≠ p → H7 b = none → H b = none := fun {b} n e => by
      cases z : H b with
      | none => rfl
      | some o => rw [back z n] at e; cases e
    have free9 : ∀ {b : Addr}, b ≠ p → H9 b = none → H b = none := fun {b} n e => by
      cases z : H b with
      | none => rfl
      | some o => rw [kp9 _ _ (sm8 _ _ (back z n)) n] at e; cases e
    have freeB : ∀ {b : Addr}, b ≠ p → HB b = none → H b = none := fun {b} n e => by
      cases z : H b with
      | none => rfl
      | some o => rw [kpB _ _ (sm10 _ _ (kp9 _ _ (sm8 _ _ (back z n)) n)) n] at e; cases e
    have nr0 : H r' = none := free7 (Ne.symm pr) nr'
    have nc0 : H c' = none := free9 (Ne.symm pc) nc'
    have nt0 : H t' = none := freeB (Ne.symm pt) nt'
    have np9 : ∀ {b : Addr}, H9 b = none → b ≠ p := fun e z => by rw [z, hp9] at e; cases e
    have chD : Chs HD CC qs' gs' (m.choices.map (moved m)) := by
      refine chB.keep tuD (fun q d2 g i j e2 => ?_) (fun g mg xs e2 => fBD e2 (fun _ _ _ z => nomatch z))
      exact kpD _ _ (smC _ _ e2) (ne_of (smC _ _ e2) hpC (fun z => mf_cf (HO.ins.inj z).2.2.symm))
    have chdB := chB.tracked
    refine k HD l' r' t' c' qs' gs' ⟨hpD, ⟨ts6, fBD hlB (fun _ _ _ z => nomatch z), hcB.keep tuD⟩, ⟨us8, fBD hrB (fun _ _ _ z => nomatch z), rvB.keep tuD⟩, kpD _ _ hC (Ne.symm pt), fBD hclB (fun _ _ _ z => nomatch z), ?_, lr9, ne_of_none hlB nt', ne_of_none hl9 nc', ne_of_none hrB nt', ne_of_none hr9 nc', Ne.symm (ne_of_none hclB nt'), ?_, ?_, ?_, ?_⟩ ?_ ?_
    · rw [swept_chs]; exact chD
    · intro z
      have := (fg _ z).1
      rw [hl9] at this; cases this
    · intro z
      have := (fg _ z).1
      rw [hr9] at this; cases this
    · intro z
      obtain ⟨o, eo⟩ := chdB.2 _ z
      rw [nt'] at eo; cases eo
    · intro z
      exact (fg _ z).2 rfl
    · intro b mb
      unfold own at mb
      simp only [List.mem_cons, List.mem_append] at mb
      rcases mb with rfl | rfl | rfl | rfl | rfl | mb | mb
      · exact .inl rfl
      · exact .inr nl0
      · exact .inr nr0
      · exact .inr nt0
      · exact .inr nc0
      · exact .inr (free9 (np9 (fg b mb).1) (fg b mb).1)
      · exact .inr (free9 (np9 (fq b mb)) (fq b mb))
    · intro u o e n
      have n : u ≠ p := by simpa using n
      exact kpD _ _ (smC _ _ (kpB _ _ (sm10 _ _ (kp9 _ _ (sm8 _ _ (back e n)) n)) n)) n

/-! the call sweep -/
abbrev sCS : Stmt := top 63
theorem scCS : FnScope ["machine", "cells", "places"] ["machine"] (defScope sCS) := ⟨rfl, rfl, rfl, by decide +kernel, rfl, by decide +kernel, by decide +kernel⟩
def spCS (C CC : Addr) : Sp := fun vs H Q _ => ∃ (p : Addr) (ow : List Addr) (m : Lg04.M), vs = [.ref p] ∧ MachW C CC H p ow m ∧ Inv m ∧ m.heap.size ≤ 900 ∧ Does C CC p ow m .sweep H Q
theorem ok_cs {C CC f fS : Addr} {fd fdS : FuncData} (D : Dn K mg "call_sweep" sCS ["machine"] f fd) (L : Cl K C CC) (len : mg "len" = none)
    (GS : FnOk P w K mg base CX0 5 fS fdS ["machine"] (spSw C CC)) (DS : Dn K mg "sweep" sSw ["machine"] fS fdS) : FnOk P w K mg base CX0 6 f fd ["machine"] (spCS C CC) := by
  refine D.F.ok scCS (fun vs H Q E h => ?_) (fun cdv A outer s H vs Q E hr h => ?_)
  · obtain ⟨p, ow, m, rfl, _⟩ := h
    rfl
  · obtain ⟨p, ow, m, rfl, ⟨dx, l, r, t, c, qs, gs, R, rfl⟩, I, hs, d⟩ := h
    refine ⟨_, pss_cons (ps_set (i := 1) scCS.nd rfl (Or.inl rfl) (pe_callB call_len_seq (by rfl) len PySem.boot_len (pa_cons (pe_fld (pv 0) rfl) pa_nil)))
      (pss_cons (ps_set (i := 2) scCS.nd rfl (Or.inl rfl) (pe_callB call_len_seq (by rfl) len PySem.boot_len (pa_cons (pe_fld (pv 0) rfl) pa_nil)))
      (pss_cons (ps_expr (pe_call GS hr rfl DS.m DS.F.kp DS.b .nil pass0 (pa_cons (pv 0) pa_nil)))
      (pss_one (ps_ret (pe_lst (pa_cons (pe_op op_sub (pv 1) (pe_callB call_len_seq (by rfl) len PySem.boot_len (pa_cons (pe_fld (pv 0) rfl) pa_nil))) (pa_cons (pe_op op_sub (pv 2) (pe_callB call_len_seq (by rfl) len PySem.boot_len (pa_cons (pe_fld (pv 0) rfl) pa_nil))) pa_nil))))))), ?_⟩
    obtain ⟨ts, hl, hc⟩ := R.heap
    have tsl : ts.length = m.heap.size := by rw [hc.length, Array.length_toList]
    refine ⟨_, rfl, p, C, dx, _, _, rfl, R.ins, L.cl, L.nh, mf_heap, l, _, rfl, .inl (SqL.of hl), ?_⟩
    refine ⟨_, rfl, p, C, dx, _, _, rfl, R.ins, L.cl, L.nt, mf_trail, t, _, rfl, .inl (SqL.of R.trail), ?_⟩
    rw [List.length_map, tsl, trailV_len]
    refine ⟨_, rfl, p, dx, l, r, t, c, qs, gs, m, rfl, R, I, hs, fun H1 l' r' t' c' qs' gs' R1 fr b1 => ?_⟩
    obtain ⟨ts1, hl1, hc1⟩ := R1.heap
    have ts1l : ts1.length = (Lg06.swept m).heap.size := by rw [hc1.length, Array.length_toList]
    refine ⟨_, rfl, _, rfl, p, C, dx, _, _, rfl, R1.ins, L.cl, L.nh, mf_heap, l', _, rfl, .inl (SqL.of hl1), _, _, rfl, rfl, _, rfl, _, rfl, p, C, dx, _, _, rfl, R1.ins, L.cl, L.nt, mf_trail, t', _, rfl, .inl (SqL.of R1.trail), _, _, rfl, rfl, (by show 2 ≤ sizeLine; decide), fun q hq => ?_⟩
    have le1 : (Lg06.swept m).heap.size ≤ m.heap.size := by
      rw [swept_size]
      exact keptN_len (kp := Lg06.kept (Lg06.sight m)) (n := m.heap.size)
    have le2 : (Lg06.swept m).trail.length ≤ m.trail.length := by
      rw [swept_trail_length]
      unfold stayed
      refine Nat.le_trans (List.length_filter_le _ _) ?_
      rw [oldest_range, List.length_map, List.length_range]
      exact Nat.le_refl _
    refine d.fin R1 (zs := Lg06.ints [m.heap.size - (Lg06.swept m).heap.size, m.trail.length - (Lg06.swept m).trail.length]) rfl (fun b mb => ?_) (fun u o e n => b1 u o e (by simp; exact (own_out n).1)) hq ?_
    · rcases fr b mb with rfl | h
      · exact .inl own_p
      · exact .inr h
    · rw [List.length_map, ts1l, trailV_len]
      show [V.int _, V.int _] = [V.int ((m.heap.size - (Lg06.swept m).heap.size : Nat) : Int), V.int ((m.trail.length - (Lg06.swept m).trail.length : Nat) : Int)]
      rw [Int.ofNat_sub le1, Int.ofNat_sub le2]
end
end Sw
namespace Sw
open PySem PySem.Spec PyProof.Rows
open L2 hiding Walk
open Lg04 (Cell cellAt look within unify same)

/-- the tuple at q is the call c, taken apart; its objects are none of those of H0, and not y -/
def PartIs (H0 H : Hp) (y q : Addr) (c : Raw) : Prop := ∃ a b, H q = some (.tup [.int (pOf c), .ref a, .ref b]) ∧ H a = some (.lst ((numsOf c).map V.int)) ∧ H b = some (.lst ((rowOf c).map V.int)) ∧ H0 q = none ∧ H0 a = none ∧ H0 b = none ∧ a ≠ y ∧ b ≠ y
inductive PartsAre (H0 H : Hp) (y : Addr) : List Addr → List Raw → Prop where
  | nil : PartsAre H0 H y [] []
  | cons {q : Addr} {c : Raw} {qs : List Addr} {cs : List Raw} : PartIs H0 H y q c → PartsAre H0 H y qs cs → PartsAre H0 H y (q :: qs) (c :: cs)
section
variable {H0 H H' : Hp} {y : Addr}
theorem PartsAre.keep {qs : List Addr} {cs : List Raw} (x : PartsAre H0 H y qs cs) (k : ∀ q c, PartIs H0 H y q c → PartIs H0 H' y q c) : PartsAre H0 H' y qs cs := by
  induction x with
  | nil => exact .nil
  | cons h _ ih => exact .cons (k _ _ h) ih
theorem PartIs.same {q : Addr} {c : Raw} (x : PartIs H0 H y q c) (s : Same H H') : PartIs H0 H' y q c := by
  obtain ⟨a, b, h1, h2, h3, h4⟩ := x
  exact ⟨a, b, s _ _ h1, s _ _ h2, s _ _ h3, h4⟩
theorem PartsAre.append {qs rs : List Addr} {cs ds : List Raw} (x : PartsAre H0 H y qs cs) (z : PartsAre H0 H y rs ds) : PartsAre H0 H y (qs ++ rs) (cs ++ ds) := by
  induction x with
  | nil => exact z
  | cons h _ ih => exact .cons h ih
theorem PartsAre.length {qs : List Addr} {cs : List Raw} (x : PartsAre H0 H y qs cs) : qs.length = cs.length := by
  induction x with
  | nil => rfl
  | cons _ _ ih => rw [List.length_cons, List.length_cons, ih]
theorem PartsAre.at_ {qs : List Addr} {cs : List Raw} (x : PartsAre H0 H y qs cs) {n : Nat} {q : Addr} (e : qs[n]? = some q) : ∃ c, cs[n]? = some c ∧ PartIs H0 H y q c := by
  induction x generalizing n with
  | nil => simp at e
  | cons h _ ih =>
    match n, e with
    | 0, e =>
      cases (Option.some.inj e)
      exact ⟨_, rfl, h⟩
    | n + 1, e => exact ih e
end
structure Txt5 (K : PySem.W.Frag) (mg : Str → Option Value) : Prop where
  whole : ∃ tw, mg "WHOLE_NUMBERS" = some (.ref tw) ∧ ∀ H, SqT K H tw (nats wn)
  row : ∃ tw, mg "CALLS_WITH_ROW" = some (.ref tw) ∧ ∀ H, SqT K H tw (nats [2, 10])
theorem cut_both {xs : List V} {i j : Nat} (h : i ≤ j) (hj : j ≤ xs.length) : cutV xs (some (i : Int)) (some (j : Int)) = (xs.drop i).take (j - i) := by
  unfold cutV
  rw [HT.sIx_nat, HT.sIx_nat, Nat.min_eq_left hj, Nat.min_eq_left (by omega)]

def SCw (H : Hp) (a y : Addr) (ns : List Int) (raw : List Raw) (mz : Nat) (σ : L2.St) (H' : Hp) : Prop := ∃ (at_ : Nat) (qs : List Addr) (done rest : List Raw) (v3 v4 v5 v6 : Option V), σ = [some (.ref a), some (.ref y), some (.int (at_ : Int)), v3, v4, v5, v6] ∧ Same H H' ∧ H' y = some (.lst (qs.map V.ref)) ∧ PartsAre H H' y qs done ∧
  raw = done ++ rest ∧ at_ ≤ ns.length ∧ Left (ns.drop at_) rest ∧ mz = ns.length - at_
theorem sc_end {H H1 H5 : Hp} {a y p nb rb : Addr} {ns : List Int} {raw done raw' : List Raw} {c : Raw} {qs : List Addr} {at_ at2 : Nat} {v3 v4 v5 v6 : Option V} (s05 : Same H H5) (s15 : Same H1 H5) (hy : H y = none) (hy1 : H1 y = some (.lst (qs.map V.ref))) (hp : PartsAre H H1 y qs done) (er : raw = done ++ c :: raw')
    (hpp : H5 p = some (.tup [.int (pOf c), .ref nb, .ref rb])) (hn : H5 nb = some (.lst ((numsOf c).map V.int))) (hr : H5 rb = some (.lst ((rowOf c).map V.int))) (fp : H p = none) (fn : H nb = none) (fr : H rb = none) (ny : nb ≠ y) (ry : rb ≠ y) (py : p ≠ y)
    (l1 : at_ < at2) (l2 : at2 ≤ ns.length) (lf : Left (ns.drop at2) raw') :
    ∃ m', m' < ns.length - at_ ∧ SCw H a y ns raw m' [some (.ref a), some (.ref y), some (.int (at2 : Int)), v3, v4, v5, v6] (upd H5 y (.lst (qs.map V.ref ++ [.ref p]))) := by
  refine ⟨ns.length - at2, by omega, at2, qs ++ [p], done ++ [c], raw', _, _, _, _, rfl, same_put s05 hy, (by rw [upd_same, List.map_append]; rfl), ?_, (by rw [er, List.append_assoc]; rfl), l2, lf, rfl⟩
  have kk : ∀ {b : Addr} {o : HO}, H5 b = some o → b ≠ y → (upd H5 y (.lst (qs.map V.ref ++ [.ref p]))) b = some o := fun e n => by rw [upd_ne n]; exact e
  refine PartsAre.append (PartsAre.keep hp fun q c x => ?_) (.cons ⟨nb, rb, kk hpp py, kk hn ny, kk hr ry, fp, fn, fr, ny, ry⟩ .nil)
  obtain ⟨a1, b1, h1, h2, h3, h4, h5, h6, h7, h8⟩ := x
  exact ⟨a1, b1, kk (s15 _ _ h1) (ne_of h1 hy1 (fun z => nomatch z)), kk (s15 _ _ h2) h7, kk (s15 _ _ h3) h8, h4, h5, h6, h7, h8⟩

section
variable {P : Program} {w : World} {K : PySem.W.Frag} {mg : Str → Option Value} {base : PySem.Heap}
abbrev sSC : Stmt := top 81
theorem scSC : FnScope ["calls", "parts", "at", "number", "row_start", "numbers", "row"] ["calls"] (defScope sSC) := ⟨rfl, rfl, rfl, by decide +kernel, rfl, by decide +kernel, by decide +kernel⟩
def spSC (K : PySem.W.Frag) : Sp := fun vs H Q _ => ∃ (a : Addr) (ns : List Int) (raw : List Raw), vs = [.ref a] ∧ SqL K H a (ns.map V.int) ∧ Left ns raw ∧ raw.length ≤ 100 ∧ ∀ H' y qs, Same H H' → H y = none → H' y = some (.lst (qs.map V.ref)) → PartsAre H H' y qs raw → Q (.ref y) H'
theorem ok_sc {f : Addr} {fd : FuncData} (D : Dn K mg "split_calls" sSC ["calls"] f fd) (T5 : Txt5 K mg) (len : mg "len" = none) : FnOk P w K mg base CX0 1 f fd ["calls"] (spSC K) := by
  refine D.F.ok scSC (fun vs H Q E h => ?_) (fun cdv A outer s H vs Q E hr h => ?_)
  · obtain ⟨a, ns, raw, rfl, _⟩ := h
    rfl
  · obtain ⟨a, ns, raw, rfl, ha, left, l100, q⟩ := h
    obtain ⟨tw, mgw, hw⟩ := T5.whole
    obtain ⟨tr, mgr, hrw⟩ := T5.row
    refine ⟨_, pss_cons (ps_set (i := 1) scSC.nd rfl (Or.inl rfl) (pe_lst pa_nil))
      (pss_cons (ps_set (i := 2) scSC.nd rfl (Or.inl rfl) pe_int)
      (pss_cons (ps_while PassesOwn.never (pt_cmpR op_lt (pv 2) (pe_callB call_len_seq (by rfl) len PySem.boot_len (pa_cons (pv 0) pa_nil)) (nomark _))
        (pss_cons (ps_set (i := 3) scSC.nd rfl (Or.inl rfl) (pe_ix ix_list (pv 0) (pv 2) (fun _ _ => rfl)))
        (pss_cons (ps_set (i := 4) scSC.nd rfl (Or.inl rfl) (pe_op op_add (pe_op op_add (pv 2) pe_int) (pe_ix ix_tup (pe_glob (v := .ref tw) rfl mgw rfl) (pv 3) (fun _ _ => rfl))))
        (pss_cons (ps_set (i := 5) scSC.nd rfl (Or.inl rfl) (pe_slice sl_list (pv 0) (po_some (pe_op op_add (pv 2) pe_int)) (po_some (pv 4))))
        (pss_cons (ps_set (i := 6) scSC.nd rfl (Or.inl rfl) (pe_lst pa_nil))
        (pss_cons (ps_set (i := 2) scSC.nd rfl (Or.inl rfl) (pv 4))
        (pss_cons (ps_if (pt_cmpR op_in_seq (pv 3) (pe_glob (v := .ref tr) rfl mgr rfl) (by rfl))
          (pss_cons (ps_set (i := 2) scSC.nd rfl (Or.inl rfl) (pe_op op_add (pe_op op_add (pv 4) pe_int) (pe_ix ix_list (pv 0) (pv 4) (fun _ _ => rfl))))
          (pss_one (ps_set (i := 6) scSC.nd rfl (Or.inl rfl) (pe_slice sl_list (pv 0) (po_some (pe_op op_add (pv 4) pe_int)) (po_some (pv 2)))))) pss_nil)
        (pss_one (ps_expr (pe_bm PySem.F.plainAttrs_list PySem.F.slot_list_append PySem.F.type_list_append mt_append (pv 1) (pa_cons (pe_tup (pa_cons (pv 3) (pa_cons (pv 5) (pa_cons (pv 6) pa_nil)))) pa_nil)))))))))))
      (pss_one (ps_ret (pv 1))))), ?_⟩
    refine ⟨(by show 0 ≤ sizeLine; decide), fun y hy => ?_⟩
    have sm0 : Same H (upd H y (.lst [])) := same_new hy
    refine ⟨SCw H a y ns raw, ⟨_, 0, [], [], raw, none, none, none, none, rfl, sm0, upd_same, .nil, rfl, Nat.zero_le _, left, rfl⟩, ?_⟩
    rintro mz σ H1 ⟨at_, qs, done, rest, v3, v4, v5, v6, rfl, sm, hy1, hp, er, la, lf, rfl⟩
    have ha1 := sm.seq ha
    refine ⟨_, rfl, _, rfl, a, _, rfl, .inl ha1, _, _, rfl, rfl, _, rfl, ?_⟩
    rw [List.length_map, dec_lt]
    by_cases lt : at_ < ns.length
    · refine ifT (decide_eq_true lt) ?_
      refine ⟨fun σ' H' => ∃ m', m' < ns.length - at_ ∧ SCw H a y ns raw m' σ' H', fun _ _ z => z, ?_⟩
      rw [List.drop_eq_getElem_cons lt] at lf
      obtain ⟨k, n, c, raw', lk, ep, ew, ln, erw, epc, enc, hrow⟩ := lf.cons
      rw [List.length_drop] at ln
      rw [erw] at er
      have eat : atI (ns.map V.int) (at_ : Int) = some (.int (k : Int)) := atI_nat (by rw [List.getElem?_map, List.getElem?_eq_getElem lt, ep]; rfl)
      have ewn : atI (nats wn) (k : Int) = some (.int (n : Int)) := nats_get ew
      have mlen : (ns.map V.int).length = ns.length := List.length_map _
      have epk : pOf c = (k : Int) := by rw [epc, ep]
      have ld : done.length < 100 := by
        rw [er, List.length_append, List.length_cons] at l100
        omega
      -- number, row_start
      refine ⟨_, rfl, _, rfl, a, _, _, _, rfl, rfl, ha1, eat, ?_⟩
      refine ⟨_, rfl, _, _, rfl, rfl, _, rfl, tw, _, _, _, rfl, rfl, hw H1, ewn, _, _, rfl, rfl, ?_⟩
      have rs : (at_ : Int) + 1 + (n : Int) = ((at_ + 1 + n : Nat) : Int) := by omega
      dsimp only
      rw [rs]
      -- numbers
      refine ⟨_, rfl, _, rfl, _, _, rfl, rfl, _, rfl, _, rfl, _, rfl, a, _, rfl, ha1, fun nb hnb => ?_⟩
      have ecut : cutV (ns.map V.int) (some ((at_ : Int) + 1)) (some ((at_ + 1 + n : Nat) : Int)) = (numsOf c).map V.int := by
        rw [show (at_ : Int) + 1 = ((at_ + 1 : Nat) : Int) by omega, cut_both (by omega) (by rw [mlen]; omega), enc, ← List.map_drop, ← List.map_take, show at_ + 1 + n - (at_ + 1) = n by omega]
      rw [ecut]
      have yn : y ≠ nb := ne_of_none hy1 hnb
      have fn : H nb = none := sm.free hnb
      have sm2 : Same H1 (upd H1 nb (.lst ((numsOf c).map V.int))) := same_new hnb
      have hn2 : (upd H1 nb (.lst ((numsOf c).map V.int))) nb = some (.lst ((numsOf c).map V.int)) := upd_same
      generalize upd H1 nb (.lst ((numsOf c).map V.int)) = H2 at sm2 hn2
      -- row = []
      refine ⟨(by show 0 ≤ sizeLine; decide), fun rb hrb => ?_⟩
      have yr : y ≠ rb := ne_of_none (sm2 _ _ hy1) hrb
      have fr : H rb = none := (sm.trans sm2).free hrb
      have sm3 : Same H2 (upd H2 rb (.lst [])) := same_new hrb
      have hr3 : (upd H2 rb (.lst [])) rb = some (.lst []) := upd_same
      generalize upd H2 rb (.lst []) = H3 at sm3 hr3
      have s13 := sm2.trans sm3
      have s03 := sm.trans s13
      have hn3 := sm3 _ _ hn2
      have hy3 := s13 _ _ hy1
      have ha3 := s03.seq ha
      refine ⟨_, rfl, ?_⟩
      refine ⟨_, rfl, tr, _, rfl, .inr (hrw H3), rfl, nats_flat, _, rfl, ?_⟩
      rw [if_neg (by decide), in_nats]
      have ql : (qs.map V.ref).length < sizeLine := by rw [List.length_map, hp.length]; exact small1000 (by omega)
      rcases hrow with ⟨hk, hro, lf'⟩ | ⟨hk, j, s2, ed, lj, hro, lf'⟩
      · refine ifF (decide_eq_false (by simpa using hk)) ?_
        refine ⟨_, rfl, .inl ⟨rfl, _, SqL.of hy3⟩, _, rfl, _, rfl, _, rfl, (by show 3 ≤ sizeLine; decide), fun p hp0 => ?_⟩
        have sp : Same H3 (upd H3 p (.tup [.int (k : Int), .ref nb, .ref rb])) := same_new hp0
        have hpp : (upd H3 p (.tup [.int (k : Int), .ref nb, .ref rb])) p = some (.tup [.int (k : Int), .ref nb, .ref rb]) := upd_same
        generalize upd H3 p (.tup [.int (k : Int), .ref nb, .ref rb]) = H5 at sp hpp
        refine ⟨y, _, _, rfl, rfl, sp _ _ hy3, ql, ?_⟩
        refine sc_end (s03.trans sp) (s13.trans sp) hy hy1 hp er (by rw [epk]; exact hpp) (sp _ _ hn3) (by rw [hro]; exact sp _ _ hr3) (s03.free hp0) fn fr (Ne.symm yn) (Ne.symm yr) (Ne.symm (ne_of_none hy3 hp0)) (by omega) (by omega) ?_
        rw [show at_ + 1 + n = (at_ + 1) + n by rfl, ← List.drop_drop]
        exact lf'
      · refine ifT (decide_eq_true (by simpa using hk)) ?_
        have dl : ((ns.drop (at_ + 1)).drop n).length = s2.length + 1 := by rw [ed]; rfl
        rw [List.drop_drop, List.length_drop] at dl
        have erow : ns.drop (at_ + 1 + n) = (j : Int) :: s2 := by rw [← List.drop_drop]; exact ed
        have es2 : ns.drop (at_ + 1 + n + 1) = s2 := by rw [← List.drop_drop, erow]; rfl
        have eaj : atI (ns.map V.int) ((at_ + 1 + n : Nat) : Int) = some (.int (j : Int)) := atI_nat (by
          rw [List.getElem?_map]
          have : ns[at_ + 1 + n]? = some (j : Int) := by
            have := List.getElem?_drop (xs := ns) (i := at_ + 1 + n) (j := 0)
            rw [erow] at this
            simpa using this.symm
          rw [this]
          rfl)
        refine ⟨_, rfl, _, _, rfl, rfl, _, rfl, _, rfl, a, _, _, _, rfl, rfl, ha3, eaj, _, _, rfl, rfl, ?_⟩
        have ae : ((at_ + 1 + n : Nat) : Int) + 1 + (j : Int) = ((at_ + 1 + n + 1 + j : Nat) : Int) := by omega
        dsimp only
        rw [ae]
        refine ⟨_, rfl, _, rfl, _, _, rfl, rfl, _, rfl, _, rfl, _, rfl, a, _, rfl, ha3, fun rc hrc => ?_⟩
        have ecut2 : cutV (ns.map V.int) (some (((at_ + 1 + n : Nat) : Int) + 1)) (some ((at_ + 1 + n + 1 + j : Nat) : Int)) = (rowOf c).map V.int := by
          rw [show ((at_ + 1 + n : Nat) : Int) + 1 = ((at_ + 1 + n + 1 : Nat) : Int) by omega, cut_both (by omega) (by rw [mlen]; omega), hro, ← List.map_drop, ← List.map_take, es2, show at_ + 1 + n + 1 + j - (at_ + 1 + n + 1) = j by omega]
        rw [ecut2]
        have yc : y ≠ rc := ne_of_none hy3 hrc
        have sm4 : Same H3 (upd H3 rc (.lst ((rowOf c).map V.int))) := same_new hrc
        have hc4 : (upd H3 rc (.lst ((rowOf c).map V.int))) rc = some (.lst ((rowOf c).map V.int)) := upd_same
        generalize upd H3 rc (.lst ((rowOf c).map V.int)) = H4 at sm4 hc4
        have hy4 := sm4 _ _ hy3
        refine ⟨_, rfl, .inl ⟨rfl, _, SqL.of hy4⟩, _, rfl, _, rfl, _, rfl, (by show 3 ≤ sizeLine; decide), fun p hp0 => ?_⟩
        have sp : Same H4 (upd H4 p (.tup [.int (k : Int), .ref nb, .ref rc])) := same_new hp0
        have hpp : (upd H4 p (.tup [.int (k : Int), .ref nb, .ref rc])) p = some (.tup [.int (k : Int), .ref nb, .ref rc]) := upd_same
        generalize upd H4 p (.tup [.int (k : Int), .ref nb, .ref rc]) = H5 at sp hpp
        refine ⟨y, _, _, rfl, rfl, sp _ _ hy4, ql, ?_⟩
        refine sc_end ((s03.trans sm4).trans sp) ((s13.trans sm4).trans sp) hy hy1 hp er (by rw [epk]; exact hpp) (sp _ _ (sm4 _ _ hn3)) (sp _ _ hc4) ((s03.trans sm4).free hp0) fn (s03.free hrc) (Ne.symm yn) (Ne.symm yc) (Ne.symm (ne_of_none hy4 hp0)) (by omega) (by omega) ?_
        rw [← List.drop_drop, es2]
        exact lf'
    · refine ifF (decide_eq_false lt) ?_
      have e0 : ns.drop at_ = [] := List.drop_of_length_le (by omega)
      rw [e0] at lf
      have er0 := lf.nil
      subst er0
      rw [List.append_nil] at er
      subst er
      exact ⟨_, rfl, q H1 y qs sm hy hy1 hp⟩
end
end Sw
namespace Sw
open PySem PySem.Spec PyProof.Rows
open L2 hiding Walk
open Lg04 (Cell cellAt look within unify same)

structure Txt6 (mg : Str → Option Value) : Prop where
  n0 : ∃ t, mg "NEW" = some (.int 0 t)
  n1 : ∃ t, mg "CON" = some (.int 1 t)
  n2 : ∃ t, mg "STR" = some (.int 2 t)
  n3 : ∃ t, mg "COPY" = some (.int 3 t)
  n4 : ∃ t, mg "CLEAR" = some (.int 4 t)
  n5 : ∃ t, mg "SAME" = some (.int 5 t)
  n6 : ∃ t, mg "ARG" = some (.int 6 t)
  n7 : ∃ t, mg "CHOICE" = some (.int 7 t)
  n8 : ∃ t, mg "BACK" = some (.int 8 t)
  n9 : ∃ t, mg "CUT" = some (.int 9 t)
  n10 : ∃ t, mg "VALUE" = some (.int 10 t)
  n11 : ∃ t, mg "LOOK" = some (.int 11 t)
  n12 : ∃ t, mg "SWEEP" = some (.int 12 t)
/-- the fourteen calls' defs -/
structure Defs (P : Program) (w : World) (K : PySem.W.Frag) (mg : Str → Option Value) (base : PySem.Heap) (C CC : Addr) (f : Nat → Addr) (fd : Nat → FuncData) : Prop where
  g0 : FnOk P w K mg base CX0 2 (f 0) (fd 0) ["machine", "r"] (spNew C CC)
  d0 : Dn K mg "call_new" sNew ["machine", "r"] (f 0) (fd 0)
  g1 : FnOk P w K mg base CX0 2 (f 1) (fd 1) ["machine", "r", "symbol"] (spCon C CC)
  d1 : Dn K mg "call_con" sCon ["machine", "r", "symbol"] (f 1) (fd 1)
  g2 : FnOk P w K mg base CX0 2 (f 2) (fd 2) ["machine", "r", "symbol", "registers"] (spStr C CC)
  d2 : Dn K mg "call_str" sStr ["machine", "r", "symbol", "registers"] (f 2) (fd 2)
  g3 : FnOk P w K mg base CX0 2 (f 3) (fd 3) ["machine", "r", "q"] (spCopy C CC)
  d3 : Dn K mg "call_copy" sCopy ["machine", "r", "q"] (f 3) (fd 3)
  g4 : FnOk P w K mg base CX0 2 (f 4) (fd 4) ["machine", "r"] (spClear C CC)
  d4 : Dn K mg "call_clear" sClear ["machine", "r"] (f 4) (fd 4)
  g5 : FnOk P w K mg base CX0 7 (f 5) (fd 5) ["machine", "r", "q"] (spSame C CC)
  d5 : Dn K mg "call_same" sSame ["machine", "r", "q"] (f 5) (fd 5)
  g6 : FnOk P w K mg base CX0 2 (f 6) (fd 6) ["machine", "r", "i", "q"] (spArg C CC)
  d6 : Dn K mg "call_arg" sArg ["machine", "r", "i", "q"] (f 6) (fd 6)
  g7 : FnOk P w K mg base CX0 4 (f 7) (fd 7) ["machine"] (spCh C CC)
  d7 : Dn K mg "call_choice" sCh ["machine"] (f 7) (fd 7)
  g8 : FnOk P w K mg base CX0 3 (f 8) (fd 8) ["machine"] (spBack C CC)
  d8 : Dn K mg "call_back" sBack ["machine"] (f 8) (fd 8)
  g9 : FnOk P w K mg base CX0 1 (f 9) (fd 9) ["machine", "k"] (spCut C CC)
  d9 : Dn K mg "call_cut" sCut ["machine", "k"] (f 9) (fd 9)
  g10 : FnOk P w K mg base CX0 4 (f 10) (fd 10) ["machine", "registers"] (spVal C CC)
  d10 : Dn K mg "call_value" sVal ["machine", "registers"] (f 10) (fd 10)
  g11 : FnOk P w K mg base CX0 1 (f 11) (fd 11) ["machine"] (spLk C CC)
  d11 : Dn K mg "call_look" sLk ["machine"] (f 11) (fd 11)
  g12 : FnOk P w K mg base CX0 6 (f 12) (fd 12) ["machine"] (spCS C CC)
  d12 : Dn K mg "call_sweep" sCS ["machine"] (f 12) (fd 12)
  g13 : FnOk P w K mg base CX0 1 (f 13) (fd 13) ["machine"] (spHp C CC)
  d13 : Dn K mg "call_heap" sHp ["machine"] (f 13) (fd 13)
section
variable {P : Program} {w : World} {K : PySem.W.Frag} {mg : Str → Option Value} {base : PySem.Heap}
abbrev sAw : Stmt := top 82
theorem scAw : FnScope ["machine", "number", "numbers", "row"] ["machine", "number", "numbers", "row"] (defScope sAw) := ⟨rfl, rfl, rfl, by decide +kernel, rfl, by decide +kernel, by decide +kernel⟩
def spAw (C CC : Addr) : Sp := fun vs H Q _ => ∃ (p : Addr) (ow : List Addr) (m : Lg04.M) (c : Raw) (x : Lg06.Call) (na nb : Addr), vs = [.ref p, .int (pOf c), .ref na, .ref nb] ∧ MachW C CC H p ow m ∧ Inv m ∧ m.heap.size ≤ 900 ∧ Ask c x ∧ H na = some (.lst ((numsOf c).map V.int)) ∧ H nb = some (.lst ((rowOf c).map V.int)) ∧ nb ∉ ow ∧ Does C CC p ow m x H Q
theorem ok_aw {C CC fa : Addr} {fda : FuncData} {f : Nat → Addr} {fd : Nat → FuncData} (D : Dn K mg "answer" sAw ["machine", "number", "numbers", "row"] fa fda) (T6 : Txt6 mg) (G : Defs P w K mg base C CC f fd) : FnOk P w K mg base CX0 8 fa fda ["machine", "number", "numbers", "row"] (spAw C CC) := by
  refine D.F.ok scAw (fun vs H Q E h => ?_) (fun cdv A outer s H vs Q E hr h => ?_)
  · obtain ⟨p, ow, m, c, x, na, nb, rfl, _⟩ := h
    rfl
  · obtain ⟨p, ow, m, c, x, na, nb, rfl, W, I, hs, ask, hna, hnb, nbo, d⟩ := h
    obtain ⟨t0, e0⟩ := T6.n0
    obtain ⟨t1, e1⟩ := T6.n1
    obtain ⟨t2, e2⟩ := T6.n2
    obtain ⟨t3, e3⟩ := T6.n3
    obtain ⟨t4, e4⟩ := T6.n4
    obtain ⟨t5, e5⟩ := T6.n5
    obtain ⟨t6, e6⟩ := T6.n6
    obtain ⟨t7, e7⟩ := T6.n7
    obtain ⟨t8, e8⟩ := T6.n8
    obtain ⟨t9, e9⟩ := T6.n9
    obtain ⟨t10, e10⟩ := T6.n10
    obtain ⟨t11, e11⟩ := T6.n11
    obtain ⟨t12, e12⟩ := T6.n12
    refine ⟨_, (pss_cons (ps_if (pt_cmpR op_eq (pv 1) (pe_glob (v := .int 0) rfl e0 ⟨_, rfl⟩) (nomark _)) (pss_one (ps_ret (pe_call G.g0 (hr.mono (by decide)) rfl G.d0.m G.d0.F.kp G.d0.b .nil pass0 (pa_cons (pv 0) (pa_cons (pe_ix ix_list (pv 2) pe_int (fun _ _ => rfl)) pa_nil))))) pss_nil)
      (pss_cons (ps_if (pt_cmpR op_eq (pv 1) (pe_glob (v := .int 1) rfl e1 ⟨_, rfl⟩) (nomark _)) (pss_one (ps_ret (pe_call G.g1 (hr.mono (by decide)) rfl G.d1.m G.d1.F.kp G.d1.b .nil pass0 (pa_cons (pv 0) (pa_cons (pe_ix ix_list (pv 2) pe_int (fun _ _ => rfl)) (pa_cons (pe_ix ix_list (pv 2) pe_int (fun _ _ => rfl)) pa_nil)))))) pss_nil)
      (pss_cons (ps_if (pt_cmpR op_eq (pv 1) (pe_glob (v := .int 2) rfl e2 ⟨_, rfl⟩) (nomark _)) (pss_one (ps_ret (pe_call G.g2 (hr.mono (by decide)) rfl G.d2.m G.d2.F.kp G.d2.b .nil pass0 (pa_cons (pv 0) (pa_cons (pe_ix ix_list (pv 2) pe_int (fun _ _ => rfl)) (pa_cons (pe_ix ix_list (pv 2) pe_int (fun _ _ => rfl)) (pa_cons (pv 3) pa_nil))))))) pss_nil)
      (pss_cons (ps_if (pt_cmpR op_eq (pv 1) (pe_glob (v := .int 3) rfl e3 ⟨_, rfl⟩) (nomark _)) (pss_one (ps_ret (pe_call G.g3 (hr.mono (by decide)) rfl G.d3.m G.d3.F.kp G.d3.b .nil pass0 (pa_cons (pv 0) (pa_cons (pe_ix ix_list (pv 2) pe_int (fun _ _ => rfl)) (pa_cons (pe_ix ix_list (pv 2) pe_int (fun _ _ => rfl)) pa_nil)))))) pss_nil)
      (pss_cons (ps_if (pt_cmpR op_eq (pv 1) (pe_glob (v := .int 4) rfl e4 ⟨_, rfl⟩) (nomark _)) (pss_one (ps_ret (pe_call G.g4 (hr.mono (by decide)) rfl G.d4.m G.d4.F.kp G.d4.b .nil pass0 (pa_cons (pv 0) (pa_cons (pe_ix ix_list (pv 2) pe_int (fun _ _ => rfl)) pa_nil))))) pss_nil)
      (pss_cons (ps_if (pt_cmpR op_eq (pv 1) (pe_glob (v := .int 5) rfl e5 ⟨_, rfl⟩) (nomark _)) (pss_one (ps_ret (pe_call G.g5 hr rfl G.d5.m G.d5.F.kp G.d5.b .nil pass0 (pa_cons (pv 0) (pa_cons (pe_ix ix_list (pv 2) pe_int (fun _ _ => rfl)) (pa_cons (pe_ix ix_list (pv 2) pe_int (fun _ _ => rfl)) pa_nil)))))) pss_nil)
      (pss_cons (ps_if (pt_cmpR op_eq (pv 1) (pe_glob (v := .int 6) rfl e6 ⟨_, rfl⟩) (nomark _)) (pss_one (ps_ret (pe_call G.g6 (hr.mono (by decide)) rfl G.d6.m G.d6.F.kp G.d6.b .nil pass0 (pa_cons (pv 0) (pa_cons (pe_ix ix_list (pv 2) pe_int (fun _ _ => rfl)) (pa_cons (pe_ix ix_list (pv 2) pe_int (fun _ _ => rfl)) (pa_cons (pe_ix ix_list (pv 2) pe_int (fun _ _ => rfl)) pa_nil))))))) pss_nil)
      (pss_cons (ps_if (pt_cmpR op_eq (pv 1) (pe_glob (v := .int 7) rfl e7 ⟨_, rfl⟩) (nomark _)) (pss_one (ps_ret (pe_call G.g7 (hr.mono (by decide)) rfl G.d7.m G.d7.F.kp G.d7.b .nil pass0 (pa_cons (pv 0) pa_nil)))) pss_nil)
      (pss_cons (ps_if (pt_cmpR op_eq (pv 1) (pe_glob (v := .int 8) rfl e8 ⟨_, rfl⟩) (nomark _)) (pss_one (ps_ret (pe_call G.g8 (hr.mono (by decide)) rfl G.d8.m G.d8.F.kp G.d8.b .nil pass0 (pa_cons (pv 0) pa_nil)))) pss_nil)
      (pss_cons (ps_if (pt_cmpR op_eq (pv 1) (pe_glob (v := .int 9) rfl e9 ⟨_, rfl⟩) (nomark _)) (pss_one (ps_ret (pe_call G.g9 (hr.mono (by decide)) rfl G.d9.m G.d9.F.kp G.d9.b .nil pass0 (pa_cons (pv 0) (pa_cons (pe_ix ix_list (pv 2) pe_int (fun _ _ => rfl)) pa_nil))))) pss_nil)
      (pss_cons (ps_if (pt_cmpR op_eq (pv 1) (pe_glob (v := .int 10) rfl e10 ⟨_, rfl⟩) (nomark _)) (pss_one (ps_ret (pe_call G.g10 (hr.mono (by decide)) rfl G.d10.m G.d10.F.kp G.d10.b .nil pass0 (pa_cons (pv 0) (pa_cons (pv 3) pa_nil))))) pss_nil)
      (pss_cons (ps_if (pt_cmpR op_eq (pv 1) (pe_glob (v := .int 11) rfl e11 ⟨_, rfl⟩) (nomark _)) (pss_one (ps_ret (pe_call G.g11 (hr.mono (by decide)) rfl G.d11.m G.d11.F.kp G.d11.b .nil pass0 (pa_cons (pv 0) pa_nil)))) pss_nil)
      (pss_cons (ps_if (pt_cmpR op_eq (pv 1) (pe_glob (v := .int 12) rfl e12 ⟨_, rfl⟩) (nomark _)) (pss_one (ps_ret (pe_call G.g12 (hr.mono (by decide)) rfl G.d12.m G.d12.F.kp G.d12.b .nil pass0 (pa_cons (pv 0) pa_nil)))) pss_nil)
      (pss_one (ps_ret (pe_call G.g13 (hr.mono (by decide)) rfl G.d13.m G.d13.F.kp G.d13.b .nil pass0 (pa_cons (pv 0) pa_nil))))))))))))))))), ?_⟩
    cases ask with
    | new_ r =>
      refine ⟨_, rfl, rfl, _, rfl, ifT (decT rfl) ?_⟩
      exact ⟨_, rfl, _, rfl, na, _, _, _, rfl, rfl, SqL.of hna, (by rfl), p, ow, m, r, rfl, W, I, hs, d⟩
    | con r s =>
      refine ⟨_, rfl, rfl, _, rfl, ifF (decF (by show ¬ (1 : Int) = 0; decide)) ?_⟩
      refine ⟨_, rfl, rfl, _, rfl, ifT (decT rfl) ?_⟩
      exact ⟨_, rfl, _, rfl, na, _, _, _, rfl, rfl, SqL.of hna, (by rfl), _, rfl, na, _, _, _, rfl, rfl, SqL.of hna, (by rfl), p, ow, m, r, s, rfl, W, I, d⟩
    | str r s l l30 =>
      refine ⟨_, rfl, rfl, _, rfl, ifF (decF (by show ¬ (2 : Int) = 0; decide)) ?_⟩
      refine ⟨_, rfl, rfl, _, rfl, ifF (decF (by show ¬ (2 : Int) = 1; decide)) ?_⟩
      refine ⟨_, rfl, rfl, _, rfl, ifT (decT rfl) ?_⟩
      exact ⟨_, rfl, _, rfl, na, _, _, _, rfl, rfl, SqL.of hna, (by rfl), _, rfl, na, _, _, _, rfl, rfl, SqL.of hna, (by rfl), _, rfl, p, nb, ow, m, r, s, l, rfl, W, I, hs, (by rw [nats_int]; exact hnb), nbo, l30, d⟩
    | copy r q =>
      refine ⟨_, rfl, rfl, _, rfl, ifF (decF (by show ¬ (3 : Int) = 0; decide)) ?_⟩
      refine ⟨_, rfl, rfl, _, rfl, ifF (decF (by show ¬ (3 : Int) = 1; decide)) ?_⟩
      refine ⟨_, rfl, rfl, _, rfl, ifF (decF (by show ¬ (3 : Int) = 2; decide)) ?_⟩
      refine ⟨_, rfl, rfl, _, rfl, ifT (decT rfl) ?_⟩
      exact ⟨_, rfl, _, rfl, na, _, _, _, rfl, rfl, SqL.of hna, (by rfl), _, rfl, na, _, _, _, rfl, rfl, SqL.of hna, (by rfl), p, ow, m, r, q, rfl, W, I, d⟩
    | clear r =>
      refine ⟨_, rfl, rfl, _, rfl, ifF (decF (by show ¬ (4 : Int) = 0; decide)) ?_⟩
      refine ⟨_, rfl, rfl, _, rfl, ifF (decF (by show ¬ (4 : Int) = 1; decide)) ?_⟩
      refine ⟨_, rfl, rfl, _, rfl, ifF (decF (by show ¬ (4 : Int) = 2; decide)) ?_⟩
      refine ⟨_, rfl, rfl, _, rfl, ifF (decF (by show ¬ (4 : Int) = 3; decide)) ?_⟩
      refine ⟨_, rfl, rfl, _, rfl, ifT (decT rfl) ?_⟩
      exact ⟨_, rfl, _, rfl, na, _, _, _, rfl, rfl, SqL.of hna, (by rfl), p, ow, m, r, rfl, W, I, d⟩
    | same r q =>
      refine ⟨_, rfl, rfl, _, rfl, ifF (decF (by show ¬ (5 : Int) = 0; decide)) ?_⟩
      refine ⟨_, rfl, rfl, _, rfl, ifF (decF (by show ¬ (5 : Int) = 1; decide)) ?_⟩
      refine ⟨_, rfl, rfl, _, rfl, ifF (decF (by show ¬ (5 : Int) = 2; decide)) ?_⟩
      refine ⟨_, rfl, rfl, _, rfl, ifF (decF (by show ¬ (5 : Int) = 3; decide)) ?_⟩
      refine ⟨_, rfl, rfl, _, rfl, ifF (decF (by show ¬ (5 : Int) = 4; decide)) ?_⟩
      refine ⟨_, rfl, rfl, _, rfl, ifT (decT rfl) ?_⟩
      exact ⟨_, rfl, _, rfl, na, _, _, _, rfl, rfl, SqL.of hna, (by rfl), _, rfl, na, _, _, _, rfl, rfl, SqL.of hna, (by rfl), p, ow, m, r, q, rfl, W, I, hs, d⟩
    | arg r i q =>
      refine ⟨_, rfl, rfl, _, rfl, ifF (decF (by show ¬ (6 : Int) = 0; decide)) ?_⟩
      refine ⟨_, rfl, rfl, _, rfl, ifF (decF (by show ¬ (6 : Int) = 1; decide)) ?_⟩
      refine ⟨_, rfl, rfl, _, rfl, ifF (decF (by show ¬ (6 : Int) = 2; decide)) ?_⟩
      refine ⟨_, rfl, rfl, _, rfl, ifF (decF (by show ¬ (6 : Int) = 3; decide)) ?_⟩
      refine ⟨_, rfl, rfl, _, rfl, ifF (decF (by show ¬ (6 : Int) = 4; decide)) ?_⟩
      refine ⟨_, rfl, rfl, _, rfl, ifF (decF (by show ¬ (6 : Int) = 5; decide)) ?_⟩
      refine ⟨_, rfl, rfl, _, rfl, ifT (decT rfl) ?_⟩
      exact ⟨_, rfl, _, rfl, na, _, _, _, rfl, rfl, SqL.of hna, (by rfl), _, rfl, na, _, _, _, rfl, rfl, SqL.of hna, (by rfl), _, rfl, na, _, _, _, rfl, rfl, SqL.of hna, (by rfl), p, ow, m, r, i, q, rfl, W, I, d⟩
    | choice  =>
      refine ⟨_, rfl, rfl, _, rfl, ifF (decF (by show ¬ (7 : Int) = 0; decide)) ?_⟩
      refine ⟨_, rfl, rfl, _, rfl, ifF (decF (by show ¬ (7 : Int) = 1; decide)) ?_⟩
      refine ⟨_, rfl, rfl, _, rfl, ifF (decF (by show ¬ (7 : Int) = 2; decide)) ?_⟩
      refine ⟨_, rfl, rfl, _, rfl, ifF (decF (by show ¬ (7 : Int) = 3; decide)) ?_⟩
      refine ⟨_, rfl, rfl, _, rfl, ifF (decF (by show ¬ (7 : Int) = 4; decide)) ?_⟩
      refine ⟨_, rfl, rfl, _, rfl, ifF (decF (by show ¬ (7 : Int) = 5; decide)) ?_⟩
      refine ⟨_, rfl, rfl, _, rfl, ifF (decF (by show ¬ (7 : Int) = 6; decide)) ?_⟩
      refine ⟨_, rfl, rfl, _, rfl, ifT (decT rfl) ?_⟩
      exact ⟨_, rfl, p, ow, m, rfl, W, I, d⟩
    | back  =>
      refine ⟨_, rfl, rfl, _, rfl, ifF (decF (by show ¬ (8 : Int) = 0; decide)) ?_⟩
      refine ⟨_, rfl, rfl, _, rfl, ifF (decF (by show ¬ (8 : Int) = 1; decide)) ?_⟩
      refine ⟨_, rfl, rfl, _, rfl, ifF (decF (by show ¬ (8 : Int) = 2; decide)) ?_⟩
      refine ⟨_, rfl, rfl, _, rfl, ifF (decF (by show ¬ (8 : Int) = 3; decide)) ?_⟩
      refine ⟨_, rfl, rfl, _, rfl, ifF (decF (by show ¬ (8 : Int) = 4; decide)) ?_⟩
      refine ⟨_, rfl, rfl, _, rfl, ifF (decF (by show ¬ (8 : Int) = 5; decide)) ?_⟩
      refine ⟨_, rfl, rfl, _, rfl, ifF (decF (by show ¬ (8 : Int) = 6; decide)) ?_⟩
      refine ⟨_, rfl, rfl, _, rfl, ifF (decF (by show ¬ (8 : Int) = 7; decide)) ?_⟩
      refine ⟨_, rfl, rfl, _, rfl, ifT (decT rfl) ?_⟩
      exact ⟨_, rfl, p, ow, m, rfl, W, I, d⟩
    | cut k =>
      refine ⟨_, rfl, rfl, _, rfl, ifF (decF (by show ¬ (9 : Int) = 0; decide)) ?_⟩
      refine ⟨_, rfl, rfl, _, rfl, ifF (decF (by show ¬ (9 : Int) = 1; decide)) ?_⟩
      refine ⟨_, rfl, rfl, _, rfl, ifF (decF (by show ¬ (9 : Int) = 2; decide)) ?_⟩
      refine ⟨_, rfl, rfl, _, rfl, ifF (decF (by show ¬ (9 : Int) = 3; decide)) ?_⟩
      refine ⟨_, rfl, rfl, _, rfl, ifF (decF (by show ¬ (9 : Int) = 4; decide)) ?_⟩
      refine ⟨_, rfl, rfl, _, rfl, ifF (decF (by show ¬ (9 : Int) = 5; decide)) ?_⟩
      refine ⟨_, rfl, rfl, _, rfl, ifF (decF (by show ¬ (9 : Int) = 6; decide)) ?_⟩
      refine ⟨_, rfl, rfl, _, rfl, ifF (decF (by show ¬ (9 : Int) = 7; decide)) ?_⟩
      refine ⟨_, rfl, rfl, _, rfl, ifF (decF (by show ¬ (9 : Int) = 8; decide)) ?_⟩
      refine ⟨_, rfl, rfl, _, rfl, ifT (decT rfl) ?_⟩
      exact ⟨_, rfl, _, rfl, na, _, _, _, rfl, rfl, SqL.of hna, (by rfl), p, ow, m, k, rfl, W, I, d⟩
    | value l l30 =>
      refine ⟨_, rfl, rfl, _, rfl, ifF (decF (by show ¬ (10 : Int) = 0; decide)) ?_⟩
      refine ⟨_, rfl, rfl, _, rfl, ifF (decF (by show ¬ (10 : Int) = 1; decide)) ?_⟩
      refine ⟨_, rfl, rfl, _, rfl, ifF (decF (by show ¬ (10 : Int) = 2; decide)) ?_⟩
      refine ⟨_, rfl, rfl, _, rfl, ifF (decF (by show ¬ (10 : Int) = 3; decide)) ?_⟩
      refine ⟨_, rfl, rfl, _, rfl, ifF (decF (by show ¬ (10 : Int) = 4; decide)) ?_⟩
      refine ⟨_, rfl, rfl, _, rfl, ifF (decF (by show ¬ (10 : Int) = 5; decide)) ?_⟩
      refine ⟨_, rfl, rfl, _, rfl, ifF (decF (by show ¬ (10 : Int) = 6; decide)) ?_⟩
      refine ⟨_, rfl, rfl, _, rfl, ifF (decF (by show ¬ (10 : Int) = 7; decide)) ?_⟩
      refine ⟨_, rfl, rfl, _, rfl, ifF (decF (by show ¬ (10 : Int) = 8; decide)) ?_⟩
      refine ⟨_, rfl, rfl, _, rfl, ifF (decF (by show ¬ (10 : Int) = 9; decide)) ?_⟩
      refine ⟨_, rfl, rfl, _, rfl, ifT (decT rfl) ?_⟩
      exact ⟨_, rfl, _, rfl, p, nb, ow, m, l, rfl, W, I, (by rw [nats_int]; exact hnb), l30, d⟩
    | look  =>
      refine ⟨_, rfl, rfl, _, rfl, ifF (decF (by show ¬ (11 : Int) = 0; decide)) ?_⟩
      refine ⟨_, rfl, rfl, _, rfl, ifF (decF (by show ¬ (11 : Int) = 1; decide)) ?_⟩
      refine ⟨_, rfl, rfl, _, rfl, ifF (decF (by show ¬ (11 : Int) = 2; decide)) ?_⟩
      refine ⟨_, rfl, rfl, _, rfl, ifF (decF (by show ¬ (11 : Int) = 3; decide)) ?_⟩
      refine ⟨_, rfl, rfl, _, rfl, ifF (decF (by show ¬ (11 : Int) = 4; decide)) ?_⟩
      refine ⟨_, rfl, rfl, _, rfl, ifF (decF (by show ¬ (11 : Int) = 5; decide)) ?_⟩
      refine ⟨_, rfl, rfl, _, rfl, ifF (decF (by show ¬ (11 : Int) = 6; decide)) ?_⟩
      refine ⟨_, rfl, rfl, _, rfl, ifF (decF (by show ¬ (11 : Int) = 7; decide)) ?_⟩
      refine ⟨_, rfl, rfl, _, rfl, ifF (decF (by show ¬ (11 : Int) = 8; decide)) ?_⟩
      refine ⟨_, rfl, rfl, _, rfl, ifF (decF (by show ¬ (11 : Int) = 9; decide)) ?_⟩
      refine ⟨_, rfl, rfl, _, rfl, ifF (decF (by show ¬ (11 : Int) = 10; decide)) ?_⟩
      refine ⟨_, rfl, rfl, _, rfl, ifT (decT rfl) ?_⟩
      exact ⟨_, rfl, p, ow, m, rfl, W, d⟩
    | sweep  =>
      refine ⟨_, rfl, rfl, _, rfl, ifF (decF (by show ¬ (12 : Int) = 0; decide)) ?_⟩
      refine ⟨_, rfl, rfl, _, rfl, ifF (decF (by show ¬ (12 : Int) = 1; decide)) ?_⟩
      refine ⟨_, rfl, rfl, _, rfl, ifF (decF (by show ¬ (12 : Int) = 2; decide)) ?_⟩
      refine ⟨_, rfl, rfl, _, rfl, ifF (decF (by show ¬ (12 : Int) = 3; decide)) ?_⟩
      refine ⟨_, rfl, rfl, _, rfl, ifF (decF (by show ¬ (12 : Int) = 4; decide)) ?_⟩
      refine ⟨_, rfl, rfl, _, rfl, ifF (decF (by show ¬ (12 : Int) = 5; decide)) ?_⟩
      refine ⟨_, rfl, rfl, _, rfl, ifF (decF (by show ¬ (12 : Int) = 6; decide)) ?_⟩
      refine ⟨_, rfl, rfl, _, rfl, ifF (decF (by show ¬ (12 : Int) = 7; decide)) ?_⟩
      refine ⟨_, rfl, rfl, _, rfl, ifF (decF (by show ¬ (12 : Int) = 8; decide)) ?_⟩
      refine ⟨_, rfl, rfl, _, rfl, ifF (decF (by show ¬ (12 : Int) = 9; decide)) ?_⟩
      refine ⟨_, rfl, rfl, _, rfl, ifF (decF (by show ¬ (12 : Int) = 10; decide)) ?_⟩
      refine ⟨_, rfl, rfl, _, rfl, ifF (decF (by show ¬ (12 : Int) = 11; decide)) ?_⟩
      refine ⟨_, rfl, rfl, _, rfl, ifT (decT rfl) ?_⟩
      exact ⟨_, rfl, p, ow, m, rfl, W, I, hs, d⟩
    | heap  =>
      refine ⟨_, rfl, rfl, _, rfl, ifF (decF (by show ¬ (13 : Int) = 0; decide)) ?_⟩
      refine ⟨_, rfl, rfl, _, rfl, ifF (decF (by show ¬ (13 : Int) = 1; decide)) ?_⟩
      refine ⟨_, rfl, rfl, _, rfl, ifF (decF (by show ¬ (13 : Int) = 2; decide)) ?_⟩
      refine ⟨_, rfl, rfl, _, rfl, ifF (decF (by show ¬ (13 : Int) = 3; decide)) ?_⟩
      refine ⟨_, rfl, rfl, _, rfl, ifF (decF (by show ¬ (13 : Int) = 4; decide)) ?_⟩
      refine ⟨_, rfl, rfl, _, rfl, ifF (decF (by show ¬ (13 : Int) = 5; decide)) ?_⟩
      refine ⟨_, rfl, rfl, _, rfl, ifF (decF (by show ¬ (13 : Int) = 6; decide)) ?_⟩
      refine ⟨_, rfl, rfl, _, rfl, ifF (decF (by show ¬ (13 : Int) = 7; decide)) ?_⟩
      refine ⟨_, rfl, rfl, _, rfl, ifF (decF (by show ¬ (13 : Int) = 8; decide)) ?_⟩
      refine ⟨_, rfl, rfl, _, rfl, ifF (decF (by show ¬ (13 : Int) = 9; decide)) ?_⟩
      refine ⟨_, rfl, rfl, _, rfl, ifF (decF (by show ¬ (13 : Int) = 10; decide)) ?_⟩
      refine ⟨_, rfl, rfl, _, rfl, ifF (decF (by show ¬ (13 : Int) = 11; decide)) ?_⟩
      refine ⟨_, rfl, rfl, _, rfl, ifF (decF (by show ¬ (13 : Int) = 12; decide)) ?_⟩
      exact ⟨_, rfl, p, ow, m, rfl, W, I, hs, d⟩
end
end Sw
namespace Sw
open PySem PySem.Spec PyProof.Rows
open L2 hiding Walk
open Lg04 (Cell cellAt look within unify same)

theorem Mach.other {C CC : Addr} {H : Hp} {p dx l r t c y : Addr} {qs gs : List Addr} {m : Lg04.M} {xs ys : List V} (R : Mach C CC H p dx l r t c qs gs m) (hy : H y = some (.lst xs)) (ny : y ∉ own p l r t c qs gs) : Mach C CC (upd H y (.lst ys)) p dx l r t c qs gs m := by
  have tu : Tups H (upd H y (.lst ys)) := Tups.lst hy
  have n : ∀ {b : Addr} {o : HO}, b ∈ own p l r t c qs gs → H b = some o → (upd H y (.lst ys)) b = some o := fun mb e => by
    rw [upd_ne (fun z => ny (by rw [← z]; exact mb))]; exact e
  obtain ⟨ts, hl, hc⟩ := R.heap
  obtain ⟨vr, hr, rv⟩ := R.regs
  refine ⟨n (by unfold own; simp) R.ins, ⟨ts, n (by unfold own; simp) hl, hc.keep tu⟩, ⟨vr, n (by unfold own; simp) hr, rv.keep tu⟩, n (by unfold own; simp) R.trail, n (by unfold own; simp) R.clst, ?_, R.lr, R.lt, R.lc, R.rt, R.rc, R.tc, R.gl, R.gr, R.gt, R.gc⟩
  refine R.chs.keep tu (fun q d2 g i j e2 => ?_) (fun g mg xs e2 => n (by unfold own; simp [mg]) e2)
  rw [upd_ne (ne_of e2 hy (fun z => nomatch z))]; exact e2
theorem MachW.other {C CC : Addr} {H : Hp} {p y : Addr} {ow : List Addr} {m : Lg04.M} {xs ys : List V} (R : MachW C CC H p ow m) (hy : H y = some (.lst xs)) (ny : y ∉ ow) : MachW C CC (upd H y (.lst ys)) p ow m := by
  obtain ⟨dx, l, r, t, c, qs, gs, R, rfl⟩ := R
  exact ⟨dx, l, r, t, c, qs, gs, R.other hy ny, rfl⟩
theorem MachW.same {C CC : Addr} {H H' : Hp} {p : Addr} {ow : List Addr} {m : Lg04.M} (R : MachW C CC H p ow m) (s : Same H H') : MachW C CC H' p ow m := by
  obtain ⟨dx, l, r, t, c, qs, gs, R, rfl⟩ := R
  exact ⟨dx, l, r, t, c, qs, gs, R.same s, rfl⟩
theorem MachW.tracked {C CC : Addr} {H : Hp} {p : Addr} {ow : List Addr} {m : Lg04.M} (R : MachW C CC H p ow m) {b : Addr} (mb : b ∈ ow) : ∃ o, H b = some o := by
  obtain ⟨dx, l, r, t, c, qs, gs, R, rfl⟩ := R
  exact R.tracked mb
def toldOf (raw : List Raw) (i : Nat) : List Int := PyFlat.told (PyFlat.played Lg06Neutral.step Lg06Neutral.start (raw.take i))
theorem toldOf_len {raw : List Raw} {i : Nat} (h : Lg06Neutral.many Lg06Neutral.start raw ≤ 1000000) (few : raw.length ≤ 100) : (toldOf raw i).length ≤ 1000100 := by
  unfold toldOf
  rw [told_len, List.length_take]
  have := many_app (raw.take i) (raw.drop i) Lg06Neutral.start
  rw [List.take_append_drop] at this
  omega
theorem toldOf_snoc {raw : List Raw} {i : Nat} {c : Raw} (e : raw[i]? = some c) : toldOf raw (i + 1) = toldOf raw i ++ ((Lg06Neutral.step (after Lg06Neutral.start (raw.take i)) c).2.length : Int) :: (Lg06Neutral.step (after Lg06Neutral.start (raw.take i)) c).2 := by
  unfold toldOf
  rw [take_snoc e, played_snoc, told_snoc]

section
variable {P : Program} {w : World} {K : PySem.W.Frag} {mg : Str → Option Value} {base : PySem.Heap}
abbrev sAns : Stmt := top 83
theorem scAns : FnScope ["calls", "machine", "told", "part", "answered"] ["calls"] (defScope sAns) := ⟨rfl, rfl, rfl, by decide +kernel, rfl, by decide +kernel, by decide +kernel⟩
def spAns (K : PySem.W.Frag) : Sp := fun vs H Q _ => ∃ (a : Addr) (ns : List Int) (raw : List Raw), vs = [.ref a] ∧ SqL K H a (ns.map V.int) ∧ Due ns raw ∧ ∀ (H' : Hp) (p : Addr), H' p = some (.lst ((PyLg06.answers ns).map V.int)) → Q (.ref p) H'
theorem ok_ans {C CC f fI fS fA : Addr} {fd fdI fdS fdA : FuncData} (D : Dn K mg "answers" sAns ["calls"] f fd) (len : mg "len" = none)
    (mgM : mg "Machine" = some (.ref C)) (M : Mk K C fI) (GI : FnOk P w K mg base CX0 1 fI fdI ["self"] (spInit C CC)) (bI : Binds K fdI ["self"] [])
    (GS : FnOk P w K mg base CX0 1 fS fdS ["calls"] (spSC K)) (DS : Dn K mg "split_calls" sSC ["calls"] fS fdS)
    (GA : FnOk P w K mg base CX0 8 fA fdA ["machine", "number", "numbers", "row"] (spAw C CC)) (DA : Dn K mg "answer" sAw ["machine", "number", "numbers", "row"] fA fdA) :
    FnOk P w K mg base CX0 9 f fd ["calls"] (spAns K) := by
  refine D.F.ok scAns (fun vs H Q E h => ?_) (fun cdv A outer s H vs Q E hr h => ?_)
  · obtain ⟨a, ns, raw, rfl, _⟩ := h
    rfl
  · obtain ⟨a, ns, raw, rfl, ha, due, k⟩ := h
    refine ⟨_, pss_cons (ps_set (i := 1) scAns.nd rfl (Or.inl rfl) (pe_make0 M GI (hr.mono (by decide)) rfl mgM bI .nil pass0))
      (pss_cons (ps_set (i := 2) scAns.nd rfl (Or.inl rfl) (pe_lst pa_nil))
      (pss_cons (ps_for PassesOwn.never rfl (pi_list (pe_call GS (hr.mono (by decide)) rfl DS.m DS.F.kp DS.b .nil pass0 (pa_cons (pv 0) pa_nil))) (pg_name (i := 3) scAns.nd rfl (Or.inl rfl))
        (pss_cons (ps_set (i := 4) scAns.nd rfl (Or.inl rfl) (pe_call GA hr rfl DA.m DA.F.kp DA.b .nil pass0 (pa_cons (pv 1) (pa_cons (pe_ix ix_tup (pv 3) pe_int (fun _ _ => rfl)) (pa_cons (pe_ix ix_tup (pv 3) pe_int (fun _ _ => rfl)) (pa_cons (pe_ix ix_tup (pv 3) pe_int (fun _ _ => rfl)) pa_nil))))))
        (pss_cons (ps_expr (pe_bm PySem.F.plainAttrs_list PySem.F.slot_list_append PySem.F.type_list_append mt_append (pv 2) (pa_cons (pe_callB call_len_seq (by rfl) len PySem.boot_len (pa_cons (pv 4) pa_nil)) pa_nil)))
        (pss_one (ps_expr (pe_bm PySem.F.plainAttrs_list PySem.F.slot_list_extend PySem.F.type_list_extend mt_extend (pv 2) (pa_cons (pv 4) pa_nil)))))))
      (pss_one (ps_ret (pv 2))))), ?_⟩
    intro p dx hp hdx ndx
    refine ⟨p, dx, rfl, upd_same, fun H1 l r t c R kp nl nr nt nc => ⟨rfl, ?_⟩⟩
    have sm1 : Same H H1 := Same.made hp hdx kp
    refine ⟨(by show 0 ≤ sizeLine; decide), fun y hy => ?_⟩
    have W1 : MachW C CC H1 p (own p l r t c [] []) Lg06.init := ⟨dx, l, r, t, c, [], [], R, rfl⟩
    have yo : y ∉ own p l r t c [] [] := fun z => by
      obtain ⟨o, eo⟩ := W1.tracked z
      rw [hy] at eo; cases eo
    have sm2 : Same H1 (upd H1 y (.lst [])) := same_new hy
    have hy2 : (upd H1 y (.lst [])) y = some (.lst ((toldOf raw 0).map V.int)) := upd_same
    generalize upd H1 y (.lst []) = H2 at sm2 hy2
    have W2 := W1.same sm2
    refine ⟨_, rfl, a, ns, raw, rfl, (sm1.trans sm2).seq ha, due.left, due.few, fun H3 z qs sm3 nz hz3 hp3 => ?_⟩
    have W3 := W2.same sm3
    generalize own p l r t c [] [] = ow0 at W1 yo W2 W3
    refine ⟨z, rfl, ⟨_, SqL.of hz3⟩, for_list (K := K) (a := z) (xs := qs.map V.ref) (fun i σ H' => ∃ v3 v4 ow m, σ = [some (.ref a), some (.ref p), some (.ref y), v3, v4] ∧ MachW C CC H' p ow m ∧ Inv m ∧ m.heap.size ≤ 5 * i ∧ m = after Lg06Neutral.start (raw.take i) ∧ H' y = some (.lst ((toldOf raw i).map V.int)) ∧ y ∉ ow ∧ ∀ b o, H3 b = some o → H2 b = none → H' b = some o ∧ b ∉ ow)
      ⟨none, none, ow0, Lg06.init, rfl, W3, inv_init, Nat.zero_le _, rfl, sm3 _ _ hy2, yo, fun b o e n => ⟨e, fun mb => ?_⟩⟩ (fun i σ H' _ ⟨_, _, _, _, _, _, _, _, _, _, _, w⟩ => SqL.of (w _ _ hz3 nz).1) ?_ ?_⟩
    · obtain ⟨o', eo⟩ := W2.tracked mb
      rw [n] at eo; cases eo
    · rintro i x σ H4 ei ⟨v3, v4, ow, m, rfl, W4, I, hsz, em, hy4, yow, kp4⟩
      obtain ⟨q, eq, rfl⟩ := refs_at ei
      obtain ⟨cr, ec, na, nb, h1, h2, h3, f1, f2, f3, _, _⟩ := hp3.at_ eq
      obtain ⟨x, ex, ask⟩ := due.ask cr (List.mem_of_getElem? ec)
      have hq4 := (kp4 _ _ h1 f1).1
      obtain ⟨ha4, nao⟩ := kp4 _ _ h2 f2
      obtain ⟨hb4, nbo⟩ := kp4 _ _ h3 f3
      have li : i < raw.length := by
        rcases Nat.lt_or_ge i raw.length with w | w
        · exact w
        · rw [List.getElem?_eq_none w] at ec; cases ec
      have few := due.few
      refine ⟨_, rfl, _, rfl, q, _, _, _, rfl, rfl, SqT.of hq4, rfl, _, rfl, q, _, _, _, rfl, rfl, SqT.of hq4, rfl, _, rfl, q, _, _, _, rfl, rfl, SqT.of hq4, rfl, p, ow, m, cr, x, na, nb, rfl, W4, I, by omega, ask, ha4, hb4, nbo, ?_⟩
      intro H5 ow' e W5 sub but he ne h5
      have I5 := inv_step I x
      have st : Lg06Neutral.step m cr = Lg06.step m x := step_call ex
      have ye : y ≠ e := fun w => by
        subst w
        rcases he with w | w
        · rw [hy4] at w; cases w
        · exact yow w
      have keep : ∀ {b : Addr} {o : HO}, H4 b = some o → b ∉ ow → H5 b = some o ∧ b ∉ ow' := fun e1 n1 => ⟨but _ _ e1 n1, fun mb => by
        rcases sub _ mb with w | w
        · exact n1 w
        · rw [w] at e1; cases e1⟩
      obtain ⟨hy5, yow'⟩ := keep hy4 yow
      have tl := toldOf_len (i := i + 1) due.many due.few
      rw [toldOf_snoc ec, ← em, st, List.length_append, List.length_cons] at tl
      refine ⟨_, rfl, .inl ⟨rfl, _, SqL.of hy5⟩, _, rfl, e, _, rfl, .inl (SqL.of h5), y, _, _, rfl, rfl, hy5, (by rw [List.length_map]; exact small_line (by omega)), ?_⟩
      rw [List.length_map]
      have hy6 : (upd H5 y (.lst ((toldOf raw i).map V.int ++ [.int ((Lg06.step m x).2.length : Nat)]))) y = some (.lst ((toldOf raw i).map V.int ++ [.int ((Lg06.step m x).2.length : Nat)])) := upd_same
      have he6 : (upd H5 y (.lst ((toldOf raw i).map V.int ++ [.int ((Lg06.step m x).2.length : Nat)]))) e = some (.lst ((Lg06.step m x).2.map V.int)) := by rw [upd_ne (Ne.symm ye)]; exact h5
      have W6 : MachW C CC (upd H5 y (.lst ((toldOf raw i).map V.int ++ [.int ((Lg06.step m x).2.length : Nat)]))) p ow' (Lg06.step m x).1 := W5.other hy5 yow'
      have k6 : ∀ b o, H3 b = some o → H2 b = none → (upd H5 y (.lst ((toldOf raw i).map V.int ++ [.int ((Lg06.step m x).2.length : Nat)]))) b = some o ∧ b ∉ ow' := fun b o e1 n1 => by
        obtain ⟨w1, w2⟩ := kp4 b o e1 n1
        obtain ⟨w3, w4⟩ := keep w1 w2
        refine ⟨?_, w4⟩
        rw [upd_ne (fun w => by subst w; rw [hy2] at n1; cases n1)]
        exact w3
      generalize upd H5 y (.lst ((toldOf raw i).map V.int ++ [.int ((Lg06.step m x).2.length : Nat)])) = H6 at hy6 he6 W6 k6
      refine ⟨_, rfl, .inl ⟨rfl, _, SqL.of hy6⟩, _, rfl, y, e, _, _, rfl, rfl, hy6, he6, ?_, ?_⟩
      · rw [List.length_append, List.length_map, List.length_map, List.length_singleton]
        exact small_line' (by omega)
      refine ⟨_, _, ow', (Lg06.step m x).1, rfl, W6.other hy6 yow', I5.1, by omega, ?_, ?_, yow', fun b o e1 n1 => ?_⟩
      · rw [take_snoc ec, after_snoc, ← em, st]
      · rw [upd_same, toldOf_snoc ec, ← em, st, List.map_append, List.append_assoc]
        rfl
      · obtain ⟨w1, w2⟩ := k6 b o e1 n1
        refine ⟨?_, w2⟩
        rw [upd_ne (fun w => by subst w; rw [hy2] at n1; cases n1)]
        exact w1
    · rintro σ H4 ⟨v3, v4, ow, m, rfl, W4, I, hsz, em, hy4, yow, kp4⟩
      refine ⟨_, rfl, k H4 y ?_⟩
      rw [hy4, due.ans, List.length_map, hp3.length]
      unfold toldOf
      rw [List.take_length]
end
end Sw
namespace Sw
open PySem PySem.Spec PyProof.Rows
open L2 hiding Walk

theorem all_mk {P : Program} {w : World} {K : PySem.W.Frag} {h : PySem.Heap} {mg : Str → Option Value} {fa C CC CV : Addr} (X : K.In h) (G : h.Ns mainGlobals mg) (hfa : mg "answers" = some (.ref fa))
    {fCI : Addr} {odCI anCI : Option Addr} {slCI : Array (Option Value)} {ocCI kVCI dcCI pmCI cdCI ctCI : Value}
    {fInit : Addr} {odInit anInit : Option Addr} {slInit : Array (Option Value)} {ocInit kVInit dcInit pmInit cdInit ctInit : Value}
    {fAV : Addr} {odAV anAV : Option Addr} {slAV : Array (Option Value)} {ocAV kVAV dcAV pmAV cdAV ctAV : Value}
    {fAS : Addr} {odAS anAS : Option Addr} {slAS : Array (Option Value)} {ocAS kVAS dcAS pmAS cdAS ctAS : Value}
    {fBind : Addr} {odBind anBind : Option Addr} {slBind : Array (Option Value)} {ocBind kVBind dcBind pmBind cdBind ctBind : Value}
    {fCN : Addr} {odCN anCN : Option Addr} {slCN : Array (Option Value)} {ocCN kVCN dcCN pmCN cdCN ctCN : Value}
    {fHB : Addr} {odHB anHB : Option Addr} {slHB : Array (Option Value)} {ocHB kVHB dcHB pmHB cdHB ctHB : Value}
    {fBk : Addr} {odBk anBk : Option Addr} {slBk : Array (Option Value)} {ocBk kVBk dcBk pmBk cdBk ctBk : Value}
    {fVI : Addr} {odVI anVI : Option Addr} {slVI : Array (Option Value)} {ocVI kVVI dcVI pmVI cdVI ctVI : Value}
    {fLook : Addr} {odLook anLook : Option Addr} {slLook : Array (Option Value)} {ocLook kVLook dcLook pmLook cdLook ctLook : Value}
    {fCount : Addr} {odCount anCount : Option Addr} {slCount : Array (Option Value)} {ocCount kVCount dcCount pmCount cdCount ctCount : Value}
    {fCells : Addr} {odCells anCells : Option Addr} {slCells : Array (Option Value)} {ocCells kVCells dcCells pmCells cdCells ctCells : Value}
    {fLed : Addr} {odLed anLed : Option Addr} {slLed : Array (Option Value)} {ocLed kVLed dcLed pmLed cdLed ctLed : Value}
    {fStands : Addr} {odStands anStands : Option Addr} {slStands : Array (Option Value)} {ocStands kVStands dcStands pmStands cdStands ctStands : Value}
    {fRef : Addr} {odRef anRef : Option Addr} {slRef : Array (Option Value)} {ocRef kVRef dcRef pmRef cdRef ctRef : Value}
    {fTB : Addr} {odTB anTB : Option Addr} {slTB : Array (Option Value)} {ocTB kVTB dcTB pmTB cdTB ctTB : Value}
    {fBT : Addr} {odBT anBT : Option Addr} {slBT : Array (Option Value)} {ocBT kVBT dcBT pmBT cdBT ctBT : Value}
    {fEH : Addr} {odEH anEH : Option Addr} {slEH : Array (Option Value)} {ocEH kVEH dcEH pmEH cdEH ctEH : Value}
    {fAP : Addr} {odAP anAP : Option Addr} {slAP : Array (Option Value)} {ocAP kVAP dcAP pmAP cdAP ctAP : Value}
    {fTry : Addr} {odTry anTry : Option Addr} {slTry : Array (Option Value)} {ocTry kVTry dcTry pmTry cdTry ctTry : Value}
    {fMS : Addr} {odMS anMS : Option Addr} {slMS : Array (Option Value)} {ocMS kVMS dcMS pmMS cdMS ctMS : Value}
    {fNew : Addr} {odNew anNew : Option Addr} {slNew : Array (Option Value)} {ocNew kVNew dcNew pmNew cdNew ctNew : Value}
    {fCon : Addr} {odCon anCon : Option Addr} {slCon : Array (Option Value)} {ocCon kVCon dcCon pmCon cdCon ctCon : Value}
    {fStr : Addr} {odStr anStr : Option Addr} {slStr : Array (Option Value)} {ocStr kVStr dcStr pmStr cdStr ctStr : Value}
    {fCopy : Addr} {odCopy anCopy : Option Addr} {slCopy : Array (Option Value)} {ocCopy kVCopy dcCopy pmCopy cdCopy ctCopy : Value}
    {fClear : Addr} {odClear anClear : Option Addr} {slClear : Array (Option Value)} {ocClear kVClear dcClear pmClear cdClear ctClear : Value}
    {fSame : Addr} {odSame anSame : Option Addr} {slSame : Array (Option Value)} {ocSame kVSame dcSame pmSame cdSame ctSame : Value}
    {fArg : Addr} {odArg anArg : Option Addr} {slArg : Array (Option Value)} {ocArg kVArg dcArg pmArg cdArg ctArg : Value}
    {fSP : Addr} {odSP anSP : Option Addr} {slSP : Array (Option Value)} {ocSP kVSP dcSP pmSP cdSP ctSP : Value}
    {fAll : Addr} {odAll anAll : Option Addr} {slAll : Array (Option Value)} {ocAll kVAll dcAll pmAll cdAll ctAll : Value}
    {fIB : Addr} {odIB anIB : Option Addr} {slIB : Array (Option Value)} {ocIB kVIB dcIB pmIB cdIB ctIB : Value}
    {fSB : Addr} {odSB anSB : Option Addr} {slSB : Array (Option Value)} {ocSB kVSB dcSB pmSB cdSB ctSB : Value}
    {fSF : Addr} {odSF anSF : Option Addr} {slSF : Array (Option Value)} {ocSF kVSF dcSF pmSF cdSF ctSF : Value}
    {fPC : Addr} {odPC anPC : Option Addr} {slPC : Array (Option Value)} {ocPC kVPC dcPC pmPC cdPC ctPC : Value}
    {fMv : Addr} {odMv anMv : Option Addr} {slMv : Array (Option Value)} {ocMv kVMv dcMv pmMv cdMv ctMv : Value}
    {fMC : Addr} {odMC anMC : Option Addr} {slMC : Array (Option Value)} {ocMC kVMC dcMC pmMC cdMC ctMC : Value}
    {fSH : Addr} {odSH anSH : Option Addr} {slSH : Array (Option Value)} {ocSH kVSH dcSH pmSH cdSH ctSH : Value}
    {fSw : Addr} {odSw anSw : Option Addr} {slSw : Array (Option Value)} {ocSw kVSw dcSw pmSw cdSw ctSw : Value}
    {fTP : Addr} {odTP anTP : Option Addr} {slTP : Array (Option Value)} {ocTP kVTP dcTP pmTP cdTP ctTP : Value}
    {fVN : Addr} {odVN anVN : Option Addr} {slVN : Array (Option Value)} {ocVN kVVN dcVN pmVN cdVN ctVN : Value}
    {fRow : Addr} {odRow anRow : Option Addr} {slRow : Array (Option Value)} {ocRow kVRow dcRow pmRow cdRow ctRow : Value}
    {fCh : Addr} {odCh anCh : Option Addr} {slCh : Array (Option Value)} {ocCh kVCh dcCh pmCh cdCh ctCh : Value}
    {fBack : Addr} {odBack anBack : Option Addr} {slBack : Array (Option Value)} {ocBack kVBack dcBack pmBack cdBack ctBack : Value}
    {fCut : Addr} {odCut anCut : Option Addr} {slCut : Array (Option Value)} {ocCut kVCut dcCut pmCut cdCut ctCut : Value}
    {fVal : Addr} {odVal anVal : Option Addr} {slVal : Array (Option Value)} {ocVal kVVal dcVal pmVal cdVal ctVal : Value}
    {fLk : Addr} {odLk anLk : Option Addr} {slLk : Array (Option Value)} {ocLk kVLk dcLk pmLk cdLk ctLk : Value}
    {fCS : Addr} {odCS anCS : Option Addr} {slCS : Array (Option Value)} {ocCS kVCS dcCS pmCS cdCS ctCS : Value}
    {fHp : Addr} {odHp anHp : Option Addr} {slHp : Array (Option Value)} {ocHp kVHp dcHp pmHp cdHp ctHp : Value}
    {fSC : Addr} {odSC anSC : Option Addr} {slSC : Array (Option Value)} {ocSC kVSC dcSC pmSC cdSC ctSC : Value}
    {fAw : Addr} {odAw anAw : Option Addr} {slAw : Array (Option Value)} {ocAw kVAw dcAw pmAw cdAw ctAw : Value}
    {fAns : Addr} {odAns anAns : Option Addr} {slAns : Array (Option Value)} {ocAns kVAns dcAns pmAns cdAns ctAns : Value}
    {tPLACE : PySem.Tok}
    {tCONSTANT : PySem.Tok}
    {tSTRUCTURE : PySem.Tok}
    {tREGISTER_COUNT : PySem.Tok}
    {tNOT_REFUSED : PySem.Tok}
    {tNO_SUCH_REGISTER : PySem.Tok}
    {tOUT_OF_BOUNDS : PySem.Tok}
    {tHAS_NOTHING : PySem.Tok}
    {tTOO_LARGE : PySem.Tok}
    {tTOO_MANY_CHOICES : PySem.Tok}
    {tHIGHEST_SYMBOL : PySem.Tok}
    {tMOST_ARGUMENTS : PySem.Tok}
    {tMOST_CHOICES : PySem.Tok}
    {tMOST_TERMS : PySem.Tok}
    {tMOST_SIZE : PySem.Tok}
    {tNEW : PySem.Tok}
    {tCON : PySem.Tok}
    {tSTR : PySem.Tok}
    {tCOPY : PySem.Tok}
    {tCLEAR : PySem.Tok}
    {tSAME : PySem.Tok}
    {tARG : PySem.Tok}
    {tCHOICE : PySem.Tok}
    {tBACK : PySem.Tok}
    {tCUT : PySem.Tok}
    {tVALUE : PySem.Tok}
    {tLOOK : PySem.Tok}
    {tSWEEP : PySem.Tok}
    {tw tr : Addr} {dw dr : Option Addr} {nw nr : Nat} {sw sr : Array (Option Value)} {u0 u1 u2 u3 u4 u5 u6 u7 u8 u9 u10 u11 u12 u13 ur0 ur1 : PySem.Tok}
    (gC : PySem.W.nsIn K mainGlobals "Machine" = some (some (.ref C)))
    (pgC : PySem.W.plainGet K C Str.empty = true)
    (hdC : PySem.W.hasDictIn K C = true)
    (poC : PySem.W.plainOver K C = true)
    (saC : PySem.W.findIn K (.ref C) "__setattr__" = some (some (.builtin "object.__setattr__")))
    (mkC : PySem.W.makesIn K C = true)
    (kcC : PySem.W.keepIn K (.ref C) = true)
    (nC_heap : PySem.W.findIn K (.ref C) "heap" = some none)
    (nC_registers : PySem.W.findIn K (.ref C) "registers" = some none)
    (nC_trail : PySem.W.findIn K (.ref C) "trail" = some none)
    (nC_choices : PySem.W.findIn K (.ref C) "choices" = some none)
    (gCC : PySem.W.nsIn K mainGlobals "Choice" = some (some (.ref CC)))
    (pgCC : PySem.W.plainGet K CC Str.empty = true)
    (hdCC : PySem.W.hasDictIn K CC = true)
    (poCC : PySem.W.plainOver K CC = true)
    (saCC : PySem.W.findIn K (.ref CC) "__setattr__" = some (some (.builtin "object.__setattr__")))
    (mkCC : PySem.W.makesIn K CC = true)
    (kcCC : PySem.W.keepIn K (.ref CC) = true)
    (nCC_heap_length : PySem.W.findIn K (.ref CC) "heap_length" = some none)
    (nCC_registers : PySem.W.findIn K (.ref CC) "registers" = some none)
    (nCC_trail_length : PySem.W.findIn K (.ref CC) "trail_length" = some none)
    (gCV : PySem.W.nsIn K mainGlobals "View" = some (some (.ref CV)))
    (pgCV : PySem.W.plainGet K CV Str.empty = true)
    (hdCV : PySem.W.hasDictIn K CV = true)
    (poCV : PySem.W.plainOver K CV = true)
    (saCV : PySem.W.findIn K (.ref CV) "__setattr__" = some (some (.builtin "object.__setattr__")))
    (mkCV : PySem.W.makesIn K CV = true)
    (kcCV : PySem.W.keepIn K (.ref CV) = true)
    (nCV_seen : PySem.W.findIn K (.ref CV) "seen" = some none)
    (nCV_trail_length : PySem.W.findIn K (.ref CV) "trail_length" = some none)
    (aCI : PySem.W.findIn K (.ref CC) "__init__" = some (some (.ref fCI)))
    (iCI : PySem.W.isFn K (.ref fCI) = true)
    (lCI : K.lookup fCI = some ⟨ocCI, odCI, .func (PySem.W.fnOf "__init__" "Choice.__init__" (defArgs sCI) (defBody sCI) (defScope sCI) .none kVCI dcCI pmCI anCI cdCI ctCI), slCI⟩)
    (cCI : PySem.W.codeIn K cdCI "Choice.__init__" = true)
    (kCI : PySem.W.keepIn K (.ref fCI) = true)
    (aInit : PySem.W.findIn K (.ref C) "__init__" = some (some (.ref fInit)))
    (iInit : PySem.W.isFn K (.ref fInit) = true)
    (lInit : K.lookup fInit = some ⟨ocInit, odInit, .func (PySem.W.fnOf "__init__" "Machine.__init__" (defArgs sInit) (defBody sInit) (defScope sInit) .none kVInit dcInit pmInit anInit cdInit ctInit), slInit⟩)
    (cInit : PySem.W.codeIn K cdInit "Machine.__init__" = true)
    (kInit : PySem.W.keepIn K (.ref fInit) = true)
    (aAV : PySem.W.findIn K (.ref C) "add_variable" = some (some (.ref fAV)))
    (iAV : PySem.W.isFn K (.ref fAV) = true)
    (lAV : K.lookup fAV = some ⟨ocAV, odAV, .func (PySem.W.fnOf "add_variable" "Machine.add_variable" (defArgs sAV) (defBody sAV) (defScope sAV) .none kVAV dcAV pmAV anAV cdAV ctAV), slAV⟩)
    (cAV : PySem.W.codeIn K cdAV "Machine.add_variable" = true)
    (kAV : PySem.W.keepIn K (.ref fAV) = true)
    (aAS : PySem.W.findIn K (.ref C) "add_structure" = some (some (.ref fAS)))
    (iAS : PySem.W.isFn K (.ref fAS) = true)
    (lAS : K.lookup fAS = some ⟨ocAS, odAS, .func (PySem.W.fnOf "add_structure" "Machine.add_structure" (defArgs sAS) (defBody sAS) (defScope sAS) .none kVAS dcAS pmAS anAS cdAS ctAS), slAS⟩)
    (cAS : PySem.W.codeIn K cdAS "Machine.add_structure" = true)
    (kAS : PySem.W.keepIn K (.ref fAS) = true)
    (aBind : PySem.W.findIn K (.ref C) "bind" = some (some (.ref fBind)))
    (iBind : PySem.W.isFn K (.ref fBind) = true)
    (lBind : K.lookup fBind = some ⟨ocBind, odBind, .func (PySem.W.fnOf "bind" "Machine.bind" (defArgs sBind) (defBody sBind) (defScope sBind) .none kVBind dcBind pmBind anBind cdBind ctBind), slBind⟩)
    (cBind : PySem.W.codeIn K cdBind "Machine.bind" = true)
    (kBind : PySem.W.keepIn K (.ref fBind) = true)
    (aCN : PySem.W.findIn K (.ref C) "choice_of_now" = some (some (.ref fCN)))
    (iCN : PySem.W.isFn K (.ref fCN) = true)
    (lCN : K.lookup fCN = some ⟨ocCN, odCN, .func (PySem.W.fnOf "choice_of_now" "Machine.choice_of_now" (defArgs sCN) (defBody sCN) (defScope sCN) .none kVCN dcCN pmCN anCN cdCN ctCN), slCN⟩)
    (cCN : PySem.W.codeIn K cdCN "Machine.choice_of_now" = true)
    (kCN : PySem.W.keepIn K (.ref fCN) = true)
    (aHB : PySem.W.findIn K (.ref C) "heap_behind" = some (some (.ref fHB)))
    (iHB : PySem.W.isFn K (.ref fHB) = true)
    (lHB : K.lookup fHB = some ⟨ocHB, odHB, .func (PySem.W.fnOf "heap_behind" "Machine.heap_behind" (defArgs sHB) (defBody sHB) (defScope sHB) .none kVHB dcHB pmHB anHB cdHB ctHB), slHB⟩)
    (cHB : PySem.W.codeIn K cdHB "Machine.heap_behind" = true)
    (kHB : PySem.W.keepIn K (.ref fHB) = true)
    (aBk : PySem.W.findIn K (.ref C) "back_to_topmost" = some (some (.ref fBk)))
    (iBk : PySem.W.isFn K (.ref fBk) = true)
    (lBk : K.lookup fBk = some ⟨ocBk, odBk, .func (PySem.W.fnOf "back_to_topmost" "Machine.back_to_topmost" (defArgs sBk) (defBody sBk) (defScope sBk) .none kVBk dcBk pmBk anBk cdBk ctBk), slBk⟩)
    (cBk : PySem.W.codeIn K cdBk "Machine.back_to_topmost" = true)
    (kBk : PySem.W.keepIn K (.ref fBk) = true)
    (aVI : PySem.W.findIn K (.ref CV) "__init__" = some (some (.ref fVI)))
    (iVI : PySem.W.isFn K (.ref fVI) = true)
    (lVI : K.lookup fVI = some ⟨ocVI, odVI, .func (PySem.W.fnOf "__init__" "View.__init__" (defArgs sVI) (defBody sVI) (defScope sVI) .none kVVI dcVI pmVI anVI cdVI ctVI), slVI⟩)
    (cVI : PySem.W.codeIn K cdVI "View.__init__" = true)
    (kVI : PySem.W.keepIn K (.ref fVI) = true)
    (aLook : PySem.W.nsIn K mainGlobals "looked_through" = some (some (.ref fLook)))
    (lLook : K.lookup fLook = some ⟨ocLook, odLook, .func (PySem.W.fnOf "looked_through" "looked_through" (defArgs sLook) (defBody sLook) (defScope sLook) .none kVLook dcLook pmLook anLook cdLook ctLook), slLook⟩)
    (cLook : PySem.W.codeIn K cdLook "looked_through" = true)
    (kLook : PySem.W.keepIn K (.ref fLook) = true)
    (aCount : PySem.W.nsIn K mainGlobals "argument_count" = some (some (.ref fCount)))
    (lCount : K.lookup fCount = some ⟨ocCount, odCount, .func (PySem.W.fnOf "argument_count" "argument_count" (defArgs sCount) (defBody sCount) (defScope sCount) .none kVCount dcCount pmCount anCount cdCount ctCount), slCount⟩)
    (cCount : PySem.W.codeIn K cdCount "argument_count" = true)
    (kCount : PySem.W.keepIn K (.ref fCount) = true)
    (aCells : PySem.W.nsIn K mainGlobals "argument_cells" = some (some (.ref fCells)))
    (lCells : K.lookup fCells = some ⟨ocCells, odCells, .func (PySem.W.fnOf "argument_cells" "argument_cells" (defArgs sCells) (defBody sCells) (defScope sCells) .none kVCells dcCells pmCells anCells cdCells ctCells), slCells⟩)
    (cCells : PySem.W.codeIn K cdCells "argument_cells" = true)
    (kCells : PySem.W.keepIn K (.ref fCells) = true)
    (aLed : PySem.W.nsIn K mainGlobals "places_led_to" = some (some (.ref fLed)))
    (lLed : K.lookup fLed = some ⟨ocLed, odLed, .func (PySem.W.fnOf "places_led_to" "places_led_to" (defArgs sLed) (defBody sLed) (defScope sLed) .none kVLed dcLed pmLed anLed cdLed ctLed), slLed⟩)
    (cLed : PySem.W.codeIn K cdLed "places_led_to" = true)
    (kLed : PySem.W.keepIn K (.ref fLed) = true)
    (aStands : PySem.W.nsIn K mainGlobals "stands_in" = some (some (.ref fStands)))
    (lStands : K.lookup fStands = some ⟨ocStands, odStands, .func (PySem.W.fnOf "stands_in" "stands_in" (defArgs sStands) (defBody sStands) (defScope sStands) .none kVStands dcStands pmStands anStands cdStands ctStands), slStands⟩)
    (cStands : PySem.W.codeIn K cdStands "stands_in" = true)
    (kStands : PySem.W.keepIn K (.ref fStands) = true)
    (aRef : PySem.W.nsIn K mainGlobals "refusal" = some (some (.ref fRef)))
    (lRef : K.lookup fRef = some ⟨ocRef, odRef, .func (PySem.W.fnOf "refusal" "refusal" (defArgs sRef) (defBody sRef) (defScope sRef) .none kVRef dcRef pmRef anRef cdRef ctRef), slRef⟩)
    (cRef : PySem.W.codeIn K cdRef "refusal" = true)
    (kRef : PySem.W.keepIn K (.ref fRef) = true)
    (aTB : PySem.W.nsIn K mainGlobals "is_to_bind" = some (some (.ref fTB)))
    (lTB : K.lookup fTB = some ⟨ocTB, odTB, .func (PySem.W.fnOf "is_to_bind" "is_to_bind" (defArgs sTB) (defBody sTB) (defScope sTB) .none kVTB dcTB pmTB anTB cdTB ctTB), slTB⟩)
    (cTB : PySem.W.codeIn K cdTB "is_to_bind" = true)
    (kTB : PySem.W.keepIn K (.ref fTB) = true)
    (aBT : PySem.W.nsIn K mainGlobals "bind_to" = some (some (.ref fBT)))
    (lBT : K.lookup fBT = some ⟨ocBT, odBT, .func (PySem.W.fnOf "bind_to" "bind_to" (defArgs sBT) (defBody sBT) (defScope sBT) .none kVBT dcBT pmBT anBT cdBT ctBT), slBT⟩)
    (cBT : PySem.W.codeIn K cdBT "bind_to" = true)
    (kBT : PySem.W.keepIn K (.ref fBT) = true)
    (aEH : PySem.W.nsIn K mainGlobals "have_equal_heads" = some (some (.ref fEH)))
    (lEH : K.lookup fEH = some ⟨ocEH, odEH, .func (PySem.W.fnOf "have_equal_heads" "have_equal_heads" (defArgs sEH) (defBody sEH) (defScope sEH) .none kVEH dcEH pmEH anEH cdEH ctEH), slEH⟩)
    (cEH : PySem.W.codeIn K cdEH "have_equal_heads" = true)
    (kEH : PySem.W.keepIn K (.ref fEH) = true)
    (aAP : PySem.W.nsIn K mainGlobals "argument_pairs" = some (some (.ref fAP)))
    (lAP : K.lookup fAP = some ⟨ocAP, odAP, .func (PySem.W.fnOf "argument_pairs" "argument_pairs" (defArgs sAP) (defBody sAP) (defScope sAP) .none kVAP dcAP pmAP anAP cdAP ctAP), slAP⟩)
    (cAP : PySem.W.codeIn K cdAP "argument_pairs" = true)
    (kAP : PySem.W.keepIn K (.ref fAP) = true)
    (aTry : PySem.W.nsIn K mainGlobals "try_to_make_same" = some (some (.ref fTry)))
    (lTry : K.lookup fTry = some ⟨ocTry, odTry, .func (PySem.W.fnOf "try_to_make_same" "try_to_make_same" (defArgs sTry) (defBody sTry) (defScope sTry) .none kVTry dcTry pmTry anTry cdTry ctTry), slTry⟩)
    (cTry : PySem.W.codeIn K cdTry "try_to_make_same" = true)
    (kTry : PySem.W.keepIn K (.ref fTry) = true)
    (aMS : PySem.W.nsIn K mainGlobals "make_same" = some (some (.ref fMS)))
    (lMS : K.lookup fMS = some ⟨ocMS, odMS, .func (PySem.W.fnOf "make_same" "make_same" (defArgs sMS) (defBody sMS) (defScope sMS) .none kVMS dcMS pmMS anMS cdMS ctMS), slMS⟩)
    (cMS : PySem.W.codeIn K cdMS "make_same" = true)
    (kMS : PySem.W.keepIn K (.ref fMS) = true)
    (aNew : PySem.W.nsIn K mainGlobals "call_new" = some (some (.ref fNew)))
    (lNew : K.lookup fNew = some ⟨ocNew, odNew, .func (PySem.W.fnOf "call_new" "call_new" (defArgs sNew) (defBody sNew) (defScope sNew) .none kVNew dcNew pmNew anNew cdNew ctNew), slNew⟩)
    (cNew : PySem.W.codeIn K cdNew "call_new" = true)
    (kNew : PySem.W.keepIn K (.ref fNew) = true)
    (aCon : PySem.W.nsIn K mainGlobals "call_con" = some (some (.ref fCon)))
    (lCon : K.lookup fCon = some ⟨ocCon, odCon, .func (PySem.W.fnOf "call_con" "call_con" (defArgs sCon) (defBody sCon) (defScope sCon) .none kVCon dcCon pmCon anCon cdCon ctCon), slCon⟩)
    (cCon : PySem.W.codeIn K cdCon "call_con" = true)
    (kCon : PySem.W.keepIn K (.ref fCon) = true)
    (aStr : PySem.W.nsIn K mainGlobals "call_str" = some (some (.ref fStr)))
    (lStr : K.lookup fStr = some ⟨ocStr, odStr, .func (PySem.W.fnOf "call_str" "call_str" (defArgs sStr) (defBody sStr) (defScope sStr) .none kVStr dcStr pmStr anStr cdStr ctStr), slStr⟩)
    (cStr : PySem.W.codeIn K cdStr "call_str" = true)
    (kStr : PySem.W.keepIn K (.ref fStr) = true)
    (aCopy : PySem.W.nsIn K mainGlobals "call_copy" = some (some (.ref fCopy)))
    (lCopy : K.lookup fCopy = some ⟨ocCopy, odCopy, .func (PySem.W.fnOf "call_copy" "call_copy" (defArgs sCopy) (defBody sCopy) (defScope sCopy) .none kVCopy dcCopy pmCopy anCopy cdCopy ctCopy), slCopy⟩)
    (cCopy : PySem.W.codeIn K cdCopy "call_copy" = true)
    (kCopy : PySem.W.keepIn K (.ref fCopy) = true)
    (aClear : PySem.W.nsIn K mainGlobals "call_clear" = some (some (.ref fClear)))
    (lClear : K.lookup fClear = some ⟨ocClear, odClear, .func (PySem.W.fnOf "call_clear" "call_clear" (defArgs sClear) (defBody sClear) (defScope sClear) .none kVClear dcClear pmClear anClear cdClear ctClear), slClear⟩)
    (cClear : PySem.W.codeIn K cdClear "call_clear" = true)
    (kClear : PySem.W.keepIn K (.ref fClear) = true)
    (aSame : PySem.W.nsIn K mainGlobals "call_same" = some (some (.ref fSame)))
    (lSame : K.lookup fSame = some ⟨ocSame, odSame, .func (PySem.W.fnOf "call_same" "call_same" (defArgs sSame) (defBody sSame) (defScope sSame) .none kVSame dcSame pmSame anSame cdSame ctSame), slSame⟩)
    (cSame : PySem.W.codeIn K cdSame "call_same" = true)
    (kSame : PySem.W.keepIn K (.ref fSame) = true)
    (aArg : PySem.W.nsIn K mainGlobals "call_arg" = some (some (.ref fArg)))
    (lArg : K.lookup fArg = some ⟨ocArg, odArg, .func (PySem.W.fnOf "call_arg" "call_arg" (defArgs sArg) (defBody sArg) (defScope sArg) .none kVArg dcArg pmArg anArg cdArg ctArg), slArg⟩)
    (cArg : PySem.W.codeIn K cdArg "call_arg" = true)
    (kArg : PySem.W.keepIn K (.ref fArg) = true)
    (aSP : PySem.W.nsIn K mainGlobals "seen_places" = some (some (.ref fSP)))
    (lSP : K.lookup fSP = some ⟨ocSP, odSP, .func (PySem.W.fnOf "seen_places" "seen_places" (defArgs sSP) (defBody sSP) (defScope sSP) .none kVSP dcSP pmSP anSP cdSP ctSP), slSP⟩)
    (cSP : PySem.W.codeIn K cdSP "seen_places" = true)
    (kSP : PySem.W.keepIn K (.ref fSP) = true)
    (aAll : PySem.W.nsIn K mainGlobals "all_views" = some (some (.ref fAll)))
    (lAll : K.lookup fAll = some ⟨ocAll, odAll, .func (PySem.W.fnOf "all_views" "all_views" (defArgs sAll) (defBody sAll) (defScope sAll) .none kVAll dcAll pmAll anAll cdAll ctAll), slAll⟩)
    (cAll : PySem.W.codeIn K cdAll "all_views" = true)
    (kAll : PySem.W.keepIn K (.ref fAll) = true)
    (aIB : PySem.W.nsIn K mainGlobals "is_bound_in" = some (some (.ref fIB)))
    (lIB : K.lookup fIB = some ⟨ocIB, odIB, .func (PySem.W.fnOf "is_bound_in" "is_bound_in" (defArgs sIB) (defBody sIB) (defScope sIB) .none kVIB dcIB pmIB anIB cdIB ctIB), slIB⟩)
    (cIB : PySem.W.codeIn K cdIB "is_bound_in" = true)
    (kIB : PySem.W.keepIn K (.ref fIB) = true)
    (aSB : PySem.W.nsIn K mainGlobals "is_seen_bound" = some (some (.ref fSB)))
    (lSB : K.lookup fSB = some ⟨ocSB, odSB, .func (PySem.W.fnOf "is_seen_bound" "is_seen_bound" (defArgs sSB) (defBody sSB) (defScope sSB) .none kVSB dcSB pmSB anSB cdSB ctSB), slSB⟩)
    (cSB : PySem.W.codeIn K cdSB "is_seen_bound" = true)
    (kSB : PySem.W.keepIn K (.ref fSB) = true)
    (aSF : PySem.W.nsIn K mainGlobals "is_seen_free" = some (some (.ref fSF)))
    (lSF : K.lookup fSF = some ⟨ocSF, odSF, .func (PySem.W.fnOf "is_seen_free" "is_seen_free" (defArgs sSF) (defBody sSF) (defScope sSF) .none kVSF dcSF pmSF anSF cdSF ctSF), slSF⟩)
    (cSF : PySem.W.codeIn K cdSF "is_seen_free" = true)
    (kSF : PySem.W.keepIn K (.ref fSF) = true)
    (aPC : PySem.W.nsIn K mainGlobals "places_to_come" = some (some (.ref fPC)))
    (lPC : K.lookup fPC = some ⟨ocPC, odPC, .func (PySem.W.fnOf "places_to_come" "places_to_come" (defArgs sPC) (defBody sPC) (defScope sPC) .none kVPC dcPC pmPC anPC cdPC ctPC), slPC⟩)
    (cPC : PySem.W.codeIn K cdPC "places_to_come" = true)
    (kPC : PySem.W.keepIn K (.ref fPC) = true)
    (aMv : PySem.W.nsIn K mainGlobals "moved" = some (some (.ref fMv)))
    (lMv : K.lookup fMv = some ⟨ocMv, odMv, .func (PySem.W.fnOf "moved" "moved" (defArgs sMv) (defBody sMv) (defScope sMv) .none kVMv dcMv pmMv anMv cdMv ctMv), slMv⟩)
    (cMv : PySem.W.codeIn K cdMv "moved" = true)
    (kMv : PySem.W.keepIn K (.ref fMv) = true)
    (aMC : PySem.W.nsIn K mainGlobals "moved_choice" = some (some (.ref fMC)))
    (lMC : K.lookup fMC = some ⟨ocMC, odMC, .func (PySem.W.fnOf "moved_choice" "moved_choice" (defArgs sMC) (defBody sMC) (defScope sMC) .none kVMC dcMC pmMC anMC cdMC ctMC), slMC⟩)
    (cMC : PySem.W.codeIn K cdMC "moved_choice" = true)
    (kMC : PySem.W.keepIn K (.ref fMC) = true)
    (aSH : PySem.W.nsIn K mainGlobals "swept_heap" = some (some (.ref fSH)))
    (lSH : K.lookup fSH = some ⟨ocSH, odSH, .func (PySem.W.fnOf "swept_heap" "swept_heap" (defArgs sSH) (defBody sSH) (defScope sSH) .none kVSH dcSH pmSH anSH cdSH ctSH), slSH⟩)
    (cSH : PySem.W.codeIn K cdSH "swept_heap" = true)
    (kSH : PySem.W.keepIn K (.ref fSH) = true)
    (aSw : PySem.W.nsIn K mainGlobals "sweep" = some (some (.ref fSw)))
    (lSw : K.lookup fSw = some ⟨ocSw, odSw, .func (PySem.W.fnOf "sweep" "sweep" (defArgs sSw) (defBody sSw) (defScope sSw) .none kVSw dcSw pmSw anSw cdSw ctSw), slSw⟩)
    (cSw : PySem.W.codeIn K cdSw "sweep" = true)
    (kSw : PySem.W.keepIn K (.ref fSw) = true)
    (aTP : PySem.W.nsIn K mainGlobals "term_parts" = some (some (.ref fTP)))
    (lTP : K.lookup fTP = some ⟨ocTP, odTP, .func (PySem.W.fnOf "term_parts" "term_parts" (defArgs sTP) (defBody sTP) (defScope sTP) .none kVTP dcTP pmTP anTP cdTP ctTP), slTP⟩)
    (cTP : PySem.W.codeIn K cdTP "term_parts" = true)
    (kTP : PySem.W.keepIn K (.ref fTP) = true)
    (aVN : PySem.W.nsIn K mainGlobals "variable_numbers" = some (some (.ref fVN)))
    (lVN : K.lookup fVN = some ⟨ocVN, odVN, .func (PySem.W.fnOf "variable_numbers" "variable_numbers" (defArgs sVN) (defBody sVN) (defScope sVN) .none kVVN dcVN pmVN anVN cdVN ctVN), slVN⟩)
    (cVN : PySem.W.codeIn K cdVN "variable_numbers" = true)
    (kVN : PySem.W.keepIn K (.ref fVN) = true)
    (aRow : PySem.W.nsIn K mainGlobals "rows" = some (some (.ref fRow)))
    (lRow : K.lookup fRow = some ⟨ocRow, odRow, .func (PySem.W.fnOf "rows" "rows" (defArgs sRow) (defBody sRow) (defScope sRow) .none kVRow dcRow pmRow anRow cdRow ctRow), slRow⟩)
    (cRow : PySem.W.codeIn K cdRow "rows" = true)
    (kRow : PySem.W.keepIn K (.ref fRow) = true)
    (aCh : PySem.W.nsIn K mainGlobals "call_choice" = some (some (.ref fCh)))
    (lCh : K.lookup fCh = some ⟨ocCh, odCh, .func (PySem.W.fnOf "call_choice" "call_choice" (defArgs sCh) (defBody sCh) (defScope sCh) .none kVCh dcCh pmCh anCh cdCh ctCh), slCh⟩)
    (cCh : PySem.W.codeIn K cdCh "call_choice" = true)
    (kCh : PySem.W.keepIn K (.ref fCh) = true)
    (aBack : PySem.W.nsIn K mainGlobals "call_back" = some (some (.ref fBack)))
    (lBack : K.lookup fBack = some ⟨ocBack, odBack, .func (PySem.W.fnOf "call_back" "call_back" (defArgs sBack) (defBody sBack) (defScope sBack) .none kVBack dcBack pmBack anBack cdBack ctBack), slBack⟩)
    (cBack : PySem.W.codeIn K cdBack "call_back" = true)
    (kBack : PySem.W.keepIn K (.ref fBack) = true)
    (aCut : PySem.W.nsIn K mainGlobals "call_cut" = some (some (.ref fCut)))
    (lCut : K.lookup fCut = some ⟨ocCut, odCut, .func (PySem.W.fnOf "call_cut" "call_cut" (defArgs sCut) (defBody sCut) (defScope sCut) .none kVCut dcCut pmCut anCut cdCut ctCut), slCut⟩)
    (cCut : PySem.W.codeIn K cdCut "call_cut" = true)
    (kCut : PySem.W.keepIn K (.ref fCut) = true)
    (aVal : PySem.W.nsIn K mainGlobals "call_value" = some (some (.ref fVal)))
    (lVal : K.lookup fVal = some ⟨ocVal, odVal, .func (PySem.W.fnOf "call_value" "call_value" (defArgs sVal) (defBody sVal) (defScope sVal) .none kVVal dcVal pmVal anVal cdVal ctVal), slVal⟩)
    (cVal : PySem.W.codeIn K cdVal "call_value" = true)
    (kVal : PySem.W.keepIn K (.ref fVal) = true)
    (aLk : PySem.W.nsIn K mainGlobals "call_look" = some (some (.ref fLk)))
    (lLk : K.lookup fLk = some ⟨ocLk, odLk, .func (PySem.W.fnOf "call_look" "call_look" (defArgs sLk) (defBody sLk) (defScope sLk) .none kVLk dcLk pmLk anLk cdLk ctLk), slLk⟩)
    (cLk : PySem.W.codeIn K cdLk "call_look" = true)
    (kLk : PySem.W.keepIn K (.ref fLk) = true)
    (aCS : PySem.W.nsIn K mainGlobals "call_sweep" = some (some (.ref fCS)))
    (lCS : K.lookup fCS = some ⟨ocCS, odCS, .func (PySem.W.fnOf "call_sweep" "call_sweep" (defArgs sCS) (defBody sCS) (defScope sCS) .none kVCS dcCS pmCS anCS cdCS ctCS), slCS⟩)
    (cCS : PySem.W.codeIn K cdCS "call_sweep" = true)
    (kCS : PySem.W.keepIn K (.ref fCS) = true)
    (aHp : PySem.W.nsIn K mainGlobals "call_heap" = some (some (.ref fHp)))
    (lHp : K.lookup fHp = some ⟨ocHp, odHp, .func (PySem.W.fnOf "call_heap" "call_heap" (defArgs sHp) (defBody sHp) (defScope sHp) .none kVHp dcHp pmHp anHp cdHp ctHp), slHp⟩)
    (cHp : PySem.W.codeIn K cdHp "call_heap" = true)
    (kHp : PySem.W.keepIn K (.ref fHp) = true)
    (aSC : PySem.W.nsIn K mainGlobals "split_calls" = some (some (.ref fSC)))
    (lSC : K.lookup fSC = some ⟨ocSC, odSC, .func (PySem.W.fnOf "split_calls" "split_calls" (defArgs sSC) (defBody sSC) (defScope sSC) .none kVSC dcSC pmSC anSC cdSC ctSC), slSC⟩)
    (cSC : PySem.W.codeIn K cdSC "split_calls" = true)
    (kSC : PySem.W.keepIn K (.ref fSC) = true)
    (aAw : PySem.W.nsIn K mainGlobals "answer" = some (some (.ref fAw)))
    (lAw : K.lookup fAw = some ⟨ocAw, odAw, .func (PySem.W.fnOf "answer" "answer" (defArgs sAw) (defBody sAw) (defScope sAw) .none kVAw dcAw pmAw anAw cdAw ctAw), slAw⟩)
    (cAw : PySem.W.codeIn K cdAw "answer" = true)
    (kAw : PySem.W.keepIn K (.ref fAw) = true)
    (aAns : PySem.W.nsIn K mainGlobals "answers" = some (some (.ref fAns)))
    (lAns : K.lookup fAns = some ⟨ocAns, odAns, .func (PySem.W.fnOf "answers" "answers" (defArgs sAns) (defBody sAns) (defScope sAns) .none kVAns dcAns pmAns anAns cdAns ctAns), slAns⟩)
    (cAns : PySem.W.codeIn K cdAns "answers" = true)
    (kAns : PySem.W.keepIn K (.ref fAns) = true)
    (mPLACE : PySem.W.nsIn K mainGlobals "PLACE" = some (some (.int 0 tPLACE)))
    (mCONSTANT : PySem.W.nsIn K mainGlobals "CONSTANT" = some (some (.int 1 tCONSTANT)))
    (mSTRUCTURE : PySem.W.nsIn K mainGlobals "STRUCTURE" = some (some (.int 2 tSTRUCTURE)))
    (mREGISTER_COUNT : PySem.W.nsIn K mainGlobals "REGISTER_COUNT" = some (some (.int 16 tREGISTER_COUNT)))
    (mNOT_REFUSED : PySem.W.nsIn K mainGlobals "NOT_REFUSED" = some (some (.int 0 tNOT_REFUSED)))
    (mNO_SUCH_REGISTER : PySem.W.nsIn K mainGlobals "NO_SUCH_REGISTER" = some (some (.int (-2) tNO_SUCH_REGISTER)))
    (mOUT_OF_BOUNDS : PySem.W.nsIn K mainGlobals "OUT_OF_BOUNDS" = some (some (.int (-1) tOUT_OF_BOUNDS)))
    (mHAS_NOTHING : PySem.W.nsIn K mainGlobals "HAS_NOTHING" = some (some (.int (-4) tHAS_NOTHING)))
    (mTOO_LARGE : PySem.W.nsIn K mainGlobals "TOO_LARGE" = some (some (.int (-5) tTOO_LARGE)))
    (mTOO_MANY_CHOICES : PySem.W.nsIn K mainGlobals "TOO_MANY_CHOICES" = some (some (.int (-8) tTOO_MANY_CHOICES)))
    (mHIGHEST_SYMBOL : PySem.W.nsIn K mainGlobals "HIGHEST_SYMBOL" = some (some (.int 999 tHIGHEST_SYMBOL)))
    (mMOST_ARGUMENTS : PySem.W.nsIn K mainGlobals "MOST_ARGUMENTS" = some (some (.int 4 tMOST_ARGUMENTS)))
    (mMOST_CHOICES : PySem.W.nsIn K mainGlobals "MOST_CHOICES" = some (some (.int 20 tMOST_CHOICES)))
    (mMOST_TERMS : PySem.W.nsIn K mainGlobals "MOST_TERMS" = some (some (.int 16 tMOST_TERMS)))
    (mMOST_SIZE : PySem.W.nsIn K mainGlobals "MOST_SIZE" = some (some (.int 500 tMOST_SIZE)))
    (mNEW : PySem.W.nsIn K mainGlobals "NEW" = some (some (.int 0 tNEW)))
    (mCON : PySem.W.nsIn K mainGlobals "CON" = some (some (.int 1 tCON)))
    (mSTR : PySem.W.nsIn K mainGlobals "STR" = some (some (.int 2 tSTR)))
    (mCOPY : PySem.W.nsIn K mainGlobals "COPY" = some (some (.int 3 tCOPY)))
    (mCLEAR : PySem.W.nsIn K mainGlobals "CLEAR" = some (some (.int 4 tCLEAR)))
    (mSAME : PySem.W.nsIn K mainGlobals "SAME" = some (some (.int 5 tSAME)))
    (mARG : PySem.W.nsIn K mainGlobals "ARG" = some (some (.int 6 tARG)))
    (mCHOICE : PySem.W.nsIn K mainGlobals "CHOICE" = some (some (.int 7 tCHOICE)))
    (mBACK : PySem.W.nsIn K mainGlobals "BACK" = some (some (.int 8 tBACK)))
    (mCUT : PySem.W.nsIn K mainGlobals "CUT" = some (some (.int 9 tCUT)))
    (mVALUE : PySem.W.nsIn K mainGlobals "VALUE" = some (some (.int 10 tVALUE)))
    (mLOOK : PySem.W.nsIn K mainGlobals "LOOK" = some (some (.int 11 tLOOK)))
    (mSWEEP : PySem.W.nsIn K mainGlobals "SWEEP" = some (some (.int 12 tSWEEP)))
    (zlen : PySem.W.nsIn K mainGlobals "len" = some none)
    (zlist : PySem.W.nsIn K mainGlobals "list" = some none)
    (zrange : PySem.W.nsIn K mainGlobals "range" = some none)
    (zany : PySem.W.nsIn K mainGlobals "any" = some none)
    (zsorted : PySem.W.nsIn K mainGlobals "sorted" = some none)
    (gW : PySem.W.nsIn K mainGlobals "WHOLE_NUMBERS" = some (some (.ref tw)))
    (lW : K.lookup tw = some ⟨.type "tuple", dw, .seq #[.int 1 u0, .int 2 u1, .int 2 u2, .int 2 u3, .int 1 u4, .int 2 u5, .int 3 u6, .int 0 u7, .int 0 u8, .int 1 u9, .int 0 u10, .int 0 u11, .int 0 u12, .int 0 u13] nw, sw⟩)
    (gR : PySem.W.nsIn K mainGlobals "CALLS_WITH_ROW" = some (some (.ref tr)))
    (lR : K.lookup tr = some ⟨.type "tuple", dr, .seq #[.int 2 ur0, .int 10 ur1] nr, sr⟩) :
    ∃ fd : FuncData, (∀ (s : Shared) (us : List Value), us.length = (["calls"] : List Str).length → BindsTo s fd ⟨us, []⟩ ((["calls"] : List Str).zip us)) ∧ ∀ base : PySem.Heap, K.In base → base.Ns mainGlobals mg → FnOk P w K mg base CX0 9 fa fd ["calls"] (spAns K) := by
  have e := hfa.symm.trans (PySem.W.mg_of X G aAns)
  cases e
  have len_ : mg "len" = none := PySem.W.mg_none_of X G zlen
  have list_ : mg "list" = none := PySem.W.mg_none_of X G zlist
  have range_ : mg "range" = none := PySem.W.mg_none_of X G zrange
  have any_ : mg "any" = none := PySem.W.mg_none_of X G zany
  have sorted_ : mg "sorted" = none := PySem.W.mg_none_of X G zsorted
  have qPLACE : ∃ t, mg "PLACE" = some (.int 0 t) := ⟨_, PySem.W.mg_of X G mPLACE⟩
  have qCONSTANT : ∃ t, mg "CONSTANT" = some (.int 1 t) := ⟨_, PySem.W.mg_of X G mCONSTANT⟩
  have qSTRUCTURE : ∃ t, mg "STRUCTURE" = some (.int 2 t) := ⟨_, PySem.W.mg_of X G mSTRUCTURE⟩
  have qREGISTER_COUNT : ∃ t, mg "REGISTER_COUNT" = some (.int 16 t) := ⟨_, PySem.W.mg_of X G mREGISTER_COUNT⟩
  have qNOT_REFUSED : ∃ t, mg "NOT_REFUSED" = some (.int 0 t) := ⟨_, PySem.W.mg_of X G mNOT_REFUSED⟩
  have qNO_SUCH_REGISTER : ∃ t, mg "NO_SUCH_REGISTER" = some (.int (-2) t) := ⟨_, PySem.W.mg_of X G mNO_SUCH_REGISTER⟩
  have qOUT_OF_BOUNDS : ∃ t, mg "OUT_OF_BOUNDS" = some (.int (-1) t) := ⟨_, PySem.W.mg_of X G mOUT_OF_BOUNDS⟩
  have qHAS_NOTHING : ∃ t, mg "HAS_NOTHING" = some (.int (-4) t) := ⟨_, PySem.W.mg_of X G mHAS_NOTHING⟩
  have qTOO_LARGE : ∃ t, mg "TOO_LARGE" = some (.int (-5) t) := ⟨_, PySem.W.mg_of X G mTOO_LARGE⟩
  have qTOO_MANY_CHOICES : ∃ t, mg "TOO_MANY_CHOICES" = some (.int (-8) t) := ⟨_, PySem.W.mg_of X G mTOO_MANY_CHOICES⟩
  have qHIGHEST_SYMBOL : ∃ t, mg "HIGHEST_SYMBOL" = some (.int 999 t) := ⟨_, PySem.W.mg_of X G mHIGHEST_SYMBOL⟩
  have qMOST_ARGUMENTS : ∃ t, mg "MOST_ARGUMENTS" = some (.int 4 t) := ⟨_, PySem.W.mg_of X G mMOST_ARGUMENTS⟩
  have qMOST_CHOICES : ∃ t, mg "MOST_CHOICES" = some (.int 20 t) := ⟨_, PySem.W.mg_of X G mMOST_CHOICES⟩
  have qMOST_TERMS : ∃ t, mg "MOST_TERMS" = some (.int 16 t) := ⟨_, PySem.W.mg_of X G mMOST_TERMS⟩
  have qMOST_SIZE : ∃ t, mg "MOST_SIZE" = some (.int 500 t) := ⟨_, PySem.W.mg_of X G mMOST_SIZE⟩
  have qNEW : ∃ t, mg "NEW" = some (.int 0 t) := ⟨_, PySem.W.mg_of X G mNEW⟩
  have qCON : ∃ t, mg "CON" = some (.int 1 t) := ⟨_, PySem.W.mg_of X G mCON⟩
  have qSTR : ∃ t, mg "STR" = some (.int 2 t) := ⟨_, PySem.W.mg_of X G mSTR⟩
  have qCOPY : ∃ t, mg "COPY" = some (.int 3 t) := ⟨_, PySem.W.mg_of X G mCOPY⟩
  have qCLEAR : ∃ t, mg "CLEAR" = some (.int 4 t) := ⟨_, PySem.W.mg_of X G mCLEAR⟩
  have qSAME : ∃ t, mg "SAME" = some (.int 5 t) := ⟨_, PySem.W.mg_of X G mSAME⟩
  have qARG : ∃ t, mg "ARG" = some (.int 6 t) := ⟨_, PySem.W.mg_of X G mARG⟩
  have qCHOICE : ∃ t, mg "CHOICE" = some (.int 7 t) := ⟨_, PySem.W.mg_of X G mCHOICE⟩
  have qBACK : ∃ t, mg "BACK" = some (.int 8 t) := ⟨_, PySem.W.mg_of X G mBACK⟩
  have qCUT : ∃ t, mg "CUT" = some (.int 9 t) := ⟨_, PySem.W.mg_of X G mCUT⟩
  have qVALUE : ∃ t, mg "VALUE" = some (.int 10 t) := ⟨_, PySem.W.mg_of X G mVALUE⟩
  have qLOOK : ∃ t, mg "LOOK" = some (.int 11 t) := ⟨_, PySem.W.mg_of X G mLOOK⟩
  have qSWEEP : ∃ t, mg "SWEEP" = some (.int 12 t) := ⟨_, PySem.W.mg_of X G mSWEEP⟩
  have T : Txt K mg := ⟨qPLACE, qCONSTANT, qSTRUCTURE⟩
  have T2 : Txt2 mg := ⟨qNOT_REFUSED, qHIGHEST_SYMBOL, qMOST_ARGUMENTS⟩
  have T3 : Txt3 mg := ⟨qNO_SUCH_REGISTER, qOUT_OF_BOUNDS, qHAS_NOTHING, qREGISTER_COUNT⟩
  have T4 : Txt4 mg := ⟨qMOST_CHOICES, qTOO_MANY_CHOICES, qMOST_TERMS, qMOST_SIZE, qTOO_LARGE⟩
  have T6 : Txt6 mg := ⟨qNEW, qCON, qSTR, qCOPY, qCLEAR, qSAME, qARG, qCHOICE, qBACK, qCUT, qVALUE, qLOOK, qSWEEP⟩
  have T5 : Txt5 K mg := ⟨⟨tw, PySem.W.mg_of X G gW, fun H => .inr ⟨_, _, _, lW, rfl, rfl, (by show 14 ≤ sizeLine; decide), .cons ⟨_, rfl⟩ (.cons ⟨_, rfl⟩ (.cons ⟨_, rfl⟩ (.cons ⟨_, rfl⟩ (.cons ⟨_, rfl⟩ (.cons ⟨_, rfl⟩ (.cons ⟨_, rfl⟩ (.cons ⟨_, rfl⟩ (.cons ⟨_, rfl⟩ (.cons ⟨_, rfl⟩ (.cons ⟨_, rfl⟩ (.cons ⟨_, rfl⟩ (.cons ⟨_, rfl⟩ (.cons ⟨_, rfl⟩ (.nil))))))))))))))⟩⟩,
    ⟨tr, PySem.W.mg_of X G gR, fun H => .inr ⟨_, _, _, lR, rfl, rfl, (by show 2 ≤ sizeLine; decide), .cons ⟨_, rfl⟩ (.cons ⟨_, rfl⟩ .nil)⟩⟩⟩
  have L : Cl K C CC := ⟨⟨pgC, hdC, poC, saC⟩, nC_heap, nC_registers, nC_trail, nC_choices, ⟨pgCC, hdCC, poCC, saCC⟩, nCC_heap_length, nCC_registers, nCC_trail_length⟩
  have LV : Cv K CV := ⟨⟨pgCV, hdCV, poCV, saCV⟩, nCV_seen, nCV_trail_length⟩
  have gM := PySem.W.mg_of X G gC
  have gCh := PySem.W.mg_of X G gCC
  have gVw := PySem.W.mg_of X G gCV
  have FCI := fun_mk (st := sCI) lCI cCI kCI
  have bCI := FCI.binds (ps := ["self", "registers", "heap_length", "trail_length"]) fun _ _ _ _ _ _ us hl => match us, hl with | [_, _, _, _], _ => rfl
  have FInit := fun_mk (st := sInit) lInit cInit kInit
  have bInit := FInit.binds (ps := ["self"]) fun _ _ _ _ _ _ us hl => match us, hl with | [_], _ => rfl
  have FAV := fun_mk (st := sAV) lAV cAV kAV
  have bAV := FAV.binds (ps := ["self"]) fun _ _ _ _ _ _ us hl => match us, hl with | [_], _ => rfl
  have FAS := fun_mk (st := sAS) lAS cAS kAS
  have bAS := FAS.binds (ps := ["self", "symbol", "cells"]) fun _ _ _ _ _ _ us hl => match us, hl with | [_, _, _], _ => rfl
  have FBind := fun_mk (st := sBind) lBind cBind kBind
  have bBind := FBind.binds (ps := ["self", "place", "cell"]) fun _ _ _ _ _ _ us hl => match us, hl with | [_, _, _], _ => rfl
  have FCN := fun_mk (st := sCN) lCN cCN kCN
  have bCN := FCN.binds (ps := ["self"]) fun _ _ _ _ _ _ us hl => match us, hl with | [_], _ => rfl
  have FHB := fun_mk (st := sHB) lHB cHB kHB
  have bHB := FHB.binds (ps := ["self", "choice"]) fun _ _ _ _ _ _ us hl => match us, hl with | [_, _], _ => rfl
  have FBk := fun_mk (st := sBk) lBk cBk kBk
  have bBk := FBk.binds (ps := ["self"]) fun _ _ _ _ _ _ us hl => match us, hl with | [_], _ => rfl
  have FVI := fun_mk (st := sVI) lVI cVI kVI
  have bVI := FVI.binds (ps := ["self", "seen", "trail_length"]) fun _ _ _ _ _ _ us hl => match us, hl with | [_, _, _], _ => rfl
  have FLook := fun_mk (st := sLook) lLook cLook kLook
  have bLook := FLook.binds (ps := ["heap", "cell"]) fun _ _ _ _ _ _ us hl => match us, hl with | [_, _], _ => rfl
  have DLook : Dn K mg "looked_through" sLook ["heap", "cell"] fLook _ := ⟨FLook, PySem.W.mg_of X G aLook, bLook⟩
  have FCount := fun_mk (st := sCount) lCount cCount kCount
  have bCount := FCount.binds (ps := ["heap", "head_place"]) fun _ _ _ _ _ _ us hl => match us, hl with | [_, _], _ => rfl
  have DCount : Dn K mg "argument_count" sCount ["heap", "head_place"] fCount _ := ⟨FCount, PySem.W.mg_of X G aCount, bCount⟩
  have FCells := fun_mk (st := sCells) lCells cCells kCells
  have bCells := FCells.binds (ps := ["heap", "head_place"]) fun _ _ _ _ _ _ us hl => match us, hl with | [_, _], _ => rfl
  have DCells : Dn K mg "argument_cells" sCells ["heap", "head_place"] fCells _ := ⟨FCells, PySem.W.mg_of X G aCells, bCells⟩
  have FLed := fun_mk (st := sLed) lLed cLed kLed
  have bLed := FLed.binds (ps := ["heap", "cell"]) fun _ _ _ _ _ _ us hl => match us, hl with | [_, _], _ => rfl
  have DLed : Dn K mg "places_led_to" sLed ["heap", "cell"] fLed _ := ⟨FLed, PySem.W.mg_of X G aLed, bLed⟩
  have FStands := fun_mk (st := sStands) lStands cStands kStands
  have bStands := FStands.binds (ps := ["heap", "variable", "cell"]) fun _ _ _ _ _ _ us hl => match us, hl with | [_, _, _], _ => rfl
  have DStands : Dn K mg "stands_in" sStands ["heap", "variable", "cell"] fStands _ := ⟨FStands, PySem.W.mg_of X G aStands, bStands⟩
  have FRef := fun_mk (st := sRef) lRef cRef kRef
  have bRef := FRef.binds (ps := ["machine", "named", "out_of_bounds", "looked_at"]) fun _ _ _ _ _ _ us hl => match us, hl with | [_, _, _, _], _ => rfl
  have DRef : Dn K mg "refusal" sRef ["machine", "named", "out_of_bounds", "looked_at"] fRef _ := ⟨FRef, PySem.W.mg_of X G aRef, bRef⟩
  have FTB := fun_mk (st := sTB) lTB cTB kTB
  have bTB := FTB.binds (ps := ["cell", "other"]) fun _ _ _ _ _ _ us hl => match us, hl with | [_, _], _ => rfl
  have DTB : Dn K mg "is_to_bind" sTB ["cell", "other"] fTB _ := ⟨FTB, PySem.W.mg_of X G aTB, bTB⟩
  have FBT := fun_mk (st := sBT) lBT cBT kBT
  have bBT := FBT.binds (ps := ["machine", "variable", "cell"]) fun _ _ _ _ _ _ us hl => match us, hl with | [_, _, _], _ => rfl
  have DBT : Dn K mg "bind_to" sBT ["machine", "variable", "cell"] fBT _ := ⟨FBT, PySem.W.mg_of X G aBT, bBT⟩
  have FEH := fun_mk (st := sEH) lEH cEH kEH
  have bEH := FEH.binds (ps := ["heap", "one", "other"]) fun _ _ _ _ _ _ us hl => match us, hl with | [_, _, _], _ => rfl
  have DEH : Dn K mg "have_equal_heads" sEH ["heap", "one", "other"] fEH _ := ⟨FEH, PySem.W.mg_of X G aEH, bEH⟩
  have FAP := fun_mk (st := sAP) lAP cAP kAP
  have bAP := FAP.binds (ps := ["heap", "one", "other"]) fun _ _ _ _ _ _ us hl => match us, hl with | [_, _, _], _ => rfl
  have DAP : Dn K mg "argument_pairs" sAP ["heap", "one", "other"] fAP _ := ⟨FAP, PySem.W.mg_of X G aAP, bAP⟩
  have FTry := fun_mk (st := sTry) lTry cTry kTry
  have bTry := FTry.binds (ps := ["machine", "first", "second"]) fun _ _ _ _ _ _ us hl => match us, hl with | [_, _, _], _ => rfl
  have DTry : Dn K mg "try_to_make_same" sTry ["machine", "first", "second"] fTry _ := ⟨FTry, PySem.W.mg_of X G aTry, bTry⟩
  have FMS := fun_mk (st := sMS) lMS cMS kMS
  have bMS := FMS.binds (ps := ["machine", "first", "second"]) fun _ _ _ _ _ _ us hl => match us, hl with | [_, _, _], _ => rfl
  have DMS : Dn K mg "make_same" sMS ["machine", "first", "second"] fMS _ := ⟨FMS, PySem.W.mg_of X G aMS, bMS⟩
  have FNew := fun_mk (st := sNew) lNew cNew kNew
  have bNew := FNew.binds (ps := ["machine", "r"]) fun _ _ _ _ _ _ us hl => match us, hl with | [_, _], _ => rfl
  have DNew : Dn K mg "call_new" sNew ["machine", "r"] fNew _ := ⟨FNew, PySem.W.mg_of X G aNew, bNew⟩
  have FCon := fun_mk (st := sCon) lCon cCon kCon
  have bCon := FCon.binds (ps := ["machine", "r", "symbol"]) fun _ _ _ _ _ _ us hl => match us, hl with | [_, _, _], _ => rfl
  have DCon : Dn K mg "call_con" sCon ["machine", "r", "symbol"] fCon _ := ⟨FCon, PySem.W.mg_of X G aCon, bCon⟩
  have FStr := fun_mk (st := sStr) lStr cStr kStr
  have bStr := FStr.binds (ps := ["machine", "r", "symbol", "registers"]) fun _ _ _ _ _ _ us hl => match us, hl with | [_, _, _, _], _ => rfl
  have DStr : Dn K mg "call_str" sStr ["machine", "r", "symbol", "registers"] fStr _ := ⟨FStr, PySem.W.mg_of X G aStr, bStr⟩
  have FCopy := fun_mk (st := sCopy) lCopy cCopy kCopy
  have bCopy := FCopy.binds (ps := ["machine", "r", "q"]) fun _ _ _ _ _ _ us hl => match us, hl with | [_, _, _], _ => rfl
  have DCopy : Dn K mg "call_copy" sCopy ["machine", "r", "q"] fCopy _ := ⟨FCopy, PySem.W.mg_of X G aCopy, bCopy⟩
  have FClear := fun_mk (st := sClear) lClear cClear kClear
  have bClear := FClear.binds (ps := ["machine", "r"]) fun _ _ _ _ _ _ us hl => match us, hl with | [_, _], _ => rfl
  have DClear : Dn K mg "call_clear" sClear ["machine", "r"] fClear _ := ⟨FClear, PySem.W.mg_of X G aClear, bClear⟩
  have FSame := fun_mk (st := sSame) lSame cSame kSame
  have bSame := FSame.binds (ps := ["machine", "r", "q"]) fun _ _ _ _ _ _ us hl => match us, hl with | [_, _, _], _ => rfl
  have DSame : Dn K mg "call_same" sSame ["machine", "r", "q"] fSame _ := ⟨FSame, PySem.W.mg_of X G aSame, bSame⟩
  have FArg := fun_mk (st := sArg) lArg cArg kArg
  have bArg := FArg.binds (ps := ["machine", "r", "i", "q"]) fun _ _ _ _ _ _ us hl => match us, hl with | [_, _, _, _], _ => rfl
  have DArg : Dn K mg "call_arg" sArg ["machine", "r", "i", "q"] fArg _ := ⟨FArg, PySem.W.mg_of X G aArg, bArg⟩
  have FSP := fun_mk (st := sSP) lSP cSP kSP
  have bSP := FSP.binds (ps := ["heap", "registers"]) fun _ _ _ _ _ _ us hl => match us, hl with | [_, _], _ => rfl
  have DSP : Dn K mg "seen_places" sSP ["heap", "registers"] fSP _ := ⟨FSP, PySem.W.mg_of X G aSP, bSP⟩
  have FAll := fun_mk (st := sAll) lAll cAll kAll
  have bAll := FAll.binds (ps := ["machine"]) fun _ _ _ _ _ _ us hl => match us, hl with | [_], _ => rfl
  have DAll : Dn K mg "all_views" sAll ["machine"] fAll _ := ⟨FAll, PySem.W.mg_of X G aAll, bAll⟩
  have FIB := fun_mk (st := sIB) lIB cIB kIB
  have bIB := FIB.binds (ps := ["view", "at"]) fun _ _ _ _ _ _ us hl => match us, hl with | [_, _], _ => rfl
  have DIB : Dn K mg "is_bound_in" sIB ["view", "at"] fIB _ := ⟨FIB, PySem.W.mg_of X G aIB, bIB⟩
  have FSB := fun_mk (st := sSB) lSB cSB kSB
  have bSB := FSB.binds (ps := ["views", "trail", "at"]) fun _ _ _ _ _ _ us hl => match us, hl with | [_, _, _], _ => rfl
  have DSB : Dn K mg "is_seen_bound" sSB ["views", "trail", "at"] fSB _ := ⟨FSB, PySem.W.mg_of X G aSB, bSB⟩
  have FSF := fun_mk (st := sSF) lSF cSF kSF
  have bSF := FSF.binds (ps := ["views", "trail", "at"]) fun _ _ _ _ _ _ us hl => match us, hl with | [_, _, _], _ => rfl
  have DSF : Dn K mg "is_seen_free" sSF ["views", "trail", "at"] fSF _ := ⟨FSF, PySem.W.mg_of X G aSF, bSF⟩
  have FPC := fun_mk (st := sPC) lPC cPC kPC
  have bPC := FPC.binds (ps := ["views"]) fun _ _ _ _ _ _ us hl => match us, hl with | [_], _ => rfl
  have DPC : Dn K mg "places_to_come" sPC ["views"] fPC _ := ⟨FPC, PySem.W.mg_of X G aPC, bPC⟩
  have FMv := fun_mk (st := sMv) lMv cMv kMv
  have bMv := FMv.binds (ps := ["cell", "come"]) fun _ _ _ _ _ _ us hl => match us, hl with | [_, _], _ => rfl
  have DMv : Dn K mg "moved" sMv ["cell", "come"] fMv _ := ⟨FMv, PySem.W.mg_of X G aMv, bMv⟩
  have FMC := fun_mk (st := sMC) lMC cMC kMC
  have bMC := FMC.binds (ps := ["choice", "come", "staying"]) fun _ _ _ _ _ _ us hl => match us, hl with | [_, _, _], _ => rfl
  have DMC : Dn K mg "moved_choice" sMC ["choice", "come", "staying"] fMC _ := ⟨FMC, PySem.W.mg_of X G aMC, bMC⟩
  have FSH := fun_mk (st := sSH) lSH cSH kSH
  have bSH := FSH.binds (ps := ["heap", "unbound", "come"]) fun _ _ _ _ _ _ us hl => match us, hl with | [_, _, _], _ => rfl
  have DSH : Dn K mg "swept_heap" sSH ["heap", "unbound", "come"] fSH _ := ⟨FSH, PySem.W.mg_of X G aSH, bSH⟩
  have FSw := fun_mk (st := sSw) lSw cSw kSw
  have bSw := FSw.binds (ps := ["machine"]) fun _ _ _ _ _ _ us hl => match us, hl with | [_], _ => rfl
  have DSw : Dn K mg "sweep" sSw ["machine"] fSw _ := ⟨FSw, PySem.W.mg_of X G aSw, bSw⟩
  have FTP := fun_mk (st := sTP) lTP cTP kTP
  have bTP := FTP.binds (ps := ["heap", "cell", "most"]) fun _ _ _ _ _ _ us hl => match us, hl with | [_, _, _], _ => rfl
  have DTP : Dn K mg "term_parts" sTP ["heap", "cell", "most"] fTP _ := ⟨FTP, PySem.W.mg_of X G aTP, bTP⟩
  have FVN := fun_mk (st := sVN) lVN cVN kVN
  have bVN := FVN.binds (ps := ["parts"]) fun _ _ _ _ _ _ us hl => match us, hl with | [_], _ => rfl
  have DVN : Dn K mg "variable_numbers" sVN ["parts"] fVN _ := ⟨FVN, PySem.W.mg_of X G aVN, bVN⟩
  have FRow := fun_mk (st := sRow) lRow cRow kRow
  have bRow := FRow.binds (ps := ["heap", "parts"]) fun _ _ _ _ _ _ us hl => match us, hl with | [_, _], _ => rfl
  have DRow : Dn K mg "rows" sRow ["heap", "parts"] fRow _ := ⟨FRow, PySem.W.mg_of X G aRow, bRow⟩
  have FCh := fun_mk (st := sCh) lCh cCh kCh
  have bCh := FCh.binds (ps := ["machine"]) fun _ _ _ _ _ _ us hl => match us, hl with | [_], _ => rfl
  have DCh : Dn K mg "call_choice" sCh ["machine"] fCh _ := ⟨FCh, PySem.W.mg_of X G aCh, bCh⟩
  have FBack := fun_mk (st := sBack) lBack cBack kBack
  have bBack := FBack.binds (ps := ["machine"]) fun _ _ _ _ _ _ us hl => match us, hl with | [_], _ => rfl
  have DBack : Dn K mg "call_back" sBack ["machine"] fBack _ := ⟨FBack, PySem.W.mg_of X G aBack, bBack⟩
  have FCut := fun_mk (st := sCut) lCut cCut kCut
  have bCut := FCut.binds (ps := ["machine", "k"]) fun _ _ _ _ _ _ us hl => match us, hl with | [_, _], _ => rfl
  have DCut : Dn K mg "call_cut" sCut ["machine", "k"] fCut _ := ⟨FCut, PySem.W.mg_of X G aCut, bCut⟩
  have FVal := fun_mk (st := sVal) lVal cVal kVal
  have bVal := FVal.binds (ps := ["machine", "registers"]) fun _ _ _ _ _ _ us hl => match us, hl with | [_, _], _ => rfl
  have DVal : Dn K mg "call_value" sVal ["machine", "registers"] fVal _ := ⟨FVal, PySem.W.mg_of X G aVal, bVal⟩
  have FLk := fun_mk (st := sLk) lLk cLk kLk
  have bLk := FLk.binds (ps := ["machine"]) fun _ _ _ _ _ _ us hl => match us, hl with | [_], _ => rfl
  have DLk : Dn K mg "call_look" sLk ["machine"] fLk _ := ⟨FLk, PySem.W.mg_of X G aLk, bLk⟩
  have FCS := fun_mk (st := sCS) lCS cCS kCS
  have bCS := FCS.binds (ps := ["machine"]) fun _ _ _ _ _ _ us hl => match us, hl with | [_], _ => rfl
  have DCS : Dn K mg "call_sweep" sCS ["machine"] fCS _ := ⟨FCS, PySem.W.mg_of X G aCS, bCS⟩
  have FHp := fun_mk (st := sHp) lHp cHp kHp
  have bHp := FHp.binds (ps := ["machine"]) fun _ _ _ _ _ _ us hl => match us, hl with | [_], _ => rfl
  have DHp : Dn K mg "call_heap" sHp ["machine"] fHp _ := ⟨FHp, PySem.W.mg_of X G aHp, bHp⟩
  have FSC := fun_mk (st := sSC) lSC cSC kSC
  have bSC := FSC.binds (ps := ["calls"]) fun _ _ _ _ _ _ us hl => match us, hl with | [_], _ => rfl
  have DSC : Dn K mg "split_calls" sSC ["calls"] fSC _ := ⟨FSC, PySem.W.mg_of X G aSC, bSC⟩
  have FAw := fun_mk (st := sAw) lAw cAw kAw
  have bAw := FAw.binds (ps := ["machine", "number", "numbers", "row"]) fun _ _ _ _ _ _ us hl => match us, hl with | [_, _, _, _], _ => rfl
  have DAw : Dn K mg "answer" sAw ["machine", "number", "numbers", "row"] fAw _ := ⟨FAw, PySem.W.mg_of X G aAw, bAw⟩
  have FAns := fun_mk (st := sAns) lAns cAns kAns
  have bAns := FAns.binds (ps := ["calls"]) fun _ _ _ _ _ _ us hl => match us, hl with | [_], _ => rfl
  have DAns : Dn K mg "answers" sAns ["calls"] _ _ := ⟨FAns, PySem.W.mg_of X G aAns, bAns⟩
  refine ⟨PySem.W.fnOf "answers" "answers" (defArgs sAns) (defBody sAns) (defScope sAns) .none kVAns dcAns pmAns anAns cdAns ctAns, fun s us hu => match us, hu with | [_], _ => .of_eq rfl, fun base _ _ => ?_⟩
  have GLook : FnOk P w K mg base CX0 _ _ _ _ _ := ok_look FLook T
  have GCount : FnOk P w K mg base CX0 _ _ _ _ _ := ok_count DCount T
  have GCells : FnOk P w K mg base CX0 _ _ _ _ _ := ok_cells DCells DCount T
  have GLed : FnOk P w K mg base CX0 _ _ _ _ _ := ok_led DLed DCount T list_ range_
  have GStands : FnOk P w K mg base CX0 _ _ _ _ _ := ok_stands DStands DLook DCells DCount T len_
  have GBind : FnOk P w K mg base CX0 _ _ _ _ _ := ok_bind FBind L len_
  have GAV : FnOk P w K mg base CX0 _ _ _ _ _ := ok_av FAV L T len_
  have GAS : FnOk P w K mg base CX0 _ _ _ _ _ := ok_as FAS L T len_
  have GInit : FnOk P w K mg base CX0 _ _ _ _ _ := ok_init FInit L qREGISTER_COUNT
  have GRef : FnOk P w K mg base CX0 _ _ _ _ _ := ok_ref DRef L T2 T3 any_
  have MCI : Mk K CC fCI := ⟨mkCC, aCI, iCI, kcCC⟩
  have MInit : Mk K C fInit := ⟨mkC, aInit, iInit, kcC⟩
  have MVI : Mk K CV fVI := ⟨mkCV, aVI, iVI, kcCV⟩
  have GCI : FnOk P w K mg base CX0 _ _ _ _ _ := ok_ci FCI L
  have GCN : FnOk P w K mg base CX0 _ _ _ _ _ := ok_cn FCN L len_ list_ gCh MCI GCI bCI
  have GHB : FnOk P w K mg base CX0 _ _ _ _ _ := ok_hb FHB L T list_
  have GBk : FnOk P w K mg base CX0 _ _ _ _ _ := ok_bk FBk L list_ GHB bHB ⟨aHB, iHB, kHB⟩
  have GTB : FnOk P w K mg base CX0 _ _ _ _ _ := ok_tb DTB T
  have GBT : FnOk P w K mg base CX0 _ _ _ _ _ := ok_bt (fL := fLook) (fA := fLook) (fC := fLook) (fdL := default) (fdA := default) (fdC := default) DBT GStands DStands GBind bBind ⟨aBind, iBind, kBind⟩ L
  have GEH : FnOk P w K mg base CX0 _ _ _ _ _ := ok_eh DEH T
  have GAP : FnOk P w K mg base CX0 _ _ _ _ _ := ok_ap DAP DCount T range_
  have GTry : FnOk P w K mg base CX0 _ _ _ _ _ := ok_try DTry L len_ GLook DLook GTB DTB GBT DBT GEH DEH GAP DAP
  have GMS : FnOk P w K mg base CX0 _ _ _ _ _ := ok_ms DMS L list_ GTry DTry
  have GTP : FnOk P w K mg base CX0 _ _ _ _ _ := ok_tp DTP T len_ GLook DLook GCells DCells
  have GVN : FnOk P w K mg base CX0 _ _ _ _ _ := ok_vn DVN T len_
  have GRow : FnOk P w K mg base CX0 _ _ _ _ _ := ok_row DRow T GVN DVN GCount DCount
  have GSP : FnOk P w K mg base CX0 _ _ _ _ _ := ok_sp DSP len_ GLed DLed
  have GVI : FnOk P w K mg base CX0 _ _ _ _ _ := ok_vi FVI LV
  have GAll : FnOk P w K mg base CX0 _ _ _ _ _ := ok_all DAll L LV GCN bCN ⟨aCN, iCN, kCN⟩ GHB bHB ⟨aHB, iHB, kHB⟩ GSP DSP gVw MVI GVI bVI
  have GIB : FnOk P w K mg base CX0 _ _ _ _ _ := ok_ib DIB LV
  have GSB : FnOk P w K mg base CX0 _ _ _ _ _ := ok_sb DSB LV any_ GIB DIB
  have GSF : FnOk P w K mg base CX0 _ _ _ _ _ := ok_sf DSF LV any_ GIB DIB
  have GPC : FnOk P w K mg base CX0 _ _ _ _ _ := ok_pc DPC LV len_ sorted_
  have GMv : FnOk P w K mg base CX0 _ _ _ _ _ := ok_mv DMv T
  have GMC : FnOk P w K mg base CX0 _ _ _ _ _ := ok_mc DMC L len_ GMv DMv gCh MCI GCI bCI
  have GSH : FnOk P w K mg base CX0 _ _ _ _ _ := ok_sh DSH T list_ GMv DMv
  have GSw : FnOk P w K mg base CX0 _ _ _ _ _ := ok_sw DSw L len_ range_ GAll DAll GPC DPC GSB DSB GSF DSF GSH DSH GMv DMv GMC DMC
  have GSC : FnOk P w K mg base CX0 _ _ _ _ _ := ok_sc DSC T5 len_
  have GAw : FnOk P w K mg base CX0 8 _ _ _ (spAw C CC) := ok_aw (f := fun n => match n with
    | 0 => fNew
    | 1 => fCon
    | 2 => fStr
    | 3 => fCopy
    | 4 => fClear
    | 5 => fSame
    | 6 => fArg
    | 7 => fCh
    | 8 => fBack
    | 9 => fCut
    | 10 => fVal
    | 11 => fLk
    | 12 => fCS
    | _ => fHp) (fd := fun n => match n with
    | 0 => PySem.W.fnOf "call_new" "call_new" (defArgs sNew) (defBody sNew) (defScope sNew) .none kVNew dcNew pmNew anNew cdNew ctNew
    | 1 => PySem.W.fnOf "call_con" "call_con" (defArgs sCon) (defBody sCon) (defScope sCon) .none kVCon dcCon pmCon anCon cdCon ctCon
    | 2 => PySem.W.fnOf "call_str" "call_str" (defArgs sStr) (defBody sStr) (defScope sStr) .none kVStr dcStr pmStr anStr cdStr ctStr
    | 3 => PySem.W.fnOf "call_copy" "call_copy" (defArgs sCopy) (defBody sCopy) (defScope sCopy) .none kVCopy dcCopy pmCopy anCopy cdCopy ctCopy
    | 4 => PySem.W.fnOf "call_clear" "call_clear" (defArgs sClear) (defBody sClear) (defScope sClear) .none kVClear dcClear pmClear anClear cdClear ctClear
    | 5 => PySem.W.fnOf "call_same" "call_same" (defArgs sSame) (defBody sSame) (defScope sSame) .none kVSame dcSame pmSame anSame cdSame ctSame
    | 6 => PySem.W.fnOf "call_arg" "call_arg" (defArgs sArg) (defBody sArg) (defScope sArg) .none kVArg dcArg pmArg anArg cdArg ctArg
    | 7 => PySem.W.fnOf "call_choice" "call_choice" (defArgs sCh) (defBody sCh) (defScope sCh) .none kVCh dcCh pmCh anCh cdCh ctCh
    | 8 => PySem.W.fnOf "call_back" "call_back" (defArgs sBack) (defBody sBack) (defScope sBack) .none kVBack dcBack pmBack anBack cdBack ctBack
    | 9 => PySem.W.fnOf "call_cut" "call_cut" (defArgs sCut) (defBody sCut) (defScope sCut) .none kVCut dcCut pmCut anCut cdCut ctCut
    | 10 => PySem.W.fnOf "call_value" "call_value" (defArgs sVal) (defBody sVal) (defScope sVal) .none kVVal dcVal pmVal anVal cdVal ctVal
    | 11 => PySem.W.fnOf "call_look" "call_look" (defArgs sLk) (defBody sLk) (defScope sLk) .none kVLk dcLk pmLk anLk cdLk ctLk
    | 12 => PySem.W.fnOf "call_sweep" "call_sweep" (defArgs sCS) (defBody sCS) (defScope sCS) .none kVCS dcCS pmCS anCS cdCS ctCS
    | _ => PySem.W.fnOf "call_heap" "call_heap" (defArgs sHp) (defBody sHp) (defScope sHp) .none kVHp dcHp pmHp anHp cdHp ctHp) DAw T6
    ⟨ok_new DNew L T2 GRef DRef GAV bAV ⟨aAV, iAV, kAV⟩, DNew,
    ok_con DCon L T T2 GRef DRef, DCon,
    ok_str DStr L T2 len_ GRef DRef GAS bAS ⟨aAS, iAS, kAS⟩, DStr,
    ok_copy DCopy L T2 GRef DRef, DCopy,
    ok_clear DClear L T2 GRef DRef, DClear,
    ok_same DSame L T2 GRef DRef GMS DMS, DSame,
    ok_arg DArg L T T2 GRef DRef GLook DLook GCount DCount, DArg,
    ok_ch DCh L T4 len_ GCN bCN ⟨aCN, iCN, kCN⟩, DCh,
    ok_back DBack L len_ GBk bBk ⟨aBk, iBk, kBk⟩, DBack,
    ok_cut DCut L len_, DCut,
    ok_val DVal L T2 T4 len_ GRef DRef GTP DTP GRow DRow, DVal,
    ok_lk DLk L len_, DLk,
    ok_cs DCS L len_ GSw DSw, DCS,
    ok_hp DHp L len_, DHp⟩
  exact ok_ans DAns len_ gM MInit GInit bInit GSC DSC GAw DAw
end Sw
open PySem PySem.W PyProof.Rows
set_option maxRecDepth 100000 in
set_option maxHeartbeats 0 in
theorem PySem.Challenge.cw_sweptheapdesk_s01_answers_holds : PySem.Challenge.rw_sweptheapdesk_s01_answers.Holds := by
  w_on; k_headS; (case hw => exact ⟨[.list [.int 7]], by decide +kernel, by decide +kernel⟩)
  k_fillS
  refine L2.walk_specK (r := PySem.Challenge.rw_sweptheapdesk_s01_answers) (k := 9) (CX := L2.CX0) (ps := ["calls"]) (sp := Sw.spAns) (by decide +kernel) rfl rfl ⟨rfl, by decide, by decide⟩ (fun w h Y => PySem.W.kIn_of Y) ?F ?S (fun _ _ _ _ z => z)
  case F =>
    intro w mg fa h Y KX G hmg
    refine' Sw.all_mk KX G hmg ?gC ?pgC ?hdC ?poC ?saC ?mkC ?kcC ?nC_heap ?nC_registers ?nC_trail ?nC_choices ?gCC ?pgCC ?hdCC ?poCC ?saCC ?mkCC ?kcCC ?nCC_heap_length ?nCC_registers ?nCC_trail_length ?gCV ?pgCV ?hdCV ?poCV ?saCV ?mkCV ?kcCV ?nCV_seen ?nCV_trail_length ?aCI ?iCI ?lCI ?cCI ?kCI ?aInit ?iInit ?lInit ?cInit ?kInit ?aAV ?iAV ?lAV ?cAV ?kAV ?aAS ?iAS ?lAS ?cAS ?kAS ?aBind ?iBind ?lBind ?cBind ?kBind ?aCN ?iCN ?lCN ?cCN ?kCN ?aHB ?iHB ?lHB ?cHB ?kHB ?aBk ?iBk ?lBk ?cBk ?kBk ?aVI ?iVI ?lVI ?cVI ?kVI ?aLook ?lLook ?cLook ?kLook ?aCount ?lCount ?cCount ?kCount ?aCells ?lCells ?cCells ?kCells ?aLed ?lLed ?cLed ?kLed ?aStands ?lStands ?cStands ?kStands ?aRef ?lRef ?cRef ?kRef ?aTB ?lTB ?cTB ?kTB ?aBT ?lBT ?cBT ?kBT ?aEH ?lEH ?cEH ?kEH ?aAP ?lAP ?cAP ?kAP ?aTry ?lTry ?cTry ?kTry ?aMS ?lMS ?cMS ?kMS ?aNew ?lNew ?cNew ?kNew ?aCon ?lCon ?cCon ?kCon ?aStr ?lStr ?cStr ?kStr ?aCopy ?lCopy ?cCopy ?kCopy ?aClear ?lClear ?cClear ?kClear ?aSame ?lSame ?cSame ?kSame ?aArg ?lArg ?cArg ?kArg ?aSP ?lSP ?cSP ?kSP ?aAll ?lAll ?cAll ?kAll ?aIB ?lIB ?cIB ?kIB ?aSB ?lSB ?cSB ?kSB ?aSF ?lSF ?cSF ?kSF ?aPC ?lPC ?cPC ?kPC ?aMv ?lMv ?cMv ?kMv ?aMC ?lMC ?cMC ?kMC ?aSH ?lSH ?cSH ?kSH ?aSw ?lSw ?cSw ?kSw ?aTP ?lTP ?cTP ?kTP ?aVN ?lVN ?cVN ?kVN ?aRow ?lRow ?cRow ?kRow ?aCh ?lCh ?cCh ?kCh ?aBack ?lBack ?cBack ?kBack ?aCut ?lCut ?cCut ?kCut ?aVal ?lVal ?cVal ?kVal ?aLk ?lLk ?cLk ?kLk ?aCS ?lCS ?cCS ?kCS ?aHp ?lHp ?cHp ?kHp ?aSC ?lSC ?cSC ?kSC ?aAw ?lAw ?cAw ?kAw ?aAns ?lAns ?cAns ?kAns ?mPLACE ?mCONSTANT ?mSTRUCTURE ?mREGISTER_COUNT ?mNOT_REFUSED ?mNO_SUCH_REGISTER ?mOUT_OF_BOUNDS ?mHAS_NOTHING ?mTOO_LARGE ?mTOO_MANY_CHOICES ?mHIGHEST_SYMBOL ?mMOST_ARGUMENTS ?mMOST_CHOICES ?mMOST_TERMS ?mMOST_SIZE ?mNEW ?mCON ?mSTR ?mCOPY ?mCLEAR ?mSAME ?mARG ?mCHOICE ?mBACK ?mCUT ?mVALUE ?mLOOK ?mSWEEP ?zlen ?zlist ?zrange ?zany ?zsorted ?gW ?lW ?gR ?lR
    (case gC => k_is); (case pgC => k_is); (case hdC => k_is); (case poC => k_is); (case saC => k_is); (case mkC => k_is)
    (case kcC => k_is); (case nC_heap => k_is); (case nC_registers => k_is); (case nC_trail => k_is); (case nC_choices => k_is); (case gCC => k_is)
    (case pgCC => k_is); (case hdCC => k_is); (case poCC => k_is); (case saCC => k_is); (case mkCC => k_is); (case kcCC => k_is)
    (case nCC_heap_length => k_is); (case nCC_registers => k_is); (case nCC_trail_length => k_is); (case gCV => k_is); (case pgCV => k_is); (case hdCV => k_is)
    (case poCV => k_is); (case saCV => k_is); (case mkCV => k_is); (case kcCV => k_is); (case nCV_seen => k_is); (case nCV_trail_length => k_is)
    (case aCI => k_is); (case iCI => k_is); (case lCI => k_is); (case cCI => k_is); (case kCI => k_is); (case aInit => k_is)
    (case iInit => k_is); (case lInit => k_is); (case cInit => k_is); (case kInit => k_is); (case aAV => k_is); (case iAV => k_is)
    (case lAV => k_is); (case cAV => k_is); (case kAV => k_is); (case aAS => k_is); (case iAS => k_is); (case lAS => k_is)
    (case cAS => k_is); (case kAS => k_is); (case aBind => k_is); (case iBind => k_is); (case lBind => k_is); (case cBind => k_is)
    (case kBind => k_is); (case aCN => k_is); (case iCN => k_is); (case lCN => k_is); (case cCN => k_is); (case kCN => k_is)
    (case aHB => k_is); (case iHB => k_is); (case lHB => k_is); (case cHB => k_is); (case kHB => k_is); (case aBk => k_is)
    (case iBk => k_is); (case lBk => k_is); (case cBk => k_is); (case kBk => k_is); (case aVI => k_is); (case iVI => k_is)
    (case lVI => k_is); (case cVI => k_is); (case kVI => k_is); (case aLook => k_is); (case lLook => k_is); (case cLook => k_is)
    (case kLook => k_is); (case aCount => k_is); (case lCount => k_is); (case cCount => k_is); (case kCount => k_is); (case aCells => k_is)
    (case lCells => k_is); (case cCells => k_is); (case kCells => k_is); (case aLed => k_is); (case lLed => k_is); (case cLed => k_is)
    (case kLed => k_is); (case aStands => k_is); (case lStands => k_is); (case cStands => k_is); (case kStands => k_is); (case aRef => k_is)
    (case lRef => k_is); (case cRef => k_is); (case kRef => k_is); (case aTB => k_is); (case lTB => k_is); (case cTB => k_is)
    (case kTB => k_is); (case aBT => k_is); (case lBT => k_is); (case cBT => k_is); (case kBT => k_is); (case aEH => k_is)
    (case lEH => k_is); (case cEH => k_is); (case kEH => k_is); (case aAP => k_is); (case lAP => k_is); (case cAP => k_is)
    (case kAP => k_is); (case aTry => k_is); (case lTry => k_is); (case cTry => k_is); (case kTry => k_is); (case aMS => k_is)
    (case lMS => k_is); (case cMS => k_is); (case kMS => k_is); (case aNew => k_is); (case lNew => k_is); (case cNew => k_is)
    (case kNew => k_is); (case aCon => k_is); (case lCon => k_is); (case cCon => k_is); (case kCon => k_is); (case aStr => k_is)
    (case lStr => k_is); (case cStr => k_is); (case kStr => k_is); (case aCopy => k_is); (case lCopy => k_is); (case cCopy => k_is)
    (case kCopy => k_is); (case aClear => k_is); (case lClear => k_is); (case cClear => k_is); (case kClear => k_is); (case aSame => k_is)
    (case lSame => k_is); (case cSame => k_is); (case kSame => k_is); (case aArg => k_is); (case lArg => k_is); (case cArg => k_is)
    (case kArg => k_is); (case aSP => k_is); (case lSP => k_is); (case cSP => k_is); (case kSP => k_is); (case aAll => k_is)
    (case lAll => k_is); (case cAll => k_is); (case kAll => k_is); (case aIB => k_is); (case lIB => k_is); (case cIB => k_is)
    (case kIB => k_is); (case aSB => k_is); (case lSB => k_is); (case cSB => k_is); (case kSB => k_is); (case aSF => k_is)
    (case lSF => k_is); (case cSF => k_is); (case kSF => k_is); (case aPC => k_is); (case lPC => k_is); (case cPC => k_is)
    (case kPC => k_is); (case aMv => k_is); (case lMv => k_is); (case cMv => k_is); (case kMv => k_is); (case aMC => k_is)
    (case lMC => k_is); (case cMC => k_is); (case kMC => k_is); (case aSH => k_is); (case lSH => k_is); (case cSH => k_is)
    (case kSH => k_is); (case aSw => k_is); (case lSw => k_is); (case cSw => k_is); (case kSw => k_is); (case aTP => k_is)
    (case lTP => k_is); (case cTP => k_is); (case kTP => k_is); (case aVN => k_is); (case lVN => k_is); (case cVN => k_is)
    (case kVN => k_is); (case aRow => k_is); (case lRow => k_is); (case cRow => k_is); (case kRow => k_is); (case aCh => k_is)
    (case lCh => k_is); (case cCh => k_is); (case kCh => k_is); (case aBack => k_is); (case lBack => k_is); (case cBack => k_is)
    (case kBack => k_is); (case aCut => k_is); (case lCut => k_is); (case cCut => k_is); (case kCut => k_is); (case aVal => k_is)
    (case lVal => k_is); (case cVal => k_is); (case kVal => k_is); (case aLk => k_is); (case lLk => k_is); (case cLk => k_is)
    (case kLk => k_is); (case aCS => k_is); (case lCS => k_is); (case cCS => k_is); (case kCS => k_is); (case aHp => k_is)
    (case lHp => k_is); (case cHp => k_is); (case kHp => k_is); (case aSC => k_is); (case lSC => k_is); (case cSC => k_is)
    (case kSC => k_is); (case aAw => k_is); (case lAw => k_is); (case cAw => k_is); (case kAw => k_is); (case aAns => k_is)
    (case lAns => k_is); (case cAns => k_is); (case kAns => k_is); (case mPLACE => k_is); (case mCONSTANT => k_is); (case mSTRUCTURE => k_is)
    (case mREGISTER_COUNT => k_is); (case mNOT_REFUSED => k_is); (case mNO_SUCH_REGISTER => k_is); (case mOUT_OF_BOUNDS => k_is); (case mHAS_NOTHING => k_is); (case mTOO_LARGE => k_is)
    (case mTOO_MANY_CHOICES => k_is); (case mHIGHEST_SYMBOL => k_is); (case mMOST_ARGUMENTS => k_is); (case mMOST_CHOICES => k_is); (case mMOST_TERMS => k_is); (case mMOST_SIZE => k_is)
    (case mNEW => k_is); (case mCON => k_is); (case mSTR => k_is); (case mCOPY => k_is); (case mCLEAR => k_is); (case mSAME => k_is)
    (case mARG => k_is); (case mCHOICE => k_is); (case mBACK => k_is); (case mCUT => k_is); (case mVALUE => k_is); (case mLOOK => k_is)
    (case mSWEEP => k_is); (case zlen => k_is); (case zlist => k_is); (case zrange => k_is); (case zany => k_is); (case zsorted => k_is)
    (case gW => k_is); (case lW => k_is); (case gR => k_is); (case lR => k_is)
  case S =>
    intro K H xs a hO hwi hask hx
    cases hx with
    | cons h1 h2 =>
      cases h2
      cases h1 with
      | lst hs ha =>
        have e := L2.ints_dw a.1 _ ha
        subst e
        obtain ⟨raw, due⟩ := Sw.due_of hask
        exact ⟨_, a.1, raw, rfl, hs, due, fun H' p hp => .lst (L2.SqL.of hp) (L2.dw_ints _)⟩
#print axioms PySem.Challenge.cw_sweptheapdesk_s01_answers_holds
